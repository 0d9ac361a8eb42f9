import PyProof.Rows.All
import Wide.All
import OpenK.AllK
import Wide.FinOn
import HandS.ForMost
import HandS.IsInst
import HandS.Steps
import HandS.TupAny
import HandS.Codes
import KE.LtData
import KE.SortData
import KE.SortLaws
import PyProof.StrOps
import KE.SortCalls
import PySem.Challenge.RW_elsewhere_k03_parts_of_formulas
set_option Elab.async false
set_option linter.all false
set_option maxRecDepth 100000
namespace E
open PySem PySem.Spec PyProof.Rows L2
/-! ### heaps: what a step keeps -/
/-- tuples stay -/
def TS (H H' : Hp) : Prop := (∀ b xs, Rd H b (.tup xs) → Rd H' b (.tup xs)) ∧ ∀ b xs, H b = some (.tup xs) → H' b = some (.tup xs)
theorem TS.refl (H : Hp) : TS H H := ⟨fun _ _ h => h, fun _ _ h => h⟩
/-- one object, no tuple, is changed -/
theorem TS.but {H H' : Hp} {d : Addr} {u : HO} (hd : H d = some u) (h1 : ∀ xs, u ≠ .tup xs) (h2 : ∀ o xs, u ≠ .frz o (.tup xs)) (k : ∀ c o, H c = some o → c ≠ d → H' c = some o) : TS H H' := by
  have n1 : ∀ c xs, H c = some (.tup xs) → c ≠ d := fun c xs r e => by
    rw [e, hd] at r
    exact h1 xs (Option.some.inj r)
  have n2 : ∀ c o xs, H c = some (.frz o (.tup xs)) → c ≠ d := fun c o xs r e => by
    rw [e, hd] at r
    exact h2 o xs (Option.some.inj r)
  refine ⟨fun c xs r => ?_, fun c xs r => k _ _ r (n1 _ _ r)⟩
  rcases r with r | ⟨o, r⟩
  · exact .inl (k _ _ r (n1 _ _ r))
  · exact .inr ⟨o, k _ _ r (n2 _ _ _ r)⟩
theorem TS.trans {H H1 H2 : Hp} (a : TS H H1) (b : TS H1 H2) : TS H H2 := ⟨fun c xs h => b.1 c xs (a.1 c xs h), fun c xs h => b.2 c xs (a.2 c xs h)⟩
/-- all but the object at p stays -/
def Kp (p : Addr) (H H' : Hp) : Prop := ∀ b o, H b = some o → b ≠ p → H' b = some o
theorem Kp.refl (p : Addr) (H : Hp) : Kp p H H := fun _ _ h _ => h
theorem Kp.trans {p : Addr} {H H1 H2 : Hp} (a : Kp p H H1) (b : Kp p H1 H2) : Kp p H H2 := fun c o h n => b c o (a c o h n) n
theorem Kp.upd {p : Addr} {H : Hp} {o : HO} : Kp p H (upd H p o) := fun b u h n => by rw [upd_ne n]; exact h
theorem Kp.new {p q : Addr} {H : Hp} {o : HO} (h : H q = none) : Kp p H (L2.upd H q o) := fun b u e _ => by rw [upd_ne (ne_of_none e h)]; exact e
theorem same_new {q : Addr} {H : Hp} {o : HO} (h : H q = none) : Same H (upd H q o) := fun b u e => by rw [upd_ne (ne_of_none e h)]; exact e
theorem Same.kp {p : Addr} {H H' : Hp} (s : Same H H') : Kp p H H' := fun b o h _ => s b o h
theorem Same.ts {H H' : Hp} (s : Same H H') : TS H H' := ⟨fun b xs h => by
  rcases h with h | ⟨o, h⟩
  · exact .inl (s _ _ h)
  · exact .inr ⟨o, s _ _ h⟩, fun b xs h => s _ _ h⟩
theorem Kp.rd {p a : Addr} {H H' : Hp} {u : HO} (k : Kp p H H') (h : Rd H a u) (n : a ≠ p) : Rd H' a u := by
  rcases h with h | ⟨o, h⟩
  · exact .inl (k _ _ h n)
  · exact .inr ⟨o, k _ _ h n⟩
theorem Kp.sqL {K : PySem.W.Frag} {p a : Addr} {H H' : Hp} {xs : List V} (k : Kp p H H') (h : SqL K H a xs) (n : a ≠ p) : SqL K H' a xs := by
  rcases h with h | h
  · exact .inl (k.rd h n)
  · exact .inr h
/-- p holds a list: tuples stay -/
theorem Kp.ts {p : Addr} {H H' : Hp} {xs : List V} (k : Kp p H H') (h : H p = some (.lst xs)) : TS H H' := TS.but h (fun _ e => nomatch e) (fun _ _ e => nomatch e) k
/-- what is new for H' was new for H -/
theorem Kp.free {p q : Addr} {H H' : Hp} {o : HO} (k : Kp p H H') (hp : H p = some o) (hp' : ∃ o, H' p = some o) (h : H' q = none) : H q = none := by
  cases e : H q with
  | none => rfl
  | some u =>
    have n : q ≠ p := fun z => by
      subst z
      obtain ⟨o', h'⟩ := hp'
      rw [h] at h'; cases h'
    rw [k q u e n] at h; cases h
theorem TS.sqT {K : PySem.W.Frag} {a : Addr} {H H' : Hp} {xs : List V} (k : TS H H') (h : SqT K H a xs) : SqT K H' a xs := by
  rcases h with h | h
  · exact .inl (k.1 _ _ h)
  · exact .inr h
/-! ### data without lists -/
mutual
inductive Im (K : PySem.W.Frag) (H : Hp) : V → PyData → Prop
  | non : Im K H .non .none
  | bl (b : Bool) : Im K H (.bl b) (.bool b)
  | int (i : Int) : Im K H (.int i) (.int i)
  | str (x : Str) : Im K H (.str x) (.str x)
  | tup {a : Addr} {xs : List V} {ds : List PyData} (h : SqT K H a xs) (l : ImAll K H xs ds) (tr : ∀ y : Str, ds = [.str "var", .str y] → H a = some (.tup xs) := by first | (intro y e; cases e; done) | (intro y e; exact absurd (PyData.str.inj (List.cons.inj e).1) (by decide +kernel))) : Im K H (.ref a) (.tuple ds)
inductive ImAll (K : PySem.W.Frag) (H : Hp) : List V → List PyData → Prop
  | nil : ImAll K H [] []
  | cons {v : V} {vs : List V} {d : PyData} {ds : List PyData} : Im K H v d → ImAll K H vs ds → ImAll K H (v :: vs) (d :: ds)
end
section
variable {K : PySem.W.Frag} {H H' : Hp}
mutual
theorem Im.mono (k : TS H H') : ∀ {v : V} {d : PyData}, Im K H v d → Im K H' v d
  | _, _, .non => .non
  | _, _, .bl b => .bl b
  | _, _, .int i => .int i
  | _, _, .str x => .str x
  | _, _, .tup h a t => .tup (k.sqT h) (ImAll.mono k a) fun y e => k.2 _ _ (t y e)
theorem ImAll.mono (k : TS H H') : ∀ {vs : List V} {ds : List PyData}, ImAll K H vs ds → ImAll K H' vs ds
  | _, _, .nil => .nil
  | _, _, .cons h t => .cons (Im.mono k h) (ImAll.mono k t)
end
mutual
theorem Im.dp : ∀ {v : V} {d : PyData}, Im K H v d → Dp K H v d
  | _, _, .non => .non
  | _, _, .bl b => .bl b
  | _, _, .int i => .int i
  | _, _, .str x => .str x
  | _, _, .tup h a _ => .tup h (ImAll.dp a)
theorem ImAll.dp : ∀ {vs : List V} {ds : List PyData}, ImAll K H vs ds → DpAll K H vs ds
  | _, _, .nil => .nil
  | _, _, .cons h t => .cons (Im.dp h) (ImAll.dp t)
end
theorem ImAll.get : ∀ {vs : List V} {ds : List PyData} {i : Nat} {v : V}, ImAll K H vs ds → vs[i]? = some v → ∃ d, ds[i]? = some d ∧ Im K H v d
  | _, _, _, _, .nil, e => by simp at e
  | _, _, 0, _, .cons h _, e => by simp at e; subst e; exact ⟨_, rfl, h⟩
  | _, _, i + 1, v, .cons _ t, e => by
    obtain ⟨d, h1, h2⟩ := ImAll.get (i := i) (v := v) t (by simpa using e)
    exact ⟨d, by simpa using h1, h2⟩
theorem ImAll.length : ∀ {vs : List V} {ds : List PyData}, ImAll K H vs ds → vs.length = ds.length
  | _, _, .nil => rfl
  | _, _, .cons _ t => by rw [List.length_cons, List.length_cons, ImAll.length t]
theorem ImAll.snoc : ∀ {vs : List V} {ds : List PyData} {v : V} {d : PyData}, ImAll K H vs ds → Im K H v d → ImAll K H (vs ++ [v]) (ds ++ [d])
  | _, _, _, _, .nil, h => .cons h .nil
  | _, _, _, _, .cons h t, h' => .cons h (ImAll.snoc t h')
theorem dpAll_get : ∀ {vs : List V} {ds : List PyData} {i : Nat} {d : PyData}, DpAll K H vs ds → ds[i]? = some d → ∃ v, vs[i]? = some v ∧ Dp K H v d
  | _, _, _, _, .nil, e => by simp at e
  | _, _, 0, _, .cons h _, e => by simp at e; subst e; exact ⟨_, rfl, h⟩
  | _, _, i + 1, d, .cons _ t, e => by
    obtain ⟨v, h1, h2⟩ := dpAll_get (i := i) (d := d) t (by simpa using e)
    exact ⟨v, by simpa using h1, h2⟩
theorem dpAll_len : ∀ {vs : List V} {ds : List PyData}, DpAll K H vs ds → vs.length = ds.length
  | _, _, .nil => rfl
  | _, _, .cons _ t => by rw [List.length_cons, List.length_cons, dpAll_len t]
/-! ### types, for isinstance -/
theorem ty_list {a : Addr} {xs : List V} (h : SqL K H a xs) : TyX K H (.ref a) (.type "list") := by
  rcases h with (h | ⟨o, h⟩) | ⟨o, its, n, h1, h2, _⟩
  · exact .base (.lst h)
  · exact .base (.frz h)
  · exact .kList h1 h2
theorem ty_tup {a : Addr} {xs : List V} (h : SqT K H a xs) : TyX K H (.ref a) (.type "tuple") := by
  rcases h with (h | ⟨o, h⟩) | ⟨o, its, n, h1, h2, _⟩
  · exact .base (.tup h)
  · exact .fTuple h
  · exact .kTuple h1 h2
def tyD : PyData → String
  | .none => "NoneType"
  | .bool _ => "bool"
  | .int _ => "int"
  | .str _ => "str"
  | .list _ => "list"
  | .tuple _ => "tuple"
  | .dict _ => "dict"
theorem Dp.ty {v : V} {d : PyData} (h : Dp K H v d) : TyX K H v (.type (tyD d)) := by
  cases h with
  | non => exact .base .non
  | bl b => exact .base (.bl b)
  | int i => exact .base (.int i)
  | str x => exact .base (.str x)
  | lst h _ => exact ty_list h
  | tup h _ => exact ty_tup h
end
/-! ### the law's pool of numbers -/
structure Pl (K : PySem.W.Frag) (H : Hp) (p l : Addr) : Prop where
  sq : ∃ cs : List Int, SqL K H l (cs.map V.int)
  ne : l ≠ p
  at5 : ∃ i r c s : Int, H p = some (.lst [.ref l, .int i, .int r, .int c, .int s]) ∧ 0 ≤ i
section
variable {K : PySem.W.Frag} {H H' H0 H1 H2 : Hp} {p q l : Addr}
theorem Pl.lst (h : Pl K H p l) : ∃ xs, H p = some (.lst xs) := by
  obtain ⟨i, r, c, s, h, _⟩ := h.at5
  exact ⟨_, h⟩
theorem Pl.same (k : Same H H') (h : Pl K H p l) : Pl K H' p l := by
  obtain ⟨i, r, c, s, h1, h2⟩ := h.at5
  obtain ⟨cs, hs⟩ := h.sq
  exact ⟨⟨cs, k.seq hs⟩, h.ne, i, r, c, s, k _ _ h1, h2⟩
/-- the pool's own turn -/
theorem Pl.turn {i r c s : Int} (h : Pl K H p l) (h0 : 0 ≤ i) : Pl K (upd H p (.lst [.ref l, .int i, .int r, .int c, .int s])) p l := by
  obtain ⟨cs, hs⟩ := h.sq
  exact ⟨⟨cs, Kp.upd.sqL hs h.ne⟩, h.ne, i, r, c, s, upd_same, h0⟩
theorem Pl.ts (h : Pl K H p l) (k : Kp p H H') : TS H H' := by
  obtain ⟨xs, e⟩ := h.lst
  exact k.ts e
/-- another list, younger than the pool, is changed -/
theorem Pl.other (h0 : Pl K H0 p l) (hq : H0 q = none) (h1 : Pl K H1 p l) (k : Kp q H1 H2) : Pl K H2 p l := by
  obtain ⟨i, r, c, s, e1, e2⟩ := h1.at5
  obtain ⟨cs, hs⟩ := h1.sq
  obtain ⟨xs, hl⟩ := h0.lst
  have np : p ≠ q := ne_of_none hl hq
  refine ⟨?_, h1.ne, i, r, c, s, k _ _ e1 np, e2⟩
  rcases hs with hs | hs
  · obtain ⟨cs0, h0s⟩ := h0.sq
    rcases h0s with h0s | h0s
    · have nl : l ≠ q := by
        rcases h0s with z | ⟨o, z⟩
        · exact ne_of_none z hq
        · exact ne_of_none z hq
      exact ⟨cs, .inl (k.rd hs nl)⟩
    · exact ⟨cs0, .inr h0s⟩
  · exact ⟨cs, .inr hs⟩
/-- p's change and that of a younger q together are p's change -/
theorem Kp.under (hq : H0 q = none) (k1 : Kp p H0 H1) (k2 : Kp q H1 H2) : Kp p H0 H2 := fun b o e n => k2 b o (k1 b o e n) (ne_of_none e hq)
end
theorem kB {K : PySem.W.Frag} {a b : String} (r : Bool) (h : L2.kitB a b = some r) : PySem.W.kitOne K (.type a) (.type b) = some r := kit_ty h
/-- a promise that nothing can ask for -/
theorem fn_none {P : Program} {w : World} {K : PySem.W.Frag} {mg : Str → Option Value} {base : Heap} {f : Addr} {fd : FuncData} {ps : List Str} {sp : Sp} (no : ∀ vs H Q E, ¬ sp vs H Q E) : FnOk P w K mg base CX0 0 f fd ps sp :=
  ⟨fun vs H Q E h => absurd h (no vs H Q E), fun A outer s H args us vs Q E _ _ _ _ h => absurd h (no vs H Q E)⟩
mutual
/-- no list or tuple in it is too long -/
def sml : PyData → Prop
  | .list ds => ds.length ≤ 1000000 ∧ smlAll ds
  | .tuple ds => ds.length ≤ 1000000 ∧ smlAll ds
  | _ => True
def smlAll : List PyData → Prop
  | [] => True
  | d :: ds => sml d ∧ smlAll ds
end
theorem sml_mem : ∀ {ds : List PyData} {i : Nat} {d : PyData}, smlAll ds → ds[i]? = some d → sml d
  | [], _, _, _, h => by simp at h
  | e :: ds, 0, d, h1, h => by
    simp at h; subst h
    rw [smlAll] at h1; exact h1.1
  | e :: ds, i + 1, d, h1, h => by
    rw [smlAll] at h1
    exact sml_mem (ds := ds) (i := i) h1.2 (by simpa using h)
theorem depth_mem : ∀ {ds : List PyData} {i : Nat} {d : PyData}, ds[i]? = some d → d.depth ≤ PyData.depthAll ds
  | [], _, _, h => by simp at h
  | e :: ds, 0, d, h => by
    simp at h; subst h
    rw [PyData.depthAll]; exact Nat.le_max_left _ _
  | e :: ds, i + 1, d, h => by
    have := depth_mem (ds := ds) (i := i) (d := d) (by simpa using h)
    rw [PyData.depthAll]; exact Nat.le_trans this (Nat.le_max_right _ _)
theorem sizeU {n : Nat} (h : n ≤ 1000) : n ≤ sizeLine := Nat.le_of_lt (small1000 h)
/-! ### formulas -/
inductive Fm where
  | var (n : Str) | fal | and (a b : Fm) | or (a b : Fm) | imp (a b : Fm) | box (a : Fm)
  deriving DecidableEq
def Fm.d : Fm → PyData
  | .var n => .tuple [.str "var", .str n]
  | .fal => .tuple [.str "falsum"]
  | .and a b => .tuple [.str "and", a.d, b.d]
  | .or a b => .tuple [.str "or", a.d, b.d]
  | .imp a b => .tuple [.str "implies", a.d, b.d]
  | .box a => .tuple [.str "box", a.d]
def Fm.ht : Fm → Nat
  | .var _ => 1
  | .fal => 1
  | .and a b => max a.ht b.ht + 1
  | .or a b => max a.ht b.ht + 1
  | .imp a b => max a.ht b.ht + 1
  | .box a => a.ht + 1
def Fm.plain : Fm → Bool
  | .var _ => true
  | .fal => true
  | .and a b => a.plain && b.plain
  | .or a b => a.plain && b.plain
  | .imp a b => a.plain && b.plain
  | .box _ => false
/-- all names of variables are in N -/
def Fm.over (N : List Str) : Fm → Bool
  | .var n => decide (n ∈ N)
  | .fal => true
  | .and a b => a.over N && b.over N
  | .or a b => a.over N && b.over N
  | .imp a b => a.over N && b.over N
  | .box a => a.over N
theorem Fm.depth : ∀ f : Fm, f.d.depth = f.ht
  | .var _ => by simp [Fm.d, PyData.depth, PyData.depthAll, Fm.ht]
  | .fal => by simp [Fm.d, PyData.depth, PyData.depthAll, Fm.ht]
  | .and a b => by simp [Fm.d, PyData.depth, PyData.depthAll, Fm.ht, Fm.depth a, Fm.depth b]
  | .or a b => by simp [Fm.d, PyData.depth, PyData.depthAll, Fm.ht, Fm.depth a, Fm.depth b]
  | .imp a b => by simp [Fm.d, PyData.depth, PyData.depthAll, Fm.ht, Fm.depth a, Fm.depth b]
  | .box a => by simp [Fm.d, PyData.depth, PyData.depthAll, Fm.ht, Fm.depth a]
theorem Fm.sml : ∀ f : Fm, E.sml f.d
  | .var _ => by simp [Fm.d, E.sml, smlAll]
  | .fal => by simp [Fm.d, E.sml, smlAll]
  | .and a b => by simp [Fm.d, E.sml, smlAll, Fm.sml a, Fm.sml b]
  | .or a b => by simp [Fm.d, E.sml, smlAll, Fm.sml a, Fm.sml b]
  | .imp a b => by simp [Fm.d, E.sml, smlAll, Fm.sml a, Fm.sml b]
  | .box a => by simp [Fm.d, E.sml, smlAll, Fm.sml a]
theorem Fm.ht_pos : ∀ f : Fm, 1 ≤ f.ht
  | .var _ => Nat.le_refl _
  | .fal => Nat.le_refl _
  | .and _ _ => Nat.le_add_left _ _
  | .or _ _ => Nat.le_add_left _ _
  | .imp _ _ => Nat.le_add_left _ _
  | .box _ => Nat.le_add_left _ _
section
variable {K : PySem.W.Frag} {H : Hp} {p : Addr} {v u : V} {f g : Fm}
theorem im_fal (h : H p = some (.tup [.str "falsum"])) : Im K H (.ref p) Fm.fal.d := .tup (SqT.of h) (.cons (.str _) .nil)
theorem im_var {n : Str} (h : H p = some (.tup [.str "var", .str n])) : Im K H (.ref p) (Fm.var n).d := .tup (SqT.of h) (.cons (.str _) (.cons (.str _) .nil)) fun _ _ => h
theorem im_box (h : H p = some (.tup [.str "box", v])) (a : Im K H v f.d) : Im K H (.ref p) (Fm.box f).d := .tup (SqT.of h) (.cons (.str _) (.cons a .nil))
theorem im_and (h : H p = some (.tup [.str "and", v, u])) (a : Im K H v f.d) (b : Im K H u g.d) : Im K H (.ref p) (Fm.and f g).d := .tup (SqT.of h) (.cons (.str _) (.cons a (.cons b .nil)))
theorem im_or (h : H p = some (.tup [.str "or", v, u])) (a : Im K H v f.d) (b : Im K H u g.d) : Im K H (.ref p) (Fm.or f g).d := .tup (SqT.of h) (.cons (.str _) (.cons a (.cons b .nil)))
theorem im_imp (h : H p = some (.tup [.str "implies", v, u])) (a : Im K H v f.d) (b : Im K H u g.d) : Im K H (.ref p) (Fm.imp f g).d := .tup (SqT.of h) (.cons (.str _) (.cons a (.cons b .nil)))
end
/-! ### lists of ints as data -/
theorem dp_ints {K : PySem.W.Frag} {H : Hp} : ∀ ns : List Int, DpAll K H (ns.map V.int) (ns.map PyData.int)
  | [] => .nil
  | n :: ns => .cons (.int n) (dp_ints ns)
theorem lay_ints : ∀ ns : List Int, PyData.canLayAll0 (ns.map PyData.int) = true
  | [] => rfl
  | n :: ns => by
    rw [List.map_cons, PyData.canLayAll0, lay_ints ns]
    rfl
theorem dep_ints : ∀ ns : List Int, PyData.depthAll (ns.map PyData.int) = 0
  | [] => rfl
  | n :: ns => by
    rw [List.map_cons, PyData.depthAll, dep_ints ns]
    rfl
theorem shaped_ints (ns : List Int) : SeqAt.shaped (.list (ns.map PyData.int)) = true := by
  unfold SeqAt.shaped
  rw [PyData.canLay0, lay_ints, PyData.depth, dep_ints]
  rfl
theorem eqv_nil (ds : List PyData) : PyData.eqv (.list ds) (.list []) = ds.isEmpty := by
  cases ds with
  | nil => rfl
  | cons d ds => rfl
theorem atI_mem {α : Type} {xs : List α} {i : Int} (h0 : 0 ≤ i) (h1 : i < xs.length) : ∃ v, atI xs i = some v ∧ v ∈ xs := by
  have hn : i.toNat < xs.length := by omega
  refine ⟨xs[i.toNat], ?_, List.getElem_mem hn⟩
  have e := atI_nat (xs := xs) (j := i.toNat) (List.getElem?_eq_getElem hn)
  rw [show ((i.toNat : Nat) : Int) = i by omega] at e
  exact e
def nms : List Str := ["p", "q", "r"]
section
variable {t u : TT} {σ : L2.St} {H : Hp} {b1 b2 : Bool}
theorem ans_or2 (h1 : Ans t σ H b1) (h2 : Ans u σ H b2) : Ans (tOr t u) σ H (b1 || b2) := by
  cases b1 with
  | true => exact ans_or1 h1
  | false => exact ans_or h1 h2
end
theorem vint {i j : Int} (h : decide (V.int i = V.int j) = true) : i = j := V.int.inj (of_decide_eq_true h)
theorem vintF {i j : Int} (h : ¬ decide (V.int i = V.int j) = true) : i ≠ j := fun e => h (decide_eq_true (congrArg V.int e))
theorem in34 {k : Int} : inV (.int k) [.int 3, .int 4] = decide (k = 3 ∨ k = 4) := by
  unfold inV
  simp only [List.any_cons, List.any_nil, Bool.or_false]
  show ((3 == k) || (4 == k)) = _
  rw [Bool.eq_iff_iff]
  simp only [Bool.or_eq_true, beq_iff_eq, decide_eq_true_eq]
  omega
theorem iteD {c A B : Prop} [Decidable c] (h : c) (a : A) : if decide c = true then A else B := by
  rw [if_pos (decide_eq_true h)]
  exact a
theorem iteDF {c A B : Prop} [Decidable c] (h : ¬ c) (b : B) : if decide c = true then A else B := by
  rw [if_neg (by rw [decide_eq_true_eq]; exact h)]
  exact b
theorem in34y {k : Int} (h : k = 3 ∨ k = 4) : V.bl (if false = true then !inV (.int k) [.int 3, .int 4] else inV (.int k) [.int 3, .int 4]) = V.bl true := by
  rw [if_neg Bool.false_ne_true, in34, decide_eq_true h]
theorem in34n {k : Int} (h : ¬ (k = 3 ∨ k = 4)) : V.bl (if false = true then !inV (.int k) [.int 3, .int 4] else inV (.int k) [.int 3, .int 4]) = V.bl false := by
  rw [if_neg Bool.false_ne_true, in34, decide_eq_false h]
theorem vne {i j : Int} (h : i ≠ j) : ¬ V.int i = V.int j := fun e => h (V.int.inj e)
/-! ### joined formulas -/
def grp (op : Fm → Fm → Fm) (z : Fm) : List Fm → Fm
  | [] => z
  | [a] => a
  | a :: b :: r => op a (grp op z (b :: r))
theorem grp_step {op : Fm → Fm → Fm} {z f : Fm} {fs : List Fm} {j : Nat} (h : fs[j]? = some f) (h2 : j + 1 < fs.length) : grp op z (fs.drop j) = op f (grp op z (fs.drop (j + 1))) := by
  obtain ⟨hj, e⟩ := List.getElem?_eq_some_iff.mp h
  rw [List.drop_eq_getElem_cons hj, e, List.drop_eq_getElem_cons h2]
  rfl
theorem grp_last {op : Fm → Fm → Fm} {z f : Fm} {fs : List Fm} (h : fs[fs.length - 1]? = some f) : grp op z (fs.drop (fs.length - 1)) = f := by
  obtain ⟨hj, e⟩ := List.getElem?_eq_some_iff.mp h
  rw [List.drop_eq_getElem_cons hj, e, List.drop_eq_nil_of_le (by omega)]
  rfl
inductive SgOp : Str → (Fm → Fm → Fm) → Prop
  | and : SgOp "and" Fm.and
  | or : SgOp "or" Fm.or
theorem im_op {K : PySem.W.Frag} {H : Hp} {p : Addr} {v u : V} {f g : Fm} {sg : Str} {op : Fm → Fm → Fm} (o : SgOp sg op) (h : H p = some (.tup [.str sg, v, u])) (a : Im K H v f.d) (b : Im K H u g.d) : Im K H (.ref p) (op f g).d := by
  cases o with
  | and => exact im_and h a b
  | or => exact im_or h a b
theorem atI_m1 {α : Type} {xs : List α} {v : α} (h : xs[xs.length - 1]? = some v) : atI xs (-1) = some v := by
  have hl : 0 < xs.length := by
    have := (List.getElem?_eq_some_iff.mp h).1
    omega
  have e : ixN xs.length (-1) = some (xs.length - 1) := by
    unfold ixN
    rw [if_neg (by decide), if_pos (by omega)]
    congr 1
    omega
  unfold atI
  rw [e]
  exact h
theorem cut_m1 (xs : List V) : cutV xs none (some (-1)) = xs.take (xs.length - 1) := by
  unfold cutV
  have e : HT.sIx xs.length xs.length (some (-1)) = xs.length - 1 := by
    show (if (-1 : Int) < 0 then ((-1 : Int) + (xs.length : Int)).toNat else min (-1 : Int).toNat xs.length) = _
    rw [if_pos (by decide)]
    omega
  rw [e, HT.sIx_none, List.drop_zero, Nat.sub_zero]
/-- for x in reversed(list) -/
theorem for_rev {K : PySem.W.Frag} {a : Addr} {xs : List V} {g : TG} {tb : L2.TS} {D : Ends} {σ : L2.St} {H : Hp} (Pv : Nat → L2.St → Hp → Prop) (h0 : Pv 0 σ H) (hl : ∀ i σ H, i ≤ xs.length → Pv i σ H → SqL K H a xs)
    (hs : ∀ i x σ H, i < xs.length → xs[xs.length - 1 - i]? = some x → Pv i σ H → g x σ H fun σ2 H2 => tb { D with nx := Pv (i + 1), ct := Pv (i + 1), bk := D.nx } σ2 H2) (hd : ∀ σ H, Pv xs.length σ H → D.nx σ H) :
    ∃ W : Nat → Nat → L2.St → Hp → Prop, (∃ m, W 0 m σ H) ∧ ∀ i m σ H, W i m σ H →
      ((Itv K a xs.length).stop i H ∧ D.nx σ H) ∨ ((Itv K a xs.length).go i H ∧ ∃ N : L2.St → Hp → Prop, (∀ σ' H', N σ' H' → ∃ m', m' < m ∧ W (i + 1) m' σ' H') ∧ ∀ x H', (Itv K a xs.length).yld i H x H' → g x σ H' fun σ2 H2 => tb { D with nx := N, ct := N, bk := D.nx } σ2 H2) := by
  refine ⟨fun i m σ H => m = xs.length - i ∧ i ≤ xs.length ∧ Pv i σ H, ⟨xs.length, by simp, Nat.zero_le _, h0⟩, ?_⟩
  rintro i m σ H ⟨rfl, hi, p⟩
  have q := hl i σ H hi p
  by_cases hlt : i < xs.length
  · have g0 : xs[xs.length - 1 - i]? = some xs[xs.length - 1 - i] := List.getElem?_eq_getElem (by omega)
    refine .inr ⟨⟨hlt, xs, _, q, g0⟩, Pv (i + 1), fun σ' H' p' => ⟨xs.length - (i + 1), by omega, rfl, hlt, p'⟩, fun x H' y => ?_⟩
    obtain ⟨e, y⟩ := y
    subst e
    exact hs i x σ _ hlt (y xs q) p
  · have e : i = xs.length := by omega
    subst e
    exact .inl ⟨Nat.le_refl _, hd σ H p⟩
/-! ### what may be compared -/
theorem strOk_lit {x : Str} (h : PyData.strOk x = true) : PyData.canLay0 (.str x) = true := h
theorem Fm.lay {N : List Str} (hN : ∀ n ∈ N, PyData.strOk n = true) : ∀ f : Fm, f.over N = true → f.d.canLay0 = true
  | .var n, h => by
    have h1 := hN n (of_decide_eq_true h)
    simp only [Fm.d, PyData.canLay0, PyData.canLayAll0, h1, Bool.and_true]
    decide +kernel
  | .fal, _ => by decide +kernel
  | .and a b, h => by
    have h' : (a.over N && b.over N) = true := h
    rw [Bool.and_eq_true] at h'
    simp only [Fm.d, PyData.canLay0, PyData.canLayAll0, Fm.lay hN a h'.1, Fm.lay hN b h'.2, Bool.and_true]
    decide +kernel
  | .or a b, h => by
    have h' : (a.over N && b.over N) = true := h
    rw [Bool.and_eq_true] at h'
    simp only [Fm.d, PyData.canLay0, PyData.canLayAll0, Fm.lay hN a h'.1, Fm.lay hN b h'.2, Bool.and_true]
    decide +kernel
  | .imp a b, h => by
    have h' : (a.over N && b.over N) = true := h
    rw [Bool.and_eq_true] at h'
    simp only [Fm.d, PyData.canLay0, PyData.canLayAll0, Fm.lay hN a h'.1, Fm.lay hN b h'.2, Bool.and_true]
    decide +kernel
  | .box a, h => by
    simp only [Fm.d, PyData.canLay0, PyData.canLayAll0, Fm.lay hN a h, Bool.and_true]
    decide +kernel
theorem nms_ok : ∀ n ∈ nms, PyData.strOk n = true := by decide +kernel
/-- a list of formulas, none too high -/
theorem fms_shaped {N : List Str} (hN : ∀ n ∈ N, PyData.strOk n = true) : ∀ {fs : List Fm}, (∀ f ∈ fs, f.over N = true ∧ f.ht ≤ 63) → PyData.canLayAll0 (fs.map Fm.d) = true ∧ PyData.depthAll (fs.map Fm.d) ≤ 63
  | [], _ => ⟨rfl, Nat.zero_le _⟩
  | f :: fs, h => by
    have h1 := h f List.mem_cons_self
    have h2 := fms_shaped hN (fs := fs) fun g hg => h g (List.mem_cons_of_mem _ hg)
    rw [List.map_cons, PyData.canLayAll0, PyData.depthAll, Fm.lay hN f h1.1, h2.1, Fm.depth]
    exact ⟨rfl, Nat.max_le.mpr ⟨h1.2, h2.2⟩⟩
theorem list_shaped {ds : List PyData} (h : PyData.canLayAll0 ds = true ∧ PyData.depthAll ds ≤ 63) : SeqAt.shaped (.list ds) = true := by
  unfold SeqAt.shaped
  rw [PyData.canLay0, PyData.depth, h.1]
  exact decide_eq_true (by omega)
theorem eqv_self {d : PyData} (h : SeqAt.shaped d = true) : PyData.eqv d d = true := SeqAt.eqv_refl d (SeqAt.canLay_of_shaped h)
inductive TagZ : Str → (Fm → Fm → Fm) → Fm → Prop
  | and : TagZ "and" Fm.and (.imp .fal .fal)
  | or : TagZ "or" Fm.or .fal
theorem TagZ.op {sg : Str} {op : Fm → Fm → Fm} {z : Fm} (h : TagZ sg op z) : SgOp sg op := by
  cases h with
  | and => exact .and
  | or => exact .or
theorem SgOp.ht {sg : Str} {op : Fm → Fm → Fm} (h : SgOp sg op) (f g : Fm) : (op f g).ht = max f.ht g.ht + 1 := by
  cases h with
  | and => rfl
  | or => rfl
theorem grp_ht {sg : Str} {op : Fm → Fm → Fm} {z : Fm} {m : Nat} (o : SgOp sg op) (hz : z.ht ≤ m) : ∀ {fs : List Fm}, (∀ f ∈ fs, f.ht ≤ m) → (grp op z fs).ht ≤ m + fs.length
  | [], _ => hz
  | [a], h => Nat.le_trans (h a List.mem_cons_self) (Nat.le_add_right _ _)
  | a :: b :: r, h => by
    have h1 := h a List.mem_cons_self
    have h2 := grp_ht o hz (fs := b :: r) fun f hf => h f (List.mem_cons_of_mem _ hf)
    show (op a (grp op z (b :: r))).ht ≤ _
    rw [o.ht]
    simp only [List.length_cons] at h2 ⊢
    omega
theorem ImAll.fm {K : PySem.W.Frag} {H : Hp} {xs : List V} {fs : List Fm} (hI : ImAll K H xs (fs.map Fm.d)) {j : Nat} (hj : j < xs.length) : ∃ v f, xs[j]? = some v ∧ fs[j]? = some f ∧ Im K H v f.d := by
  have g := List.getElem?_eq_getElem hj
  obtain ⟨d, e, i⟩ := hI.get g
  rw [List.getElem?_map] at e
  cases e2 : fs[j]? with
  | none => rw [e2] at e; cases e
  | some f =>
    rw [e2] at e
    have : f.d = d := Option.some.inj e
    subst this
    exact ⟨_, f, g, rfl, i⟩
theorem fm_snoc {fs : List Fm} {f : Fm} : (fs ++ [f]).map Fm.d = fs.map Fm.d ++ [f.d] := by rw [List.map_append]; rfl
end E

set_option Elab.async false
set_option linter.all false
set_option maxRecDepth 100000
set_option maxHeartbeats 4000000
namespace E
open PySem PySem.Spec PyProof.Rows L2
/-! ### the order of formulas -/
abbrev Tk := List (Int ⊕ List Nat)
def Fm.toks : Fm → Tk
  | .and a b => .inl 0 :: (a.toks ++ b.toks)
  | .box a => .inl 1 :: a.toks
  | .fal => [.inl 2]
  | .imp a b => .inl 3 :: (a.toks ++ b.toks)
  | .or a b => .inl 4 :: (a.toks ++ b.toks)
  | .var n => [.inl 5, .inr n.cps.toList]
def Fm.lt (a b : Fm) : Bool := PyProof.Rows.lexLt itemOrd a.toks b.toks
theorem lex_ii {i j : Int} {l m : Tk} (h : i ≠ j) : PyProof.Rows.lexLt itemOrd (.inl i :: l) (.inl j :: m) = decide (i < j) := lex_diff (O := itemOrd) (fun e => h (Sum.inl.inj e))
theorem lex_same (x : Int ⊕ List Nat) (l m : Tk) : PyProof.Rows.lexLt itemOrd (x :: l) (x :: m) = PyProof.Rows.lexLt itemOrd l m := lex_self (O := itemOrd) x l m
theorem lex_ss {x y : List Nat} (h : x ≠ y) (l m : Tk) : PyProof.Rows.lexLt itemOrd (.inr x :: l) (.inr y :: m) = PyProof.Rows.lexLt itemOrd [.inr x] [.inr y] :=
  (lex_diff (O := itemOrd) (fun e => h (Sum.inr.inj e))).trans (lex_diff (O := itemOrd) (fun e => h (Sum.inr.inj e))).symm
theorem toks_app : ∀ (a b : Fm) (l m : Tk), PyProof.Rows.lexLt itemOrd (a.toks ++ l) (b.toks ++ m) = if a = b then PyProof.Rows.lexLt itemOrd l m else a.lt b := by
  intro a
  induction a with
  | and a1 a2 ih1 ih2 =>
    intro b l m
    cases b with
    | and b1 b2 =>
      show PyProof.Rows.lexLt itemOrd (.inl 0 :: ((a1.toks ++ a2.toks) ++ l)) (.inl 0 :: ((b1.toks ++ b2.toks) ++ m)) = _
      have e2 : Fm.lt (.and a1 a2) (.and b1 b2) = if a1 = b1 then a2.lt b2 else a1.lt b1 := (lex_same _ _ _).trans (ih1 b1 a2.toks b2.toks)
      rw [lex_same, List.append_assoc, List.append_assoc, ih1, ih2, e2]
      by_cases h1 : a1 = b1
      · by_cases h2 : a2 = b2
        · subst h1 h2; simp
        · subst h1; simp [h2]
      · simp [h1]
    | box b1 => exact (lex_ii (by decide)).trans (by rw [if_neg (by simp)]; exact (lex_ii (by decide)).symm)
    | fal => exact (lex_ii (by decide)).trans (by rw [if_neg (by simp)]; exact (lex_ii (by decide)).symm)
    | imp b1 b2 => exact (lex_ii (by decide)).trans (by rw [if_neg (by simp)]; exact (lex_ii (by decide)).symm)
    | or b1 b2 => exact (lex_ii (by decide)).trans (by rw [if_neg (by simp)]; exact (lex_ii (by decide)).symm)
    | var n => exact (lex_ii (by decide)).trans (by rw [if_neg (by simp)]; exact (lex_ii (by decide)).symm)
  | or a1 a2 ih1 ih2 =>
    intro b l m
    cases b with
    | or b1 b2 =>
      show PyProof.Rows.lexLt itemOrd (.inl 4 :: ((a1.toks ++ a2.toks) ++ l)) (.inl 4 :: ((b1.toks ++ b2.toks) ++ m)) = _
      have e2 : Fm.lt (.or a1 a2) (.or b1 b2) = if a1 = b1 then a2.lt b2 else a1.lt b1 := (lex_same _ _ _).trans (ih1 b1 a2.toks b2.toks)
      rw [lex_same, List.append_assoc, List.append_assoc, ih1, ih2, e2]
      by_cases h1 : a1 = b1
      · by_cases h2 : a2 = b2
        · subst h1 h2; simp
        · subst h1; simp [h2]
      · simp [h1]
    | box b1 => exact (lex_ii (by decide)).trans (by rw [if_neg (by simp)]; exact (lex_ii (by decide)).symm)
    | fal => exact (lex_ii (by decide)).trans (by rw [if_neg (by simp)]; exact (lex_ii (by decide)).symm)
    | imp b1 b2 => exact (lex_ii (by decide)).trans (by rw [if_neg (by simp)]; exact (lex_ii (by decide)).symm)
    | and b1 b2 => exact (lex_ii (by decide)).trans (by rw [if_neg (by simp)]; exact (lex_ii (by decide)).symm)
    | var n => exact (lex_ii (by decide)).trans (by rw [if_neg (by simp)]; exact (lex_ii (by decide)).symm)
  | imp a1 a2 ih1 ih2 =>
    intro b l m
    cases b with
    | imp b1 b2 =>
      show PyProof.Rows.lexLt itemOrd (.inl 3 :: ((a1.toks ++ a2.toks) ++ l)) (.inl 3 :: ((b1.toks ++ b2.toks) ++ m)) = _
      have e2 : Fm.lt (.imp a1 a2) (.imp b1 b2) = if a1 = b1 then a2.lt b2 else a1.lt b1 := (lex_same _ _ _).trans (ih1 b1 a2.toks b2.toks)
      rw [lex_same, List.append_assoc, List.append_assoc, ih1, ih2, e2]
      by_cases h1 : a1 = b1
      · by_cases h2 : a2 = b2
        · subst h1 h2; simp
        · subst h1; simp [h2]
      · simp [h1]
    | box b1 => exact (lex_ii (by decide)).trans (by rw [if_neg (by simp)]; exact (lex_ii (by decide)).symm)
    | fal => exact (lex_ii (by decide)).trans (by rw [if_neg (by simp)]; exact (lex_ii (by decide)).symm)
    | or b1 b2 => exact (lex_ii (by decide)).trans (by rw [if_neg (by simp)]; exact (lex_ii (by decide)).symm)
    | and b1 b2 => exact (lex_ii (by decide)).trans (by rw [if_neg (by simp)]; exact (lex_ii (by decide)).symm)
    | var n => exact (lex_ii (by decide)).trans (by rw [if_neg (by simp)]; exact (lex_ii (by decide)).symm)
  | box a1 ih1 =>
    intro b l m
    cases b with
    | box b1 =>
      show PyProof.Rows.lexLt itemOrd (.inl 1 :: (a1.toks ++ l)) (.inl 1 :: (b1.toks ++ m)) = _
      have e2 : Fm.lt (.box a1) (.box b1) = a1.lt b1 := lex_same _ _ _
      rw [lex_same, ih1, e2]
      by_cases h1 : a1 = b1
      · subst h1; simp
      · simp [h1]
    | and b1 b2 => exact (lex_ii (by decide)).trans (by rw [if_neg (by simp)]; exact (lex_ii (by decide)).symm)
    | fal => exact (lex_ii (by decide)).trans (by rw [if_neg (by simp)]; exact (lex_ii (by decide)).symm)
    | imp b1 b2 => exact (lex_ii (by decide)).trans (by rw [if_neg (by simp)]; exact (lex_ii (by decide)).symm)
    | or b1 b2 => exact (lex_ii (by decide)).trans (by rw [if_neg (by simp)]; exact (lex_ii (by decide)).symm)
    | var n => exact (lex_ii (by decide)).trans (by rw [if_neg (by simp)]; exact (lex_ii (by decide)).symm)
  | fal =>
    intro b l m
    cases b with
    | fal => rw [if_pos rfl]; exact lex_same _ _ _
    | and b1 b2 => exact (lex_ii (by decide)).trans (by rw [if_neg (by simp)]; exact (lex_ii (by decide)).symm)
    | box b1 => exact (lex_ii (by decide)).trans (by rw [if_neg (by simp)]; exact (lex_ii (by decide)).symm)
    | imp b1 b2 => exact (lex_ii (by decide)).trans (by rw [if_neg (by simp)]; exact (lex_ii (by decide)).symm)
    | or b1 b2 => exact (lex_ii (by decide)).trans (by rw [if_neg (by simp)]; exact (lex_ii (by decide)).symm)
    | var n => exact (lex_ii (by decide)).trans (by rw [if_neg (by simp)]; exact (lex_ii (by decide)).symm)
  | var n =>
    intro b l m
    cases b with
    | var k =>
      show PyProof.Rows.lexLt itemOrd (.inl 5 :: .inr n.cps.toList :: l) (.inl 5 :: .inr k.cps.toList :: m) = _
      rw [lex_same]
      by_cases h1 : n = k
      · subst h1
        rw [lex_same, if_pos rfl]
      · have hn : n.cps.toList ≠ k.cps.toList := fun e => h1 (PySem.W.str_of_cps e)
        rw [lex_ss hn, if_neg (by simp [h1])]
        exact (lex_same _ _ _).symm
    | and b1 b2 => exact (lex_ii (by decide)).trans (by rw [if_neg (by simp)]; exact (lex_ii (by decide)).symm)
    | box b1 => exact (lex_ii (by decide)).trans (by rw [if_neg (by simp)]; exact (lex_ii (by decide)).symm)
    | fal => exact (lex_ii (by decide)).trans (by rw [if_neg (by simp)]; exact (lex_ii (by decide)).symm)
    | imp b1 b2 => exact (lex_ii (by decide)).trans (by rw [if_neg (by simp)]; exact (lex_ii (by decide)).symm)
    | or b1 b2 => exact (lex_ii (by decide)).trans (by rw [if_neg (by simp)]; exact (lex_ii (by decide)).symm)
theorem toks_inj {a b : Fm} (h : a.toks = b.toks) : a = b := by
  have e := toks_app a b [] [.inl 0]
  rw [List.append_nil] at e
  by_cases hab : a = b
  · exact hab
  · have e2 := toks_app a b [] []
    rw [List.append_nil, List.append_nil, if_neg hab] at e2
    rw [if_neg hab, ← e2, h, lex_irrefl] at e
    have : PyProof.Rows.lexLt itemOrd b.toks (b.toks ++ [.inl 0]) = true := by
      have e3 := PySem.W.lex_pre b.toks [] [.inl 0]
      rw [List.append_nil] at e3
      rw [e3]
      rfl
    rw [this] at e
    cases e
theorem Fm.lt_irrefl (a : Fm) : a.lt a = false := lex_irrefl _
theorem Fm.lt_trans {a b c : Fm} (h1 : a.lt b = true) (h2 : b.lt c = true) : a.lt c = true := lex_trans _ _ _ h1 h2
theorem Fm.lt_total {a b : Fm} (h1 : a.lt b = false) (h2 : b.lt a = false) : a = b := toks_inj (lex_total _ _ h1 h2)
theorem Fm.lt_asymm {a b : Fm} (h : a.lt b = true) : b.lt a = false := by
  cases e : b.lt a with
  | false => rfl
  | true =>
    have := Fm.lt_trans h e
    rw [Fm.lt_irrefl] at this
    cases this
end E

set_option Elab.async false
set_option linter.all false
set_option maxRecDepth 100000
set_option maxHeartbeats 4000000
namespace ELt
open PySem PySem.SeqAt
open PySem.AutoSeq1 (wpAny_loadPart')
open PySem.MeetsSeq PySem.MeetsSeq2 PySem.MeetsSeq3 PySem.SeqRoads2
/-- item by item: where two items differ for the first time, their own < gives k; where none do, the lengths -/
inductive TupLt (A : Around) (s : Shared) (fin k : Bool) : List (Value × Value) → Prop
  | nil : fin = k → TupLt A s fin k []
  | yes {p q : Value} {r : List (Value × Value)} : EqAt A s p q true → TupLt A s fin k r → TupLt A s fin k ((p, q) :: r)
  | no {p q : Value} {r : List (Value × Value)} : EqAt A s p q false → RcLt A s p q k → TupLt A s fin k ((p, q) :: r)
theorem tup_seq (l b : Addr) (xs ys : Array Value) (n m : Nat) (dd de : Option Addr) (sl sm : Array (Option Value)) (k : Bool) :
    Meets (Builtin.«tuple.__lt__» ⟨[.ref l, .ref b], []⟩)
      (fun A R s => s.heap.get? l = some ⟨.type "tuple", dd, .seq xs n, sl⟩ ∧ s.heap.get? b = some ⟨.type "tuple", de, .seq ys m, sm⟩ ∧
        TupLt A.in1 s (decide (xs.size < ys.size)) k (xs.toList.zip ys.toList) ∧ R (.ok (.ret (.bool k))) s) :=
  .of_wp fun prog w A R s h => by
    obtain ⟨hp, g, d, tk, os⟩ := s
    obtain ⟨hl, hb, ht, hR⟩ := h
    have sub := AutoSeq1.sub_tuple_tuple
    wp_walk using wpAny_loadPart' hl, wpAny_loadPart' hb, wpAny_forIn_list _ (fun rest c t => c.1 = none ∧ t = ⟨hp, g, d, tk, os⟩ ∧ TupLt A.in1 ⟨hp, g, d, tk, os⟩ (decide (xs.size < ys.size)) k rest) _
    case turn =>
      rintro ⟨y, x⟩ rest c t ⟨_, rfl, tl⟩
      cases tl with
      | yes e tl =>
        refine wpAny_bind (e prog w _ _ ?_)
        wp_walk
        exact ⟨rfl, rfl, tl⟩
      | no e lt =>
        refine wpAny_bind (e prog w _ _ ?_)
        simp only [Bool.not_false, if_true]
        refine wpAny_bind (wpAny_rule (wpAny_bind (lt prog w _ _ ?_)))
        wp_walk
        exact ⟨_, rfl, hR⟩
    case fin =>
      rintro ⟨c1, c2⟩ t ⟨hc, rfl, tl⟩
      simp only at hc
      subst hc
      cases tl with
      | nil e =>
        wp_walk
        exact ⟨_, rfl, by rw [← e] at hR; simpa [Builtin.Tuple.tupleCompareSizes] using hR⟩
    case h => exact ⟨rfl, rfl, ht⟩
theorem rc_tups {A : Around} {s : Shared} {l b : Addr} {xs ys : Array Value} {k : Bool} (hl : s.heap.IsTuple l xs) (hb : s.heap.IsTuple b ys) (hu : A.units < cLine) (ht : TupLt A.in1 s (decide (xs.size < ys.size)) k (xs.toList.zip ys.toList)) : RcLt A s (.ref l) (.ref b) k := fun prog w E Q h => by
  obtain ⟨⟨c1, dd, d1, sl⟩, ho, hc, n, hd⟩ := id hl
  obtain ⟨⟨c2, de, d2, sm⟩, ho2, hc2, m, hd2⟩ := id hb
  simp only at hc hd hc2 hd2
  subst hc hd hc2 hd2
  exact richCompare_meets_room (op := .Lt) ⟨_, ho, rfl⟩ ⟨_, ho2, rfl⟩ F.slot_tuple_lt F.entry_tuple_lt (F.args_tuple_lt_2 _ _) (tup_seq l b xs ys n m dd de sl sm k)
    ⟨ho, ho2, ht, show Value.bool k ≠ Value.notImplemented ∧ Q (.bool k) s from ⟨(fun x => nomatch x), h⟩⟩ hu
end ELt

set_option Elab.async false
set_option linter.all false
set_option maxRecDepth 100000
set_option maxHeartbeats 4000000
namespace E
open PySem PySem.Spec PyProof.Rows L2
/-! ### the signs -/
def Fm.rk : Fm → Fin 6
  | .and _ _ => 0
  | .box _ => 1
  | .fal => 2
  | .imp _ _ => 3
  | .or _ _ => 4
  | .var _ => 5
def sgT : Fin 6 → Str
  | 0 => "and"
  | 1 => "box"
  | 2 => "falsum"
  | 3 => "implies"
  | 4 => "or"
  | 5 => "var"
def Fm.sg (f : Fm) : Str := sgT f.rk
theorem sgT_ne : ∀ i j : Fin 6, i ≠ j → (sgT i == sgT j) = false := by decide +kernel
theorem sgT_lt : ∀ i j : Fin 6, decide ((sgT i).cps.toList < (sgT j).cps.toList) = decide ((i.val : Int) < (j.val : Int)) := by decide +kernel
def Fm.pts : Fm → List PyData
  | .and a b => [a.d, b.d]
  | .box a => [a.d]
  | .fal => []
  | .imp a b => [a.d, b.d]
  | .or a b => [a.d, b.d]
  | .var n => [.str n]
theorem Fm.d_eq (f : Fm) : f.d = .tuple (.str f.sg :: f.pts) := by cases f <;> rfl
theorem toks_head (f : Fm) : ∃ r, f.toks = .inl (f.rk.val : Int) :: r := by cases f <;> exact ⟨_, rfl⟩
theorem lt_rk {f g : Fm} (h : f.rk ≠ g.rk) : f.lt g = decide ((f.rk.val : Int) < (g.rk.val : Int)) := by
  obtain ⟨r, e⟩ := toks_head f
  obtain ⟨t, e2⟩ := toks_head g
  unfold Fm.lt
  rw [e, e2]
  exact lex_ii fun e => h (Fin.ext (Int.ofNat.inj e))
theorem lt_and (a b c d : Fm) : Fm.lt (.and a b) (.and c d) = if a = c then b.lt d else a.lt c := (lex_same _ _ _).trans (toks_app a c b.toks d.toks)
theorem lt_or (a b c d : Fm) : Fm.lt (.or a b) (.or c d) = if a = c then b.lt d else a.lt c := (lex_same _ _ _).trans (toks_app a c b.toks d.toks)
theorem lt_imp (a b c d : Fm) : Fm.lt (.imp a b) (.imp c d) = if a = c then b.lt d else a.lt c := (lex_same _ _ _).trans (toks_app a c b.toks d.toks)
theorem lt_box (a c : Fm) : Fm.lt (.box a) (.box c) = a.lt c := lex_same _ _ _
theorem lt_var (n m : Str) : Fm.lt (.var n) (.var m) = decide (n.cps.toList < m.cps.toList) := (lex_same _ _ _).trans (PySem.W.lex_one _ _)
theorem streq {x y : Str} : (x == y) = decide (x = y) := by
  rw [Bool.eq_iff_iff, decide_eq_true_iff]
  exact beq_iff_eq
theorem eqv_tup (x y : Str) (ds es : List PyData) : PyData.eqv (.tuple (.str x :: ds)) (.tuple (.str y :: es)) = ((x == y) && PyData.eqvAll ds es) := by
  rw [PyData.eqv, PyData.eqvAll, PyData.eqv]
theorem eqvAll2 (a b c d : PyData) : PyData.eqvAll [a, b] [c, d] = (PyData.eqv a c && PyData.eqv b d) := by
  rw [PyData.eqvAll, PyData.eqvAll, PyData.eqvAll, Bool.and_true]
theorem eqvAll1 (a c : PyData) : PyData.eqvAll [a] [c] = PyData.eqv a c := by
  rw [PyData.eqvAll, PyData.eqvAll, Bool.and_true]
/-- == of formulas as data -/
theorem Fm.eqv : ∀ f g : Fm, PyData.eqv f.d g.d = decide (f = g) := by
  intro f
  induction f with
  | and a b iha ihb =>
    intro g
    cases g with
    | and c d =>
      rw [Fm.d_eq, Fm.d_eq, eqv_tup, show ((Fm.and a b).sg == (Fm.and c d).sg) = true from beq_self_eq_true _, Bool.true_and]
      show PyData.eqvAll [a.d, b.d] [c.d, d.d] = _
      rw [eqvAll2, iha, ihb, ← Bool.decide_and]
      exact decide_eq_decide.mpr (by rw [Fm.and.injEq])
    | _ => rw [Fm.d_eq, Fm.d_eq, eqv_tup, show ∀ x y : Fm, x.rk ≠ y.rk → (x.sg == y.sg) = false from fun x y h => sgT_ne _ _ h, Bool.false_and, decide_eq_false (by simp)]; intro e; simp [Fm.rk] at e
  | or a b iha ihb =>
    intro g
    cases g with
    | or c d =>
      rw [Fm.d_eq, Fm.d_eq, eqv_tup, show ((Fm.or a b).sg == (Fm.or c d).sg) = true from beq_self_eq_true _, Bool.true_and]
      show PyData.eqvAll [a.d, b.d] [c.d, d.d] = _
      rw [eqvAll2, iha, ihb, ← Bool.decide_and]
      exact decide_eq_decide.mpr (by rw [Fm.or.injEq])
    | _ => rw [Fm.d_eq, Fm.d_eq, eqv_tup, show ∀ x y : Fm, x.rk ≠ y.rk → (x.sg == y.sg) = false from fun x y h => sgT_ne _ _ h, Bool.false_and, decide_eq_false (by simp)]; intro e; simp [Fm.rk] at e
  | imp a b iha ihb =>
    intro g
    cases g with
    | imp c d =>
      rw [Fm.d_eq, Fm.d_eq, eqv_tup, show ((Fm.imp a b).sg == (Fm.imp c d).sg) = true from beq_self_eq_true _, Bool.true_and]
      show PyData.eqvAll [a.d, b.d] [c.d, d.d] = _
      rw [eqvAll2, iha, ihb, ← Bool.decide_and]
      exact decide_eq_decide.mpr (by rw [Fm.imp.injEq])
    | _ => rw [Fm.d_eq, Fm.d_eq, eqv_tup, show ∀ x y : Fm, x.rk ≠ y.rk → (x.sg == y.sg) = false from fun x y h => sgT_ne _ _ h, Bool.false_and, decide_eq_false (by simp)]; intro e; simp [Fm.rk] at e
  | box a iha =>
    intro g
    cases g with
    | box c =>
      rw [Fm.d_eq, Fm.d_eq, eqv_tup, show ((Fm.box a).sg == (Fm.box c).sg) = true from beq_self_eq_true _, Bool.true_and]
      show PyData.eqvAll [a.d] [c.d] = _
      rw [eqvAll1, iha]
      exact decide_eq_decide.mpr (by rw [Fm.box.injEq])
    | _ => rw [Fm.d_eq, Fm.d_eq, eqv_tup, show ∀ x y : Fm, x.rk ≠ y.rk → (x.sg == y.sg) = false from fun x y h => sgT_ne _ _ h, Bool.false_and, decide_eq_false (by simp)]; intro e; simp [Fm.rk] at e
  | fal =>
    intro g
    cases g with
    | fal => rw [decide_eq_true rfl]; rfl
    | _ => rw [Fm.d_eq, Fm.d_eq, eqv_tup, show ∀ x y : Fm, x.rk ≠ y.rk → (x.sg == y.sg) = false from fun x y h => sgT_ne _ _ h, Bool.false_and, decide_eq_false (by simp)]; intro e; simp [Fm.rk] at e
  | var n =>
    intro g
    cases g with
    | var m =>
      rw [Fm.d_eq, Fm.d_eq, eqv_tup, show ((Fm.var n).sg == (Fm.var m).sg) = true from beq_self_eq_true _, Bool.true_and]
      show PyData.eqvAll [.str n] [.str m] = _
      rw [eqvAll1, PyData.eqv, streq]
      exact decide_eq_decide.mpr (by rw [Fm.var.injEq])
    | _ => rw [Fm.d_eq, Fm.d_eq, eqv_tup, show ∀ x y : Fm, x.rk ≠ y.rk → (x.sg == y.sg) = false from fun x y h => sgT_ne _ _ h, Bool.false_and, decide_eq_false (by simp)]; intro e; simp [Fm.rk] at e
end E

set_option Elab.async false
set_option linter.all false
set_option maxRecDepth 100000
set_option maxHeartbeats 4000000
namespace E
open PySem PySem.Spec PyProof.Rows L2 PySem.SeqAt ELt
/-! ### the model's own < of formulas -/
theorem rd_items {h : Heap} {v : Value} {f : Fm} {as : List Addr} (r : Reads h v f.d as) : ∃ (l : Addr) (o : Obj) (vs : Array Value) (n : Nat) (t : Tok) (ws : List Value) (bs : List Addr), v = .ref l ∧ h.get? l = some o ∧ o.cls = .type "tuple" ∧ o.data = .seq vs n ∧ vs.toList = .str f.sg t :: ws ∧ ReadsAll h ws f.pts bs := by
  rw [Fm.d_eq] at r
  generalize f.sg = sg at r
  cases r with
  | @tuple l o vs n _ _ h1 h2 h3 h4 =>
    generalize hv : vs.toList = vl at h4
    cases h4 with
    | @cons w ws _ _ as bs r1 r2 =>
      cases r1 with
      | str _ t => exact ⟨l, o, vs, n, t, ws, bs, rfl, h1, h2, h3, hv, r2⟩
theorem eq_fm {h : Heap} {A : Around} {s : Shared} (hs : s.heap = h) {f g : Fm} {v u : Value} {as bs : List Addr} (rv : Reads h v f.d as) (ru : Reads h u g.d bs) (lf : f.d.canLay0 = true) (lg : g.d.canLay0 = true) (hu : A.units + min f.ht g.ht < cLine) : EqAt A s v u (decide (f = g)) := by
  subst hs
  rw [← Fm.eqv]
  exact eqAt_reads f.d g.d A s v u as bs rv ru lf lg (by rw [Fm.depth, Fm.depth]; exact hu)
theorem size_of {vs : Array Value} {l : List Value} (h : vs.toList = l) : vs.size = l.length := by rw [← h, Array.length_toList]
/-- the items behind the signs, in order -/
theorem seq_pts : ∀ (f g : Fm), f.rk = g.rk → ∀ (A : Around) (s : Shared) (ws us : List Value) (as bs : List Addr), ReadsAll s.heap ws f.pts as → ReadsAll s.heap us g.pts bs → f.d.canLay0 = true → g.d.canLay0 = true → A.units + min f.ht g.ht < cLine + 1 →
    (∀ (f' g' : Fm) (v u : Value) (cs ds : List Addr), f'.ht < f.ht → Reads s.heap v f'.d cs → Reads s.heap u g'.d ds → f'.d.canLay0 = true → g'.d.canLay0 = true → A.units + min f'.ht g'.ht < cLine → RcLt A s v u (f'.lt g')) →
    TupLt A s false (f.lt g) (ws.zip us) := by
  intro f g hk A s ws us as bs rw_ ru lf lg hu ih
  have two : ∀ (a b c d : Fm) (k : Bool), k = (if a = c then b.lt d else a.lt c) → a.ht < f.ht → b.ht < f.ht → a.d.canLay0 = true → b.d.canLay0 = true → c.d.canLay0 = true → d.d.canLay0 = true → A.units + min a.ht c.ht < cLine → A.units + min b.ht d.ht < cLine →
      ReadsAll s.heap ws [a.d, b.d] as → ReadsAll s.heap us [c.d, d.d] bs → TupLt A s false k (ws.zip us) := by
    intro a b c d k ek ha hb la lb lc ld h1 h2 r1 r2
    cases r1 with
    | cons p1 q1 =>
      cases q1 with
      | cons p2 q2 =>
        cases q2
        cases r2 with
        | cons p3 q3 =>
          cases q3 with
          | cons p4 q4 =>
            cases q4
            by_cases e1 : a = c
            · rw [if_pos e1] at ek
              have t1 := eq_fm (A := A) (s := s) rfl p1 p3 la lc h1
              rw [decide_eq_true e1] at t1
              refine .yes t1 ?_
              have t2 := eq_fm (A := A) (s := s) rfl p2 p4 lb ld h2
              by_cases e2 : b = d
              · rw [decide_eq_true e2] at t2
                subst e2
                rw [Fm.lt_irrefl] at ek
                exact .yes t2 (.nil ek.symm)
              · rw [decide_eq_false e2] at t2
                rw [ek]
                exact .no t2 (ih b d _ _ _ _ hb p2 p4 lb ld h2)
            · rw [if_neg e1] at ek
              have t1 := eq_fm (A := A) (s := s) rfl p1 p3 la lc h1
              rw [decide_eq_false e1] at t1
              rw [ek]
              exact .no t1 (ih a c _ _ _ _ ha p1 p3 la lc h1)
  have lay2 : ∀ {sg : Str} {a b : Fm}, PyData.canLay0 (.tuple [.str sg, a.d, b.d]) = true → a.d.canLay0 = true ∧ b.d.canLay0 = true := by
    intro sg a b h
    simp only [PyData.canLay0, PyData.canLayAll0, Bool.and_eq_true] at h
    exact ⟨h.2.1, h.2.2.1⟩
  cases f with
  | and a b =>
    cases g with
    | and c d =>
      have hu' : A.units + min (max a.ht b.ht + 1) (max c.ht d.ht + 1) < cLine + 1 := hu
      exact two a b c d _ (lt_and a b c d) (by show _ < max a.ht b.ht + 1; omega) (by show _ < max a.ht b.ht + 1; omega) (lay2 lf).1 (lay2 lf).2 (lay2 lg).1 (lay2 lg).2 (by omega) (by omega) rw_ ru
    | _ => exact absurd hk (by simp [Fm.rk])
  | or a b =>
    cases g with
    | or c d =>
      have hu' : A.units + min (max a.ht b.ht + 1) (max c.ht d.ht + 1) < cLine + 1 := hu
      exact two a b c d _ (lt_or a b c d) (by show _ < max a.ht b.ht + 1; omega) (by show _ < max a.ht b.ht + 1; omega) (lay2 lf).1 (lay2 lf).2 (lay2 lg).1 (lay2 lg).2 (by omega) (by omega) rw_ ru
    | _ => exact absurd hk (by simp [Fm.rk])
  | imp a b =>
    cases g with
    | imp c d =>
      have hu' : A.units + min (max a.ht b.ht + 1) (max c.ht d.ht + 1) < cLine + 1 := hu
      exact two a b c d _ (lt_imp a b c d) (by show _ < max a.ht b.ht + 1; omega) (by show _ < max a.ht b.ht + 1; omega) (lay2 lf).1 (lay2 lf).2 (lay2 lg).1 (lay2 lg).2 (by omega) (by omega) rw_ ru
    | _ => exact absurd hk (by simp [Fm.rk])
  | box a =>
    cases g with
    | box c =>
      have hu' : A.units + min (a.ht + 1) (c.ht + 1) < cLine + 1 := hu
      have la : a.d.canLay0 = true := by
        have h : PyData.canLay0 (.tuple [.str "box", a.d]) = true := lf
        simp only [PyData.canLay0, PyData.canLayAll0, Bool.and_eq_true] at h
        exact h.2.1
      have lc : c.d.canLay0 = true := by
        have h : PyData.canLay0 (.tuple [.str "box", c.d]) = true := lg
        simp only [PyData.canLay0, PyData.canLayAll0, Bool.and_eq_true] at h
        exact h.2.1
      rw [lt_box]
      cases rw_ with
      | cons p1 q1 =>
        cases q1
        cases ru with
        | cons p3 q3 =>
          cases q3
          have t1 := eq_fm (A := A) (s := s) rfl p1 p3 la lc (by omega)
          by_cases e1 : a = c
          · rw [decide_eq_true e1] at t1
            subst e1
            exact .yes t1 (.nil (Fm.lt_irrefl a).symm)
          · rw [decide_eq_false e1] at t1
            exact .no t1 (ih a c _ _ _ _ (Nat.lt_succ_self _) p1 p3 la lc (by omega))
    | _ => exact absurd hk (by simp [Fm.rk])
  | fal =>
    cases g with
    | fal =>
      cases rw_
      cases ru
      exact .nil (Fm.lt_irrefl _).symm
    | _ => exact absurd hk (by simp [Fm.rk])
  | var n =>
    cases g with
    | var m =>
      rw [lt_var]
      cases rw_ with
      | cons p1 q1 =>
        cases q1
        cases ru with
        | cons p3 q3 =>
          cases q3
          cases p1 with
          | str _ t =>
            cases p3 with
            | str _ t2 =>
              have t1 := EqAt.str_str (A := A) (s := s) n t m t2
              by_cases e1 : n = m
              · subst e1
                rw [beq_self_eq_true] at t1
                exact .yes t1 (.nil (decide_eq_false (List.lt_irrefl _)).symm)
              · rw [streq, decide_eq_false e1] at t1
                exact .no t1 fun prog w E Q hq => P.lt_str hq
    | _ => exact absurd hk (by simp [Fm.rk])
theorem rc_fm : ∀ (n : Nat) (f g : Fm) (A : Around) (s : Shared) (v u : Value) (as bs : List Addr), f.ht ≤ n → Reads s.heap v f.d as → Reads s.heap u g.d bs → f.d.canLay0 = true → g.d.canLay0 = true → A.units + min f.ht g.ht < cLine → RcLt A s v u (f.lt g)
  | 0, f, _, _, _, _, _, _, _, h, _, _, _, _, _ => absurd (Fm.ht_pos f) (by omega)
  | n + 1, f, g, A, s, v, u, as, bs, hn, rv, ru, lf, lg, hu => by
    obtain ⟨l, o, vs, k, t, ws, cs, rfl, h1, h2, h3, h4, h5⟩ := rd_items rv
    obtain ⟨l', o', vs', k', t', ws', cs', rfl, k1, k2, k3, k4, k5⟩ := rd_items ru
    refine rc_tups ⟨o, h1, h2, k, h3⟩ ⟨o', k1, k2, k', k3⟩ (Nat.lt_of_le_of_lt (Nat.le_add_right _ _) hu) ?_
    rw [h4, k4, List.zip_cons_cons]
    have t1 := EqAt.str_str (A := A.in1) (s := s) f.sg t g.sg t'
    by_cases hk : f.rk = g.rk
    · rw [show f.sg = g.sg from congrArg sgT hk] at t1 ⊢
      rw [beq_self_eq_true] at t1
      refine .yes t1 ?_
      have hsz : decide (vs.size < vs'.size) = false := by
        rw [size_of h4, size_of k4, List.length_cons, List.length_cons, SeqAt.ReadsAll.length _ _ _ h5, SeqAt.ReadsAll.length _ _ _ k5]
        have : f.pts.length = g.pts.length := by
          cases f <;> cases g <;> first | rfl | exact absurd hk (by simp [Fm.rk])
        rw [this]
        exact decide_eq_false (Nat.lt_irrefl _)
      rw [hsz]
      exact seq_pts f g hk A.in1 s ws ws' cs cs' h5 k5 lf lg (by show A.units + 1 + _ < _; omega) fun f' g' v u cs ds hf r1 r2 l1 l2 hu' => rc_fm n f' g' A.in1 s v u cs ds (by omega) r1 r2 l1 l2 hu'
    · rw [show (f.sg == g.sg) = false from sgT_ne _ _ hk] at t1
      refine .no t1 fun prog w E Q hq => ?_
      rw [lt_rk hk, ← sgT_lt] at hq
      exact P.lt_str hq
end E

set_option Elab.async false
set_option linter.all false
set_option maxRecDepth 100000
set_option maxHeartbeats 4000000
namespace E
open PySem PySem.Spec PyProof.Rows L2 PySem.SeqAt ELt PySem.W PySem.Calls
/-! ### sorting formulas -/
theorem sgT_inj {i j : Fin 6} (h : sgT i = sgT j) : i = j := by
  by_cases e : i = j
  · exact e
  · have := sgT_ne i j e
    rw [h, beq_self_eq_true] at this
    cases this
theorem rd_head {h : Heap} {f g : Fm} {v : Value} {as bs : List Addr} (r1 : Reads h v f.d as) (r2 : Reads h v g.d bs) : f.rk = g.rk ∧ ∃ (ws : List Value) (cs ds : List Addr), ReadsAll h ws f.pts cs ∧ ReadsAll h ws g.pts ds := by
  obtain ⟨l, o, vs, k, t, ws, cs, rfl, h1, h2, h3, h4, h5⟩ := rd_items r1
  obtain ⟨l', o', vs', k', t', ws', cs', e, k1, k2, k3, k4, k5⟩ := rd_items r2
  cases e
  rw [h1] at k1
  cases k1
  rw [h3] at k3
  cases k3
  rw [h4] at k4
  obtain ⟨e1, e2⟩ := List.cons.inj k4
  have e3 : f.sg = g.sg := by injection e1
  subst e2
  exact ⟨sgT_inj e3, ws, cs, cs', h5, k5⟩
theorem rd_two {h : Heap} {ws : List Value} {a b c d : PyData} {as bs : List Addr} (r1 : ReadsAll h ws [a, b] as) (r2 : ReadsAll h ws [c, d] bs) : ∃ (v u : Value) (x y z w : List Addr), Reads h v a x ∧ Reads h v c y ∧ Reads h u b z ∧ Reads h u d w := by
  cases r1 with
  | cons p1 q1 =>
    cases q1 with
    | cons p2 q1 =>
      cases r2 with
      | cons p3 q2 =>
        cases q2 with
        | cons p4 q2 => exact ⟨_, _, _, _, _, _, p1, p3, p2, p4⟩
theorem rd_one {h : Heap} {ws : List Value} {a c : PyData} {as bs : List Addr} (r1 : ReadsAll h ws [a] as) (r2 : ReadsAll h ws [c] bs) : ∃ (v : Value) (x y : List Addr), Reads h v a x ∧ Reads h v c y := by
  cases r1 with
  | cons p1 q1 =>
    cases r2 with
    | cons p3 q2 => exact ⟨_, _, _, p1, p3⟩
theorem rd_uniq {h : Heap} : ∀ (f g : Fm) (v : Value) (as bs : List Addr), Reads h v f.d as → Reads h v g.d bs → f = g := by
  intro f
  induction f with
  | and a b iha ihb =>
    intro g v as bs r1 r2
    obtain ⟨hk, ws, cs, ds, q1, q2⟩ := rd_head r1 r2
    cases g with
    | and c d =>
      obtain ⟨_, _, _, _, _, _, p1, p2, p3, p4⟩ := rd_two q1 q2
      rw [iha c _ _ _ p1 p2, ihb d _ _ _ p3 p4]
    | _ => exact absurd hk (by simp [Fm.rk])
  | or a b iha ihb =>
    intro g v as bs r1 r2
    obtain ⟨hk, ws, cs, ds, q1, q2⟩ := rd_head r1 r2
    cases g with
    | or c d =>
      obtain ⟨_, _, _, _, _, _, p1, p2, p3, p4⟩ := rd_two q1 q2
      rw [iha c _ _ _ p1 p2, ihb d _ _ _ p3 p4]
    | _ => exact absurd hk (by simp [Fm.rk])
  | imp a b iha ihb =>
    intro g v as bs r1 r2
    obtain ⟨hk, ws, cs, ds, q1, q2⟩ := rd_head r1 r2
    cases g with
    | imp c d =>
      obtain ⟨_, _, _, _, _, _, p1, p2, p3, p4⟩ := rd_two q1 q2
      rw [iha c _ _ _ p1 p2, ihb d _ _ _ p3 p4]
    | _ => exact absurd hk (by simp [Fm.rk])
  | box a iha =>
    intro g v as bs r1 r2
    obtain ⟨hk, ws, cs, ds, q1, q2⟩ := rd_head r1 r2
    cases g with
    | box c =>
      obtain ⟨_, _, _, p1, p2⟩ := rd_one q1 q2
      rw [iha c _ _ _ p1 p2]
    | _ => exact absurd hk (by simp [Fm.rk])
  | fal =>
    intro g v as bs r1 r2
    obtain ⟨hk, ws, cs, ds, q1, q2⟩ := rd_head r1 r2
    cases g with
    | fal => rfl
    | _ => exact absurd hk (by simp [Fm.rk])
  | var n =>
    intro g v as bs r1 r2
    obtain ⟨hk, ws, cs, ds, q1, q2⟩ := rd_head r1 r2
    cases g with
    | var m =>
      obtain ⟨_, _, _, p1, p2⟩ := rd_one q1 q2
      cases p1
      cases p2
      rfl
    | _ => exact absurd hk (by simp [Fm.rk])
/-- formulas as keys, read off a heap -/
noncomputable def fmKind (h : Heap) (fs : List Fm) : PyProof.Rows.KeyKind where
  toKeyOrd := listOrd itemOrd
  keyOf v := open Classical in if q : ∃ f, f ∈ fs ∧ ∃ as, Reads h v f.d as then some q.choose.toks else none
  dflt := ([] : Tk)
theorem fmKind_some {h : Heap} {fs : List Fm} {v : Value} {f : Fm} {as : List Addr} (hf : f ∈ fs) (r : Reads h v f.d as) : (fmKind h fs).keyOf v = some f.toks := by
  have q : ∃ f, f ∈ fs ∧ ∃ as, Reads h v f.d as := ⟨f, hf, as, r⟩
  obtain ⟨_, as', h2⟩ := q.choose_spec
  have e : q.choose = f := rd_uniq _ _ _ _ _ h2 r
  show (open Classical in if q : ∃ f, f ∈ fs ∧ ∃ as, Reads h v f.d as then some q.choose.toks else none) = _
  rw [dif_pos q, e]
theorem fmKind_inv {h : Heap} {fs : List Fm} {v : Value} {k : Tk} (e : (fmKind h fs).keyOf v = some k) : ∃ f as, f ∈ fs ∧ Reads h v f.d as ∧ k = f.toks := by
  have e' : (open Classical in if q : ∃ f, f ∈ fs ∧ ∃ as, Reads h v f.d as then some q.choose.toks else none) = some k := e
  by_cases q : ∃ f, f ∈ fs ∧ ∃ as, Reads h v f.d as
  · obtain ⟨h1, as', h2⟩ := q.choose_spec
    rw [dif_pos q] at e'
    exact ⟨_, as', h1, h2, (Option.some.inj e').symm⟩
  · rw [dif_neg q] at e'
    cases e'
section
variable {prog : Program} {w : World} {A : Around} {E : Value → Shared → Prop} {s : Shared}
theorem lex_tail {fin k : Bool} {Q : Bool → Shared → Prop} (hq : Q k s) : ∀ (l : List (Value × Value)) (i : Nat), TupLt A s fin k l → KatLex prog w A true fin Q l (i + 1) s
  | _, _, .nil e => kat_nil (by rw [e]; exact hq)
  | _, i, .yes (r := r) e t => kat_cons (e prog w _ _ (kat_yes (lex_tail hq r (i + 1) t)))
  | _, i, .no e lt => kat_cons (e prog w _ _ (kat_no (by
      show wpAny (model prog w) A (oneLt' (true && (i + 1 == 0)) _ _) Q _ s
      rw [show (true && (i + 1 == 0)) = false from rfl]
      exact kat_one _ _ (lt prog w _ _ hq))))
theorem sorts_fm {vs : List Value} {fs : List Fm} (e : EachIs (fun v f => ∃ as, Reads s.heap v f.d as) vs fs) (hl : ∀ f, f ∈ fs → f.d.canLay0 = true ∧ A.units + f.ht < cLine) : SortsAt prog w A s (fmKind s.heap fs) vs := by
  refine ⟨fun v hv => ?_, tuples' (Value.type "str" != Value.type "tuple"), ?_, fun h2 E Q hq => ?_⟩
  · obtain ⟨f, hf, as, r⟩ := e.left v hv
    exact ⟨_, fmKind_some hf r⟩
  · intro E x y a b Q ha hb hq
    obtain ⟨f, as, hf, rf, rfl⟩ := fmKind_inv ha
    obtain ⟨g, bs, hg, rg, rfl⟩ := fmKind_inv hb
    have hq' : Q (f.lt g) s := hq
    obtain ⟨l, o, vs, k, t, ws, cs, rfl, h1, h2, h3, h4, h5⟩ := rd_items rf
    obtain ⟨l', o', vs', k', t', ws', cs', rfl, k1, k2, k3, k4, k5⟩ := rd_items rg
    have room : A.units + min f.ht g.ht < cLine := by
      have := (hl f hf).2
      omega
    refine kat_lt h1 h3 k1 k3 ?_
    rw [h4, k4, List.zip_cons_cons, show (Value.type "str" != Value.type "tuple") = true by decide]
    have t1 := EqAt.str_str (A := A) (s := s) f.sg t g.sg t'
    by_cases hk : f.rk = g.rk
    · rw [show f.sg = g.sg from congrArg sgT hk] at t1 ⊢
      rw [beq_self_eq_true] at t1
      have hsz : decide (vs.size < vs'.size) = false := by
        rw [size_of h4, size_of k4, List.length_cons, List.length_cons, SeqAt.ReadsAll.length _ _ _ h5, SeqAt.ReadsAll.length _ _ _ k5]
        have : f.pts.length = g.pts.length := by
          cases f <;> cases g <;> first | rfl | exact absurd hk (by simp [Fm.rk])
        rw [this]
        exact decide_eq_false (Nat.lt_irrefl _)
      rw [hsz]
      refine kat_cons (t1 prog w _ _ (kat_yes (lex_tail hq' _ 0 ?_)))
      exact seq_pts f g hk A s ws ws' cs cs' h5 k5 (hl f hf).1 (hl g hg).1 (by omega) fun f' g' v u cs ds hf' r1 r2 l1 l2 hu' => rc_fm f'.ht f' g' A s v u cs ds (Nat.le_refl _) r1 r2 l1 l2 hu'
    · rw [show (f.sg == g.sg) = false from sgT_ne _ _ hk] at t1
      refine kat_cons (t1 prog w _ _ (kat_no ?_))
      rw [lt_rk hk, ← sgT_lt] at hq'
      exact oneLt_str hq'
  · have firsts : ∀ {vs : List Value} {fs : List Fm}, EachIs (fun v f => ∃ as, Reads s.heap v f.d as) vs fs → ∃ us, KatTups s.heap vs us ∧ us.length = vs.length ∧ ∀ u ∈ us, ∃ x t, u = Value.str x t := by
      intro vs fs e
      induction e with
      | nil => exact ⟨[], KatTups.nil, rfl, fun u hu => nomatch hu⟩
      | cons h _ ih =>
        obtain ⟨as, r⟩ := h
        obtain ⟨us, a1, a2, a3⟩ := ih
        obtain ⟨l, o, vs, k, t, ws, cs, rfl, h1, h2, h3, h4, h5⟩ := rd_items r
        refine ⟨.str _ t :: us, KatTups.cons h1 h2 h3 (by rw [← Array.getElem?_toList, h4]; rfl) a1, by rw [List.length_cons, List.length_cons, a2], fun u hu => ?_⟩
        rcases List.mem_cons.mp hu with rfl | hu
        · exact ⟨_, _, rfl⟩
        · exact a3 u hu
    obtain ⟨us, a1, a2, a3⟩ := firsts e
    refine kat_kind (T := .type "str") a1 (by omega) (fun u hu => ?_) (beq_self_eq_true _) hq
    obtain ⟨x, t, rfl⟩ := a3 u hu
    exact Looks.of_pure rfl
end
def Fm.le (f g : Fm) : Bool := !g.lt f
/-- sorted(xs), xs a list of formulas -/
def rSortedF (K : PySem.W.Frag) : List V → Hp → VK → Prop := fun vs H Q => ∃ (a : Addr) (xs : List V) (fs : List Fm), vs = [V.ref a] ∧ SqL K H a xs ∧ ImAll K H xs (fs.map Fm.d) ∧ (∀ f ∈ fs, f.d.canLay0 = true ∧ f.ht ≤ 100) ∧
  ∀ (p : Addr) (ys : List V), H p = none → ImAll K H ys ((fs.mergeSort Fm.le).map Fm.d) → Q (.ref p) (upd H p (.lst ys))
theorem each_of {X : Cx} {pins : List (Addr × Obj)} {σ : L2.St} {H : Hp} {s : Shared} (I : Inv X pins σ H s) : ∀ {xs : List V} {us : List Value} {fs : List Fm}, Vals xs us → ImAll X.K H xs (fs.map Fm.d) →
    EachIs (fun v f => ∃ x : V, RelV x v ∧ Im X.K H x (Fm.d f)) us fs ∧ EachIs (fun v f => ∃ as, Reads s.heap v (Fm.d f) as) us fs
  | _, _, [], .nil, _ => ⟨.nil, .nil⟩
  | _, _, f :: fs, .cons r t, i => by
    have i' : ImAll X.K H _ (f.d :: fs.map Fm.d) := i
    cases i' with
    | cons i1 i2 =>
      obtain ⟨a1, a2⟩ := each_of I t i2
      exact ⟨.cons ⟨_, r, i1⟩ a1, .cons (Dp.reads I _ _ _ i1.dp r) a2⟩
theorem each_back {K : PySem.W.Frag} {H : Hp} : ∀ {us : List Value} {fs : List Fm}, EachIs (fun v f => ∃ x : V, RelV x v ∧ Im K H x (Fm.d f)) us fs → ∃ ys : List V, Vals ys us ∧ ImAll K H ys (fs.map Fm.d)
  | _, _, .nil => ⟨[], .nil, .nil⟩
  | _, _, .cons ⟨x, r, i⟩ t => by
    obtain ⟨ys, h1, h2⟩ := each_back t
    exact ⟨x :: ys, .cons r h1, .cons i h2⟩
section
variable {X : Cx}
theorem cr_sortedF (hu64 : X.A.units + 200 < cLine) : CallR X (.builtin "sorted") (rSortedF X.K) := by
  intro pins s σ H vs us Q I r h
  obtain ⟨a, xs, fs, rfl, hs, hi, hb, q⟩ := h
  obtain ⟨its, rv, hl, hz⟩ := I.list hs
  obtain ⟨u, rfl, ru⟩ := vals1 r
  obtain rfl : u = Value.ref a := ru
  obtain ⟨e1, e2⟩ := each_of I rv hi
  have e3 : EachIs (fun v f => ∃ as, Reads (sortingHeap (copyHeap s.heap its) (s.heap.objs.size + 1) its) v (Fm.d f) as) its fs := e2.mono fun v f ⟨as, r⟩ => ⟨as, PyProof.Rows.Reads.keeps (fun _ _ => sorting_copy_old) r⟩
  refine sorted_vals (κ := fmKind (sortingHeap (copyHeap s.heap its) (s.heap.objs.size + 1) its) fs) hl.isList (sorts_fm (s := { s with heap := sortingHeap (copyHeap s.heap its) (s.heap.objs.size + 1) its }) e3 fun f hf => ⟨(hb f hf).1, ?_⟩) (by rw [← rv.length]; exact hz) ?_
  · have := (hb f hf).2
    show X.A.units + 1 + 1 + f.ht < cLine
    omega
  · have ek : EachIs (fun v f => (fmKind (sortingHeap (copyHeap s.heap its) (s.heap.objs.size + 1) its) fs).keyOf v = some (Fm.toks f)) its fs := (each_mem e3).mono fun v f ⟨⟨as, r⟩, hf⟩ => fmKind_some hf r
    have es := sortVals_each (κ := fmKind (sortingHeap (copyHeap s.heap its) (s.heap.objs.size + 1) its) fs) (rev := false) Fm.toks e1 ek
    obtain ⟨ys, y1, y2⟩ := each_back es
    obtain ⟨n, hn⟩ := sortedAll_at s.heap its (sortVals (fmKind (sortingHeap (copyHeap s.heap its) (s.heap.objs.size + 1) its) fs) false its its).toArray
    have hf : s.heap.objs.size ≤ s.heap.objs.size + 1 := Nat.le_succ _
    refine ⟨.ref (s.heap.objs.size + 1), upd H _ (.lst ys), I.laid (t' := s.toks) (fun _ _ => sortedAll_old) hf ⟨?_, _, n, y1, hn⟩, rfl, q _ ys (I.hok.fresh hf) y2⟩
    have hl2 := y1.length
    rw [sortVals_length false rfl] at hl2
    have := rv.length
    omega
end
end E
namespace E
open PySem PySem.Spec PyProof.Rows L2 PySem.SeqAt ELt PySem.W PySem.Calls
def rLtF (K : PySem.W.Frag) : R2 := fun x y H Q => ∃ f g : Fm, Im K H x f.d ∧ Im K H y g.d ∧ f.d.canLay0 = true ∧ g.d.canLay0 = true ∧ f.ht ≤ 100 ∧ Q (.bl (f.lt g)) H
theorem op_ltF {X : Cx} (hu : X.A.units + 200 < cLine) : OpR X (compareOp .Lt) (rLtF X.K) := by
  intro pins s σ H x y v u Q I rx ry h
  obtain ⟨f, g, hf, hg, lf, lg, hh, q⟩ := h
  obtain ⟨as, r1⟩ := Dp.reads I _ x v hf.dp rx
  obtain ⟨bs, r2⟩ := Dp.reads I _ y u hg.dp ry
  exact rc_fm f.ht f g X.A s v u as bs (Nat.le_refl _) r1 r2 lf lg (by omega) X.prog X.w _ _ ⟨.bl _, H, I, rfl, q⟩
end E
#print axioms E.op_ltF
#print axioms E.cr_sortedF

set_option Elab.async false
set_option linter.all false
set_option maxRecDepth 100000
set_option maxHeartbeats 4000000
namespace E
open PySem PySem.Spec PyProof.Rows L2
/-! ### ascending lists of formulas -/
def dd (l : List Fm) : List Fm := l.foldl (fun acc x => if acc.getLast? = some x then acc else acc ++ [x]) []
def dist (l : List Fm) : List Fm := dd (l.mergeSort Fm.le)
theorem dd_snoc (l : List Fm) (x : Fm) : dd (l ++ [x]) = if (dd l).getLast? = some x then dd l else dd l ++ [x] := by
  unfold dd
  rw [List.foldl_append]
  rfl
def Asc (l : List Fm) : Prop := l.Pairwise fun a b => a.lt b = true
theorem le_total (a b : Fm) : a.le b = true ∨ b.le a = true := by
  unfold Fm.le
  cases e : b.lt a with
  | false => exact .inl rfl
  | true => exact .inr (by rw [Fm.lt_asymm e]; rfl)
theorem lt_of_le_ne {a b : Fm} (h : a.le b = true) (n : a ≠ b) : a.lt b = true := by
  unfold Fm.le at h
  rw [Bool.not_eq_true'] at h
  cases e : a.lt b with
  | true => rfl
  | false => exact absurd (Fm.lt_total e h) n
theorem le_of_lt {a b : Fm} (h : a.lt b = true) : a.le b = true := by
  unfold Fm.le
  rw [Fm.lt_asymm h]
  rfl
theorem le_trans' {a b c : Fm} (h1 : a.le b = true) (h2 : b.le c = true) : a.le c = true := by
  by_cases e : a = b
  · rw [e]; exact h2
  · by_cases e2 : b = c
    · rw [← e2]; exact h1
    · exact le_of_lt (Fm.lt_trans (lt_of_le_ne h1 e) (lt_of_le_ne h2 e2))
theorem ms_sorted (l : List Fm) : (l.mergeSort Fm.le).Pairwise fun a b => a.le b = true :=
  List.pairwise_mergeSort (le := Fm.le) (fun a b c h1 h2 => le_trans' (a := a) (b := b) (c := c) h1 h2) (fun a b => Bool.or_eq_true_iff.mpr (le_total a b)) l
theorem getLast?_of_pairwise {l : List Fm} {x y : Fm} (h : l.getLast? = some y) (p : Asc l) (hx : x ∈ l) : x = y ∨ x.lt y = true := by
  obtain ⟨l', rfl⟩ := List.getLast?_eq_some_iff.mp h
  rcases List.mem_append.mp hx with q | q
  · exact .inr ((List.pairwise_append.mp p).2.2 x q y (List.mem_singleton.mpr rfl))
  · exact .inl (List.mem_singleton.mp q)
theorem snoc_ind {α : Type} {P : List α → Prop} (h0 : P []) (hs : ∀ l x, P l → P (l ++ [x])) (l : List α) : P l := by
  have : ∀ r : List α, P r.reverse := by
    intro r
    induction r with
    | nil => exact h0
    | cons x r ih =>
      rw [List.reverse_cons]
      exact hs _ _ ih
  have e := this l.reverse
  rw [List.reverse_reverse] at e
  exact e
/-- the walk over a sorted list: strictly ascending, the same members, a part of it -/
theorem dd_spec (l : List Fm) : (l.Pairwise fun a b => a.le b = true) → Asc (dd l) ∧ (∀ x, x ∈ dd l ↔ x ∈ l) ∧ (dd l).Sublist l ∧ (dd l).getLast? = l.getLast? := by
  induction l using snoc_ind with
  | h0 => exact fun _ => ⟨.nil, fun x => Iff.rfl, List.Sublist.refl _, rfl⟩
  | hs l x ih =>
    intro p
    obtain ⟨p1, _, p2⟩ := List.pairwise_append.mp p
    obtain ⟨a1, a2, a3, a4⟩ := ih p1
    rw [dd_snoc]
    by_cases e : (dd l).getLast? = some x
    · rw [if_pos e]
      refine ⟨a1, fun y => ?_, a3.trans (List.sublist_append_left _ _), by rw [e, List.getLast?_append]; rfl⟩
      rw [a2, List.mem_append, List.mem_singleton]
      constructor
      · exact .inl
      · rintro (q | rfl)
        · exact q
        · exact (a2 y).mp (List.mem_of_getLast? e)
    · rw [if_neg e]
      refine ⟨List.pairwise_append.mpr ⟨a1, List.pairwise_singleton _ _, fun y hy z hz => ?_⟩, fun y => ?_, List.Sublist.append a3 (List.Sublist.refl _), by rw [List.getLast?_append, List.getLast?_append]; rfl⟩
      · rw [List.mem_singleton] at hz
        subst hz
        refine lt_of_le_ne (p2 y ((a2 y).mp hy) z (List.mem_singleton.mpr rfl)) fun q => ?_
        subst q
        cases g : (dd l).getLast? with
        | none =>
          rw [List.getLast?_eq_none_iff] at g
          rw [g] at hy
          cases hy
        | some m =>
          have hm : m ∈ dd l := List.mem_of_getLast? g
          rcases getLast?_of_pairwise g a1 hy with q | q
          · rw [q] at e; exact e g
          · have := p2 m ((a2 m).mp hm) y (List.mem_singleton.mpr rfl)
            unfold Fm.le at this
            rw [q] at this
            cases this
      · rw [List.mem_append, List.mem_append, a2]
theorem dist_asc (l : List Fm) : Asc (dist l) := (dd_spec _ (ms_sorted l)).1
theorem dist_mem {l : List Fm} {x : Fm} : x ∈ dist l ↔ x ∈ l := ((dd_spec _ (ms_sorted l)).2.1 x).trans ((List.mergeSort_perm l Fm.le).mem_iff)
theorem asc_one : ∀ {l m : List Fm}, Asc l → Asc m → (∀ x, x ∈ l ↔ x ∈ m) → l = m
  | [], [], _, _, _ => rfl
  | [], y :: m, _, _, h => absurd ((h y).mpr List.mem_cons_self) (by simp)
  | x :: l, [], _, _, h => absurd ((h x).mp List.mem_cons_self) (by simp)
  | x :: l, y :: m, hl, hm, h => by
    have hl' := List.pairwise_cons.mp hl
    have hm' := List.pairwise_cons.mp hm
    have e : x = y := by
      rcases List.mem_cons.mp ((h x).mp List.mem_cons_self) with q | q
      · exact q
      · rcases List.mem_cons.mp ((h y).mpr List.mem_cons_self) with r | r
        · exact r.symm
        · have h1 := hm'.1 x q
          have h2 := hl'.1 y r
          rw [Fm.lt_asymm h1] at h2
          cases h2
    subst e
    have : l = m := asc_one hl'.2 hm'.2 fun z => by
      constructor
      · intro q
        rcases List.mem_cons.mp ((h z).mp (List.mem_cons_of_mem _ q)) with r | r
        · subst r
          have := hl'.1 z q
          rw [Fm.lt_irrefl] at this
          cases this
        · exact r
      · intro q
        rcases List.mem_cons.mp ((h z).mpr (List.mem_cons_of_mem _ q)) with r | r
        · subst r
          have := hm'.1 z q
          rw [Fm.lt_irrefl] at this
          cases this
        · exact r
    rw [this]
theorem dist_ext {l m : List Fm} (h : ∀ x, x ∈ l ↔ x ∈ m) : dist l = dist m := asc_one (dist_asc l) (dist_asc m) fun x => by rw [dist_mem, dist_mem, h]
theorem dist_self {l : List Fm} (h : Asc l) : dist l = l := asc_one (dist_asc l) h fun x => dist_mem
theorem dist_len (l : List Fm) : (dist l).length ≤ l.length := by
  have := (dd_spec _ (ms_sorted l)).2.2.1.length_le
  rw [List.length_mergeSort] at this
  exact this
theorem sub_sum (k : Fm → Nat) : ∀ {l m : List Fm}, l.Sublist m → (l.map k).sum ≤ (m.map k).sum
  | _, _, .slnil => Nat.le_refl _
  | _, _, .cons x h => by
    rw [List.map_cons, List.sum_cons]
    exact Nat.le_trans (sub_sum k h) (Nat.le_add_left _ _)
  | _, _, .cons₂ x h => by
    rw [List.map_cons, List.sum_cons, List.map_cons, List.sum_cons]
    exact Nat.add_le_add_left (sub_sum k h) _
theorem dist_sum (k : Fm → Nat) (l : List Fm) : ((dist l).map k).sum ≤ (l.map k).sum := by
  refine Nat.le_trans (sub_sum k (dd_spec _ (ms_sorted l)).2.2.1) ?_
  rw [((List.mergeSort_perm l Fm.le).map k).sum_nat]
  exact Nat.le_refl _
/-! ### parts, levels -/
def Fm.kids : Fm → List Fm
  | .and a b => [a, b]
  | .or a b => [a, b]
  | .imp a b => [a, b]
  | .box a => [a]
  | .fal => []
  | .var _ => []
def Fm.sz : Fm → Nat
  | .and a b => a.sz + b.sz + 1
  | .or a b => a.sz + b.sz + 1
  | .imp a b => a.sz + b.sz + 1
  | .box a => a.sz + 1
  | .fal => 1
  | .var _ => 1
theorem Fm.sz_pos (f : Fm) : 1 ≤ f.sz := by cases f <;> exact Nat.le_add_left _ _
theorem kids_sz (f : Fm) : (f.kids.map Fm.sz).sum + 1 = f.sz := by cases f <;> simp [Fm.kids, Fm.sz]
theorem kids_ht {f g : Fm} (h : g ∈ f.kids) : g.ht < f.ht := by
  cases f with
  | and a b =>
    have q : g = a ∨ g = b := by simpa [Fm.kids] using h
    show _ < max a.ht b.ht + 1
    rcases q with rfl | rfl <;> omega
  | or a b =>
    have q : g = a ∨ g = b := by simpa [Fm.kids] using h
    show _ < max a.ht b.ht + 1
    rcases q with rfl | rfl <;> omega
  | imp a b =>
    have q : g = a ∨ g = b := by simpa [Fm.kids] using h
    show _ < max a.ht b.ht + 1
    rcases q with rfl | rfl <;> omega
  | box a =>
    have q : g = a := by simpa [Fm.kids] using h
    subst q
    exact Nat.lt_succ_self _
  | fal => cases h
  | var n => cases h
/-- one more level down -/
def down (l : List Fm) : List Fm := dist (l.flatMap Fm.kids)
def levs : Nat → List Fm → List (List Fm)
  | 0, _ => []
  | n + 1, l => if l = [] then [] else l :: levs n (down l)
theorem down_sum (l : List Fm) : ((down l).map Fm.sz).sum + l.length ≤ (l.map Fm.sz).sum := by
  have h1 := dist_sum Fm.sz (l.flatMap Fm.kids)
  have h2 : ((l.flatMap Fm.kids).map Fm.sz).sum + l.length = (l.map Fm.sz).sum := by
    induction l with
    | nil => rfl
    | cons f l ih =>
      have ih' := ih (dist_sum Fm.sz (l.flatMap Fm.kids))
      rw [List.flatMap_cons, List.map_append, List.sum_append_nat, List.map_cons, List.sum_cons, List.length_cons, ← kids_sz f]
      omega
  unfold down
  omega
theorem sum_len (l : List Fm) : l.length ≤ (l.map Fm.sz).sum := by
  induction l with
  | nil => exact Nat.le_refl _
  | cons f l ih =>
    rw [List.map_cons, List.sum_cons, List.length_cons]
    have := f.sz_pos
    omega
theorem down_mem {l : List Fm} {x : Fm} : x ∈ down l ↔ ∃ f ∈ l, x ∈ f.kids := by
  unfold down
  rw [dist_mem, List.mem_flatMap]
/-- all that occurs in a formula -/
def Fm.subs : Fm → List Fm
  | .and a b => .and a b :: (a.subs ++ b.subs)
  | .or a b => .or a b :: (a.subs ++ b.subs)
  | .imp a b => .imp a b :: (a.subs ++ b.subs)
  | .box a => .box a :: a.subs
  | .fal => [.fal]
  | .var n => [.var n]
theorem subs_kids {f x : Fm} : x ∈ f.subs ↔ x = f ∨ ∃ g ∈ f.kids, x ∈ g.subs := by
  cases f <;> simp [Fm.subs, Fm.kids]
/-- what stands on the levels: all that occurs in the first one -/
theorem levs_mem : ∀ (n : Nat) (l : List Fm), (∀ f ∈ l, f.ht ≤ n) → ∀ x, x ∈ (levs n l).flatten ↔ ∃ f ∈ l, x ∈ f.subs
  | 0, l, h, x => by
    constructor
    · intro q
      cases q
    · rintro ⟨f, hf, _⟩
      exact absurd (h f hf) (by have := f.ht_pos; omega)
  | n + 1, l, h, x => by
    rw [levs]
    by_cases e : l = []
    · rw [if_pos e, e]
      simp
    · rw [if_neg e, List.flatten_cons, List.mem_append, levs_mem n (down l) (fun f hf => by
        obtain ⟨g, hg, hk⟩ := down_mem.mp hf
        have h1 := kids_ht hk
        have h2 := h g hg
        omega) x]
      constructor
      · rintro (q | ⟨f, hf, hx⟩)
        · exact ⟨x, q, subs_kids.mpr (.inl rfl)⟩
        · obtain ⟨g, hg, hk⟩ := down_mem.mp hf
          exact ⟨g, hg, subs_kids.mpr (.inr ⟨f, hk, hx⟩)⟩
      · rintro ⟨f, hf, hx⟩
        rcases subs_kids.mp hx with rfl | ⟨g, hg, hx⟩
        · exact .inl hf
        · exact .inr ⟨g, down_mem.mpr ⟨f, hf, hg⟩, hx⟩
theorem levs_len : ∀ (n : Nat) (l : List Fm), (levs n l).length ≤ n
  | 0, _ => Nat.le_refl _
  | n + 1, l => by
    rw [levs]
    split
    · exact Nat.zero_le _
    · rw [List.length_cons]
      have := levs_len n (down l)
      omega
theorem levs_sum : ∀ (n : Nat) (l : List Fm), ((levs n l).map List.length).sum ≤ (l.map Fm.sz).sum
  | 0, _ => Nat.zero_le _
  | n + 1, l => by
    rw [levs]
    split
    · exact Nat.zero_le _
    · rw [List.map_cons, List.sum_cons]
      have h1 := levs_sum n (down l)
      have h2 := down_sum l
      omega
end E

set_option Elab.async false
set_option linter.all false
set_option maxRecDepth 100000
set_option maxHeartbeats 4000000
namespace E
open PySem PySem.Spec PyProof.Rows L2
/-! ### comprehensions of two loops -/
section
variable {K : PySem.W.Frag}
/-- the outer loop, over a list -/
theorem out_list {a : Addr} {xs : List V} {g g1 : TG} {tt tt1 : TT} {wi1 : TI} {te : TE} {vs vs1 : List Nat} {σ : L2.St} {H1 : Hp} {D : Addr} {Qd : Hp → Prop} (Pv : Nat → Hp → Prop) (start : Pv 0 (upd H1 D (.lst []))) (at_ : ∀ i H, i ≤ xs.length → Pv i H → SqL K H a xs)
    (turn : ∀ i x H, xs[i]? = some x → Pv i H → g x (wipe σ vs) H fun σ2 H2 => wipe σ2 vs = wipe σ vs ∧ tt σ2 H2 fun b H3 => if b = true then wi1 σ2 H3 fun J1 H4 => ∃ W1 : Nat → Nat → Hp → Prop, (∃ m, W1 0 m H4) ∧ ∀ j k H, W1 j k H →
      (J1.stop j H ∧ Pv (i + 1) H) ∨ (J1.go j H ∧ ∃ N1 : Hp → Prop, (∀ H', N1 H' → ∃ k', k' < k ∧ W1 (j + 1) k' H') ∧ ∀ x H', J1.yld j H x H' → g1 x (wipe σ2 vs1) H' fun σ3 H5 => wipe σ3 vs1 = wipe σ2 vs1 ∧ tt1 σ3 H5 fun b H6 =>
        if b = true then te σ3 H6 fun y H7 => ∃ acc, H7 D = some (.lst acc) ∧ acc.length < sizeLine ∧ N1 (upd H7 D (.lst (acc ++ [y]))) else N1 H6) else Pv (i + 1) H3) (fin : ∀ H, Pv xs.length H → Qd H) :
    ∃ W : Nat → Nat → Hp → Prop, (∃ m, W 0 m (upd H1 D (.lst []))) ∧ ∀ i m H, W i m H →
      ((Itl K a).stop i H ∧ Qd H) ∨ ((Itl K a).go i H ∧ ∃ Nx : Hp → Prop, (∀ H', Nx H' → ∃ m', m' < m ∧ W (i + 1) m' H') ∧ ∀ x H', (Itl K a).yld i H x H' → g x (wipe σ vs) H' fun σ2 H2 => wipe σ2 vs = wipe σ vs ∧ tt σ2 H2 fun b H3 =>
        if b = true then wi1 σ2 H3 fun J1 H4 => ∃ W1 : Nat → Nat → Hp → Prop, (∃ m, W1 0 m H4) ∧ ∀ j k H, W1 j k H →
          (J1.stop j H ∧ Nx H) ∨ (J1.go j H ∧ ∃ Nx1 : Hp → Prop, (∀ H', Nx1 H' → ∃ k', k' < k ∧ W1 (j + 1) k' H') ∧ ∀ x H', J1.yld j H x H' → g1 x (wipe σ2 vs1) H' fun σ3 H5 => wipe σ3 vs1 = wipe σ2 vs1 ∧ tt1 σ3 H5 fun b H6 =>
            if b = true then te σ3 H6 fun y H7 => ∃ acc, H7 D = some (.lst acc) ∧ acc.length < sizeLine ∧ Nx1 (upd H7 D (.lst (acc ++ [y]))) else Nx1 H6)
        else Nx H3) := by
  refine ⟨fun i m H => m + i = xs.length ∧ Pv i H, ⟨xs.length, rfl, start⟩, fun i m H h => ?_⟩
  obtain ⟨hm, p⟩ := h
  have q := at_ i H (by omega) p
  by_cases hi : i < xs.length
  · refine Or.inr ⟨⟨xs, xs[i], q, List.getElem?_eq_getElem hi⟩, Pv (i + 1), fun H' p' => ⟨m - 1, by omega, by omega, p'⟩, fun x H' y => ?_⟩
    obtain ⟨rfl, y⟩ := y
    exact turn i x _ (y xs q) p
  · refine Or.inl ⟨⟨xs, q, by omega⟩, fin H ?_⟩
    rw [show xs.length = i by omega]
    exact p
/-- the inner loop, over a tuple -/
theorem in_tup {b : Addr} {ys : List V} {g1 : TG} {tt1 : TT} {te : TE} {vs1 : List Nat} {σ2 : L2.St} {H4 : Hp} {D : Addr} {Nx : Hp → Prop} (Pv : Nat → Hp → Prop) (start : Pv 0 H4) (at_ : ∀ j H, j ≤ ys.length → Pv j H → SqT K H b ys)
    (turn : ∀ j y H, ys[j]? = some y → Pv j H → g1 y (wipe σ2 vs1) H fun σ3 H5 => wipe σ3 vs1 = wipe σ2 vs1 ∧ tt1 σ3 H5 fun b H6 => if b = true then te σ3 H6 fun y H7 => ∃ acc, H7 D = some (.lst acc) ∧ acc.length < sizeLine ∧ Pv (j + 1) (upd H7 D (.lst (acc ++ [y]))) else Pv (j + 1) H6)
    (fin : ∀ H, Pv ys.length H → Nx H) :
    ∃ W1 : Nat → Nat → Hp → Prop, (∃ m, W1 0 m H4) ∧ ∀ j k H, W1 j k H →
      ((Itt K b).stop j H ∧ Nx H) ∨ ((Itt K b).go j H ∧ ∃ Nx1 : Hp → Prop, (∀ H', Nx1 H' → ∃ k', k' < k ∧ W1 (j + 1) k' H') ∧ ∀ x H', (Itt K b).yld j H x H' → g1 x (wipe σ2 vs1) H' fun σ3 H5 => wipe σ3 vs1 = wipe σ2 vs1 ∧ tt1 σ3 H5 fun b H6 =>
        if b = true then te σ3 H6 fun y H7 => ∃ acc, H7 D = some (.lst acc) ∧ acc.length < sizeLine ∧ Nx1 (upd H7 D (.lst (acc ++ [y]))) else Nx1 H6) := by
  refine ⟨fun i m H => m + i = ys.length ∧ Pv i H, ⟨ys.length, rfl, start⟩, fun i m H h => ?_⟩
  obtain ⟨hm, p⟩ := h
  have q := at_ i H (by omega) p
  by_cases hi : i < ys.length
  · refine Or.inr ⟨⟨ys, ys[i], q, List.getElem?_eq_getElem hi⟩, Pv (i + 1), fun H' p' => ⟨m - 1, by omega, by omega, p'⟩, fun x H' y => ?_⟩
    obtain ⟨rfl, y⟩ := y
    exact turn i x _ (y ys q) p
  · refine Or.inl ⟨⟨ys, q, by omega⟩, fin H ?_⟩
    rw [show ys.length = i by omega]
    exact p
/-- the inner loop, over a list -/
theorem in_list {b : Addr} {ys : List V} {g1 : TG} {tt1 : TT} {te : TE} {vs1 : List Nat} {σ2 : L2.St} {H4 : Hp} {D : Addr} {Nx : Hp → Prop} (Pv : Nat → Hp → Prop) (start : Pv 0 H4) (at_ : ∀ j H, j ≤ ys.length → Pv j H → SqL K H b ys)
    (turn : ∀ j y H, ys[j]? = some y → Pv j H → g1 y (wipe σ2 vs1) H fun σ3 H5 => wipe σ3 vs1 = wipe σ2 vs1 ∧ tt1 σ3 H5 fun b H6 => if b = true then te σ3 H6 fun y H7 => ∃ acc, H7 D = some (.lst acc) ∧ acc.length < sizeLine ∧ Pv (j + 1) (upd H7 D (.lst (acc ++ [y]))) else Pv (j + 1) H6)
    (fin : ∀ H, Pv ys.length H → Nx H) :
    ∃ W1 : Nat → Nat → Hp → Prop, (∃ m, W1 0 m H4) ∧ ∀ j k H, W1 j k H →
      ((Itl K b).stop j H ∧ Nx H) ∨ ((Itl K b).go j H ∧ ∃ Nx1 : Hp → Prop, (∀ H', Nx1 H' → ∃ k', k' < k ∧ W1 (j + 1) k' H') ∧ ∀ x H', (Itl K b).yld j H x H' → g1 x (wipe σ2 vs1) H' fun σ3 H5 => wipe σ3 vs1 = wipe σ2 vs1 ∧ tt1 σ3 H5 fun b H6 =>
        if b = true then te σ3 H6 fun y H7 => ∃ acc, H7 D = some (.lst acc) ∧ acc.length < sizeLine ∧ Nx1 (upd H7 D (.lst (acc ++ [y]))) else Nx1 H6) := by
  refine ⟨fun i m H => m + i = ys.length ∧ Pv i H, ⟨ys.length, rfl, start⟩, fun i m H h => ?_⟩
  obtain ⟨hm, p⟩ := h
  have q := at_ i H (by omega) p
  by_cases hi : i < ys.length
  · refine Or.inr ⟨⟨ys, ys[i], q, List.getElem?_eq_getElem hi⟩, Pv (i + 1), fun H' p' => ⟨m - 1, by omega, by omega, p'⟩, fun x H' y => ?_⟩
    obtain ⟨rfl, y⟩ := y
    exact turn i x _ (y ys q) p
  · refine Or.inl ⟨⟨ys, q, by omega⟩, fin H ?_⟩
    rw [show ys.length = i by omega]
    exact p
end
/-! ### a formula's tuple -/
theorem im_inv {K : PySem.W.Frag} {H : Hp} {x : V} {f : Fm} (h : Im K H x f.d) : ∃ (a : Addr) (ys : List V), x = .ref a ∧ SqT K H a (.str f.sg :: ys) ∧ ImAll K H ys f.pts := by
  rw [Fm.d_eq] at h
  generalize f.sg = sg at h ⊢
  cases h with
  | tup h1 h2 =>
    cases h2 with
    | cons h3 h4 =>
      cases h3
      exact ⟨_, _, rfl, h1, h4⟩
def Fm.isVar : Fm → Bool
  | .var _ => true
  | _ => false
def Fm.isBox : Fm → Bool
  | .box _ => true
  | _ => false
theorem vsg : ∀ i j : Fin 6, decide (V.str (sgT i) = V.str (sgT j)) = decide (i = j) := by decide +kernel
theorem sg_var (f : Fm) : decide (V.str f.sg = V.str "var") = f.isVar := by
  show decide (V.str (sgT f.rk) = V.str (sgT 5)) = _
  rw [vsg]
  cases f <;> rfl
theorem sg_box (f : Fm) : decide (V.str f.sg = V.str "box") = f.isBox := by
  show decide (V.str (sgT f.rk) = V.str (sgT 1)) = _
  rw [vsg]
  cases f <;> rfl
theorem kids_pts {f : Fm} (h : f.isVar = false) : f.pts = f.kids.map Fm.d := by
  cases f <;> first | rfl | cases h
theorem kids_var {f : Fm} (h : f.isVar = true) : f.kids = [] ∧ ∃ n, f = .var n := by
  cases f <;> first | exact ⟨rfl, _, rfl⟩ | cases h
theorem cut_1 (xs : List V) (x : V) : cutV (x :: xs) (some 1) none = xs := by
  unfold cutV
  rw [show HT.sIx (x :: xs).length 0 (some 1) = 1 from by
    show (if (1 : Int) < 0 then ((1 : Int) + ((x :: xs).length : Int)).toNat else min (1 : Int).toNat (x :: xs).length) = 1
    rw [if_neg (by decide), List.length_cons]
    omega, HT.sIx_none]
  show List.take _ xs = xs
  exact List.take_of_length_le (by rw [List.length_cons]; omega)
theorem sIx_1 (xs : List V) (x : V) : HT.sIx (x :: xs).length 0 (some 1) = 1 := by
  show (if (1 : Int) < 0 then ((1 : Int) + ((x :: xs).length : Int)).toNat else min (1 : Int).toNat (x :: xs).length) = 1
  rw [if_neg (by decide), List.length_cons]
  omega
theorem imAll_of {K : PySem.W.Frag} {H : Hp} {xs : List V} {fs : List Fm} {x : V} {i : Nat} (hI : ImAll K H xs (fs.map Fm.d)) (h : xs[i]? = some x) : ∃ f, fs[i]? = some f ∧ Im K H x f.d := by
  obtain ⟨d, e, j⟩ := hI.get h
  rw [List.getElem?_map] at e
  cases e2 : fs[i]? with
  | none => rw [e2] at e; cases e
  | some f =>
    rw [e2] at e
    have : f.d = d := Option.some.inj e
    subst this
    exact ⟨f, rfl, j⟩
theorem take_snoc {α : Type} {l : List α} {i : Nat} {x : α} (h : l[i]? = some x) : l.take (i + 1) = l.take i ++ [x] := by
  rw [List.take_add_one, h]
  rfl
theorem fms_len {K : PySem.W.Frag} {H : Hp} {xs : List V} {fs : List Fm} (h : ImAll K H xs (fs.map Fm.d)) : xs.length = fs.length := by
  have := h.length
  rw [List.length_map] at this
  exact this
theorem imAll_append {K : PySem.W.Frag} {H : Hp} : ∀ {xs ys : List V} {ds es : List PyData}, ImAll K H xs ds → ImAll K H ys es → ImAll K H (xs ++ ys) (ds ++ es)
  | _, _, _, _, .nil, h => h
  | _, _, _, _, .cons a t, h => .cons a (imAll_append t h)
/-- a list of lists of formulas -/
inductive LvAt (K : PySem.W.Frag) (H : Hp) : List V → List (List Fm) → Prop
  | nil : LvAt K H [] []
  | cons {b : Addr} {ys : List V} {fs : List Fm} {vs : List V} {ls : List (List Fm)} : SqL K H b ys → ImAll K H ys (fs.map Fm.d) → LvAt K H vs ls → LvAt K H (.ref b :: vs) (fs :: ls)
theorem LvAt.same {K : PySem.W.Frag} {H H' : Hp} (s : Same H H') : ∀ {vs : List V} {ls : List (List Fm)}, LvAt K H vs ls → LvAt K H' vs ls
  | _, _, .nil => .nil
  | _, _, .cons h1 h2 t => .cons (s.seq h1) (h2.mono (Same.ts s)) (LvAt.same s t)
theorem LvAt.snoc {K : PySem.W.Frag} {H : Hp} {b : Addr} {ys : List V} {fs : List Fm} (h1 : SqL K H b ys) (h2 : ImAll K H ys (fs.map Fm.d)) : ∀ {vs : List V} {ls : List (List Fm)}, LvAt K H vs ls → LvAt K H (vs ++ [.ref b]) (ls ++ [fs])
  | _, _, .nil => .cons h1 h2 .nil
  | _, _, .cons a1 a2 t => .cons a1 a2 (LvAt.snoc h1 h2 t)
theorem LvAt.len {K : PySem.W.Frag} {H : Hp} : ∀ {vs : List V} {ls : List (List Fm)}, LvAt K H vs ls → vs.length = ls.length
  | _, _, .nil => rfl
  | _, _, .cons _ _ t => by rw [List.length_cons, List.length_cons, LvAt.len t]
theorem LvAt.get {K : PySem.W.Frag} {H : Hp} : ∀ {vs : List V} {ls : List (List Fm)} {i : Nat} {v : V}, LvAt K H vs ls → vs[i]? = some v → ∃ b ys fs, v = .ref b ∧ ls[i]? = some fs ∧ SqL K H b ys ∧ ImAll K H ys (fs.map Fm.d)
  | _, _, _, _, .nil, e => by simp at e
  | _, _, 0, _, .cons h1 h2 _, e => by simp at e; subst e; exact ⟨_, _, _, rfl, rfl, h1, h2⟩
  | _, _, i + 1, v, .cons _ _ t, e => by
    obtain ⟨b, ys, fs, q1, q2, q3⟩ := LvAt.get (i := i) (v := v) t (by simpa using e)
    exact ⟨b, ys, fs, q1, by simpa using q2, q3⟩
/-- the list that holds the levels grows -/
theorem LvAt.mut {K : PySem.W.Frag} {H H' : Hp} {L : Addr} {ws : List V} (k : Kp L H H') (hL : H L = some (.lst ws)) : ∀ {vs : List V} {ls : List (List Fm)}, LvAt K H vs ls → (∀ v ∈ vs, v ≠ .ref L) → LvAt K H' vs ls
  | _, _, .nil, _ => .nil
  | _, _, .cons h1 h2 t, n => .cons (k.sqL h1 fun e => n _ List.mem_cons_self (by rw [e])) (h2.mono (k.ts hL)) (LvAt.mut k hL t fun v hv => n v (List.mem_cons_of_mem _ hv))
theorem levs_nil (n : Nat) : levs n [] = [] := by cases n <;> rfl
theorem kids_subs {f g h : Fm} (h1 : g ∈ f.subs) (h2 : h ∈ g.kids) : h ∈ f.subs := by
  induction f with
  | and a b iha ihb =>
    rcases subs_kids.mp h1 with rfl | ⟨k, hk, hg⟩
    · exact subs_kids.mpr (.inr ⟨h, h2, subs_kids.mpr (.inl rfl)⟩)
    · have q : k = a ∨ k = b := by simpa [Fm.kids] using hk
      rcases q with rfl | rfl
      · exact subs_kids.mpr (.inr ⟨k, hk, iha hg⟩)
      · exact subs_kids.mpr (.inr ⟨k, hk, ihb hg⟩)
  | or a b iha ihb =>
    rcases subs_kids.mp h1 with rfl | ⟨k, hk, hg⟩
    · exact subs_kids.mpr (.inr ⟨h, h2, subs_kids.mpr (.inl rfl)⟩)
    · have q : k = a ∨ k = b := by simpa [Fm.kids] using hk
      rcases q with rfl | rfl
      · exact subs_kids.mpr (.inr ⟨k, hk, iha hg⟩)
      · exact subs_kids.mpr (.inr ⟨k, hk, ihb hg⟩)
  | imp a b iha ihb =>
    rcases subs_kids.mp h1 with rfl | ⟨k, hk, hg⟩
    · exact subs_kids.mpr (.inr ⟨h, h2, subs_kids.mpr (.inl rfl)⟩)
    · have q : k = a ∨ k = b := by simpa [Fm.kids] using hk
      rcases q with rfl | rfl
      · exact subs_kids.mpr (.inr ⟨k, hk, iha hg⟩)
      · exact subs_kids.mpr (.inr ⟨k, hk, ihb hg⟩)
  | box a iha =>
    rcases subs_kids.mp h1 with rfl | ⟨k, hk, hg⟩
    · exact subs_kids.mpr (.inr ⟨h, h2, subs_kids.mpr (.inl rfl)⟩)
    · have q : k = a := by simpa [Fm.kids] using hk
      subst q
      exact subs_kids.mpr (.inr ⟨k, hk, iha hg⟩)
  | fal =>
    have e : g = .fal := by simpa [Fm.subs] using h1
    subst e
    cases h2
  | var n =>
    have e : g = .var n := by simpa [Fm.subs] using h1
    subst e
    cases h2
theorem flat_len (l : List Fm) : (l.flatMap Fm.kids).length ≤ (l.map Fm.sz).sum := by
  induction l with
  | nil => exact Nat.le_refl _
  | cons f l ih =>
    rw [List.flatMap_cons, List.length_append, List.map_cons, List.sum_cons, ← kids_sz f]
    have := sum_len f.kids
    omega
end E

set_option Elab.async false
set_option linter.all false
set_option maxRecDepth 100000
namespace E
open PySem PySem.Spec PyProof.Rows L2
/-! ### the numbers of formulas, by their sign and the numbers of their parts -/
/-- what a formula is looked up by, N the numbers of its parts -/
def keyF (N : Fm → Nat) (f : Fm) : List Key := match f with
  | .var y => [.inr "var", .inr y]
  | g => .inr g.sg :: g.kids.map fun c => (.inl ((N c : Nat) : Int) : Key)
theorem keyF_var (N : Fm → Nat) (y : Str) : keyF N (.var y) = [.inr "var", .inr y] := rfl
theorem keyF_not {N : Fm → Nat} {f : Fm} (h : f.isVar = false) : keyF N f = .inr f.sg :: f.kids.map fun c => (.inl ((N c : Nat) : Int) : Key) := by
  cases f <;> first | rfl | cases h
theorem keyF_congr {N M : Fm → Nat} {f : Fm} (h : ∀ c ∈ f.kids, N c = M c) : keyF N f = keyF M f := by
  by_cases hv : f.isVar = true
  · obtain ⟨_, n, rfl⟩ := kids_var hv
    rfl
  · have hv := Bool.eq_false_iff.mpr hv
    rw [keyF_not hv, keyF_not hv]
    exact congrArg _ (List.map_congr_left fun c hc => by rw [h c hc])
/-- two formulas of one key, their parts numbered apart, are one -/
theorem keyF_inj {N : Fm → Nat} {gs : List Fm} (inj : ∀ a ∈ gs, ∀ b ∈ gs, N a = N b → a = b) {f g : Fm} (hf : ∀ c ∈ f.kids, c ∈ gs) (hg : ∀ c ∈ g.kids, c ∈ gs) (e : keyF N f = keyF N g) : f = g := by
  have i2 : ∀ {a b : Fm}, a ∈ gs → b ∈ gs → (Sum.inl ((N a : Nat) : Int) : Key) = Sum.inl ((N b : Nat) : Int) → a = b := fun ha hb q => inj _ ha _ hb (Int.ofNat.inj (Sum.inl.inj q))
  have sgs : ∀ {a b : Str} {r s : List Key}, (Sum.inr a : Key) :: r = Sum.inr b :: s → a = b := fun q => Sum.inr.inj (List.cons.inj q).1
  cases f <;> cases g
  case var.var a b => 
    have := (List.cons.inj (List.cons.inj e).2).1
    rw [Sum.inr.inj this]
  case fal.fal => rfl
  case and.and a b c d =>
    obtain ⟨h1, h2⟩ := List.cons.inj (List.cons.inj e).2
    rw [i2 (hf _ (by simp [Fm.kids])) (hg _ (by simp [Fm.kids])) h1, i2 (hf _ (by simp [Fm.kids])) (hg _ (by simp [Fm.kids])) (List.cons.inj h2).1]
  case or.or a b c d =>
    obtain ⟨h1, h2⟩ := List.cons.inj (List.cons.inj e).2
    rw [i2 (hf _ (by simp [Fm.kids])) (hg _ (by simp [Fm.kids])) h1, i2 (hf _ (by simp [Fm.kids])) (hg _ (by simp [Fm.kids])) (List.cons.inj h2).1]
  case imp.imp a b c d =>
    obtain ⟨h1, h2⟩ := List.cons.inj (List.cons.inj e).2
    rw [i2 (hf _ (by simp [Fm.kids])) (hg _ (by simp [Fm.kids])) h1, i2 (hf _ (by simp [Fm.kids])) (hg _ (by simp [Fm.kids])) (List.cons.inj h2).1]
  case box.box a b =>
    obtain ⟨h1, _⟩ := List.cons.inj (List.cons.inj e).2
    rw [i2 (hf _ (by simp [Fm.kids])) (hg _ (by simp [Fm.kids])) h1]
  all_goals exact absurd (sgs e) (by first | decide +kernel | (simp only [Fm.sg, Fm.rk]; decide +kernel))
/-- the table of numbers -/
def tabF (gs : List Fm) : List (List Key × V) := gs.map fun g => (keyF (fun c => gs.idxOf c) g, V.int ((gs.idxOf g : Nat) : Int))
theorem idx_inj {gs : List Fm} : ∀ a ∈ gs, ∀ b ∈ gs, gs.idxOf a = gs.idxOf b → a = b := fun a ha b hb e => by
  have h1 := List.getElem_idxOf (List.idxOf_lt_length_of_mem ha)
  have h2 := List.getElem_idxOf (List.idxOf_lt_length_of_mem hb)
  rw [← h1, ← h2]
  congr 1
theorem tab_get {gs : List Fm} (cl : ∀ g ∈ gs, ∀ c ∈ g.kids, c ∈ gs) {b : Fm} (hb : ∀ c ∈ b.kids, c ∈ gs) :
    valV (tabF gs) (keyF (fun c => gs.idxOf c) b) = if b ∈ gs then some (V.int ((gs.idxOf b : Nat) : Int)) else none := by
  have key : ∀ l : List Fm, (∀ g ∈ l, g ∈ gs) → valV (l.map fun g => (keyF (fun c => gs.idxOf c) g, V.int ((gs.idxOf g : Nat) : Int))) (keyF (fun c => gs.idxOf c) b) = if b ∈ l then some (V.int ((gs.idxOf b : Nat) : Int)) else none := by
    intro l
    induction l with
    | nil => exact fun _ => rfl
    | cons g l ih =>
      intro h
      rw [List.map_cons]
      by_cases e : g = b
      · subst e
        rw [valV_pos rfl, if_pos List.mem_cons_self]
      · have ne : ¬ keyF (fun c => gs.idxOf c) g = keyF (fun c => gs.idxOf c) b := fun q => e (keyF_inj idx_inj (cl g (h g List.mem_cons_self)) hb q)
        rw [valV_neg ne, ih fun x hx => h x (List.mem_cons_of_mem _ hx)]
        by_cases m : b ∈ l
        · rw [if_pos m, if_pos (List.mem_cons_of_mem _ m)]
        · rw [if_neg m, if_neg fun q => (List.mem_cons.mp q).elim (fun z => e z.symm) m]
  exact key gs fun g hg => hg
theorem tab_put {gs : List Fm} (cl : ∀ g ∈ gs, ∀ c ∈ g.kids, c ∈ gs) {b : Fm} (hb : ∀ c ∈ b.kids, c ∈ gs) (nb : b ∉ gs) :
    putK (tabF gs) (keyF (fun c => gs.idxOf c) b) (V.int ((gs.length : Nat) : Int)) = tabF (gs ++ [b]) := by
  rw [putK_new _ (by rw [tab_get cl hb, if_neg nb])]
  unfold tabF
  have old : ∀ c ∈ gs, (gs ++ [b]).idxOf c = gs.idxOf c := fun c hc => by rw [List.idxOf_append, if_pos hc]
  rw [List.map_append]
  congr 1
  · refine List.map_congr_left fun g hg => ?_
    rw [old g hg, keyF_congr fun c hc => (old c (cl g hg c hc)).symm]
  · have e : (gs ++ [b]).idxOf b = gs.length := by rw [List.idxOf_append, if_neg nb]; simp
    show [_] = [(keyF (fun c => (gs ++ [b]).idxOf c) b, V.int (((gs ++ [b]).idxOf b : Nat) : Int))]
    rw [e, keyF_congr fun c hc => (old c (hb c hc)).symm]
/-- from one level to the next -/
theorem lev_next : ∀ (n : Nat) (cur : List Fm) (j : Nat) (l : List Fm), (∀ g ∈ cur, g.ht ≤ n) → (levs n cur)[j]? = some l → (levs n cur)[j + 1]? = some (down l) ∨ ((levs n cur)[j + 1]? = none ∧ down l = [])
  | 0, cur, j, l, _, h => by
    have e : levs 0 cur = [] := rfl
    rw [e] at h
    cases h
  | n + 1, cur, j, l, hh, h => by
    by_cases hc : cur = []
    · rw [hc, levs_nil] at h
      cases h
    · have e : levs (n + 1) cur = cur :: levs n (down cur) := by
        rw [levs, if_neg hc]
      rw [e] at h ⊢
      have hd : ∀ g ∈ down cur, g.ht ≤ n := fun g hg => by
        obtain ⟨k, hk, hm⟩ := down_mem.mp hg
        have h1 := kids_ht hm
        have h2 := hh k hk
        omega
      cases j with
      | zero =>
        have e2 : cur = l := Option.some.inj h
        subst e2
        rw [List.getElem?_cons_succ]
        by_cases hz : down cur = []
        · rw [hz, levs_nil]
          exact .inr ⟨rfl, rfl⟩
        · left
          cases n with
          | zero =>
            obtain ⟨g, hg⟩ := List.exists_mem_of_ne_nil _ hz
            have := hd g hg
            have := g.ht_pos
            omega
          | succ n =>
            rw [levs, if_neg hz]
            rfl
      | succ j =>
        rw [List.getElem?_cons_succ] at h ⊢
        exact lev_next n (down cur) j l hd h
theorem lev_head {n : Nat} {f : Fm} (h : f.ht ≤ n) : (levs n [f])[0]? = some [f] := by
  cases n with
  | zero =>
    have := f.ht_pos
    omega
  | succ n =>
    rw [levs, if_neg (by simp)]
    rfl
theorem lev_asc : ∀ (n : Nat) (cur : List Fm) (j : Nat) (l : List Fm), Asc cur → (levs n cur)[j]? = some l → Asc l
  | 0, cur, j, l, _, h => by
    have e : levs 0 cur = [] := rfl
    rw [e] at h
    cases h
  | n + 1, cur, j, l, ha, h => by
    by_cases hc : cur = []
    · rw [hc, levs_nil] at h
      cases h
    · have e : levs (n + 1) cur = cur :: levs n (down cur) := by
        rw [levs, if_neg hc]
      rw [e] at h
      cases j with
      | zero =>
        have e2 : cur = l := Option.some.inj h
        subst e2
        exact ha
      | succ j =>
        rw [List.getElem?_cons_succ] at h
        exact lev_asc n (down cur) j l (dist_asc _) h
theorem lev_ne : ∀ (n : Nat) (cur : List Fm) (j : Nat) (l : List Fm), (levs n cur)[j]? = some l → l ≠ []
  | 0, cur, j, l, h => by
    have e : levs 0 cur = [] := rfl
    rw [e] at h
    cases h
  | n + 1, cur, j, l, h => by
    by_cases hc : cur = []
    · rw [hc, levs_nil] at h
      cases h
    · have e : levs (n + 1) cur = cur :: levs n (down cur) := by
        rw [levs, if_neg hc]
      rw [e] at h
      cases j with
      | zero =>
        have e2 : cur = l := Option.some.inj h
        subst e2
        exact hc
      | succ j =>
        rw [List.getElem?_cons_succ] at h
        exact lev_ne n (down cur) j l h
theorem idx_get {gs : List Fm} {c : Fm} (h : c ∈ gs) : gs[gs.idxOf c]? = some c := by
  have := List.idxOf_lt_length_of_mem h
  rw [List.getElem?_eq_getElem this, List.getElem_idxOf]
/-- the numbers stay when the table grows -/
theorem idx_app {gs : List Fm} {b c : Fm} (h : c ∈ gs) : (gs ++ [b]).idxOf c = gs.idxOf c := by rw [List.idxOf_append, if_pos h]
theorem idx_new {gs : List Fm} {b : Fm} (h : b ∉ gs) : (gs ++ [b]).idxOf b = gs.length := by rw [List.idxOf_append, if_neg h]; simp
theorem nodup_few {α : Type} [DecidableEq α] : ∀ (l D : List α), l.Nodup → (∀ x ∈ l, x ∈ D) → l.length ≤ D.length
  | [], _, _, _ => Nat.zero_le _
  | x :: l, D, nd, sub => by
    rw [List.nodup_cons] at nd
    have hx := sub x List.mem_cons_self
    have ih := nodup_few l (D.erase x) nd.2 fun y hy => (List.mem_erase_of_ne fun e : y = x => nd.1 (by rw [← e]; exact hy)).mpr (sub y (List.mem_cons_of_mem _ hy))
    rw [List.length_erase_of_mem hx] at ih
    have := List.length_pos_of_mem hx
    rw [List.length_cons]
    omega
/-- a tuple with a formula's sign in front, no variable's -/
theorem im_sg {K : PySem.W.Frag} {H : Hp} {f : Fm} {a : Addr} {xs : List V} {ds : List PyData} (hv : f.isVar = false) (h : SqT K H a (.str f.sg :: xs)) (i : ImAll K H xs ds) : Im K H (.ref a) (.tuple (.str f.sg :: ds)) :=
  .tup h (.cons (.str _) i) fun y e => by
    have e2 := sg_var f
    rw [PyData.str.inj (List.cons.inj e).1, hv] at e2
    exact absurd e2 (by decide +kernel)
theorem kids_le2 (f : Fm) : f.kids.length ≤ 2 := by cases f <;> simp [Fm.kids]
theorem subs_len : ∀ f : Fm, f.subs.length = f.sz := by
  intro f
  induction f with
  | var n => rfl
  | fal => rfl
  | and a b h1 h2 => simp [Fm.subs, Fm.sz, h1, h2]; try omega
  | or a b h1 h2 => simp [Fm.subs, Fm.sz, h1, h2]; try omega
  | imp a b h1 h2 => simp [Fm.subs, Fm.sz, h1, h2]; try omega
  | box a h1 => simp [Fm.subs, Fm.sz, h1]; try omega
end E

set_option Elab.async false
set_option linter.all false
set_option maxRecDepth 100000
set_option maxHeartbeats 4000000
namespace E
open PySem PySem.Spec PyProof.Rows L2
abbrev topS (i : Nat) : Stmt := PySem.Challenge.pw_elsewhere_k03_parts_of_formulas.main.body.getD i (.Pass ⟨0, 0, 0, 0⟩)
abbrev s_parts_of : Stmt := topS 1
theorem sc_parts_of : FnScope ["a"] ["a"] (defScope s_parts_of) := ⟨rfl, rfl, rfl, by decide +kernel, rfl, by decide +kernel, by decide +kernel⟩
abbrev s_distinct : Stmt := topS 2
theorem sc_distinct : FnScope ["rows", "found", "row"] ["rows"] (defScope s_distinct) := ⟨rfl, rfl, rfl, by decide +kernel, rfl, by decide +kernel, by decide +kernel⟩
abbrev s_levels_from : Stmt := topS 3
theorem sc_levels_from : FnScope ["formulas", "levels", "level", "b", "part"] ["formulas"] (defScope s_levels_from) := ⟨rfl, rfl, rfl, by decide +kernel, rfl, by decide +kernel, by decide +kernel⟩
abbrev s_subformulas : Stmt := topS 5
theorem sc_subformulas : FnScope ["a"] ["a"] (defScope s_subformulas) := ⟨rfl, rfl, rfl, by decide +kernel, rfl, by decide +kernel, by decide +kernel⟩
abbrev s_subformulas_of : Stmt := topS 6
theorem sc_subformulas_of : FnScope ["formulas", "level", "b"] ["formulas"] (defScope s_subformulas_of) := ⟨rfl, rfl, rfl, by decide +kernel, rfl, by decide +kernel, by decide +kernel⟩
abbrev s_variables : Stmt := topS 7
theorem sc_variables : FnScope ["a"] ["a"] (defScope s_variables) := ⟨rfl, rfl, rfl, by decide +kernel, rfl, by decide +kernel, by decide +kernel⟩
abbrev s_variables_of : Stmt := topS 8
theorem sc_variables_of : FnScope ["formulas", "level", "b"] ["formulas"] (defScope s_variables_of) := ⟨rfl, rfl, rfl, by decide +kernel, rfl, by decide +kernel, by decide +kernel⟩
abbrev s_boxes : Stmt := topS 9
theorem sc_boxes : FnScope ["a", "b"] ["a"] (defScope s_boxes) := ⟨rfl, rfl, rfl, by decide +kernel, rfl, by decide +kernel, by decide +kernel⟩
abbrev s_law_pool : Stmt := topS 11
theorem sc_law_pool : FnScope ["script", "salt", "cell"] ["script"] (defScope s_law_pool) := ⟨rfl, rfl, rfl, by decide +kernel, rfl, by decide +kernel, by decide +kernel⟩
abbrev s_law_spread : Stmt := topS 12
theorem sc_law_spread : FnScope ["cell", "mixed", "total", "k"] ["cell"] (defScope s_law_spread) := ⟨rfl, rfl, rfl, by decide +kernel, rfl, by decide +kernel, by decide +kernel⟩
abbrev s_law_draw : Stmt := topS 13
theorem sc_law_draw : FnScope ["pool", "many", "cell", "mixed", "value"] ["pool", "many"] (defScope s_law_draw) := ⟨rfl, rfl, rfl, by decide +kernel, rfl, by decide +kernel, by decide +kernel⟩
abbrev s_law_same : Stmt := topS 14
theorem sc_law_same : FnScope ["actual", "due", "k"] ["actual", "due"] (defScope s_law_same) := ⟨rfl, rfl, rfl, by decide +kernel, rfl, by decide +kernel, by decide +kernel⟩
abbrev s_law_formula : Stmt := topS 15
theorem sc_law_formula : FnScope ["pool", "depth", "plain", "number", "kind", "first"] ["pool", "depth", "plain"] (defScope s_law_formula) := ⟨rfl, rfl, rfl, by decide +kernel, rfl, by decide +kernel, by decide +kernel⟩
abbrev s_law_list : Stmt := topS 16
theorem sc_law_list : FnScope ["pool", "many", "k"] ["pool", "many"] (defScope s_law_list) := ⟨rfl, rfl, rfl, by decide +kernel, rfl, by decide +kernel, by decide +kernel⟩
abbrev s_law_some : Stmt := topS 17
theorem sc_law_some : FnScope ["pool", "depth", "plain"] ["pool", "depth", "plain"] (defScope s_law_some) := ⟨rfl, rfl, rfl, by decide +kernel, rfl, by decide +kernel, by decide +kernel⟩
abbrev s_law_parts : Stmt := topS 18
theorem sc_law_parts : FnScope ["a"] ["a"] (defScope s_law_parts) := ⟨rfl, rfl, rfl, by decide +kernel, rfl, by decide +kernel, by decide +kernel⟩
abbrev s_law_all : Stmt := topS 19
theorem sc_law_all : FnScope ["a", "found", "part"] ["a"] (defScope s_law_all) := ⟨rfl, rfl, rfl, by decide +kernel, rfl, by decide +kernel, by decide +kernel⟩
abbrev s_law_distinct : Stmt := topS 20
theorem sc_law_distinct : FnScope ["rows", "found", "row"] ["rows"] (defScope s_law_distinct) := ⟨rfl, rfl, rfl, by decide +kernel, rfl, by decide +kernel, by decide +kernel⟩
abbrev s_law_swap : Stmt := topS 21
theorem sc_law_swap : FnScope ["a", "values", "part"] ["a", "values"] (defScope s_law_swap) := ⟨rfl, rfl, rfl, by decide +kernel, rfl, by decide +kernel, by decide +kernel⟩
abbrev s_law : Stmt := topS 22
theorem sc_law : FnScope ["script", "pool", "a", "name", "due", "told", "k", "b"] ["script"] (defScope s_law) := ⟨rfl, rfl, rfl, by decide +kernel, rfl, by decide +kernel, by decide +kernel⟩
structure Top (K : PySem.W.Frag) (mg : Str → Option Value) where
  f_parts_of : Addr
  d_parts_of : FuncData
  F_parts_of : Fun K "parts_of" "parts_of" s_parts_of f_parts_of d_parts_of
  b_parts_of : Binds K d_parts_of ["a"] []
  m_parts_of : mg "parts_of" = some (.ref f_parts_of)
  f_distinct : Addr
  d_distinct : FuncData
  F_distinct : Fun K "distinct" "distinct" s_distinct f_distinct d_distinct
  b_distinct : Binds K d_distinct ["rows"] []
  m_distinct : mg "distinct" = some (.ref f_distinct)
  f_levels_from : Addr
  d_levels_from : FuncData
  F_levels_from : Fun K "levels_from" "levels_from" s_levels_from f_levels_from d_levels_from
  b_levels_from : Binds K d_levels_from ["formulas"] []
  m_levels_from : mg "levels_from" = some (.ref f_levels_from)
  f_subformulas : Addr
  d_subformulas : FuncData
  F_subformulas : Fun K "subformulas" "subformulas" s_subformulas f_subformulas d_subformulas
  b_subformulas : Binds K d_subformulas ["a"] []
  m_subformulas : mg "subformulas" = some (.ref f_subformulas)
  f_subformulas_of : Addr
  d_subformulas_of : FuncData
  F_subformulas_of : Fun K "subformulas_of" "subformulas_of" s_subformulas_of f_subformulas_of d_subformulas_of
  b_subformulas_of : Binds K d_subformulas_of ["formulas"] []
  m_subformulas_of : mg "subformulas_of" = some (.ref f_subformulas_of)
  f_variables : Addr
  d_variables : FuncData
  F_variables : Fun K "variables" "variables" s_variables f_variables d_variables
  b_variables : Binds K d_variables ["a"] []
  m_variables : mg "variables" = some (.ref f_variables)
  f_variables_of : Addr
  d_variables_of : FuncData
  F_variables_of : Fun K "variables_of" "variables_of" s_variables_of f_variables_of d_variables_of
  b_variables_of : Binds K d_variables_of ["formulas"] []
  m_variables_of : mg "variables_of" = some (.ref f_variables_of)
  f_boxes : Addr
  d_boxes : FuncData
  F_boxes : Fun K "boxes" "boxes" s_boxes f_boxes d_boxes
  b_boxes : Binds K d_boxes ["a"] []
  m_boxes : mg "boxes" = some (.ref f_boxes)
  f_law_pool : Addr
  d_law_pool : FuncData
  F_law_pool : Fun K "_law_pool" "_law_pool" s_law_pool f_law_pool d_law_pool
  b_law_pool : Binds K d_law_pool ["script"] []
  m_law_pool : mg "_law_pool" = some (.ref f_law_pool)
  f_law_spread : Addr
  d_law_spread : FuncData
  F_law_spread : Fun K "_law_spread" "_law_spread" s_law_spread f_law_spread d_law_spread
  b_law_spread : Binds K d_law_spread ["cell"] []
  m_law_spread : mg "_law_spread" = some (.ref f_law_spread)
  f_law_draw : Addr
  d_law_draw : FuncData
  F_law_draw : Fun K "_law_draw" "_law_draw" s_law_draw f_law_draw d_law_draw
  b_law_draw : Binds K d_law_draw ["pool", "many"] []
  m_law_draw : mg "_law_draw" = some (.ref f_law_draw)
  f_law_same : Addr
  d_law_same : FuncData
  F_law_same : Fun K "_law_same" "_law_same" s_law_same f_law_same d_law_same
  b_law_same : Binds K d_law_same ["actual", "due"] []
  m_law_same : mg "_law_same" = some (.ref f_law_same)
  f_law_formula : Addr
  d_law_formula : FuncData
  F_law_formula : Fun K "_law_formula" "_law_formula" s_law_formula f_law_formula d_law_formula
  b_law_formula : Binds K d_law_formula ["pool", "depth", "plain"] []
  m_law_formula : mg "_law_formula" = some (.ref f_law_formula)
  f_law_list : Addr
  d_law_list : FuncData
  F_law_list : Fun K "_law_list" "_law_list" s_law_list f_law_list d_law_list
  b_law_list : Binds K d_law_list ["pool", "many"] []
  m_law_list : mg "_law_list" = some (.ref f_law_list)
  f_law_some : Addr
  d_law_some : FuncData
  F_law_some : Fun K "_law_some" "_law_some" s_law_some f_law_some d_law_some
  b_law_some : Binds K d_law_some ["pool", "depth", "plain"] []
  m_law_some : mg "_law_some" = some (.ref f_law_some)
  f_law_parts : Addr
  d_law_parts : FuncData
  F_law_parts : Fun K "_law_parts" "_law_parts" s_law_parts f_law_parts d_law_parts
  b_law_parts : Binds K d_law_parts ["a"] []
  m_law_parts : mg "_law_parts" = some (.ref f_law_parts)
  f_law_all : Addr
  d_law_all : FuncData
  F_law_all : Fun K "_law_all" "_law_all" s_law_all f_law_all d_law_all
  b_law_all : Binds K d_law_all ["a"] []
  m_law_all : mg "_law_all" = some (.ref f_law_all)
  f_law_distinct : Addr
  d_law_distinct : FuncData
  F_law_distinct : Fun K "_law_distinct" "_law_distinct" s_law_distinct f_law_distinct d_law_distinct
  b_law_distinct : Binds K d_law_distinct ["rows"] []
  m_law_distinct : mg "_law_distinct" = some (.ref f_law_distinct)
  f_law_swap : Addr
  d_law_swap : FuncData
  F_law_swap : Fun K "_law_swap" "_law_swap" s_law_swap f_law_swap d_law_swap
  b_law_swap : Binds K d_law_swap ["a", "values"] []
  m_law_swap : mg "_law_swap" = some (.ref f_law_swap)
  f_law : Addr
  d_law : FuncData
  F_law : Fun K "law" "law" s_law f_law d_law
  b_law : Binds K d_law ["script"] []
  m_law : mg "law" = some (.ref f_law)
  z_bool : mg "bool" = none
  z_int : mg "int" = none
  z_isinstance : mg "isinstance" = none
  z_len : mg "len" = none
  z_list : mg "list" = none
  z_range : mg "range" = none
  z_sorted : mg "sorted" = none
  z_str : mg "str" = none
  z_tuple : mg "tuple" = none
section
variable {P : Program} {w : World} {K : PySem.W.Frag} {mg : Str → Option Value} {base : Heap}
/-! ### parts, distinct items, levels -/
def spParts (K : PySem.W.Frag) : Sp := fun vs H Q _ => ∃ (x : V) (f : Fm), vs = [x] ∧ Im K H x f.d ∧ ∀ (p : Addr) (ys : List V) (H' : Hp), Same H H' → SqT K H' p ys → ImAll K H' ys (f.kids.map Fm.d) → Q (.ref p) H'
theorem ok_parts_of (T : Top K mg) : FnOk P w K mg base CX0 1 T.f_parts_of T.d_parts_of ["a"] (spParts K) := by
  refine T.F_parts_of.ok sc_parts_of (fun vs H Q E h => ?_) (fun cdv A outer s H vs Q E hr h => ?_)
  · obtain ⟨x, f, rfl, _⟩ := h
    rfl
  obtain ⟨x, f, rfl, hx, k⟩ := h
  refine ⟨_, (pss_cons (ps_if (pt_cmpR op_eq (pe_ix ix_tup (pv 0) pe_int (fun _ _ => rfl)) pe_str (nomark _))
      (pss_one (ps_ret (pe_tup pa_nil)))
      pss_nil)
    (pss_one (ps_ret (pe_slice sl_tupA (pv 0) (po_some pe_int) po_none)))), ?_⟩
  obtain ⟨a, ys, rfl, h1, h2⟩ := im_inv hx
  refine ⟨_, rfl, a, _, 0, _, rfl, rfl, h1, atI_nat (j := 0) rfl, rfl, _, rfl, ?_⟩
  rw [sg_var]
  cases hv : f.isVar with
  | true =>
    refine iteT ⟨(by show 0 ≤ sizeLine; decide), fun p np => ?_⟩
    obtain ⟨e, _⟩ := kids_var hv
    exact k p [] _ (same_new np) (SqT.of upd_same) (by rw [e]; exact .nil)
  | false =>
    refine iteF ⟨_, rfl, 1, rfl, a, _, rfl, h1, fun e => ?_, fun _ p np => ?_⟩
    · rw [sIx_1] at e
      exact absurd e.1 (by decide)
    · rw [cut_1]
      have s1 := same_new (o := .tup ys) np
      exact k p ys _ s1 (SqT.of upd_same) (by rw [← kids_pts hv]; exact h2.mono (Same.ts s1))
def Ok1 (f : Fm) : Prop := f.d.canLay0 = true ∧ f.ht ≤ 63
def spDistinct (K : PySem.W.Frag) : Sp := fun vs H Q _ => ∃ (a : Addr) (xs : List V) (fs : List Fm), vs = [.ref a] ∧ SqL K H a xs ∧ ImAll K H xs (fs.map Fm.d) ∧ (∀ f ∈ fs, Ok1 f) ∧ fs.length ≤ 1000000 ∧
  ∀ (p : Addr) (ys : List V) (H' : Hp), H p = none → Same H H' → H' p = some (.lst ys) → ImAll K H' ys ((dist fs).map Fm.d) → Q (.ref p) H'
theorem ok1_shaped {f : Fm} (h : Ok1 f) : SeqAt.shaped f.d = true := by
  unfold SeqAt.shaped
  rw [h.1, Fm.depth]
  exact decide_eq_true (Nat.le_trans h.2 (by decide))
theorem ok_distinct (T : Top K mg) : FnOk P w K mg base CX0 1 T.f_distinct T.d_distinct ["rows"] (spDistinct K) := by
  refine T.F_distinct.ok sc_distinct (fun vs H Q E h => ?_) (fun cdv A outer s H vs Q E hr h => ?_)
  · obtain ⟨a, xs, fs, rfl, _⟩ := h
    rfl
  obtain ⟨a, xs, fs, rfl, hS, hI, hok, hlen, k⟩ := h
  have hu64 := hr.units
  have hu200 := hr.un
  refine ⟨_, (pss_cons (ps_set (i := 1) sc_distinct.nd rfl (.inl rfl) (pe_lst pa_nil))
    (pss_cons (ps_for PassesOwn.never rfl (pi_list (pe_callB (cr_sortedF hu200) (by rfl) T.z_sorted (by decide +kernel) (pa_cons (pv 0) pa_nil))) (pg_name (i := 2) sc_distinct.nd rfl (.inl rfl))
      (pss_one (ps_if (PW.pt (pw_or (pt_not (pt_truth (pv 1) (fun _ => rfl))) (pw_or1 (pt_cmpR (op_neD hu64) (pv 2) (pe_ix ix_list (pv 1) (pe_un un_neg pe_int) (fun _ _ => rfl)) (nomark _)))))
      (pss_one (ps_expr (pe_bm PySem.F.plainAttrs_list PySem.F.slot_list_append PySem.F.type_list_append mt_append (pv 1) (pa_cons (pv 2) pa_nil))))
      pss_nil)))
    (pss_one (ps_ret (pv 1))))), ?_⟩
  refine ⟨Nat.zero_le _, fun d nd => ?_⟩
  have s1 := same_new (o := .lst []) nd
  refine ⟨_, rfl, a, xs, fs, rfl, s1.seq hS, hI.mono (Same.ts s1), fun f hf => ⟨(hok f hf).1, Nat.le_trans (hok f hf).2 (by decide)⟩, fun p ys np iy => ?_⟩
  have s2 := same_new (o := .lst ys) np
  have hl := fms_len iy
  have hlm : (fs.mergeSort Fm.le).length = fs.length := List.length_mergeSort fs
  have dp : d ≠ p := ne_of_none upd_same np
  refine ⟨p, rfl, ⟨_, SqL.of upd_same⟩, for_list (K := K) (a := p) (xs := ys) (fun i σ H2 => ∃ (v : Option V) (zs : List V), σ = [some (.ref a), some (.ref d), v] ∧ Same H H2 ∧ H2 p = some (.lst ys) ∧ H2 d = some (.lst zs) ∧ ImAll K H2 ys ((fs.mergeSort Fm.le).map Fm.d) ∧ ImAll K H2 zs ((dd ((fs.mergeSort Fm.le).take i)).map Fm.d))
    ⟨none, [], rfl, s1.trans s2, upd_same, s2 _ _ upd_same, iy.mono (Same.ts s2), .nil⟩ (fun i σ H2 _ h => by
      obtain ⟨_, _, _, _, h, _⟩ := h
      exact SqL.of h) ?_ ?_⟩
  · rintro i x σ H2 hx ⟨v, zs, rfl, s3, hp, hd, iy2, iz⟩
    obtain ⟨f, hf, ix⟩ := imAll_of iy2 hx
    have hi : i < ys.length := (List.getElem?_eq_some_iff.mp hx).1
    have hfm : f ∈ fs := (List.mergeSort_perm fs Fm.le).mem_iff.mp (List.mem_of_getElem? hf)
    have hzl := fms_len iz
    have hzb : (dd ((fs.mergeSort Fm.le).take i)).length ≤ i := by
      have h1 : ((fs.mergeSort Fm.le).take i).Pairwise fun a b => a.le b = true := (ms_sorted fs).sublist (List.take_sublist _ _)
      have := (dd_spec _ h1).2.2.1.length_le
      rw [List.length_take] at this
      omega
    have sz : zs.length < sizeLine := Nat.lt_of_le_of_lt (show zs.length ≤ 1000000 by omega) (by decide)
    have app : ∀ H3, H3 = upd H2 d (.lst (zs ++ [x])) → dd ((fs.mergeSort Fm.le).take (i + 1)) = dd ((fs.mergeSort Fm.le).take i) ++ [f] → ∃ (v : Option V) (zs : List V), [some (V.ref a), some (V.ref d), some x] = [some (.ref a), some (.ref d), v] ∧ Same H H3 ∧ H3 p = some (.lst ys) ∧ H3 d = some (.lst zs) ∧ ImAll K H3 ys ((fs.mergeSort Fm.le).map Fm.d) ∧ ImAll K H3 zs ((dd ((fs.mergeSort Fm.le).take (i + 1))).map Fm.d) := by
      rintro _ rfl e
      have tt := Kp.upd.ts (H := H2) (p := d) (H' := upd H2 d (.lst (zs ++ [x]))) hd
      refine ⟨_, _, rfl, fun b o hb => ?_, ?_, upd_same, iy2.mono tt, ?_⟩
      · rw [upd_ne (ne_of_none hb nd)]
        exact s3 _ _ hb
      · rw [upd_ne dp.symm]
        exact hp
      · rw [e, fm_snoc]
        exact (iz.mono tt).snoc (ix.mono tt)
    have ed : dd ((fs.mergeSort Fm.le).take (i + 1)) = if (dd ((fs.mergeSort Fm.le).take i)).getLast? = some f then dd ((fs.mergeSort Fm.le).take i) else dd ((fs.mergeSort Fm.le).take i) ++ [f] := by
      rw [take_snoc hf, dd_snoc]
    rcases hz : zs with _ | ⟨z0, zr⟩
    · subst hz
      have e0 : dd ((fs.mergeSort Fm.le).take i) = [] := List.length_eq_zero_iff.mp hzl.symm
      refine ⟨_, rfl, _, .inl ⟨_, SqL.of hd, rfl⟩, iteT (iteT ?_)⟩
      refine ⟨_, rfl, .inl ⟨rfl, _, .inl (.inl hd)⟩, _, rfl, d, [], x, rfl, rfl, hd, sz, ?_⟩
      exact app _ rfl (by rw [ed, e0, if_neg (by simp)])
    · have hne : zs.isEmpty = false := by rw [hz]; rfl
      have hpos : 0 < zs.length := by rw [hz]; exact Nat.succ_pos _
      refine ⟨_, rfl, _, .inl ⟨_, SqL.of hd, rfl⟩, ?_⟩
      rw [hne]
      have gl := List.getElem?_eq_getElem (l := zs) (i := zs.length - 1) (by omega)
      obtain ⟨g, hg, ig⟩ := imAll_of iz gl
      have glast : (dd ((fs.mergeSort Fm.le).take i)).getLast? = some g := by
        rw [List.getLast?_eq_getElem?, ← hzl]
        exact hg
      have hgm : g ∈ fs := by
        have h1 : ((fs.mergeSort Fm.le).take i).Pairwise fun a b => a.le b = true := (ms_sorted fs).sublist (List.take_sublist _ _)
        have h2 := ((dd_spec _ h1).2.1 g).mp (List.mem_of_getLast? glast)
        exact (List.mergeSort_perm fs Fm.le).mem_iff.mp (List.mem_of_mem_take h2)
      refine iteF ⟨_, rfl, _, rfl, 1, rfl, d, zs, -1, _, rfl, rfl, SqL.of hd, atI_m1 gl, _, _, ix.dp, ig.dp, ok1_shaped (hok f hfm), ok1_shaped (hok g hgm), _, rfl, ?_⟩
      rw [Fm.eqv]
      by_cases e : f = g
      · rw [decide_eq_true e]
        refine iteF ?_
        refine ⟨_, _, rfl, s3, hp, hd, iy2, ?_⟩
        rw [ed, if_pos (by rw [glast, e])]
        exact iz
      · rw [decide_eq_false e]
        refine iteT ?_
        refine ⟨_, rfl, .inl ⟨rfl, _, .inl (.inl hd)⟩, _, rfl, d, zs, x, rfl, rfl, hd, sz, ?_⟩
        exact app _ rfl (by rw [ed, if_neg (by rw [glast]; exact fun q => e (Option.some.inj q).symm)])
  · rintro σ H2 ⟨v, zs, rfl, s3, hp, hd, _, iz⟩
    rw [hl, hlm, ← hlm, List.take_length] at iz
    exact ⟨_, rfl, k d zs H2 nd s3 hd iz⟩
/-- a list of levels, each a new list -/
def spLevelsF (K : PySem.W.Frag) : Sp := fun vs H Q _ => ∃ (q : Addr) (x : V) (f : Fm) (n : Nat), vs = [.ref q] ∧ SqL K H q [x] ∧ Im K H x f.d ∧ (∀ g ∈ f.subs, Ok1 g) ∧ f.ht ≤ n ∧ f.sz ≤ 100000 ∧
  ∀ (p : Addr) (vs : List V) (H' : Hp), H p = none → Same H H' → H' p = some (.lst vs) → LvAt K H' vs (levs n [f]) → Q (.ref p) H'
theorem dist_sing (f : Fm) : dist [f] = [f] := dist_self (List.pairwise_singleton _ _)
theorem ok_levels_from (T : Top K mg) : FnOk P w K mg base CX0 2 T.f_levels_from T.d_levels_from ["formulas"] (spLevelsF K) := by
  have G_parts_of : FnOk P w K mg base CX0 1 T.f_parts_of T.d_parts_of ["a"] (spParts K) := ok_parts_of T
  have G_distinct : FnOk P w K mg base CX0 1 T.f_distinct T.d_distinct ["rows"] (spDistinct K) := ok_distinct T
  refine T.F_levels_from.ok sc_levels_from (fun vs H Q E h => ?_) (fun cdv A outer s H vs Q E hr h => ?_)
  · obtain ⟨q, x, f, n, rfl, _⟩ := h
    rfl
  obtain ⟨q, x, f, n, rfl, hq, hx, hok, hn, hsz, k⟩ := h
  refine ⟨_, (pss_cons (ps_set (i := 1) sc_levels_from.nd rfl (.inl rfl) (pe_lst pa_nil))
    (pss_cons (ps_set (i := 2) sc_levels_from.nd rfl (.inl rfl) (pe_call G_distinct (hr.mono (by omega)) (by rfl) T.m_distinct T.F_distinct.kp T.b_distinct .nil pass0 (pa_cons (pv 0) pa_nil)))
    (pss_cons (ps_while PassesOwn.never (pt_truth (pv 2) (fun _ => rfl))
      (pss_cons (ps_expr (pe_bm PySem.F.plainAttrs_list PySem.F.slot_list_append PySem.F.type_list_append mt_append (pv 1) (pa_cons (pv 2) pa_nil)))
    (pss_one (ps_set (i := 2) sc_levels_from.nd rfl (.inl rfl) (pe_call G_distinct (hr.mono (by omega)) (by rfl) T.m_distinct T.F_distinct.kp T.b_distinct .nil pass0 (pa_cons (pe_lc2 (own := [("b", 3), ("part", 4)]) (vs1 := [4]) (g := gName 3) (g1 := gName 4) (tt := tYes) (tt1 := tYes) (wi1 := iTup K _) rfl sc_levels_from.nd (pi_list (pv 2)) (blkOk_by (N := ["formulas", "levels", "level", "b", "part"]) (sc := defScope s_levels_from) (by decide +kernel)) (by decide) (fun _ _ _ _ _ => pg_name (i := 3) sc_levels_from.nd rfl (Or.inl rfl)) (fun _ _ _ _ _ => pts_nil) (fun _ _ _ _ _ => (pi_tup (pe_call G_parts_of (hr.mono (by omega)) (by rfl) T.m_parts_of T.F_parts_of.kp T.b_parts_of .nil pass0 (pa_cons (pv 3) pa_nil)))) (fun _ _ _ _ _ => pg_name (i := 4) sc_levels_from.nd rfl (Or.inl rfl)) (fun _ _ _ _ _ => pts_nil) (fun _ _ _ _ _ => (pv 4))) pa_nil))))))
    (pss_one (ps_ret (pv 1)))))), ?_⟩
  refine ⟨Nat.zero_le _, fun L nL => ?_⟩
  have s1 := same_new (o := .lst []) nL
  refine ⟨_, rfl, q, [x], [f], rfl, s1.seq hq, .cons (hx.mono (Same.ts s1)) .nil, fun g hg => hok g (by rw [List.mem_singleton.mp hg]; exact subs_kids.mpr (.inl rfl)), by show 1 ≤ 1000000; decide, fun c0 ys0 Hs nc0 ss hc0 hI0 => ?_⟩
  rw [dist_sing] at hI0
  have s2 := s1.trans ss
  have hLs := ss _ _ (@upd_same H L (.lst []))
  have nLc : L ≠ c0 := ne_of_none upd_same nc0
  refine ⟨fun m σ H2 => ∃ (vs : List V) (acc : List (List Fm)) (c : Addr) (ys : List V) (cur : List Fm) (v3 v4 : Option V), σ = [some (.ref q), some (.ref L), some (.ref c), v3, v4] ∧ Same H H2 ∧ H2 L = some (.lst vs) ∧ LvAt K H2 vs acc ∧ (∀ v ∈ vs, v ≠ .ref L) ∧ c ≠ L ∧ SqL K H2 c ys ∧ ImAll K H2 ys (cur.map Fm.d) ∧ (∀ g ∈ cur, g ∈ f.subs ∧ g.ht ≤ m) ∧ (cur.map Fm.sz).sum ≤ 100000 ∧ acc ++ levs m cur = levs n [f] ∧ acc.length + m ≤ n,
    ⟨n, [], [], c0, ys0, [f], none, none, rfl, s2, hLs, .nil, (fun v hv => nomatch hv), nLc.symm, SqL.of hc0, hI0, ?_, by simpa using hsz, rfl, by simp⟩, ?_⟩
  · intro g hg
    rw [List.mem_singleton.mp hg]
    exact ⟨subs_kids.mpr (.inl rfl), hn⟩
  rintro m σ H2 ⟨vs, acc, c, ys, cur, v3, v4, rfl, s3, hL, lv, nv, ncL, hc, iy, hcur, hsum, hlev, hlen⟩
  have hyl := fms_len iy
  refine ⟨_, rfl, _, .inl ⟨ys, hc, rfl⟩, ?_⟩
  cases hcu : cur with
  | nil =>
    have e : ys = [] := by
      rw [hcu] at hyl
      exact List.length_eq_zero_iff.mp hyl
    subst e
    rw [hcu, levs_nil, List.append_nil] at hlev
    exact iteF ⟨_, rfl, k L vs H2 nL s3 hL (by rw [← hlev]; exact lv)⟩
  | cons g0 gr =>
    have hne : ys.isEmpty = false := by
      rw [hcu] at hyl
      cases ys with
      | nil => cases hyl
      | cons _ _ => rfl
    rw [hne]
    have hm : 1 ≤ m := by
      have h1 := (hcur g0 (by rw [hcu]; exact List.mem_cons_self)).2
      have h2 := g0.ht_pos
      omega
    obtain ⟨m', rfl⟩ : ∃ m', m = m' + 1 := ⟨m - 1, by omega⟩
    have hl2 : levs (m' + 1) cur = cur :: levs m' (down cur) := by
      rw [levs, if_neg (by rw [hcu]; simp)]
    rw [hl2] at hlev
    refine iteT ⟨_, fun σ' H' h => ⟨m', Nat.lt_succ_self _, h⟩, ?_⟩
    -- levels.append(level)
    have hvl := lv.len
    have hn2 : acc.length ≤ 1000000 := by
      have h1 : acc.length ≤ (levs n [f]).length := by rw [← hlev, List.length_append]; exact Nat.le_add_right _ _
      have h2 : (levs n [f]).length ≤ ((levs n [f]).map List.length).sum := by
        have : ∀ (n : Nat) (l : List Fm), (levs n l).length ≤ ((levs n l).map List.length).sum := by
          intro n
          induction n with
          | zero => exact fun _ => Nat.le_refl _
          | succ n ih =>
            intro l
            rw [levs]
            split
            · exact Nat.le_refl _
            · rename_i hl
              rw [List.length_cons, List.map_cons, List.sum_cons]
              have := ih (down l)
              have : 0 < l.length := List.length_pos_iff.mpr hl
              omega
        exact this n [f]
      have h3 := levs_sum n [f]
      have h4 : ([f].map Fm.sz).sum = f.sz := by simp
      omega
    refine ⟨_, rfl, .inl ⟨rfl, _, .inl (.inl hL)⟩, _, rfl, L, vs, .ref c, rfl, rfl, hL, Nat.lt_of_le_of_lt (show vs.length ≤ 1000000 by omega) (by decide), ?_⟩
    have kL : Kp L H2 (upd H2 L (.lst (vs ++ [.ref c]))) := Kp.upd
    have s4 : Same H (upd H2 L (.lst (vs ++ [.ref c]))) := fun b o hb => by
      rw [upd_ne (ne_of_none hb nL)]
      exact s3 _ _ hb
    have hL4 : upd H2 L (.lst (vs ++ [.ref c])) L = some (.lst (vs ++ [.ref c])) := upd_same
    have hc4 := kL.sqL hc ncL
    have iy4 := iy.mono (kL.ts hL)
    have lv4 : LvAt K (upd H2 L (.lst (vs ++ [.ref c]))) (vs ++ [.ref c]) (acc ++ [cur]) := LvAt.snoc hc4 iy4 (LvAt.mut kL hL lv nv)
    have nv4 : ∀ v ∈ vs ++ [.ref c], v ≠ .ref L := fun v hv => by
      rcases List.mem_append.mp hv with q | q
      · exact nv v q
      · rw [List.mem_singleton.mp q]
        exact fun e => ncL (V.ref.inj e)
    generalize upd H2 L (.lst (vs ++ [.ref c])) = H4 at s4 hL4 hc4 iy4 lv4
    -- the parts of all
    refine ⟨_, rfl, c, rfl, ⟨_, hc4⟩, fun D nD => ?_⟩
    refine out_list (K := K) (a := c) (xs := ys) (fun i H5 => ∃ zs : List V, Same H4 H5 ∧ H5 D = some (.lst zs) ∧ ImAll K H5 zs (((cur.take i).flatMap Fm.kids).map Fm.d)) ⟨[], same_new nD, upd_same, .nil⟩ (fun i H5 _ h => by
      obtain ⟨zs, h, _⟩ := h
      exact h.seq hc4) ?_ ?_
    · rintro i y H5 hy ⟨zs, s5, hD, iz⟩
      obtain ⟨g, hg, ig⟩ := imAll_of iy4 hy
      refine ⟨rfl, _, rfl, y, g, rfl, ig.mono (Same.ts s5), fun p ps H6 s6 hp ip => ⟨p, rfl, ⟨_, hp⟩, ?_⟩⟩
      have hpl := fms_len ip
      have hgc : (cur.take (i + 1)).flatMap Fm.kids = (cur.take i).flatMap Fm.kids ++ g.kids := by
        rw [take_snoc hg, List.flatMap_append]
        simp
      have hbig : ((cur.take (i + 1)).flatMap Fm.kids).length ≤ 100000 := by
        refine Nat.le_trans (flat_len _) (Nat.le_trans (sub_sum Fm.sz (List.take_sublist _ _)) hsum)
      refine in_tup (K := K) (b := p) (ys := ps) (fun j H7 => ∃ zs : List V, Same H4 H7 ∧ SqT K H7 p ps ∧ H7 D = some (.lst zs) ∧ ImAll K H7 ps (g.kids.map Fm.d) ∧ ImAll K H7 zs (((cur.take i).flatMap Fm.kids ++ g.kids.take j).map Fm.d)) ⟨zs, s5.trans s6, hp, s6 _ _ hD, ip, by rw [List.take_zero, List.append_nil]; exact iz.mono (Same.ts s6)⟩ (fun j H7 _ h => by
        obtain ⟨_, _, h, _⟩ := h
        exact h) ?_ ?_
      · rintro j q H7 hq ⟨zs, s7, hp7, hD7, ip7, iz7⟩
        obtain ⟨r, hr7, ir⟩ := imAll_of ip7 hq
        have hzl := fms_len iz7
        have hj : j < g.kids.length := (List.getElem?_eq_some_iff.mp hr7).1
        have hzs : zs.length ≤ 100000 := by
          rw [hgc, List.length_append] at hbig
          rw [List.length_append, List.length_take] at hzl
          omega
        refine ⟨rfl, _, rfl, zs, hD7, Nat.lt_of_le_of_lt hzs (by decide), zs ++ [q], ?_, ?_, upd_same, ?_, ?_⟩
        · intro b o hb
          rw [upd_ne (ne_of_none hb nD)]
          exact s7 _ _ hb
        · exact (Kp.upd.ts hD7).sqT hp7
        · exact ip7.mono (Kp.upd.ts hD7)
        · rw [take_snoc hr7, ← List.append_assoc, fm_snoc]
          exact (iz7.mono (Kp.upd.ts hD7)).snoc (ir.mono (Kp.upd.ts hD7))
      · rintro H7 ⟨zs, s7, hp7, hD7, ip7, iz7⟩
        rw [hpl, List.take_length, ← hgc] at iz7
        exact ⟨zs, s7, hD7, iz7⟩
    · rintro H5 ⟨zs, s5, hD, iz⟩
      rw [hyl, List.take_length] at iz
      refine ⟨D, zs, _, rfl, SqL.of hD, iz, fun g hg => ?_, Nat.le_trans (flat_len cur) (Nat.le_trans hsum (by decide)), fun p ws H6 np s6 hp ip => ?_⟩
      · obtain ⟨h, hh, hk⟩ := List.mem_flatMap.mp hg
        exact hok g (kids_subs (hcur h hh).1 hk)
      · have sa := s5.trans s6
        refine ⟨_, _, p, ws, down cur, _, _, rfl, s4.trans sa, sa _ _ hL4, LvAt.same sa lv4, nv4, ?_, SqL.of hp, ip, fun g hg => ?_, ?_, ?_, ?_⟩
        · exact (ne_of_none (s5 _ _ hL4) np).symm
        · obtain ⟨h, hh, hk⟩ := down_mem.mp hg
          have := kids_ht hk
          have h2 := (hcur h hh).2
          exact ⟨kids_subs (hcur h hh).1 hk, by omega⟩
        · have := down_sum cur
          omega
        · rw [List.append_assoc]
          exact hlev
        · rw [List.length_append]
          show acc.length + 1 + m' ≤ n
          omega

/-! ### subformulas, variables, boxes -/
theorem flat_subs {f : Fm} {n : Nat} (h : f.ht ≤ n) : dist (levs n [f]).flatten = dist f.subs := dist_ext fun x => by
  rw [levs_mem n [f] (fun g hg => by rw [List.mem_singleton.mp hg]; exact h) x]
  constructor
  · rintro ⟨g, hg, hx⟩
    rw [List.mem_singleton.mp hg] at hx
    exact hx
  · intro hx
    exact ⟨f, List.mem_singleton.mpr rfl, hx⟩
def spSubs (K : PySem.W.Frag) : Sp := fun vs H Q _ => ∃ (x : V) (f : Fm), vs = [x] ∧ Im K H x f.d ∧ (∀ g ∈ f.subs, Ok1 g) ∧ f.sz ≤ 100000 ∧
  ∀ (p : Addr) (ys : List V) (H' : Hp), H p = none → Same H H' → H' p = some (.lst ys) → ImAll K H' ys ((dist f.subs).map Fm.d) → Q (.ref p) H'
def spSubsF (K : PySem.W.Frag) : Sp := fun vs H Q _ => ∃ (q : Addr) (x : V) (f : Fm), vs = [.ref q] ∧ SqL K H q [x] ∧ Im K H x f.d ∧ (∀ g ∈ f.subs, Ok1 g) ∧ f.sz ≤ 100000 ∧
  ∀ (p : Addr) (ys : List V) (H' : Hp), H p = none → Same H H' → H' p = some (.lst ys) → ImAll K H' ys ((dist f.subs).map Fm.d) → Q (.ref p) H'
theorem ok_subformulas_of (T : Top K mg) : FnOk P w K mg base CX0 3 T.f_subformulas_of T.d_subformulas_of ["formulas"] (spSubsF K) := by
  have G_levels_from : FnOk P w K mg base CX0 2 T.f_levels_from T.d_levels_from ["formulas"] (spLevelsF K) := ok_levels_from T
  have G_distinct : FnOk P w K mg base CX0 1 T.f_distinct T.d_distinct ["rows"] (spDistinct K) := ok_distinct T
  refine T.F_subformulas_of.ok sc_subformulas_of (fun vs H Q E h => ?_) (fun cdv A outer s H vs Q E hr h => ?_)
  · obtain ⟨q, x, f, rfl, _⟩ := h
    rfl
  obtain ⟨q0, x, f, rfl, hq0, hx, hok, hsz, k⟩ := h
  refine ⟨_, (pss_one (ps_ret (pe_call G_distinct (hr.mono (by omega)) (by rfl) T.m_distinct T.F_distinct.kp T.b_distinct .nil pass0 (pa_cons (pe_lc2 (own := [("level", 1), ("b", 2)]) (vs1 := [2]) (g := gName 1) (g1 := gName 2) (tt := tYes) (tt1 := tYes) (wi1 := iList K _) rfl sc_subformulas_of.nd (pi_list (pe_call G_levels_from (hr.mono (by omega)) (by rfl) T.m_levels_from T.F_levels_from.kp T.b_levels_from .nil pass0 (pa_cons (pv 0) pa_nil))) (blkOk_by (N := ["formulas", "level", "b"]) (sc := defScope s_subformulas_of) (by decide +kernel)) (by decide) (fun _ _ _ _ _ => pg_name (i := 1) sc_subformulas_of.nd rfl (Or.inl rfl)) (fun _ _ _ _ _ => pts_nil) (fun _ _ _ _ _ => (pi_list (pv 1))) (fun _ _ _ _ _ => pg_name (i := 2) sc_subformulas_of.nd rfl (Or.inl rfl)) (fun _ _ _ _ _ => pts_nil) (fun _ _ _ _ _ => (pv 2))) pa_nil)))), ?_⟩
  refine ⟨_, rfl, q0, x, f, f.ht, rfl, hq0, hx, hok, Nat.le_refl _, hsz, fun p vs H1 np s1 hp lv => ?_⟩
  refine ⟨p, rfl, ⟨_, SqL.of hp⟩, fun D nD => ?_⟩
  have hvl := lv.len
  have htot : (levs f.ht [f]).flatten.length ≤ 100000 := by
    rw [List.length_flatten]
    have := levs_sum f.ht [f]
    have h4 : ([f].map Fm.sz).sum = f.sz := by simp
    omega
  refine out_list (K := K) (a := p) (xs := vs) (fun i H2 => ∃ zs : List V, Same H1 H2 ∧ H2 D = some (.lst zs) ∧ ImAll K H2 zs (((levs f.ht [f]).take i).flatten.map Fm.d)) ⟨[], same_new nD, upd_same, .nil⟩ (fun i H2 _ h => by
    obtain ⟨zs, h, _⟩ := h
    exact SqL.of (h _ _ hp)) ?_ ?_
  · rintro i v H2 hv ⟨zs, s2, hD, iz⟩
    obtain ⟨b, ys, fs, rfl, hfs, hb, iy⟩ := lv.get hv
    have hyl := fms_len iy
    have hcat : ((levs f.ht [f]).take (i + 1)).flatten = ((levs f.ht [f]).take i).flatten ++ fs := by
      rw [take_snoc hfs, List.flatten_append]
      simp
    have hpre : ((levs f.ht [f]).take (i + 1)).flatten.length ≤ 100000 := by
      have : ((levs f.ht [f]).take (i + 1)).flatten.length + ((levs f.ht [f]).drop (i + 1)).flatten.length = (levs f.ht [f]).flatten.length := by
        rw [← List.length_append, ← List.flatten_append, List.take_append_drop]
      omega
    refine ⟨rfl, _, rfl, b, rfl, ⟨_, s2.seq hb⟩, ?_⟩
    refine in_list (K := K) (b := b) (ys := ys) (fun j H3 => ∃ zs : List V, Same H1 H3 ∧ H3 D = some (.lst zs) ∧ ImAll K H3 zs ((((levs f.ht [f]).take i).flatten ++ fs.take j).map Fm.d)) ⟨zs, s2, hD, by rw [List.take_zero, List.append_nil]; exact iz⟩ (fun j H3 _ h => by
      obtain ⟨_, h, _⟩ := h
      exact h.seq hb) ?_ ?_
    · rintro j y H3 hy ⟨zs, s3, hD3, iz3⟩
      obtain ⟨g, hg, ig⟩ := imAll_of iy hy
      have hzl := fms_len iz3
      have hj : j < fs.length := (List.getElem?_eq_some_iff.mp hg).1
      have hzs : zs.length ≤ 100000 := by
        rw [hcat, List.length_append] at hpre
        rw [List.length_append, List.length_take] at hzl
        omega
      refine ⟨rfl, _, rfl, zs, hD3, Nat.lt_of_le_of_lt hzs (by decide), zs ++ [y], ?_, upd_same, ?_⟩
      · intro b o hb
        rw [upd_ne (ne_of_none hb nD)]
        exact s3 _ _ hb
      · rw [take_snoc hg, ← List.append_assoc, fm_snoc]
        exact (iz3.mono (Kp.upd.ts hD3)).snoc ((ig.mono (Same.ts s3)).mono (Kp.upd.ts hD3))
    · rintro H3 ⟨zs, s3, hD3, iz3⟩
      rw [hyl, List.take_length, ← hcat] at iz3
      exact ⟨zs, s3, hD3, iz3⟩
  · rintro H2 ⟨zs, s2, hD, iz⟩
    rw [hvl, List.take_length] at iz
    refine ⟨D, zs, _, rfl, SqL.of hD, iz, fun g hg => ?_, Nat.le_trans htot (by decide), fun q ws H3 nq s3 hq iq => ?_⟩
    · obtain ⟨h, hh, hx⟩ := (levs_mem f.ht [f] (fun g hg => by rw [List.mem_singleton.mp hg]; exact Nat.le_refl _) g).mp hg
      rw [List.mem_singleton.mp hh] at hx
      exact hok g hx
    · rw [flat_subs (Nat.le_refl _)] at iq
      exact k q ws H3 ((s1.trans s2).free nq) ((s1.trans s2).trans s3) hq iq
theorem ok_subformulas (T : Top K mg) : FnOk P w K mg base CX0 4 T.f_subformulas T.d_subformulas ["a"] (spSubs K) := by
  have G_subformulas_of : FnOk P w K mg base CX0 3 T.f_subformulas_of T.d_subformulas_of ["formulas"] (spSubsF K) := ok_subformulas_of T
  refine T.F_subformulas.ok sc_subformulas (fun vs H Q E h => ?_) (fun cdv A outer s H vs Q E hr h => ?_)
  · obtain ⟨x, f, rfl, _⟩ := h
    rfl
  obtain ⟨x, f, rfl, hx, hok, hsz, k⟩ := h
  refine ⟨_, (pss_one (ps_ret (pe_call G_subformulas_of (hr.mono (by omega)) (by rfl) T.m_subformulas_of T.F_subformulas_of.kp T.b_subformulas_of .nil pass0 (pa_cons (pe_lst (pa_cons (pv 0) pa_nil)) pa_nil)))), ?_⟩
  refine ⟨_, rfl, (by show 1 ≤ sizeLine; decide), fun l nl => ?_⟩
  have s1 := same_new (o := .lst [x]) nl
  exact ⟨l, x, f, rfl, SqL.of upd_same, hx.mono (Same.ts s1), hok, hsz, fun p ys H' np s2 hp iy => k p ys H' (s1.free np) (s1.trans s2) hp iy⟩
def Fm.name? : Fm → Option Str
  | .var n => some n
  | _ => none
def spBoxes (K : PySem.W.Frag) : Sp := fun vs H Q _ => ∃ (x : V) (f : Fm), vs = [x] ∧ Im K H x f.d ∧ (∀ g ∈ f.subs, Ok1 g) ∧ f.sz ≤ 100000 ∧
  ∀ (p : Addr) (ys : List V) (H' : Hp), H p = none → Same H H' → H' p = some (.lst ys) → ImAll K H' ys (((dist f.subs).filter Fm.isBox).map Fm.d) → Q (.ref p) H'
theorem ok_boxes (T : Top K mg) : FnOk P w K mg base CX0 5 T.f_boxes T.d_boxes ["a"] (spBoxes K) := by
  have G_subformulas : FnOk P w K mg base CX0 4 T.f_subformulas T.d_subformulas ["a"] (spSubs K) := ok_subformulas T
  refine T.F_boxes.ok sc_boxes (fun vs H Q E h => ?_) (fun cdv A outer s H vs Q E hr h => ?_)
  · obtain ⟨x, f, rfl, _⟩ := h
    rfl
  obtain ⟨x, f, rfl, hx, hok, hsz, k⟩ := h
  refine ⟨_, (pss_one (ps_ret (pe_lc (own := [("b", 1)]) (g := gName 1) (tt := (tTest (tOp _ (tOp (rIxT K) _ _) _))) rfl sc_boxes.nd (pi_list (pe_call G_subformulas (hr.mono (by omega)) (by rfl) T.m_subformulas T.F_subformulas.kp T.b_subformulas .nil pass0 (pa_cons (pv 0) pa_nil))) (blkOk_by (N := ["a", "b"]) (sc := defScope s_boxes) (by decide +kernel)) (fun _ _ _ _ _ => pg_name (i := 1) sc_boxes.nd rfl (Or.inl rfl)) (fun _ _ _ _ _ => pts_one (pt_cmpR op_eq (pe_ix ix_tup (pv 1) pe_int (fun _ _ => rfl)) pe_str (nomark _))) (fun _ _ _ _ _ => (pv 1))))), ?_⟩
  refine ⟨_, rfl, x, f, rfl, hx, hok, hsz, fun p ys H1 np s1 hp iy => ⟨p, rfl, ⟨_, SqL.of hp⟩, fun D nD => ?_⟩⟩
  have hyl := fms_len iy
  have hdl : (dist f.subs).length ≤ 100000 := by
    have h1 := dist_len f.subs
    rw [subs_len] at h1
    omega
  refine lc_list (K := K) (a := p) (xs := ys) (fun i H2 => ∃ zs : List V, Same H1 H2 ∧ H2 D = some (.lst zs) ∧ ImAll K H2 zs ((((dist f.subs).take i).filter Fm.isBox).map Fm.d)) ⟨[], same_new nD, upd_same, .nil⟩ (fun i H2 _ h => by
    obtain ⟨_, h, _⟩ := h
    exact SqL.of (h _ _ hp)) ?_ ?_
  · rintro i y H2 hy ⟨zs, s2, hD, iz⟩
    obtain ⟨g, hg, ig⟩ := imAll_of iy hy
    have ig2 := ig.mono (Same.ts s2)
    obtain ⟨a, ws, rfl, h1, h2⟩ := im_inv ig2
    refine ⟨rfl, _, rfl, a, _, 0, _, rfl, rfl, h1, atI_nat (j := 0) rfl, rfl, _, rfl, ?_⟩
    rw [sg_box, take_snoc hg, List.filter_append]
    cases hv : g.isBox with
    | true =>
      have hzl := fms_len iz
      refine iteT ⟨_, rfl, zs, hD, ?_, zs ++ [.ref a], ?_, upd_same, ?_⟩
      · refine Nat.lt_of_le_of_lt (show _ ≤ 100000 from ?_) (by decide)
        rw [hzl]
        refine Nat.le_trans (List.length_filter_le _ _) ?_
        rw [List.length_take]
        omega
      · intro b o hb
        rw [upd_ne (ne_of_none hb nD)]
        exact s2 _ _ hb
      · rw [show [g].filter Fm.isBox = [g] by rw [List.filter_cons, hv]; rfl, fm_snoc]
        exact (iz.mono (Kp.upd.ts hD)).snoc (ig2.mono (Kp.upd.ts hD))
    | false =>
      refine iteF ⟨zs, s2, hD, ?_⟩
      rw [show [g].filter Fm.isBox = [] by rw [List.filter_cons, hv]; rfl, List.append_nil]
      exact iz
  · rintro H2 ⟨zs, s2, hD, iz⟩
    rw [hyl, List.take_length] at iz
    exact k D zs H2 (s1.free nD) (s1.trans s2) hD iz

/-! ### ascending texts -/
def AscS (ns : List Str) : Prop := Asc (ns.map Fm.var)
theorem rising_le : ∀ (l : List Str) (p : Str), risingS p l = true → (∀ x ∈ l, (Fm.var p).le (.var x) = true) ∧ (l.map Fm.var).Pairwise fun a b => a.le b = true
  | [], _, _ => ⟨fun x hx => (nomatch hx), .nil⟩
  | x :: r, p, h => by
    have h' : (!ltCps x.cps.toList p.cps.toList && risingS x r) = true := h
    rw [Bool.and_eq_true] at h'
    obtain ⟨h1, h2⟩ := h'
    obtain ⟨a1, a2⟩ := rising_le r x h2
    have hp : (Fm.var p).le (.var x) = true := by
      unfold Fm.le
      rw [lt_var, ← ltCps_eq]
      exact h1
    refine ⟨fun y hy => ?_, List.pairwise_cons.mpr ⟨fun y hy => ?_, a2⟩⟩
    · rcases List.mem_cons.mp hy with rfl | hy
      · exact hp
      · exact le_trans' hp (a1 y hy)
    · obtain ⟨z, hz, rfl⟩ := List.mem_map.mp hy
      exact a1 z hz
theorem sortedS_le {l : List Str} (h : sortedS l = true) : (l.map Fm.var).Pairwise fun a b => a.le b = true := by
  cases l with
  | nil => exact .nil
  | cons x r =>
    obtain ⟨a1, a2⟩ := rising_le r x h
    refine List.pairwise_cons.mpr ⟨fun y hy => ?_, a2⟩
    obtain ⟨z, hz, rfl⟩ := List.mem_map.mp hy
    exact a1 z hz
theorem asc_nodup {l : List Fm} (h : Asc l) : l.Nodup := h.imp fun {a b} q e => by
  rw [e, Fm.lt_irrefl] at q
  cases q
theorem asc_of_le {l : List Fm} (h : l.Pairwise fun a b => a.le b = true) (n : l.Nodup) : Asc l := by
  induction l with
  | nil => exact .nil
  | cons x l ih =>
    obtain ⟨a1, a2⟩ := List.pairwise_cons.mp h
    obtain ⟨b1, b2⟩ := List.nodup_cons.mp n
    exact List.pairwise_cons.mpr ⟨fun y hy => lt_of_le_ne (a1 y hy) fun e => b1 (by rw [e]; exact hy), ih a2 b2⟩
theorem var_inj {l m : List Str} (h : l.map Fm.var = m.map Fm.var) : l = m := (List.map_inj_right (fun a b e => Fm.var.inj e)).mp h
theorem sorted_same {ys xs : List Str} (ha : AscS xs) (hp : ys.Perm xs) (hs : sortedS ys = true) : ys = xs := by
  have n1 : (ys.map Fm.var).Nodup := (hp.map Fm.var).nodup_iff.mpr (asc_nodup ha)
  exact var_inj (asc_one (asc_of_le (sortedS_le hs) n1) ha fun x => (hp.map Fm.var).mem_iff)

/-! ### the different names -/
def spDistinctN (K : PySem.W.Frag) : Sp := fun vs H Q _ => ∃ (a : Addr) (ns : List Str), vs = [.ref a] ∧ SqL K H a (ns.map V.str) ∧ ns.length < 64 ∧
  ∀ (p : Addr) (zs : List Str) (H' : Hp), H p = none → Same H H' → H' p = some (.lst (zs.map V.str)) → zs.map Fm.var = dist (ns.map Fm.var) → Q (.ref p) H'
theorem dd_dist {ys ns : List Str} (hp : ys.Perm ns) (hs : sortedS ys = true) : dd (ys.map Fm.var) = dist (ns.map Fm.var) := by
  have h1 := dd_spec _ (sortedS_le hs)
  refine asc_one h1.1 (dist_asc _) fun x => ?_
  rw [h1.2.1, dist_mem]
  exact (hp.map Fm.var).mem_iff
theorem ok_distinctN (T : Top K mg) : FnOk P w K mg base CX0 1 T.f_distinct T.d_distinct ["rows"] (spDistinctN K) := by
  refine T.F_distinct.ok sc_distinct (fun vs H Q E h => ?_) (fun cdv A outer s H vs Q E hr h => ?_)
  · obtain ⟨a, ns, rfl, _⟩ := h
    rfl
  obtain ⟨a, ns, rfl, hS, hlen, k⟩ := h
  have hu64 := hr.units
  refine ⟨_, (pss_cons (ps_set (i := 1) sc_distinct.nd rfl (.inl rfl) (pe_lst pa_nil))
    (pss_cons (ps_for PassesOwn.never rfl (pi_list (pe_callB cr_sortedS (by rfl) T.z_sorted (by decide +kernel) (pa_cons (pv 0) pa_nil))) (pg_name (i := 2) sc_distinct.nd rfl (.inl rfl))
      (pss_one (ps_if (PW.pt (pw_or (pt_not (pt_truth (pv 1) (fun _ => rfl))) (pw_or1 (pt_cmpR op_ne (pv 2) (pe_ix ix_list (pv 1) (pe_un un_neg pe_int) (fun _ _ => rfl)) (nomark _)))))
      (pss_one (ps_expr (pe_bm PySem.F.plainAttrs_list PySem.F.slot_list_append PySem.F.type_list_append mt_append (pv 1) (pa_cons (pv 2) pa_nil))))
      pss_nil)))
    (pss_one (ps_ret (pv 1))))), ?_⟩
  refine ⟨Nat.zero_le _, fun d nd => ?_⟩
  have s1 := same_new (o := .lst []) nd
  refine ⟨_, rfl, a, ns, rfl, s1.seq hS, hlen, fun ys p hp hs np => ?_⟩
  have s2 := same_new (o := .lst (ys.map V.str)) np
  have dp : d ≠ p := ne_of_none upd_same np
  have hyl : ys.length = ns.length := hp.length_eq
  have hsl := sortedS_le hs
  refine ⟨p, rfl, ⟨_, SqL.of upd_same⟩, for_list (K := K) (a := p) (xs := ys.map V.str) (fun i σ H2 => ∃ (v : Option V) (zs : List Str), σ = [some (.ref a), some (.ref d), v] ∧ Same H H2 ∧ H2 p = some (.lst (ys.map V.str)) ∧ H2 d = some (.lst (zs.map V.str)) ∧ zs.map Fm.var = dd ((ys.map Fm.var).take i))
    ⟨none, [], rfl, s1.trans s2, upd_same, s2 _ _ upd_same, rfl⟩ (fun i σ H2 _ h => by
      obtain ⟨_, _, _, _, h, _⟩ := h
      exact SqL.of h) ?_ ?_⟩
  · rintro i x σ H2 hx ⟨v, zs, rfl, s3, hp2, hd, hz⟩
    rw [List.getElem?_map] at hx
    cases hy : ys[i]? with
    | none => rw [hy] at hx; cases hx
    | some y =>
      rw [hy] at hx
      have ex : x = .str y := (Option.some.inj hx).symm
      subst ex
      have hyv : (ys.map Fm.var)[i]? = some (.var y) := by rw [List.getElem?_map, hy]; rfl
      have hi : i < ys.length := (List.getElem?_eq_some_iff.mp hy).1
      have hzb : zs.length ≤ i := by
        have h1 := (dd_spec _ (hsl.sublist (List.take_sublist i _))).2.2.1.length_le
        have h2 := congrArg List.length hz
        rw [List.length_map] at h2
        rw [List.length_take] at h1
        omega
      have szt : (zs.map V.str).length < sizeLine := by
        rw [List.length_map]
        exact small1000 (by omega)
      have app : ∀ H3, H3 = upd H2 d (.lst (zs.map V.str ++ [.str y])) → dd ((ys.map Fm.var).take (i + 1)) = dd ((ys.map Fm.var).take i) ++ [.var y] → ∃ (v : Option V) (zs : List Str), [some (V.ref a), some (V.ref d), some (V.str y)] = [some (.ref a), some (.ref d), v] ∧ Same H H3 ∧ H3 p = some (.lst (ys.map V.str)) ∧ H3 d = some (.lst (zs.map V.str)) ∧ zs.map Fm.var = dd ((ys.map Fm.var).take (i + 1)) := by
        rintro _ rfl e
        refine ⟨_, zs ++ [y], rfl, fun b o hb => ?_, ?_, ?_, ?_⟩
        · rw [upd_ne (ne_of_none hb nd)]
          exact s3 _ _ hb
        · rw [upd_ne dp.symm]
          exact hp2
        · rw [upd_same, List.map_append]
          rfl
        · rw [e, List.map_append, hz]
          rfl
      have ed : dd ((ys.map Fm.var).take (i + 1)) = if (dd ((ys.map Fm.var).take i)).getLast? = some (.var y) then dd ((ys.map Fm.var).take i) else dd ((ys.map Fm.var).take i) ++ [.var y] := by
        rw [take_snoc hyv, dd_snoc]
      rw [← hz] at ed
      rcases he : zs with _ | ⟨z0, zr⟩
      · subst he
        refine ⟨_, rfl, _, .inl ⟨_, SqL.of hd, rfl⟩, iteT (iteT ?_)⟩
        refine ⟨_, rfl, .inl ⟨rfl, _, .inl (.inl hd)⟩, _, rfl, d, [], .str y, rfl, rfl, hd, szt, ?_⟩
        exact app _ rfl (by rw [ed, if_neg (by simp)]; exact congrArg (· ++ [Fm.var y]) hz)
      · have hne : (zs.map V.str).isEmpty = false := by rw [he]; rfl
        have hpos : 0 < zs.length := by rw [he]; exact Nat.succ_pos _
        refine ⟨_, rfl, _, .inl ⟨_, SqL.of hd, rfl⟩, ?_⟩
        rw [hne]
        have gl : (zs.map V.str)[(zs.map V.str).length - 1]? = some (.str (zs[zs.length - 1]'(by omega))) := by
          rw [List.length_map, List.getElem?_map, List.getElem?_eq_getElem (by omega)]
          rfl
        have glast : (zs.map Fm.var).getLast? = some (.var (zs[zs.length - 1]'(by omega))) := by
          rw [List.getLast?_eq_getElem?, List.length_map, List.getElem?_map, List.getElem?_eq_getElem (by omega)]
          rfl
        refine iteF ⟨_, rfl, _, rfl, 1, rfl, d, _, -1, _, rfl, rfl, SqL.of hd, atI_m1 gl, rfl, _, rfl, ?_⟩
        by_cases e : y = zs[zs.length - 1]'(by omega)
        · rw [show (!decide (V.str y = V.str (zs[zs.length - 1]'(by omega)))) = false by rw [decide_eq_true (congrArg V.str e)]; rfl]
          refine iteF ⟨_, zs, rfl, s3, hp2, hd, ?_⟩
          rw [ed, if_pos (by rw [glast, ← e])]
        · rw [show (!decide (V.str y = V.str (zs[zs.length - 1]'(by omega)))) = true by rw [decide_eq_false (fun q => e (V.str.inj q))]; rfl]
          refine iteT ?_
          refine ⟨_, rfl, .inl ⟨rfl, _, .inl (.inl hd)⟩, _, rfl, d, _, .str y, rfl, rfl, hd, szt, ?_⟩
          exact app _ rfl (by rw [ed, if_neg (by rw [glast]; exact fun q => e (Fm.var.inj (Option.some.inj q)).symm)]; exact congrArg (· ++ [Fm.var y]) hz)
  · rintro σ H2 ⟨v, zs, rfl, s3, hp2, hd, hz⟩
    have e : (ys.map V.str).length = (ys.map Fm.var).length := by rw [List.length_map, List.length_map]
    rw [e, List.take_length, dd_dist hp hs] at hz
    exact ⟨_, rfl, k d zs H2 nd s3 hd hz⟩
/-- the names in the order of the levels -/
def lvNames (n : Nat) (f : Fm) : List Str := (levs n [f]).flatten.filterMap Fm.name?
def spVarsF (K : PySem.W.Frag) : Sp := fun vs H Q _ => ∃ (q : Addr) (x : V) (f : Fm), vs = [.ref q] ∧ SqL K H q [x] ∧ Im K H x f.d ∧ (∀ g ∈ f.subs, Ok1 g) ∧ f.sz ≤ 100000 ∧ (lvNames f.ht f).length < 64 ∧
  ∀ (p : Addr) (zs : List Str) (H' : Hp), H p = none → Same H H' → H' p = some (.lst (zs.map V.str)) → zs.map Fm.var = dist ((lvNames f.ht f).map Fm.var) → Q (.ref p) H'
theorem ok_variables_of (T : Top K mg) : FnOk P w K mg base CX0 3 T.f_variables_of T.d_variables_of ["formulas"] (spVarsF K) := by
  have G_levels_from : FnOk P w K mg base CX0 2 T.f_levels_from T.d_levels_from ["formulas"] (spLevelsF K) := ok_levels_from T
  have G_distinctN : FnOk P w K mg base CX0 1 T.f_distinct T.d_distinct ["rows"] (spDistinctN K) := ok_distinctN T
  refine T.F_variables_of.ok sc_variables_of (fun vs H Q E h => ?_) (fun cdv A outer s H vs Q E hr h => ?_)
  · obtain ⟨q, x, f, rfl, _⟩ := h
    rfl
  obtain ⟨q0, x, f, rfl, hq0, hx, hok, hsz, hcnt, k⟩ := h
  refine ⟨_, (pss_one (ps_ret (pe_call G_distinctN (hr.mono (by omega)) (by rfl) T.m_distinct T.F_distinct.kp T.b_distinct .nil pass0 (pa_cons (pe_lc2 (own := [("level", 1), ("b", 2)]) (vs1 := [2]) (g := gName 1) (g1 := gName 2) (tt := tYes) (tt1 := (tTest (tOp _ (tOp (rIxT K) _ _) _))) (te := (tOp (rIxT K) _ _)) (wi1 := iList K _) rfl sc_variables_of.nd (pi_list (pe_call G_levels_from (hr.mono (by omega)) (by rfl) T.m_levels_from T.F_levels_from.kp T.b_levels_from .nil pass0 (pa_cons (pv 0) pa_nil))) (blkOk_by (N := ["formulas", "level", "b"]) (sc := defScope s_variables_of) (by decide +kernel)) (by decide) (fun _ _ _ _ _ => pg_name (i := 1) sc_variables_of.nd rfl (Or.inl rfl)) (fun _ _ _ _ _ => pts_nil) (fun _ _ _ _ _ => (pi_list (pv 1))) (fun _ _ _ _ _ => pg_name (i := 2) sc_variables_of.nd rfl (Or.inl rfl)) (fun _ _ _ _ _ => pts_one (pt_cmpR op_eq (pe_ix ix_tup (pv 2) pe_int (fun _ _ => rfl)) pe_str (nomark _))) (fun _ _ _ _ _ => (pe_ix ix_tup (pv 2) pe_int (fun _ _ => rfl)))) pa_nil)))), ?_⟩
  refine ⟨_, rfl, q0, x, f, f.ht, rfl, hq0, hx, hok, Nat.le_refl _, hsz, fun p vs H1 np s1 hp lv => ?_⟩
  refine ⟨p, rfl, ⟨_, SqL.of hp⟩, fun D nD => ?_⟩
  have hvl := lv.len
  refine out_list (K := K) (a := p) (xs := vs) (fun i H2 => Same H1 H2 ∧ H2 D = some (.lst ((((levs f.ht [f]).take i).flatten.filterMap Fm.name?).map V.str))) ⟨same_new nD, upd_same⟩ (fun i H2 _ h => SqL.of (h.1 _ _ hp)) ?_ ?_
  · rintro i v H2 hv ⟨s2, hD⟩
    obtain ⟨b, ys, fs, rfl, hfs, hb, iy⟩ := lv.get hv
    have hyl := fms_len iy
    have hcat : ((levs f.ht [f]).take (i + 1)).flatten = ((levs f.ht [f]).take i).flatten ++ fs := by
      rw [take_snoc hfs, List.flatten_append]
      simp
    have hpre : (((levs f.ht [f]).take (i + 1)).flatten.filterMap Fm.name?).length < 64 := by
      have : (((levs f.ht [f]).take (i + 1)).flatten.filterMap Fm.name?).length + (((levs f.ht [f]).drop (i + 1)).flatten.filterMap Fm.name?).length = (lvNames f.ht f).length := by
        unfold lvNames
        rw [← List.length_append, ← List.filterMap_append, ← List.flatten_append, List.take_append_drop]
      omega
    refine ⟨rfl, _, rfl, b, rfl, ⟨_, s2.seq hb⟩, ?_⟩
    refine in_list (K := K) (b := b) (ys := ys) (fun j H3 => Same H1 H3 ∧ H3 D = some (.lst (((((levs f.ht [f]).take i).flatten ++ fs.take j).filterMap Fm.name?).map V.str))) ⟨s2, by rw [List.take_zero, List.append_nil]; exact hD⟩ (fun j H3 _ h => h.1.seq hb) ?_ ?_
    · rintro j y H3 hy ⟨s3, hD3⟩
      obtain ⟨g, hg, ig⟩ := imAll_of iy hy
      have hj : j < fs.length := (List.getElem?_eq_some_iff.mp hg).1
      obtain ⟨ga, gys, rfl, g1, g2⟩ := im_inv (ig.mono (Same.ts s3))
      refine ⟨rfl, _, rfl, ga, _, 0, _, rfl, rfl, g1, atI_nat (j := 0) rfl, rfl, _, rfl, ?_⟩
      rw [sg_var, take_snoc hg, ← List.append_assoc, List.filterMap_append]
      cases hv : g.isVar with
      | true =>
        obtain ⟨_, n, rfl⟩ := kids_var hv
        cases g2 with
        | cons h3 h4 =>
          cases h3
          cases h4
          refine iteT ⟨_, rfl, ga, _, 1, _, rfl, rfl, g1, atI_nat (j := 1) rfl, _, hD3, ?_, ?_, ?_⟩
          · rw [List.length_map]
            refine small1000 (Nat.le_trans ?_ (Nat.le_of_lt (Nat.lt_of_lt_of_le hpre (by decide))))
            rw [hcat]
            exact ((List.Sublist.append_left (List.take_sublist _ _) _).filterMap _).length_le
          · intro b o hb
            rw [upd_ne (ne_of_none hb nD)]
            exact s3 _ _ hb
          · rw [upd_same, List.map_append]
            rfl
      | false =>
        refine iteF ⟨s3, ?_⟩
        have e : [g].filterMap Fm.name? = [] := by cases g <;> first | rfl | cases hv
        rw [e, List.append_nil]
        exact hD3
    · rintro H3 ⟨s3, hD3⟩
      rw [hyl, List.take_length, ← hcat] at hD3
      exact ⟨s3, hD3⟩
  · rintro H2 ⟨s2, hD⟩
    rw [hvl, List.take_length] at hD
    exact ⟨D, lvNames f.ht f, rfl, SqL.of hD, hcnt, fun q zs H3 nq s3 hq e => k q zs H3 ((s1.trans s2).free nq) ((s1.trans s2).trans s3) hq e⟩
/-- the list of names that it hands back -/
def spVars (K : PySem.W.Frag) : Sp := fun vs H Q _ => ∃ (x : V) (f : Fm), vs = [x] ∧ Im K H x f.d ∧ (∀ g ∈ f.subs, Ok1 g) ∧ f.sz ≤ 100000 ∧ (lvNames f.ht f).length < 64 ∧
  ∀ (p : Addr) (H' : Hp), H p = none → Same H H' → H' p = some (.lst (((dist f.subs).filterMap Fm.name?).map V.str)) → Q (.ref p) H'
theorem names_var (l : List Fm) : (l.filterMap Fm.name?).map Fm.var = l.filter Fm.isVar := by
  induction l with
  | nil => rfl
  | cons f l ih =>
    cases f with
    | var n => exact congrArg (Fm.var n :: ·) ih
    | _ => exact ih
theorem names_of {f : Fm} {zs : List Str} (e : zs.map Fm.var = dist ((lvNames f.ht f).map Fm.var)) : zs = (dist f.subs).filterMap Fm.name? := by
  refine var_inj (e.trans (asc_one (dist_asc _) ?_ fun x => ?_))
  · rw [names_var]
    exact (dist_asc f.subs).sublist (List.filter_sublist ..)
  · unfold lvNames
    rw [dist_mem, names_var, names_var, List.mem_filter, List.mem_filter, dist_mem, levs_mem f.ht [f] (fun g hg => by rw [List.mem_singleton.mp hg]; exact Nat.le_refl _) x]
    constructor
    · rintro ⟨⟨g, hg, hx⟩, hv⟩
      rw [List.mem_singleton.mp hg] at hx
      exact ⟨hx, hv⟩
    · rintro ⟨hx, hv⟩
      exact ⟨⟨f, List.mem_singleton.mpr rfl, hx⟩, hv⟩
theorem ok_variables (T : Top K mg) : FnOk P w K mg base CX0 4 T.f_variables T.d_variables ["a"] (spVars K) := by
  have G_variables_of : FnOk P w K mg base CX0 3 T.f_variables_of T.d_variables_of ["formulas"] (spVarsF K) := ok_variables_of T
  refine T.F_variables.ok sc_variables (fun vs H Q E h => ?_) (fun cdv A outer s H vs Q E hr h => ?_)
  · obtain ⟨x, f, rfl, _⟩ := h
    rfl
  obtain ⟨x, f, rfl, hx, hok, hsz, hcnt, k⟩ := h
  refine ⟨_, (pss_one (ps_ret (pe_call G_variables_of (hr.mono (by omega)) (by rfl) T.m_variables_of T.F_variables_of.kp T.b_variables_of .nil pass0 (pa_cons (pe_lst (pa_cons (pv 0) pa_nil)) pa_nil)))), ?_⟩
  refine ⟨_, rfl, (by show 1 ≤ sizeLine; decide), fun l nl => ?_⟩
  have s1 := same_new (o := .lst [x]) nl
  exact ⟨l, x, f, rfl, SqL.of upd_same, hx.mono (Same.ts s1), hok, hsz, hcnt, fun p zs H' np s2 hp e => k p H' (s1.free np) (s1.trans s2) (by rw [← names_of e]; exact hp)⟩

/-! ### the law's own parts -/
theorem vin : ∀ i : Fin 6, inV (.str (sgT i)) [.str "var", .str "falsum"] = decide (i = 5 ∨ i = 2) := by decide +kernel
theorem vflat : flatV (.str "var") = true := rfl
def spLawParts (K : PySem.W.Frag) : Sp := fun vs H Q _ => ∃ (x : V) (f : Fm), vs = [x] ∧ Im K H x f.d ∧ ∀ (p : Addr) (ys : List V) (H' : Hp), H p = none → Same H H' → H' p = some (.lst ys) → ImAll K H' ys (f.kids.map Fm.d) → Q (.ref p) H'
theorem ok_law_parts (T : Top K mg) : FnOk P w K mg base CX0 1 T.f_law_parts T.d_law_parts ["a"] (spLawParts K) := by
  refine T.F_law_parts.ok sc_law_parts (fun vs H Q E h => ?_) (fun cdv A outer s H vs Q E hr h => ?_)
  · obtain ⟨x, f, rfl, _⟩ := h
    rfl
  obtain ⟨x, f, rfl, hx, k⟩ := h
  refine ⟨_, (pss_one (ps_ret (pe_ifExp (pt_cmpR op_in_seq (pe_ix ix_tup (pv 0) pe_int (fun _ _ => rfl)) (pe_tup (pa_cons pe_str (pa_cons pe_str pa_nil))) rfl) (pe_lst pa_nil) (pe_callTy call_list_of (by rfl) T.z_list (by decide +kernel) (pa_cons (pe_slice sl_tupA (pv 0) (po_some pe_int) po_none) pa_nil))))), ?_⟩
  obtain ⟨a, ys, rfl, h1, h2⟩ := im_inv hx
  refine ⟨_, rfl, a, _, 0, _, rfl, rfl, h1, atI_nat (j := 0) rfl, (by show 2 ≤ sizeLine; decide), fun t nt => ?_⟩
  have s1 := same_new (o := .tup [.str "var", .str "falsum"]) nt
  refine ⟨t, _, rfl, .inr (SqT.of upd_same), rfl, rfl, inV (.str f.sg) [.str "var", .str "falsum"], rfl, ?_⟩
  rw [show inV (.str f.sg) [.str "var", .str "falsum"] = decide (f.rk = 5 ∨ f.rk = 2) from vin f.rk]
  by_cases hk : f.rk = 5 ∨ f.rk = 2
  · refine iteD hk ⟨(by show 0 ≤ sizeLine; decide), fun p np => ?_⟩
    have e : f.kids = [] := by
      cases f <;> first | rfl | exact absurd hk (by simp [Fm.rk])
    exact k p [] _ (s1.free np) (s1.trans (same_new np)) upd_same (by rw [e]; exact .nil)
  · have hv : f.isVar = false := by
      cases f <;> first | rfl | exact absurd (Or.inl rfl) hk
    refine iteDF hk ⟨_, rfl, 1, rfl, a, _, rfl, (Same.ts s1).sqT h1, fun e => ?_, fun _ p np => ?_⟩
    · rw [sIx_1] at e
      exact absurd e.1 (by decide)
    · rw [cut_1]
      have s2 := s1.trans (same_new (o := .tup ys) np)
      refine ⟨p, ys, rfl, .inr (SqT.of upd_same), fun l nl => ?_⟩
      have s3 := s2.trans (same_new (o := .lst ys) nl)
      exact k l ys _ (s2.free nl) s3 upd_same (by rw [← kids_pts hv]; exact h2.mono (Same.ts s3))

/-! ### formulas: parts, sizes -/
theorem subs_eq (f : Fm) : f.subs = f :: f.kids.flatMap Fm.subs := by
  cases f <;> simp [Fm.subs, Fm.kids]
theorem over_mono {N M : List Str} (h : ∀ n ∈ N, n ∈ M) : ∀ {f : Fm}, f.over N = true → f.over M = true
  | .var n, q => decide_eq_true (h n (of_decide_eq_true q))
  | .fal, _ => rfl
  | .and a b, q => by
    have q' : (a.over N && b.over N) = true := q
    rw [Bool.and_eq_true] at q'
    show (a.over M && b.over M) = true
    rw [over_mono h q'.1, over_mono h q'.2]; rfl
  | .or a b, q => by
    have q' : (a.over N && b.over N) = true := q
    rw [Bool.and_eq_true] at q'
    show (a.over M && b.over M) = true
    rw [over_mono h q'.1, over_mono h q'.2]; rfl
  | .imp a b, q => by
    have q' : (a.over N && b.over N) = true := q
    rw [Bool.and_eq_true] at q'
    show (a.over M && b.over M) = true
    rw [over_mono h q'.1, over_mono h q'.2]; rfl
  | .box a, q => over_mono (f := a) h q
theorem kids_over {N : List Str} {f g : Fm} (h : f.over N = true) (hg : g ∈ f.kids) : g.over N = true := by
  cases f with
  | var n => cases hg
  | fal => cases hg
  | box a =>
    rw [List.mem_singleton.mp hg]
    exact h
  | _ a b =>
    have q' : (a.over N && b.over N) = true := h
    rw [Bool.and_eq_true] at q'
    rcases List.mem_cons.mp hg with rfl | hg
    · exact q'.1
    · rw [List.mem_singleton.mp hg]
      exact q'.2
theorem subs_ok {N : List Str} : ∀ (n : Nat) {f g : Fm}, f.ht ≤ n → f.over N = true → g ∈ f.subs → g.over N = true ∧ g.ht ≤ f.ht
  | 0, f, _, h, _, _ => absurd f.ht_pos (by omega)
  | n + 1, f, g, h, ho, hg => by
    rw [subs_eq] at hg
    rcases List.mem_cons.mp hg with rfl | hg
    · exact ⟨ho, Nat.le_refl _⟩
    · obtain ⟨k, hk, hg⟩ := List.mem_flatMap.mp hg
      have hh := kids_ht hk
      obtain ⟨a, b⟩ := subs_ok n (by omega) (kids_over ho hk) hg
      exact ⟨a, by omega⟩
theorem sz_ht : ∀ f : Fm, f.sz + 1 ≤ 2 ^ f.ht
  | .var n => by show 1 + 1 ≤ 2 ^ 1; decide
  | .fal => by decide
  | .and a b => by
    have h1 := sz_ht a
    have h2 := sz_ht b
    have h3 : 2 ^ a.ht ≤ 2 ^ max a.ht b.ht := Nat.pow_le_pow_right (by decide) (Nat.le_max_left _ _)
    have h4 : 2 ^ b.ht ≤ 2 ^ max a.ht b.ht := Nat.pow_le_pow_right (by decide) (Nat.le_max_right _ _)
    show a.sz + b.sz + 1 + 1 ≤ 2 ^ (max a.ht b.ht + 1)
    rw [Nat.pow_succ]
    omega
  | .or a b => by
    have h1 := sz_ht a
    have h2 := sz_ht b
    have h3 : 2 ^ a.ht ≤ 2 ^ max a.ht b.ht := Nat.pow_le_pow_right (by decide) (Nat.le_max_left _ _)
    have h4 : 2 ^ b.ht ≤ 2 ^ max a.ht b.ht := Nat.pow_le_pow_right (by decide) (Nat.le_max_right _ _)
    show a.sz + b.sz + 1 + 1 ≤ 2 ^ (max a.ht b.ht + 1)
    rw [Nat.pow_succ]
    omega
  | .imp a b => by
    have h1 := sz_ht a
    have h2 := sz_ht b
    have h3 : 2 ^ a.ht ≤ 2 ^ max a.ht b.ht := Nat.pow_le_pow_right (by decide) (Nat.le_max_left _ _)
    have h4 : 2 ^ b.ht ≤ 2 ^ max a.ht b.ht := Nat.pow_le_pow_right (by decide) (Nat.le_max_right _ _)
    show a.sz + b.sz + 1 + 1 ≤ 2 ^ (max a.ht b.ht + 1)
    rw [Nat.pow_succ]
    omega
  | .box a => by
    have h1 := sz_ht a
    show a.sz + 1 + 1 ≤ 2 ^ (a.ht + 1)
    rw [Nat.pow_succ]
    omega

def spLawAll (K : PySem.W.Frag) (n : Nat) : Sp := fun vs H Q _ => ∃ (x : V) (f : Fm), vs = [x] ∧ Im K H x f.d ∧ f.ht < n ∧ f.sz ≤ 100000 ∧ ∀ (p : Addr) (ys : List V) (H' : Hp), H p = none → Same H H' → H' p = some (.lst ys) → ImAll K H' ys (f.subs.map Fm.d) → Q (.ref p) H'
theorem ok_law_all (T : Top K mg) : ∀ n : Nat, FnOk P w K mg base CX0 n T.f_law_all T.d_law_all ["a"] (spLawAll K n) := by
  intro n
  induction n with
  | zero =>
    refine fn_none fun vs H Q E h => ?_
    obtain ⟨x, f, _, _, h, _⟩ := h
    exact absurd h (Nat.not_lt_zero _)
  | succ n G_law_all =>
    have G_law_parts : FnOk P w K mg base CX0 1 T.f_law_parts T.d_law_parts ["a"] (spLawParts K) := ok_law_parts T
    refine T.F_law_all.ok sc_law_all (fun vs H Q E h => ?_) (fun cdv A outer s H vs Q E hr h => ?_)
    · obtain ⟨x, f, rfl, _⟩ := h
      rfl
    obtain ⟨x, f, rfl, hx, hh, hz, k⟩ := h
    have hn1 : 1 ≤ n := by
      have := f.ht_pos
      omega
    refine ⟨_, (pss_cons (ps_set (i := 1) sc_law_all.nd rfl (.inl rfl) (pe_lst (pa_cons (pv 0) pa_nil)))
    (pss_cons (ps_for PassesOwn.never rfl (pi_list (pe_call G_law_parts (hr.mono (by omega)) (by rfl) T.m_law_parts T.F_law_parts.kp T.b_law_parts .nil pass0 (pa_cons (pv 0) pa_nil))) (pg_name (i := 2) sc_law_all.nd rfl (.inl rfl))
      (pss_one (ps_set (i := 1) sc_law_all.nd rfl (.inl rfl) (pe_op op_cat (pv 1) (pe_call G_law_all (hr.mono (by omega)) (by rfl) T.m_law_all T.F_law_all.kp T.b_law_all .nil pass0 (pa_cons (pv 2) pa_nil))))))
    (pss_one (ps_ret (pv 1))))), ?_⟩
    refine ⟨_, rfl, (by show 1 ≤ sizeLine; decide), fun d nd => ?_⟩
    have s1 := same_new (o := .lst [x]) nd
    refine ⟨_, rfl, x, f, rfl, hx.mono (Same.ts s1), fun p ys H2 np s2 hp iy => ⟨p, rfl, ⟨_, SqL.of hp⟩, ?_⟩⟩
    have hyl := fms_len iy
    have hkz := kids_sz f
    refine for_list (K := K) (a := p) (xs := ys) (fun i σ H3 => ∃ (e : Addr) (zs : List V) (v : Option V), σ = [some x, some (.ref e), v] ∧ Same H2 H3 ∧ H e = none ∧ H3 e = some (.lst zs) ∧ ImAll K H3 zs ((f :: (f.kids.take i).flatMap Fm.subs).map Fm.d))
      ⟨d, [x], none, rfl, L2.Same.refl _, nd, s2 _ _ upd_same, .cons (hx.mono (Same.ts (s1.trans s2))) .nil⟩ (fun i σ H3 _ h => by
        obtain ⟨_, _, _, _, h, _⟩ := h
        exact SqL.of (h _ _ hp)) ?_ ?_
    · rintro i y σ H3 hy ⟨e, zs, v, rfl, s3, ne, he, iz⟩
      obtain ⟨g, hg, ig⟩ := imAll_of iy hy
      have hgm : g ∈ f.kids := List.mem_of_getElem? hg
      have hgh := kids_ht hgm
      have hgz : g.sz ≤ (f.kids.map Fm.sz).sum := by
        have := sub_sum Fm.sz (List.singleton_sublist.mpr hgm)
        simpa using this
      refine ⟨_, rfl, _, rfl, y, g, rfl, ig.mono (Same.ts s3), by omega, by omega, fun q ws H4 nq s4 hq iq => ?_⟩
      have hzl := fms_len iz
      have hql := fms_len iq
      have hcat : f :: (f.kids.take (i + 1)).flatMap Fm.subs = (f :: (f.kids.take i).flatMap Fm.subs) ++ g.subs := by
        rw [take_snoc hg, List.flatMap_append]
        simp
      have hsz : zs.length + ws.length ≤ 100000 := by
        have h1 : (f :: (f.kids.take (i + 1)).flatMap Fm.subs).length ≤ f.subs.length := by
          rw [subs_eq f, List.length_cons, List.length_cons]
          refine Nat.succ_le_succ ?_
          have : f.kids.flatMap Fm.subs = (f.kids.take (i + 1)).flatMap Fm.subs ++ (f.kids.drop (i + 1)).flatMap Fm.subs := by
            rw [← List.flatMap_append, List.take_append_drop]
          rw [this, List.length_append]
          exact Nat.le_add_right _ _
        rw [hcat, List.length_append] at h1
        have h2 := subs_len f
        have h3 := subs_len g
        omega
      refine ⟨e, q, zs, ws, rfl, rfl, s4 _ _ he, hq, Nat.le_trans hsz (by decide), fun r nr => ?_⟩
      have s5 := same_new (o := .lst (zs ++ ws)) nr
      have sa := (s3.trans s4).trans s5
      refine ⟨r, _, _, rfl, sa, ((s1.trans s2).trans (s3.trans s4)).free nr, upd_same, ?_⟩
      rw [hcat, List.map_append]
      exact imAll_append ((iz.mono (Same.ts s4)).mono (Same.ts s5)) (iq.mono (Same.ts s5))
    · rintro σ H3 ⟨e, zs, v, rfl, s3, ne, he, iz⟩
      rw [hyl, List.take_length, ← subs_eq] at iz
      exact ⟨_, rfl, k e zs H3 ne ((s1.trans s2).trans s3) he iz⟩

theorem dp_of {H : Hp} {xs : List V} {ds : List PyData} {a : Addr} (h : H a = some (.lst xs)) (i : ImAll K H xs ds) : Dp K H (.ref a) (.list ds) := .lst (SqL.of h) i.dp
theorem ok1_list {fs : List Fm} (h : ∀ f ∈ fs, Ok1 f) : SeqAt.shaped (.list (fs.map Fm.d)) = true := by
  refine list_shaped ?_
  induction fs with
  | nil => exact ⟨rfl, Nat.zero_le _⟩
  | cons f fs ih =>
    have h1 := h f List.mem_cons_self
    have h2 := ih fun g hg => h g (List.mem_cons_of_mem _ hg)
    rw [List.map_cons, PyData.canLayAll0, PyData.depthAll, h1.1, h2.1, Fm.depth]
    exact ⟨rfl, Nat.max_le.mpr ⟨h1.2, h2.2⟩⟩
theorem ok_law_distinct (T : Top K mg) : FnOk P w K mg base CX0 1 T.f_law_distinct T.d_law_distinct ["rows"] (spDistinct K) := by
  refine T.F_law_distinct.ok sc_law_distinct (fun vs H Q E h => ?_) (fun cdv A outer s H vs Q E hr h => ?_)
  · obtain ⟨a, xs, fs, rfl, _⟩ := h
    rfl
  obtain ⟨a, xs, fs, rfl, hS, hI, hok, hlen, k⟩ := h
  have hu64 := hr.units
  have hu200 := hr.un
  refine ⟨_, (pss_cons (ps_set (i := 1) sc_law_distinct.nd rfl (.inl rfl) (pe_lst pa_nil))
    (pss_cons (ps_for PassesOwn.never rfl (pi_list (pe_callB (cr_sortedF hu200) (by rfl) T.z_sorted (by decide +kernel) (pa_cons (pv 0) pa_nil))) (pg_name (i := 2) sc_law_distinct.nd rfl (.inl rfl))
      (pss_one (ps_if (PW.pt (pw_or (pt_cmpR (op_eqD hu64) (pv 1) (pe_lst pa_nil) (nomark _)) (pw_or1 (pt_cmpR (op_neD hu64) (pe_ix ix_list (pv 1) (pe_un un_neg pe_int) (fun _ _ => rfl)) (pv 2) (nomark _)))))
      (pss_one (ps_expr (pe_bm PySem.F.plainAttrs_list PySem.F.slot_list_append PySem.F.type_list_append mt_append (pv 1) (pa_cons (pv 2) pa_nil))))
      pss_nil)))
    (pss_one (ps_ret (pv 1))))), ?_⟩
  refine ⟨Nat.zero_le _, fun d nd => ?_⟩
  have s1 := same_new (o := .lst []) nd
  refine ⟨_, rfl, a, xs, fs, rfl, s1.seq hS, hI.mono (Same.ts s1), fun f hf => ⟨(hok f hf).1, Nat.le_trans (hok f hf).2 (by decide)⟩, fun p ys np iy => ?_⟩
  have s2 := same_new (o := .lst ys) np
  have hl := fms_len iy
  have hlm : (fs.mergeSort Fm.le).length = fs.length := List.length_mergeSort fs
  have dp : d ≠ p := ne_of_none upd_same np
  refine ⟨p, rfl, ⟨_, SqL.of upd_same⟩, for_list (K := K) (a := p) (xs := ys) (fun i σ H2 => ∃ (v : Option V) (zs : List V), σ = [some (.ref a), some (.ref d), v] ∧ Same H H2 ∧ H2 p = some (.lst ys) ∧ H2 d = some (.lst zs) ∧ ImAll K H2 ys ((fs.mergeSort Fm.le).map Fm.d) ∧ ImAll K H2 zs ((dd ((fs.mergeSort Fm.le).take i)).map Fm.d))
    ⟨none, [], rfl, s1.trans s2, upd_same, s2 _ _ upd_same, iy.mono (Same.ts s2), .nil⟩ (fun i σ H2 _ h => by
      obtain ⟨_, _, _, _, h, _⟩ := h
      exact SqL.of h) ?_ ?_⟩
  · rintro i x σ H2 hx ⟨v, zs, rfl, s3, hp, hd, iy2, iz⟩
    obtain ⟨f, hf, ix⟩ := imAll_of iy2 hx
    have hi : i < ys.length := (List.getElem?_eq_some_iff.mp hx).1
    have hfm : f ∈ fs := (List.mergeSort_perm fs Fm.le).mem_iff.mp (List.mem_of_getElem? hf)
    have hzl := fms_len iz
    have hsorted : ((fs.mergeSort Fm.le).take i).Pairwise fun a b => a.le b = true := (ms_sorted fs).sublist (List.take_sublist _ _)
    have hmem : ∀ g ∈ dd ((fs.mergeSort Fm.le).take i), g ∈ fs := fun g hg => (List.mergeSort_perm fs Fm.le).mem_iff.mp (List.mem_of_mem_take (((dd_spec _ hsorted).2.1 g).mp hg))
    have hzb : (dd ((fs.mergeSort Fm.le).take i)).length ≤ i := by
      have := (dd_spec _ hsorted).2.2.1.length_le
      rw [List.length_take] at this
      omega
    have sz : zs.length < sizeLine := Nat.lt_of_le_of_lt (show zs.length ≤ 1000000 by omega) (by decide)
    -- the list that is compared with
    refine ⟨_, rfl, (by show 0 ≤ sizeLine; decide), fun e ne => ?_⟩
    have s4 := same_new (o := .lst []) ne
    have s34 := s3.trans s4
    have hp4 := s4 _ _ hp
    have hd4 := s4 _ _ hd
    have iy4 := iy2.mono (Same.ts s4)
    have iz4 := iz.mono (Same.ts s4)
    have ix4 := ix.mono (Same.ts s4)
    refine ⟨_, _, dp_of hd4 iz4, .lst (SqL.of upd_same) .nil, ok1_list fun g hg => hok g (hmem g hg), rfl, _, rfl, ?_⟩
    generalize upd H2 e (.lst []) = H4 at s34 hp4 hd4 iy4 iz4 ix4
    have app : ∀ H3, H3 = upd H4 d (.lst (zs ++ [x])) → dd ((fs.mergeSort Fm.le).take (i + 1)) = dd ((fs.mergeSort Fm.le).take i) ++ [f] → ∃ (v : Option V) (zs : List V), [some (V.ref a), some (V.ref d), some x] = [some (.ref a), some (.ref d), v] ∧ Same H H3 ∧ H3 p = some (.lst ys) ∧ H3 d = some (.lst zs) ∧ ImAll K H3 ys ((fs.mergeSort Fm.le).map Fm.d) ∧ ImAll K H3 zs ((dd ((fs.mergeSort Fm.le).take (i + 1))).map Fm.d) := by
      rintro _ rfl e
      have tt := Kp.upd.ts (H := H4) (p := d) (H' := upd H4 d (.lst (zs ++ [x]))) hd4
      refine ⟨_, _, rfl, fun b o hb => ?_, ?_, upd_same, iy4.mono tt, ?_⟩
      · rw [upd_ne (ne_of_none hb nd)]
        exact s34 _ _ hb
      · rw [upd_ne dp.symm]
        exact hp4
      · rw [e, fm_snoc]
        exact (iz4.mono tt).snoc (ix4.mono tt)
    have ed : dd ((fs.mergeSort Fm.le).take (i + 1)) = if (dd ((fs.mergeSort Fm.le).take i)).getLast? = some f then dd ((fs.mergeSort Fm.le).take i) else dd ((fs.mergeSort Fm.le).take i) ++ [f] := by
      rw [take_snoc hf, dd_snoc]
    rw [eqv_nil]
    rcases hz : zs with _ | ⟨z0, zr⟩
    · subst hz
      have e0 : dd ((fs.mergeSort Fm.le).take i) = [] := List.length_eq_zero_iff.mp hzl.symm
      rw [e0]
      refine iteT (iteT ?_)
      refine ⟨_, rfl, .inl ⟨rfl, _, .inl (.inl hd4)⟩, _, rfl, d, [], x, rfl, rfl, hd4, sz, ?_⟩
      exact app _ rfl (by rw [ed, e0, if_neg (by simp)])
    · have hpos : 0 < zs.length := by rw [hz]; exact Nat.succ_pos _
      have hne : ((dd ((fs.mergeSort Fm.le).take i)).map Fm.d).isEmpty = false := by
        rw [List.isEmpty_eq_false_iff, ne_eq, List.map_eq_nil_iff]
        intro q
        rw [q] at hzl
        rw [hzl] at hpos
        exact absurd hpos (by decide)
      rw [hne]
      have gl := List.getElem?_eq_getElem (l := zs) (i := zs.length - 1) (by omega)
      obtain ⟨g, hg, ig⟩ := imAll_of iz4 gl
      have glast : (dd ((fs.mergeSort Fm.le).take i)).getLast? = some g := by
        rw [List.getLast?_eq_getElem?, ← hzl]
        exact hg
      have hgm : g ∈ fs := hmem g (List.mem_of_getLast? glast)
      refine iteF ⟨_, rfl, 1, rfl, d, zs, -1, _, rfl, rfl, SqL.of hd4, atI_m1 gl, _, rfl, _, _, ig.dp, ix4.dp, ok1_shaped (hok g hgm), ok1_shaped (hok f hfm), _, rfl, ?_⟩
      rw [Fm.eqv]
      by_cases e : g = f
      · rw [decide_eq_true e]
        refine iteF ?_
        refine ⟨_, _, rfl, s34, hp4, hd4, iy4, ?_⟩
        rw [ed, if_pos (by rw [glast, e])]
        exact iz4
      · rw [decide_eq_false e]
        refine iteT ?_
        refine ⟨_, rfl, .inl ⟨rfl, _, .inl (.inl hd4)⟩, _, rfl, d, zs, x, rfl, rfl, hd4, sz, ?_⟩
        exact app _ rfl (by rw [ed, if_neg (by rw [glast]; exact fun q => e (Option.some.inj q))])
  · rintro σ H2 ⟨v, zs, rfl, s3, hp, hd, _, iz⟩
    rw [hl, hlm, ← hlm, List.take_length] at iz
    exact ⟨_, rfl, k d zs H2 nd s3 hd iz⟩

/-! ### the law's distinct, of ascending texts -/
theorem dp_strs {K : PySem.W.Frag} {H : Hp} : ∀ ns : List Str, DpAll K H (ns.map V.str) (ns.map PyData.str)
  | [] => .nil
  | n :: ns => .cons (.str n) (dp_strs ns)
theorem shaped_strs {ns : List Str} (h : ∀ n ∈ ns, PyData.strOk n = true) : SeqAt.shaped (.list (ns.map PyData.str)) = true := by
  refine list_shaped ?_
  induction ns with
  | nil => exact ⟨rfl, Nat.zero_le _⟩
  | cons n ns ih =>
    have h2 := ih fun m hm => h m (List.mem_cons_of_mem _ hm)
    rw [List.map_cons, PyData.canLayAll0, PyData.depthAll, PyData.canLay0, h n List.mem_cons_self, h2.1, PyData.depth]
    exact ⟨rfl, by have := h2.2; omega⟩
def spDistinctS (K : PySem.W.Frag) : Sp := fun vs H Q _ => ∃ (a : Addr) (ns : List Str), vs = [.ref a] ∧ SqL K H a (ns.map V.str) ∧ AscS ns ∧ ns.length < 64 ∧ (∀ n ∈ ns, PyData.strOk n = true) ∧
  ∀ (p : Addr) (H' : Hp), H p = none → Same H H' → H' p = some (.lst (ns.map V.str)) → Q (.ref p) H'
theorem ok_law_distinctS (T : Top K mg) : FnOk P w K mg base CX0 1 T.f_law_distinct T.d_law_distinct ["rows"] (spDistinctS K) := by
  refine T.F_law_distinct.ok sc_law_distinct (fun vs H Q E h => ?_) (fun cdv A outer s H vs Q E hr h => ?_)
  · obtain ⟨a, ns, rfl, _⟩ := h
    rfl
  obtain ⟨a, ns, rfl, hS, ha, hlen, hok, k⟩ := h
  have hu64 := hr.units
  refine ⟨_, (pss_cons (ps_set (i := 1) sc_law_distinct.nd rfl (.inl rfl) (pe_lst pa_nil))
    (pss_cons (ps_for PassesOwn.never rfl (pi_list (pe_callB cr_sortedS (by rfl) T.z_sorted (by decide +kernel) (pa_cons (pv 0) pa_nil))) (pg_name (i := 2) sc_law_distinct.nd rfl (.inl rfl))
      (pss_one (ps_if (PW.pt (pw_or (pt_cmpR (op_eqD hu64) (pv 1) (pe_lst pa_nil) (nomark _)) (pw_or1 (pt_cmpR op_ne (pe_ix ix_list (pv 1) (pe_un un_neg pe_int) (fun _ _ => rfl)) (pv 2) (nomark _)))))
      (pss_one (ps_expr (pe_bm PySem.F.plainAttrs_list PySem.F.slot_list_append PySem.F.type_list_append mt_append (pv 1) (pa_cons (pv 2) pa_nil))))
      pss_nil)))
    (pss_one (ps_ret (pv 1))))), ?_⟩
  refine ⟨Nat.zero_le _, fun d nd => ?_⟩
  have s1 := same_new (o := .lst []) nd
  refine ⟨_, rfl, a, ns, rfl, s1.seq hS, hlen, fun ys p hp hs np => ?_⟩
  have e := sorted_same ha hp hs
  subst e
  have s2 := same_new (o := .lst (ys.map V.str)) np
  have dp : d ≠ p := ne_of_none upd_same np
  refine ⟨p, rfl, ⟨_, SqL.of upd_same⟩, for_list (K := K) (a := p) (xs := ys.map V.str) (fun i σ H2 => ∃ (v : Option V), σ = [some (.ref a), some (.ref d), v] ∧ Same H H2 ∧ H2 p = some (.lst (ys.map V.str)) ∧ H2 d = some (.lst ((ys.take i).map V.str)))
    ⟨none, rfl, s1.trans s2, upd_same, s2 _ _ upd_same⟩ (fun i σ H2 _ h => by
      obtain ⟨_, _, _, h, _⟩ := h
      exact SqL.of h) ?_ ?_⟩
  · rintro i x σ H2 hx ⟨v, rfl, s3, hp2, hd⟩
    rw [List.getElem?_map] at hx
    cases hy : ys[i]? with
    | none => rw [hy] at hx; cases hx
    | some y =>
      rw [hy] at hx
      have ex : x = .str y := (Option.some.inj hx).symm
      subst ex
      have hi : i < ys.length := (List.getElem?_eq_some_iff.mp hy).1
      refine ⟨_, rfl, (by show 0 ≤ sizeLine; decide), fun e ne => ?_⟩
      have s4 := same_new (o := .lst []) ne
      have s34 := s3.trans s4
      have hp4 := s4 _ _ hp2
      have hd4 := s4 _ _ hd
      have sh := shaped_strs (ns := ys.take i) fun n hn => hok n (List.mem_of_mem_take hn)
      refine ⟨_, _, .lst (SqL.of hd4) (dp_strs (ys.take i)), .lst (SqL.of upd_same) .nil, sh, rfl, _, rfl, ?_⟩
      generalize upd H2 e (.lst []) = H4 at s34 hp4 hd4
      rw [eqv_nil]
      have szt : ((ys.take i).map V.str).length < sizeLine := by
        rw [List.length_map, List.length_take]
        exact Nat.lt_of_le_of_lt (Nat.min_le_right _ _) (Nat.lt_of_lt_of_le hlen (by decide))
      have app : ∀ H3, H3 = upd H4 d (.lst ((ys.take i).map V.str ++ [.str y])) → ∃ (v : Option V), [some (V.ref a), some (V.ref d), some (V.str y)] = [some (.ref a), some (.ref d), v] ∧ Same H H3 ∧ H3 p = some (.lst (ys.map V.str)) ∧ H3 d = some (.lst ((ys.take (i + 1)).map V.str)) := by
        rintro _ rfl
        refine ⟨_, rfl, fun b o hb => ?_, ?_, ?_⟩
        · rw [upd_ne (ne_of_none hb nd)]
          exact s34 _ _ hb
        · rw [upd_ne dp.symm]
          exact hp4
        · rw [upd_same, take_snoc hy, List.map_append]
          rfl
      cases hi0 : i with
      | zero =>
        subst hi0
        refine iteT (iteT ?_)
        exact ⟨_, rfl, .inl ⟨rfl, _, .inl (.inl hd4)⟩, _, rfl, d, _, .str y, rfl, rfl, hd4, szt, app _ rfl⟩
      | succ j =>
        rw [← hi0]
        have hne : ((ys.take i).map PyData.str).isEmpty = false := by
          rw [List.isEmpty_eq_false_iff, ne_eq, List.map_eq_nil_iff, List.take_eq_nil_iff]
          rintro (q | q)
          · omega
          · rw [q] at hi
            exact absurd hi (Nat.not_lt_zero _)
        rw [hne]
        have hj : j < ys.length := by omega
        have gl : ((ys.take i).map V.str)[((ys.take i).map V.str).length - 1]? = some (.str ys[j]) := by
          rw [List.length_map, List.length_take, List.getElem?_map, List.getElem?_take, if_pos (by omega), show min i ys.length - 1 = j by omega, List.getElem?_eq_getElem hj]
          rfl
        have hlt : (Fm.var ys[j]).lt (.var y) = true := by
          have h1 := List.pairwise_iff_getElem.mp ha j i (by rw [List.length_map]; exact hj) (by rw [List.length_map]; exact hi) (by omega)
          rw [List.getElem_map, List.getElem_map] at h1
          have h2 : ys[i] = y := by
            rw [List.getElem?_eq_getElem hi] at hy
            exact Option.some.inj hy
          rw [h2] at h1
          exact h1
        have hnev : ys[j] ≠ y := fun q => by
          rw [q, Fm.lt_irrefl] at hlt
          cases hlt
        refine iteF ⟨_, rfl, 1, rfl, d, _, -1, _, rfl, rfl, SqL.of hd4, atI_m1 gl, _, rfl, rfl, _, rfl, ?_⟩
        rw [decide_eq_false (fun q => hnev (V.str.inj q))]
        refine iteT ?_
        exact ⟨_, rfl, .inl ⟨rfl, _, .inl (.inl hd4)⟩, _, rfl, d, _, .str y, rfl, rfl, hd4, szt, app _ rfl⟩
  · rintro σ H2 ⟨v, rfl, s3, hp2, hd⟩
    rw [List.length_map, List.take_length] at hd
    exact ⟨_, rfl, k d H2 nd s3 hd⟩

/-! ### p taken for another name -/
def Fm.swap (n : Str) : Fm → Fm
  | .var m => if m = "p" then .var n else .var m
  | .fal => .fal
  | .and a b => .and (a.swap n) (b.swap n)
  | .or a b => .or (a.swap n) (b.swap n)
  | .imp a b => .imp (a.swap n) (b.swap n)
  | .box a => .box (a.swap n)
theorem kids_len (f : Fm) : f.kids.length ≤ 2 := by cases f <;> simp [Fm.kids]
theorem swap_d (nm : Str) {f : Fm} (h : f.isVar = false) : (f.swap nm).d = .tuple (.str f.sg :: f.kids.map fun g => (g.swap nm).d) := by
  cases f <;> first | rfl | cases h
def spSwap (K : PySem.W.Frag) (n : Nat) : Sp := fun vs H Q _ => ∃ (x : V) (f : Fm) (D : Addr) (v0 : V) (nm : Str), vs = [x, .ref D] ∧ Im K H x f.d ∧ H D = some (.dK [(.inr "p", v0)]) ∧ Im K H v0 (Fm.var nm).d ∧ f.ht < n ∧ ∀ (v : V) (H' : Hp), Same H H' → Im K H' v (f.swap nm).d → Q v H'
theorem ok_law_swap (T : Top K mg) : ∀ n : Nat, FnOk P w K mg base CX0 n T.f_law_swap T.d_law_swap ["a", "values"] (spSwap K n) := by
  intro n
  induction n with
  | zero =>
    refine fn_none fun vs H Q E h => ?_
    obtain ⟨x, f, D, v0, nm, _, _, _, _, h, _⟩ := h
    exact absurd h (Nat.not_lt_zero _)
  | succ n G_law_swap =>
    have G_law_parts : FnOk P w K mg base CX0 1 T.f_law_parts T.d_law_parts ["a"] (spLawParts K) := ok_law_parts T
    refine T.F_law_swap.ok sc_law_swap (fun vs H Q E h => ?_) (fun cdv A outer s H vs Q E hr h => ?_)
    · obtain ⟨x, f, D, v0, nm, rfl, _⟩ := h
      rfl
    obtain ⟨x, f, D, v0, nm, rfl, hx, hD, h0, hh, k⟩ := h
    have hu64 := hr.units
    have hu := Nat.lt_of_le_of_lt (Nat.add_le_add_left (by decide : 1 ≤ 64) _) hu64
    have hu200 := hr.un
    have hn1 : 1 ≤ n := by
      have := f.ht_pos
      omega
    refine ⟨_, (pss_cons (ps_if (pt_cmpR op_eq (pe_ix ix_tup (pv 0) pe_int (fun _ _ => rfl)) pe_str (nomark _))
      (pss_one (ps_ret (pe_dget2 hu (pv 1) (pe_ix ix_tup (pv 0) pe_int (fun _ _ => rfl)) (pv 0) ⟨rfl, rfl, rfl, rfl⟩)))
      pss_nil)
    (pss_one (ps_ret (pe_op op_catA (pe_tup (pa_cons (pe_ix ix_tup (pv 0) pe_int (fun _ _ => rfl)) pa_nil)) (pe_callTy call_tuple_of (by rfl) T.z_tuple (by decide +kernel) (pa_cons (pe_lc (own := [("part", 2)]) (g := gName 2) (tt := tYes) rfl sc_law_swap.nd (pi_list (pe_call G_law_parts (hr.mono (by omega)) (by rfl) T.m_law_parts T.F_law_parts.kp T.b_law_parts .nil pass0 (pa_cons (pv 0) pa_nil))) (blkOk_by (N := ["a", "values", "part"]) (sc := defScope s_law_swap) (by decide +kernel)) (fun _ _ _ _ _ => pg_name (i := 2) sc_law_swap.nd rfl (Or.inl rfl)) (fun _ _ _ _ _ => pts_nil) (fun _ _ _ _ _ => (pe_call G_law_swap (hr.mono (by omega)) (by rfl) T.m_law_swap T.F_law_swap.kp T.b_law_swap .nil pass0 (pa_cons (pv 2) (pa_cons (pv 1) pa_nil))))) pa_nil)))))), ?_⟩
    obtain ⟨a, ys, rfl, h1, h2⟩ := im_inv hx
    refine ⟨_, rfl, a, _, 0, _, rfl, rfl, h1, atI_nat (j := 0) rfl, rfl, _, rfl, ?_⟩
    rw [sg_var]
    cases hv : f.isVar with
    | true =>
      obtain ⟨_, m, rfl⟩ := kids_var hv
      refine iteT ?_
      have h2' : ImAll K H ys [.str m] := h2
      cases h2' with
      | cons i1 i2 =>
      cases i2
      cases i1
      refine ⟨_, rfl, D, rfl, .inl ⟨_, .inl hD⟩, _, rfl, a, _, 1, _, rfl, rfl, h1, atI_nat (j := 1) rfl, _, rfl, _, .inl ⟨_, .inr m, .inl hD, rfl, rfl⟩, ?_⟩
      by_cases e : m = "p"
      · subst e
        exact k v0 H (L2.Same.refl _) (by
          show Im K H v0 (Fm.swap nm (.var "p")).d
          rw [Fm.swap, if_pos rfl]
          exact h0)
      · have e1 : valV [((Sum.inr "p" : Key), v0)] (.inr m) = none := by
          unfold valV
          rw [List.find?_cons_of_neg (by
            rw [decide_eq_true_eq]
            exact fun q => e (Sum.inr.inj q).symm), List.find?_nil]
          rfl
        rw [e1]
        exact k (.ref a) H (L2.Same.refl _) (by
          show Im K H (.ref a) (Fm.swap nm (.var m)).d
          rw [Fm.swap, if_neg e]
          exact hx)
    | false =>
      refine iteF ?_
      refine ⟨_, rfl, a, _, 0, _, rfl, rfl, h1, atI_nat (j := 0) rfl, (by show 1 ≤ sizeLine; decide), fun t nt => ?_⟩
      have s1 := same_new (o := .tup [.str f.sg]) nt
      refine ⟨_, rfl, .ref a, f, rfl, hx.mono (Same.ts s1), fun p zs H2 np s2 hp iz => ?_⟩
      refine ⟨p, rfl, ⟨_, SqL.of hp⟩, fun L nL => ?_⟩
      have s12 := s1.trans s2
      have hzl := fms_len iz
      have hk3 := kids_len f
      refine lc_list (K := K) (a := p) (xs := zs) (fun i H3 => ∃ us : List V, Same H2 H3 ∧ H3 L = some (.lst us) ∧ us.length = i ∧ ImAll K H3 us ((f.kids.take i).map fun g => (g.swap nm).d)) ⟨[], same_new nL, upd_same, rfl, .nil⟩ (fun i H3 _ h => by
        obtain ⟨_, s3, _⟩ := h
        exact SqL.of (s3 _ _ hp)) ?_ ?_
      · rintro i y H3 hy ⟨us, s3, hL, hul, iu⟩
        obtain ⟨g, hg, ig⟩ := imAll_of iz hy
        have hgm : g ∈ f.kids := List.mem_of_getElem? hg
        have hgh := kids_ht hgm
        have s123 := s12.trans s3
        refine ⟨rfl, _, rfl, _, rfl, y, g, D, v0, nm, rfl, ig.mono (Same.ts s3), s123 _ _ hD, h0.mono (Same.ts s123), by omega, fun v H4 s4 iv => ?_⟩
        have hi : i < zs.length := (List.getElem?_eq_some_iff.mp hy).1
        refine ⟨us, s4 _ _ hL, small1000 (by omega), us ++ [v], fun b o hb => ?_, upd_same, by rw [List.length_append, hul]; rfl, ?_⟩
        · rw [upd_ne (ne_of_none hb nL)]
          exact s4 _ _ (s3 _ _ hb)
        · have t : TS H4 (upd H4 L (.lst (us ++ [v]))) := Kp.ts Kp.upd (s4 _ _ hL)
          rw [take_snoc hg, List.map_append]
          exact ((iu.mono (Same.ts s4)).mono t).snoc (iv.mono t)
      · rintro H3 ⟨us, s3, hL, hul, iu⟩
        have s123 := s12.trans s3
        rw [hzl, List.take_length] at iu
        refine ⟨L, us, rfl, .inl ⟨SqL.of hL, fun q nq => ?_⟩⟩
        have s4 := same_new (o := .tup us) nq
        have ht := s4 _ _ (s3 _ _ (s2 _ _ (upd_same (H := H) (a := t) (o := HO.tup [V.str f.sg]))))
        refine ⟨t, q, _, us, rfl, rfl, SqT.of ht, SqT.of upd_same, (by show 1 + us.length ≤ sizeLine; exact sizeU (by omega)), fun e => (nomatch e), fun _ e => ?_, fun _ e r nr => ?_⟩
        · have e1 : us = [] := e
          subst e1
          refine k _ _ (s123.trans s4) ?_
          rw [swap_d nm hv]
          exact im_sg hv (SqT.of ht) (iu.mono (Same.ts s4))
        · have s5 := same_new (o := .tup ([V.str f.sg] ++ us)) nr
          refine k _ _ ((s123.trans s4).trans s5) ?_
          rw [swap_d nm hv]
          exact im_sg hv (SqT.of upd_same) ((iu.mono (Same.ts s4)).mono (Same.ts s5))

/-! ### the pool -/
def spPool (K : PySem.W.Frag) : Sp := fun vs H Q _ => ∃ (a : Addr) (ns : List Int), vs = [.ref a] ∧ SqL K H a (ns.map V.int) ∧
  ∀ (p l : Addr) (H' : Hp), H p = none → Same H H' → Pl K H' p l → Q (.ref p) H'
theorem ok_law_pool (T : Top K mg) : FnOk P w K mg base CX0 1 T.f_law_pool T.d_law_pool ["script"] (spPool K) := by
  refine T.F_law_pool.ok sc_law_pool (fun vs H Q E h => ?_) (fun cdv A outer s H vs Q E hr h => ?_)
  · obtain ⟨a, ns, rfl, _⟩ := h
    rfl
  obtain ⟨a, ns, rfl, hS, q⟩ := h
  refine ⟨_, (pss_cons (ps_set (i := 1) sc_law_pool.nd rfl (.inl rfl) pe_int)
    (pss_cons (ps_for PassesOwn.never rfl (pi_list (pe_slice sl_list (pv 0) po_none (po_some pe_int))) (pg_name (i := 2) sc_law_pool.nd rfl (.inl rfl))
      (pss_one (ps_set (i := 1) sc_law_pool.nd rfl (.inl rfl) (pe_op op_mod (pe_callTy call_int1 (by rfl) T.z_int (by decide +kernel) (pa_cons (pe_op op_add (pe_op op_mul (pv 1) pe_int) (pv 2)) pa_nil)) pe_int))))
    (pss_one (ps_ret (pe_lst (pa_cons (pe_callTy call_list_of (by rfl) T.z_list (by decide +kernel) (pa_cons (pv 0) pa_nil)) (pa_cons pe_int (pa_cons pe_int (pa_cons pe_int (pa_cons (pv 1) pa_nil)))))))))), ?_⟩
  refine ⟨_, rfl, 63, rfl, a, ns.map V.int, rfl, hS, fun c nc => ?_⟩
  have s1 : Same H (upd H c (.lst (cutV (ns.map V.int) none (some 63)))) := same_new nc
  obtain ⟨ms, hms⟩ : ∃ ms : List Int, cutV (ns.map V.int) none (some 63) = ms.map V.int := ⟨_, by unfold cutV; rw [← List.map_drop, ← List.map_take]⟩
  rw [hms] at s1 ⊢
  refine ⟨c, rfl, ⟨_, SqL.of upd_same⟩, for_list (K := K) (a := c) (xs := ms.map V.int) (fun i σ H2 => ∃ (z : Int) (v : Option V), σ = [some (.ref a), some (.int z), v] ∧ H2 = upd H c (.lst (ms.map V.int))) ⟨7, none, rfl, rfl⟩ (fun i σ H2 _ h => by
    obtain ⟨_, _, _, rfl⟩ := h
    exact SqL.of upd_same) ?_ ?_⟩
  · rintro i x σ H2 hx ⟨z, v, rfl, rfl⟩
    obtain ⟨y, rfl⟩ : ∃ y, x = V.int y := by
      rw [List.getElem?_map] at hx
      cases e : ms[i]? with
      | none => rw [e] at hx; cases hx
      | some y => rw [e] at hx; exact ⟨y, (Option.some.inj hx).symm⟩
    refine ⟨_, rfl, _, _, rfl, rfl, .inr ⟨by decide, by decide⟩, _, rfl, _, _, rfl, rfl, .inl ⟨_, rfl, _, _, rfl, rfl, (by show (0 : Int) < 1000003; decide), _, _, rfl, rfl⟩⟩
  · rintro σ H2 ⟨z, v, rfl, rfl⟩
    refine ⟨_, rfl, a, _, rfl, .inl (s1.seq hS), fun l nl => ?_⟩
    refine ⟨_, rfl, (by show 5 ≤ sizeLine; decide), fun p np => ?_⟩
    have s2 := s1.trans (same_new (o := .lst (ns.map V.int)) nl)
    have s3 := s2.trans (same_new (o := .lst [.ref l, .int 0, .int 0, .int 0, .int z]) np)
    have hl : (upd (upd H c (.lst (ms.map V.int))) l (.lst (ns.map V.int))) l = some (.lst (ns.map V.int)) := upd_same
    have nlp : l ≠ p := ne_of_none hl np
    exact q p l _ (s2.free np) s3 ⟨⟨ns, SqL.of (by rw [upd_ne nlp]; exact hl)⟩, nlp, 0, 0, 0, z, upd_same, Int.le_refl 0⟩
/-! ### numbers out of the pool -/
def spSpread (K : PySem.W.Frag) : Sp := fun vs H Q _ => ∃ (c : Int), vs = [.int c] ∧ ∀ n : Int, Q (.int n) H
theorem ok_law_spread (T : Top K mg) : FnOk P w K mg base CX0 1 T.f_law_spread T.d_law_spread ["cell"] (spSpread K) := by
  refine T.F_law_spread.ok sc_law_spread (fun vs H Q E h => ?_) (fun cdv A outer s H vs Q E hr h => ?_)
  · obtain ⟨c, rfl, _⟩ := h
    rfl
  obtain ⟨c, rfl, q⟩ := h
  refine ⟨_, (pss_cons (ps_set (i := 1) sc_law_spread.nd rfl (.inl rfl) (pe_op op_mod (pe_callTy call_int1 (by rfl) T.z_int (by decide +kernel) (pa_cons (pv 0) pa_nil)) pe_int))
    (pss_cons (ps_set (i := 2) sc_law_spread.nd rfl (.inl rfl) pe_int)
    (pss_cons (ps_for PassesOwn.never rfl (pi_range1 (by rfl) T.z_range (pa_cons pe_int pa_nil)) (pg_name (i := 3) sc_law_spread.nd rfl (.inl rfl))
      (pss_cons (ps_set (i := 1) sc_law_spread.nd rfl (.inl rfl) (pe_op op_mod (pe_callTy call_int1 (by rfl) T.z_int (by decide +kernel) (pa_cons (pe_op op_add (pe_op op_add (pe_op op_mul (pv 1) pe_int) pe_int) (pv 3)) pa_nil)) pe_int))
    (pss_one (ps_set (i := 2) sc_law_spread.nd rfl (.inl rfl) (pe_op op_add (pe_op op_mul (pv 2) pe_int) (pv 1))))))
    (pss_one (ps_ret (pv 2)))))), ?_⟩
  refine ⟨_, rfl, .inl ⟨_, rfl, _, _, rfl, rfl, (by show (0 : Int) < 2147483647; decide), ?_⟩⟩
  refine ⟨4, rfl, by decide, by decide, for_range (n := 4) (fun i σ H2 => ∃ (m t : Int) (v : Option V), σ = [some (.int c), some (.int m), some (.int t), v] ∧ H2 = H) ⟨_, _, none, rfl, rfl⟩ ?_ ?_⟩
  · rintro i σ H2 hi ⟨m, t, v, rfl, rfl⟩
    refine ⟨_, rfl, _, _, rfl, rfl, .inr ⟨by decide, by decide⟩, _, _, rfl, rfl, _, rfl, _, _, rfl, rfl, .inl ⟨_, rfl, _, _, rfl, rfl, (by show (0 : Int) < 2147483647; decide), ?_⟩⟩
    exact ⟨_, rfl, _, _, rfl, rfl, .inr ⟨by decide, by decide⟩, _, rfl, _, _, rfl, rfl, _, _, _, rfl, rfl⟩
  · rintro σ H2 ⟨m, t, v, rfl, rfl⟩
    exact ⟨_, rfl, q _⟩
def spDraw (K : PySem.W.Frag) : Sp := fun vs H Q _ => ∃ (p l : Addr) (m : Int), vs = [.ref p, .int m] ∧ Pl K H p l ∧ 0 < m ∧ m < 1073741824 ∧
  ∀ (r : Int) (H' : Hp), 0 ≤ r → r < m → Kp p H H' → Pl K H' p l → Q (.int r) H'
theorem ok_law_draw (T : Top K mg) : FnOk P w K mg base CX0 2 T.f_law_draw T.d_law_draw ["pool", "many"] (spDraw K) := by
  have G_law_spread : FnOk P w K mg base CX0 1 T.f_law_spread T.d_law_spread ["cell"] (spSpread K) := ok_law_spread T
  refine T.F_law_draw.ok sc_law_draw (fun vs H Q E h => ?_) (fun cdv A outer s H vs Q E hr h => ?_)
  · obtain ⟨p, l, m, rfl, _⟩ := h
    rfl
  obtain ⟨p, l, m, rfl, hP, m0, m1, q⟩ := h
  refine ⟨_, (C8.pss_cut (ps_if (PW.pt (pw_and (pt_cmpR op_le (pe_ix ix_list (pv 0) pe_int (fun _ _ => rfl)) pe_int (nomark _)) (pw_and1 (pt_cmpR op_lt (pe_ix ix_list (pv 0) pe_int (fun _ _ => rfl)) (pe_callB call_len_seq (by rfl) T.z_len PySem.boot_len (pa_cons (pe_ix ix_list (pv 0) pe_int (fun _ _ => rfl)) pa_nil)) (nomark _)))))
      (pss_cons (ps_set (i := 2) sc_law_draw.nd rfl (.inl rfl) (pe_ix ix_list (pe_ix ix_list (pv 0) pe_int (fun _ _ => rfl)) (pe_ix ix_list (pv 0) pe_int (fun _ _ => rfl)) (fun _ _ => rfl)))
    (pss_cons (ps_asg (pe_op op_add (pe_ix ix_list (pv 0) pe_int (fun _ _ => rfl)) pe_int) (pg_sub (pv 0) pe_int set_list))
    (pss_cons (ps_asg (pv 2) (pg_sub (pv 0) pe_int set_list))
    (pss_one (ps_if (pt_cmpR op_lt (pv 2) pe_int (nomark _))
      (pss_one (ps_asg (pe_call G_law_spread (hr.mono (by omega)) (by rfl) T.m_law_spread T.F_law_spread.kp T.b_law_spread .nil pass0 (pa_cons (pv 2) pa_nil)) (pg_sub (pv 0) pe_int set_list)))
      pss_nil)))))
      pss_nil)
    (pss_cons (ps_asg (pe_op op_add (pe_ix ix_list (pv 0) pe_int (fun _ _ => rfl)) pe_int) (pg_sub (pv 0) pe_int set_list))
    (pss_cons (ps_if (pt_cmpR op_le (pe_ix ix_list (pv 0) pe_int (fun _ _ => rfl)) pe_int (nomark _))
      (pss_cons (ps_set (i := 3) sc_law_draw.nd rfl (.inl rfl) (pe_op op_mod (pe_callTy call_int1 (by rfl) T.z_int (by decide +kernel) (pa_cons (pe_op op_add (pe_op op_add (pe_op op_mul (pe_ix ix_list (pv 0) pe_int (fun _ _ => rfl)) pe_int) (pe_op op_mul (pe_ix ix_list (pv 0) pe_int (fun _ _ => rfl)) pe_int)) pe_int) pa_nil)) pe_int))
    (pss_cons (ps_set (i := 3) sc_law_draw.nd rfl (.inl rfl) (pe_op op_mod (pe_callTy call_int1 (by rfl) T.z_int (by decide +kernel) (pa_cons (pe_op op_add (pe_op op_mul (pv 3) pe_int) (pe_ix ix_list (pv 0) pe_int (fun _ _ => rfl))) pa_nil)) pe_int))
    (pss_one (ps_ret (pe_op op_mod (pe_op op_fdiv (pv 3) pe_int) (pv 1))))))
      pss_nil)
    (pss_cons (ps_set (i := 4) sc_law_draw.nd rfl (.inl rfl) (pe_op op_mod (pe_callTy call_int1 (by rfl) T.z_int (by decide +kernel) (pa_cons (pe_ix ix_list (pv 0) pe_int (fun _ _ => rfl)) pa_nil)) (pv 1)))
    (pss_cons (ps_asg (pe_op op_fdiv (pe_ix ix_list (pv 0) pe_int (fun _ _ => rfl)) (pv 1)) (pg_sub (pv 0) pe_int set_list))
    (pss_one (ps_ret (pv 4)))))))), ?_⟩
  obtain ⟨i, r, c, s, hp, hi⟩ := hP.at5
  obtain ⟨cs, hl⟩ := hP.sq
  -- the first if: a new number may be taken
  refine ⟨fun σ H1 => ∃ (i r : Int) (v2 v3 v4 : Option V), σ = [some (.ref p), some (.int m), v2, v3, v4] ∧ H1 = upd H p (.lst [.ref l, .int i, .int r, .int c, .int s]) ∧ 0 ≤ i, ?_, ?_⟩
  · have upd0 : upd H p (.lst [.ref l, .int i, .int r, .int c, .int s]) = H := by
      funext b
      by_cases e : b = p
      · rw [e, upd_same, hp]
      · rw [upd_ne e]
    refine ⟨_, rfl, p, _, 2, _, rfl, rfl, SqL.of hp, atI_nat (j := 2) rfl, _, _, rfl, rfl, _, rfl, ite2 (fun c1 => ?_) (fun c1 => iteF ?_)⟩
    · refine ⟨_, rfl, p, _, 1, _, rfl, rfl, SqL.of hp, atI_nat (j := 1) rfl, _, rfl, p, _, 0, _, rfl, rfl, SqL.of hp, atI_nat (j := 0) rfl, l, _, rfl, .inl hl, _, _, rfl, rfl, _, rfl, ite2 (fun c2 => ?_) (fun c2 => ?_)⟩
      · have c2' : i < ((cs.map V.int).length : Int) := of_decide_eq_true c2
        rw [List.length_map] at c2'
        have g : atI (cs.map V.int) i = some (.int cs[i.toNat]) := by
          have e := atI_nat (xs := cs.map V.int) (j := i.toNat) (v := .int cs[i.toNat]) (by rw [List.getElem?_map, List.getElem?_eq_getElem (by omega)]; rfl)
          rw [show ((i.toNat : Nat) : Int) = i by omega] at e
          exact e
        generalize cs[i.toNat] = z at g
        refine ⟨_, rfl, p, _, 0, _, rfl, rfl, SqL.of hp, atI_nat (j := 0) rfl, _, rfl, p, _, 1, _, rfl, rfl, SqL.of hp, atI_nat (j := 1) rfl, l, _, i, .int z, rfl, rfl, hl, g, ?_⟩
        refine ⟨_, rfl, p, _, 1, _, rfl, rfl, SqL.of hp, atI_nat (j := 1) rfl, _, _, rfl, rfl, _, rfl, p, _, 1, 1, rfl, rfl, hp, rfl, ?_⟩
        refine ⟨_, rfl, _, rfl, p, _, 2, 2, rfl, rfl, upd_same, rfl, ?_⟩
        rw [upd_upd]
        refine ⟨_, rfl, _, _, rfl, rfl, _, rfl, ite2 (fun c3 => ?_) (fun c3 => ?_)⟩
        · refine ⟨_, rfl, z, rfl, fun n => ⟨_, rfl, p, _, 2, 2, rfl, rfl, upd_same, rfl, ?_⟩⟩
          rw [upd_upd]
          exact ⟨i + 1, n, some (.int z), none, none, rfl, rfl, by omega⟩
        · exact ⟨i + 1, z, some (.int z), none, none, rfl, rfl, by omega⟩
      · exact ⟨i, r, none, none, none, rfl, upd0.symm, hi⟩
    · exact ⟨i, r, none, none, none, rfl, upd0.symm, hi⟩
  · rintro σ H1 ⟨i, r, v2, v3, v4, rfl, rfl, hi⟩
    refine ⟨_, rfl, p, _, 3, _, rfl, rfl, SqL.of upd_same, atI_nat (j := 3) rfl, _, _, rfl, rfl, _, rfl, p, _, 3, 3, rfl, rfl, upd_same, rfl, ?_⟩
    rw [upd_upd]
    refine ⟨_, rfl, p, _, 2, _, rfl, rfl, SqL.of upd_same, atI_nat (j := 2) rfl, _, _, rfl, rfl, _, rfl, ite2 (fun c1 => ?_) (fun c1 => ?_)⟩
    · refine ⟨_, rfl, p, _, 4, _, rfl, rfl, SqL.of upd_same, atI_nat (j := 4) rfl, _, _, rfl, rfl, .inr ⟨by decide, by decide⟩, _, rfl, p, _, 3, _, rfl, rfl, SqL.of upd_same, atI_nat (j := 3) rfl, _, _, rfl, rfl, .inr ⟨by decide, by decide⟩, _, _, rfl, rfl, _, _, rfl, rfl, .inl ⟨_, rfl, _, _, rfl, rfl, (by show (0 : Int) < 2147483647; decide), ?_⟩⟩
      refine ⟨_, rfl, _, _, rfl, rfl, .inr ⟨by decide, by decide⟩, _, rfl, p, _, 3, _, rfl, rfl, SqL.of upd_same, atI_nat (j := 3) rfl, _, _, rfl, rfl, .inl ⟨_, rfl, _, _, rfl, rfl, (by show (0 : Int) < 2147483629; decide), ?_⟩⟩
      refine ⟨_, rfl, _, _, rfl, rfl, ⟨by decide, by decide⟩, _, rfl, _, _, rfl, rfl, m0, ?_⟩
      exact q _ _ (Int.emod_nonneg _ (by omega)) (Int.emod_lt_of_pos _ m0) Kp.upd (hP.turn hi)
    · refine ⟨_, rfl, p, _, 2, _, rfl, rfl, SqL.of upd_same, atI_nat (j := 2) rfl, .inl ⟨_, rfl, _, rfl, _, _, rfl, rfl, m0, ?_⟩⟩
      refine ⟨_, rfl, p, _, 2, _, rfl, rfl, SqL.of upd_same, atI_nat (j := 2) rfl, _, rfl, _, _, rfl, rfl, ⟨m0, m1⟩, _, rfl, p, _, 2, 2, rfl, rfl, upd_same, rfl, _, rfl, ?_⟩
      rw [upd_upd]
      exact q _ _ (Int.emod_nonneg _ (by omega)) (Int.emod_lt_of_pos _ m0) Kp.upd (hP.turn hi)

/-! ### the law's own comparison: of a thing with itself it says True -/
def spSame (K : PySem.W.Frag) (n : Nat) : Sp := fun vs H Q _ => ∃ (x y : V) (d : PyData), vs = [x, y] ∧ Dp K H x d ∧ Dp K H y d ∧ d.depth < n ∧ sml d ∧ Q (.bl true) H
theorem ok_law_same (T : Top K mg) : ∀ n : Nat, FnOk P w K mg base CX0 n T.f_law_same T.d_law_same ["actual", "due"] (spSame K n) := by
  intro n
  induction n with
  | zero =>
    refine fn_none fun vs H Q E h => ?_
    obtain ⟨x, y, d, _, _, _, h, _⟩ := h
    exact absurd h (Nat.not_lt_zero _)
  | succ n G_law_same =>
    refine T.F_law_same.ok sc_law_same (fun vs H Q E h => ?_) (fun cdv A outer s H vs Q E hr h => ?_)
    · obtain ⟨x, y, d, rfl, _⟩ := h
      rfl
    obtain ⟨x, y, d, rfl, hx, hy, hd, hm, q⟩ := h
    refine ⟨_, (pss_cons (ps_if (PW.pt (pw_or (pt_val (pe_callB call_isi (by rfl) T.z_isinstance (by decide +kernel) (pa_cons (pv 1) (pa_cons (pe_bltn (v := .ty "tuple") (by rfl) T.z_tuple (by decide +kernel) rfl) pa_nil)))) (pw_or1 (pt_val (pe_callB call_isi (by rfl) T.z_isinstance (by decide +kernel) (pa_cons (pv 1) (pa_cons (pe_bltn (v := .ty "list") (by rfl) T.z_list (by decide +kernel) rfl) pa_nil)))))))
      (pss_cons (ps_if (PW.pt (pw_or (pt_cmpR op_ne (pe_callB call_isi (by rfl) T.z_isinstance (by decide +kernel) (pa_cons (pv 1) (pa_cons (pe_bltn (v := .ty "tuple") (by rfl) T.z_tuple (by decide +kernel) rfl) pa_nil))) (pe_callB call_isi (by rfl) T.z_isinstance (by decide +kernel) (pa_cons (pv 0) (pa_cons (pe_bltn (v := .ty "tuple") (by rfl) T.z_tuple (by decide +kernel) rfl) pa_nil))) (nomark _)) (pw_or1 (pt_cmpR op_ne (pe_callB call_isi (by rfl) T.z_isinstance (by decide +kernel) (pa_cons (pv 1) (pa_cons (pe_bltn (v := .ty "list") (by rfl) T.z_list (by decide +kernel) rfl) pa_nil))) (pe_callB call_isi (by rfl) T.z_isinstance (by decide +kernel) (pa_cons (pv 0) (pa_cons (pe_bltn (v := .ty "list") (by rfl) T.z_list (by decide +kernel) rfl) pa_nil))) (nomark _)))))
      (pss_one (ps_ret pe_bl))
      pss_nil)
    (pss_cons (ps_if (pt_cmpR op_ne (pe_callB call_len_seq (by rfl) T.z_len PySem.boot_len (pa_cons (pv 0) pa_nil)) (pe_callB call_len_seq (by rfl) T.z_len PySem.boot_len (pa_cons (pv 1) pa_nil)) (nomark _))
      (pss_one (ps_ret pe_bl))
      pss_nil)
    (pss_cons (ps_for PassesOwn.never rfl (pi_range1 (by rfl) T.z_range (pa_cons (pe_callB call_len_seq (by rfl) T.z_len PySem.boot_len (pa_cons (pv 1) pa_nil)) pa_nil)) (pg_name (i := 2) sc_law_same.nd rfl (.inl rfl))
      (pss_one (ps_if (pt_not (pt_val (pe_call G_law_same (hr.mono (by omega)) (by rfl) T.m_law_same T.F_law_same.kp T.b_law_same .nil pass0 (pa_cons (pe_ix ix_seq (pv 0) (pv 2) (fun _ _ => rfl)) (pa_cons (pe_ix ix_seq (pv 1) (pv 2) (fun _ _ => rfl)) pa_nil)))))
      (pss_one (ps_ret pe_bl))
      pss_nil)))
    (pss_one (ps_ret pe_bl)))))
      pss_nil)
    (pss_cons (ps_if (pt_cmpR op_isN1 (pv 1) pe_non (nomark _))
      (pss_one (ps_ret (pe_cmpR op_isN1 (pv 0) pe_non (nomark _))))
      pss_nil)
    (pss_cons (ps_if (pt_val (pe_callB call_isi (by rfl) T.z_isinstance (by decide +kernel) (pa_cons (pv 1) (pa_cons (pe_bltn (v := .ty "bool") (by rfl) T.z_bool (by decide +kernel) rfl) pa_nil))))
      (pss_one (ps_ret (pe_and (pe_callB call_isi (by rfl) T.z_isinstance (by decide +kernel) (pa_cons (pv 0) (pa_cons (pe_bltn (v := .ty "bool") (by rfl) T.z_bool (by decide +kernel) rfl) pa_nil))) (pe_one (pe_cmpR op_eq (pv 0) (pv 1) (nomark _))))))
      pss_nil)
    (pss_cons (ps_if (pt_val (pe_callB call_isi (by rfl) T.z_isinstance (by decide +kernel) (pa_cons (pv 1) (pa_cons (pe_bltn (v := .ty "int") (by rfl) T.z_int (by decide +kernel) rfl) pa_nil))))
      (pss_one (ps_ret (pe_and (pe_callB call_isi (by rfl) T.z_isinstance (by decide +kernel) (pa_cons (pv 0) (pa_cons (pe_bltn (v := .ty "int") (by rfl) T.z_int (by decide +kernel) rfl) pa_nil))) (pe_and (pe_not (pe_callB call_isi (by rfl) T.z_isinstance (by decide +kernel) (pa_cons (pv 0) (pa_cons (pe_bltn (v := .ty "bool") (by rfl) T.z_bool (by decide +kernel) rfl) pa_nil)))) (pe_one (pe_cmpR op_eq (pv 0) (pv 1) (nomark _)))))))
      pss_nil)
    (pss_one (ps_ret (pe_and (pe_callB call_isi (by rfl) T.z_isinstance (by decide +kernel) (pa_cons (pv 0) (pa_cons (pe_bltn (v := .ty "str") (by rfl) T.z_str (by decide +kernel) rfl) pa_nil))) (pe_one (pe_cmpR op_eq (pv 0) (pv 1) (nomark _)))))))))), ?_⟩
    cases d with
    | none =>
      cases hx; cases hy
      have t : TyX K H .non (.type "NoneType") := .base .non
      refine ⟨_, rfl, _, _, _, _, _, rfl, .ty _, t, kB false (by decide +kernel), _, rfl, iteF ⟨_, rfl, _, _, _, _, _, rfl, .ty _, t, kB false (by decide +kernel), _, rfl, iteF ?_⟩⟩
      exact ⟨_, rfl, rfl, _, rfl, iteT ⟨_, rfl, rfl, q⟩⟩
    | bool b =>
      cases hx; cases hy
      have t : TyX K H (.bl b) (.type "bool") := .base (.bl b)
      refine ⟨_, rfl, _, _, _, _, _, rfl, .ty _, t, kB false (by decide +kernel), _, rfl, iteF ⟨_, rfl, _, _, _, _, _, rfl, .ty _, t, kB false (by decide +kernel), _, rfl, iteF ?_⟩⟩
      refine ⟨_, rfl, rfl, _, rfl, iteF ⟨_, rfl, _, _, _, _, _, rfl, .ty _, t, kB true (by decide +kernel), _, rfl, iteT ⟨_, rfl, _, _, _, _, _, rfl, .ty _, t, kB true (by decide +kernel), _, rfl, iteT ⟨_, rfl, _, rfl, rfl, ?_⟩⟩⟩⟩
      rw [decide_eq_true rfl]
      exact q
    | int i =>
      cases hx; cases hy
      have t : TyX K H (.int i) (.type "int") := .base (.int i)
      refine ⟨_, rfl, _, _, _, _, _, rfl, .ty _, t, kB false (by decide +kernel), _, rfl, iteF ⟨_, rfl, _, _, _, _, _, rfl, .ty _, t, kB false (by decide +kernel), _, rfl, iteF ?_⟩⟩
      refine ⟨_, rfl, rfl, _, rfl, iteF ⟨_, rfl, _, _, _, _, _, rfl, .ty _, t, kB false (by decide +kernel), _, rfl, iteF ⟨_, rfl, _, _, _, _, _, rfl, .ty _, t, kB true (by decide +kernel), _, rfl, iteT ?_⟩⟩⟩
      refine ⟨_, rfl, _, _, _, _, _, rfl, .ty _, t, kB true (by decide +kernel), _, rfl, iteT ⟨_, rfl, _, _, _, _, _, rfl, .ty _, t, kB false (by decide +kernel), _, rfl, _, rfl, iteT ⟨_, rfl, _, rfl, rfl, ?_⟩⟩⟩
      rw [decide_eq_true rfl]
      exact q
    | str z =>
      cases hx; cases hy
      have t : TyX K H (.str z) (.type "str") := .base (.str z)
      refine ⟨_, rfl, _, _, _, _, _, rfl, .ty _, t, kB false (by decide +kernel), _, rfl, iteF ⟨_, rfl, _, _, _, _, _, rfl, .ty _, t, kB false (by decide +kernel), _, rfl, iteF ?_⟩⟩
      refine ⟨_, rfl, rfl, _, rfl, iteF ⟨_, rfl, _, _, _, _, _, rfl, .ty _, t, kB false (by decide +kernel), _, rfl, iteF ⟨_, rfl, _, _, _, _, _, rfl, .ty _, t, kB false (by decide +kernel), _, rfl, iteF ?_⟩⟩⟩
      refine ⟨_, rfl, _, _, _, _, _, rfl, .ty _, t, kB true (by decide +kernel), _, rfl, iteT ⟨_, rfl, _, rfl, rfl, ?_⟩⟩
      rw [decide_eq_true rfl]
      exact q
    | dict kvs => cases hx
    | list ds =>
      cases hx with
      | @lst a xs _ h1 h2 =>
      cases hy with
      | @lst b ys _ h3 h4 =>
      have t1 := ty_list h1
      have t2 := ty_list h3
      have e1 := dpAll_len h2
      have e2 := dpAll_len h4
      have hd' : PyData.depthAll ds < n := by
        rw [PyData.depth] at hd
        omega
      rw [sml] at hm
      have hz : (ys.length : Int) < 2 ^ 62 := by
        have := hm.1
        omega
      refine ⟨_, rfl, _, _, _, _, _, rfl, .ty _, t2, kB false (by decide +kernel), _, rfl, iteF ⟨_, rfl, _, _, _, _, _, rfl, .ty _, t2, kB true (by decide +kernel), _, rfl, iteT ?_⟩⟩
      refine ⟨_, rfl, _, _, _, _, _, rfl, .ty _, t2, kB false (by decide +kernel), _, rfl, _, _, _, _, _, rfl, .ty _, t1, kB false (by decide +kernel), rfl, _, rfl, iteF ?_⟩
      refine ⟨_, rfl, _, _, _, _, _, rfl, .ty _, t2, kB true (by decide +kernel), _, rfl, _, _, _, _, _, rfl, .ty _, t1, kB true (by decide +kernel), rfl, _, rfl, iteF ?_⟩
      refine ⟨_, rfl, a, xs, rfl, .inl h1, _, rfl, b, ys, rfl, .inl h3, rfl, _, rfl, iteNS (by rw [e1, e2]) ?_⟩
      refine ⟨_, rfl, b, ys, rfl, .inl h3, _, rfl, (by omega), hz, for_range (n := (ys.length : Int).toNat) (fun i σ H2 => ∃ v : Option V, σ = [some (.ref a), some (.ref b), v] ∧ H2 = H) ⟨none, rfl, rfl⟩ ?_ ?_⟩
      · rintro i σ H2 hi ⟨v, rfl, rfl⟩
        have hi' : i < ds.length := by omega
        have g := List.getElem?_eq_getElem hi'
        generalize ds[i] = d at g
        obtain ⟨v1, g1, p1⟩ := dpAll_get h2 g
        obtain ⟨v2, g2, p2⟩ := dpAll_get h4 g
        have ei : (0 : Int) + (i : Nat) = ((i : Nat) : Int) := by omega
        have a1 : atI xs (0 + (i : Int)) = some v1 := by rw [ei]; exact atI_nat g1
        have a2 : atI ys (0 + (i : Int)) = some v2 := by rw [ei]; exact atI_nat g2
        refine ⟨_, rfl, _, rfl, .inl ⟨a, xs, _, v1, rfl, rfl, h1, a1, _, rfl, _, rfl, .inl ⟨b, ys, _, v2, rfl, rfl, h3, a2, v1, v2, d, rfl, p1, p2, Nat.lt_of_le_of_lt (depth_mem g) hd', sml_mem hm.2 g, ?_⟩⟩⟩
        exact ⟨_, rfl, iteF ⟨_, rfl, rfl⟩⟩
      · rintro σ H2 ⟨v, rfl, rfl⟩
        exact q
    | tuple ds =>
      cases hx with
      | @tup a xs _ h1 h2 =>
      cases hy with
      | @tup b ys _ h3 h4 =>
      have t1 := ty_tup h1
      have t2 := ty_tup h3
      have e1 := dpAll_len h2
      have e2 := dpAll_len h4
      have hd' : PyData.depthAll ds < n := by
        rw [PyData.depth] at hd
        omega
      rw [sml] at hm
      have hz : (ys.length : Int) < 2 ^ 62 := by
        have := hm.1
        omega
      refine ⟨_, rfl, _, _, _, _, _, rfl, .ty _, t2, kB true (by decide +kernel), _, rfl, iteT (iteT ?_)⟩
      refine ⟨_, rfl, _, _, _, _, _, rfl, .ty _, t2, kB true (by decide +kernel), _, rfl, _, _, _, _, _, rfl, .ty _, t1, kB true (by decide +kernel), rfl, _, rfl, iteF ?_⟩
      refine ⟨_, rfl, _, _, _, _, _, rfl, .ty _, t2, kB false (by decide +kernel), _, rfl, _, _, _, _, _, rfl, .ty _, t1, kB false (by decide +kernel), rfl, _, rfl, iteF ?_⟩
      refine ⟨_, rfl, a, xs, rfl, .inr h1, _, rfl, b, ys, rfl, .inr h3, rfl, _, rfl, iteNS (by rw [e1, e2]) ?_⟩
      refine ⟨_, rfl, b, ys, rfl, .inr h3, _, rfl, (by omega), hz, for_range (n := (ys.length : Int).toNat) (fun i σ H2 => ∃ v : Option V, σ = [some (.ref a), some (.ref b), v] ∧ H2 = H) ⟨none, rfl, rfl⟩ ?_ ?_⟩
      · rintro i σ H2 hi ⟨v, rfl, rfl⟩
        have hi' : i < ds.length := by omega
        have g := List.getElem?_eq_getElem hi'
        generalize ds[i] = d at g
        obtain ⟨v1, g1, p1⟩ := dpAll_get h2 g
        obtain ⟨v2, g2, p2⟩ := dpAll_get h4 g
        have ei : (0 : Int) + (i : Nat) = ((i : Nat) : Int) := by omega
        have a1 : atI xs (0 + (i : Int)) = some v1 := by rw [ei]; exact atI_nat g1
        have a2 : atI ys (0 + (i : Int)) = some v2 := by rw [ei]; exact atI_nat g2
        refine ⟨_, rfl, _, rfl, .inr (.inl ⟨a, xs, _, v1, rfl, rfl, h1, a1, _, rfl, _, rfl, .inr (.inl ⟨b, ys, _, v2, rfl, rfl, h3, a2, v1, v2, d, rfl, p1, p2, Nat.lt_of_le_of_lt (depth_mem g) hd', sml_mem hm.2 g, ?_⟩)⟩)⟩
        exact ⟨_, rfl, iteF ⟨_, rfl, rfl⟩⟩
      · rintro σ H2 ⟨v, rfl, rfl⟩
        exact q

/-! ### drawn formulas -/
def spFormula (K : PySem.W.Frag) (n : Nat) : Sp := fun vs H Q _ => ∃ (q : Addr) (dep : Int) (pl : Bool) (ns : List Int), vs = [.ref q, .int dep, .bl pl] ∧ H q = some (.lst (ns.map V.int)) ∧ 0 ≤ dep ∧ dep < n ∧
  ∀ (v : V) (f : Fm) (H' : Hp) (ms : List Int), Kp q H H' → H' q = some (.lst (ms.map V.int)) → Im K H' v f.d → f.ht ≤ dep.toNat + 1 → f.over nms = true → (pl = true → f.plain = true) → Q v H'
theorem ok_law_formula (T : Top K mg) : ∀ n : Nat, FnOk P w K mg base CX0 n T.f_law_formula T.d_law_formula ["pool", "depth", "plain"] (spFormula K n) := by
  intro n
  induction n with
  | zero =>
    refine fn_none fun vs H Q E h => ?_
    obtain ⟨q, dep, pl, ns, _, _, h0, h1, _⟩ := h
    exact absurd h1 (by omega)
  | succ n G_law_formula =>
    refine T.F_law_formula.ok sc_law_formula (fun vs H Q E h => ?_) (fun cdv A outer s H vs Q E hr h => ?_)
    · obtain ⟨q, dep, pl, ns, rfl, _⟩ := h
      rfl
    obtain ⟨q, dep, pl, ns, rfl, hq, h0, h1, k⟩ := h
    have hu64 := hr.units
    refine ⟨_, (pss_cons (ps_set (i := 3) sc_law_formula.nd rfl (.inl rfl) pe_int)
    (C8.pss_cut (ps_if (pt_cmpR (op_neD hu64) (pv 0) (pe_lst pa_nil) (nomark _))
      (pss_one (ps_set (i := 3) sc_law_formula.nd rfl (.inl rfl) (pe_callTy call_int1 (by rfl) T.z_int (by decide +kernel) (pa_cons (pe_bm PySem.F.plainAttrs_list PySem.F.slot_list_pop PySem.F.type_list_pop mt_popAt (pv 0) (pa_cons pe_int pa_nil)) pa_nil))))
      pss_nil)
    (pss_cons (ps_set (i := 4) sc_law_formula.nd rfl (.inl rfl) (pe_op op_mod (pv 3) pe_int))
    (pss_cons (ps_if (PW.pt (pw_or (pt_cmpR op_eq (pv 1) pe_int (nomark _)) (pw_or1 (pt_cmpR op_lt (pv 4) pe_int (nomark _)))))
      (pss_cons (ps_if (pt_cmpR op_eq (pe_op op_mod (pe_op op_fdiv (pv 3) pe_int) pe_int) pe_int (nomark _))
      (pss_one (ps_ret (pe_tup (pa_cons pe_str pa_nil))))
      pss_nil)
    (pss_one (ps_ret (pe_tup (pa_cons pe_str (pa_cons (pe_ix ix_list (pe_lst (pa_cons pe_str (pa_cons pe_str (pa_cons pe_str (pa_cons pe_str (pa_cons pe_str pa_nil)))))) (pe_op op_mod (pe_op op_fdiv (pv 3) pe_int) pe_int) (fun _ _ => rfl)) pa_nil))))))
      pss_nil)
    (pss_cons (ps_if (PW.pt (pw_or (pt_cmpR op_eq (pv 4) pe_int (nomark _)) (pw_or1 (PW.pt (pw_and (pt_cmpR op_in_seq (pv 4) (pe_tup (pa_cons pe_int (pa_cons pe_int pa_nil))) rfl) (pw_and1 (pt_val (pv 2))))))))
      (pss_one (ps_ret (pe_tup (pa_cons pe_str (pa_cons (pe_call G_law_formula (hr.mono (by omega)) (by rfl) T.m_law_formula T.F_law_formula.kp T.b_law_formula .nil pass0 (pa_cons (pv 0) (pa_cons (pe_op op_sub (pv 1) pe_int) (pa_cons (pv 2) pa_nil)))) (pa_cons (pe_tup (pa_cons pe_str pa_nil)) pa_nil))))))
      pss_nil)
    (pss_cons (ps_if (pt_cmpR op_in_seq (pv 4) (pe_tup (pa_cons pe_int (pa_cons pe_int pa_nil))) rfl)
      (pss_one (ps_ret (pe_tup (pa_cons pe_str (pa_cons (pe_call G_law_formula (hr.mono (by omega)) (by rfl) T.m_law_formula T.F_law_formula.kp T.b_law_formula .nil pass0 (pa_cons (pv 0) (pa_cons (pe_op op_sub (pv 1) pe_int) (pa_cons (pv 2) pa_nil)))) pa_nil)))))
      pss_nil)
    (pss_cons (ps_set (i := 5) sc_law_formula.nd rfl (.inl rfl) (pe_call G_law_formula (hr.mono (by omega)) (by rfl) T.m_law_formula T.F_law_formula.kp T.b_law_formula .nil pass0 (pa_cons (pv 0) (pa_cons (pe_op op_sub (pv 1) pe_int) (pa_cons (pv 2) pa_nil)))))
    (pss_one (ps_ret (pe_tup (pa_cons (pe_ix ix_list (pe_lst (pa_cons pe_str (pa_cons pe_str (pa_cons pe_str (pa_cons pe_str (pa_cons pe_str pa_nil)))))) (pe_op op_sub (pv 4) pe_int) (fun _ _ => rfl)) (pa_cons (pv 5) (pa_cons (pe_call G_law_formula (hr.mono (by omega)) (by rfl) T.m_law_formula T.F_law_formula.kp T.b_law_formula .nil pass0 (pa_cons (pv 0) (pa_cons (pe_op op_sub (pv 1) pe_int) (pa_cons (pv 2) pa_nil)))) pa_nil))))))))))))), ?_⟩
    refine ⟨fun σ H1 => ∃ (z : Int) (ms : List Int), σ = [some (.ref q), some (.int dep), some (.bl pl), some (.int z), none, none] ∧ H1 q = some (.lst (ms.map V.int)) ∧ Kp q H H1, ?_, ?_⟩
    · refine ⟨_, rfl, (by show 0 ≤ sizeLine; decide), fun e ne => ?_⟩
      have s1 := same_new (o := .lst []) ne
      refine ⟨_, _, .lst (SqL.of (s1 _ _ hq)) (dp_ints ns), .lst (SqL.of upd_same) .nil, shaped_ints ns, rfl, _, rfl, ?_⟩
      rw [eqv_nil]
      cases ns with
      | nil => exact ⟨0, [], rfl, s1 _ _ hq, Same.kp s1⟩
      | cons z ns =>
        refine iteT ⟨_, rfl, .inl ⟨rfl, _, .inl (.inl (s1 _ _ hq))⟩, q, _, 0, 0, .int z, rfl, rfl, s1 _ _ hq, by decide, by decide, seqIndex_of (by decide) (by rw [List.map_cons, List.length_cons]; omega), rfl, .inl ⟨_, rfl, ?_⟩⟩
        exact ⟨z, ns, rfl, upd_same, Kp.trans (Same.kp s1) Kp.upd⟩
    · rintro σ H1 ⟨z, ms, rfl, hq1, k1⟩
      refine ⟨_, rfl, _, _, rfl, rfl, (by show (0 : Int) < 10; decide), ?_⟩
      have kd0 : 0 ≤ z % 10 := Int.emod_nonneg _ (by decide)
      have kd1 : z % 10 < 10 := Int.emod_lt_of_pos _ (by decide)
      dsimp only [gName, tSeq, tIfS, List.set]
      refine ans_or2 (b1 := decide (V.int dep = V.int 0)) (b2 := decide (z % 10 < 2)) (fun Q q => ⟨_, rfl, rfl, _, rfl, q⟩) (fun Q q => ⟨_, rfl, _, _, rfl, rfl, _, rfl, q⟩) _ ?_
      refine ite2 (fun c1 => ?_) (fun c1 => ?_)
      -- a leaf
      · refine ⟨_, rfl, _, _, rfl, rfl, ⟨by decide, by decide⟩, _, _, rfl, rfl, (by show (0 : Int) < 8; decide), rfl, _, rfl, ite2 (fun _ => ?_) (fun _ => ?_)⟩
        · refine ⟨(by show 1 ≤ sizeLine; decide), fun p np => ?_⟩
          have s2 := same_new (o := .tup [.str "falsum"]) np
          exact k _ .fal _ ms (k1.trans (Same.kp s2)) (s2 _ _ hq1) (im_fal upd_same) (Nat.le_add_left _ _) rfl fun _ => rfl
        · refine ⟨(by show 5 ≤ sizeLine; decide), fun a na => ?_⟩
          have s2 := same_new (o := .lst [.str "p", .str "q", .str "p", .str "q", .str "r"]) na
          obtain ⟨v, hv, hm⟩ := atI_mem (xs := [V.str "p", V.str "q", V.str "p", V.str "q", V.str "r"]) (i := z / 80 % 5) (Int.emod_nonneg _ (by decide)) (Int.emod_lt_of_pos _ (by decide))
          obtain ⟨y, rfl, hy⟩ : ∃ y : Str, v = .str y ∧ y ∈ nms := by
            simp only [List.mem_cons, List.not_mem_nil, or_false] at hm
            rcases hm with rfl | rfl | rfl | rfl | rfl
            all_goals exact ⟨_, rfl, by decide⟩
          refine ⟨_, rfl, _, _, rfl, rfl, ⟨by decide, by decide⟩, _, _, rfl, rfl, (by show (0 : Int) < 5; decide), a, _, _, _, rfl, rfl, SqL.of upd_same, hv, (by show 2 ≤ sizeLine; decide), fun p np => ?_⟩
          have s3 := s2.trans (same_new (o := .tup [.str "var", .str y]) np)
          exact k _ (.var y) _ ms (k1.trans (Same.kp s3)) (s3 _ _ hq1) (im_var upd_same) (Nat.le_add_left _ _) (decide_eq_true hy) fun _ => rfl
      · rw [Bool.or_eq_true, not_or] at c1
        have d0 : dep ≠ 0 := vintF c1.1
        have hk2 : 2 ≤ z % 10 := by
          have := of_decide_eq_false (Bool.eq_false_iff.mpr c1.2)
          omega
        have hd' : (dep - 1).toNat + 1 ≤ dep.toNat := by omega
        have negc : ∀ H2, Kp q H H2 → H2 q = some (.lst (ms.map V.int)) → True := fun _ _ _ => trivial
        by_cases e2 : z % 10 = 2
        -- a negation
        · refine ⟨_, rfl, rfl, _, rfl, iteD (congrArg V.int e2) (iteT ?_)⟩
          refine ⟨_, rfl, _, rfl, _, _, rfl, rfl, _, rfl, q, dep - 1, pl, ms, rfl, hq1, by omega, by omega, fun v f H3 ms3 k3 hq3 im3 hf3 ov3 pl3 => ?_⟩
          refine ⟨(by show 1 ≤ sizeLine; decide), fun a na => ⟨(by show 3 ≤ sizeLine; decide), fun p np => ?_⟩⟩
          have s4 := same_new (o := .tup [.str "falsum"]) na
          have s5 := same_new (o := .tup [.str "implies", v, .ref a]) np
          exact k _ (.imp f .fal) _ ms3 ((k1.trans k3).trans (Same.kp (s4.trans s5))) (s5 _ _ (s4 _ _ hq3)) (im_imp upd_same (im3.mono (Same.ts (s4.trans s5))) (im_fal (s5 _ _ upd_same)))
            (by show max f.ht 1 + 1 ≤ _; omega) (by show (f.over nms && true) = true; rw [ov3]; rfl) (fun e => by show (f.plain && true) = true; rw [pl3 e]; rfl)
        · refine ⟨_, rfl, rfl, _, rfl, iteDF (vne e2) ?_⟩
          by_cases e34 : z % 10 = 3 ∨ z % 10 = 4
          · refine ⟨_, rfl, (by show 2 ≤ sizeLine; decide), fun t nt => ⟨t, _, rfl, .inr (SqT.of upd_same), rfl, rfl, true, in34y e34, iteT ⟨_, rfl, _, rfl, ?_⟩⟩⟩
            have s2 := same_new (o := .tup [.int 3, .int 4]) nt
            cases pl with
            -- a negation in place of a box
            | true =>
              refine iteT ?_
              refine ⟨_, rfl, _, rfl, _, _, rfl, rfl, _, rfl, q, dep - 1, true, ms, rfl, s2 _ _ hq1, by omega, by omega, fun v f H3 ms3 k3 hq3 im3 hf3 ov3 pl3 => ?_⟩
              refine ⟨(by show 1 ≤ sizeLine; decide), fun a na => ⟨(by show 3 ≤ sizeLine; decide), fun p np => ?_⟩⟩
              have s4 := same_new (o := .tup [.str "falsum"]) na
              have s5 := same_new (o := .tup [.str "implies", v, .ref a]) np
              exact k _ (.imp f .fal) _ ms3 (((k1.trans (Same.kp s2)).trans k3).trans (Same.kp (s4.trans s5))) (s5 _ _ (s4 _ _ hq3)) (im_imp upd_same (im3.mono (Same.ts (s4.trans s5))) (im_fal (s5 _ _ upd_same)))
                (by show max f.ht 1 + 1 ≤ _; omega) (by show (f.over nms && true) = true; rw [ov3]; rfl) (fun e => by show (f.plain && true) = true; rw [pl3 e]; rfl)
            -- a box
            | false =>
              refine iteF ?_
              refine ⟨_, rfl, (by show 2 ≤ sizeLine; decide), fun t2 nt2 => ⟨t2, _, rfl, .inr (SqT.of upd_same), rfl, rfl, true, in34y e34, iteT ?_⟩⟩
              have s3 := s2.trans (same_new (o := .tup [.int 3, .int 4]) nt2)
              refine ⟨_, rfl, _, rfl, _, _, rfl, rfl, _, rfl, q, dep - 1, false, ms, rfl, s3 _ _ hq1, by omega, by omega, fun v f H3 ms3 k3 hq3 im3 hf3 ov3 pl3 => ?_⟩
              refine ⟨(by show 2 ≤ sizeLine; decide), fun p np => ?_⟩
              have s5 := same_new (o := .tup [.str "box", v]) np
              exact k _ (.box f) _ ms3 (((k1.trans (Same.kp s3)).trans k3).trans (Same.kp s5)) (s5 _ _ hq3) (im_box upd_same (im3.mono (Same.ts s5)))
                (by show f.ht + 1 ≤ _; omega) ov3 (fun e => nomatch e)
          -- two parts
          · refine ⟨_, rfl, (by show 2 ≤ sizeLine; decide), fun t nt => ⟨t, _, rfl, .inr (SqT.of upd_same), rfl, rfl, false, in34n e34, iteF (iteF ?_)⟩⟩
            have s2 := same_new (o := .tup [.int 3, .int 4]) nt
            refine ⟨_, rfl, (by show 2 ≤ sizeLine; decide), fun t2 nt2 => ⟨t2, _, rfl, .inr (SqT.of upd_same), rfl, rfl, false, in34n e34, iteF ?_⟩⟩
            have s3 := s2.trans (same_new (o := .tup [.int 3, .int 4]) nt2)
            refine ⟨_, rfl, _, rfl, _, _, rfl, rfl, _, rfl, q, dep - 1, pl, ms, rfl, s3 _ _ hq1, by omega, by omega, fun v f H3 ms3 k3 hq3 im3 hf3 ov3 pl3 => ?_⟩
            refine ⟨(by show 5 ≤ sizeLine; decide), fun a na => ?_⟩
            have s4 := same_new (o := .lst [.str "and", .str "or", .str "implies", .str "implies", .str "or"]) na
            obtain ⟨op, hv, hm⟩ := atI_mem (xs := [V.str "and", V.str "or", V.str "implies", V.str "implies", V.str "or"]) (i := z % 10 - 5) (by omega) (by show z % 10 - 5 < 5; omega)
            refine ⟨_, rfl, _, _, rfl, rfl, a, _, _, op, rfl, rfl, SqL.of upd_same, hv, _, rfl, ?_⟩
            refine ⟨_, rfl, _, rfl, _, _, rfl, rfl, _, rfl, q, dep - 1, pl, ms3, rfl, s4 _ _ hq3, by omega, by omega, fun u g H5 ms5 k5 hq5 im5 hf5 ov5 pl5 => ?_⟩
            refine ⟨(by show 3 ≤ sizeLine; decide), fun p np => ?_⟩
            have s6 := same_new (o := .tup [op, v, u]) np
            have kk := ((((k1.trans (Same.kp s3)).trans k3).trans (Same.kp s4)).trans k5).trans (Same.kp s6)
            have im3' := ((im3.mono (Same.ts s4)).mono (k5.ts (s4 _ _ hq3))).mono (Same.ts s6)
            have im5' := im5.mono (Same.ts s6)
            have hh : max f.ht g.ht + 1 ≤ dep.toNat + 1 := by omega
            have ho : (f.over nms && g.over nms) = true := by rw [ov3, ov5]; rfl
            have hp : pl = true → (f.plain && g.plain) = true := fun e => by rw [pl3 e, pl5 e]; rfl
            simp only [List.mem_cons, List.not_mem_nil, or_false] at hm
            rcases hm with rfl | rfl | rfl | rfl | rfl
            · exact k _ (.and f g) _ ms5 kk (s6 _ _ hq5) (im_and upd_same im3' im5') hh ho hp
            · exact k _ (.or f g) _ ms5 kk (s6 _ _ hq5) (im_or upd_same im3' im5') hh ho hp
            · exact k _ (.imp f g) _ ms5 kk (s6 _ _ hq5) (im_imp upd_same im3' im5') hh ho hp
            · exact k _ (.imp f g) _ ms5 kk (s6 _ _ hq5) (im_imp upd_same im3' im5') hh ho hp
            · exact k _ (.or f g) _ ms5 kk (s6 _ _ hq5) (im_or upd_same im3' im5') hh ho hp
def spList (K : PySem.W.Frag) : Sp := fun vs H Q _ => ∃ (p l : Addr) (m : Int), vs = [.ref p, .int m] ∧ Pl K H p l ∧ 0 ≤ m ∧ m ≤ 1000 ∧
  ∀ (q : Addr) (ns : List Int) (H' : Hp), H q = none → Kp p H H' → Pl K H' p l → H' q = some (.lst (ns.map V.int)) → (ns.length : Int) = m → Q (.ref q) H'
theorem ok_law_list (T : Top K mg) : FnOk P w K mg base CX0 3 T.f_law_list T.d_law_list ["pool", "many"] (spList K) := by
  have G_law_draw : FnOk P w K mg base CX0 2 T.f_law_draw T.d_law_draw ["pool", "many"] (spDraw K) := ok_law_draw T
  refine T.F_law_list.ok sc_law_list (fun vs H Q E h => ?_) (fun cdv A outer s H vs Q E hr h => ?_)
  · obtain ⟨p, l, m, rfl, _⟩ := h
    rfl
  obtain ⟨p, l, m, rfl, hP, m0, m1, k⟩ := h
  refine ⟨_, (pss_one (ps_ret (pe_lc (own := [("k", 2)]) (g := gName 2) (tt := tYes) rfl sc_law_list.nd (pi_range1 (by rfl) T.z_range (pa_cons (pv 1) pa_nil)) (blkOk_by (N := ["pool", "many", "k"]) (sc := defScope s_law_list) (by decide +kernel)) (fun _ _ _ _ _ => pg_name (i := 2) sc_law_list.nd rfl (Or.inl rfl)) (fun _ _ _ _ _ => pts_nil) (fun _ _ _ _ _ => (pe_call G_law_draw (hr.mono (by omega)) (by rfl) T.m_law_draw T.F_law_draw.kp T.b_law_draw .nil pass0 (pa_cons (pv 0) (pa_cons pe_int pa_nil))))))), ?_⟩
  refine ⟨_, rfl, m, rfl, by omega, by omega, fun D nD => ?_⟩
  obtain ⟨xs0, hp0⟩ := hP.lst
  have nDp : D ≠ p := (ne_of_none hp0 nD).symm
  refine lc_range (n := m.toNat) (fun i H2 => ∃ ns : List Int, Kp p H H2 ∧ Pl K H2 p l ∧ H2 D = some (.lst (ns.map V.int)) ∧ ns.length = i) ⟨[], Same.kp (same_new nD), hP.same (same_new nD), upd_same, rfl⟩ ?_ ?_
  · rintro i H2 hi ⟨ns, k2, hP2, hD2, hl⟩
    refine ⟨rfl, _, rfl, p, l, 4096, rfl, hP2, by decide, by decide, fun r H3 r0 r1 k3 hP3 => ?_⟩
    have hD3 := k3 _ _ hD2 nDp
    refine ⟨_, hD3, (by rw [List.length_map]; exact small1000 (by omega)), ns ++ [r], (k2.trans k3).under nD Kp.upd, hP.other nD hP3 Kp.upd, ?_, by rw [List.length_append, hl]; rfl⟩
    rw [upd_same, List.map_append]
    rfl
  · rintro H2 ⟨ns, k2, hP2, hD2, hl⟩
    exact k D ns H2 nD k2 hP2 hD2 (by omega)
/-- a formula that the pool gives -/
def spSome (K : PySem.W.Frag) (n : Nat) : Sp := fun vs H Q _ => ∃ (p l : Addr) (dep : Int) (pl : Bool), vs = [.ref p, .int dep, .bl pl] ∧ Pl K H p l ∧ 0 ≤ dep ∧ dep < n ∧
  ∀ (v : V) (f : Fm) (H' : Hp), Kp p H H' → Pl K H' p l → Im K H' v f.d → f.ht ≤ dep.toNat + 1 → f.over nms = true → (pl = true → f.plain = true) → Q v H'
theorem ok_law_some (T : Top K mg) (n : Nat) (hn : 3 ≤ n) : FnOk P w K mg base CX0 (n + 1) T.f_law_some T.d_law_some ["pool", "depth", "plain"] (spSome K n) := by
  have G_law_list : FnOk P w K mg base CX0 3 T.f_law_list T.d_law_list ["pool", "many"] (spList K) := ok_law_list T
  have G_law_formula : FnOk P w K mg base CX0 n T.f_law_formula T.d_law_formula ["pool", "depth", "plain"] (spFormula K n) := ok_law_formula T n
  refine T.F_law_some.ok sc_law_some (fun vs H Q E h => ?_) (fun cdv A outer s H vs Q E hr h => ?_)
  · obtain ⟨p, l, dep, pl, rfl, _⟩ := h
    rfl
  obtain ⟨p, l, dep, pl, rfl, hP, d0, d1, k⟩ := h
  refine ⟨_, (pss_one (ps_ret (pe_call G_law_formula (hr.mono (by omega)) (by rfl) T.m_law_formula T.F_law_formula.kp T.b_law_formula .nil pass0 (pa_cons (pe_call G_law_list (hr.mono (by omega)) (by rfl) T.m_law_list T.F_law_list.kp T.b_law_list .nil pass0 (pa_cons (pv 0) (pa_cons pe_int pa_nil))) (pa_cons (pv 1) (pa_cons (pv 2) pa_nil)))))), ?_⟩
  refine ⟨_, rfl, p, l, 40, rfl, hP, by decide, by decide, fun q ns H2 nq k2 hP2 hq2 hl => ?_⟩
  refine ⟨_, rfl, _, rfl, q, dep, pl, ns, rfl, hq2, d0, d1, fun v f H3 ms k3 hq3 im hf ov pn => ?_⟩
  exact k v f H3 (k2.under nq k3) (hP.other nq hP2 k3) im hf ov pn

/-! ### the law -/
theorem swap_ht (n : Str) : ∀ f : Fm, (f.swap n).ht = f.ht
  | .var m => by
    show (if m = "p" then Fm.var n else .var m).ht = 1
    split <;> rfl
  | .fal => rfl
  | .and a b => by show max (a.swap n).ht (b.swap n).ht + 1 = max a.ht b.ht + 1; rw [swap_ht, swap_ht]
  | .or a b => by show max (a.swap n).ht (b.swap n).ht + 1 = max a.ht b.ht + 1; rw [swap_ht, swap_ht]
  | .imp a b => by show max (a.swap n).ht (b.swap n).ht + 1 = max a.ht b.ht + 1; rw [swap_ht, swap_ht]
  | .box a => by show (a.swap n).ht + 1 = a.ht + 1; rw [swap_ht]
theorem swap_over {n : Str} {N : List Str} (hn : n ∈ N) : ∀ {f : Fm}, f.over N = true → (f.swap n).over N = true
  | .var m, h => by
    show (if m = "p" then Fm.var n else .var m).over N = true
    split
    · exact decide_eq_true hn
    · exact h
  | .fal, _ => rfl
  | .and a b, q => by
    have q' : (a.over N && b.over N) = true := q
    rw [Bool.and_eq_true] at q'
    show ((a.swap n).over N && (b.swap n).over N) = true
    rw [swap_over hn q'.1, swap_over hn q'.2]; rfl
  | .or a b, q => by
    have q' : (a.over N && b.over N) = true := q
    rw [Bool.and_eq_true] at q'
    show ((a.swap n).over N && (b.swap n).over N) = true
    rw [swap_over hn q'.1, swap_over hn q'.2]; rfl
  | .imp a b, q => by
    have q' : (a.over N && b.over N) = true := q
    rw [Bool.and_eq_true] at q'
    show ((a.swap n).over N && (b.swap n).over N) = true
    rw [swap_over hn q'.1, swap_over hn q'.2]; rfl
  | .box a, q => swap_over (f := a) hn q
theorem nodup_len {α : Type} [DecidableEq α] : ∀ {l N : List α}, l.Nodup → (∀ x ∈ l, x ∈ N) → l.length ≤ N.length
  | [], _, _, _ => Nat.zero_le _
  | x :: l, N, h, hs => by
    obtain ⟨h1, h2⟩ := List.nodup_cons.mp h
    have hx := hs x List.mem_cons_self
    have := nodup_len (l := l) (N := N.erase x) h2 fun y hy => (List.mem_erase_of_ne (fun e => h1 (by rw [← e]; exact hy))).mpr (hs y (List.mem_cons_of_mem _ hy))
    rw [List.length_erase_of_mem hx] at this
    have := List.length_pos_of_mem hx
    rw [List.length_cons]
    omega
/-- the names in a row of formulas -/
theorem names_asc {l : List Fm} (h : Asc l) : AscS (l.filterMap Fm.name?) := by
  unfold AscS
  rw [names_var]
  exact List.Pairwise.sublist List.filter_sublist h
theorem names_mem {N : List Str} {l : List Fm} (h : ∀ f ∈ l, f.over N = true) : ∀ n ∈ l.filterMap Fm.name?, n ∈ N := by
  intro n hn
  obtain ⟨f, hf, e⟩ := List.mem_filterMap.mp hn
  cases f <;> first | cases e | skip
  exact of_decide_eq_true (h _ hf)
theorem names_nodup {ns : List Str} (h : AscS ns) : ns.Nodup := by
  have := asc_nodup h
  exact List.Pairwise.of_map _ (fun a b q e => q (by rw [e])) this
theorem fms_law {fs : List Fm} (h : ∀ f ∈ fs, f.ht ≤ 7) (hl : fs.length ≤ 1000000) : (PyData.list (fs.map Fm.d)).depth < 20 ∧ sml (.list (fs.map Fm.d)) := by
  have h1 : PyData.depthAll (fs.map Fm.d) ≤ 7 := by
    clear hl
    induction fs with
    | nil => exact Nat.zero_le _
    | cons f fs ih =>
      have a := ih fun g hg => h g (List.mem_cons_of_mem _ hg)
      have b := h f List.mem_cons_self
      rw [List.map_cons, PyData.depthAll, Fm.depth]
      exact Nat.max_le.mpr ⟨b, a⟩
  refine ⟨by rw [PyData.depth]; omega, ?_⟩
  rw [sml]
  refine ⟨by rw [List.length_map]; exact hl, ?_⟩
  clear hl h1 h
  induction fs with
  | nil => exact True.intro
  | cons f fs ih => exact ⟨Fm.sml f, ih⟩
theorem strs_law {ns : List Str} (hl : ns.length ≤ 1000000) : (PyData.list (ns.map PyData.str)).depth < 20 ∧ sml (.list (ns.map PyData.str)) := by
  have h1 : PyData.depthAll (ns.map PyData.str) = 0 := by
    clear hl
    induction ns with
    | nil => rfl
    | cons n ns ih =>
      rw [List.map_cons, PyData.depthAll, ih, PyData.depth]
      rfl
  refine ⟨by rw [PyData.depth, h1]; decide, ?_⟩
  rw [sml]
  refine ⟨by rw [List.length_map]; exact hl, ?_⟩
  clear hl h1
  induction ns with
  | nil => exact True.intro
  | cons f fs ih => exact ⟨True.intro, ih⟩
theorem ok_join {ys : List Str} (h : ∀ y ∈ ys, PyData.strOk y = true) : PyData.strOk (Txt.join "" ys) = true := by
  have h1 : ∀ z : Str, PyData.strOk z = true ↔ ∀ c ∈ TL.tl z, c < 1114112 := fun z => by
    unfold PyData.strOk TL.tl
    rw [Array.all_eq_true_iff_forall_mem]
    exact ⟨fun q c hc => of_decide_eq_true (q c (Array.mem_toList_iff.mp hc)), fun q c hc => decide_eq_true (q c (Array.mem_toList_iff.mpr hc))⟩
  rw [h1, TL.join_eq, TL.tl_join]
  have h2 : ∀ y ∈ ys, ∀ c ∈ TL.tl y, c < 1114112 := fun y hy => (h1 y).mp (h y hy)
  clear h h1
  have e : TL.tl ("" : Str) = [] := by decide +kernel
  rw [e]
  induction ys with
  | nil => exact fun c hc => (nomatch hc)
  | cons y ys ih =>
    cases ys with
    | nil => exact h2 y List.mem_cons_self
    | cons z r =>
      intro c hc
      rcases List.mem_append.mp hc with hc | hc
      · exact h2 y List.mem_cons_self c hc
      · exact ih (fun y hy => h2 y (List.mem_cons_of_mem _ hy)) c hc
theorem chars_ok (ch : Nat) (h : ch ∈ (Str.ofString "abcdefghijklmnopqrstuvwxyz0123456789").cps.toList) : PyData.strOk ⟨#[ch]⟩ = true := by
  have e : (Str.ofString "abcdefghijklmnopqrstuvwxyz0123456789").cps.toList.all (fun c => PyData.strOk ⟨#[c]⟩) = true := by decide +kernel
  exact List.all_eq_true.mp e ch h
theorem flat_few : ∀ (ls : List (List Fm)), (∀ l ∈ ls, (l.filterMap Fm.name?).length ≤ 4) → (ls.flatten.filterMap Fm.name?).length ≤ 4 * ls.length
  | [], _ => Nat.zero_le _
  | l :: ls, h => by
    have h1 := h l List.mem_cons_self
    have h2 := flat_few ls fun m hm => h m (List.mem_cons_of_mem _ hm)
    rw [List.flatten_cons, List.filterMap_append, List.length_append, List.length_cons]
    omega
theorem lv_few {N : List Str} {f : Fm} (hN : N.length ≤ 4) (ho : f.over N = true) (hf : f.ht ≤ 7) : (lvNames f.ht f).length < 64 := by
  have h1 := flat_few (levs f.ht [f]) fun l hl => by
    obtain ⟨j, hj⟩ := List.getElem?_of_mem hl
    have ha := lev_asc f.ht [f] j l (List.pairwise_singleton _ _) hj
    have hm : ∀ g ∈ l, g.over N = true := fun g hg => by
      obtain ⟨k, hk, hx⟩ := (levs_mem f.ht [f] (fun g hg => by rw [List.mem_singleton.mp hg]; exact Nat.le_refl _) g).mp (List.mem_flatten.mpr ⟨l, hl, hg⟩)
      rw [List.mem_singleton.mp hk] at hx
      exact (subs_ok 7 hf ho hx).1
    exact Nat.le_trans (nodup_len (names_nodup (names_asc ha)) (names_mem hm)) hN
  have h2 := levs_len f.ht [f]
  unfold lvNames
  omega

def spLaw (K : PySem.W.Frag) : Sp := fun vs H Q _ => ∃ (a : Addr) (ns : List Int), vs = [.ref a] ∧ SqL K H a (ns.map V.int) ∧ ns.length ≤ 63 ∧ ∀ H', Q (.bl true) H'
theorem ok_law (T : Top K mg) : FnOk P w K mg base CX0 21 T.f_law T.d_law ["script"] (spLaw K) := by
  have G_law_pool : FnOk P w K mg base CX0 1 T.f_law_pool T.d_law_pool ["script"] (spPool K) := ok_law_pool T
  have G_law_draw : FnOk P w K mg base CX0 2 T.f_law_draw T.d_law_draw ["pool", "many"] (spDraw K) := ok_law_draw T
  have G_law_same : FnOk P w K mg base CX0 20 T.f_law_same T.d_law_same ["actual", "due"] (spSame K 20) := ok_law_same T 20
  have G_law_some : FnOk P w K mg base CX0 9 T.f_law_some T.d_law_some ["pool", "depth", "plain"] (spSome K 8) := ok_law_some T 8 (by decide)
  have G_law_swap : FnOk P w K mg base CX0 9 T.f_law_swap T.d_law_swap ["a", "values"] (spSwap K 9) := ok_law_swap T 9
  have G_law_all : FnOk P w K mg base CX0 9 T.f_law_all T.d_law_all ["a"] (spLawAll K 9) := ok_law_all T 9
  have G_law_distinct : FnOk P w K mg base CX0 1 T.f_law_distinct T.d_law_distinct ["rows"] (spDistinct K) := ok_law_distinct T
  have G_law_distinctS : FnOk P w K mg base CX0 1 T.f_law_distinct T.d_law_distinct ["rows"] (spDistinctS K) := ok_law_distinctS T
  have G_subformulas : FnOk P w K mg base CX0 4 T.f_subformulas T.d_subformulas ["a"] (spSubs K) := ok_subformulas T
  have G_variables : FnOk P w K mg base CX0 4 T.f_variables T.d_variables ["a"] (spVars K) := ok_variables T
  have G_boxes : FnOk P w K mg base CX0 5 T.f_boxes T.d_boxes ["a"] (spBoxes K) := ok_boxes T
  refine T.F_law.ok sc_law (fun vs H Q E h => ?_) (fun cdv A outer s H vs Q E hr h => ?_)
  · obtain ⟨a, ns, rfl, _⟩ := h
    rfl
  obtain ⟨a, ns, rfl, hS, hn, q⟩ := h
  have hu64 := hr.units
  refine ⟨_, (pss_cons (ps_set (i := 1) sc_law.nd rfl (.inr rfl) (pe_call G_law_pool (hr.mono (by omega)) (by rfl) T.m_law_pool T.F_law_pool.kp T.b_law_pool .nil pass0 (pa_cons (pv 0) pa_nil)))
    (pss_cons (ps_set (i := 2) sc_law.nd rfl (.inl rfl) (pe_call G_law_some (hr.mono (by omega)) (by rfl) T.m_law_some T.F_law_some.kp T.b_law_some .nil pass0 (pa_cons (pv 1) (pa_cons (pe_op op_add pe_int (pe_call G_law_draw (hr.mono (by omega)) (by rfl) T.m_law_draw T.F_law_draw.kp T.b_law_draw .nil pass0 (pa_cons (pv 1) (pa_cons pe_int pa_nil)))) (pa_cons (pe_cmpR op_eq (pe_call G_law_draw (hr.mono (by omega)) (by rfl) T.m_law_draw T.F_law_draw.kp T.b_law_draw .nil pass0 (pa_cons (pv 1) (pa_cons pe_int pa_nil))) pe_int (nomark _)) pa_nil)))))
    (C8.pss_cut (ps_set (i := 3) sc_law.nd rfl (.inl rfl) (pe_join pe_str (pe_lc (own := [("k", 6)]) (g := gName 6) (tt := tYes) rfl sc_law.nd (pi_range1 (by rfl) T.z_range (pa_cons (pe_op op_add pe_int (pe_call G_law_draw (hr.mono (by omega)) (by rfl) T.m_law_draw T.F_law_draw.kp T.b_law_draw .nil pass0 (pa_cons (pv 1) (pa_cons pe_int pa_nil)))) pa_nil)) (blkOk_by (N := ["script", "pool", "a", "name", "due", "told", "k", "b"]) (sc := defScope s_law) (by decide +kernel)) (fun _ _ _ _ _ => pg_name (i := 6) sc_law.nd rfl (Or.inl rfl)) (fun _ _ _ _ _ => pts_nil) (fun _ _ _ _ _ => (pe_ix ix_str pe_str (pe_call G_law_draw (hr.mono (by omega)) (by rfl) T.m_law_draw T.F_law_draw.kp T.b_law_draw .nil pass0 (pa_cons (pv 1) (pa_cons (pe_ifExp (pt_cmpR op_eq (pv 6) pe_int (nomark _)) pe_int pe_int) pa_nil))) (fun _ _ => rfl))))))
    (C8.pss_cut (ps_if (pt_cmpR op_eq (pe_call G_law_draw (hr.mono (by omega)) (by rfl) T.m_law_draw T.F_law_draw.kp T.b_law_draw .nil pass0 (pa_cons (pv 1) (pa_cons pe_int pa_nil))) pe_int (nomark _))
      (pss_one (ps_set (i := 2) sc_law.nd rfl (.inl rfl) (pe_tup (pa_cons pe_str (pa_cons (pv 2) (pa_cons (pe_tup (pa_cons pe_str (pa_cons (pe_call G_law_swap (hr.mono (by omega)) (by rfl) T.m_law_swap T.F_law_swap.kp T.b_law_swap .nil pass0 (pa_cons (pv 2) (pa_cons (pe_disp (pps_cons pe_str (pe_tup (pa_cons pe_str (pa_cons (pv 3) pa_nil))) pps_nil) rfl rfl (by decide) (by decide)) pa_nil))) (pa_cons (pv 2) pa_nil)))) pa_nil))))))
      pss_nil)
    (pss_cons (ps_set (i := 4) sc_law.nd rfl (.inl rfl) (pe_call G_law_distinct (hr.mono (by omega)) (by rfl) T.m_law_distinct T.F_law_distinct.kp T.b_law_distinct .nil pass0 (pa_cons (pe_call G_law_all (hr.mono (by omega)) (by rfl) T.m_law_all T.F_law_all.kp T.b_law_all .nil pass0 (pa_cons (pv 2) pa_nil)) pa_nil)))
    (pss_cons (ps_set (i := 5) sc_law.nd rfl (.inl rfl) (pe_call G_subformulas (hr.mono (by omega)) (by rfl) T.m_subformulas T.F_subformulas.kp T.b_subformulas .nil pass0 (pa_cons (pv 2) pa_nil)))
    (pss_cons (ps_if (pt_not (pt_val (pe_call G_law_same (hr.mono (by omega)) (by rfl) T.m_law_same T.F_law_same.kp T.b_law_same .nil pass0 (pa_cons (pv 5) (pa_cons (pv 4) pa_nil)))))
      (pss_one (ps_ret pe_bl))
      pss_nil)
    (pss_cons (ps_expr (pe_bm PySem.F.plainAttrs_list PySem.F.slot_list_append PySem.F.type_list_append mt_append (pv 5) (pa_cons (pv 2) pa_nil)))
    (pss_cons (ps_if (pt_not (pt_val (pe_call G_law_same (hr.mono (by omega)) (by rfl) T.m_law_same T.F_law_same.kp T.b_law_same .nil pass0 (pa_cons (pe_call G_subformulas (hr.mono (by omega)) (by rfl) T.m_subformulas T.F_subformulas.kp T.b_subformulas .nil pass0 (pa_cons (pv 2) pa_nil)) (pa_cons (pv 4) pa_nil)))))
      (pss_one (ps_ret pe_bl))
      pss_nil)
    (pss_cons (ps_if (pt_not (pt_val (pe_call G_law_same (hr.mono (by omega)) (by rfl) T.m_law_same T.F_law_same.kp T.b_law_same .nil pass0 (pa_cons (pe_call G_variables (hr.mono (by omega)) (by rfl) T.m_variables T.F_variables.kp T.b_variables .nil pass0 (pa_cons (pv 2) pa_nil)) (pa_cons (pe_call G_law_distinctS (hr.mono (by omega)) (by rfl) T.m_law_distinct T.F_law_distinct.kp T.b_law_distinct .nil pass0 (pa_cons (pe_lc (own := [("b", 7)]) (g := gName 7) (tt := (tTest (tOp _ (tOp (rIxT K) _ _) _))) (te := (tOp (rIxT K) _ _)) rfl sc_law.nd (pi_list (pv 4)) (blkOk_by (N := ["script", "pool", "a", "name", "due", "told", "k", "b"]) (sc := defScope s_law) (by decide +kernel)) (fun _ _ _ _ _ => pg_name (i := 7) sc_law.nd rfl (Or.inl rfl)) (fun _ _ _ _ _ => pts_one (pt_cmpR op_eq (pe_ix ix_tup (pv 7) pe_int (fun _ _ => rfl)) pe_str (nomark _))) (fun _ _ _ _ _ => (pe_ix ix_tup (pv 7) pe_int (fun _ _ => rfl)))) pa_nil)) pa_nil)))))
      (pss_one (ps_ret pe_bl))
      pss_nil)
    (pss_one (ps_ret (pe_call G_law_same (hr.mono (by omega)) (by rfl) T.m_law_same T.F_law_same.kp T.b_law_same .nil pass0 (pa_cons (pe_call G_boxes (hr.mono (by omega)) (by rfl) T.m_boxes T.F_boxes.kp T.b_boxes .nil pass0 (pa_cons (pv 2) pa_nil)) (pa_cons (pe_lc (own := [("b", 7)]) (g := gName 7) (tt := (tTest (tOp _ (tOp (rIxT K) _ _) _))) rfl sc_law.nd (pi_list (pv 4)) (blkOk_by (N := ["script", "pool", "a", "name", "due", "told", "k", "b"]) (sc := defScope s_law) (by decide +kernel)) (fun _ _ _ _ _ => pg_name (i := 7) sc_law.nd rfl (Or.inl rfl)) (fun _ _ _ _ _ => pts_one (pt_cmpR op_eq (pe_ix ix_tup (pv 7) pe_int (fun _ _ => rfl)) pe_str (nomark _))) (fun _ _ _ _ _ => (pv 7))) pa_nil))))))))))))))), ?_⟩
  refine ⟨_, rfl, a, ns, rfl, hS, fun p l H1 np s1 hP1 => ?_⟩
  refine ⟨_, rfl, _, rfl, p, l, 4, rfl, hP1, by decide, by decide, fun dep H2 d0 d1 k2 hP2 => ⟨_, _, rfl, rfl, ?_⟩⟩
  refine ⟨_, rfl, p, l, 4, rfl, hP2, by decide, by decide, fun r2 H3 _ _ k3 hP3 => ⟨rfl, ?_⟩⟩
  refine ⟨p, l, 1 + dep, _, rfl, hP3, by omega, by omega, fun va fa H4 k4 hP4 ia ha oa _ => ?_⟩
  have ha5 : fa.ht ≤ 5 := by omega
  clear k2 hP2 k3 hP3 k4
  -- the name
  refine ⟨fun σ H5 => ∃ nm : Str, σ = [some (.ref a), some (.ref p), some va, some (.str nm), none, none, none, none] ∧ PyData.strOk nm = true ∧ Kp p H4 H5 ∧ Pl K H5 p l, ?_, ?_⟩
  · refine ⟨⟨_, rfl⟩, _, rfl, p, l, 12, rfl, hP4, by decide, by decide, fun r H5 r0 r1 k5 hP5 => ⟨_, _, rfl, rfl, 1 + r, rfl, by omega, by omega, fun D nD => ?_⟩⟩
    obtain ⟨xs0, hp0⟩ := hP5.lst
    have nDp : D ≠ p := (ne_of_none hp0 nD).symm
    refine lc_range (n := (1 + r).toNat) (fun i H6 => ∃ ys : List Str, Kp p H5 H6 ∧ Pl K H6 p l ∧ H6 D = some (.lst (ys.map V.str)) ∧ ys.length = i ∧ ∀ y ∈ ys, PyData.strOk y = true ∧ y.length = 1) ⟨[], Same.kp (same_new nD), hP5.same (same_new nD), upd_same, rfl, fun y hy => (nomatch hy)⟩ ?_ ?_
    · rintro i H6 hi ⟨ys, k6, hP6, hD6, hl, hok⟩
      refine ⟨rfl, _, rfl, _, rfl, rfl, _, rfl, ite2 (fun c => ?_) (fun c => ?_)⟩
      all_goals
        refine ⟨p, l, _, rfl, hP6, by decide, by decide, fun j H7 j0 j1 k7 hP7 => ?_⟩
        have j36 : j < 36 := by omega
        have hc : (Str.ofString "abcdefghijklmnopqrstuvwxyz0123456789").cps.toList.length = 36 := by decide +kernel
        obtain ⟨ch, g, gm⟩ := atI_mem (xs := (Str.ofString "abcdefghijklmnopqrstuvwxyz0123456789").cps.toList) (i := j) j0 (by rw [hc]; exact j36)
        have hD7 := k7 _ _ hD6 nDp
        refine ⟨_, _, ch, rfl, rfl, (by decide +kernel), g, _, hD7, (by rw [List.length_map]; exact small1000 (by omega)), ys ++ [⟨#[ch]⟩], (k6.trans k7).under nD Kp.upd, hP5.other nD hP7 Kp.upd, ?_, by rw [List.length_append, hl]; rfl, fun y hy => ?_⟩
        · rw [upd_same, List.map_append]
          rfl
        · rcases List.mem_append.mp hy with hy | hy
          · exact hok y hy
          · rw [List.mem_singleton.mp hy]
            exact ⟨chars_ok ch gm, rfl⟩
    · rintro H6 ⟨ys, k6, hP6, hD6, hl, hok⟩
      have hsum : ∀ zs : List Str, (∀ y ∈ zs, y.length = 1) → (zs.map fun x => x.length).sum = zs.length := by
        intro zs h
        induction zs with
        | nil => rfl
        | cons z zs ih =>
          rw [List.map_cons, List.sum_cons, ih fun y hy => h y (List.mem_cons_of_mem _ hy), h z List.mem_cons_self, List.length_cons]
          omega
      refine ⟨"", D, ys, rfl, rfl, .inl (SqL.of hD6), ?_, _, rfl, ok_join fun y hy => (hok y hy).1, k5.trans k6, hP6⟩
      rw [hsum ys fun y hy => (hok y hy).2]
      have e0 : (Str.ofString "").length = 0 := by decide +kernel
      rw [e0]
      omega
  rintro σ H5 ⟨nm, rfl, hnm, k5, hP5⟩
  replace ia := ia.mono (hP4.ts k5)
  clear k5 hP4
  have hN : ∀ n ∈ nm :: nms, PyData.strOk n = true := fun n hn => by
    rcases List.mem_cons.mp hn with rfl | hn
    · exact hnm
    · exact nms_ok n hn
  have oa' : fa.over (nm :: nms) = true := over_mono (fun n hn => List.mem_cons_of_mem _ hn) oa
  -- perhaps larger
  refine ⟨fun σ H6 => ∃ (v : V) (f : Fm), σ = [some (.ref a), some (.ref p), some v, some (.str nm), none, none, none, none] ∧ Im K H6 v f.d ∧ f.ht ≤ 7 ∧ f.over (nm :: nms) = true, ?_, ?_⟩
  · refine ⟨_, rfl, p, l, 2, rfl, hP5, by decide, by decide, fun r H6 r0 r1 k6 hP6 => ⟨rfl, _, rfl, ite2 (fun c => ?_) (fun c => ?_)⟩⟩
    · replace ia := ia.mono (hP5.ts k6)
      refine ⟨_, rfl, _, rfl, fun D nD => ⟨_, rfl, (by show 2 ≤ sizeLine; decide), fun t nt => ?_⟩⟩
      have s7 := same_new (o := .dK []) nD
      have s8 := same_new (o := .tup [.str "var", .str nm]) nt
      have s78 := s7.trans s8
      have nDt : D ≠ t := ne_of_none upd_same nt
      refine ⟨(by rw [upd_ne nDt]; exact upd_same), [(.inr "p", .ref t)], rfl, (by show 1 ≤ 15; decide), ?_⟩
      have ht7 : (upd (upd (upd H6 D (.dK [])) t (.tup [.str "var", .str nm])) D (.dK [(.inr "p", .ref t)])) t = some (.tup [.str "var", .str nm]) := by
        rw [upd_ne nDt.symm]
        exact upd_same
      have s9 : Same H6 (upd (upd (upd H6 D (.dK [])) t (.tup [.str "var", .str nm])) D (.dK [(.inr "p", .ref t)])) := fun b o hb => by
        rw [upd_ne (ne_of_none hb nD)]
        exact s78 _ _ hb
      refine ⟨va, fa, D, .ref t, nm, rfl, ia.mono (Same.ts s9), upd_same, im_var ht7, by omega, fun v H7 s10 i10 => ?_⟩
      refine ⟨_, rfl, (by show 3 ≤ sizeLine; decide), fun b nb => ⟨(by show 3 ≤ sizeLine; decide), fun c nc => ?_⟩⟩
      have s11 := same_new (o := .tup [.str "and", v, va]) nb
      have s12 := same_new (o := .tup [.str "or", va, .ref b]) nc
      have hh := swap_ht nm fa
      have oo := swap_over (n := nm) List.mem_cons_self oa'
      refine ⟨_, .or fa (.and (fa.swap nm) fa), rfl, im_or upd_same (ia.mono (Same.ts (((s9.trans s10).trans s11).trans s12))) (im_and (s12 _ _ upd_same) (i10.mono (Same.ts (s11.trans s12))) (ia.mono (Same.ts (((s9.trans s10).trans s11).trans s12)))), ?_, ?_⟩
      · show max fa.ht (max (fa.swap nm).ht fa.ht + 1) + 1 ≤ 7
        omega
      · show (fa.over (nm :: nms) && ((fa.swap nm).over (nm :: nms) && fa.over (nm :: nms))) = true
        rw [oo, oa']
        rfl
    · exact ⟨va, fa, rfl, ia.mono (hP5.ts k6), by omega, oa'⟩
  rintro σ H6 ⟨v, f, rfl, iv, hf, ho⟩
  have hok : ∀ g ∈ f.subs, Ok1 g := fun g hg => by
    obtain ⟨a1, a2⟩ := subs_ok 7 hf ho hg
    exact ⟨Fm.lay hN g a1, by omega⟩
  have hht : ∀ g ∈ dist f.subs, g.ht ≤ 7 := fun g hg => by
    obtain ⟨a1, a2⟩ := subs_ok 7 hf ho (dist_mem.mp hg)
    omega
  have hso : ∀ g ∈ dist f.subs, g.over (nm :: nms) = true := fun g hg => (subs_ok 7 hf ho (dist_mem.mp hg)).1
  have hsz : f.sz ≤ 200 := by
    have h1 := sz_ht f
    have h2 : 2 ^ f.ht ≤ 2 ^ 7 := Nat.pow_le_pow_right (by decide) hf
    omega
  have hsl := subs_len f
  have hdl : (dist f.subs).length ≤ 200 := by
    have h1 := dist_len f.subs
    omega
  have dpl := fms_law hht (by omega)
  -- due, told
  refine ⟨_, rfl, v, f, rfl, iv, by omega, by omega, fun p1 ys1 H7 np1 s7 hp1 i1 => ⟨p1, ys1, f.subs, rfl, SqL.of hp1, i1, hok, by omega, fun p2 ys2 H8 np2 s8 hp2 i2 => ?_⟩⟩
  refine ⟨_, rfl, v, f, rfl, iv.mono (Same.ts (s7.trans s8)), hok, by omega, fun p3 ys3 H9 np3 s9 hp3 i3 => ?_⟩
  refine ⟨_, rfl, _, rfl, .ref p3, .ref p2, _, rfl, dp_of hp3 i3, dp_of (s9 _ _ hp2) (i2.mono (Same.ts s9)), dpl.1, dpl.2, _, rfl, iteF ?_⟩
  have n23 : p2 ≠ p3 := ne_of_none hp2 np3
  have l3 := fms_len i3
  refine ⟨_, rfl, .inl ⟨rfl, _, .inl (.inl hp3)⟩, _, rfl, p3, ys3, v, rfl, rfl, hp3, Nat.lt_of_le_of_lt (show ys3.length ≤ 200 by omega) (by decide), ?_⟩
  have t10 : TS H9 (upd H9 p3 (.lst (ys3 ++ [v]))) := Kp.ts Kp.upd hp3
  have hp210 : (upd H9 p3 (.lst (ys3 ++ [v]))) p2 = some (.lst ys2) := by
    rw [upd_ne n23]
    exact s9 _ _ hp2
  have iv10 := (iv.mono (Same.ts ((s7.trans s8).trans s9))).mono t10
  have i210 := (i2.mono (Same.ts s9)).mono t10
  generalize upd H9 p3 (.lst (ys3 ++ [v])) = H10 at hp210 iv10 i210
  clear t10
  -- told again
  refine ⟨_, rfl, v, f, rfl, iv10, hok, by omega, fun p5 ys5 H11 np5 s11 hp5 i5 => ⟨_, rfl, .ref p5, .ref p2, _, rfl, dp_of hp5 i5, dp_of (s11 _ _ hp210) (i210.mono (Same.ts s11)), dpl.1, dpl.2, _, rfl, iteF ?_⟩⟩
  -- the names
  have hna := names_asc (dist_asc f.subs)
  have hnm4 := names_mem hso
  have hnl : ((dist f.subs).filterMap Fm.name?).length ≤ 4 := nodup_len (names_nodup hna) hnm4
  have dps := strs_law (ns := (dist f.subs).filterMap Fm.name?) (by omega)
  have l2 := fms_len i210
  refine ⟨_, rfl, v, f, rfl, iv10.mono (Same.ts s11), hok, by omega, lv_few (N := nm :: nms) (Nat.le_refl _) ho hf, fun p6 H12 np6 s12 hp6 => ⟨_, rfl, p2, rfl, ⟨_, SqL.of (s12 _ _ (s11 _ _ hp210))⟩, fun D nD => ?_⟩⟩
  have s1012 := s11.trans s12
  refine lc_list (K := K) (a := p2) (xs := ys2) (fun i H2 => Same H12 H2 ∧ H2 D = some (.lst ((((dist f.subs).take i).filterMap Fm.name?).map V.str))) ⟨same_new nD, upd_same⟩ (fun i H2 _ h => SqL.of (h.1 _ _ (s1012 _ _ hp210))) ?_ ?_
  · rintro i y H2 hy ⟨s2, hD⟩
    obtain ⟨g, hg, ig⟩ := imAll_of i210 hy
    obtain ⟨b, ws, rfl, h1, h2⟩ := im_inv (ig.mono (Same.ts (s1012.trans s2)))
    refine ⟨rfl, _, rfl, b, _, 0, _, rfl, rfl, h1, atI_nat (j := 0) rfl, rfl, _, rfl, ?_⟩
    rw [sg_var, take_snoc hg, List.filterMap_append]
    cases hv : g.isVar with
    | true =>
      obtain ⟨_, n, rfl⟩ := kids_var hv
      cases h2 with
      | cons h3 h4 =>
        cases h3
        cases h4
        refine iteT ⟨_, rfl, b, _, 1, _, rfl, rfl, h1, atI_nat (j := 1) rfl, _, hD, ?_, ?_, ?_⟩
        · rw [List.length_map]
          refine Nat.lt_of_le_of_lt (show _ ≤ 100000 from ?_) (by decide)
          refine Nat.le_trans (List.length_filterMap_le _ _) ?_
          rw [List.length_take]
          omega
        · intro b o hb
          rw [upd_ne (ne_of_none hb nD)]
          exact s2 _ _ hb
        · rw [upd_same, List.map_append]
          rfl
    | false =>
      refine iteF ⟨s2, ?_⟩
      have e : [g].filterMap Fm.name? = [] := by cases g <;> first | rfl | cases hv
      rw [e, List.append_nil]
      exact hD
  rintro H13 ⟨s13, hD⟩
  rw [l2, List.take_length] at hD
  refine ⟨D, _, rfl, SqL.of hD, hna, by omega, fun n hn => hN n (hnm4 n hn), fun p7 H14 np7 s14 hp7 => ?_⟩
  refine ⟨.ref p6, .ref p7, _, rfl, .lst (SqL.of (s14 _ _ (s13 _ _ hp6))) (dp_strs _), .lst (SqL.of hp7) (dp_strs _), dps.1, dps.2, _, rfl, iteF ?_⟩
  have s1014 := (s1012.trans s13).trans s14
  clear s1012 s13 s12 s14
  -- the boxes
  refine ⟨_, rfl, v, f, rfl, iv10.mono (Same.ts s1014), hok, by omega, fun p8 ys8 H15 np8 s15 hp8 i8 => ⟨_, rfl, p2, rfl, ⟨_, SqL.of (s15 _ _ (s1014 _ _ hp210))⟩, fun D2 nD2 => ?_⟩⟩
  have s1015 := s1014.trans s15
  refine lc_list (K := K) (a := p2) (xs := ys2) (fun i H2 => ∃ zs : List V, Same H15 H2 ∧ H2 D2 = some (.lst zs) ∧ ImAll K H2 zs ((((dist f.subs).take i).filter Fm.isBox).map Fm.d)) ⟨[], same_new nD2, upd_same, .nil⟩ (fun i H2 _ h => by
    obtain ⟨_, h, _⟩ := h
    exact SqL.of (h _ _ (s1015 _ _ hp210))) ?_ ?_
  · rintro i y H2 hy ⟨zs, s2, hD, iz⟩
    obtain ⟨g, hg, ig⟩ := imAll_of i210 hy
    have ig2 := ig.mono (Same.ts (s1015.trans s2))
    obtain ⟨b, ws, rfl, h1, h2⟩ := im_inv ig2
    refine ⟨rfl, _, rfl, b, _, 0, _, rfl, rfl, h1, atI_nat (j := 0) rfl, rfl, _, rfl, ?_⟩
    rw [sg_box, take_snoc hg, List.filter_append]
    cases hv : g.isBox with
    | true =>
      have hzl := fms_len iz
      refine iteT ⟨_, rfl, zs, hD, ?_, zs ++ [.ref b], ?_, upd_same, ?_⟩
      · refine Nat.lt_of_le_of_lt (show _ ≤ 100000 from ?_) (by decide)
        rw [hzl]
        refine Nat.le_trans (List.length_filter_le _ _) ?_
        rw [List.length_take]
        omega
      · intro b o hb
        rw [upd_ne (ne_of_none hb nD2)]
        exact s2 _ _ hb
      · rw [show [g].filter Fm.isBox = [g] by rw [List.filter_cons, hv]; rfl, fm_snoc]
        exact (iz.mono (Kp.upd.ts hD)).snoc (ig2.mono (Kp.upd.ts hD))
    | false =>
      refine iteF ⟨zs, s2, hD, ?_⟩
      rw [show [g].filter Fm.isBox = [] by rw [List.filter_cons, hv]; rfl, List.append_nil]
      exact iz
  rintro H16 ⟨zs, s16, hD, iz⟩
  rw [l2, List.take_length] at iz
  have dpb := fms_law (fs := (dist f.subs).filter Fm.isBox) (fun g hg => hht g (List.mem_filter.mp hg).1) (Nat.le_trans (List.length_filter_le _ _) (by omega))
  exact ⟨.ref p8, .ref D2, _, rfl, dp_of (s16 _ _ hp8) (i8.mono (Same.ts s16)), dp_of hD iz, dpb.1, dpb.2, q _⟩

end
theorem all_mk {l : PySem.W.OpenLaw} {w : World} {K : PySem.W.Frag} {h : Heap} {mg : Str → Option Value} {fa : Addr} (X : K.In h) (G : h.Ns mainGlobals mg) (hfa : mg "law" = some (.ref fa))
    {f0 f1 f2 f3 f4 f5 f6 f7 f8 f9 f10 f11 f12 f13 f14 f15 f16 f17 f18 f19 : Addr} {od0 an0 od1 an1 od2 an2 od3 an3 od4 an4 od5 an5 od6 an6 od7 an7 od8 an8 od9 an9 od10 an10 od11 an11 od12 an12 od13 an13 od14 an14 od15 an15 od16 an16 od17 an17 od18 an18 od19 an19 : Option Addr}
    {sl0 sl1 sl2 sl3 sl4 sl5 sl6 sl7 sl8 sl9 sl10 sl11 sl12 sl13 sl14 sl15 sl16 sl17 sl18 sl19 : Array (Option Value)} {oc0 kV0 dc0 pm0 cd0 ct0 oc1 kV1 dc1 pm1 cd1 ct1 oc2 kV2 dc2 pm2 cd2 ct2 oc3 kV3 dc3 pm3 cd3 ct3 oc4 kV4 dc4 pm4 cd4 ct4 oc5 kV5 dc5 pm5 cd5 ct5 oc6 kV6 dc6 pm6 cd6 ct6 oc7 kV7 dc7 pm7 cd7 ct7 oc8 kV8 dc8 pm8 cd8 ct8 oc9 kV9 dc9 pm9 cd9 ct9 oc10 kV10 dc10 pm10 cd10 ct10 oc11 kV11 dc11 pm11 cd11 ct11 oc12 kV12 dc12 pm12 cd12 ct12 oc13 kV13 dc13 pm13 cd13 ct13 oc14 kV14 dc14 pm14 cd14 ct14 oc15 kV15 dc15 pm15 cd15 ct15 oc16 kV16 dc16 pm16 cd16 ct16 oc17 kV17 dc17 pm17 cd17 ct17 oc18 kV18 dc18 pm18 cd18 ct18 oc19 kV19 dc19 pm19 cd19 ct19 : Value}
    (a0 : PySem.W.nsIn K mainGlobals "parts_of" = some (some (.ref f0))) (l0 : K.lookup f0 = some ⟨oc0, od0, .func (PySem.W.fnOf "parts_of" "parts_of" (defArgs s_parts_of) (defBody s_parts_of) (defScope s_parts_of) .none kV0 dc0 pm0 an0 cd0 ct0), sl0⟩) (c0 : PySem.W.codeIn K cd0 "parts_of" = true) (k0 : PySem.W.keepIn K (.ref f0) = true)
    (a1 : PySem.W.nsIn K mainGlobals "distinct" = some (some (.ref f1))) (l1 : K.lookup f1 = some ⟨oc1, od1, .func (PySem.W.fnOf "distinct" "distinct" (defArgs s_distinct) (defBody s_distinct) (defScope s_distinct) .none kV1 dc1 pm1 an1 cd1 ct1), sl1⟩) (c1 : PySem.W.codeIn K cd1 "distinct" = true) (k1 : PySem.W.keepIn K (.ref f1) = true)
    (a2 : PySem.W.nsIn K mainGlobals "levels_from" = some (some (.ref f2))) (l2 : K.lookup f2 = some ⟨oc2, od2, .func (PySem.W.fnOf "levels_from" "levels_from" (defArgs s_levels_from) (defBody s_levels_from) (defScope s_levels_from) .none kV2 dc2 pm2 an2 cd2 ct2), sl2⟩) (c2 : PySem.W.codeIn K cd2 "levels_from" = true) (k2 : PySem.W.keepIn K (.ref f2) = true)
    (a3 : PySem.W.nsIn K mainGlobals "subformulas" = some (some (.ref f3))) (l3 : K.lookup f3 = some ⟨oc3, od3, .func (PySem.W.fnOf "subformulas" "subformulas" (defArgs s_subformulas) (defBody s_subformulas) (defScope s_subformulas) .none kV3 dc3 pm3 an3 cd3 ct3), sl3⟩) (c3 : PySem.W.codeIn K cd3 "subformulas" = true) (k3 : PySem.W.keepIn K (.ref f3) = true)
    (a4 : PySem.W.nsIn K mainGlobals "subformulas_of" = some (some (.ref f4))) (l4 : K.lookup f4 = some ⟨oc4, od4, .func (PySem.W.fnOf "subformulas_of" "subformulas_of" (defArgs s_subformulas_of) (defBody s_subformulas_of) (defScope s_subformulas_of) .none kV4 dc4 pm4 an4 cd4 ct4), sl4⟩) (c4 : PySem.W.codeIn K cd4 "subformulas_of" = true) (k4 : PySem.W.keepIn K (.ref f4) = true)
    (a5 : PySem.W.nsIn K mainGlobals "variables" = some (some (.ref f5))) (l5 : K.lookup f5 = some ⟨oc5, od5, .func (PySem.W.fnOf "variables" "variables" (defArgs s_variables) (defBody s_variables) (defScope s_variables) .none kV5 dc5 pm5 an5 cd5 ct5), sl5⟩) (c5 : PySem.W.codeIn K cd5 "variables" = true) (k5 : PySem.W.keepIn K (.ref f5) = true)
    (a6 : PySem.W.nsIn K mainGlobals "variables_of" = some (some (.ref f6))) (l6 : K.lookup f6 = some ⟨oc6, od6, .func (PySem.W.fnOf "variables_of" "variables_of" (defArgs s_variables_of) (defBody s_variables_of) (defScope s_variables_of) .none kV6 dc6 pm6 an6 cd6 ct6), sl6⟩) (c6 : PySem.W.codeIn K cd6 "variables_of" = true) (k6 : PySem.W.keepIn K (.ref f6) = true)
    (a7 : PySem.W.nsIn K mainGlobals "boxes" = some (some (.ref f7))) (l7 : K.lookup f7 = some ⟨oc7, od7, .func (PySem.W.fnOf "boxes" "boxes" (defArgs s_boxes) (defBody s_boxes) (defScope s_boxes) .none kV7 dc7 pm7 an7 cd7 ct7), sl7⟩) (c7 : PySem.W.codeIn K cd7 "boxes" = true) (k7 : PySem.W.keepIn K (.ref f7) = true)
    (a8 : PySem.W.nsIn K mainGlobals "_law_pool" = some (some (.ref f8))) (l8 : K.lookup f8 = some ⟨oc8, od8, .func (PySem.W.fnOf "_law_pool" "_law_pool" (defArgs s_law_pool) (defBody s_law_pool) (defScope s_law_pool) .none kV8 dc8 pm8 an8 cd8 ct8), sl8⟩) (c8 : PySem.W.codeIn K cd8 "_law_pool" = true) (k8 : PySem.W.keepIn K (.ref f8) = true)
    (a9 : PySem.W.nsIn K mainGlobals "_law_spread" = some (some (.ref f9))) (l9 : K.lookup f9 = some ⟨oc9, od9, .func (PySem.W.fnOf "_law_spread" "_law_spread" (defArgs s_law_spread) (defBody s_law_spread) (defScope s_law_spread) .none kV9 dc9 pm9 an9 cd9 ct9), sl9⟩) (c9 : PySem.W.codeIn K cd9 "_law_spread" = true) (k9 : PySem.W.keepIn K (.ref f9) = true)
    (a10 : PySem.W.nsIn K mainGlobals "_law_draw" = some (some (.ref f10))) (l10 : K.lookup f10 = some ⟨oc10, od10, .func (PySem.W.fnOf "_law_draw" "_law_draw" (defArgs s_law_draw) (defBody s_law_draw) (defScope s_law_draw) .none kV10 dc10 pm10 an10 cd10 ct10), sl10⟩) (c10 : PySem.W.codeIn K cd10 "_law_draw" = true) (k10 : PySem.W.keepIn K (.ref f10) = true)
    (a11 : PySem.W.nsIn K mainGlobals "_law_same" = some (some (.ref f11))) (l11 : K.lookup f11 = some ⟨oc11, od11, .func (PySem.W.fnOf "_law_same" "_law_same" (defArgs s_law_same) (defBody s_law_same) (defScope s_law_same) .none kV11 dc11 pm11 an11 cd11 ct11), sl11⟩) (c11 : PySem.W.codeIn K cd11 "_law_same" = true) (k11 : PySem.W.keepIn K (.ref f11) = true)
    (a12 : PySem.W.nsIn K mainGlobals "_law_formula" = some (some (.ref f12))) (l12 : K.lookup f12 = some ⟨oc12, od12, .func (PySem.W.fnOf "_law_formula" "_law_formula" (defArgs s_law_formula) (defBody s_law_formula) (defScope s_law_formula) .none kV12 dc12 pm12 an12 cd12 ct12), sl12⟩) (c12 : PySem.W.codeIn K cd12 "_law_formula" = true) (k12 : PySem.W.keepIn K (.ref f12) = true)
    (a13 : PySem.W.nsIn K mainGlobals "_law_list" = some (some (.ref f13))) (l13 : K.lookup f13 = some ⟨oc13, od13, .func (PySem.W.fnOf "_law_list" "_law_list" (defArgs s_law_list) (defBody s_law_list) (defScope s_law_list) .none kV13 dc13 pm13 an13 cd13 ct13), sl13⟩) (c13 : PySem.W.codeIn K cd13 "_law_list" = true) (k13 : PySem.W.keepIn K (.ref f13) = true)
    (a14 : PySem.W.nsIn K mainGlobals "_law_some" = some (some (.ref f14))) (l14 : K.lookup f14 = some ⟨oc14, od14, .func (PySem.W.fnOf "_law_some" "_law_some" (defArgs s_law_some) (defBody s_law_some) (defScope s_law_some) .none kV14 dc14 pm14 an14 cd14 ct14), sl14⟩) (c14 : PySem.W.codeIn K cd14 "_law_some" = true) (k14 : PySem.W.keepIn K (.ref f14) = true)
    (a15 : PySem.W.nsIn K mainGlobals "_law_parts" = some (some (.ref f15))) (l15 : K.lookup f15 = some ⟨oc15, od15, .func (PySem.W.fnOf "_law_parts" "_law_parts" (defArgs s_law_parts) (defBody s_law_parts) (defScope s_law_parts) .none kV15 dc15 pm15 an15 cd15 ct15), sl15⟩) (c15 : PySem.W.codeIn K cd15 "_law_parts" = true) (k15 : PySem.W.keepIn K (.ref f15) = true)
    (a16 : PySem.W.nsIn K mainGlobals "_law_all" = some (some (.ref f16))) (l16 : K.lookup f16 = some ⟨oc16, od16, .func (PySem.W.fnOf "_law_all" "_law_all" (defArgs s_law_all) (defBody s_law_all) (defScope s_law_all) .none kV16 dc16 pm16 an16 cd16 ct16), sl16⟩) (c16 : PySem.W.codeIn K cd16 "_law_all" = true) (k16 : PySem.W.keepIn K (.ref f16) = true)
    (a17 : PySem.W.nsIn K mainGlobals "_law_distinct" = some (some (.ref f17))) (l17 : K.lookup f17 = some ⟨oc17, od17, .func (PySem.W.fnOf "_law_distinct" "_law_distinct" (defArgs s_law_distinct) (defBody s_law_distinct) (defScope s_law_distinct) .none kV17 dc17 pm17 an17 cd17 ct17), sl17⟩) (c17 : PySem.W.codeIn K cd17 "_law_distinct" = true) (k17 : PySem.W.keepIn K (.ref f17) = true)
    (a18 : PySem.W.nsIn K mainGlobals "_law_swap" = some (some (.ref f18))) (l18 : K.lookup f18 = some ⟨oc18, od18, .func (PySem.W.fnOf "_law_swap" "_law_swap" (defArgs s_law_swap) (defBody s_law_swap) (defScope s_law_swap) .none kV18 dc18 pm18 an18 cd18 ct18), sl18⟩) (c18 : PySem.W.codeIn K cd18 "_law_swap" = true) (k18 : PySem.W.keepIn K (.ref f18) = true)
    (a19 : PySem.W.nsIn K mainGlobals "law" = some (some (.ref f19))) (l19 : K.lookup f19 = some ⟨oc19, od19, .func (PySem.W.fnOf "law" "law" (defArgs s_law) (defBody s_law) (defScope s_law) .none kV19 dc19 pm19 an19 cd19 ct19), sl19⟩) (c19 : PySem.W.codeIn K cd19 "law" = true) (k19 : PySem.W.keepIn K (.ref f19) = true)
    (z_bool : PySem.W.nsIn K mainGlobals "bool" = some none)
    (z_int : PySem.W.nsIn K mainGlobals "int" = some none)
    (z_isinstance : PySem.W.nsIn K mainGlobals "isinstance" = some none)
    (z_len : PySem.W.nsIn K mainGlobals "len" = some none)
    (z_list : PySem.W.nsIn K mainGlobals "list" = some none)
    (z_range : PySem.W.nsIn K mainGlobals "range" = some none)
    (z_sorted : PySem.W.nsIn K mainGlobals "sorted" = some none)
    (z_str : PySem.W.nsIn K mainGlobals "str" = some none)
    (z_tuple : PySem.W.nsIn K mainGlobals "tuple" = some none)
    : ∃ fd : FuncData, (∀ (s : Shared) (v : Value), BindsTo s fd ⟨[v], []⟩ [("script", v)]) ∧ ∀ base : Heap, K.In base → base.Ns mainGlobals mg → FnOk l.prog w K mg base CX0 21 fa fd ["script"] (spLaw K) := by
  have e := hfa.symm.trans (PySem.W.mg_of X G a19)
  cases e
  have F0 := fun_mk (st := s_parts_of) l0 c0 k0
  have b0 := F0.binds (ps := ["a"]) fun _ _ _ _ _ _ us hl => match us, hl with | [_], _ => rfl
  have F1 := fun_mk (st := s_distinct) l1 c1 k1
  have b1 := F1.binds (ps := ["rows"]) fun _ _ _ _ _ _ us hl => match us, hl with | [_], _ => rfl
  have F2 := fun_mk (st := s_levels_from) l2 c2 k2
  have b2 := F2.binds (ps := ["formulas"]) fun _ _ _ _ _ _ us hl => match us, hl with | [_], _ => rfl
  have F3 := fun_mk (st := s_subformulas) l3 c3 k3
  have b3 := F3.binds (ps := ["a"]) fun _ _ _ _ _ _ us hl => match us, hl with | [_], _ => rfl
  have F4 := fun_mk (st := s_subformulas_of) l4 c4 k4
  have b4 := F4.binds (ps := ["formulas"]) fun _ _ _ _ _ _ us hl => match us, hl with | [_], _ => rfl
  have F5 := fun_mk (st := s_variables) l5 c5 k5
  have b5 := F5.binds (ps := ["a"]) fun _ _ _ _ _ _ us hl => match us, hl with | [_], _ => rfl
  have F6 := fun_mk (st := s_variables_of) l6 c6 k6
  have b6 := F6.binds (ps := ["formulas"]) fun _ _ _ _ _ _ us hl => match us, hl with | [_], _ => rfl
  have F7 := fun_mk (st := s_boxes) l7 c7 k7
  have b7 := F7.binds (ps := ["a"]) fun _ _ _ _ _ _ us hl => match us, hl with | [_], _ => rfl
  have F8 := fun_mk (st := s_law_pool) l8 c8 k8
  have b8 := F8.binds (ps := ["script"]) fun _ _ _ _ _ _ us hl => match us, hl with | [_], _ => rfl
  have F9 := fun_mk (st := s_law_spread) l9 c9 k9
  have b9 := F9.binds (ps := ["cell"]) fun _ _ _ _ _ _ us hl => match us, hl with | [_], _ => rfl
  have F10 := fun_mk (st := s_law_draw) l10 c10 k10
  have b10 := F10.binds (ps := ["pool", "many"]) fun _ _ _ _ _ _ us hl => match us, hl with | [_, _], _ => rfl
  have F11 := fun_mk (st := s_law_same) l11 c11 k11
  have b11 := F11.binds (ps := ["actual", "due"]) fun _ _ _ _ _ _ us hl => match us, hl with | [_, _], _ => rfl
  have F12 := fun_mk (st := s_law_formula) l12 c12 k12
  have b12 := F12.binds (ps := ["pool", "depth", "plain"]) fun _ _ _ _ _ _ us hl => match us, hl with | [_, _, _], _ => rfl
  have F13 := fun_mk (st := s_law_list) l13 c13 k13
  have b13 := F13.binds (ps := ["pool", "many"]) fun _ _ _ _ _ _ us hl => match us, hl with | [_, _], _ => rfl
  have F14 := fun_mk (st := s_law_some) l14 c14 k14
  have b14 := F14.binds (ps := ["pool", "depth", "plain"]) fun _ _ _ _ _ _ us hl => match us, hl with | [_, _, _], _ => rfl
  have F15 := fun_mk (st := s_law_parts) l15 c15 k15
  have b15 := F15.binds (ps := ["a"]) fun _ _ _ _ _ _ us hl => match us, hl with | [_], _ => rfl
  have F16 := fun_mk (st := s_law_all) l16 c16 k16
  have b16 := F16.binds (ps := ["a"]) fun _ _ _ _ _ _ us hl => match us, hl with | [_], _ => rfl
  have F17 := fun_mk (st := s_law_distinct) l17 c17 k17
  have b17 := F17.binds (ps := ["rows"]) fun _ _ _ _ _ _ us hl => match us, hl with | [_], _ => rfl
  have F18 := fun_mk (st := s_law_swap) l18 c18 k18
  have b18 := F18.binds (ps := ["a", "values"]) fun _ _ _ _ _ _ us hl => match us, hl with | [_, _], _ => rfl
  have F19 := fun_mk (st := s_law) l19 c19 k19
  have b19 := F19.binds (ps := ["script"]) fun _ _ _ _ _ _ us hl => match us, hl with | [_], _ => rfl
  let T : Top K mg := ⟨_, _, F0, b0, PySem.W.mg_of X G a0, _, _, F1, b1, PySem.W.mg_of X G a1, _, _, F2, b2, PySem.W.mg_of X G a2, _, _, F3, b3, PySem.W.mg_of X G a3, _, _, F4, b4, PySem.W.mg_of X G a4, _, _, F5, b5, PySem.W.mg_of X G a5, _, _, F6, b6, PySem.W.mg_of X G a6, _, _, F7, b7, PySem.W.mg_of X G a7, _, _, F8, b8, PySem.W.mg_of X G a8, _, _, F9, b9, PySem.W.mg_of X G a9, _, _, F10, b10, PySem.W.mg_of X G a10, _, _, F11, b11, PySem.W.mg_of X G a11, _, _, F12, b12, PySem.W.mg_of X G a12, _, _, F13, b13, PySem.W.mg_of X G a13, _, _, F14, b14, PySem.W.mg_of X G a14, _, _, F15, b15, PySem.W.mg_of X G a15, _, _, F16, b16, PySem.W.mg_of X G a16, _, _, F17, b17, PySem.W.mg_of X G a17, _, _, F18, b18, PySem.W.mg_of X G a18, _, _, F19, b19, PySem.W.mg_of X G a19, PySem.W.mg_none_of X G z_bool, PySem.W.mg_none_of X G z_int, PySem.W.mg_none_of X G z_isinstance, PySem.W.mg_none_of X G z_len, PySem.W.mg_none_of X G z_list, PySem.W.mg_none_of X G z_range, PySem.W.mg_none_of X G z_sorted, PySem.W.mg_none_of X G z_str, PySem.W.mg_none_of X G z_tuple⟩
  exact ⟨_, fun s v => .of_eq rfl, fun base _ _ => ok_law T⟩
end E
open PySem PySem.W PyProof.Rows
set_option maxRecDepth 100000 in
set_option maxHeartbeats 0 in
theorem PySem.Challenge.cw_elsewhere_k03_parts_of_formulas_holds : PySem.Challenge.rw_elsewhere_k03_parts_of_formulas.Holds := by
  w_on; o_law; k_head; (case hw => w_witness2)
  k_fill
  refine L2.walk_of (l := PySem.Challenge.rw_elsewhere_k03_parts_of_formulas) (n := 63) (k := 21) (x := "script") (CX := fun _ => L2.CX0) (sp := fun w => E.spLaw _) rfl (by decide) rfl ⟨rfl, by decide, by decide⟩ (fun w h Y => PySem.W.kIn_of Y) ?F (fun _ _ a ns hl _ hS => ⟨a, ns, rfl, hS, hl, fun _ => rfl⟩) fun _ _ _ _ _ z => z
  case F =>
    intro w mg fa h KX G hmg
    refine' E.all_mk KX G hmg ?a0 ?l0 ?c0 ?k0 ?a1 ?l1 ?c1 ?k1 ?a2 ?l2 ?c2 ?k2 ?a3 ?l3 ?c3 ?k3 ?a4 ?l4 ?c4 ?k4 ?a5 ?l5 ?c5 ?k5 ?a6 ?l6 ?c6 ?k6 ?a7 ?l7 ?c7 ?k7 ?a8 ?l8 ?c8 ?k8 ?a9 ?l9 ?c9 ?k9 ?a10 ?l10 ?c10 ?k10 ?a11 ?l11 ?c11 ?k11 ?a12 ?l12 ?c12 ?k12 ?a13 ?l13 ?c13 ?k13 ?a14 ?l14 ?c14 ?k14 ?a15 ?l15 ?c15 ?k15 ?a16 ?l16 ?c16 ?k16 ?a17 ?l17 ?c17 ?k17 ?a18 ?l18 ?c18 ?k18 ?a19 ?l19 ?c19 ?k19 ?z_bool ?z_int ?z_isinstance ?z_len ?z_list ?z_range ?z_sorted ?z_str ?z_tuple
    (case a0 => k_is); (case l0 => k_is); (case c0 => k_is); (case k0 => k_is)
    (case a1 => k_is); (case l1 => k_is); (case c1 => k_is); (case k1 => k_is)
    (case a2 => k_is); (case l2 => k_is); (case c2 => k_is); (case k2 => k_is)
    (case a3 => k_is); (case l3 => k_is); (case c3 => k_is); (case k3 => k_is)
    (case a4 => k_is); (case l4 => k_is); (case c4 => k_is); (case k4 => k_is)
    (case a5 => k_is); (case l5 => k_is); (case c5 => k_is); (case k5 => k_is)
    (case a6 => k_is); (case l6 => k_is); (case c6 => k_is); (case k6 => k_is)
    (case a7 => k_is); (case l7 => k_is); (case c7 => k_is); (case k7 => k_is)
    (case a8 => k_is); (case l8 => k_is); (case c8 => k_is); (case k8 => k_is)
    (case a9 => k_is); (case l9 => k_is); (case c9 => k_is); (case k9 => k_is)
    (case a10 => k_is); (case l10 => k_is); (case c10 => k_is); (case k10 => k_is)
    (case a11 => k_is); (case l11 => k_is); (case c11 => k_is); (case k11 => k_is)
    (case a12 => k_is); (case l12 => k_is); (case c12 => k_is); (case k12 => k_is)
    (case a13 => k_is); (case l13 => k_is); (case c13 => k_is); (case k13 => k_is)
    (case a14 => k_is); (case l14 => k_is); (case c14 => k_is); (case k14 => k_is)
    (case a15 => k_is); (case l15 => k_is); (case c15 => k_is); (case k15 => k_is)
    (case a16 => k_is); (case l16 => k_is); (case c16 => k_is); (case k16 => k_is)
    (case a17 => k_is); (case l17 => k_is); (case c17 => k_is); (case k17 => k_is)
    (case a18 => k_is); (case l18 => k_is); (case c18 => k_is); (case k18 => k_is)
    (case a19 => k_is); (case l19 => k_is); (case c19 => k_is); (case k19 => k_is)
    (case z_bool => k_is); (case z_int => k_is); (case z_isinstance => k_is); (case z_len => k_is)
    (case z_list => k_is); (case z_range => k_is); (case z_sorted => k_is); (case z_str => k_is)
    (case z_tuple => k_is)

