import PyProof.Rows.All
import Wide.All
import OpenK.AllK
import Wide.FinOn
import HandS.ForMost
import HandS.IsInst
import HandS.Steps
import HandS.TupAny
import HandS.Codes
import KE.LtData
import KE.SortData
import KE.SortLaws
import PyProof.StrOps
import KE.SortCalls
import KE.DatumOrd
import HandS.DeepEq
import HandS.SetFor
import HandS.Strs
import HandS.ExcOwn
import HandS.ExcIs
import HandS.RaiseMore
import HandS.FStr
import HandS.CallLocal
import HandS.Nested
import HandS.WordsExc
import HandS.NestedK
import HandS.HeadHook4
import HandS.EndTab
import HandS.TupSets
import HandS.SetKeys
import HandS.DictComp
import HandS.Conv
import HandS.Walk
import HandS.Star
import HandS.Rev
import HandS.Flow
import HandS.TupLen
import PySem.Challenge.RW_elsewhere_k06_polarities_and_guards
set_option Elab.async false
set_option linter.all false
set_option maxRecDepth 100000
namespace E
open PySem PySem.Spec PyProof.Rows L2
/-! ### heaps: what a step keeps -/
/-- tuples stay -/
def TS (H H' : Hp) : Prop := (∀ b xs, Rd H b (.tup xs) → Rd H' b (.tup xs)) ∧ ∀ b xs, H b = some (.tup xs) → H' b = some (.tup xs)
theorem TS.refl (H : Hp) : TS H H := ⟨fun _ _ h => h, fun _ _ h => h⟩
/-- one object, no tuple, is changed -/
theorem TS.but {H H' : Hp} {d : Addr} {u : HO} (hd : H d = some u) (h1 : ∀ xs, u ≠ .tup xs) (h2 : ∀ o xs, u ≠ .frz o (.tup xs)) (k : ∀ c o, H c = some o → c ≠ d → H' c = some o) : TS H H' := by
  have n1 : ∀ c xs, H c = some (.tup xs) → c ≠ d := fun c xs r e => by
    rw [e, hd] at r
    exact h1 xs (Option.some.inj r)
  have n2 : ∀ c o xs, H c = some (.frz o (.tup xs)) → c ≠ d := fun c o xs r e => by
    rw [e, hd] at r
    exact h2 o xs (Option.some.inj r)
  refine ⟨fun c xs r => ?_, fun c xs r => k _ _ r (n1 _ _ r)⟩
  rcases r with r | ⟨o, r⟩
  · exact .inl (k _ _ r (n1 _ _ r))
  · exact .inr ⟨o, k _ _ r (n2 _ _ _ r)⟩
theorem TS.trans {H H1 H2 : Hp} (a : TS H H1) (b : TS H1 H2) : TS H H2 := ⟨fun c xs h => b.1 c xs (a.1 c xs h), fun c xs h => b.2 c xs (a.2 c xs h)⟩
/-- all but the object at p stays -/
def Kp (p : Addr) (H H' : Hp) : Prop := ∀ b o, H b = some o → b ≠ p → H' b = some o
theorem Kp.refl (p : Addr) (H : Hp) : Kp p H H := fun _ _ h _ => h
theorem Kp.trans {p : Addr} {H H1 H2 : Hp} (a : Kp p H H1) (b : Kp p H1 H2) : Kp p H H2 := fun c o h n => b c o (a c o h n) n
theorem Kp.upd {p : Addr} {H : Hp} {o : HO} : Kp p H (upd H p o) := fun b u h n => by rw [upd_ne n]; exact h
theorem Kp.new {p q : Addr} {H : Hp} {o : HO} (h : H q = none) : Kp p H (L2.upd H q o) := fun b u e _ => by rw [upd_ne (ne_of_none e h)]; exact e
theorem same_new {q : Addr} {H : Hp} {o : HO} (h : H q = none) : Same H (upd H q o) := fun b u e => by rw [upd_ne (ne_of_none e h)]; exact e
theorem Same.kp {p : Addr} {H H' : Hp} (s : Same H H') : Kp p H H' := fun b o h _ => s b o h
theorem Same.ts {H H' : Hp} (s : Same H H') : TS H H' := ⟨fun b xs h => by
  rcases h with h | ⟨o, h⟩
  · exact .inl (s _ _ h)
  · exact .inr ⟨o, s _ _ h⟩, fun b xs h => s _ _ h⟩
theorem Kp.rd {p a : Addr} {H H' : Hp} {u : HO} (k : Kp p H H') (h : Rd H a u) (n : a ≠ p) : Rd H' a u := by
  rcases h with h | ⟨o, h⟩
  · exact .inl (k _ _ h n)
  · exact .inr ⟨o, k _ _ h n⟩
theorem Kp.sqL {K : PySem.W.Frag} {p a : Addr} {H H' : Hp} {xs : List V} (k : Kp p H H') (h : SqL K H a xs) (n : a ≠ p) : SqL K H' a xs := by
  rcases h with h | h
  · exact .inl (k.rd h n)
  · exact .inr h
/-- p holds a list: tuples stay -/
theorem Kp.ts {p : Addr} {H H' : Hp} {xs : List V} (k : Kp p H H') (h : H p = some (.lst xs)) : TS H H' := TS.but h (fun _ e => nomatch e) (fun _ _ e => nomatch e) k
/-- what is new for H' was new for H -/
theorem Kp.free {p q : Addr} {H H' : Hp} {o : HO} (k : Kp p H H') (hp : H p = some o) (hp' : ∃ o, H' p = some o) (h : H' q = none) : H q = none := by
  cases e : H q with
  | none => rfl
  | some u =>
    have n : q ≠ p := fun z => by
      subst z
      obtain ⟨o', h'⟩ := hp'
      rw [h] at h'; cases h'
    rw [k q u e n] at h; cases h
theorem TS.sqT {K : PySem.W.Frag} {a : Addr} {H H' : Hp} {xs : List V} (k : TS H H') (h : SqT K H a xs) : SqT K H' a xs := by
  rcases h with h | h
  · exact .inl (k.1 _ _ h)
  · exact .inr h
/-! ### data without lists -/
mutual
inductive Im (K : PySem.W.Frag) (H : Hp) : V → PyData → Prop
  | non : Im K H .non .none
  | bl (b : Bool) : Im K H (.bl b) (.bool b)
  | int (i : Int) : Im K H (.int i) (.int i)
  | str (x : Str) : Im K H (.str x) (.str x)
  | tup {a : Addr} {xs : List V} {ds : List PyData} (h : SqT K H a xs) (l : ImAll K H xs ds) (tr : ∀ y : Str, ds = [.str "var", .str y] → H a = some (.tup xs) := by first | (intro y e; cases e; done) | (intro y e; exact absurd (PyData.str.inj (List.cons.inj e).1) (by decide +kernel))) : Im K H (.ref a) (.tuple ds)
inductive ImAll (K : PySem.W.Frag) (H : Hp) : List V → List PyData → Prop
  | nil : ImAll K H [] []
  | cons {v : V} {vs : List V} {d : PyData} {ds : List PyData} : Im K H v d → ImAll K H vs ds → ImAll K H (v :: vs) (d :: ds)
end
section
variable {K : PySem.W.Frag} {H H' : Hp}
mutual
theorem Im.mono (k : TS H H') : ∀ {v : V} {d : PyData}, Im K H v d → Im K H' v d
  | _, _, .non => .non
  | _, _, .bl b => .bl b
  | _, _, .int i => .int i
  | _, _, .str x => .str x
  | _, _, .tup h a t => .tup (k.sqT h) (ImAll.mono k a) fun y e => k.2 _ _ (t y e)
theorem ImAll.mono (k : TS H H') : ∀ {vs : List V} {ds : List PyData}, ImAll K H vs ds → ImAll K H' vs ds
  | _, _, .nil => .nil
  | _, _, .cons h t => .cons (Im.mono k h) (ImAll.mono k t)
end
mutual
theorem Im.dp : ∀ {v : V} {d : PyData}, Im K H v d → Dp K H v d
  | _, _, .non => .non
  | _, _, .bl b => .bl b
  | _, _, .int i => .int i
  | _, _, .str x => .str x
  | _, _, .tup h a _ => .tup h (ImAll.dp a)
theorem ImAll.dp : ∀ {vs : List V} {ds : List PyData}, ImAll K H vs ds → DpAll K H vs ds
  | _, _, .nil => .nil
  | _, _, .cons h t => .cons (Im.dp h) (ImAll.dp t)
end
theorem ImAll.get : ∀ {vs : List V} {ds : List PyData} {i : Nat} {v : V}, ImAll K H vs ds → vs[i]? = some v → ∃ d, ds[i]? = some d ∧ Im K H v d
  | _, _, _, _, .nil, e => by simp at e
  | _, _, 0, _, .cons h _, e => by simp at e; subst e; exact ⟨_, rfl, h⟩
  | _, _, i + 1, v, .cons _ t, e => by
    obtain ⟨d, h1, h2⟩ := ImAll.get (i := i) (v := v) t (by simpa using e)
    exact ⟨d, by simpa using h1, h2⟩
theorem ImAll.length : ∀ {vs : List V} {ds : List PyData}, ImAll K H vs ds → vs.length = ds.length
  | _, _, .nil => rfl
  | _, _, .cons _ t => by rw [List.length_cons, List.length_cons, ImAll.length t]
theorem ImAll.snoc : ∀ {vs : List V} {ds : List PyData} {v : V} {d : PyData}, ImAll K H vs ds → Im K H v d → ImAll K H (vs ++ [v]) (ds ++ [d])
  | _, _, _, _, .nil, h => .cons h .nil
  | _, _, _, _, .cons h t, h' => .cons h (ImAll.snoc t h')
theorem dpAll_get : ∀ {vs : List V} {ds : List PyData} {i : Nat} {d : PyData}, DpAll K H vs ds → ds[i]? = some d → ∃ v, vs[i]? = some v ∧ Dp K H v d
  | _, _, _, _, .nil, e => by simp at e
  | _, _, 0, _, .cons h _, e => by simp at e; subst e; exact ⟨_, rfl, h⟩
  | _, _, i + 1, d, .cons _ t, e => by
    obtain ⟨v, h1, h2⟩ := dpAll_get (i := i) (d := d) t (by simpa using e)
    exact ⟨v, by simpa using h1, h2⟩
theorem dpAll_len : ∀ {vs : List V} {ds : List PyData}, DpAll K H vs ds → vs.length = ds.length
  | _, _, .nil => rfl
  | _, _, .cons _ t => by rw [List.length_cons, List.length_cons, dpAll_len t]
/-! ### types, for isinstance -/
theorem ty_list {a : Addr} {xs : List V} (h : SqL K H a xs) : TyX K H (.ref a) (.type "list") := by
  rcases h with (h | ⟨o, h⟩) | ⟨o, its, n, h1, h2, _⟩
  · exact .base (.lst h)
  · exact .base (.frz h)
  · exact .kList h1 h2
theorem ty_tup {a : Addr} {xs : List V} (h : SqT K H a xs) : TyX K H (.ref a) (.type "tuple") := by
  rcases h with (h | ⟨o, h⟩) | ⟨o, its, n, h1, h2, _⟩
  · exact .base (.tup h)
  · exact .fTuple h
  · exact .kTuple h1 h2
def tyD : PyData → String
  | .none => "NoneType"
  | .bool _ => "bool"
  | .int _ => "int"
  | .str _ => "str"
  | .list _ => "list"
  | .tuple _ => "tuple"
  | .dict _ => "dict"
theorem Dp.ty {v : V} {d : PyData} (h : Dp K H v d) : TyX K H v (.type (tyD d)) := by
  cases h with
  | non => exact .base .non
  | bl b => exact .base (.bl b)
  | int i => exact .base (.int i)
  | str x => exact .base (.str x)
  | lst h _ => exact ty_list h
  | tup h _ => exact ty_tup h
end
/-! ### the law's pool of numbers -/
structure Pl (K : PySem.W.Frag) (H : Hp) (p l : Addr) : Prop where
  sq : ∃ cs : List Int, SqL K H l (cs.map V.int)
  ne : l ≠ p
  at5 : ∃ i r c s : Int, H p = some (.lst [.ref l, .int i, .int r, .int c, .int s]) ∧ 0 ≤ i
section
variable {K : PySem.W.Frag} {H H' H0 H1 H2 : Hp} {p q l : Addr}
theorem Pl.lst (h : Pl K H p l) : ∃ xs, H p = some (.lst xs) := by
  obtain ⟨i, r, c, s, h, _⟩ := h.at5
  exact ⟨_, h⟩
theorem Pl.same (k : Same H H') (h : Pl K H p l) : Pl K H' p l := by
  obtain ⟨i, r, c, s, h1, h2⟩ := h.at5
  obtain ⟨cs, hs⟩ := h.sq
  exact ⟨⟨cs, k.seq hs⟩, h.ne, i, r, c, s, k _ _ h1, h2⟩
/-- the pool's own turn -/
theorem Pl.turn {i r c s : Int} (h : Pl K H p l) (h0 : 0 ≤ i) : Pl K (upd H p (.lst [.ref l, .int i, .int r, .int c, .int s])) p l := by
  obtain ⟨cs, hs⟩ := h.sq
  exact ⟨⟨cs, Kp.upd.sqL hs h.ne⟩, h.ne, i, r, c, s, upd_same, h0⟩
theorem Pl.ts (h : Pl K H p l) (k : Kp p H H') : TS H H' := by
  obtain ⟨xs, e⟩ := h.lst
  exact k.ts e
/-- another list, younger than the pool, is changed -/
theorem Pl.other (h0 : Pl K H0 p l) (hq : H0 q = none) (h1 : Pl K H1 p l) (k : Kp q H1 H2) : Pl K H2 p l := by
  obtain ⟨i, r, c, s, e1, e2⟩ := h1.at5
  obtain ⟨cs, hs⟩ := h1.sq
  obtain ⟨xs, hl⟩ := h0.lst
  have np : p ≠ q := ne_of_none hl hq
  refine ⟨?_, h1.ne, i, r, c, s, k _ _ e1 np, e2⟩
  rcases hs with hs | hs
  · obtain ⟨cs0, h0s⟩ := h0.sq
    rcases h0s with h0s | h0s
    · have nl : l ≠ q := by
        rcases h0s with z | ⟨o, z⟩
        · exact ne_of_none z hq
        · exact ne_of_none z hq
      exact ⟨cs, .inl (k.rd hs nl)⟩
    · exact ⟨cs0, .inr h0s⟩
  · exact ⟨cs, .inr hs⟩
/-- p's change and that of a younger q together are p's change -/
theorem Kp.under (hq : H0 q = none) (k1 : Kp p H0 H1) (k2 : Kp q H1 H2) : Kp p H0 H2 := fun b o e n => k2 b o (k1 b o e n) (ne_of_none e hq)
end
theorem kB {K : PySem.W.Frag} {a b : String} (r : Bool) (h : L2.kitB a b = some r) : PySem.W.kitOne K (.type a) (.type b) = some r := kit_ty h
/-- a promise that nothing can ask for -/
theorem fn_none {P : Program} {w : World} {K : PySem.W.Frag} {mg : Str → Option Value} {base : Heap} {f : Addr} {fd : FuncData} {ps : List Str} {sp : Sp} (no : ∀ vs H Q E, ¬ sp vs H Q E) : FnOk P w K mg base CX0 0 f fd ps sp :=
  ⟨fun vs H Q E h => absurd h (no vs H Q E), fun A outer s H args us vs Q E _ _ _ _ h => absurd h (no vs H Q E)⟩
mutual
/-- no list or tuple in it is too long -/
def sml : PyData → Prop
  | .list ds => ds.length ≤ 1000000 ∧ smlAll ds
  | .tuple ds => ds.length ≤ 1000000 ∧ smlAll ds
  | _ => True
def smlAll : List PyData → Prop
  | [] => True
  | d :: ds => sml d ∧ smlAll ds
end
theorem sml_mem : ∀ {ds : List PyData} {i : Nat} {d : PyData}, smlAll ds → ds[i]? = some d → sml d
  | [], _, _, _, h => by simp at h
  | e :: ds, 0, d, h1, h => by
    simp at h; subst h
    rw [smlAll] at h1; exact h1.1
  | e :: ds, i + 1, d, h1, h => by
    rw [smlAll] at h1
    exact sml_mem (ds := ds) (i := i) h1.2 (by simpa using h)
theorem depth_mem : ∀ {ds : List PyData} {i : Nat} {d : PyData}, ds[i]? = some d → d.depth ≤ PyData.depthAll ds
  | [], _, _, h => by simp at h
  | e :: ds, 0, d, h => by
    simp at h; subst h
    rw [PyData.depthAll]; exact Nat.le_max_left _ _
  | e :: ds, i + 1, d, h => by
    have := depth_mem (ds := ds) (i := i) (d := d) (by simpa using h)
    rw [PyData.depthAll]; exact Nat.le_trans this (Nat.le_max_right _ _)
theorem sizeU {n : Nat} (h : n ≤ 1000) : n ≤ sizeLine := Nat.le_of_lt (small1000 h)
/-! ### formulas -/
inductive Fm where
  | var (n : Str) | fal | and (a b : Fm) | or (a b : Fm) | imp (a b : Fm) | box (a : Fm)
  deriving DecidableEq
def Fm.d : Fm → PyData
  | .var n => .tuple [.str "var", .str n]
  | .fal => .tuple [.str "falsum"]
  | .and a b => .tuple [.str "and", a.d, b.d]
  | .or a b => .tuple [.str "or", a.d, b.d]
  | .imp a b => .tuple [.str "implies", a.d, b.d]
  | .box a => .tuple [.str "box", a.d]
def Fm.ht : Fm → Nat
  | .var _ => 1
  | .fal => 1
  | .and a b => max a.ht b.ht + 1
  | .or a b => max a.ht b.ht + 1
  | .imp a b => max a.ht b.ht + 1
  | .box a => a.ht + 1
def Fm.plain : Fm → Bool
  | .var _ => true
  | .fal => true
  | .and a b => a.plain && b.plain
  | .or a b => a.plain && b.plain
  | .imp a b => a.plain && b.plain
  | .box _ => false
/-- all names of variables are in N -/
def Fm.over (N : List Str) : Fm → Bool
  | .var n => decide (n ∈ N)
  | .fal => true
  | .and a b => a.over N && b.over N
  | .or a b => a.over N && b.over N
  | .imp a b => a.over N && b.over N
  | .box a => a.over N
theorem Fm.depth : ∀ f : Fm, f.d.depth = f.ht
  | .var _ => by simp [Fm.d, PyData.depth, PyData.depthAll, Fm.ht]
  | .fal => by simp [Fm.d, PyData.depth, PyData.depthAll, Fm.ht]
  | .and a b => by simp [Fm.d, PyData.depth, PyData.depthAll, Fm.ht, Fm.depth a, Fm.depth b]
  | .or a b => by simp [Fm.d, PyData.depth, PyData.depthAll, Fm.ht, Fm.depth a, Fm.depth b]
  | .imp a b => by simp [Fm.d, PyData.depth, PyData.depthAll, Fm.ht, Fm.depth a, Fm.depth b]
  | .box a => by simp [Fm.d, PyData.depth, PyData.depthAll, Fm.ht, Fm.depth a]
theorem Fm.sml : ∀ f : Fm, E.sml f.d
  | .var _ => by simp [Fm.d, E.sml, smlAll]
  | .fal => by simp [Fm.d, E.sml, smlAll]
  | .and a b => by simp [Fm.d, E.sml, smlAll, Fm.sml a, Fm.sml b]
  | .or a b => by simp [Fm.d, E.sml, smlAll, Fm.sml a, Fm.sml b]
  | .imp a b => by simp [Fm.d, E.sml, smlAll, Fm.sml a, Fm.sml b]
  | .box a => by simp [Fm.d, E.sml, smlAll, Fm.sml a]
theorem Fm.ht_pos : ∀ f : Fm, 1 ≤ f.ht
  | .var _ => Nat.le_refl _
  | .fal => Nat.le_refl _
  | .and _ _ => Nat.le_add_left _ _
  | .or _ _ => Nat.le_add_left _ _
  | .imp _ _ => Nat.le_add_left _ _
  | .box _ => Nat.le_add_left _ _
section
variable {K : PySem.W.Frag} {H : Hp} {p : Addr} {v u : V} {f g : Fm}
theorem im_fal (h : H p = some (.tup [.str "falsum"])) : Im K H (.ref p) Fm.fal.d := .tup (SqT.of h) (.cons (.str _) .nil)
theorem im_var {n : Str} (h : H p = some (.tup [.str "var", .str n])) : Im K H (.ref p) (Fm.var n).d := .tup (SqT.of h) (.cons (.str _) (.cons (.str _) .nil)) fun _ _ => h
theorem im_box (h : H p = some (.tup [.str "box", v])) (a : Im K H v f.d) : Im K H (.ref p) (Fm.box f).d := .tup (SqT.of h) (.cons (.str _) (.cons a .nil))
theorem im_and (h : H p = some (.tup [.str "and", v, u])) (a : Im K H v f.d) (b : Im K H u g.d) : Im K H (.ref p) (Fm.and f g).d := .tup (SqT.of h) (.cons (.str _) (.cons a (.cons b .nil)))
theorem im_or (h : H p = some (.tup [.str "or", v, u])) (a : Im K H v f.d) (b : Im K H u g.d) : Im K H (.ref p) (Fm.or f g).d := .tup (SqT.of h) (.cons (.str _) (.cons a (.cons b .nil)))
theorem im_imp (h : H p = some (.tup [.str "implies", v, u])) (a : Im K H v f.d) (b : Im K H u g.d) : Im K H (.ref p) (Fm.imp f g).d := .tup (SqT.of h) (.cons (.str _) (.cons a (.cons b .nil)))
end
/-! ### lists of ints as data -/
theorem dp_ints {K : PySem.W.Frag} {H : Hp} : ∀ ns : List Int, DpAll K H (ns.map V.int) (ns.map PyData.int)
  | [] => .nil
  | n :: ns => .cons (.int n) (dp_ints ns)
theorem lay_ints : ∀ ns : List Int, PyData.canLayAll0 (ns.map PyData.int) = true
  | [] => rfl
  | n :: ns => by
    rw [List.map_cons, PyData.canLayAll0, lay_ints ns]
    rfl
theorem dep_ints : ∀ ns : List Int, PyData.depthAll (ns.map PyData.int) = 0
  | [] => rfl
  | n :: ns => by
    rw [List.map_cons, PyData.depthAll, dep_ints ns]
    rfl
theorem shaped_ints (ns : List Int) : SeqAt.shaped (.list (ns.map PyData.int)) = true := by
  unfold SeqAt.shaped
  rw [PyData.canLay0, lay_ints, PyData.depth, dep_ints]
  rfl
theorem eqv_nil (ds : List PyData) : PyData.eqv (.list ds) (.list []) = ds.isEmpty := by
  cases ds with
  | nil => rfl
  | cons d ds => rfl
theorem atI_mem {α : Type} {xs : List α} {i : Int} (h0 : 0 ≤ i) (h1 : i < xs.length) : ∃ v, atI xs i = some v ∧ v ∈ xs := by
  have hn : i.toNat < xs.length := by omega
  refine ⟨xs[i.toNat], ?_, List.getElem_mem hn⟩
  have e := atI_nat (xs := xs) (j := i.toNat) (List.getElem?_eq_getElem hn)
  rw [show ((i.toNat : Nat) : Int) = i by omega] at e
  exact e
def nms : List Str := ["p", "q", "r"]
section
variable {t u : TT} {σ : L2.St} {H : Hp} {b1 b2 : Bool}
theorem ans_or2 (h1 : Ans t σ H b1) (h2 : Ans u σ H b2) : Ans (tOr t u) σ H (b1 || b2) := by
  cases b1 with
  | true => exact ans_or1 h1
  | false => exact ans_or h1 h2
end
theorem vint {i j : Int} (h : decide (V.int i = V.int j) = true) : i = j := V.int.inj (of_decide_eq_true h)
theorem vintF {i j : Int} (h : ¬ decide (V.int i = V.int j) = true) : i ≠ j := fun e => h (decide_eq_true (congrArg V.int e))
theorem in34 {k : Int} : inV (.int k) [.int 3, .int 4] = decide (k = 3 ∨ k = 4) := by
  unfold inV
  simp only [List.any_cons, List.any_nil, Bool.or_false]
  show ((3 == k) || (4 == k)) = _
  rw [Bool.eq_iff_iff]
  simp only [Bool.or_eq_true, beq_iff_eq, decide_eq_true_eq]
  omega
theorem iteD {c A B : Prop} [Decidable c] (h : c) (a : A) : if decide c = true then A else B := by
  rw [if_pos (decide_eq_true h)]
  exact a
theorem iteDF {c A B : Prop} [Decidable c] (h : ¬ c) (b : B) : if decide c = true then A else B := by
  rw [if_neg (by rw [decide_eq_true_eq]; exact h)]
  exact b
theorem in34y {k : Int} (h : k = 3 ∨ k = 4) : V.bl (if false = true then !inV (.int k) [.int 3, .int 4] else inV (.int k) [.int 3, .int 4]) = V.bl true := by
  rw [if_neg Bool.false_ne_true, in34, decide_eq_true h]
theorem in34n {k : Int} (h : ¬ (k = 3 ∨ k = 4)) : V.bl (if false = true then !inV (.int k) [.int 3, .int 4] else inV (.int k) [.int 3, .int 4]) = V.bl false := by
  rw [if_neg Bool.false_ne_true, in34, decide_eq_false h]
theorem vne {i j : Int} (h : i ≠ j) : ¬ V.int i = V.int j := fun e => h (V.int.inj e)
/-! ### joined formulas -/
def grp (op : Fm → Fm → Fm) (z : Fm) : List Fm → Fm
  | [] => z
  | [a] => a
  | a :: b :: r => op a (grp op z (b :: r))
theorem grp_step {op : Fm → Fm → Fm} {z f : Fm} {fs : List Fm} {j : Nat} (h : fs[j]? = some f) (h2 : j + 1 < fs.length) : grp op z (fs.drop j) = op f (grp op z (fs.drop (j + 1))) := by
  obtain ⟨hj, e⟩ := List.getElem?_eq_some_iff.mp h
  rw [List.drop_eq_getElem_cons hj, e, List.drop_eq_getElem_cons h2]
  rfl
theorem grp_last {op : Fm → Fm → Fm} {z f : Fm} {fs : List Fm} (h : fs[fs.length - 1]? = some f) : grp op z (fs.drop (fs.length - 1)) = f := by
  obtain ⟨hj, e⟩ := List.getElem?_eq_some_iff.mp h
  rw [List.drop_eq_getElem_cons hj, e, List.drop_eq_nil_of_le (by omega)]
  rfl
inductive SgOp : Str → (Fm → Fm → Fm) → Prop
  | and : SgOp "and" Fm.and
  | or : SgOp "or" Fm.or
theorem im_op {K : PySem.W.Frag} {H : Hp} {p : Addr} {v u : V} {f g : Fm} {sg : Str} {op : Fm → Fm → Fm} (o : SgOp sg op) (h : H p = some (.tup [.str sg, v, u])) (a : Im K H v f.d) (b : Im K H u g.d) : Im K H (.ref p) (op f g).d := by
  cases o with
  | and => exact im_and h a b
  | or => exact im_or h a b
theorem atI_m1 {α : Type} {xs : List α} {v : α} (h : xs[xs.length - 1]? = some v) : atI xs (-1) = some v := by
  have hl : 0 < xs.length := by
    have := (List.getElem?_eq_some_iff.mp h).1
    omega
  have e : ixN xs.length (-1) = some (xs.length - 1) := by
    unfold ixN
    rw [if_neg (by decide), if_pos (by omega)]
    congr 1
    omega
  unfold atI
  rw [e]
  exact h
theorem cut_m1 (xs : List V) : cutV xs none (some (-1)) = xs.take (xs.length - 1) := by
  unfold cutV
  have e : HT.sIx xs.length xs.length (some (-1)) = xs.length - 1 := by
    show (if (-1 : Int) < 0 then ((-1 : Int) + (xs.length : Int)).toNat else min (-1 : Int).toNat xs.length) = _
    rw [if_pos (by decide)]
    omega
  rw [e, HT.sIx_none, List.drop_zero, Nat.sub_zero]
/-- for x in reversed(list) -/
theorem for_rev {K : PySem.W.Frag} {a : Addr} {xs : List V} {g : TG} {tb : L2.TS} {D : Ends} {σ : L2.St} {H : Hp} (Pv : Nat → L2.St → Hp → Prop) (h0 : Pv 0 σ H) (hl : ∀ i σ H, i ≤ xs.length → Pv i σ H → SqL K H a xs)
    (hs : ∀ i x σ H, i < xs.length → xs[xs.length - 1 - i]? = some x → Pv i σ H → g x σ H fun σ2 H2 => tb { D with nx := Pv (i + 1), ct := Pv (i + 1), bk := D.nx } σ2 H2) (hd : ∀ σ H, Pv xs.length σ H → D.nx σ H) :
    ∃ W : Nat → Nat → L2.St → Hp → Prop, (∃ m, W 0 m σ H) ∧ ∀ i m σ H, W i m σ H →
      ((Itv K a xs.length).stop i H ∧ D.nx σ H) ∨ ((Itv K a xs.length).go i H ∧ ∃ N : L2.St → Hp → Prop, (∀ σ' H', N σ' H' → ∃ m', m' < m ∧ W (i + 1) m' σ' H') ∧ ∀ x H', (Itv K a xs.length).yld i H x H' → g x σ H' fun σ2 H2 => tb { D with nx := N, ct := N, bk := D.nx } σ2 H2) := by
  refine ⟨fun i m σ H => m = xs.length - i ∧ i ≤ xs.length ∧ Pv i σ H, ⟨xs.length, by simp, Nat.zero_le _, h0⟩, ?_⟩
  rintro i m σ H ⟨rfl, hi, p⟩
  have q := hl i σ H hi p
  by_cases hlt : i < xs.length
  · have g0 : xs[xs.length - 1 - i]? = some xs[xs.length - 1 - i] := List.getElem?_eq_getElem (by omega)
    refine .inr ⟨⟨hlt, xs, _, q, g0⟩, Pv (i + 1), fun σ' H' p' => ⟨xs.length - (i + 1), by omega, rfl, hlt, p'⟩, fun x H' y => ?_⟩
    obtain ⟨e, y⟩ := y
    subst e
    exact hs i x σ _ hlt (y xs q) p
  · have e : i = xs.length := by omega
    subst e
    exact .inl ⟨Nat.le_refl _, hd σ H p⟩
/-! ### what may be compared -/
theorem strOk_lit {x : Str} (h : PyData.strOk x = true) : PyData.canLay0 (.str x) = true := h
theorem Fm.lay {N : List Str} (hN : ∀ n ∈ N, PyData.strOk n = true) : ∀ f : Fm, f.over N = true → f.d.canLay0 = true
  | .var n, h => by
    have h1 := hN n (of_decide_eq_true h)
    simp only [Fm.d, PyData.canLay0, PyData.canLayAll0, h1, Bool.and_true]
    decide +kernel
  | .fal, _ => by decide +kernel
  | .and a b, h => by
    have h' : (a.over N && b.over N) = true := h
    rw [Bool.and_eq_true] at h'
    simp only [Fm.d, PyData.canLay0, PyData.canLayAll0, Fm.lay hN a h'.1, Fm.lay hN b h'.2, Bool.and_true]
    decide +kernel
  | .or a b, h => by
    have h' : (a.over N && b.over N) = true := h
    rw [Bool.and_eq_true] at h'
    simp only [Fm.d, PyData.canLay0, PyData.canLayAll0, Fm.lay hN a h'.1, Fm.lay hN b h'.2, Bool.and_true]
    decide +kernel
  | .imp a b, h => by
    have h' : (a.over N && b.over N) = true := h
    rw [Bool.and_eq_true] at h'
    simp only [Fm.d, PyData.canLay0, PyData.canLayAll0, Fm.lay hN a h'.1, Fm.lay hN b h'.2, Bool.and_true]
    decide +kernel
  | .box a, h => by
    simp only [Fm.d, PyData.canLay0, PyData.canLayAll0, Fm.lay hN a h, Bool.and_true]
    decide +kernel
theorem nms_ok : ∀ n ∈ nms, PyData.strOk n = true := by decide +kernel
/-- a list of formulas, none too high -/
theorem fms_shaped {N : List Str} (hN : ∀ n ∈ N, PyData.strOk n = true) : ∀ {fs : List Fm}, (∀ f ∈ fs, f.over N = true ∧ f.ht ≤ 63) → PyData.canLayAll0 (fs.map Fm.d) = true ∧ PyData.depthAll (fs.map Fm.d) ≤ 63
  | [], _ => ⟨rfl, Nat.zero_le _⟩
  | f :: fs, h => by
    have h1 := h f List.mem_cons_self
    have h2 := fms_shaped hN (fs := fs) fun g hg => h g (List.mem_cons_of_mem _ hg)
    rw [List.map_cons, PyData.canLayAll0, PyData.depthAll, Fm.lay hN f h1.1, h2.1, Fm.depth]
    exact ⟨rfl, Nat.max_le.mpr ⟨h1.2, h2.2⟩⟩
theorem list_shaped {ds : List PyData} (h : PyData.canLayAll0 ds = true ∧ PyData.depthAll ds ≤ 63) : SeqAt.shaped (.list ds) = true := by
  unfold SeqAt.shaped
  rw [PyData.canLay0, PyData.depth, h.1]
  exact decide_eq_true (by omega)
theorem eqv_self {d : PyData} (h : SeqAt.shaped d = true) : PyData.eqv d d = true := SeqAt.eqv_refl d (SeqAt.canLay_of_shaped h)
inductive TagZ : Str → (Fm → Fm → Fm) → Fm → Prop
  | and : TagZ "and" Fm.and (.imp .fal .fal)
  | or : TagZ "or" Fm.or .fal
theorem TagZ.op {sg : Str} {op : Fm → Fm → Fm} {z : Fm} (h : TagZ sg op z) : SgOp sg op := by
  cases h with
  | and => exact .and
  | or => exact .or
theorem SgOp.ht {sg : Str} {op : Fm → Fm → Fm} (h : SgOp sg op) (f g : Fm) : (op f g).ht = max f.ht g.ht + 1 := by
  cases h with
  | and => rfl
  | or => rfl
theorem grp_ht {sg : Str} {op : Fm → Fm → Fm} {z : Fm} {m : Nat} (o : SgOp sg op) (hz : z.ht ≤ m) : ∀ {fs : List Fm}, (∀ f ∈ fs, f.ht ≤ m) → (grp op z fs).ht ≤ m + fs.length
  | [], _ => hz
  | [a], h => Nat.le_trans (h a List.mem_cons_self) (Nat.le_add_right _ _)
  | a :: b :: r, h => by
    have h1 := h a List.mem_cons_self
    have h2 := grp_ht o hz (fs := b :: r) fun f hf => h f (List.mem_cons_of_mem _ hf)
    show (op a (grp op z (b :: r))).ht ≤ _
    rw [o.ht]
    simp only [List.length_cons] at h2 ⊢
    omega
theorem ImAll.fm {K : PySem.W.Frag} {H : Hp} {xs : List V} {fs : List Fm} (hI : ImAll K H xs (fs.map Fm.d)) {j : Nat} (hj : j < xs.length) : ∃ v f, xs[j]? = some v ∧ fs[j]? = some f ∧ Im K H v f.d := by
  have g := List.getElem?_eq_getElem hj
  obtain ⟨d, e, i⟩ := hI.get g
  rw [List.getElem?_map] at e
  cases e2 : fs[j]? with
  | none => rw [e2] at e; cases e
  | some f =>
    rw [e2] at e
    have : f.d = d := Option.some.inj e
    subst this
    exact ⟨_, f, g, rfl, i⟩
theorem fm_snoc {fs : List Fm} {f : Fm} : (fs ++ [f]).map Fm.d = fs.map Fm.d ++ [f.d] := by rw [List.map_append]; rfl
end E

set_option Elab.async false
set_option linter.all false
set_option maxRecDepth 100000
set_option maxHeartbeats 4000000
namespace E
open PySem PySem.Spec PyProof.Rows L2
/-! ### the order of formulas -/
abbrev Tk := List (Int ⊕ List Nat)
def Fm.toks : Fm → Tk
  | .and a b => .inl 0 :: (a.toks ++ b.toks)
  | .box a => .inl 1 :: a.toks
  | .fal => [.inl 2]
  | .imp a b => .inl 3 :: (a.toks ++ b.toks)
  | .or a b => .inl 4 :: (a.toks ++ b.toks)
  | .var n => [.inl 5, .inr n.cps.toList]
def Fm.lt (a b : Fm) : Bool := PyProof.Rows.lexLt itemOrd a.toks b.toks
theorem lex_ii {i j : Int} {l m : Tk} (h : i ≠ j) : PyProof.Rows.lexLt itemOrd (.inl i :: l) (.inl j :: m) = decide (i < j) := lex_diff (O := itemOrd) (fun e => h (Sum.inl.inj e))
theorem lex_same (x : Int ⊕ List Nat) (l m : Tk) : PyProof.Rows.lexLt itemOrd (x :: l) (x :: m) = PyProof.Rows.lexLt itemOrd l m := lex_self (O := itemOrd) x l m
theorem lex_ss {x y : List Nat} (h : x ≠ y) (l m : Tk) : PyProof.Rows.lexLt itemOrd (.inr x :: l) (.inr y :: m) = PyProof.Rows.lexLt itemOrd [.inr x] [.inr y] :=
  (lex_diff (O := itemOrd) (fun e => h (Sum.inr.inj e))).trans (lex_diff (O := itemOrd) (fun e => h (Sum.inr.inj e))).symm
theorem toks_app : ∀ (a b : Fm) (l m : Tk), PyProof.Rows.lexLt itemOrd (a.toks ++ l) (b.toks ++ m) = if a = b then PyProof.Rows.lexLt itemOrd l m else a.lt b := by
  intro a
  induction a with
  | and a1 a2 ih1 ih2 =>
    intro b l m
    cases b with
    | and b1 b2 =>
      show PyProof.Rows.lexLt itemOrd (.inl 0 :: ((a1.toks ++ a2.toks) ++ l)) (.inl 0 :: ((b1.toks ++ b2.toks) ++ m)) = _
      have e2 : Fm.lt (.and a1 a2) (.and b1 b2) = if a1 = b1 then a2.lt b2 else a1.lt b1 := (lex_same _ _ _).trans (ih1 b1 a2.toks b2.toks)
      rw [lex_same, List.append_assoc, List.append_assoc, ih1, ih2, e2]
      by_cases h1 : a1 = b1
      · by_cases h2 : a2 = b2
        · subst h1 h2; simp
        · subst h1; simp [h2]
      · simp [h1]
    | box b1 => exact (lex_ii (by decide)).trans (by rw [if_neg (by simp)]; exact (lex_ii (by decide)).symm)
    | fal => exact (lex_ii (by decide)).trans (by rw [if_neg (by simp)]; exact (lex_ii (by decide)).symm)
    | imp b1 b2 => exact (lex_ii (by decide)).trans (by rw [if_neg (by simp)]; exact (lex_ii (by decide)).symm)
    | or b1 b2 => exact (lex_ii (by decide)).trans (by rw [if_neg (by simp)]; exact (lex_ii (by decide)).symm)
    | var n => exact (lex_ii (by decide)).trans (by rw [if_neg (by simp)]; exact (lex_ii (by decide)).symm)
  | or a1 a2 ih1 ih2 =>
    intro b l m
    cases b with
    | or b1 b2 =>
      show PyProof.Rows.lexLt itemOrd (.inl 4 :: ((a1.toks ++ a2.toks) ++ l)) (.inl 4 :: ((b1.toks ++ b2.toks) ++ m)) = _
      have e2 : Fm.lt (.or a1 a2) (.or b1 b2) = if a1 = b1 then a2.lt b2 else a1.lt b1 := (lex_same _ _ _).trans (ih1 b1 a2.toks b2.toks)
      rw [lex_same, List.append_assoc, List.append_assoc, ih1, ih2, e2]
      by_cases h1 : a1 = b1
      · by_cases h2 : a2 = b2
        · subst h1 h2; simp
        · subst h1; simp [h2]
      · simp [h1]
    | box b1 => exact (lex_ii (by decide)).trans (by rw [if_neg (by simp)]; exact (lex_ii (by decide)).symm)
    | fal => exact (lex_ii (by decide)).trans (by rw [if_neg (by simp)]; exact (lex_ii (by decide)).symm)
    | imp b1 b2 => exact (lex_ii (by decide)).trans (by rw [if_neg (by simp)]; exact (lex_ii (by decide)).symm)
    | and b1 b2 => exact (lex_ii (by decide)).trans (by rw [if_neg (by simp)]; exact (lex_ii (by decide)).symm)
    | var n => exact (lex_ii (by decide)).trans (by rw [if_neg (by simp)]; exact (lex_ii (by decide)).symm)
  | imp a1 a2 ih1 ih2 =>
    intro b l m
    cases b with
    | imp b1 b2 =>
      show PyProof.Rows.lexLt itemOrd (.inl 3 :: ((a1.toks ++ a2.toks) ++ l)) (.inl 3 :: ((b1.toks ++ b2.toks) ++ m)) = _
      have e2 : Fm.lt (.imp a1 a2) (.imp b1 b2) = if a1 = b1 then a2.lt b2 else a1.lt b1 := (lex_same _ _ _).trans (ih1 b1 a2.toks b2.toks)
      rw [lex_same, List.append_assoc, List.append_assoc, ih1, ih2, e2]
      by_cases h1 : a1 = b1
      · by_cases h2 : a2 = b2
        · subst h1 h2; simp
        · subst h1; simp [h2]
      · simp [h1]
    | box b1 => exact (lex_ii (by decide)).trans (by rw [if_neg (by simp)]; exact (lex_ii (by decide)).symm)
    | fal => exact (lex_ii (by decide)).trans (by rw [if_neg (by simp)]; exact (lex_ii (by decide)).symm)
    | or b1 b2 => exact (lex_ii (by decide)).trans (by rw [if_neg (by simp)]; exact (lex_ii (by decide)).symm)
    | and b1 b2 => exact (lex_ii (by decide)).trans (by rw [if_neg (by simp)]; exact (lex_ii (by decide)).symm)
    | var n => exact (lex_ii (by decide)).trans (by rw [if_neg (by simp)]; exact (lex_ii (by decide)).symm)
  | box a1 ih1 =>
    intro b l m
    cases b with
    | box b1 =>
      show PyProof.Rows.lexLt itemOrd (.inl 1 :: (a1.toks ++ l)) (.inl 1 :: (b1.toks ++ m)) = _
      have e2 : Fm.lt (.box a1) (.box b1) = a1.lt b1 := lex_same _ _ _
      rw [lex_same, ih1, e2]
      by_cases h1 : a1 = b1
      · subst h1; simp
      · simp [h1]
    | and b1 b2 => exact (lex_ii (by decide)).trans (by rw [if_neg (by simp)]; exact (lex_ii (by decide)).symm)
    | fal => exact (lex_ii (by decide)).trans (by rw [if_neg (by simp)]; exact (lex_ii (by decide)).symm)
    | imp b1 b2 => exact (lex_ii (by decide)).trans (by rw [if_neg (by simp)]; exact (lex_ii (by decide)).symm)
    | or b1 b2 => exact (lex_ii (by decide)).trans (by rw [if_neg (by simp)]; exact (lex_ii (by decide)).symm)
    | var n => exact (lex_ii (by decide)).trans (by rw [if_neg (by simp)]; exact (lex_ii (by decide)).symm)
  | fal =>
    intro b l m
    cases b with
    | fal => rw [if_pos rfl]; exact lex_same _ _ _
    | and b1 b2 => exact (lex_ii (by decide)).trans (by rw [if_neg (by simp)]; exact (lex_ii (by decide)).symm)
    | box b1 => exact (lex_ii (by decide)).trans (by rw [if_neg (by simp)]; exact (lex_ii (by decide)).symm)
    | imp b1 b2 => exact (lex_ii (by decide)).trans (by rw [if_neg (by simp)]; exact (lex_ii (by decide)).symm)
    | or b1 b2 => exact (lex_ii (by decide)).trans (by rw [if_neg (by simp)]; exact (lex_ii (by decide)).symm)
    | var n => exact (lex_ii (by decide)).trans (by rw [if_neg (by simp)]; exact (lex_ii (by decide)).symm)
  | var n =>
    intro b l m
    cases b with
    | var k =>
      show PyProof.Rows.lexLt itemOrd (.inl 5 :: .inr n.cps.toList :: l) (.inl 5 :: .inr k.cps.toList :: m) = _
      rw [lex_same]
      by_cases h1 : n = k
      · subst h1
        rw [lex_same, if_pos rfl]
      · have hn : n.cps.toList ≠ k.cps.toList := fun e => h1 (PySem.W.str_of_cps e)
        rw [lex_ss hn, if_neg (by simp [h1])]
        exact (lex_same _ _ _).symm
    | and b1 b2 => exact (lex_ii (by decide)).trans (by rw [if_neg (by simp)]; exact (lex_ii (by decide)).symm)
    | box b1 => exact (lex_ii (by decide)).trans (by rw [if_neg (by simp)]; exact (lex_ii (by decide)).symm)
    | fal => exact (lex_ii (by decide)).trans (by rw [if_neg (by simp)]; exact (lex_ii (by decide)).symm)
    | imp b1 b2 => exact (lex_ii (by decide)).trans (by rw [if_neg (by simp)]; exact (lex_ii (by decide)).symm)
    | or b1 b2 => exact (lex_ii (by decide)).trans (by rw [if_neg (by simp)]; exact (lex_ii (by decide)).symm)
theorem toks_inj {a b : Fm} (h : a.toks = b.toks) : a = b := by
  have e := toks_app a b [] [.inl 0]
  rw [List.append_nil] at e
  by_cases hab : a = b
  · exact hab
  · have e2 := toks_app a b [] []
    rw [List.append_nil, List.append_nil, if_neg hab] at e2
    rw [if_neg hab, ← e2, h, lex_irrefl] at e
    have : PyProof.Rows.lexLt itemOrd b.toks (b.toks ++ [.inl 0]) = true := by
      have e3 := PySem.W.lex_pre b.toks [] [.inl 0]
      rw [List.append_nil] at e3
      rw [e3]
      rfl
    rw [this] at e
    cases e
theorem Fm.lt_irrefl (a : Fm) : a.lt a = false := lex_irrefl _
theorem Fm.lt_trans {a b c : Fm} (h1 : a.lt b = true) (h2 : b.lt c = true) : a.lt c = true := lex_trans _ _ _ h1 h2
theorem Fm.lt_total {a b : Fm} (h1 : a.lt b = false) (h2 : b.lt a = false) : a = b := toks_inj (lex_total _ _ h1 h2)
theorem Fm.lt_asymm {a b : Fm} (h : a.lt b = true) : b.lt a = false := by
  cases e : b.lt a with
  | false => rfl
  | true =>
    have := Fm.lt_trans h e
    rw [Fm.lt_irrefl] at this
    cases this
end E

set_option Elab.async false
set_option linter.all false
set_option maxRecDepth 100000
set_option maxHeartbeats 4000000
namespace ELt
open PySem PySem.SeqAt
open PySem.AutoSeq1 (wpAny_loadPart')
open PySem.MeetsSeq PySem.MeetsSeq2 PySem.MeetsSeq3 PySem.SeqRoads2
/-- item by item: where two items differ for the first time, their own < gives k; where none do, the lengths -/
inductive TupLt (A : Around) (s : Shared) (fin k : Bool) : List (Value × Value) → Prop
  | nil : fin = k → TupLt A s fin k []
  | yes {p q : Value} {r : List (Value × Value)} : EqAt A s p q true → TupLt A s fin k r → TupLt A s fin k ((p, q) :: r)
  | no {p q : Value} {r : List (Value × Value)} : EqAt A s p q false → RcLt A s p q k → TupLt A s fin k ((p, q) :: r)
theorem tup_seq (l b : Addr) (xs ys : Array Value) (n m : Nat) (dd de : Option Addr) (sl sm : Array (Option Value)) (k : Bool) :
    Meets (Builtin.«tuple.__lt__» ⟨[.ref l, .ref b], []⟩)
      (fun A R s => s.heap.get? l = some ⟨.type "tuple", dd, .seq xs n, sl⟩ ∧ s.heap.get? b = some ⟨.type "tuple", de, .seq ys m, sm⟩ ∧
        TupLt A.in1 s (decide (xs.size < ys.size)) k (xs.toList.zip ys.toList) ∧ R (.ok (.ret (.bool k))) s) :=
  .of_wp fun prog w A R s h => by
    obtain ⟨hp, g, d, tk, os⟩ := s
    obtain ⟨hl, hb, ht, hR⟩ := h
    have sub := AutoSeq1.sub_tuple_tuple
    wp_walk using wpAny_loadPart' hl, wpAny_loadPart' hb, wpAny_forIn_list _ (fun rest c t => c.1 = none ∧ t = ⟨hp, g, d, tk, os⟩ ∧ TupLt A.in1 ⟨hp, g, d, tk, os⟩ (decide (xs.size < ys.size)) k rest) _
    case turn =>
      rintro ⟨y, x⟩ rest c t ⟨_, rfl, tl⟩
      cases tl with
      | yes e tl =>
        refine wpAny_bind (e prog w _ _ ?_)
        wp_walk
        exact ⟨rfl, rfl, tl⟩
      | no e lt =>
        refine wpAny_bind (e prog w _ _ ?_)
        simp only [Bool.not_false, if_true]
        refine wpAny_bind (wpAny_rule (wpAny_bind (lt prog w _ _ ?_)))
        wp_walk
        exact ⟨_, rfl, hR⟩
    case fin =>
      rintro ⟨c1, c2⟩ t ⟨hc, rfl, tl⟩
      simp only at hc
      subst hc
      cases tl with
      | nil e =>
        wp_walk
        exact ⟨_, rfl, by rw [← e] at hR; simpa [Builtin.Tuple.tupleCompareSizes] using hR⟩
    case h => exact ⟨rfl, rfl, ht⟩
theorem rc_tups {A : Around} {s : Shared} {l b : Addr} {xs ys : Array Value} {k : Bool} (hl : s.heap.IsTuple l xs) (hb : s.heap.IsTuple b ys) (hu : A.units < cLine) (ht : TupLt A.in1 s (decide (xs.size < ys.size)) k (xs.toList.zip ys.toList)) : RcLt A s (.ref l) (.ref b) k := fun prog w E Q h => by
  obtain ⟨⟨c1, dd, d1, sl⟩, ho, hc, n, hd⟩ := id hl
  obtain ⟨⟨c2, de, d2, sm⟩, ho2, hc2, m, hd2⟩ := id hb
  simp only at hc hd hc2 hd2
  subst hc hd hc2 hd2
  exact richCompare_meets_room (op := .Lt) ⟨_, ho, rfl⟩ ⟨_, ho2, rfl⟩ F.slot_tuple_lt F.entry_tuple_lt (F.args_tuple_lt_2 _ _) (tup_seq l b xs ys n m dd de sl sm k)
    ⟨ho, ho2, ht, show Value.bool k ≠ Value.notImplemented ∧ Q (.bool k) s from ⟨(fun x => nomatch x), h⟩⟩ hu
end ELt

set_option Elab.async false
set_option linter.all false
set_option maxRecDepth 100000
set_option maxHeartbeats 4000000
namespace E
open PySem PySem.Spec PyProof.Rows L2
/-! ### the signs -/
def Fm.rk : Fm → Fin 6
  | .and _ _ => 0
  | .box _ => 1
  | .fal => 2
  | .imp _ _ => 3
  | .or _ _ => 4
  | .var _ => 5
def sgT : Fin 6 → Str
  | 0 => "and"
  | 1 => "box"
  | 2 => "falsum"
  | 3 => "implies"
  | 4 => "or"
  | 5 => "var"
def Fm.sg (f : Fm) : Str := sgT f.rk
theorem sgT_ne : ∀ i j : Fin 6, i ≠ j → (sgT i == sgT j) = false := by decide +kernel
theorem sgT_lt : ∀ i j : Fin 6, decide ((sgT i).cps.toList < (sgT j).cps.toList) = decide ((i.val : Int) < (j.val : Int)) := by decide +kernel
def Fm.pts : Fm → List PyData
  | .and a b => [a.d, b.d]
  | .box a => [a.d]
  | .fal => []
  | .imp a b => [a.d, b.d]
  | .or a b => [a.d, b.d]
  | .var n => [.str n]
theorem Fm.d_eq (f : Fm) : f.d = .tuple (.str f.sg :: f.pts) := by cases f <;> rfl
theorem toks_head (f : Fm) : ∃ r, f.toks = .inl (f.rk.val : Int) :: r := by cases f <;> exact ⟨_, rfl⟩
theorem lt_rk {f g : Fm} (h : f.rk ≠ g.rk) : f.lt g = decide ((f.rk.val : Int) < (g.rk.val : Int)) := by
  obtain ⟨r, e⟩ := toks_head f
  obtain ⟨t, e2⟩ := toks_head g
  unfold Fm.lt
  rw [e, e2]
  exact lex_ii fun e => h (Fin.ext (Int.ofNat.inj e))
theorem lt_and (a b c d : Fm) : Fm.lt (.and a b) (.and c d) = if a = c then b.lt d else a.lt c := (lex_same _ _ _).trans (toks_app a c b.toks d.toks)
theorem lt_or (a b c d : Fm) : Fm.lt (.or a b) (.or c d) = if a = c then b.lt d else a.lt c := (lex_same _ _ _).trans (toks_app a c b.toks d.toks)
theorem lt_imp (a b c d : Fm) : Fm.lt (.imp a b) (.imp c d) = if a = c then b.lt d else a.lt c := (lex_same _ _ _).trans (toks_app a c b.toks d.toks)
theorem lt_box (a c : Fm) : Fm.lt (.box a) (.box c) = a.lt c := lex_same _ _ _
theorem lt_var (n m : Str) : Fm.lt (.var n) (.var m) = decide (n.cps.toList < m.cps.toList) := (lex_same _ _ _).trans (PySem.W.lex_one _ _)
theorem streq {x y : Str} : (x == y) = decide (x = y) := by
  rw [Bool.eq_iff_iff, decide_eq_true_iff]
  exact beq_iff_eq
theorem eqv_tup (x y : Str) (ds es : List PyData) : PyData.eqv (.tuple (.str x :: ds)) (.tuple (.str y :: es)) = ((x == y) && PyData.eqvAll ds es) := by
  rw [PyData.eqv, PyData.eqvAll, PyData.eqv]
theorem eqvAll2 (a b c d : PyData) : PyData.eqvAll [a, b] [c, d] = (PyData.eqv a c && PyData.eqv b d) := by
  rw [PyData.eqvAll, PyData.eqvAll, PyData.eqvAll, Bool.and_true]
theorem eqvAll1 (a c : PyData) : PyData.eqvAll [a] [c] = PyData.eqv a c := by
  rw [PyData.eqvAll, PyData.eqvAll, Bool.and_true]
/-- == of formulas as data -/
theorem Fm.eqv : ∀ f g : Fm, PyData.eqv f.d g.d = decide (f = g) := by
  intro f
  induction f with
  | and a b iha ihb =>
    intro g
    cases g with
    | and c d =>
      rw [Fm.d_eq, Fm.d_eq, eqv_tup, show ((Fm.and a b).sg == (Fm.and c d).sg) = true from beq_self_eq_true _, Bool.true_and]
      show PyData.eqvAll [a.d, b.d] [c.d, d.d] = _
      rw [eqvAll2, iha, ihb, ← Bool.decide_and]
      exact decide_eq_decide.mpr (by rw [Fm.and.injEq])
    | _ => rw [Fm.d_eq, Fm.d_eq, eqv_tup, show ∀ x y : Fm, x.rk ≠ y.rk → (x.sg == y.sg) = false from fun x y h => sgT_ne _ _ h, Bool.false_and, decide_eq_false (by simp)]; intro e; simp [Fm.rk] at e
  | or a b iha ihb =>
    intro g
    cases g with
    | or c d =>
      rw [Fm.d_eq, Fm.d_eq, eqv_tup, show ((Fm.or a b).sg == (Fm.or c d).sg) = true from beq_self_eq_true _, Bool.true_and]
      show PyData.eqvAll [a.d, b.d] [c.d, d.d] = _
      rw [eqvAll2, iha, ihb, ← Bool.decide_and]
      exact decide_eq_decide.mpr (by rw [Fm.or.injEq])
    | _ => rw [Fm.d_eq, Fm.d_eq, eqv_tup, show ∀ x y : Fm, x.rk ≠ y.rk → (x.sg == y.sg) = false from fun x y h => sgT_ne _ _ h, Bool.false_and, decide_eq_false (by simp)]; intro e; simp [Fm.rk] at e
  | imp a b iha ihb =>
    intro g
    cases g with
    | imp c d =>
      rw [Fm.d_eq, Fm.d_eq, eqv_tup, show ((Fm.imp a b).sg == (Fm.imp c d).sg) = true from beq_self_eq_true _, Bool.true_and]
      show PyData.eqvAll [a.d, b.d] [c.d, d.d] = _
      rw [eqvAll2, iha, ihb, ← Bool.decide_and]
      exact decide_eq_decide.mpr (by rw [Fm.imp.injEq])
    | _ => rw [Fm.d_eq, Fm.d_eq, eqv_tup, show ∀ x y : Fm, x.rk ≠ y.rk → (x.sg == y.sg) = false from fun x y h => sgT_ne _ _ h, Bool.false_and, decide_eq_false (by simp)]; intro e; simp [Fm.rk] at e
  | box a iha =>
    intro g
    cases g with
    | box c =>
      rw [Fm.d_eq, Fm.d_eq, eqv_tup, show ((Fm.box a).sg == (Fm.box c).sg) = true from beq_self_eq_true _, Bool.true_and]
      show PyData.eqvAll [a.d] [c.d] = _
      rw [eqvAll1, iha]
      exact decide_eq_decide.mpr (by rw [Fm.box.injEq])
    | _ => rw [Fm.d_eq, Fm.d_eq, eqv_tup, show ∀ x y : Fm, x.rk ≠ y.rk → (x.sg == y.sg) = false from fun x y h => sgT_ne _ _ h, Bool.false_and, decide_eq_false (by simp)]; intro e; simp [Fm.rk] at e
  | fal =>
    intro g
    cases g with
    | fal => rw [decide_eq_true rfl]; rfl
    | _ => rw [Fm.d_eq, Fm.d_eq, eqv_tup, show ∀ x y : Fm, x.rk ≠ y.rk → (x.sg == y.sg) = false from fun x y h => sgT_ne _ _ h, Bool.false_and, decide_eq_false (by simp)]; intro e; simp [Fm.rk] at e
  | var n =>
    intro g
    cases g with
    | var m =>
      rw [Fm.d_eq, Fm.d_eq, eqv_tup, show ((Fm.var n).sg == (Fm.var m).sg) = true from beq_self_eq_true _, Bool.true_and]
      show PyData.eqvAll [.str n] [.str m] = _
      rw [eqvAll1, PyData.eqv, streq]
      exact decide_eq_decide.mpr (by rw [Fm.var.injEq])
    | _ => rw [Fm.d_eq, Fm.d_eq, eqv_tup, show ∀ x y : Fm, x.rk ≠ y.rk → (x.sg == y.sg) = false from fun x y h => sgT_ne _ _ h, Bool.false_and, decide_eq_false (by simp)]; intro e; simp [Fm.rk] at e
end E

set_option Elab.async false
set_option linter.all false
set_option maxRecDepth 100000
set_option maxHeartbeats 4000000
namespace E
open PySem PySem.Spec PyProof.Rows L2 PySem.SeqAt ELt
/-! ### the model's own < of formulas -/
theorem rd_items {h : Heap} {v : Value} {f : Fm} {as : List Addr} (r : Reads h v f.d as) : ∃ (l : Addr) (o : Obj) (vs : Array Value) (n : Nat) (t : Tok) (ws : List Value) (bs : List Addr), v = .ref l ∧ h.get? l = some o ∧ o.cls = .type "tuple" ∧ o.data = .seq vs n ∧ vs.toList = .str f.sg t :: ws ∧ ReadsAll h ws f.pts bs := by
  rw [Fm.d_eq] at r
  generalize f.sg = sg at r
  cases r with
  | @tuple l o vs n _ _ h1 h2 h3 h4 =>
    generalize hv : vs.toList = vl at h4
    cases h4 with
    | @cons w ws _ _ as bs r1 r2 =>
      cases r1 with
      | str _ t => exact ⟨l, o, vs, n, t, ws, bs, rfl, h1, h2, h3, hv, r2⟩
theorem eq_fm {h : Heap} {A : Around} {s : Shared} (hs : s.heap = h) {f g : Fm} {v u : Value} {as bs : List Addr} (rv : Reads h v f.d as) (ru : Reads h u g.d bs) (lf : f.d.canLay0 = true) (lg : g.d.canLay0 = true) (hu : A.units + min f.ht g.ht < cLine) : EqAt A s v u (decide (f = g)) := by
  subst hs
  rw [← Fm.eqv]
  exact eqAt_reads f.d g.d A s v u as bs rv ru lf lg (by rw [Fm.depth, Fm.depth]; exact hu)
theorem size_of {vs : Array Value} {l : List Value} (h : vs.toList = l) : vs.size = l.length := by rw [← h, Array.length_toList]
/-- the items behind the signs, in order -/
theorem seq_pts : ∀ (f g : Fm), f.rk = g.rk → ∀ (A : Around) (s : Shared) (ws us : List Value) (as bs : List Addr), ReadsAll s.heap ws f.pts as → ReadsAll s.heap us g.pts bs → f.d.canLay0 = true → g.d.canLay0 = true → A.units + min f.ht g.ht < cLine + 1 →
    (∀ (f' g' : Fm) (v u : Value) (cs ds : List Addr), f'.ht < f.ht → Reads s.heap v f'.d cs → Reads s.heap u g'.d ds → f'.d.canLay0 = true → g'.d.canLay0 = true → A.units + min f'.ht g'.ht < cLine → RcLt A s v u (f'.lt g')) →
    TupLt A s false (f.lt g) (ws.zip us) := by
  intro f g hk A s ws us as bs rw_ ru lf lg hu ih
  have two : ∀ (a b c d : Fm) (k : Bool), k = (if a = c then b.lt d else a.lt c) → a.ht < f.ht → b.ht < f.ht → a.d.canLay0 = true → b.d.canLay0 = true → c.d.canLay0 = true → d.d.canLay0 = true → A.units + min a.ht c.ht < cLine → A.units + min b.ht d.ht < cLine →
      ReadsAll s.heap ws [a.d, b.d] as → ReadsAll s.heap us [c.d, d.d] bs → TupLt A s false k (ws.zip us) := by
    intro a b c d k ek ha hb la lb lc ld h1 h2 r1 r2
    cases r1 with
    | cons p1 q1 =>
      cases q1 with
      | cons p2 q2 =>
        cases q2
        cases r2 with
        | cons p3 q3 =>
          cases q3 with
          | cons p4 q4 =>
            cases q4
            by_cases e1 : a = c
            · rw [if_pos e1] at ek
              have t1 := eq_fm (A := A) (s := s) rfl p1 p3 la lc h1
              rw [decide_eq_true e1] at t1
              refine .yes t1 ?_
              have t2 := eq_fm (A := A) (s := s) rfl p2 p4 lb ld h2
              by_cases e2 : b = d
              · rw [decide_eq_true e2] at t2
                subst e2
                rw [Fm.lt_irrefl] at ek
                exact .yes t2 (.nil ek.symm)
              · rw [decide_eq_false e2] at t2
                rw [ek]
                exact .no t2 (ih b d _ _ _ _ hb p2 p4 lb ld h2)
            · rw [if_neg e1] at ek
              have t1 := eq_fm (A := A) (s := s) rfl p1 p3 la lc h1
              rw [decide_eq_false e1] at t1
              rw [ek]
              exact .no t1 (ih a c _ _ _ _ ha p1 p3 la lc h1)
  have lay2 : ∀ {sg : Str} {a b : Fm}, PyData.canLay0 (.tuple [.str sg, a.d, b.d]) = true → a.d.canLay0 = true ∧ b.d.canLay0 = true := by
    intro sg a b h
    simp only [PyData.canLay0, PyData.canLayAll0, Bool.and_eq_true] at h
    exact ⟨h.2.1, h.2.2.1⟩
  cases f with
  | and a b =>
    cases g with
    | and c d =>
      have hu' : A.units + min (max a.ht b.ht + 1) (max c.ht d.ht + 1) < cLine + 1 := hu
      exact two a b c d _ (lt_and a b c d) (by show _ < max a.ht b.ht + 1; omega) (by show _ < max a.ht b.ht + 1; omega) (lay2 lf).1 (lay2 lf).2 (lay2 lg).1 (lay2 lg).2 (by omega) (by omega) rw_ ru
    | _ => exact absurd hk (by simp [Fm.rk])
  | or a b =>
    cases g with
    | or c d =>
      have hu' : A.units + min (max a.ht b.ht + 1) (max c.ht d.ht + 1) < cLine + 1 := hu
      exact two a b c d _ (lt_or a b c d) (by show _ < max a.ht b.ht + 1; omega) (by show _ < max a.ht b.ht + 1; omega) (lay2 lf).1 (lay2 lf).2 (lay2 lg).1 (lay2 lg).2 (by omega) (by omega) rw_ ru
    | _ => exact absurd hk (by simp [Fm.rk])
  | imp a b =>
    cases g with
    | imp c d =>
      have hu' : A.units + min (max a.ht b.ht + 1) (max c.ht d.ht + 1) < cLine + 1 := hu
      exact two a b c d _ (lt_imp a b c d) (by show _ < max a.ht b.ht + 1; omega) (by show _ < max a.ht b.ht + 1; omega) (lay2 lf).1 (lay2 lf).2 (lay2 lg).1 (lay2 lg).2 (by omega) (by omega) rw_ ru
    | _ => exact absurd hk (by simp [Fm.rk])
  | box a =>
    cases g with
    | box c =>
      have hu' : A.units + min (a.ht + 1) (c.ht + 1) < cLine + 1 := hu
      have la : a.d.canLay0 = true := by
        have h : PyData.canLay0 (.tuple [.str "box", a.d]) = true := lf
        simp only [PyData.canLay0, PyData.canLayAll0, Bool.and_eq_true] at h
        exact h.2.1
      have lc : c.d.canLay0 = true := by
        have h : PyData.canLay0 (.tuple [.str "box", c.d]) = true := lg
        simp only [PyData.canLay0, PyData.canLayAll0, Bool.and_eq_true] at h
        exact h.2.1
      rw [lt_box]
      cases rw_ with
      | cons p1 q1 =>
        cases q1
        cases ru with
        | cons p3 q3 =>
          cases q3
          have t1 := eq_fm (A := A) (s := s) rfl p1 p3 la lc (by omega)
          by_cases e1 : a = c
          · rw [decide_eq_true e1] at t1
            subst e1
            exact .yes t1 (.nil (Fm.lt_irrefl a).symm)
          · rw [decide_eq_false e1] at t1
            exact .no t1 (ih a c _ _ _ _ (Nat.lt_succ_self _) p1 p3 la lc (by omega))
    | _ => exact absurd hk (by simp [Fm.rk])
  | fal =>
    cases g with
    | fal =>
      cases rw_
      cases ru
      exact .nil (Fm.lt_irrefl _).symm
    | _ => exact absurd hk (by simp [Fm.rk])
  | var n =>
    cases g with
    | var m =>
      rw [lt_var]
      cases rw_ with
      | cons p1 q1 =>
        cases q1
        cases ru with
        | cons p3 q3 =>
          cases q3
          cases p1 with
          | str _ t =>
            cases p3 with
            | str _ t2 =>
              have t1 := EqAt.str_str (A := A) (s := s) n t m t2
              by_cases e1 : n = m
              · subst e1
                rw [beq_self_eq_true] at t1
                exact .yes t1 (.nil (decide_eq_false (List.lt_irrefl _)).symm)
              · rw [streq, decide_eq_false e1] at t1
                exact .no t1 fun prog w E Q hq => P.lt_str hq
    | _ => exact absurd hk (by simp [Fm.rk])
theorem rc_fm : ∀ (n : Nat) (f g : Fm) (A : Around) (s : Shared) (v u : Value) (as bs : List Addr), f.ht ≤ n → Reads s.heap v f.d as → Reads s.heap u g.d bs → f.d.canLay0 = true → g.d.canLay0 = true → A.units + min f.ht g.ht < cLine → RcLt A s v u (f.lt g)
  | 0, f, _, _, _, _, _, _, _, h, _, _, _, _, _ => absurd (Fm.ht_pos f) (by omega)
  | n + 1, f, g, A, s, v, u, as, bs, hn, rv, ru, lf, lg, hu => by
    obtain ⟨l, o, vs, k, t, ws, cs, rfl, h1, h2, h3, h4, h5⟩ := rd_items rv
    obtain ⟨l', o', vs', k', t', ws', cs', rfl, k1, k2, k3, k4, k5⟩ := rd_items ru
    refine rc_tups ⟨o, h1, h2, k, h3⟩ ⟨o', k1, k2, k', k3⟩ (Nat.lt_of_le_of_lt (Nat.le_add_right _ _) hu) ?_
    rw [h4, k4, List.zip_cons_cons]
    have t1 := EqAt.str_str (A := A.in1) (s := s) f.sg t g.sg t'
    by_cases hk : f.rk = g.rk
    · rw [show f.sg = g.sg from congrArg sgT hk] at t1 ⊢
      rw [beq_self_eq_true] at t1
      refine .yes t1 ?_
      have hsz : decide (vs.size < vs'.size) = false := by
        rw [size_of h4, size_of k4, List.length_cons, List.length_cons, SeqAt.ReadsAll.length _ _ _ h5, SeqAt.ReadsAll.length _ _ _ k5]
        have : f.pts.length = g.pts.length := by
          cases f <;> cases g <;> first | rfl | exact absurd hk (by simp [Fm.rk])
        rw [this]
        exact decide_eq_false (Nat.lt_irrefl _)
      rw [hsz]
      exact seq_pts f g hk A.in1 s ws ws' cs cs' h5 k5 lf lg (by show A.units + 1 + _ < _; omega) fun f' g' v u cs ds hf r1 r2 l1 l2 hu' => rc_fm n f' g' A.in1 s v u cs ds (by omega) r1 r2 l1 l2 hu'
    · rw [show (f.sg == g.sg) = false from sgT_ne _ _ hk] at t1
      refine .no t1 fun prog w E Q hq => ?_
      rw [lt_rk hk, ← sgT_lt] at hq
      exact P.lt_str hq
end E

set_option Elab.async false
set_option linter.all false
set_option maxRecDepth 100000
set_option maxHeartbeats 4000000
namespace E
open PySem PySem.Spec PyProof.Rows L2 PySem.SeqAt ELt PySem.W PySem.Calls
/-! ### sorting formulas -/
theorem sgT_inj {i j : Fin 6} (h : sgT i = sgT j) : i = j := by
  by_cases e : i = j
  · exact e
  · have := sgT_ne i j e
    rw [h, beq_self_eq_true] at this
    cases this
theorem rd_head {h : Heap} {f g : Fm} {v : Value} {as bs : List Addr} (r1 : Reads h v f.d as) (r2 : Reads h v g.d bs) : f.rk = g.rk ∧ ∃ (ws : List Value) (cs ds : List Addr), ReadsAll h ws f.pts cs ∧ ReadsAll h ws g.pts ds := by
  obtain ⟨l, o, vs, k, t, ws, cs, rfl, h1, h2, h3, h4, h5⟩ := rd_items r1
  obtain ⟨l', o', vs', k', t', ws', cs', e, k1, k2, k3, k4, k5⟩ := rd_items r2
  cases e
  rw [h1] at k1
  cases k1
  rw [h3] at k3
  cases k3
  rw [h4] at k4
  obtain ⟨e1, e2⟩ := List.cons.inj k4
  have e3 : f.sg = g.sg := by injection e1
  subst e2
  exact ⟨sgT_inj e3, ws, cs, cs', h5, k5⟩
theorem rd_two {h : Heap} {ws : List Value} {a b c d : PyData} {as bs : List Addr} (r1 : ReadsAll h ws [a, b] as) (r2 : ReadsAll h ws [c, d] bs) : ∃ (v u : Value) (x y z w : List Addr), Reads h v a x ∧ Reads h v c y ∧ Reads h u b z ∧ Reads h u d w := by
  cases r1 with
  | cons p1 q1 =>
    cases q1 with
    | cons p2 q1 =>
      cases r2 with
      | cons p3 q2 =>
        cases q2 with
        | cons p4 q2 => exact ⟨_, _, _, _, _, _, p1, p3, p2, p4⟩
theorem rd_one {h : Heap} {ws : List Value} {a c : PyData} {as bs : List Addr} (r1 : ReadsAll h ws [a] as) (r2 : ReadsAll h ws [c] bs) : ∃ (v : Value) (x y : List Addr), Reads h v a x ∧ Reads h v c y := by
  cases r1 with
  | cons p1 q1 =>
    cases r2 with
    | cons p3 q2 => exact ⟨_, _, _, p1, p3⟩
theorem rd_uniq {h : Heap} : ∀ (f g : Fm) (v : Value) (as bs : List Addr), Reads h v f.d as → Reads h v g.d bs → f = g := by
  intro f
  induction f with
  | and a b iha ihb =>
    intro g v as bs r1 r2
    obtain ⟨hk, ws, cs, ds, q1, q2⟩ := rd_head r1 r2
    cases g with
    | and c d =>
      obtain ⟨_, _, _, _, _, _, p1, p2, p3, p4⟩ := rd_two q1 q2
      rw [iha c _ _ _ p1 p2, ihb d _ _ _ p3 p4]
    | _ => exact absurd hk (by simp [Fm.rk])
  | or a b iha ihb =>
    intro g v as bs r1 r2
    obtain ⟨hk, ws, cs, ds, q1, q2⟩ := rd_head r1 r2
    cases g with
    | or c d =>
      obtain ⟨_, _, _, _, _, _, p1, p2, p3, p4⟩ := rd_two q1 q2
      rw [iha c _ _ _ p1 p2, ihb d _ _ _ p3 p4]
    | _ => exact absurd hk (by simp [Fm.rk])
  | imp a b iha ihb =>
    intro g v as bs r1 r2
    obtain ⟨hk, ws, cs, ds, q1, q2⟩ := rd_head r1 r2
    cases g with
    | imp c d =>
      obtain ⟨_, _, _, _, _, _, p1, p2, p3, p4⟩ := rd_two q1 q2
      rw [iha c _ _ _ p1 p2, ihb d _ _ _ p3 p4]
    | _ => exact absurd hk (by simp [Fm.rk])
  | box a iha =>
    intro g v as bs r1 r2
    obtain ⟨hk, ws, cs, ds, q1, q2⟩ := rd_head r1 r2
    cases g with
    | box c =>
      obtain ⟨_, _, _, p1, p2⟩ := rd_one q1 q2
      rw [iha c _ _ _ p1 p2]
    | _ => exact absurd hk (by simp [Fm.rk])
  | fal =>
    intro g v as bs r1 r2
    obtain ⟨hk, ws, cs, ds, q1, q2⟩ := rd_head r1 r2
    cases g with
    | fal => rfl
    | _ => exact absurd hk (by simp [Fm.rk])
  | var n =>
    intro g v as bs r1 r2
    obtain ⟨hk, ws, cs, ds, q1, q2⟩ := rd_head r1 r2
    cases g with
    | var m =>
      obtain ⟨_, _, _, p1, p2⟩ := rd_one q1 q2
      cases p1
      cases p2
      rfl
    | _ => exact absurd hk (by simp [Fm.rk])
/-- formulas as keys, read off a heap -/
noncomputable def fmKind (h : Heap) (fs : List Fm) : PyProof.Rows.KeyKind where
  toKeyOrd := listOrd itemOrd
  keyOf v := open Classical in if q : ∃ f, f ∈ fs ∧ ∃ as, Reads h v f.d as then some q.choose.toks else none
  dflt := ([] : Tk)
theorem fmKind_some {h : Heap} {fs : List Fm} {v : Value} {f : Fm} {as : List Addr} (hf : f ∈ fs) (r : Reads h v f.d as) : (fmKind h fs).keyOf v = some f.toks := by
  have q : ∃ f, f ∈ fs ∧ ∃ as, Reads h v f.d as := ⟨f, hf, as, r⟩
  obtain ⟨_, as', h2⟩ := q.choose_spec
  have e : q.choose = f := rd_uniq _ _ _ _ _ h2 r
  show (open Classical in if q : ∃ f, f ∈ fs ∧ ∃ as, Reads h v f.d as then some q.choose.toks else none) = _
  rw [dif_pos q, e]
theorem fmKind_inv {h : Heap} {fs : List Fm} {v : Value} {k : Tk} (e : (fmKind h fs).keyOf v = some k) : ∃ f as, f ∈ fs ∧ Reads h v f.d as ∧ k = f.toks := by
  have e' : (open Classical in if q : ∃ f, f ∈ fs ∧ ∃ as, Reads h v f.d as then some q.choose.toks else none) = some k := e
  by_cases q : ∃ f, f ∈ fs ∧ ∃ as, Reads h v f.d as
  · obtain ⟨h1, as', h2⟩ := q.choose_spec
    rw [dif_pos q] at e'
    exact ⟨_, as', h1, h2, (Option.some.inj e').symm⟩
  · rw [dif_neg q] at e'
    cases e'
section
variable {prog : Program} {w : World} {A : Around} {E : Value → Shared → Prop} {s : Shared}
theorem lex_tail {fin k : Bool} {Q : Bool → Shared → Prop} (hq : Q k s) : ∀ (l : List (Value × Value)) (i : Nat), TupLt A s fin k l → KatLex prog w A true fin Q l (i + 1) s
  | _, _, .nil e => kat_nil (by rw [e]; exact hq)
  | _, i, .yes (r := r) e t => kat_cons (e prog w _ _ (kat_yes (lex_tail hq r (i + 1) t)))
  | _, i, .no e lt => kat_cons (e prog w _ _ (kat_no (by
      show wpAny (model prog w) A (oneLt' (true && (i + 1 == 0)) _ _) Q _ s
      rw [show (true && (i + 1 == 0)) = false from rfl]
      exact kat_one _ _ (lt prog w _ _ hq))))
theorem sorts_fm {vs : List Value} {fs : List Fm} (e : EachIs (fun v f => ∃ as, Reads s.heap v f.d as) vs fs) (hl : ∀ f, f ∈ fs → f.d.canLay0 = true ∧ A.units + f.ht < cLine) : SortsAt prog w A s (fmKind s.heap fs) vs := by
  refine ⟨fun v hv => ?_, tuples' (Value.type "str" != Value.type "tuple"), ?_, fun h2 E Q hq => ?_⟩
  · obtain ⟨f, hf, as, r⟩ := e.left v hv
    exact ⟨_, fmKind_some hf r⟩
  · intro E x y a b Q ha hb hq
    obtain ⟨f, as, hf, rf, rfl⟩ := fmKind_inv ha
    obtain ⟨g, bs, hg, rg, rfl⟩ := fmKind_inv hb
    have hq' : Q (f.lt g) s := hq
    obtain ⟨l, o, vs, k, t, ws, cs, rfl, h1, h2, h3, h4, h5⟩ := rd_items rf
    obtain ⟨l', o', vs', k', t', ws', cs', rfl, k1, k2, k3, k4, k5⟩ := rd_items rg
    have room : A.units + min f.ht g.ht < cLine := by
      have := (hl f hf).2
      omega
    refine kat_lt h1 h3 k1 k3 ?_
    rw [h4, k4, List.zip_cons_cons, show (Value.type "str" != Value.type "tuple") = true by decide]
    have t1 := EqAt.str_str (A := A) (s := s) f.sg t g.sg t'
    by_cases hk : f.rk = g.rk
    · rw [show f.sg = g.sg from congrArg sgT hk] at t1 ⊢
      rw [beq_self_eq_true] at t1
      have hsz : decide (vs.size < vs'.size) = false := by
        rw [size_of h4, size_of k4, List.length_cons, List.length_cons, SeqAt.ReadsAll.length _ _ _ h5, SeqAt.ReadsAll.length _ _ _ k5]
        have : f.pts.length = g.pts.length := by
          cases f <;> cases g <;> first | rfl | exact absurd hk (by simp [Fm.rk])
        rw [this]
        exact decide_eq_false (Nat.lt_irrefl _)
      rw [hsz]
      refine kat_cons (t1 prog w _ _ (kat_yes (lex_tail hq' _ 0 ?_)))
      exact seq_pts f g hk A s ws ws' cs cs' h5 k5 (hl f hf).1 (hl g hg).1 (by omega) fun f' g' v u cs ds hf' r1 r2 l1 l2 hu' => rc_fm f'.ht f' g' A s v u cs ds (Nat.le_refl _) r1 r2 l1 l2 hu'
    · rw [show (f.sg == g.sg) = false from sgT_ne _ _ hk] at t1
      refine kat_cons (t1 prog w _ _ (kat_no ?_))
      rw [lt_rk hk, ← sgT_lt] at hq'
      exact oneLt_str hq'
  · have firsts : ∀ {vs : List Value} {fs : List Fm}, EachIs (fun v f => ∃ as, Reads s.heap v f.d as) vs fs → ∃ us, KatTups s.heap vs us ∧ us.length = vs.length ∧ ∀ u ∈ us, ∃ x t, u = Value.str x t := by
      intro vs fs e
      induction e with
      | nil => exact ⟨[], KatTups.nil, rfl, fun u hu => nomatch hu⟩
      | cons h _ ih =>
        obtain ⟨as, r⟩ := h
        obtain ⟨us, a1, a2, a3⟩ := ih
        obtain ⟨l, o, vs, k, t, ws, cs, rfl, h1, h2, h3, h4, h5⟩ := rd_items r
        refine ⟨.str _ t :: us, KatTups.cons h1 h2 h3 (by rw [← Array.getElem?_toList, h4]; rfl) a1, by rw [List.length_cons, List.length_cons, a2], fun u hu => ?_⟩
        rcases List.mem_cons.mp hu with rfl | hu
        · exact ⟨_, _, rfl⟩
        · exact a3 u hu
    obtain ⟨us, a1, a2, a3⟩ := firsts e
    refine kat_kind (T := .type "str") a1 (by omega) (fun u hu => ?_) (beq_self_eq_true _) hq
    obtain ⟨x, t, rfl⟩ := a3 u hu
    exact Looks.of_pure rfl
end
def Fm.le (f g : Fm) : Bool := !g.lt f
/-- sorted(xs), xs a list of formulas -/
def rSortedF (K : PySem.W.Frag) : List V → Hp → VK → Prop := fun vs H Q => ∃ (a : Addr) (xs : List V) (fs : List Fm), vs = [V.ref a] ∧ SqL K H a xs ∧ ImAll K H xs (fs.map Fm.d) ∧ (∀ f ∈ fs, f.d.canLay0 = true ∧ f.ht ≤ 100) ∧
  ∀ (p : Addr) (ys : List V), H p = none → ImAll K H ys ((fs.mergeSort Fm.le).map Fm.d) → Q (.ref p) (upd H p (.lst ys))
theorem each_of {X : Cx} {pins : List (Addr × Obj)} {σ : L2.St} {H : Hp} {s : Shared} (I : Inv X pins σ H s) : ∀ {xs : List V} {us : List Value} {fs : List Fm}, Vals xs us → ImAll X.K H xs (fs.map Fm.d) →
    EachIs (fun v f => ∃ x : V, RelV x v ∧ Im X.K H x (Fm.d f)) us fs ∧ EachIs (fun v f => ∃ as, Reads s.heap v (Fm.d f) as) us fs
  | _, _, [], .nil, _ => ⟨.nil, .nil⟩
  | _, _, f :: fs, .cons r t, i => by
    have i' : ImAll X.K H _ (f.d :: fs.map Fm.d) := i
    cases i' with
    | cons i1 i2 =>
      obtain ⟨a1, a2⟩ := each_of I t i2
      exact ⟨.cons ⟨_, r, i1⟩ a1, .cons (Dp.reads I _ _ _ i1.dp r) a2⟩
theorem each_back {K : PySem.W.Frag} {H : Hp} : ∀ {us : List Value} {fs : List Fm}, EachIs (fun v f => ∃ x : V, RelV x v ∧ Im K H x (Fm.d f)) us fs → ∃ ys : List V, Vals ys us ∧ ImAll K H ys (fs.map Fm.d)
  | _, _, .nil => ⟨[], .nil, .nil⟩
  | _, _, .cons ⟨x, r, i⟩ t => by
    obtain ⟨ys, h1, h2⟩ := each_back t
    exact ⟨x :: ys, .cons r h1, .cons i h2⟩
section
variable {X : Cx}
theorem cr_sortedF (hu64 : X.A.units + 200 < cLine) : CallR X (.builtin "sorted") (rSortedF X.K) := by
  intro pins s σ H vs us Q I r h
  obtain ⟨a, xs, fs, rfl, hs, hi, hb, q⟩ := h
  obtain ⟨its, rv, hl, hz⟩ := I.list hs
  obtain ⟨u, rfl, ru⟩ := vals1 r
  obtain rfl : u = Value.ref a := ru
  obtain ⟨e1, e2⟩ := each_of I rv hi
  have e3 : EachIs (fun v f => ∃ as, Reads (sortingHeap (copyHeap s.heap its) (s.heap.objs.size + 1) its) v (Fm.d f) as) its fs := e2.mono fun v f ⟨as, r⟩ => ⟨as, PyProof.Rows.Reads.keeps (fun _ _ => sorting_copy_old) r⟩
  refine sorted_vals (κ := fmKind (sortingHeap (copyHeap s.heap its) (s.heap.objs.size + 1) its) fs) hl.isList (sorts_fm (s := { s with heap := sortingHeap (copyHeap s.heap its) (s.heap.objs.size + 1) its }) e3 fun f hf => ⟨(hb f hf).1, ?_⟩) (by rw [← rv.length]; exact hz) ?_
  · have := (hb f hf).2
    show X.A.units + 1 + 1 + f.ht < cLine
    omega
  · have ek : EachIs (fun v f => (fmKind (sortingHeap (copyHeap s.heap its) (s.heap.objs.size + 1) its) fs).keyOf v = some (Fm.toks f)) its fs := (each_mem e3).mono fun v f ⟨⟨as, r⟩, hf⟩ => fmKind_some hf r
    have es := sortVals_each (κ := fmKind (sortingHeap (copyHeap s.heap its) (s.heap.objs.size + 1) its) fs) (rev := false) Fm.toks e1 ek
    obtain ⟨ys, y1, y2⟩ := each_back es
    obtain ⟨n, hn⟩ := sortedAll_at s.heap its (sortVals (fmKind (sortingHeap (copyHeap s.heap its) (s.heap.objs.size + 1) its) fs) false its its).toArray
    have hf : s.heap.objs.size ≤ s.heap.objs.size + 1 := Nat.le_succ _
    refine ⟨.ref (s.heap.objs.size + 1), upd H _ (.lst ys), I.laid (t' := s.toks) (fun _ _ => sortedAll_old) hf ⟨?_, _, n, y1, hn⟩, rfl, q _ ys (I.hok.fresh hf) y2⟩
    have hl2 := y1.length
    rw [sortVals_length false rfl] at hl2
    have := rv.length
    omega
end
end E
namespace E
open PySem PySem.Spec PyProof.Rows L2 PySem.SeqAt ELt PySem.W PySem.Calls
def rLtF (K : PySem.W.Frag) : R2 := fun x y H Q => ∃ f g : Fm, Im K H x f.d ∧ Im K H y g.d ∧ f.d.canLay0 = true ∧ g.d.canLay0 = true ∧ f.ht ≤ 100 ∧ Q (.bl (f.lt g)) H
theorem op_ltF {X : Cx} (hu : X.A.units + 200 < cLine) : OpR X (compareOp .Lt) (rLtF X.K) := by
  intro pins s σ H x y v u Q I rx ry h
  obtain ⟨f, g, hf, hg, lf, lg, hh, q⟩ := h
  obtain ⟨as, r1⟩ := Dp.reads I _ x v hf.dp rx
  obtain ⟨bs, r2⟩ := Dp.reads I _ y u hg.dp ry
  exact rc_fm f.ht f g X.A s v u as bs (Nat.le_refl _) r1 r2 lf lg (by omega) X.prog X.w _ _ ⟨.bl _, H, I, rfl, q⟩
end E
#print axioms E.op_ltF
#print axioms E.cr_sortedF

set_option Elab.async false
set_option linter.all false
set_option maxRecDepth 100000
set_option maxHeartbeats 4000000
namespace E
open PySem PySem.Spec PyProof.Rows L2
/-! ### ascending lists of formulas -/
def dd (l : List Fm) : List Fm := l.foldl (fun acc x => if acc.getLast? = some x then acc else acc ++ [x]) []
def dist (l : List Fm) : List Fm := dd (l.mergeSort Fm.le)
theorem dd_snoc (l : List Fm) (x : Fm) : dd (l ++ [x]) = if (dd l).getLast? = some x then dd l else dd l ++ [x] := by
  unfold dd
  rw [List.foldl_append]
  rfl
def Asc (l : List Fm) : Prop := l.Pairwise fun a b => a.lt b = true
theorem le_total (a b : Fm) : a.le b = true ∨ b.le a = true := by
  unfold Fm.le
  cases e : b.lt a with
  | false => exact .inl rfl
  | true => exact .inr (by rw [Fm.lt_asymm e]; rfl)
theorem lt_of_le_ne {a b : Fm} (h : a.le b = true) (n : a ≠ b) : a.lt b = true := by
  unfold Fm.le at h
  rw [Bool.not_eq_true'] at h
  cases e : a.lt b with
  | true => rfl
  | false => exact absurd (Fm.lt_total e h) n
theorem le_of_lt {a b : Fm} (h : a.lt b = true) : a.le b = true := by
  unfold Fm.le
  rw [Fm.lt_asymm h]
  rfl
theorem le_trans' {a b c : Fm} (h1 : a.le b = true) (h2 : b.le c = true) : a.le c = true := by
  by_cases e : a = b
  · rw [e]; exact h2
  · by_cases e2 : b = c
    · rw [← e2]; exact h1
    · exact le_of_lt (Fm.lt_trans (lt_of_le_ne h1 e) (lt_of_le_ne h2 e2))
theorem ms_sorted (l : List Fm) : (l.mergeSort Fm.le).Pairwise fun a b => a.le b = true :=
  List.pairwise_mergeSort (le := Fm.le) (fun a b c h1 h2 => le_trans' (a := a) (b := b) (c := c) h1 h2) (fun a b => Bool.or_eq_true_iff.mpr (le_total a b)) l
theorem getLast?_of_pairwise {l : List Fm} {x y : Fm} (h : l.getLast? = some y) (p : Asc l) (hx : x ∈ l) : x = y ∨ x.lt y = true := by
  obtain ⟨l', rfl⟩ := List.getLast?_eq_some_iff.mp h
  rcases List.mem_append.mp hx with q | q
  · exact .inr ((List.pairwise_append.mp p).2.2 x q y (List.mem_singleton.mpr rfl))
  · exact .inl (List.mem_singleton.mp q)
theorem snoc_ind {α : Type} {P : List α → Prop} (h0 : P []) (hs : ∀ l x, P l → P (l ++ [x])) (l : List α) : P l := by
  have : ∀ r : List α, P r.reverse := by
    intro r
    induction r with
    | nil => exact h0
    | cons x r ih =>
      rw [List.reverse_cons]
      exact hs _ _ ih
  have e := this l.reverse
  rw [List.reverse_reverse] at e
  exact e
/-- the walk over a sorted list: strictly ascending, the same members, a part of it -/
theorem dd_spec (l : List Fm) : (l.Pairwise fun a b => a.le b = true) → Asc (dd l) ∧ (∀ x, x ∈ dd l ↔ x ∈ l) ∧ (dd l).Sublist l ∧ (dd l).getLast? = l.getLast? := by
  induction l using snoc_ind with
  | h0 => exact fun _ => ⟨.nil, fun x => Iff.rfl, List.Sublist.refl _, rfl⟩
  | hs l x ih =>
    intro p
    obtain ⟨p1, _, p2⟩ := List.pairwise_append.mp p
    obtain ⟨a1, a2, a3, a4⟩ := ih p1
    rw [dd_snoc]
    by_cases e : (dd l).getLast? = some x
    · rw [if_pos e]
      refine ⟨a1, fun y => ?_, a3.trans (List.sublist_append_left _ _), by rw [e, List.getLast?_append]; rfl⟩
      rw [a2, List.mem_append, List.mem_singleton]
      constructor
      · exact .inl
      · rintro (q | rfl)
        · exact q
        · exact (a2 y).mp (List.mem_of_getLast? e)
    · rw [if_neg e]
      refine ⟨List.pairwise_append.mpr ⟨a1, List.pairwise_singleton _ _, fun y hy z hz => ?_⟩, fun y => ?_, List.Sublist.append a3 (List.Sublist.refl _), by rw [List.getLast?_append, List.getLast?_append]; rfl⟩
      · rw [List.mem_singleton] at hz
        subst hz
        refine lt_of_le_ne (p2 y ((a2 y).mp hy) z (List.mem_singleton.mpr rfl)) fun q => ?_
        subst q
        cases g : (dd l).getLast? with
        | none =>
          rw [List.getLast?_eq_none_iff] at g
          rw [g] at hy
          cases hy
        | some m =>
          have hm : m ∈ dd l := List.mem_of_getLast? g
          rcases getLast?_of_pairwise g a1 hy with q | q
          · rw [q] at e; exact e g
          · have := p2 m ((a2 m).mp hm) y (List.mem_singleton.mpr rfl)
            unfold Fm.le at this
            rw [q] at this
            cases this
      · rw [List.mem_append, List.mem_append, a2]
theorem dist_asc (l : List Fm) : Asc (dist l) := (dd_spec _ (ms_sorted l)).1
theorem dist_mem {l : List Fm} {x : Fm} : x ∈ dist l ↔ x ∈ l := ((dd_spec _ (ms_sorted l)).2.1 x).trans ((List.mergeSort_perm l Fm.le).mem_iff)
theorem asc_one : ∀ {l m : List Fm}, Asc l → Asc m → (∀ x, x ∈ l ↔ x ∈ m) → l = m
  | [], [], _, _, _ => rfl
  | [], y :: m, _, _, h => absurd ((h y).mpr List.mem_cons_self) (by simp)
  | x :: l, [], _, _, h => absurd ((h x).mp List.mem_cons_self) (by simp)
  | x :: l, y :: m, hl, hm, h => by
    have hl' := List.pairwise_cons.mp hl
    have hm' := List.pairwise_cons.mp hm
    have e : x = y := by
      rcases List.mem_cons.mp ((h x).mp List.mem_cons_self) with q | q
      · exact q
      · rcases List.mem_cons.mp ((h y).mpr List.mem_cons_self) with r | r
        · exact r.symm
        · have h1 := hm'.1 x q
          have h2 := hl'.1 y r
          rw [Fm.lt_asymm h1] at h2
          cases h2
    subst e
    have : l = m := asc_one hl'.2 hm'.2 fun z => by
      constructor
      · intro q
        rcases List.mem_cons.mp ((h z).mp (List.mem_cons_of_mem _ q)) with r | r
        · subst r
          have := hl'.1 z q
          rw [Fm.lt_irrefl] at this
          cases this
        · exact r
      · intro q
        rcases List.mem_cons.mp ((h z).mpr (List.mem_cons_of_mem _ q)) with r | r
        · subst r
          have := hm'.1 z q
          rw [Fm.lt_irrefl] at this
          cases this
        · exact r
    rw [this]
theorem dist_ext {l m : List Fm} (h : ∀ x, x ∈ l ↔ x ∈ m) : dist l = dist m := asc_one (dist_asc l) (dist_asc m) fun x => by rw [dist_mem, dist_mem, h]
theorem dist_self {l : List Fm} (h : Asc l) : dist l = l := asc_one (dist_asc l) h fun x => dist_mem
theorem dist_len (l : List Fm) : (dist l).length ≤ l.length := by
  have := (dd_spec _ (ms_sorted l)).2.2.1.length_le
  rw [List.length_mergeSort] at this
  exact this
theorem sub_sum (k : Fm → Nat) : ∀ {l m : List Fm}, l.Sublist m → (l.map k).sum ≤ (m.map k).sum
  | _, _, .slnil => Nat.le_refl _
  | _, _, .cons x h => by
    rw [List.map_cons, List.sum_cons]
    exact Nat.le_trans (sub_sum k h) (Nat.le_add_left _ _)
  | _, _, .cons₂ x h => by
    rw [List.map_cons, List.sum_cons, List.map_cons, List.sum_cons]
    exact Nat.add_le_add_left (sub_sum k h) _
theorem dist_sum (k : Fm → Nat) (l : List Fm) : ((dist l).map k).sum ≤ (l.map k).sum := by
  refine Nat.le_trans (sub_sum k (dd_spec _ (ms_sorted l)).2.2.1) ?_
  rw [((List.mergeSort_perm l Fm.le).map k).sum_nat]
  exact Nat.le_refl _
/-! ### parts, levels -/
def Fm.kids : Fm → List Fm
  | .and a b => [a, b]
  | .or a b => [a, b]
  | .imp a b => [a, b]
  | .box a => [a]
  | .fal => []
  | .var _ => []
def Fm.sz : Fm → Nat
  | .and a b => a.sz + b.sz + 1
  | .or a b => a.sz + b.sz + 1
  | .imp a b => a.sz + b.sz + 1
  | .box a => a.sz + 1
  | .fal => 1
  | .var _ => 1
theorem Fm.sz_pos (f : Fm) : 1 ≤ f.sz := by cases f <;> exact Nat.le_add_left _ _
theorem kids_sz (f : Fm) : (f.kids.map Fm.sz).sum + 1 = f.sz := by cases f <;> simp [Fm.kids, Fm.sz]
theorem kids_ht {f g : Fm} (h : g ∈ f.kids) : g.ht < f.ht := by
  cases f with
  | and a b =>
    have q : g = a ∨ g = b := by simpa [Fm.kids] using h
    show _ < max a.ht b.ht + 1
    rcases q with rfl | rfl <;> omega
  | or a b =>
    have q : g = a ∨ g = b := by simpa [Fm.kids] using h
    show _ < max a.ht b.ht + 1
    rcases q with rfl | rfl <;> omega
  | imp a b =>
    have q : g = a ∨ g = b := by simpa [Fm.kids] using h
    show _ < max a.ht b.ht + 1
    rcases q with rfl | rfl <;> omega
  | box a =>
    have q : g = a := by simpa [Fm.kids] using h
    subst q
    exact Nat.lt_succ_self _
  | fal => cases h
  | var n => cases h
/-- one more level down -/
def down (l : List Fm) : List Fm := dist (l.flatMap Fm.kids)
def levs : Nat → List Fm → List (List Fm)
  | 0, _ => []
  | n + 1, l => if l = [] then [] else l :: levs n (down l)
theorem down_sum (l : List Fm) : ((down l).map Fm.sz).sum + l.length ≤ (l.map Fm.sz).sum := by
  have h1 := dist_sum Fm.sz (l.flatMap Fm.kids)
  have h2 : ((l.flatMap Fm.kids).map Fm.sz).sum + l.length = (l.map Fm.sz).sum := by
    induction l with
    | nil => rfl
    | cons f l ih =>
      have ih' := ih (dist_sum Fm.sz (l.flatMap Fm.kids))
      rw [List.flatMap_cons, List.map_append, List.sum_append_nat, List.map_cons, List.sum_cons, List.length_cons, ← kids_sz f]
      omega
  unfold down
  omega
theorem sum_len (l : List Fm) : l.length ≤ (l.map Fm.sz).sum := by
  induction l with
  | nil => exact Nat.le_refl _
  | cons f l ih =>
    rw [List.map_cons, List.sum_cons, List.length_cons]
    have := f.sz_pos
    omega
theorem down_mem {l : List Fm} {x : Fm} : x ∈ down l ↔ ∃ f ∈ l, x ∈ f.kids := by
  unfold down
  rw [dist_mem, List.mem_flatMap]
/-- all that occurs in a formula -/
def Fm.subs : Fm → List Fm
  | .and a b => .and a b :: (a.subs ++ b.subs)
  | .or a b => .or a b :: (a.subs ++ b.subs)
  | .imp a b => .imp a b :: (a.subs ++ b.subs)
  | .box a => .box a :: a.subs
  | .fal => [.fal]
  | .var n => [.var n]
theorem subs_kids {f x : Fm} : x ∈ f.subs ↔ x = f ∨ ∃ g ∈ f.kids, x ∈ g.subs := by
  cases f <;> simp [Fm.subs, Fm.kids]
/-- what stands on the levels: all that occurs in the first one -/
theorem levs_mem : ∀ (n : Nat) (l : List Fm), (∀ f ∈ l, f.ht ≤ n) → ∀ x, x ∈ (levs n l).flatten ↔ ∃ f ∈ l, x ∈ f.subs
  | 0, l, h, x => by
    constructor
    · intro q
      cases q
    · rintro ⟨f, hf, _⟩
      exact absurd (h f hf) (by have := f.ht_pos; omega)
  | n + 1, l, h, x => by
    rw [levs]
    by_cases e : l = []
    · rw [if_pos e, e]
      simp
    · rw [if_neg e, List.flatten_cons, List.mem_append, levs_mem n (down l) (fun f hf => by
        obtain ⟨g, hg, hk⟩ := down_mem.mp hf
        have h1 := kids_ht hk
        have h2 := h g hg
        omega) x]
      constructor
      · rintro (q | ⟨f, hf, hx⟩)
        · exact ⟨x, q, subs_kids.mpr (.inl rfl)⟩
        · obtain ⟨g, hg, hk⟩ := down_mem.mp hf
          exact ⟨g, hg, subs_kids.mpr (.inr ⟨f, hk, hx⟩)⟩
      · rintro ⟨f, hf, hx⟩
        rcases subs_kids.mp hx with rfl | ⟨g, hg, hx⟩
        · exact .inl hf
        · exact .inr ⟨g, down_mem.mpr ⟨f, hf, hg⟩, hx⟩
theorem levs_len : ∀ (n : Nat) (l : List Fm), (levs n l).length ≤ n
  | 0, _ => Nat.le_refl _
  | n + 1, l => by
    rw [levs]
    split
    · exact Nat.zero_le _
    · rw [List.length_cons]
      have := levs_len n (down l)
      omega
theorem levs_sum : ∀ (n : Nat) (l : List Fm), ((levs n l).map List.length).sum ≤ (l.map Fm.sz).sum
  | 0, _ => Nat.zero_le _
  | n + 1, l => by
    rw [levs]
    split
    · exact Nat.zero_le _
    · rw [List.map_cons, List.sum_cons]
      have h1 := levs_sum n (down l)
      have h2 := down_sum l
      omega
end E

set_option Elab.async false
set_option linter.all false
set_option maxRecDepth 100000
set_option maxHeartbeats 4000000
namespace E
open PySem PySem.Spec PyProof.Rows L2
/-! ### comprehensions of two loops -/
section
variable {K : PySem.W.Frag}
/-- the outer loop, over a list -/
theorem out_list {a : Addr} {xs : List V} {g g1 : TG} {tt tt1 : TT} {wi1 : TI} {te : TE} {vs vs1 : List Nat} {σ : L2.St} {H1 : Hp} {D : Addr} {Qd : Hp → Prop} (Pv : Nat → Hp → Prop) (start : Pv 0 (upd H1 D (.lst []))) (at_ : ∀ i H, i ≤ xs.length → Pv i H → SqL K H a xs)
    (turn : ∀ i x H, xs[i]? = some x → Pv i H → g x (wipe σ vs) H fun σ2 H2 => wipe σ2 vs = wipe σ vs ∧ tt σ2 H2 fun b H3 => if b = true then wi1 σ2 H3 fun J1 H4 => ∃ W1 : Nat → Nat → Hp → Prop, (∃ m, W1 0 m H4) ∧ ∀ j k H, W1 j k H →
      (J1.stop j H ∧ Pv (i + 1) H) ∨ (J1.go j H ∧ ∃ N1 : Hp → Prop, (∀ H', N1 H' → ∃ k', k' < k ∧ W1 (j + 1) k' H') ∧ ∀ x H', J1.yld j H x H' → g1 x (wipe σ2 vs1) H' fun σ3 H5 => wipe σ3 vs1 = wipe σ2 vs1 ∧ tt1 σ3 H5 fun b H6 =>
        if b = true then te σ3 H6 fun y H7 => ∃ acc, H7 D = some (.lst acc) ∧ acc.length < sizeLine ∧ N1 (upd H7 D (.lst (acc ++ [y]))) else N1 H6) else Pv (i + 1) H3) (fin : ∀ H, Pv xs.length H → Qd H) :
    ∃ W : Nat → Nat → Hp → Prop, (∃ m, W 0 m (upd H1 D (.lst []))) ∧ ∀ i m H, W i m H →
      ((Itl K a).stop i H ∧ Qd H) ∨ ((Itl K a).go i H ∧ ∃ Nx : Hp → Prop, (∀ H', Nx H' → ∃ m', m' < m ∧ W (i + 1) m' H') ∧ ∀ x H', (Itl K a).yld i H x H' → g x (wipe σ vs) H' fun σ2 H2 => wipe σ2 vs = wipe σ vs ∧ tt σ2 H2 fun b H3 =>
        if b = true then wi1 σ2 H3 fun J1 H4 => ∃ W1 : Nat → Nat → Hp → Prop, (∃ m, W1 0 m H4) ∧ ∀ j k H, W1 j k H →
          (J1.stop j H ∧ Nx H) ∨ (J1.go j H ∧ ∃ Nx1 : Hp → Prop, (∀ H', Nx1 H' → ∃ k', k' < k ∧ W1 (j + 1) k' H') ∧ ∀ x H', J1.yld j H x H' → g1 x (wipe σ2 vs1) H' fun σ3 H5 => wipe σ3 vs1 = wipe σ2 vs1 ∧ tt1 σ3 H5 fun b H6 =>
            if b = true then te σ3 H6 fun y H7 => ∃ acc, H7 D = some (.lst acc) ∧ acc.length < sizeLine ∧ Nx1 (upd H7 D (.lst (acc ++ [y]))) else Nx1 H6)
        else Nx H3) := by
  refine ⟨fun i m H => m + i = xs.length ∧ Pv i H, ⟨xs.length, rfl, start⟩, fun i m H h => ?_⟩
  obtain ⟨hm, p⟩ := h
  have q := at_ i H (by omega) p
  by_cases hi : i < xs.length
  · refine Or.inr ⟨⟨xs, xs[i], q, List.getElem?_eq_getElem hi⟩, Pv (i + 1), fun H' p' => ⟨m - 1, by omega, by omega, p'⟩, fun x H' y => ?_⟩
    obtain ⟨rfl, y⟩ := y
    exact turn i x _ (y xs q) p
  · refine Or.inl ⟨⟨xs, q, by omega⟩, fin H ?_⟩
    rw [show xs.length = i by omega]
    exact p
/-- the inner loop, over a tuple -/
theorem in_tup {b : Addr} {ys : List V} {g1 : TG} {tt1 : TT} {te : TE} {vs1 : List Nat} {σ2 : L2.St} {H4 : Hp} {D : Addr} {Nx : Hp → Prop} (Pv : Nat → Hp → Prop) (start : Pv 0 H4) (at_ : ∀ j H, j ≤ ys.length → Pv j H → SqT K H b ys)
    (turn : ∀ j y H, ys[j]? = some y → Pv j H → g1 y (wipe σ2 vs1) H fun σ3 H5 => wipe σ3 vs1 = wipe σ2 vs1 ∧ tt1 σ3 H5 fun b H6 => if b = true then te σ3 H6 fun y H7 => ∃ acc, H7 D = some (.lst acc) ∧ acc.length < sizeLine ∧ Pv (j + 1) (upd H7 D (.lst (acc ++ [y]))) else Pv (j + 1) H6)
    (fin : ∀ H, Pv ys.length H → Nx H) :
    ∃ W1 : Nat → Nat → Hp → Prop, (∃ m, W1 0 m H4) ∧ ∀ j k H, W1 j k H →
      ((Itt K b).stop j H ∧ Nx H) ∨ ((Itt K b).go j H ∧ ∃ Nx1 : Hp → Prop, (∀ H', Nx1 H' → ∃ k', k' < k ∧ W1 (j + 1) k' H') ∧ ∀ x H', (Itt K b).yld j H x H' → g1 x (wipe σ2 vs1) H' fun σ3 H5 => wipe σ3 vs1 = wipe σ2 vs1 ∧ tt1 σ3 H5 fun b H6 =>
        if b = true then te σ3 H6 fun y H7 => ∃ acc, H7 D = some (.lst acc) ∧ acc.length < sizeLine ∧ Nx1 (upd H7 D (.lst (acc ++ [y]))) else Nx1 H6) := by
  refine ⟨fun i m H => m + i = ys.length ∧ Pv i H, ⟨ys.length, rfl, start⟩, fun i m H h => ?_⟩
  obtain ⟨hm, p⟩ := h
  have q := at_ i H (by omega) p
  by_cases hi : i < ys.length
  · refine Or.inr ⟨⟨ys, ys[i], q, List.getElem?_eq_getElem hi⟩, Pv (i + 1), fun H' p' => ⟨m - 1, by omega, by omega, p'⟩, fun x H' y => ?_⟩
    obtain ⟨rfl, y⟩ := y
    exact turn i x _ (y ys q) p
  · refine Or.inl ⟨⟨ys, q, by omega⟩, fin H ?_⟩
    rw [show ys.length = i by omega]
    exact p
/-- the inner loop, over a list -/
theorem in_list {b : Addr} {ys : List V} {g1 : TG} {tt1 : TT} {te : TE} {vs1 : List Nat} {σ2 : L2.St} {H4 : Hp} {D : Addr} {Nx : Hp → Prop} (Pv : Nat → Hp → Prop) (start : Pv 0 H4) (at_ : ∀ j H, j ≤ ys.length → Pv j H → SqL K H b ys)
    (turn : ∀ j y H, ys[j]? = some y → Pv j H → g1 y (wipe σ2 vs1) H fun σ3 H5 => wipe σ3 vs1 = wipe σ2 vs1 ∧ tt1 σ3 H5 fun b H6 => if b = true then te σ3 H6 fun y H7 => ∃ acc, H7 D = some (.lst acc) ∧ acc.length < sizeLine ∧ Pv (j + 1) (upd H7 D (.lst (acc ++ [y]))) else Pv (j + 1) H6)
    (fin : ∀ H, Pv ys.length H → Nx H) :
    ∃ W1 : Nat → Nat → Hp → Prop, (∃ m, W1 0 m H4) ∧ ∀ j k H, W1 j k H →
      ((Itl K b).stop j H ∧ Nx H) ∨ ((Itl K b).go j H ∧ ∃ Nx1 : Hp → Prop, (∀ H', Nx1 H' → ∃ k', k' < k ∧ W1 (j + 1) k' H') ∧ ∀ x H', (Itl K b).yld j H x H' → g1 x (wipe σ2 vs1) H' fun σ3 H5 => wipe σ3 vs1 = wipe σ2 vs1 ∧ tt1 σ3 H5 fun b H6 =>
        if b = true then te σ3 H6 fun y H7 => ∃ acc, H7 D = some (.lst acc) ∧ acc.length < sizeLine ∧ Nx1 (upd H7 D (.lst (acc ++ [y]))) else Nx1 H6) := by
  refine ⟨fun i m H => m + i = ys.length ∧ Pv i H, ⟨ys.length, rfl, start⟩, fun i m H h => ?_⟩
  obtain ⟨hm, p⟩ := h
  have q := at_ i H (by omega) p
  by_cases hi : i < ys.length
  · refine Or.inr ⟨⟨ys, ys[i], q, List.getElem?_eq_getElem hi⟩, Pv (i + 1), fun H' p' => ⟨m - 1, by omega, by omega, p'⟩, fun x H' y => ?_⟩
    obtain ⟨rfl, y⟩ := y
    exact turn i x _ (y ys q) p
  · refine Or.inl ⟨⟨ys, q, by omega⟩, fin H ?_⟩
    rw [show ys.length = i by omega]
    exact p
end
/-! ### a formula's tuple -/
theorem im_inv {K : PySem.W.Frag} {H : Hp} {x : V} {f : Fm} (h : Im K H x f.d) : ∃ (a : Addr) (ys : List V), x = .ref a ∧ SqT K H a (.str f.sg :: ys) ∧ ImAll K H ys f.pts := by
  rw [Fm.d_eq] at h
  generalize f.sg = sg at h ⊢
  cases h with
  | tup h1 h2 =>
    cases h2 with
    | cons h3 h4 =>
      cases h3
      exact ⟨_, _, rfl, h1, h4⟩
def Fm.isVar : Fm → Bool
  | .var _ => true
  | _ => false
def Fm.isBox : Fm → Bool
  | .box _ => true
  | _ => false
theorem vsg : ∀ i j : Fin 6, decide (V.str (sgT i) = V.str (sgT j)) = decide (i = j) := by decide +kernel
theorem sg_var (f : Fm) : decide (V.str f.sg = V.str "var") = f.isVar := by
  show decide (V.str (sgT f.rk) = V.str (sgT 5)) = _
  rw [vsg]
  cases f <;> rfl
theorem sg_box (f : Fm) : decide (V.str f.sg = V.str "box") = f.isBox := by
  show decide (V.str (sgT f.rk) = V.str (sgT 1)) = _
  rw [vsg]
  cases f <;> rfl
theorem kids_pts {f : Fm} (h : f.isVar = false) : f.pts = f.kids.map Fm.d := by
  cases f <;> first | rfl | cases h
theorem kids_var {f : Fm} (h : f.isVar = true) : f.kids = [] ∧ ∃ n, f = .var n := by
  cases f <;> first | exact ⟨rfl, _, rfl⟩ | cases h
theorem cut_1 (xs : List V) (x : V) : cutV (x :: xs) (some 1) none = xs := by
  unfold cutV
  rw [show HT.sIx (x :: xs).length 0 (some 1) = 1 from by
    show (if (1 : Int) < 0 then ((1 : Int) + ((x :: xs).length : Int)).toNat else min (1 : Int).toNat (x :: xs).length) = 1
    rw [if_neg (by decide), List.length_cons]
    omega, HT.sIx_none]
  show List.take _ xs = xs
  exact List.take_of_length_le (by rw [List.length_cons]; omega)
theorem sIx_1 (xs : List V) (x : V) : HT.sIx (x :: xs).length 0 (some 1) = 1 := by
  show (if (1 : Int) < 0 then ((1 : Int) + ((x :: xs).length : Int)).toNat else min (1 : Int).toNat (x :: xs).length) = 1
  rw [if_neg (by decide), List.length_cons]
  omega
theorem imAll_of {K : PySem.W.Frag} {H : Hp} {xs : List V} {fs : List Fm} {x : V} {i : Nat} (hI : ImAll K H xs (fs.map Fm.d)) (h : xs[i]? = some x) : ∃ f, fs[i]? = some f ∧ Im K H x f.d := by
  obtain ⟨d, e, j⟩ := hI.get h
  rw [List.getElem?_map] at e
  cases e2 : fs[i]? with
  | none => rw [e2] at e; cases e
  | some f =>
    rw [e2] at e
    have : f.d = d := Option.some.inj e
    subst this
    exact ⟨f, rfl, j⟩
theorem take_snoc {α : Type} {l : List α} {i : Nat} {x : α} (h : l[i]? = some x) : l.take (i + 1) = l.take i ++ [x] := by
  rw [List.take_add_one, h]
  rfl
theorem fms_len {K : PySem.W.Frag} {H : Hp} {xs : List V} {fs : List Fm} (h : ImAll K H xs (fs.map Fm.d)) : xs.length = fs.length := by
  have := h.length
  rw [List.length_map] at this
  exact this
theorem imAll_append {K : PySem.W.Frag} {H : Hp} : ∀ {xs ys : List V} {ds es : List PyData}, ImAll K H xs ds → ImAll K H ys es → ImAll K H (xs ++ ys) (ds ++ es)
  | _, _, _, _, .nil, h => h
  | _, _, _, _, .cons a t, h => .cons a (imAll_append t h)
/-- a list of lists of formulas -/
inductive LvAt (K : PySem.W.Frag) (H : Hp) : List V → List (List Fm) → Prop
  | nil : LvAt K H [] []
  | cons {b : Addr} {ys : List V} {fs : List Fm} {vs : List V} {ls : List (List Fm)} : SqL K H b ys → ImAll K H ys (fs.map Fm.d) → LvAt K H vs ls → LvAt K H (.ref b :: vs) (fs :: ls)
theorem LvAt.same {K : PySem.W.Frag} {H H' : Hp} (s : Same H H') : ∀ {vs : List V} {ls : List (List Fm)}, LvAt K H vs ls → LvAt K H' vs ls
  | _, _, .nil => .nil
  | _, _, .cons h1 h2 t => .cons (s.seq h1) (h2.mono (Same.ts s)) (LvAt.same s t)
theorem LvAt.snoc {K : PySem.W.Frag} {H : Hp} {b : Addr} {ys : List V} {fs : List Fm} (h1 : SqL K H b ys) (h2 : ImAll K H ys (fs.map Fm.d)) : ∀ {vs : List V} {ls : List (List Fm)}, LvAt K H vs ls → LvAt K H (vs ++ [.ref b]) (ls ++ [fs])
  | _, _, .nil => .cons h1 h2 .nil
  | _, _, .cons a1 a2 t => .cons a1 a2 (LvAt.snoc h1 h2 t)
theorem LvAt.len {K : PySem.W.Frag} {H : Hp} : ∀ {vs : List V} {ls : List (List Fm)}, LvAt K H vs ls → vs.length = ls.length
  | _, _, .nil => rfl
  | _, _, .cons _ _ t => by rw [List.length_cons, List.length_cons, LvAt.len t]
theorem LvAt.get {K : PySem.W.Frag} {H : Hp} : ∀ {vs : List V} {ls : List (List Fm)} {i : Nat} {v : V}, LvAt K H vs ls → vs[i]? = some v → ∃ b ys fs, v = .ref b ∧ ls[i]? = some fs ∧ SqL K H b ys ∧ ImAll K H ys (fs.map Fm.d)
  | _, _, _, _, .nil, e => by simp at e
  | _, _, 0, _, .cons h1 h2 _, e => by simp at e; subst e; exact ⟨_, _, _, rfl, rfl, h1, h2⟩
  | _, _, i + 1, v, .cons _ _ t, e => by
    obtain ⟨b, ys, fs, q1, q2, q3⟩ := LvAt.get (i := i) (v := v) t (by simpa using e)
    exact ⟨b, ys, fs, q1, by simpa using q2, q3⟩
/-- the list that holds the levels grows -/
theorem LvAt.mut {K : PySem.W.Frag} {H H' : Hp} {L : Addr} {ws : List V} (k : Kp L H H') (hL : H L = some (.lst ws)) : ∀ {vs : List V} {ls : List (List Fm)}, LvAt K H vs ls → (∀ v ∈ vs, v ≠ .ref L) → LvAt K H' vs ls
  | _, _, .nil, _ => .nil
  | _, _, .cons h1 h2 t, n => .cons (k.sqL h1 fun e => n _ List.mem_cons_self (by rw [e])) (h2.mono (k.ts hL)) (LvAt.mut k hL t fun v hv => n v (List.mem_cons_of_mem _ hv))
theorem levs_nil (n : Nat) : levs n [] = [] := by cases n <;> rfl
theorem kids_subs {f g h : Fm} (h1 : g ∈ f.subs) (h2 : h ∈ g.kids) : h ∈ f.subs := by
  induction f with
  | and a b iha ihb =>
    rcases subs_kids.mp h1 with rfl | ⟨k, hk, hg⟩
    · exact subs_kids.mpr (.inr ⟨h, h2, subs_kids.mpr (.inl rfl)⟩)
    · have q : k = a ∨ k = b := by simpa [Fm.kids] using hk
      rcases q with rfl | rfl
      · exact subs_kids.mpr (.inr ⟨k, hk, iha hg⟩)
      · exact subs_kids.mpr (.inr ⟨k, hk, ihb hg⟩)
  | or a b iha ihb =>
    rcases subs_kids.mp h1 with rfl | ⟨k, hk, hg⟩
    · exact subs_kids.mpr (.inr ⟨h, h2, subs_kids.mpr (.inl rfl)⟩)
    · have q : k = a ∨ k = b := by simpa [Fm.kids] using hk
      rcases q with rfl | rfl
      · exact subs_kids.mpr (.inr ⟨k, hk, iha hg⟩)
      · exact subs_kids.mpr (.inr ⟨k, hk, ihb hg⟩)
  | imp a b iha ihb =>
    rcases subs_kids.mp h1 with rfl | ⟨k, hk, hg⟩
    · exact subs_kids.mpr (.inr ⟨h, h2, subs_kids.mpr (.inl rfl)⟩)
    · have q : k = a ∨ k = b := by simpa [Fm.kids] using hk
      rcases q with rfl | rfl
      · exact subs_kids.mpr (.inr ⟨k, hk, iha hg⟩)
      · exact subs_kids.mpr (.inr ⟨k, hk, ihb hg⟩)
  | box a iha =>
    rcases subs_kids.mp h1 with rfl | ⟨k, hk, hg⟩
    · exact subs_kids.mpr (.inr ⟨h, h2, subs_kids.mpr (.inl rfl)⟩)
    · have q : k = a := by simpa [Fm.kids] using hk
      subst q
      exact subs_kids.mpr (.inr ⟨k, hk, iha hg⟩)
  | fal =>
    have e : g = .fal := by simpa [Fm.subs] using h1
    subst e
    cases h2
  | var n =>
    have e : g = .var n := by simpa [Fm.subs] using h1
    subst e
    cases h2
theorem flat_len (l : List Fm) : (l.flatMap Fm.kids).length ≤ (l.map Fm.sz).sum := by
  induction l with
  | nil => exact Nat.le_refl _
  | cons f l ih =>
    rw [List.flatMap_cons, List.length_append, List.map_cons, List.sum_cons, ← kids_sz f]
    have := sum_len f.kids
    omega
end E

set_option Elab.async false
set_option linter.all false
set_option maxRecDepth 100000
set_option maxHeartbeats 4000000
namespace E
open PySem PySem.Spec PyProof.Rows L2 PySem.SeqAt ELt PySem.W PySem.Calls
/-! ### pairs of ints: >= and sorted -/
def zd (z : Int × Int) : PyData := .tuple [.int z.1, .int z.2]
def zlt (z u : Int × Int) : Bool := if z.1 = u.1 then decide (z.2 < u.2) else decide (z.1 < u.1)
def rGeZ (K : PySem.W.Frag) : R2 := fun x y H Q => ∃ z u : Int × Int, Im K H x (zd z) ∧ Im K H y (zd u) ∧ Q (.bl (!zlt z u)) H
theorem op_geZ {X : Cx} (hu : X.A.units + 64 < cLine) : OpR X (compareOp .GtE) (rGeZ X.K) := by
  intro pins s σ H x y v u Q I rx ry h
  obtain ⟨z, t, hz, ht, q⟩ := h
  obtain ⟨as, r1⟩ := Dp.reads I _ x v hz.dp rx
  obtain ⟨bs, r2⟩ := Dp.reads I _ y u ht.dp ry
  refine PySem.W.ge_datum (α := Int × Int) (x := z) (y := t) ⟨as, r1⟩ ⟨bs, r2⟩ (Nat.lt_of_le_of_lt (Nat.add_le_add_left (show PySem.W.Datum.depth (Int × Int) ≤ 64 by decide) _) hu) ⟨.bl _, H, I, rfl, ?_⟩
  exact q
theorem each_ofZ {X : Cx} {pins : List (Addr × Obj)} {σ : L2.St} {H : Hp} {s : Shared} (I : Inv X pins σ H s) : ∀ {xs : List V} {us : List Value} {fs : List (Int × Int)}, Vals xs us → ImAll X.K H xs (fs.map zd) →
    EachIs (fun v f => ∃ x : V, RelV x v ∧ Im X.K H x (zd f)) us fs ∧ EachIs (fun v f => ∃ as, Reads s.heap v (zd f) as) us fs
  | _, _, [], .nil, _ => ⟨.nil, .nil⟩
  | _, _, f :: fs, .cons r t, i => by
    have i' : ImAll X.K H _ (zd f :: fs.map zd) := i
    cases i' with
    | cons i1 i2 =>
      obtain ⟨a1, a2⟩ := each_ofZ I t i2
      exact ⟨.cons ⟨_, r, i1⟩ a1, .cons (Dp.reads I _ _ _ i1.dp r) a2⟩
theorem each_backZ {K : PySem.W.Frag} {H : Hp} : ∀ {us : List Value} {fs : List (Int × Int)}, EachIs (fun v f => ∃ x : V, RelV x v ∧ Im K H x (zd f)) us fs → ∃ ys : List V, Vals ys us ∧ ImAll K H ys (fs.map zd)
  | _, _, .nil => ⟨[], .nil, .nil⟩
  | _, _, .cons ⟨x, r, i⟩ t => by
    obtain ⟨ys, h1, h2⟩ := each_backZ t
    exact ⟨x :: ys, .cons r h1, .cons i h2⟩
def rSortedZ (K : PySem.W.Frag) : List V → Hp → VK → Prop := fun vs H Q => ∃ (a : Addr) (xs : List V) (zs : List (Int × Int)), vs = [V.ref a] ∧ SqL K H a xs ∧ ImAll K H xs (zs.map zd) ∧
  ∀ (p : Addr) (ys : List V) (us : List (Int × Int)), H p = none → us.Perm zs → ImAll K H ys (us.map zd) → Q (.ref p) (upd H p (.lst ys))
theorem cr_sortedZ {X : Cx} (hu64 : X.A.units + 64 < cLine) : CallR X (.builtin "sorted") (rSortedZ X.K) := by
  intro pins s σ H vs us Q I r h
  obtain ⟨a, xs, fs, rfl, hs, hi, q⟩ := h
  obtain ⟨its, rv, hl, hz⟩ := I.list hs
  obtain ⟨u, rfl, ru⟩ := vals1 r
  obtain rfl : u = Value.ref a := ru
  obtain ⟨e1, e2⟩ := each_ofZ I rv hi
  have e9 : fs.map zd = fs.map (PySem.W.Datum.toD (α := Int × Int)) := rfl
  refine PySem.W.sorted_data (enc := zd) hl.isList e1 e2 ?_ ?_ (by rw [← e1.length, ← rv.length]; exact hz) (fun b hb => ?_) fun out ho eo => ?_
  · intro d hd d' hd'
    obtain ⟨b, _, rfl⟩ := List.mem_map.mp hd
    obtain ⟨b', _, rfl⟩ := List.mem_map.mp hd'
    exact PySem.W.DatumOrd.alike (α := Int × Int) b b'
  · exact .inl fun d hd => by
      obtain ⟨b, _, rfl⟩ := List.mem_map.mp hd
      exact ⟨_, _, rfl⟩
  · show X.A.units + 2 + (zd b).depth < cLine
    have : (zd b).depth = 1 := rfl
    omega
  · obtain ⟨ys, y1, y2⟩ := each_backZ eo
    obtain ⟨n, hn⟩ := sortedAll_at s.heap its out.toArray
    have hf : s.heap.objs.size ≤ s.heap.objs.size + 1 := Nat.le_succ _
    refine ⟨.ref (s.heap.objs.size + 1), upd H _ (.lst ys), I.laid (t' := s.toks) (fun _ _ => sortedAll_old) hf ⟨?_, _, n, y1, hn⟩, rfl, q _ ys _ (I.hok.fresh hf) (List.mergeSort_perm _ _) y2⟩
    have hl2 := y1.length
    have := rv.length
    have := e1.length
    omega
end E

set_option Elab.async false
set_option linter.all false
set_option maxRecDepth 100000
set_option maxHeartbeats 4000000
namespace E
open PySem PySem.Spec PyProof.Rows L2
/-! ### own classes made within a try; sets of a list's ints; dicts that do not differ -/
section
variable {X : Cx} {CX : CXT} {k : Nat} {f C : Addr} {fd : FuncData} {ps : List Str} {sp : Sp} {Wi : L2.St → XK} {x : Str} {p pos : Pos} {e : Expr} {es : List Expr} {t : TA}
/-- C(..) whose maker may raise: the wish is told at the slots as they stand -/
def tMakeAt (C : Addr) (sp : Sp) (Wi : L2.St → XK) (t : TA) : TE := fun σ H Q => t σ H fun vs H1 => ∀ x dx, H1 x = none → H1 dx = none → dx ≠ x →
  sp (.ref x :: vs) (upd (upd H1 dx (.own x)) x (.ins C dx [])) (fun v H2 => v = .non ∧ Q (.ref x) H2) (Wi σ)
theorem pe_makeAt (M : Mk X.K C f) (F : FnOk X.prog X.w X.K X.mg X.base CX k f fd ps sp) (hr : Room (k + 1) X.A) (hg : Gl X x) (hm : X.mg x = some (.ref C)) (hb : Binds X.K fd ps []) (hx : ∀ σ, PassesAt CX X σ (Wi σ)) (ha : PA X (e :: es) t)
    (hdb : (x == ("__debug__" : Str)) = false := by decide) (he : starEach (e :: es) X.env = (false, eval e X.env) :: starEach es X.env := by rfl) (hpl : (backTo pos (starEach es X.env)).any (·.1) = false := by rfl) :
    PE X (.Call (.Name x p) (e :: es) [] pos) (tMakeAt C sp Wi t) := by
  refine ⟨fun pins s σ H Q I h => wpAny_Call_Name_kw (ld_glob I hg hm (PySem.W.callWith_K (h₀ := X.base) I.ok.mod.kin M.kp (thn (ha.run pos pins s σ H _ I h) fun us s1 ⟨vs, H1, I1, r, q⟩ => ⟨I1.kIn, ?_⟩) he hpl) hdb)⟩
  have n1 := I1.hok.fresh (Nat.le_succ s1.heap.objs.size)
  have n0 := I1.hok.fresh (Nat.le_refl s1.heap.objs.size)
  have hq := q (s1.heap.objs.size + 1) s1.heap.objs.size n1 n0 (Nat.ne_of_lt (Nat.lt_succ_self _))
  have J := Inv.made (C := C) I1
  have rv : Vals (V.ref (s1.heap.objs.size + 1) :: vs) (Value.ref (s1.heap.objs.size + 1) :: us) := .cons rfl r
  have len : (Value.ref (s1.heap.objs.size + 1) :: us).length = ps.length := rv.length.symm.trans (F.len _ _ _ _ hq)
  have bd := hb _ (Value.ref (s1.heap.objs.size + 1) :: us) J.kIn (by rw [List.append_nil]; exact len)
  rw [List.append_nil] at bd
  show wpAny _ _ (call (.ref C) us) _ _ _
  refine wpAny_call (make_map (f := f) I1.kIn M.makes M.init (beq_iff_eq.mp M.fn) (codeAny_mono (F.run _ X.stack _ _ ⟨_, []⟩ _ _ _ (Wi σ) (hr.make C us []) (J.env0.make C us []) bd rv hq) fun res s' done => ?_))
  rcases res with er | fl
  · exact hx σ pins _ _ er s' J done
  · rcases fl with _ | _ | _ | u
    case ret =>
      obtain ⟨v, H', J', r', ev, q'⟩ := J.after done
      subst ev
      exact ⟨r', ⟨V.ref (s1.heap.objs.size + 1), H', J', rfl, q'⟩⟩
    all_goals exact done.elim
/-- the reading of a suite that is entered for errors of one class alone -/
def tOnly (cls : Value) (d : Option Addr) (D : Addr) (t : L2.TS) : L2.TS := fun En σ H => (cls = .ref D ∧ d = none) ∧ t En σ H
theorem pss_only {cls : Value} {d : Option Addr} {D : Addr} {b : List Stmt} {t : L2.TS} (h : cls = .ref D → d = none → PSs X b t) : PSs X b (tOnly cls d D t) :=
  ⟨fun pins s σ H En I q => (h q.1.1 q.1.2).run pins s σ H En I q.2⟩
theorem pss_only2 {cls : Value} {d : Option Addr} {D : Addr} {b : List Stmt} {t : L2.TS} {oe : Obj} (hz : Zc cls d oe) (h : Zc (.ref D) none oe → PSs X b t) : PSs X b (tOnly cls d D t) :=
  ⟨fun pins s σ H En I q => (h (by rw [← q.1.1, ← q.1.2]; exact hz)).run pins s σ H En I q.2⟩
/-- d != e of two dicts with the same keys, whose values are equal lists of ints -/
def rNeV (K : PySem.W.Frag) : R2 := fun x y H Q => ∃ a b ks ls, x = .ref a ∧ y = .ref b ∧ H a = some (.dK ks) ∧ H b = some (.dK ls) ∧ ks.length = ls.length ∧
  (∀ p ∈ ks, ∃ (u : V) (ns : List Int), valV ls p.1 = some u ∧ Dp K H p.2 (.list (ns.map PyData.int)) ∧ Dp K H u (.list (ns.map PyData.int))) ∧ Q (.bl false) H
theorem eqv_intsL (ns : List Int) : PyData.eqv (.list (ns.map PyData.int)) (.list (ns.map PyData.int)) = true := by
  have e : PySem.Spec.same (.list (ns.map PyData.int)) (.list (ns.map PyData.int)) = true := by
    simp only [PySem.Spec.same]
    rw [PySem.W.same_ints]
    exact decide_eq_true rfl
  rw [← e]
  exact (SeqAt.same_eq_eqv _ _ (by simp only [SeqAt.noMix]; exact PySem.W.noMix_ints ns ns)).symm
theorem hits_ints {H : Hp} {s : Shared} {A : Around} {pins : List (Addr × Obj)} {σ : L2.St} (I : Inv X pins σ H s) (hu : A.in1.units + 64 < cLine) {ls : List (Key × V)} {vb : List (Key × Value)} (rb : KV ls vb) {ks : List (Key × V)} {va : List (Key × Value)} (ra : KV ks va) :
    (∀ p ∈ ks, ∃ (u : V) (ns : List Int), valV ls p.1 = some u ∧ Dp X.K H p.2 (.list (ns.map PyData.int)) ∧ Dp X.K H u (.list (ns.map PyData.int))) → PySem.W.KeqHits A.in1 s vb va true := by
  unfold KV at ra
  induction ra with
  | nil => exact fun _ => .nil
  | @cons g q gs qs hgq _ more =>
    intro all
    obtain ⟨key, val⟩ := q
    obtain ⟨e1, e2⟩ := hgq
    obtain ⟨u, ns, hv, d1, d2⟩ := all g List.mem_cons_self
    obtain ⟨y, hy, ry⟩ := (show RelO (some u) (valueAt vb g.1) by rw [← hv]; exact rb.val g.1).some_of
    have e1 : g.1 = key := e1
    rw [e1] at hy
    obtain ⟨as, r1⟩ := Dp.reads I _ _ val d1 e2
    obtain ⟨bs, r2⟩ := Dp.reads I _ _ y d2 ry
    have one := PySem.W.keq_at (A := A) r1 r2 (shaped_ints ns) (shaped_ints ns) hu
    rw [eqv_intsL] at one
    exact PySem.W.KeqHits.hit hy one (more fun p' m => all p' (List.mem_cons_of_mem _ m))
theorem op_neV (hu : X.A.units + 66 < cLine) : OpR X (compareOp .NotEq) (rNeV X.K) := by
  intro pins s σ H x y v u Q I rx ry ⟨a, b, ks, ls, ex, ey, ha, hb, hl, hp, q⟩
  subst ex ey
  cases rx; cases ry
  obtain ⟨_, ya, va, ra, da⟩ := (show ObjOk X.prog X.w H s.heap a (.dK ks) from I.hok a _ ha)
  obtain ⟨_, yb, vb, rb, db⟩ := (show ObjOk X.prog X.w H s.heap b (.dK ls) from I.hok b _ hb)
  have e : va.length = vb.length := ra.length.symm.trans (hl.trans rb.length)
  refine PySem.W.keq_ne (knd := mixKind X.prog X.w) (r := true) ya yb da db (by omega) (fun _ => hits_ints (A := X.A) I (by show X.A.units + 1 + 64 < cLine; omega) rb ra hp) ⟨.bl false, H, I, ?_, q⟩
  simp [e, L2.RelV]
end
/-- an error of the class at S is what «except S» names -/
theorem exm_self {K : PySem.W.Frag} {S : Addr} (h1 : PySem.W.subIn K (.ref S) (.type "BaseException") = some true) (h2 : PySem.W.isClsIn K S = true) (h3 : PySem.W.typeIn K (.ref S) = some (.type "type")) (h4 : PySem.W.subIn K (.ref S) (.ref S) = some true) :
    PySem.W.exmOne K (.ref S) (.ref S) = some true := by
  have h2' : (PySem.W.clsIn K S).isSome = true := h2
  unfold PySem.W.exmOne PySem.W.kitCls
  simp [h1, h2', h3, h4]
end E

set_option Elab.async false
set_option linter.all false
set_option maxRecDepth 100000
set_option maxHeartbeats 4000000
namespace E
open PySem PySem.Spec PyProof.Rows L2
/-- an empty set as the model lays it -/
abbrev so0 (w : World) : Obj := { cls := .type "set", dict := none, data := .set #[] 0 (.fresh 0 0 (!w.params.followText "set-order")) }
/-- what set(xs) leaves: the members, in a heap that keeps all -/
def SetDone (w : World) (ns : List Int) (s : Shared) (h' : Heap) (c : Nat) : Prop := SetR w h' s.heap.objs.size (fun j => decide (j ∈ ns)) c ∧ c ≤ ns.length ∧ ∀ b o, s.heap.get? b = some o → h'.get? b = some o
section
variable {P : Program} {w : World} {A : Around} {Er : Value → Shared → Prop} {s : Shared}
theorem vals_at {items : Array Value} {ns : List Int} (hit : IntsAre items.toList ns) (hn : items.size = ns.length) (i : Nat) (v : Value) (hv : items[i]? = some v) : ∃ k t, ns[i]? = some k ∧ v = .int k t := by
  have hi : i < ns.length := hn ▸ (Array.getElem?_eq_some_iff.mp hv).1
  obtain ⟨t, e⟩ := IntsAre.int_at hit i v (by rw [Array.getElem?_toList, hv])
  exact ⟨ns[i], t, List.getElem?_eq_getElem hi, by rw [e, List.getD_eq_getElem?_getD, List.getElem?_eq_getElem hi, Option.getD_some]⟩
/-- the filling of the new set from the list at l -/
theorem fill_list {l : Addr} {items : Array Value} (ns : List Int) (hh : A.handled = none) (hl : s.heap.IsList l items) (hit : IntsAre items.toList ns) (hb : ns.length + 1 < scanBound) {R : Result → Shared → Prop}
    (hR : ∀ (h' : Heap) (tk c : Nat), SetDone w ns s h' c → R (.ok (.ret .none)) { s with heap := h', toks := tk }) :
    codeAny (model P w) A.in1.in1 (.builtin "set.update.loop" ⟨[.ref s.heap.objs.size, .ref (s.heap.push (so0 w)).objs.size], []⟩) R
      { s with heap := (s.heap.push (so0 w)).push { cls := .type "list_iterator", data := .fields #[.ref l, .int 0 0] } } := by
  have hn : items.size = ns.length := by
    rw [← Array.length_toList]
    exact IntsAre.length hit
  have low : l < s.heap.objs.size := let ⟨_, e, _⟩ := hl; Heap.lt_size e
  have sz : (s.heap.push (so0 w)).objs.size = s.heap.objs.size + 1 := Heap.size_push ..
  have nl : l ≠ (s.heap.push (so0 w)).objs.size := sz ▸ Nat.ne_of_lt (Nat.lt_succ_of_lt low)
  have out : s.heap.objs.size ∉ [(s.heap.push (so0 w)).objs.size, l] := by
    rw [sz]
    simp only [List.mem_cons, List.not_mem_nil, or_false, not_or]
    exact ⟨Nat.ne_of_lt (Nat.lt_succ_self _), (Nat.ne_of_lt low).symm⟩
  have at0 : ((s.heap.push (so0 w)).push { cls := .type "list_iterator", data := .fields #[.ref l, .int 0 0] }).get? s.heap.objs.size = some (so0 w) := Heap.get?_push_of_some _ (Heap.get?_push_size _ rfl)
  have W := Walks.list (prog := P) (w := w) (A := A.in1.in1.in1) (by simp [hh]) (s.heap.push (so0 w)).objs.size l nl items
  refine set_update_ints W.toS s.heap.objs.size out ns hn hb (vals_at hit hn) items.size 0 _ (Nat.sub_zero _) (Nat.zero_le _) ⟨⟨_, Heap.get?_push_size _ rfl, rfl, rfl⟩, (hl.push _).push _⟩ ⟨0, Nat.le_refl 0, setR_new_at at0⟩ fun s' c mv hc hS => ?_
  rcases s' with ⟨h', gg, dd, tt, oo⟩
  obtain rfl : gg = s.gens := mv.gens
  obtain rfl : dd = s.drawn := mv.drawn
  obtain rfl : oo = s.os := mv.os
  refine hR h' tt c ⟨hS, hn ▸ hc, fun b o e => mv.heap b o ?_ (Heap.get?_push_of_some _ (Heap.get?_push_of_some _ e))⟩
  have lt := Heap.lt_size e
  rw [sz]
  simp only [List.mem_cons, List.not_mem_nil, or_false, not_or]
  exact ⟨Nat.ne_of_lt lt, Nat.ne_of_lt (Nat.lt_succ_of_lt lt)⟩
/-- set(xs) of a list of ints -/
theorem call_set_ints {l : Addr} {items : Array Value} (ns : List Int) {Q : Value → Shared → Prop} (hh : A.handled = none) (hl : s.heap.IsList l items) (hit : IntsAre items.toList ns) (hb : ns.length + 1 < scanBound)
    (done : ∀ (h' : Heap) (tk c : Nat), SetDone w ns s h' c → Q (.ref s.heap.objs.size) { s with heap := h', toks := tk }) : wpAny (model P w) A (call (.type "set") [.ref l]) Q Er s := by
  obtain ⟨c0, t0, mro⟩ := F.called_set.mro
  have m1 := F.called_set.made
  have m2 := F.called_set.sub
  have m3 := F.called_set.notType
  have m4 := F.called_set.canCreate
  have m5 := F.typeCall_set_1 (.ref l)
  refine wpAny_call (codeAny_of_tree (show wpAny _ _ (callAny (.type "set") _) _ _ _ from wpAny_pure ⟨Code.quiet_builtin _ (by decide +kernel), codeAny_builtin F.entry_type_call ?_⟩))
  rw [Around.under_plain (weight_type_call_type "set" [.ref l] []) rfl]
  repeat (any_goals (first | assumption | wp_step))
  refine codeAny_mono (code_set_led1 (.ref l) (E := Er) (Q₁ := fun u s1 => u = .ref s.heap.objs.size ∧ s1 = { s with heap := s.heap.push (so0 w) }) ⟨rfl, rfl⟩) fun r s1 q => ?_
  rcases r with er | fl
  · exact q
  rcases fl with _ | _ | _ | u
  case ret =>
    obtain ⟨rfl, rfl⟩ := q
    have at0 : (s.heap.push (so0 w)).get? s.heap.objs.size = some (so0 w) := Heap.get?_push_size _ rfl
    have isSet : Shared.TypeIs { s with heap := s.heap.push (so0 w) } (.ref s.heap.objs.size) "set" := ⟨_, at0, rfl⟩
    have i1 := F.called_set.init.lookup
    have i2 := F.called_set.init.bind (.ref s.heap.objs.size)
    repeat (any_goals (first | assumption | wp_step))
    refine codeAny_mono (codeAny_call_builtin (R := wants (fun r s2 => r = .none ∧ ∃ h' tk c, s2 = { s with heap := h', toks := tk } ∧ SetDone w ns s h' c) Er) F.called_set.init.plain F.entry_set_init (check_set_init_1 isSet ?_)) fun r2 s2 q2 => ?_
    · have hl1 : (s.heap.push (so0 w)).IsList l items := hl.push _
      obtain ⟨ol, e0, hcl, nl, hdl⟩ := hl1
      obtain ⟨ocls, odict, odata, oslots⟩ := ol
      obtain rfl : ocls = _ := hcl
      obtain rfl : odata = _ := hdl
      have z1 := F.sub_list_set
      have z2 := F.sub_list_frozenset
      have z3 : (Value.type "list" == Value.type "dict") = false := by decide
      unfold Builtin.«set.__init__» noKeywords Builtin.Frozenset.updateFrom
      generalize hPI : pyIter = PI
      wp_walk
      subst hPI
      refine wpAny_pyIter_list (hl.push _) (wpAny_bind (wpAny_runValue (fill_list ns hh hl hit hb fun h' tk c d => ?_)))
      refine wpAny_pure (show wpAny _ _ (ret Value.none) _ _ _ from wpAny_pure ⟨rfl, h', tk, c, rfl, d⟩)
    · rcases r2 with er | fl2
      · exact q2
      rcases fl2 with _ | _ | _ | u2
      case ret =>
        obtain ⟨rfl, h', tk, c, rfl, d⟩ := q2
        repeat (any_goals (first | assumption | wp_step))
        exact done _ _ _ d
      all_goals exact q2.elim
  all_goals exact q.elim
end
section
variable {X : Cx}
def rSetLI (w : World) (K : PySem.W.Frag) : List V → Hp → VK → Prop := fun xs H Q => ∃ (l : Addr) (ns : List Int), xs = [V.ref l] ∧ SqL K H l (ns.map V.int) ∧ ns.length ≤ 1000 ∧
  ∀ (a : Addr) (c : Nat), H a = none → c ≤ ns.length → Q (.ref a) (upd H a (SetO w a (fun j => decide (j ∈ ns)) c))
theorem cr_setLI (hc : X.calm = true) : CallR X (.type "set") (rSetLI X.w X.K) := by
  intro pins s σ H xs us Q I r ⟨l, ns, ex, hl, hn, q⟩
  subst ex
  rw [Vals.ref1 r]
  obtain ⟨its, rv, pl, _⟩ := I.list hl
  refine call_set_ints ns (I.ok.hd hc) pl.isList (by simpa using rv.ints) (by unfold scanBound; omega) fun h' tk c d => ?_
  exact ⟨.ref _, _, I.laid (t' := tk) d.2.2 (Nat.le_refl _) (setO_new d.1), rfl, q _ c (I.hok.fresh (Nat.le_refl _)) d.2.1⟩
theorem cr_setLI2 (hc : X.calm = true) (_ : X.A.units + 64 < cLine) : CallR X (.type "set") (rSetLI X.w X.K) := cr_setLI hc
end
end E

set_option Elab.async false
set_option linter.all false
set_option maxRecDepth 100000
set_option maxHeartbeats 4000000
namespace E
open PySem PySem.Spec PyProof.Rows L2 LamX NdefX
/-! ### lambdas with parameters that capture nothing -/
/-- a lambda's words, its code object -/
structure LF where
  qual : Str
  params : Arguments
  body : Expr
  scope : Scope
  c : Addr
abbrev LF.nf (F : LF) : NF := ⟨"<lambda>", F.qual, F.params, [], F.scope, [], F.c⟩
/-- the object at f is the lambda F -/
def LamO (f : Addr) (F : LF) : HO := .ext fun h => ∃ (pm ctv : Value), h.get? f = some (PySem.W.kla_obj "<lambda>" F.qual F.params F.body F.scope [] pm F.c ctv)
theorem lamO_at {P : Program} {w : World} {H : Hp} {h : Heap} {f : Addr} {F : LF} (hok : HOk P w H h) (e : H f = some (LamO f F)) : ∃ (pm ctv : Value), h.get? f = some (PySem.W.kla_obj "<lambda>" F.qual F.params F.body F.scope [] pm F.c ctv) := by
  obtain ⟨z, _, _⟩ := hok f _ e
  exact z
theorem inv_lam {X : Cx} {pins : List (Addr × Obj)} {σ : L2.St} {H : Hp} {s : Shared} {F : LF} {o : Obj} {t' : Nat} {pm ctv : Value} (I : Inv X pins σ H s) (ho : o = PySem.W.kla_obj "<lambda>" F.qual F.params F.body F.scope [] pm F.c ctv) :
    Inv X pins σ (upd H s.heap.objs.size (LamO s.heap.objs.size F)) { s with heap := s.heap.push o, toks := t' } := by
  subst ho
  refine I.laid (a := s.heap.objs.size) (fun b u e => Heap.get?_push_of_some _ e) (Nat.le_refl _) ?_
  have e : (s.heap.push (PySem.W.kla_obj "<lambda>" F.qual F.params F.body F.scope [] pm F.c ctv)).get? s.heap.objs.size = some (PySem.W.kla_obj "<lambda>" F.qual F.params F.body F.scope [] pm F.c ctv) := Heap.get?_push_size _ rfl
  exact ⟨⟨pm, ctv, e⟩, ⟨_, e⟩, fun h1 h2 ⟨p, t, z⟩ st => ⟨p, t, st _ z⟩⟩
/-- the reading of «lambda ..: ..»: the new function -/
def tLam (T : List NTab) (mk : Addr → LF) : TE := fun σ H Q => TabsN T H ∧ ∀ (f c' : Addr) (H1 : Hp), ExtN H H1 → TabsN T H1 → H f = none → H1 f = some (LamO f (mk c')) → H1 c' = some (CodeO c' (mk c').qual) → Q (.ref f) H1
theorem clo_none {cells : List (Str × Addr)} {names : List (Str × NameKind)} (h : (names.all fun y => !decide (y.2 = .free)) = true) : cloFrom cells names [] = [] := by
  have key : ∀ (l : List (Str × NameKind)), (∀ y ∈ l, y.2 ≠ .free) → ∀ acc, cloFrom cells l acc = acc := by
    intro l
    induction l with
    | nil => exact fun _ _ => rfl
    | cons y l ih =>
      intro hy acc
      have h1 := hy y List.mem_cons_self
      have h2 := ih (fun z hz => hy z (List.mem_cons_of_mem _ hz))
      obtain ⟨n, k⟩ := y
      cases k <;> first | exact absurd rfl h1 | exact h2 acc
  refine key names (fun y hy e => ?_) []
  have := List.all_eq_true.mp h y hy
  rw [e] at this
  exact absurd this (by decide)
/-- one more code object in the table at P: the tables go on telling what they told -/
theorem tabs_put {T : List NTab} {nm : Nat → Nat → Str} {H H' : Hp} {P d : Addr} {rows : Array Value} {at_ : Pos} {q : Str} (tT : TabsN T H) (mem : (P, nm) ∈ T) (one : ∀ p ∈ T, p.1 = P → p.2 = nm) (tP : H P = some (.tbl rows)) (eq : nm at_.line at_.col = q)
    (keep : ∀ b o, H b = some o → b ≠ P → H' b = some o) (newP : H' P = some (.tbl (rows ++ #[rawInt at_.line, rawInt at_.col, .ref d]))) (newC : H' d = some (CodeO d q)) : TabsN T H' := by
  rintro ⟨P', nm'⟩ hp
  by_cases here : P' = P
  · have same := one _ hp here
    subst here
    obtain rfl : nm' = nm := same
    obtain ⟨rows', r1, r2, r3⟩ := tT _ mem
    rw [tP] at r1
    cases r1
    have split : (rows ++ #[rawInt at_.line, rawInt at_.col, .ref d]).toList = rows.toList ++ [rawInt at_.line, rawInt at_.col, .ref d] := Array.toList_append ..
    refine ⟨_, newP, split ▸ PySem.TriplesOk_snoc _ _ _ _ r2, fun at2 u hu => ?_⟩
    rcases among_app2 _ r2 (split ▸ hu) with old | ⟨new, l1, l2⟩
    · obtain ⟨x, x1, x2⟩ := r3 at2 u old
      exact ⟨x, x1, keep _ _ x2 fun z => by rw [z, tP] at x2; cases x2⟩
    · exact ⟨d, new, by rw [← l1, ← l2]; show H' d = some (CodeO d (nm' at_.line at_.col)); rw [eq]; exact newC⟩
  · obtain ⟨rows', r1, r2, r3⟩ := tT _ hp
    refine ⟨rows', keep _ _ r1 here, r2, fun at2 u hu => ?_⟩
    obtain ⟨x, x1, x2⟩ := r3 at2 u hu
    exact ⟨x, x1, keep _ _ x2 fun z => by rw [z, tP] at x2; cases x2⟩
section
variable {X : Cx}
/-- what is new above all that is known changes nothing of it -/
theorem above {H H' : Hp} {a : Addr} {o : HO} (n : H' a = none) (k : ∀ b u, H b = some u → H' b = some u) : ∀ b u, H b = some u → upd H' a o b = some u := fun b u e => (upd_ne (ne_of_none (k b u e) n)).trans (k b u e)
theorem pe_lam {T : List NTab} {nm : Nat → Nat → Str} {c P : Addr} {params : Arguments} {body : Expr} {scope : Scope} {pos : Pos} (TB : TabB X.base X.mg c P) (code : X.env.code = .ref c) (mem : (P, nm) ∈ T) (name : nm pos.line pos.col = X.env.qual ++ "<lambda>") (one : ∀ p ∈ T, p.1 = P → p.2 = nm)
    (nofree : (scope.names.all fun y => !decide (y.2 = .free)) = true) (dflt : defaultsOf params X.env = ([], [])) :
    PE X (.Lambda params body scope pos) (tLam T fun c' => ⟨X.env.qual ++ "<lambda>", params, body, scope, c'⟩) := by
  refine ⟨fun pins s σ H Q I ⟨tT, q⟩ => PySem.W.kla_eval dflt ?_⟩
  have shut : cloFrom X.env.cells scope.names [] = [] := clo_none nofree
  have caught : ∀ y ∈ scope.names, y.2 = .free → ∃ a, X.env.cells.lookup y.1 = some a := fun y hy e => absurd (List.all_eq_true.mp nofree y hy) (by rw [e]; decide)
  obtain ⟨rows, tP, tok, told⟩ := (show TabN H P nm from tT _ mem)
  have ask : ∀ (d : Addr) (h' : Heap) (tk : Nat) (ctv : Value) (H1 : Hp), Inv X pins σ H1 { s with heap := h', toks := tk } → ExtN H H1 → TabsN T H1 → (∀ b, H1 b = none → H b = none) → H1 d = some (CodeO d (X.env.qual ++ "<lambda>")) →
      EP X pins σ Q (.ref h'.objs.size) { s with heap := h'.push (PySem.W.kla_obj "<lambda>" (X.env.qual ++ "<lambda>") params body scope [] ((X.mg "__name__").getD .none) d ctv), toks := tk } := fun d h' tk ctv H1 I1 e1 t1 back hd => by
    have free : H1 h'.objs.size = none := I1.hok.fresh (Nat.le_refl _)
    have up := above (o := LamO h'.objs.size ⟨X.env.qual ++ "<lambda>", params, body, scope, d⟩) free fun _ _ e => e
    exact ⟨.ref h'.objs.size, _, inv_lam (F := ⟨X.env.qual ++ "<lambda>", params, body, scope, d⟩) (t' := tk) (ctv := ctv) I1 rfl, rfl, q _ d _ (e1.trans (ExtN.of up)) (t1.ext up) (back _ free) upd_same (up _ _ hd)⟩
  have glob := I.mod.glob.keeps I.bk
  have atP : s.heap.get? P = some { cls := .none, data := .fields rows } := I.hok P _ tP
  have bt : s.heap.BuiltinsAt X.mg P := TB.bm.keeps I.bk
  cases found : codeAmong pos rows.toList with
  | some u =>
    obtain ⟨d, rfl, hd⟩ := told pos u found
    refine PySem.W.kla_makeFunctionHit (mg := X.mg) (c := c) (P := P) (ps := rows) (closure_ok caught) I.ok.glob glob code (TB.code.keeps I.bk) atP tok found bt fun ctv h' tk more _ => ?_
    rw [shut]
    exact ask d h' tk ctv H (I.kept more) (ExtN.refl H) tT (fun _ e => e) (name ▸ hd)
  | none =>
    refine PySem.W.kla_makeFunction (mg := X.mg) (c := c) (P := P) (ps := rows) (closure_ok caught) I.ok.glob glob code (TB.code.keeps I.bk) atP tok found TB.gP bt fun d ctv h' tk more ge lt rec_ tab => ?_
    obtain ⟨d', oc, vs, t, same, r⟩ := rec_
    obtain rfl : d = d' := Value.ref.inj same
    rw [shut]
    have nd : H d = none := I.hok.fresh ge
    have dP : d ≠ P := (ne_of_none tP nd).symm
    have keep : ∀ b o, H b = some o → b ≠ P → upd (upd H P (.tbl (rows ++ #[rawInt pos.line, rawInt pos.col, .ref d]))) d (CodeO d (X.env.qual ++ "<lambda>")) b = some o := fun b o e n => by
      rw [upd_ne (ne_of_none e nd), upd_ne n, e]
    refine ask d h' tk ctv _ (inv_table I tP more tab ge ⟨oc, vs, t, r⟩) (fun b o e n => keep b o e fun z => n rows (Option.some.inj (e.symm.trans (z ▸ tP)))) (tabs_put tT mem one tP name keep (by rw [upd_ne dP.symm, upd_same]) upd_same) (fun b e => ?_) upd_same
    cases eb : H b with
    | none => rfl
    | some o =>
      by_cases z : b = P
      · subst z
        rw [upd_ne dP.symm, upd_same] at e
        cases e
      · rw [keep b o eb z] at e
        cases e
end
/-- the promise of the lambda F at f -/
structure LOk (P : Program) (w : World) (K : PySem.W.Frag) (mg : Str → Option Value) (base : Heap) (CX : CXT) (k : Nat) (f : Addr) (F : LF) (ps : List Str) (sp : Sp) : Prop where
  len : ∀ vs H Q E, sp vs H Q E → vs.length = ps.length
  run : ∀ (A : Around) (outer : List Env) (s : Shared) (H : Hp) (us : List Value) (vs : List V) (Q : VK) (E : XK), Room k A → Env0 P w K mg base A outer s H → H f = some (LamO f F) → H F.c = some (CodeO F.c F.qual) →
    Vals vs us → sp vs H Q E → codeAny (model P w) A (.call (.ref f) ⟨us, []⟩) (CR CX outer P w H s Q E) s
section
variable {CX : CXT} {P : Program} {w : World} {K : PySem.W.Frag} {mg : Str → Option Value} {base : Heap} {N ps : List Str} {F : LF} {f : Addr} {k j : Nat} {sp : Sp}
theorem cells_nil (h : Heap) (H : Hp) : CellsAt [] [] [] h H := ⟨rfl, fun y c z => (nomatch z), fun x y c z => (nomatch z), fun i y z => (nomatch z)⟩
theorem LOk.mono (o : LOk P w K mg base CX j f F ps sp) (h : j ≤ k) : LOk P w K mg base CX k f F ps sp := ⟨o.len, fun A outer s H us vs Q E hr => o.run A outer s H us vs Q E (hr.mono h)⟩
/-- THE RULE: a lambda by its body -/
theorem lok_of (S : NScope N ps [] F.scope) (hb : ∀ (pm ctv : Value) (us : List Value), us.length = ps.length → bindArgs (PySem.W.kla_fn "<lambda>" F.qual F.params F.body F.scope [] pm (.ref F.c) ctv) ⟨us, []⟩ = pure (ps.zip us)) (len : ∀ vs H Q E, sp vs H Q E → vs.length = ps.length)
    (hbody : ∀ (A : Around) (outer : List Env) (s : Shared) (H : Hp) (vs : List V) (Q : VK) (E : XK), Room k (A.deeper (envF F.nf f s.heap.objs.size)) → sp vs H Q E →
      ∃ t, PE (ncx CX P w K mg base N F.nf f A outer s H E) F.body t ∧ t (startF N vs []) H Q) :
    LOk P w K mg base CX (k + 1) f F ps sp := by
  refine ⟨len, fun A outer s H us vs Q E room e0 at_ code r q => ?_⟩
  obtain ⟨pm, ctv, ho⟩ := lamO_at e0.hok at_
  have many : us.length = ps.length := r.length ▸ len _ _ _ _ q
  refine PySem.W.kla_callFunE room.depth ho rfl S.co S.gen rfl (codeO_at e0.hok code) ?_
  rw [hb pm ctv us many]
  have free : s.heap.NoLimit := e0.mod.nolimit.keeps fun b o z => (e0.bs b o z).1
  refine wpAny_pure (wpAny_newFunctionEnv S.nocell (fun y hy => S.par y.1 (List.of_mem_zip hy).1) (fun h₁ own grown => ⟨free.fresh _ grown, PySem.W.kla_codeExpr ?_⟩) S.kind)
  obtain ⟨t, term, reading⟩ := hbody A outer s H vs Q E (room.deeper _) q
  have I := inv_startN (E := E) (CX := CX) (f := f) (F := F.nf) (N := N) (tk := s.toks + (ps.zip us).length) S room.hd e0 (len _ _ _ _ q) r (cells_nil _ _) own fun b o z => grown.extBut b o (Nat.ne_of_lt (Heap.lt_size z)) (Heap.get?_push_of_some _ z)
  exact wpAny_mono (term.run [] _ _ H Q I reading) (fun v s' ⟨u, H', J, rv, done⟩ => ⟨u, H', J.os, J.bare, J.base, J.hok, rv, done⟩) fun e s' z => z
end
/-! ### a call of a parameter that holds a def of the top, or a def or lambda made at run time that captures nothing -/
/-- the def at f, made or of the top, keeps the promise sp -/
inductive Cal (P : Program) (w : World) (K : PySem.W.Frag) (mg : Str → Option Value) (base : Heap) (k : Nat) (f : Addr) (sp : Sp) (H : Hp) : Prop
  | top {fd : FuncData} {ps : List Str} (o : FnOk P w K mg base CX0 k f fd ps sp) (kp : PySem.W.keepIn K (.ref f) = true) (b : L2.Binds K fd ps [])
  | made {F : NF} {ps : List Str} (o : NOk P w K mg base CX0 k f F ps [] (fun _ => sp)) (cl : F.cl = []) (h : H f = some (FnO f F)) (hc : H F.c = some (CodeO F.c F.qual))
  | lam {F : LF} {ps : List Str} (o : LOk P w K mg base CX0 k f F ps sp) (h : H f = some (LamO f F)) (hc : H F.c = some (CodeO F.c F.qual))
theorem Cal.same {P : Program} {w : World} {K : PySem.W.Frag} {mg : Str → Option Value} {base : Heap} {k : Nat} {f : Addr} {sp : Sp} {H H' : Hp} (c : Cal P w K mg base k f sp H) (s : ∀ b F, H b = some (.ext F) → H' b = some (.ext F)) : Cal P w K mg base k f sp H' := by
  cases c with
  | top o kp b => exact .top o kp b
  | made o cl h hc => exact .made o cl (s _ _ h) (s _ _ hc)
  | lam o h hc => exact .lam o (s _ _ h) (s _ _ hc)
theorem cells_none {cl : List (Str × Addr)} (e : cl = []) (h : Heap) (H : Hp) : CellsAt cl [] [] h H := by
  subst e
  exact ⟨rfl, fun y c z => (nomatch z), fun x y c z => (nomatch z), fun i y z => (nomatch z)⟩
def tCallV (P : Program) (w : World) (K : PySem.W.Frag) (mg : Str → Option Value) (base : Heap) (k i : Nat) (t : TA) : TE := fun σ H Q => ∃ (f : Addr) (sp : Sp), σ[i]? = some (some (.ref f)) ∧ Cal P w K mg base k f sp H ∧
  t σ H fun vs H1 => Cal P w K mg base k f sp H1 ∧ (∀ b F, H b = some (.ext F) → H1 b = some (.ext F)) ∧ sp vs H1 Q (fun _ _ _ => False)
section
variable {X : Cx} {i j k : Nat} {x : Str} {p pos : Pos} {e : Expr} {es : List Expr} {t : TA}
theorem pe_callV (hr : Room j X.A) (hk : k ≤ j) (hN : X.N[i]? = some x) (hv : Vis X.env.scope x) (ha : PA X (e :: es) t)
    (hdb : (x == ("__debug__" : Str)) = false := by decide) (hcd : (x == ("__classdict__" : Str)) = false := by decide)
    (he : starEach (e :: es) X.env = (false, eval e X.env) :: starEach es X.env := by rfl) (hpl : (backTo pos (starEach es X.env)).any (·.1) = false := by rfl) :
    PE X (.Call (.Name x p) (e :: es) [] pos) (tCallV X.prog X.w X.K X.mg X.base k i t) := by
  refine ⟨fun pins s σ H Q I ⟨f, sp, hs, hc, ht⟩ => ?_⟩
  refine wpAny_Call_Name_kw (thn ((pe_var (pos := p) hN hv hdb hcd).run pins s σ H (fun v H1 => v = .ref f ∧ H1 = H) I ⟨.ref f, hs, rfl, rfl⟩) fun u s1 ⟨v, H1, I1, r1, q1, q2⟩ => ?_)
  subst q1 q2
  obtain rfl : u = Value.ref f := r1
  cases hc with
  | @top fd ps o kp b =>
    refine PySem.W.callWith_K (h₀ := X.base) I.ok.mod.kin kp (thn (ha.run pos pins s1 σ _ _ I1 ht) fun us s2 ⟨vs, H2, I2, r, _, _, q⟩ => ⟨I2.kIn, ?_⟩) he hpl
    refine run_fn (dvs := []) (E := fun _ _ _ => False) o (hr.mono hk) b .nil pass0 I2 r ?_
    rw [List.append_nil]
    exact q
  | @made F ps o cl h hcode =>
    refine PySem.W.callWith_F (first := []) (fnAt_of I1 h) (thn (ha.run pos pins s1 σ _ _ I1 ht) fun us s2 ⟨vs, H2, I2, r, _, keep, q⟩ => ⟨fnAt_of I2 (keep _ _ h), ?_⟩) he hpl
    show wpAny _ _ (call (.ref f) us) _ _ _
    exact run_n (mk := fun _ => F) (js := []) (fr := []) (c' := f) (sp := fun _ _ _ => sp) o hr hk (E := fun _ _ _ => False) pass0 I2 (keep _ _ h) (keep _ _ hcode) (cells_none cl _ _) r q
  | @lam F ps o h hcode =>
    have fa : ∀ {s' : Shared} {H' : Hp}, Inv X pins σ H' s' → H' f = some (LamO f F) → PySem.W.FnAt f s'.heap := fun I' h' => by
      obtain ⟨pm, ctv, ho⟩ := lamO_at I'.hok h'
      exact ⟨_, _, _, _, ho⟩
    refine PySem.W.callWith_F (first := []) (fa I1 h) (thn (ha.run pos pins s1 σ _ _ I1 ht) fun us s2 ⟨vs, H2, I2, r, _, keep, q⟩ => ⟨fa I2 (keep _ _ h), ?_⟩) he hpl
    show wpAny _ _ (call (.ref f) us) _ _ _
    refine wpAny_call (codeAny_mono (o.run X.A X.stack s2 H2 us vs _ _ (hr.mono hk) I2.env0 (keep _ _ h) (keep _ _ hcode) r q) fun r s' hq => ?_)
    cases r with
    | error e => exact (show False from hq).elim
    | ok fl =>
      cases fl with
      | ret u => exact I2.after hq
      | next => exact False.elim hq
      | brk => exact False.elim hq
      | cont => exact False.elim hq
end
end E

set_option Elab.async false
set_option linter.all false
set_option maxRecDepth 100000
set_option maxHeartbeats 4000000
namespace E
open PySem PySem.Spec PyProof.Rows L2
/-- d != e of two dicts with the same keys, whose values are equal data -/
def rNeR (K : PySem.W.Frag) : R2 := fun x y H Q => ∃ a b ks ls, x = .ref a ∧ y = .ref b ∧ Rd H a (.dK ks) ∧ Rd H b (.dK ls) ∧ ks.length = ls.length ∧
  (∀ p ∈ ks, ∃ (u : V) (d : PyData), valV ls p.1 = some u ∧ Dp K H p.2 d ∧ Dp K H u d ∧ SeqAt.shaped d = true) ∧ Q (.bl false) H
section
variable {X : Cx}
theorem hits_R {H : Hp} {s : Shared} {A : Around} {pins : List (Addr × Obj)} {σ : L2.St} (I : Inv X pins σ H s) (hu : A.in1.units + 64 < cLine) {ls : List (Key × V)} {vb : List (Key × Value)} (rb : KV ls vb) {ks : List (Key × V)} {va : List (Key × Value)} (ra : KV ks va) :
    (∀ p ∈ ks, ∃ (u : V) (d : PyData), valV ls p.1 = some u ∧ Dp X.K H p.2 d ∧ Dp X.K H u d ∧ SeqAt.shaped d = true) → PySem.W.KeqHits A.in1 s vb va true := by
  unfold KV at ra
  induction ra with
  | nil => exact fun _ => .nil
  | @cons g q gs qs hgq _ more =>
    intro all
    obtain ⟨key, val⟩ := q
    obtain ⟨e1, e2⟩ := hgq
    obtain ⟨u, d, hv, d1, d2, sh⟩ := all g List.mem_cons_self
    obtain ⟨y, hy, ry⟩ := (show RelO (some u) (valueAt vb g.1) by rw [← hv]; exact rb.val g.1).some_of
    have e1 : g.1 = key := e1
    rw [e1] at hy
    obtain ⟨as, r1⟩ := Dp.reads I _ _ val d1 e2
    obtain ⟨bs, r2⟩ := Dp.reads I _ _ y d2 ry
    have one := PySem.W.keq_at (A := A) r1 r2 sh sh hu
    rw [eqv_self sh] at one
    exact PySem.W.KeqHits.hit hy one (more fun p' m => all p' (List.mem_cons_of_mem _ m))
theorem op_neR (hu : X.A.units + 66 < cLine) : OpR X (compareOp .NotEq) (rNeR X.K) := by
  intro pins s σ H x y v u Q I rx ry ⟨a, b, ks, ls, ex, ey, ha, hb, hl, hp, q⟩
  subst ex ey
  cases rx; cases ry
  obtain ⟨_, ya, va, ra, da⟩ := (show ObjOk X.prog X.w H s.heap a (.dK ks) from ha.ok I.hok)
  obtain ⟨_, yb, vb, rb, db⟩ := (show ObjOk X.prog X.w H s.heap b (.dK ls) from hb.ok I.hok)
  have e : va.length = vb.length := ra.length.symm.trans (hl.trans rb.length)
  refine PySem.W.keq_ne (knd := mixKind X.prog X.w) (r := true) ya yb da db (by omega) (fun _ => hits_R (A := X.A) I (by show X.A.units + 1 + 64 < cLine; omega) rb ra hp) ⟨.bl false, H, I, ?_, q⟩
  simp [e, L2.RelV]
end
theorem fm_shapedR {N : List Str} (hN : ∀ n ∈ N, PyData.strOk n = true) {f : Fm} (ho : f.over N = true) (hh : f.ht ≤ 60) : SeqAt.shaped f.d = true := by
  unfold SeqAt.shaped
  rw [Fm.lay hN f ho, Fm.depth]
  exact decide_eq_true (by omega)
end E

set_option Elab.async false
set_option linter.all false
set_option maxRecDepth 100000
namespace E
open PySem PySem.Spec PyProof.Rows L2
/-! ### the numbers of formulas, by their sign and the numbers of their parts -/
/-- what a formula is looked up by, N the numbers of its parts -/
def keyF (N : Fm → Nat) (f : Fm) : List Key := match f with
  | .var y => [.inr "var", .inr y]
  | g => .inr g.sg :: g.kids.map fun c => (.inl ((N c : Nat) : Int) : Key)
theorem keyF_var (N : Fm → Nat) (y : Str) : keyF N (.var y) = [.inr "var", .inr y] := rfl
theorem keyF_not {N : Fm → Nat} {f : Fm} (h : f.isVar = false) : keyF N f = .inr f.sg :: f.kids.map fun c => (.inl ((N c : Nat) : Int) : Key) := by
  cases f <;> first | rfl | cases h
theorem keyF_congr {N M : Fm → Nat} {f : Fm} (h : ∀ c ∈ f.kids, N c = M c) : keyF N f = keyF M f := by
  by_cases hv : f.isVar = true
  · obtain ⟨_, n, rfl⟩ := kids_var hv
    rfl
  · have hv := Bool.eq_false_iff.mpr hv
    rw [keyF_not hv, keyF_not hv]
    exact congrArg _ (List.map_congr_left fun c hc => by rw [h c hc])
/-- two formulas of one key, their parts numbered apart, are one -/
theorem keyF_inj {N : Fm → Nat} {gs : List Fm} (inj : ∀ a ∈ gs, ∀ b ∈ gs, N a = N b → a = b) {f g : Fm} (hf : ∀ c ∈ f.kids, c ∈ gs) (hg : ∀ c ∈ g.kids, c ∈ gs) (e : keyF N f = keyF N g) : f = g := by
  have i2 : ∀ {a b : Fm}, a ∈ gs → b ∈ gs → (Sum.inl ((N a : Nat) : Int) : Key) = Sum.inl ((N b : Nat) : Int) → a = b := fun ha hb q => inj _ ha _ hb (Int.ofNat.inj (Sum.inl.inj q))
  have sgs : ∀ {a b : Str} {r s : List Key}, (Sum.inr a : Key) :: r = Sum.inr b :: s → a = b := fun q => Sum.inr.inj (List.cons.inj q).1
  cases f <;> cases g
  case var.var a b => 
    have := (List.cons.inj (List.cons.inj e).2).1
    rw [Sum.inr.inj this]
  case fal.fal => rfl
  case and.and a b c d =>
    obtain ⟨h1, h2⟩ := List.cons.inj (List.cons.inj e).2
    rw [i2 (hf _ (by simp [Fm.kids])) (hg _ (by simp [Fm.kids])) h1, i2 (hf _ (by simp [Fm.kids])) (hg _ (by simp [Fm.kids])) (List.cons.inj h2).1]
  case or.or a b c d =>
    obtain ⟨h1, h2⟩ := List.cons.inj (List.cons.inj e).2
    rw [i2 (hf _ (by simp [Fm.kids])) (hg _ (by simp [Fm.kids])) h1, i2 (hf _ (by simp [Fm.kids])) (hg _ (by simp [Fm.kids])) (List.cons.inj h2).1]
  case imp.imp a b c d =>
    obtain ⟨h1, h2⟩ := List.cons.inj (List.cons.inj e).2
    rw [i2 (hf _ (by simp [Fm.kids])) (hg _ (by simp [Fm.kids])) h1, i2 (hf _ (by simp [Fm.kids])) (hg _ (by simp [Fm.kids])) (List.cons.inj h2).1]
  case box.box a b =>
    obtain ⟨h1, _⟩ := List.cons.inj (List.cons.inj e).2
    rw [i2 (hf _ (by simp [Fm.kids])) (hg _ (by simp [Fm.kids])) h1]
  all_goals exact absurd (sgs e) (by first | decide +kernel | (simp only [Fm.sg, Fm.rk]; decide +kernel))
/-- the table of numbers -/
def tabF (gs : List Fm) : List (List Key × V) := gs.map fun g => (keyF (fun c => gs.idxOf c) g, V.int ((gs.idxOf g : Nat) : Int))
theorem idx_inj {gs : List Fm} : ∀ a ∈ gs, ∀ b ∈ gs, gs.idxOf a = gs.idxOf b → a = b := fun a ha b hb e => by
  have h1 := List.getElem_idxOf (List.idxOf_lt_length_of_mem ha)
  have h2 := List.getElem_idxOf (List.idxOf_lt_length_of_mem hb)
  rw [← h1, ← h2]
  congr 1
theorem tab_get {gs : List Fm} (cl : ∀ g ∈ gs, ∀ c ∈ g.kids, c ∈ gs) {b : Fm} (hb : ∀ c ∈ b.kids, c ∈ gs) :
    valV (tabF gs) (keyF (fun c => gs.idxOf c) b) = if b ∈ gs then some (V.int ((gs.idxOf b : Nat) : Int)) else none := by
  have key : ∀ l : List Fm, (∀ g ∈ l, g ∈ gs) → valV (l.map fun g => (keyF (fun c => gs.idxOf c) g, V.int ((gs.idxOf g : Nat) : Int))) (keyF (fun c => gs.idxOf c) b) = if b ∈ l then some (V.int ((gs.idxOf b : Nat) : Int)) else none := by
    intro l
    induction l with
    | nil => exact fun _ => rfl
    | cons g l ih =>
      intro h
      rw [List.map_cons]
      by_cases e : g = b
      · subst e
        rw [valV_pos rfl, if_pos List.mem_cons_self]
      · have ne : ¬ keyF (fun c => gs.idxOf c) g = keyF (fun c => gs.idxOf c) b := fun q => e (keyF_inj idx_inj (cl g (h g List.mem_cons_self)) hb q)
        rw [valV_neg ne, ih fun x hx => h x (List.mem_cons_of_mem _ hx)]
        by_cases m : b ∈ l
        · rw [if_pos m, if_pos (List.mem_cons_of_mem _ m)]
        · rw [if_neg m, if_neg fun q => (List.mem_cons.mp q).elim (fun z => e z.symm) m]
  exact key gs fun g hg => hg
theorem tab_put {gs : List Fm} (cl : ∀ g ∈ gs, ∀ c ∈ g.kids, c ∈ gs) {b : Fm} (hb : ∀ c ∈ b.kids, c ∈ gs) (nb : b ∉ gs) :
    putK (tabF gs) (keyF (fun c => gs.idxOf c) b) (V.int ((gs.length : Nat) : Int)) = tabF (gs ++ [b]) := by
  rw [putK_new _ (by rw [tab_get cl hb, if_neg nb])]
  unfold tabF
  have old : ∀ c ∈ gs, (gs ++ [b]).idxOf c = gs.idxOf c := fun c hc => by rw [List.idxOf_append, if_pos hc]
  rw [List.map_append]
  congr 1
  · refine List.map_congr_left fun g hg => ?_
    rw [old g hg, keyF_congr fun c hc => (old c (cl g hg c hc)).symm]
  · have e : (gs ++ [b]).idxOf b = gs.length := by rw [List.idxOf_append, if_neg nb]; simp
    show [_] = [(keyF (fun c => (gs ++ [b]).idxOf c) b, V.int (((gs ++ [b]).idxOf b : Nat) : Int))]
    rw [e, keyF_congr fun c hc => (old c (hb c hc)).symm]
/-- from one level to the next -/
theorem lev_next : ∀ (n : Nat) (cur : List Fm) (j : Nat) (l : List Fm), (∀ g ∈ cur, g.ht ≤ n) → (levs n cur)[j]? = some l → (levs n cur)[j + 1]? = some (down l) ∨ ((levs n cur)[j + 1]? = none ∧ down l = [])
  | 0, cur, j, l, _, h => by
    have e : levs 0 cur = [] := rfl
    rw [e] at h
    cases h
  | n + 1, cur, j, l, hh, h => by
    by_cases hc : cur = []
    · rw [hc, levs_nil] at h
      cases h
    · have e : levs (n + 1) cur = cur :: levs n (down cur) := by
        rw [levs, if_neg hc]
      rw [e] at h ⊢
      have hd : ∀ g ∈ down cur, g.ht ≤ n := fun g hg => by
        obtain ⟨k, hk, hm⟩ := down_mem.mp hg
        have h1 := kids_ht hm
        have h2 := hh k hk
        omega
      cases j with
      | zero =>
        have e2 : cur = l := Option.some.inj h
        subst e2
        rw [List.getElem?_cons_succ]
        by_cases hz : down cur = []
        · rw [hz, levs_nil]
          exact .inr ⟨rfl, rfl⟩
        · left
          cases n with
          | zero =>
            obtain ⟨g, hg⟩ := List.exists_mem_of_ne_nil _ hz
            have := hd g hg
            have := g.ht_pos
            omega
          | succ n =>
            rw [levs, if_neg hz]
            rfl
      | succ j =>
        rw [List.getElem?_cons_succ] at h ⊢
        exact lev_next n (down cur) j l hd h
theorem lev_head {n : Nat} {f : Fm} (h : f.ht ≤ n) : (levs n [f])[0]? = some [f] := by
  cases n with
  | zero =>
    have := f.ht_pos
    omega
  | succ n =>
    rw [levs, if_neg (by simp)]
    rfl
theorem lev_asc : ∀ (n : Nat) (cur : List Fm) (j : Nat) (l : List Fm), Asc cur → (levs n cur)[j]? = some l → Asc l
  | 0, cur, j, l, _, h => by
    have e : levs 0 cur = [] := rfl
    rw [e] at h
    cases h
  | n + 1, cur, j, l, ha, h => by
    by_cases hc : cur = []
    · rw [hc, levs_nil] at h
      cases h
    · have e : levs (n + 1) cur = cur :: levs n (down cur) := by
        rw [levs, if_neg hc]
      rw [e] at h
      cases j with
      | zero =>
        have e2 : cur = l := Option.some.inj h
        subst e2
        exact ha
      | succ j =>
        rw [List.getElem?_cons_succ] at h
        exact lev_asc n (down cur) j l (dist_asc _) h
theorem lev_ne : ∀ (n : Nat) (cur : List Fm) (j : Nat) (l : List Fm), (levs n cur)[j]? = some l → l ≠ []
  | 0, cur, j, l, h => by
    have e : levs 0 cur = [] := rfl
    rw [e] at h
    cases h
  | n + 1, cur, j, l, h => by
    by_cases hc : cur = []
    · rw [hc, levs_nil] at h
      cases h
    · have e : levs (n + 1) cur = cur :: levs n (down cur) := by
        rw [levs, if_neg hc]
      rw [e] at h
      cases j with
      | zero =>
        have e2 : cur = l := Option.some.inj h
        subst e2
        exact hc
      | succ j =>
        rw [List.getElem?_cons_succ] at h
        exact lev_ne n (down cur) j l h
theorem idx_get {gs : List Fm} {c : Fm} (h : c ∈ gs) : gs[gs.idxOf c]? = some c := by
  have := List.idxOf_lt_length_of_mem h
  rw [List.getElem?_eq_getElem this, List.getElem_idxOf]
/-- the numbers stay when the table grows -/
theorem idx_app {gs : List Fm} {b c : Fm} (h : c ∈ gs) : (gs ++ [b]).idxOf c = gs.idxOf c := by rw [List.idxOf_append, if_pos h]
theorem idx_new {gs : List Fm} {b : Fm} (h : b ∉ gs) : (gs ++ [b]).idxOf b = gs.length := by rw [List.idxOf_append, if_neg h]; simp
theorem nodup_few {α : Type} [DecidableEq α] : ∀ (l D : List α), l.Nodup → (∀ x ∈ l, x ∈ D) → l.length ≤ D.length
  | [], _, _, _ => Nat.zero_le _
  | x :: l, D, nd, sub => by
    rw [List.nodup_cons] at nd
    have hx := sub x List.mem_cons_self
    have ih := nodup_few l (D.erase x) nd.2 fun y hy => (List.mem_erase_of_ne fun e : y = x => nd.1 (by rw [← e]; exact hy)).mpr (sub y (List.mem_cons_of_mem _ hy))
    rw [List.length_erase_of_mem hx] at ih
    have := List.length_pos_of_mem hx
    rw [List.length_cons]
    omega
/-- a tuple with a formula's sign in front, no variable's -/
theorem im_sg {K : PySem.W.Frag} {H : Hp} {f : Fm} {a : Addr} {xs : List V} {ds : List PyData} (hv : f.isVar = false) (h : SqT K H a (.str f.sg :: xs)) (i : ImAll K H xs ds) : Im K H (.ref a) (.tuple (.str f.sg :: ds)) :=
  .tup h (.cons (.str _) i) fun y e => by
    have e2 := sg_var f
    rw [PyData.str.inj (List.cons.inj e).1, hv] at e2
    exact absurd e2 (by decide +kernel)
theorem kids_le2 (f : Fm) : f.kids.length ≤ 2 := by cases f <;> simp [Fm.kids]
theorem subs_len : ∀ f : Fm, f.subs.length = f.sz := by
  intro f
  induction f with
  | var n => rfl
  | fal => rfl
  | and a b h1 h2 => simp [Fm.subs, Fm.sz, h1, h2]; try omega
  | or a b h1 h2 => simp [Fm.subs, Fm.sz, h1, h2]; try omega
  | imp a b h1 h2 => simp [Fm.subs, Fm.sz, h1, h2]; try omega
  | box a h1 => simp [Fm.subs, Fm.sz, h1]; try omega
end E

set_option Elab.async false
set_option linter.all false
set_option maxRecDepth 100000
set_option maxHeartbeats 4000000
namespace E
open PySem PySem.Spec PyProof.Rows L2 LamX NdefX
/-! ### a def of the text that makes functions: its code object is known -/
structure FunC (K : PySem.W.Frag) (x qual : Str) (st : Stmt) (f : Addr) (fd : FuncData) (c : Addr) : Prop where
  ex : ∃ (oc : Value) (od : Option Addr) (kV doc pm : Value) (an : Option Addr) (ct : Value) (osl : Array (Option Value)),
    fd = PySem.W.fnOf x qual (defArgs st) (defBody st) (defScope st) .none kV doc pm an (.ref c) ct ∧ K.lookup f = some ⟨oc, od, .func fd, osl⟩ ∧ PySem.W.codeIn K (.ref c) qual = true
section
variable {P : Program} {w : World} {K : PySem.W.Frag} {mg : Str → Option Value} {base : Heap}
theorem FunC.ok {x qual : Str} {st : Stmt} {f c : Addr} {fd : FuncData} {N ps : List Str} {k : Nat} {sp : Sp} (F : FunC K x qual st f fd c) (S : FnScope N ps (defScope st)) (len : ∀ vs H Q E, sp vs H Q E → vs.length = ps.length)
    (hbody : ∀ (A : Around) (outer : List Env) (s : Shared) (H : Hp) (vs : List V) (Q : VK) (E : XK), Room k (A.deeper (envOfC qual (defScope st) s.heap.objs.size f (.ref c))) → sp vs H Q E →
      ∃ t, PSs (cxOf CX0 P w K mg base N qual (defScope st) f (.ref c) A outer s H E).nox (defBody st) t ∧ t { nx := fun _ H' => Q .non H', rt := Q } (start N vs) H) : FnOk P w K mg base CX0 (k + 1) f fd ps sp := by
  obtain ⟨oc, od, kV, doc, pm, an, ct, osl, rfl, lk, hcd⟩ := F.ex
  refine fn_of lk hcd S len fun A outer s H vs Q E hr hsp => ?_
  obtain ⟨t, h, q⟩ := hbody A outer s H vs Q E hr hsp
  exact ⟨t, h.nox, q⟩
/-- .. that may raise -/
theorem FunC.okX {x qual : Str} {st : Stmt} {f c : Addr} {fd : FuncData} {N ps : List Str} {k : Nat} {sp : Sp} (F : FunC K x qual st f fd c) (S : FnScope N ps (defScope st)) (len : ∀ vs H Q E, sp vs H Q E → vs.length = ps.length)
    (hbody : ∀ (A : Around) (outer : List Env) (s : Shared) (H : Hp) (vs : List V) (Q : VK) (E : XK), Room k (A.deeper (envOfC qual (defScope st) s.heap.objs.size f (.ref c))) → sp vs H Q E →
      ∃ t, PSs (cxOf (L2.CX P w) P w K mg base N qual (defScope st) f (.ref c) A outer s H E) (defBody st) t ∧ t { nx := fun _ H' => Q .non H', rt := Q } (start N vs) H) : FnOk P w K mg base (L2.CX P w) (k + 1) f fd ps sp := by
  obtain ⟨oc, od, kV, doc, pm, an, ct, osl, rfl, lk, hcd⟩ := F.ex
  exact fn_of lk hcd S len hbody
theorem func_mk {x qual : Str} {st : Stmt} {f : Addr} {oc : Value} {od an : Option Addr} {osl : Array (Option Value)} {kV doc pm ct : Value} {cd : Addr} (l : K.lookup f = some ⟨oc, od, .func (PySem.W.fnOf x qual (defArgs st) (defBody st) (defScope st) .none kV doc pm an (.ref cd) ct), osl⟩)
    (c : PySem.W.codeIn K (.ref cd) qual = true) : FunC K x qual st f (PySem.W.fnOf x qual (defArgs st) (defBody st) (defScope st) .none kV doc pm an (.ref cd) ct) cd := ⟨⟨oc, od, kV, doc, pm, an, ct, osl, rfl, l, c⟩⟩
end
/-- all but the tables stay: tuples, lists, what else is told -/
theorem extn_ts {H H' : Hp} (e : ExtN H H') : TS H H' := ⟨fun b xs r => by
  rcases r with r | ⟨o, r⟩
  · exact .inl (e _ _ r fun _ z => nomatch z)
  · exact .inr ⟨o, e _ _ r fun _ z => nomatch z⟩, fun b xs r => e _ _ r fun _ z => nomatch z⟩
theorem extn_sqL {K : PySem.W.Frag} {H H' : Hp} {a : Addr} {xs : List V} (e : ExtN H H') (h : SqL K H a xs) : SqL K H' a xs := by
  rcases h with (r | ⟨o, r⟩) | r
  · exact .inl (.inl (e _ _ r fun _ z => nomatch z))
  · exact .inl (.inr ⟨o, e _ _ r fun _ z => nomatch z⟩)
  · exact .inr r
theorem extn_pl {K : PySem.W.Frag} {H H' : Hp} {p l : Addr} (e : ExtN H H') (h : Pl K H p l) : Pl K H' p l := by
  obtain ⟨i, r, c, s, h1, h2⟩ := h.at5
  obtain ⟨cs, hs⟩ := h.sq
  exact ⟨⟨cs, extn_sqL e hs⟩, h.ne, i, r, c, s, (e _ _ h1 fun _ z => nomatch z), h2⟩
/-- one object, no table, is changed: the tables stay -/
theorem tabs_kp {T : List NTab} {H H' : Hp} {p : Addr} {u : HO} (t : TabsN T H) (k : Kp p H H') (hp : H p = some u) (hu : ∀ ps, u ≠ .tbl ps) (hc : ∀ f, u ≠ .ext f) : TabsN T H' := fun q hq => by
  obtain ⟨ps, h1, h2, h3⟩ := t q hq
  refine ⟨ps, k _ _ h1 (fun z => by rw [z, hp] at h1; exact hu _ (Option.some.inj h1)), h2, fun pos cv hcv => ?_⟩
  obtain ⟨c, e1, e2⟩ := h3 pos cv hcv
  exact ⟨c, e1, k _ _ e2 (fun z => by rw [z, hp] at e2; exact hc _ (Option.some.inj e2))⟩
theorem tabs_kpl {T : List NTab} {H H' : Hp} {p : Addr} {xs : List V} (t : TabsN T H) (k : Kp p H H') (hp : H p = some (.lst xs)) : TabsN T H' := tabs_kp t k hp (fun _ z => nomatch z) fun _ z => nomatch z
/-- all tables are empty -/
theorem tabs_start {T : List NTab} {cs : List (Addr × Addr)} {H : Hp} (e : T.map (·.1) = cs.map (·.2)) (h : ∀ p ∈ cs, H p.2 = some (.tbl #[])) : TabsN T H := fun q hq => by
  have hm : q.1 ∈ cs.map (·.2) := by rw [← e]; exact List.mem_map.mpr ⟨q, hq, rfl⟩
  obtain ⟨p, hp, ep⟩ := List.mem_map.mp hm
  exact TabN.nil (by rw [← ep]; exact h p hp)
theorem tab_uniq : ∀ {T : List NTab}, (T.map (·.1)).Nodup → ∀ {P : Addr} {nm : Nat → Nat → Str}, (P, nm) ∈ T → ∀ p ∈ T, p.1 = P → p.2 = nm
  | [], _, _, _, h => nomatch h
  | t :: T, nd, P, nm, h => fun p hp e => by
    rw [List.map_cons, List.nodup_cons] at nd
    rcases List.mem_cons.mp h with h1 | h1
    · subst h1
      rcases List.mem_cons.mp hp with h2 | h2
      · rw [h2]
      · exact absurd (List.mem_map.mpr ⟨p, h2, e⟩) nd.1
    · rcases List.mem_cons.mp hp with h2 | h2
      · subst h2
        exact absurd (List.mem_map.mpr ⟨_, h1, e.symm⟩) nd.1
      · exact tab_uniq nd.2 h1 p h2 e
end E

set_option Elab.async false
set_option linter.all false
set_option maxRecDepth 100000
set_option maxHeartbeats 4000000
namespace E
open PySem PySem.Spec PyProof.Rows L2 LamX NdefX
/-! ### tuples and known things stay -/
def TZ (H H' : Hp) : Prop := TS H H' ∧ ∀ b o u, H b = some (.frz o u) → H' b = some (.frz o u)
theorem TZ.refl (H : Hp) : TZ H H := ⟨TS.refl H, fun _ _ _ h => h⟩
theorem TZ.trans {H H1 H2 : Hp} (a : TZ H H1) (b : TZ H1 H2) : TZ H H2 := ⟨a.1.trans b.1, fun c o u h => b.2 _ _ _ (a.2 _ _ _ h)⟩
theorem TZ.but {H H' : Hp} {d : Addr} {u : HO} (hd : H d = some u) (h1 : ∀ xs, u ≠ .tup xs) (h2 : ∀ o v, u ≠ .frz o v) (k : ∀ c o, H c = some o → c ≠ d → H' c = some o) : TZ H H' :=
  ⟨TS.but hd h1 (fun o xs => h2 o (.tup xs)) k, fun c o v r => k _ _ r fun e => by
    rw [e, hd] at r
    exact h2 o v (Option.some.inj r)⟩
theorem Same.tz {H H' : Hp} (s : Same H H') : TZ H H' := ⟨Same.ts s, fun _ _ _ h => s _ _ h⟩
theorem Kp.tz {p : Addr} {H H' : Hp} {xs : List V} (k : Kp p H H') (h : H p = some (.lst xs)) : TZ H H' := TZ.but h (fun _ e => nomatch e) (fun _ _ e => nomatch e) k
/-! ### cells that are known while other defs run -/
/-- the cells of cl, each known to its object; ws: what the captured names hold (some v) or may hold (none) -/
structure WithC (cl : List (Str × Addr)) (fr : List Str) (ws : List (Option V)) (H : Hp) : Prop where
  len : ws.length = fr.length
  inj : ∀ x y c, cl.lookup x = some c → cl.lookup y = some c → x = y
  all : ∀ p ∈ cl, ∃ o v, H p.2 = some (.frz o (.own p.2)) ∧ o.data = .cell v
  has : ∀ (i : Nat) (y : Str), fr[i]? = some y → ∃ c, cl.lookup y = some c ∧ ∀ v, ws[i]? = some (some v) → ∃ u o, L2.RelV v u ∧ H c = some (.frz o (.own c)) ∧ o.data = .cell (some u)
theorem WithC.same {cl : List (Str × Addr)} {fr : List Str} {ws : List (Option V)} {H H' : Hp} (W : WithC cl fr ws H) (s : ∀ b o u, H b = some (.frz o u) → H' b = some (.frz o u)) : WithC cl fr ws H' := by
  refine ⟨W.len, W.inj, fun p hp => ?_, fun i y e => ?_⟩
  · obtain ⟨o, v, h1, h2⟩ := W.all p hp
    exact ⟨o, v, s _ _ _ h1, h2⟩
  · obtain ⟨c, h1, h2⟩ := W.has i y e
    refine ⟨c, h1, fun v hv => ?_⟩
    obtain ⟨u, o, r, h3, h4⟩ := h2 v hv
    exact ⟨u, o, r, s _ _ _ h3, h4⟩
/-- the addresses of the cells -/
def AtC (cl : List (Str × Addr)) (b : Addr) : Prop := ∃ p ∈ cl, p.2 = b
open Classical in
/-- without the cells -/
noncomputable def offC (cl : List (Str × Addr)) (H : Hp) : Hp := fun b => if AtC cl b then none else H b
open Classical in
/-- the cells back -/
noncomputable def onC (cl : List (Str × Addr)) (H H' : Hp) : Hp := fun b => if AtC cl b then H b else H' b
section
variable {cl : List (Str × Addr)} {fr : List Str} {ws : List (Option V)} {H H' H1 : Hp} {b : Addr} {o : HO}
theorem offC_at (h : AtC cl b) : offC cl H b = none := by unfold offC; rw [if_pos h]
theorem offC_ne (h : ¬ AtC cl b) : offC cl H b = H b := by unfold offC; rw [if_neg h]
theorem onC_at (h : AtC cl b) : onC cl H H' b = H b := by unfold onC; rw [if_pos h]
theorem onC_ne (h : ¬ AtC cl b) : onC cl H H' b = H' b := by unfold onC; rw [if_neg h]
theorem offC_some (h : offC cl H b = some o) : ¬ AtC cl b ∧ H b = some o := by
  by_cases c : AtC cl b
  · rw [offC_at c] at h; cases h
  · rw [offC_ne c] at h; exact ⟨c, h⟩
theorem offC_none (h : H b = none) : offC cl H b = none := by
  by_cases c : AtC cl b
  · exact offC_at c
  · rw [offC_ne c]; exact h
theorem WithC.at_ (W : WithC cl fr ws H) (h : AtC cl b) : ∃ o v, H b = some (.frz o (.own b)) ∧ o.data = .cell v := by
  obtain ⟨p, hp, rfl⟩ := h
  exact W.all p hp
/-- what is no cell's record is none of the cells -/
theorem WithC.off (W : WithC cl fr ws H) (h : H b = some o) (n : ∀ ob, o ≠ .frz ob (.own b)) : offC cl H b = some o := by
  have c : ¬ AtC cl b := fun z => by
    obtain ⟨ob, v, h1, _⟩ := W.at_ z
    rw [h] at h1
    exact n ob (Option.some.inj h1)
  rw [offC_ne c]; exact h
theorem WithC.offRd (W : WithC cl fr ws H) {u : HO} (h : Rd H b u) (n1 : ∀ ob x, u ≠ .frz ob x) (n2 : ∀ x, u ≠ .own x) : Rd (offC cl H) b u := by
  rcases h with h | ⟨ob, h⟩
  · exact .inl (W.off h fun ob z => n1 _ _ z)
  · refine .inr ⟨ob, W.off h fun ob' z => ?_⟩
    injection z with _ z2
    exact n2 _ z2
theorem WithC.ts (W : WithC cl fr ws H) : TS H (offC cl H) := ⟨fun b xs h => W.offRd h (fun _ _ e => nomatch e) (fun _ e => nomatch e), fun b xs h => W.off h fun _ e => nomatch e⟩
theorem WithC.sqL {K : PySem.W.Frag} {xs : List V} (W : WithC cl fr ws H) (h : SqL K H b xs) : SqL K (offC cl H) b xs := by
  rcases h with h | h
  · exact .inl (W.offRd h (fun _ _ e => nomatch e) (fun _ e => nomatch e))
  · exact .inr h
theorem WithC.frz (W : WithC cl fr ws H) {ob : Obj} {u : HO} (h : H b = some (.frz ob u)) (n : ∀ x, u ≠ .own x) : offC cl H b = some (.frz ob u) := W.off h fun ob' z => by
  injection z with _ z2
  exact n _ z2
theorem WithC.tab {T : List NTab} (W : WithC cl fr ws H) (t : TabsN T H) : TabsN T (offC cl H) := fun p hp => by
  obtain ⟨ps, h1, h2, h3⟩ := t p hp
  refine ⟨ps, W.off h1 (fun _ e => nomatch e), h2, fun pos cv hcv => ?_⟩
  obtain ⟨c, e1, e2⟩ := h3 pos cv hcv
  exact ⟨c, e1, W.off e2 (fun _ e => nomatch e)⟩
/-- what is kept without the cells is kept with them -/
theorem on_same (h : L2.Same (offC cl H) H') : L2.Same H (onC cl H H') := fun b o e => by
  by_cases c : AtC cl b
  · rw [onC_at c]; exact e
  · rw [onC_ne c]
    exact h _ _ (by rw [offC_ne c]; exact e)
theorem on_new (n : ∀ b, AtC cl b → H' b = none) (h : H' b = some o) : onC cl H H' b = some o := by
  rw [onC_ne fun c => by rw [n b c] at h; cases h]; exact h
/-- what the cells hold, to their objects -/
theorem WithC.cells {P : Program} {w : World} {h : Heap} (W : WithC cl fr ws H) (ok : HOk P w H h) : CellsAt cl fr ws h (offC cl H) := by
  have lk : ∀ y c, cl.lookup y = some c → AtC cl c := fun y c e => ⟨_, PySem.mem_of_lookup e, rfl⟩
  refine ⟨W.len, fun y c e => ?_, W.inj, fun i y e => ?_⟩
  · obtain ⟨o, v, h1, h2⟩ := W.at_ (lk y c e)
    obtain ⟨z, _⟩ := ok _ _ h1
    exact ⟨offC_at (lk y c e), v, o, z, h2⟩
  · obtain ⟨c, h1, h2⟩ := W.has i y e
    refine ⟨c, h1, fun v hv => ?_⟩
    obtain ⟨u, o, r, h3, h4⟩ := h2 v hv
    obtain ⟨z, _⟩ := ok _ _ h3
    exact ⟨u, r, o, z, h4⟩
theorem WithC.hok {P : Program} {w : World} {h : Heap} (W : WithC cl fr ws H) (ok : HOk P w H h) : HOk P w (offC cl H) h := fun a o e => by
  obtain ⟨_, e'⟩ := offC_some e
  exact (ok a o e').stay (fun _ _ _ q => q) (fun b q => W.off q fun _ z => nomatch z) fun b xs q => W.off q fun _ z => nomatch z
theorem WithC.env0 {P : Program} {w : World} {K : PySem.W.Frag} {mg : Str → Option Value} {base : Heap} {A : Around} {outer : List Env} {s : Shared} (W : WithC cl fr ws H) (e : Env0 P w K mg base A outer s H) : Env0 P w K mg base A outer s (offC cl H) :=
  ⟨e.frames, e.mod, fun b o q => ⟨(e.bs b o q).1, offC_none (e.bs b o q).2⟩, e.bsz, e.funs, fun b hb => offC_none (e.frf b hb), W.hok e.hok, e.bare⟩
/-- behind the captured function's run: the cells are known again -/
theorem WithC.back {P : Program} {w : World} {outer : List Env} {s s' : Shared} {u : Value} {Q : VK} (W : WithC cl fr ws H) (ok : HOk P w H s.heap) (frf : ∀ b ∈ frs outer, H b = none)
    (h : CE outer P w (offC cl H) s (fun v H' => (∀ b, AtC cl b → H' b = none) → Q v (onC cl H H')) u s') : CE outer P w H s Q u s' := by
  obtain ⟨v, H', os, bare, un, hok, r, q⟩ := h
  have cg : ∀ {b}, AtC cl b → ∃ o, H b = some (.frz o (.own b)) ∧ s.heap.get? b = some o := fun {b} c => by
    obtain ⟨o, v, h1, _⟩ := W.at_ c
    obtain ⟨z, _⟩ := ok _ _ h1
    exact ⟨o, h1, z⟩
  have cn : ∀ {b}, AtC cl b → H' b = none := fun {b} c => by
    obtain ⟨o, _, h2⟩ := cg c
    exact un.free b o h2 (offC_at c) (by simp)
  have nof : ∀ {b}, AtC cl b → b ∉ frs outer := fun {b} c z => by
    obtain ⟨o, h1, _⟩ := cg c
    rw [frf b z] at h1; cases h1
  have nn : ∀ {b}, H b = none → ¬ AtC cl b := fun {b} n c => by
    obtain ⟨o, h1, _⟩ := cg c
    rw [n] at h1; cases h1
  refine ⟨v, onC cl H H', os, bare, ⟨fun b o e n hb hx => un.keep b o e (offC_none n) hb hx, fun b o e n hb hx => un.slot b o e (offC_none n) hb hx, fun b o e n hx => ?_, un.there, fun b xs e => ?_, fun b o x e => ?_, fun b ps e => ?_⟩, fun a o e => ?_, r, q fun b c => cn c⟩
  · rw [onC_ne (nn n)]
    exact un.free b o e (offC_none n) hx
  · by_cases c : AtC cl b
    · rw [onC_at c]; exact e
    · rw [onC_ne c]; exact un.tups b xs (by rw [offC_ne c]; exact e)
  · by_cases c : AtC cl b
    · rw [onC_at c]; exact e
    · rw [onC_ne c]; exact un.frzs b o x (by rw [offC_ne c]; exact e)
  · by_cases c : AtC cl b
    · exact ⟨#[], by rw [onC_at c, e]; simp⟩
    · obtain ⟨m, z⟩ := un.tbls b ps (by rw [offC_ne c]; exact e)
      exact ⟨m, by rw [onC_ne c]; exact z⟩
  · by_cases c : AtC cl a
    · rw [onC_at c] at e
      obtain ⟨o', h1, h2⟩ := cg c
      rw [h1] at e
      cases e
      have k := un.keep a o' h2 (offC_at c) (nof c) (by simp)
      exact ⟨k, o', k⟩
    · rw [onC_ne c] at e
      refine (hok a o e).stay (fun _ _ _ z => z) (fun b z => ?_) fun b xs z => ?_
      · rw [onC_ne fun k => by rw [cn k] at z; cases z]; exact z
      · rw [onC_ne fun k => by rw [cn k] at z; cases z]; exact z
end
/-- the promise of a function with captured cells, where these are known -/
noncomputable def capSp (cl : List (Str × Addr)) (ws : List (Option V)) (sp : List (Option V) → Sp) : Sp := fun vs H Q E => sp ws vs (offC cl H) (fun v H' => (∀ b, AtC cl b → H' b = none) → Q v (onC cl H H')) E
/-! ### what is returned new is known from now on -/
def Fzb : HO → Prop
  | .lst _ => True
  | .dK _ => True
  | _ => False
def frzSp (sp : Sp) : Sp := fun vs H Q E => sp vs H (fun v H' => ∃ a u, v = .ref a ∧ H a = none ∧ H' a = some u ∧ Fzb u ∧ ∀ o, Q v (upd H' a (.frz o u))) E
theorem ce_frz {outer : List Env} {P : Program} {w : World} {H : Hp} {s s' : Shared} {u : Value} {Q : VK} (h : CE outer P w H s (fun v H' => ∃ a u, v = .ref a ∧ H a = none ∧ H' a = some u ∧ Fzb u ∧ ∀ o, Q v (upd H' a (.frz o u))) u s') : CE outer P w H s Q u s' := by
  obtain ⟨v, H', os, bare, un, hok, r, a, x, rfl, h1, h2, hz, q⟩ := h
  have old : s.heap.get? a = none := by
    cases e : s.heap.get? a with
    | none => rfl
    | some o => rw [un.free a o e h1 (by simp)] at h2; cases h2
  obtain ⟨o, ho⟩ : ∃ o, s'.heap.get? a = some o := by
    have := hok a x h2
    cases x with
    | lst xs => obtain ⟨_, its, n, _, e⟩ := this; exact ⟨_, e⟩
    | dK kvs => obtain ⟨_, _, vs, _, ob, es, ep, e, _⟩ := this; exact ⟨_, e⟩
    | _ => exact hz.elim
  have ne : ∀ b y, H b = some y → b ≠ a := fun b y e z => by rw [z, h1] at e; cases e
  have nt : ∀ xs, x ≠ .tup xs := fun xs e => by rw [e] at hz; exact hz
  have no : ∀ y, x ≠ .own y := fun y e => by rw [e] at hz; exact hz
  refine ⟨.ref a, upd H' a (.frz o x), os, bare, ⟨un.keep, un.slot, fun b ob e n hx => ?_, un.there, fun b xs e => ?_, fun b ob y e => ?_, fun b ps e => ?_⟩, fun b y e => ?_, r, q o⟩
  · rw [upd_ne fun z => by rw [z, old] at e; cases e]
    exact un.free b ob e n hx
  · rw [upd_ne (ne _ _ e)]; exact un.tups b xs e
  · rw [upd_ne (ne _ _ e)]; exact un.frzs b ob y e
  · obtain ⟨m, z⟩ := un.tbls b ps e
    exact ⟨m, by rw [upd_ne (ne _ _ e)]; exact z⟩
  · have key : ∀ b y, H' b = some y → ObjOk P w (upd H' a (.frz o x)) s'.heap b y := fun b y e => (hok b y e).stay (fun _ _ _ z => z)
      (fun c z => by rw [upd_ne fun k => by rw [k, h2] at z; exact no _ (Option.some.inj z)]; exact z) fun c xs z => by rw [upd_ne fun k => by rw [k, h2] at z; exact nt _ (Option.some.inj z)]; exact z
    by_cases c : b = a
    · subst c
      rw [upd_same] at e
      cases e
      exact ⟨ho, key b x h2⟩
    · rw [upd_ne c] at e
      exact key b y e
section
variable {P : Program} {w : World} {K : PySem.W.Frag} {mg : Str → Option Value} {base : Heap} {k : Nat} {f : Addr} {ps fr : List Str}
theorem cr_frz {outer : List Env} {H : Hp} {s : Shared} {Q : VK} {E E' : XK} {r : Result} {s' : Shared} (h : CR CX0 outer P w H s (fun v H' => ∃ a u, v = .ref a ∧ H a = none ∧ H' a = some u ∧ Fzb u ∧ ∀ o, Q v (upd H' a (.frz o u))) E r s') : CR CX0 outer P w H s Q E' r s' := by
  cases r with
  | error e => exact h
  | ok fl =>
    cases fl with
    | ret u => exact ce_frz h
    | next => exact h
    | brk => exact h
    | cont => exact h
theorem nok_frz {F : NF} {sp : List (Option V) → Sp} (o : NOk P w K mg base CX0 k f F ps fr sp) : NOk P w K mg base CX0 k f F ps fr (fun ws => frzSp (sp ws)) :=
  ⟨fun ws vs H Q E q => o.len _ _ _ _ _ q, fun A outer s H us vs ws Q E hr e0 hf hc C r q => codeAny_mono (o.run A outer s H us vs ws _ E hr e0 hf hc C r q) fun r s' z => cr_frz z⟩
theorem fn_frz {fd : FuncData} {sp : Sp} (o : FnOk P w K mg base CX0 k f fd ps sp) : FnOk P w K mg base CX0 k f fd ps (frzSp sp) :=
  ⟨fun vs H Q E q => o.len _ _ _ _ q, fun A outer s H args us vs Q E hr e0 hb r q => codeAny_mono (o.run A outer s H args us vs _ E hr e0 hb r q) fun r s' z => cr_frz z⟩
end
/-! ### a call of a parameter that holds a function with captured cells -/
inductive CalC (P : Program) (w : World) (K : PySem.W.Frag) (mg : Str → Option Value) (base : Heap) (k : Nat) (f : Addr) (sp : Sp) (H : Hp) : Prop
  | pl (c : Cal P w K mg base k f sp H)
  | cap {F : NF} {ps fr : List Str} {ws : List (Option V)} {sp' : List (Option V) → Sp} (o : NOk P w K mg base CX0 k f F ps fr sp') (h : H f = some (FnO f F)) (hc : H F.c = some (CodeO F.c F.qual)) (W : WithC F.cl fr ws H) (e : ∀ vs H Q E, sp vs H Q E → capSp F.cl ws sp' vs H Q E)
theorem CalC.same {P : Program} {w : World} {K : PySem.W.Frag} {mg : Str → Option Value} {base : Heap} {k : Nat} {f : Addr} {sp : Sp} {H H' : Hp} (c : CalC P w K mg base k f sp H) (s : ∀ b F, H b = some (.ext F) → H' b = some (.ext F)) (z : ∀ b o u, H b = some (.frz o u) → H' b = some (.frz o u)) : CalC P w K mg base k f sp H' := by
  cases c with
  | pl c => exact .pl (c.same s)
  | cap o h hc W e => exact .cap o (s _ _ h) (s _ _ hc) (W.same z) e
def tCallZ (P : Program) (w : World) (K : PySem.W.Frag) (mg : Str → Option Value) (base : Heap) (k i : Nat) (t : TA) : TE := fun σ H Q => ∃ (f : Addr) (sp : Sp), σ[i]? = some (some (.ref f)) ∧ CalC P w K mg base k f sp H ∧
  t σ H fun vs H1 => CalC P w K mg base k f sp H1 ∧ (∀ b F, H b = some (.ext F) → H1 b = some (.ext F)) ∧ (∀ b o u, H b = some (.frz o u) → H1 b = some (.frz o u)) ∧ sp vs H1 Q (fun _ _ _ => False)
section
variable {X : Cx} {i j k : Nat} {x : Str} {p pos : Pos} {e : Expr} {es : List Expr} {t : TA}
theorem run_cap {pins : List (Addr × Obj)} {σ : L2.St} {H : Hp} {s : Shared} {Q : VK} {f : Addr} {F : NF} {ps fr : List Str} {ws : List (Option V)} {us : List Value} {vs : List V} {sp : List (Option V) → Sp} (o : NOk X.prog X.w X.K X.mg X.base CX0 k f F ps fr sp) (hr : Room j X.A) (hk : k ≤ j) (I : Inv X pins σ H s)
    (hf : H f = some (FnO f F)) (hc : H F.c = some (CodeO F.c F.qual)) (W : WithC F.cl fr ws H) (r : Vals vs us) (q : capSp F.cl ws sp vs H Q (fun _ _ _ => False)) :
    wpAny (model X.prog X.w) X.A (call (.ref f) us) (EP X pins σ Q) X.xe s := by
  refine wpAny_call (codeAny_mono (o.run X.A X.stack s (offC F.cl H) us vs ws _ _ (hr.mono hk) (W.env0 I.env0) (W.off hf fun _ e => nomatch e) (W.off hc fun _ e => nomatch e) (W.cells I.hok) r q) fun r s' hq => ?_)
  cases r with
  | error e => exact (show False from hq).elim
  | ok fl =>
    cases fl with
    | ret u => exact I.after (W.back I.hok I.stkFree hq)
    | next => exact False.elim hq
    | brk => exact False.elim hq
    | cont => exact False.elim hq
theorem pe_callZ (hr : Room j X.A) (hk : k ≤ j) (hN : X.N[i]? = some x) (hv : Vis X.env.scope x) (ha : PA X (e :: es) t)
    (hdb : (x == ("__debug__" : Str)) = false := by decide) (hcd : (x == ("__classdict__" : Str)) = false := by decide)
    (he : starEach (e :: es) X.env = (false, eval e X.env) :: starEach es X.env := by rfl) (hpl : (backTo pos (starEach es X.env)).any (·.1) = false := by rfl) :
    PE X (.Call (.Name x p) (e :: es) [] pos) (tCallZ X.prog X.w X.K X.mg X.base k i t) := by
  refine ⟨fun pins s σ H Q I ⟨f, sp, hs, hc, ht⟩ => ?_⟩
  cases hc with
  | pl c =>
    refine wpAny_Call_Name_kw (thn ((pe_var (pos := p) hN hv hdb hcd).run pins s σ H (fun v H1 => v = .ref f ∧ H1 = H) I ⟨.ref f, hs, rfl, rfl⟩) fun u s1 ⟨v, H1, I1, r1, q1, q2⟩ => ?_)
    subst q1 q2
    obtain rfl : u = Value.ref f := r1
    cases c with
    | @top fd ps o kp b =>
      refine PySem.W.callWith_K (h₀ := X.base) I.ok.mod.kin kp (thn (ha.run pos pins s1 σ _ _ I1 ht) fun us s2 ⟨vs, H2, I2, r, _, _, _, q⟩ => ⟨I2.kIn, ?_⟩) he hpl
      refine run_fn (dvs := []) (E := fun _ _ _ => False) o (hr.mono hk) b .nil pass0 I2 r ?_
      rw [List.append_nil]
      exact q
    | @made F ps o cl h hcode =>
      refine PySem.W.callWith_F (first := []) (fnAt_of I1 h) (thn (ha.run pos pins s1 σ _ _ I1 ht) fun us s2 ⟨vs, H2, I2, r, _, keep, _, q⟩ => ⟨fnAt_of I2 (keep _ _ h), ?_⟩) he hpl
      show wpAny _ _ (call (.ref f) us) _ _ _
      exact run_n (mk := fun _ => F) (js := []) (fr := []) (c' := f) (sp := fun _ _ _ => sp) o hr hk (E := fun _ _ _ => False) pass0 I2 (keep _ _ h) (keep _ _ hcode) (cells_none cl _ _) r q
    | @lam F ps o h hcode =>
      have fa : ∀ {s' : Shared} {H' : Hp}, Inv X pins σ H' s' → H' f = some (LamO f F) → PySem.W.FnAt f s'.heap := fun I' h' => by
        obtain ⟨pm, ctv, ho⟩ := lamO_at I'.hok h'
        exact ⟨_, _, _, _, ho⟩
      refine PySem.W.callWith_F (first := []) (fa I1 h) (thn (ha.run pos pins s1 σ _ _ I1 ht) fun us s2 ⟨vs, H2, I2, r, _, keep, _, q⟩ => ⟨fa I2 (keep _ _ h), ?_⟩) he hpl
      show wpAny _ _ (call (.ref f) us) _ _ _
      refine wpAny_call (codeAny_mono (o.run X.A X.stack s2 H2 us vs _ _ (hr.mono hk) I2.env0 (keep _ _ h) (keep _ _ hcode) r q) fun r s' hq => ?_)
      cases r with
      | error e => exact (show False from hq).elim
      | ok fl =>
        cases fl with
        | ret u => exact I2.after hq
        | next => exact False.elim hq
        | brk => exact False.elim hq
        | cont => exact False.elim hq
  | @cap F ps fr ws sp' o h hcode W hsp =>
    refine wpAny_Call_Name_kw (thn ((pe_var (pos := p) hN hv hdb hcd).run pins s σ H (fun v H1 => v = .ref f ∧ H1 = H) I ⟨.ref f, hs, rfl, rfl⟩) fun u s1 ⟨v, H1, I1, r1, q1, q2⟩ => ?_)
    subst q1 q2
    obtain rfl : u = Value.ref f := r1
    refine PySem.W.callWith_F (first := []) (fnAt_of I1 h) (thn (ha.run pos pins s1 σ _ _ I1 ht) fun us s2 ⟨vs, H2, I2, r, _, k1, k2, q⟩ => ⟨fnAt_of I2 (k1 _ _ h), ?_⟩) he hpl
    show wpAny _ _ (call (.ref f) us) _ _ _
    exact run_cap o hr hk I2 (k1 _ _ h) (k1 _ _ hcode) (W.same k2) r (hsp _ _ _ _ q)
end
/-! ### a call of a def of the top that is handed a function with captured cells -/
/-- H2 is H with the cells of cl known -/
structure Plus (cl : List (Str × Addr)) (fr : List Str) (ws : List (Option V)) (H H2 : Hp) : Prop where
  w : WithC cl fr ws H2
  no : ∀ b, AtC cl b → H b = none
  eq : ∀ b, ¬ AtC cl b → H2 b = H b
theorem Plus.same {cl : List (Str × Addr)} {fr : List Str} {ws : List (Option V)} {H H2 : Hp} (p : Plus cl fr ws H H2) : L2.Same H H2 := fun b o e => by
  rw [p.eq b fun c => by rw [p.no b c] at e; cases e]; exact e
theorem Plus.off {cl : List (Str × Addr)} {fr : List Str} {ws : List (Option V)} {H H2 H3 : Hp} (p : Plus cl fr ws H H2) (s : L2.Same H2 H3) : L2.Same H (offC cl H3) := fun b o e => by
  have n : ¬ AtC cl b := fun c => by rw [p.no b c] at e; cases e
  rw [offC_ne n]; exact s _ _ (p.same _ _ e)
theorem Plus.free {cl : List (Str × Addr)} {fr : List Str} {ws : List (Option V)} {H H2 H3 : Hp} (p : Plus cl fr ws H H2) (n : ∀ b, H3 b = none → H2 b = none) : ∀ b, offC cl H3 b = none → H b = none := fun b e => by
  by_cases c : AtC cl b
  · exact p.no b c
  · rw [offC_ne c] at e
    rw [← p.eq b c]; exact n b e
def tCallW (cl : List (Str × Addr)) (fr : List Str) (js : List Nat) (sp : Sp) (t : TA) : TE := fun σ H Q => t σ H fun vs H1 => ∀ H2, Plus cl fr (js.map (slotAt σ)) H1 H2 → sp vs H2 (fun v H3 => WithC cl fr (js.map (slotAt σ)) H3 → Q v (offC cl H3)) (fun _ _ _ => False)
section
variable {X : Cx} {pins : List (Addr × Obj)} {σ : L2.St} {H : Hp} {s : Shared} {cl : List (Str × Addr)} {fr : List Str} {js : List Nat}
open Classical in
/-- the running frame's cells, known -/
theorem plus_of (I : Inv X pins σ H s) (c : Caps X cl fr js) (mem : ∀ p ∈ cl, X.env.cells.lookup p.1 = some p.2) (hfn : ∀ p ∈ cl, X.fn p.1 = true) :
    ∃ H2, Plus cl fr (js.map (slotAt σ)) H H2 ∧ Env0 X.prog X.w X.K X.mg X.base X.A X.stack s H2 := by
  have C := cells_of I c
  have cg : ∀ b, AtC cl b → ∃ o v, s.heap.get? b = some o ∧ o.data = .cell v ∧ H b = none := fun b ⟨p, hp, e⟩ => by
    subst e
    obtain ⟨v, o, h1, h2⟩ := I.cell _ _ (mem p hp)
    exact ⟨o, v, h1, h2, I.freeC _ _ (mem p hp)⟩
  refine ⟨fun b => if AtC cl b then (s.heap.get? b).map fun o => .frz o (.own b) else H b, ⟨⟨C.len, C.inj, fun p hp => ?_, fun i y e => ?_⟩, fun b h => ?_, fun b h => if_neg h⟩, ?_⟩
  · obtain ⟨o, v, h1, h2, _⟩ := cg p.2 ⟨p, hp, rfl⟩
    exact ⟨o, v, (if_pos (⟨p, hp, rfl⟩ : AtC cl p.2)).trans (by rw [h1]; rfl), h2⟩
  · obtain ⟨a, h1, h2⟩ := C.has i y e
    refine ⟨a, h1, fun v hv => ?_⟩
    obtain ⟨u, r, o, h3, h4⟩ := h2 v hv
    have at_ : AtC cl a := ⟨_, PySem.mem_of_lookup h1, rfl⟩
    exact ⟨u, o, r, (if_pos at_).trans (by rw [h3]; rfl), h4⟩
  · obtain ⟨_, _, _, _, n⟩ := cg b h
    exact n
  · have e := I.env0
    have nc : ∀ b, AtC cl b → X.s_0.heap.objs.size ≤ b ∧ b ≠ X.env.locals := fun b ⟨p, hp, z⟩ => by
      subst z
      exact ⟨I.ok.cab _ _ (hfn p hp) (mem p hp), I.cne _ _ (mem p hp)⟩
    refine ⟨e.frames, e.mod, fun b o q => ⟨(e.bs b o q).1, ?_⟩, e.bsz, e.funs, fun b hb => ?_, fun a o q => ?_, e.bare⟩
    · refine (if_neg fun z => ?_).trans (e.bs b o q).2
      have h1 := (nc b z).1
      have h2 := Heap.lt_size (I.ok.bs b o q).1
      exact absurd (Nat.lt_of_lt_of_le h2 h1) (Nat.lt_irrefl _)
    · refine (if_neg fun z => ?_).trans (e.frf b hb)
      rcases List.mem_cons.mp (I.stkSub b hb) with k | k
      · exact (nc b z).2 k
      · obtain ⟨_, o, ho, _⟩ := I.ok.funs.mem k
        exact absurd (Nat.lt_of_lt_of_le (Heap.lt_size ho) (nc b z).1) (Nat.lt_irrefl _)
    · by_cases z : AtC cl a
      · obtain ⟨o', v, h1, h2, h3⟩ := cg a z
        have q' : (s.heap.get? a).map (fun o => HO.frz o (.own a)) = some o := (if_pos z).symm.trans q
        rw [h1] at q'
        cases q'
        exact ⟨h1, o', h1⟩
      · have q' : H a = some o := (if_neg z).symm.trans q
        refine (I.hok a o q').stay (fun _ _ _ k => k) (fun b k => ?_) fun b xs k => ?_
        · refine (if_neg fun z2 => ?_).trans k
          obtain ⟨_, _, _, _, n⟩ := cg b z2
          rw [n] at k; cases k
        · refine (if_neg fun z2 => ?_).trans k
          obtain ⟨_, _, _, _, n⟩ := cg b z2
          rw [n] at k; cases k
/-- behind the call the cells are the frame's again -/
theorem plus_back {P : Program} {w : World} {outer : List Env} {H2 : Hp} {s' : Shared} {u : Value} {Q : VK} {ws : List (Option V)} (p : Plus cl fr ws H H2) (ok : HOk P w H2 s.heap) (frf : ∀ b ∈ frs outer, H2 b = none)
    (h : CE outer P w H2 s (fun v H3 => WithC cl fr ws H3 → Q v (offC cl H3)) u s') : CE outer P w H s Q u s' := by
  obtain ⟨v, H3, os, bare, un, hok, r, q⟩ := h
  have W3 := p.w.same un.frzs
  have cg : ∀ {b}, AtC cl b → ∃ o, H2 b = some (.frz o (.own b)) ∧ s.heap.get? b = some o := fun {b} c => by
    obtain ⟨o, v, h1, _⟩ := p.w.at_ c
    obtain ⟨z, _⟩ := ok _ _ h1
    exact ⟨o, h1, z⟩
  have ks : ∀ b o, s.heap.get? b = some o → AtC cl b → s'.heap.get? b = some o := fun b o e c => by
    obtain ⟨o', h1, h2⟩ := cg c
    rw [h2] at e
    cases e
    obtain ⟨z, _⟩ := hok _ _ (un.frzs _ _ _ h1)
    exact z
  have nn : ∀ {b y}, H b = some y → ¬ AtC cl b := fun {b y} e c => by rw [p.no b c] at e; cases e
  refine ⟨v, offC cl H3, os, bare, ⟨fun b o e n hb hx => ?_, fun b o e n hb hx => ?_, fun b o e n hx => ?_, un.there, fun b xs e => ?_, fun b o x e => ?_, fun b ps e => ?_⟩, W3.hok hok, r, q W3⟩
  · by_cases c : AtC cl b
    · exact ks b o e c
    · exact un.keep b o e ((p.eq b c).trans n) hb hx
  · by_cases c : AtC cl b
    · exact ⟨o.slots, ks b o e c⟩
    · exact un.slot b o e ((p.eq b c).trans n) hb hx
  · by_cases c : AtC cl b
    · exact offC_at c
    · exact offC_none (un.free b o e ((p.eq b c).trans n) hx)
  · rw [offC_ne (nn e)]
    exact un.tups b xs ((p.eq b (nn e)).trans e)
  · rw [offC_ne (nn e)]
    exact un.frzs b o x ((p.eq b (nn e)).trans e)
  · rw [offC_ne (nn e)]
    exact un.tbls b ps ((p.eq b (nn e)).trans e)
variable {k : Nat} {f : Addr} {fd : FuncData} {ps : List Str} {sp : Sp} {x : Str} {p pos : Pos} {e : Expr} {es : List Expr} {t : TA}
theorem pe_callW (F : FnOk X.prog X.w X.K X.mg X.base CX0 k f fd ps sp) (hr : Room k X.A) (hg : Gl X x) (hm : X.mg x = some (.ref f)) (hk : PySem.W.keepIn X.K (.ref f) = true) (hb : Binds X.K fd ps [])
    (cp : X.Ok → Caps X cl fr js) (mem : X.Ok → ∀ p ∈ cl, X.env.cells.lookup p.1 = some p.2) (hfn : ∀ p ∈ cl, X.fn p.1 = true)
    (ha : PA X (e :: es) t) (hdb : (x == ("__debug__" : Str)) = false := by decide) (he : starEach (e :: es) X.env = (false, eval e X.env) :: starEach es X.env := by rfl) (hpl : (backTo pos (starEach es X.env)).any (·.1) = false := by rfl) :
    PE X (.Call (.Name x p) (e :: es) [] pos) (tCallW cl fr js sp t) := by
  refine ⟨fun pins s σ H Q I h => ?_⟩
  refine wpAny_Call_Name_kw (ld_glob I hg hm ?_ hdb)
  refine PySem.W.callWith_K (h₀ := X.base) I.ok.mod.kin hk (thn (ha.run pos pins s σ H _ I h) fun us s1 ⟨vs, H1, I1, r, q⟩ => ⟨I1.kIn, ?_⟩) he hpl
  obtain ⟨H2, pl, e2⟩ := plus_of I1 (cp I1.ok) (mem I1.ok) hfn
  have q2 := q H2 pl
  have hl : us.length = ps.length := by rw [← r.length]; exact F.len _ _ _ _ q2
  have hb' := hb s1 us I1.kIn (by rw [List.append_nil]; exact hl)
  rw [List.append_nil] at hb'
  show wpAny _ _ (call (.ref f) us) _ _ _
  refine wpAny_call (codeAny_mono (F.run X.A X.stack s1 H2 ⟨us, []⟩ us vs _ _ hr e2 hb' r q2) fun r s' hq => ?_)
  cases r with
  | error e => exact (show False from hq).elim
  | ok fl =>
    cases fl with
    | ret u => exact I1.after (plus_back pl e2.hok e2.frf hq)
    | next => exact False.elim hq
    | brk => exact False.elim hq
    | cont => exact False.elim hq
/-- the members of a made function's cells -/
theorem clo_mem {cells : List (Str × Addr)} {names : List (Str × NameKind)} (hfree : ∀ y ∈ names, y.2 = .free → ∃ c, cells.lookup y.1 = some c) : ∀ p ∈ cloFrom cells names [], cells.lookup p.1 = some p.2 := fun p hp => by
  rcases cloFrom_mem (show (p.1, p.2) ∈ _ from hp) with hm | ⟨h1, h2⟩
  · cases hm
  · obtain ⟨c1, hc⟩ := hfree _ h1 rfl
    have hc : cells.lookup p.1 = some c1 := hc
    have e2 : p.2 = c1 := by
      rw [h2, hc] <;> rfl
    rw [e2]
    exact hc
theorem caps_mem {scope : Scope} (ok : X.Ok) (hfree : ∀ y ∈ scope.names, y.2 = .free → X.env.scope.names.lookup y.1 = some .cell ∨ X.env.scope.names.lookup y.1 = some .free) : ∀ p ∈ cloFrom X.env.cells scope.names [], X.env.cells.lookup p.1 = some p.2 :=
  clo_mem fun y hy e => (hfree y hy e).elim (fun z => ok.has _ (.inl z)) fun z => ok.has _ (.inr z)
end
end E

set_option Elab.async false
set_option linter.all false
set_option maxRecDepth 100000
set_option maxHeartbeats 4000000
namespace E
open PySem PySem.Spec PyProof.Rows L2
abbrev topS (i : Nat) : Stmt := PySem.Challenge.pw_elsewhere_k06_polarities_and_guards.main.body.getD i (.Pass ⟨0, 0, 0, 0⟩)
abbrev s_parts_of : Stmt := topS 1
theorem sc_parts_of : FnScope ["a"] ["a"] (defScope s_parts_of) := ⟨rfl, rfl, rfl, by decide +kernel, rfl, by decide +kernel, by decide +kernel⟩
abbrev s_distinct : Stmt := topS 2
theorem sc_distinct : FnScope ["rows", "found", "row"] ["rows"] (defScope s_distinct) := ⟨rfl, rfl, rfl, by decide +kernel, rfl, by decide +kernel, by decide +kernel⟩
abbrev s_levels_of : Stmt := topS 3
theorem sc_levels_of : FnScope ["a"] ["a"] (defScope s_levels_of) := ⟨rfl, rfl, rfl, by decide +kernel, rfl, by decide +kernel, by decide +kernel⟩
abbrev s_levels_from : Stmt := topS 4
theorem sc_levels_from : FnScope ["formulas", "levels", "level", "b", "part"] ["formulas"] (defScope s_levels_from) := ⟨rfl, rfl, rfl, by decide +kernel, rfl, by decide +kernel, by decide +kernel⟩
abbrev s_place_of : Stmt := topS 5
theorem sc_place_of : FnScope ["rows", "row", "low", "high", "middle"] ["rows", "row"] (defScope s_place_of) := ⟨rfl, rfl, rfl, by decide +kernel, rfl, by decide +kernel, by decide +kernel⟩
abbrev s_folded : Stmt := topS 6
theorem sc_folded : FnScope ["a", "value_of", "numbers", "values", "below", "numbers_below", "level", "numbers_here", "b", "parts", "key", "part", "k"] ["a", "value_of"] (defScope s_folded) := ⟨rfl, rfl, rfl, by decide +kernel, rfl, by decide +kernel, by decide +kernel⟩
abbrev s_polarities : Stmt := topS 8
theorem sc_polarities : FnScope ["a"] ["a"] (defScope s_polarities) := ⟨rfl, rfl, rfl, by decide +kernel, rfl, by decide +kernel, by decide +kernel⟩
abbrev s_polarities_of : Stmt := topS 9
theorem sc_polarities_of : FnScope ["a", "parts", "found", "k", "signs", "turned", "name", "positive", "negative", "before"] ["a", "parts"] (defScope s_polarities_of) := ⟨rfl, rfl, rfl, by decide +kernel, rfl, by decide +kernel, by decide +kernel⟩
abbrev s_is_guarded : Stmt := topS 10
theorem sc_is_guarded : FnScope ["a", "name", "value_of"] ["a", "name"] (defScope s_is_guarded) := ⟨rfl, rfl, rfl, by decide +kernel, rfl, by decide +kernel, by decide +kernel⟩
abbrev s_is_guarded_value_of : Stmt := (defBody s_is_guarded).getD 0 (.Pass ⟨0, 0, 0, 0⟩)
theorem nsc_is_guarded_value_of : NdefX.NScope ["b", "parts", "name"] ["b", "parts"] ["name"] (C8.fnScope s_is_guarded_value_of) := NdefX.nscope_by (by decide +kernel)
theorem fsc_is_guarded_value_of : NdefX.ndefB (defScope s_is_guarded) (C8.fnScope s_is_guarded_value_of) ["name"] = true := by decide +kernel
abbrev s_law_pool : Stmt := topS 12
theorem sc_law_pool : FnScope ["script", "salt", "cell"] ["script"] (defScope s_law_pool) := ⟨rfl, rfl, rfl, by decide +kernel, rfl, by decide +kernel, by decide +kernel⟩
abbrev s_law_spread : Stmt := topS 13
theorem sc_law_spread : FnScope ["cell", "mixed", "total", "k"] ["cell"] (defScope s_law_spread) := ⟨rfl, rfl, rfl, by decide +kernel, rfl, by decide +kernel, by decide +kernel⟩
abbrev s_law_draw : Stmt := topS 14
theorem sc_law_draw : FnScope ["pool", "many", "cell", "mixed", "value"] ["pool", "many"] (defScope s_law_draw) := ⟨rfl, rfl, rfl, by decide +kernel, rfl, by decide +kernel, by decide +kernel⟩
abbrev s_law_same : Stmt := topS 15
theorem sc_law_same : FnScope ["actual", "due", "k"] ["actual", "due"] (defScope s_law_same) := ⟨rfl, rfl, rfl, by decide +kernel, rfl, by decide +kernel, by decide +kernel⟩
abbrev s_law_formula : Stmt := topS 16
theorem sc_law_formula : FnScope ["pool", "depth", "plain", "number", "kind", "first"] ["pool", "depth", "plain"] (defScope s_law_formula) := ⟨rfl, rfl, rfl, by decide +kernel, rfl, by decide +kernel, by decide +kernel⟩
abbrev s_law_list : Stmt := topS 17
theorem sc_law_list : FnScope ["pool", "many", "k"] ["pool", "many"] (defScope s_law_list) := ⟨rfl, rfl, rfl, by decide +kernel, rfl, by decide +kernel, by decide +kernel⟩
abbrev s_law_some : Stmt := topS 18
theorem sc_law_some : FnScope ["pool", "depth", "plain"] ["pool", "depth", "plain"] (defScope s_law_some) := ⟨rfl, rfl, rfl, by decide +kernel, rfl, by decide +kernel, by decide +kernel⟩
abbrev s_law_parts : Stmt := topS 19
theorem sc_law_parts : FnScope ["a"] ["a"] (defScope s_law_parts) := ⟨rfl, rfl, rfl, by decide +kernel, rfl, by decide +kernel, by decide +kernel⟩
abbrev s_law_signs : Stmt := topS 20
theorem sc_law_signs : FnScope ["a", "odd", "boxed", "found", "part"] ["a", "odd", "boxed"] (defScope s_law_signs) := ⟨rfl, rfl, rfl, by decide +kernel, rfl, by decide +kernel, by decide +kernel⟩
abbrev s_law : Stmt := topS 21
theorem sc_law : FnScope ["script", "pool", "a", "rows", "due", "row", "told", "name", "one"] ["script"] (defScope s_law) := ⟨rfl, rfl, rfl, by decide +kernel, rfl, by decide +kernel, by decide +kernel⟩
structure Top (K : PySem.W.Frag) (mg : Str → Option Value) where
  f_parts_of : Addr
  d_parts_of : FuncData
  F_parts_of : Fun K "parts_of" "parts_of" s_parts_of f_parts_of d_parts_of
  b_parts_of : Binds K d_parts_of ["a"] []
  m_parts_of : mg "parts_of" = some (.ref f_parts_of)
  f_distinct : Addr
  d_distinct : FuncData
  F_distinct : Fun K "distinct" "distinct" s_distinct f_distinct d_distinct
  b_distinct : Binds K d_distinct ["rows"] []
  m_distinct : mg "distinct" = some (.ref f_distinct)
  f_levels_of : Addr
  d_levels_of : FuncData
  F_levels_of : Fun K "levels_of" "levels_of" s_levels_of f_levels_of d_levels_of
  b_levels_of : Binds K d_levels_of ["a"] []
  m_levels_of : mg "levels_of" = some (.ref f_levels_of)
  f_levels_from : Addr
  d_levels_from : FuncData
  F_levels_from : Fun K "levels_from" "levels_from" s_levels_from f_levels_from d_levels_from
  b_levels_from : Binds K d_levels_from ["formulas"] []
  m_levels_from : mg "levels_from" = some (.ref f_levels_from)
  f_place_of : Addr
  d_place_of : FuncData
  F_place_of : Fun K "place_of" "place_of" s_place_of f_place_of d_place_of
  b_place_of : Binds K d_place_of ["rows", "row"] []
  m_place_of : mg "place_of" = some (.ref f_place_of)
  f_folded : Addr
  d_folded : FuncData
  F_folded : Fun K "folded" "folded" s_folded f_folded d_folded
  b_folded : Binds K d_folded ["a", "value_of"] []
  m_folded : mg "folded" = some (.ref f_folded)
  f_polarities : Addr
  d_polarities : FuncData
  F_polarities : Fun K "polarities" "polarities" s_polarities f_polarities d_polarities
  b_polarities : Binds K d_polarities ["a"] []
  m_polarities : mg "polarities" = some (.ref f_polarities)
  f_polarities_of : Addr
  d_polarities_of : FuncData
  F_polarities_of : Fun K "_polarities_of" "_polarities_of" s_polarities_of f_polarities_of d_polarities_of
  b_polarities_of : Binds K d_polarities_of ["a", "parts"] []
  m_polarities_of : mg "_polarities_of" = some (.ref f_polarities_of)
  f_is_guarded : Addr
  d_is_guarded : FuncData
  F_is_guarded : Fun K "is_guarded" "is_guarded" s_is_guarded f_is_guarded d_is_guarded
  b_is_guarded : Binds K d_is_guarded ["a", "name"] []
  m_is_guarded : mg "is_guarded" = some (.ref f_is_guarded)
  f_law_pool : Addr
  d_law_pool : FuncData
  F_law_pool : Fun K "_law_pool" "_law_pool" s_law_pool f_law_pool d_law_pool
  b_law_pool : Binds K d_law_pool ["script"] []
  m_law_pool : mg "_law_pool" = some (.ref f_law_pool)
  f_law_spread : Addr
  d_law_spread : FuncData
  F_law_spread : Fun K "_law_spread" "_law_spread" s_law_spread f_law_spread d_law_spread
  b_law_spread : Binds K d_law_spread ["cell"] []
  m_law_spread : mg "_law_spread" = some (.ref f_law_spread)
  f_law_draw : Addr
  d_law_draw : FuncData
  F_law_draw : Fun K "_law_draw" "_law_draw" s_law_draw f_law_draw d_law_draw
  b_law_draw : Binds K d_law_draw ["pool", "many"] []
  m_law_draw : mg "_law_draw" = some (.ref f_law_draw)
  f_law_same : Addr
  d_law_same : FuncData
  F_law_same : Fun K "_law_same" "_law_same" s_law_same f_law_same d_law_same
  b_law_same : Binds K d_law_same ["actual", "due"] []
  m_law_same : mg "_law_same" = some (.ref f_law_same)
  f_law_formula : Addr
  d_law_formula : FuncData
  F_law_formula : Fun K "_law_formula" "_law_formula" s_law_formula f_law_formula d_law_formula
  b_law_formula : Binds K d_law_formula ["pool", "depth", "plain"] []
  m_law_formula : mg "_law_formula" = some (.ref f_law_formula)
  f_law_list : Addr
  d_law_list : FuncData
  F_law_list : Fun K "_law_list" "_law_list" s_law_list f_law_list d_law_list
  b_law_list : Binds K d_law_list ["pool", "many"] []
  m_law_list : mg "_law_list" = some (.ref f_law_list)
  f_law_some : Addr
  d_law_some : FuncData
  F_law_some : Fun K "_law_some" "_law_some" s_law_some f_law_some d_law_some
  b_law_some : Binds K d_law_some ["pool", "depth", "plain"] []
  m_law_some : mg "_law_some" = some (.ref f_law_some)
  f_law_parts : Addr
  d_law_parts : FuncData
  F_law_parts : Fun K "_law_parts" "_law_parts" s_law_parts f_law_parts d_law_parts
  b_law_parts : Binds K d_law_parts ["a"] []
  m_law_parts : mg "_law_parts" = some (.ref f_law_parts)
  f_law_signs : Addr
  d_law_signs : FuncData
  F_law_signs : Fun K "_law_signs" "_law_signs" s_law_signs f_law_signs d_law_signs
  b_law_signs : Binds K d_law_signs ["a", "odd", "boxed"] []
  m_law_signs : mg "_law_signs" = some (.ref f_law_signs)
  f_law : Addr
  d_law : FuncData
  F_law : Fun K "law" "law" s_law f_law d_law
  b_law : Binds K d_law ["script"] []
  m_law : mg "law" = some (.ref f_law)
  z_all : mg "all" = none
  z_bool : mg "bool" = none
  z_dict : mg "dict" = none
  z_enumerate : mg "enumerate" = none
  z_int : mg "int" = none
  z_isinstance : mg "isinstance" = none
  z_len : mg "len" = none
  z_list : mg "list" = none
  z_range : mg "range" = none
  z_reversed : mg "reversed" = none
  z_sorted : mg "sorted" = none
  z_str : mg "str" = none
  z_tuple : mg "tuple" = none
  c_is_guarded : Addr
  P_is_guarded : Addr
  C_is_guarded : FunC K "is_guarded" "is_guarded" s_is_guarded f_is_guarded d_is_guarded c_is_guarded
  dT : [P_is_guarded].Nodup
abbrev Top.tabs {K : PySem.W.Frag} {mg : Str → Option Value} (T : Top K mg) : List NdefX.NTab := [(T.P_is_guarded, fun _ _ => "is_guarded.<locals>.value_of")]
abbrev Top.cs {K : PySem.W.Frag} {mg : Str → Option Value} (T : Top K mg) : List (Addr × Addr) := [(T.c_is_guarded, T.P_is_guarded)]
section
variable {P : Program} {w : World} {K : PySem.W.Frag} {mg : Str → Option Value} {base : Heap}

/-! ### parts, distinct items, levels -/
def spParts (K : PySem.W.Frag) : Sp := fun vs H Q _ => ∃ (x : V) (f : Fm), vs = [x] ∧ Im K H x f.d ∧ ∀ (p : Addr) (ys : List V) (H' : Hp), Same H H' → SqT K H' p ys → ImAll K H' ys (f.kids.map Fm.d) → Q (.ref p) H'
theorem ok_parts_of (T : Top K mg) : FnOk P w K mg base CX0 1 T.f_parts_of T.d_parts_of ["a"] (spParts K) := by
  refine T.F_parts_of.ok sc_parts_of (fun vs H Q E h => ?_) (fun cdv A outer s H vs Q E hr h => ?_)
  · obtain ⟨x, f, rfl, _⟩ := h
    rfl
  obtain ⟨x, f, rfl, hx, k⟩ := h
  refine ⟨_, (pss_cons (ps_if (pt_cmpR op_eq (pe_ix ix_tup (pv 0) pe_int (fun _ _ => rfl)) pe_str (nomark _))
      (pss_one (ps_ret (pe_tup pa_nil)))
      pss_nil)
    (pss_one (ps_ret (pe_slice sl_tupA (pv 0) (po_some pe_int) po_none)))), ?_⟩
  obtain ⟨a, ys, rfl, h1, h2⟩ := im_inv hx
  refine ⟨_, rfl, a, _, 0, _, rfl, rfl, h1, atI_nat (j := 0) rfl, rfl, _, rfl, ?_⟩
  rw [sg_var]
  cases hv : f.isVar with
  | true =>
    refine iteT ⟨(by show 0 ≤ sizeLine; decide), fun p np => ?_⟩
    obtain ⟨e, _⟩ := kids_var hv
    exact k p [] _ (same_new np) (SqT.of upd_same) (by rw [e]; exact .nil)
  | false =>
    refine iteF ⟨_, rfl, 1, rfl, a, _, rfl, h1, fun e => ?_, fun _ p np => ?_⟩
    · rw [sIx_1] at e
      exact absurd e.1 (by decide)
    · rw [cut_1]
      have s1 := same_new (o := .tup ys) np
      exact k p ys _ s1 (SqT.of upd_same) (by rw [← kids_pts hv]; exact h2.mono (Same.ts s1))
def Ok1 (f : Fm) : Prop := f.d.canLay0 = true ∧ f.ht ≤ 63
def spDistinct (K : PySem.W.Frag) : Sp := fun vs H Q _ => ∃ (a : Addr) (xs : List V) (fs : List Fm), vs = [.ref a] ∧ SqL K H a xs ∧ ImAll K H xs (fs.map Fm.d) ∧ (∀ f ∈ fs, Ok1 f) ∧ fs.length ≤ 1000000 ∧
  ∀ (p : Addr) (ys : List V) (H' : Hp), H p = none → Same H H' → H' p = some (.lst ys) → ImAll K H' ys ((dist fs).map Fm.d) → Q (.ref p) H'
theorem ok1_shaped {f : Fm} (h : Ok1 f) : SeqAt.shaped f.d = true := by
  unfold SeqAt.shaped
  rw [h.1, Fm.depth]
  exact decide_eq_true (Nat.le_trans h.2 (by decide))
theorem ok_distinct (T : Top K mg) : FnOk P w K mg base CX0 1 T.f_distinct T.d_distinct ["rows"] (spDistinct K) := by
  refine T.F_distinct.ok sc_distinct (fun vs H Q E h => ?_) (fun cdv A outer s H vs Q E hr h => ?_)
  · obtain ⟨a, xs, fs, rfl, _⟩ := h
    rfl
  obtain ⟨a, xs, fs, rfl, hS, hI, hok, hlen, k⟩ := h
  have hu64 := hr.units
  have hu200 := hr.un
  refine ⟨_, (pss_cons (ps_set (i := 1) sc_distinct.nd rfl (.inl rfl) (pe_lst pa_nil))
    (pss_cons (ps_for PassesOwn.never rfl (pi_list (pe_callB (cr_sortedF hu200) (by rfl) T.z_sorted (by decide +kernel) (pa_cons (pv 0) pa_nil))) (pg_name (i := 2) sc_distinct.nd rfl (.inl rfl))
      (pss_one (ps_if (PW.pt (pw_or (pt_not (pt_truth (pv 1) (fun _ => rfl))) (pw_or1 (pt_cmpR (op_neD hu64) (pv 2) (pe_ix ix_list (pv 1) (pe_un un_neg pe_int) (fun _ _ => rfl)) (nomark _)))))
      (pss_one (ps_expr (pe_bm PySem.F.plainAttrs_list PySem.F.slot_list_append PySem.F.type_list_append mt_append (pv 1) (pa_cons (pv 2) pa_nil))))
      pss_nil)))
    (pss_one (ps_ret (pv 1))))), ?_⟩
  refine ⟨Nat.zero_le _, fun d nd => ?_⟩
  have s1 := same_new (o := .lst []) nd
  refine ⟨_, rfl, a, xs, fs, rfl, s1.seq hS, hI.mono (Same.ts s1), fun f hf => ⟨(hok f hf).1, Nat.le_trans (hok f hf).2 (by decide)⟩, fun p ys np iy => ?_⟩
  have s2 := same_new (o := .lst ys) np
  have hl := fms_len iy
  have hlm : (fs.mergeSort Fm.le).length = fs.length := List.length_mergeSort fs
  have dp : d ≠ p := ne_of_none upd_same np
  refine ⟨p, rfl, ⟨_, SqL.of upd_same⟩, for_list (K := K) (a := p) (xs := ys) (fun i σ H2 => ∃ (v : Option V) (zs : List V), σ = [some (.ref a), some (.ref d), v] ∧ Same H H2 ∧ H2 p = some (.lst ys) ∧ H2 d = some (.lst zs) ∧ ImAll K H2 ys ((fs.mergeSort Fm.le).map Fm.d) ∧ ImAll K H2 zs ((dd ((fs.mergeSort Fm.le).take i)).map Fm.d))
    ⟨none, [], rfl, s1.trans s2, upd_same, s2 _ _ upd_same, iy.mono (Same.ts s2), .nil⟩ (fun i σ H2 _ h => by
      obtain ⟨_, _, _, _, h, _⟩ := h
      exact SqL.of h) ?_ ?_⟩
  · rintro i x σ H2 hx ⟨v, zs, rfl, s3, hp, hd, iy2, iz⟩
    obtain ⟨f, hf, ix⟩ := imAll_of iy2 hx
    have hi : i < ys.length := (List.getElem?_eq_some_iff.mp hx).1
    have hfm : f ∈ fs := (List.mergeSort_perm fs Fm.le).mem_iff.mp (List.mem_of_getElem? hf)
    have hzl := fms_len iz
    have hzb : (dd ((fs.mergeSort Fm.le).take i)).length ≤ i := by
      have h1 : ((fs.mergeSort Fm.le).take i).Pairwise fun a b => a.le b = true := (ms_sorted fs).sublist (List.take_sublist _ _)
      have := (dd_spec _ h1).2.2.1.length_le
      rw [List.length_take] at this
      omega
    have sz : zs.length < sizeLine := Nat.lt_of_le_of_lt (show zs.length ≤ 1000000 by omega) (by decide)
    have app : ∀ H3, H3 = upd H2 d (.lst (zs ++ [x])) → dd ((fs.mergeSort Fm.le).take (i + 1)) = dd ((fs.mergeSort Fm.le).take i) ++ [f] → ∃ (v : Option V) (zs : List V), [some (V.ref a), some (V.ref d), some x] = [some (.ref a), some (.ref d), v] ∧ Same H H3 ∧ H3 p = some (.lst ys) ∧ H3 d = some (.lst zs) ∧ ImAll K H3 ys ((fs.mergeSort Fm.le).map Fm.d) ∧ ImAll K H3 zs ((dd ((fs.mergeSort Fm.le).take (i + 1))).map Fm.d) := by
      rintro _ rfl e
      have tt := Kp.upd.ts (H := H2) (p := d) (H' := upd H2 d (.lst (zs ++ [x]))) hd
      refine ⟨_, _, rfl, fun b o hb => ?_, ?_, upd_same, iy2.mono tt, ?_⟩
      · rw [upd_ne (ne_of_none hb nd)]
        exact s3 _ _ hb
      · rw [upd_ne dp.symm]
        exact hp
      · rw [e, fm_snoc]
        exact (iz.mono tt).snoc (ix.mono tt)
    have ed : dd ((fs.mergeSort Fm.le).take (i + 1)) = if (dd ((fs.mergeSort Fm.le).take i)).getLast? = some f then dd ((fs.mergeSort Fm.le).take i) else dd ((fs.mergeSort Fm.le).take i) ++ [f] := by
      rw [take_snoc hf, dd_snoc]
    rcases hz : zs with _ | ⟨z0, zr⟩
    · subst hz
      have e0 : dd ((fs.mergeSort Fm.le).take i) = [] := List.length_eq_zero_iff.mp hzl.symm
      refine ⟨_, rfl, _, .inl ⟨_, SqL.of hd, rfl⟩, iteT (iteT ?_)⟩
      refine ⟨_, rfl, .inl ⟨rfl, _, .inl (.inl hd)⟩, _, rfl, d, [], x, rfl, rfl, hd, sz, ?_⟩
      exact app _ rfl (by rw [ed, e0, if_neg (by simp)])
    · have hne : zs.isEmpty = false := by rw [hz]; rfl
      have hpos : 0 < zs.length := by rw [hz]; exact Nat.succ_pos _
      refine ⟨_, rfl, _, .inl ⟨_, SqL.of hd, rfl⟩, ?_⟩
      rw [hne]
      have gl := List.getElem?_eq_getElem (l := zs) (i := zs.length - 1) (by omega)
      obtain ⟨g, hg, ig⟩ := imAll_of iz gl
      have glast : (dd ((fs.mergeSort Fm.le).take i)).getLast? = some g := by
        rw [List.getLast?_eq_getElem?, ← hzl]
        exact hg
      have hgm : g ∈ fs := by
        have h1 : ((fs.mergeSort Fm.le).take i).Pairwise fun a b => a.le b = true := (ms_sorted fs).sublist (List.take_sublist _ _)
        have h2 := ((dd_spec _ h1).2.1 g).mp (List.mem_of_getLast? glast)
        exact (List.mergeSort_perm fs Fm.le).mem_iff.mp (List.mem_of_mem_take h2)
      refine iteF ⟨_, rfl, _, rfl, 1, rfl, d, zs, -1, _, rfl, rfl, SqL.of hd, atI_m1 gl, _, _, ix.dp, ig.dp, ok1_shaped (hok f hfm), ok1_shaped (hok g hgm), _, rfl, ?_⟩
      rw [Fm.eqv]
      by_cases e : f = g
      · rw [decide_eq_true e]
        refine iteF ?_
        refine ⟨_, _, rfl, s3, hp, hd, iy2, ?_⟩
        rw [ed, if_pos (by rw [glast, e])]
        exact iz
      · rw [decide_eq_false e]
        refine iteT ?_
        refine ⟨_, rfl, .inl ⟨rfl, _, .inl (.inl hd)⟩, _, rfl, d, zs, x, rfl, rfl, hd, sz, ?_⟩
        exact app _ rfl (by rw [ed, if_neg (by rw [glast]; exact fun q => e (Option.some.inj q).symm)])
  · rintro σ H2 ⟨v, zs, rfl, s3, hp, hd, _, iz⟩
    rw [hl, hlm, ← hlm, List.take_length] at iz
    exact ⟨_, rfl, k d zs H2 nd s3 hd iz⟩
/-- a list of levels, each a new list -/
def spLevelsF (K : PySem.W.Frag) : Sp := fun vs H Q _ => ∃ (q : Addr) (x : V) (f : Fm) (n : Nat), vs = [.ref q] ∧ SqL K H q [x] ∧ Im K H x f.d ∧ (∀ g ∈ f.subs, Ok1 g) ∧ f.ht ≤ n ∧ f.sz ≤ 100000 ∧
  ∀ (p : Addr) (vs : List V) (H' : Hp), H p = none → Same H H' → H' p = some (.lst vs) → LvAt K H' vs (levs n [f]) → Q (.ref p) H'
theorem dist_sing (f : Fm) : dist [f] = [f] := dist_self (List.pairwise_singleton _ _)
theorem ok_levels_from (T : Top K mg) : FnOk P w K mg base CX0 2 T.f_levels_from T.d_levels_from ["formulas"] (spLevelsF K) := by
  have G_parts_of : FnOk P w K mg base CX0 1 T.f_parts_of T.d_parts_of ["a"] (spParts K) := ok_parts_of T
  have G_distinct : FnOk P w K mg base CX0 1 T.f_distinct T.d_distinct ["rows"] (spDistinct K) := ok_distinct T
  refine T.F_levels_from.ok sc_levels_from (fun vs H Q E h => ?_) (fun cdv A outer s H vs Q E hr h => ?_)
  · obtain ⟨q, x, f, n, rfl, _⟩ := h
    rfl
  obtain ⟨q, x, f, n, rfl, hq, hx, hok, hn, hsz, k⟩ := h
  refine ⟨_, (pss_cons (ps_set (i := 1) sc_levels_from.nd rfl (.inl rfl) (pe_lst pa_nil))
    (pss_cons (ps_set (i := 2) sc_levels_from.nd rfl (.inl rfl) (pe_call G_distinct (hr.mono (by omega)) (by rfl) T.m_distinct T.F_distinct.kp T.b_distinct .nil pass0 (pa_cons (pv 0) pa_nil)))
    (pss_cons (ps_while PassesOwn.never (pt_truth (pv 2) (fun _ => rfl))
      (pss_cons (ps_expr (pe_bm PySem.F.plainAttrs_list PySem.F.slot_list_append PySem.F.type_list_append mt_append (pv 1) (pa_cons (pv 2) pa_nil)))
    (pss_one (ps_set (i := 2) sc_levels_from.nd rfl (.inl rfl) (pe_call G_distinct (hr.mono (by omega)) (by rfl) T.m_distinct T.F_distinct.kp T.b_distinct .nil pass0 (pa_cons (pe_lc2 (own := [("b", 3), ("part", 4)]) (vs1 := [4]) (g := gName 3) (g1 := gName 4) (tt := tYes) (tt1 := tYes) (wi1 := iTup K _) rfl sc_levels_from.nd (pi_list (pv 2)) (blkOk_by (N := ["formulas", "levels", "level", "b", "part"]) (sc := defScope s_levels_from) (by decide +kernel)) (by decide) (fun _ _ _ _ _ => pg_name (i := 3) sc_levels_from.nd rfl (Or.inl rfl)) (fun _ _ _ _ _ => pts_nil) (fun _ _ _ _ _ => (pi_tup (pe_call G_parts_of (hr.mono (by omega)) (by rfl) T.m_parts_of T.F_parts_of.kp T.b_parts_of .nil pass0 (pa_cons (pv 3) pa_nil)))) (fun _ _ _ _ _ => pg_name (i := 4) sc_levels_from.nd rfl (Or.inl rfl)) (fun _ _ _ _ _ => pts_nil) (fun _ _ _ _ _ => (pv 4))) pa_nil))))))
    (pss_one (ps_ret (pv 1)))))), ?_⟩
  refine ⟨Nat.zero_le _, fun L nL => ?_⟩
  have s1 := same_new (o := .lst []) nL
  refine ⟨_, rfl, q, [x], [f], rfl, s1.seq hq, .cons (hx.mono (Same.ts s1)) .nil, fun g hg => hok g (by rw [List.mem_singleton.mp hg]; exact subs_kids.mpr (.inl rfl)), by show 1 ≤ 1000000; decide, fun c0 ys0 Hs nc0 ss hc0 hI0 => ?_⟩
  rw [dist_sing] at hI0
  have s2 := s1.trans ss
  have hLs := ss _ _ (@upd_same H L (.lst []))
  have nLc : L ≠ c0 := ne_of_none upd_same nc0
  refine ⟨fun m σ H2 => ∃ (vs : List V) (acc : List (List Fm)) (c : Addr) (ys : List V) (cur : List Fm) (v3 v4 : Option V), σ = [some (.ref q), some (.ref L), some (.ref c), v3, v4] ∧ Same H H2 ∧ H2 L = some (.lst vs) ∧ LvAt K H2 vs acc ∧ (∀ v ∈ vs, v ≠ .ref L) ∧ c ≠ L ∧ SqL K H2 c ys ∧ ImAll K H2 ys (cur.map Fm.d) ∧ (∀ g ∈ cur, g ∈ f.subs ∧ g.ht ≤ m) ∧ (cur.map Fm.sz).sum ≤ 100000 ∧ acc ++ levs m cur = levs n [f] ∧ acc.length + m ≤ n,
    ⟨n, [], [], c0, ys0, [f], none, none, rfl, s2, hLs, .nil, (fun v hv => nomatch hv), nLc.symm, SqL.of hc0, hI0, ?_, by simpa using hsz, rfl, by simp⟩, ?_⟩
  · intro g hg
    rw [List.mem_singleton.mp hg]
    exact ⟨subs_kids.mpr (.inl rfl), hn⟩
  rintro m σ H2 ⟨vs, acc, c, ys, cur, v3, v4, rfl, s3, hL, lv, nv, ncL, hc, iy, hcur, hsum, hlev, hlen⟩
  have hyl := fms_len iy
  refine ⟨_, rfl, _, .inl ⟨ys, hc, rfl⟩, ?_⟩
  cases hcu : cur with
  | nil =>
    have e : ys = [] := by
      rw [hcu] at hyl
      exact List.length_eq_zero_iff.mp hyl
    subst e
    rw [hcu, levs_nil, List.append_nil] at hlev
    exact iteF ⟨_, rfl, k L vs H2 nL s3 hL (by rw [← hlev]; exact lv)⟩
  | cons g0 gr =>
    have hne : ys.isEmpty = false := by
      rw [hcu] at hyl
      cases ys with
      | nil => cases hyl
      | cons _ _ => rfl
    rw [hne]
    have hm : 1 ≤ m := by
      have h1 := (hcur g0 (by rw [hcu]; exact List.mem_cons_self)).2
      have h2 := g0.ht_pos
      omega
    obtain ⟨m', rfl⟩ : ∃ m', m = m' + 1 := ⟨m - 1, by omega⟩
    have hl2 : levs (m' + 1) cur = cur :: levs m' (down cur) := by
      rw [levs, if_neg (by rw [hcu]; simp)]
    rw [hl2] at hlev
    refine iteT ⟨_, fun σ' H' h => ⟨m', Nat.lt_succ_self _, h⟩, ?_⟩
    -- levels.append(level)
    have hvl := lv.len
    have hn2 : acc.length ≤ 1000000 := by
      have h1 : acc.length ≤ (levs n [f]).length := by rw [← hlev, List.length_append]; exact Nat.le_add_right _ _
      have h2 : (levs n [f]).length ≤ ((levs n [f]).map List.length).sum := by
        have : ∀ (n : Nat) (l : List Fm), (levs n l).length ≤ ((levs n l).map List.length).sum := by
          intro n
          induction n with
          | zero => exact fun _ => Nat.le_refl _
          | succ n ih =>
            intro l
            rw [levs]
            split
            · exact Nat.le_refl _
            · rename_i hl
              rw [List.length_cons, List.map_cons, List.sum_cons]
              have := ih (down l)
              have : 0 < l.length := List.length_pos_iff.mpr hl
              omega
        exact this n [f]
      have h3 := levs_sum n [f]
      have h4 : ([f].map Fm.sz).sum = f.sz := by simp
      omega
    refine ⟨_, rfl, .inl ⟨rfl, _, .inl (.inl hL)⟩, _, rfl, L, vs, .ref c, rfl, rfl, hL, Nat.lt_of_le_of_lt (show vs.length ≤ 1000000 by omega) (by decide), ?_⟩
    have kL : Kp L H2 (upd H2 L (.lst (vs ++ [.ref c]))) := Kp.upd
    have s4 : Same H (upd H2 L (.lst (vs ++ [.ref c]))) := fun b o hb => by
      rw [upd_ne (ne_of_none hb nL)]
      exact s3 _ _ hb
    have hL4 : upd H2 L (.lst (vs ++ [.ref c])) L = some (.lst (vs ++ [.ref c])) := upd_same
    have hc4 := kL.sqL hc ncL
    have iy4 := iy.mono (kL.ts hL)
    have lv4 : LvAt K (upd H2 L (.lst (vs ++ [.ref c]))) (vs ++ [.ref c]) (acc ++ [cur]) := LvAt.snoc hc4 iy4 (LvAt.mut kL hL lv nv)
    have nv4 : ∀ v ∈ vs ++ [.ref c], v ≠ .ref L := fun v hv => by
      rcases List.mem_append.mp hv with q | q
      · exact nv v q
      · rw [List.mem_singleton.mp q]
        exact fun e => ncL (V.ref.inj e)
    generalize upd H2 L (.lst (vs ++ [.ref c])) = H4 at s4 hL4 hc4 iy4 lv4
    -- the parts of all
    refine ⟨_, rfl, c, rfl, ⟨_, hc4⟩, fun D nD => ?_⟩
    refine out_list (K := K) (a := c) (xs := ys) (fun i H5 => ∃ zs : List V, Same H4 H5 ∧ H5 D = some (.lst zs) ∧ ImAll K H5 zs (((cur.take i).flatMap Fm.kids).map Fm.d)) ⟨[], same_new nD, upd_same, .nil⟩ (fun i H5 _ h => by
      obtain ⟨zs, h, _⟩ := h
      exact h.seq hc4) ?_ ?_
    · rintro i y H5 hy ⟨zs, s5, hD, iz⟩
      obtain ⟨g, hg, ig⟩ := imAll_of iy4 hy
      refine ⟨rfl, _, rfl, y, g, rfl, ig.mono (Same.ts s5), fun p ps H6 s6 hp ip => ⟨p, rfl, ⟨_, hp⟩, ?_⟩⟩
      have hpl := fms_len ip
      have hgc : (cur.take (i + 1)).flatMap Fm.kids = (cur.take i).flatMap Fm.kids ++ g.kids := by
        rw [take_snoc hg, List.flatMap_append]
        simp
      have hbig : ((cur.take (i + 1)).flatMap Fm.kids).length ≤ 100000 := by
        refine Nat.le_trans (flat_len _) (Nat.le_trans (sub_sum Fm.sz (List.take_sublist _ _)) hsum)
      refine in_tup (K := K) (b := p) (ys := ps) (fun j H7 => ∃ zs : List V, Same H4 H7 ∧ SqT K H7 p ps ∧ H7 D = some (.lst zs) ∧ ImAll K H7 ps (g.kids.map Fm.d) ∧ ImAll K H7 zs (((cur.take i).flatMap Fm.kids ++ g.kids.take j).map Fm.d)) ⟨zs, s5.trans s6, hp, s6 _ _ hD, ip, by rw [List.take_zero, List.append_nil]; exact iz.mono (Same.ts s6)⟩ (fun j H7 _ h => by
        obtain ⟨_, _, h, _⟩ := h
        exact h) ?_ ?_
      · rintro j q H7 hq ⟨zs, s7, hp7, hD7, ip7, iz7⟩
        obtain ⟨r, hr7, ir⟩ := imAll_of ip7 hq
        have hzl := fms_len iz7
        have hj : j < g.kids.length := (List.getElem?_eq_some_iff.mp hr7).1
        have hzs : zs.length ≤ 100000 := by
          rw [hgc, List.length_append] at hbig
          rw [List.length_append, List.length_take] at hzl
          omega
        refine ⟨rfl, _, rfl, zs, hD7, Nat.lt_of_le_of_lt hzs (by decide), zs ++ [q], ?_, ?_, upd_same, ?_, ?_⟩
        · intro b o hb
          rw [upd_ne (ne_of_none hb nD)]
          exact s7 _ _ hb
        · exact (Kp.upd.ts hD7).sqT hp7
        · exact ip7.mono (Kp.upd.ts hD7)
        · rw [take_snoc hr7, ← List.append_assoc, fm_snoc]
          exact (iz7.mono (Kp.upd.ts hD7)).snoc (ir.mono (Kp.upd.ts hD7))
      · rintro H7 ⟨zs, s7, hp7, hD7, ip7, iz7⟩
        rw [hpl, List.take_length, ← hgc] at iz7
        exact ⟨zs, s7, hD7, iz7⟩
    · rintro H5 ⟨zs, s5, hD, iz⟩
      rw [hyl, List.take_length] at iz
      refine ⟨D, zs, _, rfl, SqL.of hD, iz, fun g hg => ?_, Nat.le_trans (flat_len cur) (Nat.le_trans hsum (by decide)), fun p ws H6 np s6 hp ip => ?_⟩
      · obtain ⟨h, hh, hk⟩ := List.mem_flatMap.mp hg
        exact hok g (kids_subs (hcur h hh).1 hk)
      · have sa := s5.trans s6
        refine ⟨_, _, p, ws, down cur, _, _, rfl, s4.trans sa, sa _ _ hL4, LvAt.same sa lv4, nv4, ?_, SqL.of hp, ip, fun g hg => ?_, ?_, ?_, ?_⟩
        · exact (ne_of_none (s5 _ _ hL4) np).symm
        · obtain ⟨h, hh, hk⟩ := down_mem.mp hg
          have := kids_ht hk
          have h2 := (hcur h hh).2
          exact ⟨kids_subs (hcur h hh).1 hk, by omega⟩
        · have := down_sum cur
          omega
        · rw [List.append_assoc]
          exact hlev
        · rw [List.length_append]
          show acc.length + 1 + m' ≤ n
          omega

/-- the levels of one formula -/
def spLevels (K : PySem.W.Frag) : Sp := fun vs H Q _ => ∃ (x : V) (f : Fm) (n : Nat), vs = [x] ∧ Im K H x f.d ∧ (∀ g ∈ f.subs, Ok1 g) ∧ f.ht ≤ n ∧ f.sz ≤ 100000 ∧
  ∀ (p : Addr) (vs : List V) (H' : Hp), H p = none → Same H H' → H' p = some (.lst vs) → LvAt K H' vs (levs n [f]) → Q (.ref p) H'
theorem ok_levels_of (T : Top K mg) : FnOk P w K mg base CX0 3 T.f_levels_of T.d_levels_of ["a"] (spLevels K) := by
  have G_levels_from : FnOk P w K mg base CX0 2 T.f_levels_from T.d_levels_from ["formulas"] (spLevelsF K) := ok_levels_from T
  refine T.F_levels_of.ok sc_levels_of (fun vs H Q E h => ?_) (fun cdv A outer s H vs Q E hr h => ?_)
  · obtain ⟨x, f, n, rfl, _⟩ := h
    rfl
  obtain ⟨x, f, n, rfl, hx, hok, hn, hsz, k⟩ := h
  refine ⟨_, (pss_one (ps_ret (pe_call G_levels_from (hr.mono (by omega)) (by rfl) T.m_levels_from T.F_levels_from.kp T.b_levels_from .nil pass0 (pa_cons (pe_lst (pa_cons (pv 0) pa_nil)) pa_nil)))), ?_⟩
  refine ⟨_, rfl, (by show 1 ≤ sizeLine; decide), fun q nq => ?_⟩
  have s1 := same_new (o := .lst [x]) nq
  refine ⟨q, x, f, n, rfl, SqL.of upd_same, hx.mono (Same.ts s1), hok, hn, hsz, fun p vs H' np s2 hp hl => ?_⟩
  have npH : H p = none := by
    cases e : H p with
    | none => rfl
    | some o => rw [s1 _ _ e] at np; cases np
  exact k p vs H' npH (s1.trans s2) hp hl

/-! ### the place of a formula in an ascending row -/
def spPlace (K : PySem.W.Frag) : Sp := fun vs H Q _ => ∃ (a : Addr) (xs : List V) (fs : List Fm) (x : V) (f : Fm) (i : Nat), vs = [.ref a, x] ∧ SqL K H a xs ∧ ImAll K H xs (fs.map Fm.d) ∧ Asc fs ∧ fs[i]? = some f ∧ Im K H x f.d ∧ (∀ g ∈ fs, Ok1 g) ∧ fs.length ≤ 100000 ∧ Q (.int (i : Int)) H
theorem ok_place_of (T : Top K mg) : FnOk P w K mg base CX0 1 T.f_place_of T.d_place_of ["rows", "row"] (spPlace K) := by
  refine T.F_place_of.ok sc_place_of (fun vs H Q E h => ?_) (fun cdv A outer s H vs Q E hr h => ?_)
  · obtain ⟨a, xs, fs, x, f, i, rfl, _⟩ := h
    rfl
  obtain ⟨a, xs, fs, x, f, i, rfl, hS, hI, hasc, hi, hx, hok, hlen, k⟩ := h
  have hu64 := hr.units
  have hu200 := hr.un
  refine ⟨_, (pss_cons (ps_set (i := 2) sc_place_of.nd rfl (.inl rfl) pe_int)
    (pss_cons (ps_set (i := 3) sc_place_of.nd rfl (.inl rfl) (pe_op op_sub (pe_callB call_len_seq (by rfl) T.z_len PySem.boot_len (pa_cons (pv 0) pa_nil)) pe_int))
    (pss_cons (ps_while PassesOwn.never (pt_cmpR op_lt (pv 2) (pv 3) (nomark _))
      (pss_cons (ps_set (i := 4) sc_place_of.nd rfl (.inl rfl) (pe_op op_fdiv (pe_op op_add (pv 2) (pv 3)) pe_int))
    (pss_one (ps_if (pt_cmpR (op_ltF hu200) (pe_ix ix_list (pv 0) (pv 4) (fun _ _ => rfl)) (pv 1) (nomark _))
      (pss_one (ps_set (i := 2) sc_place_of.nd rfl (.inl rfl) (pe_op op_add (pv 4) pe_int)))
      (pss_one (ps_set (i := 3) sc_place_of.nd rfl (.inl rfl) (pv 4)))))))
    (pss_one (ps_ret (pv 2)))))), ?_⟩
  have hxl := fms_len hI
  have hif : i < fs.length := (List.getElem?_eq_some_iff.mp hi).1
  refine ⟨_, rfl, a, xs, rfl, .inl hS, _, _, rfl, rfl, ?_⟩
  refine ⟨fun m σ H2 => ∃ (lo hi : Nat) (v4 : Option V), σ = [some (.ref a), some x, some (.int (lo : Int)), some (.int (hi : Int)), v4] ∧ H2 = H ∧ lo ≤ i ∧ i ≤ hi ∧ hi < fs.length ∧ m = hi - lo, ⟨fs.length - 1, 0, fs.length - 1, none, ?_, rfl, Nat.zero_le _, by omega, by omega, by omega⟩, ?_⟩
  · show [some (V.ref a), some x, some (V.int 0), some (V.int ((xs.length : Int) - 1)), none] = _
    rw [show (xs.length : Int) - 1 = ((fs.length - 1 : Nat) : Int) by omega]
    rfl
  rintro m σ H2 ⟨lo, hi', v4, rfl, rfl, h1, h2, h3, rfl⟩
  refine ⟨_, rfl, _, rfl, _, _, rfl, rfl, _, rfl, ite2 (fun c => ?_) (fun c => ?_)⟩
  · have hlt : lo < hi' := by
      have := of_decide_eq_true c
      omega
    refine ⟨fun σ' H' => ∃ m', m' < hi' - lo ∧ ∃ (lo hi : Nat) (v4 : Option V), σ' = [some (.ref a), some x, some (.int (lo : Int)), some (.int (hi : Int)), v4] ∧ H' = H2 ∧ lo ≤ i ∧ i ≤ hi ∧ hi < fs.length ∧ m' = hi - lo, fun σ' H' h => h, ?_⟩
    refine ⟨_, rfl, _, rfl, _, _, rfl, rfl, _, _, rfl, rfl, ⟨by decide, by decide⟩, ?_⟩
    obtain ⟨mid, hm⟩ : ∃ mid : Nat, ((lo : Int) + (hi' : Int)) / 2 = (mid : Int) := ⟨(lo + hi') / 2, by omega⟩
    have hm1 : lo ≤ mid := by omega
    have hm2 : mid < hi' := by omega
    change gName 4 (V.int (((lo : Int) + (hi' : Int)) / 2)) _ _ _
    rw [hm]
    obtain ⟨y, gy⟩ : ∃ y, xs[mid]? = some y := ⟨_, List.getElem?_eq_getElem (by omega)⟩
    obtain ⟨g, gg, ig⟩ := imAll_of hI gy
    have og := hok g (List.mem_of_getElem? gg)
    have of_ := hok f (List.mem_of_getElem? hi)
    refine ⟨_, rfl, _, rfl, a, xs, _, _, rfl, rfl, hS, atI_nat gy, _, rfl, g, f, ig, hx, og.1, of_.1, Nat.le_trans og.2 (by decide), _, rfl, ?_⟩
    obtain ⟨m1, e1⟩ := List.getElem?_eq_some_iff.mp gg
    obtain ⟨m2, e2⟩ := List.getElem?_eq_some_iff.mp hi
    by_cases c1 : mid < i
    · have h5 := List.pairwise_iff_getElem.mp hasc mid i m1 m2 c1
      rw [e1, e2] at h5
      rw [h5]
      exact iteT ⟨_, rfl, _, _, rfl, rfl, hi' - (mid + 1), by omega, mid + 1, hi', some (V.int (mid : Int)), rfl, rfl, by omega, h2, h3, rfl⟩
    · have h5 : g.lt f = false := by
        by_cases c3 : mid = i
        · subst c3
          rw [gg] at hi
          cases hi
          exact Fm.lt_irrefl _
        · have h6 := List.pairwise_iff_getElem.mp hasc i mid m2 m1 (by omega)
          rw [e1, e2] at h6
          exact Fm.lt_asymm h6
      rw [h5]
      exact iteF ⟨_, rfl, mid - lo, by omega, lo, mid, _, rfl, rfl, h1, by omega, by omega, rfl⟩
  · have e : lo = i := by
      have := of_decide_eq_false (Bool.eq_false_iff.mpr c)
      omega
    subst e
    exact ⟨_, rfl, k⟩

/-! ### the pool -/
def spPool (K : PySem.W.Frag) : Sp := fun vs H Q _ => ∃ (a : Addr) (ns : List Int), vs = [.ref a] ∧ SqL K H a (ns.map V.int) ∧
  ∀ (p l : Addr) (H' : Hp), H p = none → Same H H' → Pl K H' p l → Q (.ref p) H'
theorem ok_law_pool (T : Top K mg) : FnOk P w K mg base CX0 1 T.f_law_pool T.d_law_pool ["script"] (spPool K) := by
  refine T.F_law_pool.ok sc_law_pool (fun vs H Q E h => ?_) (fun cdv A outer s H vs Q E hr h => ?_)
  · obtain ⟨a, ns, rfl, _⟩ := h
    rfl
  obtain ⟨a, ns, rfl, hS, q⟩ := h
  refine ⟨_, (pss_cons (ps_set (i := 1) sc_law_pool.nd rfl (.inl rfl) pe_int)
    (pss_cons (ps_for PassesOwn.never rfl (pi_list (pe_slice sl_list (pv 0) po_none (po_some pe_int))) (pg_name (i := 2) sc_law_pool.nd rfl (.inl rfl))
      (pss_one (ps_set (i := 1) sc_law_pool.nd rfl (.inl rfl) (pe_op op_mod (pe_callTy call_int1 (by rfl) T.z_int (by decide +kernel) (pa_cons (pe_op op_add (pe_op op_mul (pv 1) pe_int) (pv 2)) pa_nil)) pe_int))))
    (pss_one (ps_ret (pe_lst (pa_cons (pe_callTy call_list_of (by rfl) T.z_list (by decide +kernel) (pa_cons (pv 0) pa_nil)) (pa_cons pe_int (pa_cons pe_int (pa_cons pe_int (pa_cons (pv 1) pa_nil)))))))))), ?_⟩
  refine ⟨_, rfl, 63, rfl, a, ns.map V.int, rfl, hS, fun c nc => ?_⟩
  have s1 : Same H (upd H c (.lst (cutV (ns.map V.int) none (some 63)))) := same_new nc
  obtain ⟨ms, hms⟩ : ∃ ms : List Int, cutV (ns.map V.int) none (some 63) = ms.map V.int := ⟨_, by unfold cutV; rw [← List.map_drop, ← List.map_take]⟩
  rw [hms] at s1 ⊢
  refine ⟨c, rfl, ⟨_, SqL.of upd_same⟩, for_list (K := K) (a := c) (xs := ms.map V.int) (fun i σ H2 => ∃ (z : Int) (v : Option V), σ = [some (.ref a), some (.int z), v] ∧ H2 = upd H c (.lst (ms.map V.int))) ⟨7, none, rfl, rfl⟩ (fun i σ H2 _ h => by
    obtain ⟨_, _, _, rfl⟩ := h
    exact SqL.of upd_same) ?_ ?_⟩
  · rintro i x σ H2 hx ⟨z, v, rfl, rfl⟩
    obtain ⟨y, rfl⟩ : ∃ y, x = V.int y := by
      rw [List.getElem?_map] at hx
      cases e : ms[i]? with
      | none => rw [e] at hx; cases hx
      | some y => rw [e] at hx; exact ⟨y, (Option.some.inj hx).symm⟩
    refine ⟨_, rfl, _, _, rfl, rfl, .inr ⟨by decide, by decide⟩, _, rfl, _, _, rfl, rfl, .inl ⟨_, rfl, _, _, rfl, rfl, (by show (0 : Int) < 1000003; decide), _, _, rfl, rfl⟩⟩
  · rintro σ H2 ⟨z, v, rfl, rfl⟩
    refine ⟨_, rfl, a, _, rfl, .inl (s1.seq hS), fun l nl => ?_⟩
    refine ⟨_, rfl, (by show 5 ≤ sizeLine; decide), fun p np => ?_⟩
    have s2 := s1.trans (same_new (o := .lst (ns.map V.int)) nl)
    have s3 := s2.trans (same_new (o := .lst [.ref l, .int 0, .int 0, .int 0, .int z]) np)
    have hl : (upd (upd H c (.lst (ms.map V.int))) l (.lst (ns.map V.int))) l = some (.lst (ns.map V.int)) := upd_same
    have nlp : l ≠ p := ne_of_none hl np
    exact q p l _ (s2.free np) s3 ⟨⟨ns, SqL.of (by rw [upd_ne nlp]; exact hl)⟩, nlp, 0, 0, 0, z, upd_same, Int.le_refl 0⟩
/-! ### numbers out of the pool -/
def spSpread (K : PySem.W.Frag) : Sp := fun vs H Q _ => ∃ (c : Int), vs = [.int c] ∧ ∀ n : Int, Q (.int n) H
theorem ok_law_spread (T : Top K mg) : FnOk P w K mg base CX0 1 T.f_law_spread T.d_law_spread ["cell"] (spSpread K) := by
  refine T.F_law_spread.ok sc_law_spread (fun vs H Q E h => ?_) (fun cdv A outer s H vs Q E hr h => ?_)
  · obtain ⟨c, rfl, _⟩ := h
    rfl
  obtain ⟨c, rfl, q⟩ := h
  refine ⟨_, (pss_cons (ps_set (i := 1) sc_law_spread.nd rfl (.inl rfl) (pe_op op_mod (pe_callTy call_int1 (by rfl) T.z_int (by decide +kernel) (pa_cons (pv 0) pa_nil)) pe_int))
    (pss_cons (ps_set (i := 2) sc_law_spread.nd rfl (.inl rfl) pe_int)
    (pss_cons (ps_for PassesOwn.never rfl (pi_range1 (by rfl) T.z_range (pa_cons pe_int pa_nil)) (pg_name (i := 3) sc_law_spread.nd rfl (.inl rfl))
      (pss_cons (ps_set (i := 1) sc_law_spread.nd rfl (.inl rfl) (pe_op op_mod (pe_callTy call_int1 (by rfl) T.z_int (by decide +kernel) (pa_cons (pe_op op_add (pe_op op_add (pe_op op_mul (pv 1) pe_int) pe_int) (pv 3)) pa_nil)) pe_int))
    (pss_one (ps_set (i := 2) sc_law_spread.nd rfl (.inl rfl) (pe_op op_add (pe_op op_mul (pv 2) pe_int) (pv 1))))))
    (pss_one (ps_ret (pv 2)))))), ?_⟩
  refine ⟨_, rfl, .inl ⟨_, rfl, _, _, rfl, rfl, (by show (0 : Int) < 2147483647; decide), ?_⟩⟩
  refine ⟨4, rfl, by decide, by decide, for_range (n := 4) (fun i σ H2 => ∃ (m t : Int) (v : Option V), σ = [some (.int c), some (.int m), some (.int t), v] ∧ H2 = H) ⟨_, _, none, rfl, rfl⟩ ?_ ?_⟩
  · rintro i σ H2 hi ⟨m, t, v, rfl, rfl⟩
    refine ⟨_, rfl, _, _, rfl, rfl, .inr ⟨by decide, by decide⟩, _, _, rfl, rfl, _, rfl, _, _, rfl, rfl, .inl ⟨_, rfl, _, _, rfl, rfl, (by show (0 : Int) < 2147483647; decide), ?_⟩⟩
    exact ⟨_, rfl, _, _, rfl, rfl, .inr ⟨by decide, by decide⟩, _, rfl, _, _, rfl, rfl, _, _, _, rfl, rfl⟩
  · rintro σ H2 ⟨m, t, v, rfl, rfl⟩
    exact ⟨_, rfl, q _⟩
def spDraw (K : PySem.W.Frag) : Sp := fun vs H Q _ => ∃ (p l : Addr) (m : Int), vs = [.ref p, .int m] ∧ Pl K H p l ∧ 0 < m ∧ m < 1073741824 ∧
  ∀ (r : Int) (H' : Hp), 0 ≤ r → r < m → Kp p H H' → Pl K H' p l → Q (.int r) H'
theorem ok_law_draw (T : Top K mg) : FnOk P w K mg base CX0 2 T.f_law_draw T.d_law_draw ["pool", "many"] (spDraw K) := by
  have G_law_spread : FnOk P w K mg base CX0 1 T.f_law_spread T.d_law_spread ["cell"] (spSpread K) := ok_law_spread T
  refine T.F_law_draw.ok sc_law_draw (fun vs H Q E h => ?_) (fun cdv A outer s H vs Q E hr h => ?_)
  · obtain ⟨p, l, m, rfl, _⟩ := h
    rfl
  obtain ⟨p, l, m, rfl, hP, m0, m1, q⟩ := h
  refine ⟨_, (C8.pss_cut (ps_if (PW.pt (pw_and (pt_cmpR op_le (pe_ix ix_list (pv 0) pe_int (fun _ _ => rfl)) pe_int (nomark _)) (pw_and1 (pt_cmpR op_lt (pe_ix ix_list (pv 0) pe_int (fun _ _ => rfl)) (pe_callB call_len_seq (by rfl) T.z_len PySem.boot_len (pa_cons (pe_ix ix_list (pv 0) pe_int (fun _ _ => rfl)) pa_nil)) (nomark _)))))
      (pss_cons (ps_set (i := 2) sc_law_draw.nd rfl (.inl rfl) (pe_ix ix_list (pe_ix ix_list (pv 0) pe_int (fun _ _ => rfl)) (pe_ix ix_list (pv 0) pe_int (fun _ _ => rfl)) (fun _ _ => rfl)))
    (pss_cons (ps_asg (pe_op op_add (pe_ix ix_list (pv 0) pe_int (fun _ _ => rfl)) pe_int) (pg_sub (pv 0) pe_int set_list))
    (pss_cons (ps_asg (pv 2) (pg_sub (pv 0) pe_int set_list))
    (pss_one (ps_if (pt_cmpR op_lt (pv 2) pe_int (nomark _))
      (pss_one (ps_asg (pe_call G_law_spread (hr.mono (by omega)) (by rfl) T.m_law_spread T.F_law_spread.kp T.b_law_spread .nil pass0 (pa_cons (pv 2) pa_nil)) (pg_sub (pv 0) pe_int set_list)))
      pss_nil)))))
      pss_nil)
    (pss_cons (ps_asg (pe_op op_add (pe_ix ix_list (pv 0) pe_int (fun _ _ => rfl)) pe_int) (pg_sub (pv 0) pe_int set_list))
    (pss_cons (ps_if (pt_cmpR op_le (pe_ix ix_list (pv 0) pe_int (fun _ _ => rfl)) pe_int (nomark _))
      (pss_cons (ps_set (i := 3) sc_law_draw.nd rfl (.inl rfl) (pe_op op_mod (pe_callTy call_int1 (by rfl) T.z_int (by decide +kernel) (pa_cons (pe_op op_add (pe_op op_add (pe_op op_mul (pe_ix ix_list (pv 0) pe_int (fun _ _ => rfl)) pe_int) (pe_op op_mul (pe_ix ix_list (pv 0) pe_int (fun _ _ => rfl)) pe_int)) pe_int) pa_nil)) pe_int))
    (pss_cons (ps_set (i := 3) sc_law_draw.nd rfl (.inl rfl) (pe_op op_mod (pe_callTy call_int1 (by rfl) T.z_int (by decide +kernel) (pa_cons (pe_op op_add (pe_op op_mul (pv 3) pe_int) (pe_ix ix_list (pv 0) pe_int (fun _ _ => rfl))) pa_nil)) pe_int))
    (pss_one (ps_ret (pe_op op_mod (pe_op op_fdiv (pv 3) pe_int) (pv 1))))))
      pss_nil)
    (pss_cons (ps_set (i := 4) sc_law_draw.nd rfl (.inl rfl) (pe_op op_mod (pe_callTy call_int1 (by rfl) T.z_int (by decide +kernel) (pa_cons (pe_ix ix_list (pv 0) pe_int (fun _ _ => rfl)) pa_nil)) (pv 1)))
    (pss_cons (ps_asg (pe_op op_fdiv (pe_ix ix_list (pv 0) pe_int (fun _ _ => rfl)) (pv 1)) (pg_sub (pv 0) pe_int set_list))
    (pss_one (ps_ret (pv 4)))))))), ?_⟩
  obtain ⟨i, r, c, s, hp, hi⟩ := hP.at5
  obtain ⟨cs, hl⟩ := hP.sq
  -- the first if: a new number may be taken
  refine ⟨fun σ H1 => ∃ (i r : Int) (v2 v3 v4 : Option V), σ = [some (.ref p), some (.int m), v2, v3, v4] ∧ H1 = upd H p (.lst [.ref l, .int i, .int r, .int c, .int s]) ∧ 0 ≤ i, ?_, ?_⟩
  · have upd0 : upd H p (.lst [.ref l, .int i, .int r, .int c, .int s]) = H := by
      funext b
      by_cases e : b = p
      · rw [e, upd_same, hp]
      · rw [upd_ne e]
    refine ⟨_, rfl, p, _, 2, _, rfl, rfl, SqL.of hp, atI_nat (j := 2) rfl, _, _, rfl, rfl, _, rfl, ite2 (fun c1 => ?_) (fun c1 => iteF ?_)⟩
    · refine ⟨_, rfl, p, _, 1, _, rfl, rfl, SqL.of hp, atI_nat (j := 1) rfl, _, rfl, p, _, 0, _, rfl, rfl, SqL.of hp, atI_nat (j := 0) rfl, l, _, rfl, .inl hl, _, _, rfl, rfl, _, rfl, ite2 (fun c2 => ?_) (fun c2 => ?_)⟩
      · have c2' : i < ((cs.map V.int).length : Int) := of_decide_eq_true c2
        rw [List.length_map] at c2'
        have g : atI (cs.map V.int) i = some (.int cs[i.toNat]) := by
          have e := atI_nat (xs := cs.map V.int) (j := i.toNat) (v := .int cs[i.toNat]) (by rw [List.getElem?_map, List.getElem?_eq_getElem (by omega)]; rfl)
          rw [show ((i.toNat : Nat) : Int) = i by omega] at e
          exact e
        generalize cs[i.toNat] = z at g
        refine ⟨_, rfl, p, _, 0, _, rfl, rfl, SqL.of hp, atI_nat (j := 0) rfl, _, rfl, p, _, 1, _, rfl, rfl, SqL.of hp, atI_nat (j := 1) rfl, l, _, i, .int z, rfl, rfl, hl, g, ?_⟩
        refine ⟨_, rfl, p, _, 1, _, rfl, rfl, SqL.of hp, atI_nat (j := 1) rfl, _, _, rfl, rfl, _, rfl, p, _, 1, 1, rfl, rfl, hp, rfl, ?_⟩
        refine ⟨_, rfl, _, rfl, p, _, 2, 2, rfl, rfl, upd_same, rfl, ?_⟩
        rw [upd_upd]
        refine ⟨_, rfl, _, _, rfl, rfl, _, rfl, ite2 (fun c3 => ?_) (fun c3 => ?_)⟩
        · refine ⟨_, rfl, z, rfl, fun n => ⟨_, rfl, p, _, 2, 2, rfl, rfl, upd_same, rfl, ?_⟩⟩
          rw [upd_upd]
          exact ⟨i + 1, n, some (.int z), none, none, rfl, rfl, by omega⟩
        · exact ⟨i + 1, z, some (.int z), none, none, rfl, rfl, by omega⟩
      · exact ⟨i, r, none, none, none, rfl, upd0.symm, hi⟩
    · exact ⟨i, r, none, none, none, rfl, upd0.symm, hi⟩
  · rintro σ H1 ⟨i, r, v2, v3, v4, rfl, rfl, hi⟩
    refine ⟨_, rfl, p, _, 3, _, rfl, rfl, SqL.of upd_same, atI_nat (j := 3) rfl, _, _, rfl, rfl, _, rfl, p, _, 3, 3, rfl, rfl, upd_same, rfl, ?_⟩
    rw [upd_upd]
    refine ⟨_, rfl, p, _, 2, _, rfl, rfl, SqL.of upd_same, atI_nat (j := 2) rfl, _, _, rfl, rfl, _, rfl, ite2 (fun c1 => ?_) (fun c1 => ?_)⟩
    · refine ⟨_, rfl, p, _, 4, _, rfl, rfl, SqL.of upd_same, atI_nat (j := 4) rfl, _, _, rfl, rfl, .inr ⟨by decide, by decide⟩, _, rfl, p, _, 3, _, rfl, rfl, SqL.of upd_same, atI_nat (j := 3) rfl, _, _, rfl, rfl, .inr ⟨by decide, by decide⟩, _, _, rfl, rfl, _, _, rfl, rfl, .inl ⟨_, rfl, _, _, rfl, rfl, (by show (0 : Int) < 2147483647; decide), ?_⟩⟩
      refine ⟨_, rfl, _, _, rfl, rfl, .inr ⟨by decide, by decide⟩, _, rfl, p, _, 3, _, rfl, rfl, SqL.of upd_same, atI_nat (j := 3) rfl, _, _, rfl, rfl, .inl ⟨_, rfl, _, _, rfl, rfl, (by show (0 : Int) < 2147483629; decide), ?_⟩⟩
      refine ⟨_, rfl, _, _, rfl, rfl, ⟨by decide, by decide⟩, _, rfl, _, _, rfl, rfl, m0, ?_⟩
      exact q _ _ (Int.emod_nonneg _ (by omega)) (Int.emod_lt_of_pos _ m0) Kp.upd (hP.turn hi)
    · refine ⟨_, rfl, p, _, 2, _, rfl, rfl, SqL.of upd_same, atI_nat (j := 2) rfl, .inl ⟨_, rfl, _, rfl, _, _, rfl, rfl, m0, ?_⟩⟩
      refine ⟨_, rfl, p, _, 2, _, rfl, rfl, SqL.of upd_same, atI_nat (j := 2) rfl, _, rfl, _, _, rfl, rfl, ⟨m0, m1⟩, _, rfl, p, _, 2, 2, rfl, rfl, upd_same, rfl, _, rfl, ?_⟩
      rw [upd_upd]
      exact q _ _ (Int.emod_nonneg _ (by omega)) (Int.emod_lt_of_pos _ m0) Kp.upd (hP.turn hi)

/-! ### the law's own comparison: of a thing with itself it says True -/
def spSame (K : PySem.W.Frag) (n : Nat) : Sp := fun vs H Q _ => ∃ (x y : V) (d : PyData), vs = [x, y] ∧ Dp K H x d ∧ Dp K H y d ∧ d.depth < n ∧ sml d ∧ Q (.bl true) H
theorem ok_law_same (T : Top K mg) : ∀ n : Nat, FnOk P w K mg base CX0 n T.f_law_same T.d_law_same ["actual", "due"] (spSame K n) := by
  intro n
  induction n with
  | zero =>
    refine fn_none fun vs H Q E h => ?_
    obtain ⟨x, y, d, _, _, _, h, _⟩ := h
    exact absurd h (Nat.not_lt_zero _)
  | succ n G_law_same =>
    refine T.F_law_same.ok sc_law_same (fun vs H Q E h => ?_) (fun cdv A outer s H vs Q E hr h => ?_)
    · obtain ⟨x, y, d, rfl, _⟩ := h
      rfl
    obtain ⟨x, y, d, rfl, hx, hy, hd, hm, q⟩ := h
    refine ⟨_, (pss_cons (ps_if (PW.pt (pw_or (pt_val (pe_callB call_isi (by rfl) T.z_isinstance (by decide +kernel) (pa_cons (pv 1) (pa_cons (pe_bltn (v := .ty "tuple") (by rfl) T.z_tuple (by decide +kernel) rfl) pa_nil)))) (pw_or1 (pt_val (pe_callB call_isi (by rfl) T.z_isinstance (by decide +kernel) (pa_cons (pv 1) (pa_cons (pe_bltn (v := .ty "list") (by rfl) T.z_list (by decide +kernel) rfl) pa_nil)))))))
      (pss_cons (ps_if (PW.pt (pw_or (pt_cmpR op_ne (pe_callB call_isi (by rfl) T.z_isinstance (by decide +kernel) (pa_cons (pv 1) (pa_cons (pe_bltn (v := .ty "tuple") (by rfl) T.z_tuple (by decide +kernel) rfl) pa_nil))) (pe_callB call_isi (by rfl) T.z_isinstance (by decide +kernel) (pa_cons (pv 0) (pa_cons (pe_bltn (v := .ty "tuple") (by rfl) T.z_tuple (by decide +kernel) rfl) pa_nil))) (nomark _)) (pw_or1 (pt_cmpR op_ne (pe_callB call_isi (by rfl) T.z_isinstance (by decide +kernel) (pa_cons (pv 1) (pa_cons (pe_bltn (v := .ty "list") (by rfl) T.z_list (by decide +kernel) rfl) pa_nil))) (pe_callB call_isi (by rfl) T.z_isinstance (by decide +kernel) (pa_cons (pv 0) (pa_cons (pe_bltn (v := .ty "list") (by rfl) T.z_list (by decide +kernel) rfl) pa_nil))) (nomark _)))))
      (pss_one (ps_ret pe_bl))
      pss_nil)
    (pss_cons (ps_if (pt_cmpR op_ne (pe_callB call_len_seq (by rfl) T.z_len PySem.boot_len (pa_cons (pv 0) pa_nil)) (pe_callB call_len_seq (by rfl) T.z_len PySem.boot_len (pa_cons (pv 1) pa_nil)) (nomark _))
      (pss_one (ps_ret pe_bl))
      pss_nil)
    (pss_cons (ps_for PassesOwn.never rfl (pi_range1 (by rfl) T.z_range (pa_cons (pe_callB call_len_seq (by rfl) T.z_len PySem.boot_len (pa_cons (pv 1) pa_nil)) pa_nil)) (pg_name (i := 2) sc_law_same.nd rfl (.inl rfl))
      (pss_one (ps_if (pt_not (pt_val (pe_call G_law_same (hr.mono (by omega)) (by rfl) T.m_law_same T.F_law_same.kp T.b_law_same .nil pass0 (pa_cons (pe_ix ix_seq (pv 0) (pv 2) (fun _ _ => rfl)) (pa_cons (pe_ix ix_seq (pv 1) (pv 2) (fun _ _ => rfl)) pa_nil)))))
      (pss_one (ps_ret pe_bl))
      pss_nil)))
    (pss_one (ps_ret pe_bl)))))
      pss_nil)
    (pss_cons (ps_if (pt_cmpR op_isN1 (pv 1) pe_non (nomark _))
      (pss_one (ps_ret (pe_cmpR op_isN1 (pv 0) pe_non (nomark _))))
      pss_nil)
    (pss_cons (ps_if (pt_val (pe_callB call_isi (by rfl) T.z_isinstance (by decide +kernel) (pa_cons (pv 1) (pa_cons (pe_bltn (v := .ty "bool") (by rfl) T.z_bool (by decide +kernel) rfl) pa_nil))))
      (pss_one (ps_ret (pe_and (pe_callB call_isi (by rfl) T.z_isinstance (by decide +kernel) (pa_cons (pv 0) (pa_cons (pe_bltn (v := .ty "bool") (by rfl) T.z_bool (by decide +kernel) rfl) pa_nil))) (pe_one (pe_cmpR op_eq (pv 0) (pv 1) (nomark _))))))
      pss_nil)
    (pss_cons (ps_if (pt_val (pe_callB call_isi (by rfl) T.z_isinstance (by decide +kernel) (pa_cons (pv 1) (pa_cons (pe_bltn (v := .ty "int") (by rfl) T.z_int (by decide +kernel) rfl) pa_nil))))
      (pss_one (ps_ret (pe_and (pe_callB call_isi (by rfl) T.z_isinstance (by decide +kernel) (pa_cons (pv 0) (pa_cons (pe_bltn (v := .ty "int") (by rfl) T.z_int (by decide +kernel) rfl) pa_nil))) (pe_and (pe_not (pe_callB call_isi (by rfl) T.z_isinstance (by decide +kernel) (pa_cons (pv 0) (pa_cons (pe_bltn (v := .ty "bool") (by rfl) T.z_bool (by decide +kernel) rfl) pa_nil)))) (pe_one (pe_cmpR op_eq (pv 0) (pv 1) (nomark _)))))))
      pss_nil)
    (pss_one (ps_ret (pe_and (pe_callB call_isi (by rfl) T.z_isinstance (by decide +kernel) (pa_cons (pv 0) (pa_cons (pe_bltn (v := .ty "str") (by rfl) T.z_str (by decide +kernel) rfl) pa_nil))) (pe_one (pe_cmpR op_eq (pv 0) (pv 1) (nomark _)))))))))), ?_⟩
    cases d with
    | none =>
      cases hx; cases hy
      have t : TyX K H .non (.type "NoneType") := .base .non
      refine ⟨_, rfl, _, _, _, _, _, rfl, .ty _, t, kB false (by decide +kernel), _, rfl, iteF ⟨_, rfl, _, _, _, _, _, rfl, .ty _, t, kB false (by decide +kernel), _, rfl, iteF ?_⟩⟩
      exact ⟨_, rfl, rfl, _, rfl, iteT ⟨_, rfl, rfl, q⟩⟩
    | bool b =>
      cases hx; cases hy
      have t : TyX K H (.bl b) (.type "bool") := .base (.bl b)
      refine ⟨_, rfl, _, _, _, _, _, rfl, .ty _, t, kB false (by decide +kernel), _, rfl, iteF ⟨_, rfl, _, _, _, _, _, rfl, .ty _, t, kB false (by decide +kernel), _, rfl, iteF ?_⟩⟩
      refine ⟨_, rfl, rfl, _, rfl, iteF ⟨_, rfl, _, _, _, _, _, rfl, .ty _, t, kB true (by decide +kernel), _, rfl, iteT ⟨_, rfl, _, _, _, _, _, rfl, .ty _, t, kB true (by decide +kernel), _, rfl, iteT ⟨_, rfl, _, rfl, rfl, ?_⟩⟩⟩⟩
      rw [decide_eq_true rfl]
      exact q
    | int i =>
      cases hx; cases hy
      have t : TyX K H (.int i) (.type "int") := .base (.int i)
      refine ⟨_, rfl, _, _, _, _, _, rfl, .ty _, t, kB false (by decide +kernel), _, rfl, iteF ⟨_, rfl, _, _, _, _, _, rfl, .ty _, t, kB false (by decide +kernel), _, rfl, iteF ?_⟩⟩
      refine ⟨_, rfl, rfl, _, rfl, iteF ⟨_, rfl, _, _, _, _, _, rfl, .ty _, t, kB false (by decide +kernel), _, rfl, iteF ⟨_, rfl, _, _, _, _, _, rfl, .ty _, t, kB true (by decide +kernel), _, rfl, iteT ?_⟩⟩⟩
      refine ⟨_, rfl, _, _, _, _, _, rfl, .ty _, t, kB true (by decide +kernel), _, rfl, iteT ⟨_, rfl, _, _, _, _, _, rfl, .ty _, t, kB false (by decide +kernel), _, rfl, _, rfl, iteT ⟨_, rfl, _, rfl, rfl, ?_⟩⟩⟩
      rw [decide_eq_true rfl]
      exact q
    | str z =>
      cases hx; cases hy
      have t : TyX K H (.str z) (.type "str") := .base (.str z)
      refine ⟨_, rfl, _, _, _, _, _, rfl, .ty _, t, kB false (by decide +kernel), _, rfl, iteF ⟨_, rfl, _, _, _, _, _, rfl, .ty _, t, kB false (by decide +kernel), _, rfl, iteF ?_⟩⟩
      refine ⟨_, rfl, rfl, _, rfl, iteF ⟨_, rfl, _, _, _, _, _, rfl, .ty _, t, kB false (by decide +kernel), _, rfl, iteF ⟨_, rfl, _, _, _, _, _, rfl, .ty _, t, kB false (by decide +kernel), _, rfl, iteF ?_⟩⟩⟩
      refine ⟨_, rfl, _, _, _, _, _, rfl, .ty _, t, kB true (by decide +kernel), _, rfl, iteT ⟨_, rfl, _, rfl, rfl, ?_⟩⟩
      rw [decide_eq_true rfl]
      exact q
    | dict kvs => cases hx
    | list ds =>
      cases hx with
      | @lst a xs _ h1 h2 =>
      cases hy with
      | @lst b ys _ h3 h4 =>
      have t1 := ty_list h1
      have t2 := ty_list h3
      have e1 := dpAll_len h2
      have e2 := dpAll_len h4
      have hd' : PyData.depthAll ds < n := by
        rw [PyData.depth] at hd
        omega
      rw [sml] at hm
      have hz : (ys.length : Int) < 2 ^ 62 := by
        have := hm.1
        omega
      refine ⟨_, rfl, _, _, _, _, _, rfl, .ty _, t2, kB false (by decide +kernel), _, rfl, iteF ⟨_, rfl, _, _, _, _, _, rfl, .ty _, t2, kB true (by decide +kernel), _, rfl, iteT ?_⟩⟩
      refine ⟨_, rfl, _, _, _, _, _, rfl, .ty _, t2, kB false (by decide +kernel), _, rfl, _, _, _, _, _, rfl, .ty _, t1, kB false (by decide +kernel), rfl, _, rfl, iteF ?_⟩
      refine ⟨_, rfl, _, _, _, _, _, rfl, .ty _, t2, kB true (by decide +kernel), _, rfl, _, _, _, _, _, rfl, .ty _, t1, kB true (by decide +kernel), rfl, _, rfl, iteF ?_⟩
      refine ⟨_, rfl, a, xs, rfl, .inl h1, _, rfl, b, ys, rfl, .inl h3, rfl, _, rfl, iteNS (by rw [e1, e2]) ?_⟩
      refine ⟨_, rfl, b, ys, rfl, .inl h3, _, rfl, (by omega), hz, for_range (n := (ys.length : Int).toNat) (fun i σ H2 => ∃ v : Option V, σ = [some (.ref a), some (.ref b), v] ∧ H2 = H) ⟨none, rfl, rfl⟩ ?_ ?_⟩
      · rintro i σ H2 hi ⟨v, rfl, rfl⟩
        have hi' : i < ds.length := by omega
        have g := List.getElem?_eq_getElem hi'
        generalize ds[i] = d at g
        obtain ⟨v1, g1, p1⟩ := dpAll_get h2 g
        obtain ⟨v2, g2, p2⟩ := dpAll_get h4 g
        have ei : (0 : Int) + (i : Nat) = ((i : Nat) : Int) := by omega
        have a1 : atI xs (0 + (i : Int)) = some v1 := by rw [ei]; exact atI_nat g1
        have a2 : atI ys (0 + (i : Int)) = some v2 := by rw [ei]; exact atI_nat g2
        refine ⟨_, rfl, _, rfl, .inl ⟨a, xs, _, v1, rfl, rfl, h1, a1, _, rfl, _, rfl, .inl ⟨b, ys, _, v2, rfl, rfl, h3, a2, v1, v2, d, rfl, p1, p2, Nat.lt_of_le_of_lt (depth_mem g) hd', sml_mem hm.2 g, ?_⟩⟩⟩
        exact ⟨_, rfl, iteF ⟨_, rfl, rfl⟩⟩
      · rintro σ H2 ⟨v, rfl, rfl⟩
        exact q
    | tuple ds =>
      cases hx with
      | @tup a xs _ h1 h2 =>
      cases hy with
      | @tup b ys _ h3 h4 =>
      have t1 := ty_tup h1
      have t2 := ty_tup h3
      have e1 := dpAll_len h2
      have e2 := dpAll_len h4
      have hd' : PyData.depthAll ds < n := by
        rw [PyData.depth] at hd
        omega
      rw [sml] at hm
      have hz : (ys.length : Int) < 2 ^ 62 := by
        have := hm.1
        omega
      refine ⟨_, rfl, _, _, _, _, _, rfl, .ty _, t2, kB true (by decide +kernel), _, rfl, iteT (iteT ?_)⟩
      refine ⟨_, rfl, _, _, _, _, _, rfl, .ty _, t2, kB true (by decide +kernel), _, rfl, _, _, _, _, _, rfl, .ty _, t1, kB true (by decide +kernel), rfl, _, rfl, iteF ?_⟩
      refine ⟨_, rfl, _, _, _, _, _, rfl, .ty _, t2, kB false (by decide +kernel), _, rfl, _, _, _, _, _, rfl, .ty _, t1, kB false (by decide +kernel), rfl, _, rfl, iteF ?_⟩
      refine ⟨_, rfl, a, xs, rfl, .inr h1, _, rfl, b, ys, rfl, .inr h3, rfl, _, rfl, iteNS (by rw [e1, e2]) ?_⟩
      refine ⟨_, rfl, b, ys, rfl, .inr h3, _, rfl, (by omega), hz, for_range (n := (ys.length : Int).toNat) (fun i σ H2 => ∃ v : Option V, σ = [some (.ref a), some (.ref b), v] ∧ H2 = H) ⟨none, rfl, rfl⟩ ?_ ?_⟩
      · rintro i σ H2 hi ⟨v, rfl, rfl⟩
        have hi' : i < ds.length := by omega
        have g := List.getElem?_eq_getElem hi'
        generalize ds[i] = d at g
        obtain ⟨v1, g1, p1⟩ := dpAll_get h2 g
        obtain ⟨v2, g2, p2⟩ := dpAll_get h4 g
        have ei : (0 : Int) + (i : Nat) = ((i : Nat) : Int) := by omega
        have a1 : atI xs (0 + (i : Int)) = some v1 := by rw [ei]; exact atI_nat g1
        have a2 : atI ys (0 + (i : Int)) = some v2 := by rw [ei]; exact atI_nat g2
        refine ⟨_, rfl, _, rfl, .inr (.inl ⟨a, xs, _, v1, rfl, rfl, h1, a1, _, rfl, _, rfl, .inr (.inl ⟨b, ys, _, v2, rfl, rfl, h3, a2, v1, v2, d, rfl, p1, p2, Nat.lt_of_le_of_lt (depth_mem g) hd', sml_mem hm.2 g, ?_⟩)⟩)⟩
        exact ⟨_, rfl, iteF ⟨_, rfl, rfl⟩⟩
      · rintro σ H2 ⟨v, rfl, rfl⟩
        exact q

/-! ### drawn formulas -/
def spFormula (K : PySem.W.Frag) (n : Nat) : Sp := fun vs H Q _ => ∃ (q : Addr) (dep : Int) (pl : Bool) (ns : List Int), vs = [.ref q, .int dep, .bl pl] ∧ H q = some (.lst (ns.map V.int)) ∧ 0 ≤ dep ∧ dep < n ∧
  ∀ (v : V) (f : Fm) (H' : Hp) (ms : List Int), Kp q H H' → H' q = some (.lst (ms.map V.int)) → Im K H' v f.d → f.ht ≤ dep.toNat + 1 → f.over nms = true → (pl = true → f.plain = true) → Q v H'
theorem ok_law_formula (T : Top K mg) : ∀ n : Nat, FnOk P w K mg base CX0 n T.f_law_formula T.d_law_formula ["pool", "depth", "plain"] (spFormula K n) := by
  intro n
  induction n with
  | zero =>
    refine fn_none fun vs H Q E h => ?_
    obtain ⟨q, dep, pl, ns, _, _, h0, h1, _⟩ := h
    exact absurd h1 (by omega)
  | succ n G_law_formula =>
    refine T.F_law_formula.ok sc_law_formula (fun vs H Q E h => ?_) (fun cdv A outer s H vs Q E hr h => ?_)
    · obtain ⟨q, dep, pl, ns, rfl, _⟩ := h
      rfl
    obtain ⟨q, dep, pl, ns, rfl, hq, h0, h1, k⟩ := h
    have hu64 := hr.units
    refine ⟨_, (pss_cons (ps_set (i := 3) sc_law_formula.nd rfl (.inl rfl) pe_int)
    (C8.pss_cut (ps_if (pt_cmpR (op_neD hu64) (pv 0) (pe_lst pa_nil) (nomark _))
      (pss_one (ps_set (i := 3) sc_law_formula.nd rfl (.inl rfl) (pe_callTy call_int1 (by rfl) T.z_int (by decide +kernel) (pa_cons (pe_bm PySem.F.plainAttrs_list PySem.F.slot_list_pop PySem.F.type_list_pop mt_popAt (pv 0) (pa_cons pe_int pa_nil)) pa_nil))))
      pss_nil)
    (pss_cons (ps_set (i := 4) sc_law_formula.nd rfl (.inl rfl) (pe_op op_mod (pv 3) pe_int))
    (pss_cons (ps_if (PW.pt (pw_or (pt_cmpR op_eq (pv 1) pe_int (nomark _)) (pw_or1 (pt_cmpR op_lt (pv 4) pe_int (nomark _)))))
      (pss_cons (ps_if (pt_cmpR op_eq (pe_op op_mod (pe_op op_fdiv (pv 3) pe_int) pe_int) pe_int (nomark _))
      (pss_one (ps_ret (pe_tup (pa_cons pe_str pa_nil))))
      pss_nil)
    (pss_one (ps_ret (pe_tup (pa_cons pe_str (pa_cons (pe_ix ix_list (pe_lst (pa_cons pe_str (pa_cons pe_str (pa_cons pe_str (pa_cons pe_str (pa_cons pe_str pa_nil)))))) (pe_op op_mod (pe_op op_fdiv (pv 3) pe_int) pe_int) (fun _ _ => rfl)) pa_nil))))))
      pss_nil)
    (pss_cons (ps_if (PW.pt (pw_or (pt_cmpR op_eq (pv 4) pe_int (nomark _)) (pw_or1 (PW.pt (pw_and (pt_cmpR op_in_seq (pv 4) (pe_tup (pa_cons pe_int (pa_cons pe_int pa_nil))) rfl) (pw_and1 (pt_val (pv 2))))))))
      (pss_one (ps_ret (pe_tup (pa_cons pe_str (pa_cons (pe_call G_law_formula (hr.mono (by omega)) (by rfl) T.m_law_formula T.F_law_formula.kp T.b_law_formula .nil pass0 (pa_cons (pv 0) (pa_cons (pe_op op_sub (pv 1) pe_int) (pa_cons (pv 2) pa_nil)))) (pa_cons (pe_tup (pa_cons pe_str pa_nil)) pa_nil))))))
      pss_nil)
    (pss_cons (ps_if (pt_cmpR op_in_seq (pv 4) (pe_tup (pa_cons pe_int (pa_cons pe_int pa_nil))) rfl)
      (pss_one (ps_ret (pe_tup (pa_cons pe_str (pa_cons (pe_call G_law_formula (hr.mono (by omega)) (by rfl) T.m_law_formula T.F_law_formula.kp T.b_law_formula .nil pass0 (pa_cons (pv 0) (pa_cons (pe_op op_sub (pv 1) pe_int) (pa_cons (pv 2) pa_nil)))) pa_nil)))))
      pss_nil)
    (pss_cons (ps_set (i := 5) sc_law_formula.nd rfl (.inl rfl) (pe_call G_law_formula (hr.mono (by omega)) (by rfl) T.m_law_formula T.F_law_formula.kp T.b_law_formula .nil pass0 (pa_cons (pv 0) (pa_cons (pe_op op_sub (pv 1) pe_int) (pa_cons (pv 2) pa_nil)))))
    (pss_one (ps_ret (pe_tup (pa_cons (pe_ix ix_list (pe_lst (pa_cons pe_str (pa_cons pe_str (pa_cons pe_str (pa_cons pe_str (pa_cons pe_str pa_nil)))))) (pe_op op_sub (pv 4) pe_int) (fun _ _ => rfl)) (pa_cons (pv 5) (pa_cons (pe_call G_law_formula (hr.mono (by omega)) (by rfl) T.m_law_formula T.F_law_formula.kp T.b_law_formula .nil pass0 (pa_cons (pv 0) (pa_cons (pe_op op_sub (pv 1) pe_int) (pa_cons (pv 2) pa_nil)))) pa_nil))))))))))))), ?_⟩
    refine ⟨fun σ H1 => ∃ (z : Int) (ms : List Int), σ = [some (.ref q), some (.int dep), some (.bl pl), some (.int z), none, none] ∧ H1 q = some (.lst (ms.map V.int)) ∧ Kp q H H1, ?_, ?_⟩
    · refine ⟨_, rfl, (by show 0 ≤ sizeLine; decide), fun e ne => ?_⟩
      have s1 := same_new (o := .lst []) ne
      refine ⟨_, _, .lst (SqL.of (s1 _ _ hq)) (dp_ints ns), .lst (SqL.of upd_same) .nil, shaped_ints ns, rfl, _, rfl, ?_⟩
      rw [eqv_nil]
      cases ns with
      | nil => exact ⟨0, [], rfl, s1 _ _ hq, Same.kp s1⟩
      | cons z ns =>
        refine iteT ⟨_, rfl, .inl ⟨rfl, _, .inl (.inl (s1 _ _ hq))⟩, q, _, 0, 0, .int z, rfl, rfl, s1 _ _ hq, by decide, by decide, seqIndex_of (by decide) (by rw [List.map_cons, List.length_cons]; omega), rfl, .inl ⟨_, rfl, ?_⟩⟩
        exact ⟨z, ns, rfl, upd_same, Kp.trans (Same.kp s1) Kp.upd⟩
    · rintro σ H1 ⟨z, ms, rfl, hq1, k1⟩
      refine ⟨_, rfl, _, _, rfl, rfl, (by show (0 : Int) < 10; decide), ?_⟩
      have kd0 : 0 ≤ z % 10 := Int.emod_nonneg _ (by decide)
      have kd1 : z % 10 < 10 := Int.emod_lt_of_pos _ (by decide)
      dsimp only [gName, tSeq, tIfS, List.set]
      refine ans_or2 (b1 := decide (V.int dep = V.int 0)) (b2 := decide (z % 10 < 2)) (fun Q q => ⟨_, rfl, rfl, _, rfl, q⟩) (fun Q q => ⟨_, rfl, _, _, rfl, rfl, _, rfl, q⟩) _ ?_
      refine ite2 (fun c1 => ?_) (fun c1 => ?_)
      -- a leaf
      · refine ⟨_, rfl, _, _, rfl, rfl, ⟨by decide, by decide⟩, _, _, rfl, rfl, (by show (0 : Int) < 8; decide), rfl, _, rfl, ite2 (fun _ => ?_) (fun _ => ?_)⟩
        · refine ⟨(by show 1 ≤ sizeLine; decide), fun p np => ?_⟩
          have s2 := same_new (o := .tup [.str "falsum"]) np
          exact k _ .fal _ ms (k1.trans (Same.kp s2)) (s2 _ _ hq1) (im_fal upd_same) (Nat.le_add_left _ _) rfl fun _ => rfl
        · refine ⟨(by show 5 ≤ sizeLine; decide), fun a na => ?_⟩
          have s2 := same_new (o := .lst [.str "p", .str "q", .str "p", .str "q", .str "r"]) na
          obtain ⟨v, hv, hm⟩ := atI_mem (xs := [V.str "p", V.str "q", V.str "p", V.str "q", V.str "r"]) (i := z / 80 % 5) (Int.emod_nonneg _ (by decide)) (Int.emod_lt_of_pos _ (by decide))
          obtain ⟨y, rfl, hy⟩ : ∃ y : Str, v = .str y ∧ y ∈ nms := by
            simp only [List.mem_cons, List.not_mem_nil, or_false] at hm
            rcases hm with rfl | rfl | rfl | rfl | rfl
            all_goals exact ⟨_, rfl, by decide⟩
          refine ⟨_, rfl, _, _, rfl, rfl, ⟨by decide, by decide⟩, _, _, rfl, rfl, (by show (0 : Int) < 5; decide), a, _, _, _, rfl, rfl, SqL.of upd_same, hv, (by show 2 ≤ sizeLine; decide), fun p np => ?_⟩
          have s3 := s2.trans (same_new (o := .tup [.str "var", .str y]) np)
          exact k _ (.var y) _ ms (k1.trans (Same.kp s3)) (s3 _ _ hq1) (im_var upd_same) (Nat.le_add_left _ _) (decide_eq_true hy) fun _ => rfl
      · rw [Bool.or_eq_true, not_or] at c1
        have d0 : dep ≠ 0 := vintF c1.1
        have hk2 : 2 ≤ z % 10 := by
          have := of_decide_eq_false (Bool.eq_false_iff.mpr c1.2)
          omega
        have hd' : (dep - 1).toNat + 1 ≤ dep.toNat := by omega
        have negc : ∀ H2, Kp q H H2 → H2 q = some (.lst (ms.map V.int)) → True := fun _ _ _ => trivial
        by_cases e2 : z % 10 = 2
        -- a negation
        · refine ⟨_, rfl, rfl, _, rfl, iteD (congrArg V.int e2) (iteT ?_)⟩
          refine ⟨_, rfl, _, rfl, _, _, rfl, rfl, _, rfl, q, dep - 1, pl, ms, rfl, hq1, by omega, by omega, fun v f H3 ms3 k3 hq3 im3 hf3 ov3 pl3 => ?_⟩
          refine ⟨(by show 1 ≤ sizeLine; decide), fun a na => ⟨(by show 3 ≤ sizeLine; decide), fun p np => ?_⟩⟩
          have s4 := same_new (o := .tup [.str "falsum"]) na
          have s5 := same_new (o := .tup [.str "implies", v, .ref a]) np
          exact k _ (.imp f .fal) _ ms3 ((k1.trans k3).trans (Same.kp (s4.trans s5))) (s5 _ _ (s4 _ _ hq3)) (im_imp upd_same (im3.mono (Same.ts (s4.trans s5))) (im_fal (s5 _ _ upd_same)))
            (by show max f.ht 1 + 1 ≤ _; omega) (by show (f.over nms && true) = true; rw [ov3]; rfl) (fun e => by show (f.plain && true) = true; rw [pl3 e]; rfl)
        · refine ⟨_, rfl, rfl, _, rfl, iteDF (vne e2) ?_⟩
          by_cases e34 : z % 10 = 3 ∨ z % 10 = 4
          · refine ⟨_, rfl, (by show 2 ≤ sizeLine; decide), fun t nt => ⟨t, _, rfl, .inr (SqT.of upd_same), rfl, rfl, true, in34y e34, iteT ⟨_, rfl, _, rfl, ?_⟩⟩⟩
            have s2 := same_new (o := .tup [.int 3, .int 4]) nt
            cases pl with
            -- a negation in place of a box
            | true =>
              refine iteT ?_
              refine ⟨_, rfl, _, rfl, _, _, rfl, rfl, _, rfl, q, dep - 1, true, ms, rfl, s2 _ _ hq1, by omega, by omega, fun v f H3 ms3 k3 hq3 im3 hf3 ov3 pl3 => ?_⟩
              refine ⟨(by show 1 ≤ sizeLine; decide), fun a na => ⟨(by show 3 ≤ sizeLine; decide), fun p np => ?_⟩⟩
              have s4 := same_new (o := .tup [.str "falsum"]) na
              have s5 := same_new (o := .tup [.str "implies", v, .ref a]) np
              exact k _ (.imp f .fal) _ ms3 (((k1.trans (Same.kp s2)).trans k3).trans (Same.kp (s4.trans s5))) (s5 _ _ (s4 _ _ hq3)) (im_imp upd_same (im3.mono (Same.ts (s4.trans s5))) (im_fal (s5 _ _ upd_same)))
                (by show max f.ht 1 + 1 ≤ _; omega) (by show (f.over nms && true) = true; rw [ov3]; rfl) (fun e => by show (f.plain && true) = true; rw [pl3 e]; rfl)
            -- a box
            | false =>
              refine iteF ?_
              refine ⟨_, rfl, (by show 2 ≤ sizeLine; decide), fun t2 nt2 => ⟨t2, _, rfl, .inr (SqT.of upd_same), rfl, rfl, true, in34y e34, iteT ?_⟩⟩
              have s3 := s2.trans (same_new (o := .tup [.int 3, .int 4]) nt2)
              refine ⟨_, rfl, _, rfl, _, _, rfl, rfl, _, rfl, q, dep - 1, false, ms, rfl, s3 _ _ hq1, by omega, by omega, fun v f H3 ms3 k3 hq3 im3 hf3 ov3 pl3 => ?_⟩
              refine ⟨(by show 2 ≤ sizeLine; decide), fun p np => ?_⟩
              have s5 := same_new (o := .tup [.str "box", v]) np
              exact k _ (.box f) _ ms3 (((k1.trans (Same.kp s3)).trans k3).trans (Same.kp s5)) (s5 _ _ hq3) (im_box upd_same (im3.mono (Same.ts s5)))
                (by show f.ht + 1 ≤ _; omega) ov3 (fun e => nomatch e)
          -- two parts
          · refine ⟨_, rfl, (by show 2 ≤ sizeLine; decide), fun t nt => ⟨t, _, rfl, .inr (SqT.of upd_same), rfl, rfl, false, in34n e34, iteF (iteF ?_)⟩⟩
            have s2 := same_new (o := .tup [.int 3, .int 4]) nt
            refine ⟨_, rfl, (by show 2 ≤ sizeLine; decide), fun t2 nt2 => ⟨t2, _, rfl, .inr (SqT.of upd_same), rfl, rfl, false, in34n e34, iteF ?_⟩⟩
            have s3 := s2.trans (same_new (o := .tup [.int 3, .int 4]) nt2)
            refine ⟨_, rfl, _, rfl, _, _, rfl, rfl, _, rfl, q, dep - 1, pl, ms, rfl, s3 _ _ hq1, by omega, by omega, fun v f H3 ms3 k3 hq3 im3 hf3 ov3 pl3 => ?_⟩
            refine ⟨(by show 5 ≤ sizeLine; decide), fun a na => ?_⟩
            have s4 := same_new (o := .lst [.str "and", .str "or", .str "implies", .str "implies", .str "or"]) na
            obtain ⟨op, hv, hm⟩ := atI_mem (xs := [V.str "and", V.str "or", V.str "implies", V.str "implies", V.str "or"]) (i := z % 10 - 5) (by omega) (by show z % 10 - 5 < 5; omega)
            refine ⟨_, rfl, _, _, rfl, rfl, a, _, _, op, rfl, rfl, SqL.of upd_same, hv, _, rfl, ?_⟩
            refine ⟨_, rfl, _, rfl, _, _, rfl, rfl, _, rfl, q, dep - 1, pl, ms3, rfl, s4 _ _ hq3, by omega, by omega, fun u g H5 ms5 k5 hq5 im5 hf5 ov5 pl5 => ?_⟩
            refine ⟨(by show 3 ≤ sizeLine; decide), fun p np => ?_⟩
            have s6 := same_new (o := .tup [op, v, u]) np
            have kk := ((((k1.trans (Same.kp s3)).trans k3).trans (Same.kp s4)).trans k5).trans (Same.kp s6)
            have im3' := ((im3.mono (Same.ts s4)).mono (k5.ts (s4 _ _ hq3))).mono (Same.ts s6)
            have im5' := im5.mono (Same.ts s6)
            have hh : max f.ht g.ht + 1 ≤ dep.toNat + 1 := by omega
            have ho : (f.over nms && g.over nms) = true := by rw [ov3, ov5]; rfl
            have hp : pl = true → (f.plain && g.plain) = true := fun e => by rw [pl3 e, pl5 e]; rfl
            simp only [List.mem_cons, List.not_mem_nil, or_false] at hm
            rcases hm with rfl | rfl | rfl | rfl | rfl
            · exact k _ (.and f g) _ ms5 kk (s6 _ _ hq5) (im_and upd_same im3' im5') hh ho hp
            · exact k _ (.or f g) _ ms5 kk (s6 _ _ hq5) (im_or upd_same im3' im5') hh ho hp
            · exact k _ (.imp f g) _ ms5 kk (s6 _ _ hq5) (im_imp upd_same im3' im5') hh ho hp
            · exact k _ (.imp f g) _ ms5 kk (s6 _ _ hq5) (im_imp upd_same im3' im5') hh ho hp
            · exact k _ (.or f g) _ ms5 kk (s6 _ _ hq5) (im_or upd_same im3' im5') hh ho hp
def spList (K : PySem.W.Frag) : Sp := fun vs H Q _ => ∃ (p l : Addr) (m : Int), vs = [.ref p, .int m] ∧ Pl K H p l ∧ 0 ≤ m ∧ m ≤ 1000 ∧
  ∀ (q : Addr) (ns : List Int) (H' : Hp), H q = none → Kp p H H' → Pl K H' p l → H' q = some (.lst (ns.map V.int)) → (ns.length : Int) = m → Q (.ref q) H'
theorem ok_law_list (T : Top K mg) : FnOk P w K mg base CX0 3 T.f_law_list T.d_law_list ["pool", "many"] (spList K) := by
  have G_law_draw : FnOk P w K mg base CX0 2 T.f_law_draw T.d_law_draw ["pool", "many"] (spDraw K) := ok_law_draw T
  refine T.F_law_list.ok sc_law_list (fun vs H Q E h => ?_) (fun cdv A outer s H vs Q E hr h => ?_)
  · obtain ⟨p, l, m, rfl, _⟩ := h
    rfl
  obtain ⟨p, l, m, rfl, hP, m0, m1, k⟩ := h
  refine ⟨_, (pss_one (ps_ret (pe_lc (own := [("k", 2)]) (g := gName 2) (tt := tYes) rfl sc_law_list.nd (pi_range1 (by rfl) T.z_range (pa_cons (pv 1) pa_nil)) (blkOk_by (N := ["pool", "many", "k"]) (sc := defScope s_law_list) (by decide +kernel)) (fun _ _ _ _ _ => pg_name (i := 2) sc_law_list.nd rfl (Or.inl rfl)) (fun _ _ _ _ _ => pts_nil) (fun _ _ _ _ _ => (pe_call G_law_draw (hr.mono (by omega)) (by rfl) T.m_law_draw T.F_law_draw.kp T.b_law_draw .nil pass0 (pa_cons (pv 0) (pa_cons pe_int pa_nil))))))), ?_⟩
  refine ⟨_, rfl, m, rfl, by omega, by omega, fun D nD => ?_⟩
  obtain ⟨xs0, hp0⟩ := hP.lst
  have nDp : D ≠ p := (ne_of_none hp0 nD).symm
  refine lc_range (n := m.toNat) (fun i H2 => ∃ ns : List Int, Kp p H H2 ∧ Pl K H2 p l ∧ H2 D = some (.lst (ns.map V.int)) ∧ ns.length = i) ⟨[], Same.kp (same_new nD), hP.same (same_new nD), upd_same, rfl⟩ ?_ ?_
  · rintro i H2 hi ⟨ns, k2, hP2, hD2, hl⟩
    refine ⟨rfl, _, rfl, p, l, 4096, rfl, hP2, by decide, by decide, fun r H3 r0 r1 k3 hP3 => ?_⟩
    have hD3 := k3 _ _ hD2 nDp
    refine ⟨_, hD3, (by rw [List.length_map]; exact small1000 (by omega)), ns ++ [r], (k2.trans k3).under nD Kp.upd, hP.other nD hP3 Kp.upd, ?_, by rw [List.length_append, hl]; rfl⟩
    rw [upd_same, List.map_append]
    rfl
  · rintro H2 ⟨ns, k2, hP2, hD2, hl⟩
    exact k D ns H2 nD k2 hP2 hD2 (by omega)
/-- a formula that the pool gives -/
def spSome (K : PySem.W.Frag) (n : Nat) : Sp := fun vs H Q _ => ∃ (p l : Addr) (dep : Int) (pl : Bool), vs = [.ref p, .int dep, .bl pl] ∧ Pl K H p l ∧ 0 ≤ dep ∧ dep < n ∧
  ∀ (v : V) (f : Fm) (H' : Hp), Kp p H H' → Pl K H' p l → Im K H' v f.d → f.ht ≤ dep.toNat + 1 → f.over nms = true → (pl = true → f.plain = true) → Q v H'
theorem ok_law_some (T : Top K mg) (n : Nat) (hn : 3 ≤ n) : FnOk P w K mg base CX0 (n + 1) T.f_law_some T.d_law_some ["pool", "depth", "plain"] (spSome K n) := by
  have G_law_list : FnOk P w K mg base CX0 3 T.f_law_list T.d_law_list ["pool", "many"] (spList K) := ok_law_list T
  have G_law_formula : FnOk P w K mg base CX0 n T.f_law_formula T.d_law_formula ["pool", "depth", "plain"] (spFormula K n) := ok_law_formula T n
  refine T.F_law_some.ok sc_law_some (fun vs H Q E h => ?_) (fun cdv A outer s H vs Q E hr h => ?_)
  · obtain ⟨p, l, dep, pl, rfl, _⟩ := h
    rfl
  obtain ⟨p, l, dep, pl, rfl, hP, d0, d1, k⟩ := h
  refine ⟨_, (pss_one (ps_ret (pe_call G_law_formula (hr.mono (by omega)) (by rfl) T.m_law_formula T.F_law_formula.kp T.b_law_formula .nil pass0 (pa_cons (pe_call G_law_list (hr.mono (by omega)) (by rfl) T.m_law_list T.F_law_list.kp T.b_law_list .nil pass0 (pa_cons (pv 0) (pa_cons pe_int pa_nil))) (pa_cons (pv 1) (pa_cons (pv 2) pa_nil)))))), ?_⟩
  refine ⟨_, rfl, p, l, 40, rfl, hP, by decide, by decide, fun q ns H2 nq k2 hP2 hq2 hl => ?_⟩
  refine ⟨_, rfl, _, rfl, q, dep, pl, ns, rfl, hq2, d0, d1, fun v f H3 ms k3 hq3 im hf ov pn => ?_⟩
  exact k v f H3 (k2.under nq k3) (hP.other nq hP2 k3) im hf ov pn

/-- us are the values of bs, one by one -/
def Rs (R : Hp → V → Fm → Prop) (H : Hp) (us : List V) (bs : List Fm) : Prop := us.length = bs.length ∧ ∀ (i : Nat) (v : V) (b : Fm), us[i]? = some v → bs[i]? = some b → R H v b
theorem Rs.mono {R : Hp → V → Fm → Prop} (m : ∀ H H' v b, TZ H H' → R H v b → R H' v b) {H H' : Hp} {us : List V} {bs : List Fm} (h : Rs R H us bs) (t : TZ H H') : Rs R H' us bs := ⟨h.1, fun i v b h1 h2 => m _ _ _ _ t (h.2 i v b h1 h2)⟩
theorem Rs.snoc {R : Hp → V → Fm → Prop} {H : Hp} {us : List V} {bs : List Fm} {v : V} {b : Fm} (h : Rs R H us bs) (r : R H v b) : Rs R H (us ++ [v]) (bs ++ [b]) := by
  refine ⟨by rw [List.length_append, List.length_append, h.1]; rfl, fun i x c h1 h2 => ?_⟩
  by_cases hi : i < us.length
  · rw [List.getElem?_append_left hi] at h1
    rw [List.getElem?_append_left (by rw [← h.1]; exact hi)] at h2
    exact h.2 i x c h1 h2
  · rw [List.getElem?_append_right (by omega)] at h1
    rw [List.getElem?_append_right (by rw [← h.1]; omega)] at h2
    rw [← h.1] at h2
    have e : i - us.length = 0 := by
      have := (List.getElem?_eq_some_iff.mp h1).1
      simp at this
      omega
    rw [e] at h1 h2
    cases h1
    cases h2
    exact r
theorem im_var_at {K : PySem.W.Frag} {H : Hp} {a : Addr} {n : Str} (h : Im K H (.ref a) (Fm.var n).d) : H a = some (.tup [.str "var", .str n]) := by
  cases h with
  | tup h1 h2 tr =>
    have t := tr n rfl
    cases h2 with
    | cons h3 h4 =>
      cases h3
      cases h4 with
      | cons h5 h6 =>
        cases h5
        cases h6
        exact t
theorem sum_one : ∀ (ls : List (List Fm)) (l : List Fm), l ∈ ls → l.length ≤ (ls.map List.length).sum
  | x :: ls, l, h => by
    rw [List.map_cons, List.sum_cons]
    rcases List.mem_cons.mp h with e | h
    · rw [e]
      omega
    · have := sum_one ls l h
      omega
theorem sql_keep {K : PySem.W.Frag} {H H' : Hp} {B vl dn : Addr} {ys : List V} (h : SqL K H B ys) (hy : ys ≠ []) (hv : H vl = some (.lst [])) (hd : ∃ kvs, H dn = some (.dT kvs)) (k : ∀ b o, H b = some o → b ≠ dn → b ≠ vl → H' b = some o) : SqL K H' B ys := by
  obtain ⟨kvs, hd⟩ := hd
  rcases h with h | h
  · have n1 : B ≠ dn := fun e => by
      subst e
      rcases h with r | ⟨o, r⟩
      · rw [hd] at r; cases r
      · rw [hd] at r; cases r
    have n2 : B ≠ vl := fun e => by
      subst e
      rcases h with r | ⟨o, r⟩
      · rw [hv] at r
        cases r
        exact hy rfl
      · rw [hv] at r; cases r
    rcases h with r | ⟨o, r⟩
    · exact .inl (.inl (k _ _ r n1 n2))
    · exact .inl (.inr ⟨o, k _ _ r n1 n2⟩)
  · exact .inr h
theorem sql_ne {K : PySem.W.Frag} {H H' : Hp} {B vl dn : Addr} {ys : List V} (h : SqL K H B ys) (hn : B ≠ vl) (hd : ∃ kvs, H dn = some (.dT kvs)) (k : ∀ b o, H b = some o → b ≠ dn → b ≠ vl → H' b = some o) : SqL K H' B ys := by
  obtain ⟨kvs, hd⟩ := hd
  rcases h with h | h
  · have n1 : B ≠ dn := fun e => by
      subst e
      rcases h with r | ⟨o, r⟩
      · rw [hd] at r; cases r
      · rw [hd] at r; cases r
    rcases h with r | ⟨o, r⟩
    · exact .inl (.inl (k _ _ r n1 hn))
    · exact .inl (.inr ⟨o, k _ _ r n1 hn⟩)
  · exact .inr h
theorem tz_two {H H' : Hp} {dn vl : Addr} {kvs : List (List Key × V)} {us : List V} (hd : H dn = some (.dT kvs)) (hv : H vl = some (.lst us)) (k : ∀ b o, H b = some o → b ≠ dn → b ≠ vl → H' b = some o) : TZ H H' := by
  have n : ∀ b o, H b = some o → (∀ kvs, o ≠ .dT kvs) → (∀ us, o ≠ .lst us) → H' b = some o := fun b o e n1 n2 => k _ _ e (fun z => by rw [z, hd] at e; exact n1 _ (Option.some.inj e).symm) (fun z => by rw [z, hv] at e; exact n2 _ (Option.some.inj e).symm)
  refine ⟨⟨fun b xs r => ?_, fun b xs r => n _ _ r (fun _ z => nomatch z) (fun _ z => nomatch z)⟩, fun b o u r => n _ _ r (fun _ z => nomatch z) (fun _ z => nomatch z)⟩
  rcases r with r | ⟨o, r⟩
  · exact .inl (n _ _ r (fun _ z => nomatch z) (fun _ z => nomatch z))
  · exact .inr ⟨o, n _ _ r (fun _ z => nomatch z) (fun _ z => nomatch z)⟩
/-- what folded asks of its two arguments: a formula, and what tells the value of a formula from those of its parts -/
def spFolded (P : Program) (w : World) (K : PySem.W.Frag) (mg : Str → Option Value) (base : Heap) : Sp := fun vs H Q _ => ∃ (x : V) (g : Addr) (f : Fm) (sp : Sp) (R : Hp → V → Fm → Prop) (n : Nat), vs = [x, .ref g] ∧ Im K H x f.d ∧ (∀ b ∈ f.subs, Ok1 b) ∧ f.ht ≤ n ∧ f.sz ≤ 100000 ∧ CalC P w K mg base 4 g sp H ∧
  (∀ H H' v b, TZ H H' → R H v b → R H' v b) ∧
  (∀ (b : Fm) (H1 : Hp) (y : V) (l : Addr) (us : List V) (Q1 : VK), b ∈ f.subs → L2.Same H H1 → Im K H1 y b.d → H1 l = some (.lst us) → Rs R H1 us b.kids → (∀ v H2, Same H1 H2 → R H2 v b → Q1 v H2) → sp [y, .ref l] H1 Q1 (fun _ _ _ => False)) ∧
  ∀ v H', Same H H' → R H' v f → Q v H'
/-- what stands while the table grows: the formulas numbered so far, their values, the table -/
structure FoldAt (K : PySem.W.Frag) (R : Hp → V → Fm → Prop) (H : Hp) (dn vl : Addr) (f : Fm) (gs : List Fm) : Prop where
  tab : H dn = some (.dT (tabF gs))
  vals : ∃ us, H vl = some (.lst us) ∧ Rs R H us gs
  nd : gs.Nodup
  cl : ∀ g ∈ gs, ∀ c ∈ g.kids, c ∈ gs
  sub : ∀ g ∈ gs, g ∈ f.subs
theorem ok_folded (T : Top K mg) : FnOk P w K mg base CX0 5 T.f_folded T.d_folded ["a", "value_of"] (spFolded P w K mg base) := by
  have G_levels_of : FnOk P w K mg base CX0 3 T.f_levels_of T.d_levels_of ["a"] (spLevels K) := ok_levels_of T
  have G_parts_of : FnOk P w K mg base CX0 1 T.f_parts_of T.d_parts_of ["a"] (spParts K) := ok_parts_of T
  have G_place_of : FnOk P w K mg base CX0 1 T.f_place_of T.d_place_of ["rows", "row"] (spPlace K) := ok_place_of T
  refine T.F_folded.ok sc_folded (fun vs H Q E h => ?_) (fun cdv A outer s H vs Q E hr h => ?_)
  · obtain ⟨x, g, f, sp, R, n, rfl, _⟩ := h
    rfl
  obtain ⟨x, g, f, sp, R, n, rfl, hx, hok, hn, hsz, hC, hmono, hval, kQ⟩ := h
  have hu64 := hr.units
  have hu := Nat.lt_of_le_of_lt (Nat.add_le_add_left (by decide : 1 ≤ 64) _) hu64
  refine ⟨_, (pss_cons (ps_set (i := 2) sc_folded.nd rfl (.inl rfl) pe_dnewT)
    (pss_cons (ps_set (i := 3) sc_folded.nd rfl (.inr rfl) (pe_lst pa_nil))
    (pss_cons (ps_set (i := 4) sc_folded.nd rfl (.inr rfl) (pe_lst pa_nil))
    (pss_cons (ps_set (i := 5) sc_folded.nd rfl (.inr rfl) (pe_lst pa_nil))
    (pss_cons (ps_for PassesOwn.never rfl (RT.pi_revA (by rfl) T.z_reversed (pe_call G_levels_of (hr.mono (by omega)) (by rfl) T.m_levels_of T.F_levels_of.kp T.b_levels_of .nil pass0 (pa_cons (pv 0) pa_nil))) (pg_name (i := 6) sc_folded.nd rfl (.inl rfl))
      (pss_cons (ps_set (i := 7) sc_folded.nd rfl (.inl rfl) (pe_lst pa_nil))
    (pss_cons (ps_for PassesOwn.never rfl (pi_list (pv 6)) (pg_name (i := 8) sc_folded.nd rfl (.inl rfl))
      (pss_cons (ps_setLc (own := [("part", 11)]) (g := gName 11) (tt := tYes) (te := (tOp (rIxL K) _ _)) (i := 9) rfl sc_folded.nd rfl rfl (sw_true rfl rfl rfl (by decide +kernel)) (pi_tup (pe_call G_parts_of (hr.mono (by omega)) (by rfl) T.m_parts_of T.F_parts_of.kp T.b_parts_of .nil pass0 (pa_cons (pv 8) pa_nil))) (blkOk_by (N := ["a", "value_of", "numbers", "values", "below", "numbers_below", "level", "numbers_here", "b", "parts", "key", "part", "k"]) (sc := defScope s_folded) (by decide +kernel)) (fun _ _ _ _ _ => pg_name (i := 11) sc_folded.nd rfl (Or.inl rfl)) (fun _ _ _ _ _ => pts_nil) (fun _ _ _ _ _ => (pe_ix ix_list (pv 5) (pe_call G_place_of (hr.mono (by omega)) (by rfl) T.m_place_of T.F_place_of.kp T.b_place_of .nil pass0 (pa_cons (pv 4) (pa_cons (pv 11) pa_nil))) (fun _ _ => rfl))))
    (C8.pss_cut (ps_set (i := 10) sc_folded.nd rfl (.inl rfl) (pe_ifExp (pt_cmpR op_eq (pe_ix ix_tup (pv 8) pe_int (fun _ _ => rfl)) pe_str (nomark _)) (pv 8) (pe_tup (pa_cons (pe_ix ix_tup (pv 8) pe_int (fun _ _ => rfl)) (StX.pa_star (pv 9) pa_nil)))))
    (C8.pss_cut (ps_if (pt_cmp (pc_dnotin hu (pv 10) (pv 2)))
      (pss_cons (ps_dput hu (pv 2) (pv 10) (pe_callB call_len_seq (by rfl) T.z_len PySem.boot_len (pa_cons (pv 3) pa_nil)) rfl)
    (pss_one (ps_expr (pe_bm PySem.F.plainAttrs_list PySem.F.slot_list_append PySem.F.type_list_append mt_append (pv 3) (pa_cons (pe_callZ (i := 1) (k := 4) hr (by omega) rfl (by first | exact .inl rfl | exact .inr (.inl rfl) | exact .inr rfl) (pa_cons (pv 8) (pa_cons (pe_lc (own := [("k", 12)]) (g := gName 12) (tt := tYes) (te := (tOp (rIxL K) _ _)) rfl sc_folded.nd (pi_list (pv 9)) (blkOk_by (N := ["a", "value_of", "numbers", "values", "below", "numbers_below", "level", "numbers_here", "b", "parts", "key", "part", "k"]) (sc := defScope s_folded) (by decide +kernel)) (fun _ _ _ _ _ => pg_name (i := 12) sc_folded.nd rfl (Or.inl rfl)) (fun _ _ _ _ _ => pts_nil) (fun _ _ _ _ _ => (pe_ix ix_list (pv 3) (pv 12) (fun _ _ => rfl)))) pa_nil))) pa_nil)))))
      pss_nil)
    (pss_one (ps_expr (pe_bm PySem.F.plainAttrs_list PySem.F.slot_list_append PySem.F.type_list_append mt_append (pv 7) (pa_cons (pe_dget hu (pv 2) (pv 10) (fun _ _ => rfl)) pa_nil))))))))
    (pss_cons (ps_set (i := 4) sc_folded.nd rfl (.inr rfl) (pv 6))
    (pss_one (ps_set (i := 5) sc_folded.nd rfl (.inr rfl) (pv 7)))))))
    (pss_one (ps_ret (pe_ix ix_list (pv 3) (pe_ix ix_list (pv 5) pe_int (fun _ _ => rfl)) (fun _ _ => rfl))))))))), ?_⟩
  intro dn ndn
  refine ⟨Nat.zero_le _, fun vl nvl => ⟨Nat.zero_le _, fun bl nbl => ⟨Nat.zero_le _, fun nb nnb => ?_⟩⟩⟩
  have t1 := same_new (o := .dT []) ndn
  have t2 := same_new (o := .lst []) nvl
  have t3 := same_new (o := .lst []) nbl
  have t4 := same_new (o := .lst []) nnb
  have t14 := ((t1.trans t2).trans t3).trans t4
  have hdn := t4 _ _ (t3 _ _ (t2 _ _ (@upd_same H dn (.dT []))))
  have hvl := t4 _ _ (t3 _ _ (@upd_same _ vl (.lst [])))
  have hbl := t4 _ _ (@upd_same _ bl (.lst []))
  have ndv : dn ≠ vl := ne_of_none upd_same nvl
  have ndb : dn ≠ bl := ne_of_none (t2 _ _ upd_same) nbl
  have nvb : vl ≠ bl := ne_of_none upd_same nbl
  have ndnb : dn ≠ nb := ne_of_none (t3 _ _ (t2 _ _ upd_same)) nnb
  have nvnb : vl ≠ nb := ne_of_none (t3 _ _ upd_same) nnb
  have hnb := @upd_same (upd (upd (upd H dn (.dT [])) vl (.lst [])) bl (.lst [])) nb (.lst [])
  generalize upd (upd (upd (upd H dn (.dT [])) vl (.lst [])) bl (.lst [])) nb (.lst []) = H4 at t14 hdn hvl hbl hnb
  refine ⟨_, rfl, x, f, n, rfl, hx.mono (Same.ts t14), hok, hn, hsz, fun lv vs H5 nlv s5 hlv hLv => ⟨lv, vs, rfl, .inl ⟨SqL.of hlv, ?_⟩⟩⟩
  have hd5 := s5 _ _ hdn
  have hv5 := s5 _ _ hvl
  have hm := hLv.len
  have hC5 := hC.same (H' := H5) (fun b F e => s5 _ _ (t14 _ _ e)) fun b o u e => s5 _ _ (t14 _ _ e)
  have hx5 := hx.mono (Same.ts (t14.trans s5))
  have nlvd : lv ≠ dn := fun e => by rw [e, hd5] at hlv; cases hlv
  have nlvv : lv ≠ vl := fun e => by
    rw [e] at nlv
    rw [hvl] at nlv
    cases nlv
  refine RT.for_Itv (K := K) (a := lv) (xs := vs) (fun i σ H6 => ∃ (gs L : List Fm) (B NB : Addr) (ys : List V) (v6 v7 v8 v9 v10 : Option V), σ = [some x, some (.ref g), some (.ref dn), some (.ref vl), some (.ref B), some (.ref NB), v6, v7, v8, v9, v10, none, none] ∧
      (∀ b o, H5 b = some o → b ≠ dn → b ≠ vl → H6 b = some o) ∧ FoldAt K R H6 dn vl f gs ∧ SqL K H6 B ys ∧ ImAll K H6 ys (L.map Fm.d) ∧ (∀ H' : Hp, (∀ b o, H6 b = some o → b ≠ dn → b ≠ vl → H' b = some o) → SqL K H' B ys) ∧ NB ≠ vl ∧ H6 NB = some (.lst (L.map fun c => V.int ((gs.idxOf c : Nat) : Int))) ∧
      Asc L ∧ (∀ c ∈ L, c ∈ gs) ∧ L.length ≤ 100000 ∧ ((i = 0 ∧ L = []) ∨ (0 < i ∧ (levs n [f])[vs.length - i]? = some L)))
    ⟨[], [], bl, nb, [], none, none, none, none, none, rfl, fun _ _ h _ _ => h, ⟨hd5, ⟨[], hv5, rfl, fun i v b h => (nomatch h)⟩, .nil, fun g h => (nomatch h), fun g h => (nomatch h)⟩, SqL.of (s5 _ _ hbl), .nil, fun H' k => SqL.of (k _ _ (s5 _ _ hbl) ndb.symm nvb.symm), nvnb.symm, s5 _ _ hnb, .nil, fun c h => (nomatch h), Nat.zero_le _, .inl ⟨rfl, rfl⟩⟩
    (fun i σ H6 h => by
      obtain ⟨_, _, _, _, _, _, _, _, _, _, _, k, _⟩ := h
      exact SqL.of (k _ _ hlv nlvd nlvv)) ?_ ?_
  · rintro i y σ H6 hi hy ⟨gs, L, B, NB, ys, v6, v7, v8, v9, v10, rfl, k6, fa, hB, hBI, nBv, nNv, hNB, hLa, hLg, hLl, hLi⟩
    obtain ⟨lb, lys, l, rfl, hl, hlS, hlI⟩ := hLv.get hy
    have hlj : vs.length - 1 - i < (levs n [f]).length := (List.getElem?_eq_some_iff.mp hl).1
    have hlne := lev_ne _ _ _ _ hl
    have hlys : lys ≠ [] := fun e => by
      have := fms_len hlI
      rw [e] at this
      exact hlne (List.length_eq_zero_iff.mp this.symm)
    have hlasc := lev_asc n [f] _ l (List.pairwise_singleton _ _) hl
    have hht : ∀ g ∈ [f], g.ht ≤ n := fun g hg => by rw [List.mem_singleton.mp hg]; exact hn
    have hlsub : ∀ b ∈ l, b ∈ f.subs := fun b hb => by
      obtain ⟨g, hg, hm⟩ := (levs_mem n [f] hht b).mp (List.mem_flatten.mpr ⟨l, List.mem_of_getElem? hl, hb⟩)
      rwa [List.mem_singleton.mp hg] at hm
    have hkid : ∀ b ∈ l, ∀ c ∈ b.kids, c ∈ L := fun b hb c hc => by
      have hm1 : c ∈ down l := down_mem.mpr ⟨b, hb, hc⟩
      rcases lev_next n [f] _ l hht hl with h | ⟨_, h⟩
      · rcases hLi with ⟨h0, _⟩ | ⟨h0, h1⟩
        · have := (List.getElem?_eq_some_iff.mp h).1
          omega
        · rw [show vs.length - 1 - i + 1 = vs.length - i by omega, h1] at h
          rw [Option.some.inj h]
          exact hm1
      · rw [h] at hm1
        cases hm1
    have hll : l.length ≤ 100000 := by
      have h1 := levs_sum n [f]
      have h2 : l.length ≤ ((levs n [f]).map List.length).sum := by
        have := sum_one (levs n [f]) l (List.mem_of_getElem? hl)
        exact this
      simp at h1
      omega
    refine ⟨Nat.zero_le _, fun nh nnh => ?_⟩
    have hvl6 := fa.vals
    obtain ⟨us6, hus6, _⟩ := hvl6
    have t56 := (tz_two hd5 hv5 k6).1
    have hlS6 := sql_keep hlS hlys hv5 ⟨_, hd5⟩ k6
    have sn := same_new (o := .lst []) nnh
    have hnh := @upd_same H6 nh (.lst [])
    have nhv : nh ≠ vl := fun e => by rw [e, hus6] at nnh; cases nnh
    have nhd : nh ≠ dn := fun e => by rw [e, fa.tab] at nnh; cases nnh
    have nhN : NB ≠ nh := ne_of_none hNB nnh
    have fa' : FoldAt K R (upd H6 nh (.lst [])) dn vl f gs := by
      obtain ⟨us, h1, h2⟩ := fa.vals
      exact ⟨sn _ _ fa.tab, ⟨us, sn _ _ h1, h2.mono hmono (Same.tz sn)⟩, fa.nd, fa.cl, fa.sub⟩
    have lbn : ∀ {A : Addr} {zs : List V}, SqL K H6 A zs → SqL K (upd H6 nh (.lst [])) A zs := fun h => sn.seq h
    refine ⟨_, rfl, lb, rfl, ⟨_, sn.seq hlS6⟩, for_list (K := K) (a := lb) (xs := lys) (fun j σ H7 => ∃ (gs' : List Fm) (v8 v9 v10 : Option V), σ = [some x, some (.ref g), some (.ref dn), some (.ref vl), some (.ref B), some (.ref NB), some (.ref lb), some (.ref nh), v8, v9, v10, none, none] ∧
        (∀ b o, H6 b = some o → b ≠ dn → b ≠ vl → H7 b = some o) ∧ FoldAt K R H7 dn vl f gs' ∧ (∀ c ∈ gs, c ∈ gs' ∧ gs'.idxOf c = gs.idxOf c) ∧ H7 nh = some (.lst ((l.take j).map fun c => V.int ((gs'.idxOf c : Nat) : Int))) ∧ ∀ c ∈ l.take j, c ∈ gs')
      ⟨gs, v8, v9, v10, rfl, fun b o e _ _ => sn _ _ e, fa', fun c hc => ⟨hc, rfl⟩, hnh, fun c h => (nomatch h)⟩ (fun j σ H7 _ h => by
        obtain ⟨_, _, _, _, _, k7, _⟩ := h
        exact sql_keep hlS hlys hv5 ⟨_, hd5⟩ fun b o e n1 n2 => k7 _ _ (k6 _ _ e n1 n2) n1 n2) ?_ ?_⟩
    · rintro j y σ H7 hy ⟨gs', w8, w9, w10, rfl, k7, fb, hold, hnh7, hmem⟩
      have k57 : ∀ b o, H5 b = some o → b ≠ dn → b ≠ vl → H7 b = some o := fun b o e n1 n2 => k7 _ _ (k6 _ _ e n1 n2) n1 n2
      have t57 := (tz_two hd5 hv5 k57).1
      have t67 := (tz_two fa.tab hus6 k7).1
      obtain ⟨b, hbj, hbI⟩ := imAll_of (hlI.mono t57) hy
      have hbm : b ∈ l := List.mem_of_getElem? hbj
      have hjl : j < l.length := (List.getElem?_eq_some_iff.mp hbj).1
      have hB7 := nBv H7 k7
      have hBI7 := hBI.mono t67
      have nNd : NB ≠ dn := fun e => by rw [e, fa.tab] at hNB; cases hNB
      have hNB7 := k7 _ _ hNB nNd nNv
      have hNBe : (L.map fun c => V.int ((gs.idxOf c : Nat) : Int)) = L.map fun c => V.int ((gs'.idxOf c : Nat) : Int) := List.map_congr_left fun c hc => by rw [(hold c (hLg c hc)).2]
      rw [hNBe] at hNB7
      have hkg : ∀ c ∈ b.kids, c ∈ gs' := fun c hc => (hold c (hLg c (hkid b hbm c hc))).1
      -- the numbers of the parts
      refine ⟨_, rfl, y, b, rfl, hbI, fun pt yk H8 s8 hpt hkI => ⟨pt, rfl, ⟨_, hpt⟩, fun D nD => ?_⟩⟩
      have hkl := fms_len hkI
      have hk2 : b.kids.length ≤ 2 := by cases b <;> simp [Fm.kids]
      refine lc_tup (K := K) (a := pt) (xs := yk) (fun m H9 => Same H8 H9 ∧ H9 D = some (.lst ((b.kids.take m).map fun c => V.int ((gs'.idxOf c : Nat) : Int)))) ⟨same_new nD, upd_same⟩ (fun m H9 _ h => (Same.ts h.1).sqT hpt) ?_ ?_
      · rintro m u H9 hu0 ⟨s9, hD9⟩
        obtain ⟨c, hc, cI⟩ := imAll_of (hkI.mono (Same.ts s9)) hu0
        have hcm : c ∈ b.kids := List.mem_of_getElem? hc
        have hcL := hkid b hbm c hcm
        obtain ⟨ic, hic⟩ := List.getElem?_of_mem hcL
        refine ⟨rfl, _, rfl, _, rfl, _, rfl, B, ys, L, u, c, ic, rfl, s9.seq (s8.seq hB7), hBI7.mono (Same.ts (s8.trans s9)), hLa, hic, cI, fun g hg => ?_, hLl, ?_⟩
        · exact hok g (fb.sub g ((hold g (hLg g hg)).1))
        refine ⟨NB, _, _, .int ((gs'.idxOf c : Nat) : Int), rfl, rfl, SqL.of (s9 _ _ (s8 _ _ hNB7)), atI_nat (by rw [List.getElem?_map, hic]; rfl), _, hD9, ?_, fun a o e => ?_, ?_⟩
        · rw [List.length_map, List.length_take]
          exact small1000 (by omega)
        · rw [upd_ne (ne_of_none e nD)]
          exact s9 _ _ e
        · rw [upd_same, take_snoc hc, List.map_append]
          rfl
      · rintro H9 ⟨s9, hD9⟩
        rw [hkl, List.take_length] at hD9
        have s79 := s8.trans s9
        have hy9 := hbI.mono (Same.ts s79)
        have fb9 : FoldAt K R H9 dn vl f gs' := by
          obtain ⟨us, h1, h2⟩ := fb.vals
          exact ⟨s79 _ _ fb.tab, ⟨us, s79 _ _ h1, h2.mono hmono (Same.tz s79)⟩, fb.nd, fb.cl, fb.sub⟩
        have hkN : (b.kids.map fun c => V.int ((gs'.idxOf c : Nat) : Int)).length ≤ 2 := by rw [List.length_map]; exact hk2
        obtain ⟨ba, bys, rfl, hb1, hb2⟩ := im_inv hy9
        -- the key
        refine ⟨fun σ H10 => ∃ ka : Addr, σ = [some x, some (.ref g), some (.ref dn), some (.ref vl), some (.ref B), some (.ref NB), some (.ref lb), some (.ref nh), some (.ref ba), some (.ref D), some (.ref ka), none, none] ∧ Same H9 H10 ∧ H10 ka = some (.tup ((keyF (fun c => gs'.idxOf c) b).map kV)), ?_, ?_⟩
        · refine ⟨_, rfl, ba, _, 0, _, rfl, rfl, hb1, atI_nat (j := 0) rfl, rfl, _, rfl, ?_⟩
          rw [sg_var]
          cases hv : b.isVar with
          | true =>
            obtain ⟨_, vn, rfl⟩ := kids_var hv
            exact iteT ⟨_, rfl, ba, rfl, fun _ _ e => e, im_var_at hy9⟩
          | false =>
            refine iteF ⟨_, rfl, ba, _, 0, _, rfl, rfl, hb1, atI_nat (j := 0) rfl, _, rfl, D, _, rfl, .inr (SqL.of hD9), ?_⟩
            have eK : V.str b.sg :: ((b.kids.map fun c => V.int ((gs'.idxOf c : Nat) : Int)) ++ []) = (keyF (fun c => gs'.idxOf c) b).map kV := by
              rw [keyF_not hv, List.append_nil, List.map_cons, List.map_map]
              rfl
            refine ⟨?_, fun ka nka => ⟨ka, rfl, same_new nka, ?_⟩⟩
            · rw [List.length_cons, List.length_append, List.length_nil]
              exact Nat.le_of_lt (small1000 (by omega))
            · rw [upd_same, ← eK]
        · rintro σ H10 ⟨ka, rfl, s10, hka⟩
          have s710 := s79.trans s10
          have fb10 : FoldAt K R H10 dn vl f gs' := by
            obtain ⟨us, h1, h2⟩ := fb9.vals
            exact ⟨s10 _ _ fb9.tab, ⟨us, s10 _ _ h1, h2.mono hmono (Same.tz s10)⟩, fb.nd, fb.cl, fb.sub⟩
          have k710 : ∀ a o, H7 a = some o → a ≠ dn → a ≠ vl → H10 a = some o := fun a o e _ _ => s710 _ _ e
          have hget := tab_get fb.cl hkg
          have hD10 := s10 _ _ hD9
          have hgsl : gs'.length ≤ 100000 := by
            have := nodup_few gs' f.subs fb.nd fb.sub
            rw [subs_len] at this
            omega
          refine ⟨fun σ H11 => ∃ gs2 : List Fm, σ = [some x, some (.ref g), some (.ref dn), some (.ref vl), some (.ref B), some (.ref NB), some (.ref lb), some (.ref nh), some (.ref ba), some (.ref D), some (.ref ka), none, none] ∧
              (∀ a o, H10 a = some o → a ≠ dn → a ≠ vl → H11 a = some o) ∧ FoldAt K R H11 dn vl f gs2 ∧ (∀ c ∈ gs', c ∈ gs2 ∧ gs2.idxOf c = gs'.idxOf c) ∧ b ∈ gs2 ∧ keyF (fun c => gs2.idxOf c) b = keyF (fun c => gs'.idxOf c) b, ?_, ?_⟩
          · refine ⟨_, rfl, _, rfl, dn, _, rfl, .t fb10.tab hka, _, rfl, ?_⟩
            rw [hget]
            by_cases hbg : b ∈ gs'
            · rw [if_pos hbg]
              exact iteF ⟨gs', rfl, fun _ _ e _ _ => e, fb10, fun c hc => ⟨hc, rfl⟩, hbg, rfl⟩
            · rw [if_neg hbg]
              obtain ⟨us, hus, hR⟩ := fb10.vals
              refine iteT ⟨_, rfl, vl, us, rfl, .inl (SqL.of hus), _, rfl, _, rfl, dn, _, rfl, .t fb10.tab hka ?_, ?_⟩
              · unfold tabF
                rw [List.length_map]
                exact Nat.lt_of_le_of_lt hgsl (by decide)
              rw [hR.1, tab_put fb.cl hkg hbg]
              have k1011 : ∀ a o, H10 a = some o → a ≠ dn → upd H10 dn (.dT (tabF (gs' ++ [b]))) a = some o := fun a o e n => by
                rw [upd_ne n]
                exact e
              have hd11 : upd H10 dn (.dT (tabF (gs' ++ [b]))) dn = some (.dT (tabF (gs' ++ [b]))) := upd_same
              generalize upd H10 dn (.dT (tabF (gs' ++ [b]))) = H11 at k1011 hd11
              have hus11 := k1011 _ _ hus ndv.symm
              have t1011 : TZ H10 H11 := TZ.but fb10.tab (fun _ e => nomatch e) (fun _ _ e => nomatch e) k1011
              have k511 : ∀ a o, H5 a = some o → a ≠ dn → a ≠ vl → H11 a = some o := fun a o e n1 n2 => k1011 _ _ (s710 _ _ (k57 _ _ e n1 n2)) n1
              have kext : ∀ a F, H5 a = some (.ext F) → H11 a = some (.ext F) := fun a F e => k511 _ _ e (fun z => by rw [z, hd5] at e; cases e) (fun z => by rw [z, hv5] at e; cases e)
              have kfrz : ∀ a o u, H5 a = some (.frz o u) → H11 a = some (.frz o u) := fun a o u e => k511 _ _ e (fun z => by rw [z, hd5] at e; cases e) (fun z => by rw [z, hv5] at e; cases e)
              have hC11 := hC5.same kext kfrz
              have sH11 : L2.Same H H11 := fun a o e => k511 _ _ (s5 _ _ (t14 _ _ e)) (ne_of_none e ndn) (fun z => by
                have := t1 _ _ e
                rw [z, nvl] at this
                cases this)
              have nDd : D ≠ dn := fun e => by rw [e, fb10.tab] at hD10; cases hD10
              have hD11 := k1011 _ _ hD10 nDd
              refine ⟨_, rfl, .inl ⟨rfl, _, .inl (.inl hus11)⟩, g, sp, rfl, hC11, _, rfl, _, rfl, D, rfl, ⟨_, SqL.of hD11⟩, fun W nW => ?_⟩
              have nWv : vl ≠ W := ne_of_none hus11 nW
              refine lc_list (K := K) (a := D) (xs := b.kids.map fun c => V.int ((gs'.idxOf c : Nat) : Int)) (fun m H12 => ∃ acc, Same H11 H12 ∧ H12 W = some (.lst acc) ∧ Rs R H12 acc (b.kids.take m)) ⟨[], same_new nW, upd_same, rfl, fun i v b h => (nomatch h)⟩ (fun m H12 _ h => by
                obtain ⟨_, s, _⟩ := h
                exact SqL.of (s _ _ hD11)) ?_ ?_
              · rintro m u H12 hu0 ⟨acc, s12, hW, hRs⟩
                rw [List.getElem?_map] at hu0
                cases hc : b.kids[m]? with
                | none => rw [hc] at hu0; cases hu0
                | some c =>
                rw [hc] at hu0
                have eu : u = .int ((gs'.idxOf c : Nat) : Int) := (Option.some.inj hu0).symm
                subst eu
                have hcg := hkg c (List.mem_of_getElem? hc)
                have hi1 := List.idxOf_lt_length_of_mem hcg
                have hv1 : us[gs'.idxOf c]? = some (us[gs'.idxOf c]'(by rw [hR.1]; exact hi1)) := List.getElem?_eq_getElem _
                have hRc := hR.2 _ _ _ hv1 (idx_get hcg)
                have hal : acc.length ≤ 2 := by
                  rw [hRs.1, List.length_take]
                  omega
                refine ⟨rfl, _, rfl, _, rfl, vl, _, _, _, rfl, rfl, SqL.of (s12 _ _ hus11), atI_nat hv1, acc, hW, small1000 (by omega), acc ++ [_], fun a o e => ?_, upd_same, ?_⟩
                · rw [upd_ne (ne_of_none e nW)]
                  exact s12 _ _ e
                · rw [take_snoc hc]
                  have tt := (Kp.upd (H := H12) (p := W) (o := .lst (acc ++ [us[gs'.idxOf c]'(by rw [hR.1]; exact hi1)]))).tz hW
                  exact (hRs.mono hmono tt).snoc (hmono _ _ _ _ ((t1011.trans (Same.tz s12)).trans tt) hRc)
              · rintro H12 ⟨acc, s12, hW, hRs⟩
                rw [List.length_map, List.take_length] at hRs
                have s1112 : ∀ a F, H11 a = some (.ext F) → H12 a = some (.ext F) := fun a F e => s12 _ _ e
                have z1112 : ∀ a o u, H11 a = some (.frz o u) → H12 a = some (.frz o u) := fun a o u e => s12 _ _ e
                refine ⟨hC11.same s1112 z1112, s1112, z1112, hval b H12 (.ref ba) W acc _ (hlsub b hbm) (sH11.trans s12) (((hy9.mono (Same.ts s10)).mono t1011.1).mono (Same.ts s12)) hW hRs fun v H13 s13 hv13 => ?_⟩
                have s1113 := s12.trans s13
                have hus13 := s1113 _ _ hus11
                refine ⟨vl, us, v, rfl, rfl, hus13, Nat.lt_of_le_of_lt (by rw [hR.1]; exact hgsl) (by decide), ?_⟩
                have tt := (Kp.upd (H := H13) (p := vl) (o := .lst (us ++ [v]))).tz hus13
                have t1014 := (t1011.trans (Same.tz s1113)).trans tt
                refine ⟨gs' ++ [b], rfl, fun a o e n1 n2 => ?_, ⟨?_, ⟨us ++ [v], upd_same, (hR.mono hmono t1014).snoc (hmono _ _ _ _ tt hv13)⟩, ?_, fun h hh c hc => ?_, fun h hh => ?_⟩, fun c hc => ⟨List.mem_append_left _ hc, idx_app hc⟩, List.mem_append_right _ List.mem_cons_self, keyF_congr fun c hc => idx_app (hkg c hc)⟩
                · rw [upd_ne n2]
                  exact s1113 _ _ (k1011 _ _ e n1)
                · rw [upd_ne ndv]
                  exact s1113 _ _ hd11
                · exact List.nodup_append.mpr ⟨fb.nd, List.nodup_cons.mpr ⟨fun h => (nomatch h), .nil⟩, fun c hc u hu e => hbg (by rw [← List.mem_singleton.mp hu, ← e]; exact hc)⟩
                · rcases List.mem_append.mp hh with hh | hh
                  · exact List.mem_append_left _ (fb.cl h hh c hc)
                  · rw [List.mem_singleton.mp hh] at hc
                    exact List.mem_append_left _ (hkg c hc)
                · rcases List.mem_append.mp hh with hh | hh
                  · exact fb.sub h hh
                  · rw [List.mem_singleton.mp hh]
                    exact hlsub b hbm
          · rintro σ H11 ⟨gs2, rfl, k11, fc, hold2, hb2g, hkey2⟩
            have hkg2 : ∀ c ∈ b.kids, c ∈ gs2 := fun c hc => (hold2 c (hkg c hc)).1
            have hgt : valV (tabF gs2) (keyF (fun c => gs'.idxOf c) b) = some (V.int ((gs2.idxOf b : Nat) : Int)) := by
              rw [← hkey2, tab_get fc.cl hkg2, if_pos hb2g]
            have hnh10 := s710 _ _ hnh7
            have hnh11 := k11 _ _ hnh10 nhd nhv
            obtain ⟨us10, hus10, _⟩ := fb10.vals
            have nkd : ka ≠ dn := fun e => by rw [e, fb10.tab] at hka; cases hka
            have nkv : ka ≠ vl := fun e => by rw [e, hus10] at hka; cases hka
            refine ⟨_, rfl, .inl ⟨rfl, _, .inl (.inl hnh11)⟩, _, rfl, _, rfl, dn, _, rfl, .inr ⟨_, _, ka, .inl fc.tab, rfl, k11 _ _ hka nkd nkv, hgt.symm⟩, nh, _, _, rfl, rfl, hnh11, ?_, ?_⟩
            · rw [List.length_map, List.length_take]
              exact Nat.lt_of_le_of_lt (Nat.le_trans (Nat.min_le_right _ _) hll) (by decide)
            have tt := (Kp.upd (H := H11) (p := nh) (o := .lst (((l.take j).map fun c => V.int ((gs'.idxOf c : Nat) : Int)) ++ [V.int ((gs2.idxOf b : Nat) : Int)]))).tz hnh11
            refine ⟨gs2, _, _, _, rfl, fun a o e n1 n2 => ?_, ?_, fun c hc => ?_, ?_, fun c hc => ?_⟩
            · rw [upd_ne (ne_of_none e nnh)]
              exact k11 _ _ (s710 _ _ (k7 _ _ e n1 n2)) n1 n2
            · obtain ⟨us, h1, h2⟩ := fc.vals
              exact ⟨by rw [upd_ne nhd.symm]; exact fc.tab, ⟨us, by rw [upd_ne nhv.symm]; exact h1, h2.mono hmono tt⟩, fc.nd, fc.cl, fc.sub⟩
            · obtain ⟨h1, h2⟩ := hold c hc
              obtain ⟨h3, h4⟩ := hold2 c h1
              exact ⟨h3, h4.trans h2⟩
            · rw [upd_same, take_snoc hbj, List.map_append]
              rw [show ((l.take j).map fun c => V.int ((gs2.idxOf c : Nat) : Int)) = (l.take j).map fun c => V.int ((gs'.idxOf c : Nat) : Int) from List.map_congr_left fun c hc => by rw [(hold2 c (hmem c hc)).2]]
              rfl
            · rw [take_snoc hbj] at hc
              rcases List.mem_append.mp hc with h | h
              · exact (hold2 c (hmem c h)).1
              · rw [List.mem_singleton.mp h]
                exact hb2g
    · rintro σ H7 ⟨gs', w8, w9, w10, rfl, k7, fb, hold, hnh7, hmem⟩
      have hlen7 := fms_len hlI
      rw [hlen7, List.take_length] at hnh7 hmem
      have k57 : ∀ b o, H5 b = some o → b ≠ dn → b ≠ vl → H7 b = some o := fun b o e n1 n2 => k7 _ _ (k6 _ _ e n1 n2) n1 n2
      have hlS7 := sql_keep hlS hlys hv5 ⟨_, hd5⟩ k57
      refine ⟨_, rfl, _, rfl, gs', l, lb, nh, lys, _, _, _, _, _, rfl, k57, fb, hlS7, hlI.mono (tz_two hd5 hv5 k57).1, fun H' k => sql_keep hlS hlys hv5 ⟨_, hd5⟩ fun b o e n1 n2 => k _ _ (k57 _ _ e n1 n2) n1 n2, nhv, hnh7, hlasc, hmem, hll, .inr ⟨Nat.succ_pos _, ?_⟩⟩
      rw [show vs.length - (i + 1) = vs.length - 1 - i by omega]
      exact hl
  · rintro σ H6 ⟨gs, L, B, NB, ys, v6, v7, v8, v9, v10, rfl, k6, fa, hB, hBI, nBv, nNv, hNB, hLa, hLg, hLl, hLi⟩
    have hL : L = [f] := by
      rcases hLi with ⟨h0, _⟩ | ⟨_, h1⟩
      · have := lev_head hn
        have := (List.getElem?_eq_some_iff.mp this).1
        omega
      · rw [Nat.sub_self, lev_head hn] at h1
        exact (Option.some.inj h1).symm
    subst hL
    have hfg := hLg f List.mem_cons_self
    obtain ⟨us, hus, hR⟩ := fa.vals
    have hi1 := List.idxOf_lt_length_of_mem hfg
    have hv1 : us[gs.idxOf f]? = some (us[gs.idxOf f]'(by rw [hR.1]; exact hi1)) := List.getElem?_eq_getElem _
    have hRf := hR.2 _ _ _ hv1 (idx_get hfg)
    refine ⟨_, rfl, _, rfl, NB, _, 0, _, rfl, rfl, SqL.of hNB, atI_nat (j := 0) rfl, vl, us, _, _, rfl, rfl, SqL.of hus, atI_nat hv1, kQ _ H6 (fun b o e => ?_) hRf⟩
    have h4 := t14 _ _ e
    have n1 : b ≠ dn := ne_of_none e ndn
    have n2 : b ≠ vl := fun z => by
      have := t1 _ _ e
      rw [z, nvl] at this
      cases this
    exact k6 _ _ (s5 _ _ h4) n1 n2

/-! ### the law's own parts -/
theorem vin : ∀ i : Fin 6, inV (.str (sgT i)) [.str "var", .str "falsum"] = decide (i = 5 ∨ i = 2) := by decide +kernel
theorem vflat : flatV (.str "var") = true := rfl
def spLawParts (K : PySem.W.Frag) : Sp := fun vs H Q _ => ∃ (x : V) (f : Fm), vs = [x] ∧ Im K H x f.d ∧ ∀ (p : Addr) (ys : List V) (H' : Hp), H p = none → Same H H' → H' p = some (.lst ys) → ImAll K H' ys (f.kids.map Fm.d) → Q (.ref p) H'
theorem ok_law_parts (T : Top K mg) : FnOk P w K mg base CX0 1 T.f_law_parts T.d_law_parts ["a"] (spLawParts K) := by
  refine T.F_law_parts.ok sc_law_parts (fun vs H Q E h => ?_) (fun cdv A outer s H vs Q E hr h => ?_)
  · obtain ⟨x, f, rfl, _⟩ := h
    rfl
  obtain ⟨x, f, rfl, hx, k⟩ := h
  refine ⟨_, (pss_one (ps_ret (pe_ifExp (pt_cmpR op_in_seq (pe_ix ix_tup (pv 0) pe_int (fun _ _ => rfl)) (pe_tup (pa_cons pe_str (pa_cons pe_str pa_nil))) rfl) (pe_lst pa_nil) (pe_callTy call_list_of (by rfl) T.z_list (by decide +kernel) (pa_cons (pe_slice sl_tupA (pv 0) (po_some pe_int) po_none) pa_nil))))), ?_⟩
  obtain ⟨a, ys, rfl, h1, h2⟩ := im_inv hx
  refine ⟨_, rfl, a, _, 0, _, rfl, rfl, h1, atI_nat (j := 0) rfl, (by show 2 ≤ sizeLine; decide), fun t nt => ?_⟩
  have s1 := same_new (o := .tup [.str "var", .str "falsum"]) nt
  refine ⟨t, _, rfl, .inr (SqT.of upd_same), rfl, rfl, inV (.str f.sg) [.str "var", .str "falsum"], rfl, ?_⟩
  rw [show inV (.str f.sg) [.str "var", .str "falsum"] = decide (f.rk = 5 ∨ f.rk = 2) from vin f.rk]
  by_cases hk : f.rk = 5 ∨ f.rk = 2
  · refine iteD hk ⟨(by show 0 ≤ sizeLine; decide), fun p np => ?_⟩
    have e : f.kids = [] := by
      cases f <;> first | rfl | exact absurd hk (by simp [Fm.rk])
    exact k p [] _ (s1.free np) (s1.trans (same_new np)) upd_same (by rw [e]; exact .nil)
  · have hv : f.isVar = false := by
      cases f <;> first | rfl | exact absurd (Or.inl rfl) hk
    refine iteDF hk ⟨_, rfl, 1, rfl, a, _, rfl, (Same.ts s1).sqT h1, fun e => ?_, fun _ p np => ?_⟩
    · rw [sIx_1] at e
      exact absurd e.1 (by decide)
    · rw [cut_1]
      have s2 := s1.trans (same_new (o := .tup ys) np)
      refine ⟨p, ys, rfl, .inr (SqT.of upd_same), fun l nl => ?_⟩
      have s3 := s2.trans (same_new (o := .lst ys) nl)
      exact k l ys _ (s2.free nl) s3 upd_same (by rw [← kids_pts hv]; exact h2.mono (Same.ts s3))

/-! ### formulas: parts, sizes -/
theorem subs_eq (f : Fm) : f.subs = f :: f.kids.flatMap Fm.subs := by
  cases f <;> simp [Fm.subs, Fm.kids]
theorem over_mono {N M : List Str} (h : ∀ n ∈ N, n ∈ M) : ∀ {f : Fm}, f.over N = true → f.over M = true
  | .var n, q => decide_eq_true (h n (of_decide_eq_true q))
  | .fal, _ => rfl
  | .and a b, q => by
    have q' : (a.over N && b.over N) = true := q
    rw [Bool.and_eq_true] at q'
    show (a.over M && b.over M) = true
    rw [over_mono h q'.1, over_mono h q'.2]; rfl
  | .or a b, q => by
    have q' : (a.over N && b.over N) = true := q
    rw [Bool.and_eq_true] at q'
    show (a.over M && b.over M) = true
    rw [over_mono h q'.1, over_mono h q'.2]; rfl
  | .imp a b, q => by
    have q' : (a.over N && b.over N) = true := q
    rw [Bool.and_eq_true] at q'
    show (a.over M && b.over M) = true
    rw [over_mono h q'.1, over_mono h q'.2]; rfl
  | .box a, q => over_mono (f := a) h q
theorem kids_over {N : List Str} {f g : Fm} (h : f.over N = true) (hg : g ∈ f.kids) : g.over N = true := by
  cases f with
  | var n => cases hg
  | fal => cases hg
  | box a =>
    rw [List.mem_singleton.mp hg]
    exact h
  | _ a b =>
    have q' : (a.over N && b.over N) = true := h
    rw [Bool.and_eq_true] at q'
    rcases List.mem_cons.mp hg with rfl | hg
    · exact q'.1
    · rw [List.mem_singleton.mp hg]
      exact q'.2
theorem subs_ok {N : List Str} : ∀ (n : Nat) {f g : Fm}, f.ht ≤ n → f.over N = true → g ∈ f.subs → g.over N = true ∧ g.ht ≤ f.ht
  | 0, f, _, h, _, _ => absurd f.ht_pos (by omega)
  | n + 1, f, g, h, ho, hg => by
    rw [subs_eq] at hg
    rcases List.mem_cons.mp hg with rfl | hg
    · exact ⟨ho, Nat.le_refl _⟩
    · obtain ⟨k, hk, hg⟩ := List.mem_flatMap.mp hg
      have hh := kids_ht hk
      obtain ⟨a, b⟩ := subs_ok n (by omega) (kids_over ho hk) hg
      exact ⟨a, by omega⟩
theorem sz_ht : ∀ f : Fm, f.sz + 1 ≤ 2 ^ f.ht
  | .var n => by show 1 + 1 ≤ 2 ^ 1; decide
  | .fal => by decide
  | .and a b => by
    have h1 := sz_ht a
    have h2 := sz_ht b
    have h3 : 2 ^ a.ht ≤ 2 ^ max a.ht b.ht := Nat.pow_le_pow_right (by decide) (Nat.le_max_left _ _)
    have h4 : 2 ^ b.ht ≤ 2 ^ max a.ht b.ht := Nat.pow_le_pow_right (by decide) (Nat.le_max_right _ _)
    show a.sz + b.sz + 1 + 1 ≤ 2 ^ (max a.ht b.ht + 1)
    rw [Nat.pow_succ]
    omega
  | .or a b => by
    have h1 := sz_ht a
    have h2 := sz_ht b
    have h3 : 2 ^ a.ht ≤ 2 ^ max a.ht b.ht := Nat.pow_le_pow_right (by decide) (Nat.le_max_left _ _)
    have h4 : 2 ^ b.ht ≤ 2 ^ max a.ht b.ht := Nat.pow_le_pow_right (by decide) (Nat.le_max_right _ _)
    show a.sz + b.sz + 1 + 1 ≤ 2 ^ (max a.ht b.ht + 1)
    rw [Nat.pow_succ]
    omega
  | .imp a b => by
    have h1 := sz_ht a
    have h2 := sz_ht b
    have h3 : 2 ^ a.ht ≤ 2 ^ max a.ht b.ht := Nat.pow_le_pow_right (by decide) (Nat.le_max_left _ _)
    have h4 : 2 ^ b.ht ≤ 2 ^ max a.ht b.ht := Nat.pow_le_pow_right (by decide) (Nat.le_max_right _ _)
    show a.sz + b.sz + 1 + 1 ≤ 2 ^ (max a.ht b.ht + 1)
    rw [Nat.pow_succ]
    omega
  | .box a => by
    have h1 := sz_ht a
    show a.sz + 1 + 1 ≤ 2 ^ (a.ht + 1)
    rw [Nat.pow_succ]
    omega

/-! ### polarities, guards -/
/-- whether a variable occurs: s = false positively, s = true negatively -/
def Fm.occ : Fm → Str → Bool → Bool
  | .var m, n, s => decide (m = n) && !s
  | .fal, _, _ => false
  | .and a b, n, s => a.occ n s || b.occ n s
  | .or a b, n, s => a.occ n s || b.occ n s
  | .imp a b, n, s => a.occ n (!s) || b.occ n s
  | .box a, n, s => a.occ n s
abbrev Pl4 := List (Str × Addr × Bool × Bool)
abbrev pkv (L : Pl4) : List (Key × V) := L.map fun x => ((.inr x.1 : Key), V.ref x.2.1)
def pval (x : Str × Addr × Bool × Bool) (s : Bool) : Bool := if s = true then x.2.2.2 else x.2.2.1
def Fm.isImp2 : Fm → Bool
  | .imp _ _ => true
  | _ => false
theorem sg_imp2 (f : Fm) : decide (V.str f.sg = V.str "implies") = f.isImp2 := by
  show decide (V.str (sgT f.rk) = V.str (sgT 3)) = _
  rw [vsg]
  cases f <;> rfl
/-- the entries of a dict of polarities -/
structure PolL (H : Hp) (L : Pl4) (g : Str → Bool → Bool) : Prop where
  nd : (L.map (·.1)).Nodup
  at_ : ∀ x ∈ L, H x.2.1 = some (.tup [.bl x.2.2.1, .bl x.2.2.2]) ∧ ∀ s, pval x s = g x.1 s
  some_ : ∀ x ∈ L, g x.1 false = true ∨ g x.1 true = true
  all : ∀ n s, g n s = true → n ∈ L.map (·.1)
theorem PolL.ts {H H' : Hp} {L : Pl4} {g : Str → Bool → Bool} (p : PolL H L g) (t : TS H H') : PolL H' L g := ⟨p.nd, fun x hx => ⟨t.2 _ _ (p.at_ x hx).1, (p.at_ x hx).2⟩, p.some_, p.all⟩
theorem PolL.fn {H : Hp} {L : Pl4} {g g' : Str → Bool → Bool} (p : PolL H L g) (e : ∀ n s, g n s = g' n s) : PolL H L g' := ⟨p.nd, fun x hx => ⟨(p.at_ x hx).1, fun s => ((p.at_ x hx).2 s).trans (e _ _)⟩, fun x hx => by rw [← e, ← e]; exact p.some_ x hx, fun n s h => p.all n s ((e n s).trans h)⟩
theorem pk_val {L : Pl4} (nd : (L.map (·.1)).Nodup) {x : Str × Addr × Bool × Bool} (hx : x ∈ L) : valV (pkv L) (.inr x.1) = some (.ref x.2.1) := by
  induction L with
  | nil => cases hx
  | cons y r ih =>
    rw [List.map_cons, List.nodup_cons] at nd
    rcases List.mem_cons.mp hx with e | h
    · subst e
      exact valV_pos rfl
    · have ne : ¬ y.1 = x.1 := fun e => nd.1 (e ▸ List.mem_map.mpr ⟨x, h, rfl⟩)
      exact (valV_neg (fun e => ne (Sum.inr.inj e))).trans (ih nd.2 h)
theorem pk_off {L : Pl4} {n : Str} (h : n ∉ L.map (·.1)) : valV (pkv L) (.inr n) = none := by
  have key : ∀ kv ∈ pkv L, kv.1 ≠ (.inr n : Key) := fun kv hk e => by
    obtain ⟨x, hx, rfl⟩ := List.mem_map.mp hk
    exact h (List.mem_map.mpr ⟨x, hx, Sum.inr.inj e⟩)
  unfold valV
  rw [List.find?_eq_none.mpr fun kv hk => by simp [key kv hk]]
  rfl
/-- the entry of n, or the default's -/
theorem PolL.get {K : PySem.W.Frag} {H : Hp} {L : Pl4} {g : Str → Bool → Bool} {d z : Addr} (p : PolL H L g) (hd : Rd H d (.dK (pkv L))) (hz : H z = some (.tup [.bl false, .bl false])) (n : Str) : ∃ o b, DGet H d (.str n) o ∧ o.getD (.ref z) = .ref b ∧ H b = some (.tup [.bl (g n false), .bl (g n true)]) := by
  by_cases hn : n ∈ L.map (·.1)
  · obtain ⟨x, hx, rfl⟩ := List.mem_map.mp hn
    obtain ⟨h1, h2⟩ := p.at_ x hx
    refine ⟨some (.ref x.2.1), x.2.1, .inl ⟨_, .inr x.1, hd, rfl, (pk_val p.nd hx).symm⟩, rfl, ?_⟩
    rw [← h2 false, ← h2 true]
    exact h1
  · refine ⟨none, z, .inl ⟨_, .inr n, hd, rfl, (pk_off hn).symm⟩, rfl, ?_⟩
    have e : ∀ s, g n s = false := fun s => by
      cases h : g n s with
      | false => rfl
      | true => exact absurd (p.all n s h) hn
    rw [e, e]
    exact hz
theorem pk_put (L : Pl4) (n : Str) (t : Addr) (a b : Bool) : ∃ L' : Pl4, putK (pkv L) (.inr n) (.ref t) = pkv L' ∧ (∀ x, x ∈ L' ↔ (x ∈ L ∧ x.1 ≠ n) ∨ x = (n, t, a, b) ) ∧ ((L.map (·.1)).Nodup → (L'.map (·.1)).Nodup) ∧ L'.length ≤ L.length + 1 := by
  by_cases hn : n ∈ L.map (·.1)
  · refine ⟨L.map fun x => if x.1 = n then (n, t, a, b) else x, ?_, fun x => ?_, fun nd => ?_, by rw [List.length_map]; omega⟩
    · unfold putK
      have hany : ((pkv L).any fun kv => decide (kv.1 = .inr n)) = true := by
        obtain ⟨y, hy, e⟩ := List.mem_map.mp hn
        exact List.any_eq_true.mpr ⟨(.inr y.1, .ref y.2.1), List.mem_map.mpr ⟨y, hy, rfl⟩, by simp [show y.1 = n from e]⟩
      rw [if_pos hany]
      unfold pkv
      rw [List.map_map, List.map_map]
      refine List.map_congr_left fun y _ => ?_
      by_cases e : y.1 = n
      · simp [e]
      · simp [e]
    · rw [List.mem_map]
      constructor
      · rintro ⟨y, hy, rfl⟩
        by_cases e : y.1 = n
        · rw [if_pos e]
          exact .inr rfl
        · rw [if_neg e]
          exact .inl ⟨hy, e⟩
      · rintro (⟨h1, h2⟩ | rfl)
        · exact ⟨x, h1, by rw [if_neg h2]⟩
        · obtain ⟨y, hy, e⟩ := List.mem_map.mp hn
          exact ⟨y, hy, by rw [if_pos e]⟩
    · rw [List.map_map]
      rw [show (L.map ((fun x : Str × Addr × Bool × Bool => x.1) ∘ fun x => if x.1 = n then (n, t, a, b) else x)) = L.map (·.1) from List.map_congr_left fun y _ => by
        show (if y.1 = n then (n, t, a, b) else y).1 = y.1
        by_cases e : y.1 = n
        · rw [if_pos e]; exact e.symm
        · rw [if_neg e]]
      exact nd
  · refine ⟨L ++ [(n, t, a, b)], by rw [putK_new _ (pk_off hn)]; unfold pkv; rw [List.map_append]; rfl, fun x => ?_, fun nd => ?_, by rw [List.length_append]; exact Nat.le_refl _⟩
    · rw [List.mem_append, List.mem_singleton]
      constructor
      · rintro (h | h)
        · exact .inl ⟨h, fun e => hn (e ▸ List.mem_map.mpr ⟨x, h, rfl⟩)⟩
        · exact .inr h
      · rintro (h | h)
        · exact .inl h.1
        · exact .inr h
    · rw [List.map_append]
      refine List.nodup_append.mpr ⟨nd, List.nodup_cons.mpr ⟨fun h => (nomatch h), .nil⟩, fun c hc u hu e => hn ?_⟩
      exact (show c = n from e.trans (List.mem_singleton.mp hu)) ▸ hc
def PolD (H : Hp) (v : V) (f : Fm) : Prop := ∃ (d : Addr) (o : Obj) (L : Pl4), v = .ref d ∧ H d = some (.frz o (.dK (pkv L))) ∧ PolL H L f.occ
theorem PolD.tz (H H' : Hp) (v : V) (f : Fm) (t : TZ H H') (h : PolD H v f) : PolD H' v f := by
  obtain ⟨d, o, L, e, h1, h2⟩ := h
  exact ⟨d, o, L, e, t.2 _ _ _ h1, h2.ts t.1⟩
/-- what a row of entries tells of a name -/
def tell (L : Pl4) (n : Str) (s : Bool) : Bool := L.any fun x => decide (x.1 = n) && pval x s
theorem PolL.tell {H : Hp} {L : Pl4} {g : Str → Bool → Bool} (p : PolL H L g) (n : Str) (s : Bool) : tell L n s = g n s := by
  unfold E.tell
  cases h : g n s with
  | true =>
    obtain ⟨x, hx, e⟩ := List.mem_map.mp (p.all n s h)
    refine List.any_eq_true.mpr ⟨x, hx, ?_⟩
    rw [(p.at_ x hx).2 s, decide_eq_true (show x.1 = n from e), show x.1 = n from e, h]
    rfl
  | false =>
    refine List.any_eq_false.mpr fun x hx => ?_
    rw [(p.at_ x hx).2 s]
    by_cases e : x.1 = n
    · rw [e, h]
      simp
    · rw [decide_eq_false e]
      simp
theorem PolL.put {H : Hp} {L L' : Pl4} {g g' : Str → Bool → Bool} {n : Str} {t : Addr} {a b : Bool} (p : PolL H L g) (hm : ∀ x, x ∈ L' ↔ (x ∈ L ∧ x.1 ≠ n) ∨ x = (n, t, a, b)) (nd : (L'.map (·.1)).Nodup) (ht : H t = some (.tup [.bl a, .bl b])) (ha : a = g' n false) (hb : b = g' n true) (hs : a = true ∨ b = true)
    (e : ∀ m s, m ≠ n → g' m s = g m s) : PolL H L' g' := by
  refine ⟨nd, fun x hx => ?_, fun x hx => ?_, fun m s h => ?_⟩
  · rcases (hm x).mp hx with ⟨h1, h2⟩ | rfl
    · obtain ⟨h3, h4⟩ := p.at_ x h1
      exact ⟨h3, fun s => (h4 s).trans (e _ _ h2).symm⟩
    · refine ⟨ht, fun s => ?_⟩
      cases s with
      | true => exact hb
      | false => exact ha
  · rcases (hm x).mp hx with ⟨h1, h2⟩ | rfl
    · rw [e _ _ h2, e _ _ h2]
      exact p.some_ x h1
    · rw [← ha, ← hb]
      exact hs
  · by_cases hmn : m = n
    · rw [hmn]
      exact List.mem_map.mpr ⟨(n, t, a, b), (hm _).mpr (.inr rfl), rfl⟩
    · rw [e _ _ hmn] at h
      obtain ⟨x, hx, ex⟩ := List.mem_map.mp (p.all m s h)
      exact List.mem_map.mpr ⟨x, (hm x).mpr (.inl ⟨hx, by rw [show x.1 = m from ex]; exact hmn⟩), ex⟩
theorem and_eq0 {σ : L2.St} {H : Hp} {K : VK} {i : Int} {c : Bool} (h3 : σ[3]? = some (some (.int i))) (h : K (.bl (c && decide (V.int i = V.int 0))) H) : if c = true then tOp rEq (tVar 3) (tC (.int 0)) σ H K else K (.bl false) H := by
  cases c with
  | true => exact (if_pos rfl).mpr ⟨_, h3, rfl, h⟩
  | false => exact (if_neg Bool.false_ne_true).mpr h
theorem or_ans {σ : L2.St} {H : Hp} {t u : TE} {b1 b2 : Bool} {Q : VK} (h1 : ∀ Q : VK, Q (.bl b1) H → t σ H Q) (h2 : ∀ Q : VK, Q (.bl b2) H → u σ H Q) (q : Q (.bl (b1 || b2)) H) : tOrV t u σ H Q := by
  refine h1 _ ⟨b1, rfl, ?_⟩
  cases b1 with
  | true => exact (if_pos rfl).mpr q
  | false => exact (if_neg Bool.false_ne_true).mpr (h2 _ q)
theorem kid_over {f c : Fm} (ho : f.over nms = true) (hm : c ∈ f.kids) : c.over nms = true := by
  cases f <;> simp only [Fm.kids, List.mem_cons, List.not_mem_nil, or_false] at hm
  all_goals first | exact hm.elim | skip
  all_goals first | (rcases hm with rfl | rfl <;> simp_all [Fm.over]) | (subst hm; simpa [Fm.over] using ho)
theorem nodup_leS : ∀ (l D : List Str), l.Nodup → (∀ x ∈ l, x ∈ D) → l.length ≤ D.length
  | [], _, _, _ => Nat.zero_le _
  | x :: l, D, nd, sub => by
    rw [List.nodup_cons] at nd
    have hx := sub x List.mem_cons_self
    have ih := nodup_leS l (D.erase x) nd.2 fun y hy => (List.mem_erase_of_ne fun e : y = x => nd.1 (by rw [← e]; exact hy)).mpr (sub y (List.mem_cons_of_mem _ hy))
    rw [List.length_erase_of_mem hx] at ih
    have := List.length_pos_of_mem hx
    rw [List.length_cons]
    omega
theorem occ_over : ∀ {f : Fm} {n : Str} {s : Bool}, f.over nms = true → f.occ n s = true → n ∈ nms
  | .var m, n, s, h, e => by
    have e : (decide (m = n) && !s) = true := e
    rw [Bool.and_eq_true, decide_eq_true_iff] at e
    rw [← e.1]
    exact of_decide_eq_true h
  | .fal, _, _, _, e => by cases e
  | .and a b, n, s, h, e => by
    have h : (a.over nms && b.over nms) = true := h
    have e : (a.occ n s || b.occ n s) = true := e
    rw [Bool.and_eq_true] at h
    rw [Bool.or_eq_true] at e
    exact e.elim (occ_over h.1) (occ_over h.2)
  | .or a b, n, s, h, e => by
    have h : (a.over nms && b.over nms) = true := h
    have e : (a.occ n s || b.occ n s) = true := e
    rw [Bool.and_eq_true] at h
    rw [Bool.or_eq_true] at e
    exact e.elim (occ_over h.1) (occ_over h.2)
  | .imp a b, n, s, h, e => by
    have h : (a.over nms && b.over nms) = true := h
    have e : (a.occ n (!s) || b.occ n s) = true := e
    rw [Bool.and_eq_true] at h
    rw [Bool.or_eq_true] at e
    exact e.elim (occ_over h.1) (occ_over h.2)
  | .box a, n, s, h, e => occ_over (f := a) h e
theorem PolL.few {H : Hp} {L : Pl4} {g : Str → Bool → Bool} (p : PolL H L g) (h : ∀ n s, g n s = true → n ∈ nms) : L.length ≤ 3 := by
  have := nodup_leS (L.map (·.1)) nms p.nd fun n hn => by
    obtain ⟨x, hx, rfl⟩ := List.mem_map.mp hn
    exact (p.some_ x hx).elim (h _ _) (h _ _)
  rw [List.length_map] at this
  exact this
/-- what the i-th part adds -/
def kidO (f : Fm) (q : Nat) (n : Str) (s : Bool) : Bool := match f.kids[q]? with
  | some c => c.occ n (if (f.isImp2 && decide (q = 0)) = true then !s else s)
  | none => false
def acc (f : Fm) (i : Nat) (n : Str) (s : Bool) : Bool := (List.range i).any fun q => kidO f q n s
theorem acc_succ (f : Fm) (i : Nat) (n : Str) (s : Bool) : acc f (i + 1) n s = (acc f i n s || kidO f i n s) := by
  unfold acc
  rw [List.range_succ, List.any_append]
  simp
theorem acc_all {f : Fm} (hv : f.isVar = false) (n : Str) (s : Bool) : acc f f.kids.length n s = f.occ n s := by
  cases f with
  | var _ => cases hv
  | fal => rfl
  | and a b => show ((List.range 2).any _) = _; simp [List.range_succ, kidO, Fm.kids, Fm.isImp2, Fm.occ]
  | or a b => show ((List.range 2).any _) = _; simp [List.range_succ, kidO, Fm.kids, Fm.isImp2, Fm.occ]
  | imp a b => show ((List.range 2).any _) = _; simp [List.range_succ, kidO, Fm.kids, Fm.isImp2, Fm.occ]
  | box a => show ((List.range 1).any _) = _; simp [List.range_succ, kidO, Fm.kids, Fm.isImp2, Fm.occ]
theorem acc_over {f : Fm} (ho : f.over nms = true) {i : Nat} {n : Str} {s : Bool} (h : acc f i n s = true) : n ∈ nms := by
  unfold acc at h
  obtain ⟨q, _, h⟩ := List.any_eq_true.mp h
  unfold kidO at h
  cases hc : f.kids[q]? with
  | none => rw [hc] at h; cases h
  | some c =>
    rw [hc] at h
    have hm := List.mem_of_getElem? hc
    have hco : c.over nms = true := by
      cases f <;> simp only [Fm.kids, List.mem_cons, List.not_mem_nil, or_false] at hm
      all_goals first | exact hm.elim | skip
      all_goals first | (rcases hm with rfl | rfl <;> simp_all [Fm.over]) | (subst hm; simpa [Fm.over] using ho)
    exact occ_over hco h
theorem tell_snoc {L : Pl4} {m : Nat} {x : Str × Addr × Bool × Bool} (h : L[m]? = some x) (n : Str) (s : Bool) : tell (L.take (m + 1)) n s = (tell (L.take m) n s || (decide (x.1 = n) && pval x s)) := by
  unfold tell
  rw [take_snoc h, List.any_append]
  simp
def spPol (K : PySem.W.Frag) : Sp := fun vs H Q _ => ∃ (y : V) (l : Addr) (b : Fm) (us : List V), vs = [y, .ref l] ∧ b.over nms = true ∧ Im K H y b.d ∧ H l = some (.lst us) ∧ Rs PolD H us b.kids ∧
  ∀ (d : Addr) (L : Pl4) (H' : Hp), H d = none → Same H H' → H' d = some (.dK (pkv L)) → PolL H' L b.occ → Q (.ref d) H'
theorem ok_polarities_of (T : Top K mg) : FnOk P w K mg base CX0 1 T.f_polarities_of T.d_polarities_of ["a", "parts"] (spPol K) := by
  refine T.F_polarities_of.ok sc_polarities_of (fun vs H Q E h => ?_) (fun cdv A outer s H vs Q E hr h => ?_)
  · obtain ⟨y, l, b, us, rfl, _⟩ := h
    rfl
  obtain ⟨y, l, b, us, rfl, hov, hy, hl, hR, kQ⟩ := h
  have hu64 := hr.units
  have hu := Nat.lt_of_le_of_lt (Nat.add_le_add_left (by decide : 1 ≤ 64) _) hu64
  refine ⟨_, (pss_cons (ps_if (pt_cmpR op_eq (pe_ix ix_tup (pv 0) pe_int (fun _ _ => rfl)) pe_str (nomark _))
      (pss_one (ps_ret (pe_disp (pps_cons (pe_ix ix_tup (pv 0) pe_int (fun _ _ => rfl)) (pe_tup (pa_cons pe_bl (pa_cons pe_bl pa_nil))) pps_nil) rfl rfl (by decide) (by decide))))
      pss_nil)
    (pss_cons (ps_set (i := 2) sc_polarities_of.nd rfl (.inl rfl) pe_dnewK)
    (pss_cons (ps_for PassesOwn.never rfl (pi_enum (by rfl) T.z_enumerate (pa_cons (pv 1) pa_nil)) (pg_tup rfl (pgs_cons (pg_name (i := 3) sc_polarities_of.nd rfl (.inl rfl)) (pgs_cons (pg_name (i := 4) sc_polarities_of.nd rfl (.inl rfl)) pgs_nil)))
      (pss_cons (ps_set (i := 5) sc_polarities_of.nd rfl (.inl rfl) (pe_and (pe_cmpR op_eq (pe_ix ix_tup (pv 0) pe_int (fun _ _ => rfl)) pe_str (nomark _)) (pe_one (pe_cmpR op_eq (pv 3) pe_int (nomark _)))))
    (pss_one (ps_for PassesOwn.never rfl (pi_items (pv 4)) (pg_tup rfl (pgs_cons (pg_name (i := 6) sc_polarities_of.nd rfl (.inl rfl)) (pgs_cons (pg_tup rfl (pgs_cons (pg_name (i := 7) sc_polarities_of.nd rfl (.inl rfl)) (pgs_cons (pg_name (i := 8) sc_polarities_of.nd rfl (.inl rfl)) pgs_nil))) pgs_nil)))
      (C8.pss_cut (ps_if (pt_val (pv 5))
      (pss_one (ps_par (i := 7) (j := 8) rfl sc_polarities_of.nd rfl rfl (by decide) rfl rfl (pa_cons (pv 8) (pa_cons (pv 7) pa_nil)) (by rfl)))
      pss_nil)
    (pss_cons (ps_set (i := 9) sc_polarities_of.nd rfl (.inl rfl) (pe_dget2 hu (pv 2) (pv 6) (pe_tup (pa_cons pe_bl (pa_cons pe_bl pa_nil))) ⟨rfl, rfl, rfl, rfl⟩))
    (pss_one (ps_dput hu (pv 2) (pv 6) (pe_tup (pa_cons (pe_or (pe_ix ix_tup (pv 9) pe_int (fun _ _ => rfl)) (pe_one (pv 7))) (pa_cons (pe_or (pe_ix ix_tup (pv 9) pe_int (fun _ _ => rfl)) (pe_one (pv 8))) pa_nil))) rfl))))))))
    (pss_one (ps_ret (pv 2)))))), ?_⟩
  obtain ⟨ba, ys, rfl, h1, h2⟩ := im_inv hy
  refine ⟨_, rfl, ba, _, 0, _, rfl, rfl, h1, atI_nat (j := 0) rfl, rfl, _, rfl, ?_⟩
  rw [sg_var]
  cases hv : b.isVar with
  | true =>
    obtain ⟨_, vn, rfl⟩ := kids_var hv
    have hva := im_var_at hy
    refine iteT fun p np => ?_
    have s1 := same_new (o := .dK []) np
    refine ⟨_, rfl, ba, _, 1, _, rfl, rfl, (Same.ts s1).sqT (SqT.of hva), atI_nat (j := 1) rfl, (by show 2 ≤ sizeLine; decide), fun t nt => ?_⟩
    have hp1 : upd H p (.dK []) p = some (.dK []) := upd_same
    have ntp : t ≠ p := fun e => by rw [e, hp1] at nt; cases nt
    have s2 := same_new (o := .tup [.bl true, .bl false]) nt
    refine ⟨s2 _ _ hp1, [(.inr vn, .ref t)], rfl, (by show 1 ≤ 15; decide), kQ p [(vn, t, true, false)] _ np (fun c o e => ?_) upd_same ⟨List.nodup_cons.mpr ⟨fun h => (nomatch h), .nil⟩, fun x hx => ?_, fun x hx => ?_, fun n s h => ?_⟩⟩
    · rw [upd_ne (ne_of_none e np)]
      exact s2 _ _ (s1 _ _ e)
    · rw [List.mem_singleton.mp hx]
      refine ⟨by rw [upd_ne ntp]; exact upd_same, fun s => ?_⟩
      cases s <;> simp [pval, Fm.occ]
    · rw [List.mem_singleton.mp hx]
      exact .inl (by simp [Fm.occ])
    · have e : (decide (vn = n) && !s) = true := h
      rw [Bool.and_eq_true, decide_eq_true_iff] at e
      rw [← e.1]
      exact List.mem_cons_self
  | false =>
    refine iteF ?_
    intro d nd
    have s1 := same_new (o := .dK []) nd
    have hd1 := @upd_same H d (.dK [])
    have hR1 := hR.mono PolD.tz (Same.tz s1)
    have hy1 := hy.mono (Same.ts s1)
    have h11 := (Same.ts s1).sqT h1
    have hl1 := s1 _ _ hl
    generalize upd H d (.dK []) = H1 at s1 hd1 hR1 hy1 h11 hl1
    have stay : ∀ {H' : Hp}, (∀ c o, H1 c = some o → c ≠ d → H' c = some o) → TZ H1 H' := fun {H'} k => TZ.but hd1 (fun _ e => nomatch e) (fun _ _ e => nomatch e) k
    have nld : l ≠ d := fun e => by rw [e, hd1] at hl1; cases hl1
    have hle := kids_le2 b
    have hlen := hR.1
    refine ⟨_, rfl, l, us, rfl, SqL.of hl1, ?_⟩
    refine for_it walk_enum (fun i σ H2 => ∃ (o3 o4 o5 o6 o7 o8 o9 : Option V) (L : Pl4), σ = [some (.ref ba), some (.ref l), some (.ref d), o3, o4, o5, o6, o7, o8, o9] ∧ (∀ c o, H1 c = some o → c ≠ d → H2 c = some o) ∧ H2 d = some (.dK (pkv L)) ∧ PolL H2 L (acc b i))
      ⟨none, none, none, none, none, none, none, [], rfl, fun _ _ h _ => h, hd1, ⟨.nil, fun x h => (nomatch h), fun x h => (nomatch h), fun n s h => by cases h⟩⟩ (fun i σ H2 _ h => by
        obtain ⟨_, _, _, _, _, _, _, _, _, k, _⟩ := h
        exact SqL.of (k _ _ hl1 nld)) ?_ ?_
    · rintro i y0 σ H2 H3 hi ⟨o3, o4, o5, o6, o7, o8, o9, L, rfl, k2, hd2, p2⟩ ⟨tt, k3, k4, rfl, ntt, rfl, hk3, hk4⟩
      cases hk3
      cases hc : b.kids[i]? with
      | none =>
        have := List.getElem?_eq_none_iff.mp hc
        omega
      | some c =>
      obtain ⟨sd, so, Lk, rfl, hsd, pk⟩ := hR1.2 i k4 c hk4 hc
      have s3 := same_new (o := .tup [.int (i : Int), .ref sd]) ntt
      have k23 : ∀ c o, H1 c = some o → c ≠ d → upd H2 tt (.tup [.int (i : Int), .ref sd]) c = some o := fun c o e n => s3 _ _ (k2 _ _ e n)
      have hd3 := s3 _ _ hd2
      have p3 := p2.ts (Same.ts s3)
      have htt3 : upd H2 tt (.tup [.int (i : Int), .ref sd]) tt = some (.tup [.int (i : Int), .ref sd]) := upd_same
      generalize upd H2 tt (.tup [.int (i : Int), .ref sd]) = H3 at k23 hd3 p3 htt3
      have nsd : sd ≠ d := fun e => by rw [e, hd1] at hsd; cases hsd
      refine ⟨tt, _, rfl, SqT.of htt3, rfl, _, _, rfl, _, _, rfl, rfl, ?_⟩
      generalize htr : (b.isImp2 && decide (i = 0)) = tr
      have kid : ∀ n s, kidO b i n s = c.occ n (if tr = true then !s else s) := fun n s => by
        unfold kidO
        rw [hc, htr]
      refine ⟨_, rfl, ba, _, 0, _, rfl, rfl, (stay k23).1.sqT h11, atI_nat (j := 0) rfl, rfl, _, rfl, ?_⟩
      rw [sg_imp2]
      refine and_eq0 (i := (i : Int)) rfl ?_
      have etr : (b.isImp2 && decide (V.int (i : Int) = V.int 0)) = tr := by
        rw [← htr]
        congr 1
        refine decide_eq_decide.mpr ⟨fun e => ?_, fun e => by rw [e]; rfl⟩
        have := V.int.inj e
        omega
      rw [etr]
      refine ⟨_, rfl, sd, so, _, rfl, k23 _ _ hsd nsd, ?_⟩
      refine for_it walk_items (fun m σ H4 => ∃ (o6 o7 o8 o9 : Option V) (L : Pl4), σ = [some (.ref ba), some (.ref l), some (.ref d), some (.int (i : Int)), some (.ref sd), some (.bl tr), o6, o7, o8, o9] ∧ (∀ c o, H1 c = some o → c ≠ d → H4 c = some o) ∧ H4 d = some (.dK (pkv L)) ∧ PolL H4 L (fun n s => acc b i n s || tell (Lk.take m) n (if tr = true then !s else s)))
        ⟨o6, o7, o8, o9, L, rfl, k23, hd3, p3.fn fun n s => by simp [tell]⟩ (fun m σ H4 _ h => by
          obtain ⟨_, _, _, _, _, _, k, _⟩ := h
          exact k _ _ hsd nsd) ?_ ?_
      · rintro m y1 σ H4 H5 hm ⟨o6, o7, o8, o9, L4, rfl, k4, hd4, p4⟩ ⟨T5, u1, u2, rfl, nT5, rfl, hu1, hu2⟩
        simp only [pkv, List.getElem?_map] at hu1 hu2
        cases hx0 : Lk[m]? with
        | none => rw [hx0] at hu1; cases hu1
        | some x =>
        rw [hx0] at hu1 hu2
        have e1 : u1 = .str x.1 := (Option.some.inj hu1).symm
        have e2 : u2 = .ref x.2.1 := (Option.some.inj hu2).symm
        subst e1 e2
        have hxm := List.mem_of_getElem? hx0
        have hxt := (stay k4).1.2 _ _ (pk.at_ x hxm).1
        have s5 := same_new (o := .tup [.str x.1, .ref x.2.1]) nT5
        have hT5 : upd H4 T5 (.tup [.str x.1, .ref x.2.1]) T5 = some (.tup [.str x.1, .ref x.2.1]) := upd_same
        have k5 : ∀ c o, H1 c = some o → c ≠ d → upd H4 T5 (.tup [.str x.1, .ref x.2.1]) c = some o := fun c o e n => s5 _ _ (k4 _ _ e n)
        have hd5 := s5 _ _ hd4
        have p5 := p4.ts (Same.ts s5)
        have hxt5 := s5 _ _ hxt
        generalize upd H4 T5 (.tup [.str x.1, .ref x.2.1]) = H5 at hT5 k5 hd5 p5 hxt5
        refine ⟨T5, _, rfl, SqT.of hT5, rfl, _, _, rfl, _, _, rfl, ⟨x.2.1, _, rfl, SqT.of hxt5, rfl, _, _, rfl, _, _, rfl, rfl, rfl, ?_⟩⟩
        refine ⟨fun σ H6 => σ = [some (.ref ba), some (.ref l), some (.ref d), some (.int (i : Int)), some (.ref sd), some (.bl tr), some (.str x.1), some (.bl (pval x tr)), some (.bl (pval x (!tr))), o9] ∧ H6 = H5, ?_, ?_⟩
        · refine ⟨_, rfl, tr, rfl, ?_⟩
          rcases Bool.eq_false_or_eq_true tr with ht | ht
          · refine (if_pos ht).mpr ⟨_, rfl, _, rfl, _, _, rfl, ?_, rfl⟩
            rw [ht]
            rfl
          · refine (if_neg (by rw [ht]; exact Bool.false_ne_true)).mpr ⟨?_, rfl⟩
            rw [ht]
            rfl
        rintro σ H6 ⟨rfl, rfl⟩
        refine ⟨_, rfl, d, rfl, .inl ⟨_, .inl hd5⟩, _, rfl, (by show 2 ≤ sizeLine; decide), fun z nz => ?_⟩
        have s6 := same_new (o := .tup [.bl false, .bl false]) nz
        have hz6 : upd H6 z (.tup [.bl false, .bl false]) z = some (.tup [.bl false, .bl false]) := upd_same
        have k6 : ∀ c o, H1 c = some o → c ≠ d → upd H6 z (.tup [.bl false, .bl false]) c = some o := fun c o e n => s6 _ _ (k5 _ _ e n)
        have hd6 := s6 _ _ hd5
        have p6 := p5.ts (Same.ts s6)
        generalize upd H6 z (.tup [.bl false, .bl false]) = H7 at hz6 k6 hd6 p6
        obtain ⟨o, bt, hg, hob, hbt⟩ := p6.get (K := K) (Rd.of hd6) hz6 x.1
        refine ⟨o, hg, ?_⟩
        rw [hob]
        dsimp only [gName, sDPut, tTup, tCons, List.set]
        refine or_ans (b1 := (acc b i x.1 false || tell (Lk.take m) x.1 (if tr = true then !false else false))) (b2 := pval x tr) (fun Q q => ⟨_, rfl, bt, _, 0, _, rfl, rfl, SqT.of hbt, atI_nat (j := 0) rfl, q⟩) (fun Q q => ⟨_, rfl, q⟩) ?_
        refine or_ans (b1 := (acc b i x.1 true || tell (Lk.take m) x.1 (if tr = true then !true else true))) (b2 := pval x (!tr)) (fun Q q => ⟨_, rfl, bt, _, 1, _, rfl, rfl, SqT.of hbt, atI_nat (j := 1) rfl, q⟩) (fun Q q => ⟨_, rfl, q⟩) ?_
        refine ⟨(by show 2 ≤ sizeLine; decide), fun t8 nt8 => ?_⟩
        generalize ha8 : ((acc b i x.1 false || tell (Lk.take m) x.1 (if tr = true then !false else false)) || pval x tr) = a8
        generalize hb8 : ((acc b i x.1 true || tell (Lk.take m) x.1 (if tr = true then !true else true)) || pval x (!tr)) = b8
        have s8 := same_new (o := .tup [.bl a8, .bl b8]) nt8
        have ht8 : upd H7 t8 (.tup [.bl a8, .bl b8]) t8 = some (.tup [.bl a8, .bl b8]) := upd_same
        have k8 : ∀ c o, H1 c = some o → c ≠ d → upd H7 t8 (.tup [.bl a8, .bl b8]) c = some o := fun c o e n => s8 _ _ (k6 _ _ e n)
        have hd8 := s8 _ _ hd6
        have p8 := p6.ts (Same.ts s8)
        generalize upd H7 t8 (.tup [.bl a8, .bl b8]) = H8 at ht8 k8 hd8 p8
        obtain ⟨L', hp1, hp2, hp3, hp4⟩ := pk_put L4 x.1 t8 a8 b8
        have ckO : ∀ n s, c.occ n s = true → n ∈ nms := fun n s h => by
          have hm := List.mem_of_getElem? hc
          refine occ_over (f := c) ?_ h
          exact kid_over hov hm
        have few4 : L4.length ≤ 3 := p8.few fun n s h => by
          rw [Bool.or_eq_true] at h
          rcases h with h | h
          · exact acc_over hov h
          · unfold tell at h
            obtain ⟨y, hy, h⟩ := List.any_eq_true.mp h
            rw [Bool.and_eq_true, decide_eq_true_iff] at h
            have hyk := List.mem_of_mem_take hy
            rw [← h.1]
            exact (pk.some_ y hyk).elim (ckO _ _) (ckO _ _)
        refine ⟨_, rfl, _, rfl, d, _, rfl, .inl ⟨_, .inr x.1, hd8, rfl, (by rw [List.length_map, sizeLine_eq]; omega), rfl⟩, ?_⟩
        rw [show putK (List.map (fun x => ((.inr x.1 : Key), V.ref x.2.1)) L4) (.inr x.1) (.ref t8) = pkv L' from hp1]
        have k9 : ∀ c o, H8 c = some o → c ≠ d → upd H8 d (.dK (pkv L')) c = some o := fun c o e n => by
          rw [upd_ne n]
          exact e
        have t9 : TS H8 (upd H8 d (.dK (pkv L'))) := TS.but hd8 (fun _ e => nomatch e) (fun _ _ e => nomatch e) k9
        refine ⟨_, _, _, _, L', rfl, fun c o e n => k9 _ _ (k8 _ _ e n) n, upd_same, (p8.ts t9).put hp2 (hp3 p8.nd) (t9.2 _ _ ht8) ?_ ?_ ?_ fun m2 s hne => ?_⟩
        · rw [← ha8, tell_snoc hx0]
          cases tr <;> simp [Bool.or_assoc]
        · rw [← hb8, tell_snoc hx0]
          cases tr <;> simp [Bool.or_assoc]
        · have hv2 : pval x false = true ∨ pval x true = true := by
            rw [(pk.at_ x hxm).2, (pk.at_ x hxm).2]
            exact pk.some_ x hxm
          rw [← ha8, ← hb8]
          cases tr with
          | true => exact hv2.elim (fun h => .inr (by rw [show (!true) = false from rfl, h]; simp)) (fun h => .inl (by rw [h]; simp))
          | false => exact hv2.elim (fun h => .inl (by rw [h]; simp)) (fun h => .inr (by rw [show (!false) = true from rfl, h]; simp))
        · rw [tell_snoc hx0, decide_eq_false (show ¬ x.1 = m2 from fun e => hne e.symm)]
          simp
      · rintro σ H4 ⟨o6, o7, o8, o9, L4, rfl, k4, hd4, p4⟩
        rw [show (pkv Lk).length = Lk.length from List.length_map .., List.take_length] at p4
        refine ⟨_, _, _, _, _, _, _, L4, rfl, k4, hd4, p4.fn fun n s => ?_⟩
        rw [acc_succ, kid, pk.tell]
    · rintro σ H2 ⟨o3, o4, o5, o6, o7, o8, o9, L, rfl, k2, hd2, p2⟩
      rw [hlen] at p2
      exact ⟨_, rfl, kQ d L H2 nd (fun c o e => k2 _ _ (s1 _ _ e) (ne_of_none e nd)) hd2 (p2.fn fun n s => acc_all hv n s)⟩

def spPols (K : PySem.W.Frag) : Sp := fun vs H Q _ => ∃ (x : V) (f : Fm), vs = [x] ∧ Im K H x f.d ∧ f.over nms = true ∧ f.ht ≤ 20 ∧ f.sz ≤ 100000 ∧ ∀ v H', Same H H' → PolD H' v f → Q v H'
theorem ok_polarities (T : Top K mg) : FnOk P w K mg base CX0 6 T.f_polarities T.d_polarities ["a"] (spPols K) := by
  have G_folded : FnOk P w K mg base CX0 5 T.f_folded T.d_folded ["a", "value_of"] (spFolded P w K mg base) := ok_folded T
  refine T.F_polarities.ok sc_polarities (fun vs H Q E h => ?_) (fun cdv A outer s H vs Q E hr h => ?_)
  · obtain ⟨x, f, rfl, _⟩ := h
    rfl
  obtain ⟨x, f, rfl, hx, ho, hh, hsz, kQ⟩ := h
  refine ⟨_, (pss_one (ps_ret (pe_call G_folded (hr.mono (by omega)) (by rfl) T.m_folded T.F_folded.kp T.b_folded .nil pass0 (pa_cons (pv 0) (pa_cons (pe_glob (v := .ref T.f_polarities_of) rfl T.m_polarities_of rfl) pa_nil))))), ?_⟩
  refine ⟨_, rfl, x, T.f_polarities_of, f, frzSp (spPol K), PolD, f.ht, rfl, hx, fun g hg => ?_, Nat.le_refl _, hsz, .pl (.top ((fn_frz (ok_polarities_of T)).mono (by decide)) T.F_polarities_of.kp T.b_polarities_of), PolD.tz, fun b H1 y l us Q1 hb s1 hy hl hR k1 => ?_, kQ⟩
  · obtain ⟨a1, a2⟩ := subs_ok 20 hh ho hg
    exact ⟨Fm.lay nms_ok g a1, by omega⟩
  · refine ⟨y, l, b, us, rfl, (subs_ok 20 hh ho hb).1, hy, hl, hR, fun d L H' nd s' hd p => ⟨d, _, rfl, nd, hd, trivial, fun o => k1 _ _ (fun c u e => ?_) ⟨d, o, L, rfl, upd_same, p.ts (TS.but hd (fun _ e => nomatch e) (fun _ _ e => nomatch e) fun c u r n => ?_)⟩⟩⟩
    · rw [upd_ne (ne_of_none e nd)]
      exact s' _ _ e
    · rw [upd_ne n]
      exact r
/-- whether each occurrence of a variable stands within a box -/
def Fm.grd (nm : Str) : Fm → Bool
  | .var m => !decide (m = nm)
  | .fal => true
  | .and a b => a.grd nm && b.grd nm
  | .or a b => a.grd nm && b.grd nm
  | .imp a b => a.grd nm && b.grd nm
  | .box _ => true
def spGrdV (K : PySem.W.Frag) (nm : Str) : List (Option V) → Sp := fun ws vs H Q _ => ∃ (y : V) (l : Addr) (b : Fm) (us : List V), ws = [some (.str nm)] ∧ vs = [y, .ref l] ∧ Im K H y b.d ∧ H l = some (.lst us) ∧ Rs (fun _ v c => v = .bl (c.grd nm)) H us b.kids ∧ Q (.bl (b.grd nm)) H
theorem rs_bl {φ : Fm → Bool} {H : Hp} : ∀ {us : List V} {bs : List Fm}, Rs (fun _ v c => v = .bl (φ c)) H us bs → us = (bs.map φ).map V.bl
  | [], [], _ => rfl
  | [], _ :: _, h => nomatch h.1
  | _ :: _, [], h => nomatch h.1
  | u :: us, b :: bs, h => by
    rw [List.map_cons, List.map_cons, ← rs_bl (H := H) (us := us) (bs := bs) ⟨Nat.succ.inj h.1, fun i v c h1 h2 => h.2 (i + 1) v c h1 h2⟩, h.2 0 u b rfl rfl]
theorem grd_kids {b : Fm} {nm : Str} (hv : b.isVar = false) : (b.isBox || (b.kids.map fun c => c.grd nm).all id) = b.grd nm := by
  cases b with
  | var _ => cases hv
  | fal => rfl
  | and a c => simp [Fm.isBox, Fm.kids, Fm.grd]
  | or a c => simp [Fm.isBox, Fm.kids, Fm.grd]
  | imp a c => simp [Fm.isBox, Fm.kids, Fm.grd]
  | box a => simp [Fm.isBox, Fm.kids, Fm.grd]
theorem nok_grd (T : Top K mg) {f c' : Addr} {q : Str} {cl : List (Str × Addr)} {nm : Str} : NdefX.NOk P w K mg base CX0 1 f (NdefX.NF.of s_is_guarded_value_of "value_of" q cl c') ["b", "parts"] ["name"] (spGrdV K nm) := by
  refine NdefX.nok_of nsc_is_guarded_value_of (fun doc pm ctv us hl => match us, hl with | [_, _], _ => rfl) (fun ws vs H Q E h => ?_) (fun A outer s H vs ws Q E hr hf hc hw h => ?_)
  · obtain ⟨y, l, b, us, _, rfl, _⟩ := h
    rfl
  obtain ⟨y, l, b, us, rfl, rfl, hy, hl, hR, kQ⟩ := h
  refine ⟨_, (pss_cons (ps_if (pt_cmpR op_eq (pe_ix ix_tup (pv 0) pe_int (fun _ _ => rfl)) pe_str (nomark _))
      (pss_one (ps_ret (pe_cmpR op_ne (pe_ix ix_tup (pv 0) pe_int (fun _ _ => rfl)) (pv 2) (nomark _))))
      pss_nil)
    (pss_one (ps_ret (pe_or (pe_cmpR op_eq (pe_ix ix_tup (pv 0) pe_int (fun _ _ => rfl)) pe_str (nomark _)) (pe_one (pe_callB (id := "all") (cr_all rfl) (by rfl) T.z_all (by decide +kernel) (pa_cons (pv 1) pa_nil))))))), ?_⟩
  obtain ⟨ba, ys, rfl, h1, h2⟩ := im_inv hy
  refine ⟨_, rfl, ba, _, 0, _, rfl, rfl, h1, atI_nat (j := 0) rfl, rfl, _, rfl, ?_⟩
  rw [sg_var]
  cases hv : b.isVar with
  | true =>
    obtain ⟨_, vn, rfl⟩ := kids_var hv
    have hva := im_var_at hy
    refine iteT ⟨_, rfl, ba, _, 1, _, rfl, rfl, SqT.of hva, atI_nat (j := 1) rfl, _, rfl, rfl, ?_⟩
    have e : (!decide (V.str vn = V.str nm)) = (Fm.var vn).grd nm := by
      show _ = !decide (vn = nm)
      congr 1
      exact decide_eq_decide.mpr ⟨fun e => V.str.inj e, fun e => by rw [e]⟩
    show Q (.bl (!decide (V.str vn = V.str nm))) H
    rw [e]
    exact kQ
  | false =>
    have eu := rs_bl (φ := fun c => c.grd nm) hR
    subst eu
    refine iteF ?_
    dsimp only [tNext, tRet]
    refine or_ans (b1 := b.isBox) (b2 := (b.kids.map fun c => c.grd nm).all id) (fun Q q => ⟨_, rfl, ba, _, 0, _, rfl, rfl, h1, atI_nat (j := 0) rfl, rfl, ?_⟩) (fun Q q => ⟨_, rfl, l, _, rfl, SqL.of hl, q⟩) ?_
    · rw [sg_box]
      exact q
    · rw [grd_kids hv]
      exact kQ
theorem cap_grd {K : PySem.W.Frag} {cl : List (Str × Addr)} {nm : Str} {H6 : Hp} {y : V} {l : Addr} {us : List V} {b : Fm} {Q1 : VK} {E : XK} (W6 : WithC cl ["name"] [some (.str nm)] H6)
    (hy : Im K H6 y b.d) (hl : H6 l = some (.lst us)) (hR : Rs (fun _ v c => v = .bl (c.grd nm)) H6 us b.kids) (k1 : ∀ v H2, Same H6 H2 → v = .bl (b.grd nm) → Q1 v H2) : capSp cl [some (.str nm)] (spGrdV K nm) [y, .ref l] H6 Q1 E :=
  ⟨y, l, b, us, rfl, rfl, hy.mono W6.ts, W6.off hl (fun _ z => nomatch z), hR, fun noC => k1 _ _ (on_same (L2.Same.refl _)) rfl⟩
def spGrd (K : PySem.W.Frag) (TT : List NdefX.NTab) : Sp := fun vs H Q _ => ∃ (x : V) (nm : Str) (f : Fm), vs = [x, .str nm] ∧ Im K H x f.d ∧ (∀ b ∈ f.subs, Ok1 b) ∧ f.sz ≤ 100000 ∧ NdefX.TabsN TT H ∧
  ∀ H', LamX.ExtN H H' → NdefX.TabsN TT H' → Q (.bl (f.grd nm)) H'
theorem ok_is_guarded (T : Top K mg) (TBs : ∀ p ∈ T.cs, LamX.TabB base mg p.1 p.2) : FnOk P w K mg base CX0 6 T.f_is_guarded T.d_is_guarded ["a", "name"] (spGrd K T.tabs) := by
  have G_folded : FnOk P w K mg base CX0 5 T.f_folded T.d_folded ["a", "value_of"] (spFolded P w K mg base) := ok_folded T
  have hm : (T.P_is_guarded, fun (_ _ : Nat) => (("is_guarded.<locals>.value_of" : String) : Str)) ∈ T.tabs := by simp [Top.tabs]
  have hun := tab_uniq (T := T.tabs) T.dT hm
  have TB := TBs (T.c_is_guarded, T.P_is_guarded) (by simp [Top.cs])
  refine T.C_is_guarded.ok sc_is_guarded (fun vs H Q E h => ?_) (fun A outer s H vs Q E hr h => ?_)
  · obtain ⟨x, nm, f, rfl, _⟩ := h
    rfl
  obtain ⟨x, nm, f, rfl, hx, hok, hsz, hT, kQ⟩ := h
  refine ⟨_, (pss_cons (NdefX.ps_ndefMS (i := 2) rfl TB rfl hm rfl hun (NdefX.ndef_free fsc_is_guarded_value_of) rfl rfl rfl sc_is_guarded.nd rfl (.inl rfl) (.inl rfl))
    (pss_one (ps_ret (pe_callW (fr := ["name"]) (js := [1]) G_folded (hr.mono (by omega)) (by rfl) T.m_folded T.F_folded.kp T.b_folded (fun ok => NdefX.Caps.made (scope := C8.fnScope s_is_guarded_value_of) ok (NdefX.ndef_free fsc_is_guarded_value_of) (NdefX.ndef_fr fsc_is_guarded_value_of) rfl) (fun ok => caps_mem (scope := C8.fnScope s_is_guarded_value_of) ok (NdefX.ndef_free fsc_is_guarded_value_of)) (fun _ _ => rfl) (pa_cons (pv 0) (pa_cons (pv 2) pa_nil)))))), ?_⟩
  refine ⟨hT, fun g c' H4 eN nn T4 hg0 hg hc => ?_⟩
  refine ⟨_, rfl, _, rfl, fun H5 pl => ?_⟩
  refine ⟨x, g, f, _, fun _ v c => v = .bl (c.grd nm), f.ht, rfl, (hx.mono (extn_ts eN)).mono (Same.ts pl.same), hok, Nat.le_refl _, hsz, .cap ((nok_grd T (nm := nm)).mono (by decide)) (pl.same _ _ hg) (pl.same _ _ hc) pl.w (fun _ _ _ _ h => h), fun H H' v b t h => h, fun b H6 y l us Q1 hb s6 hy hl hR k1 => ?_, fun v H6 s6 hv W6 => ?_⟩
  · exact cap_grd (pl.w.same (H' := H6) fun b o u e => s6 _ _ e) hy hl hR k1
  · subst hv
    have s46 := pl.off s6
    exact kQ _ (eN.trans (LamX.ExtN.of s46)) (T4.ext s46)
/-- the law's own: each occurrence of a variable, whether it is negative, whether within a box -/
def sgs : Fm → Bool → Bool → List (Str × Bool × Bool)
  | .var n, o, x => [(n, o, x)]
  | .fal, _, _ => []
  | .and a b, o, x => sgs a o x ++ sgs b o x
  | .or a b, o, x => sgs a o x ++ sgs b o x
  | .imp a b, o, x => sgs a (!o) x ++ sgs b o x
  | .box a, o, _ => sgs a o true
def rd3 (r : Str × Bool × Bool) : PyData := .tuple [.str r.1, .bool r.2.1, .bool r.2.2]
theorem ImAll.append {K : PySem.W.Frag} {H : Hp} : ∀ {vs ws : List V} {ds es : List PyData}, ImAll K H vs ds → ImAll K H ws es → ImAll K H (vs ++ ws) (ds ++ es)
  | _, _, _, _, .nil, h => h
  | _, _, _, _, .cons a r, h => .cons a (ImAll.append r h)
theorem sgs_len : ∀ (f : Fm) (o x : Bool), (sgs f o x).length ≤ f.sz
  | .var _, _, _ => Nat.le_refl 1
  | .fal, _, _ => Nat.zero_le _
  | .and a b, o, x => by have := sgs_len a o x; have := sgs_len b o x; rw [sgs, List.length_append]; show _ ≤ a.sz + b.sz + 1; omega
  | .or a b, o, x => by have := sgs_len a o x; have := sgs_len b o x; rw [sgs, List.length_append]; show _ ≤ a.sz + b.sz + 1; omega
  | .imp a b, o, x => by have := sgs_len a (!o) x; have := sgs_len b o x; rw [sgs, List.length_append]; show _ ≤ a.sz + b.sz + 1; omega
  | .box a, o, x => by have := sgs_len a o true; rw [sgs]; show _ ≤ a.sz + 1; omega
theorem kids_sz1 {f c : Fm} (h : c ∈ f.kids) : c.sz ≤ f.sz := by
  cases f <;> simp only [Fm.kids, List.mem_cons, List.not_mem_nil, or_false] at h
  all_goals first | exact h.elim | (rcases h with rfl | rfl <;> simp only [Fm.sz] <;> omega) | (subst h; simp only [Fm.sz]; omega)
theorem or_ansA {σ : L2.St} {H : Hp} {t u : TE} {b1 b2 : Bool} {Q : VK} (h1 : ∀ Q : VK, Q (.bl b1) H → t σ H Q) (h2 : ∀ Q : VK, Q (.bl b2) H → u σ H Q) (q : Q (.bl (b1 || b2)) H) : tOrV t u σ H Q := or_ans h1 h2 q
theorem im_twoS {K : PySem.W.Frag} {H : Hp} {ys : List V} {d1 d2 : PyData} (h : ImAll K H ys [d1, d2]) : ∃ a b, ys = [a, b] ∧ Im K H a d1 ∧ Im K H b d2 := by
  cases h with
  | cons h1 h2 =>
    cases h2 with
    | cons h3 h4 =>
      cases h4
      exact ⟨_, _, rfl, h1, h3⟩
def spSigns (K : PySem.W.Frag) (k : Nat) : Sp := fun vs H Q _ => ∃ (x : V) (o bx : Bool) (f : Fm), vs = [x, .bl o, .bl bx] ∧ Im K H x f.d ∧ f.ht < k ∧ f.sz ≤ 100000 ∧
  ∀ (q : Addr) (us : List V) (H' : Hp), H q = none → Same H H' → H' q = some (.lst us) → ImAll K H' us ((sgs f o bx).map rd3) → Q (.ref q) H'
theorem ok_law_signs (T : Top K mg) : ∀ k : Nat, FnOk P w K mg base CX0 k T.f_law_signs T.d_law_signs ["a", "odd", "boxed"] (spSigns K k) := by
  intro k
  induction k with
  | zero =>
    refine fn_none fun vs H Q E h => ?_
    obtain ⟨x, o, bx, f, _, _, h, _⟩ := h
    exact absurd h (Nat.not_lt_zero _)
  | succ k G_law_signs =>
    have G_law_parts : FnOk P w K mg base CX0 1 T.f_law_parts T.d_law_parts ["a"] (spLawParts K) := ok_law_parts T
    refine T.F_law_signs.ok sc_law_signs (fun vs H Q E h => ?_) (fun cdv A outer s H vs Q E hr h => ?_)
    · obtain ⟨x, o, bx, f, rfl, _⟩ := h
      rfl
    obtain ⟨x, o, bx, f, rfl, hx, hh, hsz, kQ⟩ := h
    have hn1 : 1 ≤ k := by
      have := f.ht_pos
      omega
    refine ⟨_, (pss_cons (ps_if (pt_cmpR op_eq (pe_ix ix_tup (pv 0) pe_int (fun _ _ => rfl)) pe_str (nomark _))
      (pss_one (ps_ret (pe_lst (pa_cons (pe_tup (pa_cons (pe_ix ix_tup (pv 0) pe_int (fun _ _ => rfl)) (pa_cons (pv 1) (pa_cons (pv 2) pa_nil)))) pa_nil))))
      pss_nil)
    (pss_cons (ps_if (pt_cmpR op_eq (pe_ix ix_tup (pv 0) pe_int (fun _ _ => rfl)) pe_str (nomark _))
      (pss_one (ps_ret (pe_op op_cat (pe_call G_law_signs (hr.mono (by omega)) (by rfl) T.m_law_signs T.F_law_signs.kp T.b_law_signs .nil pass0 (pa_cons (pe_ix ix_tup (pv 0) pe_int (fun _ _ => rfl)) (pa_cons (pe_not (pv 1)) (pa_cons (pv 2) pa_nil)))) (pe_call G_law_signs (hr.mono (by omega)) (by rfl) T.m_law_signs T.F_law_signs.kp T.b_law_signs .nil pass0 (pa_cons (pe_ix ix_tup (pv 0) pe_int (fun _ _ => rfl)) (pa_cons (pv 1) (pa_cons (pv 2) pa_nil)))))))
      pss_nil)
    (pss_cons (ps_set (i := 3) sc_law_signs.nd rfl (.inl rfl) (pe_lst pa_nil))
    (pss_cons (ps_for PassesOwn.never rfl (pi_list (pe_call G_law_parts (hr.mono (by omega)) (by rfl) T.m_law_parts T.F_law_parts.kp T.b_law_parts .nil pass0 (pa_cons (pv 0) pa_nil))) (pg_name (i := 4) sc_law_signs.nd rfl (.inl rfl))
      (pss_one (ps_set (i := 3) sc_law_signs.nd rfl (.inl rfl) (pe_op op_cat (pv 3) (pe_call G_law_signs (hr.mono (by omega)) (by rfl) T.m_law_signs T.F_law_signs.kp T.b_law_signs .nil pass0 (pa_cons (pv 4) (pa_cons (pv 1) (pa_cons (pe_or (pv 2) (pe_one (pe_cmpR op_eq (pe_ix ix_tup (pv 0) pe_int (fun _ _ => rfl)) pe_str (nomark _)))) pa_nil))))))))
    (pss_one (ps_ret (pv 3))))))), ?_⟩
    obtain ⟨ba, ys, rfl, h1, h2⟩ := im_inv hx
    have hsl := sgs_len f o bx
    refine ⟨_, rfl, ba, _, 0, _, rfl, rfl, h1, atI_nat (j := 0) rfl, rfl, _, rfl, ?_⟩
    rw [sg_var]
    cases hv : f.isVar with
    | true =>
      obtain ⟨_, vn, rfl⟩ := kids_var hv
      have hva := im_var_at hx
      refine iteT ⟨_, rfl, ba, _, 1, _, rfl, rfl, SqT.of hva, atI_nat (j := 1) rfl, _, rfl, _, rfl, (by show 3 ≤ sizeLine; decide), fun t nt => ⟨(by show 1 ≤ sizeLine; decide), fun q nq => ?_⟩⟩
      have s1 := same_new (o := .tup [.str vn, .bl o, .bl bx]) nt
      have s2 := same_new (o := .lst [.ref t]) nq
      refine kQ q _ _ ?_ (s1.trans s2) upd_same (.cons (.tup (SqT.of (s2 _ _ upd_same)) (.cons (.str _) (.cons (.bl _) (.cons (.bl _) .nil)))) .nil)
      cases e : H q with
      | none => rfl
      | some o => rw [s1 _ _ e] at nq; cases nq
    | false =>
    refine iteF ⟨_, rfl, ba, _, 0, _, rfl, rfl, h1, atI_nat (j := 0) rfl, rfl, _, rfl, ?_⟩
    rw [sg_imp2]
    cases himp : f.isImp2 with
    | true =>
      obtain ⟨c, d, rfl⟩ : ∃ c d, f = .imp c d := by cases f <;> first | exact ⟨_, _, rfl⟩ | cases himp
      obtain ⟨y1, y2, rfl, i1, i2⟩ := im_twoS h2
      have hc : c.ht < k ∧ d.ht < k := by
        have : max c.ht d.ht + 1 < k + 1 := hh
        omega
      have hz : c.sz + d.sz + 1 ≤ 100000 := hsz
      refine iteT ⟨_, rfl, ba, _, 1, _, rfl, rfl, h1, atI_nat (j := 1) rfl, _, rfl, o, rfl, _, rfl, y1, !o, bx, c, rfl, i1, hc.1, by omega, fun q1 us1 H2 nq1 s2 hq1 iu1 => ?_⟩
      refine ⟨_, rfl, ba, _, 2, _, rfl, rfl, (Same.ts s2).sqT h1, atI_nat (j := 2) rfl, _, rfl, _, rfl, y2, o, bx, d, rfl, i2.mono (Same.ts s2), hc.2, by omega, fun q2 us2 H3 nq2 s3 hq2 iu2 => ?_⟩
      have l1 := iu1.length
      have l2 := iu2.length
      rw [List.length_map] at l1 l2
      have b1 := sgs_len c (!o) bx
      have b2 := sgs_len d o bx
      refine ⟨q1, q2, us1, us2, rfl, rfl, s3 _ _ hq1, hq2, by rw [sizeLine_eq]; omega, fun q nq => ?_⟩
      have s4 := same_new (o := .lst (us1 ++ us2)) nq
      refine kQ q (us1 ++ us2) _ ?_ ((s2.trans s3).trans s4) upd_same ?_
      · cases e : H q with
        | none => rfl
        | some o => rw [s3 _ _ (s2 _ _ e)] at nq; cases nq
      · rw [sgs, List.map_append]
        exact ((iu1.mono (Same.ts s3)).append iu2).mono (Same.ts s4)
    | false =>
    refine iteF ?_
    have eall : sgs f o bx = f.kids.flatMap fun c => sgs c o (bx || f.isBox) := by
      cases f with
      | var _ => cases hv
      | imp _ _ => cases himp
      | fal => rfl
      | and a c => simp [sgs, Fm.kids, Fm.isBox]
      | or a c => simp [sgs, Fm.kids, Fm.isBox]
      | box a => simp [sgs, Fm.kids, Fm.isBox]
    refine ⟨(by show 0 ≤ sizeLine; decide), fun fd nfd => ?_⟩
    have s1 := same_new (o := .lst []) nfd
    refine ⟨_, rfl, .ref ba, f, rfl, hx.mono (Same.ts s1), fun p zs H2 np s2 hp iz => ⟨p, rfl, ⟨_, SqL.of hp⟩, ?_⟩⟩
    have s12 := s1.trans s2
    have hzl := fms_len iz
    have hfd2 := s2 _ _ (@upd_same H fd (.lst []))
    refine for_list (K := K) (a := p) (xs := zs) (fun i σ H3 => ∃ (fd : Addr) (us : List V) (o4 : Option V), σ = [some (.ref ba), some (.bl o), some (.bl bx), some (.ref fd), o4] ∧ Same H2 H3 ∧ H3 fd = some (.lst us) ∧ ImAll K H3 us (((f.kids.take i).flatMap fun c => sgs c o (bx || f.isBox)).map rd3) ∧ H fd = none)
      ⟨fd, [], none, rfl, L2.Same.refl _, hfd2, .nil, nfd⟩ (fun i σ H3 _ h => by
        obtain ⟨_, _, _, _, s3, _⟩ := h
        exact SqL.of (s3 _ _ hp)) ?_ ?_
    · rintro i y σ H3 hy ⟨fd, us, o4, rfl, s3, hfd, iu, nfd⟩
      obtain ⟨c, hc, ic⟩ := imAll_of iz hy
      have hcm : c ∈ f.kids := List.mem_of_getElem? hc
      have hch := kids_ht hcm
      have hcz := kids_sz1 hcm
      have h13 := (Same.ts (s12.trans s3)).sqT h1
      refine ⟨_, rfl, _, rfl, _, rfl, ?_⟩
      refine or_ansA (b1 := bx) (b2 := f.isBox) (fun Q q => ⟨_, rfl, q⟩) (fun Q q => ⟨_, rfl, ba, _, 0, _, rfl, rfl, h13, atI_nat (j := 0) rfl, rfl, by rw [sg_box]; exact q⟩) ?_
      refine ⟨y, o, bx || f.isBox, c, rfl, ic.mono (Same.ts s3), by omega, by omega, fun q2 us2 H4 nq2 s4 hq2 iu2 => ?_⟩
      have l1 := iu.length
      have l2 := iu2.length
      rw [List.length_map] at l1 l2
      have htk : ((f.kids.take (i + 1)).flatMap fun c => sgs c o (bx || f.isBox)) = ((f.kids.take i).flatMap fun c => sgs c o (bx || f.isBox)) ++ sgs c o (bx || f.isBox) := by
        rw [take_snoc hc, List.flatMap_append]
        simp
      have hle : ((f.kids.take (i + 1)).flatMap fun c => sgs c o (bx || f.isBox)).length ≤ 100000 := by
        refine Nat.le_trans ?_ hsz
        refine Nat.le_trans ?_ hsl
        rw [eall]
        rw [← List.take_append_drop (i + 1) f.kids, List.flatMap_append, List.length_append, List.take_append_drop]
        exact Nat.le_add_right _ _
      rw [htk, List.length_append] at hle
      refine ⟨fd, q2, us, us2, rfl, rfl, s4 _ _ hfd, hq2, by rw [sizeLine_eq]; omega, fun q nq => ?_⟩
      have s5 := same_new (o := .lst (us ++ us2)) nq
      refine ⟨q, us ++ us2, _, rfl, (s3.trans s4).trans s5, upd_same, ?_, ?_⟩
      · rw [htk, List.map_append]
        exact ((iu.mono (Same.ts s4)).append iu2).mono (Same.ts s5)
      · cases e : H q with
        | none => rfl
        | some o => rw [s4 _ _ (s3 _ _ (s12 _ _ e))] at nq; cases nq
    · rintro σ H3 ⟨fd, us, o4, rfl, s3, hfd, iu, nfd⟩
      rw [hzl, List.take_length, ← eall] at iu
      exact ⟨_, rfl, kQ fd us H3 nfd (s12.trans s3) hfd iu⟩

/-- how many rows a test takes -/
theorem cnt_lc {K : PySem.W.Frag} {H : Hp} {q : Addr} {us : List V} {rows : List (Str × Bool × Bool)} {σ : L2.St} {sl : Nat} {tt : TT} {vs : List Nat} {Q : VK} (P : Str × Bool × Bool → Bool) (h3 : σ[3]? = some (some (.ref q))) (hq : H q = some (.lst us)) (iu : ImAll K H us (rows.map rd3)) (hl : us.length ≤ 100000)
    (hw : ∀ x, wipe ((wipe σ vs).set sl x) vs = wipe σ vs) (hg : ∀ x, ((wipe σ vs).set sl x)[sl]? = some x)
    (he : ∀ (H2 : Hp) (a : Addr) (r : Str × Bool × Bool) (Q2 : Bool → Hp → Prop), Same H H2 → SqT K H2 a [.str r.1, .bl r.2.1, .bl r.2.2] → Q2 (P r) H2 → tt ((wipe σ vs).set sl (some (.ref a))) H2 Q2)
    (k : ∀ D H' zs, H D = none → Same H H' → H' D = some (.lst zs) → zs.length = (rows.filter P).length → Q (.ref D) H') : tLc (iList K (tVar 3)) (gName sl) tt (tVar sl) vs σ H Q := by
  refine ⟨_, h3, q, rfl, ⟨_, SqL.of hq⟩, fun D nD => ?_⟩
  have hul := iu.length
  rw [List.length_map] at hul
  refine lc_list (K := K) (a := q) (xs := us) (fun i H2 => ∃ zs : List V, Same H H2 ∧ H2 D = some (.lst zs) ∧ zs.length = ((rows.take i).filter P).length) ⟨[], same_new nD, upd_same, rfl⟩ (fun i H2 _ h => by
    obtain ⟨_, s, _⟩ := h
    exact SqL.of (s _ _ hq)) ?_ ?_
  · rintro i y H2 hy ⟨zs, s2, hD, hzl⟩
    obtain ⟨d, hd, iy⟩ := (iu.mono (Same.ts s2)).get hy
    rw [List.getElem?_map] at hd
    cases hr : rows[i]? with
    | none => rw [hr] at hd; cases hd
    | some r =>
    rw [hr] at hd
    have e : d = rd3 r := (Option.some.inj hd).symm
    subst e
    obtain ⟨a, rfl, ha⟩ : ∃ a, y = .ref a ∧ SqT K H2 a [.str r.1, .bl r.2.1, .bl r.2.2] := by
      cases iy with
      | tup h1 h2 =>
        cases h2 with
        | cons b1 b2 =>
          cases b1
          cases b2 with
          | cons b3 b4 =>
            cases b3
            cases b4 with
            | cons b5 b6 =>
              cases b5
              cases b6
              exact ⟨_, rfl, h1⟩
    have hzs : zs.length ≤ 100000 := by
      rw [hzl]
      refine Nat.le_trans (List.length_filter_le _ _) ?_
      rw [List.length_take]
      omega
    refine ⟨hw _, he H2 a r _ s2 ha ?_⟩
    rw [take_snoc hr, List.filter_append]
    rcases Bool.eq_false_or_eq_true (P r) with hP | hP
    · refine (if_pos hP).mpr ⟨_, hg _, zs, hD, by rw [sizeLine_eq]; omega, zs ++ [.ref a], fun b o e => ?_, upd_same, ?_⟩
      · rw [upd_ne (ne_of_none e nD)]
        exact s2 _ _ e
      · rw [List.length_append, List.length_append, hzl, show [r].filter P = [r] by rw [List.filter_cons, hP]; rfl]
        rfl
    · refine (if_neg (by rw [hP]; exact Bool.false_ne_true)).mpr ⟨zs, s2, hD, ?_⟩
      rw [List.length_append, hzl, show [r].filter P = [] by rw [List.filter_cons, hP]; rfl]
      rfl
  · rintro H2 ⟨zs, s2, hD, hzl⟩
    rw [hul, List.take_length] at hzl
    exact k D H2 zs nD s2 hD hzl
def full (rows : List (Str × Bool × Bool)) (n : Str) (s : Bool) : Bool := rows.any fun r => decide (r.1 = n) && (r.2.1 == s)
theorem full_occ : ∀ (f : Fm) (o x : Bool) (n : Str) (s : Bool), full (sgs f o x) n s = f.occ n (if o = true then !s else s)
  | .var m, o, x, n, s => by cases o <;> cases s <;> simp [full, sgs, Fm.occ]
  | .fal, o, x, n, s => rfl
  | .and a b, o, x, n, s => by
    have h1 := full_occ a o x n s
    have h2 := full_occ b o x n s
    unfold full at h1 h2 ⊢
    rw [sgs, List.any_append, h1, h2]
    rfl
  | .or a b, o, x, n, s => by
    have h1 := full_occ a o x n s
    have h2 := full_occ b o x n s
    unfold full at h1 h2 ⊢
    rw [sgs, List.any_append, h1, h2]
    rfl
  | .imp a b, o, x, n, s => by
    have h1 := full_occ a (!o) x n s
    have h2 := full_occ b o x n s
    unfold full at h1 h2 ⊢
    rw [sgs, List.any_append, h1, h2]
    cases o <;> simp [Fm.occ]
  | .box a, o, x, n, s => full_occ a o true n s
theorem grd_rows : ∀ (f : Fm) (o x : Bool) (nm : Str), ((sgs f o x).any fun r => decide (r.1 = nm) && !r.2.2) = (!x && !f.grd nm)
  | .var m, o, x, nm => by cases x <;> simp [sgs, Fm.grd]
  | .fal, o, x, nm => by cases x <;> simp [sgs, Fm.grd]
  | .and a b, o, x, nm => by
    rw [sgs, List.any_append, grd_rows a o x nm, grd_rows b o x nm]
    cases x <;> simp [Fm.grd, Bool.not_and]
  | .or a b, o, x, nm => by
    rw [sgs, List.any_append, grd_rows a o x nm, grd_rows b o x nm]
    cases x <;> simp [Fm.grd, Bool.not_and]
  | .imp a b, o, x, nm => by
    rw [sgs, List.any_append, grd_rows a (!o) x nm, grd_rows b o x nm]
    cases x <;> simp [Fm.grd, Bool.not_and]
  | .box a, o, x, nm => by
    rw [sgs, grd_rows a o true nm]
    simp [Fm.grd]
theorem flt_pos {α : Type} (P : α → Bool) (l : List α) : decide ((0 : Int) < (((l.filter P).length : Nat) : Int)) = l.any P := by
  cases h : l.any P with
  | true =>
    obtain ⟨x, hx, hp⟩ := List.any_eq_true.mp h
    have : 0 < (l.filter P).length := List.length_pos_of_mem (List.mem_filter.mpr ⟨hx, hp⟩)
    exact decide_eq_true (by omega)
  | false =>
    have : l.filter P = [] := List.filter_eq_nil_iff.mpr fun x hx => by
      have := List.any_eq_false.mp h x hx
      exact this
    rw [this]
    rfl
theorem and_lz {σ : L2.St} {H : Hp} {t u : TT} {b1 b2 : Bool} {Q : Bool → Hp → Prop} (h1 : ∀ Q : Bool → Hp → Prop, Q b1 H → t σ H Q) (h2 : ∀ Q : Bool → Hp → Prop, Q b2 H → u σ H Q) (q : Q (b1 && b2) H) : tAnd t u σ H Q := by
  refine h1 _ ?_
  cases b1 with
  | true => exact (if_pos rfl).mpr (h2 _ q)
  | false => exact (if_neg Bool.false_ne_true).mpr q
theorem str_eqB (a b : Str) : decide (V.str a = V.str b) = decide (a = b) := decide_eq_decide.mpr ⟨fun e => V.str.inj e, fun e => by rw [e]⟩
def spLaw (K : PySem.W.Frag) (TT : List NdefX.NTab) : Sp := fun vs H Q _ => ∃ (a : Addr) (ns : List Int), vs = [.ref a] ∧ SqL K H a (ns.map V.int) ∧ ns.length ≤ 63 ∧ NdefX.TabsN TT H ∧ ∀ H', Q (.bl true) H'
theorem ok_law (T : Top K mg) (TBs : ∀ p ∈ T.cs, LamX.TabB base mg p.1 p.2) : FnOk P w K mg base CX0 21 T.f_law T.d_law ["script"] (spLaw K T.tabs) := by
  have G_law_pool : FnOk P w K mg base CX0 1 T.f_law_pool T.d_law_pool ["script"] (spPool K) := ok_law_pool T
  have G_law_draw : FnOk P w K mg base CX0 2 T.f_law_draw T.d_law_draw ["pool", "many"] (spDraw K) := ok_law_draw T
  have G_law_same : FnOk P w K mg base CX0 20 T.f_law_same T.d_law_same ["actual", "due"] (spSame K 20) := ok_law_same T 20
  have G_law_some : FnOk P w K mg base CX0 9 T.f_law_some T.d_law_some ["pool", "depth", "plain"] (spSome K 8) := ok_law_some T 8 (by decide)
  have G_law_signs := ok_law_signs (P := P) (w := w) (base := base) T 12
  have G_polarities := ok_polarities (P := P) (w := w) (base := base) T
  have G_is_guarded := ok_is_guarded (P := P) (w := w) (base := base) T TBs
  refine T.F_law.ok sc_law (fun vs H Q E h => ?_) (fun cdv A outer s H vs Q E hr h => ?_)
  · obtain ⟨a, ns, rfl, _⟩ := h
    rfl
  obtain ⟨a, ns, rfl, hS, hn, hT, kQ⟩ := h
  have hu64 := hr.units
  have hu := Nat.lt_of_le_of_lt (Nat.add_le_add_left (by decide : 1 ≤ 64) _) hu64
  have hu66 : (A.deeper (envOfC (Str.ofString "law") (defScope s_law) s.heap.objs.size T.f_law cdv)).units + 66 < cLine := by
    have := hr.un
    omega
  refine ⟨_, (pss_cons (ps_set (i := 1) sc_law.nd rfl (.inl rfl) (pe_call G_law_pool (hr.mono (by omega)) (by rfl) T.m_law_pool T.F_law_pool.kp T.b_law_pool .nil pass0 (pa_cons (pv 0) pa_nil)))
    (pss_cons (ps_set (i := 2) sc_law.nd rfl (.inl rfl) (pe_call G_law_some (hr.mono (by omega)) (by rfl) T.m_law_some T.F_law_some.kp T.b_law_some .nil pass0 (pa_cons (pv 1) (pa_cons (pe_op op_add pe_int (pe_call G_law_draw (hr.mono (by omega)) (by rfl) T.m_law_draw T.F_law_draw.kp T.b_law_draw .nil pass0 (pa_cons (pv 1) (pa_cons pe_int pa_nil)))) (pa_cons (pe_cmpR op_eq (pe_call G_law_draw (hr.mono (by omega)) (by rfl) T.m_law_draw T.F_law_draw.kp T.b_law_draw .nil pass0 (pa_cons (pv 1) (pa_cons pe_int pa_nil))) pe_int (nomark _)) pa_nil)))))
    (C8.pss_cut (ps_if (pt_cmpR op_eq (pe_call G_law_draw (hr.mono (by omega)) (by rfl) T.m_law_draw T.F_law_draw.kp T.b_law_draw .nil pass0 (pa_cons (pv 1) (pa_cons pe_int pa_nil))) pe_int (nomark _))
      (pss_one (ps_set (i := 2) sc_law.nd rfl (.inl rfl) (pe_tup (pa_cons pe_str (pa_cons (pe_tup (pa_cons pe_str (pa_cons (pv 2) pa_nil))) (pa_cons (pe_call G_law_some (hr.mono (by omega)) (by rfl) T.m_law_some T.F_law_some.kp T.b_law_some .nil pass0 (pa_cons (pv 1) (pa_cons pe_int (pa_cons pe_bl pa_nil)))) pa_nil))))))
      pss_nil)
    (pss_cons (ps_set (i := 3) sc_law.nd rfl (.inl rfl) (pe_call G_law_signs (hr.mono (by omega)) (by rfl) T.m_law_signs T.F_law_signs.kp T.b_law_signs .nil pass0 (pa_cons (pv 2) (pa_cons pe_bl (pa_cons pe_bl pa_nil)))))
    (pss_cons (ps_set (i := 4) sc_law.nd rfl (.inr rfl) pe_dnewK)
    (pss_cons (ps_for PassesOwn.never rfl (pi_list (pv 3)) (pg_name (i := 5) sc_law.nd rfl (.inr rfl))
      (pss_one (ps_dput hu (pv 4) (pe_ix ix_tup (pv 5) pe_int (fun _ _ => rfl)) (pe_tup (pa_cons (pe_cmpR op_gt (pe_callB call_len_seq (by rfl) T.z_len PySem.boot_len (pa_cons (pe_lc (own := [("one", 8)]) (g := gName 8) (tt := (tAnd (tTest (tOp _ (tOp (rIxT K) _ _) (tOp (rIxT K) _ _))) (tNot (tB (tOp (rIxT K) _ _))))) rfl sc_law.nd (pi_list (pv 3)) (blkOk_by (N := ["script", "pool", "a", "rows", "due", "row", "told", "name", "one"]) (sc := defScope s_law) (by decide +kernel)) (fun _ _ _ _ _ => pg_name (i := 8) sc_law.nd rfl (Or.inl rfl)) (fun _ _ _ _ _ => pts_one (PW.pt (pw_and (pt_cmpR op_eq (pe_ix ix_tup (pv 8) pe_int (fun _ _ => rfl)) (pe_ix ix_tup (pv 5) pe_int (fun _ _ => rfl)) (nomark _)) (pw_and1 (pt_not (pt_val (pe_ix ix_tup (pv 8) pe_int (fun _ _ => rfl)))))))) (fun _ _ _ _ _ => (pv 8))) pa_nil)) pe_int (nomark _)) (pa_cons (pe_cmpR op_gt (pe_callB call_len_seq (by rfl) T.z_len PySem.boot_len (pa_cons (pe_lc (own := [("one", 8)]) (g := gName 8) (tt := (tAnd (tTest (tOp _ (tOp (rIxT K) _ _) (tOp (rIxT K) _ _))) (tB (tOp (rIxT K) _ _)))) rfl sc_law.nd (pi_list (pv 3)) (blkOk_by (N := ["script", "pool", "a", "rows", "due", "row", "told", "name", "one"]) (sc := defScope s_law) (by decide +kernel)) (fun _ _ _ _ _ => pg_name (i := 8) sc_law.nd rfl (Or.inl rfl)) (fun _ _ _ _ _ => pts_one (PW.pt (pw_and (pt_cmpR op_eq (pe_ix ix_tup (pv 8) pe_int (fun _ _ => rfl)) (pe_ix ix_tup (pv 5) pe_int (fun _ _ => rfl)) (nomark _)) (pw_and1 (pt_val (pe_ix ix_tup (pv 8) pe_int (fun _ _ => rfl))))))) (fun _ _ _ _ _ => (pv 8))) pa_nil)) pe_int (nomark _)) pa_nil))) rfl)))
    (pss_cons (ps_set (i := 6) sc_law.nd rfl (.inr rfl) (pe_call G_polarities (hr.mono (by omega)) (by rfl) T.m_polarities T.F_polarities.kp T.b_polarities .nil pass0 (pa_cons (pv 2) pa_nil)))
    (pss_cons (ps_if (PW.pt (pw_or (pt_not (pt_val (pe_callB call_isi (by rfl) T.z_isinstance (by decide +kernel) (pa_cons (pv 6) (pa_cons (pe_bltn (v := .ty "dict") (by rfl) T.z_dict (by decide +kernel) rfl) pa_nil))))) (pw_or (pt_cmpR (op_neR hu66) (pv 6) (pv 4) (nomark _)) (pw_or1 (pt_cmpR op_gt (pe_callB call_len_seq (by rfl) T.z_len PySem.boot_len (pa_cons (pe_lc (own := [("name", 7)]) (g := gName 7) rfl sc_law.nd (pi_keys (pv 6)) (blkOk_by (N := ["script", "pool", "a", "rows", "due", "row", "told", "name", "one"]) (sc := defScope s_law) (by decide +kernel)) (fun _ _ _ _ _ => pg_name (i := 7) sc_law.nd rfl (Or.inl rfl)) (fun _ _ _ _ _ => pts_one (pt_not (pt_val (pe_call G_law_same (hr.mono (by omega)) (by rfl) T.m_law_same T.F_law_same.kp T.b_law_same .nil pass0 (pa_cons (pe_dget hu (pv 6) (pv 7) (fun _ _ => rfl)) (pa_cons (pe_dget hu (pv 4) (pv 7) (fun _ _ => rfl)) pa_nil)))))) (fun _ _ _ _ _ => (pv 7))) pa_nil)) pe_int (nomark _))))))
      (pss_one (ps_ret pe_bl))
      pss_nil)
    (pss_cons (ps_for PassesOwn.never rfl (pi_tup (pe_tup (pa_cons pe_str (pa_cons pe_str (pa_cons pe_str (pa_cons pe_str pa_nil)))))) (pg_name (i := 7) sc_law.nd rfl (.inr rfl))
      (pss_one (ps_if (pt_not (pt_val (pe_call G_law_same (hr.mono (by omega)) (by rfl) T.m_law_same T.F_law_same.kp T.b_law_same .nil pass0 (pa_cons (pe_call G_is_guarded (hr.mono (by omega)) (by rfl) T.m_is_guarded T.F_is_guarded.kp T.b_is_guarded .nil pass0 (pa_cons (pv 2) (pa_cons (pv 7) pa_nil))) (pa_cons (pe_cmpR op_eq (pe_callB call_len_seq (by rfl) T.z_len PySem.boot_len (pa_cons (pe_lc (own := [("row", 5)]) (g := gName 5) (tt := (tAnd (tTest (tOp _ (tOp (rIxT K) _ _) _)) (tNot (tB (tOp (rIxT K) _ _))))) rfl sc_law.nd (pi_list (pv 3)) (blkOk_by (N := ["script", "pool", "a", "rows", "due", "row", "told", "name", "one"]) (sc := defScope s_law) (by decide +kernel)) (fun _ _ _ _ _ => pg_name (i := 5) sc_law.nd rfl (Or.inl rfl)) (fun _ _ _ _ _ => pts_one (PW.pt (pw_and (pt_cmpR op_eq (pe_ix ix_tup (pv 5) pe_int (fun _ _ => rfl)) (pv 7) (nomark _)) (pw_and1 (pt_not (pt_val (pe_ix ix_tup (pv 5) pe_int (fun _ _ => rfl)))))))) (fun _ _ _ _ _ => (pv 5))) pa_nil)) pe_int (nomark _)) pa_nil)))))
      (pss_one (ps_ret pe_bl))
      pss_nil)))
    (pss_one (ps_ret pe_bl))))))))))), ?_⟩
  refine ⟨_, rfl, a, ns, rfl, hS, fun p l H1 np s1 hP1 => ?_⟩
  have T1 := hT.ext s1
  refine ⟨_, rfl, _, rfl, p, l, 5, rfl, hP1, by decide, by decide, fun dep H2 d0 d1 k2 hP2 => ⟨_, _, rfl, rfl, ?_⟩⟩
  obtain ⟨xs1, hp1⟩ := hP1.lst
  have T2 := tabs_kpl T1 k2 hp1
  refine ⟨_, rfl, p, l, 3, rfl, hP2, by decide, by decide, fun dq H3 e0 e1 k3 hP3 => ⟨rfl, p, l, 1 + dep, _, rfl, hP3, by omega, by omega, fun va0 fa0 H4 k4 hP4 ia0 ha0 oa0 _ => ?_⟩⟩
  obtain ⟨xs2, hp2⟩ := hP2.lst
  obtain ⟨xs3, hp3⟩ := hP3.lst
  have T4 := tabs_kpl (tabs_kpl T2 k3 hp2) k4 hp3
  refine ⟨fun σ H5 => ∃ (va : V) (fa : Fm), σ = [some (.ref a), some (.ref p), some va, none, none, none, none, none, none] ∧ Im K H5 va fa.d ∧ fa.over nms = true ∧ fa.ht ≤ 8 ∧ NdefX.TabsN T.tabs H5, ?_, ?_⟩
  · refine ⟨_, rfl, p, l, 3, rfl, hP4, by decide, by decide, fun r H5 r0 r1 k5 hP5 => ⟨rfl, _, rfl, ?_⟩⟩
    obtain ⟨xs4, hp4⟩ := hP4.lst
    have T5 := tabs_kpl T4 k5 hp4
    have ia5 := ia0.mono (hP4.ts k5)
    refine ite2 (fun _ => ?_) (fun _ => ⟨va0, fa0, rfl, ia5, oa0, by omega, T5⟩)
    refine ⟨_, rfl, (by show 2 ≤ sizeLine; decide), fun t1 nt1 => ?_⟩
    have s6 := same_new (o := .tup [.str "box", va0]) nt1
    have hP6 := hP5.same s6
    have T6 := T5.ext s6
    have ht1 : upd H5 t1 (.tup [.str "box", va0]) t1 = some (.tup [.str "box", va0]) := upd_same
    have ia6 := ia5.mono (Same.ts s6)
    generalize upd H5 t1 (.tup [.str "box", va0]) = H6 at s6 hP6 T6 ht1 ia6
    refine ⟨_, rfl, p, l, 2, false, rfl, hP6, by decide, by decide, fun vb fb H7 k7 hP7 ib hb ob _ => ⟨(by show 3 ≤ sizeLine; decide), fun t2 nt2 => ?_⟩⟩
    obtain ⟨xs6, hp6⟩ := hP6.lst
    have T7 := tabs_kpl T6 k7 hp6
    have t67 := hP6.ts k7
    have s8 := same_new (o := .tup [.str "implies", .ref t1, vb]) nt2
    refine ⟨_, .imp (.box fa0) fb, rfl, im_imp upd_same (im_box (s8 _ _ (t67.2 _ _ ht1)) ((ia6.mono t67).mono (Same.ts s8))) (ib.mono (Same.ts s8)), ?_, ?_, T7.ext s8⟩
    · show (fa0.over nms && fb.over nms) = true
      rw [oa0, ob]
      rfl
    · show max (fa0.ht + 1) fb.ht + 1 ≤ 8
      have : (2 : Int).toNat + 1 = 3 := rfl
      omega
  rintro σ H5 ⟨va, fa, rfl, ia, oa, ha, T5⟩
  have hsz : fa.sz ≤ 256 := by
    have h1 := sz_ht fa
    have h2 : 2 ^ fa.ht ≤ 2 ^ 8 := Nat.pow_le_pow_right (by decide) ha
    omega
  have hok : ∀ g ∈ fa.subs, Ok1 g := fun g hg => by
    obtain ⟨a1, a2⟩ := subs_ok 8 ha oa hg
    exact ⟨Fm.lay nms_ok g a1, by omega⟩
  refine ⟨_, rfl, va, false, false, fa, rfl, ia, by omega, by omega, fun q us H6 nq s6 hq iu => ?_⟩
  have hrl := sgs_len fa false false
  have hul := iu.length
  rw [List.length_map] at hul
  have T6 := T5.ext s6
  have ia6 := ia.mono (Same.ts s6)
  generalize hrows : sgs fa false false = rows at hrl hul iu
  have focc : ∀ n s, full rows n s = fa.occ n s := fun n s => by
    rw [← hrows, full_occ]
    rfl
  have fgrd : ∀ nm, (rows.any fun r => decide (r.1 = nm) && !r.2.2) = !fa.grd nm := fun nm => by
    rw [← hrows, grd_rows]
    rfl
  intro dd ndd
  have s7 := same_new (o := .dK []) ndd
  have hdd7 := @upd_same H6 dd (.dK [])
  have nqd : q ≠ dd := ne_of_none hq ndd
  have T7 := T6.ext s7
  have ia7 := ia6.mono (Same.ts s7)
  have hq7 := s7 _ _ hq
  have iu7 := iu.mono (Same.ts s7)
  generalize upd H6 dd (.dK []) = H7 at s7 hdd7 T7 ia7 hq7 iu7
  have stay : ∀ {H' : Hp}, (∀ c o, H7 c = some o → c ≠ dd → H' c = some o) → TS H7 H' := fun {H'} k => TS.but hdd7 (fun _ e => nomatch e) (fun _ _ e => nomatch e) k
  refine ⟨_, rfl, q, rfl, ⟨_, SqL.of hq7⟩, ?_⟩
  refine for_list (K := K) (a := q) (xs := us) (fun i σ H8 => ∃ (o5 : Option V) (L : Pl4), σ = [some (.ref a), some (.ref p), some va, some (.ref q), some (.ref dd), o5, none, none, none] ∧ (∀ c o, H7 c = some o → c ≠ dd → H8 c = some o) ∧ H8 dd = some (.dK (pkv L)) ∧ PolL H8 L (fun n s => ((rows.take i).any fun r => decide (r.1 = n)) && full rows n s))
    ⟨none, [], rfl, fun _ _ h _ => h, hdd7, ⟨.nil, fun x h => (nomatch h), fun x h => (nomatch h), fun n s h => by cases h⟩⟩ (fun i σ H8 _ h => by
      obtain ⟨_, _, _, k, _⟩ := h
      exact SqL.of (k _ _ hq7 nqd)) ?_ ?_
  · rintro i y σ H8 hy ⟨o5, L, rfl, k8, hd8, p8⟩
    have hq8 := k8 _ _ hq7 nqd
    have iu8 := iu7.mono (stay k8)
    obtain ⟨d, hd, iy⟩ := iu8.get hy
    rw [List.getElem?_map] at hd
    cases hr : rows[i]? with
    | none => rw [hr] at hd; cases hd
    | some r =>
    rw [hr] at hd
    have e : d = rd3 r := (Option.some.inj hd).symm
    subst e
    obtain ⟨ra, rfl, hra⟩ : ∃ a, y = .ref a ∧ SqT K H8 a [.str r.1, .bl r.2.1, .bl r.2.2] := by
      cases iy with
      | tup h1 h2 =>
        cases h2 with
        | cons b1 b2 =>
          cases b1
          cases b2 with
          | cons b3 b4 =>
            cases b3
            cases b4 with
            | cons b5 b6 =>
              cases b5
              cases b6
              exact ⟨_, rfl, h1⟩
    have hrm := List.mem_of_getElem? hr
    dsimp only [gName, sDPut, tTup, tCons, tCB, tOp, List.set]
    refine cnt_lc (P := fun z => decide (z.1 = r.1) && !z.2.1) rfl hq8 iu8 (by omega) (fun _ => rfl) (fun _ => rfl) (fun H9 b z Q2 s9 hb q2 => ?_) (fun D1 H9 zs1 nD1 s9 hD1 hz1 => ?_)
    · refine and_lz (b1 := decide (z.1 = r.1)) (b2 := !z.2.1) (fun Q q => ?_) (fun Q q => ⟨_, rfl, b, _, 1, _, rfl, rfl, hb, atI_nat (j := 1) rfl, z.2.1, rfl, q⟩) q2
      rw [← str_eqB] at q
      exact ⟨_, rfl, b, _, 0, _, rfl, rfl, hb, atI_nat (j := 0) rfl, _, rfl, ra, _, 0, _, rfl, rfl, (Same.ts s9).sqT hra, atI_nat (j := 0) rfl, rfl, _, rfl, q⟩
    refine ⟨D1, zs1, rfl, .inl (SqL.of hD1), _, _, rfl, rfl, ?_⟩
    refine cnt_lc (P := fun z => decide (z.1 = r.1) && z.2.1) rfl (s9 _ _ hq8) (iu8.mono (Same.ts s9)) (by omega) (fun _ => rfl) (fun _ => rfl) (fun H10 b z Q2 s10 hb q2 => ?_) (fun D2 H10 zs2 nD2 s10 hD2 hz2 => ?_)
    · refine and_lz (b1 := decide (z.1 = r.1)) (b2 := z.2.1) (fun Q q => ?_) (fun Q q => ⟨_, rfl, b, _, 1, _, rfl, rfl, hb, atI_nat (j := 1) rfl, z.2.1, rfl, q⟩) q2
      rw [← str_eqB] at q
      exact ⟨_, rfl, b, _, 0, _, rfl, rfl, hb, atI_nat (j := 0) rfl, _, rfl, ra, _, 0, _, rfl, rfl, (Same.ts (s9.trans s10)).sqT hra, atI_nat (j := 0) rfl, rfl, _, rfl, q⟩
    refine ⟨D2, zs2, rfl, .inl (SqL.of hD2), _, _, rfl, rfl, (by show 2 ≤ sizeLine; decide), fun t nt => ?_⟩
    rw [hz1, hz2]
    dsimp only
    rw [flt_pos, flt_pos]
    have e1 : (rows.any fun z => decide (z.1 = r.1) && !z.2.1) = full rows r.1 false := by
      unfold full
      congr 1
      funext z
      cases z.2.1 <;> rfl
    have e2 : (rows.any fun z => decide (z.1 = r.1) && z.2.1) = full rows r.1 true := by
      unfold full
      congr 1
      funext z
      cases z.2.1 <;> rfl
    rw [e1, e2]
    have s11 := same_new (o := .tup [.bl (full rows r.1 false), .bl (full rows r.1 true)]) nt
    have ht11 : upd H10 t (.tup [.bl (full rows r.1 false), .bl (full rows r.1 true)]) t = some (.tup [.bl (full rows r.1 false), .bl (full rows r.1 true)]) := upd_same
    have s8x := (s9.trans s10).trans s11
    generalize upd H10 t (.tup [.bl (full rows r.1 false), .bl (full rows r.1 true)]) = H11 at s11 ht11 s8x
    have hd11 := s8x _ _ hd8
    have p11 := p8.ts (Same.ts s8x)
    obtain ⟨L', hp1, hp2, hp3, hp4⟩ := pk_put L r.1 t (full rows r.1 false) (full rows r.1 true)
    have few : L.length ≤ 3 := p8.few fun n s h => by
      rw [Bool.and_eq_true, focc] at h
      exact occ_over oa h.2
    refine ⟨_, rfl, _, rfl, ra, _, 0, _, rfl, rfl, (Same.ts s8x).sqT hra, atI_nat (j := 0) rfl, dd, _, rfl, .inl ⟨_, .inr r.1, hd11, rfl, (by rw [List.length_map, sizeLine_eq]; omega), rfl⟩, ?_⟩
    rw [show putK (List.map (fun x => ((.inr x.1 : Key), V.ref x.2.1)) L) (.inr r.1) (.ref t) = pkv L' from hp1]
    have k12 : ∀ c o, H11 c = some o → c ≠ dd → upd H11 dd (.dK (pkv L')) c = some o := fun c o e n => by
      rw [upd_ne n]
      exact e
    have t12 : TS H11 (upd H11 dd (.dK (pkv L'))) := TS.but hd11 (fun _ e => nomatch e) (fun _ _ e => nomatch e) k12
    have hin1 : ((rows.take (i + 1)).any fun z => decide (z.1 = r.1)) = true := by
      rw [take_snoc hr, List.any_append]
      simp
    refine ⟨_, L', rfl, fun c o e n => k12 _ _ (s8x _ _ (k8 _ _ e n)) n, upd_same, (p11.ts t12).put hp2 (hp3 p8.nd) (t12.2 _ _ ht11) (by rw [hin1, Bool.true_and]) (by rw [hin1, Bool.true_and]) ?_ fun m s hne => ?_⟩
    · have hf : full rows r.1 r.2.1 = true := by
        unfold full
        exact List.any_eq_true.mpr ⟨r, hrm, by simp⟩
      cases hb : r.2.1 with
      | true => rw [hb] at hf; exact .inr hf
      | false => rw [hb] at hf; exact .inl hf
    · rw [take_snoc hr, List.any_append]
      simp [show ¬ r.1 = m from fun e => hne e.symm]
  rintro σ H8 ⟨o5, L, rfl, k8, hd8, p8⟩
  rw [hul, List.take_length] at p8
  have pL : PolL H8 L fa.occ := p8.fn fun n s => by
    rw [← focc]
    cases h : full rows n s with
    | false => rw [Bool.and_false]
    | true =>
      rw [Bool.and_true]
      unfold full at h
      obtain ⟨z, hz, e⟩ := List.any_eq_true.mp h
      rw [Bool.and_eq_true] at e
      exact List.any_eq_true.mpr ⟨z, hz, e.1⟩
  have hq8 := k8 _ _ hq7 nqd
  have iu8 := iu7.mono (stay k8)
  have ia8 := ia7.mono (stay k8)
  have T8 := tabs_kp T7 (p := dd) (fun c o e n => k8 _ _ e n) hdd7 (fun _ z => nomatch z) (fun _ z => nomatch z)
  refine ⟨_, rfl, va, fa, rfl, ia8, oa, by omega, by omega, fun v H9 s9 hv => ?_⟩
  obtain ⟨td, to_, L2, rfl, htd, pT⟩ := hv
  have hd9 := s9 _ _ hd8
  have pL9 := pL.ts (Same.ts s9)
  have T9 := T8.ext s9
  have ia9 := ia8.mono (Same.ts s9)
  have hq9 := s9 _ _ hq8
  have iu9 := iu8.mono (Same.ts s9)
  have nmem : ∀ {M : Pl4} (_ : PolL H9 M fa.occ) n, n ∈ M.map (·.1) ↔ (fa.occ n false = true ∨ fa.occ n true = true) := fun {M} pM n => ⟨fun h => by
    obtain ⟨x, hx, rfl⟩ := List.mem_map.mp h
    exact pM.some_ x hx, fun h => h.elim (pM.all n false) (pM.all n true)⟩
  have hlenE : (pkv L2).length = (pkv L).length := by
    rw [List.length_map, List.length_map]
    have h1 := nodup_leS _ _ pT.nd fun n hn => (nmem pL9 n).mpr ((nmem pT n).mp hn)
    have h2 := nodup_leS _ _ pL9.nd fun n hn => (nmem pT n).mpr ((nmem pL9 n).mp hn)
    rw [List.length_map, List.length_map] at h1 h2
    omega
  have bothIm : ∀ x ∈ L2, ∃ y ∈ L, y.1 = x.1 ∧ y.2.2 = x.2.2 := fun x hx => by
    obtain ⟨y, hy, e⟩ := List.mem_map.mp ((nmem pL9 x.1).mpr ((nmem pT x.1).mp (List.mem_map.mpr ⟨x, hx, rfl⟩)))
    have e : y.1 = x.1 := e
    refine ⟨y, hy, e, ?_⟩
    have e1 : y.2.2.1 = x.2.2.1 := by
      have h1 := (pL9.at_ y hy).2 false
      have h2 := (pT.at_ x hx).2 false
      rw [e] at h1
      exact h1.trans h2.symm
    have e2 : y.2.2.2 = x.2.2.2 := by
      have h1 := (pL9.at_ y hy).2 true
      have h2 := (pT.at_ x hx).2 true
      rw [e] at h1
      exact h1.trans h2.symm
    exact Prod.ext e1 e2
  have imB : ∀ {H' : Hp} {t : Addr} {b1 b2 : Bool}, H' t = some (.tup [.bl b1, .bl b2]) → Im K H' (.ref t) (.tuple [.bool b1, .bool b2]) := fun h => .tup (SqT.of h) (.cons (.bl _) (.cons (.bl _) .nil))
  have shB : ∀ b1 b2 : Bool, SeqAt.shaped (.tuple [.bool b1, .bool b2]) = true := fun b1 b2 => by cases b1 <;> cases b2 <;> decide +kernel
  refine ⟨_, rfl, .ref td, .ty "dict", .type "dict", .type "dict", true, rfl, .ty "dict", .fDict htd, rfl, true, rfl, iteF ?_⟩
  refine ⟨_, rfl, _, rfl, td, dd, _, _, rfl, rfl, .inr ⟨to_, htd⟩, .inl hd9, hlenE, fun kv hkv => ?_, _, rfl, iteF ?_⟩
  · obtain ⟨x, hx, rfl⟩ := List.mem_map.mp hkv
    obtain ⟨y, hy, e1, e2⟩ := bothIm x hx
    refine ⟨.ref y.2.1, .tuple [.bool x.2.2.1, .bool x.2.2.2], ?_, (imB (pT.at_ x hx).1).dp, ?_, shB _ _⟩
    · show valV (pkv L) (.inr x.1) = _
      rw [← e1]
      exact pk_val pL9.nd hy
    · have := (pL9.at_ y hy).1
      rw [e2] at this
      exact (imB this).dp
  refine ⟨_, rfl, td, to_, rfl, .inl ⟨_, htd, fun D nD => ?_⟩⟩
  refine lc_it walk_keys (fun i H10 => Same H9 H10 ∧ H10 D = some (.lst [])) ⟨same_new nD, upd_same⟩ (fun i H10 _ h => h.1 _ _ htd) ?_ ?_
  · rintro i y H10 H11 hi ⟨s10, hD⟩ ⟨e3, kk, vv, hkv, rfl⟩
    replace e3 := e3.symm
    subst e3
    simp only [pkv, List.getElem?_map] at hkv
    cases hx0 : L2[i]? with
    | none => rw [hx0] at hkv; cases hkv
    | some x =>
    rw [hx0] at hkv
    have e1 : kk = .inr x.1 := (congrArg Prod.fst (Option.some.inj hkv)).symm
    subst e1
    have hx := List.mem_of_getElem? hx0
    obtain ⟨y, hy, e1, e2⟩ := bothIm x hx
    have hy2 := (pL9.at_ y hy).1
    rw [e2] at hy2
    refine ⟨rfl, _, rfl, _, rfl, td, .ref x.2.1, rfl, .inl ⟨_, .inr x.1, .inr ⟨to_, s10 _ _ htd⟩, rfl, (pk_val pT.nd hx).symm⟩, _, rfl, _, rfl, dd, .ref y.2.1, rfl, .inl ⟨_, .inr x.1, .inl (s10 _ _ hd9), rfl, by rw [← e1]; exact (pk_val pL9.nd hy).symm⟩, ?_⟩
    exact ⟨.ref x.2.1, .ref y.2.1, .tuple [.bool x.2.2.1, .bool x.2.2.2], rfl, (imB (s10 _ _ (pT.at_ x hx).1)).dp, (imB (s10 _ _ hy2)).dp, (by show max (0 : Nat) (max 0 0) + 1 < 20; decide), (by simp [sml, smlAll]), true, rfl, iteF ⟨s10, hD⟩⟩
  rintro H10 ⟨s10, hD⟩
  refine ⟨D, [], rfl, .inl (SqL.of hD), _, _, rfl, rfl, _, rfl, (if_neg (by decide)).mpr ?_⟩
  have T10 := T9.ext s10
  have ia10 := ia9.mono (Same.ts s10)
  have hq10 := s10 _ _ hq9
  have iu10 := iu9.mono (Same.ts s10)
  refine ⟨(by show 4 ≤ sizeLine; decide), fun tn ntn => ⟨tn, rfl, ⟨_, SqT.of upd_same⟩, ?_⟩⟩
  have s11 := same_new (o := .tup [.str "p", .str "q", .str "r", .str "x"]) ntn
  have htn : upd H10 tn (.tup [.str "p", .str "q", .str "r", .str "x"]) tn = some (.tup [.str "p", .str "q", .str "r", .str "x"]) := upd_same
  have T11 := T10.ext s11
  have ia11 := ia10.mono (Same.ts s11)
  have hq11 := s11 _ _ hq10
  have iu11 := iu10.mono (Same.ts s11)
  generalize upd H10 tn (.tup [.str "p", .str "q", .str "r", .str "x"]) = H11 at s11 htn T11 ia11 hq11 iu11
  have four : ∀ {y : V} {i : Nat}, ([.str "p", .str "q", .str "r", .str "x"] : List V)[i]? = some y → ∃ nm : Str, y = .str nm := fun {y i} e => by
    have e1 : ([.str "p", .str "q", .str "r", .str "x"] : List V) = (["p", "q", "r", "x"] : List Str).map V.str := rfl
    rw [e1, List.getElem?_map] at e
    cases hz : (["p", "q", "r", "x"] : List Str)[i]? with
    | none => rw [hz] at e; cases e
    | some z =>
      rw [hz] at e
      exact ⟨z, (Option.some.inj e).symm⟩
  refine for_tup (K := K) (a := tn) (xs := [.str "p", .str "q", .str "r", .str "x"]) (fun i σ H12 => ∃ o7 : Option V, σ = [some (.ref a), some (.ref p), some va, some (.ref q), some (.ref dd), o5, some (.ref td), o7, none] ∧ TS H11 H12 ∧ Im K H12 va fa.d ∧ H12 q = some (.lst us) ∧ ImAll K H12 us (rows.map rd3) ∧ NdefX.TabsN T.tabs H12)
    ⟨_, rfl, TS.refl _, ia11, hq11, iu11, T11⟩ (fun i σ H12 _ h => by
      obtain ⟨_, _, h, _⟩ := h
      exact h.sqT (SqT.of htn)) ?_ ?_
  · rintro i y σ H12 hy ⟨o7, rfl, t12, ia12, hq12, iu12, T12⟩
    obtain ⟨nm, rfl⟩ := four hy
    refine ⟨_, rfl, _, rfl, va, nm, fa, rfl, ia12, hok, by omega, T12, fun H13 e13 T13 => ?_⟩
    have t13 := extn_ts e13
    have hq13 := e13 _ _ hq12 fun _ z => nomatch z
    have iu13 := iu12.mono t13
    dsimp only [tCons, tCB, tOp]
    refine cnt_lc (P := fun z => decide (z.1 = nm) && !z.2.2) rfl hq13 iu13 (by omega) (fun _ => rfl) (fun _ => rfl) (fun H14 b z Q2 s14 hb q2 => ?_) (fun D1 H14 zs1 nD1 s14 hD1 hz1 => ?_)
    · refine and_lz (b1 := decide (z.1 = nm)) (b2 := !z.2.2) (fun Q q => ?_) (fun Q q => ⟨_, rfl, b, _, 2, _, rfl, rfl, hb, atI_nat (j := 2) rfl, z.2.2, rfl, q⟩) q2
      rw [← str_eqB] at q
      exact ⟨_, rfl, b, _, 0, _, rfl, rfl, hb, atI_nat (j := 0) rfl, _, rfl, rfl, _, rfl, q⟩
    refine ⟨D1, zs1, rfl, .inl (SqL.of hD1), rfl, ?_⟩
    have e0 : decide (V.int (((zs1.length : Nat) : Int)) = V.int 0) = fa.grd nm := by
      have h1 := fgrd nm
      rw [← flt_pos, ← hz1] at h1
      cases hg : fa.grd nm with
      | true =>
        rw [hg] at h1
        have : ¬ (0 : Int) < (zs1.length : Int) := of_decide_eq_false h1
        exact decide_eq_true (by rw [show ((zs1.length : Nat) : Int) = 0 by omega])
      | false =>
        rw [hg] at h1
        have : (0 : Int) < (zs1.length : Int) := of_decide_eq_true h1
        exact decide_eq_false fun e => by
          have := V.int.inj e
          omega
    refine ⟨.bl (fa.grd nm), .bl (fa.grd nm), .bool (fa.grd nm), (by rw [e0]; rfl), .bl _, .bl _, (by show 0 < 20; decide), trivial, true, rfl, iteF ⟨_, rfl, (t12.trans t13).trans (Same.ts s14), (ia12.mono t13).mono (Same.ts s14), s14 _ _ hq13, iu13.mono (Same.ts s14), T13.ext s14⟩⟩
  · rintro σ H12 ⟨o7, rfl, _⟩
    exact kQ _

end
theorem all_mk {l : PySem.W.OpenLaw} {w : World} {K : PySem.W.Frag} {h : Heap} {mg : Str → Option Value} {fa : Addr} (X : K.In h) (G : h.Ns mainGlobals mg) (hfa : mg "law" = some (.ref fa))
    {f0 f1 f2 f3 f4 f5 f6 f7 f8 f9 f10 f11 f12 f13 f14 f15 f16 f17 f18 : Addr} {od0 an0 od1 an1 od2 an2 od3 an3 od4 an4 od5 an5 od6 an6 od7 an7 od8 an8 od9 an9 od10 an10 od11 an11 od12 an12 od13 an13 od14 an14 od15 an15 od16 an16 od17 an17 od18 an18 : Option Addr}
    {sl0 sl1 sl2 sl3 sl4 sl5 sl6 sl7 sl8 sl9 sl10 sl11 sl12 sl13 sl14 sl15 sl16 sl17 sl18 : Array (Option Value)} {oc0 kV0 dc0 pm0 cd0 ct0 oc1 kV1 dc1 pm1 cd1 ct1 oc2 kV2 dc2 pm2 cd2 ct2 oc3 kV3 dc3 pm3 cd3 ct3 oc4 kV4 dc4 pm4 cd4 ct4 oc5 kV5 dc5 pm5 cd5 ct5 oc6 kV6 dc6 pm6 cd6 ct6 oc7 kV7 dc7 pm7 cd7 ct7 oc8 kV8 dc8 pm8 ct8 oc9 kV9 dc9 pm9 cd9 ct9 oc10 kV10 dc10 pm10 cd10 ct10 oc11 kV11 dc11 pm11 cd11 ct11 oc12 kV12 dc12 pm12 cd12 ct12 oc13 kV13 dc13 pm13 cd13 ct13 oc14 kV14 dc14 pm14 cd14 ct14 oc15 kV15 dc15 pm15 cd15 ct15 oc16 kV16 dc16 pm16 cd16 ct16 oc17 kV17 dc17 pm17 cd17 ct17 oc18 kV18 dc18 pm18 cd18 ct18 : Value}
    {kc8 : Addr}
    (a0 : PySem.W.nsIn K mainGlobals "parts_of" = some (some (.ref f0))) (l0 : K.lookup f0 = some ⟨oc0, od0, .func (PySem.W.fnOf "parts_of" "parts_of" (defArgs s_parts_of) (defBody s_parts_of) (defScope s_parts_of) .none kV0 dc0 pm0 an0 cd0 ct0), sl0⟩) (c0 : PySem.W.codeIn K cd0 "parts_of" = true) (k0 : PySem.W.keepIn K (.ref f0) = true)
    (a1 : PySem.W.nsIn K mainGlobals "distinct" = some (some (.ref f1))) (l1 : K.lookup f1 = some ⟨oc1, od1, .func (PySem.W.fnOf "distinct" "distinct" (defArgs s_distinct) (defBody s_distinct) (defScope s_distinct) .none kV1 dc1 pm1 an1 cd1 ct1), sl1⟩) (c1 : PySem.W.codeIn K cd1 "distinct" = true) (k1 : PySem.W.keepIn K (.ref f1) = true)
    (a2 : PySem.W.nsIn K mainGlobals "levels_of" = some (some (.ref f2))) (l2 : K.lookup f2 = some ⟨oc2, od2, .func (PySem.W.fnOf "levels_of" "levels_of" (defArgs s_levels_of) (defBody s_levels_of) (defScope s_levels_of) .none kV2 dc2 pm2 an2 cd2 ct2), sl2⟩) (c2 : PySem.W.codeIn K cd2 "levels_of" = true) (k2 : PySem.W.keepIn K (.ref f2) = true)
    (a3 : PySem.W.nsIn K mainGlobals "levels_from" = some (some (.ref f3))) (l3 : K.lookup f3 = some ⟨oc3, od3, .func (PySem.W.fnOf "levels_from" "levels_from" (defArgs s_levels_from) (defBody s_levels_from) (defScope s_levels_from) .none kV3 dc3 pm3 an3 cd3 ct3), sl3⟩) (c3 : PySem.W.codeIn K cd3 "levels_from" = true) (k3 : PySem.W.keepIn K (.ref f3) = true)
    (a4 : PySem.W.nsIn K mainGlobals "place_of" = some (some (.ref f4))) (l4 : K.lookup f4 = some ⟨oc4, od4, .func (PySem.W.fnOf "place_of" "place_of" (defArgs s_place_of) (defBody s_place_of) (defScope s_place_of) .none kV4 dc4 pm4 an4 cd4 ct4), sl4⟩) (c4 : PySem.W.codeIn K cd4 "place_of" = true) (k4 : PySem.W.keepIn K (.ref f4) = true)
    (a5 : PySem.W.nsIn K mainGlobals "folded" = some (some (.ref f5))) (l5 : K.lookup f5 = some ⟨oc5, od5, .func (PySem.W.fnOf "folded" "folded" (defArgs s_folded) (defBody s_folded) (defScope s_folded) .none kV5 dc5 pm5 an5 cd5 ct5), sl5⟩) (c5 : PySem.W.codeIn K cd5 "folded" = true) (k5 : PySem.W.keepIn K (.ref f5) = true)
    (a6 : PySem.W.nsIn K mainGlobals "polarities" = some (some (.ref f6))) (l6 : K.lookup f6 = some ⟨oc6, od6, .func (PySem.W.fnOf "polarities" "polarities" (defArgs s_polarities) (defBody s_polarities) (defScope s_polarities) .none kV6 dc6 pm6 an6 cd6 ct6), sl6⟩) (c6 : PySem.W.codeIn K cd6 "polarities" = true) (k6 : PySem.W.keepIn K (.ref f6) = true)
    (a7 : PySem.W.nsIn K mainGlobals "_polarities_of" = some (some (.ref f7))) (l7 : K.lookup f7 = some ⟨oc7, od7, .func (PySem.W.fnOf "_polarities_of" "_polarities_of" (defArgs s_polarities_of) (defBody s_polarities_of) (defScope s_polarities_of) .none kV7 dc7 pm7 an7 cd7 ct7), sl7⟩) (c7 : PySem.W.codeIn K cd7 "_polarities_of" = true) (k7 : PySem.W.keepIn K (.ref f7) = true)
    (a8 : PySem.W.nsIn K mainGlobals "is_guarded" = some (some (.ref f8))) (l8 : K.lookup f8 = some ⟨oc8, od8, .func (PySem.W.fnOf "is_guarded" "is_guarded" (defArgs s_is_guarded) (defBody s_is_guarded) (defScope s_is_guarded) .none kV8 dc8 pm8 an8 (.ref kc8) ct8), sl8⟩) (c8 : PySem.W.codeIn K (.ref kc8) "is_guarded" = true) (k8 : PySem.W.keepIn K (.ref f8) = true)
    (a9 : PySem.W.nsIn K mainGlobals "_law_pool" = some (some (.ref f9))) (l9 : K.lookup f9 = some ⟨oc9, od9, .func (PySem.W.fnOf "_law_pool" "_law_pool" (defArgs s_law_pool) (defBody s_law_pool) (defScope s_law_pool) .none kV9 dc9 pm9 an9 cd9 ct9), sl9⟩) (c9 : PySem.W.codeIn K cd9 "_law_pool" = true) (k9 : PySem.W.keepIn K (.ref f9) = true)
    (a10 : PySem.W.nsIn K mainGlobals "_law_spread" = some (some (.ref f10))) (l10 : K.lookup f10 = some ⟨oc10, od10, .func (PySem.W.fnOf "_law_spread" "_law_spread" (defArgs s_law_spread) (defBody s_law_spread) (defScope s_law_spread) .none kV10 dc10 pm10 an10 cd10 ct10), sl10⟩) (c10 : PySem.W.codeIn K cd10 "_law_spread" = true) (k10 : PySem.W.keepIn K (.ref f10) = true)
    (a11 : PySem.W.nsIn K mainGlobals "_law_draw" = some (some (.ref f11))) (l11 : K.lookup f11 = some ⟨oc11, od11, .func (PySem.W.fnOf "_law_draw" "_law_draw" (defArgs s_law_draw) (defBody s_law_draw) (defScope s_law_draw) .none kV11 dc11 pm11 an11 cd11 ct11), sl11⟩) (c11 : PySem.W.codeIn K cd11 "_law_draw" = true) (k11 : PySem.W.keepIn K (.ref f11) = true)
    (a12 : PySem.W.nsIn K mainGlobals "_law_same" = some (some (.ref f12))) (l12 : K.lookup f12 = some ⟨oc12, od12, .func (PySem.W.fnOf "_law_same" "_law_same" (defArgs s_law_same) (defBody s_law_same) (defScope s_law_same) .none kV12 dc12 pm12 an12 cd12 ct12), sl12⟩) (c12 : PySem.W.codeIn K cd12 "_law_same" = true) (k12 : PySem.W.keepIn K (.ref f12) = true)
    (a13 : PySem.W.nsIn K mainGlobals "_law_formula" = some (some (.ref f13))) (l13 : K.lookup f13 = some ⟨oc13, od13, .func (PySem.W.fnOf "_law_formula" "_law_formula" (defArgs s_law_formula) (defBody s_law_formula) (defScope s_law_formula) .none kV13 dc13 pm13 an13 cd13 ct13), sl13⟩) (c13 : PySem.W.codeIn K cd13 "_law_formula" = true) (k13 : PySem.W.keepIn K (.ref f13) = true)
    (a14 : PySem.W.nsIn K mainGlobals "_law_list" = some (some (.ref f14))) (l14 : K.lookup f14 = some ⟨oc14, od14, .func (PySem.W.fnOf "_law_list" "_law_list" (defArgs s_law_list) (defBody s_law_list) (defScope s_law_list) .none kV14 dc14 pm14 an14 cd14 ct14), sl14⟩) (c14 : PySem.W.codeIn K cd14 "_law_list" = true) (k14 : PySem.W.keepIn K (.ref f14) = true)
    (a15 : PySem.W.nsIn K mainGlobals "_law_some" = some (some (.ref f15))) (l15 : K.lookup f15 = some ⟨oc15, od15, .func (PySem.W.fnOf "_law_some" "_law_some" (defArgs s_law_some) (defBody s_law_some) (defScope s_law_some) .none kV15 dc15 pm15 an15 cd15 ct15), sl15⟩) (c15 : PySem.W.codeIn K cd15 "_law_some" = true) (k15 : PySem.W.keepIn K (.ref f15) = true)
    (a16 : PySem.W.nsIn K mainGlobals "_law_parts" = some (some (.ref f16))) (l16 : K.lookup f16 = some ⟨oc16, od16, .func (PySem.W.fnOf "_law_parts" "_law_parts" (defArgs s_law_parts) (defBody s_law_parts) (defScope s_law_parts) .none kV16 dc16 pm16 an16 cd16 ct16), sl16⟩) (c16 : PySem.W.codeIn K cd16 "_law_parts" = true) (k16 : PySem.W.keepIn K (.ref f16) = true)
    (a17 : PySem.W.nsIn K mainGlobals "_law_signs" = some (some (.ref f17))) (l17 : K.lookup f17 = some ⟨oc17, od17, .func (PySem.W.fnOf "_law_signs" "_law_signs" (defArgs s_law_signs) (defBody s_law_signs) (defScope s_law_signs) .none kV17 dc17 pm17 an17 cd17 ct17), sl17⟩) (c17 : PySem.W.codeIn K cd17 "_law_signs" = true) (k17 : PySem.W.keepIn K (.ref f17) = true)
    (a18 : PySem.W.nsIn K mainGlobals "law" = some (some (.ref f18))) (l18 : K.lookup f18 = some ⟨oc18, od18, .func (PySem.W.fnOf "law" "law" (defArgs s_law) (defBody s_law) (defScope s_law) .none kV18 dc18 pm18 an18 cd18 ct18), sl18⟩) (c18 : PySem.W.codeIn K cd18 "law" = true) (k18 : PySem.W.keepIn K (.ref f18) = true)
    (z_all : PySem.W.nsIn K mainGlobals "all" = some none)
    (z_bool : PySem.W.nsIn K mainGlobals "bool" = some none)
    (z_dict : PySem.W.nsIn K mainGlobals "dict" = some none)
    (z_enumerate : PySem.W.nsIn K mainGlobals "enumerate" = some none)
    (z_int : PySem.W.nsIn K mainGlobals "int" = some none)
    (z_isinstance : PySem.W.nsIn K mainGlobals "isinstance" = some none)
    (z_len : PySem.W.nsIn K mainGlobals "len" = some none)
    (z_list : PySem.W.nsIn K mainGlobals "list" = some none)
    (z_range : PySem.W.nsIn K mainGlobals "range" = some none)
    (z_reversed : PySem.W.nsIn K mainGlobals "reversed" = some none)
    (z_sorted : PySem.W.nsIn K mainGlobals "sorted" = some none)
    (z_str : PySem.W.nsIn K mainGlobals "str" = some none)
    (z_tuple : PySem.W.nsIn K mainGlobals "tuple" = some none)
    (hd8 : PySem.W.codeHdIn K kc8 (He.tabOf K kc8) = true) (n8 : K.lookup (He.tabOf K kc8) = none) (t8 : h.get? (He.tabOf K kc8) = some { cls := .none, data := .fields #[] })
    (dT : decide ([He.tabOf K kc8].Nodup) = true)
    : LamX.LawAtS l w K CX0 21 63 "script" mg fa h := by
  have e := hfa.symm.trans (PySem.W.mg_of X G a18)
  cases e
  have F0 := fun_mk (st := s_parts_of) l0 c0 k0
  have b0 := F0.binds (ps := ["a"]) fun _ _ _ _ _ _ us hl => match us, hl with | [_], _ => rfl
  have F1 := fun_mk (st := s_distinct) l1 c1 k1
  have b1 := F1.binds (ps := ["rows"]) fun _ _ _ _ _ _ us hl => match us, hl with | [_], _ => rfl
  have F2 := fun_mk (st := s_levels_of) l2 c2 k2
  have b2 := F2.binds (ps := ["a"]) fun _ _ _ _ _ _ us hl => match us, hl with | [_], _ => rfl
  have F3 := fun_mk (st := s_levels_from) l3 c3 k3
  have b3 := F3.binds (ps := ["formulas"]) fun _ _ _ _ _ _ us hl => match us, hl with | [_], _ => rfl
  have F4 := fun_mk (st := s_place_of) l4 c4 k4
  have b4 := F4.binds (ps := ["rows", "row"]) fun _ _ _ _ _ _ us hl => match us, hl with | [_, _], _ => rfl
  have F5 := fun_mk (st := s_folded) l5 c5 k5
  have b5 := F5.binds (ps := ["a", "value_of"]) fun _ _ _ _ _ _ us hl => match us, hl with | [_, _], _ => rfl
  have F6 := fun_mk (st := s_polarities) l6 c6 k6
  have b6 := F6.binds (ps := ["a"]) fun _ _ _ _ _ _ us hl => match us, hl with | [_], _ => rfl
  have F7 := fun_mk (st := s_polarities_of) l7 c7 k7
  have b7 := F7.binds (ps := ["a", "parts"]) fun _ _ _ _ _ _ us hl => match us, hl with | [_, _], _ => rfl
  have F8 := fun_mk (st := s_is_guarded) l8 c8 k8
  have b8 := F8.binds (ps := ["a", "name"]) fun _ _ _ _ _ _ us hl => match us, hl with | [_, _], _ => rfl
  have F9 := fun_mk (st := s_law_pool) l9 c9 k9
  have b9 := F9.binds (ps := ["script"]) fun _ _ _ _ _ _ us hl => match us, hl with | [_], _ => rfl
  have F10 := fun_mk (st := s_law_spread) l10 c10 k10
  have b10 := F10.binds (ps := ["cell"]) fun _ _ _ _ _ _ us hl => match us, hl with | [_], _ => rfl
  have F11 := fun_mk (st := s_law_draw) l11 c11 k11
  have b11 := F11.binds (ps := ["pool", "many"]) fun _ _ _ _ _ _ us hl => match us, hl with | [_, _], _ => rfl
  have F12 := fun_mk (st := s_law_same) l12 c12 k12
  have b12 := F12.binds (ps := ["actual", "due"]) fun _ _ _ _ _ _ us hl => match us, hl with | [_, _], _ => rfl
  have F13 := fun_mk (st := s_law_formula) l13 c13 k13
  have b13 := F13.binds (ps := ["pool", "depth", "plain"]) fun _ _ _ _ _ _ us hl => match us, hl with | [_, _, _], _ => rfl
  have F14 := fun_mk (st := s_law_list) l14 c14 k14
  have b14 := F14.binds (ps := ["pool", "many"]) fun _ _ _ _ _ _ us hl => match us, hl with | [_, _], _ => rfl
  have F15 := fun_mk (st := s_law_some) l15 c15 k15
  have b15 := F15.binds (ps := ["pool", "depth", "plain"]) fun _ _ _ _ _ _ us hl => match us, hl with | [_, _, _], _ => rfl
  have F16 := fun_mk (st := s_law_parts) l16 c16 k16
  have b16 := F16.binds (ps := ["a"]) fun _ _ _ _ _ _ us hl => match us, hl with | [_], _ => rfl
  have F17 := fun_mk (st := s_law_signs) l17 c17 k17
  have b17 := F17.binds (ps := ["a", "odd", "boxed"]) fun _ _ _ _ _ _ us hl => match us, hl with | [_, _, _], _ => rfl
  have F18 := fun_mk (st := s_law) l18 c18 k18
  have b18 := F18.binds (ps := ["script"]) fun _ _ _ _ _ _ us hl => match us, hl with | [_], _ => rfl
  let T : Top K mg := ⟨_, _, F0, b0, PySem.W.mg_of X G a0, _, _, F1, b1, PySem.W.mg_of X G a1, _, _, F2, b2, PySem.W.mg_of X G a2, _, _, F3, b3, PySem.W.mg_of X G a3, _, _, F4, b4, PySem.W.mg_of X G a4, _, _, F5, b5, PySem.W.mg_of X G a5, _, _, F6, b6, PySem.W.mg_of X G a6, _, _, F7, b7, PySem.W.mg_of X G a7, _, _, F8, b8, PySem.W.mg_of X G a8, _, _, F9, b9, PySem.W.mg_of X G a9, _, _, F10, b10, PySem.W.mg_of X G a10, _, _, F11, b11, PySem.W.mg_of X G a11, _, _, F12, b12, PySem.W.mg_of X G a12, _, _, F13, b13, PySem.W.mg_of X G a13, _, _, F14, b14, PySem.W.mg_of X G a14, _, _, F15, b15, PySem.W.mg_of X G a15, _, _, F16, b16, PySem.W.mg_of X G a16, _, _, F17, b17, PySem.W.mg_of X G a17, _, _, F18, b18, PySem.W.mg_of X G a18, PySem.W.mg_none_of X G z_all, PySem.W.mg_none_of X G z_bool, PySem.W.mg_none_of X G z_dict, PySem.W.mg_none_of X G z_enumerate, PySem.W.mg_none_of X G z_int, PySem.W.mg_none_of X G z_isinstance, PySem.W.mg_none_of X G z_len, PySem.W.mg_none_of X G z_list, PySem.W.mg_none_of X G z_range, PySem.W.mg_none_of X G z_reversed, PySem.W.mg_none_of X G z_sorted, PySem.W.mg_none_of X G z_str, PySem.W.mg_none_of X G z_tuple, _, _, func_mk (st := s_is_guarded) l8 c8, of_decide_eq_true dT⟩
  exact ⟨_, T.cs, spLaw K T.tabs, List.forall_mem_cons.mpr ⟨t8, (fun _ h => nomatch h)⟩, List.forall_mem_cons.mpr ⟨n8, (fun _ h => nomatch h)⟩, List.forall_mem_cons.mpr ⟨PySem.W.codeHd_of_K X hd8, (fun _ h => nomatch h)⟩, fun s v => .of_eq rfl, fun H a ns hl _ hE hS => ⟨a, ns, rfl, hS, hl, tabs_start rfl hE, fun _ => rfl⟩, fun base _ _ TBs => ok_law T TBs⟩
end E
open PySem PySem.W PyProof.Rows
set_option maxRecDepth 100000 in
set_option maxHeartbeats 0 in
theorem PySem.Challenge.cw_elsewhere_k06_polarities_and_guards_holds : PySem.Challenge.rw_elsewhere_k06_polarities_and_guards.Holds := by
  w_on; o_law; k_head; (case hw => w_witness2)
  k_fill
  refine LamX.walk_ofTs (l := PySem.Challenge.rw_elsewhere_k06_polarities_and_guards) (n := 63) (k := 21) (x := "script") (CX := fun _ => L2.CX0) rfl (by decide) rfl ⟨rfl, by decide, by decide⟩ (fun w h Y => PySem.W.km_in_of Y) ?F (fun _ _ _ _ _ z => z)
  case F =>
    intro w mg fa h Y KX G hmg
    have hT8 := PySem.W.km_tabs_of Y
    refine' E.all_mk KX G hmg ?a0 ?l0 ?c0 ?k0 ?a1 ?l1 ?c1 ?k1 ?a2 ?l2 ?c2 ?k2 ?a3 ?l3 ?c3 ?k3 ?a4 ?l4 ?c4 ?k4 ?a5 ?l5 ?c5 ?k5 ?a6 ?l6 ?c6 ?k6 ?a7 ?l7 ?c7 ?k7 ?a8 ?l8 ?c8 ?k8 ?a9 ?l9 ?c9 ?k9 ?a10 ?l10 ?c10 ?k10 ?a11 ?l11 ?c11 ?k11 ?a12 ?l12 ?c12 ?k12 ?a13 ?l13 ?c13 ?k13 ?a14 ?l14 ?c14 ?k14 ?a15 ?l15 ?c15 ?k15 ?a16 ?l16 ?c16 ?k16 ?a17 ?l17 ?c17 ?k17 ?a18 ?l18 ?c18 ?k18 ?z_all ?z_bool ?z_dict ?z_enumerate ?z_int ?z_isinstance ?z_len ?z_list ?z_range ?z_reversed ?z_sorted ?z_str ?z_tuple ?hd8 ?n8 ?t8 ?dT
    (case a0 => k_is); (case l0 => k_is); (case c0 => k_is); (case k0 => k_is)
    (case a1 => k_is); (case l1 => k_is); (case c1 => k_is); (case k1 => k_is)
    (case a2 => k_is); (case l2 => k_is); (case c2 => k_is); (case k2 => k_is)
    (case a3 => k_is); (case l3 => k_is); (case c3 => k_is); (case k3 => k_is)
    (case a4 => k_is); (case l4 => k_is); (case c4 => k_is); (case k4 => k_is)
    (case a5 => k_is); (case l5 => k_is); (case c5 => k_is); (case k5 => k_is)
    (case a6 => k_is); (case l6 => k_is); (case c6 => k_is); (case k6 => k_is)
    (case a7 => k_is); (case l7 => k_is); (case c7 => k_is); (case k7 => k_is)
    (case a8 => k_is); (case l8 => k_is); (case c8 => k_is); (case k8 => k_is)
    (case a9 => k_is); (case l9 => k_is); (case c9 => k_is); (case k9 => k_is)
    (case a10 => k_is); (case l10 => k_is); (case c10 => k_is); (case k10 => k_is)
    (case a11 => k_is); (case l11 => k_is); (case c11 => k_is); (case k11 => k_is)
    (case a12 => k_is); (case l12 => k_is); (case c12 => k_is); (case k12 => k_is)
    (case a13 => k_is); (case l13 => k_is); (case c13 => k_is); (case k13 => k_is)
    (case a14 => k_is); (case l14 => k_is); (case c14 => k_is); (case k14 => k_is)
    (case a15 => k_is); (case l15 => k_is); (case c15 => k_is); (case k15 => k_is)
    (case a16 => k_is); (case l16 => k_is); (case c16 => k_is); (case k16 => k_is)
    (case a17 => k_is); (case l17 => k_is); (case c17 => k_is); (case k17 => k_is)
    (case a18 => k_is); (case l18 => k_is); (case c18 => k_is); (case k18 => k_is)
    (case z_all => k_is); (case z_bool => k_is); (case z_dict => k_is); (case z_enumerate => k_is)
    (case z_int => k_is); (case z_isinstance => k_is); (case z_len => k_is); (case z_list => k_is)
    (case z_range => k_is); (case z_reversed => k_is); (case z_sorted => k_is); (case z_str => k_is)
    (case z_tuple => k_is); (case hd8 => kernel_rfl); (case n8 => kernel_rfl); (case t8 => exact hT8 _ (List.elem_iff.mp (by kernel_rfl)))
    (case dT => kernel_rfl)

