import PyProof.Rows.All
import Wide.All
import OpenK.AllK
import Wide.FinOn
import HandS.ForMost
import HandS.IsInst
import HandS.Steps
import HandS.TupAny
import HandS.Codes
import KE.LtData
import KE.SortData
import KE.SortLaws
import PyProof.StrOps
import KE.SortCalls
import KE.DatumOrd
import HandS.TupSets
import HandS.SetKeys
import HandS.DictComp
import HandS.Conv
import HandS.Walk
import PySem.Challenge.RW_elsewhere_k11_frames
set_option Elab.async false
set_option linter.all false
set_option maxRecDepth 100000
namespace E
open PySem PySem.Spec PyProof.Rows L2
/-! ### heaps: what a step keeps -/
/-- tuples stay -/
def TS (H H' : Hp) : Prop := ∀ b xs, Rd H b (.tup xs) → Rd H' b (.tup xs)
theorem TS.refl (H : Hp) : TS H H := fun _ _ h => h
theorem TS.trans {H H1 H2 : Hp} (a : TS H H1) (b : TS H1 H2) : TS H H2 := fun c xs h => b c xs (a c xs h)
/-- all but the object at p stays -/
def Kp (p : Addr) (H H' : Hp) : Prop := ∀ b o, H b = some o → b ≠ p → H' b = some o
theorem Kp.refl (p : Addr) (H : Hp) : Kp p H H := fun _ _ h _ => h
theorem Kp.trans {p : Addr} {H H1 H2 : Hp} (a : Kp p H H1) (b : Kp p H1 H2) : Kp p H H2 := fun c o h n => b c o (a c o h n) n
theorem Kp.upd {p : Addr} {H : Hp} {o : HO} : Kp p H (upd H p o) := fun b u h n => by rw [upd_ne n]; exact h
theorem Kp.new {p q : Addr} {H : Hp} {o : HO} (h : H q = none) : Kp p H (L2.upd H q o) := fun b u e _ => by rw [upd_ne (ne_of_none e h)]; exact e
theorem same_new {q : Addr} {H : Hp} {o : HO} (h : H q = none) : Same H (upd H q o) := fun b u e => by rw [upd_ne (ne_of_none e h)]; exact e
theorem Same.kp {p : Addr} {H H' : Hp} (s : Same H H') : Kp p H H' := fun b o h _ => s b o h
theorem Same.ts {H H' : Hp} (s : Same H H') : TS H H' := fun b xs h => by
  rcases h with h | ⟨o, h⟩
  · exact .inl (s _ _ h)
  · exact .inr ⟨o, s _ _ h⟩
theorem Kp.rd {p a : Addr} {H H' : Hp} {u : HO} (k : Kp p H H') (h : Rd H a u) (n : a ≠ p) : Rd H' a u := by
  rcases h with h | ⟨o, h⟩
  · exact .inl (k _ _ h n)
  · exact .inr ⟨o, k _ _ h n⟩
theorem Kp.sqL {K : PySem.W.Frag} {p a : Addr} {H H' : Hp} {xs : List V} (k : Kp p H H') (h : SqL K H a xs) (n : a ≠ p) : SqL K H' a xs := by
  rcases h with h | h
  · exact .inl (k.rd h n)
  · exact .inr h
/-- p holds a list: tuples stay -/
theorem Kp.ts {p : Addr} {H H' : Hp} {xs : List V} (k : Kp p H H') (h : H p = some (.lst xs)) : TS H H' := fun b ys r => by
  have n : b ≠ p := fun e => by
    subst e
    rcases r with r | ⟨o, r⟩
    · rw [h] at r; cases r
    · rw [h] at r; cases r
  exact k.rd r n
/-- what is new for H' was new for H -/
theorem Kp.free {p q : Addr} {H H' : Hp} {o : HO} (k : Kp p H H') (hp : H p = some o) (hp' : ∃ o, H' p = some o) (h : H' q = none) : H q = none := by
  cases e : H q with
  | none => rfl
  | some u =>
    have n : q ≠ p := fun z => by
      subst z
      obtain ⟨o', h'⟩ := hp'
      rw [h] at h'; cases h'
    rw [k q u e n] at h; cases h
theorem TS.sqT {K : PySem.W.Frag} {a : Addr} {H H' : Hp} {xs : List V} (k : TS H H') (h : SqT K H a xs) : SqT K H' a xs := by
  rcases h with h | h
  · exact .inl (k _ _ h)
  · exact .inr h
/-! ### data without lists -/
mutual
inductive Im (K : PySem.W.Frag) (H : Hp) : V → PyData → Prop
  | non : Im K H .non .none
  | bl (b : Bool) : Im K H (.bl b) (.bool b)
  | int (i : Int) : Im K H (.int i) (.int i)
  | str (x : Str) : Im K H (.str x) (.str x)
  | tup {a : Addr} {xs : List V} {ds : List PyData} : SqT K H a xs → ImAll K H xs ds → Im K H (.ref a) (.tuple ds)
inductive ImAll (K : PySem.W.Frag) (H : Hp) : List V → List PyData → Prop
  | nil : ImAll K H [] []
  | cons {v : V} {vs : List V} {d : PyData} {ds : List PyData} : Im K H v d → ImAll K H vs ds → ImAll K H (v :: vs) (d :: ds)
end
section
variable {K : PySem.W.Frag} {H H' : Hp}
mutual
theorem Im.mono (k : TS H H') : ∀ {v : V} {d : PyData}, Im K H v d → Im K H' v d
  | _, _, .non => .non
  | _, _, .bl b => .bl b
  | _, _, .int i => .int i
  | _, _, .str x => .str x
  | _, _, .tup h a => .tup (k.sqT h) (ImAll.mono k a)
theorem ImAll.mono (k : TS H H') : ∀ {vs : List V} {ds : List PyData}, ImAll K H vs ds → ImAll K H' vs ds
  | _, _, .nil => .nil
  | _, _, .cons h t => .cons (Im.mono k h) (ImAll.mono k t)
end
mutual
theorem Im.dp : ∀ {v : V} {d : PyData}, Im K H v d → Dp K H v d
  | _, _, .non => .non
  | _, _, .bl b => .bl b
  | _, _, .int i => .int i
  | _, _, .str x => .str x
  | _, _, .tup h a => .tup h (ImAll.dp a)
theorem ImAll.dp : ∀ {vs : List V} {ds : List PyData}, ImAll K H vs ds → DpAll K H vs ds
  | _, _, .nil => .nil
  | _, _, .cons h t => .cons (Im.dp h) (ImAll.dp t)
end
theorem ImAll.get : ∀ {vs : List V} {ds : List PyData} {i : Nat} {v : V}, ImAll K H vs ds → vs[i]? = some v → ∃ d, ds[i]? = some d ∧ Im K H v d
  | _, _, _, _, .nil, e => by simp at e
  | _, _, 0, _, .cons h _, e => by simp at e; subst e; exact ⟨_, rfl, h⟩
  | _, _, i + 1, v, .cons _ t, e => by
    obtain ⟨d, h1, h2⟩ := ImAll.get (i := i) (v := v) t (by simpa using e)
    exact ⟨d, by simpa using h1, h2⟩
theorem ImAll.length : ∀ {vs : List V} {ds : List PyData}, ImAll K H vs ds → vs.length = ds.length
  | _, _, .nil => rfl
  | _, _, .cons _ t => by rw [List.length_cons, List.length_cons, ImAll.length t]
theorem ImAll.snoc : ∀ {vs : List V} {ds : List PyData} {v : V} {d : PyData}, ImAll K H vs ds → Im K H v d → ImAll K H (vs ++ [v]) (ds ++ [d])
  | _, _, _, _, .nil, h => .cons h .nil
  | _, _, _, _, .cons h t, h' => .cons h (ImAll.snoc t h')
theorem dpAll_get : ∀ {vs : List V} {ds : List PyData} {i : Nat} {d : PyData}, DpAll K H vs ds → ds[i]? = some d → ∃ v, vs[i]? = some v ∧ Dp K H v d
  | _, _, _, _, .nil, e => by simp at e
  | _, _, 0, _, .cons h _, e => by simp at e; subst e; exact ⟨_, rfl, h⟩
  | _, _, i + 1, d, .cons _ t, e => by
    obtain ⟨v, h1, h2⟩ := dpAll_get (i := i) (d := d) t (by simpa using e)
    exact ⟨v, by simpa using h1, h2⟩
theorem dpAll_len : ∀ {vs : List V} {ds : List PyData}, DpAll K H vs ds → vs.length = ds.length
  | _, _, .nil => rfl
  | _, _, .cons _ t => by rw [List.length_cons, List.length_cons, dpAll_len t]
/-! ### types, for isinstance -/
theorem ty_list {a : Addr} {xs : List V} (h : SqL K H a xs) : TyX K H (.ref a) (.type "list") := by
  rcases h with (h | ⟨o, h⟩) | ⟨o, its, n, h1, h2, _⟩
  · exact .base (.lst h)
  · exact .base (.frz h)
  · exact .kList h1 h2
theorem ty_tup {a : Addr} {xs : List V} (h : SqT K H a xs) : TyX K H (.ref a) (.type "tuple") := by
  rcases h with (h | ⟨o, h⟩) | ⟨o, its, n, h1, h2, _⟩
  · exact .base (.tup h)
  · exact .fTuple h
  · exact .kTuple h1 h2
def tyD : PyData → String
  | .none => "NoneType"
  | .bool _ => "bool"
  | .int _ => "int"
  | .str _ => "str"
  | .list _ => "list"
  | .tuple _ => "tuple"
  | .dict _ => "dict"
theorem Dp.ty {v : V} {d : PyData} (h : Dp K H v d) : TyX K H v (.type (tyD d)) := by
  cases h with
  | non => exact .base .non
  | bl b => exact .base (.bl b)
  | int i => exact .base (.int i)
  | str x => exact .base (.str x)
  | lst h _ => exact ty_list h
  | tup h _ => exact ty_tup h
end
/-! ### the law's pool of numbers -/
structure Pl (K : PySem.W.Frag) (H : Hp) (p l : Addr) : Prop where
  sq : ∃ cs : List Int, SqL K H l (cs.map V.int)
  ne : l ≠ p
  at5 : ∃ i r c s : Int, H p = some (.lst [.ref l, .int i, .int r, .int c, .int s]) ∧ 0 ≤ i
section
variable {K : PySem.W.Frag} {H H' H0 H1 H2 : Hp} {p q l : Addr}
theorem Pl.lst (h : Pl K H p l) : ∃ xs, H p = some (.lst xs) := by
  obtain ⟨i, r, c, s, h, _⟩ := h.at5
  exact ⟨_, h⟩
theorem Pl.same (k : Same H H') (h : Pl K H p l) : Pl K H' p l := by
  obtain ⟨i, r, c, s, h1, h2⟩ := h.at5
  obtain ⟨cs, hs⟩ := h.sq
  exact ⟨⟨cs, k.seq hs⟩, h.ne, i, r, c, s, k _ _ h1, h2⟩
/-- the pool's own turn -/
theorem Pl.turn {i r c s : Int} (h : Pl K H p l) (h0 : 0 ≤ i) : Pl K (upd H p (.lst [.ref l, .int i, .int r, .int c, .int s])) p l := by
  obtain ⟨cs, hs⟩ := h.sq
  exact ⟨⟨cs, Kp.upd.sqL hs h.ne⟩, h.ne, i, r, c, s, upd_same, h0⟩
theorem Pl.ts (h : Pl K H p l) (k : Kp p H H') : TS H H' := by
  obtain ⟨xs, e⟩ := h.lst
  exact k.ts e
/-- another list, younger than the pool, is changed -/
theorem Pl.other (h0 : Pl K H0 p l) (hq : H0 q = none) (h1 : Pl K H1 p l) (k : Kp q H1 H2) : Pl K H2 p l := by
  obtain ⟨i, r, c, s, e1, e2⟩ := h1.at5
  obtain ⟨cs, hs⟩ := h1.sq
  obtain ⟨xs, hl⟩ := h0.lst
  have np : p ≠ q := ne_of_none hl hq
  refine ⟨?_, h1.ne, i, r, c, s, k _ _ e1 np, e2⟩
  rcases hs with hs | hs
  · obtain ⟨cs0, h0s⟩ := h0.sq
    rcases h0s with h0s | h0s
    · have nl : l ≠ q := by
        rcases h0s with z | ⟨o, z⟩
        · exact ne_of_none z hq
        · exact ne_of_none z hq
      exact ⟨cs, .inl (k.rd hs nl)⟩
    · exact ⟨cs0, .inr h0s⟩
  · exact ⟨cs, .inr hs⟩
/-- p's change and that of a younger q together are p's change -/
theorem Kp.under (hq : H0 q = none) (k1 : Kp p H0 H1) (k2 : Kp q H1 H2) : Kp p H0 H2 := fun b o e n => k2 b o (k1 b o e n) (ne_of_none e hq)
end
theorem kB {K : PySem.W.Frag} {a b : String} (r : Bool) (h : L2.kitB a b = some r) : PySem.W.kitOne K (.type a) (.type b) = some r := kit_ty h
/-- a promise that nothing can ask for -/
theorem fn_none {P : Program} {w : World} {K : PySem.W.Frag} {mg : Str → Option Value} {base : Heap} {f : Addr} {fd : FuncData} {ps : List Str} {sp : Sp} (no : ∀ vs H Q E, ¬ sp vs H Q E) : FnOk P w K mg base CX0 0 f fd ps sp :=
  ⟨fun vs H Q E h => absurd h (no vs H Q E), fun A outer s H args us vs Q E _ _ _ _ h => absurd h (no vs H Q E)⟩
mutual
/-- no list or tuple in it is too long -/
def sml : PyData → Prop
  | .list ds => ds.length ≤ 1000000 ∧ smlAll ds
  | .tuple ds => ds.length ≤ 1000000 ∧ smlAll ds
  | _ => True
def smlAll : List PyData → Prop
  | [] => True
  | d :: ds => sml d ∧ smlAll ds
end
theorem sml_mem : ∀ {ds : List PyData} {i : Nat} {d : PyData}, smlAll ds → ds[i]? = some d → sml d
  | [], _, _, _, h => by simp at h
  | e :: ds, 0, d, h1, h => by
    simp at h; subst h
    rw [smlAll] at h1; exact h1.1
  | e :: ds, i + 1, d, h1, h => by
    rw [smlAll] at h1
    exact sml_mem (ds := ds) (i := i) h1.2 (by simpa using h)
theorem depth_mem : ∀ {ds : List PyData} {i : Nat} {d : PyData}, ds[i]? = some d → d.depth ≤ PyData.depthAll ds
  | [], _, _, h => by simp at h
  | e :: ds, 0, d, h => by
    simp at h; subst h
    rw [PyData.depthAll]; exact Nat.le_max_left _ _
  | e :: ds, i + 1, d, h => by
    have := depth_mem (ds := ds) (i := i) (d := d) (by simpa using h)
    rw [PyData.depthAll]; exact Nat.le_trans this (Nat.le_max_right _ _)
theorem sizeU {n : Nat} (h : n ≤ 1000) : n ≤ sizeLine := Nat.le_of_lt (small1000 h)
/-! ### formulas -/
inductive Fm where
  | var (n : Str) | fal | and (a b : Fm) | or (a b : Fm) | imp (a b : Fm) | box (a : Fm)
  deriving DecidableEq
def Fm.d : Fm → PyData
  | .var n => .tuple [.str "var", .str n]
  | .fal => .tuple [.str "falsum"]
  | .and a b => .tuple [.str "and", a.d, b.d]
  | .or a b => .tuple [.str "or", a.d, b.d]
  | .imp a b => .tuple [.str "implies", a.d, b.d]
  | .box a => .tuple [.str "box", a.d]
def Fm.ht : Fm → Nat
  | .var _ => 1
  | .fal => 1
  | .and a b => max a.ht b.ht + 1
  | .or a b => max a.ht b.ht + 1
  | .imp a b => max a.ht b.ht + 1
  | .box a => a.ht + 1
def Fm.plain : Fm → Bool
  | .var _ => true
  | .fal => true
  | .and a b => a.plain && b.plain
  | .or a b => a.plain && b.plain
  | .imp a b => a.plain && b.plain
  | .box _ => false
/-- all names of variables are in N -/
def Fm.over (N : List Str) : Fm → Bool
  | .var n => decide (n ∈ N)
  | .fal => true
  | .and a b => a.over N && b.over N
  | .or a b => a.over N && b.over N
  | .imp a b => a.over N && b.over N
  | .box a => a.over N
theorem Fm.depth : ∀ f : Fm, f.d.depth = f.ht
  | .var _ => by simp [Fm.d, PyData.depth, PyData.depthAll, Fm.ht]
  | .fal => by simp [Fm.d, PyData.depth, PyData.depthAll, Fm.ht]
  | .and a b => by simp [Fm.d, PyData.depth, PyData.depthAll, Fm.ht, Fm.depth a, Fm.depth b]
  | .or a b => by simp [Fm.d, PyData.depth, PyData.depthAll, Fm.ht, Fm.depth a, Fm.depth b]
  | .imp a b => by simp [Fm.d, PyData.depth, PyData.depthAll, Fm.ht, Fm.depth a, Fm.depth b]
  | .box a => by simp [Fm.d, PyData.depth, PyData.depthAll, Fm.ht, Fm.depth a]
theorem Fm.sml : ∀ f : Fm, E.sml f.d
  | .var _ => by simp [Fm.d, E.sml, smlAll]
  | .fal => by simp [Fm.d, E.sml, smlAll]
  | .and a b => by simp [Fm.d, E.sml, smlAll, Fm.sml a, Fm.sml b]
  | .or a b => by simp [Fm.d, E.sml, smlAll, Fm.sml a, Fm.sml b]
  | .imp a b => by simp [Fm.d, E.sml, smlAll, Fm.sml a, Fm.sml b]
  | .box a => by simp [Fm.d, E.sml, smlAll, Fm.sml a]
theorem Fm.ht_pos : ∀ f : Fm, 1 ≤ f.ht
  | .var _ => Nat.le_refl _
  | .fal => Nat.le_refl _
  | .and _ _ => Nat.le_add_left _ _
  | .or _ _ => Nat.le_add_left _ _
  | .imp _ _ => Nat.le_add_left _ _
  | .box _ => Nat.le_add_left _ _
section
variable {K : PySem.W.Frag} {H : Hp} {p : Addr} {v u : V} {f g : Fm}
theorem im_fal (h : H p = some (.tup [.str "falsum"])) : Im K H (.ref p) Fm.fal.d := .tup (SqT.of h) (.cons (.str _) .nil)
theorem im_var {n : Str} (h : H p = some (.tup [.str "var", .str n])) : Im K H (.ref p) (Fm.var n).d := .tup (SqT.of h) (.cons (.str _) (.cons (.str _) .nil))
theorem im_box (h : H p = some (.tup [.str "box", v])) (a : Im K H v f.d) : Im K H (.ref p) (Fm.box f).d := .tup (SqT.of h) (.cons (.str _) (.cons a .nil))
theorem im_and (h : H p = some (.tup [.str "and", v, u])) (a : Im K H v f.d) (b : Im K H u g.d) : Im K H (.ref p) (Fm.and f g).d := .tup (SqT.of h) (.cons (.str _) (.cons a (.cons b .nil)))
theorem im_or (h : H p = some (.tup [.str "or", v, u])) (a : Im K H v f.d) (b : Im K H u g.d) : Im K H (.ref p) (Fm.or f g).d := .tup (SqT.of h) (.cons (.str _) (.cons a (.cons b .nil)))
theorem im_imp (h : H p = some (.tup [.str "implies", v, u])) (a : Im K H v f.d) (b : Im K H u g.d) : Im K H (.ref p) (Fm.imp f g).d := .tup (SqT.of h) (.cons (.str _) (.cons a (.cons b .nil)))
end
/-! ### lists of ints as data -/
theorem dp_ints {K : PySem.W.Frag} {H : Hp} : ∀ ns : List Int, DpAll K H (ns.map V.int) (ns.map PyData.int)
  | [] => .nil
  | n :: ns => .cons (.int n) (dp_ints ns)
theorem lay_ints : ∀ ns : List Int, PyData.canLayAll0 (ns.map PyData.int) = true
  | [] => rfl
  | n :: ns => by
    rw [List.map_cons, PyData.canLayAll0, lay_ints ns]
    rfl
theorem dep_ints : ∀ ns : List Int, PyData.depthAll (ns.map PyData.int) = 0
  | [] => rfl
  | n :: ns => by
    rw [List.map_cons, PyData.depthAll, dep_ints ns]
    rfl
theorem shaped_ints (ns : List Int) : SeqAt.shaped (.list (ns.map PyData.int)) = true := by
  unfold SeqAt.shaped
  rw [PyData.canLay0, lay_ints, PyData.depth, dep_ints]
  rfl
theorem eqv_nil (ds : List PyData) : PyData.eqv (.list ds) (.list []) = ds.isEmpty := by
  cases ds with
  | nil => rfl
  | cons d ds => rfl
theorem atI_mem {α : Type} {xs : List α} {i : Int} (h0 : 0 ≤ i) (h1 : i < xs.length) : ∃ v, atI xs i = some v ∧ v ∈ xs := by
  have hn : i.toNat < xs.length := by omega
  refine ⟨xs[i.toNat], ?_, List.getElem_mem hn⟩
  have e := atI_nat (xs := xs) (j := i.toNat) (List.getElem?_eq_getElem hn)
  rw [show ((i.toNat : Nat) : Int) = i by omega] at e
  exact e
def nms : List Str := ["p", "q", "r"]
section
variable {t u : TT} {σ : L2.St} {H : Hp} {b1 b2 : Bool}
theorem ans_or2 (h1 : Ans t σ H b1) (h2 : Ans u σ H b2) : Ans (tOr t u) σ H (b1 || b2) := by
  cases b1 with
  | true => exact ans_or1 h1
  | false => exact ans_or h1 h2
end
theorem vint {i j : Int} (h : decide (V.int i = V.int j) = true) : i = j := V.int.inj (of_decide_eq_true h)
theorem vintF {i j : Int} (h : ¬ decide (V.int i = V.int j) = true) : i ≠ j := fun e => h (decide_eq_true (congrArg V.int e))
theorem in34 {k : Int} : inV (.int k) [.int 3, .int 4] = decide (k = 3 ∨ k = 4) := by
  unfold inV
  simp only [List.any_cons, List.any_nil, Bool.or_false]
  show ((3 == k) || (4 == k)) = _
  rw [Bool.eq_iff_iff]
  simp only [Bool.or_eq_true, beq_iff_eq, decide_eq_true_eq]
  omega
theorem iteD {c A B : Prop} [Decidable c] (h : c) (a : A) : if decide c = true then A else B := by
  rw [if_pos (decide_eq_true h)]
  exact a
theorem iteDF {c A B : Prop} [Decidable c] (h : ¬ c) (b : B) : if decide c = true then A else B := by
  rw [if_neg (by rw [decide_eq_true_eq]; exact h)]
  exact b
theorem in34y {k : Int} (h : k = 3 ∨ k = 4) : V.bl (if false = true then !inV (.int k) [.int 3, .int 4] else inV (.int k) [.int 3, .int 4]) = V.bl true := by
  rw [if_neg Bool.false_ne_true, in34, decide_eq_true h]
theorem in34n {k : Int} (h : ¬ (k = 3 ∨ k = 4)) : V.bl (if false = true then !inV (.int k) [.int 3, .int 4] else inV (.int k) [.int 3, .int 4]) = V.bl false := by
  rw [if_neg Bool.false_ne_true, in34, decide_eq_false h]
theorem vne {i j : Int} (h : i ≠ j) : ¬ V.int i = V.int j := fun e => h (V.int.inj e)
/-! ### joined formulas -/
def grp (op : Fm → Fm → Fm) (z : Fm) : List Fm → Fm
  | [] => z
  | [a] => a
  | a :: b :: r => op a (grp op z (b :: r))
theorem grp_step {op : Fm → Fm → Fm} {z f : Fm} {fs : List Fm} {j : Nat} (h : fs[j]? = some f) (h2 : j + 1 < fs.length) : grp op z (fs.drop j) = op f (grp op z (fs.drop (j + 1))) := by
  obtain ⟨hj, e⟩ := List.getElem?_eq_some_iff.mp h
  rw [List.drop_eq_getElem_cons hj, e, List.drop_eq_getElem_cons h2]
  rfl
theorem grp_last {op : Fm → Fm → Fm} {z f : Fm} {fs : List Fm} (h : fs[fs.length - 1]? = some f) : grp op z (fs.drop (fs.length - 1)) = f := by
  obtain ⟨hj, e⟩ := List.getElem?_eq_some_iff.mp h
  rw [List.drop_eq_getElem_cons hj, e, List.drop_eq_nil_of_le (by omega)]
  rfl
inductive SgOp : Str → (Fm → Fm → Fm) → Prop
  | and : SgOp "and" Fm.and
  | or : SgOp "or" Fm.or
theorem im_op {K : PySem.W.Frag} {H : Hp} {p : Addr} {v u : V} {f g : Fm} {sg : Str} {op : Fm → Fm → Fm} (o : SgOp sg op) (h : H p = some (.tup [.str sg, v, u])) (a : Im K H v f.d) (b : Im K H u g.d) : Im K H (.ref p) (op f g).d := by
  cases o with
  | and => exact im_and h a b
  | or => exact im_or h a b
theorem atI_m1 {α : Type} {xs : List α} {v : α} (h : xs[xs.length - 1]? = some v) : atI xs (-1) = some v := by
  have hl : 0 < xs.length := by
    have := (List.getElem?_eq_some_iff.mp h).1
    omega
  have e : ixN xs.length (-1) = some (xs.length - 1) := by
    unfold ixN
    rw [if_neg (by decide), if_pos (by omega)]
    congr 1
    omega
  unfold atI
  rw [e]
  exact h
theorem cut_m1 (xs : List V) : cutV xs none (some (-1)) = xs.take (xs.length - 1) := by
  unfold cutV
  have e : HT.sIx xs.length xs.length (some (-1)) = xs.length - 1 := by
    show (if (-1 : Int) < 0 then ((-1 : Int) + (xs.length : Int)).toNat else min (-1 : Int).toNat xs.length) = _
    rw [if_pos (by decide)]
    omega
  rw [e, HT.sIx_none, List.drop_zero, Nat.sub_zero]
/-- for x in reversed(list) -/
theorem for_rev {K : PySem.W.Frag} {a : Addr} {xs : List V} {g : TG} {tb : L2.TS} {D : Ends} {σ : L2.St} {H : Hp} (Pv : Nat → L2.St → Hp → Prop) (h0 : Pv 0 σ H) (hl : ∀ i σ H, i ≤ xs.length → Pv i σ H → SqL K H a xs)
    (hs : ∀ i x σ H, i < xs.length → xs[xs.length - 1 - i]? = some x → Pv i σ H → g x σ H fun σ2 H2 => tb { D with nx := Pv (i + 1), ct := Pv (i + 1), bk := D.nx } σ2 H2) (hd : ∀ σ H, Pv xs.length σ H → D.nx σ H) :
    ∃ W : Nat → Nat → L2.St → Hp → Prop, (∃ m, W 0 m σ H) ∧ ∀ i m σ H, W i m σ H →
      ((Itv K a xs.length).stop i H ∧ D.nx σ H) ∨ ((Itv K a xs.length).go i H ∧ ∃ N : L2.St → Hp → Prop, (∀ σ' H', N σ' H' → ∃ m', m' < m ∧ W (i + 1) m' σ' H') ∧ ∀ x H', (Itv K a xs.length).yld i H x H' → g x σ H' fun σ2 H2 => tb { D with nx := N, ct := N, bk := D.nx } σ2 H2) := by
  refine ⟨fun i m σ H => m = xs.length - i ∧ i ≤ xs.length ∧ Pv i σ H, ⟨xs.length, by simp, Nat.zero_le _, h0⟩, ?_⟩
  rintro i m σ H ⟨rfl, hi, p⟩
  have q := hl i σ H hi p
  by_cases hlt : i < xs.length
  · have g0 : xs[xs.length - 1 - i]? = some xs[xs.length - 1 - i] := List.getElem?_eq_getElem (by omega)
    refine .inr ⟨⟨hlt, xs, _, q, g0⟩, Pv (i + 1), fun σ' H' p' => ⟨xs.length - (i + 1), by omega, rfl, hlt, p'⟩, fun x H' y => ?_⟩
    obtain ⟨e, y⟩ := y
    subst e
    exact hs i x σ _ hlt (y xs q) p
  · have e : i = xs.length := by omega
    subst e
    exact .inl ⟨Nat.le_refl _, hd σ H p⟩
/-! ### what may be compared -/
theorem strOk_lit {x : Str} (h : PyData.strOk x = true) : PyData.canLay0 (.str x) = true := h
theorem Fm.lay {N : List Str} (hN : ∀ n ∈ N, PyData.strOk n = true) : ∀ f : Fm, f.over N = true → f.d.canLay0 = true
  | .var n, h => by
    have h1 := hN n (of_decide_eq_true h)
    simp only [Fm.d, PyData.canLay0, PyData.canLayAll0, h1, Bool.and_true]
    decide +kernel
  | .fal, _ => by decide +kernel
  | .and a b, h => by
    have h' : (a.over N && b.over N) = true := h
    rw [Bool.and_eq_true] at h'
    simp only [Fm.d, PyData.canLay0, PyData.canLayAll0, Fm.lay hN a h'.1, Fm.lay hN b h'.2, Bool.and_true]
    decide +kernel
  | .or a b, h => by
    have h' : (a.over N && b.over N) = true := h
    rw [Bool.and_eq_true] at h'
    simp only [Fm.d, PyData.canLay0, PyData.canLayAll0, Fm.lay hN a h'.1, Fm.lay hN b h'.2, Bool.and_true]
    decide +kernel
  | .imp a b, h => by
    have h' : (a.over N && b.over N) = true := h
    rw [Bool.and_eq_true] at h'
    simp only [Fm.d, PyData.canLay0, PyData.canLayAll0, Fm.lay hN a h'.1, Fm.lay hN b h'.2, Bool.and_true]
    decide +kernel
  | .box a, h => by
    simp only [Fm.d, PyData.canLay0, PyData.canLayAll0, Fm.lay hN a h, Bool.and_true]
    decide +kernel
theorem nms_ok : ∀ n ∈ nms, PyData.strOk n = true := by decide +kernel
/-- a list of formulas, none too high -/
theorem fms_shaped {N : List Str} (hN : ∀ n ∈ N, PyData.strOk n = true) : ∀ {fs : List Fm}, (∀ f ∈ fs, f.over N = true ∧ f.ht ≤ 63) → PyData.canLayAll0 (fs.map Fm.d) = true ∧ PyData.depthAll (fs.map Fm.d) ≤ 63
  | [], _ => ⟨rfl, Nat.zero_le _⟩
  | f :: fs, h => by
    have h1 := h f List.mem_cons_self
    have h2 := fms_shaped hN (fs := fs) fun g hg => h g (List.mem_cons_of_mem _ hg)
    rw [List.map_cons, PyData.canLayAll0, PyData.depthAll, Fm.lay hN f h1.1, h2.1, Fm.depth]
    exact ⟨rfl, Nat.max_le.mpr ⟨h1.2, h2.2⟩⟩
theorem list_shaped {ds : List PyData} (h : PyData.canLayAll0 ds = true ∧ PyData.depthAll ds ≤ 63) : SeqAt.shaped (.list ds) = true := by
  unfold SeqAt.shaped
  rw [PyData.canLay0, PyData.depth, h.1]
  exact decide_eq_true (by omega)
theorem eqv_self {d : PyData} (h : SeqAt.shaped d = true) : PyData.eqv d d = true := SeqAt.eqv_refl d (SeqAt.canLay_of_shaped h)
inductive TagZ : Str → (Fm → Fm → Fm) → Fm → Prop
  | and : TagZ "and" Fm.and (.imp .fal .fal)
  | or : TagZ "or" Fm.or .fal
theorem TagZ.op {sg : Str} {op : Fm → Fm → Fm} {z : Fm} (h : TagZ sg op z) : SgOp sg op := by
  cases h with
  | and => exact .and
  | or => exact .or
theorem SgOp.ht {sg : Str} {op : Fm → Fm → Fm} (h : SgOp sg op) (f g : Fm) : (op f g).ht = max f.ht g.ht + 1 := by
  cases h with
  | and => rfl
  | or => rfl
theorem grp_ht {sg : Str} {op : Fm → Fm → Fm} {z : Fm} {m : Nat} (o : SgOp sg op) (hz : z.ht ≤ m) : ∀ {fs : List Fm}, (∀ f ∈ fs, f.ht ≤ m) → (grp op z fs).ht ≤ m + fs.length
  | [], _ => hz
  | [a], h => Nat.le_trans (h a List.mem_cons_self) (Nat.le_add_right _ _)
  | a :: b :: r, h => by
    have h1 := h a List.mem_cons_self
    have h2 := grp_ht o hz (fs := b :: r) fun f hf => h f (List.mem_cons_of_mem _ hf)
    show (op a (grp op z (b :: r))).ht ≤ _
    rw [o.ht]
    simp only [List.length_cons] at h2 ⊢
    omega
theorem ImAll.fm {K : PySem.W.Frag} {H : Hp} {xs : List V} {fs : List Fm} (hI : ImAll K H xs (fs.map Fm.d)) {j : Nat} (hj : j < xs.length) : ∃ v f, xs[j]? = some v ∧ fs[j]? = some f ∧ Im K H v f.d := by
  have g := List.getElem?_eq_getElem hj
  obtain ⟨d, e, i⟩ := hI.get g
  rw [List.getElem?_map] at e
  cases e2 : fs[j]? with
  | none => rw [e2] at e; cases e
  | some f =>
    rw [e2] at e
    have : f.d = d := Option.some.inj e
    subst this
    exact ⟨_, f, g, rfl, i⟩
theorem fm_snoc {fs : List Fm} {f : Fm} : (fs ++ [f]).map Fm.d = fs.map Fm.d ++ [f.d] := by rw [List.map_append]; rfl
end E

set_option Elab.async false
set_option linter.all false
set_option maxRecDepth 100000
set_option maxHeartbeats 4000000
namespace E
open PySem PySem.Spec PyProof.Rows L2
/-! ### the order of formulas -/
abbrev Tk := List (Int ⊕ List Nat)
def Fm.toks : Fm → Tk
  | .and a b => .inl 0 :: (a.toks ++ b.toks)
  | .box a => .inl 1 :: a.toks
  | .fal => [.inl 2]
  | .imp a b => .inl 3 :: (a.toks ++ b.toks)
  | .or a b => .inl 4 :: (a.toks ++ b.toks)
  | .var n => [.inl 5, .inr n.cps.toList]
def Fm.lt (a b : Fm) : Bool := PyProof.Rows.lexLt itemOrd a.toks b.toks
theorem lex_ii {i j : Int} {l m : Tk} (h : i ≠ j) : PyProof.Rows.lexLt itemOrd (.inl i :: l) (.inl j :: m) = decide (i < j) := lex_diff (O := itemOrd) (fun e => h (Sum.inl.inj e))
theorem lex_same (x : Int ⊕ List Nat) (l m : Tk) : PyProof.Rows.lexLt itemOrd (x :: l) (x :: m) = PyProof.Rows.lexLt itemOrd l m := lex_self (O := itemOrd) x l m
theorem lex_ss {x y : List Nat} (h : x ≠ y) (l m : Tk) : PyProof.Rows.lexLt itemOrd (.inr x :: l) (.inr y :: m) = PyProof.Rows.lexLt itemOrd [.inr x] [.inr y] :=
  (lex_diff (O := itemOrd) (fun e => h (Sum.inr.inj e))).trans (lex_diff (O := itemOrd) (fun e => h (Sum.inr.inj e))).symm
theorem toks_app : ∀ (a b : Fm) (l m : Tk), PyProof.Rows.lexLt itemOrd (a.toks ++ l) (b.toks ++ m) = if a = b then PyProof.Rows.lexLt itemOrd l m else a.lt b := by
  intro a
  induction a with
  | and a1 a2 ih1 ih2 =>
    intro b l m
    cases b with
    | and b1 b2 =>
      show PyProof.Rows.lexLt itemOrd (.inl 0 :: ((a1.toks ++ a2.toks) ++ l)) (.inl 0 :: ((b1.toks ++ b2.toks) ++ m)) = _
      have e2 : Fm.lt (.and a1 a2) (.and b1 b2) = if a1 = b1 then a2.lt b2 else a1.lt b1 := (lex_same _ _ _).trans (ih1 b1 a2.toks b2.toks)
      rw [lex_same, List.append_assoc, List.append_assoc, ih1, ih2, e2]
      by_cases h1 : a1 = b1
      · by_cases h2 : a2 = b2
        · subst h1 h2; simp
        · subst h1; simp [h2]
      · simp [h1]
    | box b1 => exact (lex_ii (by decide)).trans (by rw [if_neg (by simp)]; exact (lex_ii (by decide)).symm)
    | fal => exact (lex_ii (by decide)).trans (by rw [if_neg (by simp)]; exact (lex_ii (by decide)).symm)
    | imp b1 b2 => exact (lex_ii (by decide)).trans (by rw [if_neg (by simp)]; exact (lex_ii (by decide)).symm)
    | or b1 b2 => exact (lex_ii (by decide)).trans (by rw [if_neg (by simp)]; exact (lex_ii (by decide)).symm)
    | var n => exact (lex_ii (by decide)).trans (by rw [if_neg (by simp)]; exact (lex_ii (by decide)).symm)
  | or a1 a2 ih1 ih2 =>
    intro b l m
    cases b with
    | or b1 b2 =>
      show PyProof.Rows.lexLt itemOrd (.inl 4 :: ((a1.toks ++ a2.toks) ++ l)) (.inl 4 :: ((b1.toks ++ b2.toks) ++ m)) = _
      have e2 : Fm.lt (.or a1 a2) (.or b1 b2) = if a1 = b1 then a2.lt b2 else a1.lt b1 := (lex_same _ _ _).trans (ih1 b1 a2.toks b2.toks)
      rw [lex_same, List.append_assoc, List.append_assoc, ih1, ih2, e2]
      by_cases h1 : a1 = b1
      · by_cases h2 : a2 = b2
        · subst h1 h2; simp
        · subst h1; simp [h2]
      · simp [h1]
    | box b1 => exact (lex_ii (by decide)).trans (by rw [if_neg (by simp)]; exact (lex_ii (by decide)).symm)
    | fal => exact (lex_ii (by decide)).trans (by rw [if_neg (by simp)]; exact (lex_ii (by decide)).symm)
    | imp b1 b2 => exact (lex_ii (by decide)).trans (by rw [if_neg (by simp)]; exact (lex_ii (by decide)).symm)
    | and b1 b2 => exact (lex_ii (by decide)).trans (by rw [if_neg (by simp)]; exact (lex_ii (by decide)).symm)
    | var n => exact (lex_ii (by decide)).trans (by rw [if_neg (by simp)]; exact (lex_ii (by decide)).symm)
  | imp a1 a2 ih1 ih2 =>
    intro b l m
    cases b with
    | imp b1 b2 =>
      show PyProof.Rows.lexLt itemOrd (.inl 3 :: ((a1.toks ++ a2.toks) ++ l)) (.inl 3 :: ((b1.toks ++ b2.toks) ++ m)) = _
      have e2 : Fm.lt (.imp a1 a2) (.imp b1 b2) = if a1 = b1 then a2.lt b2 else a1.lt b1 := (lex_same _ _ _).trans (ih1 b1 a2.toks b2.toks)
      rw [lex_same, List.append_assoc, List.append_assoc, ih1, ih2, e2]
      by_cases h1 : a1 = b1
      · by_cases h2 : a2 = b2
        · subst h1 h2; simp
        · subst h1; simp [h2]
      · simp [h1]
    | box b1 => exact (lex_ii (by decide)).trans (by rw [if_neg (by simp)]; exact (lex_ii (by decide)).symm)
    | fal => exact (lex_ii (by decide)).trans (by rw [if_neg (by simp)]; exact (lex_ii (by decide)).symm)
    | or b1 b2 => exact (lex_ii (by decide)).trans (by rw [if_neg (by simp)]; exact (lex_ii (by decide)).symm)
    | and b1 b2 => exact (lex_ii (by decide)).trans (by rw [if_neg (by simp)]; exact (lex_ii (by decide)).symm)
    | var n => exact (lex_ii (by decide)).trans (by rw [if_neg (by simp)]; exact (lex_ii (by decide)).symm)
  | box a1 ih1 =>
    intro b l m
    cases b with
    | box b1 =>
      show PyProof.Rows.lexLt itemOrd (.inl 1 :: (a1.toks ++ l)) (.inl 1 :: (b1.toks ++ m)) = _
      have e2 : Fm.lt (.box a1) (.box b1) = a1.lt b1 := lex_same _ _ _
      rw [lex_same, ih1, e2]
      by_cases h1 : a1 = b1
      · subst h1; simp
      · simp [h1]
    | and b1 b2 => exact (lex_ii (by decide)).trans (by rw [if_neg (by simp)]; exact (lex_ii (by decide)).symm)
    | fal => exact (lex_ii (by decide)).trans (by rw [if_neg (by simp)]; exact (lex_ii (by decide)).symm)
    | imp b1 b2 => exact (lex_ii (by decide)).trans (by rw [if_neg (by simp)]; exact (lex_ii (by decide)).symm)
    | or b1 b2 => exact (lex_ii (by decide)).trans (by rw [if_neg (by simp)]; exact (lex_ii (by decide)).symm)
    | var n => exact (lex_ii (by decide)).trans (by rw [if_neg (by simp)]; exact (lex_ii (by decide)).symm)
  | fal =>
    intro b l m
    cases b with
    | fal => rw [if_pos rfl]; exact lex_same _ _ _
    | and b1 b2 => exact (lex_ii (by decide)).trans (by rw [if_neg (by simp)]; exact (lex_ii (by decide)).symm)
    | box b1 => exact (lex_ii (by decide)).trans (by rw [if_neg (by simp)]; exact (lex_ii (by decide)).symm)
    | imp b1 b2 => exact (lex_ii (by decide)).trans (by rw [if_neg (by simp)]; exact (lex_ii (by decide)).symm)
    | or b1 b2 => exact (lex_ii (by decide)).trans (by rw [if_neg (by simp)]; exact (lex_ii (by decide)).symm)
    | var n => exact (lex_ii (by decide)).trans (by rw [if_neg (by simp)]; exact (lex_ii (by decide)).symm)
  | var n =>
    intro b l m
    cases b with
    | var k =>
      show PyProof.Rows.lexLt itemOrd (.inl 5 :: .inr n.cps.toList :: l) (.inl 5 :: .inr k.cps.toList :: m) = _
      rw [lex_same]
      by_cases h1 : n = k
      · subst h1
        rw [lex_same, if_pos rfl]
      · have hn : n.cps.toList ≠ k.cps.toList := fun e => h1 (PySem.W.str_of_cps e)
        rw [lex_ss hn, if_neg (by simp [h1])]
        exact (lex_same _ _ _).symm
    | and b1 b2 => exact (lex_ii (by decide)).trans (by rw [if_neg (by simp)]; exact (lex_ii (by decide)).symm)
    | box b1 => exact (lex_ii (by decide)).trans (by rw [if_neg (by simp)]; exact (lex_ii (by decide)).symm)
    | fal => exact (lex_ii (by decide)).trans (by rw [if_neg (by simp)]; exact (lex_ii (by decide)).symm)
    | imp b1 b2 => exact (lex_ii (by decide)).trans (by rw [if_neg (by simp)]; exact (lex_ii (by decide)).symm)
    | or b1 b2 => exact (lex_ii (by decide)).trans (by rw [if_neg (by simp)]; exact (lex_ii (by decide)).symm)
theorem toks_inj {a b : Fm} (h : a.toks = b.toks) : a = b := by
  have e := toks_app a b [] [.inl 0]
  rw [List.append_nil] at e
  by_cases hab : a = b
  · exact hab
  · have e2 := toks_app a b [] []
    rw [List.append_nil, List.append_nil, if_neg hab] at e2
    rw [if_neg hab, ← e2, h, lex_irrefl] at e
    have : PyProof.Rows.lexLt itemOrd b.toks (b.toks ++ [.inl 0]) = true := by
      have e3 := PySem.W.lex_pre b.toks [] [.inl 0]
      rw [List.append_nil] at e3
      rw [e3]
      rfl
    rw [this] at e
    cases e
theorem Fm.lt_irrefl (a : Fm) : a.lt a = false := lex_irrefl _
theorem Fm.lt_trans {a b c : Fm} (h1 : a.lt b = true) (h2 : b.lt c = true) : a.lt c = true := lex_trans _ _ _ h1 h2
theorem Fm.lt_total {a b : Fm} (h1 : a.lt b = false) (h2 : b.lt a = false) : a = b := toks_inj (lex_total _ _ h1 h2)
theorem Fm.lt_asymm {a b : Fm} (h : a.lt b = true) : b.lt a = false := by
  cases e : b.lt a with
  | false => rfl
  | true =>
    have := Fm.lt_trans h e
    rw [Fm.lt_irrefl] at this
    cases this
end E

set_option Elab.async false
set_option linter.all false
set_option maxRecDepth 100000
set_option maxHeartbeats 4000000
namespace ELt
open PySem PySem.SeqAt
open PySem.AutoSeq1 (wpAny_loadPart')
open PySem.MeetsSeq PySem.MeetsSeq2 PySem.MeetsSeq3 PySem.SeqRoads2
/-- item by item: where two items differ for the first time, their own < gives k; where none do, the lengths -/
inductive TupLt (A : Around) (s : Shared) (fin k : Bool) : List (Value × Value) → Prop
  | nil : fin = k → TupLt A s fin k []
  | yes {p q : Value} {r : List (Value × Value)} : EqAt A s p q true → TupLt A s fin k r → TupLt A s fin k ((p, q) :: r)
  | no {p q : Value} {r : List (Value × Value)} : EqAt A s p q false → RcLt A s p q k → TupLt A s fin k ((p, q) :: r)
theorem tup_seq (l b : Addr) (xs ys : Array Value) (n m : Nat) (dd de : Option Addr) (sl sm : Array (Option Value)) (k : Bool) :
    Meets (Builtin.«tuple.__lt__» ⟨[.ref l, .ref b], []⟩)
      (fun A R s => s.heap.get? l = some ⟨.type "tuple", dd, .seq xs n, sl⟩ ∧ s.heap.get? b = some ⟨.type "tuple", de, .seq ys m, sm⟩ ∧
        TupLt A.in1 s (decide (xs.size < ys.size)) k (xs.toList.zip ys.toList) ∧ R (.ok (.ret (.bool k))) s) :=
  .of_wp fun prog w A R s h => by
    obtain ⟨hp, g, d, tk, os⟩ := s
    obtain ⟨hl, hb, ht, hR⟩ := h
    have sub := AutoSeq1.sub_tuple_tuple
    wp_walk using wpAny_loadPart' hl, wpAny_loadPart' hb, wpAny_forIn_list _ (fun rest c t => c.1 = none ∧ t = ⟨hp, g, d, tk, os⟩ ∧ TupLt A.in1 ⟨hp, g, d, tk, os⟩ (decide (xs.size < ys.size)) k rest) _
    case turn =>
      rintro ⟨y, x⟩ rest c t ⟨_, rfl, tl⟩
      cases tl with
      | yes e tl =>
        refine wpAny_bind (e prog w _ _ ?_)
        wp_walk
        exact ⟨rfl, rfl, tl⟩
      | no e lt =>
        refine wpAny_bind (e prog w _ _ ?_)
        simp only [Bool.not_false, if_true]
        refine wpAny_bind (wpAny_rule (wpAny_bind (lt prog w _ _ ?_)))
        wp_walk
        exact ⟨_, rfl, hR⟩
    case fin =>
      rintro ⟨c1, c2⟩ t ⟨hc, rfl, tl⟩
      simp only at hc
      subst hc
      cases tl with
      | nil e =>
        wp_walk
        exact ⟨_, rfl, by rw [← e] at hR; simpa [Builtin.Tuple.tupleCompareSizes] using hR⟩
    case h => exact ⟨rfl, rfl, ht⟩
theorem rc_tups {A : Around} {s : Shared} {l b : Addr} {xs ys : Array Value} {k : Bool} (hl : s.heap.IsTuple l xs) (hb : s.heap.IsTuple b ys) (hu : A.units < cLine) (ht : TupLt A.in1 s (decide (xs.size < ys.size)) k (xs.toList.zip ys.toList)) : RcLt A s (.ref l) (.ref b) k := fun prog w E Q h => by
  obtain ⟨⟨c1, dd, d1, sl⟩, ho, hc, n, hd⟩ := id hl
  obtain ⟨⟨c2, de, d2, sm⟩, ho2, hc2, m, hd2⟩ := id hb
  simp only at hc hd hc2 hd2
  subst hc hd hc2 hd2
  exact richCompare_meets_room (op := .Lt) ⟨_, ho, rfl⟩ ⟨_, ho2, rfl⟩ F.slot_tuple_lt F.entry_tuple_lt (F.args_tuple_lt_2 _ _) (tup_seq l b xs ys n m dd de sl sm k)
    ⟨ho, ho2, ht, show Value.bool k ≠ Value.notImplemented ∧ Q (.bool k) s from ⟨(fun x => nomatch x), h⟩⟩ hu
end ELt

set_option Elab.async false
set_option linter.all false
set_option maxRecDepth 100000
set_option maxHeartbeats 4000000
namespace E
open PySem PySem.Spec PyProof.Rows L2
/-! ### the signs -/
def Fm.rk : Fm → Fin 6
  | .and _ _ => 0
  | .box _ => 1
  | .fal => 2
  | .imp _ _ => 3
  | .or _ _ => 4
  | .var _ => 5
def sgT : Fin 6 → Str
  | 0 => "and"
  | 1 => "box"
  | 2 => "falsum"
  | 3 => "implies"
  | 4 => "or"
  | 5 => "var"
def Fm.sg (f : Fm) : Str := sgT f.rk
theorem sgT_ne : ∀ i j : Fin 6, i ≠ j → (sgT i == sgT j) = false := by decide +kernel
theorem sgT_lt : ∀ i j : Fin 6, decide ((sgT i).cps.toList < (sgT j).cps.toList) = decide ((i.val : Int) < (j.val : Int)) := by decide +kernel
def Fm.pts : Fm → List PyData
  | .and a b => [a.d, b.d]
  | .box a => [a.d]
  | .fal => []
  | .imp a b => [a.d, b.d]
  | .or a b => [a.d, b.d]
  | .var n => [.str n]
theorem Fm.d_eq (f : Fm) : f.d = .tuple (.str f.sg :: f.pts) := by cases f <;> rfl
theorem toks_head (f : Fm) : ∃ r, f.toks = .inl (f.rk.val : Int) :: r := by cases f <;> exact ⟨_, rfl⟩
theorem lt_rk {f g : Fm} (h : f.rk ≠ g.rk) : f.lt g = decide ((f.rk.val : Int) < (g.rk.val : Int)) := by
  obtain ⟨r, e⟩ := toks_head f
  obtain ⟨t, e2⟩ := toks_head g
  unfold Fm.lt
  rw [e, e2]
  exact lex_ii fun e => h (Fin.ext (Int.ofNat.inj e))
theorem lt_and (a b c d : Fm) : Fm.lt (.and a b) (.and c d) = if a = c then b.lt d else a.lt c := (lex_same _ _ _).trans (toks_app a c b.toks d.toks)
theorem lt_or (a b c d : Fm) : Fm.lt (.or a b) (.or c d) = if a = c then b.lt d else a.lt c := (lex_same _ _ _).trans (toks_app a c b.toks d.toks)
theorem lt_imp (a b c d : Fm) : Fm.lt (.imp a b) (.imp c d) = if a = c then b.lt d else a.lt c := (lex_same _ _ _).trans (toks_app a c b.toks d.toks)
theorem lt_box (a c : Fm) : Fm.lt (.box a) (.box c) = a.lt c := lex_same _ _ _
theorem lt_var (n m : Str) : Fm.lt (.var n) (.var m) = decide (n.cps.toList < m.cps.toList) := (lex_same _ _ _).trans (PySem.W.lex_one _ _)
theorem streq {x y : Str} : (x == y) = decide (x = y) := by
  rw [Bool.eq_iff_iff, decide_eq_true_iff]
  exact beq_iff_eq
theorem eqv_tup (x y : Str) (ds es : List PyData) : PyData.eqv (.tuple (.str x :: ds)) (.tuple (.str y :: es)) = ((x == y) && PyData.eqvAll ds es) := by
  rw [PyData.eqv, PyData.eqvAll, PyData.eqv]
theorem eqvAll2 (a b c d : PyData) : PyData.eqvAll [a, b] [c, d] = (PyData.eqv a c && PyData.eqv b d) := by
  rw [PyData.eqvAll, PyData.eqvAll, PyData.eqvAll, Bool.and_true]
theorem eqvAll1 (a c : PyData) : PyData.eqvAll [a] [c] = PyData.eqv a c := by
  rw [PyData.eqvAll, PyData.eqvAll, Bool.and_true]
/-- == of formulas as data -/
theorem Fm.eqv : ∀ f g : Fm, PyData.eqv f.d g.d = decide (f = g) := by
  intro f
  induction f with
  | and a b iha ihb =>
    intro g
    cases g with
    | and c d =>
      rw [Fm.d_eq, Fm.d_eq, eqv_tup, show ((Fm.and a b).sg == (Fm.and c d).sg) = true from beq_self_eq_true _, Bool.true_and]
      show PyData.eqvAll [a.d, b.d] [c.d, d.d] = _
      rw [eqvAll2, iha, ihb, ← Bool.decide_and]
      exact decide_eq_decide.mpr (by rw [Fm.and.injEq])
    | _ => rw [Fm.d_eq, Fm.d_eq, eqv_tup, show ∀ x y : Fm, x.rk ≠ y.rk → (x.sg == y.sg) = false from fun x y h => sgT_ne _ _ h, Bool.false_and, decide_eq_false (by simp)]; intro e; simp [Fm.rk] at e
  | or a b iha ihb =>
    intro g
    cases g with
    | or c d =>
      rw [Fm.d_eq, Fm.d_eq, eqv_tup, show ((Fm.or a b).sg == (Fm.or c d).sg) = true from beq_self_eq_true _, Bool.true_and]
      show PyData.eqvAll [a.d, b.d] [c.d, d.d] = _
      rw [eqvAll2, iha, ihb, ← Bool.decide_and]
      exact decide_eq_decide.mpr (by rw [Fm.or.injEq])
    | _ => rw [Fm.d_eq, Fm.d_eq, eqv_tup, show ∀ x y : Fm, x.rk ≠ y.rk → (x.sg == y.sg) = false from fun x y h => sgT_ne _ _ h, Bool.false_and, decide_eq_false (by simp)]; intro e; simp [Fm.rk] at e
  | imp a b iha ihb =>
    intro g
    cases g with
    | imp c d =>
      rw [Fm.d_eq, Fm.d_eq, eqv_tup, show ((Fm.imp a b).sg == (Fm.imp c d).sg) = true from beq_self_eq_true _, Bool.true_and]
      show PyData.eqvAll [a.d, b.d] [c.d, d.d] = _
      rw [eqvAll2, iha, ihb, ← Bool.decide_and]
      exact decide_eq_decide.mpr (by rw [Fm.imp.injEq])
    | _ => rw [Fm.d_eq, Fm.d_eq, eqv_tup, show ∀ x y : Fm, x.rk ≠ y.rk → (x.sg == y.sg) = false from fun x y h => sgT_ne _ _ h, Bool.false_and, decide_eq_false (by simp)]; intro e; simp [Fm.rk] at e
  | box a iha =>
    intro g
    cases g with
    | box c =>
      rw [Fm.d_eq, Fm.d_eq, eqv_tup, show ((Fm.box a).sg == (Fm.box c).sg) = true from beq_self_eq_true _, Bool.true_and]
      show PyData.eqvAll [a.d] [c.d] = _
      rw [eqvAll1, iha]
      exact decide_eq_decide.mpr (by rw [Fm.box.injEq])
    | _ => rw [Fm.d_eq, Fm.d_eq, eqv_tup, show ∀ x y : Fm, x.rk ≠ y.rk → (x.sg == y.sg) = false from fun x y h => sgT_ne _ _ h, Bool.false_and, decide_eq_false (by simp)]; intro e; simp [Fm.rk] at e
  | fal =>
    intro g
    cases g with
    | fal => rw [decide_eq_true rfl]; rfl
    | _ => rw [Fm.d_eq, Fm.d_eq, eqv_tup, show ∀ x y : Fm, x.rk ≠ y.rk → (x.sg == y.sg) = false from fun x y h => sgT_ne _ _ h, Bool.false_and, decide_eq_false (by simp)]; intro e; simp [Fm.rk] at e
  | var n =>
    intro g
    cases g with
    | var m =>
      rw [Fm.d_eq, Fm.d_eq, eqv_tup, show ((Fm.var n).sg == (Fm.var m).sg) = true from beq_self_eq_true _, Bool.true_and]
      show PyData.eqvAll [.str n] [.str m] = _
      rw [eqvAll1, PyData.eqv, streq]
      exact decide_eq_decide.mpr (by rw [Fm.var.injEq])
    | _ => rw [Fm.d_eq, Fm.d_eq, eqv_tup, show ∀ x y : Fm, x.rk ≠ y.rk → (x.sg == y.sg) = false from fun x y h => sgT_ne _ _ h, Bool.false_and, decide_eq_false (by simp)]; intro e; simp [Fm.rk] at e
end E

set_option Elab.async false
set_option linter.all false
set_option maxRecDepth 100000
set_option maxHeartbeats 4000000
namespace E
open PySem PySem.Spec PyProof.Rows L2 PySem.SeqAt ELt
/-! ### the model's own < of formulas -/
theorem rd_items {h : Heap} {v : Value} {f : Fm} {as : List Addr} (r : Reads h v f.d as) : ∃ (l : Addr) (o : Obj) (vs : Array Value) (n : Nat) (t : Tok) (ws : List Value) (bs : List Addr), v = .ref l ∧ h.get? l = some o ∧ o.cls = .type "tuple" ∧ o.data = .seq vs n ∧ vs.toList = .str f.sg t :: ws ∧ ReadsAll h ws f.pts bs := by
  rw [Fm.d_eq] at r
  generalize f.sg = sg at r
  cases r with
  | @tuple l o vs n _ _ h1 h2 h3 h4 =>
    generalize hv : vs.toList = vl at h4
    cases h4 with
    | @cons w ws _ _ as bs r1 r2 =>
      cases r1 with
      | str _ t => exact ⟨l, o, vs, n, t, ws, bs, rfl, h1, h2, h3, hv, r2⟩
theorem eq_fm {h : Heap} {A : Around} {s : Shared} (hs : s.heap = h) {f g : Fm} {v u : Value} {as bs : List Addr} (rv : Reads h v f.d as) (ru : Reads h u g.d bs) (lf : f.d.canLay0 = true) (lg : g.d.canLay0 = true) (hu : A.units + min f.ht g.ht < cLine) : EqAt A s v u (decide (f = g)) := by
  subst hs
  rw [← Fm.eqv]
  exact eqAt_reads f.d g.d A s v u as bs rv ru lf lg (by rw [Fm.depth, Fm.depth]; exact hu)
theorem size_of {vs : Array Value} {l : List Value} (h : vs.toList = l) : vs.size = l.length := by rw [← h, Array.length_toList]
/-- the items behind the signs, in order -/
theorem seq_pts : ∀ (f g : Fm), f.rk = g.rk → ∀ (A : Around) (s : Shared) (ws us : List Value) (as bs : List Addr), ReadsAll s.heap ws f.pts as → ReadsAll s.heap us g.pts bs → f.d.canLay0 = true → g.d.canLay0 = true → A.units + min f.ht g.ht < cLine + 1 →
    (∀ (f' g' : Fm) (v u : Value) (cs ds : List Addr), f'.ht < f.ht → Reads s.heap v f'.d cs → Reads s.heap u g'.d ds → f'.d.canLay0 = true → g'.d.canLay0 = true → A.units + min f'.ht g'.ht < cLine → RcLt A s v u (f'.lt g')) →
    TupLt A s false (f.lt g) (ws.zip us) := by
  intro f g hk A s ws us as bs rw_ ru lf lg hu ih
  have two : ∀ (a b c d : Fm) (k : Bool), k = (if a = c then b.lt d else a.lt c) → a.ht < f.ht → b.ht < f.ht → a.d.canLay0 = true → b.d.canLay0 = true → c.d.canLay0 = true → d.d.canLay0 = true → A.units + min a.ht c.ht < cLine → A.units + min b.ht d.ht < cLine →
      ReadsAll s.heap ws [a.d, b.d] as → ReadsAll s.heap us [c.d, d.d] bs → TupLt A s false k (ws.zip us) := by
    intro a b c d k ek ha hb la lb lc ld h1 h2 r1 r2
    cases r1 with
    | cons p1 q1 =>
      cases q1 with
      | cons p2 q2 =>
        cases q2
        cases r2 with
        | cons p3 q3 =>
          cases q3 with
          | cons p4 q4 =>
            cases q4
            by_cases e1 : a = c
            · rw [if_pos e1] at ek
              have t1 := eq_fm (A := A) (s := s) rfl p1 p3 la lc h1
              rw [decide_eq_true e1] at t1
              refine .yes t1 ?_
              have t2 := eq_fm (A := A) (s := s) rfl p2 p4 lb ld h2
              by_cases e2 : b = d
              · rw [decide_eq_true e2] at t2
                subst e2
                rw [Fm.lt_irrefl] at ek
                exact .yes t2 (.nil ek.symm)
              · rw [decide_eq_false e2] at t2
                rw [ek]
                exact .no t2 (ih b d _ _ _ _ hb p2 p4 lb ld h2)
            · rw [if_neg e1] at ek
              have t1 := eq_fm (A := A) (s := s) rfl p1 p3 la lc h1
              rw [decide_eq_false e1] at t1
              rw [ek]
              exact .no t1 (ih a c _ _ _ _ ha p1 p3 la lc h1)
  have lay2 : ∀ {sg : Str} {a b : Fm}, PyData.canLay0 (.tuple [.str sg, a.d, b.d]) = true → a.d.canLay0 = true ∧ b.d.canLay0 = true := by
    intro sg a b h
    simp only [PyData.canLay0, PyData.canLayAll0, Bool.and_eq_true] at h
    exact ⟨h.2.1, h.2.2.1⟩
  cases f with
  | and a b =>
    cases g with
    | and c d =>
      have hu' : A.units + min (max a.ht b.ht + 1) (max c.ht d.ht + 1) < cLine + 1 := hu
      exact two a b c d _ (lt_and a b c d) (by show _ < max a.ht b.ht + 1; omega) (by show _ < max a.ht b.ht + 1; omega) (lay2 lf).1 (lay2 lf).2 (lay2 lg).1 (lay2 lg).2 (by omega) (by omega) rw_ ru
    | _ => exact absurd hk (by simp [Fm.rk])
  | or a b =>
    cases g with
    | or c d =>
      have hu' : A.units + min (max a.ht b.ht + 1) (max c.ht d.ht + 1) < cLine + 1 := hu
      exact two a b c d _ (lt_or a b c d) (by show _ < max a.ht b.ht + 1; omega) (by show _ < max a.ht b.ht + 1; omega) (lay2 lf).1 (lay2 lf).2 (lay2 lg).1 (lay2 lg).2 (by omega) (by omega) rw_ ru
    | _ => exact absurd hk (by simp [Fm.rk])
  | imp a b =>
    cases g with
    | imp c d =>
      have hu' : A.units + min (max a.ht b.ht + 1) (max c.ht d.ht + 1) < cLine + 1 := hu
      exact two a b c d _ (lt_imp a b c d) (by show _ < max a.ht b.ht + 1; omega) (by show _ < max a.ht b.ht + 1; omega) (lay2 lf).1 (lay2 lf).2 (lay2 lg).1 (lay2 lg).2 (by omega) (by omega) rw_ ru
    | _ => exact absurd hk (by simp [Fm.rk])
  | box a =>
    cases g with
    | box c =>
      have hu' : A.units + min (a.ht + 1) (c.ht + 1) < cLine + 1 := hu
      have la : a.d.canLay0 = true := by
        have h : PyData.canLay0 (.tuple [.str "box", a.d]) = true := lf
        simp only [PyData.canLay0, PyData.canLayAll0, Bool.and_eq_true] at h
        exact h.2.1
      have lc : c.d.canLay0 = true := by
        have h : PyData.canLay0 (.tuple [.str "box", c.d]) = true := lg
        simp only [PyData.canLay0, PyData.canLayAll0, Bool.and_eq_true] at h
        exact h.2.1
      rw [lt_box]
      cases rw_ with
      | cons p1 q1 =>
        cases q1
        cases ru with
        | cons p3 q3 =>
          cases q3
          have t1 := eq_fm (A := A) (s := s) rfl p1 p3 la lc (by omega)
          by_cases e1 : a = c
          · rw [decide_eq_true e1] at t1
            subst e1
            exact .yes t1 (.nil (Fm.lt_irrefl a).symm)
          · rw [decide_eq_false e1] at t1
            exact .no t1 (ih a c _ _ _ _ (Nat.lt_succ_self _) p1 p3 la lc (by omega))
    | _ => exact absurd hk (by simp [Fm.rk])
  | fal =>
    cases g with
    | fal =>
      cases rw_
      cases ru
      exact .nil (Fm.lt_irrefl _).symm
    | _ => exact absurd hk (by simp [Fm.rk])
  | var n =>
    cases g with
    | var m =>
      rw [lt_var]
      cases rw_ with
      | cons p1 q1 =>
        cases q1
        cases ru with
        | cons p3 q3 =>
          cases q3
          cases p1 with
          | str _ t =>
            cases p3 with
            | str _ t2 =>
              have t1 := EqAt.str_str (A := A) (s := s) n t m t2
              by_cases e1 : n = m
              · subst e1
                rw [beq_self_eq_true] at t1
                exact .yes t1 (.nil (decide_eq_false (List.lt_irrefl _)).symm)
              · rw [streq, decide_eq_false e1] at t1
                exact .no t1 fun prog w E Q hq => P.lt_str hq
    | _ => exact absurd hk (by simp [Fm.rk])
theorem rc_fm : ∀ (n : Nat) (f g : Fm) (A : Around) (s : Shared) (v u : Value) (as bs : List Addr), f.ht ≤ n → Reads s.heap v f.d as → Reads s.heap u g.d bs → f.d.canLay0 = true → g.d.canLay0 = true → A.units + min f.ht g.ht < cLine → RcLt A s v u (f.lt g)
  | 0, f, _, _, _, _, _, _, _, h, _, _, _, _, _ => absurd (Fm.ht_pos f) (by omega)
  | n + 1, f, g, A, s, v, u, as, bs, hn, rv, ru, lf, lg, hu => by
    obtain ⟨l, o, vs, k, t, ws, cs, rfl, h1, h2, h3, h4, h5⟩ := rd_items rv
    obtain ⟨l', o', vs', k', t', ws', cs', rfl, k1, k2, k3, k4, k5⟩ := rd_items ru
    refine rc_tups ⟨o, h1, h2, k, h3⟩ ⟨o', k1, k2, k', k3⟩ (Nat.lt_of_le_of_lt (Nat.le_add_right _ _) hu) ?_
    rw [h4, k4, List.zip_cons_cons]
    have t1 := EqAt.str_str (A := A.in1) (s := s) f.sg t g.sg t'
    by_cases hk : f.rk = g.rk
    · rw [show f.sg = g.sg from congrArg sgT hk] at t1 ⊢
      rw [beq_self_eq_true] at t1
      refine .yes t1 ?_
      have hsz : decide (vs.size < vs'.size) = false := by
        rw [size_of h4, size_of k4, List.length_cons, List.length_cons, SeqAt.ReadsAll.length _ _ _ h5, SeqAt.ReadsAll.length _ _ _ k5]
        have : f.pts.length = g.pts.length := by
          cases f <;> cases g <;> first | rfl | exact absurd hk (by simp [Fm.rk])
        rw [this]
        exact decide_eq_false (Nat.lt_irrefl _)
      rw [hsz]
      exact seq_pts f g hk A.in1 s ws ws' cs cs' h5 k5 lf lg (by show A.units + 1 + _ < _; omega) fun f' g' v u cs ds hf r1 r2 l1 l2 hu' => rc_fm n f' g' A.in1 s v u cs ds (by omega) r1 r2 l1 l2 hu'
    · rw [show (f.sg == g.sg) = false from sgT_ne _ _ hk] at t1
      refine .no t1 fun prog w E Q hq => ?_
      rw [lt_rk hk, ← sgT_lt] at hq
      exact P.lt_str hq
end E

set_option Elab.async false
set_option linter.all false
set_option maxRecDepth 100000
set_option maxHeartbeats 4000000
namespace E
open PySem PySem.Spec PyProof.Rows L2 PySem.SeqAt ELt PySem.W PySem.Calls
/-! ### sorting formulas -/
theorem sgT_inj {i j : Fin 6} (h : sgT i = sgT j) : i = j := by
  by_cases e : i = j
  · exact e
  · have := sgT_ne i j e
    rw [h, beq_self_eq_true] at this
    cases this
theorem rd_head {h : Heap} {f g : Fm} {v : Value} {as bs : List Addr} (r1 : Reads h v f.d as) (r2 : Reads h v g.d bs) : f.rk = g.rk ∧ ∃ (ws : List Value) (cs ds : List Addr), ReadsAll h ws f.pts cs ∧ ReadsAll h ws g.pts ds := by
  obtain ⟨l, o, vs, k, t, ws, cs, rfl, h1, h2, h3, h4, h5⟩ := rd_items r1
  obtain ⟨l', o', vs', k', t', ws', cs', e, k1, k2, k3, k4, k5⟩ := rd_items r2
  cases e
  rw [h1] at k1
  cases k1
  rw [h3] at k3
  cases k3
  rw [h4] at k4
  obtain ⟨e1, e2⟩ := List.cons.inj k4
  have e3 : f.sg = g.sg := by injection e1
  subst e2
  exact ⟨sgT_inj e3, ws, cs, cs', h5, k5⟩
theorem rd_two {h : Heap} {ws : List Value} {a b c d : PyData} {as bs : List Addr} (r1 : ReadsAll h ws [a, b] as) (r2 : ReadsAll h ws [c, d] bs) : ∃ (v u : Value) (x y z w : List Addr), Reads h v a x ∧ Reads h v c y ∧ Reads h u b z ∧ Reads h u d w := by
  cases r1 with
  | cons p1 q1 =>
    cases q1 with
    | cons p2 q1 =>
      cases r2 with
      | cons p3 q2 =>
        cases q2 with
        | cons p4 q2 => exact ⟨_, _, _, _, _, _, p1, p3, p2, p4⟩
theorem rd_one {h : Heap} {ws : List Value} {a c : PyData} {as bs : List Addr} (r1 : ReadsAll h ws [a] as) (r2 : ReadsAll h ws [c] bs) : ∃ (v : Value) (x y : List Addr), Reads h v a x ∧ Reads h v c y := by
  cases r1 with
  | cons p1 q1 =>
    cases r2 with
    | cons p3 q2 => exact ⟨_, _, _, p1, p3⟩
theorem rd_uniq {h : Heap} : ∀ (f g : Fm) (v : Value) (as bs : List Addr), Reads h v f.d as → Reads h v g.d bs → f = g := by
  intro f
  induction f with
  | and a b iha ihb =>
    intro g v as bs r1 r2
    obtain ⟨hk, ws, cs, ds, q1, q2⟩ := rd_head r1 r2
    cases g with
    | and c d =>
      obtain ⟨_, _, _, _, _, _, p1, p2, p3, p4⟩ := rd_two q1 q2
      rw [iha c _ _ _ p1 p2, ihb d _ _ _ p3 p4]
    | _ => exact absurd hk (by simp [Fm.rk])
  | or a b iha ihb =>
    intro g v as bs r1 r2
    obtain ⟨hk, ws, cs, ds, q1, q2⟩ := rd_head r1 r2
    cases g with
    | or c d =>
      obtain ⟨_, _, _, _, _, _, p1, p2, p3, p4⟩ := rd_two q1 q2
      rw [iha c _ _ _ p1 p2, ihb d _ _ _ p3 p4]
    | _ => exact absurd hk (by simp [Fm.rk])
  | imp a b iha ihb =>
    intro g v as bs r1 r2
    obtain ⟨hk, ws, cs, ds, q1, q2⟩ := rd_head r1 r2
    cases g with
    | imp c d =>
      obtain ⟨_, _, _, _, _, _, p1, p2, p3, p4⟩ := rd_two q1 q2
      rw [iha c _ _ _ p1 p2, ihb d _ _ _ p3 p4]
    | _ => exact absurd hk (by simp [Fm.rk])
  | box a iha =>
    intro g v as bs r1 r2
    obtain ⟨hk, ws, cs, ds, q1, q2⟩ := rd_head r1 r2
    cases g with
    | box c =>
      obtain ⟨_, _, _, p1, p2⟩ := rd_one q1 q2
      rw [iha c _ _ _ p1 p2]
    | _ => exact absurd hk (by simp [Fm.rk])
  | fal =>
    intro g v as bs r1 r2
    obtain ⟨hk, ws, cs, ds, q1, q2⟩ := rd_head r1 r2
    cases g with
    | fal => rfl
    | _ => exact absurd hk (by simp [Fm.rk])
  | var n =>
    intro g v as bs r1 r2
    obtain ⟨hk, ws, cs, ds, q1, q2⟩ := rd_head r1 r2
    cases g with
    | var m =>
      obtain ⟨_, _, _, p1, p2⟩ := rd_one q1 q2
      cases p1
      cases p2
      rfl
    | _ => exact absurd hk (by simp [Fm.rk])
/-- formulas as keys, read off a heap -/
noncomputable def fmKind (h : Heap) (fs : List Fm) : PyProof.Rows.KeyKind where
  toKeyOrd := listOrd itemOrd
  keyOf v := open Classical in if q : ∃ f, f ∈ fs ∧ ∃ as, Reads h v f.d as then some q.choose.toks else none
  dflt := ([] : Tk)
theorem fmKind_some {h : Heap} {fs : List Fm} {v : Value} {f : Fm} {as : List Addr} (hf : f ∈ fs) (r : Reads h v f.d as) : (fmKind h fs).keyOf v = some f.toks := by
  have q : ∃ f, f ∈ fs ∧ ∃ as, Reads h v f.d as := ⟨f, hf, as, r⟩
  obtain ⟨_, as', h2⟩ := q.choose_spec
  have e : q.choose = f := rd_uniq _ _ _ _ _ h2 r
  show (open Classical in if q : ∃ f, f ∈ fs ∧ ∃ as, Reads h v f.d as then some q.choose.toks else none) = _
  rw [dif_pos q, e]
theorem fmKind_inv {h : Heap} {fs : List Fm} {v : Value} {k : Tk} (e : (fmKind h fs).keyOf v = some k) : ∃ f as, f ∈ fs ∧ Reads h v f.d as ∧ k = f.toks := by
  have e' : (open Classical in if q : ∃ f, f ∈ fs ∧ ∃ as, Reads h v f.d as then some q.choose.toks else none) = some k := e
  by_cases q : ∃ f, f ∈ fs ∧ ∃ as, Reads h v f.d as
  · obtain ⟨h1, as', h2⟩ := q.choose_spec
    rw [dif_pos q] at e'
    exact ⟨_, as', h1, h2, (Option.some.inj e').symm⟩
  · rw [dif_neg q] at e'
    cases e'
section
variable {prog : Program} {w : World} {A : Around} {E : Value → Shared → Prop} {s : Shared}
theorem lex_tail {fin k : Bool} {Q : Bool → Shared → Prop} (hq : Q k s) : ∀ (l : List (Value × Value)) (i : Nat), TupLt A s fin k l → KatLex prog w A true fin Q l (i + 1) s
  | _, _, .nil e => kat_nil (by rw [e]; exact hq)
  | _, i, .yes (r := r) e t => kat_cons (e prog w _ _ (kat_yes (lex_tail hq r (i + 1) t)))
  | _, i, .no e lt => kat_cons (e prog w _ _ (kat_no (by
      show wpAny (model prog w) A (oneLt' (true && (i + 1 == 0)) _ _) Q _ s
      rw [show (true && (i + 1 == 0)) = false from rfl]
      exact kat_one _ _ (lt prog w _ _ hq))))
theorem sorts_fm {vs : List Value} {fs : List Fm} (e : EachIs (fun v f => ∃ as, Reads s.heap v f.d as) vs fs) (hl : ∀ f, f ∈ fs → f.d.canLay0 = true ∧ A.units + f.ht < cLine) : SortsAt prog w A s (fmKind s.heap fs) vs := by
  refine ⟨fun v hv => ?_, tuples' (Value.type "str" != Value.type "tuple"), ?_, fun h2 E Q hq => ?_⟩
  · obtain ⟨f, hf, as, r⟩ := e.left v hv
    exact ⟨_, fmKind_some hf r⟩
  · intro E x y a b Q ha hb hq
    obtain ⟨f, as, hf, rf, rfl⟩ := fmKind_inv ha
    obtain ⟨g, bs, hg, rg, rfl⟩ := fmKind_inv hb
    have hq' : Q (f.lt g) s := hq
    obtain ⟨l, o, vs, k, t, ws, cs, rfl, h1, h2, h3, h4, h5⟩ := rd_items rf
    obtain ⟨l', o', vs', k', t', ws', cs', rfl, k1, k2, k3, k4, k5⟩ := rd_items rg
    have room : A.units + min f.ht g.ht < cLine := by
      have := (hl f hf).2
      omega
    refine kat_lt h1 h3 k1 k3 ?_
    rw [h4, k4, List.zip_cons_cons, show (Value.type "str" != Value.type "tuple") = true by decide]
    have t1 := EqAt.str_str (A := A) (s := s) f.sg t g.sg t'
    by_cases hk : f.rk = g.rk
    · rw [show f.sg = g.sg from congrArg sgT hk] at t1 ⊢
      rw [beq_self_eq_true] at t1
      have hsz : decide (vs.size < vs'.size) = false := by
        rw [size_of h4, size_of k4, List.length_cons, List.length_cons, SeqAt.ReadsAll.length _ _ _ h5, SeqAt.ReadsAll.length _ _ _ k5]
        have : f.pts.length = g.pts.length := by
          cases f <;> cases g <;> first | rfl | exact absurd hk (by simp [Fm.rk])
        rw [this]
        exact decide_eq_false (Nat.lt_irrefl _)
      rw [hsz]
      refine kat_cons (t1 prog w _ _ (kat_yes (lex_tail hq' _ 0 ?_)))
      exact seq_pts f g hk A s ws ws' cs cs' h5 k5 (hl f hf).1 (hl g hg).1 (by omega) fun f' g' v u cs ds hf' r1 r2 l1 l2 hu' => rc_fm f'.ht f' g' A s v u cs ds (Nat.le_refl _) r1 r2 l1 l2 hu'
    · rw [show (f.sg == g.sg) = false from sgT_ne _ _ hk] at t1
      refine kat_cons (t1 prog w _ _ (kat_no ?_))
      rw [lt_rk hk, ← sgT_lt] at hq'
      exact oneLt_str hq'
  · have firsts : ∀ {vs : List Value} {fs : List Fm}, EachIs (fun v f => ∃ as, Reads s.heap v f.d as) vs fs → ∃ us, KatTups s.heap vs us ∧ us.length = vs.length ∧ ∀ u ∈ us, ∃ x t, u = Value.str x t := by
      intro vs fs e
      induction e with
      | nil => exact ⟨[], KatTups.nil, rfl, fun u hu => nomatch hu⟩
      | cons h _ ih =>
        obtain ⟨as, r⟩ := h
        obtain ⟨us, a1, a2, a3⟩ := ih
        obtain ⟨l, o, vs, k, t, ws, cs, rfl, h1, h2, h3, h4, h5⟩ := rd_items r
        refine ⟨.str _ t :: us, KatTups.cons h1 h2 h3 (by rw [← Array.getElem?_toList, h4]; rfl) a1, by rw [List.length_cons, List.length_cons, a2], fun u hu => ?_⟩
        rcases List.mem_cons.mp hu with rfl | hu
        · exact ⟨_, _, rfl⟩
        · exact a3 u hu
    obtain ⟨us, a1, a2, a3⟩ := firsts e
    refine kat_kind (T := .type "str") a1 (by omega) (fun u hu => ?_) (beq_self_eq_true _) hq
    obtain ⟨x, t, rfl⟩ := a3 u hu
    exact Looks.of_pure rfl
end
def Fm.le (f g : Fm) : Bool := !g.lt f
/-- sorted(xs), xs a list of formulas -/
def rSortedF (K : PySem.W.Frag) : List V → Hp → VK → Prop := fun vs H Q => ∃ (a : Addr) (xs : List V) (fs : List Fm), vs = [V.ref a] ∧ SqL K H a xs ∧ ImAll K H xs (fs.map Fm.d) ∧ (∀ f ∈ fs, f.d.canLay0 = true ∧ f.ht ≤ 100) ∧
  ∀ (p : Addr) (ys : List V), H p = none → ImAll K H ys ((fs.mergeSort Fm.le).map Fm.d) → Q (.ref p) (upd H p (.lst ys))
theorem each_of {X : Cx} {pins : List (Addr × Obj)} {σ : L2.St} {H : Hp} {s : Shared} (I : Inv X pins σ H s) : ∀ {xs : List V} {us : List Value} {fs : List Fm}, Vals xs us → ImAll X.K H xs (fs.map Fm.d) →
    EachIs (fun v f => ∃ x : V, RelV x v ∧ Im X.K H x (Fm.d f)) us fs ∧ EachIs (fun v f => ∃ as, Reads s.heap v (Fm.d f) as) us fs
  | _, _, [], .nil, _ => ⟨.nil, .nil⟩
  | _, _, f :: fs, .cons r t, i => by
    have i' : ImAll X.K H _ (f.d :: fs.map Fm.d) := i
    cases i' with
    | cons i1 i2 =>
      obtain ⟨a1, a2⟩ := each_of I t i2
      exact ⟨.cons ⟨_, r, i1⟩ a1, .cons (Dp.reads I _ _ _ i1.dp r) a2⟩
theorem each_back {K : PySem.W.Frag} {H : Hp} : ∀ {us : List Value} {fs : List Fm}, EachIs (fun v f => ∃ x : V, RelV x v ∧ Im K H x (Fm.d f)) us fs → ∃ ys : List V, Vals ys us ∧ ImAll K H ys (fs.map Fm.d)
  | _, _, .nil => ⟨[], .nil, .nil⟩
  | _, _, .cons ⟨x, r, i⟩ t => by
    obtain ⟨ys, h1, h2⟩ := each_back t
    exact ⟨x :: ys, .cons r h1, .cons i h2⟩
section
variable {X : Cx}
theorem cr_sortedF (hu64 : X.A.units + 200 < cLine) : CallR X (.builtin "sorted") (rSortedF X.K) := by
  intro pins s σ H vs us Q I r h
  obtain ⟨a, xs, fs, rfl, hs, hi, hb, q⟩ := h
  obtain ⟨its, rv, hl, hz⟩ := I.list hs
  obtain ⟨u, rfl, ru⟩ := vals1 r
  obtain rfl : u = Value.ref a := ru
  obtain ⟨e1, e2⟩ := each_of I rv hi
  have e3 : EachIs (fun v f => ∃ as, Reads (sortingHeap (copyHeap s.heap its) (s.heap.objs.size + 1) its) v (Fm.d f) as) its fs := e2.mono fun v f ⟨as, r⟩ => ⟨as, PyProof.Rows.Reads.keeps (fun _ _ => sorting_copy_old) r⟩
  refine sorted_vals (κ := fmKind (sortingHeap (copyHeap s.heap its) (s.heap.objs.size + 1) its) fs) hl.isList (sorts_fm (s := { s with heap := sortingHeap (copyHeap s.heap its) (s.heap.objs.size + 1) its }) e3 fun f hf => ⟨(hb f hf).1, ?_⟩) (by rw [← rv.length]; exact hz) ?_
  · have := (hb f hf).2
    show X.A.units + 1 + 1 + f.ht < cLine
    omega
  · have ek : EachIs (fun v f => (fmKind (sortingHeap (copyHeap s.heap its) (s.heap.objs.size + 1) its) fs).keyOf v = some (Fm.toks f)) its fs := (each_mem e3).mono fun v f ⟨⟨as, r⟩, hf⟩ => fmKind_some hf r
    have es := sortVals_each (κ := fmKind (sortingHeap (copyHeap s.heap its) (s.heap.objs.size + 1) its) fs) (rev := false) Fm.toks e1 ek
    obtain ⟨ys, y1, y2⟩ := each_back es
    obtain ⟨n, hn⟩ := sortedAll_at s.heap its (sortVals (fmKind (sortingHeap (copyHeap s.heap its) (s.heap.objs.size + 1) its) fs) false its its).toArray
    have hf : s.heap.objs.size ≤ s.heap.objs.size + 1 := Nat.le_succ _
    refine ⟨.ref (s.heap.objs.size + 1), upd H _ (.lst ys), I.laid (t' := s.toks) (fun _ _ => sortedAll_old) hf ⟨?_, _, n, y1, hn⟩, rfl, q _ ys (I.hok.fresh hf) y2⟩
    have hl2 := y1.length
    rw [sortVals_length false rfl] at hl2
    have := rv.length
    omega
end
end E
namespace E
open PySem PySem.Spec PyProof.Rows L2 PySem.SeqAt ELt PySem.W PySem.Calls
def rLtF (K : PySem.W.Frag) : R2 := fun x y H Q => ∃ f g : Fm, Im K H x f.d ∧ Im K H y g.d ∧ f.d.canLay0 = true ∧ g.d.canLay0 = true ∧ f.ht ≤ 100 ∧ Q (.bl (f.lt g)) H
theorem op_ltF {X : Cx} (hu : X.A.units + 200 < cLine) : OpR X (compareOp .Lt) (rLtF X.K) := by
  intro pins s σ H x y v u Q I rx ry h
  obtain ⟨f, g, hf, hg, lf, lg, hh, q⟩ := h
  obtain ⟨as, r1⟩ := Dp.reads I _ x v hf.dp rx
  obtain ⟨bs, r2⟩ := Dp.reads I _ y u hg.dp ry
  exact rc_fm f.ht f g X.A s v u as bs (Nat.le_refl _) r1 r2 lf lg (by omega) X.prog X.w _ _ ⟨.bl _, H, I, rfl, q⟩
end E
#print axioms E.op_ltF
#print axioms E.cr_sortedF

set_option Elab.async false
set_option linter.all false
set_option maxRecDepth 100000
set_option maxHeartbeats 4000000
namespace E
open PySem PySem.Spec PyProof.Rows L2
/-! ### ascending lists of formulas -/
def dd (l : List Fm) : List Fm := l.foldl (fun acc x => if acc.getLast? = some x then acc else acc ++ [x]) []
def dist (l : List Fm) : List Fm := dd (l.mergeSort Fm.le)
theorem dd_snoc (l : List Fm) (x : Fm) : dd (l ++ [x]) = if (dd l).getLast? = some x then dd l else dd l ++ [x] := by
  unfold dd
  rw [List.foldl_append]
  rfl
def Asc (l : List Fm) : Prop := l.Pairwise fun a b => a.lt b = true
theorem le_total (a b : Fm) : a.le b = true ∨ b.le a = true := by
  unfold Fm.le
  cases e : b.lt a with
  | false => exact .inl rfl
  | true => exact .inr (by rw [Fm.lt_asymm e]; rfl)
theorem lt_of_le_ne {a b : Fm} (h : a.le b = true) (n : a ≠ b) : a.lt b = true := by
  unfold Fm.le at h
  rw [Bool.not_eq_true'] at h
  cases e : a.lt b with
  | true => rfl
  | false => exact absurd (Fm.lt_total e h) n
theorem le_of_lt {a b : Fm} (h : a.lt b = true) : a.le b = true := by
  unfold Fm.le
  rw [Fm.lt_asymm h]
  rfl
theorem le_trans' {a b c : Fm} (h1 : a.le b = true) (h2 : b.le c = true) : a.le c = true := by
  by_cases e : a = b
  · rw [e]; exact h2
  · by_cases e2 : b = c
    · rw [← e2]; exact h1
    · exact le_of_lt (Fm.lt_trans (lt_of_le_ne h1 e) (lt_of_le_ne h2 e2))
theorem ms_sorted (l : List Fm) : (l.mergeSort Fm.le).Pairwise fun a b => a.le b = true :=
  List.pairwise_mergeSort (le := Fm.le) (fun a b c h1 h2 => le_trans' (a := a) (b := b) (c := c) h1 h2) (fun a b => Bool.or_eq_true_iff.mpr (le_total a b)) l
theorem getLast?_of_pairwise {l : List Fm} {x y : Fm} (h : l.getLast? = some y) (p : Asc l) (hx : x ∈ l) : x = y ∨ x.lt y = true := by
  obtain ⟨l', rfl⟩ := List.getLast?_eq_some_iff.mp h
  rcases List.mem_append.mp hx with q | q
  · exact .inr ((List.pairwise_append.mp p).2.2 x q y (List.mem_singleton.mpr rfl))
  · exact .inl (List.mem_singleton.mp q)
theorem snoc_ind {α : Type} {P : List α → Prop} (h0 : P []) (hs : ∀ l x, P l → P (l ++ [x])) (l : List α) : P l := by
  have : ∀ r : List α, P r.reverse := by
    intro r
    induction r with
    | nil => exact h0
    | cons x r ih =>
      rw [List.reverse_cons]
      exact hs _ _ ih
  have e := this l.reverse
  rw [List.reverse_reverse] at e
  exact e
/-- the walk over a sorted list: strictly ascending, the same members, a part of it -/
theorem dd_spec (l : List Fm) : (l.Pairwise fun a b => a.le b = true) → Asc (dd l) ∧ (∀ x, x ∈ dd l ↔ x ∈ l) ∧ (dd l).Sublist l ∧ (dd l).getLast? = l.getLast? := by
  induction l using snoc_ind with
  | h0 => exact fun _ => ⟨.nil, fun x => Iff.rfl, List.Sublist.refl _, rfl⟩
  | hs l x ih =>
    intro p
    obtain ⟨p1, _, p2⟩ := List.pairwise_append.mp p
    obtain ⟨a1, a2, a3, a4⟩ := ih p1
    rw [dd_snoc]
    by_cases e : (dd l).getLast? = some x
    · rw [if_pos e]
      refine ⟨a1, fun y => ?_, a3.trans (List.sublist_append_left _ _), by rw [e, List.getLast?_append]; rfl⟩
      rw [a2, List.mem_append, List.mem_singleton]
      constructor
      · exact .inl
      · rintro (q | rfl)
        · exact q
        · exact (a2 y).mp (List.mem_of_getLast? e)
    · rw [if_neg e]
      refine ⟨List.pairwise_append.mpr ⟨a1, List.pairwise_singleton _ _, fun y hy z hz => ?_⟩, fun y => ?_, List.Sublist.append a3 (List.Sublist.refl _), by rw [List.getLast?_append, List.getLast?_append]; rfl⟩
      · rw [List.mem_singleton] at hz
        subst hz
        refine lt_of_le_ne (p2 y ((a2 y).mp hy) z (List.mem_singleton.mpr rfl)) fun q => ?_
        subst q
        cases g : (dd l).getLast? with
        | none =>
          rw [List.getLast?_eq_none_iff] at g
          rw [g] at hy
          cases hy
        | some m =>
          have hm : m ∈ dd l := List.mem_of_getLast? g
          rcases getLast?_of_pairwise g a1 hy with q | q
          · rw [q] at e; exact e g
          · have := p2 m ((a2 m).mp hm) y (List.mem_singleton.mpr rfl)
            unfold Fm.le at this
            rw [q] at this
            cases this
      · rw [List.mem_append, List.mem_append, a2]
theorem dist_asc (l : List Fm) : Asc (dist l) := (dd_spec _ (ms_sorted l)).1
theorem dist_mem {l : List Fm} {x : Fm} : x ∈ dist l ↔ x ∈ l := ((dd_spec _ (ms_sorted l)).2.1 x).trans ((List.mergeSort_perm l Fm.le).mem_iff)
theorem asc_one : ∀ {l m : List Fm}, Asc l → Asc m → (∀ x, x ∈ l ↔ x ∈ m) → l = m
  | [], [], _, _, _ => rfl
  | [], y :: m, _, _, h => absurd ((h y).mpr List.mem_cons_self) (by simp)
  | x :: l, [], _, _, h => absurd ((h x).mp List.mem_cons_self) (by simp)
  | x :: l, y :: m, hl, hm, h => by
    have hl' := List.pairwise_cons.mp hl
    have hm' := List.pairwise_cons.mp hm
    have e : x = y := by
      rcases List.mem_cons.mp ((h x).mp List.mem_cons_self) with q | q
      · exact q
      · rcases List.mem_cons.mp ((h y).mpr List.mem_cons_self) with r | r
        · exact r.symm
        · have h1 := hm'.1 x q
          have h2 := hl'.1 y r
          rw [Fm.lt_asymm h1] at h2
          cases h2
    subst e
    have : l = m := asc_one hl'.2 hm'.2 fun z => by
      constructor
      · intro q
        rcases List.mem_cons.mp ((h z).mp (List.mem_cons_of_mem _ q)) with r | r
        · subst r
          have := hl'.1 z q
          rw [Fm.lt_irrefl] at this
          cases this
        · exact r
      · intro q
        rcases List.mem_cons.mp ((h z).mpr (List.mem_cons_of_mem _ q)) with r | r
        · subst r
          have := hm'.1 z q
          rw [Fm.lt_irrefl] at this
          cases this
        · exact r
    rw [this]
theorem dist_ext {l m : List Fm} (h : ∀ x, x ∈ l ↔ x ∈ m) : dist l = dist m := asc_one (dist_asc l) (dist_asc m) fun x => by rw [dist_mem, dist_mem, h]
theorem dist_self {l : List Fm} (h : Asc l) : dist l = l := asc_one (dist_asc l) h fun x => dist_mem
theorem dist_len (l : List Fm) : (dist l).length ≤ l.length := by
  have := (dd_spec _ (ms_sorted l)).2.2.1.length_le
  rw [List.length_mergeSort] at this
  exact this
theorem sub_sum (k : Fm → Nat) : ∀ {l m : List Fm}, l.Sublist m → (l.map k).sum ≤ (m.map k).sum
  | _, _, .slnil => Nat.le_refl _
  | _, _, .cons x h => by
    rw [List.map_cons, List.sum_cons]
    exact Nat.le_trans (sub_sum k h) (Nat.le_add_left _ _)
  | _, _, .cons₂ x h => by
    rw [List.map_cons, List.sum_cons, List.map_cons, List.sum_cons]
    exact Nat.add_le_add_left (sub_sum k h) _
theorem dist_sum (k : Fm → Nat) (l : List Fm) : ((dist l).map k).sum ≤ (l.map k).sum := by
  refine Nat.le_trans (sub_sum k (dd_spec _ (ms_sorted l)).2.2.1) ?_
  rw [((List.mergeSort_perm l Fm.le).map k).sum_nat]
  exact Nat.le_refl _
/-! ### parts, levels -/
def Fm.kids : Fm → List Fm
  | .and a b => [a, b]
  | .or a b => [a, b]
  | .imp a b => [a, b]
  | .box a => [a]
  | .fal => []
  | .var _ => []
def Fm.sz : Fm → Nat
  | .and a b => a.sz + b.sz + 1
  | .or a b => a.sz + b.sz + 1
  | .imp a b => a.sz + b.sz + 1
  | .box a => a.sz + 1
  | .fal => 1
  | .var _ => 1
theorem Fm.sz_pos (f : Fm) : 1 ≤ f.sz := by cases f <;> exact Nat.le_add_left _ _
theorem kids_sz (f : Fm) : (f.kids.map Fm.sz).sum + 1 = f.sz := by cases f <;> simp [Fm.kids, Fm.sz]
theorem kids_ht {f g : Fm} (h : g ∈ f.kids) : g.ht < f.ht := by
  cases f with
  | and a b =>
    have q : g = a ∨ g = b := by simpa [Fm.kids] using h
    show _ < max a.ht b.ht + 1
    rcases q with rfl | rfl <;> omega
  | or a b =>
    have q : g = a ∨ g = b := by simpa [Fm.kids] using h
    show _ < max a.ht b.ht + 1
    rcases q with rfl | rfl <;> omega
  | imp a b =>
    have q : g = a ∨ g = b := by simpa [Fm.kids] using h
    show _ < max a.ht b.ht + 1
    rcases q with rfl | rfl <;> omega
  | box a =>
    have q : g = a := by simpa [Fm.kids] using h
    subst q
    exact Nat.lt_succ_self _
  | fal => cases h
  | var n => cases h
/-- one more level down -/
def down (l : List Fm) : List Fm := dist (l.flatMap Fm.kids)
def levs : Nat → List Fm → List (List Fm)
  | 0, _ => []
  | n + 1, l => if l = [] then [] else l :: levs n (down l)
theorem down_sum (l : List Fm) : ((down l).map Fm.sz).sum + l.length ≤ (l.map Fm.sz).sum := by
  have h1 := dist_sum Fm.sz (l.flatMap Fm.kids)
  have h2 : ((l.flatMap Fm.kids).map Fm.sz).sum + l.length = (l.map Fm.sz).sum := by
    induction l with
    | nil => rfl
    | cons f l ih =>
      have ih' := ih (dist_sum Fm.sz (l.flatMap Fm.kids))
      rw [List.flatMap_cons, List.map_append, List.sum_append_nat, List.map_cons, List.sum_cons, List.length_cons, ← kids_sz f]
      omega
  unfold down
  omega
theorem sum_len (l : List Fm) : l.length ≤ (l.map Fm.sz).sum := by
  induction l with
  | nil => exact Nat.le_refl _
  | cons f l ih =>
    rw [List.map_cons, List.sum_cons, List.length_cons]
    have := f.sz_pos
    omega
theorem down_mem {l : List Fm} {x : Fm} : x ∈ down l ↔ ∃ f ∈ l, x ∈ f.kids := by
  unfold down
  rw [dist_mem, List.mem_flatMap]
/-- all that occurs in a formula -/
def Fm.subs : Fm → List Fm
  | .and a b => .and a b :: (a.subs ++ b.subs)
  | .or a b => .or a b :: (a.subs ++ b.subs)
  | .imp a b => .imp a b :: (a.subs ++ b.subs)
  | .box a => .box a :: a.subs
  | .fal => [.fal]
  | .var n => [.var n]
theorem subs_kids {f x : Fm} : x ∈ f.subs ↔ x = f ∨ ∃ g ∈ f.kids, x ∈ g.subs := by
  cases f <;> simp [Fm.subs, Fm.kids]
/-- what stands on the levels: all that occurs in the first one -/
theorem levs_mem : ∀ (n : Nat) (l : List Fm), (∀ f ∈ l, f.ht ≤ n) → ∀ x, x ∈ (levs n l).flatten ↔ ∃ f ∈ l, x ∈ f.subs
  | 0, l, h, x => by
    constructor
    · intro q
      cases q
    · rintro ⟨f, hf, _⟩
      exact absurd (h f hf) (by have := f.ht_pos; omega)
  | n + 1, l, h, x => by
    rw [levs]
    by_cases e : l = []
    · rw [if_pos e, e]
      simp
    · rw [if_neg e, List.flatten_cons, List.mem_append, levs_mem n (down l) (fun f hf => by
        obtain ⟨g, hg, hk⟩ := down_mem.mp hf
        have h1 := kids_ht hk
        have h2 := h g hg
        omega) x]
      constructor
      · rintro (q | ⟨f, hf, hx⟩)
        · exact ⟨x, q, subs_kids.mpr (.inl rfl)⟩
        · obtain ⟨g, hg, hk⟩ := down_mem.mp hf
          exact ⟨g, hg, subs_kids.mpr (.inr ⟨f, hk, hx⟩)⟩
      · rintro ⟨f, hf, hx⟩
        rcases subs_kids.mp hx with rfl | ⟨g, hg, hx⟩
        · exact .inl hf
        · exact .inr ⟨g, down_mem.mpr ⟨f, hf, hg⟩, hx⟩
theorem levs_len : ∀ (n : Nat) (l : List Fm), (levs n l).length ≤ n
  | 0, _ => Nat.le_refl _
  | n + 1, l => by
    rw [levs]
    split
    · exact Nat.zero_le _
    · rw [List.length_cons]
      have := levs_len n (down l)
      omega
theorem levs_sum : ∀ (n : Nat) (l : List Fm), ((levs n l).map List.length).sum ≤ (l.map Fm.sz).sum
  | 0, _ => Nat.zero_le _
  | n + 1, l => by
    rw [levs]
    split
    · exact Nat.zero_le _
    · rw [List.map_cons, List.sum_cons]
      have h1 := levs_sum n (down l)
      have h2 := down_sum l
      omega
end E

set_option Elab.async false
set_option linter.all false
set_option maxRecDepth 100000
set_option maxHeartbeats 4000000
namespace E
open PySem PySem.Spec PyProof.Rows L2
/-! ### comprehensions of two loops -/
section
variable {K : PySem.W.Frag}
/-- the outer loop, over a list -/
theorem out_list {a : Addr} {xs : List V} {g g1 : TG} {tt tt1 : TT} {wi1 : TI} {te : TE} {vs vs1 : List Nat} {σ : L2.St} {H1 : Hp} {D : Addr} {Qd : Hp → Prop} (Pv : Nat → Hp → Prop) (start : Pv 0 (upd H1 D (.lst []))) (at_ : ∀ i H, i ≤ xs.length → Pv i H → SqL K H a xs)
    (turn : ∀ i x H, xs[i]? = some x → Pv i H → g x (wipe σ vs) H fun σ2 H2 => wipe σ2 vs = wipe σ vs ∧ tt σ2 H2 fun b H3 => if b = true then wi1 σ2 H3 fun J1 H4 => ∃ W1 : Nat → Nat → Hp → Prop, (∃ m, W1 0 m H4) ∧ ∀ j k H, W1 j k H →
      (J1.stop j H ∧ Pv (i + 1) H) ∨ (J1.go j H ∧ ∃ N1 : Hp → Prop, (∀ H', N1 H' → ∃ k', k' < k ∧ W1 (j + 1) k' H') ∧ ∀ x H', J1.yld j H x H' → g1 x (wipe σ2 vs1) H' fun σ3 H5 => wipe σ3 vs1 = wipe σ2 vs1 ∧ tt1 σ3 H5 fun b H6 =>
        if b = true then te σ3 H6 fun y H7 => ∃ acc, H7 D = some (.lst acc) ∧ acc.length < sizeLine ∧ N1 (upd H7 D (.lst (acc ++ [y]))) else N1 H6) else Pv (i + 1) H3) (fin : ∀ H, Pv xs.length H → Qd H) :
    ∃ W : Nat → Nat → Hp → Prop, (∃ m, W 0 m (upd H1 D (.lst []))) ∧ ∀ i m H, W i m H →
      ((Itl K a).stop i H ∧ Qd H) ∨ ((Itl K a).go i H ∧ ∃ Nx : Hp → Prop, (∀ H', Nx H' → ∃ m', m' < m ∧ W (i + 1) m' H') ∧ ∀ x H', (Itl K a).yld i H x H' → g x (wipe σ vs) H' fun σ2 H2 => wipe σ2 vs = wipe σ vs ∧ tt σ2 H2 fun b H3 =>
        if b = true then wi1 σ2 H3 fun J1 H4 => ∃ W1 : Nat → Nat → Hp → Prop, (∃ m, W1 0 m H4) ∧ ∀ j k H, W1 j k H →
          (J1.stop j H ∧ Nx H) ∨ (J1.go j H ∧ ∃ Nx1 : Hp → Prop, (∀ H', Nx1 H' → ∃ k', k' < k ∧ W1 (j + 1) k' H') ∧ ∀ x H', J1.yld j H x H' → g1 x (wipe σ2 vs1) H' fun σ3 H5 => wipe σ3 vs1 = wipe σ2 vs1 ∧ tt1 σ3 H5 fun b H6 =>
            if b = true then te σ3 H6 fun y H7 => ∃ acc, H7 D = some (.lst acc) ∧ acc.length < sizeLine ∧ Nx1 (upd H7 D (.lst (acc ++ [y]))) else Nx1 H6)
        else Nx H3) := by
  refine ⟨fun i m H => m + i = xs.length ∧ Pv i H, ⟨xs.length, rfl, start⟩, fun i m H h => ?_⟩
  obtain ⟨hm, p⟩ := h
  have q := at_ i H (by omega) p
  by_cases hi : i < xs.length
  · refine Or.inr ⟨⟨xs, xs[i], q, List.getElem?_eq_getElem hi⟩, Pv (i + 1), fun H' p' => ⟨m - 1, by omega, by omega, p'⟩, fun x H' y => ?_⟩
    obtain ⟨rfl, y⟩ := y
    exact turn i x _ (y xs q) p
  · refine Or.inl ⟨⟨xs, q, by omega⟩, fin H ?_⟩
    rw [show xs.length = i by omega]
    exact p
/-- the inner loop, over a tuple -/
theorem in_tup {b : Addr} {ys : List V} {g1 : TG} {tt1 : TT} {te : TE} {vs1 : List Nat} {σ2 : L2.St} {H4 : Hp} {D : Addr} {Nx : Hp → Prop} (Pv : Nat → Hp → Prop) (start : Pv 0 H4) (at_ : ∀ j H, j ≤ ys.length → Pv j H → SqT K H b ys)
    (turn : ∀ j y H, ys[j]? = some y → Pv j H → g1 y (wipe σ2 vs1) H fun σ3 H5 => wipe σ3 vs1 = wipe σ2 vs1 ∧ tt1 σ3 H5 fun b H6 => if b = true then te σ3 H6 fun y H7 => ∃ acc, H7 D = some (.lst acc) ∧ acc.length < sizeLine ∧ Pv (j + 1) (upd H7 D (.lst (acc ++ [y]))) else Pv (j + 1) H6)
    (fin : ∀ H, Pv ys.length H → Nx H) :
    ∃ W1 : Nat → Nat → Hp → Prop, (∃ m, W1 0 m H4) ∧ ∀ j k H, W1 j k H →
      ((Itt K b).stop j H ∧ Nx H) ∨ ((Itt K b).go j H ∧ ∃ Nx1 : Hp → Prop, (∀ H', Nx1 H' → ∃ k', k' < k ∧ W1 (j + 1) k' H') ∧ ∀ x H', (Itt K b).yld j H x H' → g1 x (wipe σ2 vs1) H' fun σ3 H5 => wipe σ3 vs1 = wipe σ2 vs1 ∧ tt1 σ3 H5 fun b H6 =>
        if b = true then te σ3 H6 fun y H7 => ∃ acc, H7 D = some (.lst acc) ∧ acc.length < sizeLine ∧ Nx1 (upd H7 D (.lst (acc ++ [y]))) else Nx1 H6) := by
  refine ⟨fun i m H => m + i = ys.length ∧ Pv i H, ⟨ys.length, rfl, start⟩, fun i m H h => ?_⟩
  obtain ⟨hm, p⟩ := h
  have q := at_ i H (by omega) p
  by_cases hi : i < ys.length
  · refine Or.inr ⟨⟨ys, ys[i], q, List.getElem?_eq_getElem hi⟩, Pv (i + 1), fun H' p' => ⟨m - 1, by omega, by omega, p'⟩, fun x H' y => ?_⟩
    obtain ⟨rfl, y⟩ := y
    exact turn i x _ (y ys q) p
  · refine Or.inl ⟨⟨ys, q, by omega⟩, fin H ?_⟩
    rw [show ys.length = i by omega]
    exact p
/-- the inner loop, over a list -/
theorem in_list {b : Addr} {ys : List V} {g1 : TG} {tt1 : TT} {te : TE} {vs1 : List Nat} {σ2 : L2.St} {H4 : Hp} {D : Addr} {Nx : Hp → Prop} (Pv : Nat → Hp → Prop) (start : Pv 0 H4) (at_ : ∀ j H, j ≤ ys.length → Pv j H → SqL K H b ys)
    (turn : ∀ j y H, ys[j]? = some y → Pv j H → g1 y (wipe σ2 vs1) H fun σ3 H5 => wipe σ3 vs1 = wipe σ2 vs1 ∧ tt1 σ3 H5 fun b H6 => if b = true then te σ3 H6 fun y H7 => ∃ acc, H7 D = some (.lst acc) ∧ acc.length < sizeLine ∧ Pv (j + 1) (upd H7 D (.lst (acc ++ [y]))) else Pv (j + 1) H6)
    (fin : ∀ H, Pv ys.length H → Nx H) :
    ∃ W1 : Nat → Nat → Hp → Prop, (∃ m, W1 0 m H4) ∧ ∀ j k H, W1 j k H →
      ((Itl K b).stop j H ∧ Nx H) ∨ ((Itl K b).go j H ∧ ∃ Nx1 : Hp → Prop, (∀ H', Nx1 H' → ∃ k', k' < k ∧ W1 (j + 1) k' H') ∧ ∀ x H', (Itl K b).yld j H x H' → g1 x (wipe σ2 vs1) H' fun σ3 H5 => wipe σ3 vs1 = wipe σ2 vs1 ∧ tt1 σ3 H5 fun b H6 =>
        if b = true then te σ3 H6 fun y H7 => ∃ acc, H7 D = some (.lst acc) ∧ acc.length < sizeLine ∧ Nx1 (upd H7 D (.lst (acc ++ [y]))) else Nx1 H6) := by
  refine ⟨fun i m H => m + i = ys.length ∧ Pv i H, ⟨ys.length, rfl, start⟩, fun i m H h => ?_⟩
  obtain ⟨hm, p⟩ := h
  have q := at_ i H (by omega) p
  by_cases hi : i < ys.length
  · refine Or.inr ⟨⟨ys, ys[i], q, List.getElem?_eq_getElem hi⟩, Pv (i + 1), fun H' p' => ⟨m - 1, by omega, by omega, p'⟩, fun x H' y => ?_⟩
    obtain ⟨rfl, y⟩ := y
    exact turn i x _ (y ys q) p
  · refine Or.inl ⟨⟨ys, q, by omega⟩, fin H ?_⟩
    rw [show ys.length = i by omega]
    exact p
end
/-! ### a formula's tuple -/
theorem im_inv {K : PySem.W.Frag} {H : Hp} {x : V} {f : Fm} (h : Im K H x f.d) : ∃ (a : Addr) (ys : List V), x = .ref a ∧ SqT K H a (.str f.sg :: ys) ∧ ImAll K H ys f.pts := by
  rw [Fm.d_eq] at h
  generalize f.sg = sg at h ⊢
  cases h with
  | tup h1 h2 =>
    cases h2 with
    | cons h3 h4 =>
      cases h3
      exact ⟨_, _, rfl, h1, h4⟩
def Fm.isVar : Fm → Bool
  | .var _ => true
  | _ => false
def Fm.isBox : Fm → Bool
  | .box _ => true
  | _ => false
theorem vsg : ∀ i j : Fin 6, decide (V.str (sgT i) = V.str (sgT j)) = decide (i = j) := by decide +kernel
theorem sg_var (f : Fm) : decide (V.str f.sg = V.str "var") = f.isVar := by
  show decide (V.str (sgT f.rk) = V.str (sgT 5)) = _
  rw [vsg]
  cases f <;> rfl
theorem sg_box (f : Fm) : decide (V.str f.sg = V.str "box") = f.isBox := by
  show decide (V.str (sgT f.rk) = V.str (sgT 1)) = _
  rw [vsg]
  cases f <;> rfl
theorem kids_pts {f : Fm} (h : f.isVar = false) : f.pts = f.kids.map Fm.d := by
  cases f <;> first | rfl | cases h
theorem kids_var {f : Fm} (h : f.isVar = true) : f.kids = [] ∧ ∃ n, f = .var n := by
  cases f <;> first | exact ⟨rfl, _, rfl⟩ | cases h
theorem cut_1 (xs : List V) (x : V) : cutV (x :: xs) (some 1) none = xs := by
  unfold cutV
  rw [show HT.sIx (x :: xs).length 0 (some 1) = 1 from by
    show (if (1 : Int) < 0 then ((1 : Int) + ((x :: xs).length : Int)).toNat else min (1 : Int).toNat (x :: xs).length) = 1
    rw [if_neg (by decide), List.length_cons]
    omega, HT.sIx_none]
  show List.take _ xs = xs
  exact List.take_of_length_le (by rw [List.length_cons]; omega)
theorem sIx_1 (xs : List V) (x : V) : HT.sIx (x :: xs).length 0 (some 1) = 1 := by
  show (if (1 : Int) < 0 then ((1 : Int) + ((x :: xs).length : Int)).toNat else min (1 : Int).toNat (x :: xs).length) = 1
  rw [if_neg (by decide), List.length_cons]
  omega
theorem imAll_of {K : PySem.W.Frag} {H : Hp} {xs : List V} {fs : List Fm} {x : V} {i : Nat} (hI : ImAll K H xs (fs.map Fm.d)) (h : xs[i]? = some x) : ∃ f, fs[i]? = some f ∧ Im K H x f.d := by
  obtain ⟨d, e, j⟩ := hI.get h
  rw [List.getElem?_map] at e
  cases e2 : fs[i]? with
  | none => rw [e2] at e; cases e
  | some f =>
    rw [e2] at e
    have : f.d = d := Option.some.inj e
    subst this
    exact ⟨f, rfl, j⟩
theorem take_snoc {α : Type} {l : List α} {i : Nat} {x : α} (h : l[i]? = some x) : l.take (i + 1) = l.take i ++ [x] := by
  rw [List.take_add_one, h]
  rfl
theorem fms_len {K : PySem.W.Frag} {H : Hp} {xs : List V} {fs : List Fm} (h : ImAll K H xs (fs.map Fm.d)) : xs.length = fs.length := by
  have := h.length
  rw [List.length_map] at this
  exact this
theorem imAll_append {K : PySem.W.Frag} {H : Hp} : ∀ {xs ys : List V} {ds es : List PyData}, ImAll K H xs ds → ImAll K H ys es → ImAll K H (xs ++ ys) (ds ++ es)
  | _, _, _, _, .nil, h => h
  | _, _, _, _, .cons a t, h => .cons a (imAll_append t h)
/-- a list of lists of formulas -/
inductive LvAt (K : PySem.W.Frag) (H : Hp) : List V → List (List Fm) → Prop
  | nil : LvAt K H [] []
  | cons {b : Addr} {ys : List V} {fs : List Fm} {vs : List V} {ls : List (List Fm)} : SqL K H b ys → ImAll K H ys (fs.map Fm.d) → LvAt K H vs ls → LvAt K H (.ref b :: vs) (fs :: ls)
theorem LvAt.same {K : PySem.W.Frag} {H H' : Hp} (s : Same H H') : ∀ {vs : List V} {ls : List (List Fm)}, LvAt K H vs ls → LvAt K H' vs ls
  | _, _, .nil => .nil
  | _, _, .cons h1 h2 t => .cons (s.seq h1) (h2.mono (Same.ts s)) (LvAt.same s t)
theorem LvAt.snoc {K : PySem.W.Frag} {H : Hp} {b : Addr} {ys : List V} {fs : List Fm} (h1 : SqL K H b ys) (h2 : ImAll K H ys (fs.map Fm.d)) : ∀ {vs : List V} {ls : List (List Fm)}, LvAt K H vs ls → LvAt K H (vs ++ [.ref b]) (ls ++ [fs])
  | _, _, .nil => .cons h1 h2 .nil
  | _, _, .cons a1 a2 t => .cons a1 a2 (LvAt.snoc h1 h2 t)
theorem LvAt.len {K : PySem.W.Frag} {H : Hp} : ∀ {vs : List V} {ls : List (List Fm)}, LvAt K H vs ls → vs.length = ls.length
  | _, _, .nil => rfl
  | _, _, .cons _ _ t => by rw [List.length_cons, List.length_cons, LvAt.len t]
theorem LvAt.get {K : PySem.W.Frag} {H : Hp} : ∀ {vs : List V} {ls : List (List Fm)} {i : Nat} {v : V}, LvAt K H vs ls → vs[i]? = some v → ∃ b ys fs, v = .ref b ∧ ls[i]? = some fs ∧ SqL K H b ys ∧ ImAll K H ys (fs.map Fm.d)
  | _, _, _, _, .nil, e => by simp at e
  | _, _, 0, _, .cons h1 h2 _, e => by simp at e; subst e; exact ⟨_, _, _, rfl, rfl, h1, h2⟩
  | _, _, i + 1, v, .cons _ _ t, e => by
    obtain ⟨b, ys, fs, q1, q2, q3⟩ := LvAt.get (i := i) (v := v) t (by simpa using e)
    exact ⟨b, ys, fs, q1, by simpa using q2, q3⟩
/-- the list that holds the levels grows -/
theorem LvAt.mut {K : PySem.W.Frag} {H H' : Hp} {L : Addr} {ws : List V} (k : Kp L H H') (hL : H L = some (.lst ws)) : ∀ {vs : List V} {ls : List (List Fm)}, LvAt K H vs ls → (∀ v ∈ vs, v ≠ .ref L) → LvAt K H' vs ls
  | _, _, .nil, _ => .nil
  | _, _, .cons h1 h2 t, n => .cons (k.sqL h1 fun e => n _ List.mem_cons_self (by rw [e])) (h2.mono (k.ts hL)) (LvAt.mut k hL t fun v hv => n v (List.mem_cons_of_mem _ hv))
theorem levs_nil (n : Nat) : levs n [] = [] := by cases n <;> rfl
theorem kids_subs {f g h : Fm} (h1 : g ∈ f.subs) (h2 : h ∈ g.kids) : h ∈ f.subs := by
  induction f with
  | and a b iha ihb =>
    rcases subs_kids.mp h1 with rfl | ⟨k, hk, hg⟩
    · exact subs_kids.mpr (.inr ⟨h, h2, subs_kids.mpr (.inl rfl)⟩)
    · have q : k = a ∨ k = b := by simpa [Fm.kids] using hk
      rcases q with rfl | rfl
      · exact subs_kids.mpr (.inr ⟨k, hk, iha hg⟩)
      · exact subs_kids.mpr (.inr ⟨k, hk, ihb hg⟩)
  | or a b iha ihb =>
    rcases subs_kids.mp h1 with rfl | ⟨k, hk, hg⟩
    · exact subs_kids.mpr (.inr ⟨h, h2, subs_kids.mpr (.inl rfl)⟩)
    · have q : k = a ∨ k = b := by simpa [Fm.kids] using hk
      rcases q with rfl | rfl
      · exact subs_kids.mpr (.inr ⟨k, hk, iha hg⟩)
      · exact subs_kids.mpr (.inr ⟨k, hk, ihb hg⟩)
  | imp a b iha ihb =>
    rcases subs_kids.mp h1 with rfl | ⟨k, hk, hg⟩
    · exact subs_kids.mpr (.inr ⟨h, h2, subs_kids.mpr (.inl rfl)⟩)
    · have q : k = a ∨ k = b := by simpa [Fm.kids] using hk
      rcases q with rfl | rfl
      · exact subs_kids.mpr (.inr ⟨k, hk, iha hg⟩)
      · exact subs_kids.mpr (.inr ⟨k, hk, ihb hg⟩)
  | box a iha =>
    rcases subs_kids.mp h1 with rfl | ⟨k, hk, hg⟩
    · exact subs_kids.mpr (.inr ⟨h, h2, subs_kids.mpr (.inl rfl)⟩)
    · have q : k = a := by simpa [Fm.kids] using hk
      subst q
      exact subs_kids.mpr (.inr ⟨k, hk, iha hg⟩)
  | fal =>
    have e : g = .fal := by simpa [Fm.subs] using h1
    subst e
    cases h2
  | var n =>
    have e : g = .var n := by simpa [Fm.subs] using h1
    subst e
    cases h2
theorem flat_len (l : List Fm) : (l.flatMap Fm.kids).length ≤ (l.map Fm.sz).sum := by
  induction l with
  | nil => exact Nat.le_refl _
  | cons f l ih =>
    rw [List.flatMap_cons, List.length_append, List.map_cons, List.sum_cons, ← kids_sz f]
    have := sum_len f.kids
    omega
end E

set_option Elab.async false
set_option linter.all false
set_option maxRecDepth 100000
set_option maxHeartbeats 4000000
namespace E
open PySem PySem.Spec PyProof.Rows L2 PySem.SeqAt ELt PySem.W PySem.Calls
/-! ### pairs of ints: >= and sorted -/
def zd (z : Int × Int) : PyData := .tuple [.int z.1, .int z.2]
def zlt (z u : Int × Int) : Bool := if z.1 = u.1 then decide (z.2 < u.2) else decide (z.1 < u.1)
def rGeZ (K : PySem.W.Frag) : R2 := fun x y H Q => ∃ z u : Int × Int, Im K H x (zd z) ∧ Im K H y (zd u) ∧ Q (.bl (!zlt z u)) H
theorem op_geZ {X : Cx} (hu : X.A.units + 64 < cLine) : OpR X (compareOp .GtE) (rGeZ X.K) := by
  intro pins s σ H x y v u Q I rx ry h
  obtain ⟨z, t, hz, ht, q⟩ := h
  obtain ⟨as, r1⟩ := Dp.reads I _ x v hz.dp rx
  obtain ⟨bs, r2⟩ := Dp.reads I _ y u ht.dp ry
  refine PySem.W.ge_datum (α := Int × Int) (x := z) (y := t) ⟨as, r1⟩ ⟨bs, r2⟩ (Nat.lt_of_le_of_lt (Nat.add_le_add_left (show PySem.W.Datum.depth (Int × Int) ≤ 64 by decide) _) hu) ⟨.bl _, H, I, rfl, ?_⟩
  exact q
theorem each_ofZ {X : Cx} {pins : List (Addr × Obj)} {σ : L2.St} {H : Hp} {s : Shared} (I : Inv X pins σ H s) : ∀ {xs : List V} {us : List Value} {fs : List (Int × Int)}, Vals xs us → ImAll X.K H xs (fs.map zd) →
    EachIs (fun v f => ∃ x : V, RelV x v ∧ Im X.K H x (zd f)) us fs ∧ EachIs (fun v f => ∃ as, Reads s.heap v (zd f) as) us fs
  | _, _, [], .nil, _ => ⟨.nil, .nil⟩
  | _, _, f :: fs, .cons r t, i => by
    have i' : ImAll X.K H _ (zd f :: fs.map zd) := i
    cases i' with
    | cons i1 i2 =>
      obtain ⟨a1, a2⟩ := each_ofZ I t i2
      exact ⟨.cons ⟨_, r, i1⟩ a1, .cons (Dp.reads I _ _ _ i1.dp r) a2⟩
theorem each_backZ {K : PySem.W.Frag} {H : Hp} : ∀ {us : List Value} {fs : List (Int × Int)}, EachIs (fun v f => ∃ x : V, RelV x v ∧ Im K H x (zd f)) us fs → ∃ ys : List V, Vals ys us ∧ ImAll K H ys (fs.map zd)
  | _, _, .nil => ⟨[], .nil, .nil⟩
  | _, _, .cons ⟨x, r, i⟩ t => by
    obtain ⟨ys, h1, h2⟩ := each_backZ t
    exact ⟨x :: ys, .cons r h1, .cons i h2⟩
def rSortedZ (K : PySem.W.Frag) : List V → Hp → VK → Prop := fun vs H Q => ∃ (a : Addr) (xs : List V) (zs : List (Int × Int)), vs = [V.ref a] ∧ SqL K H a xs ∧ ImAll K H xs (zs.map zd) ∧
  ∀ (p : Addr) (ys : List V) (us : List (Int × Int)), H p = none → us.Perm zs → ImAll K H ys (us.map zd) → Q (.ref p) (upd H p (.lst ys))
theorem cr_sortedZ {X : Cx} (hu64 : X.A.units + 64 < cLine) : CallR X (.builtin "sorted") (rSortedZ X.K) := by
  intro pins s σ H vs us Q I r h
  obtain ⟨a, xs, fs, rfl, hs, hi, q⟩ := h
  obtain ⟨its, rv, hl, hz⟩ := I.list hs
  obtain ⟨u, rfl, ru⟩ := vals1 r
  obtain rfl : u = Value.ref a := ru
  obtain ⟨e1, e2⟩ := each_ofZ I rv hi
  have e9 : fs.map zd = fs.map (PySem.W.Datum.toD (α := Int × Int)) := rfl
  refine PySem.W.sorted_data (enc := zd) hl.isList e1 e2 ?_ ?_ (by rw [← e1.length, ← rv.length]; exact hz) (fun b hb => ?_) fun out ho eo => ?_
  · intro d hd d' hd'
    obtain ⟨b, _, rfl⟩ := List.mem_map.mp hd
    obtain ⟨b', _, rfl⟩ := List.mem_map.mp hd'
    exact PySem.W.DatumOrd.alike (α := Int × Int) b b'
  · exact .inl fun d hd => by
      obtain ⟨b, _, rfl⟩ := List.mem_map.mp hd
      exact ⟨_, _, rfl⟩
  · show X.A.units + 2 + (zd b).depth < cLine
    have : (zd b).depth = 1 := rfl
    omega
  · obtain ⟨ys, y1, y2⟩ := each_backZ eo
    obtain ⟨n, hn⟩ := sortedAll_at s.heap its out.toArray
    have hf : s.heap.objs.size ≤ s.heap.objs.size + 1 := Nat.le_succ _
    refine ⟨.ref (s.heap.objs.size + 1), upd H _ (.lst ys), I.laid (t' := s.toks) (fun _ _ => sortedAll_old) hf ⟨?_, _, n, y1, hn⟩, rfl, q _ ys _ (I.hok.fresh hf) (List.mergeSort_perm _ _) y2⟩
    have hl2 := y1.length
    have := rv.length
    have := e1.length
    omega
end E

set_option Elab.async false
set_option linter.all false
set_option maxRecDepth 100000
set_option maxHeartbeats 4000000
namespace E
open PySem PySem.Spec PyProof.Rows L2
abbrev topS (i : Nat) : Stmt := PySem.Challenge.pw_elsewhere_k11_frames.main.body.getD i (.Pass ⟨0, 0, 0, 0⟩)
abbrev s_is_frame : Stmt := topS 1
theorem sc_is_frame : FnScope ["frame", "worlds", "pairs", "pair", "k"] ["frame"] (defScope s_is_frame) := ⟨rfl, rfl, rfl, by decide +kernel, rfl, by decide +kernel, by decide +kernel⟩
abbrev s_is_pair : Stmt := topS 2
theorem sc_is_pair : FnScope ["pair", "worlds", "v", "w"] ["pair", "worlds"] (defScope s_is_pair) := ⟨rfl, rfl, rfl, by decide +kernel, rfl, by decide +kernel, by decide +kernel⟩
abbrev s_is_integer : Stmt := topS 3
theorem sc_is_integer : FnScope ["value"] ["value"] (defScope s_is_integer) := ⟨rfl, rfl, rfl, by decide +kernel, rfl, by decide +kernel, by decide +kernel⟩
abbrev s_rows_of : Stmt := topS 4
theorem sc_rows_of : FnScope ["frame", "rows", "v", "w"] ["frame"] (defScope s_rows_of) := ⟨rfl, rfl, rfl, by decide +kernel, rfl, by decide +kernel, by decide +kernel⟩
abbrev s_reached : Stmt := topS 5
theorem sc_reached : FnScope ["rows", "start", "found", "waiting", "v", "w"] ["rows", "start"] (defScope s_reached) := ⟨rfl, rfl, rfl, by decide +kernel, rfl, by decide +kernel, by decide +kernel⟩
abbrev s_closed : Stmt := topS 6
theorem sc_closed : FnScope ["frame", "reflexive", "transitive", "worlds", "_", "rows", "pairs", "v", "row", "w"] ["frame", "reflexive", "transitive"] (defScope s_closed) := ⟨rfl, rfl, rfl, by decide +kernel, rfl, by decide +kernel, by decide +kernel⟩
abbrev s_law_pool : Stmt := topS 8
theorem sc_law_pool : FnScope ["script", "salt", "cell"] ["script"] (defScope s_law_pool) := ⟨rfl, rfl, rfl, by decide +kernel, rfl, by decide +kernel, by decide +kernel⟩
abbrev s_law_spread : Stmt := topS 9
theorem sc_law_spread : FnScope ["cell", "mixed", "total", "k"] ["cell"] (defScope s_law_spread) := ⟨rfl, rfl, rfl, by decide +kernel, rfl, by decide +kernel, by decide +kernel⟩
abbrev s_law_draw : Stmt := topS 10
theorem sc_law_draw : FnScope ["pool", "many", "cell", "mixed", "value"] ["pool", "many"] (defScope s_law_draw) := ⟨rfl, rfl, rfl, by decide +kernel, rfl, by decide +kernel, by decide +kernel⟩
abbrev s_law_same : Stmt := topS 11
theorem sc_law_same : FnScope ["actual", "due", "k"] ["actual", "due"] (defScope s_law_same) := ⟨rfl, rfl, rfl, by decide +kernel, rfl, by decide +kernel, by decide +kernel⟩
abbrev s_law_wide_model : Stmt := topS 12
theorem sc_law_wide_model : FnScope ["pool", "most", "worlds", "dense", "seen", "values", "name", "v", "w"] ["pool", "most"] (defScope s_law_wide_model) := ⟨rfl, rfl, rfl, by decide +kernel, rfl, by decide +kernel, by decide +kernel⟩
abbrev s_law_grid : Stmt := topS 13
theorem sc_law_grid : FnScope ["first", "second", "found", "v", "w"] ["first", "second"] (defScope s_law_grid) := ⟨rfl, rfl, rfl, by decide +kernel, rfl, by decide +kernel, by decide +kernel⟩
abbrev s_law_framed : Stmt := topS 14
theorem sc_law_framed : FnScope ["seen", "pairs", "pair"] ["seen"] (defScope s_law_framed) := ⟨rfl, rfl, rfl, by decide +kernel, rfl, by decide +kernel, by decide +kernel⟩
abbrev s_law_closing : Stmt := topS 15
theorem sc_law_closing : FnScope ["seen", "reflexive", "transitive", "rows", "every", "v", "u", "w", "row"] ["seen", "reflexive", "transitive"] (defScope s_law_closing) := ⟨rfl, rfl, rfl, by decide +kernel, rfl, by decide +kernel, by decide +kernel⟩
abbrev s_law : Stmt := topS 16
theorem sc_law : FnScope ["script", "pool", "seen", "worlds", "frame", "way", "due", "pairs", "turn", "at", "good"] ["script"] (defScope s_law) := ⟨rfl, rfl, rfl, by decide +kernel, rfl, by decide +kernel, by decide +kernel⟩
structure Top (K : PySem.W.Frag) (mg : Str → Option Value) where
  f_is_frame : Addr
  d_is_frame : FuncData
  F_is_frame : Fun K "is_frame" "is_frame" s_is_frame f_is_frame d_is_frame
  b_is_frame : Binds K d_is_frame ["frame"] []
  m_is_frame : mg "is_frame" = some (.ref f_is_frame)
  f_is_pair : Addr
  d_is_pair : FuncData
  F_is_pair : Fun K "_is_pair" "_is_pair" s_is_pair f_is_pair d_is_pair
  b_is_pair : Binds K d_is_pair ["pair", "worlds"] []
  m_is_pair : mg "_is_pair" = some (.ref f_is_pair)
  f_is_integer : Addr
  d_is_integer : FuncData
  F_is_integer : Fun K "_is_integer" "_is_integer" s_is_integer f_is_integer d_is_integer
  b_is_integer : Binds K d_is_integer ["value"] []
  m_is_integer : mg "_is_integer" = some (.ref f_is_integer)
  f_rows_of : Addr
  d_rows_of : FuncData
  F_rows_of : Fun K "rows_of" "rows_of" s_rows_of f_rows_of d_rows_of
  b_rows_of : Binds K d_rows_of ["frame"] []
  m_rows_of : mg "rows_of" = some (.ref f_rows_of)
  f_reached : Addr
  d_reached : FuncData
  F_reached : Fun K "reached" "reached" s_reached f_reached d_reached
  b_reached : Binds K d_reached ["rows", "start"] []
  m_reached : mg "reached" = some (.ref f_reached)
  f_closed : Addr
  d_closed : FuncData
  F_closed : Fun K "closed" "closed" s_closed f_closed d_closed
  b_closed : Binds K d_closed ["frame", "reflexive", "transitive"] []
  m_closed : mg "closed" = some (.ref f_closed)
  f_law_pool : Addr
  d_law_pool : FuncData
  F_law_pool : Fun K "_law_pool" "_law_pool" s_law_pool f_law_pool d_law_pool
  b_law_pool : Binds K d_law_pool ["script"] []
  m_law_pool : mg "_law_pool" = some (.ref f_law_pool)
  f_law_spread : Addr
  d_law_spread : FuncData
  F_law_spread : Fun K "_law_spread" "_law_spread" s_law_spread f_law_spread d_law_spread
  b_law_spread : Binds K d_law_spread ["cell"] []
  m_law_spread : mg "_law_spread" = some (.ref f_law_spread)
  f_law_draw : Addr
  d_law_draw : FuncData
  F_law_draw : Fun K "_law_draw" "_law_draw" s_law_draw f_law_draw d_law_draw
  b_law_draw : Binds K d_law_draw ["pool", "many"] []
  m_law_draw : mg "_law_draw" = some (.ref f_law_draw)
  f_law_same : Addr
  d_law_same : FuncData
  F_law_same : Fun K "_law_same" "_law_same" s_law_same f_law_same d_law_same
  b_law_same : Binds K d_law_same ["actual", "due"] []
  m_law_same : mg "_law_same" = some (.ref f_law_same)
  f_law_wide_model : Addr
  d_law_wide_model : FuncData
  F_law_wide_model : Fun K "_law_wide_model" "_law_wide_model" s_law_wide_model f_law_wide_model d_law_wide_model
  b_law_wide_model : Binds K d_law_wide_model ["pool", "most"] []
  m_law_wide_model : mg "_law_wide_model" = some (.ref f_law_wide_model)
  f_law_grid : Addr
  d_law_grid : FuncData
  F_law_grid : Fun K "_law_grid" "_law_grid" s_law_grid f_law_grid d_law_grid
  b_law_grid : Binds K d_law_grid ["first", "second"] []
  m_law_grid : mg "_law_grid" = some (.ref f_law_grid)
  f_law_framed : Addr
  d_law_framed : FuncData
  F_law_framed : Fun K "_law_framed" "_law_framed" s_law_framed f_law_framed d_law_framed
  b_law_framed : Binds K d_law_framed ["seen"] []
  m_law_framed : mg "_law_framed" = some (.ref f_law_framed)
  f_law_closing : Addr
  d_law_closing : FuncData
  F_law_closing : Fun K "_law_closing" "_law_closing" s_law_closing f_law_closing d_law_closing
  b_law_closing : Binds K d_law_closing ["seen", "reflexive", "transitive"] []
  m_law_closing : mg "_law_closing" = some (.ref f_law_closing)
  f_law : Addr
  d_law : FuncData
  F_law : Fun K "law" "law" s_law f_law d_law
  b_law : Binds K d_law ["script"] []
  m_law : mg "law" = some (.ref f_law)
  z_bool : mg "bool" = none
  z_int : mg "int" = none
  z_isinstance : mg "isinstance" = none
  z_len : mg "len" = none
  z_list : mg "list" = none
  z_range : mg "range" = none
  z_set : mg "set" = none
  z_sorted : mg "sorted" = none
  z_str : mg "str" = none
  z_tuple : mg "tuple" = none
section
variable {P : Program} {w : World} {K : PySem.W.Frag} {mg : Str → Option Value} {base : Heap}
/-! ### the pool -/
def spPool (K : PySem.W.Frag) : Sp := fun vs H Q _ => ∃ (a : Addr) (ns : List Int), vs = [.ref a] ∧ SqL K H a (ns.map V.int) ∧
  ∀ (p l : Addr) (H' : Hp), H p = none → Same H H' → Pl K H' p l → Q (.ref p) H'
theorem ok_law_pool (T : Top K mg) : FnOk P w K mg base CX0 1 T.f_law_pool T.d_law_pool ["script"] (spPool K) := by
  refine T.F_law_pool.ok sc_law_pool (fun vs H Q E h => ?_) (fun cdv A outer s H vs Q E hr h => ?_)
  · obtain ⟨a, ns, rfl, _⟩ := h
    rfl
  obtain ⟨a, ns, rfl, hS, q⟩ := h
  refine ⟨_, (pss_cons (ps_set (i := 1) sc_law_pool.nd rfl (.inl rfl) pe_int)
    (pss_cons (ps_for PassesOwn.never rfl (pi_list (pe_slice sl_list (pv 0) po_none (po_some pe_int))) (pg_name (i := 2) sc_law_pool.nd rfl (.inl rfl))
      (pss_one (ps_set (i := 1) sc_law_pool.nd rfl (.inl rfl) (pe_op op_mod (pe_callTy call_int1 (by rfl) T.z_int (by decide +kernel) (pa_cons (pe_op op_add (pe_op op_mul (pv 1) pe_int) (pv 2)) pa_nil)) pe_int))))
    (pss_one (ps_ret (pe_lst (pa_cons (pe_callTy call_list_of (by rfl) T.z_list (by decide +kernel) (pa_cons (pv 0) pa_nil)) (pa_cons pe_int (pa_cons pe_int (pa_cons pe_int (pa_cons (pv 1) pa_nil)))))))))), ?_⟩
  refine ⟨_, rfl, 63, rfl, a, ns.map V.int, rfl, hS, fun c nc => ?_⟩
  have s1 : Same H (upd H c (.lst (cutV (ns.map V.int) none (some 63)))) := same_new nc
  obtain ⟨ms, hms⟩ : ∃ ms : List Int, cutV (ns.map V.int) none (some 63) = ms.map V.int := ⟨_, by unfold cutV; rw [← List.map_drop, ← List.map_take]⟩
  rw [hms] at s1 ⊢
  refine ⟨c, rfl, ⟨_, SqL.of upd_same⟩, for_list (K := K) (a := c) (xs := ms.map V.int) (fun i σ H2 => ∃ (z : Int) (v : Option V), σ = [some (.ref a), some (.int z), v] ∧ H2 = upd H c (.lst (ms.map V.int))) ⟨7, none, rfl, rfl⟩ (fun i σ H2 _ h => by
    obtain ⟨_, _, _, rfl⟩ := h
    exact SqL.of upd_same) ?_ ?_⟩
  · rintro i x σ H2 hx ⟨z, v, rfl, rfl⟩
    obtain ⟨y, rfl⟩ : ∃ y, x = V.int y := by
      rw [List.getElem?_map] at hx
      cases e : ms[i]? with
      | none => rw [e] at hx; cases hx
      | some y => rw [e] at hx; exact ⟨y, (Option.some.inj hx).symm⟩
    refine ⟨_, rfl, _, _, rfl, rfl, .inr ⟨by decide, by decide⟩, _, rfl, _, _, rfl, rfl, .inl ⟨_, rfl, _, _, rfl, rfl, (by show (0 : Int) < 1000003; decide), _, _, rfl, rfl⟩⟩
  · rintro σ H2 ⟨z, v, rfl, rfl⟩
    refine ⟨_, rfl, a, _, rfl, .inl (s1.seq hS), fun l nl => ?_⟩
    refine ⟨_, rfl, (by show 5 ≤ sizeLine; decide), fun p np => ?_⟩
    have s2 := s1.trans (same_new (o := .lst (ns.map V.int)) nl)
    have s3 := s2.trans (same_new (o := .lst [.ref l, .int 0, .int 0, .int 0, .int z]) np)
    have hl : (upd (upd H c (.lst (ms.map V.int))) l (.lst (ns.map V.int))) l = some (.lst (ns.map V.int)) := upd_same
    have nlp : l ≠ p := ne_of_none hl np
    exact q p l _ (s2.free np) s3 ⟨⟨ns, SqL.of (by rw [upd_ne nlp]; exact hl)⟩, nlp, 0, 0, 0, z, upd_same, Int.le_refl 0⟩
/-! ### numbers out of the pool -/
def spSpread (K : PySem.W.Frag) : Sp := fun vs H Q _ => ∃ (c : Int), vs = [.int c] ∧ ∀ n : Int, Q (.int n) H
theorem ok_law_spread (T : Top K mg) : FnOk P w K mg base CX0 1 T.f_law_spread T.d_law_spread ["cell"] (spSpread K) := by
  refine T.F_law_spread.ok sc_law_spread (fun vs H Q E h => ?_) (fun cdv A outer s H vs Q E hr h => ?_)
  · obtain ⟨c, rfl, _⟩ := h
    rfl
  obtain ⟨c, rfl, q⟩ := h
  refine ⟨_, (pss_cons (ps_set (i := 1) sc_law_spread.nd rfl (.inl rfl) (pe_op op_mod (pe_callTy call_int1 (by rfl) T.z_int (by decide +kernel) (pa_cons (pv 0) pa_nil)) pe_int))
    (pss_cons (ps_set (i := 2) sc_law_spread.nd rfl (.inl rfl) pe_int)
    (pss_cons (ps_for PassesOwn.never rfl (pi_range1 (by rfl) T.z_range (pa_cons pe_int pa_nil)) (pg_name (i := 3) sc_law_spread.nd rfl (.inl rfl))
      (pss_cons (ps_set (i := 1) sc_law_spread.nd rfl (.inl rfl) (pe_op op_mod (pe_callTy call_int1 (by rfl) T.z_int (by decide +kernel) (pa_cons (pe_op op_add (pe_op op_add (pe_op op_mul (pv 1) pe_int) pe_int) (pv 3)) pa_nil)) pe_int))
    (pss_one (ps_set (i := 2) sc_law_spread.nd rfl (.inl rfl) (pe_op op_add (pe_op op_mul (pv 2) pe_int) (pv 1))))))
    (pss_one (ps_ret (pv 2)))))), ?_⟩
  refine ⟨_, rfl, .inl ⟨_, rfl, _, _, rfl, rfl, (by show (0 : Int) < 2147483647; decide), ?_⟩⟩
  refine ⟨4, rfl, by decide, by decide, for_range (n := 4) (fun i σ H2 => ∃ (m t : Int) (v : Option V), σ = [some (.int c), some (.int m), some (.int t), v] ∧ H2 = H) ⟨_, _, none, rfl, rfl⟩ ?_ ?_⟩
  · rintro i σ H2 hi ⟨m, t, v, rfl, rfl⟩
    refine ⟨_, rfl, _, _, rfl, rfl, .inr ⟨by decide, by decide⟩, _, _, rfl, rfl, _, rfl, _, _, rfl, rfl, .inl ⟨_, rfl, _, _, rfl, rfl, (by show (0 : Int) < 2147483647; decide), ?_⟩⟩
    exact ⟨_, rfl, _, _, rfl, rfl, .inr ⟨by decide, by decide⟩, _, rfl, _, _, rfl, rfl, _, _, _, rfl, rfl⟩
  · rintro σ H2 ⟨m, t, v, rfl, rfl⟩
    exact ⟨_, rfl, q _⟩
def spDraw (K : PySem.W.Frag) : Sp := fun vs H Q _ => ∃ (p l : Addr) (m : Int), vs = [.ref p, .int m] ∧ Pl K H p l ∧ 0 < m ∧ m < 1073741824 ∧
  ∀ (r : Int) (H' : Hp), 0 ≤ r → r < m → Kp p H H' → Pl K H' p l → Q (.int r) H'
theorem ok_law_draw (T : Top K mg) : FnOk P w K mg base CX0 2 T.f_law_draw T.d_law_draw ["pool", "many"] (spDraw K) := by
  have G_law_spread : FnOk P w K mg base CX0 1 T.f_law_spread T.d_law_spread ["cell"] (spSpread K) := ok_law_spread T
  refine T.F_law_draw.ok sc_law_draw (fun vs H Q E h => ?_) (fun cdv A outer s H vs Q E hr h => ?_)
  · obtain ⟨p, l, m, rfl, _⟩ := h
    rfl
  obtain ⟨p, l, m, rfl, hP, m0, m1, q⟩ := h
  refine ⟨_, (C8.pss_cut (ps_if (PW.pt (pw_and (pt_cmpR op_le (pe_ix ix_list (pv 0) pe_int (fun _ _ => rfl)) pe_int (nomark _)) (pw_and1 (pt_cmpR op_lt (pe_ix ix_list (pv 0) pe_int (fun _ _ => rfl)) (pe_callB call_len_seq (by rfl) T.z_len PySem.boot_len (pa_cons (pe_ix ix_list (pv 0) pe_int (fun _ _ => rfl)) pa_nil)) (nomark _)))))
      (pss_cons (ps_set (i := 2) sc_law_draw.nd rfl (.inl rfl) (pe_ix ix_list (pe_ix ix_list (pv 0) pe_int (fun _ _ => rfl)) (pe_ix ix_list (pv 0) pe_int (fun _ _ => rfl)) (fun _ _ => rfl)))
    (pss_cons (ps_asg (pe_op op_add (pe_ix ix_list (pv 0) pe_int (fun _ _ => rfl)) pe_int) (pg_sub (pv 0) pe_int set_list))
    (pss_cons (ps_asg (pv 2) (pg_sub (pv 0) pe_int set_list))
    (pss_one (ps_if (pt_cmpR op_lt (pv 2) pe_int (nomark _))
      (pss_one (ps_asg (pe_call G_law_spread (hr.mono (by omega)) (by rfl) T.m_law_spread T.F_law_spread.kp T.b_law_spread .nil pass0 (pa_cons (pv 2) pa_nil)) (pg_sub (pv 0) pe_int set_list)))
      pss_nil)))))
      pss_nil)
    (pss_cons (ps_asg (pe_op op_add (pe_ix ix_list (pv 0) pe_int (fun _ _ => rfl)) pe_int) (pg_sub (pv 0) pe_int set_list))
    (pss_cons (ps_if (pt_cmpR op_le (pe_ix ix_list (pv 0) pe_int (fun _ _ => rfl)) pe_int (nomark _))
      (pss_cons (ps_set (i := 3) sc_law_draw.nd rfl (.inl rfl) (pe_op op_mod (pe_callTy call_int1 (by rfl) T.z_int (by decide +kernel) (pa_cons (pe_op op_add (pe_op op_add (pe_op op_mul (pe_ix ix_list (pv 0) pe_int (fun _ _ => rfl)) pe_int) (pe_op op_mul (pe_ix ix_list (pv 0) pe_int (fun _ _ => rfl)) pe_int)) pe_int) pa_nil)) pe_int))
    (pss_cons (ps_set (i := 3) sc_law_draw.nd rfl (.inl rfl) (pe_op op_mod (pe_callTy call_int1 (by rfl) T.z_int (by decide +kernel) (pa_cons (pe_op op_add (pe_op op_mul (pv 3) pe_int) (pe_ix ix_list (pv 0) pe_int (fun _ _ => rfl))) pa_nil)) pe_int))
    (pss_one (ps_ret (pe_op op_mod (pe_op op_fdiv (pv 3) pe_int) (pv 1))))))
      pss_nil)
    (pss_cons (ps_set (i := 4) sc_law_draw.nd rfl (.inl rfl) (pe_op op_mod (pe_callTy call_int1 (by rfl) T.z_int (by decide +kernel) (pa_cons (pe_ix ix_list (pv 0) pe_int (fun _ _ => rfl)) pa_nil)) (pv 1)))
    (pss_cons (ps_asg (pe_op op_fdiv (pe_ix ix_list (pv 0) pe_int (fun _ _ => rfl)) (pv 1)) (pg_sub (pv 0) pe_int set_list))
    (pss_one (ps_ret (pv 4)))))))), ?_⟩
  obtain ⟨i, r, c, s, hp, hi⟩ := hP.at5
  obtain ⟨cs, hl⟩ := hP.sq
  -- the first if: a new number may be taken
  refine ⟨fun σ H1 => ∃ (i r : Int) (v2 v3 v4 : Option V), σ = [some (.ref p), some (.int m), v2, v3, v4] ∧ H1 = upd H p (.lst [.ref l, .int i, .int r, .int c, .int s]) ∧ 0 ≤ i, ?_, ?_⟩
  · have upd0 : upd H p (.lst [.ref l, .int i, .int r, .int c, .int s]) = H := by
      funext b
      by_cases e : b = p
      · rw [e, upd_same, hp]
      · rw [upd_ne e]
    refine ⟨_, rfl, p, _, 2, _, rfl, rfl, SqL.of hp, atI_nat (j := 2) rfl, _, _, rfl, rfl, _, rfl, ite2 (fun c1 => ?_) (fun c1 => iteF ?_)⟩
    · refine ⟨_, rfl, p, _, 1, _, rfl, rfl, SqL.of hp, atI_nat (j := 1) rfl, _, rfl, p, _, 0, _, rfl, rfl, SqL.of hp, atI_nat (j := 0) rfl, l, _, rfl, .inl hl, _, _, rfl, rfl, _, rfl, ite2 (fun c2 => ?_) (fun c2 => ?_)⟩
      · have c2' : i < ((cs.map V.int).length : Int) := of_decide_eq_true c2
        rw [List.length_map] at c2'
        have g : atI (cs.map V.int) i = some (.int cs[i.toNat]) := by
          have e := atI_nat (xs := cs.map V.int) (j := i.toNat) (v := .int cs[i.toNat]) (by rw [List.getElem?_map, List.getElem?_eq_getElem (by omega)]; rfl)
          rw [show ((i.toNat : Nat) : Int) = i by omega] at e
          exact e
        generalize cs[i.toNat] = z at g
        refine ⟨_, rfl, p, _, 0, _, rfl, rfl, SqL.of hp, atI_nat (j := 0) rfl, _, rfl, p, _, 1, _, rfl, rfl, SqL.of hp, atI_nat (j := 1) rfl, l, _, i, .int z, rfl, rfl, hl, g, ?_⟩
        refine ⟨_, rfl, p, _, 1, _, rfl, rfl, SqL.of hp, atI_nat (j := 1) rfl, _, _, rfl, rfl, _, rfl, p, _, 1, 1, rfl, rfl, hp, rfl, ?_⟩
        refine ⟨_, rfl, _, rfl, p, _, 2, 2, rfl, rfl, upd_same, rfl, ?_⟩
        rw [upd_upd]
        refine ⟨_, rfl, _, _, rfl, rfl, _, rfl, ite2 (fun c3 => ?_) (fun c3 => ?_)⟩
        · refine ⟨_, rfl, z, rfl, fun n => ⟨_, rfl, p, _, 2, 2, rfl, rfl, upd_same, rfl, ?_⟩⟩
          rw [upd_upd]
          exact ⟨i + 1, n, some (.int z), none, none, rfl, rfl, by omega⟩
        · exact ⟨i + 1, z, some (.int z), none, none, rfl, rfl, by omega⟩
      · exact ⟨i, r, none, none, none, rfl, upd0.symm, hi⟩
    · exact ⟨i, r, none, none, none, rfl, upd0.symm, hi⟩
  · rintro σ H1 ⟨i, r, v2, v3, v4, rfl, rfl, hi⟩
    refine ⟨_, rfl, p, _, 3, _, rfl, rfl, SqL.of upd_same, atI_nat (j := 3) rfl, _, _, rfl, rfl, _, rfl, p, _, 3, 3, rfl, rfl, upd_same, rfl, ?_⟩
    rw [upd_upd]
    refine ⟨_, rfl, p, _, 2, _, rfl, rfl, SqL.of upd_same, atI_nat (j := 2) rfl, _, _, rfl, rfl, _, rfl, ite2 (fun c1 => ?_) (fun c1 => ?_)⟩
    · refine ⟨_, rfl, p, _, 4, _, rfl, rfl, SqL.of upd_same, atI_nat (j := 4) rfl, _, _, rfl, rfl, .inr ⟨by decide, by decide⟩, _, rfl, p, _, 3, _, rfl, rfl, SqL.of upd_same, atI_nat (j := 3) rfl, _, _, rfl, rfl, .inr ⟨by decide, by decide⟩, _, _, rfl, rfl, _, _, rfl, rfl, .inl ⟨_, rfl, _, _, rfl, rfl, (by show (0 : Int) < 2147483647; decide), ?_⟩⟩
      refine ⟨_, rfl, _, _, rfl, rfl, .inr ⟨by decide, by decide⟩, _, rfl, p, _, 3, _, rfl, rfl, SqL.of upd_same, atI_nat (j := 3) rfl, _, _, rfl, rfl, .inl ⟨_, rfl, _, _, rfl, rfl, (by show (0 : Int) < 2147483629; decide), ?_⟩⟩
      refine ⟨_, rfl, _, _, rfl, rfl, ⟨by decide, by decide⟩, _, rfl, _, _, rfl, rfl, m0, ?_⟩
      exact q _ _ (Int.emod_nonneg _ (by omega)) (Int.emod_lt_of_pos _ m0) Kp.upd (hP.turn hi)
    · refine ⟨_, rfl, p, _, 2, _, rfl, rfl, SqL.of upd_same, atI_nat (j := 2) rfl, .inl ⟨_, rfl, _, rfl, _, _, rfl, rfl, m0, ?_⟩⟩
      refine ⟨_, rfl, p, _, 2, _, rfl, rfl, SqL.of upd_same, atI_nat (j := 2) rfl, _, rfl, _, _, rfl, rfl, ⟨m0, m1⟩, _, rfl, p, _, 2, 2, rfl, rfl, upd_same, rfl, _, rfl, ?_⟩
      rw [upd_upd]
      exact q _ _ (Int.emod_nonneg _ (by omega)) (Int.emod_lt_of_pos _ m0) Kp.upd (hP.turn hi)

/-! ### the law's own comparison: of a thing with itself it says True -/
def spSame (K : PySem.W.Frag) (n : Nat) : Sp := fun vs H Q _ => ∃ (x y : V) (d : PyData), vs = [x, y] ∧ Dp K H x d ∧ Dp K H y d ∧ d.depth < n ∧ sml d ∧ Q (.bl true) H
theorem ok_law_same (T : Top K mg) : ∀ n : Nat, FnOk P w K mg base CX0 n T.f_law_same T.d_law_same ["actual", "due"] (spSame K n) := by
  intro n
  induction n with
  | zero =>
    refine fn_none fun vs H Q E h => ?_
    obtain ⟨x, y, d, _, _, _, h, _⟩ := h
    exact absurd h (Nat.not_lt_zero _)
  | succ n G_law_same =>
    refine T.F_law_same.ok sc_law_same (fun vs H Q E h => ?_) (fun cdv A outer s H vs Q E hr h => ?_)
    · obtain ⟨x, y, d, rfl, _⟩ := h
      rfl
    obtain ⟨x, y, d, rfl, hx, hy, hd, hm, q⟩ := h
    refine ⟨_, (pss_cons (ps_if (PW.pt (pw_or (pt_val (pe_callB call_isi (by rfl) T.z_isinstance (by decide +kernel) (pa_cons (pv 1) (pa_cons (pe_bltn (v := .ty "tuple") (by rfl) T.z_tuple (by decide +kernel) rfl) pa_nil)))) (pw_or1 (pt_val (pe_callB call_isi (by rfl) T.z_isinstance (by decide +kernel) (pa_cons (pv 1) (pa_cons (pe_bltn (v := .ty "list") (by rfl) T.z_list (by decide +kernel) rfl) pa_nil)))))))
      (pss_cons (ps_if (PW.pt (pw_or (pt_cmpR op_ne (pe_callB call_isi (by rfl) T.z_isinstance (by decide +kernel) (pa_cons (pv 1) (pa_cons (pe_bltn (v := .ty "tuple") (by rfl) T.z_tuple (by decide +kernel) rfl) pa_nil))) (pe_callB call_isi (by rfl) T.z_isinstance (by decide +kernel) (pa_cons (pv 0) (pa_cons (pe_bltn (v := .ty "tuple") (by rfl) T.z_tuple (by decide +kernel) rfl) pa_nil))) (nomark _)) (pw_or1 (pt_cmpR op_ne (pe_callB call_isi (by rfl) T.z_isinstance (by decide +kernel) (pa_cons (pv 1) (pa_cons (pe_bltn (v := .ty "list") (by rfl) T.z_list (by decide +kernel) rfl) pa_nil))) (pe_callB call_isi (by rfl) T.z_isinstance (by decide +kernel) (pa_cons (pv 0) (pa_cons (pe_bltn (v := .ty "list") (by rfl) T.z_list (by decide +kernel) rfl) pa_nil))) (nomark _)))))
      (pss_one (ps_ret pe_bl))
      pss_nil)
    (pss_cons (ps_if (pt_cmpR op_ne (pe_callB call_len_seq (by rfl) T.z_len PySem.boot_len (pa_cons (pv 0) pa_nil)) (pe_callB call_len_seq (by rfl) T.z_len PySem.boot_len (pa_cons (pv 1) pa_nil)) (nomark _))
      (pss_one (ps_ret pe_bl))
      pss_nil)
    (pss_cons (ps_for PassesOwn.never rfl (pi_range1 (by rfl) T.z_range (pa_cons (pe_callB call_len_seq (by rfl) T.z_len PySem.boot_len (pa_cons (pv 1) pa_nil)) pa_nil)) (pg_name (i := 2) sc_law_same.nd rfl (.inl rfl))
      (pss_one (ps_if (pt_not (pt_val (pe_call G_law_same (hr.mono (by omega)) (by rfl) T.m_law_same T.F_law_same.kp T.b_law_same .nil pass0 (pa_cons (pe_ix ix_seq (pv 0) (pv 2) (fun _ _ => rfl)) (pa_cons (pe_ix ix_seq (pv 1) (pv 2) (fun _ _ => rfl)) pa_nil)))))
      (pss_one (ps_ret pe_bl))
      pss_nil)))
    (pss_one (ps_ret pe_bl)))))
      pss_nil)
    (pss_cons (ps_if (pt_cmpR op_isN1 (pv 1) pe_non (nomark _))
      (pss_one (ps_ret (pe_cmpR op_isN1 (pv 0) pe_non (nomark _))))
      pss_nil)
    (pss_cons (ps_if (pt_val (pe_callB call_isi (by rfl) T.z_isinstance (by decide +kernel) (pa_cons (pv 1) (pa_cons (pe_bltn (v := .ty "bool") (by rfl) T.z_bool (by decide +kernel) rfl) pa_nil))))
      (pss_one (ps_ret (pe_and (pe_callB call_isi (by rfl) T.z_isinstance (by decide +kernel) (pa_cons (pv 0) (pa_cons (pe_bltn (v := .ty "bool") (by rfl) T.z_bool (by decide +kernel) rfl) pa_nil))) (pe_one (pe_cmpR op_eq (pv 0) (pv 1) (nomark _))))))
      pss_nil)
    (pss_cons (ps_if (pt_val (pe_callB call_isi (by rfl) T.z_isinstance (by decide +kernel) (pa_cons (pv 1) (pa_cons (pe_bltn (v := .ty "int") (by rfl) T.z_int (by decide +kernel) rfl) pa_nil))))
      (pss_one (ps_ret (pe_and (pe_callB call_isi (by rfl) T.z_isinstance (by decide +kernel) (pa_cons (pv 0) (pa_cons (pe_bltn (v := .ty "int") (by rfl) T.z_int (by decide +kernel) rfl) pa_nil))) (pe_and (pe_not (pe_callB call_isi (by rfl) T.z_isinstance (by decide +kernel) (pa_cons (pv 0) (pa_cons (pe_bltn (v := .ty "bool") (by rfl) T.z_bool (by decide +kernel) rfl) pa_nil)))) (pe_one (pe_cmpR op_eq (pv 0) (pv 1) (nomark _)))))))
      pss_nil)
    (pss_one (ps_ret (pe_and (pe_callB call_isi (by rfl) T.z_isinstance (by decide +kernel) (pa_cons (pv 0) (pa_cons (pe_bltn (v := .ty "str") (by rfl) T.z_str (by decide +kernel) rfl) pa_nil))) (pe_one (pe_cmpR op_eq (pv 0) (pv 1) (nomark _)))))))))), ?_⟩
    cases d with
    | none =>
      cases hx; cases hy
      have t : TyX K H .non (.type "NoneType") := .base .non
      refine ⟨_, rfl, _, _, _, _, _, rfl, .ty _, t, kB false (by decide +kernel), _, rfl, iteF ⟨_, rfl, _, _, _, _, _, rfl, .ty _, t, kB false (by decide +kernel), _, rfl, iteF ?_⟩⟩
      exact ⟨_, rfl, rfl, _, rfl, iteT ⟨_, rfl, rfl, q⟩⟩
    | bool b =>
      cases hx; cases hy
      have t : TyX K H (.bl b) (.type "bool") := .base (.bl b)
      refine ⟨_, rfl, _, _, _, _, _, rfl, .ty _, t, kB false (by decide +kernel), _, rfl, iteF ⟨_, rfl, _, _, _, _, _, rfl, .ty _, t, kB false (by decide +kernel), _, rfl, iteF ?_⟩⟩
      refine ⟨_, rfl, rfl, _, rfl, iteF ⟨_, rfl, _, _, _, _, _, rfl, .ty _, t, kB true (by decide +kernel), _, rfl, iteT ⟨_, rfl, _, _, _, _, _, rfl, .ty _, t, kB true (by decide +kernel), _, rfl, iteT ⟨_, rfl, _, rfl, rfl, ?_⟩⟩⟩⟩
      rw [decide_eq_true rfl]
      exact q
    | int i =>
      cases hx; cases hy
      have t : TyX K H (.int i) (.type "int") := .base (.int i)
      refine ⟨_, rfl, _, _, _, _, _, rfl, .ty _, t, kB false (by decide +kernel), _, rfl, iteF ⟨_, rfl, _, _, _, _, _, rfl, .ty _, t, kB false (by decide +kernel), _, rfl, iteF ?_⟩⟩
      refine ⟨_, rfl, rfl, _, rfl, iteF ⟨_, rfl, _, _, _, _, _, rfl, .ty _, t, kB false (by decide +kernel), _, rfl, iteF ⟨_, rfl, _, _, _, _, _, rfl, .ty _, t, kB true (by decide +kernel), _, rfl, iteT ?_⟩⟩⟩
      refine ⟨_, rfl, _, _, _, _, _, rfl, .ty _, t, kB true (by decide +kernel), _, rfl, iteT ⟨_, rfl, _, _, _, _, _, rfl, .ty _, t, kB false (by decide +kernel), _, rfl, _, rfl, iteT ⟨_, rfl, _, rfl, rfl, ?_⟩⟩⟩
      rw [decide_eq_true rfl]
      exact q
    | str z =>
      cases hx; cases hy
      have t : TyX K H (.str z) (.type "str") := .base (.str z)
      refine ⟨_, rfl, _, _, _, _, _, rfl, .ty _, t, kB false (by decide +kernel), _, rfl, iteF ⟨_, rfl, _, _, _, _, _, rfl, .ty _, t, kB false (by decide +kernel), _, rfl, iteF ?_⟩⟩
      refine ⟨_, rfl, rfl, _, rfl, iteF ⟨_, rfl, _, _, _, _, _, rfl, .ty _, t, kB false (by decide +kernel), _, rfl, iteF ⟨_, rfl, _, _, _, _, _, rfl, .ty _, t, kB false (by decide +kernel), _, rfl, iteF ?_⟩⟩⟩
      refine ⟨_, rfl, _, _, _, _, _, rfl, .ty _, t, kB true (by decide +kernel), _, rfl, iteT ⟨_, rfl, _, rfl, rfl, ?_⟩⟩
      rw [decide_eq_true rfl]
      exact q
    | dict kvs => cases hx
    | list ds =>
      cases hx with
      | @lst a xs _ h1 h2 =>
      cases hy with
      | @lst b ys _ h3 h4 =>
      have t1 := ty_list h1
      have t2 := ty_list h3
      have e1 := dpAll_len h2
      have e2 := dpAll_len h4
      have hd' : PyData.depthAll ds < n := by
        rw [PyData.depth] at hd
        omega
      rw [sml] at hm
      have hz : (ys.length : Int) < 2 ^ 62 := by
        have := hm.1
        omega
      refine ⟨_, rfl, _, _, _, _, _, rfl, .ty _, t2, kB false (by decide +kernel), _, rfl, iteF ⟨_, rfl, _, _, _, _, _, rfl, .ty _, t2, kB true (by decide +kernel), _, rfl, iteT ?_⟩⟩
      refine ⟨_, rfl, _, _, _, _, _, rfl, .ty _, t2, kB false (by decide +kernel), _, rfl, _, _, _, _, _, rfl, .ty _, t1, kB false (by decide +kernel), rfl, _, rfl, iteF ?_⟩
      refine ⟨_, rfl, _, _, _, _, _, rfl, .ty _, t2, kB true (by decide +kernel), _, rfl, _, _, _, _, _, rfl, .ty _, t1, kB true (by decide +kernel), rfl, _, rfl, iteF ?_⟩
      refine ⟨_, rfl, a, xs, rfl, .inl h1, _, rfl, b, ys, rfl, .inl h3, rfl, _, rfl, iteNS (by rw [e1, e2]) ?_⟩
      refine ⟨_, rfl, b, ys, rfl, .inl h3, _, rfl, (by omega), hz, for_range (n := (ys.length : Int).toNat) (fun i σ H2 => ∃ v : Option V, σ = [some (.ref a), some (.ref b), v] ∧ H2 = H) ⟨none, rfl, rfl⟩ ?_ ?_⟩
      · rintro i σ H2 hi ⟨v, rfl, rfl⟩
        have hi' : i < ds.length := by omega
        have g := List.getElem?_eq_getElem hi'
        generalize ds[i] = d at g
        obtain ⟨v1, g1, p1⟩ := dpAll_get h2 g
        obtain ⟨v2, g2, p2⟩ := dpAll_get h4 g
        have ei : (0 : Int) + (i : Nat) = ((i : Nat) : Int) := by omega
        have a1 : atI xs (0 + (i : Int)) = some v1 := by rw [ei]; exact atI_nat g1
        have a2 : atI ys (0 + (i : Int)) = some v2 := by rw [ei]; exact atI_nat g2
        refine ⟨_, rfl, _, rfl, .inl ⟨a, xs, _, v1, rfl, rfl, h1, a1, _, rfl, _, rfl, .inl ⟨b, ys, _, v2, rfl, rfl, h3, a2, v1, v2, d, rfl, p1, p2, Nat.lt_of_le_of_lt (depth_mem g) hd', sml_mem hm.2 g, ?_⟩⟩⟩
        exact ⟨_, rfl, iteF ⟨_, rfl, rfl⟩⟩
      · rintro σ H2 ⟨v, rfl, rfl⟩
        exact q
    | tuple ds =>
      cases hx with
      | @tup a xs _ h1 h2 =>
      cases hy with
      | @tup b ys _ h3 h4 =>
      have t1 := ty_tup h1
      have t2 := ty_tup h3
      have e1 := dpAll_len h2
      have e2 := dpAll_len h4
      have hd' : PyData.depthAll ds < n := by
        rw [PyData.depth] at hd
        omega
      rw [sml] at hm
      have hz : (ys.length : Int) < 2 ^ 62 := by
        have := hm.1
        omega
      refine ⟨_, rfl, _, _, _, _, _, rfl, .ty _, t2, kB true (by decide +kernel), _, rfl, iteT (iteT ?_)⟩
      refine ⟨_, rfl, _, _, _, _, _, rfl, .ty _, t2, kB true (by decide +kernel), _, rfl, _, _, _, _, _, rfl, .ty _, t1, kB true (by decide +kernel), rfl, _, rfl, iteF ?_⟩
      refine ⟨_, rfl, _, _, _, _, _, rfl, .ty _, t2, kB false (by decide +kernel), _, rfl, _, _, _, _, _, rfl, .ty _, t1, kB false (by decide +kernel), rfl, _, rfl, iteF ?_⟩
      refine ⟨_, rfl, a, xs, rfl, .inr h1, _, rfl, b, ys, rfl, .inr h3, rfl, _, rfl, iteNS (by rw [e1, e2]) ?_⟩
      refine ⟨_, rfl, b, ys, rfl, .inr h3, _, rfl, (by omega), hz, for_range (n := (ys.length : Int).toNat) (fun i σ H2 => ∃ v : Option V, σ = [some (.ref a), some (.ref b), v] ∧ H2 = H) ⟨none, rfl, rfl⟩ ?_ ?_⟩
      · rintro i σ H2 hi ⟨v, rfl, rfl⟩
        have hi' : i < ds.length := by omega
        have g := List.getElem?_eq_getElem hi'
        generalize ds[i] = d at g
        obtain ⟨v1, g1, p1⟩ := dpAll_get h2 g
        obtain ⟨v2, g2, p2⟩ := dpAll_get h4 g
        have ei : (0 : Int) + (i : Nat) = ((i : Nat) : Int) := by omega
        have a1 : atI xs (0 + (i : Int)) = some v1 := by rw [ei]; exact atI_nat g1
        have a2 : atI ys (0 + (i : Int)) = some v2 := by rw [ei]; exact atI_nat g2
        refine ⟨_, rfl, _, rfl, .inr (.inl ⟨a, xs, _, v1, rfl, rfl, h1, a1, _, rfl, _, rfl, .inr (.inl ⟨b, ys, _, v2, rfl, rfl, h3, a2, v1, v2, d, rfl, p1, p2, Nat.lt_of_le_of_lt (depth_mem g) hd', sml_mem hm.2 g, ?_⟩)⟩)⟩
        exact ⟨_, rfl, iteF ⟨_, rfl, rfl⟩⟩
      · rintro σ H2 ⟨v, rfl, rfl⟩
        exact q

/-! ### drawn frames and values -/
def rListOf (K : PySem.W.Frag) : List V → Hp → VK → Prop := fun xs H Q => ∃ p ys, xs = [V.ref p] ∧ (SqL K H p ys ∨ SqT K H p ys) ∧ ∀ (l : Addr), H l = none → Q (V.ref l) (upd H l (HO.lst ys))
theorem call_list_ofK {X : Cx} : CallR X (Value.type "list") (rListOf X.K) := call_list_of
def relab (sc scope : Scope) : Scope := { scope with names := scope.names.map fun (n, k) => if (k == .free && sc.kind == .function && sc.names.lookup n == some .cell) then (n, .cell) else (n, k) }
theorem relab_eq {scope sc : Scope} {x : Str} {L a : Addr} {cd : Value} : PySem.relabel scope (PyProof.Rows.envOfC x sc L a cd) = relab sc scope := rfl
def bg (R : Nat → Nat → Bool) (n i : Nat) : List V := (List.range n).map fun j => V.bl (R i j)
/-- the rows of a frame of n worlds, as lists of Bools -/
def GridAt (H : Hp) (s : Addr) (n : Nat) (R : Nat → Nat → Bool) : Prop := ∃ rs : List Addr, H s = some (.lst (rs.map V.ref)) ∧ rs.length = n ∧ rs.Nodup ∧ s ∉ rs ∧ ∀ i r, rs[i]? = some r → H r = some (.lst (bg R n i))
def sel (n : Nat) (f : Nat → Bool) : List V := ((List.range n).filter f).map fun w : Nat => V.int (w : Int)
/-- the values of the variables, as a dict of ascending lists -/
def ValAt (H : Hp) (d : Addr) (n : Nat) (names : List Str) (W : Str → Nat → Bool) : Prop := ∃ as : List (Str × Addr), as.map (·.1) = names ∧ H d = some (.dK (as.map fun x => (.inr x.1, .ref x.2))) ∧ (as.map (·.2)).Nodup ∧ d ∉ as.map (·.2) ∧ ∀ x ∈ as, H x.2 = some (.lst (sel n (W x.1)))
theorem rng_snoc {β : Type} (g : Bool → β) (f : Nat → Bool) (j : Nat) (b : Bool) : ((List.range (j + 1)).map fun x => g (if x = j then b else f x)) = ((List.range j).map fun x => g (f x)) ++ [g b] := by
  rw [List.range_succ, List.map_append, List.map_singleton, if_pos rfl]
  refine congrArg (· ++ [g b]) (List.map_congr_left fun x hx => ?_)
  rw [if_neg (Nat.ne_of_lt (List.mem_range.mp hx))]
theorem sel_snoc (f : Nat → Bool) (j : Nat) (b : Bool) : sel (j + 1) (fun x => if x = j then b else f x) = sel j f ++ if b = true then [V.int (j : Int)] else [] := by
  unfold sel
  rw [List.range_succ, List.filter_append, List.map_append]
  refine congr (congrArg _ (congrArg _ (List.filter_congr fun x hx => ?_))) ?_
  · rw [if_neg (Nat.ne_of_lt (List.mem_range.mp hx))]
  · rw [List.filter_cons, if_pos rfl]
    cases b <;> rfl
theorem valV_none {kvs : List (Key × V)} {k : Key} (h : ∀ kv ∈ kvs, kv.1 ≠ k) : valV kvs k = none := by
  unfold valV
  rw [List.find?_eq_none.mpr fun kv hk q => h kv hk (of_decide_eq_true q)]
  rfl
theorem sel_len (n : Nat) (f : Nat → Bool) : (sel n f).length ≤ n := by
  unfold sel
  rw [List.length_map]
  exact Nat.le_trans (List.length_filter_le _ _) (by rw [List.length_range]; exact Nat.le_refl _)
theorem GridAt.same {H H' : Hp} {s : Addr} {n : Nat} {R : Nat → Nat → Bool} (k : Same H H') (h : GridAt H s n R) : GridAt H' s n R := by
  obtain ⟨rs, h1, h2, h3, h4, h5⟩ := h
  exact ⟨rs, k _ _ h1, h2, h3, h4, fun i r hr => k _ _ (h5 i r hr)⟩
theorem GridAt.kp {H0 H H' : Hp} {p s : Addr} {n : Nat} {R : Nat → Nat → Bool} (k : Kp p H H') (h : GridAt H s n R) (hp : ∃ q xs, H p = some (.lst (.ref q :: .int xs :: []))) : True := trivial
def spWide (K : PySem.W.Frag) : Sp := fun vs H Q _ => ∃ (p l : Addr) (m : Int), vs = [.ref p, .int m] ∧ Pl K H p l ∧ 0 < m ∧ m ≤ 100 ∧
  ∀ (t s d : Addr) (n : Nat) (R : Nat → Nat → Bool) (W : Str → Nat → Bool) (H' : Hp), 1 ≤ n → (n : Int) ≤ m → Kp p H H' → Pl K H' p l → H s = none → H d = none → SqT K H' t [.ref s, .ref d] → GridAt H' s n R → ValAt H' d n ["p", "q", "r"] W → Q (.ref t) H'
theorem ok_law_wide_model (T : Top K mg) : FnOk P w K mg base CX0 3 T.f_law_wide_model T.d_law_wide_model ["pool", "most"] (spWide K) := by
  have G_law_draw : FnOk P w K mg base CX0 2 T.f_law_draw T.d_law_draw ["pool", "many"] (spDraw K) := ok_law_draw T
  refine T.F_law_wide_model.ok sc_law_wide_model (fun vs H Q E h => ?_) (fun cdv A outer s H vs Q E hr h => ?_)
  · obtain ⟨p, l, m, rfl, _⟩ := h
    rfl
  obtain ⟨p, l, m, rfl, hP, m0, m1, k⟩ := h
  have hu64 := hr.units
  have hu := Nat.lt_of_le_of_lt (Nat.add_le_add_left (by decide : 1 ≤ 64) _) hu64
  refine ⟨_, (pss_cons (ps_set (i := 2) sc_law_wide_model.nd rfl (.inr rfl) (pe_op op_add pe_int (pe_call G_law_draw (hr.mono (by omega)) (by rfl) T.m_law_draw T.F_law_draw.kp T.b_law_draw .nil pass0 (pa_cons (pv 0) (pa_cons (pv 1) pa_nil)))))
    (pss_cons (ps_set (i := 3) sc_law_wide_model.nd rfl (.inr rfl) (pe_op op_add pe_int (pe_call G_law_draw (hr.mono (by omega)) (by rfl) T.m_law_draw T.F_law_draw.kp T.b_law_draw .nil pass0 (pa_cons (pv 0) (pa_cons pe_int pa_nil)))))
    (pss_cons (ps_setLc (own := [("v", 7)]) (g := gName 7) (tt := tYes) (i := 4) rfl sc_law_wide_model.nd rfl rfl (sw_true rfl rfl rfl (by decide +kernel)) (pi_range1 (by rfl) T.z_range (pa_cons (pv 2) pa_nil)) (blkOk_by (N := ["pool", "most", "worlds", "dense", "seen", "values", "name", "v", "w"]) (sc := defScope s_law_wide_model) (by decide +kernel)) (fun _ _ _ _ _ => pg_name (i := 7) sc_law_wide_model.nd rfl (Or.inl rfl)) (fun _ _ _ _ _ => pts_nil) (fun _ _ _ _ _ => (pe_lc (own := [("w", 8)]) (g := gName 8) (tt := tYes) rfl sc_law_wide_model.nd (pi_range1 (by rfl) T.z_range (pa_cons (pv 2) pa_nil)) (by dsimp only [L2.cxOf, L2.Cx.blk, L2.Cx.nox, PySem.compEnvC]; rw [relab_eq]; exact blkOk_by (by decide +kernel)) (fun _ _ _ _ _ => pg_name (i := 8) sc_law_wide_model.nd rfl (Or.inl rfl)) (fun _ _ _ _ _ => pts_nil) (fun _ _ _ _ _ => (pe_cmpR op_lt (pe_call G_law_draw (hr.mono (by omega)) (by rfl) T.m_law_draw T.F_law_draw.kp T.b_law_draw .nil pass0 (pa_cons (pv 0) (pa_cons pe_int pa_nil))) (pv 3) (nomark _))))))
    (pss_cons (ps_set (i := 5) sc_law_wide_model.nd rfl (.inl rfl) pe_dnewK)
    (pss_cons (ps_for PassesOwn.never rfl (pi_tup (pe_tup (pa_cons pe_str (pa_cons pe_str (pa_cons pe_str pa_nil))))) (pg_name (i := 6) sc_law_wide_model.nd rfl (.inl rfl))
      (pss_one (ps_dput hu (pv 5) (pv 6) (pe_lc (own := [("w", 8)]) (g := gName 8) rfl sc_law_wide_model.nd (pi_range1 (by rfl) T.z_range (pa_cons (pv 2) pa_nil)) (blkOk_by (N := ["pool", "most", "worlds", "dense", "seen", "values", "name", "v", "w"]) (sc := defScope s_law_wide_model) (by decide +kernel)) (fun _ _ _ _ _ => pg_name (i := 8) sc_law_wide_model.nd rfl (Or.inl rfl)) (fun _ _ _ _ _ => pts_one (pt_cmpR op_eq (pe_call G_law_draw (hr.mono (by omega)) (by rfl) T.m_law_draw T.F_law_draw.kp T.b_law_draw .nil pass0 (pa_cons (pv 0) (pa_cons pe_int pa_nil))) pe_int (nomark _))) (fun _ _ _ _ _ => (pv 8))) rfl)))
    (pss_one (ps_ret (pe_tup (pa_cons (pv 4) (pa_cons (pv 5) pa_nil)))))))))), ?_⟩
  refine ⟨_, rfl, _, rfl, p, l, m, rfl, hP, m0, by omega, fun r H1 r0 r1 k1 hP1 => ⟨_, _, rfl, rfl, ?_⟩⟩
  obtain ⟨n, hn⟩ : ∃ n : Nat, 1 + r = (n : Int) := ⟨(1 + r).toNat, by omega⟩
  change gName 2 (V.int (1 + r)) _ _ _
  rw [hn]
  refine ⟨_, rfl, p, l, 4, rfl, hP1, by decide, by decide, fun e H2 e0 e1 k2 hP2 => ⟨_, _, rfl, rfl, ?_⟩⟩
  obtain ⟨xs0, hp0⟩ := hP2.lst
  refine ⟨_, rfl, n, rfl, by omega, by omega, fun D nD => ?_⟩
  have nDp : D ≠ p := (ne_of_none hp0 nD).symm
  have k12 := k1.trans k2
  refine lc_range (n := (n : Int).toNat) (fun i H3 => ∃ (rs : List Addr) (R : Nat → Nat → Bool), Kp p H2 H3 ∧ Pl K H3 p l ∧ H3 D = some (.lst (rs.map V.ref)) ∧ rs.length = i ∧ rs.Nodup ∧ D ∉ rs ∧ p ∉ rs ∧ ∀ i r, rs[i]? = some r → H3 r = some (.lst (bg R n i)))
    ⟨[], fun _ _ => false, Same.kp (same_new nD), hP2.same (same_new nD), upd_same, rfl, .nil, fun h => (nomatch h), fun h => (nomatch h), fun i r h => (nomatch h)⟩ ?_ ?_
  · rintro i H3 hi ⟨rs, R, k3, hP3, hD3, hl, nod, nD3, np3, hrs⟩
    refine ⟨rfl, _, rfl, n, rfl, by omega, by omega, fun D2 nD2 => ?_⟩
    obtain ⟨xs1, hp1⟩ := hP3.lst
    have nD2p : D2 ≠ p := (ne_of_none hp1 nD2).symm
    have nD2D : D2 ≠ D := (ne_of_none hD3 nD2).symm
    refine lc_range (n := (n : Int).toNat) (fun j H4 => ∃ f : Nat → Bool, Kp p H3 H4 ∧ Pl K H4 p l ∧ H4 D2 = some (.lst ((List.range j).map fun x => V.bl (f x)))) ⟨fun _ => false, Same.kp (same_new nD2), hP3.same (same_new nD2), upd_same⟩ ?_ ?_
    · rintro j H4 hj ⟨f, k4, hP4, hD4⟩
      refine ⟨rfl, _, rfl, p, l, 5, rfl, hP4, by decide, by decide, fun v H5 v0 v1 k5 hP5 => ⟨_, rfl, _, _, rfl, rfl, ?_⟩⟩
      have hD5 := k5 _ _ hD4 nD2p
      refine ⟨_, hD5, (by rw [List.length_map, List.length_range]; exact small1000 (by omega)), fun x => if x = j then decide (v < 1 + e) else f x, (k4.trans k5).under nD2 Kp.upd, hP3.other nD2 hP5 Kp.upd, ?_⟩
      rw [upd_same, rng_snoc V.bl]
    · rintro H4 ⟨f, k4, hP4, hD4⟩
      have hD4' : H4 D2 = some (.lst (bg (fun a b => if a = i then f b else R a b) n i)) := by
        rw [hD4, Int.toNat_natCast]
        unfold bg
        simp
      have hDD := k4 _ _ hD3 nDp
      have nin : D2 ∉ rs := fun hm => by
        obtain ⟨j, hj⟩ := List.getElem?_of_mem hm
        have := hrs j D2 hj
        rw [nD2] at this
        cases this
      refine ⟨_, hDD, (by rw [List.length_map]; exact small1000 (by omega)), rs ++ [D2], fun a b => if a = i then f b else R a b, (k3.trans k4).under nD Kp.upd, hP2.other nD hP4 Kp.upd, ?_, by rw [List.length_append, hl]; rfl, ?_, ?_, ?_, fun a r ha => ?_⟩
      · rw [upd_same, List.map_append]
        rfl
      · refine List.nodup_append.mpr ⟨nod, List.nodup_cons.mpr ⟨fun h => (nomatch h), .nil⟩, fun x hx y hy e => ?_⟩
        rw [List.mem_singleton.mp hy] at e
        exact nin (e ▸ hx)
      · intro hm
        rcases List.mem_append.mp hm with hm | hm
        · exact nD3 hm
        · exact nD2D (List.mem_singleton.mp hm).symm
      · intro hm
        rcases List.mem_append.mp hm with hm | hm
        · exact np3 hm
        · exact nD2p (List.mem_singleton.mp hm).symm
      · have nrD : r ≠ D := by
          intro e
          subst e
          have := List.mem_of_getElem? ha
          rcases List.mem_append.mp this with hm | hm
          · exact nD3 hm
          · exact nD2D (List.mem_singleton.mp hm).symm
        rw [upd_ne nrD]
        by_cases hai : a < rs.length
        · rw [List.getElem?_append_left hai] at ha
          have h1 := hrs a r ha
          have h2 : r ≠ p := fun e => np3 (e ▸ List.mem_of_getElem? ha)
          rw [k4 _ _ h1 h2]
          unfold bg
          simp [show a ≠ i by omega]
        · have e : a = i := by
            have := (List.getElem?_eq_some_iff.mp ha).1
            rw [List.length_append, List.length_singleton] at this
            omega
          subst e
          rw [← hl, List.getElem?_concat_length] at ha
          cases ha
          exact hD4'
  rintro H3 ⟨rs, R, k3, hP3, hD3, hl, nod, nD3, np3, hrs⟩
  rw [Int.toNat_natCast] at hl
  -- the values
  intro d nd
  have hg3 : GridAt H3 D n R := ⟨rs, hD3, hl, nod, nD3, hrs⟩
  have hg4 := hg3.same (same_new (o := .dK []) nd)
  refine ⟨(by show 3 ≤ sizeLine; decide), fun t nt => ⟨t, rfl, ⟨_, SqT.of upd_same⟩, ?_⟩⟩
  have hg5 := hg4.same (same_new (o := .tup [.str "p", .str "q", .str "r"]) nt)
  have hP5 := (hP3.same (same_new (o := .dK []) nd)).same (same_new (o := .tup [.str "p", .str "q", .str "r"]) nt)
  have ndt : d ≠ t := ne_of_none upd_same nt
  have s35 := (same_new (o := .dK []) nd).trans (same_new (o := .tup [.str "p", .str "q", .str "r"]) nt)
  have hd5 : (upd (upd H3 d (.dK [])) t (.tup [.str "p", .str "q", .str "r"])) d = some (.dK []) := by
    rw [upd_ne ndt]
    exact upd_same
  have ht5 : (upd (upd H3 d (.dK [])) t (.tup [.str "p", .str "q", .str "r"])) t = some (.tup [.str "p", .str "q", .str "r"]) := upd_same
  generalize upd (upd H3 d (.dK [])) t (.tup [.str "p", .str "q", .str "r"]) = H5 at hg5 hP5 s35 hd5 ht5
  obtain ⟨xs5, hp5⟩ := hP5.lst
  have ndp : d ≠ p := fun e => by
    rw [e, hp5] at hd5
    cases hd5
  have ntp : t ≠ p := fun e => by
    rw [e, hp5] at ht5
    cases ht5
  have nDd : D ≠ d := ne_of_none hD3 nd
  have nrd : ∀ r ∈ rs, r ≠ d := fun r hr => by
    obtain ⟨i, hi⟩ := List.getElem?_of_mem hr
    exact ne_of_none (hrs i r hi) nd
  refine for_tup (K := K) (a := t) (xs := [.str "p", .str "q", .str "r"]) (fun i σ H6 => ∃ (as : List (Str × Addr)) (W : Str → Nat → Bool) (v6 : Option V), σ = [some (.ref p), some (.int m), some (.int n), some (.int (1 + e)), some (.ref D), some (.ref d), v6, none, none] ∧
      (∀ b o, H5 b = some o → b ≠ p → b ≠ d → H6 b = some o) ∧ Pl K H6 p l ∧ as.map (·.1) = (["p", "q", "r"] : List Str).take i ∧ H6 d = some (.dK (as.map fun x => (.inr x.1, .ref x.2))) ∧ (as.map (·.2)).Nodup ∧ d ∉ as.map (·.2) ∧ p ∉ as.map (·.2) ∧ ∀ x ∈ as, H6 x.2 = some (.lst (sel n (W x.1))))
    ⟨[], fun _ _ => false, none, rfl, fun _ _ h _ _ => h, hP5, rfl, hd5, .nil, fun h => (nomatch h), fun h => (nomatch h), fun x h => (nomatch h)⟩ (fun i σ H6 _ h => by
      obtain ⟨_, _, _, _, h, _⟩ := h
      exact SqT.of (h _ _ ht5 ntp ndt.symm)) ?_ ?_
  · rintro i x σ H6 hx ⟨as, W, v6, rfl, kk, hP6, has, hd6, anod, nda, npa, hva⟩
    obtain ⟨y, rfl, hy⟩ : ∃ y : Str, x = .str y ∧ (["p", "q", "r"] : List Str)[i]? = some y := by
      have e : ([.str "p", .str "q", .str "r"] : List V) = (["p", "q", "r"] : List Str).map V.str := rfl
      rw [e, List.getElem?_map] at hx
      cases hz : (["p", "q", "r"] : List Str)[i]? with
      | none => rw [hz] at hx; cases hx
      | some z =>
        rw [hz] at hx
        exact ⟨z, (Option.some.inj hx).symm, rfl⟩
    have yn : y ∉ as.map (·.1) := by
      rw [has]
      intro hm
      obtain ⟨j, hj⟩ := List.getElem?_of_mem hm
      rw [List.getElem?_take] at hj
      split at hj
      · have nn : (["p", "q", "r"] : List Str).Nodup := by decide +kernel
        have i3 := (List.getElem?_eq_some_iff.mp hy).1
        have := (List.getElem?_inj (by omega) nn).mp (hj.trans hy.symm)
        omega
      · cases hj
    refine ⟨_, rfl, n, rfl, by omega, by omega, fun L nL => ?_⟩
    obtain ⟨xs6, hp6⟩ := hP6.lst
    have nLp : L ≠ p := (ne_of_none hp6 nL).symm
    have nLd : L ≠ d := (ne_of_none hd6 nL).symm
    refine lc_range (n := (n : Int).toNat) (fun j H7 => ∃ f : Nat → Bool, Kp p H6 H7 ∧ Pl K H7 p l ∧ H7 L = some (.lst (sel j f))) ⟨fun _ => false, Same.kp (same_new nL), hP6.same (same_new nL), upd_same⟩ ?_ ?_
    · rintro j H7 hj ⟨f, k7, hP7, hL7⟩
      refine ⟨rfl, _, rfl, p, l, 3, rfl, hP7, by decide, by decide, fun v H8 v0 v1 k8 hP8 => ⟨rfl, _, rfl, ?_⟩⟩
      have hL8 := k8 _ _ hL7 nLp
      refine ite2 (fun c => ?_) (fun c => ?_)
      · refine ⟨_, rfl, _, hL8, Nat.lt_of_le_of_lt (sel_len j f) (small1000 (by omega)), fun x => if x = j then true else f x, (k7.trans k8).under nL Kp.upd, hP6.other nL hP8 Kp.upd, ?_⟩
        rw [upd_same, sel_snoc, if_pos rfl]
        show some (HO.lst (sel j f ++ [V.int (0 + (j : Int))])) = _
        rw [Int.zero_add]
      · refine ⟨fun x => if x = j then false else f x, k7.trans k8, hP8, ?_⟩
        rw [hL8, sel_snoc, if_neg (by decide), List.append_nil]
    · rintro H7 ⟨f, k7, hP7, hL7⟩
      rw [Int.toNat_natCast] at hL7
      have hd7 := k7 _ _ hd6 ndp
      have nLa : L ∉ as.map (·.2) := fun hm => by
        obtain ⟨x, hx, e⟩ := List.mem_map.mp hm
        have := hva x hx
        rw [e, nL] at this
        cases this
      have hle : as.length ≤ 3 := by
        have := congrArg List.length has
        rw [List.length_map, List.length_take] at this
        have : (["p", "q", "r"] : List Str).length = 3 := rfl
        omega
      refine ⟨_, rfl, _, rfl, d, _, rfl, .inl ⟨_, .inr y, hd7, rfl, (by rw [List.length_map]; exact small1000 (by omega)), rfl⟩, ?_⟩
      rw [putK_new _ (valV_none (by
        intro kv hk e
        obtain ⟨x, hx, rfl⟩ := List.mem_map.mp hk
        exact yn (List.mem_map.mpr ⟨x, hx, Sum.inr.inj e⟩)))]
      refine ⟨as ++ [(y, L)], fun z => if z = y then f else W z, _, rfl, fun b o hb h1 h2 => ?_, hP3.other nd hP7 Kp.upd, ?_, ?_, ?_, ?_, ?_, fun x hx => ?_⟩
      · rw [upd_ne h2]
        exact k7 _ _ (kk b o hb h1 h2) h1
      · rw [take_snoc hy, List.map_append, has]
        rfl
      · rw [upd_same, List.map_append]
        rfl
      · rw [List.map_append]
        refine List.nodup_append.mpr ⟨anod, List.nodup_cons.mpr ⟨fun h => (nomatch h), .nil⟩, fun z hz u hu e => nLa ?_⟩
        have e2 : z = L := e.trans (List.mem_singleton.mp hu)
        exact e2 ▸ hz
      · rw [List.map_append]
        intro hm
        rcases List.mem_append.mp hm with hm | hm
        · exact nda hm
        · exact nLd (List.mem_singleton.mp hm).symm
      · rw [List.map_append]
        intro hm
        rcases List.mem_append.mp hm with hm | hm
        · exact npa hm
        · exact nLp (List.mem_singleton.mp hm).symm
      · rcases List.mem_append.mp hx with hx | hx
        · have h1 : x.2 ≠ d := fun e => nda (e ▸ List.mem_map.mpr ⟨x, hx, rfl⟩)
          have h2 : x.2 ≠ p := fun e => npa (e ▸ List.mem_map.mpr ⟨x, hx, rfl⟩)
          have h3 : x.1 ≠ y := fun e => yn (e ▸ List.mem_map.mpr ⟨x, hx, rfl⟩)
          have e9 : (fun z => if z = y then f else W z) x.1 = W x.1 := if_neg h3
          rw [upd_ne h1, k7 _ _ (hva x hx) h2, e9]
        · rw [List.mem_singleton.mp hx]
          have e9 : (fun z => if z = y then f else W z) y = f := if_pos rfl
          show upd H7 d _ L = some (.lst (sel n ((fun z => if z = y then f else W z) y)))
          rw [upd_ne nLd, e9]
          exact hL7
  · rintro σ H6 ⟨as, W, v6, rfl, kk, hP6, has, hd6, anod, nda, npa, hva⟩
    refine ⟨_, rfl, _, rfl, (by show 2 ≤ sizeLine; decide), fun q nq => ?_⟩
    have s7 := same_new (o := .tup [.ref D, .ref d]) nq
    have kall : Kp p H H6 := fun b o hb h1 => by
      have h3 := k3 _ _ (k12 _ _ hb h1) h1
      exact kk b o (s35 _ _ h3) h1 (ne_of_none h3 nd)
    have fr : ∀ {a : Addr} {H0 : Hp}, Kp p H H0 → a ≠ p → H0 a = none → H a = none := fun {a H0} kz h1 h2 => by
      cases e : H a with
      | none => rfl
      | some o =>
        rw [kz _ _ e h1] at h2
        cases h2
    refine k q D d n R W _ (by omega) (by omega) (kall.trans (Same.kp s7)) (hP6.same s7) (fr k12 nDp nD) (fr (k12.trans k3) ndp nd) (SqT.of upd_same) ?_ ?_
    · refine ⟨rs, s7 _ _ (kk _ _ (s35 _ _ hD3) nDp nDd), hl, nod, nD3, fun i r hr => s7 _ _ (kk _ _ (s35 _ _ (hrs i r hr)) ?_ (nrd r (List.mem_of_getElem? hr)))⟩
      intro e
      exact np3 (e ▸ List.mem_of_getElem? hr)
    · exact ⟨as, has, s7 _ _ hd6, anod, nda, fun x hx => s7 _ _ (hva x hx)⟩

/-! ### frames made of rows -/
def pd (x : Nat × Nat) : PyData := .tuple [.int x.1, .int x.2]
def grid (a b : Nat) : List (Nat × Nat) := (List.range a).flatMap fun v => (List.range b).map fun w => (v, w)
theorem grid_succ (a b : Nat) : grid (a + 1) b = grid a b ++ (List.range b).map fun w => (a, w) := by
  unfold grid
  rw [List.range_succ, List.flatMap_append]
  simp
theorem grid_len (a b : Nat) : (grid a b).length = a * b := by
  induction a with
  | zero => simp [grid]
  | succ a ih => rw [grid_succ, List.length_append, ih, List.length_map, List.length_range, Nat.succ_mul]
theorem grid_mem {a b : Nat} {x : Nat × Nat} : x ∈ grid a b ↔ x.1 < a ∧ x.2 < b := by
  unfold grid
  simp only [List.mem_flatMap, List.mem_map, List.mem_range]
  constructor
  · rintro ⟨v, hv, w, hw, rfl⟩
    exact ⟨hv, hw⟩
  · rintro ⟨h1, h2⟩
    exact ⟨x.1, h1, x.2, h2, rfl⟩
theorem im_pd {K : PySem.W.Frag} {H : Hp} {p : Addr} {x : Nat × Nat} (h : H p = some (.tup [.int x.1, .int x.2])) : Im K H (.ref p) (pd x) := .tup (SqT.of h) (.cons (.int _) (.cons (.int _) .nil))
theorem pd_inv {K : PySem.W.Frag} {H : Hp} {v : V} {x : Nat × Nat} (h : Im K H v (pd x)) : ∃ a, v = .ref a ∧ SqT K H a [.int x.1, .int x.2] := by
  unfold pd at h
  cases h with
  | tup h1 h2 =>
    cases h2 with
    | cons h3 h4 =>
      cases h3
      cases h4 with
      | cons h5 h6 =>
        cases h5
        cases h6
        exact ⟨_, rfl, h1⟩
def spGrid (K : PySem.W.Frag) : Sp := fun vs H Q _ => ∃ (a b : Nat), vs = [.int a, .int b] ∧ a ≤ 100 ∧ b ≤ 100 ∧ ∀ (p : Addr) (ys : List V) (H' : Hp), H p = none → Same H H' → H' p = some (.lst ys) → ImAll K H' ys ((grid a b).map pd) → Q (.ref p) H'
theorem ok_law_grid (T : Top K mg) : FnOk P w K mg base CX0 1 T.f_law_grid T.d_law_grid ["first", "second"] (spGrid K) := by
  refine T.F_law_grid.ok sc_law_grid (fun vs H Q E h => ?_) (fun cdv A outer s H vs Q E hr h => ?_)
  · obtain ⟨a, b, rfl, _⟩ := h
    rfl
  obtain ⟨a, b, rfl, ha, hb, k⟩ := h
  refine ⟨_, (pss_cons (ps_set (i := 2) sc_law_grid.nd rfl (.inl rfl) (pe_lst pa_nil))
    (pss_cons (ps_for PassesOwn.never rfl (pi_range1 (by rfl) T.z_range (pa_cons (pv 0) pa_nil)) (pg_name (i := 3) sc_law_grid.nd rfl (.inl rfl))
      (pss_one (ps_for PassesOwn.never rfl (pi_range1 (by rfl) T.z_range (pa_cons (pv 1) pa_nil)) (pg_name (i := 4) sc_law_grid.nd rfl (.inl rfl))
      (pss_one (ps_expr (pe_bm PySem.F.plainAttrs_list PySem.F.slot_list_append PySem.F.type_list_append mt_append (pv 2) (pa_cons (pe_tup (pa_cons (pv 3) (pa_cons (pv 4) pa_nil))) pa_nil)))))))
    (pss_one (ps_ret (pv 2))))), ?_⟩
  refine ⟨Nat.zero_le _, fun d nd => ?_⟩
  refine ⟨_, rfl, a, rfl, by omega, by omega, for_range (n := (a : Int).toNat) (fun i σ H2 => ∃ (v w : Option V) (ys : List V), σ = [some (.int a), some (.int b), some (.ref d), v, w] ∧ Same H H2 ∧ H2 d = some (.lst ys) ∧ ImAll K H2 ys ((grid i b).map pd)) ⟨none, none, [], rfl, same_new nd, upd_same, .nil⟩ ?_ ?_⟩
  · rintro i σ H2 hi ⟨v, w, ys, rfl, s2, hd, iy⟩
    refine ⟨_, rfl, b, rfl, by omega, by omega, for_range (n := (b : Int).toNat) (fun j σ H3 => ∃ (w : Option V) (ys : List V), σ = [some (.int a), some (.int b), some (.ref d), some (.int (0 + (i : Int))), w] ∧ Same H H3 ∧ H3 d = some (.lst ys) ∧ ImAll K H3 ys ((grid i b ++ (List.range j).map fun w => (i, w)).map pd)) ⟨w, ys, rfl, s2, hd, by rw [List.range_zero, List.map_nil, List.append_nil]; exact iy⟩ ?_ ?_⟩
    · rintro j σ H3 hj ⟨w, ys, rfl, s3, hd, iy⟩
      have hl := iy.length
      have hgl := grid_len i b
      have hib : i * b ≤ 100 * 100 := Nat.mul_le_mul (by omega) hb
      rw [List.length_map, List.length_append, List.length_map, List.length_range, hgl] at hl
      refine ⟨_, rfl, .inl ⟨rfl, _, .inl (.inl hd)⟩, _, rfl, _, rfl, (by show 2 ≤ sizeLine; decide), fun q nq => ?_⟩
      have s4 := same_new (o := .tup [.int (0 + (i : Int)), .int (0 + (j : Int))]) nq
      have hd4 := s4 _ _ hd
      refine ⟨d, ys, .ref q, rfl, rfl, hd4, Nat.lt_of_le_of_lt (show ys.length ≤ 20000 by omega) (by decide), _, _, rfl, fun c o hc => ?_, upd_same, ?_⟩
      · rw [upd_ne (ne_of_none hc nd)]
        exact s4 _ _ (s3 _ _ hc)
      · have t : TS (upd H3 q (.tup [.int (0 + (i : Int)), .int (0 + (j : Int))])) (upd (upd H3 q (.tup [.int (0 + (i : Int)), .int (0 + (j : Int))])) d (.lst (ys ++ [.ref q]))) := Kp.ts Kp.upd hd4
        have e9 : (grid i b ++ (List.range (j + 1)).map fun w => (i, w)).map pd = (grid i b ++ (List.range j).map fun w => (i, w)).map pd ++ [pd (i, j)] := by
          rw [List.range_succ]
          simp
        rw [e9]
        refine ((iy.mono (Same.ts s4)).mono t).snoc ((im_pd (x := (i, j)) ?_).mono t)
        show upd H3 q (.tup [.int (0 + (i : Int)), .int (0 + (j : Int))]) q = some (.tup [.int (i : Int), .int (j : Int)])
        rw [upd_same, Int.zero_add, Int.zero_add]
    · rintro σ H3 ⟨w, ys, rfl, s3, hd, iy⟩
      rw [Int.toNat_natCast, ← grid_succ] at iy
      exact ⟨_, _, ys, rfl, s3, hd, iy⟩
  · rintro σ H2 ⟨v, w, ys, rfl, s2, hd, iy⟩
    rw [Int.toNat_natCast] at iy
    exact ⟨_, rfl, k d ys H2 nd s2 hd iy⟩
/-- the pairs of a frame, and the frame -/
def frP (n : Nat) (R : Nat → Nat → Bool) : List (Nat × Nat) := (grid n n).filter fun x => R x.1 x.2
def frD (n : Nat) (ps : List (Nat × Nat)) : PyData := .tuple [.int n, .tuple (ps.map pd)]
theorem atI_i {α : Type} {xs : List α} {j : Nat} {v : α} (h : xs[j]? = some v) : atI xs (j : Int) = some v := atI_nat h
def spFramed (K : PySem.W.Frag) : Sp := fun vs H Q _ => ∃ (s : Addr) (n : Nat) (R : Nat → Nat → Bool), vs = [.ref s] ∧ GridAt H s n R ∧ n ≤ 100 ∧ ∀ (v : V) (H' : Hp), Same H H' → Im K H' v (frD n (frP n R)) → Q v H'
theorem ok_law_framed (T : Top K mg) : FnOk P w K mg base CX0 2 T.f_law_framed T.d_law_framed ["seen"] (spFramed K) := by
  have G_law_grid : FnOk P w K mg base CX0 1 T.f_law_grid T.d_law_grid ["first", "second"] (spGrid K) := ok_law_grid T
  refine T.F_law_framed.ok sc_law_framed (fun vs H Q E h => ?_) (fun cdv A outer s H vs Q E hr h => ?_)
  · obtain ⟨a, n, R, rfl, _⟩ := h
    rfl
  obtain ⟨a, n, R, rfl, hg, hn, k⟩ := h
  refine ⟨_, (pss_cons (ps_set (i := 1) sc_law_framed.nd rfl (.inl rfl) (pe_call G_law_grid (hr.mono (by omega)) (by rfl) T.m_law_grid T.F_law_grid.kp T.b_law_grid .nil pass0 (pa_cons (pe_callB call_len_seq (by rfl) T.z_len PySem.boot_len (pa_cons (pv 0) pa_nil)) (pa_cons (pe_callB call_len_seq (by rfl) T.z_len PySem.boot_len (pa_cons (pv 0) pa_nil)) pa_nil))))
    (pss_one (ps_ret (pe_tup (pa_cons (pe_callB call_len_seq (by rfl) T.z_len PySem.boot_len (pa_cons (pv 0) pa_nil)) (pa_cons (pe_callTy call_tuple_of (by rfl) T.z_tuple (by decide +kernel) (pa_cons (pe_lc (own := [("pair", 2)]) (g := gName 2) (tt := (tB (tOp (rIxL K) (tOp (rIxL K) _ (tOp (rIxT K) _ _)) (tOp (rIxT K) _ _)))) rfl sc_law_framed.nd (pi_list (pv 1)) (blkOk_by (N := ["seen", "pairs", "pair"]) (sc := defScope s_law_framed) (by decide +kernel)) (fun _ _ _ _ _ => pg_name (i := 2) sc_law_framed.nd rfl (Or.inl rfl)) (fun _ _ _ _ _ => pts_one (pt_val (pe_ix ix_list (pe_ix ix_list (pv 0) (pe_ix ix_tup (pv 2) pe_int (fun _ _ => rfl)) (fun _ _ => rfl)) (pe_ix ix_tup (pv 2) pe_int (fun _ _ => rfl)) (fun _ _ => rfl)))) (fun _ _ _ _ _ => (pv 2))) pa_nil)) pa_nil)))))), ?_⟩
  obtain ⟨rs, h1, h2, h3, h4, h5⟩ := hg
  have el : ((rs.map V.ref).length : Int) = (n : Int) := by rw [List.length_map, h2]
  refine ⟨_, rfl, a, _, rfl, .inl (SqL.of h1), _, rfl, a, _, rfl, .inl (SqL.of h1), ?_⟩
  rw [el]
  refine ⟨n, n, rfl, hn, hn, fun p ys H1 np s1 hp iy => ?_⟩
  refine ⟨_, rfl, a, _, rfl, .inl (SqL.of (s1 _ _ h1)), _, rfl, p, rfl, ⟨_, SqL.of hp⟩, fun D nD => ?_⟩
  rw [el]
  have hyl := iy.length
  rw [List.length_map] at hyl
  refine lc_list (K := K) (a := p) (xs := ys) (fun i H2 => ∃ us : List V, Same H1 H2 ∧ H2 D = some (.lst us) ∧ ImAll K H2 us ((((grid n n).take i).filter fun x => R x.1 x.2).map pd)) ⟨[], same_new nD, upd_same, .nil⟩ (fun i H2 _ h => by
    obtain ⟨_, s2, _⟩ := h
    exact SqL.of (s2 _ _ hp)) ?_ ?_
  · rintro i y H2 hy ⟨us, s2, hD, iu⟩
    obtain ⟨d, gd, idd⟩ := iy.get hy
    rw [List.getElem?_map] at gd
    cases hx : (grid n n)[i]? with
    | none => rw [hx] at gd; cases gd
    | some x =>
      rw [hx] at gd
      have ed : d = pd x := (Option.some.inj gd).symm
      subst ed
      have idd2 := idd.mono (Same.ts s2)
      obtain ⟨q, rfl, hq⟩ := pd_inv idd2
      have hxm := grid_mem.mp (List.mem_of_getElem? hx)
      have s12 := s1.trans s2
      obtain ⟨r, hr1⟩ : ∃ r, rs[x.1]? = some r := ⟨_, List.getElem?_eq_getElem (by omega)⟩
      have hrow := s12 _ _ (h5 x.1 r hr1)
      refine ⟨rfl, _, rfl, _, rfl, q, _, 0, _, rfl, rfl, hq, atI_nat (j := 0) rfl, a, _, x.1, .ref r, rfl, rfl, SqL.of (s12 _ _ h1), atI_nat (by rw [List.getElem?_map, hr1]; rfl), _, rfl, q, _, 1, _, rfl, rfl, hq, atI_nat (j := 1) rfl, ?_⟩
      refine ⟨r, _, x.2, .bl (R x.1 x.2), rfl, rfl, SqL.of hrow, atI_nat (by unfold bg; rw [List.getElem?_map, List.getElem?_range hxm.2]; rfl), _, rfl, ?_⟩
      rw [take_snoc hx, List.filter_append, List.map_append]
      have hul := iu.length
      rw [List.length_map] at hul
      have hgl := grid_len n n
      have hnn : n * n ≤ 100 * 100 := Nat.mul_le_mul hn hn
      cases hR : R x.1 x.2 with
      | true =>
        refine iteT ⟨_, rfl, us, hD, Nat.lt_of_le_of_lt (show us.length ≤ 10000 from ?_) (by decide), us ++ [.ref q], fun c o hc => ?_, upd_same, ?_⟩
        · rw [hul]
          refine Nat.le_trans (List.length_filter_le _ _) ?_
          rw [List.length_take]
          omega
        · rw [upd_ne (ne_of_none hc nD)]
          exact s2 _ _ hc
        · rw [show [x].filter (fun x => R x.1 x.2) = [x] by rw [List.filter_cons, if_pos hR]; rfl]
          exact (iu.mono (Kp.upd.ts hD)).snoc (idd2.mono (Kp.upd.ts hD))
      | false =>
        refine iteF ⟨us, s2, hD, ?_⟩
        rw [show [x].filter (fun x => R x.1 x.2) = [] by rw [List.filter_cons, if_neg (by rw [hR]; decide)]; rfl, List.map_nil, List.append_nil]
        exact iu
  · rintro H2 ⟨us, s2, hD, iu⟩
    rw [hyl, List.take_length] at iu
    refine ⟨D, us, rfl, .inl ⟨SqL.of hD, fun q nq => ⟨(by show 2 ≤ sizeLine; decide), fun t nt => ?_⟩⟩⟩
    have s3 := same_new (o := .tup us) nq
    have s4 := same_new (o := .tup [.int n, .ref q]) nt
    exact k _ _ (((s1.trans s2).trans s3).trans s4) (.tup (SqT.of upd_same) (.cons (.int _) (.cons (.tup (SqT.of (s4 _ _ upd_same)) (iu.mono (Same.ts (s3.trans s4)))) .nil)))

/-! ### the law's own closing -/
def GridR (H : Hp) (s : Addr) (rs : List Addr) (n : Nat) (R : Nat → Nat → Bool) : Prop := H s = some (.lst (rs.map V.ref)) ∧ rs.length = n ∧ rs.Nodup ∧ s ∉ rs ∧ ∀ i r, rs[i]? = some r → H r = some (.lst (bg R n i))
theorem bg_len (R : Nat → Nat → Bool) (n i : Nat) : (bg R n i).length = n := by
  unfold bg
  rw [List.length_map, List.length_range]
theorem bg_get (R : Nat → Nat → Bool) {n i j : Nat} (h : j < n) : (bg R n i)[j]? = some (.bl (R i j)) := by
  unfold bg
  rw [List.getElem?_map, List.getElem?_range h]
  rfl
theorem bg_congr {R S : Nat → Nat → Bool} {n i : Nat} (h : ∀ j, j < n → R i j = S i j) : bg R n i = bg S n i := by
  unfold bg
  exact List.map_congr_left fun j hj => by rw [h j (List.mem_range.mp hj)]
theorem GridR.congr {H : Hp} {s : Addr} {rs : List Addr} {n : Nat} {R S : Nat → Nat → Bool} (h : ∀ a b, a < n → b < n → R a b = S a b) (g : GridR H s rs n R) : GridR H s rs n S := by
  obtain ⟨h1, h2, h3, h4, h5⟩ := g
  refine ⟨h1, h2, h3, h4, fun i r hr => ?_⟩
  have hi : i < n := by
    have := (List.getElem?_eq_some_iff.mp hr).1
    omega
  rw [h5 i r hr, bg_congr fun j hj => h i j hi hj]
theorem GridR.get {H : Hp} {s : Addr} {rs : List Addr} {n : Nat} {R : Nat → Nat → Bool} (g : GridR H s rs n R) {v : Nat} (hv : v < n) : ∃ r, rs[v]? = some r ∧ r ∈ rs ∧ H r = some (.lst (bg R n v)) := by
  obtain ⟨h1, h2, h3, h4, h5⟩ := g
  have e := List.getElem?_eq_getElem (l := rs) (i := v) (by omega)
  exact ⟨_, e, List.mem_of_getElem? e, h5 v _ e⟩
theorem bg_set (R : Nat → Nat → Bool) {n v w : Nat} (x : Bool) (hw : w < n) : (bg R n v).set w (.bl x) = bg (fun a b => if a = v ∧ b = w then x else R a b) n v := by
  refine List.ext_getElem? fun j => ?_
  rw [List.getElem?_set]
  by_cases hj : j < n
  · by_cases e : w = j
    · subst e
      rw [if_pos rfl, if_pos (by rw [bg_len]; exact hw), bg_get _ hj]
      show some (V.bl x) = some (V.bl (if v = v ∧ w = w then x else R v w))
      rw [if_pos ⟨rfl, rfl⟩]
    · rw [if_neg e, bg_get _ hj, bg_get _ hj]
      show some (V.bl (R v j)) = some (V.bl (if v = v ∧ j = w then x else R v j))
      rw [if_neg (fun q => e q.2.symm)]
  · rw [if_neg (by omega), List.getElem?_eq_none (by rw [bg_len]; omega), List.getElem?_eq_none (by rw [bg_len]; omega)]
theorem GridR.put {H : Hp} {s r : Addr} {rs : List Addr} {n v w : Nat} {R : Nat → Nat → Bool} (g : GridR H s rs n R) (hr : rs[v]? = some r) (hw : w < n) (x : Bool) :
    GridR (upd H r (.lst ((bg R n v).set w (.bl x)))) s rs n (fun a b => if a = v ∧ b = w then x else R a b) := by
  obtain ⟨h1, h2, h3, h4, h5⟩ := g
  have hm := List.mem_of_getElem? hr
  refine ⟨?_, h2, h3, h4, fun i q hq => ?_⟩
  · rw [upd_ne (show s ≠ r from fun e => h4 (by rw [e]; exact hm))]
    exact h1
  · by_cases e : i = v
    · subst e
      have : q = r := Option.some.inj (hq.symm.trans hr)
      subst this
      rw [upd_same, bg_set _ _ hw]
    · have : q ≠ r := fun e2 => by
        subst e2
        exact e ((List.getElem?_inj (List.getElem?_eq_some_iff.mp hq).1 h3).mp (hq.trans hr.symm))
      rw [upd_ne this, h5 i q hq]
      refine congrArg some (congrArg HO.lst (bg_congr fun j hj => ?_))
      show R i j = if i = v ∧ j = w then x else R i j
      rw [if_neg fun z => e z.1]
theorem ixN_nat {n w : Nat} (h : w < n) : ixN n (w : Int) = some w := by
  unfold ixN
  rw [if_pos (by omega), if_pos (by omega), Int.toNat_natCast]
section
variable {K : PySem.W.Frag} {σ : L2.St} {H : Hp} {D : Addr} {rs : List Addr} {n v w i1 i2 i3 : Nat} {S : Nat → Nat → Bool}
theorem st_cell {Q : VK} (h1 : σ[i1]? = some (some (.ref D))) (h2 : σ[i2]? = some (some (.int (v : Int)))) (h3 : σ[i3]? = some (some (.int (w : Int)))) (g : GridR H D rs n S) (hv : v < n) (hw : w < n) (q : Q (.bl (S v w)) H) :
    tOp (rIxL K) (tOp (rIxL K) (tVar i1) (tVar i2)) (tVar i3) σ H Q := by
  obtain ⟨r, hr, hm, hrow⟩ := g.get hv
  exact ⟨_, h1, _, h2, D, _, _, .ref r, rfl, rfl, SqL.of g.1, atI_nat (by rw [List.getElem?_map, hr]; rfl), _, h3, r, _, _, _, rfl, rfl, SqL.of hrow, atI_nat (bg_get S hw), q⟩
theorem st_put {x : Bool} {Q : L2.St → Hp → Prop} (h1 : σ[i1]? = some (some (.ref D))) (h2 : σ[i2]? = some (some (.int (v : Int)))) (h3 : σ[i3]? = some (some (.int (w : Int)))) (g : GridR H D rs n S) (hv : v < n) (hw : w < n)
    (q : ∀ H', GridR H' D rs n (fun a b => if a = v ∧ b = w then x else S a b) → (∀ b, b ∉ rs → H' b = H b) → Q σ H') :
    gSub (tOp (rIxL K) (tVar i1) (tVar i2)) (tVar i3) rSetL (.bl x) σ H Q := by
  obtain ⟨r, hr, hm, hrow⟩ := g.get hv
  refine ⟨_, h1, _, h2, D, _, _, .ref r, rfl, rfl, SqL.of g.1, atI_nat (by rw [List.getElem?_map, hr]; rfl), _, h3, r, _, _, w, rfl, rfl, hrow, by rw [bg_len]; exact ixN_nat hw, ?_⟩
  exact q _ (g.put hr hw x) fun b hb => upd_ne fun e => hb (e ▸ hm)
theorem or_bl {ta tb : TE} {c d : Bool} {Q : VK} (ha : ∀ Q : VK, Q (.bl c) H → ta σ H Q) (hb : ∀ Q : VK, Q (.bl d) H → tb σ H Q) (q : Q (.bl (c || d)) H) : tOrV ta tb σ H Q := by
  refine ha _ ⟨c, rfl, ?_⟩
  cases c with
  | true => exact iteT q
  | false => exact iteF (hb _ q)
theorem and_bl {ta tb : TE} {c d : Bool} {Q : VK} (ha : ∀ Q : VK, Q (.bl c) H → ta σ H Q) (hb : ∀ Q : VK, Q (.bl d) H → tb σ H Q) (q : Q (.bl (c && d)) H) : tAndV ta tb σ H Q := by
  refine ha _ ⟨c, rfl, ?_⟩
  cases c with
  | true => exact iteT (hb _ q)
  | false => exact iteF q
end
def rfx (re : Bool) (R : Nat → Nat → Bool) (i : Nat) : Nat → Nat → Bool := fun a b => if a = b ∧ a < i then R a b || re else R a b
def wsh (tr : Bool) (S : Nat → Nat → Bool) : Nat → Nat → Nat → Bool
  | 0 => S
  | u + 1 => fun a b => wsh tr S u a b || (tr && (wsh tr S u a u && wsh tr S u u b))
def clo (n : Nat) (re tr : Bool) (R : Nat → Nat → Bool) : Nat → Nat → Bool := wsh tr (rfx re R n) n
def mix (W W' : Nat → Nat → Bool) (v w : Nat) : Nat → Nat → Bool := fun a b => if a < v ∨ (a = v ∧ b < w) then W' a b else W a b
theorem rgV_get {n i : Nat} {x : V} (h : (rgV 0 (n : Int))[i]? = some x) : i < n ∧ x = .int (i : Int) := by
  have hi := (List.getElem?_eq_some_iff.mp h).1
  rw [rgV_length] at hi
  unfold rgV at h
  rw [List.getElem?_map, List.getElem?_range (by omega)] at h
  refine ⟨by omega, ?_⟩
  rw [← Option.some.inj h]
  show V.int (0 + (i : Int)) = V.int (i : Int)
  rw [Int.zero_add]
def Clz (H0 : Hp) (D : Addr) (rs : List Addr) (e : Addr) (n : Nat) (S : Nat → Nat → Bool) (H : Hp) : Prop := GridR H D rs n S ∧ H e = some (.lst (rgV 0 (n : Int))) ∧ Same H0 H
theorem Clz.put {H0 : Hp} {D : Addr} {rs : List Addr} {e : Addr} {n : Nat} {S S' : Nat → Nat → Bool} {H H' : Hp} (h : Clz H0 D rs e n S H) (he : e ∉ rs) (hf : ∀ r ∈ rs, H0 r = none) (g : GridR H' D rs n S') (q : ∀ b, b ∉ rs → H' b = H b) : Clz H0 D rs e n S' H' :=
  ⟨g, by rw [q e he]; exact h.2.1, fun b o hb => by
    rw [q b fun z => by rw [hf b z] at hb; cases hb]
    exact h.2.2 b o hb⟩
theorem Clz.congr {H0 : Hp} {D : Addr} {rs : List Addr} {e : Addr} {n : Nat} {S S' : Nat → Nat → Bool} {H : Hp} (h : Clz H0 D rs e n S H) (q : ∀ a b, a < n → b < n → S a b = S' a b) : Clz H0 D rs e n S' H := ⟨h.1.congr q, h.2⟩
def spClosing (K : PySem.W.Frag) : Sp := fun vs H Q _ => ∃ (s : Addr) (n : Nat) (R : Nat → Nat → Bool) (re tr : Bool), vs = [.ref s, .bl re, .bl tr] ∧ GridAt H s n R ∧ n ≤ 100 ∧ ∀ (p : Addr) (H' : Hp), H p = none → Same H H' → GridAt H' p n (clo n re tr R) → Q (.ref p) H'
theorem ok_law_closing (T : Top K mg) : FnOk P w K mg base CX0 1 T.f_law_closing T.d_law_closing ["seen", "reflexive", "transitive"] (spClosing K) := by
  refine T.F_law_closing.ok sc_law_closing (fun vs H Q E h => ?_) (fun cdv A outer s H vs Q E hr h => ?_)
  · obtain ⟨s, n, R, re, tr, rfl, _⟩ := h
    rfl
  obtain ⟨a, n, R, re, tr, rfl, hg, hn, k⟩ := h
  refine ⟨_, (pss_cons (ps_setLc (own := [("row", 8)]) (g := gName 8) (tt := tYes) (te := (tCB (rListOf K) (tCons _ tNil))) (i := 3) rfl sc_law_closing.nd rfl rfl (sw_true rfl rfl rfl (by decide +kernel)) (pi_list (pv 0)) (blkOk_by (N := ["seen", "reflexive", "transitive", "rows", "every", "v", "u", "w", "row"]) (sc := defScope s_law_closing) (by decide +kernel)) (fun _ _ _ _ _ => pg_name (i := 8) sc_law_closing.nd rfl (Or.inl rfl)) (fun _ _ _ _ _ => pts_nil) (fun _ _ _ _ _ => (pe_callTy (T := "list") call_list_ofK (by rfl) T.z_list (by decide +kernel) (pa_cons (pv 8) pa_nil))))
    (pss_cons (ps_set (i := 4) sc_law_closing.nd rfl (.inl rfl) (pe_listRg rfl (by rfl) T.z_list (prg_1 (by rfl) T.z_range (pe_callB call_len_seq (by rfl) T.z_len PySem.boot_len (pa_cons (pv 3) pa_nil)))))
    (pss_cons (ps_for PassesOwn.never rfl (pi_list (pv 4)) (pg_name (i := 5) sc_law_closing.nd rfl (.inl rfl))
      (pss_one (ps_asg (pe_or (pe_ix ix_list (pe_ix ix_list (pv 3) (pv 5) (fun _ _ => rfl)) (pv 5) (fun _ _ => rfl)) (pe_one (pv 1))) (pg_sub (pe_ix ix_list (pv 3) (pv 5) (fun _ _ => rfl)) (pv 5) set_list))))
    (pss_cons (ps_for PassesOwn.never rfl (pi_list (pv 4)) (pg_name (i := 6) sc_law_closing.nd rfl (.inl rfl))
      (pss_one (ps_for PassesOwn.never rfl (pi_list (pv 4)) (pg_name (i := 5) sc_law_closing.nd rfl (.inl rfl))
      (pss_one (ps_for PassesOwn.never rfl (pi_list (pv 4)) (pg_name (i := 7) sc_law_closing.nd rfl (.inl rfl))
      (pss_one (ps_asg (pe_or (pe_ix ix_list (pe_ix ix_list (pv 3) (pv 5) (fun _ _ => rfl)) (pv 7) (fun _ _ => rfl)) (pe_one (pe_and (pv 2) (pe_and (pe_ix ix_list (pe_ix ix_list (pv 3) (pv 5) (fun _ _ => rfl)) (pv 6) (fun _ _ => rfl)) (pe_one (pe_ix ix_list (pe_ix ix_list (pv 3) (pv 6) (fun _ _ => rfl)) (pv 7) (fun _ _ => rfl))))))) (pg_sub (pe_ix ix_list (pv 3) (pv 5) (fun _ _ => rfl)) (pv 7) set_list))))))))
    (pss_one (ps_ret (pv 3))))))), ?_⟩
  obtain ⟨rs0, h1, h2, h3, h4, h5⟩ := hg
  refine ⟨_, rfl, a, rfl, ⟨_, SqL.of h1⟩, fun D nD => ?_⟩
  refine lc_list (K := K) (a := a) (xs := rs0.map V.ref) (fun i H2 => ∃ rs : List Addr, Same H H2 ∧ H2 D = some (.lst (rs.map V.ref)) ∧ rs.length = i ∧ rs.Nodup ∧ D ∉ rs ∧ (∀ r ∈ rs, H r = none) ∧ ∀ i r, rs[i]? = some r → H2 r = some (.lst (bg R n i)))
    ⟨[], same_new nD, upd_same, rfl, .nil, fun h => (nomatch h), fun r h => (nomatch h), fun i r h => (nomatch h)⟩ (fun i H2 _ h => by
      obtain ⟨_, s2, _⟩ := h
      exact SqL.of (s2 _ _ h1)) ?_ ?_
  · rintro i y H2 hy ⟨rs, s2, hD, hl, nod, nDr, fr, hrs⟩
    rw [List.getElem?_map] at hy
    cases hz : rs0[i]? with
    | none => rw [hz] at hy; cases hy
    | some r0 =>
      rw [hz] at hy
      have ey : y = .ref r0 := (Option.some.inj hy).symm
      subst ey
      have hi : i < rs0.length := (List.getElem?_eq_some_iff.mp hz).1
      refine ⟨rfl, _, rfl, r0, _, rfl, .inl (SqL.of (s2 _ _ (h5 i r0 hz))), fun q nq => ?_⟩
      have s3 := same_new (o := .lst (bg R n i)) nq
      have nqD : q ≠ D := (ne_of_none hD nq).symm
      have nqr : q ∉ rs := fun hm => by
        obtain ⟨j, hj⟩ := List.getElem?_of_mem hm
        have := hrs j q hj
        rw [nq] at this
        cases this
      refine ⟨_, s3 _ _ hD, (by rw [List.length_map]; exact small1000 (by omega)), rs ++ [q], fun b o hb => ?_, ?_, by rw [List.length_append, hl]; rfl, ?_, ?_, fun r hr => ?_, fun j r hj => ?_⟩
      · rw [upd_ne (ne_of_none hb nD)]
        exact s3 _ _ (s2 _ _ hb)
      · rw [upd_same, List.map_append]
        rfl
      · refine List.nodup_append.mpr ⟨nod, List.nodup_cons.mpr ⟨fun h => (nomatch h), .nil⟩, fun z hz u hu e => nqr ?_⟩
        have e2 : z = q := e.trans (List.mem_singleton.mp hu)
        exact e2 ▸ hz
      · intro hm
        rcases List.mem_append.mp hm with hm | hm
        · exact nDr hm
        · exact nqD (List.mem_singleton.mp hm).symm
      · rcases List.mem_append.mp hr with hm | hm
        · exact fr r hm
        · rw [List.mem_singleton.mp hm]
          exact s2.free nq
      · have njD : r ≠ D := fun e => by
          subst e
          rcases List.mem_append.mp (List.mem_of_getElem? hj) with hm | hm
          · exact nDr hm
          · exact nqD (List.mem_singleton.mp hm).symm
        rw [upd_ne njD]
        by_cases hjl : j < rs.length
        · rw [List.getElem?_append_left hjl] at hj
          exact s3 _ _ (hrs j r hj)
        · have e : j = i := by
            have := (List.getElem?_eq_some_iff.mp hj).1
            rw [List.length_append, List.length_singleton] at this
            omega
          subst e
          rw [← hl, List.getElem?_concat_length] at hj
          cases hj
          exact upd_same
  rintro H2 ⟨rs, s2, hD, hl, nod, nDr, fr, hrs⟩
  rw [List.length_map, h2] at hl
  have el : ((rs.map V.ref).length : Int) = (n : Int) := by rw [List.length_map, hl]
  refine ⟨_, rfl, D, _, rfl, .inl (SqL.of hD), _, rfl, RgOk.of_le (by decide) (by rw [el]; omega) (by decide) (by rw [el]; omega), fun e ne => ?_⟩
  rw [el]
  have s3 := same_new (o := .lst (rgV 0 (n : Int))) ne
  have g3 : GridR (upd H2 e (.lst (rgV 0 (n : Int)))) D rs n R := ⟨s3 _ _ hD, hl, nod, nDr, fun i r hr => s3 _ _ (hrs i r hr)⟩
  have her : e ∉ rs := fun hm => by
    obtain ⟨j, hj⟩ := List.getElem?_of_mem hm
    have := hrs j e hj
    rw [ne] at this
    cases this
  have z0 : Clz H D rs e n R (upd H2 e (.lst (rgV 0 (n : Int)))) := ⟨g3, upd_same, s2.trans s3⟩
  generalize upd H2 e (.lst (rgV 0 (n : Int))) = H3 at z0
  clear g3 s3
  -- reflexive
  refine ⟨_, rfl, e, rfl, ⟨_, SqL.of z0.2.1⟩, for_list (K := K) (a := e) (xs := rgV 0 (n : Int)) (fun i σ H4 => ∃ v : Option V, σ = [some (.ref a), some (.bl re), some (.bl tr), some (.ref D), some (.ref e), v, none, none, none] ∧ Clz H D rs e n (rfx re R i) H4)
    ⟨none, rfl, z0.congr fun x y _ _ => by unfold rfx; rw [if_neg (by omega)]⟩ (fun i σ H4 _ h => by
      obtain ⟨_, _, z⟩ := h
      exact SqL.of z.2.1) ?_ ?_⟩
  · rintro i x σ H4 hx ⟨v, rfl, z⟩
    obtain ⟨hi, rfl⟩ := rgV_get hx
    refine or_bl (c := rfx re R i i i) (d := re) (fun Q q => st_cell rfl rfl rfl z.1 hi hi q) (fun Q q => ⟨_, rfl, q⟩) ?_
    refine st_put rfl rfl rfl z.1 hi hi fun H5 g5 k5 => ?_
    refine ⟨_, rfl, (z.put her fr g5 k5).congr fun x y _ _ => ?_⟩
    show (if x = i ∧ y = i then (rfx re R i i i || re) else rfx re R i x y) = rfx re R (i + 1) x y
    unfold rfx
    by_cases e1 : x = i ∧ y = i
    · obtain ⟨rfl, rfl⟩ := e1
      rw [if_pos ⟨rfl, rfl⟩, if_neg (by omega), if_pos (by omega)]
    · rw [if_neg e1]
      by_cases e2 : x = y ∧ x < i
      · rw [if_pos e2, if_pos (by omega)]
      · rw [if_neg e2, if_neg (by omega)]
  rintro σ H4 ⟨v, rfl, z⟩
  have en : (rgV 0 (n : Int)).length = n := by rw [rgV_length]; omega
  rw [en] at z
  -- transitive
  refine ⟨_, rfl, e, rfl, ⟨_, SqL.of z.2.1⟩, for_list (K := K) (a := e) (xs := rgV 0 (n : Int)) (fun u σ H5 => ∃ v6 v5 v7 : Option V, σ = [some (.ref a), some (.bl re), some (.bl tr), some (.ref D), some (.ref e), v5, v6, v7, none] ∧ Clz H D rs e n (wsh tr (rfx re R n) u) H5)
    ⟨none, v, none, rfl, z⟩ (fun i σ H4 _ h => by
      obtain ⟨_, _, _, _, z⟩ := h
      exact SqL.of z.2.1) ?_ ?_⟩
  · rintro u x σ H5 hx ⟨v6, v5, v7, rfl, z⟩
    obtain ⟨hu, rfl⟩ := rgV_get hx
    generalize hW : wsh tr (rfx re R n) u = W at z
    have hW' : wsh tr (rfx re R n) (u + 1) = fun a b => W a b || (tr && (W a u && W u b)) := by
      rw [wsh, hW]
    rw [hW']
    generalize hW2 : (fun a b => W a b || (tr && (W a u && W u b))) = W'
    have e1 : ∀ a, W' a u = W a u := fun a => by
      rw [← hW2]
      show (W a u || (tr && (W a u && W u u))) = W a u
      cases W a u <;> cases tr <;> rfl
    have e2 : ∀ b, W' u b = W u b := fun b => by
      rw [← hW2]
      show (W u b || (tr && (W u u && W u b))) = W u b
      cases W u b <;> cases tr <;> cases W u u <;> rfl
    refine ⟨_, rfl, e, rfl, ⟨_, SqL.of z.2.1⟩, for_list (K := K) (a := e) (xs := rgV 0 (n : Int)) (fun i σ H6 => ∃ v5 v7 : Option V, σ = [some (.ref a), some (.bl re), some (.bl tr), some (.ref D), some (.ref e), v5, some (.int (u : Int)), v7, none] ∧ Clz H D rs e n (mix W W' i 0) H6)
      ⟨v5, v7, rfl, z.congr fun a b _ _ => by unfold mix; rw [if_neg (by omega)]⟩ (fun i σ H4 _ h => by
        obtain ⟨_, _, _, z⟩ := h
        exact SqL.of z.2.1) ?_ ?_⟩
    · rintro i x σ H6 hx ⟨v5, v7, rfl, z⟩
      obtain ⟨hi, rfl⟩ := rgV_get hx
      refine ⟨_, rfl, e, rfl, ⟨_, SqL.of z.2.1⟩, for_list (K := K) (a := e) (xs := rgV 0 (n : Int)) (fun j σ H7 => ∃ v7 : Option V, σ = [some (.ref a), some (.bl re), some (.bl tr), some (.ref D), some (.ref e), some (.int (i : Int)), some (.int (u : Int)), v7, none] ∧ Clz H D rs e n (mix W W' i j) H7)
        ⟨v7, rfl, z⟩ (fun i σ H4 _ h => by
          obtain ⟨_, _, z⟩ := h
          exact SqL.of z.2.1) ?_ ?_⟩
      · rintro j x σ H7 hx ⟨v7, rfl, z⟩
        obtain ⟨hj, rfl⟩ := rgV_get hx
        refine or_bl (c := mix W W' i j i j) (d := (tr && (mix W W' i j i u && mix W W' i j u j))) (fun Q q => st_cell rfl rfl rfl z.1 hi hj q) (fun Q q => and_bl (c := tr) (fun Q q => ⟨_, rfl, q⟩) (fun Q q => and_bl (fun Q q => st_cell rfl rfl rfl z.1 hi hu q) (fun Q q => st_cell rfl rfl rfl z.1 hu hj q) q) q) ?_
        refine st_put rfl rfl rfl z.1 hi hj fun H8 g8 k8 => ?_
        refine ⟨_, rfl, (z.put her fr g8 k8).congr fun a b _ _ => ?_⟩
        have m1 : mix W W' i j i j = W i j := by unfold mix; rw [if_neg (by omega)]
        have m2 : mix W W' i j i u = W i u := by
          unfold mix
          split
          · exact e1 i
          · rfl
        have m3 : mix W W' i j u j = W u j := by
          unfold mix
          split
          · exact e2 j
          · rfl
        have m4 : (W i j || (tr && (W i u && W u j))) = W' i j := by rw [← hW2]
        show (if a = i ∧ b = j then (mix W W' i j i j || (tr && (mix W W' i j i u && mix W W' i j u j))) else mix W W' i j a b) = mix W W' i (j + 1) a b
        rw [m1, m2, m3, m4]
        unfold mix
        by_cases c : a = i ∧ b = j
        · obtain ⟨rfl, rfl⟩ := c
          rw [if_pos ⟨rfl, rfl⟩, if_pos (by omega)]
        · rw [if_neg c]
          by_cases c2 : a < i ∨ (a = i ∧ b < j)
          · rw [if_pos c2, if_pos (by omega)]
          · rw [if_neg c2, if_neg (by omega)]
      · rintro σ H7 ⟨v7, rfl, z⟩
        rw [en] at z
        refine ⟨_, _, rfl, z.congr fun a b _ hb => ?_⟩
        unfold mix
        by_cases c2 : a < i ∨ (a = i ∧ b < n)
        · rw [if_pos c2, if_pos (by omega)]
        · rw [if_neg c2, if_neg (by omega)]
    · rintro σ H6 ⟨v5, v7, rfl, z⟩
      rw [en] at z
      refine ⟨_, _, _, rfl, z.congr fun a b ha _ => ?_⟩
      unfold mix
      rw [if_pos (by omega)]
  rintro σ H5 ⟨v6, v5, v7, rfl, z⟩
  rw [en] at z
  exact ⟨_, rfl, k D H5 nD z.2.2 ⟨rs, z.1⟩⟩

/-! ### rows of a frame -/
/-- a dict of lists of worlds -/
def RowsAt (H : Hp) (D : Addr) (as : List (Nat × Addr)) (succ : Nat → List Nat) : Prop :=
  H D = some (.dK (as.map fun x => (.inl (x.1 : Int), .ref x.2))) ∧ (as.map (·.1)).Nodup ∧ (as.map (·.2)).Nodup ∧ D ∉ as.map (·.2) ∧ ∀ x ∈ as, H x.2 = some (.lst ((succ x.1).map fun w : Nat => V.int w))
def sucs (ps : List (Nat × Nat)) (v : Nat) : List Nat := (ps.filter fun x => decide (x.1 = v)).map (·.2)
theorem im_fr {K : PySem.W.Frag} {H : Hp} {x : V} {n : Nat} {ps : List (Nat × Nat)} (h : Im K H x (frD n ps)) : ∃ (a b : Addr) (ys : List V), x = .ref a ∧ SqT K H a [.int n, .ref b] ∧ SqT K H b ys ∧ ImAll K H ys (ps.map pd) := by
  unfold frD at h
  cases h with
  | tup h1 h2 =>
    cases h2 with
    | cons h3 h4 =>
      cases h3
      cases h4 with
      | cons h5 h6 =>
        cases h6
        cases h5 with
        | tup h7 h8 => exact ⟨_, _, _, rfl, h1, h7, h8⟩
theorem sucs_snoc (ps : List (Nat × Nat)) (x : Nat × Nat) (v : Nat) : sucs (ps ++ [x]) v = sucs ps v ++ if x.1 = v then [x.2] else [] := by
  unfold sucs
  rw [List.filter_append, List.map_append, List.filter_cons]
  by_cases e : x.1 = v
  · rw [if_pos (decide_eq_true e), if_pos e]
    rfl
  · rw [if_neg (by rw [decide_eq_true_eq]; exact e), if_neg e]
    rfl
theorem valV_at {as : List (Nat × Addr)} (nd : (as.map (·.1)).Nodup) {x : Nat × Addr} (hx : x ∈ as) : valV (as.map fun x => ((.inl (x.1 : Int) : Key), V.ref x.2)) (.inl (x.1 : Int)) = some (.ref x.2) := by
  unfold valV
  induction as with
  | nil => cases hx
  | cons y as ih =>
    rw [List.map_cons, List.find?_cons]
    by_cases e : y.1 = x.1
    · have : y = x := by
        rcases List.mem_cons.mp hx with rfl | hx
        · rfl
        · exact absurd (List.mem_map.mpr ⟨x, hx, e.symm⟩) (List.nodup_cons.mp nd).1
      subst this
      rw [show decide (((Sum.inl (y.1 : Int) : Key), V.ref y.2).1 = (.inl (y.1 : Int) : Key)) = true from decide_eq_true rfl]
      rfl
    · rw [show decide (((Sum.inl (y.1 : Int) : Key), V.ref y.2).1 = (.inl (x.1 : Int) : Key)) = false from decide_eq_false (fun q => e (Int.ofNat.inj (Sum.inl.inj q)))]
      rcases List.mem_cons.mp hx with rfl | hx
      · exact absurd rfl e
      · exact ih (List.nodup_cons.mp nd).2 hx
theorem valV_off {as : List (Nat × Addr)} {v : Nat} (h : v ∉ as.map (·.1)) : valV (as.map fun x => ((.inl (x.1 : Int) : Key), V.ref x.2)) (.inl (v : Int)) = none := valV_none (by
  intro kv hk e
  obtain ⟨x, hx, rfl⟩ := List.mem_map.mp hk
  exact h (List.mem_map.mpr ⟨x, hx, Int.ofNat.inj (Sum.inl.inj e)⟩))
def spRows (K : PySem.W.Frag) : Sp := fun vs H Q _ => ∃ (x : V) (n : Nat) (ps : List (Nat × Nat)), vs = [x] ∧ Im K H x (frD n ps) ∧ ps.length ≤ 10000 ∧
  ∀ (D : Addr) (as : List (Nat × Addr)) (H' : Hp), H D = none → Same H H' → RowsAt H' D as (sucs ps) → (∀ v, v ∈ as.map (·.1) ↔ ∃ w, (v, w) ∈ ps) → (∀ x ∈ as, H x.2 = none) → Q (.ref D) H'
theorem ok_rows_of (T : Top K mg) : FnOk P w K mg base CX0 1 T.f_rows_of T.d_rows_of ["frame"] (spRows K) := by
  refine T.F_rows_of.ok sc_rows_of (fun vs H Q E h => ?_) (fun cdv A outer s H vs Q E hr h => ?_)
  · obtain ⟨x, n, ps, rfl, _⟩ := h
    rfl
  obtain ⟨x, n, ps, rfl, hx, hps, k⟩ := h
  have hu64 := hr.units
  have hu := Nat.lt_of_le_of_lt (Nat.add_le_add_left (by decide : 1 ≤ 64) _) hu64
  refine ⟨_, (pss_cons (ps_set (i := 1) sc_rows_of.nd rfl (.inl rfl) pe_dnewK)
    (pss_cons (ps_for PassesOwn.never rfl (pi_tup (pe_ix ix_tup (pv 0) pe_int (fun _ _ => rfl))) (pg_tup rfl (pgs_cons (pg_name (i := 2) sc_rows_of.nd rfl (.inl rfl)) (pgs_cons (pg_name (i := 3) sc_rows_of.nd rfl (.inl rfl)) pgs_nil)))
      (pss_one (ps_expr (pe_bm PySem.F.plainAttrs_list PySem.F.slot_list_append PySem.F.type_list_append mt_append (pe_dsetd (pv 1) (pv 2) (pe_lst pa_nil) ⟨rfl, rfl, rfl, rfl⟩) (pa_cons (pv 3) pa_nil)))))
    (pss_one (ps_ret (pv 1))))), ?_⟩
  obtain ⟨a, b, ys, rfl, h1, h2, h3⟩ := im_fr hx
  intro D nD
  have s1 := same_new (o := .dK []) nD
  have hyl := h3.length
  rw [List.length_map] at hyl
  refine ⟨_, rfl, a, _, 1, .ref b, rfl, rfl, (Same.ts s1).sqT h1, atI_nat (j := 1) rfl, b, rfl, ⟨ys, (Same.ts s1).sqT h2⟩, for_tup (K := K) (a := b) (xs := ys) (fun i σ H2 => ∃ (as : List (Nat × Addr)) (v w : Option V), σ = [some (.ref a), some (.ref D), v, w] ∧ Same H H2 ∧ RowsAt H2 D as (sucs (ps.take i)) ∧ (∀ v, v ∈ as.map (·.1) ↔ ∃ w, (v, w) ∈ ps.take i) ∧ (∀ x ∈ as, H x.2 = none) ∧ as.length ≤ i)
    ⟨[], none, none, rfl, s1, ⟨upd_same, .nil, .nil, fun h => (nomatch h), fun x h => (nomatch h)⟩, fun v => ⟨fun h => (nomatch h), fun ⟨w, h⟩ => (nomatch h)⟩, fun x h => (nomatch h), Nat.le_refl _⟩ (fun i σ H2 _ h => by
      obtain ⟨_, _, _, _, h, _⟩ := h
      exact (Same.ts h).sqT h2) ?_ ?_⟩
  · rintro i y σ H2 hy ⟨as, ov, ow, rfl, s2, hR, hks, hfr, hal⟩
    obtain ⟨d, gd, idd⟩ := h3.get hy
    rw [List.getElem?_map] at gd
    cases hz : ps[i]? with
    | none => rw [hz] at gd; cases gd
    | some z =>
      rw [hz] at gd
      have ed : d = pd z := (Option.some.inj gd).symm
      subst ed
      obtain ⟨q, rfl, hq⟩ := pd_inv (idd.mono (Same.ts s2))
      obtain ⟨g1, g2, g3, g4, g5⟩ := hR
      have hi : i < ps.length := (List.getElem?_eq_some_iff.mp hz).1
      refine ⟨q, _, rfl, hq, rfl, _, _, rfl, _, _, rfl, rfl, ?_⟩
      refine ⟨_, rfl, D, rfl, .inl ⟨_, .inl g1⟩, _, rfl, (by show 0 ≤ sizeLine; decide), fun L nL => ?_⟩
      have s3 := same_new (o := .lst []) nL
      have nDL : D ≠ L := ne_of_none g1 nL
      have g1' := s3 _ _ g1
      have hsn : ∀ v, sucs (ps.take (i + 1)) v = sucs (ps.take i) v ++ if z.1 = v then [z.2] else [] := fun v => by rw [take_snoc hz, sucs_snoc]
      have hmem : ∀ v w, (v, w) ∈ ps.take (i + 1) ↔ (v, w) ∈ ps.take i ∨ (v, w) = z := fun v w => by
        rw [take_snoc hz, List.mem_append, List.mem_singleton]
      have sl : ∀ v, (sucs (ps.take i) v).length ≤ 10000 := fun v => by
        unfold sucs
        rw [List.length_map]
        refine Nat.le_trans (List.length_filter_le _ _) ?_
        rw [List.length_take]
        omega
      refine ⟨_, .inl (z.1 : Int), g1', rfl, (by rw [List.length_map]; exact Nat.lt_of_le_of_lt (show as.length ≤ 10000 by omega) (by decide)), fun u hu2 => ?_, fun hn => ?_⟩
      -- there is a row
      · obtain ⟨x, hx, hx1⟩ : ∃ x ∈ as, x.1 = z.1 := by
          refine Classical.byContradiction fun hno => ?_
          rw [valV_off (fun hm => hno (by
            obtain ⟨x, hx, e⟩ := List.mem_map.mp hm
            exact ⟨x, hx, e⟩))] at hu2
          cases hu2
        have hv := valV_at g2 hx
        rw [hx1] at hv
        have eu : u = .ref x.2 := Option.some.inj (hu2.symm.trans hv)
        subst eu
        have hrow := s3 _ _ (g5 x hx)
        refine ⟨.inl ⟨rfl, _, .inl (.inl hrow)⟩, _, rfl, x.2, _, _, rfl, rfl, hrow, Nat.lt_of_le_of_lt (show _ ≤ 10000 by rw [List.length_map]; exact sl _) (by decide), ?_⟩
        have nx : ∀ y ∈ as, y ≠ x → y.2 ≠ x.2 := fun y hy hne e => hne (by
          obtain ⟨j, hj⟩ := List.getElem?_of_mem hy
          obtain ⟨l, hl⟩ := List.getElem?_of_mem hx
          have := (List.getElem?_inj (i := j) (j := l) (by rw [List.length_map]; exact (List.getElem?_eq_some_iff.mp hj).1) g3).mp (by rw [List.getElem?_map, List.getElem?_map, hj, hl]; exact congrArg some e)
          subst this
          exact Option.some.inj (hj.symm.trans hl))
        refine ⟨as, _, _, rfl, fun c o hc => ?_, ⟨?_, g2, g3, g4, fun y hy => ?_⟩, fun v => ?_, hfr, by omega⟩
        · have : c ≠ x.2 := ne_of_none hc (hfr x hx)
          rw [upd_ne this]
          exact s3 _ _ (s2 _ _ hc)
        · rw [upd_ne (show D ≠ x.2 from fun e => g4 (by rw [e]; exact List.mem_map.mpr ⟨x, hx, rfl⟩))]
          exact g1'
        · by_cases e : y = x
          · subst e
            rw [upd_same, hsn, if_pos hx1.symm, List.map_append]
            rfl
          · have ne1 : z.1 ≠ y.1 := fun q => e (by
              obtain ⟨j, hj⟩ := List.getElem?_of_mem hy
              obtain ⟨l, hl⟩ := List.getElem?_of_mem hx
              have := (List.getElem?_inj (i := j) (j := l) (by rw [List.length_map]; exact (List.getElem?_eq_some_iff.mp hj).1) g2).mp (by rw [List.getElem?_map, List.getElem?_map, hj, hl]; exact congrArg some (q.symm.trans hx1.symm))
              subst this
              exact Option.some.inj (hj.symm.trans hl))
            rw [upd_ne (nx y hy e), hsn, if_neg ne1, List.append_nil]
            exact s3 _ _ (g5 y hy)
        · rw [hks]
          constructor
          · rintro ⟨w, hw⟩
            exact ⟨w, (hmem v w).mpr (.inl hw)⟩
          · rintro ⟨w, hw⟩
            rcases (hmem v w).mp hw with hw | hw
            · exact ⟨w, hw⟩
            · have : v = x.1 := by rw [hx1, ← hw]
              rw [this]
              exact (hks x.1).mp (List.mem_map.mpr ⟨x, hx, rfl⟩)
      -- a new row
      · have hoff : z.1 ∉ as.map (·.1) := fun hm => by
          obtain ⟨x, hx, e⟩ := List.mem_map.mp hm
          have := valV_at g2 hx
          rw [e, hn] at this
          cases this
        have nLa : L ∉ as.map (·.2) := fun hm => by
          obtain ⟨x, hx, e⟩ := List.mem_map.mp hm
          have := g5 x hx
          rw [e, nL] at this
          cases this
        have hL4 : (upd (upd H2 L (.lst [])) D (.dK (putK (as.map fun x => ((.inl (x.1 : Int) : Key), V.ref x.2)) (.inl (z.1 : Int)) (.ref L)))) L = some (.lst []) := by
          rw [upd_ne nDL.symm]
          exact upd_same
        refine ⟨.inl ⟨rfl, _, .inl (.inl hL4)⟩, _, rfl, L, _, _, rfl, rfl, hL4, by show 0 < sizeLine; decide, ?_⟩
        have e0 : sucs (ps.take i) z.1 = [] := by
          unfold sucs
          rw [List.map_eq_nil_iff, List.filter_eq_nil_iff]
          intro x hx q
          exact hoff ((hks z.1).mpr ⟨x.2, by
            have : x.1 = z.1 := of_decide_eq_true q
            rw [← this]
            exact hx⟩)
        refine ⟨as ++ [(z.1, L)], _, _, rfl, fun c o hc => ?_, ⟨?_, ?_, ?_, ?_, fun y hy => ?_⟩, fun v => ?_, fun y hy => ?_, by rw [List.length_append, List.length_singleton]; omega⟩
        · have c2 := s2 _ _ hc
          rw [upd_ne (ne_of_none c2 nL), upd_ne (ne_of_none hc nD)]
          exact s3 _ _ c2
        · rw [upd_ne nDL, upd_same, putK_new _ hn, List.map_append]
          rfl
        · rw [List.map_append]
          refine List.nodup_append.mpr ⟨g2, List.nodup_cons.mpr ⟨fun h => (nomatch h), .nil⟩, fun c hc u hu e => hoff ?_⟩
          have e2 : c = z.1 := e.trans (List.mem_singleton.mp hu)
          exact e2 ▸ hc
        · rw [List.map_append]
          refine List.nodup_append.mpr ⟨g3, List.nodup_cons.mpr ⟨fun h => (nomatch h), .nil⟩, fun c hc u hu e => nLa ?_⟩
          have e2 : c = L := e.trans (List.mem_singleton.mp hu)
          exact e2 ▸ hc
        · rw [List.map_append]
          intro hm
          rcases List.mem_append.mp hm with hm | hm
          · exact g4 hm
          · exact nDL (List.mem_singleton.mp hm)
        · rcases List.mem_append.mp hy with hy | hy
          · have n1 : y.2 ≠ L := fun e => nLa (e ▸ List.mem_map.mpr ⟨y, hy, rfl⟩)
            have n2 : y.2 ≠ D := fun e => g4 (e ▸ List.mem_map.mpr ⟨y, hy, rfl⟩)
            have n3 : z.1 ≠ y.1 := fun e => hoff (e ▸ List.mem_map.mpr ⟨y, hy, rfl⟩)
            rw [upd_ne n1, upd_ne n2, hsn, if_neg n3, List.append_nil]
            exact s3 _ _ (g5 y hy)
          · rw [List.mem_singleton.mp hy]
            show upd _ L _ L = _
            rw [upd_same, hsn, e0, if_pos rfl]
            rfl
        · rw [List.map_append, List.mem_append, hks]
          constructor
          · rintro (⟨w, hw⟩ | hw)
            · exact ⟨w, (hmem v w).mpr (.inl hw)⟩
            · have : v = z.1 := List.mem_singleton.mp hw
              exact ⟨z.2, (hmem v z.2).mpr (.inr (by rw [this]))⟩
          · rintro ⟨w, hw⟩
            rcases (hmem v w).mp hw with hw | hw
            · exact .inl ⟨w, hw⟩
            · refine .inr (List.mem_singleton.mpr ?_)
              show v = z.1
              rw [← hw]
        · rcases List.mem_append.mp hy with hy | hy
          · exact hfr y hy
          · rw [List.mem_singleton.mp hy]
            exact s2.free nL
  · rintro σ H2 ⟨as, ov, ow, rfl, s2, hR, hks, hfr, _⟩
    rw [hyl, List.take_length] at hR hks
    exact ⟨_, rfl, k D as H2 nD s2 hR hks hfr⟩

/-! ### what is reached -/
inductive Plus (succ : Nat → List Nat) (a : Nat) : Nat → Prop
  | one {b : Nat} : b ∈ succ a → Plus succ a b
  | step {b c : Nat} : Plus succ a b → c ∈ succ b → Plus succ a c
def RowsRd (H : Hp) (D : Addr) (as : List (Nat × Addr)) (succ : Nat → List Nat) : Prop :=
  Rd H D (.dK (as.map fun x => (.inl (x.1 : Int), .ref x.2))) ∧ (as.map (·.1)).Nodup ∧ ∀ x ∈ as, H x.2 = some (.lst ((succ x.1).map fun w : Nat => V.int w))
theorem nodup_lt {l : List Nat} {n : Nat} (h : l.Nodup) (hn : ∀ w ∈ l, w < n) : l.length ≤ n := by
  have aux : ∀ (n : Nat) (l : List Nat), l.Nodup → (∀ w ∈ l, w < n) → l.length ≤ n := by
    intro n
    induction n with
    | zero =>
      intro l h hn
      cases l with
      | nil => exact Nat.le_refl _
      | cons x l => exact absurd (hn x List.mem_cons_self) (Nat.not_lt_zero _)
    | succ n ih =>
      intro l h hn
      have h1 := ih (l.erase n) (h.erase n) fun w hw => by
        have h2 := hn w (List.mem_of_mem_erase hw)
        have h3 : w ≠ n := fun e => by
          rw [e] at hw
          exact (List.Nodup.mem_erase_iff h).mp hw |>.1 rfl
        omega
      have h2 : l.length ≤ (l.erase n).length + 1 := by
        rw [List.length_erase]
        split <;> omega
      omega
  exact aux n l h hn
def fndK (fs : List Nat) : List (Key × V) := fs.map fun w : Nat => (.inl (w : Int), .bl true)
theorem fnd_in {fs : List Nat} {w : Nat} (h : w ∈ fs) : valV (fndK fs) (.inl (w : Int)) = some (.bl true) := by
  unfold valV fndK
  induction fs with
  | nil => cases h
  | cons y fs ih =>
    rw [List.map_cons, List.find?_cons]
    by_cases e : y = w
    · rw [show decide (((Sum.inl (y : Int) : Key), V.bl true).1 = (.inl (w : Int) : Key)) = true from decide_eq_true (by rw [e])]
      rfl
    · rw [show decide (((Sum.inl (y : Int) : Key), V.bl true).1 = (.inl (w : Int) : Key)) = false from decide_eq_false (fun q => e (Int.ofNat.inj (Sum.inl.inj q)))]
      exact ih ((List.mem_cons.mp h).resolve_left fun q => e q.symm)
theorem fnd_off {fs : List Nat} {w : Nat} (h : w ∉ fs) : valV (fndK fs) (.inl (w : Int)) = none := valV_none (by
  intro kv hk e
  obtain ⟨x, hx, rfl⟩ := List.mem_map.mp hk
  exact h (Int.ofNat.inj (Sum.inl.inj e) ▸ hx))
def natL (ws : List Nat) : List V := ws.map fun w : Nat => V.int w
theorem fnd_snoc (fs : List Nat) (w : Nat) : fndK (fs ++ [w]) = fndK fs ++ [(.inl (w : Int), .bl true)] := by
  unfold fndK
  rw [List.map_append]
  rfl
theorem natL_snoc (fs : List Nat) (w : Nat) : natL (fs ++ [w]) = natL fs ++ [V.int (w : Int)] := by
  unfold natL
  rw [List.map_append]
  rfl
def RcI (H0 : Hp) (D : Addr) (st : Nat) (F Wt : Addr) (n : Nat) (succ : Nat → List Nat) (m : Nat) (σ : L2.St) (H : Hp) : Prop :=
  ∃ (fs ws : List Nat) (v4 v5 : Option V), σ = [some (.ref D), some (.int (st : Int)), some (.ref F), some (.ref Wt), v4, v5] ∧ Same H0 H ∧ H F = some (.dK (fndK fs)) ∧ H Wt = some (.lst (natL ws)) ∧ fs.Nodup ∧ (∀ w ∈ fs, Plus succ st w) ∧ (∀ w ∈ fs, w < n) ∧
    (∀ u, u = st ∨ u ∈ fs → u ∈ ws ∨ ∀ w ∈ succ u, w ∈ fs) ∧ (∀ u ∈ ws, u = st ∨ u ∈ fs) ∧ m = 2 * (n - fs.length) + ws.length ∧ ws.length ≤ fs.length + 1
def spReached (K : PySem.W.Frag) : Sp := fun vs H Q _ => ∃ (D : Addr) (st n : Nat) (as : List (Nat × Addr)) (succ : Nat → List Nat), vs = [.ref D, .int (st : Int)] ∧ RowsRd H D as succ ∧ (∀ v, v ∉ as.map (·.1) → succ v = []) ∧ (∀ v w, w ∈ succ v → w < n) ∧ n ≤ 60 ∧
  ∀ (p : Addr) (ws : List Nat) (H' : Hp), H p = none → Same H H' → H' p = some (.lst (natL ws)) → ws.Pairwise (· < ·) → (∀ w, w ∈ ws ↔ Plus succ st w) → Q (.ref p) H'
theorem ok_reached (T : Top K mg) : FnOk P w K mg base CX0 1 T.f_reached T.d_reached ["rows", "start"] (spReached K) := by
  refine T.F_reached.ok sc_reached (fun vs H Q E h => ?_) (fun cdv A outer s H vs Q E hr h => ?_)
  · obtain ⟨D, st, n, as, succ, rfl, _⟩ := h
    rfl
  obtain ⟨D, st, n, as, succ, rfl, ⟨hD, hnd, hrows⟩, hoff, hlt, hn, k⟩ := h
  have hu64 := hr.units
  have hu := Nat.lt_of_le_of_lt (Nat.add_le_add_left (by decide : 1 ≤ 64) _) hu64
  refine ⟨_, (pss_cons (ps_set (i := 2) sc_reached.nd rfl (.inl rfl) pe_dnewK)
    (pss_cons (ps_set (i := 3) sc_reached.nd rfl (.inl rfl) (pe_lst (pa_cons (pv 1) pa_nil)))
    (pss_cons (ps_while PassesOwn.never (pt_truth (pv 3) (fun _ => rfl))
      (pss_cons (ps_set (i := 4) sc_reached.nd rfl (.inl rfl) (pe_bm0 PySem.F.plainAttrs_list PySem.F.slot_list_pop PySem.F.type_list_pop mt_pop (pv 3)))
    (pss_one (ps_for PassesOwn.never rfl (pi_list (pe_dget2 hu (pv 0) (pv 4) (pe_lst pa_nil) ⟨rfl, rfl, rfl, rfl⟩)) (pg_name (i := 5) sc_reached.nd rfl (.inl rfl))
      (pss_one (ps_if (pt_cmp (pc_dnotin hu (pv 5) (pv 2)))
      (pss_cons (ps_dput hu (pv 2) (pv 5) pe_bl rfl)
    (pss_one (ps_expr (pe_bm PySem.F.plainAttrs_list PySem.F.slot_list_append PySem.F.type_list_append mt_append (pv 3) (pa_cons (pv 5) pa_nil)))))
      pss_nil))))))
    (pss_one (ps_ret (pe_callB (call_sortedDI rfl) (by rfl) T.z_sorted (by decide +kernel) (pa_cons (pv 2) pa_nil))))))), ?_⟩
  intro F nF
  have s1 := same_new (o := .dK []) nF
  refine ⟨_, rfl, (by show 1 ≤ sizeLine; decide), fun Wt nW => ?_⟩
  have s2 := s1.trans (same_new (o := .lst [.int (st : Int)]) nW)
  have nFW : F ≠ Wt := ne_of_none upd_same nW
  have nF0 := nF
  have nW0 : H Wt = none := s1.free nW
  refine ⟨RcI H D st F Wt n succ, ⟨2 * n + 1, [], [st], none, none, rfl, s2, (by rw [upd_ne nFW]; exact upd_same), upd_same, .nil, fun w h => (nomatch h), fun w h => (nomatch h), fun u hu => .inl ?_, fun u hu => .inl (List.mem_singleton.mp hu), by simp, by simp⟩, ?_⟩
  · rcases hu with rfl | hu
    · exact List.mem_singleton.mpr rfl
    · cases hu
  rintro m σ H2 ⟨fs, ws, v4, v5, rfl, s3, hF, hW, hnod, hpl, hfn, hcl, hws, hm, hwl⟩
  have hfl := nodup_lt hnod hfn
  refine ⟨_, rfl, _, .inl ⟨_, SqL.of hW, rfl⟩, ?_⟩
  have hor : ws = [] ∨ ∃ ws' v, ws = ws' ++ [v] := by
    rcases List.eq_nil_or_concat ws with h | ⟨l, b, h⟩
    · exact .inl h
    · exact .inr ⟨l, b, by rw [h, List.concat_eq_append]⟩
  rcases hor with rfl | ⟨ws', v, rfl⟩
  · refine iteF ?_
    refine ⟨_, rfl, F, fndK fs, fs.map fun w : Nat => (w : Int), rfl, .inl hF, ?_, by rw [List.length_map]; omega, fun ys p hp hpw np => ?_⟩
    · unfold fndK
      rw [List.map_map, List.map_map]
      rfl
    · have hys : ys = (ys.map Int.toNat).map fun w : Nat => (w : Int) := by
        rw [List.map_map]
        refine (List.map_id ys).symm.trans (List.map_congr_left fun y hy => ?_)
        obtain ⟨w, hw, rfl⟩ := List.mem_map.mp (hp.mem_iff.mp hy)
        rfl
      have hvs : ys.map V.int = natL (ys.map Int.toNat) := by
        have h := congrArg (List.map V.int) hys
        rw [List.map_map] at h
        exact h
      have hmem : ∀ w, w ∈ ys.map Int.toNat ↔ w ∈ fs := fun w => by
        constructor
        · intro hw
          obtain ⟨y, hy, rfl⟩ := List.mem_map.mp hw
          obtain ⟨u, hu, rfl⟩ := List.mem_map.mp (hp.mem_iff.mp hy)
          exact hu
        · intro hw
          exact List.mem_map.mpr ⟨(w : Int), hp.mem_iff.mpr (List.mem_map.mpr ⟨w, hw, rfl⟩), rfl⟩
      rw [hvs]
      have s4 := s3.trans (same_new (o := .lst (natL (ys.map Int.toNat))) np)
      refine k p (ys.map Int.toNat) _ (s3.free np) s4 upd_same ?_ fun w => ?_
      · have hnd2 : ys.Nodup := hp.nodup_iff.mpr (List.Pairwise.map _ (fun a b q e => q (Int.ofNat.inj e)) hnod)
        rw [List.pairwise_map]
        refine (hpw.and hnd2).imp_of_mem fun {a b} ha hb q => ?_
        obtain ⟨u, hu, rfl⟩ := List.mem_map.mp (hp.mem_iff.mp ha)
        obtain ⟨u2, hu2, rfl⟩ := List.mem_map.mp (hp.mem_iff.mp hb)
        have h1 := q.1
        have h2 : (u : Int) ≠ (u2 : Int) := q.2
        show ((u : Int)).toNat < ((u2 : Int)).toNat
        omega
      · rw [hmem]
        constructor
        · exact hpl w
        · intro hw
          have c0 : ∀ u, u = st ∨ u ∈ fs → ∀ w ∈ succ u, w ∈ fs := fun u hu => (hcl u hu).resolve_left fun h => (nomatch h)
          induction hw with
          | one h => exact c0 st (.inl rfl) _ h
          | step _ h ih => exact c0 _ (.inr ih) _ h
  · have hne : (!(natL (ws' ++ [v])).isEmpty) = true := by
      unfold natL
      simp
    rw [hne]
    refine iteT ⟨fun σ' H' => ∃ m', m' < m ∧ RcI H D st F Wt n succ m' σ' H', fun σ' H' h => h, ?_⟩
    have ewn : natL (ws' ++ [v]) = natL ws' ++ [V.int (v : Int)] := by
      unfold natL
      rw [List.map_append]
      rfl
    rw [ewn] at hW
    rw [List.length_append, List.length_singleton] at hm hwl
    refine ⟨_, rfl, .inl ⟨rfl, _, .inl (.inl hW)⟩, Wt, _, .int (v : Int), rfl, rfl, hW, by rw [List.length_append, List.length_singleton, Nat.add_sub_cancel, List.getElem?_concat_length], ?_⟩
    rw [List.dropLast_concat]
    have k4 : ∀ b o, H b = some o → (upd H2 Wt (.lst (natL ws'))) b = some o := fun b o hb => by
      rw [upd_ne (ne_of_none hb nW0)]
      exact s3 _ _ hb
    have hF4 : (upd H2 Wt (.lst (natL ws'))) F = some (.dK (fndK fs)) := by
      rw [upd_ne nFW]
      exact hF
    have hW4 : (upd H2 Wt (.lst (natL ws'))) Wt = some (.lst (natL ws')) := upd_same
    generalize upd H2 Wt (.lst (natL ws')) = H4 at k4 hF4 hW4
    have hD4 : Rd H4 D (.dK (as.map fun x => (.inl (x.1 : Int), .ref x.2))) := by
      rcases hD with h | ⟨o, h⟩
      · exact .inl (k4 _ _ h)
      · exact .inr ⟨o, k4 _ _ h⟩
    refine ⟨_, rfl, D, rfl, .inl ⟨_, hD4⟩, _, rfl, (by show 0 ≤ sizeLine; decide), fun L nL => ?_⟩
    have s5 := same_new (o := .lst []) nL
    have hD5 : Rd (upd H4 L (.lst [])) D (.dK (as.map fun x => (.inl (x.1 : Int), .ref x.2))) := by
      rcases hD4 with h | ⟨o, h⟩
      · exact .inl (s5 _ _ h)
      · exact .inr ⟨o, s5 _ _ h⟩
    have nLF : L ≠ F := (ne_of_none hF4 nL).symm
    have nLW : L ≠ Wt := (ne_of_none hW4 nL).symm
    obtain ⟨o, q, hval, ho, hq, nqF, nqW⟩ : ∃ (o : Option V) (q : Addr), valV (as.map fun x => ((.inl (x.1 : Int) : Key), V.ref x.2)) (.inl (v : Int)) = o ∧ o.getD (.ref L) = .ref q ∧ (upd H4 L (.lst [])) q = some (.lst (natL (succ v))) ∧ q ≠ F ∧ q ≠ Wt := by
      by_cases hk : v ∈ as.map (·.1)
      · obtain ⟨x, hx, hx1⟩ := List.mem_map.mp hk
        subst hx1
        have hr := hrows x hx
        exact ⟨_, x.2, valV_at hnd hx, rfl, s5 _ _ (k4 _ _ hr), ne_of_none hr nF0, ne_of_none hr nW0⟩
      · refine ⟨none, L, valV_off hk, rfl, ?_, nLF, nLW⟩
        rw [hoff v hk]
        exact upd_same
    refine ⟨o, .inl ⟨_, .inl (v : Int), hD5, rfl, hval.symm⟩, ?_⟩
    rw [ho]
    have k5 : ∀ b o, H b = some o → (upd H4 L (.lst [])) b = some o := fun b o hb => s5 _ _ (k4 _ _ hb)
    have hF5 := s5 _ _ hF4
    have hW5 := s5 _ _ hW4
    generalize upd H4 L (.lst []) = H5 at hq k5 hF5 hW5
    refine ⟨q, rfl, ⟨_, SqL.of hq⟩, for_list (K := K) (a := q) (xs := natL (succ v)) (fun j σ H6 => ∃ (new : List Nat) (v5 : Option V), σ = [some (.ref D), some (.int (st : Int)), some (.ref F), some (.ref Wt), some (.int (v : Int)), v5] ∧ (∀ b o, H5 b = some o → b ≠ F → b ≠ Wt → H6 b = some o) ∧ H6 F = some (.dK (fndK (fs ++ new))) ∧ H6 Wt = some (.lst (natL (ws' ++ new))) ∧ (fs ++ new).Nodup ∧ (∀ w ∈ new, w ∈ succ v) ∧ ∀ w ∈ (succ v).take j, w ∈ fs ++ new)
      ⟨[], v5, rfl, fun _ _ h _ _ => h, by rw [List.append_nil]; exact hF5, by rw [List.append_nil]; exact hW5, by rw [List.append_nil]; exact hnod, fun w h => (nomatch h), fun w h => (nomatch h)⟩ (fun j σ H6 _ h => by
        obtain ⟨_, _, _, h, _⟩ := h
        exact SqL.of (h _ _ hq nqF nqW)) ?_ ?_⟩
    · rintro j x σ H6 hx ⟨new, v5, rfl, k6, hF6, hW6, hnn, hns, htk⟩
      unfold natL at hx
      rw [List.getElem?_map] at hx
      cases hz : (succ v)[j]? with
      | none => rw [hz] at hx; cases hx
      | some w =>
        rw [hz] at hx
        have ex : x = .int (w : Int) := (Option.some.inj hx).symm
        subst ex
        have hwm : w ∈ succ v := List.mem_of_getElem? hz
        have hpv : ∀ u ∈ fs ++ new, u < n := fun u hu => by
          rcases List.mem_append.mp hu with hu | hu
          · exact hfn u hu
          · exact hlt v u (hns u hu)
        have hnl := nodup_lt hnn hpv
        rw [List.length_append] at hnl
        refine ⟨_, rfl, _, rfl, F, _, rfl, .inl ⟨_, .inl (w : Int), .inl hF6, rfl, rfl⟩, _, rfl, ?_⟩
        by_cases hin : w ∈ fs ++ new
        · rw [fnd_in hin]
          refine iteF ⟨new, _, rfl, k6, hF6, hW6, hnn, hns, fun u hu => ?_⟩
          rw [take_snoc hz] at hu
          rcases List.mem_append.mp hu with hu | hu
          · exact htk u hu
          · rw [List.mem_singleton.mp hu]
            exact hin
        · rw [fnd_off hin]
          refine iteT ⟨_, rfl, _, rfl, F, _, rfl, .inl ⟨_, .inl (w : Int), hF6, rfl, (by unfold fndK; rw [List.length_map, List.length_append]; exact small1000 (by omega)), rfl⟩, ?_⟩
          rw [putK_new _ (fnd_off hin)]
          have hW7 : (upd H6 F (.dK (fndK (fs ++ new) ++ [(.inl (w : Int), .bl true)]))) Wt = some (.lst (natL (ws' ++ new))) := by
            rw [upd_ne nFW.symm]
            exact hW6
          refine ⟨_, rfl, .inl ⟨rfl, _, .inl (.inl hW7)⟩, _, rfl, Wt, _, _, rfl, rfl, hW7, ?_, ?_⟩
          · unfold natL
            rw [List.length_map, List.length_append]
            exact small1000 (by omega)
          · refine ⟨new ++ [w], _, rfl, fun b o hb h1 h2 => ?_, ?_, ?_, ?_, ?_, fun u hu => ?_⟩
            · rw [upd_ne h2, upd_ne h1]
              exact k6 b o hb h1 h2
            · rw [upd_ne nFW, upd_same, ← List.append_assoc, fnd_snoc]
            · rw [upd_same, ← List.append_assoc, natL_snoc]
            · rw [← List.append_assoc]
              refine List.nodup_append.mpr ⟨hnn, List.nodup_cons.mpr ⟨fun h => (nomatch h), .nil⟩, fun c hc u hu e => hin ?_⟩
              have e2 : c = w := e.trans (List.mem_singleton.mp hu)
              exact e2 ▸ hc
            · intro u hu
              rcases List.mem_append.mp hu with hu | hu
              · exact hns u hu
              · rw [List.mem_singleton.mp hu]
                exact hwm
            · rw [← List.append_assoc]
              rw [take_snoc hz] at hu
              rcases List.mem_append.mp hu with hu | hu
              · exact List.mem_append_left _ (htk u hu)
              · exact List.mem_append_right _ hu
    · rintro σ H6 ⟨new, v5, rfl, k6, hF6, hW6, hnn, hns, htk⟩
      have en : (natL (succ v)).length = (succ v).length := by
        unfold natL
        rw [List.length_map]
      rw [en, List.take_length] at htk
      have hpv : ∀ u ∈ fs ++ new, u < n := fun u hu => by
        rcases List.mem_append.mp hu with hu | hu
        · exact hfn u hu
        · exact hlt v u (hns u hu)
      have hnl := nodup_lt hnn hpv
      have hvst : v = st ∨ v ∈ fs := hws v (List.mem_append_right _ (List.mem_singleton.mpr rfl))
      rw [List.length_append] at hnl
      refine ⟨2 * (n - (fs ++ new).length) + (ws' ++ new).length, ?_, fs ++ new, ws' ++ new, _, _, rfl, fun b o hb => k6 b o (k5 b o hb) (ne_of_none hb nF0) (ne_of_none hb nW0), hF6, hW6, hnn, ?_, hpv, ?_, ?_, rfl, ?_⟩
      · rw [List.length_append, List.length_append]
        omega
      · intro w hw
        rcases List.mem_append.mp hw with hw | hw
        · exact hpl w hw
        · have h1 := hns w hw
          rcases hvst with e | hv
          · exact .one (e ▸ h1)
          · exact .step (hpl v hv) h1
      · intro u hu
        have old : u = st ∨ u ∈ fs → u ∈ ws' ++ new ∨ ∀ w ∈ succ u, w ∈ fs ++ new := fun hu => by
          rcases hcl u hu with h1 | h1
          · rcases List.mem_append.mp h1 with h1 | h1
            · exact .inl (List.mem_append_left _ h1)
            · rw [List.mem_singleton.mp h1]
              exact .inr htk
          · exact .inr fun w hw => List.mem_append_left _ (h1 w hw)
        rcases hu with hu | hu
        · exact old (.inl hu)
        · rcases List.mem_append.mp hu with hu | hu
          · exact old (.inr hu)
          · exact .inl (List.mem_append_right _ hu)
      · intro u hu
        rcases List.mem_append.mp hu with hu | hu
        · rcases hws u (List.mem_append_left _ hu) with h1 | h1
          · exact .inl h1
          · exact .inr (List.mem_append_left _ h1)
        · exact .inr (List.mem_append_right _ hu)
      · rw [List.length_append, List.length_append]
        omega

/-! ### closures of a frame -/
theorem out_it {J : It} {n : Nat} {G : Hp → Prop} {Y : Nat → Hp → V → Hp → Prop} (w : Walk J n G Y) {g g1 : TG} {tt tt1 : TT} {wi1 : TI} {te : TE} {vs vs1 : List Nat} {σ : L2.St} {H1 : Hp} {D : Addr} {Qd : Hp → Prop} (Pv : Nat → Hp → Prop) (start : Pv 0 (upd H1 D (.lst []))) (at_ : ∀ i H, i ≤ n → Pv i H → G H)
    (turn : ∀ i x H H0, i < n → Pv i H0 → Y i H0 x H → g x (wipe σ vs) H fun σ2 H2 => wipe σ2 vs = wipe σ vs ∧ tt σ2 H2 fun b H3 => if b = true then wi1 σ2 H3 fun J1 H4 => ∃ W1 : Nat → Nat → Hp → Prop, (∃ m, W1 0 m H4) ∧ ∀ j k H, W1 j k H →
      (J1.stop j H ∧ Pv (i + 1) H) ∨ (J1.go j H ∧ ∃ N1 : Hp → Prop, (∀ H', N1 H' → ∃ k', k' < k ∧ W1 (j + 1) k' H') ∧ ∀ x H', J1.yld j H x H' → g1 x (wipe σ2 vs1) H' fun σ3 H5 => wipe σ3 vs1 = wipe σ2 vs1 ∧ tt1 σ3 H5 fun b H6 =>
        if b = true then te σ3 H6 fun y H7 => ∃ acc, H7 D = some (.lst acc) ∧ acc.length < sizeLine ∧ N1 (upd H7 D (.lst (acc ++ [y]))) else N1 H6) else Pv (i + 1) H3) (fin : ∀ H, Pv n H → Qd H) :
    ∃ W : Nat → Nat → Hp → Prop, (∃ m, W 0 m (upd H1 D (.lst []))) ∧ ∀ i m H, W i m H →
      (J.stop i H ∧ Qd H) ∨ (J.go i H ∧ ∃ Nx : Hp → Prop, (∀ H', Nx H' → ∃ m', m' < m ∧ W (i + 1) m' H') ∧ ∀ x H', J.yld i H x H' → g x (wipe σ vs) H' fun σ2 H2 => wipe σ2 vs = wipe σ vs ∧ tt σ2 H2 fun b H3 =>
        if b = true then wi1 σ2 H3 fun J1 H4 => ∃ W1 : Nat → Nat → Hp → Prop, (∃ m, W1 0 m H4) ∧ ∀ j k H, W1 j k H →
          (J1.stop j H ∧ Nx H) ∨ (J1.go j H ∧ ∃ Nx1 : Hp → Prop, (∀ H', Nx1 H' → ∃ k', k' < k ∧ W1 (j + 1) k' H') ∧ ∀ x H', J1.yld j H x H' → g1 x (wipe σ2 vs1) H' fun σ3 H5 => wipe σ3 vs1 = wipe σ2 vs1 ∧ tt1 σ3 H5 fun b H6 =>
            if b = true then te σ3 H6 fun y H7 => ∃ acc, H7 D = some (.lst acc) ∧ acc.length < sizeLine ∧ Nx1 (upd H7 D (.lst (acc ++ [y]))) else Nx1 H6)
        else Nx H3) := by
  refine ⟨fun i m H => m = n - i ∧ i ≤ n ∧ Pv i H, ⟨n, by simp, Nat.zero_le _, start⟩, ?_⟩
  rintro i m H ⟨rfl, hi, p⟩
  have q := at_ i H hi p
  by_cases hlt : i < n
  · exact .inr ⟨w.goes i H hlt q, Pv (i + 1), fun H' p' => ⟨n - (i + 1), by omega, rfl, hlt, p'⟩, fun x H' y => turn i x H' H hlt p (w.yields i H x H' hlt q y)⟩
  · have e : i = n := by omega
    subst e
    exact .inl ⟨w.stops H q, fin H p⟩
theorem dc_it {J : It} {n : Nat} {G : Hp → Prop} {Y : Nat → Hp → V → Hp → Prop} (w : Walk J n G Y) {g : TG} {tt : TT} {tk tv : TE} {vs : List Nat} {σ : L2.St} {H1 : Hp} {D : Addr} {Qd : Hp → Prop} (Pv : Nat → Hp → Prop) (h0 : Pv 0 (upd H1 D (.dK []))) (hG : ∀ i H, i ≤ n → Pv i H → G H)
    (hs : ∀ i x H H', i < n → Pv i H → Y i H x H' → g x (wipe σ vs) H' fun σ2 H2 => wipe σ2 vs = wipe σ vs ∧ tt σ2 H2 fun b H3 => if b = true then tk σ2 H3 fun y H4 => tv σ2 H4 fun z H5 => ∃ kvs k, y = kV k ∧ H5 D = some (.dK kvs) ∧ kvs.length < sizeLine ∧ Pv (i + 1) (upd H5 D (.dK (putK kvs k z))) else Pv (i + 1) H3)
    (hd : ∀ H, Pv n H → Qd H) :
    ∃ W : Nat → Nat → Hp → Prop, (∃ m, W 0 m (upd H1 D (.dK []))) ∧ ∀ i m H, W i m H → (J.stop i H ∧ Qd H) ∨ (J.go i H ∧ ∃ Nx : Hp → Prop, (∀ H', Nx H' → ∃ m', m' < m ∧ W (i + 1) m' H') ∧ ∀ x H', J.yld i H x H' → g x (wipe σ vs) H' fun σ2 H2 => wipe σ2 vs = wipe σ vs ∧ tt σ2 H2 fun b H3 =>
      if b = true then tk σ2 H3 fun y H4 => tv σ2 H4 fun z H5 => ∃ kvs k, y = kV k ∧ H5 D = some (.dK kvs) ∧ kvs.length < sizeLine ∧ Nx (upd H5 D (.dK (putK kvs k z))) else Nx H3) := by
  refine ⟨fun i m H => m = n - i ∧ i ≤ n ∧ Pv i H, ⟨n, by simp, Nat.zero_le _, h0⟩, ?_⟩
  rintro i m H ⟨rfl, hi, p⟩
  have q := hG i H hi p
  by_cases hlt : i < n
  · exact .inr ⟨w.goes i H hlt q, Pv (i + 1), fun H' p' => ⟨n - (i + 1), by omega, rfl, hlt, p'⟩, fun x H' y => hs i x H H' hlt p (w.yields i H x H' hlt q y)⟩
  · have e : i = n := by omega
    subst e
    exact .inl ⟨w.stops H q, hd H p⟩
theorem TS.of_other {H : Hp} {d : Addr} {o : Obj} {kvs kvs' : List (Key × V)} (h : H d = some (.frz o (.dK kvs))) : TS H (upd H d (.dK kvs')) := fun b xs r => by
  have e : b ≠ d := fun e => by
    subst e
    rcases r with r | ⟨u, r⟩
    · rw [h] at r
      cases r
    · rw [h] at r
      cases r
  rcases r with r | ⟨u, r⟩
  · exact .inl (by rw [upd_ne e]; exact r)
  · exact .inr ⟨u, by rw [upd_ne e]; exact r⟩
def PAsc (ps : List (Nat × Nat)) : Prop := ps.Pairwise fun x y => x.1 < y.1 ∨ (x.1 = y.1 ∧ x.2 < y.2)
/-- which rows the closure has, ahead of what is added at each world -/
def Rel (tr : Bool) (ps : List (Nat × Nat)) (a b : Nat) : Prop := if tr = true then Plus (sucs ps) a b else (a, b) ∈ ps
theorem mem_sucs {ps : List (Nat × Nat)} {a b : Nat} : b ∈ sucs ps a ↔ (a, b) ∈ ps := by
  unfold sucs
  rw [List.mem_map]
  constructor
  · rintro ⟨x, hx, rfl⟩
    obtain ⟨h1, h2⟩ := List.mem_filter.mp hx
    have : x.1 = a := of_decide_eq_true h2
    rw [← this]
    exact h1
  · intro h
    exact ⟨(a, b), List.mem_filter.mpr ⟨h, decide_eq_true rfl⟩, rfl⟩
theorem sucs_nodup {ps : List (Nat × Nat)} (h : ps.Nodup) (a : Nat) : (sucs ps a).Nodup := by
  unfold sucs
  rw [List.Nodup, List.pairwise_map]
  refine (h.filter _).imp_of_mem fun {x y} hx hy q e => q ?_
  have h1 : x.1 = a := of_decide_eq_true (List.mem_filter.mp hx).2
  have h2 : y.1 = a := of_decide_eq_true (List.mem_filter.mp hy).2
  exact Prod.ext (h1.trans h2.symm) e
theorem plus_start {succ : Nat → List Nat} {a b : Nat} (h : Plus succ a b) : ∃ c, c ∈ succ a := by
  induction h with
  | one h => exact ⟨_, h⟩
  | step _ _ ih => exact ih
theorem plus_end {succ : Nat → List Nat} {a b : Nat} (h : Plus succ a b) : ∃ c, b ∈ succ c := by
  cases h with
  | one h => exact ⟨_, h⟩
  | step _ h => exact ⟨_, h⟩
theorem flat_le {as : List (Nat × Addr)} {f : Nat × Addr → List (Nat × Nat)} {c : Nat} (h : ∀ x, (f x).length ≤ c) : (as.flatMap f).length ≤ c * as.length := by
  induction as with
  | nil => exact Nat.le_refl _
  | cons x as ih =>
    have := h x
    rw [List.flatMap_cons, List.length_append, List.length_cons, Nat.mul_succ]
    omega
theorem im_ks {K : PySem.W.Frag} {H : Hp} : ∀ {ys : List V} {qs : List (Nat × Nat)}, ImAll K H ys (qs.map pd) → ∃ ks : List (Addr × List Int), ys = ks.map (fun p => V.ref p.1) ∧ ks.map (·.2) = qs.map (fun x => [(x.1 : Int), (x.2 : Int)]) ∧ ∀ p ∈ ks, SqT K H p.1 (p.2.map V.int)
  | [], [], _ => ⟨[], rfl, rfl, fun p h => (nomatch h)⟩
  | [], _ :: _, h => (nomatch h)
  | _ :: _, [], h => (nomatch h)
  | y :: ys, x :: qs, h => by
    cases h with
    | cons h1 h2 =>
      obtain ⟨a, rfl, ha⟩ := pd_inv h1
      obtain ⟨ks, e1, e2, e3⟩ := im_ks h2
      refine ⟨(a, [(x.1 : Int), (x.2 : Int)]) :: ks, by rw [e1]; rfl, by rw [List.map_cons, e2]; rfl, fun p hp => ?_⟩
      rcases List.mem_cons.mp hp with rfl | hp
      · exact ha
      · exact e3 p hp
theorem ks_im {K : PySem.W.Frag} {H : Hp} : ∀ {ks : List (Addr × List Int)} {qs : List (Nat × Nat)}, ks.map (·.2) = qs.map (fun x => [(x.1 : Int), (x.2 : Int)]) → (∀ p ∈ ks, SqT K H p.1 (p.2.map V.int)) → ImAll K H (ks.map fun p => V.ref p.1) (qs.map pd)
  | [], [], _, _ => .nil
  | [], _ :: _, h, _ => (nomatch h)
  | _ :: _, [], h, _ => (nomatch h)
  | p :: ks, x :: qs, h, hs => by
    rw [List.map_cons, List.map_cons] at h
    obtain ⟨h1, h2⟩ := List.cons.inj h
    refine .cons ?_ (ks_im h2 fun q hq => hs q (List.mem_cons_of_mem _ hq))
    have := hs p List.mem_cons_self
    rw [h1] at this
    exact .tup this (.cons (.int _) (.cons (.int _) .nil))
theorem code2 (v w : Nat) : _root_.TS.code 64 [(v : Int), (w : Int)] = 64 * v + w := by
  show (v : Int) * 64 ^ 1 + ((w : Int) * 64 ^ 0 + 0) = 64 * (v : Int) + (w : Int)
  omega
def spClosed (K : PySem.W.Frag) : Sp := fun vs H Q _ => ∃ (x : V) (n : Nat) (ps : List (Nat × Nat)) (re tr : Bool), vs = [x, .bl re, .bl tr] ∧ Im K H x (frD n ps) ∧ n ≤ 5 ∧ ps.Nodup ∧ (∀ y ∈ ps, y.1 < n ∧ y.2 < n) ∧ ps.length ≤ 25 ∧
  ∀ (v : V) (qs : List (Nat × Nat)) (H' : Hp), Same H H' → Im K H' v (frD n qs) → PAsc qs → (∀ a b, (a, b) ∈ qs ↔ Rel tr ps a b ∨ (re = true ∧ a = b ∧ a < n)) → Q v H'
theorem ok_closed (T : Top K mg) : FnOk P w K mg base CX0 2 T.f_closed T.d_closed ["frame", "reflexive", "transitive"] (spClosed K) := by
  have G_rows_of : FnOk P w K mg base CX0 1 T.f_rows_of T.d_rows_of ["frame"] (spRows K) := ok_rows_of T
  have G_reached : FnOk P w K mg base CX0 1 T.f_reached T.d_reached ["rows", "start"] (spReached K) := ok_reached T
  refine T.F_closed.ok sc_closed (fun vs H Q E h => ?_) (fun cdv A outer s H vs Q E hr h => ?_)
  · obtain ⟨x, n, ps, re, tr, rfl, _⟩ := h
    rfl
  obtain ⟨x, n, ps, re, tr, rfl, hx, hn, hps, hlt, hpl, k⟩ := h
  have hu64 := hr.units
  refine ⟨_, (pss_cons (ps_asg (pv 0) (pg_tup rfl (pgs_cons (pg_name (i := 3) sc_closed.nd rfl (.inl rfl)) (pgs_cons (pg_name (i := 4) sc_closed.nd rfl (.inl rfl)) pgs_nil))))
    (pss_cons (ps_set (i := 5) sc_closed.nd rfl (.inr rfl) (pe_call G_rows_of (hr.mono (by omega)) (by rfl) T.m_rows_of T.F_rows_of.kp T.b_rows_of .nil pass0 (pa_cons (pv 0) pa_nil)))
    (C8.pss_cut (ps_if (pt_val (pv 2))
      (pss_one (ps_set (i := 5) sc_closed.nd rfl (.inr rfl) (pe_lock (pe_dc (own := [("v", 7)]) (g := gName 7) (tt := tYes) rfl sc_closed.nd (pi_keys (pv 5)) (blkOk_by (N := ["frame", "reflexive", "transitive", "worlds", "_", "rows", "pairs", "v", "row", "w"]) (sc := defScope s_closed) (by decide +kernel)) (fun _ _ _ _ _ => pg_name (i := 7) sc_closed.nd rfl (Or.inl rfl)) (fun _ _ _ _ _ => pts_nil) (fun _ _ _ _ _ => (pv 7)) (fun _ _ _ _ _ => (pe_call G_reached (hr.mono (by omega)) (by rfl) T.m_reached T.F_reached.kp T.b_reached .nil pass0 (pa_cons (pv 5) (pa_cons (pv 7) pa_nil))))))))
      pss_nil)
    (pss_cons (ps_lock (ps_setLc2 (own := [("v", 7), ("row", 8), ("w", 9)]) (vs1 := [9]) (g := gTup K 2 (gCons (gName 7) (gCons (gName 8) gNil))) (g1 := gName 9) (tt := tYes) (tt1 := tYes) (wi1 := iList K _) (i := 6) rfl sc_closed.nd rfl rfl (sw_true rfl rfl rfl (by decide +kernel)) (pi_items (pv 5)) (blkOk_by (N := ["frame", "reflexive", "transitive", "worlds", "_", "rows", "pairs", "v", "row", "w"]) (sc := defScope s_closed) (by decide +kernel)) (by decide) (fun _ _ _ _ _ => (pg_tup rfl (pgs_cons (pg_name (i := 7) sc_closed.nd rfl (.inl rfl)) (pgs_cons (pg_name (i := 8) sc_closed.nd rfl (.inl rfl)) pgs_nil)))) (fun _ _ _ _ _ => pts_nil) (fun _ _ _ _ _ => (pi_list (pv 8))) (fun _ _ _ _ _ => pg_name (i := 9) sc_closed.nd rfl (Or.inl rfl)) (fun _ _ _ _ _ => pts_nil) (fun _ _ _ _ _ => (pe_tup (pa_cons (pv 7) (pa_cons (pv 9) pa_nil))))))
    (C8.pss_cut (ps_if (pt_val (pv 1))
      (pss_one (ps_set (i := 6) sc_closed.nd rfl (.inl rfl) (pe_op op_cat (pv 6) (pe_lc (own := [("v", 7)]) (g := gName 7) (tt := tYes) rfl sc_closed.nd (pi_range1 (by rfl) T.z_range (pa_cons (pv 3) pa_nil)) (blkOk_by (N := ["frame", "reflexive", "transitive", "worlds", "_", "rows", "pairs", "v", "row", "w"]) (sc := defScope s_closed) (by decide +kernel)) (fun _ _ _ _ _ => pg_name (i := 7) sc_closed.nd rfl (Or.inl rfl)) (fun _ _ _ _ _ => pts_nil) (fun _ _ _ _ _ => (pe_tup (pa_cons (pv 7) (pa_cons (pv 7) pa_nil))))))))
      pss_nil)
    (pss_one (ps_ret (pe_tup (pa_cons (pv 3) (pa_cons (pe_callTy call_tuple_of (by rfl) T.z_tuple (by decide +kernel) (pa_cons (pe_callB (cr_sortedT rfl) (by rfl) T.z_sorted (by decide +kernel) (pa_cons (pe_callTy (cr_setOfT rfl hu64) (by rfl) T.z_set (by decide +kernel) (pa_cons (pv 6) pa_nil)) pa_nil)) pa_nil)) pa_nil)))))))))), ?_⟩
  obtain ⟨a, b, ys, rfl, h1, h2, h3⟩ := im_fr hx
  refine ⟨_, rfl, a, _, rfl, h1, rfl, _, _, rfl, _, _, rfl, rfl, ?_⟩
  refine ⟨_, rfl, .ref a, n, ps, rfl, hx, by omega, fun D as H1 nD s1 hR hks hfr => ?_⟩
  have hkn : ∀ v ∈ as.map (·.1), v < n := fun v hv => by
    obtain ⟨w, hw⟩ := (hks v).mp hv
    exact (hlt _ hw).1
  have hal : as.length ≤ n := by
    have := nodup_lt hR.2.1 hkn
    rw [List.length_map] at this
    exact this
  have hsl : ∀ v w, w ∈ sucs ps v → w < n := fun v w hw => (hlt _ (mem_sucs.mp hw)).2
  have hso : ∀ v, v ∉ as.map (·.1) → sucs ps v = [] := fun v hv => by
    rw [List.eq_nil_iff_forall_not_mem]
    intro w hw
    exact hv ((hks v).mpr ⟨w, mem_sucs.mp hw⟩)
  -- the rows, closed
  refine ⟨fun σ H2 => ∃ (D2 : Addr) (as2 : List (Nat × Addr)) (sc : Nat → List Nat), σ = [some (.ref a), some (.bl re), some (.bl tr), some (.int n), some (.ref b), some (.ref D2), none, none, none, none] ∧ Same H H2 ∧ RowsAt H2 D2 as2 sc ∧ (∀ v ∈ as2.map (·.1), v < n) ∧ (∀ v, (sc v).Nodup) ∧ (∀ v w, w ∈ sc v → w < n) ∧
    (∀ v w, (v ∈ as2.map (·.1) ∧ w ∈ sc v) ↔ Rel tr ps v w), ?_, ?_⟩
  · cases tr with
    | false =>
      refine ⟨_, rfl, _, rfl, iteF ⟨D, as, _, rfl, s1, hR, hkn, sucs_nodup hps, hsl, fun v w => ?_⟩⟩
      rw [mem_sucs, hks]
      exact ⟨fun h => h.2, fun h => ⟨⟨w, h⟩, h⟩⟩
    | true =>
      refine ⟨_, rfl, _, rfl, iteT ?_⟩
      obtain ⟨g1, g2, g3, g4, g5⟩ := hR
      refine ⟨D, _, g1, trivial, fun od => ?_⟩
      have kF : ∀ c o, H1 c = some o → c ≠ D → (upd H1 D (.frz od (.dK (as.map fun x => (.inl (x.1 : Int), .ref x.2))))) c = some o := fun c o hc hne => by
        rw [upd_ne hne]
        exact hc
      have hDF : (upd H1 D (.frz od (.dK (as.map fun x => (.inl (x.1 : Int), .ref x.2))))) D = some (.frz od (.dK (as.map fun x => (.inl (x.1 : Int), .ref x.2)))) := upd_same
      generalize upd H1 D (.frz od (.dK (as.map fun x => (.inl (x.1 : Int), .ref x.2)))) = HF at kF hDF
      refine ⟨_, rfl, D, od, rfl, .inl ⟨_, hDF, fun D2 nD2 => ?_⟩⟩
      have nDD : D ≠ D2 := ne_of_none hDF nD2
      have nD2H : H D2 = none := by
        cases e : H D2 with
        | none => rfl
        | some o =>
          rw [kF _ _ (s1 _ _ e) nDD.symm] at nD2
          cases nD2
      refine dc_it walk_keys (fun i H3 => ∃ (bs : List (Nat × Addr)) (sc : Nat → List Nat), (∀ c o, HF c = some o → H3 c = some o) ∧ bs.map (·.1) = (as.map (·.1)).take i ∧ H3 D2 = some (.dK (bs.map fun x => (.inl (x.1 : Int), .ref x.2))) ∧ (bs.map (·.2)).Nodup ∧ D2 ∉ bs.map (·.2) ∧ D ∉ bs.map (·.2) ∧ (∀ x ∈ bs, H3 x.2 = some (.lst (natL (sc x.1)))) ∧
        (∀ v, (sc v).Nodup) ∧ (∀ v w, w ∈ sc v → w < n) ∧ ∀ v ∈ bs.map (·.1), ∀ w, w ∈ sc v ↔ Plus (sucs ps) v w)
        ⟨[], fun _ => [], same_new nD2, rfl, upd_same, .nil, fun h => (nomatch h), fun h => (nomatch h), fun x h => (nomatch h), fun _ => .nil, fun v w h => (nomatch h), fun v h => (nomatch h)⟩ (fun i H3 _ h => by
          obtain ⟨_, _, h, _⟩ := h
          exact h _ _ hDF) ?_ ?_
      · rintro i x H3 H4 hi ⟨bs, sc, k3, hbk, hbD, hbn, hb1, hb2, hbr, scn, scl, scp⟩ ⟨rfl, kk, vv, hkv, rfl⟩
        rw [List.getElem?_map] at hkv
        cases hz : as[i]? with
        | none => rw [hz] at hkv; cases hkv
        | some z =>
          rw [hz] at hkv
          have e1 : kk = .inl (z.1 : Int) := (congrArg Prod.fst (Option.some.inj hkv)).symm
          subst e1
          have hzm : z ∈ as := List.mem_of_getElem? hz
          have hz1 : (as.map (·.1))[i]? = some z.1 := by
            rw [List.getElem?_map, hz]
            rfl
          have hoff : z.1 ∉ bs.map (·.1) := by
            rw [hbk]
            intro hm
            obtain ⟨j, hj⟩ := List.getElem?_of_mem hm
            rw [List.getElem?_take] at hj
            split at hj
            · have := (List.getElem?_inj (List.getElem?_eq_some_iff.mp hj).1 g2).mp (hj.trans hz1.symm)
              omega
            · cases hj
          have hbl : bs.length ≤ i := by
            have := congrArg List.length hbk
            rw [List.length_map, List.length_take] at this
            omega
          have hi' : i < as.length := (List.getElem?_eq_some_iff.mp hz).1
          refine ⟨rfl, _, rfl, _, rfl, _, rfl, D, z.1, n, as, sucs ps, rfl, ⟨.inr ⟨od, k3 _ _ hDF⟩, g2, fun y hy => k3 _ _ (kF _ _ (g5 y hy) fun e => g4 (e ▸ List.mem_map.mpr ⟨y, hy, rfl⟩))⟩, hso, hsl, by omega, fun p ws H5 np s5 hp hasc hmem => ?_⟩
          have hbD5 := s5 _ _ hbD
          have npD2 : p ≠ D2 := (ne_of_none hbD np).symm
          have npD : p ≠ D := (ne_of_none (k3 _ _ hDF) np).symm
          have npb : p ∉ bs.map (·.2) := fun hm => by
            obtain ⟨y, hy, e⟩ := List.mem_map.mp hm
            have := hbr y hy
            rw [e, np] at this
            cases this
          refine ⟨_, .inl (z.1 : Int), rfl, hbD5, by rw [List.length_map]; exact small1000 (by omega), ?_⟩
          rw [putK_new _ (valV_off hoff)]
          refine ⟨bs ++ [(z.1, p)], fun u => if u = z.1 then ws else sc u, fun c o hc => ?_, ?_, ?_, ?_, ?_, ?_, fun y hy => ?_, fun v => ?_, fun v w hw => ?_, fun v hv w => ?_⟩
          · rw [upd_ne (ne_of_none hc nD2)]
            exact s5 _ _ (k3 _ _ hc)
          · rw [take_snoc hz1, List.map_append, hbk]
            rfl
          · rw [upd_same, List.map_append]
            rfl
          · rw [List.map_append]
            refine List.nodup_append.mpr ⟨hbn, List.nodup_cons.mpr ⟨fun h => (nomatch h), .nil⟩, fun c hc u hu e => npb ?_⟩
            have e2 : c = p := e.trans (List.mem_singleton.mp hu)
            exact e2 ▸ hc
          · rw [List.map_append]
            intro hm
            rcases List.mem_append.mp hm with hm | hm
            · exact hb1 hm
            · exact npD2 (List.mem_singleton.mp hm).symm
          · rw [List.map_append]
            intro hm
            rcases List.mem_append.mp hm with hm | hm
            · exact hb2 hm
            · exact npD (List.mem_singleton.mp hm).symm
          · rcases List.mem_append.mp hy with hy | hy
            · have n1 : y.2 ≠ D2 := fun e => hb1 (e ▸ List.mem_map.mpr ⟨y, hy, rfl⟩)
              have n2 : y.1 ≠ z.1 := fun e => hoff (e ▸ List.mem_map.mpr ⟨y, hy, rfl⟩)
              have e9 : (fun u => if u = z.1 then ws else sc u) y.1 = sc y.1 := if_neg n2
              rw [upd_ne n1, e9]
              exact s5 _ _ (hbr y hy)
            · rw [List.mem_singleton.mp hy]
              have e9 : (fun u => if u = z.1 then ws else sc u) z.1 = ws := if_pos rfl
              show upd H5 D2 _ p = some (.lst (natL ((fun u => if u = z.1 then ws else sc u) z.1)))
              rw [upd_ne npD2, e9]
              exact hp
          · show (if v = z.1 then ws else sc v).Nodup
            split
            · exact hasc.imp fun q => Nat.ne_of_lt q
            · exact scn v
          · have hw' : w ∈ (if v = z.1 then ws else sc v) := hw
            split at hw'
            · obtain ⟨c, hc⟩ := plus_end ((hmem w).mp hw')
              exact hsl c w hc
            · exact scl v w hw'
          · show w ∈ (if v = z.1 then ws else sc v) ↔ _
            rw [List.map_append] at hv
            split
            · rename_i e
              rw [e]
              exact hmem w
            · rename_i e
              rcases List.mem_append.mp hv with hv | hv
              · exact scp v hv w
              · exact absurd (List.mem_singleton.mp hv) e
      · rintro H3 ⟨bs, sc, k3, hbk, hbD, hbn, hb1, hb2, hbr, scn, scl, scp⟩
        have hbk2 : bs.map (·.1) = as.map (·.1) := by
          rw [hbk, List.length_map]
          exact List.take_of_length_le (by rw [List.length_map]; exact Nat.le_refl _)
        refine ⟨k3 _ _ hDF, D2, bs, sc, rfl, fun c o hc => ?_, ⟨?_, by rw [hbk2]; exact g2, hbn, hb1, fun x hx => ?_⟩, by rw [hbk2]; exact hkn, scn, scl, fun v w => ?_⟩
        · have n1 := ne_of_none hc nD
          rw [upd_ne n1]
          exact k3 _ _ (kF _ _ (s1 _ _ hc) n1)
        · rw [upd_ne nDD.symm]
          exact hbD
        · rw [upd_ne (show x.2 ≠ D from fun e => hb2 (e ▸ List.mem_map.mpr ⟨x, hx, rfl⟩))]
          exact hbr x hx
        · show _ ↔ Plus (sucs ps) v w
          constructor
          · rintro ⟨hv, hw⟩
            exact (scp v hv w).mp hw
          · intro hp
            obtain ⟨c, hc⟩ := plus_start hp
            have hv : v ∈ bs.map (·.1) := by
              rw [hbk2, hks]
              exact ⟨c, mem_sucs.mp hc⟩
            exact ⟨hv, (scp v hv w).mpr hp⟩
  rintro σ H2 ⟨D2, as2, sc, rfl, s2, hR2, hk2, hnd2, hsl2, hrel⟩
  obtain ⟨g1, g2, g3, g4, g5⟩ := hR2
  have hal2 : as2.length ≤ 5 := by
    have := nodup_lt g2 hk2
    rw [List.length_map] at this
    omega
  have hrow5 : ∀ v, (sc v).length ≤ 5 := fun v => by
    have := nodup_lt (hnd2 v) (hsl2 v)
    omega
  -- the pairs of the rows
  refine ⟨D2, _, g1, trivial, fun od => ?_⟩
  have kF : ∀ c o, H2 c = some o → c ≠ D2 → (upd H2 D2 (.frz od (.dK (as2.map fun x => (.inl (x.1 : Int), .ref x.2))))) c = some o := fun c o hc hne => by
    rw [upd_ne hne]
    exact hc
  have hDF : (upd H2 D2 (.frz od (.dK (as2.map fun x => (.inl (x.1 : Int), .ref x.2))))) D2 = some (.frz od (.dK (as2.map fun x => (.inl (x.1 : Int), .ref x.2)))) := upd_same
  generalize upd H2 D2 (.frz od (.dK (as2.map fun x => (.inl (x.1 : Int), .ref x.2)))) = HF at kF hDF
  refine ⟨_, rfl, D2, od, _, rfl, hDF, fun L nL => ?_⟩
  have nDL : D2 ≠ L := ne_of_none hDF nL
  refine out_it walk_items (fun i H3 => ∃ us : List V, (∀ c o, HF c = some o → H3 c = some o) ∧ H3 L = some (.lst us) ∧ ImAll K H3 us (((as2.take i).flatMap fun x => (sc x.1).map fun w => (x.1, w)).map pd))
    ⟨[], same_new nL, upd_same, .nil⟩ (fun i H3 _ h => by
      obtain ⟨_, h, _⟩ := h
      exact h _ _ hDF) ?_ ?_
  · rintro i x H4 H3 hi ⟨us, k3, hL, iu⟩ ⟨Tt, x0, y0, rfl, nT, rfl, hx0, hy0⟩
    dsimp only at hx0 hy0
    rw [List.getElem?_map] at hx0 hy0
    cases hz : as2[i]? with
    | none => rw [hz] at hx0; cases hx0
    | some z =>
      rw [hz] at hx0 hy0
      have ex : x0 = .int (z.1 : Int) := (Option.some.inj hx0).symm
      have ey : y0 = .ref z.2 := (Option.some.inj hy0).symm
      subst ex
      subst ey
      have hzm : z ∈ as2 := List.mem_of_getElem? hz
      have s4 := same_new (o := .tup [.int (z.1 : Int), .ref z.2]) nT
      have hzD : z.2 ≠ D2 := fun e => g4 (e ▸ List.mem_map.mpr ⟨z, hzm, rfl⟩)
      have hrw : ∀ H' : Hp, (∀ c o, HF c = some o → H' c = some o) → H' z.2 = some (.lst (natL (sc z.1))) := fun H' hk => hk _ _ (kF _ _ (g5 z hzm) hzD)
      have k4 : ∀ c o, HF c = some o → (upd H3 Tt (.tup [.int (z.1 : Int), .ref z.2])) c = some o := fun c o hc => s4 _ _ (k3 _ _ hc)
      have hT := @upd_same H3 Tt (.tup [.int (z.1 : Int), .ref z.2])
      have hL4 := s4 _ _ hL
      have iu4 := iu.mono (Same.ts s4)
      generalize upd H3 Tt (.tup [.int (z.1 : Int), .ref z.2]) = H4 at k4 hT hL4 iu4
      have hbase : ((as2.take i).flatMap fun x => (sc x.1).map fun w => (x.1, w)).length ≤ 5 * (as2.take i).length := flat_le fun x => by
        rw [List.length_map]
        exact hrow5 _
      have htl : (as2.take i).length ≤ 5 := by
        rw [List.length_take]
        omega
      have hlen : ∀ {us : List V} {H5 : Hp} {j : Nat}, ImAll K H5 us ((((as2.take i).flatMap fun x => (sc x.1).map fun w => (x.1, w)) ++ ((sc z.1).take j).map fun w => (z.1, w)).map pd) → us.length ≤ 30 := fun {us H5 j} h => by
        have h1 := h.length
        rw [List.length_map, List.length_append, List.length_map, List.length_take] at h1
        have := hrow5 z.1
        omega
      refine ⟨Tt, _, rfl, SqT.of hT, rfl, _, _, rfl, _, _, rfl, rfl, rfl, _, rfl, z.2, rfl, ⟨_, SqL.of (hrw _ k4)⟩, ?_⟩
      refine in_list (K := K) (b := z.2) (ys := natL (sc z.1)) (fun j H5 => ∃ us : List V, (∀ c o, HF c = some o → H5 c = some o) ∧ H5 L = some (.lst us) ∧ ImAll K H5 us ((((as2.take i).flatMap fun x => (sc x.1).map fun w => (x.1, w)) ++ ((sc z.1).take j).map fun w => (z.1, w)).map pd))
        ⟨us, k4, hL4, by rw [List.take_zero, List.map_nil, List.append_nil]; exact iu4⟩ (fun j H5 _ h => by
          obtain ⟨_, h, _⟩ := h
          exact SqL.of (hrw _ h)) ?_ ?_
      · rintro j y H5 hy ⟨us, k5, hL5, iu5⟩
        unfold natL at hy
        rw [List.getElem?_map] at hy
        cases hw : (sc z.1)[j]? with
        | none => rw [hw] at hy; cases hy
        | some w =>
          rw [hw] at hy
          have ew : y = .int (w : Int) := (Option.some.inj hy).symm
          subst ew
          refine ⟨rfl, _, rfl, _, rfl, (by show 2 ≤ sizeLine; decide), fun q nq => ?_⟩
          have s6 := same_new (o := .tup [.int (z.1 : Int), .int (w : Int)]) nq
          have hL6 := s6 _ _ hL5
          have hlt30 := hlen iu5
          refine ⟨us, hL6, small1000 (by omega), us ++ [.ref q], fun c o hc => ?_, upd_same, ?_⟩
          · rw [upd_ne (ne_of_none hc nL)]
            exact s6 _ _ (k5 _ _ hc)
          · have t : TS (upd H5 q (.tup [.int (z.1 : Int), .int (w : Int)])) (upd (upd H5 q (.tup [.int (z.1 : Int), .int (w : Int)])) L (.lst (us ++ [.ref q]))) := Kp.ts Kp.upd hL6
            have e9 : (((as2.take i).flatMap fun x => (sc x.1).map fun w => (x.1, w)) ++ ((sc z.1).take (j + 1)).map fun w => (z.1, w)).map pd = (((as2.take i).flatMap fun x => (sc x.1).map fun w => (x.1, w)) ++ ((sc z.1).take j).map fun w => (z.1, w)).map pd ++ [pd (z.1, w)] := by
              rw [take_snoc hw]
              simp
            rw [e9]
            exact ((iu5.mono (Same.ts s6)).mono t).snoc ((im_pd (x := (z.1, w)) upd_same).mono t)
      · rintro H5 ⟨us, k5, hL5, iu5⟩
        refine ⟨us, k5, hL5, ?_⟩
        have en : (natL (sc z.1)).length = (sc z.1).length := by
          unfold natL
          rw [List.length_map]
        rw [en, List.take_length] at iu5
        rw [take_snoc hz, List.flatMap_append]
        simpa using iu5
  rintro H3 ⟨us, k3, hL, iu⟩
  have ea : (as2.map fun x => ((.inl (x.1 : Int) : Key), V.ref x.2)).length = as2.length := List.length_map _
  rw [ea, List.take_length] at iu
  refine ⟨k3 _ _ hDF, ?_⟩
  have k4 : Same H (upd H3 D2 (.dK (as2.map fun x => (.inl (x.1 : Int), .ref x.2)))) := fun c o hc => by
    by_cases e : c = D2
    · subst e
      rw [s2 _ _ hc] at g1
      rw [upd_same, g1]
    · rw [upd_ne e]
      exact k3 _ _ (kF _ _ (s2 _ _ hc) e)
  have hL4 : (upd H3 D2 (.dK (as2.map fun x => (.inl (x.1 : Int), .ref x.2)))) L = some (.lst us) := by
    rw [upd_ne nDL.symm]
    exact hL
  have iu4 : ImAll K (upd H3 D2 (.dK (as2.map fun x => (.inl (x.1 : Int), .ref x.2)))) us ((as2.flatMap fun x => (sc x.1).map fun w => (x.1, w)).map pd) := iu.mono (TS.of_other (k3 _ _ hDF))
  generalize upd H3 D2 (.dK (as2.map fun x => (.inl (x.1 : Int), .ref x.2))) = H4 at k4 hL4 iu4
  clear iu
  generalize hqs : (as2.flatMap fun x => (sc x.1).map fun w => (x.1, w)) = qs at iu4
  have hqm : ∀ u w, (u, w) ∈ qs ↔ Rel tr ps u w := fun u w => by
    rw [← hqs, ← hrel, List.mem_flatMap]
    constructor
    · rintro ⟨x, hx, hm⟩
      obtain ⟨w', hw', e⟩ := List.mem_map.mp hm
      have e1 : x.1 = u := congrArg Prod.fst e
      have e2 : w' = w := congrArg Prod.snd e
      subst e1
      subst e2
      exact ⟨List.mem_map.mpr ⟨x, hx, rfl⟩, hw'⟩
    · rintro ⟨hu, hw⟩
      obtain ⟨x, hx, rfl⟩ := List.mem_map.mp hu
      exact ⟨x, hx, List.mem_map.mpr ⟨w, hw, rfl⟩⟩
  have hql : qs.length ≤ 25 := by
    have : qs.length ≤ 5 * as2.length := by
      rw [← hqs]
      exact flat_le fun x => by
        rw [List.length_map]
        exact hrow5 _
    omega
  have hqn : ∀ y ∈ qs, y.1 < n ∧ y.2 < n := fun y hy => by
    have h1 := (hrel y.1 y.2).mpr ((hqm y.1 y.2).mp hy)
    exact ⟨hk2 _ h1.1, hsl2 _ _ h1.2⟩
  -- perhaps each world with itself
  refine ⟨fun σ H5 => ∃ (L2 : Addr) (us : List V) (qs : List (Nat × Nat)), σ = [some (.ref a), some (.bl re), some (.bl tr), some (.int n), some (.ref b), some (.ref D2), some (.ref L2), none, none, none] ∧ Same H H5 ∧ H5 L2 = some (.lst us) ∧ ImAll K H5 us (qs.map pd) ∧ qs.length ≤ 30 ∧ (∀ y ∈ qs, y.1 < n ∧ y.2 < n) ∧ ∀ u w, (u, w) ∈ qs ↔ Rel tr ps u w ∨ (re = true ∧ u = w ∧ u < n), ?_, ?_⟩
  · cases re with
    | false =>
      refine ⟨_, rfl, _, rfl, iteF ⟨L, us, qs, rfl, k4, hL4, iu4, by omega, hqn, fun u w => ?_⟩⟩
      rw [hqm]
      exact ⟨.inl, fun h => h.elim id fun h => (nomatch h.1)⟩
    | true =>
      refine ⟨_, rfl, _, rfl, iteT ⟨_, rfl, _, rfl, n, rfl, by omega, by omega, fun D3 nD3 => ?_⟩⟩
      refine lc_range (n := (n : Int).toNat) (fun i H5 => ∃ zs : List V, Same H4 H5 ∧ H5 D3 = some (.lst zs) ∧ ImAll K H5 zs (((List.range i).map fun v => (v, v)).map pd)) ⟨[], same_new nD3, upd_same, .nil⟩ ?_ ?_
      · rintro i H5 hi ⟨zs, s5, hD3, iz⟩
        have hzl := iz.length
        rw [List.length_map, List.length_map, List.length_range] at hzl
        refine ⟨rfl, _, rfl, _, rfl, (by show 2 ≤ sizeLine; decide), fun q nq => ?_⟩
        have s6 := same_new (o := .tup [.int (0 + (i : Int)), .int (0 + (i : Int))]) nq
        have hD6 := s6 _ _ hD3
        refine ⟨zs, hD6, small1000 (by omega), zs ++ [.ref q], fun c o hc => ?_, upd_same, ?_⟩
        · rw [upd_ne (ne_of_none hc nD3)]
          exact s6 _ _ (s5 _ _ hc)
        · have t : TS (upd H5 q (.tup [.int (0 + (i : Int)), .int (0 + (i : Int))])) (upd (upd H5 q (.tup [.int (0 + (i : Int)), .int (0 + (i : Int))])) D3 (.lst (zs ++ [.ref q]))) := Kp.ts Kp.upd hD6
          have e9 : (((List.range (i + 1)).map fun v => (v, v)).map pd) = ((List.range i).map fun v => (v, v)).map pd ++ [pd (i, i)] := by
            rw [List.range_succ]
            simp
          rw [e9]
          refine ((iz.mono (Same.ts s6)).mono t).snoc ((im_pd (x := (i, i)) ?_).mono t)
          show upd H5 q (.tup [.int (0 + (i : Int)), .int (0 + (i : Int))]) q = some (.tup [.int (i : Int), .int (i : Int)])
          rw [upd_same, Int.zero_add]
      · rintro H5 ⟨zs, s5, hD3, iz⟩
        rw [Int.toNat_natCast] at iz
        have hzl := iz.length
        rw [List.length_map, List.length_map, List.length_range] at hzl
        have hul := iu4.length
        rw [List.length_map] at hul
        refine ⟨L, D3, us, zs, rfl, rfl, s5 _ _ hL4, hD3, Nat.le_trans (show us.length + zs.length ≤ 30 by omega) (by decide), fun r nr => ?_⟩
        have s6 := same_new (o := .lst (us ++ zs)) nr
        refine ⟨r, us ++ zs, qs ++ (List.range n).map fun v => (v, v), rfl, (fun c o hc => s6 _ _ (s5 _ _ (k4 _ _ hc))), upd_same, ?_, ?_, fun y hy => ?_, fun u w => ?_⟩
        · rw [List.map_append]
          exact imAll_append ((iu4.mono (Same.ts s5)).mono (Same.ts s6)) (iz.mono (Same.ts s6))
        · rw [List.length_append, List.length_map, List.length_range]
          omega
        · rcases List.mem_append.mp hy with hy | hy
          · exact hqn y hy
          · obtain ⟨v, hv, rfl⟩ := List.mem_map.mp hy
            exact ⟨List.mem_range.mp hv, List.mem_range.mp hv⟩
        · rw [List.mem_append, hqm]
          refine or_congr Iff.rfl ?_
          rw [List.mem_map]
          constructor
          · rintro ⟨v, hv, e⟩
            have e1 : v = u := congrArg Prod.fst e
            have e2 : v = w := congrArg Prod.snd e
            exact ⟨rfl, e1.symm.trans e2, e1 ▸ List.mem_range.mp hv⟩
          · rintro ⟨_, rfl, hu⟩
            exact ⟨u, List.mem_range.mpr hu, rfl⟩
  clear hqs hqm hql hqn iu4 hL4 k4 hL k3 nL
  rintro σ H5 ⟨L2, us, qs, rfl, k5, hL5, iu, hql, hqn, hqm⟩
  obtain ⟨ks, e1, e2, e3⟩ := im_ks iu
  have hkl : ks.length = qs.length := by
    have := congrArg List.length e2
    rwa [List.length_map, List.length_map] at this
  have kmem : ∀ p ∈ ks, ∃ x ∈ qs, p.2 = [(x.1 : Int), (x.2 : Int)] := fun p hp => by
    have : p.2 ∈ ks.map (·.2) := List.mem_map.mpr ⟨p, hp, rfl⟩
    rw [e2] at this
    obtain ⟨x, hx, e⟩ := List.mem_map.mp this
    exact ⟨x, hx, e.symm⟩
  refine ⟨_, rfl, _, rfl, L2, ks, rfl, SqL.of (e1 ▸ hL5), e3, by omega, fun S Ls nS hsub hall => ?_⟩
  have s6 := same_new (o := SetTO P w S Ls) nS
  refine ⟨S, Ls, 2, 64, rfl, upd_same, fun p hp => (Same.ts s6).sqT (e3 p (hsub p hp)), by decide, fun p hp => ?_, fun L' p perm hnod hlen hpw np => ?_⟩
  · obtain ⟨x, hx, e⟩ := kmem p (hsub p hp)
    rw [e]
    have h9 := hqn x hx
    refine ⟨rfl, fun m hm => ?_⟩
    rcases List.mem_cons.mp hm with rfl | hm
    · omega
    · rw [List.mem_singleton.mp hm]
      omega
  have s7 := s6.trans (same_new (o := .lst (L'.map fun q => V.ref q.1)) np)
  refine ⟨p, _, rfl, .inl ⟨SqL.of upd_same, fun q nq => ⟨(by show 2 ≤ sizeLine; decide), fun t nt => ?_⟩⟩⟩
  have s8 := s7.trans (same_new (o := .tup (L'.map fun q => V.ref q.1)) nq)
  have s9 := same_new (o := .tup [.int n, .ref q]) nt
  have nqt : q ≠ t := ne_of_none upd_same nt
  have s10 := s8.trans s9
  have kL : ∀ r ∈ L', r ∈ ks := fun r hr => hsub r (perm.mem_iff.mp hr)
  have hz : ∀ r ∈ L', r.2 = [(((r.2.headD 0).toNat : Nat) : Int), (((r.2.tail.headD 0).toNat : Nat) : Int)] := fun r hr => by
    obtain ⟨x, hx, e⟩ := kmem r (kL r hr)
    rw [e]
    rfl
  refine k _ (L'.map fun r => ((r.2.headD 0).toNat, (r.2.tail.headD 0).toNat)) _ (fun c o hc => s10 _ _ (k5 _ _ hc)) (.tup (SqT.of upd_same) (.cons (.int _) (.cons (.tup (SqT.of (by rw [upd_ne nqt]; exact upd_same)) (ks_im ?_ fun r hr => (Same.ts s10).sqT (e3 r (kL r hr)))) .nil))) ?_ fun u w => ?_
  · rw [List.map_map]
    exact List.map_congr_left fun r hr => hz r hr
  · unfold PAsc
    rw [List.pairwise_map]
    have hnod2 : L'.Pairwise fun q r => q.2 ≠ r.2 := List.Pairwise.of_map _ (fun a b q => q) hnod
    refine (hpw.and hnod2).imp_of_mem fun {q r} hq hr h => ?_
    obtain ⟨h1, h2⟩ := h
    rw [hz q hq, hz r hr, code2, code2] at h1
    rw [hz q hq, hz r hr] at h2
    have h3 : ¬ ((q.2.headD 0).toNat = (r.2.headD 0).toNat ∧ (q.2.tail.headD 0).toNat = (r.2.tail.headD 0).toNat) := fun e => h2 (by rw [e.1, e.2])
    obtain ⟨x, hx, ex⟩ := kmem q (kL q hq)
    obtain ⟨y, hy, ey⟩ := kmem r (kL r hr)
    have b1 := hqn x hx
    have b2 := hqn y hy
    have f1 : (q.2.tail.headD 0).toNat = x.2 := by rw [ex]; rfl
    have f2 : (r.2.tail.headD 0).toNat = y.2 := by rw [ey]; rfl
    show (q.2.headD 0).toNat < (r.2.headD 0).toNat ∨ ((q.2.headD 0).toNat = (r.2.headD 0).toNat ∧ (q.2.tail.headD 0).toNat < (r.2.tail.headD 0).toNat)
    omega
  · rw [← hqm, List.mem_map]
    constructor
    · rintro ⟨r, hr, e⟩
      obtain ⟨x, hx, ex⟩ := kmem r (kL r hr)
      have : (u, w) = x := by
        rw [← e, ex]
        rfl
      rw [this]
      exact hx
    · intro hm
      have h1 : [(u : Int), (w : Int)] ∈ ks.map (·.2) := by
        rw [e2]
        exact List.mem_map.mpr ⟨(u, w), hm, rfl⟩
      obtain ⟨r0, hr0, er0⟩ := List.mem_map.mp h1
      have h2 := hall r0 hr0
      obtain ⟨r, hr, er⟩ := List.mem_map.mp h2
      refine ⟨r, perm.mem_iff.mpr hr, ?_⟩
      rw [er, er0]
      rfl

/-! ### what a frame is -/
theorem zd_inv {K : PySem.W.Frag} {H : Hp} {v : V} {x : Int × Int} (h : Im K H v (zd x)) : ∃ a, v = .ref a ∧ SqT K H a [.int x.1, .int x.2] := by
  unfold zd at h
  cases h with
  | tup h1 h2 =>
    cases h2 with
    | cons h3 h4 =>
      cases h3
      cases h4 with
      | cons h5 h6 =>
        cases h5
        cases h6
        exact ⟨_, rfl, h1⟩
def spInt (K : PySem.W.Frag) : Sp := fun vs H Q _ => ∃ i : Int, vs = [.int i] ∧ Q (.bl true) H
theorem ok_is_integer (T : Top K mg) : FnOk P w K mg base CX0 1 T.f_is_integer T.d_is_integer ["value"] (spInt K) := by
  refine T.F_is_integer.ok sc_is_integer (fun vs H Q E h => ?_) (fun cdv A outer s H vs Q E hr h => ?_)
  · obtain ⟨i, rfl, _⟩ := h
    rfl
  obtain ⟨i, rfl, k⟩ := h
  refine ⟨_, (pss_one (ps_ret (pe_and (pe_callB call_isi (by rfl) T.z_isinstance (by decide +kernel) (pa_cons (pv 0) (pa_cons (pe_bltn (v := .ty "int") (by rfl) T.z_int (by decide +kernel) rfl) pa_nil))) (pe_one (pe_not (pe_callB call_isi (by rfl) T.z_isinstance (by decide +kernel) (pa_cons (pv 0) (pa_cons (pe_bltn (v := .ty "bool") (by rfl) T.z_bool (by decide +kernel) rfl) pa_nil)))))))), ?_⟩
  have t : TyX K H (.int i) (.type "int") := .base (.int i)
  refine ⟨_, rfl, _, _, _, _, _, rfl, .ty _, t, kB true (by decide +kernel), true, rfl, iteT ⟨_, rfl, _, _, _, _, _, rfl, .ty _, t, kB false (by decide +kernel), _, rfl, k⟩⟩
theorem st_chain {σ : L2.St} {H : Hp} {Q : VK} {i j : Nat} {v wn : Int} (h1 : σ[i]? = some (some (.int v))) (h2 : σ[j]? = some (some (.int wn))) (q : Q (.bl (decide (0 ≤ v) && decide (v < wn))) H) :
    tChain (rI0 fun i j => .bl (decide (i ≤ j))) (rI0 fun i j => .bl (decide (i < j))) (tC (.int 0)) (tVar i) (tVar j) σ H Q := by
  refine ⟨_, h1, 0, v, rfl, rfl, _, rfl, ?_⟩
  cases hd : decide (0 ≤ v) with
  | true =>
    rw [hd] at q
    exact iteT ⟨_, h2, v, wn, rfl, rfl, q⟩
  | false =>
    rw [hd] at q
    exact iteF q
def okP (wn : Int) (z : Int × Int) : Bool := (decide (0 ≤ z.1) && decide (z.1 < wn)) && (decide (0 ≤ z.2) && decide (z.2 < wn))
def spPair (K : PySem.W.Frag) : Sp := fun vs H Q _ => ∃ (x : V) (z : Int × Int) (wn : Int), vs = [x, .int wn] ∧ Im K H x (zd z) ∧ Q (.bl (okP wn z)) H
theorem ok_is_pair (T : Top K mg) : FnOk P w K mg base CX0 2 T.f_is_pair T.d_is_pair ["pair", "worlds"] (spPair K) := by
  have G_is_integer : FnOk P w K mg base CX0 1 T.f_is_integer T.d_is_integer ["value"] (spInt K) := ok_is_integer T
  refine T.F_is_pair.ok sc_is_pair (fun vs H Q E h => ?_) (fun cdv A outer s H vs Q E hr h => ?_)
  · obtain ⟨x, z, wn, rfl, _⟩ := h
    rfl
  obtain ⟨x, z, wn, rfl, hx, k⟩ := h
  refine ⟨_, (pss_cons (ps_if (PW.pt (pw_or (pt_not (pt_val (pe_callB call_isi (by rfl) T.z_isinstance (by decide +kernel) (pa_cons (pv 0) (pa_cons (pe_bltn (v := .ty "tuple") (by rfl) T.z_tuple (by decide +kernel) rfl) pa_nil))))) (pw_or1 (pt_cmpR op_ne (pe_callB call_len_seq (by rfl) T.z_len PySem.boot_len (pa_cons (pv 0) pa_nil)) pe_int (nomark _)))))
      (pss_one (ps_ret pe_bl))
      pss_nil)
    (pss_cons (ps_asg (pv 0) (pg_tup rfl (pgs_cons (pg_name (i := 2) sc_is_pair.nd rfl (.inl rfl)) (pgs_cons (pg_name (i := 3) sc_is_pair.nd rfl (.inl rfl)) pgs_nil))))
    (pss_one (ps_ret (pe_and (pe_call G_is_integer (hr.mono (by omega)) (by rfl) T.m_is_integer T.F_is_integer.kp T.b_is_integer .nil pass0 (pa_cons (pv 2) pa_nil)) (pe_and (pe_call G_is_integer (hr.mono (by omega)) (by rfl) T.m_is_integer T.F_is_integer.kp T.b_is_integer .nil pass0 (pa_cons (pv 3) pa_nil)) (pe_and (pe_chain op_le op_lt pe_int (pv 2) (pv 1)) (pe_one (pe_chain op_le op_lt pe_int (pv 3) (pv 1)))))))))), ?_⟩
  obtain ⟨a, rfl, ha⟩ := zd_inv hx
  have t := ty_tup ha
  refine ⟨_, rfl, _, _, _, _, _, rfl, .ty _, t, kB true (by decide +kernel), _, rfl, iteF ?_⟩
  refine ⟨_, rfl, a, _, rfl, .inr ha, rfl, _, rfl, iteNS rfl ?_⟩
  refine ⟨_, rfl, a, _, rfl, ha, rfl, _, _, rfl, _, _, rfl, rfl, ?_⟩
  dsimp only [tRet]
  refine and_bl (c := true) (d := okP wn z) (fun Q q => ⟨_, rfl, _, rfl, q⟩) (fun Q q => and_bl (c := true) (d := okP wn z) (fun Q q => ⟨_, rfl, _, rfl, q⟩) (fun Q q => and_bl (fun Q q => st_chain rfl rfl q) (fun Q q => st_chain rfl rfl q) q) q) ?_
  exact k
def FrOk (wn : Int) (zs : List (Int × Int)) : Prop := 1 ≤ wn ∧ (∀ z ∈ zs, okP wn z = true) ∧ ∀ k z u, zs[k]? = some z → zs[k + 1]? = some u → zlt z u = true
def frZ (wn : Int) (zs : List (Int × Int)) : PyData := .tuple [.int wn, .tuple (zs.map zd)]
theorem im_frZ {K : PySem.W.Frag} {H : Hp} {x : V} {n : Int} {ps : List (Int × Int)} (h : Im K H x (frZ n ps)) : ∃ (a b : Addr) (ys : List V), x = .ref a ∧ SqT K H a [.int n, .ref b] ∧ SqT K H b ys ∧ ImAll K H ys (ps.map zd) := by
  unfold frZ at h
  cases h with
  | tup h1 h2 =>
    cases h2 with
    | cons h3 h4 =>
      cases h3
      cases h4 with
      | cons h5 h6 =>
        cases h6
        cases h5 with
        | tup h7 h8 => exact ⟨_, _, _, rfl, h1, h7, h8⟩
def spIsFrame (K : PySem.W.Frag) : Sp := fun vs H Q _ => ∃ (x : V) (wn : Int) (zs : List (Int × Int)), vs = [x] ∧ Im K H x (frZ wn zs) ∧ zs.length ≤ 1000 ∧ ∀ b : Bool, (b = true ↔ FrOk wn zs) → Q (.bl b) H
theorem ok_is_frame (T : Top K mg) : FnOk P w K mg base CX0 3 T.f_is_frame T.d_is_frame ["frame"] (spIsFrame K) := by
  have G_is_integer : FnOk P w K mg base CX0 1 T.f_is_integer T.d_is_integer ["value"] (spInt K) := ok_is_integer T
  have G_is_pair : FnOk P w K mg base CX0 2 T.f_is_pair T.d_is_pair ["pair", "worlds"] (spPair K) := ok_is_pair T
  refine T.F_is_frame.ok sc_is_frame (fun vs H Q E h => ?_) (fun cdv A outer s H vs Q E hr h => ?_)
  · obtain ⟨x, n, ps, rfl, _⟩ := h
    rfl
  obtain ⟨x, wn, zs, rfl, hx, hl, k⟩ := h
  have hu64 := hr.units
  refine ⟨_, (pss_cons (ps_if (PW.pt (pw_or (pt_not (pt_val (pe_callB call_isi (by rfl) T.z_isinstance (by decide +kernel) (pa_cons (pv 0) (pa_cons (pe_bltn (v := .ty "tuple") (by rfl) T.z_tuple (by decide +kernel) rfl) pa_nil))))) (pw_or1 (pt_cmpR op_ne (pe_callB call_len_seq (by rfl) T.z_len PySem.boot_len (pa_cons (pv 0) pa_nil)) pe_int (nomark _)))))
      (pss_one (ps_ret pe_bl))
      pss_nil)
    (pss_cons (ps_asg (pv 0) (pg_tup rfl (pgs_cons (pg_name (i := 1) sc_is_frame.nd rfl (.inl rfl)) (pgs_cons (pg_name (i := 2) sc_is_frame.nd rfl (.inl rfl)) pgs_nil))))
    (pss_cons (ps_if (PW.pt (pw_or (pt_not (pt_val (pe_call G_is_integer (hr.mono (by omega)) (by rfl) T.m_is_integer T.F_is_integer.kp T.b_is_integer .nil pass0 (pa_cons (pv 1) pa_nil)))) (pw_or (pt_cmpR op_lt (pv 1) pe_int (nomark _)) (pw_or1 (pt_not (pt_val (pe_callB call_isi (by rfl) T.z_isinstance (by decide +kernel) (pa_cons (pv 2) (pa_cons (pe_bltn (v := .ty "tuple") (by rfl) T.z_tuple (by decide +kernel) rfl) pa_nil)))))))))
      (pss_one (ps_ret pe_bl))
      pss_nil)
    (pss_cons (ps_for PassesOwn.never rfl (pi_tup (pv 2)) (pg_name (i := 3) sc_is_frame.nd rfl (.inl rfl))
      (pss_one (ps_if (pt_not (pt_val (pe_call G_is_pair (hr.mono (by omega)) (by rfl) T.m_is_pair T.F_is_pair.kp T.b_is_pair .nil pass0 (pa_cons (pv 3) (pa_cons (pv 1) pa_nil)))))
      (pss_one (ps_ret pe_bl))
      pss_nil)))
    (pss_cons (ps_for PassesOwn.never rfl (pi_range2 (by rfl) T.z_range (pa_cons pe_int (pa_cons (pe_callB call_len_seq (by rfl) T.z_len PySem.boot_len (pa_cons (pv 2) pa_nil)) pa_nil))) (pg_name (i := 4) sc_is_frame.nd rfl (.inl rfl))
      (pss_one (ps_if (pt_cmpR (op_geZ hu64) (pe_ix ix_tup (pv 2) (pe_op op_sub (pv 4) pe_int) (fun _ _ => rfl)) (pe_ix ix_tup (pv 2) (pv 4) (fun _ _ => rfl)) (nomark _))
      (pss_one (ps_ret pe_bl))
      pss_nil)))
    (pss_one (ps_ret pe_bl))))))), ?_⟩
  obtain ⟨a, b, ys, rfl, h1, h2, h3⟩ := im_frZ hx
  have t := ty_tup h1
  have t2 := ty_tup h2
  have hyl := h3.length
  rw [List.length_map] at hyl
  refine ⟨_, rfl, _, _, _, _, _, rfl, .ty _, t, kB true (by decide +kernel), _, rfl, iteF ?_⟩
  refine ⟨_, rfl, a, _, rfl, .inr h1, rfl, _, rfl, iteNS rfl ?_⟩
  refine ⟨_, rfl, a, _, rfl, h1, rfl, _, _, rfl, _, _, rfl, rfl, ?_⟩
  refine ⟨_, rfl, _, rfl, _, rfl, iteF ⟨_, rfl, _, _, rfl, rfl, _, rfl, ite2 (fun c => ?_) (fun c => ?_)⟩⟩
  · refine iteT (k false ⟨fun h => (nomatch h), fun h => ?_⟩)
    have := of_decide_eq_true c
    have := h.1
    omega
  have hw : 1 ≤ wn := by
    have := of_decide_eq_false (Bool.eq_false_iff.mpr c)
    omega
  refine ⟨_, rfl, _, _, _, _, _, rfl, .ty _, t2, kB true (by decide +kernel), _, rfl, iteF ?_⟩
  -- each pair
  refine ⟨_, rfl, b, rfl, ⟨_, h2⟩, for_tup (K := K) (a := b) (xs := ys) (fun i σ H2 => ∃ v3 : Option V, σ = [some (.ref a), some (.int wn), some (.ref b), v3, none] ∧ H2 = H ∧ ∀ z ∈ zs.take i, okP wn z = true)
    ⟨none, rfl, rfl, fun z hz => (nomatch hz)⟩ (fun i σ H2 _ h => by
      obtain ⟨_, _, rfl, _⟩ := h
      exact h2) ?_ ?_⟩
  · rintro i y σ H2 hy ⟨v3, rfl, rfl, hok⟩
    obtain ⟨d, gd, idd⟩ := h3.get hy
    rw [List.getElem?_map] at gd
    cases hz : zs[i]? with
    | none => rw [hz] at gd; cases gd
    | some z =>
      rw [hz] at gd
      have ed : d = zd z := (Option.some.inj gd).symm
      subst ed
      refine ⟨_, rfl, _, rfl, y, z, wn, rfl, idd, _, rfl, ?_⟩
      cases ho : okP wn z with
      | true =>
        refine iteF ⟨_, rfl, rfl, fun u hu => ?_⟩
        rw [take_snoc hz] at hu
        rcases List.mem_append.mp hu with hu | hu
        · exact hok u hu
        · rw [List.mem_singleton.mp hu]
          exact ho
      | false =>
        refine iteT (k false ⟨fun h => (nomatch h), fun h => ?_⟩)
        rw [h.2.1 z (List.mem_of_getElem? hz)] at ho
        cases ho
  rintro σ H2 ⟨v3, rfl, rfl, hok⟩
  rw [hyl, List.take_length] at hok
  -- neighbours
  refine ⟨_, rfl, b, ys, rfl, .inr h2, 1, (ys.length : Int), rfl, ⟨by decide, by decide, by omega, by omega⟩, for_range (lo := 1) (n := ((ys.length : Int) - 1).toNat) (fun i σ H3 => ∃ v3 v4 : Option V, σ = [some (.ref a), some (.int wn), some (.ref b), v3, v4] ∧ H3 = H2 ∧ ∀ k z u, k < i → zs[k]? = some z → zs[k + 1]? = some u → zlt z u = true)
    ⟨v3, none, rfl, rfl, fun k z u hk => absurd hk (Nat.not_lt_zero _)⟩ ?_ ?_⟩
  · rintro i σ H3 hi ⟨v3, v4, rfl, rfl, hlt⟩
    have hi2 : i + 1 < zs.length := by omega
    obtain ⟨y1, gy1⟩ : ∃ y, ys[i]? = some y := ⟨_, List.getElem?_eq_getElem (by omega)⟩
    obtain ⟨y2, gy2⟩ : ∃ y, ys[i + 1]? = some y := ⟨_, List.getElem?_eq_getElem (by omega)⟩
    obtain ⟨d1, gd1, i1⟩ := h3.get gy1
    obtain ⟨d2, gd2, i2⟩ := h3.get gy2
    have hz1 := List.getElem?_eq_getElem (l := zs) (i := i) (by omega)
    have hz2 := List.getElem?_eq_getElem (l := zs) (i := i + 1) hi2
    rw [List.getElem?_map, hz1] at gd1
    rw [List.getElem?_map, hz2] at gd2
    generalize zs[i] = z1 at hz1 gd1
    generalize zs[i + 1] = z2 at hz2 gd2
    have ed1 : d1 = zd z1 := (Option.some.inj gd1).symm
    have ed2 : d2 = zd z2 := (Option.some.inj gd2).symm
    subst ed1
    subst ed2
    have a1 : atI ys ((1 : Int) + (i : Nat) - 1) = some y1 := by
      rw [show (1 : Int) + (i : Nat) - 1 = ((i : Nat) : Int) by omega]
      exact atI_nat gy1
    have a2 : atI ys ((1 : Int) + (i : Nat)) = some y2 := by
      rw [show (1 : Int) + (i : Nat) = ((i + 1 : Nat) : Int) by omega]
      exact atI_nat gy2
    refine ⟨_, rfl, _, rfl, _, _, rfl, rfl, b, _, _, y1, rfl, rfl, h2, a1, _, rfl, _, rfl, b, _, _, y2, rfl, rfl, h2, a2, z1, z2, i1, i2, _, rfl, ?_⟩
    cases hz : zlt z1 z2 with
    | true =>
      refine iteF ⟨_, _, rfl, rfl, fun k z u hk e1 e2 => ?_⟩
      by_cases e : k < i
      · exact hlt k z u e e1 e2
      · have : k = i := by omega
        subst this
        rw [hz1] at e1
        rw [hz2] at e2
        cases e1
        cases e2
        exact hz
    | false =>
      refine iteT (k false ⟨fun h => (nomatch h), fun h => ?_⟩)
      rw [h.2.2 i z1 z2 hz1 hz2] at hz
      cases hz
  · rintro σ H3 ⟨v3, v4, rfl, rfl, hlt⟩
    refine k true ⟨fun _ => ⟨hw, hok, fun k z u e1 e2 => hlt k z u ?_ e1 e2⟩, fun _ => rfl⟩
    have := (List.getElem?_eq_some_iff.mp e2).1
    omega

/-! ### the law's closing is the closure -/
theorem pasc_one : ∀ {l m : List (Nat × Nat)}, PAsc l → PAsc m → (∀ x, x ∈ l ↔ x ∈ m) → l = m
  | [], [], _, _, _ => rfl
  | [], y :: m, _, _, h => absurd ((h y).mpr List.mem_cons_self) (by simp)
  | x :: l, [], _, _, h => absurd ((h x).mp List.mem_cons_self) (by simp)
  | x :: l, y :: m, hl, hm, h => by
    have hl' := List.pairwise_cons.mp hl
    have hm' := List.pairwise_cons.mp hm
    have e : x = y := by
      rcases List.mem_cons.mp ((h x).mp List.mem_cons_self) with q | q
      · exact q
      · rcases List.mem_cons.mp ((h y).mpr List.mem_cons_self) with r | r
        · exact r.symm
        · have h1 := hm'.1 x q
          have h2 := hl'.1 y r
          omega
    subst e
    have : l = m := pasc_one hl'.2 hm'.2 fun z => by
      constructor
      · intro q
        rcases List.mem_cons.mp ((h z).mp (List.mem_cons_of_mem _ q)) with r | r
        · subst r
          have := hl'.1 z q
          omega
        · exact r
      · intro q
        rcases List.mem_cons.mp ((h z).mpr (List.mem_cons_of_mem _ q)) with r | r
        · subst r
          have := hm'.1 z q
          omega
        · exact r
    rw [this]
theorem grid_asc (a b : Nat) : PAsc (grid a b) := by
  induction a with
  | zero => exact .nil
  | succ a ih =>
    rw [grid_succ]
    refine List.pairwise_append.mpr ⟨ih, ?_, fun x hx y hy => .inl ?_⟩
    · rw [List.pairwise_map]
      exact List.pairwise_lt_range.imp fun q => .inr ⟨rfl, q⟩
    · obtain ⟨w, _, rfl⟩ := List.mem_map.mp hy
      exact (grid_mem.mp hx).1
theorem frP_asc (n : Nat) (R : Nat → Nat → Bool) : PAsc (frP n R) := (grid_asc n n).filter _
theorem frP_mem {n : Nat} {R : Nat → Nat → Bool} {a b : Nat} : (a, b) ∈ frP n R ↔ a < n ∧ b < n ∧ R a b = true := by
  unfold frP
  rw [List.mem_filter, grid_mem, and_assoc]
theorem pasc_nodup {l : List (Nat × Nat)} (h : PAsc l) : l.Nodup := h.imp fun {x y} q e => by
  subst e
  omega
theorem frP_len (n : Nat) (R : Nat → Nat → Bool) : (frP n R).length ≤ n * n := by
  have := List.length_filter_le (fun x : Nat × Nat => R x.1 x.2) (grid n n)
  rw [grid_len] at this
  exact this
theorem wsh_false (S : Nat → Nat → Bool) : ∀ u, wsh false S u = S
  | 0 => rfl
  | u + 1 => by
    rw [wsh, wsh_false S u]
    funext a b
    show (S a b || (false && (S a u && S u b))) = S a b
    cases S a b <;> rfl
theorem wsh_mono (S : Nat → Nat → Bool) {a b : Nat} (h : S a b = true) : ∀ u, wsh true S u a b = true
  | 0 => h
  | u + 1 => by
    show (wsh true S u a b || (true && (wsh true S u a u && wsh true S u u b))) = true
    rw [wsh_mono S h u]
    rfl
theorem wsh_trans (S : Nat → Nat → Bool) : ∀ u v w x, w < u → wsh true S u v w = true → wsh true S u w x = true → wsh true S u v x = true
  | 0, _, _, _, h, _, _ => absurd h (Nat.not_lt_zero _)
  | u + 1, v, w, x, h, h1, h2 => by
    have ih := wsh_trans S u
    have h1' : (wsh true S u v w || (true && (wsh true S u v u && wsh true S u u w))) = true := h1
    have h2' : (wsh true S u w x || (true && (wsh true S u w u && wsh true S u u x))) = true := h2
    show (wsh true S u v x || (true && (wsh true S u v u && wsh true S u u x))) = true
    rw [Bool.true_and, Bool.or_eq_true, Bool.and_eq_true] at h1' h2' ⊢
    by_cases e : w = u
    · subst e
      have a1 : wsh true S w v w = true := h1'.elim id fun h => h.1
      have a2 : wsh true S w w x = true := h2'.elim id fun h => h.2
      exact .inr ⟨a1, a2⟩
    · have hw : w < u := by omega
      rcases h1' with a | ⟨a1, a2⟩
      · rcases h2' with b | ⟨b1, b2⟩
        · exact .inl (ih v w x hw a b)
        · exact .inr ⟨ih v w u hw a b1, b2⟩
      · rcases h2' with b | ⟨b1, b2⟩
        · exact .inr ⟨a1, ih u w x hw a2 b⟩
        · exact .inr ⟨a1, b2⟩
theorem plus_trans {succ : Nat → List Nat} {a b c : Nat} (h1 : Plus succ a b) (h2 : Plus succ b c) : Plus succ a c := by
  induction h2 with
  | one h => exact .step h1 h
  | step _ h ih => exact .step ih h
theorem clo_mem {n : Nat} {re tr : Bool} {R : Nat → Nat → Bool} {a b : Nat} (ha : a < n) (hb : b < n) : clo n re tr R a b = true ↔ Rel tr (frP n R) a b ∨ (re = true ∧ a = b ∧ a < n) := by
  have hS : ∀ a b, a < n → b < n → (rfx re R n a b = true ↔ (a, b) ∈ frP n R ∨ (re = true ∧ a = b ∧ a < n)) := fun a b ha hb => by
    unfold rfx
    rw [frP_mem]
    by_cases e : a = b
    · rw [if_pos ⟨e, ha⟩, Bool.or_eq_true]
      exact ⟨fun h => h.elim (fun h => .inl ⟨ha, hb, h⟩) fun h => .inr ⟨h, e, ha⟩, fun h => h.elim (fun h => .inl h.2.2) fun h => .inr h.1⟩
    · rw [if_neg (fun h => e h.1)]
      exact ⟨fun h => .inl ⟨ha, hb, h⟩, fun h => h.elim (fun h => h.2.2) fun h => absurd h.2.1 e⟩
  unfold clo
  cases tr with
  | false =>
    rw [wsh_false]
    exact hS a b ha hb
  | true =>
    show _ ↔ Plus (sucs (frP n R)) a b ∨ _
    constructor
    · have sound : ∀ u, u ≤ n → ∀ a b, a < n → b < n → wsh true (rfx re R n) u a b = true → Plus (sucs (frP n R)) a b ∨ (re = true ∧ a = b ∧ a < n) := by
        intro u
        induction u with
        | zero =>
          intro _ a b ha hb h
          rcases (hS a b ha hb).mp h with h | h
          · exact .inl (.one (mem_sucs.mpr h))
          · exact .inr h
        | succ u ih =>
          intro hu a b ha hb h
          have h' : (wsh true (rfx re R n) u a b || (true && (wsh true (rfx re R n) u a u && wsh true (rfx re R n) u u b))) = true := h
          rw [Bool.true_and, Bool.or_eq_true, Bool.and_eq_true] at h'
          rcases h' with h' | ⟨h1, h2⟩
          · exact ih (by omega) a b ha hb h'
          · rcases ih (by omega) a u ha (by omega) h1 with p | ⟨p0, p1, p2⟩
            · rcases ih (by omega) u b (by omega) hb h2 with q | ⟨q0, q1, q2⟩
              · exact .inl (plus_trans p q)
              · exact .inl (q1 ▸ p)
            · rcases ih (by omega) u b (by omega) hb h2 with q | ⟨q0, q1, q2⟩
              · exact .inl (p1 ▸ q)
              · exact .inr ⟨p0, p1.trans q1, p2⟩
      exact sound n (Nat.le_refl _) a b ha hb
    · rintro (h | h)
      · have hl : ∀ v w, w ∈ sucs (frP n R) v → v < n ∧ w < n := fun v w hw => by
          have := frP_mem.mp (mem_sucs.mp hw)
          exact ⟨this.1, this.2.1⟩
        clear hb
        induction h with
        | one h =>
          have := hl _ _ h
          exact wsh_mono _ ((hS _ _ this.1 this.2).mpr (.inl (mem_sucs.mp h))) n
        | step _ h ih =>
          have := hl _ _ h
          exact wsh_trans _ n _ _ _ this.1 ih (wsh_mono _ ((hS _ _ this.1 this.2).mpr (.inl (mem_sucs.mp h))) n)
      · exact wsh_mono _ ((hS a b ha hb).mpr (.inr h)) n
theorem clo_eq {n : Nat} {re tr : Bool} {R : Nat → Nat → Bool} {qs : List (Nat × Nat)} (h1 : PAsc qs) (h2 : ∀ a b, (a, b) ∈ qs ↔ Rel tr (frP n R) a b ∨ (re = true ∧ a = b ∧ a < n)) : qs = frP n (clo n re tr R) := by
  refine pasc_one h1 (frP_asc _ _) fun x => ?_
  obtain ⟨a, b⟩ := x
  rw [h2, frP_mem]
  constructor
  · intro h
    have hn : a < n ∧ b < n := by
      rcases h with h | ⟨_, e, h⟩
      · cases tr with
        | false =>
          have := frP_mem.mp (show (a, b) ∈ frP n R from h)
          exact ⟨this.1, this.2.1⟩
        | true =>
          have h' : Plus (sucs (frP n R)) a b := h
          obtain ⟨c, hc⟩ := plus_start h'
          obtain ⟨d, hd⟩ := plus_end h'
          exact ⟨(frP_mem.mp (mem_sucs.mp hc)).1, (frP_mem.mp (mem_sucs.mp hd)).2.1⟩
      · exact ⟨h, e ▸ h⟩
    exact ⟨hn.1, hn.2, (clo_mem hn.1 hn.2).mpr h⟩
  · rintro ⟨ha, hb, h⟩
    exact (clo_mem ha hb).mp h
theorem frD_small (n : Nat) {qs : List (Nat × Nat)} (h : qs.length ≤ 1000000) : (frD n qs).depth < 20 ∧ sml (frD n qs) := by
  have h1 : PyData.depthAll (qs.map pd) ≤ 1 := by
    clear h
    induction qs with
    | nil => exact Nat.zero_le _
    | cons x qs ih =>
      rw [List.map_cons, PyData.depthAll]
      exact Nat.max_le.mpr ⟨Nat.le_refl _, ih⟩
  have h2 : smlAll (qs.map pd) := by
    clear h h1
    induction qs with
    | nil => exact True.intro
    | cons x qs ih => exact ⟨⟨by show 2 ≤ 1000000; decide, True.intro, True.intro, True.intro⟩, ih⟩
  refine ⟨?_, by show 2 ≤ 1000000; decide, True.intro, ⟨by rw [List.length_map]; exact h, h2⟩, True.intro⟩
  show max 0 (max (PyData.depthAll (qs.map pd) + 1) 0) + 1 < 20
  omega
def toZ (x : Nat × Nat) : Int × Int := ((x.1 : Int), (x.2 : Int))
theorem pd_toZ (l : List (Nat × Nat)) : l.map pd = (l.map toZ).map zd := by
  rw [List.map_map]
  rfl
def ZAsc (zs : List (Int × Int)) : Prop := zs.Pairwise fun z u => zlt z u = true
theorem zasc_of {l : List (Nat × Nat)} (h : PAsc l) : ZAsc (l.map toZ) := by
  unfold ZAsc
  rw [List.pairwise_map]
  refine h.imp fun {x y} q => ?_
  unfold zlt toZ
  rcases q with q | ⟨q1, q2⟩
  · rw [if_neg (by show (x.1 : Int) ≠ (y.1 : Int); omega)]
    exact decide_eq_true (by show (x.1 : Int) < (y.1 : Int); omega)
  · rw [if_pos (by show (x.1 : Int) = (y.1 : Int); omega)]
    exact decide_eq_true (by show (x.2 : Int) < (y.2 : Int); omega)
theorem zlt_irrefl (z : Int × Int) : zlt z z = false := by
  unfold zlt
  rw [if_pos rfl]
  exact decide_eq_false (by omega)
theorem zlt_asymm {z u : Int × Int} (h : zlt z u = true) : zlt u z = false := by
  unfold zlt at h ⊢
  by_cases e : z.1 = u.1
  · rw [if_pos e] at h
    rw [if_pos e.symm]
    have := of_decide_eq_true h
    exact decide_eq_false (by omega)
  · rw [if_neg e] at h
    rw [if_neg (fun q => e q.symm)]
    have := of_decide_eq_true h
    exact decide_eq_false (by omega)
theorem zasc_get {zs : List (Int × Int)} (h : ZAsc zs) {i j : Nat} {z u : Int × Int} (hij : i < j) (h1 : zs[i]? = some z) (h2 : zs[j]? = some u) : zlt z u = true := by
  obtain ⟨i1, e1⟩ := List.getElem?_eq_some_iff.mp h1
  obtain ⟨i2, e2⟩ := List.getElem?_eq_some_iff.mp h2
  have := List.pairwise_iff_getElem.mp h i j i1 i2 hij
  rw [e1, e2] at this
  exact this
theorem frok_P {n : Nat} {R : Nat → Nat → Bool} (hn : 1 ≤ n) : FrOk (n : Int) ((frP n R).map toZ) := by
  refine ⟨by omega, fun z hz => ?_, fun k z u h1 h2 => zasc_get (zasc_of (frP_asc n R)) (Nat.lt_succ_self k) h1 h2⟩
  obtain ⟨x, hx, rfl⟩ := List.mem_map.mp hz
  have := frP_mem.mp (show (x.1, x.2) ∈ frP n R from hx)
  unfold okP toZ
  rw [decide_eq_true (by show (0 : Int) ≤ (x.1 : Int); omega), decide_eq_true (by show (x.1 : Int) < (n : Int); omega), decide_eq_true (by show (0 : Int) ≤ (x.2 : Int); omega), decide_eq_true (by show (x.2 : Int) < (n : Int); omega)]
  rfl
theorem im_zd {K : PySem.W.Frag} {H : Hp} {p : Addr} {x : Int × Int} (h : H p = some (.tup [.int x.1, .int x.2])) : Im K H (.ref p) (zd x) := .tup (SqT.of h) (.cons (.int _) (.cons (.int _) .nil))
theorem okP_no {wn : Int} {z : Int × Int} (h : ¬ (((0 ≤ z.1) ∧ z.1 < wn) ∧ (0 ≤ z.2) ∧ z.2 < wn)) : okP wn z = false := by
  refine Bool.eq_false_iff.mpr fun e => h ?_
  unfold okP at e
  simpa only [Bool.and_eq_true, decide_eq_true_eq] using e
theorem cut_to {xs : List V} {k : Nat} (h : k ≤ xs.length) : cutV xs none (some (k : Int)) = xs.take k := by
  unfold cutV
  have e : HT.sIx xs.length xs.length (some (k : Int)) = k := by
    show (if (k : Int) < 0 then ((k : Int) + (xs.length : Int)).toNat else min (k : Int).toNat xs.length) = k
    rw [if_neg (by omega)]
    omega
  rw [e, HT.sIx_none, List.drop_zero, Nat.sub_zero]
theorem cut_from {xs : List V} {k : Nat} (h : k ≤ xs.length) : cutV xs (some (k : Int)) none = xs.drop k := by
  unfold cutV
  have e : HT.sIx xs.length 0 (some (k : Int)) = k := by
    show (if (k : Int) < 0 then ((k : Int) + (xs.length : Int)).toNat else min (k : Int).toNat xs.length) = k
    rw [if_neg (by omega)]
    omega
  rw [e, HT.sIx_none]
  exact List.take_of_length_le (by rw [List.length_drop]; exact Nat.le_refl _)
theorem im_take {K : PySem.W.Frag} {H : Hp} : ∀ (k : Nat) {xs : List V} {zs : List (Int × Int)}, ImAll K H xs (zs.map zd) → ImAll K H (xs.take k) ((zs.take k).map zd)
  | 0, _, _, _ => .nil
  | _ + 1, [], [], _ => .nil
  | _ + 1, [], _ :: _, h => (nomatch h)
  | _ + 1, _ :: _, [], h => (nomatch h)
  | k + 1, x :: xs, z :: zs, h => by
    have h' : ImAll K H (x :: xs) (zd z :: zs.map zd) := h
    cases h' with
    | cons h1 h2 => exact .cons h1 (im_take k h2)
theorem im_drop {K : PySem.W.Frag} {H : Hp} : ∀ (k : Nat) {xs : List V} {zs : List (Int × Int)}, ImAll K H xs (zs.map zd) → ImAll K H (xs.drop k) ((zs.drop k).map zd)
  | 0, _, _, h => h
  | _ + 1, [], [], _ => .nil
  | _ + 1, [], _ :: _, h => (nomatch h)
  | _ + 1, _ :: _, [], h => (nomatch h)
  | k + 1, x :: xs, z :: zs, h => by
    have h' : ImAll K H (x :: xs) (zd z :: zs.map zd) := h
    cases h' with
    | cons h1 h2 => exact im_drop k h2
theorem frok_no {wn : Int} {zs : List (Int × Int)} {k : Nat} {z u : Int × Int} (h1 : zs[k]? = some z) (h2 : zs[k + 1]? = some u) (h3 : zlt z u = false) : false = true ↔ FrOk wn zs :=
  ⟨fun h => (nomatch h), fun h => by
    rw [h.2.2 k z u h1 h2] at h3
    cases h3⟩

/-! ### the law -/
def spLaw (K : PySem.W.Frag) : Sp := fun vs H Q _ => ∃ (a : Addr) (ns : List Int), vs = [.ref a] ∧ SqL K H a (ns.map V.int) ∧ ns.length ≤ 63 ∧ ∀ H', Q (.bl true) H'
theorem ok_law (T : Top K mg) : FnOk P w K mg base CX0 21 T.f_law T.d_law ["script"] (spLaw K) := by
  have G_law_pool : FnOk P w K mg base CX0 1 T.f_law_pool T.d_law_pool ["script"] (spPool K) := ok_law_pool T
  have G_law_draw : FnOk P w K mg base CX0 2 T.f_law_draw T.d_law_draw ["pool", "many"] (spDraw K) := ok_law_draw T
  have G_law_same : FnOk P w K mg base CX0 20 T.f_law_same T.d_law_same ["actual", "due"] (spSame K 20) := ok_law_same T 20
  have G_law_wide_model : FnOk P w K mg base CX0 3 T.f_law_wide_model T.d_law_wide_model ["pool", "most"] (spWide K) := ok_law_wide_model T
  have G_law_framed : FnOk P w K mg base CX0 2 T.f_law_framed T.d_law_framed ["seen"] (spFramed K) := ok_law_framed T
  have G_law_closing : FnOk P w K mg base CX0 1 T.f_law_closing T.d_law_closing ["seen", "reflexive", "transitive"] (spClosing K) := ok_law_closing T
  have G_closed : FnOk P w K mg base CX0 2 T.f_closed T.d_closed ["frame", "reflexive", "transitive"] (spClosed K) := ok_closed T
  have G_is_frame : FnOk P w K mg base CX0 3 T.f_is_frame T.d_is_frame ["frame"] (spIsFrame K) := ok_is_frame T
  refine T.F_law.ok sc_law (fun vs H Q E h => ?_) (fun cdv A outer s H vs Q E hr h => ?_)
  · obtain ⟨a, ns, rfl, _⟩ := h
    rfl
  obtain ⟨sa, ns, rfl, hS, hn63, q⟩ := h
  have hu64 := hr.units
  refine ⟨_, (pss_cons (ps_set (i := 1) sc_law.nd rfl (.inl rfl) (pe_call G_law_pool (hr.mono (by omega)) (by rfl) T.m_law_pool T.F_law_pool.kp T.b_law_pool .nil pass0 (pa_cons (pv 0) pa_nil)))
    (pss_cons (ps_set (i := 2) sc_law.nd rfl (.inl rfl) (pe_ix ix_tup (pe_call G_law_wide_model (hr.mono (by omega)) (by rfl) T.m_law_wide_model T.F_law_wide_model.kp T.b_law_wide_model .nil pass0 (pa_cons (pv 1) (pa_cons pe_int pa_nil))) pe_int (fun _ _ => rfl)))
    (pss_cons (ps_set (i := 3) sc_law.nd rfl (.inl rfl) (pe_callB call_len_seq (by rfl) T.z_len PySem.boot_len (pa_cons (pv 2) pa_nil)))
    (pss_cons (ps_set (i := 4) sc_law.nd rfl (.inl rfl) (pe_call G_law_framed (hr.mono (by omega)) (by rfl) T.m_law_framed T.F_law_framed.kp T.b_law_framed .nil pass0 (pa_cons (pv 2) pa_nil)))
    (pss_cons (ps_for PassesOwn.never rfl (pi_range1 (by rfl) T.z_range (pa_cons pe_int pa_nil)) (pg_name (i := 5) sc_law.nd rfl (.inl rfl))
      (pss_cons (ps_set (i := 6) sc_law.nd rfl (.inl rfl) (pe_call G_law_framed (hr.mono (by omega)) (by rfl) T.m_law_framed T.F_law_framed.kp T.b_law_framed .nil pass0 (pa_cons (pe_call G_law_closing (hr.mono (by omega)) (by rfl) T.m_law_closing T.F_law_closing.kp T.b_law_closing .nil pass0 (pa_cons (pv 2) (pa_cons (pe_cmpR op_eq (pe_op op_mod (pv 5) pe_int) pe_int (nomark _)) (pa_cons (pe_cmpR op_gt (pv 5) pe_int (nomark _)) pa_nil)))) pa_nil)))
    (pss_one (ps_if (pt_not (pt_val (pe_call G_law_same (hr.mono (by omega)) (by rfl) T.m_law_same T.F_law_same.kp T.b_law_same .nil pass0 (pa_cons (pe_call G_closed (hr.mono (by omega)) (by rfl) T.m_closed T.F_closed.kp T.b_closed .nil pass0 (pa_cons (pv 4) (pa_cons (pe_cmpR op_eq (pe_op op_mod (pv 5) pe_int) pe_int (nomark _)) (pa_cons (pe_cmpR op_gt (pv 5) pe_int (nomark _)) pa_nil)))) (pa_cons (pv 6) pa_nil)))))
      (pss_one (ps_ret pe_bl))
      pss_nil))))
    (pss_cons (ps_set (i := 7) sc_law.nd rfl (.inl rfl) (pe_callTy call_list_of (by rfl) T.z_list (by decide +kernel) (pa_cons (pe_ix ix_tup (pv 4) pe_int (fun _ _ => rfl)) pa_nil)))
    (pss_cons (ps_set (i := 8) sc_law.nd rfl (.inl rfl) (pe_call G_law_draw (hr.mono (by omega)) (by rfl) T.m_law_draw T.F_law_draw.kp T.b_law_draw .nil pass0 (pa_cons (pv 1) (pa_cons pe_int pa_nil))))
    (pss_cons (ps_set (i := 9) sc_law.nd rfl (.inl rfl) (pe_call G_law_draw (hr.mono (by omega)) (by rfl) T.m_law_draw T.F_law_draw.kp T.b_law_draw .nil pass0 (pa_cons (pv 1) (pa_cons (pe_op op_add (pe_callB call_len_seq (by rfl) T.z_len PySem.boot_len (pa_cons (pv 7) pa_nil)) pe_int) pa_nil))))
    (pss_cons (ps_set (i := 10) sc_law.nd rfl (.inl rfl) pe_bl)
    (C8.pss_cut (ps_if (pt_cmpR op_eq (pv 8) pe_int (nomark _))
      (pss_cons (ps_set (i := 7) sc_law.nd rfl (.inl rfl) (pe_callB (cr_sortedZ hu64) (by rfl) T.z_sorted (by decide +kernel) (pa_cons (pe_op op_cat (pv 7) (pe_lst (pa_cons (pe_ix ix_list (pe_lst (pa_cons (pe_tup (pa_cons (pv 3) (pa_cons pe_int pa_nil))) (pa_cons (pe_tup (pa_cons pe_int (pa_cons (pv 3) pa_nil))) (pa_cons (pe_tup (pa_cons (pe_un un_neg pe_int) (pa_cons pe_int pa_nil))) (pa_cons (pe_tup (pa_cons pe_int (pa_cons (pe_un un_neg pe_int) pa_nil))) (pa_cons (pe_tup (pa_cons (pe_op op_add (pv 3) pe_int) (pa_cons (pv 3) pa_nil))) pa_nil)))))) (pe_call G_law_draw (hr.mono (by omega)) (by rfl) T.m_law_draw T.F_law_draw.kp T.b_law_draw .nil pass0 (pa_cons (pv 1) (pa_cons pe_int pa_nil))) (fun _ _ => rfl)) pa_nil))) pa_nil)))
    (pss_one (ps_set (i := 10) sc_law.nd rfl (.inl rfl) pe_bl)))
      (pss_one (ps_if (PW.pt (pw_and (pt_cmpR op_eq (pv 8) pe_int (nomark _)) (pw_and1 (pt_cmpR op_gt (pe_callB call_len_seq (by rfl) T.z_len PySem.boot_len (pa_cons (pv 7) pa_nil)) pe_int (nomark _)))))
      (pss_cons (ps_set (i := 7) sc_law.nd rfl (.inl rfl) (pe_op op_cat (pe_op op_cat (pe_slice sl_list (pv 7) po_none (po_some (pv 9))) (pe_lst (pa_cons (pe_ix ix_list (pv 7) (pe_op op_sub (pv 9) pe_int) (fun _ _ => rfl)) pa_nil))) (pe_slice sl_list (pv 7) (po_some (pv 9)) po_none)))
    (pss_one (ps_set (i := 10) sc_law.nd rfl (.inl rfl) pe_bl)))
      (pss_one (ps_if (PW.pt (pw_and (pt_cmpR op_eq (pv 8) pe_int (nomark _)) (pw_and1 (pt_cmpR op_gt (pe_callB call_len_seq (by rfl) T.z_len PySem.boot_len (pa_cons (pv 7) pa_nil)) pe_int (nomark _)))))
      (pss_cons (ps_set (i := 7) sc_law.nd rfl (.inl rfl) (pe_op op_cat (pe_slice sl_list (pv 7) (po_some pe_int) po_none) (pe_slice sl_list (pv 7) po_none (po_some pe_int))))
    (pss_one (ps_set (i := 10) sc_law.nd rfl (.inl rfl) pe_bl)))
      (pss_one (ps_if (pt_cmpR op_eq (pv 8) pe_int (nomark _))
      (pss_cons (ps_set (i := 3) sc_law.nd rfl (.inl rfl) (pe_un un_neg (pe_call G_law_draw (hr.mono (by omega)) (by rfl) T.m_law_draw T.F_law_draw.kp T.b_law_draw .nil pass0 (pa_cons (pv 1) (pa_cons pe_int pa_nil)))))
    (pss_cons (ps_set (i := 7) sc_law.nd rfl (.inl rfl) (pe_op op_rep (pv 7) (pe_call G_law_draw (hr.mono (by omega)) (by rfl) T.m_law_draw T.F_law_draw.kp T.b_law_draw .nil pass0 (pa_cons (pv 1) (pa_cons pe_int pa_nil)))))
    (pss_one (ps_set (i := 10) sc_law.nd rfl (.inl rfl) pe_bl))))
      pss_nil)))))))
    (pss_one (ps_ret (pe_call G_law_same (hr.mono (by omega)) (by rfl) T.m_law_same T.F_law_same.kp T.b_law_same .nil pass0 (pa_cons (pe_call G_is_frame (hr.mono (by omega)) (by rfl) T.m_is_frame T.F_is_frame.kp T.b_is_frame .nil pass0 (pa_cons (pe_tup (pa_cons (pv 3) (pa_cons (pe_callTy call_tuple_of (by rfl) T.z_tuple (by decide +kernel) (pa_cons (pv 7) pa_nil)) pa_nil))) pa_nil)) (pa_cons (pv 10) pa_nil))))))))))))))), ?_⟩
  refine ⟨_, rfl, sa, ns, rfl, hS, fun p l H1 np s1 hP1 => ?_⟩
  refine ⟨_, rfl, p, l, 5, rfl, hP1, by decide, by decide, fun t s d n R W H2 n1 n5 k2 hP2 ns0 nd0 hT hG hV => ?_⟩
  refine ⟨t, _, 0, .ref s, rfl, rfl, hT, atI_nat (j := 0) rfl, ?_⟩
  obtain ⟨rs, g1, g2, g3, g4, g5⟩ := hG
  have el : ((rs.map V.ref).length : Int) = (n : Int) := by rw [List.length_map, g2]
  refine ⟨_, rfl, s, _, rfl, .inl (SqL.of g1), ?_⟩
  rw [el]
  have hG : GridAt H2 s n R := ⟨rs, g1, g2, g3, g4, g5⟩
  refine ⟨_, rfl, s, n, R, rfl, hG, by omega, fun fv H3 s3 i3 => ?_⟩
  have hG3 := hG.same s3
  have hP3 := hP2.same s3
  have hfl : (frP n R).length ≤ 25 := by
    have h1 := frP_len n R
    have h2 : n * n ≤ 5 * 5 := Nat.mul_le_mul (by omega) (by omega)
    omega
  -- the four ways
  refine ⟨4, rfl, by decide, by decide, for_range (n := 4) (fun i σ H4 => ∃ v5 v6 : Option V, σ = [some (.ref sa), some (.ref p), some (.ref s), some (.int n), some fv, v5, v6, none, none, none, none] ∧ Same H3 H4) ⟨none, none, rfl, L2.Same.refl _⟩ ?_ ?_⟩
  · rintro i σ H4 hi ⟨v5, v6, rfl, s4⟩
    refine ⟨_, rfl, _, rfl, _, _, rfl, rfl, (by show (0 : Int) < 2; decide), rfl, _, rfl, _, _, rfl, rfl, ?_⟩
    refine ⟨s, n, R, _, _, rfl, hG3.same s4, by omega, fun c H5 nc s5 hc => ⟨c, n, _, rfl, hc, by omega, fun dv H6 s6 i6 => ?_⟩⟩
    have s46 := (s4.trans s5).trans s6
    refine ⟨_, rfl, _, rfl, _, _, rfl, rfl, (by show (0 : Int) < 2; decide), rfl, _, rfl, _, _, rfl, rfl, ?_⟩
    refine ⟨fv, n, frP n R, _, _, rfl, i3.mono (Same.ts s46), by omega, pasc_nodup (frP_asc n R), fun y hy => ?_, hfl, fun cv qs H7 s7 i7 hasc hmem => ?_⟩
    · have := frP_mem.mp (show (y.1, y.2) ∈ frP n R from hy)
      exact ⟨this.1, this.2.1⟩
    have hq := clo_eq hasc hmem
    have hql : qs.length ≤ 1000000 := by
      rw [hq]
      exact Nat.le_trans (frP_len n _) (Nat.le_trans (Nat.mul_le_mul (show n ≤ 5 by omega) (show n ≤ 5 by omega)) (by decide))
    have hsm := frD_small n hql
    subst hq
    exact ⟨_, rfl, cv, dv, _, rfl, i7.dp, (i6.mono (Same.ts s7)).dp, hsm.1, hsm.2, _, rfl, iteF ⟨_, _, rfl, s46.trans s7⟩⟩
  rintro σ H4 ⟨v5, v6, rfl, s4⟩
  have i4 := i3.mono (Same.ts s4)
  have hP4 := hP3.same s4
  obtain ⟨a, b, ys, rfl, f1, f2, f3⟩ := im_fr i4
  -- its pairs
  refine ⟨_, rfl, a, _, 1, .ref b, rfl, rfl, f1, atI_nat (j := 1) rfl, b, ys, rfl, .inr f2, fun L nL => ?_⟩
  have s5 := same_new (o := .lst ys) nL
  have hP5 := hP4.same s5
  have hL5 := @upd_same H4 L (.lst ys)
  have f35 := f3.mono (Same.ts s5)
  generalize upd H4 L (.lst ys) = H5 at s5 hP5 hL5 f35
  obtain ⟨xs5, hp5⟩ := hP5.lst
  have nLp : L ≠ p := fun e => by
    obtain ⟨xs4, hp4⟩ := hP4.lst
    rw [e, hp4] at nL
    cases nL
  refine ⟨_, rfl, p, l, 8, rfl, hP5, by decide, by decide, fun tn H6 t0 t1 k6 hP6 => ?_⟩
  have hL6 := k6 _ _ hL5 nLp
  have f36 := f35.mono (hP5.ts k6)
  have hyl := f36.length
  rw [List.length_map] at hyl
  refine ⟨_, rfl, _, rfl, L, ys, rfl, .inl (SqL.of hL6), _, _, rfl, rfl, p, l, _, rfl, hP6, by omega, by omega, fun at_ H7 a0 a1 k7 hP7 => ?_⟩
  have hL7 := k7 _ _ hL6 nLp
  have f37 := f36.mono (hP6.ts k7)
  rw [pd_toZ] at f37
  generalize hZ : (frP n R).map toZ = Z at f37
  have hok : FrOk (n : Int) Z := by
    rw [← hZ]
    exact frok_P n1
  have hza : ZAsc Z := by
    rw [← hZ]
    exact zasc_of (frP_asc n R)
  have hzl : Z.length ≤ 25 := by
    rw [← hZ, List.length_map]
    exact hfl
  have hyz := f37.length
  rw [List.length_map] at hyz
  -- the changes
  refine ⟨fun σ H8 => ∃ (wn : Int) (L : Addr) (us : List V) (zs : List (Int × Int)) (good : Bool), σ = [some (.ref sa), some (.ref p), some (.ref s), some (.int wn), some (.ref a), v5, v6, some (.ref L), some (.int tn), some (.int at_), some (.bl good)] ∧ H8 L = some (.lst us) ∧ ImAll K H8 us (zs.map zd) ∧ zs.length ≤ 100 ∧ (good = true ↔ FrOk wn zs), ?_, ?_⟩
  · refine ⟨_, rfl, rfl, _, rfl, ite2 (fun c0 => ?_) (fun c0 => ?_)⟩
    · refine ⟨_, rfl, _, rfl, (by show 2 ≤ sizeLine; decide), fun b1 e1 => ⟨_, rfl, (by show 2 ≤ sizeLine; decide), fun b2 e2 => ⟨_, rfl, (by show 2 ≤ sizeLine; decide), fun b3 e3 => ⟨_, rfl, (by show 2 ≤ sizeLine; decide), fun b4 e4 => ?_⟩⟩⟩⟩
      refine ⟨_, rfl, _, _, rfl, rfl, _, rfl, (by show 2 ≤ sizeLine; decide), fun b5 e5 => ⟨(by show 5 ≤ sizeLine; decide), fun A nA => ?_⟩⟩
      have u1 := same_new (o := .tup [.int n, .int 0]) e1
      have u2 := same_new (o := .tup [.int 0, .int n]) e2
      have u3 := same_new (o := .tup [.int (-1), .int 0]) e3
      have u4 := same_new (o := .tup [.int 0, .int (-1)]) e4
      have u5 := same_new (o := .tup [.int ((n : Int) + 7), .int n]) e5
      have u6 := same_new (o := .lst [.ref b1, .ref b2, .ref b3, .ref b4, .ref b5]) nA
      have w1 := (((u2.trans u3).trans u4).trans u5).trans u6
      have w2 := ((u3.trans u4).trans u5).trans u6
      have w3 := (u4.trans u5).trans u6
      have w4 := u5.trans u6
      have w0 := u1.trans w1
      have x1 : Im K _ (.ref b1) (zd ((n : Int), 0)) := (im_zd (x := ((n : Int), 0)) upd_same).mono (Same.ts w1)
      have x2 : Im K _ (.ref b2) (zd (0, (n : Int))) := (im_zd (x := (0, (n : Int))) upd_same).mono (Same.ts w2)
      have x3 : Im K _ (.ref b3) (zd (-1, 0)) := (im_zd (x := (-1, 0)) upd_same).mono (Same.ts w3)
      have x4 : Im K _ (.ref b4) (zd (0, -1)) := (im_zd (x := (0, -1)) upd_same).mono (Same.ts w4)
      have x5 : Im K _ (.ref b5) (zd ((n : Int) + 7, (n : Int))) := (im_zd (x := ((n : Int) + 7, (n : Int))) upd_same).mono (Same.ts u6)
      have hP8 := hP7.same w0
      have hA8 := @upd_same (upd (upd (upd (upd (upd H7 b1 (.tup [.int n, .int 0])) b2 (.tup [.int 0, .int n])) b3 (.tup [.int (-1), .int 0])) b4 (.tup [.int 0, .int (-1)])) b5 (.tup [.int ((n : Int) + 7), .int n])) A (.lst [.ref b1, .ref b2, .ref b3, .ref b4, .ref b5])
      have hL8 := w0 _ _ hL7
      have f38 := f37.mono (Same.ts w0)
      generalize upd (upd (upd (upd (upd (upd H7 b1 (.tup [.int n, .int 0])) b2 (.tup [.int 0, .int n])) b3 (.tup [.int (-1), .int 0])) b4 (.tup [.int 0, .int (-1)])) b5 (.tup [.int ((n : Int) + 7), .int n])) A (.lst [.ref b1, .ref b2, .ref b3, .ref b4, .ref b5]) = H8 at x1 x2 x3 x4 x5 hP8 hA8 hL8 f38
      clear w0 w1 w2 w3 w4 u1 u2 u3 u4 u5 u6 e1 e2 e3 e4 e5 nA
      have nAp : A ≠ p := fun e => by
        obtain ⟨i, r, c, s, hp, _⟩ := hP8.at5
        rw [e, hp] at hA8
        simp at hA8
      refine ⟨_, rfl, p, l, 5, rfl, hP8, by decide, by decide, fun j H9 j0 j1 k9 hP9 => ?_⟩
      have hA9 := k9 _ _ hA8 nAp
      have hL9 := k9 _ _ hL8 nLp
      have t9 := hP8.ts k9
      obtain ⟨v, bad, hv, hbad, hno⟩ : ∃ (v : V) (bad : Int × Int), atI [V.ref b1, .ref b2, .ref b3, .ref b4, .ref b5] j = some v ∧ Im K H9 v (zd bad) ∧ okP n bad = false := by
        have hj : j = 0 ∨ j = 1 ∨ j = 2 ∨ j = 3 ∨ j = 4 := by omega
        rcases hj with rfl | rfl | rfl | rfl | rfl
        · exact ⟨_, _, atI_nat (j := 0) rfl, x1.mono t9, okP_no fun h => by omega⟩
        · exact ⟨_, _, atI_nat (j := 1) rfl, x2.mono t9, okP_no fun h => by omega⟩
        · exact ⟨_, _, atI_nat (j := 2) rfl, x3.mono t9, okP_no fun h => by omega⟩
        · exact ⟨_, _, atI_nat (j := 3) rfl, x4.mono t9, okP_no fun h => by omega⟩
        · exact ⟨_, _, atI_nat (j := 4) rfl, x5.mono t9, okP_no fun h => by omega⟩
      refine ⟨A, _, j, v, rfl, rfl, SqL.of hA9, hv, (by show 1 ≤ sizeLine; decide), fun B nB => ?_⟩
      have u7 := same_new (o := .lst [v]) nB
      refine ⟨L, B, ys, [v], rfl, rfl, u7 _ _ hL9, upd_same, Nat.le_trans (show ys.length + 1 ≤ 26 by omega) (by decide), fun C nC => ?_⟩
      have u8 := u7.trans (same_new (o := .lst (ys ++ [v])) nC)
      refine ⟨C, _, Z ++ [bad], rfl, SqL.of upd_same, ?_, fun D us zs nD perm im => ?_⟩
      · rw [List.map_append]
        exact ((f38.mono t9).mono (Same.ts u8)).snoc (hbad.mono (Same.ts u8))
      refine ⟨n, D, us, zs, false, rfl, upd_same, im.mono (Same.ts (same_new nD)), ?_, fun h => (nomatch h), fun h => ?_⟩
      · rw [perm.length_eq, List.length_append, List.length_singleton]
        omega
      · have := h.2.1 bad (perm.mem_iff.mpr (List.mem_append_right _ (List.mem_singleton.mpr rfl)))
        rw [hno] at this
        cases this
    have tn0 : tn ≠ 0 := vintF c0
    have unch : ∀ σ, σ = [some (.ref sa), some (.ref p), some (.ref s), some (.int (n : Int)), some (.ref a), v5, v6, some (.ref L), some (.int tn), some (.int at_), some (.bl true)] → ∃ (wn : Int) (L : Addr) (us : List V) (zs : List (Int × Int)) (good : Bool), σ = [some (.ref sa), some (.ref p), some (.ref s), some (.int wn), some (.ref a), v5, v6, some (.ref L), some (.int tn), some (.int at_), some (.bl good)] ∧ H7 L = some (.lst us) ∧ ImAll K H7 us (zs.map zd) ∧ zs.length ≤ 100 ∧ (good = true ↔ FrOk wn zs) := by
      rintro σ rfl
      exact ⟨n, L, ys, Z, true, rfl, hL7, f37, by omega, fun _ => hok, fun _ => rfl⟩
    by_cases h1 : tn = 1
    · refine ⟨_, rfl, rfl, _, rfl, iteD (congrArg V.int h1) ⟨_, rfl, L, ys, rfl, .inl (SqL.of hL7), _, _, rfl, rfl, _, rfl, ite2 (fun c2 => ?_) (fun c2 => ?_)⟩⟩
      · obtain ⟨k, rfl⟩ : ∃ k : Nat, at_ = (k : Int) := ⟨at_.toNat, by omega⟩
        have hk : k ≤ ys.length := by omega
        have hpos : 0 < ys.length := by
          have := of_decide_eq_true c2
          omega
        obtain ⟨y, z, i, hy, hyi, hzi, hi1, hi0⟩ : ∃ (y : V) (z : Int × Int) (i : Nat), atI ys ((k : Int) - 1) = some y ∧ ys[i]? = some y ∧ Z[i]? = some z ∧ (1 ≤ k → i = k - 1) ∧ (k = 0 → i = ys.length - 1) := by
          by_cases e : k = 0
          · subst e
            have h9 := List.getElem?_eq_getElem (l := ys) (i := ys.length - 1) (by omega)
            exact ⟨_, _, ys.length - 1, atI_m1 h9, h9, List.getElem?_eq_getElem (by omega), fun h => absurd h (by omega), fun _ => rfl⟩
          · have h9 := List.getElem?_eq_getElem (l := ys) (i := k - 1) (by omega)
            refine ⟨_, _, k - 1, ?_, h9, List.getElem?_eq_getElem (by omega), fun _ => rfl, fun h => absurd h e⟩
            rw [show (k : Int) - 1 = ((k - 1 : Nat) : Int) by omega]
            exact atI_nat h9
        have hyz2 : Im K H7 y (zd z) := by
          obtain ⟨d, gd, i9⟩ := f37.get hyi
          rw [List.getElem?_map, hzi] at gd
          have ed : d = zd z := (Option.some.inj gd).symm
          subst ed
          exact i9
        refine ⟨_, rfl, _, rfl, (k : Int), rfl, L, ys, rfl, SqL.of hL7, fun c1 m1 => ?_⟩
        rw [cut_to hk]
        have u1 := same_new (o := .lst (ys.take k)) m1
        refine ⟨_, rfl, _, rfl, _, _, rfl, rfl, L, ys, _, y, rfl, rfl, SqL.of (u1 _ _ hL7), hy, (by show 1 ≤ sizeLine; decide), fun B nB => ?_⟩
        have u2 := same_new (o := .lst [y]) nB
        refine ⟨c1, B, ys.take k, [y], rfl, rfl, u2 _ _ upd_same, upd_same, Nat.le_trans (show (ys.take k).length + 1 ≤ 100 by rw [List.length_take]; omega) (by decide), fun C nC => ?_⟩
        have u3 := same_new (o := .lst (ys.take k ++ [y])) nC
        have u13 := (u1.trans u2).trans u3
        refine ⟨_, rfl, _, rfl, (k : Int), rfl, L, ys, rfl, SqL.of (u13 _ _ hL7), fun c2 m2 => ?_⟩
        rw [cut_from hk]
        have u4 := same_new (o := .lst (ys.drop k)) m2
        refine ⟨C, c2, ys.take k ++ [y], ys.drop k, rfl, rfl, u4 _ _ upd_same, upd_same, Nat.le_trans (show (ys.take k ++ [y]).length + (ys.drop k).length ≤ 100 by rw [List.length_append, List.length_take, List.length_drop, List.length_singleton]; omega) (by decide), fun D nD => ?_⟩
        have u5 := (u13.trans u4).trans (same_new (o := .lst (ys.take k ++ [y] ++ ys.drop k)) nD)
        refine ⟨n, D, ys.take k ++ [y] ++ ys.drop k, Z.take k ++ [z] ++ Z.drop k, false, rfl, upd_same, ?_, by rw [List.length_append, List.length_append, List.length_take, List.length_drop, List.length_singleton]; omega, ?_⟩
        · rw [List.map_append, List.map_append]
          have f9 := f37.mono (Same.ts u5)
          exact imAll_append (imAll_append (im_take k f9) (.cons (hyz2.mono (Same.ts u5)) .nil)) (im_drop k f9)
        · by_cases e : k = 0
          · have ei := hi0 e
            subst e
            have h0 := List.getElem?_eq_getElem (l := Z) (i := 0) (by omega)
            generalize Z[0] = z0 at h0
            refine frok_no (k := 0) (z := z) (u := z0) rfl (by simpa using h0) ?_
            by_cases e1 : i = 0
            · subst e1
              rw [hzi] at h0
              cases h0
              exact zlt_irrefl z
            · exact zlt_asymm (zasc_get hza (show 0 < i by omega) h0 hzi)
          · have ei := hi1 (by omega)
            refine frok_no (k := k - 1) (z := z) (u := z) ?_ ?_ (zlt_irrefl z)
            · rw [List.append_assoc, List.getElem?_append_left (by rw [List.length_take]; omega), List.getElem?_take, if_pos (by omega), ← ei]
              exact hzi
            · rw [show k - 1 + 1 = k by omega, List.append_assoc, List.getElem?_append_right (by rw [List.length_take]; omega), List.length_take, show k - min k Z.length = 0 by omega]
              rfl
      · refine ⟨_, rfl, rfl, _, rfl, iteDF (vne (by omega)) (iteF ⟨_, rfl, rfl, _, rfl, iteDF (vne (by omega)) ?_⟩)⟩
        exact unch _ rfl
    · refine ⟨_, rfl, rfl, _, rfl, iteDF (vne h1) (iteF ?_)⟩
      by_cases h2 : tn = 2
      · refine ⟨_, rfl, rfl, _, rfl, iteD (congrArg V.int h2) ⟨_, rfl, L, ys, rfl, .inl (SqL.of hL7), _, _, rfl, rfl, _, rfl, ite2 (fun c2 => ?_) (fun c2 => ?_)⟩⟩
        · have hpos : 1 < ys.length := by
            have := of_decide_eq_true c2
            omega
          refine ⟨_, rfl, 1, rfl, L, ys, rfl, SqL.of hL7, fun c1 m1 => ?_⟩
          rw [show cutV ys (some 1) none = ys.drop 1 from cut_from (k := 1) (by omega)]
          have u1 := same_new (o := .lst (ys.drop 1)) m1
          refine ⟨_, rfl, 1, rfl, L, ys, rfl, SqL.of (u1 _ _ hL7), fun c2 m2 => ?_⟩
          rw [show cutV ys none (some 1) = ys.take 1 from cut_to (k := 1) (by omega)]
          have u2 := same_new (o := .lst (ys.take 1)) m2
          refine ⟨c1, c2, ys.drop 1, ys.take 1, rfl, rfl, u2 _ _ upd_same, upd_same, Nat.le_trans (show (ys.drop 1).length + (ys.take 1).length ≤ 100 by rw [List.length_take, List.length_drop]; omega) (by decide), fun D nD => ?_⟩
          have u5 := (u1.trans u2).trans (same_new (o := .lst (ys.drop 1 ++ ys.take 1)) nD)
          refine ⟨n, D, ys.drop 1 ++ ys.take 1, Z.drop 1 ++ Z.take 1, false, rfl, upd_same, ?_, by rw [List.length_append, List.length_take, List.length_drop]; omega, ?_⟩
          · rw [List.map_append]
            have f9 := f37.mono (Same.ts u5)
            exact imAll_append (im_drop 1 f9) (im_take 1 f9)
          · have h0 := List.getElem?_eq_getElem (l := Z) (i := 0) (by omega)
            have h1 := List.getElem?_eq_getElem (l := Z) (i := Z.length - 1) (by omega)
            generalize Z[0] = z0 at h0
            generalize Z[Z.length - 1] = z1 at h1
            refine frok_no (k := Z.length - 2) (z := z1) (u := z0) ?_ ?_ (zlt_asymm (zasc_get hza (show 0 < Z.length - 1 by omega) h0 h1))
            · rw [List.getElem?_append_left (by rw [List.length_drop]; omega), List.getElem?_drop, show 1 + (Z.length - 2) = Z.length - 1 by omega]
              exact h1
            · rw [List.getElem?_append_right (by rw [List.length_drop]; omega), List.length_drop, List.getElem?_take, if_pos (by omega), show Z.length - 2 + 1 - (Z.length - 1) = 0 by omega]
              exact h0
        · refine ⟨_, rfl, rfl, _, rfl, iteDF (vne (by omega)) ?_⟩
          exact unch _ rfl
      · refine ⟨_, rfl, rfl, _, rfl, iteDF (vne h2) (iteF ⟨_, rfl, rfl, _, rfl, ?_⟩)⟩
        by_cases h3 : tn = 3
        · refine iteD (congrArg V.int h3) ⟨_, rfl, p, l, 3, rfl, hP7, by decide, by decide, fun r H8 r0 r1 k8 hP8 => ⟨_, rfl, ?_⟩⟩
          refine ⟨_, rfl, _, rfl, p, l, 2, rfl, hP8, by decide, by decide, fun g H9 g0 g1 k9 hP9 => ?_⟩
          have hL9 := k9 _ _ (k8 _ _ hL7 nLp) nLp
          have f39 := (f37.mono (hP7.ts k8)).mono (hP8.ts k9)
          refine ⟨L, g, ys, rfl, rfl, hL9, by omega, by omega, Nat.le_trans (Nat.mul_le_mul (show ys.length ≤ 25 by omega) (show g.toNat ≤ 1 by omega)) (by decide), fun D nD => ?_⟩
          refine ⟨-r, D, _, (List.replicate g.toNat Z).flatten, false, rfl, upd_same, ?_, ?_, fun h => (nomatch h), fun h => ?_⟩
          · have hg : g = 0 ∨ g = 1 := by omega
            rcases hg with rfl | rfl
            · exact .nil
            · show ImAll K _ (ys ++ []) ((Z ++ []).map zd)
              rw [List.append_nil, List.append_nil]
              exact f39.mono (Same.ts (same_new nD))
          · have hg : g = 0 ∨ g = 1 := by omega
            rcases hg with rfl | rfl
            · exact Nat.zero_le _
            · show (Z ++ []).length ≤ 100
              rw [List.append_nil]
              omega
          · have := h.1
            omega
        · refine iteDF (vne h3) ?_
          exact unch _ rfl
  · rintro σ H8 ⟨wn, L, us, zs, good, rfl, hL8, f8, hzs, hgood⟩
    refine ⟨_, rfl, _, rfl, L, us, rfl, .inl ⟨SqL.of hL8, fun r nr => ⟨(by show 2 ≤ sizeLine; decide), fun u nu => ?_⟩⟩⟩
    have s9 := same_new (o := .tup us) nr
    have s10 := same_new (o := .tup [.int wn, .ref r]) nu
    refine ⟨.ref u, wn, zs, rfl, .tup (SqT.of upd_same) (.cons (.int _) (.cons (.tup (SqT.of (s10 _ _ upd_same)) (f8.mono (Same.ts (s9.trans s10)))) .nil)), by omega, fun b hb => ?_⟩
    have e : b = good := Bool.eq_iff_iff.mpr (hb.trans hgood.symm)
    subst e
    exact ⟨_, rfl, .bl b, .bl b, .bool b, rfl, .bl b, .bl b, (by show 0 < 20; decide), True.intro, q _⟩

end
theorem all_mk {l : PySem.W.OpenLaw} {w : World} {K : PySem.W.Frag} {h : Heap} {mg : Str → Option Value} {fa : Addr} (X : K.In h) (G : h.Ns mainGlobals mg) (hfa : mg "law" = some (.ref fa))
    {f0 f1 f2 f3 f4 f5 f6 f7 f8 f9 f10 f11 f12 f13 f14 : Addr} {od0 an0 od1 an1 od2 an2 od3 an3 od4 an4 od5 an5 od6 an6 od7 an7 od8 an8 od9 an9 od10 an10 od11 an11 od12 an12 od13 an13 od14 an14 : Option Addr}
    {sl0 sl1 sl2 sl3 sl4 sl5 sl6 sl7 sl8 sl9 sl10 sl11 sl12 sl13 sl14 : Array (Option Value)} {oc0 kV0 dc0 pm0 cd0 ct0 oc1 kV1 dc1 pm1 cd1 ct1 oc2 kV2 dc2 pm2 cd2 ct2 oc3 kV3 dc3 pm3 cd3 ct3 oc4 kV4 dc4 pm4 cd4 ct4 oc5 kV5 dc5 pm5 cd5 ct5 oc6 kV6 dc6 pm6 cd6 ct6 oc7 kV7 dc7 pm7 cd7 ct7 oc8 kV8 dc8 pm8 cd8 ct8 oc9 kV9 dc9 pm9 cd9 ct9 oc10 kV10 dc10 pm10 cd10 ct10 oc11 kV11 dc11 pm11 cd11 ct11 oc12 kV12 dc12 pm12 cd12 ct12 oc13 kV13 dc13 pm13 cd13 ct13 oc14 kV14 dc14 pm14 cd14 ct14 : Value}
    (a0 : PySem.W.nsIn K mainGlobals "is_frame" = some (some (.ref f0))) (l0 : K.lookup f0 = some ⟨oc0, od0, .func (PySem.W.fnOf "is_frame" "is_frame" (defArgs s_is_frame) (defBody s_is_frame) (defScope s_is_frame) .none kV0 dc0 pm0 an0 cd0 ct0), sl0⟩) (c0 : PySem.W.codeIn K cd0 "is_frame" = true) (k0 : PySem.W.keepIn K (.ref f0) = true)
    (a1 : PySem.W.nsIn K mainGlobals "_is_pair" = some (some (.ref f1))) (l1 : K.lookup f1 = some ⟨oc1, od1, .func (PySem.W.fnOf "_is_pair" "_is_pair" (defArgs s_is_pair) (defBody s_is_pair) (defScope s_is_pair) .none kV1 dc1 pm1 an1 cd1 ct1), sl1⟩) (c1 : PySem.W.codeIn K cd1 "_is_pair" = true) (k1 : PySem.W.keepIn K (.ref f1) = true)
    (a2 : PySem.W.nsIn K mainGlobals "_is_integer" = some (some (.ref f2))) (l2 : K.lookup f2 = some ⟨oc2, od2, .func (PySem.W.fnOf "_is_integer" "_is_integer" (defArgs s_is_integer) (defBody s_is_integer) (defScope s_is_integer) .none kV2 dc2 pm2 an2 cd2 ct2), sl2⟩) (c2 : PySem.W.codeIn K cd2 "_is_integer" = true) (k2 : PySem.W.keepIn K (.ref f2) = true)
    (a3 : PySem.W.nsIn K mainGlobals "rows_of" = some (some (.ref f3))) (l3 : K.lookup f3 = some ⟨oc3, od3, .func (PySem.W.fnOf "rows_of" "rows_of" (defArgs s_rows_of) (defBody s_rows_of) (defScope s_rows_of) .none kV3 dc3 pm3 an3 cd3 ct3), sl3⟩) (c3 : PySem.W.codeIn K cd3 "rows_of" = true) (k3 : PySem.W.keepIn K (.ref f3) = true)
    (a4 : PySem.W.nsIn K mainGlobals "reached" = some (some (.ref f4))) (l4 : K.lookup f4 = some ⟨oc4, od4, .func (PySem.W.fnOf "reached" "reached" (defArgs s_reached) (defBody s_reached) (defScope s_reached) .none kV4 dc4 pm4 an4 cd4 ct4), sl4⟩) (c4 : PySem.W.codeIn K cd4 "reached" = true) (k4 : PySem.W.keepIn K (.ref f4) = true)
    (a5 : PySem.W.nsIn K mainGlobals "closed" = some (some (.ref f5))) (l5 : K.lookup f5 = some ⟨oc5, od5, .func (PySem.W.fnOf "closed" "closed" (defArgs s_closed) (defBody s_closed) (defScope s_closed) .none kV5 dc5 pm5 an5 cd5 ct5), sl5⟩) (c5 : PySem.W.codeIn K cd5 "closed" = true) (k5 : PySem.W.keepIn K (.ref f5) = true)
    (a6 : PySem.W.nsIn K mainGlobals "_law_pool" = some (some (.ref f6))) (l6 : K.lookup f6 = some ⟨oc6, od6, .func (PySem.W.fnOf "_law_pool" "_law_pool" (defArgs s_law_pool) (defBody s_law_pool) (defScope s_law_pool) .none kV6 dc6 pm6 an6 cd6 ct6), sl6⟩) (c6 : PySem.W.codeIn K cd6 "_law_pool" = true) (k6 : PySem.W.keepIn K (.ref f6) = true)
    (a7 : PySem.W.nsIn K mainGlobals "_law_spread" = some (some (.ref f7))) (l7 : K.lookup f7 = some ⟨oc7, od7, .func (PySem.W.fnOf "_law_spread" "_law_spread" (defArgs s_law_spread) (defBody s_law_spread) (defScope s_law_spread) .none kV7 dc7 pm7 an7 cd7 ct7), sl7⟩) (c7 : PySem.W.codeIn K cd7 "_law_spread" = true) (k7 : PySem.W.keepIn K (.ref f7) = true)
    (a8 : PySem.W.nsIn K mainGlobals "_law_draw" = some (some (.ref f8))) (l8 : K.lookup f8 = some ⟨oc8, od8, .func (PySem.W.fnOf "_law_draw" "_law_draw" (defArgs s_law_draw) (defBody s_law_draw) (defScope s_law_draw) .none kV8 dc8 pm8 an8 cd8 ct8), sl8⟩) (c8 : PySem.W.codeIn K cd8 "_law_draw" = true) (k8 : PySem.W.keepIn K (.ref f8) = true)
    (a9 : PySem.W.nsIn K mainGlobals "_law_same" = some (some (.ref f9))) (l9 : K.lookup f9 = some ⟨oc9, od9, .func (PySem.W.fnOf "_law_same" "_law_same" (defArgs s_law_same) (defBody s_law_same) (defScope s_law_same) .none kV9 dc9 pm9 an9 cd9 ct9), sl9⟩) (c9 : PySem.W.codeIn K cd9 "_law_same" = true) (k9 : PySem.W.keepIn K (.ref f9) = true)
    (a10 : PySem.W.nsIn K mainGlobals "_law_wide_model" = some (some (.ref f10))) (l10 : K.lookup f10 = some ⟨oc10, od10, .func (PySem.W.fnOf "_law_wide_model" "_law_wide_model" (defArgs s_law_wide_model) (defBody s_law_wide_model) (defScope s_law_wide_model) .none kV10 dc10 pm10 an10 cd10 ct10), sl10⟩) (c10 : PySem.W.codeIn K cd10 "_law_wide_model" = true) (k10 : PySem.W.keepIn K (.ref f10) = true)
    (a11 : PySem.W.nsIn K mainGlobals "_law_grid" = some (some (.ref f11))) (l11 : K.lookup f11 = some ⟨oc11, od11, .func (PySem.W.fnOf "_law_grid" "_law_grid" (defArgs s_law_grid) (defBody s_law_grid) (defScope s_law_grid) .none kV11 dc11 pm11 an11 cd11 ct11), sl11⟩) (c11 : PySem.W.codeIn K cd11 "_law_grid" = true) (k11 : PySem.W.keepIn K (.ref f11) = true)
    (a12 : PySem.W.nsIn K mainGlobals "_law_framed" = some (some (.ref f12))) (l12 : K.lookup f12 = some ⟨oc12, od12, .func (PySem.W.fnOf "_law_framed" "_law_framed" (defArgs s_law_framed) (defBody s_law_framed) (defScope s_law_framed) .none kV12 dc12 pm12 an12 cd12 ct12), sl12⟩) (c12 : PySem.W.codeIn K cd12 "_law_framed" = true) (k12 : PySem.W.keepIn K (.ref f12) = true)
    (a13 : PySem.W.nsIn K mainGlobals "_law_closing" = some (some (.ref f13))) (l13 : K.lookup f13 = some ⟨oc13, od13, .func (PySem.W.fnOf "_law_closing" "_law_closing" (defArgs s_law_closing) (defBody s_law_closing) (defScope s_law_closing) .none kV13 dc13 pm13 an13 cd13 ct13), sl13⟩) (c13 : PySem.W.codeIn K cd13 "_law_closing" = true) (k13 : PySem.W.keepIn K (.ref f13) = true)
    (a14 : PySem.W.nsIn K mainGlobals "law" = some (some (.ref f14))) (l14 : K.lookup f14 = some ⟨oc14, od14, .func (PySem.W.fnOf "law" "law" (defArgs s_law) (defBody s_law) (defScope s_law) .none kV14 dc14 pm14 an14 cd14 ct14), sl14⟩) (c14 : PySem.W.codeIn K cd14 "law" = true) (k14 : PySem.W.keepIn K (.ref f14) = true)
    (z_bool : PySem.W.nsIn K mainGlobals "bool" = some none)
    (z_int : PySem.W.nsIn K mainGlobals "int" = some none)
    (z_isinstance : PySem.W.nsIn K mainGlobals "isinstance" = some none)
    (z_len : PySem.W.nsIn K mainGlobals "len" = some none)
    (z_list : PySem.W.nsIn K mainGlobals "list" = some none)
    (z_range : PySem.W.nsIn K mainGlobals "range" = some none)
    (z_set : PySem.W.nsIn K mainGlobals "set" = some none)
    (z_sorted : PySem.W.nsIn K mainGlobals "sorted" = some none)
    (z_str : PySem.W.nsIn K mainGlobals "str" = some none)
    (z_tuple : PySem.W.nsIn K mainGlobals "tuple" = some none)
    : ∃ fd : FuncData, (∀ (s : Shared) (v : Value), BindsTo s fd ⟨[v], []⟩ [("script", v)]) ∧ ∀ base : Heap, K.In base → base.Ns mainGlobals mg → FnOk l.prog w K mg base CX0 21 fa fd ["script"] (spLaw K) := by
  have e := hfa.symm.trans (PySem.W.mg_of X G a14)
  cases e
  have F0 := fun_mk (st := s_is_frame) l0 c0 k0
  have b0 := F0.binds (ps := ["frame"]) fun _ _ _ _ _ _ us hl => match us, hl with | [_], _ => rfl
  have F1 := fun_mk (st := s_is_pair) l1 c1 k1
  have b1 := F1.binds (ps := ["pair", "worlds"]) fun _ _ _ _ _ _ us hl => match us, hl with | [_, _], _ => rfl
  have F2 := fun_mk (st := s_is_integer) l2 c2 k2
  have b2 := F2.binds (ps := ["value"]) fun _ _ _ _ _ _ us hl => match us, hl with | [_], _ => rfl
  have F3 := fun_mk (st := s_rows_of) l3 c3 k3
  have b3 := F3.binds (ps := ["frame"]) fun _ _ _ _ _ _ us hl => match us, hl with | [_], _ => rfl
  have F4 := fun_mk (st := s_reached) l4 c4 k4
  have b4 := F4.binds (ps := ["rows", "start"]) fun _ _ _ _ _ _ us hl => match us, hl with | [_, _], _ => rfl
  have F5 := fun_mk (st := s_closed) l5 c5 k5
  have b5 := F5.binds (ps := ["frame", "reflexive", "transitive"]) fun _ _ _ _ _ _ us hl => match us, hl with | [_, _, _], _ => rfl
  have F6 := fun_mk (st := s_law_pool) l6 c6 k6
  have b6 := F6.binds (ps := ["script"]) fun _ _ _ _ _ _ us hl => match us, hl with | [_], _ => rfl
  have F7 := fun_mk (st := s_law_spread) l7 c7 k7
  have b7 := F7.binds (ps := ["cell"]) fun _ _ _ _ _ _ us hl => match us, hl with | [_], _ => rfl
  have F8 := fun_mk (st := s_law_draw) l8 c8 k8
  have b8 := F8.binds (ps := ["pool", "many"]) fun _ _ _ _ _ _ us hl => match us, hl with | [_, _], _ => rfl
  have F9 := fun_mk (st := s_law_same) l9 c9 k9
  have b9 := F9.binds (ps := ["actual", "due"]) fun _ _ _ _ _ _ us hl => match us, hl with | [_, _], _ => rfl
  have F10 := fun_mk (st := s_law_wide_model) l10 c10 k10
  have b10 := F10.binds (ps := ["pool", "most"]) fun _ _ _ _ _ _ us hl => match us, hl with | [_, _], _ => rfl
  have F11 := fun_mk (st := s_law_grid) l11 c11 k11
  have b11 := F11.binds (ps := ["first", "second"]) fun _ _ _ _ _ _ us hl => match us, hl with | [_, _], _ => rfl
  have F12 := fun_mk (st := s_law_framed) l12 c12 k12
  have b12 := F12.binds (ps := ["seen"]) fun _ _ _ _ _ _ us hl => match us, hl with | [_], _ => rfl
  have F13 := fun_mk (st := s_law_closing) l13 c13 k13
  have b13 := F13.binds (ps := ["seen", "reflexive", "transitive"]) fun _ _ _ _ _ _ us hl => match us, hl with | [_, _, _], _ => rfl
  have F14 := fun_mk (st := s_law) l14 c14 k14
  have b14 := F14.binds (ps := ["script"]) fun _ _ _ _ _ _ us hl => match us, hl with | [_], _ => rfl
  let T : Top K mg := ⟨_, _, F0, b0, PySem.W.mg_of X G a0, _, _, F1, b1, PySem.W.mg_of X G a1, _, _, F2, b2, PySem.W.mg_of X G a2, _, _, F3, b3, PySem.W.mg_of X G a3, _, _, F4, b4, PySem.W.mg_of X G a4, _, _, F5, b5, PySem.W.mg_of X G a5, _, _, F6, b6, PySem.W.mg_of X G a6, _, _, F7, b7, PySem.W.mg_of X G a7, _, _, F8, b8, PySem.W.mg_of X G a8, _, _, F9, b9, PySem.W.mg_of X G a9, _, _, F10, b10, PySem.W.mg_of X G a10, _, _, F11, b11, PySem.W.mg_of X G a11, _, _, F12, b12, PySem.W.mg_of X G a12, _, _, F13, b13, PySem.W.mg_of X G a13, _, _, F14, b14, PySem.W.mg_of X G a14, PySem.W.mg_none_of X G z_bool, PySem.W.mg_none_of X G z_int, PySem.W.mg_none_of X G z_isinstance, PySem.W.mg_none_of X G z_len, PySem.W.mg_none_of X G z_list, PySem.W.mg_none_of X G z_range, PySem.W.mg_none_of X G z_set, PySem.W.mg_none_of X G z_sorted, PySem.W.mg_none_of X G z_str, PySem.W.mg_none_of X G z_tuple⟩
  exact ⟨_, fun s v => .of_eq rfl, fun base _ _ => ok_law T⟩
end E
open PySem PySem.W PyProof.Rows
set_option maxRecDepth 100000 in
set_option maxHeartbeats 0 in
theorem PySem.Challenge.cw_elsewhere_k11_frames_holds : PySem.Challenge.rw_elsewhere_k11_frames.Holds := by
  w_on; o_law; k_head; (case hw => w_witness2)
  k_fill
  refine L2.walk_of (l := PySem.Challenge.rw_elsewhere_k11_frames) (n := 63) (k := 21) (x := "script") (CX := fun _ => L2.CX0) (sp := fun w => E.spLaw _) rfl (by decide) rfl ⟨rfl, by decide, by decide⟩ (fun w h Y => PySem.W.kIn_of Y) ?F (fun _ _ a ns hl _ hS => ⟨a, ns, rfl, hS, hl, fun _ => rfl⟩) fun _ _ _ _ _ z => z
  case F =>
    intro w mg fa h KX G hmg
    refine' E.all_mk KX G hmg ?a0 ?l0 ?c0 ?k0 ?a1 ?l1 ?c1 ?k1 ?a2 ?l2 ?c2 ?k2 ?a3 ?l3 ?c3 ?k3 ?a4 ?l4 ?c4 ?k4 ?a5 ?l5 ?c5 ?k5 ?a6 ?l6 ?c6 ?k6 ?a7 ?l7 ?c7 ?k7 ?a8 ?l8 ?c8 ?k8 ?a9 ?l9 ?c9 ?k9 ?a10 ?l10 ?c10 ?k10 ?a11 ?l11 ?c11 ?k11 ?a12 ?l12 ?c12 ?k12 ?a13 ?l13 ?c13 ?k13 ?a14 ?l14 ?c14 ?k14 ?z_bool ?z_int ?z_isinstance ?z_len ?z_list ?z_range ?z_set ?z_sorted ?z_str ?z_tuple
    (case a0 => k_is); (case l0 => k_is); (case c0 => k_is); (case k0 => k_is)
    (case a1 => k_is); (case l1 => k_is); (case c1 => k_is); (case k1 => k_is)
    (case a2 => k_is); (case l2 => k_is); (case c2 => k_is); (case k2 => k_is)
    (case a3 => k_is); (case l3 => k_is); (case c3 => k_is); (case k3 => k_is)
    (case a4 => k_is); (case l4 => k_is); (case c4 => k_is); (case k4 => k_is)
    (case a5 => k_is); (case l5 => k_is); (case c5 => k_is); (case k5 => k_is)
    (case a6 => k_is); (case l6 => k_is); (case c6 => k_is); (case k6 => k_is)
    (case a7 => k_is); (case l7 => k_is); (case c7 => k_is); (case k7 => k_is)
    (case a8 => k_is); (case l8 => k_is); (case c8 => k_is); (case k8 => k_is)
    (case a9 => k_is); (case l9 => k_is); (case c9 => k_is); (case k9 => k_is)
    (case a10 => k_is); (case l10 => k_is); (case c10 => k_is); (case k10 => k_is)
    (case a11 => k_is); (case l11 => k_is); (case c11 => k_is); (case k11 => k_is)
    (case a12 => k_is); (case l12 => k_is); (case c12 => k_is); (case k12 => k_is)
    (case a13 => k_is); (case l13 => k_is); (case c13 => k_is); (case k13 => k_is)
    (case a14 => k_is); (case l14 => k_is); (case c14 => k_is); (case k14 => k_is)
    (case z_bool => k_is); (case z_int => k_is); (case z_isinstance => k_is); (case z_len => k_is)
    (case z_list => k_is); (case z_range => k_is); (case z_set => k_is); (case z_sorted => k_is)
    (case z_str => k_is); (case z_tuple => k_is)

