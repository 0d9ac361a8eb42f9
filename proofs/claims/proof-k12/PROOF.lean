import PyProof.Rows.All
import Wide.All
import OpenK.AllK
import Wide.FinOn
import HandS.ForMost
import HandS.IsInst
import HandS.Steps
import HandS.TupAny
import HandS.Codes
import KE.LtData
import KE.SortData
import KE.SortLaws
import PyProof.StrOps
import KE.SortCalls
import KE.DatumOrd
import HandS.DeepEq
import HandS.SetFor
import HandS.Strs
import HandS.ExcOwn
import HandS.ExcIs
import HandS.RaiseMore
import HandS.FStr
import HandS.WordsExc
import HandS.TupSets
import HandS.SetKeys
import HandS.DictComp
import HandS.Conv
import HandS.Walk
import PySem.Challenge.RW_elsewhere_k12_models
set_option Elab.async false
set_option linter.all false
set_option maxRecDepth 100000
namespace E
open PySem PySem.Spec PyProof.Rows L2
/-! ### heaps: what a step keeps -/
/-- tuples stay -/
def TS (H H' : Hp) : Prop := ∀ b xs, Rd H b (.tup xs) → Rd H' b (.tup xs)
theorem TS.refl (H : Hp) : TS H H := fun _ _ h => h
theorem TS.trans {H H1 H2 : Hp} (a : TS H H1) (b : TS H1 H2) : TS H H2 := fun c xs h => b c xs (a c xs h)
/-- all but the object at p stays -/
def Kp (p : Addr) (H H' : Hp) : Prop := ∀ b o, H b = some o → b ≠ p → H' b = some o
theorem Kp.refl (p : Addr) (H : Hp) : Kp p H H := fun _ _ h _ => h
theorem Kp.trans {p : Addr} {H H1 H2 : Hp} (a : Kp p H H1) (b : Kp p H1 H2) : Kp p H H2 := fun c o h n => b c o (a c o h n) n
theorem Kp.upd {p : Addr} {H : Hp} {o : HO} : Kp p H (upd H p o) := fun b u h n => by rw [upd_ne n]; exact h
theorem Kp.new {p q : Addr} {H : Hp} {o : HO} (h : H q = none) : Kp p H (L2.upd H q o) := fun b u e _ => by rw [upd_ne (ne_of_none e h)]; exact e
theorem same_new {q : Addr} {H : Hp} {o : HO} (h : H q = none) : Same H (upd H q o) := fun b u e => by rw [upd_ne (ne_of_none e h)]; exact e
theorem Same.kp {p : Addr} {H H' : Hp} (s : Same H H') : Kp p H H' := fun b o h _ => s b o h
theorem Same.ts {H H' : Hp} (s : Same H H') : TS H H' := fun b xs h => by
  rcases h with h | ⟨o, h⟩
  · exact .inl (s _ _ h)
  · exact .inr ⟨o, s _ _ h⟩
theorem Kp.rd {p a : Addr} {H H' : Hp} {u : HO} (k : Kp p H H') (h : Rd H a u) (n : a ≠ p) : Rd H' a u := by
  rcases h with h | ⟨o, h⟩
  · exact .inl (k _ _ h n)
  · exact .inr ⟨o, k _ _ h n⟩
theorem Kp.sqL {K : PySem.W.Frag} {p a : Addr} {H H' : Hp} {xs : List V} (k : Kp p H H') (h : SqL K H a xs) (n : a ≠ p) : SqL K H' a xs := by
  rcases h with h | h
  · exact .inl (k.rd h n)
  · exact .inr h
/-- p holds a list: tuples stay -/
theorem Kp.ts {p : Addr} {H H' : Hp} {xs : List V} (k : Kp p H H') (h : H p = some (.lst xs)) : TS H H' := fun b ys r => by
  have n : b ≠ p := fun e => by
    subst e
    rcases r with r | ⟨o, r⟩
    · rw [h] at r; cases r
    · rw [h] at r; cases r
  exact k.rd r n
/-- what is new for H' was new for H -/
theorem Kp.free {p q : Addr} {H H' : Hp} {o : HO} (k : Kp p H H') (hp : H p = some o) (hp' : ∃ o, H' p = some o) (h : H' q = none) : H q = none := by
  cases e : H q with
  | none => rfl
  | some u =>
    have n : q ≠ p := fun z => by
      subst z
      obtain ⟨o', h'⟩ := hp'
      rw [h] at h'; cases h'
    rw [k q u e n] at h; cases h
theorem TS.sqT {K : PySem.W.Frag} {a : Addr} {H H' : Hp} {xs : List V} (k : TS H H') (h : SqT K H a xs) : SqT K H' a xs := by
  rcases h with h | h
  · exact .inl (k _ _ h)
  · exact .inr h
/-! ### data without lists -/
mutual
inductive Im (K : PySem.W.Frag) (H : Hp) : V → PyData → Prop
  | non : Im K H .non .none
  | bl (b : Bool) : Im K H (.bl b) (.bool b)
  | int (i : Int) : Im K H (.int i) (.int i)
  | str (x : Str) : Im K H (.str x) (.str x)
  | tup {a : Addr} {xs : List V} {ds : List PyData} : SqT K H a xs → ImAll K H xs ds → Im K H (.ref a) (.tuple ds)
inductive ImAll (K : PySem.W.Frag) (H : Hp) : List V → List PyData → Prop
  | nil : ImAll K H [] []
  | cons {v : V} {vs : List V} {d : PyData} {ds : List PyData} : Im K H v d → ImAll K H vs ds → ImAll K H (v :: vs) (d :: ds)
end
section
variable {K : PySem.W.Frag} {H H' : Hp}
mutual
theorem Im.mono (k : TS H H') : ∀ {v : V} {d : PyData}, Im K H v d → Im K H' v d
  | _, _, .non => .non
  | _, _, .bl b => .bl b
  | _, _, .int i => .int i
  | _, _, .str x => .str x
  | _, _, .tup h a => .tup (k.sqT h) (ImAll.mono k a)
theorem ImAll.mono (k : TS H H') : ∀ {vs : List V} {ds : List PyData}, ImAll K H vs ds → ImAll K H' vs ds
  | _, _, .nil => .nil
  | _, _, .cons h t => .cons (Im.mono k h) (ImAll.mono k t)
end
mutual
theorem Im.dp : ∀ {v : V} {d : PyData}, Im K H v d → Dp K H v d
  | _, _, .non => .non
  | _, _, .bl b => .bl b
  | _, _, .int i => .int i
  | _, _, .str x => .str x
  | _, _, .tup h a => .tup h (ImAll.dp a)
theorem ImAll.dp : ∀ {vs : List V} {ds : List PyData}, ImAll K H vs ds → DpAll K H vs ds
  | _, _, .nil => .nil
  | _, _, .cons h t => .cons (Im.dp h) (ImAll.dp t)
end
theorem ImAll.get : ∀ {vs : List V} {ds : List PyData} {i : Nat} {v : V}, ImAll K H vs ds → vs[i]? = some v → ∃ d, ds[i]? = some d ∧ Im K H v d
  | _, _, _, _, .nil, e => by simp at e
  | _, _, 0, _, .cons h _, e => by simp at e; subst e; exact ⟨_, rfl, h⟩
  | _, _, i + 1, v, .cons _ t, e => by
    obtain ⟨d, h1, h2⟩ := ImAll.get (i := i) (v := v) t (by simpa using e)
    exact ⟨d, by simpa using h1, h2⟩
theorem ImAll.length : ∀ {vs : List V} {ds : List PyData}, ImAll K H vs ds → vs.length = ds.length
  | _, _, .nil => rfl
  | _, _, .cons _ t => by rw [List.length_cons, List.length_cons, ImAll.length t]
theorem ImAll.snoc : ∀ {vs : List V} {ds : List PyData} {v : V} {d : PyData}, ImAll K H vs ds → Im K H v d → ImAll K H (vs ++ [v]) (ds ++ [d])
  | _, _, _, _, .nil, h => .cons h .nil
  | _, _, _, _, .cons h t, h' => .cons h (ImAll.snoc t h')
theorem dpAll_get : ∀ {vs : List V} {ds : List PyData} {i : Nat} {d : PyData}, DpAll K H vs ds → ds[i]? = some d → ∃ v, vs[i]? = some v ∧ Dp K H v d
  | _, _, _, _, .nil, e => by simp at e
  | _, _, 0, _, .cons h _, e => by simp at e; subst e; exact ⟨_, rfl, h⟩
  | _, _, i + 1, d, .cons _ t, e => by
    obtain ⟨v, h1, h2⟩ := dpAll_get (i := i) (d := d) t (by simpa using e)
    exact ⟨v, by simpa using h1, h2⟩
theorem dpAll_len : ∀ {vs : List V} {ds : List PyData}, DpAll K H vs ds → vs.length = ds.length
  | _, _, .nil => rfl
  | _, _, .cons _ t => by rw [List.length_cons, List.length_cons, dpAll_len t]
/-! ### types, for isinstance -/
theorem ty_list {a : Addr} {xs : List V} (h : SqL K H a xs) : TyX K H (.ref a) (.type "list") := by
  rcases h with (h | ⟨o, h⟩) | ⟨o, its, n, h1, h2, _⟩
  · exact .base (.lst h)
  · exact .base (.frz h)
  · exact .kList h1 h2
theorem ty_tup {a : Addr} {xs : List V} (h : SqT K H a xs) : TyX K H (.ref a) (.type "tuple") := by
  rcases h with (h | ⟨o, h⟩) | ⟨o, its, n, h1, h2, _⟩
  · exact .base (.tup h)
  · exact .fTuple h
  · exact .kTuple h1 h2
def tyD : PyData → String
  | .none => "NoneType"
  | .bool _ => "bool"
  | .int _ => "int"
  | .str _ => "str"
  | .list _ => "list"
  | .tuple _ => "tuple"
  | .dict _ => "dict"
theorem Dp.ty {v : V} {d : PyData} (h : Dp K H v d) : TyX K H v (.type (tyD d)) := by
  cases h with
  | non => exact .base .non
  | bl b => exact .base (.bl b)
  | int i => exact .base (.int i)
  | str x => exact .base (.str x)
  | lst h _ => exact ty_list h
  | tup h _ => exact ty_tup h
end
/-! ### the law's pool of numbers -/
structure Pl (K : PySem.W.Frag) (H : Hp) (p l : Addr) : Prop where
  sq : ∃ cs : List Int, SqL K H l (cs.map V.int)
  ne : l ≠ p
  at5 : ∃ i r c s : Int, H p = some (.lst [.ref l, .int i, .int r, .int c, .int s]) ∧ 0 ≤ i
section
variable {K : PySem.W.Frag} {H H' H0 H1 H2 : Hp} {p q l : Addr}
theorem Pl.lst (h : Pl K H p l) : ∃ xs, H p = some (.lst xs) := by
  obtain ⟨i, r, c, s, h, _⟩ := h.at5
  exact ⟨_, h⟩
theorem Pl.same (k : Same H H') (h : Pl K H p l) : Pl K H' p l := by
  obtain ⟨i, r, c, s, h1, h2⟩ := h.at5
  obtain ⟨cs, hs⟩ := h.sq
  exact ⟨⟨cs, k.seq hs⟩, h.ne, i, r, c, s, k _ _ h1, h2⟩
/-- the pool's own turn -/
theorem Pl.turn {i r c s : Int} (h : Pl K H p l) (h0 : 0 ≤ i) : Pl K (upd H p (.lst [.ref l, .int i, .int r, .int c, .int s])) p l := by
  obtain ⟨cs, hs⟩ := h.sq
  exact ⟨⟨cs, Kp.upd.sqL hs h.ne⟩, h.ne, i, r, c, s, upd_same, h0⟩
theorem Pl.ts (h : Pl K H p l) (k : Kp p H H') : TS H H' := by
  obtain ⟨xs, e⟩ := h.lst
  exact k.ts e
/-- another list, younger than the pool, is changed -/
theorem Pl.other (h0 : Pl K H0 p l) (hq : H0 q = none) (h1 : Pl K H1 p l) (k : Kp q H1 H2) : Pl K H2 p l := by
  obtain ⟨i, r, c, s, e1, e2⟩ := h1.at5
  obtain ⟨cs, hs⟩ := h1.sq
  obtain ⟨xs, hl⟩ := h0.lst
  have np : p ≠ q := ne_of_none hl hq
  refine ⟨?_, h1.ne, i, r, c, s, k _ _ e1 np, e2⟩
  rcases hs with hs | hs
  · obtain ⟨cs0, h0s⟩ := h0.sq
    rcases h0s with h0s | h0s
    · have nl : l ≠ q := by
        rcases h0s with z | ⟨o, z⟩
        · exact ne_of_none z hq
        · exact ne_of_none z hq
      exact ⟨cs, .inl (k.rd hs nl)⟩
    · exact ⟨cs0, .inr h0s⟩
  · exact ⟨cs, .inr hs⟩
/-- p's change and that of a younger q together are p's change -/
theorem Kp.under (hq : H0 q = none) (k1 : Kp p H0 H1) (k2 : Kp q H1 H2) : Kp p H0 H2 := fun b o e n => k2 b o (k1 b o e n) (ne_of_none e hq)
end
theorem kB {K : PySem.W.Frag} {a b : String} (r : Bool) (h : L2.kitB a b = some r) : PySem.W.kitOne K (.type a) (.type b) = some r := kit_ty h
/-- a promise that nothing can ask for -/
theorem fn_none {P : Program} {w : World} {K : PySem.W.Frag} {mg : Str → Option Value} {base : Heap} {f : Addr} {fd : FuncData} {ps : List Str} {sp : Sp} (no : ∀ vs H Q E, ¬ sp vs H Q E) : FnOk P w K mg base CX0 0 f fd ps sp :=
  ⟨fun vs H Q E h => absurd h (no vs H Q E), fun A outer s H args us vs Q E _ _ _ _ h => absurd h (no vs H Q E)⟩
mutual
/-- no list or tuple in it is too long -/
def sml : PyData → Prop
  | .list ds => ds.length ≤ 1000000 ∧ smlAll ds
  | .tuple ds => ds.length ≤ 1000000 ∧ smlAll ds
  | _ => True
def smlAll : List PyData → Prop
  | [] => True
  | d :: ds => sml d ∧ smlAll ds
end
theorem sml_mem : ∀ {ds : List PyData} {i : Nat} {d : PyData}, smlAll ds → ds[i]? = some d → sml d
  | [], _, _, _, h => by simp at h
  | e :: ds, 0, d, h1, h => by
    simp at h; subst h
    rw [smlAll] at h1; exact h1.1
  | e :: ds, i + 1, d, h1, h => by
    rw [smlAll] at h1
    exact sml_mem (ds := ds) (i := i) h1.2 (by simpa using h)
theorem depth_mem : ∀ {ds : List PyData} {i : Nat} {d : PyData}, ds[i]? = some d → d.depth ≤ PyData.depthAll ds
  | [], _, _, h => by simp at h
  | e :: ds, 0, d, h => by
    simp at h; subst h
    rw [PyData.depthAll]; exact Nat.le_max_left _ _
  | e :: ds, i + 1, d, h => by
    have := depth_mem (ds := ds) (i := i) (d := d) (by simpa using h)
    rw [PyData.depthAll]; exact Nat.le_trans this (Nat.le_max_right _ _)
theorem sizeU {n : Nat} (h : n ≤ 1000) : n ≤ sizeLine := Nat.le_of_lt (small1000 h)
/-! ### formulas -/
inductive Fm where
  | var (n : Str) | fal | and (a b : Fm) | or (a b : Fm) | imp (a b : Fm) | box (a : Fm)
  deriving DecidableEq
def Fm.d : Fm → PyData
  | .var n => .tuple [.str "var", .str n]
  | .fal => .tuple [.str "falsum"]
  | .and a b => .tuple [.str "and", a.d, b.d]
  | .or a b => .tuple [.str "or", a.d, b.d]
  | .imp a b => .tuple [.str "implies", a.d, b.d]
  | .box a => .tuple [.str "box", a.d]
def Fm.ht : Fm → Nat
  | .var _ => 1
  | .fal => 1
  | .and a b => max a.ht b.ht + 1
  | .or a b => max a.ht b.ht + 1
  | .imp a b => max a.ht b.ht + 1
  | .box a => a.ht + 1
def Fm.plain : Fm → Bool
  | .var _ => true
  | .fal => true
  | .and a b => a.plain && b.plain
  | .or a b => a.plain && b.plain
  | .imp a b => a.plain && b.plain
  | .box _ => false
/-- all names of variables are in N -/
def Fm.over (N : List Str) : Fm → Bool
  | .var n => decide (n ∈ N)
  | .fal => true
  | .and a b => a.over N && b.over N
  | .or a b => a.over N && b.over N
  | .imp a b => a.over N && b.over N
  | .box a => a.over N
theorem Fm.depth : ∀ f : Fm, f.d.depth = f.ht
  | .var _ => by simp [Fm.d, PyData.depth, PyData.depthAll, Fm.ht]
  | .fal => by simp [Fm.d, PyData.depth, PyData.depthAll, Fm.ht]
  | .and a b => by simp [Fm.d, PyData.depth, PyData.depthAll, Fm.ht, Fm.depth a, Fm.depth b]
  | .or a b => by simp [Fm.d, PyData.depth, PyData.depthAll, Fm.ht, Fm.depth a, Fm.depth b]
  | .imp a b => by simp [Fm.d, PyData.depth, PyData.depthAll, Fm.ht, Fm.depth a, Fm.depth b]
  | .box a => by simp [Fm.d, PyData.depth, PyData.depthAll, Fm.ht, Fm.depth a]
theorem Fm.sml : ∀ f : Fm, E.sml f.d
  | .var _ => by simp [Fm.d, E.sml, smlAll]
  | .fal => by simp [Fm.d, E.sml, smlAll]
  | .and a b => by simp [Fm.d, E.sml, smlAll, Fm.sml a, Fm.sml b]
  | .or a b => by simp [Fm.d, E.sml, smlAll, Fm.sml a, Fm.sml b]
  | .imp a b => by simp [Fm.d, E.sml, smlAll, Fm.sml a, Fm.sml b]
  | .box a => by simp [Fm.d, E.sml, smlAll, Fm.sml a]
theorem Fm.ht_pos : ∀ f : Fm, 1 ≤ f.ht
  | .var _ => Nat.le_refl _
  | .fal => Nat.le_refl _
  | .and _ _ => Nat.le_add_left _ _
  | .or _ _ => Nat.le_add_left _ _
  | .imp _ _ => Nat.le_add_left _ _
  | .box _ => Nat.le_add_left _ _
section
variable {K : PySem.W.Frag} {H : Hp} {p : Addr} {v u : V} {f g : Fm}
theorem im_fal (h : H p = some (.tup [.str "falsum"])) : Im K H (.ref p) Fm.fal.d := .tup (SqT.of h) (.cons (.str _) .nil)
theorem im_var {n : Str} (h : H p = some (.tup [.str "var", .str n])) : Im K H (.ref p) (Fm.var n).d := .tup (SqT.of h) (.cons (.str _) (.cons (.str _) .nil))
theorem im_box (h : H p = some (.tup [.str "box", v])) (a : Im K H v f.d) : Im K H (.ref p) (Fm.box f).d := .tup (SqT.of h) (.cons (.str _) (.cons a .nil))
theorem im_and (h : H p = some (.tup [.str "and", v, u])) (a : Im K H v f.d) (b : Im K H u g.d) : Im K H (.ref p) (Fm.and f g).d := .tup (SqT.of h) (.cons (.str _) (.cons a (.cons b .nil)))
theorem im_or (h : H p = some (.tup [.str "or", v, u])) (a : Im K H v f.d) (b : Im K H u g.d) : Im K H (.ref p) (Fm.or f g).d := .tup (SqT.of h) (.cons (.str _) (.cons a (.cons b .nil)))
theorem im_imp (h : H p = some (.tup [.str "implies", v, u])) (a : Im K H v f.d) (b : Im K H u g.d) : Im K H (.ref p) (Fm.imp f g).d := .tup (SqT.of h) (.cons (.str _) (.cons a (.cons b .nil)))
end
/-! ### lists of ints as data -/
theorem dp_ints {K : PySem.W.Frag} {H : Hp} : ∀ ns : List Int, DpAll K H (ns.map V.int) (ns.map PyData.int)
  | [] => .nil
  | n :: ns => .cons (.int n) (dp_ints ns)
theorem lay_ints : ∀ ns : List Int, PyData.canLayAll0 (ns.map PyData.int) = true
  | [] => rfl
  | n :: ns => by
    rw [List.map_cons, PyData.canLayAll0, lay_ints ns]
    rfl
theorem dep_ints : ∀ ns : List Int, PyData.depthAll (ns.map PyData.int) = 0
  | [] => rfl
  | n :: ns => by
    rw [List.map_cons, PyData.depthAll, dep_ints ns]
    rfl
theorem shaped_ints (ns : List Int) : SeqAt.shaped (.list (ns.map PyData.int)) = true := by
  unfold SeqAt.shaped
  rw [PyData.canLay0, lay_ints, PyData.depth, dep_ints]
  rfl
theorem eqv_nil (ds : List PyData) : PyData.eqv (.list ds) (.list []) = ds.isEmpty := by
  cases ds with
  | nil => rfl
  | cons d ds => rfl
theorem atI_mem {α : Type} {xs : List α} {i : Int} (h0 : 0 ≤ i) (h1 : i < xs.length) : ∃ v, atI xs i = some v ∧ v ∈ xs := by
  have hn : i.toNat < xs.length := by omega
  refine ⟨xs[i.toNat], ?_, List.getElem_mem hn⟩
  have e := atI_nat (xs := xs) (j := i.toNat) (List.getElem?_eq_getElem hn)
  rw [show ((i.toNat : Nat) : Int) = i by omega] at e
  exact e
def nms : List Str := ["p", "q", "r"]
section
variable {t u : TT} {σ : L2.St} {H : Hp} {b1 b2 : Bool}
theorem ans_or2 (h1 : Ans t σ H b1) (h2 : Ans u σ H b2) : Ans (tOr t u) σ H (b1 || b2) := by
  cases b1 with
  | true => exact ans_or1 h1
  | false => exact ans_or h1 h2
end
theorem vint {i j : Int} (h : decide (V.int i = V.int j) = true) : i = j := V.int.inj (of_decide_eq_true h)
theorem vintF {i j : Int} (h : ¬ decide (V.int i = V.int j) = true) : i ≠ j := fun e => h (decide_eq_true (congrArg V.int e))
theorem in34 {k : Int} : inV (.int k) [.int 3, .int 4] = decide (k = 3 ∨ k = 4) := by
  unfold inV
  simp only [List.any_cons, List.any_nil, Bool.or_false]
  show ((3 == k) || (4 == k)) = _
  rw [Bool.eq_iff_iff]
  simp only [Bool.or_eq_true, beq_iff_eq, decide_eq_true_eq]
  omega
theorem iteD {c A B : Prop} [Decidable c] (h : c) (a : A) : if decide c = true then A else B := by
  rw [if_pos (decide_eq_true h)]
  exact a
theorem iteDF {c A B : Prop} [Decidable c] (h : ¬ c) (b : B) : if decide c = true then A else B := by
  rw [if_neg (by rw [decide_eq_true_eq]; exact h)]
  exact b
theorem in34y {k : Int} (h : k = 3 ∨ k = 4) : V.bl (if false = true then !inV (.int k) [.int 3, .int 4] else inV (.int k) [.int 3, .int 4]) = V.bl true := by
  rw [if_neg Bool.false_ne_true, in34, decide_eq_true h]
theorem in34n {k : Int} (h : ¬ (k = 3 ∨ k = 4)) : V.bl (if false = true then !inV (.int k) [.int 3, .int 4] else inV (.int k) [.int 3, .int 4]) = V.bl false := by
  rw [if_neg Bool.false_ne_true, in34, decide_eq_false h]
theorem vne {i j : Int} (h : i ≠ j) : ¬ V.int i = V.int j := fun e => h (V.int.inj e)
/-! ### joined formulas -/
def grp (op : Fm → Fm → Fm) (z : Fm) : List Fm → Fm
  | [] => z
  | [a] => a
  | a :: b :: r => op a (grp op z (b :: r))
theorem grp_step {op : Fm → Fm → Fm} {z f : Fm} {fs : List Fm} {j : Nat} (h : fs[j]? = some f) (h2 : j + 1 < fs.length) : grp op z (fs.drop j) = op f (grp op z (fs.drop (j + 1))) := by
  obtain ⟨hj, e⟩ := List.getElem?_eq_some_iff.mp h
  rw [List.drop_eq_getElem_cons hj, e, List.drop_eq_getElem_cons h2]
  rfl
theorem grp_last {op : Fm → Fm → Fm} {z f : Fm} {fs : List Fm} (h : fs[fs.length - 1]? = some f) : grp op z (fs.drop (fs.length - 1)) = f := by
  obtain ⟨hj, e⟩ := List.getElem?_eq_some_iff.mp h
  rw [List.drop_eq_getElem_cons hj, e, List.drop_eq_nil_of_le (by omega)]
  rfl
inductive SgOp : Str → (Fm → Fm → Fm) → Prop
  | and : SgOp "and" Fm.and
  | or : SgOp "or" Fm.or
theorem im_op {K : PySem.W.Frag} {H : Hp} {p : Addr} {v u : V} {f g : Fm} {sg : Str} {op : Fm → Fm → Fm} (o : SgOp sg op) (h : H p = some (.tup [.str sg, v, u])) (a : Im K H v f.d) (b : Im K H u g.d) : Im K H (.ref p) (op f g).d := by
  cases o with
  | and => exact im_and h a b
  | or => exact im_or h a b
theorem atI_m1 {α : Type} {xs : List α} {v : α} (h : xs[xs.length - 1]? = some v) : atI xs (-1) = some v := by
  have hl : 0 < xs.length := by
    have := (List.getElem?_eq_some_iff.mp h).1
    omega
  have e : ixN xs.length (-1) = some (xs.length - 1) := by
    unfold ixN
    rw [if_neg (by decide), if_pos (by omega)]
    congr 1
    omega
  unfold atI
  rw [e]
  exact h
theorem cut_m1 (xs : List V) : cutV xs none (some (-1)) = xs.take (xs.length - 1) := by
  unfold cutV
  have e : HT.sIx xs.length xs.length (some (-1)) = xs.length - 1 := by
    show (if (-1 : Int) < 0 then ((-1 : Int) + (xs.length : Int)).toNat else min (-1 : Int).toNat xs.length) = _
    rw [if_pos (by decide)]
    omega
  rw [e, HT.sIx_none, List.drop_zero, Nat.sub_zero]
/-- for x in reversed(list) -/
theorem for_rev {K : PySem.W.Frag} {a : Addr} {xs : List V} {g : TG} {tb : L2.TS} {D : Ends} {σ : L2.St} {H : Hp} (Pv : Nat → L2.St → Hp → Prop) (h0 : Pv 0 σ H) (hl : ∀ i σ H, i ≤ xs.length → Pv i σ H → SqL K H a xs)
    (hs : ∀ i x σ H, i < xs.length → xs[xs.length - 1 - i]? = some x → Pv i σ H → g x σ H fun σ2 H2 => tb { D with nx := Pv (i + 1), ct := Pv (i + 1), bk := D.nx } σ2 H2) (hd : ∀ σ H, Pv xs.length σ H → D.nx σ H) :
    ∃ W : Nat → Nat → L2.St → Hp → Prop, (∃ m, W 0 m σ H) ∧ ∀ i m σ H, W i m σ H →
      ((Itv K a xs.length).stop i H ∧ D.nx σ H) ∨ ((Itv K a xs.length).go i H ∧ ∃ N : L2.St → Hp → Prop, (∀ σ' H', N σ' H' → ∃ m', m' < m ∧ W (i + 1) m' σ' H') ∧ ∀ x H', (Itv K a xs.length).yld i H x H' → g x σ H' fun σ2 H2 => tb { D with nx := N, ct := N, bk := D.nx } σ2 H2) := by
  refine ⟨fun i m σ H => m = xs.length - i ∧ i ≤ xs.length ∧ Pv i σ H, ⟨xs.length, by simp, Nat.zero_le _, h0⟩, ?_⟩
  rintro i m σ H ⟨rfl, hi, p⟩
  have q := hl i σ H hi p
  by_cases hlt : i < xs.length
  · have g0 : xs[xs.length - 1 - i]? = some xs[xs.length - 1 - i] := List.getElem?_eq_getElem (by omega)
    refine .inr ⟨⟨hlt, xs, _, q, g0⟩, Pv (i + 1), fun σ' H' p' => ⟨xs.length - (i + 1), by omega, rfl, hlt, p'⟩, fun x H' y => ?_⟩
    obtain ⟨e, y⟩ := y
    subst e
    exact hs i x σ _ hlt (y xs q) p
  · have e : i = xs.length := by omega
    subst e
    exact .inl ⟨Nat.le_refl _, hd σ H p⟩
/-! ### what may be compared -/
theorem strOk_lit {x : Str} (h : PyData.strOk x = true) : PyData.canLay0 (.str x) = true := h
theorem Fm.lay {N : List Str} (hN : ∀ n ∈ N, PyData.strOk n = true) : ∀ f : Fm, f.over N = true → f.d.canLay0 = true
  | .var n, h => by
    have h1 := hN n (of_decide_eq_true h)
    simp only [Fm.d, PyData.canLay0, PyData.canLayAll0, h1, Bool.and_true]
    decide +kernel
  | .fal, _ => by decide +kernel
  | .and a b, h => by
    have h' : (a.over N && b.over N) = true := h
    rw [Bool.and_eq_true] at h'
    simp only [Fm.d, PyData.canLay0, PyData.canLayAll0, Fm.lay hN a h'.1, Fm.lay hN b h'.2, Bool.and_true]
    decide +kernel
  | .or a b, h => by
    have h' : (a.over N && b.over N) = true := h
    rw [Bool.and_eq_true] at h'
    simp only [Fm.d, PyData.canLay0, PyData.canLayAll0, Fm.lay hN a h'.1, Fm.lay hN b h'.2, Bool.and_true]
    decide +kernel
  | .imp a b, h => by
    have h' : (a.over N && b.over N) = true := h
    rw [Bool.and_eq_true] at h'
    simp only [Fm.d, PyData.canLay0, PyData.canLayAll0, Fm.lay hN a h'.1, Fm.lay hN b h'.2, Bool.and_true]
    decide +kernel
  | .box a, h => by
    simp only [Fm.d, PyData.canLay0, PyData.canLayAll0, Fm.lay hN a h, Bool.and_true]
    decide +kernel
theorem nms_ok : ∀ n ∈ nms, PyData.strOk n = true := by decide +kernel
/-- a list of formulas, none too high -/
theorem fms_shaped {N : List Str} (hN : ∀ n ∈ N, PyData.strOk n = true) : ∀ {fs : List Fm}, (∀ f ∈ fs, f.over N = true ∧ f.ht ≤ 63) → PyData.canLayAll0 (fs.map Fm.d) = true ∧ PyData.depthAll (fs.map Fm.d) ≤ 63
  | [], _ => ⟨rfl, Nat.zero_le _⟩
  | f :: fs, h => by
    have h1 := h f List.mem_cons_self
    have h2 := fms_shaped hN (fs := fs) fun g hg => h g (List.mem_cons_of_mem _ hg)
    rw [List.map_cons, PyData.canLayAll0, PyData.depthAll, Fm.lay hN f h1.1, h2.1, Fm.depth]
    exact ⟨rfl, Nat.max_le.mpr ⟨h1.2, h2.2⟩⟩
theorem list_shaped {ds : List PyData} (h : PyData.canLayAll0 ds = true ∧ PyData.depthAll ds ≤ 63) : SeqAt.shaped (.list ds) = true := by
  unfold SeqAt.shaped
  rw [PyData.canLay0, PyData.depth, h.1]
  exact decide_eq_true (by omega)
theorem eqv_self {d : PyData} (h : SeqAt.shaped d = true) : PyData.eqv d d = true := SeqAt.eqv_refl d (SeqAt.canLay_of_shaped h)
inductive TagZ : Str → (Fm → Fm → Fm) → Fm → Prop
  | and : TagZ "and" Fm.and (.imp .fal .fal)
  | or : TagZ "or" Fm.or .fal
theorem TagZ.op {sg : Str} {op : Fm → Fm → Fm} {z : Fm} (h : TagZ sg op z) : SgOp sg op := by
  cases h with
  | and => exact .and
  | or => exact .or
theorem SgOp.ht {sg : Str} {op : Fm → Fm → Fm} (h : SgOp sg op) (f g : Fm) : (op f g).ht = max f.ht g.ht + 1 := by
  cases h with
  | and => rfl
  | or => rfl
theorem grp_ht {sg : Str} {op : Fm → Fm → Fm} {z : Fm} {m : Nat} (o : SgOp sg op) (hz : z.ht ≤ m) : ∀ {fs : List Fm}, (∀ f ∈ fs, f.ht ≤ m) → (grp op z fs).ht ≤ m + fs.length
  | [], _ => hz
  | [a], h => Nat.le_trans (h a List.mem_cons_self) (Nat.le_add_right _ _)
  | a :: b :: r, h => by
    have h1 := h a List.mem_cons_self
    have h2 := grp_ht o hz (fs := b :: r) fun f hf => h f (List.mem_cons_of_mem _ hf)
    show (op a (grp op z (b :: r))).ht ≤ _
    rw [o.ht]
    simp only [List.length_cons] at h2 ⊢
    omega
theorem ImAll.fm {K : PySem.W.Frag} {H : Hp} {xs : List V} {fs : List Fm} (hI : ImAll K H xs (fs.map Fm.d)) {j : Nat} (hj : j < xs.length) : ∃ v f, xs[j]? = some v ∧ fs[j]? = some f ∧ Im K H v f.d := by
  have g := List.getElem?_eq_getElem hj
  obtain ⟨d, e, i⟩ := hI.get g
  rw [List.getElem?_map] at e
  cases e2 : fs[j]? with
  | none => rw [e2] at e; cases e
  | some f =>
    rw [e2] at e
    have : f.d = d := Option.some.inj e
    subst this
    exact ⟨_, f, g, rfl, i⟩
theorem fm_snoc {fs : List Fm} {f : Fm} : (fs ++ [f]).map Fm.d = fs.map Fm.d ++ [f.d] := by rw [List.map_append]; rfl
end E

set_option Elab.async false
set_option linter.all false
set_option maxRecDepth 100000
set_option maxHeartbeats 4000000
namespace E
open PySem PySem.Spec PyProof.Rows L2
/-! ### the order of formulas -/
abbrev Tk := List (Int ⊕ List Nat)
def Fm.toks : Fm → Tk
  | .and a b => .inl 0 :: (a.toks ++ b.toks)
  | .box a => .inl 1 :: a.toks
  | .fal => [.inl 2]
  | .imp a b => .inl 3 :: (a.toks ++ b.toks)
  | .or a b => .inl 4 :: (a.toks ++ b.toks)
  | .var n => [.inl 5, .inr n.cps.toList]
def Fm.lt (a b : Fm) : Bool := PyProof.Rows.lexLt itemOrd a.toks b.toks
theorem lex_ii {i j : Int} {l m : Tk} (h : i ≠ j) : PyProof.Rows.lexLt itemOrd (.inl i :: l) (.inl j :: m) = decide (i < j) := lex_diff (O := itemOrd) (fun e => h (Sum.inl.inj e))
theorem lex_same (x : Int ⊕ List Nat) (l m : Tk) : PyProof.Rows.lexLt itemOrd (x :: l) (x :: m) = PyProof.Rows.lexLt itemOrd l m := lex_self (O := itemOrd) x l m
theorem lex_ss {x y : List Nat} (h : x ≠ y) (l m : Tk) : PyProof.Rows.lexLt itemOrd (.inr x :: l) (.inr y :: m) = PyProof.Rows.lexLt itemOrd [.inr x] [.inr y] :=
  (lex_diff (O := itemOrd) (fun e => h (Sum.inr.inj e))).trans (lex_diff (O := itemOrd) (fun e => h (Sum.inr.inj e))).symm
theorem toks_app : ∀ (a b : Fm) (l m : Tk), PyProof.Rows.lexLt itemOrd (a.toks ++ l) (b.toks ++ m) = if a = b then PyProof.Rows.lexLt itemOrd l m else a.lt b := by
  intro a
  induction a with
  | and a1 a2 ih1 ih2 =>
    intro b l m
    cases b with
    | and b1 b2 =>
      show PyProof.Rows.lexLt itemOrd (.inl 0 :: ((a1.toks ++ a2.toks) ++ l)) (.inl 0 :: ((b1.toks ++ b2.toks) ++ m)) = _
      have e2 : Fm.lt (.and a1 a2) (.and b1 b2) = if a1 = b1 then a2.lt b2 else a1.lt b1 := (lex_same _ _ _).trans (ih1 b1 a2.toks b2.toks)
      rw [lex_same, List.append_assoc, List.append_assoc, ih1, ih2, e2]
      by_cases h1 : a1 = b1
      · by_cases h2 : a2 = b2
        · subst h1 h2; simp
        · subst h1; simp [h2]
      · simp [h1]
    | box b1 => exact (lex_ii (by decide)).trans (by rw [if_neg (by simp)]; exact (lex_ii (by decide)).symm)
    | fal => exact (lex_ii (by decide)).trans (by rw [if_neg (by simp)]; exact (lex_ii (by decide)).symm)
    | imp b1 b2 => exact (lex_ii (by decide)).trans (by rw [if_neg (by simp)]; exact (lex_ii (by decide)).symm)
    | or b1 b2 => exact (lex_ii (by decide)).trans (by rw [if_neg (by simp)]; exact (lex_ii (by decide)).symm)
    | var n => exact (lex_ii (by decide)).trans (by rw [if_neg (by simp)]; exact (lex_ii (by decide)).symm)
  | or a1 a2 ih1 ih2 =>
    intro b l m
    cases b with
    | or b1 b2 =>
      show PyProof.Rows.lexLt itemOrd (.inl 4 :: ((a1.toks ++ a2.toks) ++ l)) (.inl 4 :: ((b1.toks ++ b2.toks) ++ m)) = _
      have e2 : Fm.lt (.or a1 a2) (.or b1 b2) = if a1 = b1 then a2.lt b2 else a1.lt b1 := (lex_same _ _ _).trans (ih1 b1 a2.toks b2.toks)
      rw [lex_same, List.append_assoc, List.append_assoc, ih1, ih2, e2]
      by_cases h1 : a1 = b1
      · by_cases h2 : a2 = b2
        · subst h1 h2; simp
        · subst h1; simp [h2]
      · simp [h1]
    | box b1 => exact (lex_ii (by decide)).trans (by rw [if_neg (by simp)]; exact (lex_ii (by decide)).symm)
    | fal => exact (lex_ii (by decide)).trans (by rw [if_neg (by simp)]; exact (lex_ii (by decide)).symm)
    | imp b1 b2 => exact (lex_ii (by decide)).trans (by rw [if_neg (by simp)]; exact (lex_ii (by decide)).symm)
    | and b1 b2 => exact (lex_ii (by decide)).trans (by rw [if_neg (by simp)]; exact (lex_ii (by decide)).symm)
    | var n => exact (lex_ii (by decide)).trans (by rw [if_neg (by simp)]; exact (lex_ii (by decide)).symm)
  | imp a1 a2 ih1 ih2 =>
    intro b l m
    cases b with
    | imp b1 b2 =>
      show PyProof.Rows.lexLt itemOrd (.inl 3 :: ((a1.toks ++ a2.toks) ++ l)) (.inl 3 :: ((b1.toks ++ b2.toks) ++ m)) = _
      have e2 : Fm.lt (.imp a1 a2) (.imp b1 b2) = if a1 = b1 then a2.lt b2 else a1.lt b1 := (lex_same _ _ _).trans (ih1 b1 a2.toks b2.toks)
      rw [lex_same, List.append_assoc, List.append_assoc, ih1, ih2, e2]
      by_cases h1 : a1 = b1
      · by_cases h2 : a2 = b2
        · subst h1 h2; simp
        · subst h1; simp [h2]
      · simp [h1]
    | box b1 => exact (lex_ii (by decide)).trans (by rw [if_neg (by simp)]; exact (lex_ii (by decide)).symm)
    | fal => exact (lex_ii (by decide)).trans (by rw [if_neg (by simp)]; exact (lex_ii (by decide)).symm)
    | or b1 b2 => exact (lex_ii (by decide)).trans (by rw [if_neg (by simp)]; exact (lex_ii (by decide)).symm)
    | and b1 b2 => exact (lex_ii (by decide)).trans (by rw [if_neg (by simp)]; exact (lex_ii (by decide)).symm)
    | var n => exact (lex_ii (by decide)).trans (by rw [if_neg (by simp)]; exact (lex_ii (by decide)).symm)
  | box a1 ih1 =>
    intro b l m
    cases b with
    | box b1 =>
      show PyProof.Rows.lexLt itemOrd (.inl 1 :: (a1.toks ++ l)) (.inl 1 :: (b1.toks ++ m)) = _
      have e2 : Fm.lt (.box a1) (.box b1) = a1.lt b1 := lex_same _ _ _
      rw [lex_same, ih1, e2]
      by_cases h1 : a1 = b1
      · subst h1; simp
      · simp [h1]
    | and b1 b2 => exact (lex_ii (by decide)).trans (by rw [if_neg (by simp)]; exact (lex_ii (by decide)).symm)
    | fal => exact (lex_ii (by decide)).trans (by rw [if_neg (by simp)]; exact (lex_ii (by decide)).symm)
    | imp b1 b2 => exact (lex_ii (by decide)).trans (by rw [if_neg (by simp)]; exact (lex_ii (by decide)).symm)
    | or b1 b2 => exact (lex_ii (by decide)).trans (by rw [if_neg (by simp)]; exact (lex_ii (by decide)).symm)
    | var n => exact (lex_ii (by decide)).trans (by rw [if_neg (by simp)]; exact (lex_ii (by decide)).symm)
  | fal =>
    intro b l m
    cases b with
    | fal => rw [if_pos rfl]; exact lex_same _ _ _
    | and b1 b2 => exact (lex_ii (by decide)).trans (by rw [if_neg (by simp)]; exact (lex_ii (by decide)).symm)
    | box b1 => exact (lex_ii (by decide)).trans (by rw [if_neg (by simp)]; exact (lex_ii (by decide)).symm)
    | imp b1 b2 => exact (lex_ii (by decide)).trans (by rw [if_neg (by simp)]; exact (lex_ii (by decide)).symm)
    | or b1 b2 => exact (lex_ii (by decide)).trans (by rw [if_neg (by simp)]; exact (lex_ii (by decide)).symm)
    | var n => exact (lex_ii (by decide)).trans (by rw [if_neg (by simp)]; exact (lex_ii (by decide)).symm)
  | var n =>
    intro b l m
    cases b with
    | var k =>
      show PyProof.Rows.lexLt itemOrd (.inl 5 :: .inr n.cps.toList :: l) (.inl 5 :: .inr k.cps.toList :: m) = _
      rw [lex_same]
      by_cases h1 : n = k
      · subst h1
        rw [lex_same, if_pos rfl]
      · have hn : n.cps.toList ≠ k.cps.toList := fun e => h1 (PySem.W.str_of_cps e)
        rw [lex_ss hn, if_neg (by simp [h1])]
        exact (lex_same _ _ _).symm
    | and b1 b2 => exact (lex_ii (by decide)).trans (by rw [if_neg (by simp)]; exact (lex_ii (by decide)).symm)
    | box b1 => exact (lex_ii (by decide)).trans (by rw [if_neg (by simp)]; exact (lex_ii (by decide)).symm)
    | fal => exact (lex_ii (by decide)).trans (by rw [if_neg (by simp)]; exact (lex_ii (by decide)).symm)
    | imp b1 b2 => exact (lex_ii (by decide)).trans (by rw [if_neg (by simp)]; exact (lex_ii (by decide)).symm)
    | or b1 b2 => exact (lex_ii (by decide)).trans (by rw [if_neg (by simp)]; exact (lex_ii (by decide)).symm)
theorem toks_inj {a b : Fm} (h : a.toks = b.toks) : a = b := by
  have e := toks_app a b [] [.inl 0]
  rw [List.append_nil] at e
  by_cases hab : a = b
  · exact hab
  · have e2 := toks_app a b [] []
    rw [List.append_nil, List.append_nil, if_neg hab] at e2
    rw [if_neg hab, ← e2, h, lex_irrefl] at e
    have : PyProof.Rows.lexLt itemOrd b.toks (b.toks ++ [.inl 0]) = true := by
      have e3 := PySem.W.lex_pre b.toks [] [.inl 0]
      rw [List.append_nil] at e3
      rw [e3]
      rfl
    rw [this] at e
    cases e
theorem Fm.lt_irrefl (a : Fm) : a.lt a = false := lex_irrefl _
theorem Fm.lt_trans {a b c : Fm} (h1 : a.lt b = true) (h2 : b.lt c = true) : a.lt c = true := lex_trans _ _ _ h1 h2
theorem Fm.lt_total {a b : Fm} (h1 : a.lt b = false) (h2 : b.lt a = false) : a = b := toks_inj (lex_total _ _ h1 h2)
theorem Fm.lt_asymm {a b : Fm} (h : a.lt b = true) : b.lt a = false := by
  cases e : b.lt a with
  | false => rfl
  | true =>
    have := Fm.lt_trans h e
    rw [Fm.lt_irrefl] at this
    cases this
end E

set_option Elab.async false
set_option linter.all false
set_option maxRecDepth 100000
set_option maxHeartbeats 4000000
namespace ELt
open PySem PySem.SeqAt
open PySem.AutoSeq1 (wpAny_loadPart')
open PySem.MeetsSeq PySem.MeetsSeq2 PySem.MeetsSeq3 PySem.SeqRoads2
/-- item by item: where two items differ for the first time, their own < gives k; where none do, the lengths -/
inductive TupLt (A : Around) (s : Shared) (fin k : Bool) : List (Value × Value) → Prop
  | nil : fin = k → TupLt A s fin k []
  | yes {p q : Value} {r : List (Value × Value)} : EqAt A s p q true → TupLt A s fin k r → TupLt A s fin k ((p, q) :: r)
  | no {p q : Value} {r : List (Value × Value)} : EqAt A s p q false → RcLt A s p q k → TupLt A s fin k ((p, q) :: r)
theorem tup_seq (l b : Addr) (xs ys : Array Value) (n m : Nat) (dd de : Option Addr) (sl sm : Array (Option Value)) (k : Bool) :
    Meets (Builtin.«tuple.__lt__» ⟨[.ref l, .ref b], []⟩)
      (fun A R s => s.heap.get? l = some ⟨.type "tuple", dd, .seq xs n, sl⟩ ∧ s.heap.get? b = some ⟨.type "tuple", de, .seq ys m, sm⟩ ∧
        TupLt A.in1 s (decide (xs.size < ys.size)) k (xs.toList.zip ys.toList) ∧ R (.ok (.ret (.bool k))) s) :=
  .of_wp fun prog w A R s h => by
    obtain ⟨hp, g, d, tk, os⟩ := s
    obtain ⟨hl, hb, ht, hR⟩ := h
    have sub := AutoSeq1.sub_tuple_tuple
    wp_walk using wpAny_loadPart' hl, wpAny_loadPart' hb, wpAny_forIn_list _ (fun rest c t => c.1 = none ∧ t = ⟨hp, g, d, tk, os⟩ ∧ TupLt A.in1 ⟨hp, g, d, tk, os⟩ (decide (xs.size < ys.size)) k rest) _
    case turn =>
      rintro ⟨y, x⟩ rest c t ⟨_, rfl, tl⟩
      cases tl with
      | yes e tl =>
        refine wpAny_bind (e prog w _ _ ?_)
        wp_walk
        exact ⟨rfl, rfl, tl⟩
      | no e lt =>
        refine wpAny_bind (e prog w _ _ ?_)
        simp only [Bool.not_false, if_true]
        refine wpAny_bind (wpAny_rule (wpAny_bind (lt prog w _ _ ?_)))
        wp_walk
        exact ⟨_, rfl, hR⟩
    case fin =>
      rintro ⟨c1, c2⟩ t ⟨hc, rfl, tl⟩
      simp only at hc
      subst hc
      cases tl with
      | nil e =>
        wp_walk
        exact ⟨_, rfl, by rw [← e] at hR; simpa [Builtin.Tuple.tupleCompareSizes] using hR⟩
    case h => exact ⟨rfl, rfl, ht⟩
theorem rc_tups {A : Around} {s : Shared} {l b : Addr} {xs ys : Array Value} {k : Bool} (hl : s.heap.IsTuple l xs) (hb : s.heap.IsTuple b ys) (hu : A.units < cLine) (ht : TupLt A.in1 s (decide (xs.size < ys.size)) k (xs.toList.zip ys.toList)) : RcLt A s (.ref l) (.ref b) k := fun prog w E Q h => by
  obtain ⟨⟨c1, dd, d1, sl⟩, ho, hc, n, hd⟩ := id hl
  obtain ⟨⟨c2, de, d2, sm⟩, ho2, hc2, m, hd2⟩ := id hb
  simp only at hc hd hc2 hd2
  subst hc hd hc2 hd2
  exact richCompare_meets_room (op := .Lt) ⟨_, ho, rfl⟩ ⟨_, ho2, rfl⟩ F.slot_tuple_lt F.entry_tuple_lt (F.args_tuple_lt_2 _ _) (tup_seq l b xs ys n m dd de sl sm k)
    ⟨ho, ho2, ht, show Value.bool k ≠ Value.notImplemented ∧ Q (.bool k) s from ⟨(fun x => nomatch x), h⟩⟩ hu
end ELt

set_option Elab.async false
set_option linter.all false
set_option maxRecDepth 100000
set_option maxHeartbeats 4000000
namespace E
open PySem PySem.Spec PyProof.Rows L2
/-! ### the signs -/
def Fm.rk : Fm → Fin 6
  | .and _ _ => 0
  | .box _ => 1
  | .fal => 2
  | .imp _ _ => 3
  | .or _ _ => 4
  | .var _ => 5
def sgT : Fin 6 → Str
  | 0 => "and"
  | 1 => "box"
  | 2 => "falsum"
  | 3 => "implies"
  | 4 => "or"
  | 5 => "var"
def Fm.sg (f : Fm) : Str := sgT f.rk
theorem sgT_ne : ∀ i j : Fin 6, i ≠ j → (sgT i == sgT j) = false := by decide +kernel
theorem sgT_lt : ∀ i j : Fin 6, decide ((sgT i).cps.toList < (sgT j).cps.toList) = decide ((i.val : Int) < (j.val : Int)) := by decide +kernel
def Fm.pts : Fm → List PyData
  | .and a b => [a.d, b.d]
  | .box a => [a.d]
  | .fal => []
  | .imp a b => [a.d, b.d]
  | .or a b => [a.d, b.d]
  | .var n => [.str n]
theorem Fm.d_eq (f : Fm) : f.d = .tuple (.str f.sg :: f.pts) := by cases f <;> rfl
theorem toks_head (f : Fm) : ∃ r, f.toks = .inl (f.rk.val : Int) :: r := by cases f <;> exact ⟨_, rfl⟩
theorem lt_rk {f g : Fm} (h : f.rk ≠ g.rk) : f.lt g = decide ((f.rk.val : Int) < (g.rk.val : Int)) := by
  obtain ⟨r, e⟩ := toks_head f
  obtain ⟨t, e2⟩ := toks_head g
  unfold Fm.lt
  rw [e, e2]
  exact lex_ii fun e => h (Fin.ext (Int.ofNat.inj e))
theorem lt_and (a b c d : Fm) : Fm.lt (.and a b) (.and c d) = if a = c then b.lt d else a.lt c := (lex_same _ _ _).trans (toks_app a c b.toks d.toks)
theorem lt_or (a b c d : Fm) : Fm.lt (.or a b) (.or c d) = if a = c then b.lt d else a.lt c := (lex_same _ _ _).trans (toks_app a c b.toks d.toks)
theorem lt_imp (a b c d : Fm) : Fm.lt (.imp a b) (.imp c d) = if a = c then b.lt d else a.lt c := (lex_same _ _ _).trans (toks_app a c b.toks d.toks)
theorem lt_box (a c : Fm) : Fm.lt (.box a) (.box c) = a.lt c := lex_same _ _ _
theorem lt_var (n m : Str) : Fm.lt (.var n) (.var m) = decide (n.cps.toList < m.cps.toList) := (lex_same _ _ _).trans (PySem.W.lex_one _ _)
theorem streq {x y : Str} : (x == y) = decide (x = y) := by
  rw [Bool.eq_iff_iff, decide_eq_true_iff]
  exact beq_iff_eq
theorem eqv_tup (x y : Str) (ds es : List PyData) : PyData.eqv (.tuple (.str x :: ds)) (.tuple (.str y :: es)) = ((x == y) && PyData.eqvAll ds es) := by
  rw [PyData.eqv, PyData.eqvAll, PyData.eqv]
theorem eqvAll2 (a b c d : PyData) : PyData.eqvAll [a, b] [c, d] = (PyData.eqv a c && PyData.eqv b d) := by
  rw [PyData.eqvAll, PyData.eqvAll, PyData.eqvAll, Bool.and_true]
theorem eqvAll1 (a c : PyData) : PyData.eqvAll [a] [c] = PyData.eqv a c := by
  rw [PyData.eqvAll, PyData.eqvAll, Bool.and_true]
/-- == of formulas as data -/
theorem Fm.eqv : ∀ f g : Fm, PyData.eqv f.d g.d = decide (f = g) := by
  intro f
  induction f with
  | and a b iha ihb =>
    intro g
    cases g with
    | and c d =>
      rw [Fm.d_eq, Fm.d_eq, eqv_tup, show ((Fm.and a b).sg == (Fm.and c d).sg) = true from beq_self_eq_true _, Bool.true_and]
      show PyData.eqvAll [a.d, b.d] [c.d, d.d] = _
      rw [eqvAll2, iha, ihb, ← Bool.decide_and]
      exact decide_eq_decide.mpr (by rw [Fm.and.injEq])
    | _ => rw [Fm.d_eq, Fm.d_eq, eqv_tup, show ∀ x y : Fm, x.rk ≠ y.rk → (x.sg == y.sg) = false from fun x y h => sgT_ne _ _ h, Bool.false_and, decide_eq_false (by simp)]; intro e; simp [Fm.rk] at e
  | or a b iha ihb =>
    intro g
    cases g with
    | or c d =>
      rw [Fm.d_eq, Fm.d_eq, eqv_tup, show ((Fm.or a b).sg == (Fm.or c d).sg) = true from beq_self_eq_true _, Bool.true_and]
      show PyData.eqvAll [a.d, b.d] [c.d, d.d] = _
      rw [eqvAll2, iha, ihb, ← Bool.decide_and]
      exact decide_eq_decide.mpr (by rw [Fm.or.injEq])
    | _ => rw [Fm.d_eq, Fm.d_eq, eqv_tup, show ∀ x y : Fm, x.rk ≠ y.rk → (x.sg == y.sg) = false from fun x y h => sgT_ne _ _ h, Bool.false_and, decide_eq_false (by simp)]; intro e; simp [Fm.rk] at e
  | imp a b iha ihb =>
    intro g
    cases g with
    | imp c d =>
      rw [Fm.d_eq, Fm.d_eq, eqv_tup, show ((Fm.imp a b).sg == (Fm.imp c d).sg) = true from beq_self_eq_true _, Bool.true_and]
      show PyData.eqvAll [a.d, b.d] [c.d, d.d] = _
      rw [eqvAll2, iha, ihb, ← Bool.decide_and]
      exact decide_eq_decide.mpr (by rw [Fm.imp.injEq])
    | _ => rw [Fm.d_eq, Fm.d_eq, eqv_tup, show ∀ x y : Fm, x.rk ≠ y.rk → (x.sg == y.sg) = false from fun x y h => sgT_ne _ _ h, Bool.false_and, decide_eq_false (by simp)]; intro e; simp [Fm.rk] at e
  | box a iha =>
    intro g
    cases g with
    | box c =>
      rw [Fm.d_eq, Fm.d_eq, eqv_tup, show ((Fm.box a).sg == (Fm.box c).sg) = true from beq_self_eq_true _, Bool.true_and]
      show PyData.eqvAll [a.d] [c.d] = _
      rw [eqvAll1, iha]
      exact decide_eq_decide.mpr (by rw [Fm.box.injEq])
    | _ => rw [Fm.d_eq, Fm.d_eq, eqv_tup, show ∀ x y : Fm, x.rk ≠ y.rk → (x.sg == y.sg) = false from fun x y h => sgT_ne _ _ h, Bool.false_and, decide_eq_false (by simp)]; intro e; simp [Fm.rk] at e
  | fal =>
    intro g
    cases g with
    | fal => rw [decide_eq_true rfl]; rfl
    | _ => rw [Fm.d_eq, Fm.d_eq, eqv_tup, show ∀ x y : Fm, x.rk ≠ y.rk → (x.sg == y.sg) = false from fun x y h => sgT_ne _ _ h, Bool.false_and, decide_eq_false (by simp)]; intro e; simp [Fm.rk] at e
  | var n =>
    intro g
    cases g with
    | var m =>
      rw [Fm.d_eq, Fm.d_eq, eqv_tup, show ((Fm.var n).sg == (Fm.var m).sg) = true from beq_self_eq_true _, Bool.true_and]
      show PyData.eqvAll [.str n] [.str m] = _
      rw [eqvAll1, PyData.eqv, streq]
      exact decide_eq_decide.mpr (by rw [Fm.var.injEq])
    | _ => rw [Fm.d_eq, Fm.d_eq, eqv_tup, show ∀ x y : Fm, x.rk ≠ y.rk → (x.sg == y.sg) = false from fun x y h => sgT_ne _ _ h, Bool.false_and, decide_eq_false (by simp)]; intro e; simp [Fm.rk] at e
end E

set_option Elab.async false
set_option linter.all false
set_option maxRecDepth 100000
set_option maxHeartbeats 4000000
namespace E
open PySem PySem.Spec PyProof.Rows L2 PySem.SeqAt ELt
/-! ### the model's own < of formulas -/
theorem rd_items {h : Heap} {v : Value} {f : Fm} {as : List Addr} (r : Reads h v f.d as) : ∃ (l : Addr) (o : Obj) (vs : Array Value) (n : Nat) (t : Tok) (ws : List Value) (bs : List Addr), v = .ref l ∧ h.get? l = some o ∧ o.cls = .type "tuple" ∧ o.data = .seq vs n ∧ vs.toList = .str f.sg t :: ws ∧ ReadsAll h ws f.pts bs := by
  rw [Fm.d_eq] at r
  generalize f.sg = sg at r
  cases r with
  | @tuple l o vs n _ _ h1 h2 h3 h4 =>
    generalize hv : vs.toList = vl at h4
    cases h4 with
    | @cons w ws _ _ as bs r1 r2 =>
      cases r1 with
      | str _ t => exact ⟨l, o, vs, n, t, ws, bs, rfl, h1, h2, h3, hv, r2⟩
theorem eq_fm {h : Heap} {A : Around} {s : Shared} (hs : s.heap = h) {f g : Fm} {v u : Value} {as bs : List Addr} (rv : Reads h v f.d as) (ru : Reads h u g.d bs) (lf : f.d.canLay0 = true) (lg : g.d.canLay0 = true) (hu : A.units + min f.ht g.ht < cLine) : EqAt A s v u (decide (f = g)) := by
  subst hs
  rw [← Fm.eqv]
  exact eqAt_reads f.d g.d A s v u as bs rv ru lf lg (by rw [Fm.depth, Fm.depth]; exact hu)
theorem size_of {vs : Array Value} {l : List Value} (h : vs.toList = l) : vs.size = l.length := by rw [← h, Array.length_toList]
/-- the items behind the signs, in order -/
theorem seq_pts : ∀ (f g : Fm), f.rk = g.rk → ∀ (A : Around) (s : Shared) (ws us : List Value) (as bs : List Addr), ReadsAll s.heap ws f.pts as → ReadsAll s.heap us g.pts bs → f.d.canLay0 = true → g.d.canLay0 = true → A.units + min f.ht g.ht < cLine + 1 →
    (∀ (f' g' : Fm) (v u : Value) (cs ds : List Addr), f'.ht < f.ht → Reads s.heap v f'.d cs → Reads s.heap u g'.d ds → f'.d.canLay0 = true → g'.d.canLay0 = true → A.units + min f'.ht g'.ht < cLine → RcLt A s v u (f'.lt g')) →
    TupLt A s false (f.lt g) (ws.zip us) := by
  intro f g hk A s ws us as bs rw_ ru lf lg hu ih
  have two : ∀ (a b c d : Fm) (k : Bool), k = (if a = c then b.lt d else a.lt c) → a.ht < f.ht → b.ht < f.ht → a.d.canLay0 = true → b.d.canLay0 = true → c.d.canLay0 = true → d.d.canLay0 = true → A.units + min a.ht c.ht < cLine → A.units + min b.ht d.ht < cLine →
      ReadsAll s.heap ws [a.d, b.d] as → ReadsAll s.heap us [c.d, d.d] bs → TupLt A s false k (ws.zip us) := by
    intro a b c d k ek ha hb la lb lc ld h1 h2 r1 r2
    cases r1 with
    | cons p1 q1 =>
      cases q1 with
      | cons p2 q2 =>
        cases q2
        cases r2 with
        | cons p3 q3 =>
          cases q3 with
          | cons p4 q4 =>
            cases q4
            by_cases e1 : a = c
            · rw [if_pos e1] at ek
              have t1 := eq_fm (A := A) (s := s) rfl p1 p3 la lc h1
              rw [decide_eq_true e1] at t1
              refine .yes t1 ?_
              have t2 := eq_fm (A := A) (s := s) rfl p2 p4 lb ld h2
              by_cases e2 : b = d
              · rw [decide_eq_true e2] at t2
                subst e2
                rw [Fm.lt_irrefl] at ek
                exact .yes t2 (.nil ek.symm)
              · rw [decide_eq_false e2] at t2
                rw [ek]
                exact .no t2 (ih b d _ _ _ _ hb p2 p4 lb ld h2)
            · rw [if_neg e1] at ek
              have t1 := eq_fm (A := A) (s := s) rfl p1 p3 la lc h1
              rw [decide_eq_false e1] at t1
              rw [ek]
              exact .no t1 (ih a c _ _ _ _ ha p1 p3 la lc h1)
  have lay2 : ∀ {sg : Str} {a b : Fm}, PyData.canLay0 (.tuple [.str sg, a.d, b.d]) = true → a.d.canLay0 = true ∧ b.d.canLay0 = true := by
    intro sg a b h
    simp only [PyData.canLay0, PyData.canLayAll0, Bool.and_eq_true] at h
    exact ⟨h.2.1, h.2.2.1⟩
  cases f with
  | and a b =>
    cases g with
    | and c d =>
      have hu' : A.units + min (max a.ht b.ht + 1) (max c.ht d.ht + 1) < cLine + 1 := hu
      exact two a b c d _ (lt_and a b c d) (by show _ < max a.ht b.ht + 1; omega) (by show _ < max a.ht b.ht + 1; omega) (lay2 lf).1 (lay2 lf).2 (lay2 lg).1 (lay2 lg).2 (by omega) (by omega) rw_ ru
    | _ => exact absurd hk (by simp [Fm.rk])
  | or a b =>
    cases g with
    | or c d =>
      have hu' : A.units + min (max a.ht b.ht + 1) (max c.ht d.ht + 1) < cLine + 1 := hu
      exact two a b c d _ (lt_or a b c d) (by show _ < max a.ht b.ht + 1; omega) (by show _ < max a.ht b.ht + 1; omega) (lay2 lf).1 (lay2 lf).2 (lay2 lg).1 (lay2 lg).2 (by omega) (by omega) rw_ ru
    | _ => exact absurd hk (by simp [Fm.rk])
  | imp a b =>
    cases g with
    | imp c d =>
      have hu' : A.units + min (max a.ht b.ht + 1) (max c.ht d.ht + 1) < cLine + 1 := hu
      exact two a b c d _ (lt_imp a b c d) (by show _ < max a.ht b.ht + 1; omega) (by show _ < max a.ht b.ht + 1; omega) (lay2 lf).1 (lay2 lf).2 (lay2 lg).1 (lay2 lg).2 (by omega) (by omega) rw_ ru
    | _ => exact absurd hk (by simp [Fm.rk])
  | box a =>
    cases g with
    | box c =>
      have hu' : A.units + min (a.ht + 1) (c.ht + 1) < cLine + 1 := hu
      have la : a.d.canLay0 = true := by
        have h : PyData.canLay0 (.tuple [.str "box", a.d]) = true := lf
        simp only [PyData.canLay0, PyData.canLayAll0, Bool.and_eq_true] at h
        exact h.2.1
      have lc : c.d.canLay0 = true := by
        have h : PyData.canLay0 (.tuple [.str "box", c.d]) = true := lg
        simp only [PyData.canLay0, PyData.canLayAll0, Bool.and_eq_true] at h
        exact h.2.1
      rw [lt_box]
      cases rw_ with
      | cons p1 q1 =>
        cases q1
        cases ru with
        | cons p3 q3 =>
          cases q3
          have t1 := eq_fm (A := A) (s := s) rfl p1 p3 la lc (by omega)
          by_cases e1 : a = c
          · rw [decide_eq_true e1] at t1
            subst e1
            exact .yes t1 (.nil (Fm.lt_irrefl a).symm)
          · rw [decide_eq_false e1] at t1
            exact .no t1 (ih a c _ _ _ _ (Nat.lt_succ_self _) p1 p3 la lc (by omega))
    | _ => exact absurd hk (by simp [Fm.rk])
  | fal =>
    cases g with
    | fal =>
      cases rw_
      cases ru
      exact .nil (Fm.lt_irrefl _).symm
    | _ => exact absurd hk (by simp [Fm.rk])
  | var n =>
    cases g with
    | var m =>
      rw [lt_var]
      cases rw_ with
      | cons p1 q1 =>
        cases q1
        cases ru with
        | cons p3 q3 =>
          cases q3
          cases p1 with
          | str _ t =>
            cases p3 with
            | str _ t2 =>
              have t1 := EqAt.str_str (A := A) (s := s) n t m t2
              by_cases e1 : n = m
              · subst e1
                rw [beq_self_eq_true] at t1
                exact .yes t1 (.nil (decide_eq_false (List.lt_irrefl _)).symm)
              · rw [streq, decide_eq_false e1] at t1
                exact .no t1 fun prog w E Q hq => P.lt_str hq
    | _ => exact absurd hk (by simp [Fm.rk])
theorem rc_fm : ∀ (n : Nat) (f g : Fm) (A : Around) (s : Shared) (v u : Value) (as bs : List Addr), f.ht ≤ n → Reads s.heap v f.d as → Reads s.heap u g.d bs → f.d.canLay0 = true → g.d.canLay0 = true → A.units + min f.ht g.ht < cLine → RcLt A s v u (f.lt g)
  | 0, f, _, _, _, _, _, _, _, h, _, _, _, _, _ => absurd (Fm.ht_pos f) (by omega)
  | n + 1, f, g, A, s, v, u, as, bs, hn, rv, ru, lf, lg, hu => by
    obtain ⟨l, o, vs, k, t, ws, cs, rfl, h1, h2, h3, h4, h5⟩ := rd_items rv
    obtain ⟨l', o', vs', k', t', ws', cs', rfl, k1, k2, k3, k4, k5⟩ := rd_items ru
    refine rc_tups ⟨o, h1, h2, k, h3⟩ ⟨o', k1, k2, k', k3⟩ (Nat.lt_of_le_of_lt (Nat.le_add_right _ _) hu) ?_
    rw [h4, k4, List.zip_cons_cons]
    have t1 := EqAt.str_str (A := A.in1) (s := s) f.sg t g.sg t'
    by_cases hk : f.rk = g.rk
    · rw [show f.sg = g.sg from congrArg sgT hk] at t1 ⊢
      rw [beq_self_eq_true] at t1
      refine .yes t1 ?_
      have hsz : decide (vs.size < vs'.size) = false := by
        rw [size_of h4, size_of k4, List.length_cons, List.length_cons, SeqAt.ReadsAll.length _ _ _ h5, SeqAt.ReadsAll.length _ _ _ k5]
        have : f.pts.length = g.pts.length := by
          cases f <;> cases g <;> first | rfl | exact absurd hk (by simp [Fm.rk])
        rw [this]
        exact decide_eq_false (Nat.lt_irrefl _)
      rw [hsz]
      exact seq_pts f g hk A.in1 s ws ws' cs cs' h5 k5 lf lg (by show A.units + 1 + _ < _; omega) fun f' g' v u cs ds hf r1 r2 l1 l2 hu' => rc_fm n f' g' A.in1 s v u cs ds (by omega) r1 r2 l1 l2 hu'
    · rw [show (f.sg == g.sg) = false from sgT_ne _ _ hk] at t1
      refine .no t1 fun prog w E Q hq => ?_
      rw [lt_rk hk, ← sgT_lt] at hq
      exact P.lt_str hq
end E

set_option Elab.async false
set_option linter.all false
set_option maxRecDepth 100000
set_option maxHeartbeats 4000000
namespace E
open PySem PySem.Spec PyProof.Rows L2 PySem.SeqAt ELt PySem.W PySem.Calls
/-! ### sorting formulas -/
theorem sgT_inj {i j : Fin 6} (h : sgT i = sgT j) : i = j := by
  by_cases e : i = j
  · exact e
  · have := sgT_ne i j e
    rw [h, beq_self_eq_true] at this
    cases this
theorem rd_head {h : Heap} {f g : Fm} {v : Value} {as bs : List Addr} (r1 : Reads h v f.d as) (r2 : Reads h v g.d bs) : f.rk = g.rk ∧ ∃ (ws : List Value) (cs ds : List Addr), ReadsAll h ws f.pts cs ∧ ReadsAll h ws g.pts ds := by
  obtain ⟨l, o, vs, k, t, ws, cs, rfl, h1, h2, h3, h4, h5⟩ := rd_items r1
  obtain ⟨l', o', vs', k', t', ws', cs', e, k1, k2, k3, k4, k5⟩ := rd_items r2
  cases e
  rw [h1] at k1
  cases k1
  rw [h3] at k3
  cases k3
  rw [h4] at k4
  obtain ⟨e1, e2⟩ := List.cons.inj k4
  have e3 : f.sg = g.sg := by injection e1
  subst e2
  exact ⟨sgT_inj e3, ws, cs, cs', h5, k5⟩
theorem rd_two {h : Heap} {ws : List Value} {a b c d : PyData} {as bs : List Addr} (r1 : ReadsAll h ws [a, b] as) (r2 : ReadsAll h ws [c, d] bs) : ∃ (v u : Value) (x y z w : List Addr), Reads h v a x ∧ Reads h v c y ∧ Reads h u b z ∧ Reads h u d w := by
  cases r1 with
  | cons p1 q1 =>
    cases q1 with
    | cons p2 q1 =>
      cases r2 with
      | cons p3 q2 =>
        cases q2 with
        | cons p4 q2 => exact ⟨_, _, _, _, _, _, p1, p3, p2, p4⟩
theorem rd_one {h : Heap} {ws : List Value} {a c : PyData} {as bs : List Addr} (r1 : ReadsAll h ws [a] as) (r2 : ReadsAll h ws [c] bs) : ∃ (v : Value) (x y : List Addr), Reads h v a x ∧ Reads h v c y := by
  cases r1 with
  | cons p1 q1 =>
    cases r2 with
    | cons p3 q2 => exact ⟨_, _, _, p1, p3⟩
theorem rd_uniq {h : Heap} : ∀ (f g : Fm) (v : Value) (as bs : List Addr), Reads h v f.d as → Reads h v g.d bs → f = g := by
  intro f
  induction f with
  | and a b iha ihb =>
    intro g v as bs r1 r2
    obtain ⟨hk, ws, cs, ds, q1, q2⟩ := rd_head r1 r2
    cases g with
    | and c d =>
      obtain ⟨_, _, _, _, _, _, p1, p2, p3, p4⟩ := rd_two q1 q2
      rw [iha c _ _ _ p1 p2, ihb d _ _ _ p3 p4]
    | _ => exact absurd hk (by simp [Fm.rk])
  | or a b iha ihb =>
    intro g v as bs r1 r2
    obtain ⟨hk, ws, cs, ds, q1, q2⟩ := rd_head r1 r2
    cases g with
    | or c d =>
      obtain ⟨_, _, _, _, _, _, p1, p2, p3, p4⟩ := rd_two q1 q2
      rw [iha c _ _ _ p1 p2, ihb d _ _ _ p3 p4]
    | _ => exact absurd hk (by simp [Fm.rk])
  | imp a b iha ihb =>
    intro g v as bs r1 r2
    obtain ⟨hk, ws, cs, ds, q1, q2⟩ := rd_head r1 r2
    cases g with
    | imp c d =>
      obtain ⟨_, _, _, _, _, _, p1, p2, p3, p4⟩ := rd_two q1 q2
      rw [iha c _ _ _ p1 p2, ihb d _ _ _ p3 p4]
    | _ => exact absurd hk (by simp [Fm.rk])
  | box a iha =>
    intro g v as bs r1 r2
    obtain ⟨hk, ws, cs, ds, q1, q2⟩ := rd_head r1 r2
    cases g with
    | box c =>
      obtain ⟨_, _, _, p1, p2⟩ := rd_one q1 q2
      rw [iha c _ _ _ p1 p2]
    | _ => exact absurd hk (by simp [Fm.rk])
  | fal =>
    intro g v as bs r1 r2
    obtain ⟨hk, ws, cs, ds, q1, q2⟩ := rd_head r1 r2
    cases g with
    | fal => rfl
    | _ => exact absurd hk (by simp [Fm.rk])
  | var n =>
    intro g v as bs r1 r2
    obtain ⟨hk, ws, cs, ds, q1, q2⟩ := rd_head r1 r2
    cases g with
    | var m =>
      obtain ⟨_, _, _, p1, p2⟩ := rd_one q1 q2
      cases p1
      cases p2
      rfl
    | _ => exact absurd hk (by simp [Fm.rk])
/-- formulas as keys, read off a heap -/
noncomputable def fmKind (h : Heap) (fs : List Fm) : PyProof.Rows.KeyKind where
  toKeyOrd := listOrd itemOrd
  keyOf v := open Classical in if q : ∃ f, f ∈ fs ∧ ∃ as, Reads h v f.d as then some q.choose.toks else none
  dflt := ([] : Tk)
theorem fmKind_some {h : Heap} {fs : List Fm} {v : Value} {f : Fm} {as : List Addr} (hf : f ∈ fs) (r : Reads h v f.d as) : (fmKind h fs).keyOf v = some f.toks := by
  have q : ∃ f, f ∈ fs ∧ ∃ as, Reads h v f.d as := ⟨f, hf, as, r⟩
  obtain ⟨_, as', h2⟩ := q.choose_spec
  have e : q.choose = f := rd_uniq _ _ _ _ _ h2 r
  show (open Classical in if q : ∃ f, f ∈ fs ∧ ∃ as, Reads h v f.d as then some q.choose.toks else none) = _
  rw [dif_pos q, e]
theorem fmKind_inv {h : Heap} {fs : List Fm} {v : Value} {k : Tk} (e : (fmKind h fs).keyOf v = some k) : ∃ f as, f ∈ fs ∧ Reads h v f.d as ∧ k = f.toks := by
  have e' : (open Classical in if q : ∃ f, f ∈ fs ∧ ∃ as, Reads h v f.d as then some q.choose.toks else none) = some k := e
  by_cases q : ∃ f, f ∈ fs ∧ ∃ as, Reads h v f.d as
  · obtain ⟨h1, as', h2⟩ := q.choose_spec
    rw [dif_pos q] at e'
    exact ⟨_, as', h1, h2, (Option.some.inj e').symm⟩
  · rw [dif_neg q] at e'
    cases e'
section
variable {prog : Program} {w : World} {A : Around} {E : Value → Shared → Prop} {s : Shared}
theorem lex_tail {fin k : Bool} {Q : Bool → Shared → Prop} (hq : Q k s) : ∀ (l : List (Value × Value)) (i : Nat), TupLt A s fin k l → KatLex prog w A true fin Q l (i + 1) s
  | _, _, .nil e => kat_nil (by rw [e]; exact hq)
  | _, i, .yes (r := r) e t => kat_cons (e prog w _ _ (kat_yes (lex_tail hq r (i + 1) t)))
  | _, i, .no e lt => kat_cons (e prog w _ _ (kat_no (by
      show wpAny (model prog w) A (oneLt' (true && (i + 1 == 0)) _ _) Q _ s
      rw [show (true && (i + 1 == 0)) = false from rfl]
      exact kat_one _ _ (lt prog w _ _ hq))))
theorem sorts_fm {vs : List Value} {fs : List Fm} (e : EachIs (fun v f => ∃ as, Reads s.heap v f.d as) vs fs) (hl : ∀ f, f ∈ fs → f.d.canLay0 = true ∧ A.units + f.ht < cLine) : SortsAt prog w A s (fmKind s.heap fs) vs := by
  refine ⟨fun v hv => ?_, tuples' (Value.type "str" != Value.type "tuple"), ?_, fun h2 E Q hq => ?_⟩
  · obtain ⟨f, hf, as, r⟩ := e.left v hv
    exact ⟨_, fmKind_some hf r⟩
  · intro E x y a b Q ha hb hq
    obtain ⟨f, as, hf, rf, rfl⟩ := fmKind_inv ha
    obtain ⟨g, bs, hg, rg, rfl⟩ := fmKind_inv hb
    have hq' : Q (f.lt g) s := hq
    obtain ⟨l, o, vs, k, t, ws, cs, rfl, h1, h2, h3, h4, h5⟩ := rd_items rf
    obtain ⟨l', o', vs', k', t', ws', cs', rfl, k1, k2, k3, k4, k5⟩ := rd_items rg
    have room : A.units + min f.ht g.ht < cLine := by
      have := (hl f hf).2
      omega
    refine kat_lt h1 h3 k1 k3 ?_
    rw [h4, k4, List.zip_cons_cons, show (Value.type "str" != Value.type "tuple") = true by decide]
    have t1 := EqAt.str_str (A := A) (s := s) f.sg t g.sg t'
    by_cases hk : f.rk = g.rk
    · rw [show f.sg = g.sg from congrArg sgT hk] at t1 ⊢
      rw [beq_self_eq_true] at t1
      have hsz : decide (vs.size < vs'.size) = false := by
        rw [size_of h4, size_of k4, List.length_cons, List.length_cons, SeqAt.ReadsAll.length _ _ _ h5, SeqAt.ReadsAll.length _ _ _ k5]
        have : f.pts.length = g.pts.length := by
          cases f <;> cases g <;> first | rfl | exact absurd hk (by simp [Fm.rk])
        rw [this]
        exact decide_eq_false (Nat.lt_irrefl _)
      rw [hsz]
      refine kat_cons (t1 prog w _ _ (kat_yes (lex_tail hq' _ 0 ?_)))
      exact seq_pts f g hk A s ws ws' cs cs' h5 k5 (hl f hf).1 (hl g hg).1 (by omega) fun f' g' v u cs ds hf' r1 r2 l1 l2 hu' => rc_fm f'.ht f' g' A s v u cs ds (Nat.le_refl _) r1 r2 l1 l2 hu'
    · rw [show (f.sg == g.sg) = false from sgT_ne _ _ hk] at t1
      refine kat_cons (t1 prog w _ _ (kat_no ?_))
      rw [lt_rk hk, ← sgT_lt] at hq'
      exact oneLt_str hq'
  · have firsts : ∀ {vs : List Value} {fs : List Fm}, EachIs (fun v f => ∃ as, Reads s.heap v f.d as) vs fs → ∃ us, KatTups s.heap vs us ∧ us.length = vs.length ∧ ∀ u ∈ us, ∃ x t, u = Value.str x t := by
      intro vs fs e
      induction e with
      | nil => exact ⟨[], KatTups.nil, rfl, fun u hu => nomatch hu⟩
      | cons h _ ih =>
        obtain ⟨as, r⟩ := h
        obtain ⟨us, a1, a2, a3⟩ := ih
        obtain ⟨l, o, vs, k, t, ws, cs, rfl, h1, h2, h3, h4, h5⟩ := rd_items r
        refine ⟨.str _ t :: us, KatTups.cons h1 h2 h3 (by rw [← Array.getElem?_toList, h4]; rfl) a1, by rw [List.length_cons, List.length_cons, a2], fun u hu => ?_⟩
        rcases List.mem_cons.mp hu with rfl | hu
        · exact ⟨_, _, rfl⟩
        · exact a3 u hu
    obtain ⟨us, a1, a2, a3⟩ := firsts e
    refine kat_kind (T := .type "str") a1 (by omega) (fun u hu => ?_) (beq_self_eq_true _) hq
    obtain ⟨x, t, rfl⟩ := a3 u hu
    exact Looks.of_pure rfl
end
def Fm.le (f g : Fm) : Bool := !g.lt f
/-- sorted(xs), xs a list of formulas -/
def rSortedF (K : PySem.W.Frag) : List V → Hp → VK → Prop := fun vs H Q => ∃ (a : Addr) (xs : List V) (fs : List Fm), vs = [V.ref a] ∧ SqL K H a xs ∧ ImAll K H xs (fs.map Fm.d) ∧ (∀ f ∈ fs, f.d.canLay0 = true ∧ f.ht ≤ 100) ∧
  ∀ (p : Addr) (ys : List V), H p = none → ImAll K H ys ((fs.mergeSort Fm.le).map Fm.d) → Q (.ref p) (upd H p (.lst ys))
theorem each_of {X : Cx} {pins : List (Addr × Obj)} {σ : L2.St} {H : Hp} {s : Shared} (I : Inv X pins σ H s) : ∀ {xs : List V} {us : List Value} {fs : List Fm}, Vals xs us → ImAll X.K H xs (fs.map Fm.d) →
    EachIs (fun v f => ∃ x : V, RelV x v ∧ Im X.K H x (Fm.d f)) us fs ∧ EachIs (fun v f => ∃ as, Reads s.heap v (Fm.d f) as) us fs
  | _, _, [], .nil, _ => ⟨.nil, .nil⟩
  | _, _, f :: fs, .cons r t, i => by
    have i' : ImAll X.K H _ (f.d :: fs.map Fm.d) := i
    cases i' with
    | cons i1 i2 =>
      obtain ⟨a1, a2⟩ := each_of I t i2
      exact ⟨.cons ⟨_, r, i1⟩ a1, .cons (Dp.reads I _ _ _ i1.dp r) a2⟩
theorem each_back {K : PySem.W.Frag} {H : Hp} : ∀ {us : List Value} {fs : List Fm}, EachIs (fun v f => ∃ x : V, RelV x v ∧ Im K H x (Fm.d f)) us fs → ∃ ys : List V, Vals ys us ∧ ImAll K H ys (fs.map Fm.d)
  | _, _, .nil => ⟨[], .nil, .nil⟩
  | _, _, .cons ⟨x, r, i⟩ t => by
    obtain ⟨ys, h1, h2⟩ := each_back t
    exact ⟨x :: ys, .cons r h1, .cons i h2⟩
section
variable {X : Cx}
theorem cr_sortedF (hu64 : X.A.units + 200 < cLine) : CallR X (.builtin "sorted") (rSortedF X.K) := by
  intro pins s σ H vs us Q I r h
  obtain ⟨a, xs, fs, rfl, hs, hi, hb, q⟩ := h
  obtain ⟨its, rv, hl, hz⟩ := I.list hs
  obtain ⟨u, rfl, ru⟩ := vals1 r
  obtain rfl : u = Value.ref a := ru
  obtain ⟨e1, e2⟩ := each_of I rv hi
  have e3 : EachIs (fun v f => ∃ as, Reads (sortingHeap (copyHeap s.heap its) (s.heap.objs.size + 1) its) v (Fm.d f) as) its fs := e2.mono fun v f ⟨as, r⟩ => ⟨as, PyProof.Rows.Reads.keeps (fun _ _ => sorting_copy_old) r⟩
  refine sorted_vals (κ := fmKind (sortingHeap (copyHeap s.heap its) (s.heap.objs.size + 1) its) fs) hl.isList (sorts_fm (s := { s with heap := sortingHeap (copyHeap s.heap its) (s.heap.objs.size + 1) its }) e3 fun f hf => ⟨(hb f hf).1, ?_⟩) (by rw [← rv.length]; exact hz) ?_
  · have := (hb f hf).2
    show X.A.units + 1 + 1 + f.ht < cLine
    omega
  · have ek : EachIs (fun v f => (fmKind (sortingHeap (copyHeap s.heap its) (s.heap.objs.size + 1) its) fs).keyOf v = some (Fm.toks f)) its fs := (each_mem e3).mono fun v f ⟨⟨as, r⟩, hf⟩ => fmKind_some hf r
    have es := sortVals_each (κ := fmKind (sortingHeap (copyHeap s.heap its) (s.heap.objs.size + 1) its) fs) (rev := false) Fm.toks e1 ek
    obtain ⟨ys, y1, y2⟩ := each_back es
    obtain ⟨n, hn⟩ := sortedAll_at s.heap its (sortVals (fmKind (sortingHeap (copyHeap s.heap its) (s.heap.objs.size + 1) its) fs) false its its).toArray
    have hf : s.heap.objs.size ≤ s.heap.objs.size + 1 := Nat.le_succ _
    refine ⟨.ref (s.heap.objs.size + 1), upd H _ (.lst ys), I.laid (t' := s.toks) (fun _ _ => sortedAll_old) hf ⟨?_, _, n, y1, hn⟩, rfl, q _ ys (I.hok.fresh hf) y2⟩
    have hl2 := y1.length
    rw [sortVals_length false rfl] at hl2
    have := rv.length
    omega
end
end E
namespace E
open PySem PySem.Spec PyProof.Rows L2 PySem.SeqAt ELt PySem.W PySem.Calls
def rLtF (K : PySem.W.Frag) : R2 := fun x y H Q => ∃ f g : Fm, Im K H x f.d ∧ Im K H y g.d ∧ f.d.canLay0 = true ∧ g.d.canLay0 = true ∧ f.ht ≤ 100 ∧ Q (.bl (f.lt g)) H
theorem op_ltF {X : Cx} (hu : X.A.units + 200 < cLine) : OpR X (compareOp .Lt) (rLtF X.K) := by
  intro pins s σ H x y v u Q I rx ry h
  obtain ⟨f, g, hf, hg, lf, lg, hh, q⟩ := h
  obtain ⟨as, r1⟩ := Dp.reads I _ x v hf.dp rx
  obtain ⟨bs, r2⟩ := Dp.reads I _ y u hg.dp ry
  exact rc_fm f.ht f g X.A s v u as bs (Nat.le_refl _) r1 r2 lf lg (by omega) X.prog X.w _ _ ⟨.bl _, H, I, rfl, q⟩
end E
#print axioms E.op_ltF
#print axioms E.cr_sortedF

set_option Elab.async false
set_option linter.all false
set_option maxRecDepth 100000
set_option maxHeartbeats 4000000
namespace E
open PySem PySem.Spec PyProof.Rows L2
/-! ### ascending lists of formulas -/
def dd (l : List Fm) : List Fm := l.foldl (fun acc x => if acc.getLast? = some x then acc else acc ++ [x]) []
def dist (l : List Fm) : List Fm := dd (l.mergeSort Fm.le)
theorem dd_snoc (l : List Fm) (x : Fm) : dd (l ++ [x]) = if (dd l).getLast? = some x then dd l else dd l ++ [x] := by
  unfold dd
  rw [List.foldl_append]
  rfl
def Asc (l : List Fm) : Prop := l.Pairwise fun a b => a.lt b = true
theorem le_total (a b : Fm) : a.le b = true ∨ b.le a = true := by
  unfold Fm.le
  cases e : b.lt a with
  | false => exact .inl rfl
  | true => exact .inr (by rw [Fm.lt_asymm e]; rfl)
theorem lt_of_le_ne {a b : Fm} (h : a.le b = true) (n : a ≠ b) : a.lt b = true := by
  unfold Fm.le at h
  rw [Bool.not_eq_true'] at h
  cases e : a.lt b with
  | true => rfl
  | false => exact absurd (Fm.lt_total e h) n
theorem le_of_lt {a b : Fm} (h : a.lt b = true) : a.le b = true := by
  unfold Fm.le
  rw [Fm.lt_asymm h]
  rfl
theorem le_trans' {a b c : Fm} (h1 : a.le b = true) (h2 : b.le c = true) : a.le c = true := by
  by_cases e : a = b
  · rw [e]; exact h2
  · by_cases e2 : b = c
    · rw [← e2]; exact h1
    · exact le_of_lt (Fm.lt_trans (lt_of_le_ne h1 e) (lt_of_le_ne h2 e2))
theorem ms_sorted (l : List Fm) : (l.mergeSort Fm.le).Pairwise fun a b => a.le b = true :=
  List.pairwise_mergeSort (le := Fm.le) (fun a b c h1 h2 => le_trans' (a := a) (b := b) (c := c) h1 h2) (fun a b => Bool.or_eq_true_iff.mpr (le_total a b)) l
theorem getLast?_of_pairwise {l : List Fm} {x y : Fm} (h : l.getLast? = some y) (p : Asc l) (hx : x ∈ l) : x = y ∨ x.lt y = true := by
  obtain ⟨l', rfl⟩ := List.getLast?_eq_some_iff.mp h
  rcases List.mem_append.mp hx with q | q
  · exact .inr ((List.pairwise_append.mp p).2.2 x q y (List.mem_singleton.mpr rfl))
  · exact .inl (List.mem_singleton.mp q)
theorem snoc_ind {α : Type} {P : List α → Prop} (h0 : P []) (hs : ∀ l x, P l → P (l ++ [x])) (l : List α) : P l := by
  have : ∀ r : List α, P r.reverse := by
    intro r
    induction r with
    | nil => exact h0
    | cons x r ih =>
      rw [List.reverse_cons]
      exact hs _ _ ih
  have e := this l.reverse
  rw [List.reverse_reverse] at e
  exact e
/-- the walk over a sorted list: strictly ascending, the same members, a part of it -/
theorem dd_spec (l : List Fm) : (l.Pairwise fun a b => a.le b = true) → Asc (dd l) ∧ (∀ x, x ∈ dd l ↔ x ∈ l) ∧ (dd l).Sublist l ∧ (dd l).getLast? = l.getLast? := by
  induction l using snoc_ind with
  | h0 => exact fun _ => ⟨.nil, fun x => Iff.rfl, List.Sublist.refl _, rfl⟩
  | hs l x ih =>
    intro p
    obtain ⟨p1, _, p2⟩ := List.pairwise_append.mp p
    obtain ⟨a1, a2, a3, a4⟩ := ih p1
    rw [dd_snoc]
    by_cases e : (dd l).getLast? = some x
    · rw [if_pos e]
      refine ⟨a1, fun y => ?_, a3.trans (List.sublist_append_left _ _), by rw [e, List.getLast?_append]; rfl⟩
      rw [a2, List.mem_append, List.mem_singleton]
      constructor
      · exact .inl
      · rintro (q | rfl)
        · exact q
        · exact (a2 y).mp (List.mem_of_getLast? e)
    · rw [if_neg e]
      refine ⟨List.pairwise_append.mpr ⟨a1, List.pairwise_singleton _ _, fun y hy z hz => ?_⟩, fun y => ?_, List.Sublist.append a3 (List.Sublist.refl _), by rw [List.getLast?_append, List.getLast?_append]; rfl⟩
      · rw [List.mem_singleton] at hz
        subst hz
        refine lt_of_le_ne (p2 y ((a2 y).mp hy) z (List.mem_singleton.mpr rfl)) fun q => ?_
        subst q
        cases g : (dd l).getLast? with
        | none =>
          rw [List.getLast?_eq_none_iff] at g
          rw [g] at hy
          cases hy
        | some m =>
          have hm : m ∈ dd l := List.mem_of_getLast? g
          rcases getLast?_of_pairwise g a1 hy with q | q
          · rw [q] at e; exact e g
          · have := p2 m ((a2 m).mp hm) y (List.mem_singleton.mpr rfl)
            unfold Fm.le at this
            rw [q] at this
            cases this
      · rw [List.mem_append, List.mem_append, a2]
theorem dist_asc (l : List Fm) : Asc (dist l) := (dd_spec _ (ms_sorted l)).1
theorem dist_mem {l : List Fm} {x : Fm} : x ∈ dist l ↔ x ∈ l := ((dd_spec _ (ms_sorted l)).2.1 x).trans ((List.mergeSort_perm l Fm.le).mem_iff)
theorem asc_one : ∀ {l m : List Fm}, Asc l → Asc m → (∀ x, x ∈ l ↔ x ∈ m) → l = m
  | [], [], _, _, _ => rfl
  | [], y :: m, _, _, h => absurd ((h y).mpr List.mem_cons_self) (by simp)
  | x :: l, [], _, _, h => absurd ((h x).mp List.mem_cons_self) (by simp)
  | x :: l, y :: m, hl, hm, h => by
    have hl' := List.pairwise_cons.mp hl
    have hm' := List.pairwise_cons.mp hm
    have e : x = y := by
      rcases List.mem_cons.mp ((h x).mp List.mem_cons_self) with q | q
      · exact q
      · rcases List.mem_cons.mp ((h y).mpr List.mem_cons_self) with r | r
        · exact r.symm
        · have h1 := hm'.1 x q
          have h2 := hl'.1 y r
          rw [Fm.lt_asymm h1] at h2
          cases h2
    subst e
    have : l = m := asc_one hl'.2 hm'.2 fun z => by
      constructor
      · intro q
        rcases List.mem_cons.mp ((h z).mp (List.mem_cons_of_mem _ q)) with r | r
        · subst r
          have := hl'.1 z q
          rw [Fm.lt_irrefl] at this
          cases this
        · exact r
      · intro q
        rcases List.mem_cons.mp ((h z).mpr (List.mem_cons_of_mem _ q)) with r | r
        · subst r
          have := hm'.1 z q
          rw [Fm.lt_irrefl] at this
          cases this
        · exact r
    rw [this]
theorem dist_ext {l m : List Fm} (h : ∀ x, x ∈ l ↔ x ∈ m) : dist l = dist m := asc_one (dist_asc l) (dist_asc m) fun x => by rw [dist_mem, dist_mem, h]
theorem dist_self {l : List Fm} (h : Asc l) : dist l = l := asc_one (dist_asc l) h fun x => dist_mem
theorem dist_len (l : List Fm) : (dist l).length ≤ l.length := by
  have := (dd_spec _ (ms_sorted l)).2.2.1.length_le
  rw [List.length_mergeSort] at this
  exact this
theorem sub_sum (k : Fm → Nat) : ∀ {l m : List Fm}, l.Sublist m → (l.map k).sum ≤ (m.map k).sum
  | _, _, .slnil => Nat.le_refl _
  | _, _, .cons x h => by
    rw [List.map_cons, List.sum_cons]
    exact Nat.le_trans (sub_sum k h) (Nat.le_add_left _ _)
  | _, _, .cons₂ x h => by
    rw [List.map_cons, List.sum_cons, List.map_cons, List.sum_cons]
    exact Nat.add_le_add_left (sub_sum k h) _
theorem dist_sum (k : Fm → Nat) (l : List Fm) : ((dist l).map k).sum ≤ (l.map k).sum := by
  refine Nat.le_trans (sub_sum k (dd_spec _ (ms_sorted l)).2.2.1) ?_
  rw [((List.mergeSort_perm l Fm.le).map k).sum_nat]
  exact Nat.le_refl _
/-! ### parts, levels -/
def Fm.kids : Fm → List Fm
  | .and a b => [a, b]
  | .or a b => [a, b]
  | .imp a b => [a, b]
  | .box a => [a]
  | .fal => []
  | .var _ => []
def Fm.sz : Fm → Nat
  | .and a b => a.sz + b.sz + 1
  | .or a b => a.sz + b.sz + 1
  | .imp a b => a.sz + b.sz + 1
  | .box a => a.sz + 1
  | .fal => 1
  | .var _ => 1
theorem Fm.sz_pos (f : Fm) : 1 ≤ f.sz := by cases f <;> exact Nat.le_add_left _ _
theorem kids_sz (f : Fm) : (f.kids.map Fm.sz).sum + 1 = f.sz := by cases f <;> simp [Fm.kids, Fm.sz]
theorem kids_ht {f g : Fm} (h : g ∈ f.kids) : g.ht < f.ht := by
  cases f with
  | and a b =>
    have q : g = a ∨ g = b := by simpa [Fm.kids] using h
    show _ < max a.ht b.ht + 1
    rcases q with rfl | rfl <;> omega
  | or a b =>
    have q : g = a ∨ g = b := by simpa [Fm.kids] using h
    show _ < max a.ht b.ht + 1
    rcases q with rfl | rfl <;> omega
  | imp a b =>
    have q : g = a ∨ g = b := by simpa [Fm.kids] using h
    show _ < max a.ht b.ht + 1
    rcases q with rfl | rfl <;> omega
  | box a =>
    have q : g = a := by simpa [Fm.kids] using h
    subst q
    exact Nat.lt_succ_self _
  | fal => cases h
  | var n => cases h
/-- one more level down -/
def down (l : List Fm) : List Fm := dist (l.flatMap Fm.kids)
def levs : Nat → List Fm → List (List Fm)
  | 0, _ => []
  | n + 1, l => if l = [] then [] else l :: levs n (down l)
theorem down_sum (l : List Fm) : ((down l).map Fm.sz).sum + l.length ≤ (l.map Fm.sz).sum := by
  have h1 := dist_sum Fm.sz (l.flatMap Fm.kids)
  have h2 : ((l.flatMap Fm.kids).map Fm.sz).sum + l.length = (l.map Fm.sz).sum := by
    induction l with
    | nil => rfl
    | cons f l ih =>
      have ih' := ih (dist_sum Fm.sz (l.flatMap Fm.kids))
      rw [List.flatMap_cons, List.map_append, List.sum_append_nat, List.map_cons, List.sum_cons, List.length_cons, ← kids_sz f]
      omega
  unfold down
  omega
theorem sum_len (l : List Fm) : l.length ≤ (l.map Fm.sz).sum := by
  induction l with
  | nil => exact Nat.le_refl _
  | cons f l ih =>
    rw [List.map_cons, List.sum_cons, List.length_cons]
    have := f.sz_pos
    omega
theorem down_mem {l : List Fm} {x : Fm} : x ∈ down l ↔ ∃ f ∈ l, x ∈ f.kids := by
  unfold down
  rw [dist_mem, List.mem_flatMap]
/-- all that occurs in a formula -/
def Fm.subs : Fm → List Fm
  | .and a b => .and a b :: (a.subs ++ b.subs)
  | .or a b => .or a b :: (a.subs ++ b.subs)
  | .imp a b => .imp a b :: (a.subs ++ b.subs)
  | .box a => .box a :: a.subs
  | .fal => [.fal]
  | .var n => [.var n]
theorem subs_kids {f x : Fm} : x ∈ f.subs ↔ x = f ∨ ∃ g ∈ f.kids, x ∈ g.subs := by
  cases f <;> simp [Fm.subs, Fm.kids]
/-- what stands on the levels: all that occurs in the first one -/
theorem levs_mem : ∀ (n : Nat) (l : List Fm), (∀ f ∈ l, f.ht ≤ n) → ∀ x, x ∈ (levs n l).flatten ↔ ∃ f ∈ l, x ∈ f.subs
  | 0, l, h, x => by
    constructor
    · intro q
      cases q
    · rintro ⟨f, hf, _⟩
      exact absurd (h f hf) (by have := f.ht_pos; omega)
  | n + 1, l, h, x => by
    rw [levs]
    by_cases e : l = []
    · rw [if_pos e, e]
      simp
    · rw [if_neg e, List.flatten_cons, List.mem_append, levs_mem n (down l) (fun f hf => by
        obtain ⟨g, hg, hk⟩ := down_mem.mp hf
        have h1 := kids_ht hk
        have h2 := h g hg
        omega) x]
      constructor
      · rintro (q | ⟨f, hf, hx⟩)
        · exact ⟨x, q, subs_kids.mpr (.inl rfl)⟩
        · obtain ⟨g, hg, hk⟩ := down_mem.mp hf
          exact ⟨g, hg, subs_kids.mpr (.inr ⟨f, hk, hx⟩)⟩
      · rintro ⟨f, hf, hx⟩
        rcases subs_kids.mp hx with rfl | ⟨g, hg, hx⟩
        · exact .inl hf
        · exact .inr ⟨g, down_mem.mpr ⟨f, hf, hg⟩, hx⟩
theorem levs_len : ∀ (n : Nat) (l : List Fm), (levs n l).length ≤ n
  | 0, _ => Nat.le_refl _
  | n + 1, l => by
    rw [levs]
    split
    · exact Nat.zero_le _
    · rw [List.length_cons]
      have := levs_len n (down l)
      omega
theorem levs_sum : ∀ (n : Nat) (l : List Fm), ((levs n l).map List.length).sum ≤ (l.map Fm.sz).sum
  | 0, _ => Nat.zero_le _
  | n + 1, l => by
    rw [levs]
    split
    · exact Nat.zero_le _
    · rw [List.map_cons, List.sum_cons]
      have h1 := levs_sum n (down l)
      have h2 := down_sum l
      omega
end E

set_option Elab.async false
set_option linter.all false
set_option maxRecDepth 100000
set_option maxHeartbeats 4000000
namespace E
open PySem PySem.Spec PyProof.Rows L2
/-! ### comprehensions of two loops -/
section
variable {K : PySem.W.Frag}
/-- the outer loop, over a list -/
theorem out_list {a : Addr} {xs : List V} {g g1 : TG} {tt tt1 : TT} {wi1 : TI} {te : TE} {vs vs1 : List Nat} {σ : L2.St} {H1 : Hp} {D : Addr} {Qd : Hp → Prop} (Pv : Nat → Hp → Prop) (start : Pv 0 (upd H1 D (.lst []))) (at_ : ∀ i H, i ≤ xs.length → Pv i H → SqL K H a xs)
    (turn : ∀ i x H, xs[i]? = some x → Pv i H → g x (wipe σ vs) H fun σ2 H2 => wipe σ2 vs = wipe σ vs ∧ tt σ2 H2 fun b H3 => if b = true then wi1 σ2 H3 fun J1 H4 => ∃ W1 : Nat → Nat → Hp → Prop, (∃ m, W1 0 m H4) ∧ ∀ j k H, W1 j k H →
      (J1.stop j H ∧ Pv (i + 1) H) ∨ (J1.go j H ∧ ∃ N1 : Hp → Prop, (∀ H', N1 H' → ∃ k', k' < k ∧ W1 (j + 1) k' H') ∧ ∀ x H', J1.yld j H x H' → g1 x (wipe σ2 vs1) H' fun σ3 H5 => wipe σ3 vs1 = wipe σ2 vs1 ∧ tt1 σ3 H5 fun b H6 =>
        if b = true then te σ3 H6 fun y H7 => ∃ acc, H7 D = some (.lst acc) ∧ acc.length < sizeLine ∧ N1 (upd H7 D (.lst (acc ++ [y]))) else N1 H6) else Pv (i + 1) H3) (fin : ∀ H, Pv xs.length H → Qd H) :
    ∃ W : Nat → Nat → Hp → Prop, (∃ m, W 0 m (upd H1 D (.lst []))) ∧ ∀ i m H, W i m H →
      ((Itl K a).stop i H ∧ Qd H) ∨ ((Itl K a).go i H ∧ ∃ Nx : Hp → Prop, (∀ H', Nx H' → ∃ m', m' < m ∧ W (i + 1) m' H') ∧ ∀ x H', (Itl K a).yld i H x H' → g x (wipe σ vs) H' fun σ2 H2 => wipe σ2 vs = wipe σ vs ∧ tt σ2 H2 fun b H3 =>
        if b = true then wi1 σ2 H3 fun J1 H4 => ∃ W1 : Nat → Nat → Hp → Prop, (∃ m, W1 0 m H4) ∧ ∀ j k H, W1 j k H →
          (J1.stop j H ∧ Nx H) ∨ (J1.go j H ∧ ∃ Nx1 : Hp → Prop, (∀ H', Nx1 H' → ∃ k', k' < k ∧ W1 (j + 1) k' H') ∧ ∀ x H', J1.yld j H x H' → g1 x (wipe σ2 vs1) H' fun σ3 H5 => wipe σ3 vs1 = wipe σ2 vs1 ∧ tt1 σ3 H5 fun b H6 =>
            if b = true then te σ3 H6 fun y H7 => ∃ acc, H7 D = some (.lst acc) ∧ acc.length < sizeLine ∧ Nx1 (upd H7 D (.lst (acc ++ [y]))) else Nx1 H6)
        else Nx H3) := by
  refine ⟨fun i m H => m + i = xs.length ∧ Pv i H, ⟨xs.length, rfl, start⟩, fun i m H h => ?_⟩
  obtain ⟨hm, p⟩ := h
  have q := at_ i H (by omega) p
  by_cases hi : i < xs.length
  · refine Or.inr ⟨⟨xs, xs[i], q, List.getElem?_eq_getElem hi⟩, Pv (i + 1), fun H' p' => ⟨m - 1, by omega, by omega, p'⟩, fun x H' y => ?_⟩
    obtain ⟨rfl, y⟩ := y
    exact turn i x _ (y xs q) p
  · refine Or.inl ⟨⟨xs, q, by omega⟩, fin H ?_⟩
    rw [show xs.length = i by omega]
    exact p
/-- the inner loop, over a tuple -/
theorem in_tup {b : Addr} {ys : List V} {g1 : TG} {tt1 : TT} {te : TE} {vs1 : List Nat} {σ2 : L2.St} {H4 : Hp} {D : Addr} {Nx : Hp → Prop} (Pv : Nat → Hp → Prop) (start : Pv 0 H4) (at_ : ∀ j H, j ≤ ys.length → Pv j H → SqT K H b ys)
    (turn : ∀ j y H, ys[j]? = some y → Pv j H → g1 y (wipe σ2 vs1) H fun σ3 H5 => wipe σ3 vs1 = wipe σ2 vs1 ∧ tt1 σ3 H5 fun b H6 => if b = true then te σ3 H6 fun y H7 => ∃ acc, H7 D = some (.lst acc) ∧ acc.length < sizeLine ∧ Pv (j + 1) (upd H7 D (.lst (acc ++ [y]))) else Pv (j + 1) H6)
    (fin : ∀ H, Pv ys.length H → Nx H) :
    ∃ W1 : Nat → Nat → Hp → Prop, (∃ m, W1 0 m H4) ∧ ∀ j k H, W1 j k H →
      ((Itt K b).stop j H ∧ Nx H) ∨ ((Itt K b).go j H ∧ ∃ Nx1 : Hp → Prop, (∀ H', Nx1 H' → ∃ k', k' < k ∧ W1 (j + 1) k' H') ∧ ∀ x H', (Itt K b).yld j H x H' → g1 x (wipe σ2 vs1) H' fun σ3 H5 => wipe σ3 vs1 = wipe σ2 vs1 ∧ tt1 σ3 H5 fun b H6 =>
        if b = true then te σ3 H6 fun y H7 => ∃ acc, H7 D = some (.lst acc) ∧ acc.length < sizeLine ∧ Nx1 (upd H7 D (.lst (acc ++ [y]))) else Nx1 H6) := by
  refine ⟨fun i m H => m + i = ys.length ∧ Pv i H, ⟨ys.length, rfl, start⟩, fun i m H h => ?_⟩
  obtain ⟨hm, p⟩ := h
  have q := at_ i H (by omega) p
  by_cases hi : i < ys.length
  · refine Or.inr ⟨⟨ys, ys[i], q, List.getElem?_eq_getElem hi⟩, Pv (i + 1), fun H' p' => ⟨m - 1, by omega, by omega, p'⟩, fun x H' y => ?_⟩
    obtain ⟨rfl, y⟩ := y
    exact turn i x _ (y ys q) p
  · refine Or.inl ⟨⟨ys, q, by omega⟩, fin H ?_⟩
    rw [show ys.length = i by omega]
    exact p
/-- the inner loop, over a list -/
theorem in_list {b : Addr} {ys : List V} {g1 : TG} {tt1 : TT} {te : TE} {vs1 : List Nat} {σ2 : L2.St} {H4 : Hp} {D : Addr} {Nx : Hp → Prop} (Pv : Nat → Hp → Prop) (start : Pv 0 H4) (at_ : ∀ j H, j ≤ ys.length → Pv j H → SqL K H b ys)
    (turn : ∀ j y H, ys[j]? = some y → Pv j H → g1 y (wipe σ2 vs1) H fun σ3 H5 => wipe σ3 vs1 = wipe σ2 vs1 ∧ tt1 σ3 H5 fun b H6 => if b = true then te σ3 H6 fun y H7 => ∃ acc, H7 D = some (.lst acc) ∧ acc.length < sizeLine ∧ Pv (j + 1) (upd H7 D (.lst (acc ++ [y]))) else Pv (j + 1) H6)
    (fin : ∀ H, Pv ys.length H → Nx H) :
    ∃ W1 : Nat → Nat → Hp → Prop, (∃ m, W1 0 m H4) ∧ ∀ j k H, W1 j k H →
      ((Itl K b).stop j H ∧ Nx H) ∨ ((Itl K b).go j H ∧ ∃ Nx1 : Hp → Prop, (∀ H', Nx1 H' → ∃ k', k' < k ∧ W1 (j + 1) k' H') ∧ ∀ x H', (Itl K b).yld j H x H' → g1 x (wipe σ2 vs1) H' fun σ3 H5 => wipe σ3 vs1 = wipe σ2 vs1 ∧ tt1 σ3 H5 fun b H6 =>
        if b = true then te σ3 H6 fun y H7 => ∃ acc, H7 D = some (.lst acc) ∧ acc.length < sizeLine ∧ Nx1 (upd H7 D (.lst (acc ++ [y]))) else Nx1 H6) := by
  refine ⟨fun i m H => m + i = ys.length ∧ Pv i H, ⟨ys.length, rfl, start⟩, fun i m H h => ?_⟩
  obtain ⟨hm, p⟩ := h
  have q := at_ i H (by omega) p
  by_cases hi : i < ys.length
  · refine Or.inr ⟨⟨ys, ys[i], q, List.getElem?_eq_getElem hi⟩, Pv (i + 1), fun H' p' => ⟨m - 1, by omega, by omega, p'⟩, fun x H' y => ?_⟩
    obtain ⟨rfl, y⟩ := y
    exact turn i x _ (y ys q) p
  · refine Or.inl ⟨⟨ys, q, by omega⟩, fin H ?_⟩
    rw [show ys.length = i by omega]
    exact p
end
/-! ### a formula's tuple -/
theorem im_inv {K : PySem.W.Frag} {H : Hp} {x : V} {f : Fm} (h : Im K H x f.d) : ∃ (a : Addr) (ys : List V), x = .ref a ∧ SqT K H a (.str f.sg :: ys) ∧ ImAll K H ys f.pts := by
  rw [Fm.d_eq] at h
  generalize f.sg = sg at h ⊢
  cases h with
  | tup h1 h2 =>
    cases h2 with
    | cons h3 h4 =>
      cases h3
      exact ⟨_, _, rfl, h1, h4⟩
def Fm.isVar : Fm → Bool
  | .var _ => true
  | _ => false
def Fm.isBox : Fm → Bool
  | .box _ => true
  | _ => false
theorem vsg : ∀ i j : Fin 6, decide (V.str (sgT i) = V.str (sgT j)) = decide (i = j) := by decide +kernel
theorem sg_var (f : Fm) : decide (V.str f.sg = V.str "var") = f.isVar := by
  show decide (V.str (sgT f.rk) = V.str (sgT 5)) = _
  rw [vsg]
  cases f <;> rfl
theorem sg_box (f : Fm) : decide (V.str f.sg = V.str "box") = f.isBox := by
  show decide (V.str (sgT f.rk) = V.str (sgT 1)) = _
  rw [vsg]
  cases f <;> rfl
theorem kids_pts {f : Fm} (h : f.isVar = false) : f.pts = f.kids.map Fm.d := by
  cases f <;> first | rfl | cases h
theorem kids_var {f : Fm} (h : f.isVar = true) : f.kids = [] ∧ ∃ n, f = .var n := by
  cases f <;> first | exact ⟨rfl, _, rfl⟩ | cases h
theorem cut_1 (xs : List V) (x : V) : cutV (x :: xs) (some 1) none = xs := by
  unfold cutV
  rw [show HT.sIx (x :: xs).length 0 (some 1) = 1 from by
    show (if (1 : Int) < 0 then ((1 : Int) + ((x :: xs).length : Int)).toNat else min (1 : Int).toNat (x :: xs).length) = 1
    rw [if_neg (by decide), List.length_cons]
    omega, HT.sIx_none]
  show List.take _ xs = xs
  exact List.take_of_length_le (by rw [List.length_cons]; omega)
theorem sIx_1 (xs : List V) (x : V) : HT.sIx (x :: xs).length 0 (some 1) = 1 := by
  show (if (1 : Int) < 0 then ((1 : Int) + ((x :: xs).length : Int)).toNat else min (1 : Int).toNat (x :: xs).length) = 1
  rw [if_neg (by decide), List.length_cons]
  omega
theorem imAll_of {K : PySem.W.Frag} {H : Hp} {xs : List V} {fs : List Fm} {x : V} {i : Nat} (hI : ImAll K H xs (fs.map Fm.d)) (h : xs[i]? = some x) : ∃ f, fs[i]? = some f ∧ Im K H x f.d := by
  obtain ⟨d, e, j⟩ := hI.get h
  rw [List.getElem?_map] at e
  cases e2 : fs[i]? with
  | none => rw [e2] at e; cases e
  | some f =>
    rw [e2] at e
    have : f.d = d := Option.some.inj e
    subst this
    exact ⟨f, rfl, j⟩
theorem take_snoc {α : Type} {l : List α} {i : Nat} {x : α} (h : l[i]? = some x) : l.take (i + 1) = l.take i ++ [x] := by
  rw [List.take_add_one, h]
  rfl
theorem fms_len {K : PySem.W.Frag} {H : Hp} {xs : List V} {fs : List Fm} (h : ImAll K H xs (fs.map Fm.d)) : xs.length = fs.length := by
  have := h.length
  rw [List.length_map] at this
  exact this
theorem imAll_append {K : PySem.W.Frag} {H : Hp} : ∀ {xs ys : List V} {ds es : List PyData}, ImAll K H xs ds → ImAll K H ys es → ImAll K H (xs ++ ys) (ds ++ es)
  | _, _, _, _, .nil, h => h
  | _, _, _, _, .cons a t, h => .cons a (imAll_append t h)
/-- a list of lists of formulas -/
inductive LvAt (K : PySem.W.Frag) (H : Hp) : List V → List (List Fm) → Prop
  | nil : LvAt K H [] []
  | cons {b : Addr} {ys : List V} {fs : List Fm} {vs : List V} {ls : List (List Fm)} : SqL K H b ys → ImAll K H ys (fs.map Fm.d) → LvAt K H vs ls → LvAt K H (.ref b :: vs) (fs :: ls)
theorem LvAt.same {K : PySem.W.Frag} {H H' : Hp} (s : Same H H') : ∀ {vs : List V} {ls : List (List Fm)}, LvAt K H vs ls → LvAt K H' vs ls
  | _, _, .nil => .nil
  | _, _, .cons h1 h2 t => .cons (s.seq h1) (h2.mono (Same.ts s)) (LvAt.same s t)
theorem LvAt.snoc {K : PySem.W.Frag} {H : Hp} {b : Addr} {ys : List V} {fs : List Fm} (h1 : SqL K H b ys) (h2 : ImAll K H ys (fs.map Fm.d)) : ∀ {vs : List V} {ls : List (List Fm)}, LvAt K H vs ls → LvAt K H (vs ++ [.ref b]) (ls ++ [fs])
  | _, _, .nil => .cons h1 h2 .nil
  | _, _, .cons a1 a2 t => .cons a1 a2 (LvAt.snoc h1 h2 t)
theorem LvAt.len {K : PySem.W.Frag} {H : Hp} : ∀ {vs : List V} {ls : List (List Fm)}, LvAt K H vs ls → vs.length = ls.length
  | _, _, .nil => rfl
  | _, _, .cons _ _ t => by rw [List.length_cons, List.length_cons, LvAt.len t]
theorem LvAt.get {K : PySem.W.Frag} {H : Hp} : ∀ {vs : List V} {ls : List (List Fm)} {i : Nat} {v : V}, LvAt K H vs ls → vs[i]? = some v → ∃ b ys fs, v = .ref b ∧ ls[i]? = some fs ∧ SqL K H b ys ∧ ImAll K H ys (fs.map Fm.d)
  | _, _, _, _, .nil, e => by simp at e
  | _, _, 0, _, .cons h1 h2 _, e => by simp at e; subst e; exact ⟨_, _, _, rfl, rfl, h1, h2⟩
  | _, _, i + 1, v, .cons _ _ t, e => by
    obtain ⟨b, ys, fs, q1, q2, q3⟩ := LvAt.get (i := i) (v := v) t (by simpa using e)
    exact ⟨b, ys, fs, q1, by simpa using q2, q3⟩
/-- the list that holds the levels grows -/
theorem LvAt.mut {K : PySem.W.Frag} {H H' : Hp} {L : Addr} {ws : List V} (k : Kp L H H') (hL : H L = some (.lst ws)) : ∀ {vs : List V} {ls : List (List Fm)}, LvAt K H vs ls → (∀ v ∈ vs, v ≠ .ref L) → LvAt K H' vs ls
  | _, _, .nil, _ => .nil
  | _, _, .cons h1 h2 t, n => .cons (k.sqL h1 fun e => n _ List.mem_cons_self (by rw [e])) (h2.mono (k.ts hL)) (LvAt.mut k hL t fun v hv => n v (List.mem_cons_of_mem _ hv))
theorem levs_nil (n : Nat) : levs n [] = [] := by cases n <;> rfl
theorem kids_subs {f g h : Fm} (h1 : g ∈ f.subs) (h2 : h ∈ g.kids) : h ∈ f.subs := by
  induction f with
  | and a b iha ihb =>
    rcases subs_kids.mp h1 with rfl | ⟨k, hk, hg⟩
    · exact subs_kids.mpr (.inr ⟨h, h2, subs_kids.mpr (.inl rfl)⟩)
    · have q : k = a ∨ k = b := by simpa [Fm.kids] using hk
      rcases q with rfl | rfl
      · exact subs_kids.mpr (.inr ⟨k, hk, iha hg⟩)
      · exact subs_kids.mpr (.inr ⟨k, hk, ihb hg⟩)
  | or a b iha ihb =>
    rcases subs_kids.mp h1 with rfl | ⟨k, hk, hg⟩
    · exact subs_kids.mpr (.inr ⟨h, h2, subs_kids.mpr (.inl rfl)⟩)
    · have q : k = a ∨ k = b := by simpa [Fm.kids] using hk
      rcases q with rfl | rfl
      · exact subs_kids.mpr (.inr ⟨k, hk, iha hg⟩)
      · exact subs_kids.mpr (.inr ⟨k, hk, ihb hg⟩)
  | imp a b iha ihb =>
    rcases subs_kids.mp h1 with rfl | ⟨k, hk, hg⟩
    · exact subs_kids.mpr (.inr ⟨h, h2, subs_kids.mpr (.inl rfl)⟩)
    · have q : k = a ∨ k = b := by simpa [Fm.kids] using hk
      rcases q with rfl | rfl
      · exact subs_kids.mpr (.inr ⟨k, hk, iha hg⟩)
      · exact subs_kids.mpr (.inr ⟨k, hk, ihb hg⟩)
  | box a iha =>
    rcases subs_kids.mp h1 with rfl | ⟨k, hk, hg⟩
    · exact subs_kids.mpr (.inr ⟨h, h2, subs_kids.mpr (.inl rfl)⟩)
    · have q : k = a := by simpa [Fm.kids] using hk
      subst q
      exact subs_kids.mpr (.inr ⟨k, hk, iha hg⟩)
  | fal =>
    have e : g = .fal := by simpa [Fm.subs] using h1
    subst e
    cases h2
  | var n =>
    have e : g = .var n := by simpa [Fm.subs] using h1
    subst e
    cases h2
theorem flat_len (l : List Fm) : (l.flatMap Fm.kids).length ≤ (l.map Fm.sz).sum := by
  induction l with
  | nil => exact Nat.le_refl _
  | cons f l ih =>
    rw [List.flatMap_cons, List.length_append, List.map_cons, List.sum_cons, ← kids_sz f]
    have := sum_len f.kids
    omega
end E

set_option Elab.async false
set_option linter.all false
set_option maxRecDepth 100000
set_option maxHeartbeats 4000000
namespace E
open PySem PySem.Spec PyProof.Rows L2 PySem.SeqAt ELt PySem.W PySem.Calls
/-! ### pairs of ints: >= and sorted -/
def zd (z : Int × Int) : PyData := .tuple [.int z.1, .int z.2]
def zlt (z u : Int × Int) : Bool := if z.1 = u.1 then decide (z.2 < u.2) else decide (z.1 < u.1)
def rGeZ (K : PySem.W.Frag) : R2 := fun x y H Q => ∃ z u : Int × Int, Im K H x (zd z) ∧ Im K H y (zd u) ∧ Q (.bl (!zlt z u)) H
theorem op_geZ {X : Cx} (hu : X.A.units + 64 < cLine) : OpR X (compareOp .GtE) (rGeZ X.K) := by
  intro pins s σ H x y v u Q I rx ry h
  obtain ⟨z, t, hz, ht, q⟩ := h
  obtain ⟨as, r1⟩ := Dp.reads I _ x v hz.dp rx
  obtain ⟨bs, r2⟩ := Dp.reads I _ y u ht.dp ry
  refine PySem.W.ge_datum (α := Int × Int) (x := z) (y := t) ⟨as, r1⟩ ⟨bs, r2⟩ (Nat.lt_of_le_of_lt (Nat.add_le_add_left (show PySem.W.Datum.depth (Int × Int) ≤ 64 by decide) _) hu) ⟨.bl _, H, I, rfl, ?_⟩
  exact q
theorem each_ofZ {X : Cx} {pins : List (Addr × Obj)} {σ : L2.St} {H : Hp} {s : Shared} (I : Inv X pins σ H s) : ∀ {xs : List V} {us : List Value} {fs : List (Int × Int)}, Vals xs us → ImAll X.K H xs (fs.map zd) →
    EachIs (fun v f => ∃ x : V, RelV x v ∧ Im X.K H x (zd f)) us fs ∧ EachIs (fun v f => ∃ as, Reads s.heap v (zd f) as) us fs
  | _, _, [], .nil, _ => ⟨.nil, .nil⟩
  | _, _, f :: fs, .cons r t, i => by
    have i' : ImAll X.K H _ (zd f :: fs.map zd) := i
    cases i' with
    | cons i1 i2 =>
      obtain ⟨a1, a2⟩ := each_ofZ I t i2
      exact ⟨.cons ⟨_, r, i1⟩ a1, .cons (Dp.reads I _ _ _ i1.dp r) a2⟩
theorem each_backZ {K : PySem.W.Frag} {H : Hp} : ∀ {us : List Value} {fs : List (Int × Int)}, EachIs (fun v f => ∃ x : V, RelV x v ∧ Im K H x (zd f)) us fs → ∃ ys : List V, Vals ys us ∧ ImAll K H ys (fs.map zd)
  | _, _, .nil => ⟨[], .nil, .nil⟩
  | _, _, .cons ⟨x, r, i⟩ t => by
    obtain ⟨ys, h1, h2⟩ := each_backZ t
    exact ⟨x :: ys, .cons r h1, .cons i h2⟩
def rSortedZ (K : PySem.W.Frag) : List V → Hp → VK → Prop := fun vs H Q => ∃ (a : Addr) (xs : List V) (zs : List (Int × Int)), vs = [V.ref a] ∧ SqL K H a xs ∧ ImAll K H xs (zs.map zd) ∧
  ∀ (p : Addr) (ys : List V) (us : List (Int × Int)), H p = none → us.Perm zs → ImAll K H ys (us.map zd) → Q (.ref p) (upd H p (.lst ys))
theorem cr_sortedZ {X : Cx} (hu64 : X.A.units + 64 < cLine) : CallR X (.builtin "sorted") (rSortedZ X.K) := by
  intro pins s σ H vs us Q I r h
  obtain ⟨a, xs, fs, rfl, hs, hi, q⟩ := h
  obtain ⟨its, rv, hl, hz⟩ := I.list hs
  obtain ⟨u, rfl, ru⟩ := vals1 r
  obtain rfl : u = Value.ref a := ru
  obtain ⟨e1, e2⟩ := each_ofZ I rv hi
  have e9 : fs.map zd = fs.map (PySem.W.Datum.toD (α := Int × Int)) := rfl
  refine PySem.W.sorted_data (enc := zd) hl.isList e1 e2 ?_ ?_ (by rw [← e1.length, ← rv.length]; exact hz) (fun b hb => ?_) fun out ho eo => ?_
  · intro d hd d' hd'
    obtain ⟨b, _, rfl⟩ := List.mem_map.mp hd
    obtain ⟨b', _, rfl⟩ := List.mem_map.mp hd'
    exact PySem.W.DatumOrd.alike (α := Int × Int) b b'
  · exact .inl fun d hd => by
      obtain ⟨b, _, rfl⟩ := List.mem_map.mp hd
      exact ⟨_, _, rfl⟩
  · show X.A.units + 2 + (zd b).depth < cLine
    have : (zd b).depth = 1 := rfl
    omega
  · obtain ⟨ys, y1, y2⟩ := each_backZ eo
    obtain ⟨n, hn⟩ := sortedAll_at s.heap its out.toArray
    have hf : s.heap.objs.size ≤ s.heap.objs.size + 1 := Nat.le_succ _
    refine ⟨.ref (s.heap.objs.size + 1), upd H _ (.lst ys), I.laid (t' := s.toks) (fun _ _ => sortedAll_old) hf ⟨?_, _, n, y1, hn⟩, rfl, q _ ys _ (I.hok.fresh hf) (List.mergeSort_perm _ _) y2⟩
    have hl2 := y1.length
    have := rv.length
    have := e1.length
    omega
end E

set_option Elab.async false
set_option linter.all false
set_option maxRecDepth 100000
set_option maxHeartbeats 4000000
namespace E
open PySem PySem.Spec PyProof.Rows L2
/-! ### own classes made within a try; sets of a list's ints; dicts that do not differ -/
section
variable {X : Cx} {CX : CXT} {k : Nat} {f C : Addr} {fd : FuncData} {ps : List Str} {sp : Sp} {Wi : L2.St → XK} {x : Str} {p pos : Pos} {e : Expr} {es : List Expr} {t : TA}
/-- C(..) whose maker may raise: the wish is told at the slots as they stand -/
def tMakeAt (C : Addr) (sp : Sp) (Wi : L2.St → XK) (t : TA) : TE := fun σ H Q => t σ H fun vs H1 => ∀ x dx, H1 x = none → H1 dx = none → dx ≠ x →
  sp (.ref x :: vs) (upd (upd H1 dx (.own x)) x (.ins C dx [])) (fun v H2 => v = .non ∧ Q (.ref x) H2) (Wi σ)
theorem pe_makeAt (M : Mk X.K C f) (F : FnOk X.prog X.w X.K X.mg X.base CX k f fd ps sp) (hr : Room (k + 1) X.A) (hg : Gl X x) (hm : X.mg x = some (.ref C)) (hb : Binds X.K fd ps []) (hx : ∀ σ, PassesAt CX X σ (Wi σ)) (ha : PA X (e :: es) t)
    (hdb : (x == ("__debug__" : Str)) = false := by decide) (he : starEach (e :: es) X.env = (false, eval e X.env) :: starEach es X.env := by rfl) (hpl : (backTo pos (starEach es X.env)).any (·.1) = false := by rfl) :
    PE X (.Call (.Name x p) (e :: es) [] pos) (tMakeAt C sp Wi t) := by
  refine ⟨fun pins s σ H Q I h => wpAny_Call_Name_kw (ld_glob I hg hm (PySem.W.callWith_K (h₀ := X.base) I.ok.mod.kin M.kp (thn (ha.run pos pins s σ H _ I h) fun us s1 ⟨vs, H1, I1, r, q⟩ => ⟨I1.kIn, ?_⟩) he hpl) hdb)⟩
  have n1 := I1.hok.fresh (Nat.le_succ s1.heap.objs.size)
  have n0 := I1.hok.fresh (Nat.le_refl s1.heap.objs.size)
  have hq := q (s1.heap.objs.size + 1) s1.heap.objs.size n1 n0 (Nat.ne_of_lt (Nat.lt_succ_self _))
  have J := Inv.made (C := C) I1
  have rv : Vals (V.ref (s1.heap.objs.size + 1) :: vs) (Value.ref (s1.heap.objs.size + 1) :: us) := .cons rfl r
  have len : (Value.ref (s1.heap.objs.size + 1) :: us).length = ps.length := rv.length.symm.trans (F.len _ _ _ _ hq)
  have bd := hb _ (Value.ref (s1.heap.objs.size + 1) :: us) J.kIn (by rw [List.append_nil]; exact len)
  rw [List.append_nil] at bd
  show wpAny _ _ (call (.ref C) us) _ _ _
  refine wpAny_call (make_map (f := f) I1.kIn M.makes M.init (beq_iff_eq.mp M.fn) (codeAny_mono (F.run _ X.stack _ _ ⟨_, []⟩ _ _ _ (Wi σ) (hr.make C us []) (J.env0.make C us []) bd rv hq) fun res s' done => ?_))
  rcases res with er | fl
  · exact hx σ pins _ _ er s' J done
  · rcases fl with _ | _ | _ | u
    case ret =>
      obtain ⟨v, H', J', r', ev, q'⟩ := J.after done
      subst ev
      exact ⟨r', ⟨V.ref (s1.heap.objs.size + 1), H', J', rfl, q'⟩⟩
    all_goals exact done.elim
/-- the reading of a suite that is entered for errors of one class alone -/
def tOnly (cls : Value) (d : Option Addr) (D : Addr) (t : L2.TS) : L2.TS := fun En σ H => (cls = .ref D ∧ d = none) ∧ t En σ H
theorem pss_only {cls : Value} {d : Option Addr} {D : Addr} {b : List Stmt} {t : L2.TS} (h : cls = .ref D → d = none → PSs X b t) : PSs X b (tOnly cls d D t) :=
  ⟨fun pins s σ H En I q => (h q.1.1 q.1.2).run pins s σ H En I q.2⟩
theorem pss_only2 {cls : Value} {d : Option Addr} {D : Addr} {b : List Stmt} {t : L2.TS} {oe : Obj} (hz : Zc cls d oe) (h : Zc (.ref D) none oe → PSs X b t) : PSs X b (tOnly cls d D t) :=
  ⟨fun pins s σ H En I q => (h (by rw [← q.1.1, ← q.1.2]; exact hz)).run pins s σ H En I q.2⟩
/-- d != e of two dicts with the same keys, whose values are equal lists of ints -/
def rNeV (K : PySem.W.Frag) : R2 := fun x y H Q => ∃ a b ks ls, x = .ref a ∧ y = .ref b ∧ H a = some (.dK ks) ∧ H b = some (.dK ls) ∧ ks.length = ls.length ∧
  (∀ p ∈ ks, ∃ (u : V) (ns : List Int), valV ls p.1 = some u ∧ Dp K H p.2 (.list (ns.map PyData.int)) ∧ Dp K H u (.list (ns.map PyData.int))) ∧ Q (.bl false) H
theorem eqv_intsL (ns : List Int) : PyData.eqv (.list (ns.map PyData.int)) (.list (ns.map PyData.int)) = true := by
  have e : PySem.Spec.same (.list (ns.map PyData.int)) (.list (ns.map PyData.int)) = true := by
    simp only [PySem.Spec.same]
    rw [PySem.W.same_ints]
    exact decide_eq_true rfl
  rw [← e]
  exact (SeqAt.same_eq_eqv _ _ (by simp only [SeqAt.noMix]; exact PySem.W.noMix_ints ns ns)).symm
theorem hits_ints {H : Hp} {s : Shared} {A : Around} {pins : List (Addr × Obj)} {σ : L2.St} (I : Inv X pins σ H s) (hu : A.in1.units + 64 < cLine) {ls : List (Key × V)} {vb : List (Key × Value)} (rb : KV ls vb) {ks : List (Key × V)} {va : List (Key × Value)} (ra : KV ks va) :
    (∀ p ∈ ks, ∃ (u : V) (ns : List Int), valV ls p.1 = some u ∧ Dp X.K H p.2 (.list (ns.map PyData.int)) ∧ Dp X.K H u (.list (ns.map PyData.int))) → PySem.W.KeqHits A.in1 s vb va true := by
  unfold KV at ra
  induction ra with
  | nil => exact fun _ => .nil
  | @cons g q gs qs hgq _ more =>
    intro all
    obtain ⟨key, val⟩ := q
    obtain ⟨e1, e2⟩ := hgq
    obtain ⟨u, ns, hv, d1, d2⟩ := all g List.mem_cons_self
    obtain ⟨y, hy, ry⟩ := (show RelO (some u) (valueAt vb g.1) by rw [← hv]; exact rb.val g.1).some_of
    have e1 : g.1 = key := e1
    rw [e1] at hy
    obtain ⟨as, r1⟩ := Dp.reads I _ _ val d1 e2
    obtain ⟨bs, r2⟩ := Dp.reads I _ _ y d2 ry
    have one := PySem.W.keq_at (A := A) r1 r2 (shaped_ints ns) (shaped_ints ns) hu
    rw [eqv_intsL] at one
    exact PySem.W.KeqHits.hit hy one (more fun p' m => all p' (List.mem_cons_of_mem _ m))
theorem op_neV (hu : X.A.units + 66 < cLine) : OpR X (compareOp .NotEq) (rNeV X.K) := by
  intro pins s σ H x y v u Q I rx ry ⟨a, b, ks, ls, ex, ey, ha, hb, hl, hp, q⟩
  subst ex ey
  cases rx; cases ry
  obtain ⟨_, ya, va, ra, da⟩ := (show ObjOk X.prog X.w H s.heap a (.dK ks) from I.hok a _ ha)
  obtain ⟨_, yb, vb, rb, db⟩ := (show ObjOk X.prog X.w H s.heap b (.dK ls) from I.hok b _ hb)
  have e : va.length = vb.length := ra.length.symm.trans (hl.trans rb.length)
  refine PySem.W.keq_ne (knd := mixKind X.prog X.w) (r := true) ya yb da db (by omega) (fun _ => hits_ints (A := X.A) I (by show X.A.units + 1 + 64 < cLine; omega) rb ra hp) ⟨.bl false, H, I, ?_, q⟩
  simp [e, L2.RelV]
end
/-- an error of the class at S is what «except S» names -/
theorem exm_self {K : PySem.W.Frag} {S : Addr} (h1 : PySem.W.subIn K (.ref S) (.type "BaseException") = some true) (h2 : PySem.W.isClsIn K S = true) (h3 : PySem.W.typeIn K (.ref S) = some (.type "type")) (h4 : PySem.W.subIn K (.ref S) (.ref S) = some true) :
    PySem.W.exmOne K (.ref S) (.ref S) = some true := by
  have h2' : (PySem.W.clsIn K S).isSome = true := h2
  unfold PySem.W.exmOne PySem.W.kitCls
  simp [h1, h2', h3, h4]
end E

set_option Elab.async false
set_option linter.all false
set_option maxRecDepth 100000
set_option maxHeartbeats 4000000
namespace E
open PySem PySem.Spec PyProof.Rows L2
/-- an empty set as the model lays it -/
abbrev so0 (w : World) : Obj := { cls := .type "set", dict := none, data := .set #[] 0 (.fresh 0 0 (!w.params.followText "set-order")) }
/-- what set(xs) leaves: the members, in a heap that keeps all -/
def SetDone (w : World) (ns : List Int) (s : Shared) (h' : Heap) (c : Nat) : Prop := SetR w h' s.heap.objs.size (fun j => decide (j ∈ ns)) c ∧ c ≤ ns.length ∧ ∀ b o, s.heap.get? b = some o → h'.get? b = some o
section
variable {P : Program} {w : World} {A : Around} {Er : Value → Shared → Prop} {s : Shared}
theorem vals_at {items : Array Value} {ns : List Int} (hit : IntsAre items.toList ns) (hn : items.size = ns.length) (i : Nat) (v : Value) (hv : items[i]? = some v) : ∃ k t, ns[i]? = some k ∧ v = .int k t := by
  have hi : i < ns.length := hn ▸ (Array.getElem?_eq_some_iff.mp hv).1
  obtain ⟨t, e⟩ := IntsAre.int_at hit i v (by rw [Array.getElem?_toList, hv])
  exact ⟨ns[i], t, List.getElem?_eq_getElem hi, by rw [e, List.getD_eq_getElem?_getD, List.getElem?_eq_getElem hi, Option.getD_some]⟩
/-- the filling of the new set from the list at l -/
theorem fill_list {l : Addr} {items : Array Value} (ns : List Int) (hh : A.handled = none) (hl : s.heap.IsList l items) (hit : IntsAre items.toList ns) (hb : ns.length + 1 < scanBound) {R : Result → Shared → Prop}
    (hR : ∀ (h' : Heap) (tk c : Nat), SetDone w ns s h' c → R (.ok (.ret .none)) { s with heap := h', toks := tk }) :
    codeAny (model P w) A.in1.in1 (.builtin "set.update.loop" ⟨[.ref s.heap.objs.size, .ref (s.heap.push (so0 w)).objs.size], []⟩) R
      { s with heap := (s.heap.push (so0 w)).push { cls := .type "list_iterator", data := .fields #[.ref l, .int 0 0] } } := by
  have hn : items.size = ns.length := by
    rw [← Array.length_toList]
    exact IntsAre.length hit
  have low : l < s.heap.objs.size := let ⟨_, e, _⟩ := hl; Heap.lt_size e
  have sz : (s.heap.push (so0 w)).objs.size = s.heap.objs.size + 1 := Heap.size_push ..
  have nl : l ≠ (s.heap.push (so0 w)).objs.size := sz ▸ Nat.ne_of_lt (Nat.lt_succ_of_lt low)
  have out : s.heap.objs.size ∉ [(s.heap.push (so0 w)).objs.size, l] := by
    rw [sz]
    simp only [List.mem_cons, List.not_mem_nil, or_false, not_or]
    exact ⟨Nat.ne_of_lt (Nat.lt_succ_self _), (Nat.ne_of_lt low).symm⟩
  have at0 : ((s.heap.push (so0 w)).push { cls := .type "list_iterator", data := .fields #[.ref l, .int 0 0] }).get? s.heap.objs.size = some (so0 w) := Heap.get?_push_of_some _ (Heap.get?_push_size _ rfl)
  have W := Walks.list (prog := P) (w := w) (A := A.in1.in1.in1) (by simp [hh]) (s.heap.push (so0 w)).objs.size l nl items
  refine set_update_ints W.toS s.heap.objs.size out ns hn hb (vals_at hit hn) items.size 0 _ (Nat.sub_zero _) (Nat.zero_le _) ⟨⟨_, Heap.get?_push_size _ rfl, rfl, rfl⟩, (hl.push _).push _⟩ ⟨0, Nat.le_refl 0, setR_new_at at0⟩ fun s' c mv hc hS => ?_
  rcases s' with ⟨h', gg, dd, tt, oo⟩
  obtain rfl : gg = s.gens := mv.gens
  obtain rfl : dd = s.drawn := mv.drawn
  obtain rfl : oo = s.os := mv.os
  refine hR h' tt c ⟨hS, hn ▸ hc, fun b o e => mv.heap b o ?_ (Heap.get?_push_of_some _ (Heap.get?_push_of_some _ e))⟩
  have lt := Heap.lt_size e
  rw [sz]
  simp only [List.mem_cons, List.not_mem_nil, or_false, not_or]
  exact ⟨Nat.ne_of_lt lt, Nat.ne_of_lt (Nat.lt_succ_of_lt lt)⟩
/-- set(xs) of a list of ints -/
theorem call_set_ints {l : Addr} {items : Array Value} (ns : List Int) {Q : Value → Shared → Prop} (hh : A.handled = none) (hl : s.heap.IsList l items) (hit : IntsAre items.toList ns) (hb : ns.length + 1 < scanBound)
    (done : ∀ (h' : Heap) (tk c : Nat), SetDone w ns s h' c → Q (.ref s.heap.objs.size) { s with heap := h', toks := tk }) : wpAny (model P w) A (call (.type "set") [.ref l]) Q Er s := by
  obtain ⟨c0, t0, mro⟩ := F.called_set.mro
  have m1 := F.called_set.made
  have m2 := F.called_set.sub
  have m3 := F.called_set.notType
  have m4 := F.called_set.canCreate
  have m5 := F.typeCall_set_1 (.ref l)
  refine wpAny_call (codeAny_of_tree (show wpAny _ _ (callAny (.type "set") _) _ _ _ from wpAny_pure ⟨Code.quiet_builtin _ (by decide +kernel), codeAny_builtin F.entry_type_call ?_⟩))
  rw [Around.under_plain (weight_type_call_type "set" [.ref l] []) rfl]
  repeat (any_goals (first | assumption | wp_step))
  refine codeAny_mono (code_set_led1 (.ref l) (E := Er) (Q₁ := fun u s1 => u = .ref s.heap.objs.size ∧ s1 = { s with heap := s.heap.push (so0 w) }) ⟨rfl, rfl⟩) fun r s1 q => ?_
  rcases r with er | fl
  · exact q
  rcases fl with _ | _ | _ | u
  case ret =>
    obtain ⟨rfl, rfl⟩ := q
    have at0 : (s.heap.push (so0 w)).get? s.heap.objs.size = some (so0 w) := Heap.get?_push_size _ rfl
    have isSet : Shared.TypeIs { s with heap := s.heap.push (so0 w) } (.ref s.heap.objs.size) "set" := ⟨_, at0, rfl⟩
    have i1 := F.called_set.init.lookup
    have i2 := F.called_set.init.bind (.ref s.heap.objs.size)
    repeat (any_goals (first | assumption | wp_step))
    refine codeAny_mono (codeAny_call_builtin (R := wants (fun r s2 => r = .none ∧ ∃ h' tk c, s2 = { s with heap := h', toks := tk } ∧ SetDone w ns s h' c) Er) F.called_set.init.plain F.entry_set_init (check_set_init_1 isSet ?_)) fun r2 s2 q2 => ?_
    · have hl1 : (s.heap.push (so0 w)).IsList l items := hl.push _
      obtain ⟨ol, e0, hcl, nl, hdl⟩ := hl1
      obtain ⟨ocls, odict, odata, oslots⟩ := ol
      obtain rfl : ocls = _ := hcl
      obtain rfl : odata = _ := hdl
      have z1 := F.sub_list_set
      have z2 := F.sub_list_frozenset
      have z3 : (Value.type "list" == Value.type "dict") = false := by decide
      unfold Builtin.«set.__init__» noKeywords Builtin.Frozenset.updateFrom
      generalize hPI : pyIter = PI
      wp_walk
      subst hPI
      refine wpAny_pyIter_list (hl.push _) (wpAny_bind (wpAny_runValue (fill_list ns hh hl hit hb fun h' tk c d => ?_)))
      refine wpAny_pure (show wpAny _ _ (ret Value.none) _ _ _ from wpAny_pure ⟨rfl, h', tk, c, rfl, d⟩)
    · rcases r2 with er | fl2
      · exact q2
      rcases fl2 with _ | _ | _ | u2
      case ret =>
        obtain ⟨rfl, h', tk, c, rfl, d⟩ := q2
        repeat (any_goals (first | assumption | wp_step))
        exact done _ _ _ d
      all_goals exact q2.elim
  all_goals exact q.elim
end
section
variable {X : Cx}
def rSetLI (w : World) (K : PySem.W.Frag) : List V → Hp → VK → Prop := fun xs H Q => ∃ (l : Addr) (ns : List Int), xs = [V.ref l] ∧ SqL K H l (ns.map V.int) ∧ ns.length ≤ 1000 ∧
  ∀ (a : Addr) (c : Nat), H a = none → c ≤ ns.length → Q (.ref a) (upd H a (SetO w a (fun j => decide (j ∈ ns)) c))
theorem cr_setLI (hc : X.calm = true) : CallR X (.type "set") (rSetLI X.w X.K) := by
  intro pins s σ H xs us Q I r ⟨l, ns, ex, hl, hn, q⟩
  subst ex
  rw [Vals.ref1 r]
  obtain ⟨its, rv, pl, _⟩ := I.list hl
  refine call_set_ints ns (I.ok.hd hc) pl.isList (by simpa using rv.ints) (by unfold scanBound; omega) fun h' tk c d => ?_
  exact ⟨.ref _, _, I.laid (t' := tk) d.2.2 (Nat.le_refl _) (setO_new d.1), rfl, q _ c (I.hok.fresh (Nat.le_refl _)) d.2.1⟩
theorem cr_setLI2 (hc : X.calm = true) (_ : X.A.units + 64 < cLine) : CallR X (.type "set") (rSetLI X.w X.K) := cr_setLI hc
end
end E

set_option Elab.async false
set_option linter.all false
set_option maxRecDepth 100000
set_option maxHeartbeats 4000000
namespace E
open PySem PySem.Spec PyProof.Rows L2
abbrev topS (i : Nat) : Stmt := PySem.Challenge.pw_elsewhere_k12_models.main.body.getD i (.Pass ⟨0, 0, 0, 0⟩)
abbrev s_is_frame : Stmt := topS 5
theorem sc_is_frame : FnScope ["frame", "worlds", "pairs", "pair", "k"] ["frame"] (defScope s_is_frame) := ⟨rfl, rfl, rfl, by decide +kernel, rfl, by decide +kernel, by decide +kernel⟩
abbrev s_is_pair : Stmt := topS 6
theorem sc_is_pair : FnScope ["pair", "worlds", "v", "w"] ["pair", "worlds"] (defScope s_is_pair) := ⟨rfl, rfl, rfl, by decide +kernel, rfl, by decide +kernel, by decide +kernel⟩
abbrev s_is_integer : Stmt := topS 7
theorem sc_is_integer : FnScope ["value"] ["value"] (defScope s_is_integer) := ⟨rfl, rfl, rfl, by decide +kernel, rfl, by decide +kernel, by decide +kernel⟩
abbrev s_rows_of : Stmt := topS 8
theorem sc_rows_of : FnScope ["frame", "rows", "v", "w"] ["frame"] (defScope s_rows_of) := ⟨rfl, rfl, rfl, by decide +kernel, rfl, by decide +kernel, by decide +kernel⟩
abbrev s_Model_init : Stmt := inClass (topS 10) 0
theorem sc_Model_init : FnScope ["self", "frame", "values", "name", "v"] ["self", "frame", "values"] (defScope s_Model_init) := ⟨rfl, rfl, rfl, by decide +kernel, rfl, by decide +kernel, by decide +kernel⟩
abbrev s_Model_frame : Stmt := inClass (topS 10) 1
theorem sc_Model_frame : FnScope ["self"] ["self"] (defScope s_Model_frame) := ⟨rfl, rfl, rfl, by decide +kernel, rfl, by decide +kernel, by decide +kernel⟩
abbrev s_Model_true_worlds : Stmt := inClass (topS 10) 2
theorem sc_Model_true_worlds : FnScope ["self", "name", "worlds"] ["self"] (defScope s_Model_true_worlds) := ⟨rfl, rfl, rfl, by decide +kernel, rfl, by decide +kernel, by decide +kernel⟩
abbrev s_Model_seen : Stmt := inClass (topS 10) 3
theorem sc_Model_seen : FnScope ["self", "v"] ["self", "v"] (defScope s_Model_seen) := ⟨rfl, rfl, rfl, by decide +kernel, rfl, by decide +kernel, by decide +kernel⟩
abbrev s_law_pool : Stmt := topS 12
theorem sc_law_pool : FnScope ["script", "salt", "cell"] ["script"] (defScope s_law_pool) := ⟨rfl, rfl, rfl, by decide +kernel, rfl, by decide +kernel, by decide +kernel⟩
abbrev s_law_spread : Stmt := topS 13
theorem sc_law_spread : FnScope ["cell", "mixed", "total", "k"] ["cell"] (defScope s_law_spread) := ⟨rfl, rfl, rfl, by decide +kernel, rfl, by decide +kernel, by decide +kernel⟩
abbrev s_law_draw : Stmt := topS 14
theorem sc_law_draw : FnScope ["pool", "many", "cell", "mixed", "value"] ["pool", "many"] (defScope s_law_draw) := ⟨rfl, rfl, rfl, by decide +kernel, rfl, by decide +kernel, by decide +kernel⟩
abbrev s_law_same : Stmt := topS 15
theorem sc_law_same : FnScope ["actual", "due", "k"] ["actual", "due"] (defScope s_law_same) := ⟨rfl, rfl, rfl, by decide +kernel, rfl, by decide +kernel, by decide +kernel⟩
abbrev s_law_distinct : Stmt := topS 16
theorem sc_law_distinct : FnScope ["rows", "found", "row"] ["rows"] (defScope s_law_distinct) := ⟨rfl, rfl, rfl, by decide +kernel, rfl, by decide +kernel, by decide +kernel⟩
abbrev s_law_wide_model : Stmt := topS 17
theorem sc_law_wide_model : FnScope ["pool", "most", "worlds", "dense", "seen", "values", "name", "v", "w"] ["pool", "most"] (defScope s_law_wide_model) := ⟨rfl, rfl, rfl, by decide +kernel, rfl, by decide +kernel, by decide +kernel⟩
abbrev s_law_grid : Stmt := topS 18
theorem sc_law_grid : FnScope ["first", "second", "found", "v", "w"] ["first", "second"] (defScope s_law_grid) := ⟨rfl, rfl, rfl, by decide +kernel, rfl, by decide +kernel, by decide +kernel⟩
abbrev s_law_framed : Stmt := topS 19
theorem sc_law_framed : FnScope ["seen", "pairs", "pair"] ["seen"] (defScope s_law_framed) := ⟨rfl, rfl, rfl, by decide +kernel, rfl, by decide +kernel, by decide +kernel⟩
abbrev s_law : Stmt := topS 20
theorem sc_law : FnScope ["script", "pool", "model", "worlds", "frame", "values", "name", "due", "wrong", "told", "e", "handed", "shown", "v", "row", "k", "w"] ["script"] (defScope s_law) := ⟨rfl, rfl, rfl, by decide +kernel, rfl, by decide +kernel, by decide +kernel⟩
structure Top (K : PySem.W.Frag) (mg : Str → Option Value) where
  c_InvalidModel : Addr
  g_InvalidModel : mg "InvalidModel" = some (.ref c_InvalidModel)
  x_InvalidModel : PySem.W.excIn K c_InvalidModel [.type "ValueError", .type "Exception", .type "BaseException", .type "object"] "ValueError.__new__" = true
  k_InvalidModel : PySem.W.keepIn K (.ref c_InvalidModel) = true
  b_InvalidModel : PySem.W.subIn K (.ref c_InvalidModel) (.type "BaseException") = some true
  t_InvalidModel : PySem.W.typeIn K (.ref c_InvalidModel) = some (.type "type")
  e_InvalidModel : PySem.W.exmOne K (.ref c_InvalidModel) (.ref c_InvalidModel) = some true
  E_InvalidModel : ExcC K c_InvalidModel
  c_NotPlain : Addr
  g_NotPlain : mg "NotPlain" = some (.ref c_NotPlain)
  c_Model : Addr
  g_Model : mg "Model" = some (.ref c_Model)
  cl_Model : Cls K c_Model
  n_Model_frame : NoAttr K c_Model "_frame"
  n_Model_rows : NoAttr K c_Model "_rows"
  n_Model_true : NoAttr K c_Model "_true"
  i_InvalidModel_NotPlain : PySem.W.kitOne K (.ref c_InvalidModel) (.ref c_NotPlain) = some false
  f_is_frame : Addr
  d_is_frame : FuncData
  F_is_frame : Fun K "is_frame" "is_frame" s_is_frame f_is_frame d_is_frame
  b_is_frame : Binds K d_is_frame ["frame"] []
  m_is_frame : mg "is_frame" = some (.ref f_is_frame)
  f_is_pair : Addr
  d_is_pair : FuncData
  F_is_pair : Fun K "_is_pair" "_is_pair" s_is_pair f_is_pair d_is_pair
  b_is_pair : Binds K d_is_pair ["pair", "worlds"] []
  m_is_pair : mg "_is_pair" = some (.ref f_is_pair)
  f_is_integer : Addr
  d_is_integer : FuncData
  F_is_integer : Fun K "_is_integer" "_is_integer" s_is_integer f_is_integer d_is_integer
  b_is_integer : Binds K d_is_integer ["value"] []
  m_is_integer : mg "_is_integer" = some (.ref f_is_integer)
  f_rows_of : Addr
  d_rows_of : FuncData
  F_rows_of : Fun K "rows_of" "rows_of" s_rows_of f_rows_of d_rows_of
  b_rows_of : Binds K d_rows_of ["frame"] []
  m_rows_of : mg "rows_of" = some (.ref f_rows_of)
  f_Model_init : Addr
  d_Model_init : FuncData
  F_Model_init : Fun K "__init__" "Model.__init__" s_Model_init f_Model_init d_Model_init
  b_Model_init : Binds K d_Model_init ["self", "frame", "values"] []
  mk_Model : Mk K c_Model f_Model_init
  f_Model_frame : Addr
  d_Model_frame : FuncData
  F_Model_frame : Fun K "frame" "Model.frame" s_Model_frame f_Model_frame d_Model_frame
  b_Model_frame : Binds K d_Model_frame ["self"] []
  M_Model_frame : Meth K c_Model "frame" f_Model_frame
  f_Model_true_worlds : Addr
  d_Model_true_worlds : FuncData
  F_Model_true_worlds : Fun K "true_worlds" "Model.true_worlds" s_Model_true_worlds f_Model_true_worlds d_Model_true_worlds
  b_Model_true_worlds : Binds K d_Model_true_worlds ["self"] []
  M_Model_true_worlds : Meth K c_Model "true_worlds" f_Model_true_worlds
  f_Model_seen : Addr
  d_Model_seen : FuncData
  F_Model_seen : Fun K "seen" "Model.seen" s_Model_seen f_Model_seen d_Model_seen
  b_Model_seen : Binds K d_Model_seen ["self", "v"] []
  M_Model_seen : Meth K c_Model "seen" f_Model_seen
  f_law_pool : Addr
  d_law_pool : FuncData
  F_law_pool : Fun K "_law_pool" "_law_pool" s_law_pool f_law_pool d_law_pool
  b_law_pool : Binds K d_law_pool ["script"] []
  m_law_pool : mg "_law_pool" = some (.ref f_law_pool)
  f_law_spread : Addr
  d_law_spread : FuncData
  F_law_spread : Fun K "_law_spread" "_law_spread" s_law_spread f_law_spread d_law_spread
  b_law_spread : Binds K d_law_spread ["cell"] []
  m_law_spread : mg "_law_spread" = some (.ref f_law_spread)
  f_law_draw : Addr
  d_law_draw : FuncData
  F_law_draw : Fun K "_law_draw" "_law_draw" s_law_draw f_law_draw d_law_draw
  b_law_draw : Binds K d_law_draw ["pool", "many"] []
  m_law_draw : mg "_law_draw" = some (.ref f_law_draw)
  f_law_same : Addr
  d_law_same : FuncData
  F_law_same : Fun K "_law_same" "_law_same" s_law_same f_law_same d_law_same
  b_law_same : Binds K d_law_same ["actual", "due"] []
  m_law_same : mg "_law_same" = some (.ref f_law_same)
  f_law_distinct : Addr
  d_law_distinct : FuncData
  F_law_distinct : Fun K "_law_distinct" "_law_distinct" s_law_distinct f_law_distinct d_law_distinct
  b_law_distinct : Binds K d_law_distinct ["rows"] []
  m_law_distinct : mg "_law_distinct" = some (.ref f_law_distinct)
  f_law_wide_model : Addr
  d_law_wide_model : FuncData
  F_law_wide_model : Fun K "_law_wide_model" "_law_wide_model" s_law_wide_model f_law_wide_model d_law_wide_model
  b_law_wide_model : Binds K d_law_wide_model ["pool", "most"] []
  m_law_wide_model : mg "_law_wide_model" = some (.ref f_law_wide_model)
  f_law_grid : Addr
  d_law_grid : FuncData
  F_law_grid : Fun K "_law_grid" "_law_grid" s_law_grid f_law_grid d_law_grid
  b_law_grid : Binds K d_law_grid ["first", "second"] []
  m_law_grid : mg "_law_grid" = some (.ref f_law_grid)
  f_law_framed : Addr
  d_law_framed : FuncData
  F_law_framed : Fun K "_law_framed" "_law_framed" s_law_framed f_law_framed d_law_framed
  b_law_framed : Binds K d_law_framed ["seen"] []
  m_law_framed : mg "_law_framed" = some (.ref f_law_framed)
  f_law : Addr
  d_law : FuncData
  F_law : Fun K "law" "law" s_law f_law d_law
  b_law : Binds K d_law ["script"] []
  m_law : mg "law" = some (.ref f_law)
  z_bool : mg "bool" = none
  z_int : mg "int" = none
  z_isinstance : mg "isinstance" = none
  z_len : mg "len" = none
  z_list : mg "list" = none
  z_range : mg "range" = none
  z_set : mg "set" = none
  z_sorted : mg "sorted" = none
  z_str : mg "str" = none
  z_tuple : mg "tuple" = none
section
variable {P : Program} {w : World} {K : PySem.W.Frag} {mg : Str → Option Value} {base : Heap}
/-! ### the pool -/
def spPool (K : PySem.W.Frag) : Sp := fun vs H Q _ => ∃ (a : Addr) (ns : List Int), vs = [.ref a] ∧ SqL K H a (ns.map V.int) ∧
  ∀ (p l : Addr) (H' : Hp), H p = none → Same H H' → Pl K H' p l → Q (.ref p) H'
theorem ok_law_pool (T : Top K mg) : FnOk P w K mg base CX0 1 T.f_law_pool T.d_law_pool ["script"] (spPool K) := by
  refine T.F_law_pool.ok sc_law_pool (fun vs H Q E h => ?_) (fun cdv A outer s H vs Q E hr h => ?_)
  · obtain ⟨a, ns, rfl, _⟩ := h
    rfl
  obtain ⟨a, ns, rfl, hS, q⟩ := h
  refine ⟨_, (pss_cons (ps_set (i := 1) sc_law_pool.nd rfl (.inl rfl) pe_int)
    (pss_cons (ps_for PassesOwn.never rfl (pi_list (pe_slice sl_list (pv 0) po_none (po_some pe_int))) (pg_name (i := 2) sc_law_pool.nd rfl (.inl rfl))
      (pss_one (ps_set (i := 1) sc_law_pool.nd rfl (.inl rfl) (pe_op op_mod (pe_callTy call_int1 (by rfl) T.z_int (by decide +kernel) (pa_cons (pe_op op_add (pe_op op_mul (pv 1) pe_int) (pv 2)) pa_nil)) pe_int))))
    (pss_one (ps_ret (pe_lst (pa_cons (pe_callTy call_list_of (by rfl) T.z_list (by decide +kernel) (pa_cons (pv 0) pa_nil)) (pa_cons pe_int (pa_cons pe_int (pa_cons pe_int (pa_cons (pv 1) pa_nil)))))))))), ?_⟩
  refine ⟨_, rfl, 63, rfl, a, ns.map V.int, rfl, hS, fun c nc => ?_⟩
  have s1 : Same H (upd H c (.lst (cutV (ns.map V.int) none (some 63)))) := same_new nc
  obtain ⟨ms, hms⟩ : ∃ ms : List Int, cutV (ns.map V.int) none (some 63) = ms.map V.int := ⟨_, by unfold cutV; rw [← List.map_drop, ← List.map_take]⟩
  rw [hms] at s1 ⊢
  refine ⟨c, rfl, ⟨_, SqL.of upd_same⟩, for_list (K := K) (a := c) (xs := ms.map V.int) (fun i σ H2 => ∃ (z : Int) (v : Option V), σ = [some (.ref a), some (.int z), v] ∧ H2 = upd H c (.lst (ms.map V.int))) ⟨7, none, rfl, rfl⟩ (fun i σ H2 _ h => by
    obtain ⟨_, _, _, rfl⟩ := h
    exact SqL.of upd_same) ?_ ?_⟩
  · rintro i x σ H2 hx ⟨z, v, rfl, rfl⟩
    obtain ⟨y, rfl⟩ : ∃ y, x = V.int y := by
      rw [List.getElem?_map] at hx
      cases e : ms[i]? with
      | none => rw [e] at hx; cases hx
      | some y => rw [e] at hx; exact ⟨y, (Option.some.inj hx).symm⟩
    refine ⟨_, rfl, _, _, rfl, rfl, .inr ⟨by decide, by decide⟩, _, rfl, _, _, rfl, rfl, .inl ⟨_, rfl, _, _, rfl, rfl, (by show (0 : Int) < 1000003; decide), _, _, rfl, rfl⟩⟩
  · rintro σ H2 ⟨z, v, rfl, rfl⟩
    refine ⟨_, rfl, a, _, rfl, .inl (s1.seq hS), fun l nl => ?_⟩
    refine ⟨_, rfl, (by show 5 ≤ sizeLine; decide), fun p np => ?_⟩
    have s2 := s1.trans (same_new (o := .lst (ns.map V.int)) nl)
    have s3 := s2.trans (same_new (o := .lst [.ref l, .int 0, .int 0, .int 0, .int z]) np)
    have hl : (upd (upd H c (.lst (ms.map V.int))) l (.lst (ns.map V.int))) l = some (.lst (ns.map V.int)) := upd_same
    have nlp : l ≠ p := ne_of_none hl np
    exact q p l _ (s2.free np) s3 ⟨⟨ns, SqL.of (by rw [upd_ne nlp]; exact hl)⟩, nlp, 0, 0, 0, z, upd_same, Int.le_refl 0⟩
/-! ### numbers out of the pool -/
def spSpread (K : PySem.W.Frag) : Sp := fun vs H Q _ => ∃ (c : Int), vs = [.int c] ∧ ∀ n : Int, Q (.int n) H
theorem ok_law_spread (T : Top K mg) : FnOk P w K mg base CX0 1 T.f_law_spread T.d_law_spread ["cell"] (spSpread K) := by
  refine T.F_law_spread.ok sc_law_spread (fun vs H Q E h => ?_) (fun cdv A outer s H vs Q E hr h => ?_)
  · obtain ⟨c, rfl, _⟩ := h
    rfl
  obtain ⟨c, rfl, q⟩ := h
  refine ⟨_, (pss_cons (ps_set (i := 1) sc_law_spread.nd rfl (.inl rfl) (pe_op op_mod (pe_callTy call_int1 (by rfl) T.z_int (by decide +kernel) (pa_cons (pv 0) pa_nil)) pe_int))
    (pss_cons (ps_set (i := 2) sc_law_spread.nd rfl (.inl rfl) pe_int)
    (pss_cons (ps_for PassesOwn.never rfl (pi_range1 (by rfl) T.z_range (pa_cons pe_int pa_nil)) (pg_name (i := 3) sc_law_spread.nd rfl (.inl rfl))
      (pss_cons (ps_set (i := 1) sc_law_spread.nd rfl (.inl rfl) (pe_op op_mod (pe_callTy call_int1 (by rfl) T.z_int (by decide +kernel) (pa_cons (pe_op op_add (pe_op op_add (pe_op op_mul (pv 1) pe_int) pe_int) (pv 3)) pa_nil)) pe_int))
    (pss_one (ps_set (i := 2) sc_law_spread.nd rfl (.inl rfl) (pe_op op_add (pe_op op_mul (pv 2) pe_int) (pv 1))))))
    (pss_one (ps_ret (pv 2)))))), ?_⟩
  refine ⟨_, rfl, .inl ⟨_, rfl, _, _, rfl, rfl, (by show (0 : Int) < 2147483647; decide), ?_⟩⟩
  refine ⟨4, rfl, by decide, by decide, for_range (n := 4) (fun i σ H2 => ∃ (m t : Int) (v : Option V), σ = [some (.int c), some (.int m), some (.int t), v] ∧ H2 = H) ⟨_, _, none, rfl, rfl⟩ ?_ ?_⟩
  · rintro i σ H2 hi ⟨m, t, v, rfl, rfl⟩
    refine ⟨_, rfl, _, _, rfl, rfl, .inr ⟨by decide, by decide⟩, _, _, rfl, rfl, _, rfl, _, _, rfl, rfl, .inl ⟨_, rfl, _, _, rfl, rfl, (by show (0 : Int) < 2147483647; decide), ?_⟩⟩
    exact ⟨_, rfl, _, _, rfl, rfl, .inr ⟨by decide, by decide⟩, _, rfl, _, _, rfl, rfl, _, _, _, rfl, rfl⟩
  · rintro σ H2 ⟨m, t, v, rfl, rfl⟩
    exact ⟨_, rfl, q _⟩
def spDraw (K : PySem.W.Frag) : Sp := fun vs H Q _ => ∃ (p l : Addr) (m : Int), vs = [.ref p, .int m] ∧ Pl K H p l ∧ 0 < m ∧ m < 1073741824 ∧
  ∀ (r : Int) (H' : Hp), 0 ≤ r → r < m → Kp p H H' → Pl K H' p l → Q (.int r) H'
theorem ok_law_draw (T : Top K mg) : FnOk P w K mg base CX0 2 T.f_law_draw T.d_law_draw ["pool", "many"] (spDraw K) := by
  have G_law_spread : FnOk P w K mg base CX0 1 T.f_law_spread T.d_law_spread ["cell"] (spSpread K) := ok_law_spread T
  refine T.F_law_draw.ok sc_law_draw (fun vs H Q E h => ?_) (fun cdv A outer s H vs Q E hr h => ?_)
  · obtain ⟨p, l, m, rfl, _⟩ := h
    rfl
  obtain ⟨p, l, m, rfl, hP, m0, m1, q⟩ := h
  refine ⟨_, (C8.pss_cut (ps_if (PW.pt (pw_and (pt_cmpR op_le (pe_ix ix_list (pv 0) pe_int (fun _ _ => rfl)) pe_int (nomark _)) (pw_and1 (pt_cmpR op_lt (pe_ix ix_list (pv 0) pe_int (fun _ _ => rfl)) (pe_callB call_len_seq (by rfl) T.z_len PySem.boot_len (pa_cons (pe_ix ix_list (pv 0) pe_int (fun _ _ => rfl)) pa_nil)) (nomark _)))))
      (pss_cons (ps_set (i := 2) sc_law_draw.nd rfl (.inl rfl) (pe_ix ix_list (pe_ix ix_list (pv 0) pe_int (fun _ _ => rfl)) (pe_ix ix_list (pv 0) pe_int (fun _ _ => rfl)) (fun _ _ => rfl)))
    (pss_cons (ps_asg (pe_op op_add (pe_ix ix_list (pv 0) pe_int (fun _ _ => rfl)) pe_int) (pg_sub (pv 0) pe_int set_list))
    (pss_cons (ps_asg (pv 2) (pg_sub (pv 0) pe_int set_list))
    (pss_one (ps_if (pt_cmpR op_lt (pv 2) pe_int (nomark _))
      (pss_one (ps_asg (pe_call G_law_spread (hr.mono (by omega)) (by rfl) T.m_law_spread T.F_law_spread.kp T.b_law_spread .nil pass0 (pa_cons (pv 2) pa_nil)) (pg_sub (pv 0) pe_int set_list)))
      pss_nil)))))
      pss_nil)
    (pss_cons (ps_asg (pe_op op_add (pe_ix ix_list (pv 0) pe_int (fun _ _ => rfl)) pe_int) (pg_sub (pv 0) pe_int set_list))
    (pss_cons (ps_if (pt_cmpR op_le (pe_ix ix_list (pv 0) pe_int (fun _ _ => rfl)) pe_int (nomark _))
      (pss_cons (ps_set (i := 3) sc_law_draw.nd rfl (.inl rfl) (pe_op op_mod (pe_callTy call_int1 (by rfl) T.z_int (by decide +kernel) (pa_cons (pe_op op_add (pe_op op_add (pe_op op_mul (pe_ix ix_list (pv 0) pe_int (fun _ _ => rfl)) pe_int) (pe_op op_mul (pe_ix ix_list (pv 0) pe_int (fun _ _ => rfl)) pe_int)) pe_int) pa_nil)) pe_int))
    (pss_cons (ps_set (i := 3) sc_law_draw.nd rfl (.inl rfl) (pe_op op_mod (pe_callTy call_int1 (by rfl) T.z_int (by decide +kernel) (pa_cons (pe_op op_add (pe_op op_mul (pv 3) pe_int) (pe_ix ix_list (pv 0) pe_int (fun _ _ => rfl))) pa_nil)) pe_int))
    (pss_one (ps_ret (pe_op op_mod (pe_op op_fdiv (pv 3) pe_int) (pv 1))))))
      pss_nil)
    (pss_cons (ps_set (i := 4) sc_law_draw.nd rfl (.inl rfl) (pe_op op_mod (pe_callTy call_int1 (by rfl) T.z_int (by decide +kernel) (pa_cons (pe_ix ix_list (pv 0) pe_int (fun _ _ => rfl)) pa_nil)) (pv 1)))
    (pss_cons (ps_asg (pe_op op_fdiv (pe_ix ix_list (pv 0) pe_int (fun _ _ => rfl)) (pv 1)) (pg_sub (pv 0) pe_int set_list))
    (pss_one (ps_ret (pv 4)))))))), ?_⟩
  obtain ⟨i, r, c, s, hp, hi⟩ := hP.at5
  obtain ⟨cs, hl⟩ := hP.sq
  -- the first if: a new number may be taken
  refine ⟨fun σ H1 => ∃ (i r : Int) (v2 v3 v4 : Option V), σ = [some (.ref p), some (.int m), v2, v3, v4] ∧ H1 = upd H p (.lst [.ref l, .int i, .int r, .int c, .int s]) ∧ 0 ≤ i, ?_, ?_⟩
  · have upd0 : upd H p (.lst [.ref l, .int i, .int r, .int c, .int s]) = H := by
      funext b
      by_cases e : b = p
      · rw [e, upd_same, hp]
      · rw [upd_ne e]
    refine ⟨_, rfl, p, _, 2, _, rfl, rfl, SqL.of hp, atI_nat (j := 2) rfl, _, _, rfl, rfl, _, rfl, ite2 (fun c1 => ?_) (fun c1 => iteF ?_)⟩
    · refine ⟨_, rfl, p, _, 1, _, rfl, rfl, SqL.of hp, atI_nat (j := 1) rfl, _, rfl, p, _, 0, _, rfl, rfl, SqL.of hp, atI_nat (j := 0) rfl, l, _, rfl, .inl hl, _, _, rfl, rfl, _, rfl, ite2 (fun c2 => ?_) (fun c2 => ?_)⟩
      · have c2' : i < ((cs.map V.int).length : Int) := of_decide_eq_true c2
        rw [List.length_map] at c2'
        have g : atI (cs.map V.int) i = some (.int cs[i.toNat]) := by
          have e := atI_nat (xs := cs.map V.int) (j := i.toNat) (v := .int cs[i.toNat]) (by rw [List.getElem?_map, List.getElem?_eq_getElem (by omega)]; rfl)
          rw [show ((i.toNat : Nat) : Int) = i by omega] at e
          exact e
        generalize cs[i.toNat] = z at g
        refine ⟨_, rfl, p, _, 0, _, rfl, rfl, SqL.of hp, atI_nat (j := 0) rfl, _, rfl, p, _, 1, _, rfl, rfl, SqL.of hp, atI_nat (j := 1) rfl, l, _, i, .int z, rfl, rfl, hl, g, ?_⟩
        refine ⟨_, rfl, p, _, 1, _, rfl, rfl, SqL.of hp, atI_nat (j := 1) rfl, _, _, rfl, rfl, _, rfl, p, _, 1, 1, rfl, rfl, hp, rfl, ?_⟩
        refine ⟨_, rfl, _, rfl, p, _, 2, 2, rfl, rfl, upd_same, rfl, ?_⟩
        rw [upd_upd]
        refine ⟨_, rfl, _, _, rfl, rfl, _, rfl, ite2 (fun c3 => ?_) (fun c3 => ?_)⟩
        · refine ⟨_, rfl, z, rfl, fun n => ⟨_, rfl, p, _, 2, 2, rfl, rfl, upd_same, rfl, ?_⟩⟩
          rw [upd_upd]
          exact ⟨i + 1, n, some (.int z), none, none, rfl, rfl, by omega⟩
        · exact ⟨i + 1, z, some (.int z), none, none, rfl, rfl, by omega⟩
      · exact ⟨i, r, none, none, none, rfl, upd0.symm, hi⟩
    · exact ⟨i, r, none, none, none, rfl, upd0.symm, hi⟩
  · rintro σ H1 ⟨i, r, v2, v3, v4, rfl, rfl, hi⟩
    refine ⟨_, rfl, p, _, 3, _, rfl, rfl, SqL.of upd_same, atI_nat (j := 3) rfl, _, _, rfl, rfl, _, rfl, p, _, 3, 3, rfl, rfl, upd_same, rfl, ?_⟩
    rw [upd_upd]
    refine ⟨_, rfl, p, _, 2, _, rfl, rfl, SqL.of upd_same, atI_nat (j := 2) rfl, _, _, rfl, rfl, _, rfl, ite2 (fun c1 => ?_) (fun c1 => ?_)⟩
    · refine ⟨_, rfl, p, _, 4, _, rfl, rfl, SqL.of upd_same, atI_nat (j := 4) rfl, _, _, rfl, rfl, .inr ⟨by decide, by decide⟩, _, rfl, p, _, 3, _, rfl, rfl, SqL.of upd_same, atI_nat (j := 3) rfl, _, _, rfl, rfl, .inr ⟨by decide, by decide⟩, _, _, rfl, rfl, _, _, rfl, rfl, .inl ⟨_, rfl, _, _, rfl, rfl, (by show (0 : Int) < 2147483647; decide), ?_⟩⟩
      refine ⟨_, rfl, _, _, rfl, rfl, .inr ⟨by decide, by decide⟩, _, rfl, p, _, 3, _, rfl, rfl, SqL.of upd_same, atI_nat (j := 3) rfl, _, _, rfl, rfl, .inl ⟨_, rfl, _, _, rfl, rfl, (by show (0 : Int) < 2147483629; decide), ?_⟩⟩
      refine ⟨_, rfl, _, _, rfl, rfl, ⟨by decide, by decide⟩, _, rfl, _, _, rfl, rfl, m0, ?_⟩
      exact q _ _ (Int.emod_nonneg _ (by omega)) (Int.emod_lt_of_pos _ m0) Kp.upd (hP.turn hi)
    · refine ⟨_, rfl, p, _, 2, _, rfl, rfl, SqL.of upd_same, atI_nat (j := 2) rfl, .inl ⟨_, rfl, _, rfl, _, _, rfl, rfl, m0, ?_⟩⟩
      refine ⟨_, rfl, p, _, 2, _, rfl, rfl, SqL.of upd_same, atI_nat (j := 2) rfl, _, rfl, _, _, rfl, rfl, ⟨m0, m1⟩, _, rfl, p, _, 2, 2, rfl, rfl, upd_same, rfl, _, rfl, ?_⟩
      rw [upd_upd]
      exact q _ _ (Int.emod_nonneg _ (by omega)) (Int.emod_lt_of_pos _ m0) Kp.upd (hP.turn hi)

/-! ### the law's own comparison: of a thing with itself it says True -/
def spSame (K : PySem.W.Frag) (n : Nat) : Sp := fun vs H Q _ => ∃ (x y : V) (d : PyData), vs = [x, y] ∧ Dp K H x d ∧ Dp K H y d ∧ d.depth < n ∧ sml d ∧ Q (.bl true) H
theorem ok_law_same (T : Top K mg) : ∀ n : Nat, FnOk P w K mg base CX0 n T.f_law_same T.d_law_same ["actual", "due"] (spSame K n) := by
  intro n
  induction n with
  | zero =>
    refine fn_none fun vs H Q E h => ?_
    obtain ⟨x, y, d, _, _, _, h, _⟩ := h
    exact absurd h (Nat.not_lt_zero _)
  | succ n G_law_same =>
    refine T.F_law_same.ok sc_law_same (fun vs H Q E h => ?_) (fun cdv A outer s H vs Q E hr h => ?_)
    · obtain ⟨x, y, d, rfl, _⟩ := h
      rfl
    obtain ⟨x, y, d, rfl, hx, hy, hd, hm, q⟩ := h
    refine ⟨_, (pss_cons (ps_if (PW.pt (pw_or (pt_val (pe_callB call_isi (by rfl) T.z_isinstance (by decide +kernel) (pa_cons (pv 1) (pa_cons (pe_bltn (v := .ty "tuple") (by rfl) T.z_tuple (by decide +kernel) rfl) pa_nil)))) (pw_or1 (pt_val (pe_callB call_isi (by rfl) T.z_isinstance (by decide +kernel) (pa_cons (pv 1) (pa_cons (pe_bltn (v := .ty "list") (by rfl) T.z_list (by decide +kernel) rfl) pa_nil)))))))
      (pss_cons (ps_if (PW.pt (pw_or (pt_cmpR op_ne (pe_callB call_isi (by rfl) T.z_isinstance (by decide +kernel) (pa_cons (pv 1) (pa_cons (pe_bltn (v := .ty "tuple") (by rfl) T.z_tuple (by decide +kernel) rfl) pa_nil))) (pe_callB call_isi (by rfl) T.z_isinstance (by decide +kernel) (pa_cons (pv 0) (pa_cons (pe_bltn (v := .ty "tuple") (by rfl) T.z_tuple (by decide +kernel) rfl) pa_nil))) (nomark _)) (pw_or1 (pt_cmpR op_ne (pe_callB call_isi (by rfl) T.z_isinstance (by decide +kernel) (pa_cons (pv 1) (pa_cons (pe_bltn (v := .ty "list") (by rfl) T.z_list (by decide +kernel) rfl) pa_nil))) (pe_callB call_isi (by rfl) T.z_isinstance (by decide +kernel) (pa_cons (pv 0) (pa_cons (pe_bltn (v := .ty "list") (by rfl) T.z_list (by decide +kernel) rfl) pa_nil))) (nomark _)))))
      (pss_one (ps_ret pe_bl))
      pss_nil)
    (pss_cons (ps_if (pt_cmpR op_ne (pe_callB call_len_seq (by rfl) T.z_len PySem.boot_len (pa_cons (pv 0) pa_nil)) (pe_callB call_len_seq (by rfl) T.z_len PySem.boot_len (pa_cons (pv 1) pa_nil)) (nomark _))
      (pss_one (ps_ret pe_bl))
      pss_nil)
    (pss_cons (ps_for PassesOwn.never rfl (pi_range1 (by rfl) T.z_range (pa_cons (pe_callB call_len_seq (by rfl) T.z_len PySem.boot_len (pa_cons (pv 1) pa_nil)) pa_nil)) (pg_name (i := 2) sc_law_same.nd rfl (.inl rfl))
      (pss_one (ps_if (pt_not (pt_val (pe_call G_law_same (hr.mono (by omega)) (by rfl) T.m_law_same T.F_law_same.kp T.b_law_same .nil pass0 (pa_cons (pe_ix ix_seq (pv 0) (pv 2) (fun _ _ => rfl)) (pa_cons (pe_ix ix_seq (pv 1) (pv 2) (fun _ _ => rfl)) pa_nil)))))
      (pss_one (ps_ret pe_bl))
      pss_nil)))
    (pss_one (ps_ret pe_bl)))))
      pss_nil)
    (pss_cons (ps_if (pt_cmpR op_isN1 (pv 1) pe_non (nomark _))
      (pss_one (ps_ret (pe_cmpR op_isN1 (pv 0) pe_non (nomark _))))
      pss_nil)
    (pss_cons (ps_if (pt_val (pe_callB call_isi (by rfl) T.z_isinstance (by decide +kernel) (pa_cons (pv 1) (pa_cons (pe_bltn (v := .ty "bool") (by rfl) T.z_bool (by decide +kernel) rfl) pa_nil))))
      (pss_one (ps_ret (pe_and (pe_callB call_isi (by rfl) T.z_isinstance (by decide +kernel) (pa_cons (pv 0) (pa_cons (pe_bltn (v := .ty "bool") (by rfl) T.z_bool (by decide +kernel) rfl) pa_nil))) (pe_one (pe_cmpR op_eq (pv 0) (pv 1) (nomark _))))))
      pss_nil)
    (pss_cons (ps_if (pt_val (pe_callB call_isi (by rfl) T.z_isinstance (by decide +kernel) (pa_cons (pv 1) (pa_cons (pe_bltn (v := .ty "int") (by rfl) T.z_int (by decide +kernel) rfl) pa_nil))))
      (pss_one (ps_ret (pe_and (pe_callB call_isi (by rfl) T.z_isinstance (by decide +kernel) (pa_cons (pv 0) (pa_cons (pe_bltn (v := .ty "int") (by rfl) T.z_int (by decide +kernel) rfl) pa_nil))) (pe_and (pe_not (pe_callB call_isi (by rfl) T.z_isinstance (by decide +kernel) (pa_cons (pv 0) (pa_cons (pe_bltn (v := .ty "bool") (by rfl) T.z_bool (by decide +kernel) rfl) pa_nil)))) (pe_one (pe_cmpR op_eq (pv 0) (pv 1) (nomark _)))))))
      pss_nil)
    (pss_one (ps_ret (pe_and (pe_callB call_isi (by rfl) T.z_isinstance (by decide +kernel) (pa_cons (pv 0) (pa_cons (pe_bltn (v := .ty "str") (by rfl) T.z_str (by decide +kernel) rfl) pa_nil))) (pe_one (pe_cmpR op_eq (pv 0) (pv 1) (nomark _)))))))))), ?_⟩
    cases d with
    | none =>
      cases hx; cases hy
      have t : TyX K H .non (.type "NoneType") := .base .non
      refine ⟨_, rfl, _, _, _, _, _, rfl, .ty _, t, kB false (by decide +kernel), _, rfl, iteF ⟨_, rfl, _, _, _, _, _, rfl, .ty _, t, kB false (by decide +kernel), _, rfl, iteF ?_⟩⟩
      exact ⟨_, rfl, rfl, _, rfl, iteT ⟨_, rfl, rfl, q⟩⟩
    | bool b =>
      cases hx; cases hy
      have t : TyX K H (.bl b) (.type "bool") := .base (.bl b)
      refine ⟨_, rfl, _, _, _, _, _, rfl, .ty _, t, kB false (by decide +kernel), _, rfl, iteF ⟨_, rfl, _, _, _, _, _, rfl, .ty _, t, kB false (by decide +kernel), _, rfl, iteF ?_⟩⟩
      refine ⟨_, rfl, rfl, _, rfl, iteF ⟨_, rfl, _, _, _, _, _, rfl, .ty _, t, kB true (by decide +kernel), _, rfl, iteT ⟨_, rfl, _, _, _, _, _, rfl, .ty _, t, kB true (by decide +kernel), _, rfl, iteT ⟨_, rfl, _, rfl, rfl, ?_⟩⟩⟩⟩
      rw [decide_eq_true rfl]
      exact q
    | int i =>
      cases hx; cases hy
      have t : TyX K H (.int i) (.type "int") := .base (.int i)
      refine ⟨_, rfl, _, _, _, _, _, rfl, .ty _, t, kB false (by decide +kernel), _, rfl, iteF ⟨_, rfl, _, _, _, _, _, rfl, .ty _, t, kB false (by decide +kernel), _, rfl, iteF ?_⟩⟩
      refine ⟨_, rfl, rfl, _, rfl, iteF ⟨_, rfl, _, _, _, _, _, rfl, .ty _, t, kB false (by decide +kernel), _, rfl, iteF ⟨_, rfl, _, _, _, _, _, rfl, .ty _, t, kB true (by decide +kernel), _, rfl, iteT ?_⟩⟩⟩
      refine ⟨_, rfl, _, _, _, _, _, rfl, .ty _, t, kB true (by decide +kernel), _, rfl, iteT ⟨_, rfl, _, _, _, _, _, rfl, .ty _, t, kB false (by decide +kernel), _, rfl, _, rfl, iteT ⟨_, rfl, _, rfl, rfl, ?_⟩⟩⟩
      rw [decide_eq_true rfl]
      exact q
    | str z =>
      cases hx; cases hy
      have t : TyX K H (.str z) (.type "str") := .base (.str z)
      refine ⟨_, rfl, _, _, _, _, _, rfl, .ty _, t, kB false (by decide +kernel), _, rfl, iteF ⟨_, rfl, _, _, _, _, _, rfl, .ty _, t, kB false (by decide +kernel), _, rfl, iteF ?_⟩⟩
      refine ⟨_, rfl, rfl, _, rfl, iteF ⟨_, rfl, _, _, _, _, _, rfl, .ty _, t, kB false (by decide +kernel), _, rfl, iteF ⟨_, rfl, _, _, _, _, _, rfl, .ty _, t, kB false (by decide +kernel), _, rfl, iteF ?_⟩⟩⟩
      refine ⟨_, rfl, _, _, _, _, _, rfl, .ty _, t, kB true (by decide +kernel), _, rfl, iteT ⟨_, rfl, _, rfl, rfl, ?_⟩⟩
      rw [decide_eq_true rfl]
      exact q
    | dict kvs => cases hx
    | list ds =>
      cases hx with
      | @lst a xs _ h1 h2 =>
      cases hy with
      | @lst b ys _ h3 h4 =>
      have t1 := ty_list h1
      have t2 := ty_list h3
      have e1 := dpAll_len h2
      have e2 := dpAll_len h4
      have hd' : PyData.depthAll ds < n := by
        rw [PyData.depth] at hd
        omega
      rw [sml] at hm
      have hz : (ys.length : Int) < 2 ^ 62 := by
        have := hm.1
        omega
      refine ⟨_, rfl, _, _, _, _, _, rfl, .ty _, t2, kB false (by decide +kernel), _, rfl, iteF ⟨_, rfl, _, _, _, _, _, rfl, .ty _, t2, kB true (by decide +kernel), _, rfl, iteT ?_⟩⟩
      refine ⟨_, rfl, _, _, _, _, _, rfl, .ty _, t2, kB false (by decide +kernel), _, rfl, _, _, _, _, _, rfl, .ty _, t1, kB false (by decide +kernel), rfl, _, rfl, iteF ?_⟩
      refine ⟨_, rfl, _, _, _, _, _, rfl, .ty _, t2, kB true (by decide +kernel), _, rfl, _, _, _, _, _, rfl, .ty _, t1, kB true (by decide +kernel), rfl, _, rfl, iteF ?_⟩
      refine ⟨_, rfl, a, xs, rfl, .inl h1, _, rfl, b, ys, rfl, .inl h3, rfl, _, rfl, iteNS (by rw [e1, e2]) ?_⟩
      refine ⟨_, rfl, b, ys, rfl, .inl h3, _, rfl, (by omega), hz, for_range (n := (ys.length : Int).toNat) (fun i σ H2 => ∃ v : Option V, σ = [some (.ref a), some (.ref b), v] ∧ H2 = H) ⟨none, rfl, rfl⟩ ?_ ?_⟩
      · rintro i σ H2 hi ⟨v, rfl, rfl⟩
        have hi' : i < ds.length := by omega
        have g := List.getElem?_eq_getElem hi'
        generalize ds[i] = d at g
        obtain ⟨v1, g1, p1⟩ := dpAll_get h2 g
        obtain ⟨v2, g2, p2⟩ := dpAll_get h4 g
        have ei : (0 : Int) + (i : Nat) = ((i : Nat) : Int) := by omega
        have a1 : atI xs (0 + (i : Int)) = some v1 := by rw [ei]; exact atI_nat g1
        have a2 : atI ys (0 + (i : Int)) = some v2 := by rw [ei]; exact atI_nat g2
        refine ⟨_, rfl, _, rfl, .inl ⟨a, xs, _, v1, rfl, rfl, h1, a1, _, rfl, _, rfl, .inl ⟨b, ys, _, v2, rfl, rfl, h3, a2, v1, v2, d, rfl, p1, p2, Nat.lt_of_le_of_lt (depth_mem g) hd', sml_mem hm.2 g, ?_⟩⟩⟩
        exact ⟨_, rfl, iteF ⟨_, rfl, rfl⟩⟩
      · rintro σ H2 ⟨v, rfl, rfl⟩
        exact q
    | tuple ds =>
      cases hx with
      | @tup a xs _ h1 h2 =>
      cases hy with
      | @tup b ys _ h3 h4 =>
      have t1 := ty_tup h1
      have t2 := ty_tup h3
      have e1 := dpAll_len h2
      have e2 := dpAll_len h4
      have hd' : PyData.depthAll ds < n := by
        rw [PyData.depth] at hd
        omega
      rw [sml] at hm
      have hz : (ys.length : Int) < 2 ^ 62 := by
        have := hm.1
        omega
      refine ⟨_, rfl, _, _, _, _, _, rfl, .ty _, t2, kB true (by decide +kernel), _, rfl, iteT (iteT ?_)⟩
      refine ⟨_, rfl, _, _, _, _, _, rfl, .ty _, t2, kB true (by decide +kernel), _, rfl, _, _, _, _, _, rfl, .ty _, t1, kB true (by decide +kernel), rfl, _, rfl, iteF ?_⟩
      refine ⟨_, rfl, _, _, _, _, _, rfl, .ty _, t2, kB false (by decide +kernel), _, rfl, _, _, _, _, _, rfl, .ty _, t1, kB false (by decide +kernel), rfl, _, rfl, iteF ?_⟩
      refine ⟨_, rfl, a, xs, rfl, .inr h1, _, rfl, b, ys, rfl, .inr h3, rfl, _, rfl, iteNS (by rw [e1, e2]) ?_⟩
      refine ⟨_, rfl, b, ys, rfl, .inr h3, _, rfl, (by omega), hz, for_range (n := (ys.length : Int).toNat) (fun i σ H2 => ∃ v : Option V, σ = [some (.ref a), some (.ref b), v] ∧ H2 = H) ⟨none, rfl, rfl⟩ ?_ ?_⟩
      · rintro i σ H2 hi ⟨v, rfl, rfl⟩
        have hi' : i < ds.length := by omega
        have g := List.getElem?_eq_getElem hi'
        generalize ds[i] = d at g
        obtain ⟨v1, g1, p1⟩ := dpAll_get h2 g
        obtain ⟨v2, g2, p2⟩ := dpAll_get h4 g
        have ei : (0 : Int) + (i : Nat) = ((i : Nat) : Int) := by omega
        have a1 : atI xs (0 + (i : Int)) = some v1 := by rw [ei]; exact atI_nat g1
        have a2 : atI ys (0 + (i : Int)) = some v2 := by rw [ei]; exact atI_nat g2
        refine ⟨_, rfl, _, rfl, .inr (.inl ⟨a, xs, _, v1, rfl, rfl, h1, a1, _, rfl, _, rfl, .inr (.inl ⟨b, ys, _, v2, rfl, rfl, h3, a2, v1, v2, d, rfl, p1, p2, Nat.lt_of_le_of_lt (depth_mem g) hd', sml_mem hm.2 g, ?_⟩)⟩)⟩
        exact ⟨_, rfl, iteF ⟨_, rfl, rfl⟩⟩
      · rintro σ H2 ⟨v, rfl, rfl⟩
        exact q

/-! ### drawn frames and values -/
def rListOf (K : PySem.W.Frag) : List V → Hp → VK → Prop := fun xs H Q => ∃ p ys, xs = [V.ref p] ∧ (SqL K H p ys ∨ SqT K H p ys) ∧ ∀ (l : Addr), H l = none → Q (V.ref l) (upd H l (HO.lst ys))
theorem call_list_ofK {X : Cx} : CallR X (Value.type "list") (rListOf X.K) := call_list_of
def relab (sc scope : Scope) : Scope := { scope with names := scope.names.map fun (n, k) => if (k == .free && sc.kind == .function && sc.names.lookup n == some .cell) then (n, .cell) else (n, k) }
theorem relab_eq {scope sc : Scope} {x : Str} {L a : Addr} {cd : Value} : PySem.relabel scope (PyProof.Rows.envOfC x sc L a cd) = relab sc scope := rfl
def bg (R : Nat → Nat → Bool) (n i : Nat) : List V := (List.range n).map fun j => V.bl (R i j)
/-- the rows of a frame of n worlds, as lists of Bools -/
def GridAt (H : Hp) (s : Addr) (n : Nat) (R : Nat → Nat → Bool) : Prop := ∃ rs : List Addr, H s = some (.lst (rs.map V.ref)) ∧ rs.length = n ∧ rs.Nodup ∧ s ∉ rs ∧ ∀ i r, rs[i]? = some r → H r = some (.lst (bg R n i))
def sel (n : Nat) (f : Nat → Bool) : List V := ((List.range n).filter f).map fun w : Nat => V.int (w : Int)
/-- the values of the variables, as a dict of ascending lists -/
def ValAt (H : Hp) (d : Addr) (n : Nat) (names : List Str) (W : Str → Nat → Bool) : Prop := ∃ as : List (Str × Addr), as.map (·.1) = names ∧ H d = some (.dK (as.map fun x => (.inr x.1, .ref x.2))) ∧ (as.map (·.2)).Nodup ∧ d ∉ as.map (·.2) ∧ ∀ x ∈ as, H x.2 = some (.lst (sel n (W x.1)))
theorem rng_snoc {β : Type} (g : Bool → β) (f : Nat → Bool) (j : Nat) (b : Bool) : ((List.range (j + 1)).map fun x => g (if x = j then b else f x)) = ((List.range j).map fun x => g (f x)) ++ [g b] := by
  rw [List.range_succ, List.map_append, List.map_singleton, if_pos rfl]
  refine congrArg (· ++ [g b]) (List.map_congr_left fun x hx => ?_)
  rw [if_neg (Nat.ne_of_lt (List.mem_range.mp hx))]
theorem sel_snoc (f : Nat → Bool) (j : Nat) (b : Bool) : sel (j + 1) (fun x => if x = j then b else f x) = sel j f ++ if b = true then [V.int (j : Int)] else [] := by
  unfold sel
  rw [List.range_succ, List.filter_append, List.map_append]
  refine congr (congrArg _ (congrArg _ (List.filter_congr fun x hx => ?_))) ?_
  · rw [if_neg (Nat.ne_of_lt (List.mem_range.mp hx))]
  · rw [List.filter_cons, if_pos rfl]
    cases b <;> rfl
theorem valV_none {kvs : List (Key × V)} {k : Key} (h : ∀ kv ∈ kvs, kv.1 ≠ k) : valV kvs k = none := by
  unfold valV
  rw [List.find?_eq_none.mpr fun kv hk q => h kv hk (of_decide_eq_true q)]
  rfl
theorem sel_len (n : Nat) (f : Nat → Bool) : (sel n f).length ≤ n := by
  unfold sel
  rw [List.length_map]
  exact Nat.le_trans (List.length_filter_le _ _) (by rw [List.length_range]; exact Nat.le_refl _)
theorem GridAt.same {H H' : Hp} {s : Addr} {n : Nat} {R : Nat → Nat → Bool} (k : Same H H') (h : GridAt H s n R) : GridAt H' s n R := by
  obtain ⟨rs, h1, h2, h3, h4, h5⟩ := h
  exact ⟨rs, k _ _ h1, h2, h3, h4, fun i r hr => k _ _ (h5 i r hr)⟩
theorem GridAt.kp {H0 H H' : Hp} {p s : Addr} {n : Nat} {R : Nat → Nat → Bool} (k : Kp p H H') (h : GridAt H s n R) (hp : ∃ q xs, H p = some (.lst (.ref q :: .int xs :: []))) : True := trivial
def spWide (K : PySem.W.Frag) : Sp := fun vs H Q _ => ∃ (p l : Addr) (m : Int), vs = [.ref p, .int m] ∧ Pl K H p l ∧ 0 < m ∧ m ≤ 100 ∧
  ∀ (t s d : Addr) (n : Nat) (R : Nat → Nat → Bool) (W : Str → Nat → Bool) (H' : Hp), 1 ≤ n → (n : Int) ≤ m → Kp p H H' → Pl K H' p l → H s = none → H d = none → SqT K H' t [.ref s, .ref d] → GridAt H' s n R → ValAt H' d n ["p", "q", "r"] W → Q (.ref t) H'
theorem ok_law_wide_model (T : Top K mg) : FnOk P w K mg base CX0 3 T.f_law_wide_model T.d_law_wide_model ["pool", "most"] (spWide K) := by
  have G_law_draw : FnOk P w K mg base CX0 2 T.f_law_draw T.d_law_draw ["pool", "many"] (spDraw K) := ok_law_draw T
  refine T.F_law_wide_model.ok sc_law_wide_model (fun vs H Q E h => ?_) (fun cdv A outer s H vs Q E hr h => ?_)
  · obtain ⟨p, l, m, rfl, _⟩ := h
    rfl
  obtain ⟨p, l, m, rfl, hP, m0, m1, k⟩ := h
  have hu64 := hr.units
  have hu := Nat.lt_of_le_of_lt (Nat.add_le_add_left (by decide : 1 ≤ 64) _) hu64
  refine ⟨_, (pss_cons (ps_set (i := 2) sc_law_wide_model.nd rfl (.inr rfl) (pe_op op_add pe_int (pe_call G_law_draw (hr.mono (by omega)) (by rfl) T.m_law_draw T.F_law_draw.kp T.b_law_draw .nil pass0 (pa_cons (pv 0) (pa_cons (pv 1) pa_nil)))))
    (pss_cons (ps_set (i := 3) sc_law_wide_model.nd rfl (.inr rfl) (pe_op op_add pe_int (pe_call G_law_draw (hr.mono (by omega)) (by rfl) T.m_law_draw T.F_law_draw.kp T.b_law_draw .nil pass0 (pa_cons (pv 0) (pa_cons pe_int pa_nil)))))
    (pss_cons (ps_setLc (own := [("v", 7)]) (g := gName 7) (tt := tYes) (i := 4) rfl sc_law_wide_model.nd rfl rfl (sw_true rfl rfl rfl (by decide +kernel)) (pi_range1 (by rfl) T.z_range (pa_cons (pv 2) pa_nil)) (blkOk_by (N := ["pool", "most", "worlds", "dense", "seen", "values", "name", "v", "w"]) (sc := defScope s_law_wide_model) (by decide +kernel)) (fun _ _ _ _ _ => pg_name (i := 7) sc_law_wide_model.nd rfl (Or.inl rfl)) (fun _ _ _ _ _ => pts_nil) (fun _ _ _ _ _ => (pe_lc (own := [("w", 8)]) (g := gName 8) (tt := tYes) rfl sc_law_wide_model.nd (pi_range1 (by rfl) T.z_range (pa_cons (pv 2) pa_nil)) (by dsimp only [L2.cxOf, L2.Cx.blk, L2.Cx.nox, PySem.compEnvC]; rw [relab_eq]; exact blkOk_by (by decide +kernel)) (fun _ _ _ _ _ => pg_name (i := 8) sc_law_wide_model.nd rfl (Or.inl rfl)) (fun _ _ _ _ _ => pts_nil) (fun _ _ _ _ _ => (pe_cmpR op_lt (pe_call G_law_draw (hr.mono (by omega)) (by rfl) T.m_law_draw T.F_law_draw.kp T.b_law_draw .nil pass0 (pa_cons (pv 0) (pa_cons pe_int pa_nil))) (pv 3) (nomark _))))))
    (pss_cons (ps_set (i := 5) sc_law_wide_model.nd rfl (.inl rfl) pe_dnewK)
    (pss_cons (ps_for PassesOwn.never rfl (pi_tup (pe_tup (pa_cons pe_str (pa_cons pe_str (pa_cons pe_str pa_nil))))) (pg_name (i := 6) sc_law_wide_model.nd rfl (.inl rfl))
      (pss_one (ps_dput hu (pv 5) (pv 6) (pe_lc (own := [("w", 8)]) (g := gName 8) rfl sc_law_wide_model.nd (pi_range1 (by rfl) T.z_range (pa_cons (pv 2) pa_nil)) (blkOk_by (N := ["pool", "most", "worlds", "dense", "seen", "values", "name", "v", "w"]) (sc := defScope s_law_wide_model) (by decide +kernel)) (fun _ _ _ _ _ => pg_name (i := 8) sc_law_wide_model.nd rfl (Or.inl rfl)) (fun _ _ _ _ _ => pts_one (pt_cmpR op_eq (pe_call G_law_draw (hr.mono (by omega)) (by rfl) T.m_law_draw T.F_law_draw.kp T.b_law_draw .nil pass0 (pa_cons (pv 0) (pa_cons pe_int pa_nil))) pe_int (nomark _))) (fun _ _ _ _ _ => (pv 8))) rfl)))
    (pss_one (ps_ret (pe_tup (pa_cons (pv 4) (pa_cons (pv 5) pa_nil)))))))))), ?_⟩
  refine ⟨_, rfl, _, rfl, p, l, m, rfl, hP, m0, by omega, fun r H1 r0 r1 k1 hP1 => ⟨_, _, rfl, rfl, ?_⟩⟩
  obtain ⟨n, hn⟩ : ∃ n : Nat, 1 + r = (n : Int) := ⟨(1 + r).toNat, by omega⟩
  change gName 2 (V.int (1 + r)) _ _ _
  rw [hn]
  refine ⟨_, rfl, p, l, 4, rfl, hP1, by decide, by decide, fun e H2 e0 e1 k2 hP2 => ⟨_, _, rfl, rfl, ?_⟩⟩
  obtain ⟨xs0, hp0⟩ := hP2.lst
  refine ⟨_, rfl, n, rfl, by omega, by omega, fun D nD => ?_⟩
  have nDp : D ≠ p := (ne_of_none hp0 nD).symm
  have k12 := k1.trans k2
  refine lc_range (n := (n : Int).toNat) (fun i H3 => ∃ (rs : List Addr) (R : Nat → Nat → Bool), Kp p H2 H3 ∧ Pl K H3 p l ∧ H3 D = some (.lst (rs.map V.ref)) ∧ rs.length = i ∧ rs.Nodup ∧ D ∉ rs ∧ p ∉ rs ∧ ∀ i r, rs[i]? = some r → H3 r = some (.lst (bg R n i)))
    ⟨[], fun _ _ => false, Same.kp (same_new nD), hP2.same (same_new nD), upd_same, rfl, .nil, fun h => (nomatch h), fun h => (nomatch h), fun i r h => (nomatch h)⟩ ?_ ?_
  · rintro i H3 hi ⟨rs, R, k3, hP3, hD3, hl, nod, nD3, np3, hrs⟩
    refine ⟨rfl, _, rfl, n, rfl, by omega, by omega, fun D2 nD2 => ?_⟩
    obtain ⟨xs1, hp1⟩ := hP3.lst
    have nD2p : D2 ≠ p := (ne_of_none hp1 nD2).symm
    have nD2D : D2 ≠ D := (ne_of_none hD3 nD2).symm
    refine lc_range (n := (n : Int).toNat) (fun j H4 => ∃ f : Nat → Bool, Kp p H3 H4 ∧ Pl K H4 p l ∧ H4 D2 = some (.lst ((List.range j).map fun x => V.bl (f x)))) ⟨fun _ => false, Same.kp (same_new nD2), hP3.same (same_new nD2), upd_same⟩ ?_ ?_
    · rintro j H4 hj ⟨f, k4, hP4, hD4⟩
      refine ⟨rfl, _, rfl, p, l, 5, rfl, hP4, by decide, by decide, fun v H5 v0 v1 k5 hP5 => ⟨_, rfl, _, _, rfl, rfl, ?_⟩⟩
      have hD5 := k5 _ _ hD4 nD2p
      refine ⟨_, hD5, (by rw [List.length_map, List.length_range]; exact small1000 (by omega)), fun x => if x = j then decide (v < 1 + e) else f x, (k4.trans k5).under nD2 Kp.upd, hP3.other nD2 hP5 Kp.upd, ?_⟩
      rw [upd_same, rng_snoc V.bl]
    · rintro H4 ⟨f, k4, hP4, hD4⟩
      have hD4' : H4 D2 = some (.lst (bg (fun a b => if a = i then f b else R a b) n i)) := by
        rw [hD4, Int.toNat_natCast]
        unfold bg
        simp
      have hDD := k4 _ _ hD3 nDp
      have nin : D2 ∉ rs := fun hm => by
        obtain ⟨j, hj⟩ := List.getElem?_of_mem hm
        have := hrs j D2 hj
        rw [nD2] at this
        cases this
      refine ⟨_, hDD, (by rw [List.length_map]; exact small1000 (by omega)), rs ++ [D2], fun a b => if a = i then f b else R a b, (k3.trans k4).under nD Kp.upd, hP2.other nD hP4 Kp.upd, ?_, by rw [List.length_append, hl]; rfl, ?_, ?_, ?_, fun a r ha => ?_⟩
      · rw [upd_same, List.map_append]
        rfl
      · refine List.nodup_append.mpr ⟨nod, List.nodup_cons.mpr ⟨fun h => (nomatch h), .nil⟩, fun x hx y hy e => ?_⟩
        rw [List.mem_singleton.mp hy] at e
        exact nin (e ▸ hx)
      · intro hm
        rcases List.mem_append.mp hm with hm | hm
        · exact nD3 hm
        · exact nD2D (List.mem_singleton.mp hm).symm
      · intro hm
        rcases List.mem_append.mp hm with hm | hm
        · exact np3 hm
        · exact nD2p (List.mem_singleton.mp hm).symm
      · have nrD : r ≠ D := by
          intro e
          subst e
          have := List.mem_of_getElem? ha
          rcases List.mem_append.mp this with hm | hm
          · exact nD3 hm
          · exact nD2D (List.mem_singleton.mp hm).symm
        rw [upd_ne nrD]
        by_cases hai : a < rs.length
        · rw [List.getElem?_append_left hai] at ha
          have h1 := hrs a r ha
          have h2 : r ≠ p := fun e => np3 (e ▸ List.mem_of_getElem? ha)
          rw [k4 _ _ h1 h2]
          unfold bg
          simp [show a ≠ i by omega]
        · have e : a = i := by
            have := (List.getElem?_eq_some_iff.mp ha).1
            rw [List.length_append, List.length_singleton] at this
            omega
          subst e
          rw [← hl, List.getElem?_concat_length] at ha
          cases ha
          exact hD4'
  rintro H3 ⟨rs, R, k3, hP3, hD3, hl, nod, nD3, np3, hrs⟩
  rw [Int.toNat_natCast] at hl
  -- the values
  intro d nd
  have hg3 : GridAt H3 D n R := ⟨rs, hD3, hl, nod, nD3, hrs⟩
  have hg4 := hg3.same (same_new (o := .dK []) nd)
  refine ⟨(by show 3 ≤ sizeLine; decide), fun t nt => ⟨t, rfl, ⟨_, SqT.of upd_same⟩, ?_⟩⟩
  have hg5 := hg4.same (same_new (o := .tup [.str "p", .str "q", .str "r"]) nt)
  have hP5 := (hP3.same (same_new (o := .dK []) nd)).same (same_new (o := .tup [.str "p", .str "q", .str "r"]) nt)
  have ndt : d ≠ t := ne_of_none upd_same nt
  have s35 := (same_new (o := .dK []) nd).trans (same_new (o := .tup [.str "p", .str "q", .str "r"]) nt)
  have hd5 : (upd (upd H3 d (.dK [])) t (.tup [.str "p", .str "q", .str "r"])) d = some (.dK []) := by
    rw [upd_ne ndt]
    exact upd_same
  have ht5 : (upd (upd H3 d (.dK [])) t (.tup [.str "p", .str "q", .str "r"])) t = some (.tup [.str "p", .str "q", .str "r"]) := upd_same
  generalize upd (upd H3 d (.dK [])) t (.tup [.str "p", .str "q", .str "r"]) = H5 at hg5 hP5 s35 hd5 ht5
  obtain ⟨xs5, hp5⟩ := hP5.lst
  have ndp : d ≠ p := fun e => by
    rw [e, hp5] at hd5
    cases hd5
  have ntp : t ≠ p := fun e => by
    rw [e, hp5] at ht5
    cases ht5
  have nDd : D ≠ d := ne_of_none hD3 nd
  have nrd : ∀ r ∈ rs, r ≠ d := fun r hr => by
    obtain ⟨i, hi⟩ := List.getElem?_of_mem hr
    exact ne_of_none (hrs i r hi) nd
  refine for_tup (K := K) (a := t) (xs := [.str "p", .str "q", .str "r"]) (fun i σ H6 => ∃ (as : List (Str × Addr)) (W : Str → Nat → Bool) (v6 : Option V), σ = [some (.ref p), some (.int m), some (.int n), some (.int (1 + e)), some (.ref D), some (.ref d), v6, none, none] ∧
      (∀ b o, H5 b = some o → b ≠ p → b ≠ d → H6 b = some o) ∧ Pl K H6 p l ∧ as.map (·.1) = (["p", "q", "r"] : List Str).take i ∧ H6 d = some (.dK (as.map fun x => (.inr x.1, .ref x.2))) ∧ (as.map (·.2)).Nodup ∧ d ∉ as.map (·.2) ∧ p ∉ as.map (·.2) ∧ ∀ x ∈ as, H6 x.2 = some (.lst (sel n (W x.1))))
    ⟨[], fun _ _ => false, none, rfl, fun _ _ h _ _ => h, hP5, rfl, hd5, .nil, fun h => (nomatch h), fun h => (nomatch h), fun x h => (nomatch h)⟩ (fun i σ H6 _ h => by
      obtain ⟨_, _, _, _, h, _⟩ := h
      exact SqT.of (h _ _ ht5 ntp ndt.symm)) ?_ ?_
  · rintro i x σ H6 hx ⟨as, W, v6, rfl, kk, hP6, has, hd6, anod, nda, npa, hva⟩
    obtain ⟨y, rfl, hy⟩ : ∃ y : Str, x = .str y ∧ (["p", "q", "r"] : List Str)[i]? = some y := by
      have e : ([.str "p", .str "q", .str "r"] : List V) = (["p", "q", "r"] : List Str).map V.str := rfl
      rw [e, List.getElem?_map] at hx
      cases hz : (["p", "q", "r"] : List Str)[i]? with
      | none => rw [hz] at hx; cases hx
      | some z =>
        rw [hz] at hx
        exact ⟨z, (Option.some.inj hx).symm, rfl⟩
    have yn : y ∉ as.map (·.1) := by
      rw [has]
      intro hm
      obtain ⟨j, hj⟩ := List.getElem?_of_mem hm
      rw [List.getElem?_take] at hj
      split at hj
      · have nn : (["p", "q", "r"] : List Str).Nodup := by decide +kernel
        have i3 := (List.getElem?_eq_some_iff.mp hy).1
        have := (List.getElem?_inj (by omega) nn).mp (hj.trans hy.symm)
        omega
      · cases hj
    refine ⟨_, rfl, n, rfl, by omega, by omega, fun L nL => ?_⟩
    obtain ⟨xs6, hp6⟩ := hP6.lst
    have nLp : L ≠ p := (ne_of_none hp6 nL).symm
    have nLd : L ≠ d := (ne_of_none hd6 nL).symm
    refine lc_range (n := (n : Int).toNat) (fun j H7 => ∃ f : Nat → Bool, Kp p H6 H7 ∧ Pl K H7 p l ∧ H7 L = some (.lst (sel j f))) ⟨fun _ => false, Same.kp (same_new nL), hP6.same (same_new nL), upd_same⟩ ?_ ?_
    · rintro j H7 hj ⟨f, k7, hP7, hL7⟩
      refine ⟨rfl, _, rfl, p, l, 3, rfl, hP7, by decide, by decide, fun v H8 v0 v1 k8 hP8 => ⟨rfl, _, rfl, ?_⟩⟩
      have hL8 := k8 _ _ hL7 nLp
      refine ite2 (fun c => ?_) (fun c => ?_)
      · refine ⟨_, rfl, _, hL8, Nat.lt_of_le_of_lt (sel_len j f) (small1000 (by omega)), fun x => if x = j then true else f x, (k7.trans k8).under nL Kp.upd, hP6.other nL hP8 Kp.upd, ?_⟩
        rw [upd_same, sel_snoc, if_pos rfl]
        show some (HO.lst (sel j f ++ [V.int (0 + (j : Int))])) = _
        rw [Int.zero_add]
      · refine ⟨fun x => if x = j then false else f x, k7.trans k8, hP8, ?_⟩
        rw [hL8, sel_snoc, if_neg (by decide), List.append_nil]
    · rintro H7 ⟨f, k7, hP7, hL7⟩
      rw [Int.toNat_natCast] at hL7
      have hd7 := k7 _ _ hd6 ndp
      have nLa : L ∉ as.map (·.2) := fun hm => by
        obtain ⟨x, hx, e⟩ := List.mem_map.mp hm
        have := hva x hx
        rw [e, nL] at this
        cases this
      have hle : as.length ≤ 3 := by
        have := congrArg List.length has
        rw [List.length_map, List.length_take] at this
        have : (["p", "q", "r"] : List Str).length = 3 := rfl
        omega
      refine ⟨_, rfl, _, rfl, d, _, rfl, .inl ⟨_, .inr y, hd7, rfl, (by rw [List.length_map]; exact small1000 (by omega)), rfl⟩, ?_⟩
      rw [putK_new _ (valV_none (by
        intro kv hk e
        obtain ⟨x, hx, rfl⟩ := List.mem_map.mp hk
        exact yn (List.mem_map.mpr ⟨x, hx, Sum.inr.inj e⟩)))]
      refine ⟨as ++ [(y, L)], fun z => if z = y then f else W z, _, rfl, fun b o hb h1 h2 => ?_, hP3.other nd hP7 Kp.upd, ?_, ?_, ?_, ?_, ?_, fun x hx => ?_⟩
      · rw [upd_ne h2]
        exact k7 _ _ (kk b o hb h1 h2) h1
      · rw [take_snoc hy, List.map_append, has]
        rfl
      · rw [upd_same, List.map_append]
        rfl
      · rw [List.map_append]
        refine List.nodup_append.mpr ⟨anod, List.nodup_cons.mpr ⟨fun h => (nomatch h), .nil⟩, fun z hz u hu e => nLa ?_⟩
        have e2 : z = L := e.trans (List.mem_singleton.mp hu)
        exact e2 ▸ hz
      · rw [List.map_append]
        intro hm
        rcases List.mem_append.mp hm with hm | hm
        · exact nda hm
        · exact nLd (List.mem_singleton.mp hm).symm
      · rw [List.map_append]
        intro hm
        rcases List.mem_append.mp hm with hm | hm
        · exact npa hm
        · exact nLp (List.mem_singleton.mp hm).symm
      · rcases List.mem_append.mp hx with hx | hx
        · have h1 : x.2 ≠ d := fun e => nda (e ▸ List.mem_map.mpr ⟨x, hx, rfl⟩)
          have h2 : x.2 ≠ p := fun e => npa (e ▸ List.mem_map.mpr ⟨x, hx, rfl⟩)
          have h3 : x.1 ≠ y := fun e => yn (e ▸ List.mem_map.mpr ⟨x, hx, rfl⟩)
          have e9 : (fun z => if z = y then f else W z) x.1 = W x.1 := if_neg h3
          rw [upd_ne h1, k7 _ _ (hva x hx) h2, e9]
        · rw [List.mem_singleton.mp hx]
          have e9 : (fun z => if z = y then f else W z) y = f := if_pos rfl
          show upd H7 d _ L = some (.lst (sel n ((fun z => if z = y then f else W z) y)))
          rw [upd_ne nLd, e9]
          exact hL7
  · rintro σ H6 ⟨as, W, v6, rfl, kk, hP6, has, hd6, anod, nda, npa, hva⟩
    refine ⟨_, rfl, _, rfl, (by show 2 ≤ sizeLine; decide), fun q nq => ?_⟩
    have s7 := same_new (o := .tup [.ref D, .ref d]) nq
    have kall : Kp p H H6 := fun b o hb h1 => by
      have h3 := k3 _ _ (k12 _ _ hb h1) h1
      exact kk b o (s35 _ _ h3) h1 (ne_of_none h3 nd)
    have fr : ∀ {a : Addr} {H0 : Hp}, Kp p H H0 → a ≠ p → H0 a = none → H a = none := fun {a H0} kz h1 h2 => by
      cases e : H a with
      | none => rfl
      | some o =>
        rw [kz _ _ e h1] at h2
        cases h2
    refine k q D d n R W _ (by omega) (by omega) (kall.trans (Same.kp s7)) (hP6.same s7) (fr k12 nDp nD) (fr (k12.trans k3) ndp nd) (SqT.of upd_same) ?_ ?_
    · refine ⟨rs, s7 _ _ (kk _ _ (s35 _ _ hD3) nDp nDd), hl, nod, nD3, fun i r hr => s7 _ _ (kk _ _ (s35 _ _ (hrs i r hr)) ?_ (nrd r (List.mem_of_getElem? hr)))⟩
      intro e
      exact np3 (e ▸ List.mem_of_getElem? hr)
    · exact ⟨as, has, s7 _ _ hd6, anod, nda, fun x hx => s7 _ _ (hva x hx)⟩

/-! ### frames made of rows -/
def pd (x : Nat × Nat) : PyData := .tuple [.int x.1, .int x.2]
def grid (a b : Nat) : List (Nat × Nat) := (List.range a).flatMap fun v => (List.range b).map fun w => (v, w)
theorem grid_succ (a b : Nat) : grid (a + 1) b = grid a b ++ (List.range b).map fun w => (a, w) := by
  unfold grid
  rw [List.range_succ, List.flatMap_append]
  simp
theorem grid_len (a b : Nat) : (grid a b).length = a * b := by
  induction a with
  | zero => simp [grid]
  | succ a ih => rw [grid_succ, List.length_append, ih, List.length_map, List.length_range, Nat.succ_mul]
theorem grid_mem {a b : Nat} {x : Nat × Nat} : x ∈ grid a b ↔ x.1 < a ∧ x.2 < b := by
  unfold grid
  simp only [List.mem_flatMap, List.mem_map, List.mem_range]
  constructor
  · rintro ⟨v, hv, w, hw, rfl⟩
    exact ⟨hv, hw⟩
  · rintro ⟨h1, h2⟩
    exact ⟨x.1, h1, x.2, h2, rfl⟩
theorem im_pd {K : PySem.W.Frag} {H : Hp} {p : Addr} {x : Nat × Nat} (h : H p = some (.tup [.int x.1, .int x.2])) : Im K H (.ref p) (pd x) := .tup (SqT.of h) (.cons (.int _) (.cons (.int _) .nil))
theorem pd_inv {K : PySem.W.Frag} {H : Hp} {v : V} {x : Nat × Nat} (h : Im K H v (pd x)) : ∃ a, v = .ref a ∧ SqT K H a [.int x.1, .int x.2] := by
  unfold pd at h
  cases h with
  | tup h1 h2 =>
    cases h2 with
    | cons h3 h4 =>
      cases h3
      cases h4 with
      | cons h5 h6 =>
        cases h5
        cases h6
        exact ⟨_, rfl, h1⟩
def spGrid (K : PySem.W.Frag) : Sp := fun vs H Q _ => ∃ (a b : Nat), vs = [.int a, .int b] ∧ a ≤ 100 ∧ b ≤ 100 ∧ ∀ (p : Addr) (ys : List V) (H' : Hp), H p = none → Same H H' → H' p = some (.lst ys) → ImAll K H' ys ((grid a b).map pd) → Q (.ref p) H'
theorem ok_law_grid (T : Top K mg) : FnOk P w K mg base CX0 1 T.f_law_grid T.d_law_grid ["first", "second"] (spGrid K) := by
  refine T.F_law_grid.ok sc_law_grid (fun vs H Q E h => ?_) (fun cdv A outer s H vs Q E hr h => ?_)
  · obtain ⟨a, b, rfl, _⟩ := h
    rfl
  obtain ⟨a, b, rfl, ha, hb, k⟩ := h
  refine ⟨_, (pss_cons (ps_set (i := 2) sc_law_grid.nd rfl (.inl rfl) (pe_lst pa_nil))
    (pss_cons (ps_for PassesOwn.never rfl (pi_range1 (by rfl) T.z_range (pa_cons (pv 0) pa_nil)) (pg_name (i := 3) sc_law_grid.nd rfl (.inl rfl))
      (pss_one (ps_for PassesOwn.never rfl (pi_range1 (by rfl) T.z_range (pa_cons (pv 1) pa_nil)) (pg_name (i := 4) sc_law_grid.nd rfl (.inl rfl))
      (pss_one (ps_expr (pe_bm PySem.F.plainAttrs_list PySem.F.slot_list_append PySem.F.type_list_append mt_append (pv 2) (pa_cons (pe_tup (pa_cons (pv 3) (pa_cons (pv 4) pa_nil))) pa_nil)))))))
    (pss_one (ps_ret (pv 2))))), ?_⟩
  refine ⟨Nat.zero_le _, fun d nd => ?_⟩
  refine ⟨_, rfl, a, rfl, by omega, by omega, for_range (n := (a : Int).toNat) (fun i σ H2 => ∃ (v w : Option V) (ys : List V), σ = [some (.int a), some (.int b), some (.ref d), v, w] ∧ Same H H2 ∧ H2 d = some (.lst ys) ∧ ImAll K H2 ys ((grid i b).map pd)) ⟨none, none, [], rfl, same_new nd, upd_same, .nil⟩ ?_ ?_⟩
  · rintro i σ H2 hi ⟨v, w, ys, rfl, s2, hd, iy⟩
    refine ⟨_, rfl, b, rfl, by omega, by omega, for_range (n := (b : Int).toNat) (fun j σ H3 => ∃ (w : Option V) (ys : List V), σ = [some (.int a), some (.int b), some (.ref d), some (.int (0 + (i : Int))), w] ∧ Same H H3 ∧ H3 d = some (.lst ys) ∧ ImAll K H3 ys ((grid i b ++ (List.range j).map fun w => (i, w)).map pd)) ⟨w, ys, rfl, s2, hd, by rw [List.range_zero, List.map_nil, List.append_nil]; exact iy⟩ ?_ ?_⟩
    · rintro j σ H3 hj ⟨w, ys, rfl, s3, hd, iy⟩
      have hl := iy.length
      have hgl := grid_len i b
      have hib : i * b ≤ 100 * 100 := Nat.mul_le_mul (by omega) hb
      rw [List.length_map, List.length_append, List.length_map, List.length_range, hgl] at hl
      refine ⟨_, rfl, .inl ⟨rfl, _, .inl (.inl hd)⟩, _, rfl, _, rfl, (by show 2 ≤ sizeLine; decide), fun q nq => ?_⟩
      have s4 := same_new (o := .tup [.int (0 + (i : Int)), .int (0 + (j : Int))]) nq
      have hd4 := s4 _ _ hd
      refine ⟨d, ys, .ref q, rfl, rfl, hd4, Nat.lt_of_le_of_lt (show ys.length ≤ 20000 by omega) (by decide), _, _, rfl, fun c o hc => ?_, upd_same, ?_⟩
      · rw [upd_ne (ne_of_none hc nd)]
        exact s4 _ _ (s3 _ _ hc)
      · have t : TS (upd H3 q (.tup [.int (0 + (i : Int)), .int (0 + (j : Int))])) (upd (upd H3 q (.tup [.int (0 + (i : Int)), .int (0 + (j : Int))])) d (.lst (ys ++ [.ref q]))) := Kp.ts Kp.upd hd4
        have e9 : (grid i b ++ (List.range (j + 1)).map fun w => (i, w)).map pd = (grid i b ++ (List.range j).map fun w => (i, w)).map pd ++ [pd (i, j)] := by
          rw [List.range_succ]
          simp
        rw [e9]
        refine ((iy.mono (Same.ts s4)).mono t).snoc ((im_pd (x := (i, j)) ?_).mono t)
        show upd H3 q (.tup [.int (0 + (i : Int)), .int (0 + (j : Int))]) q = some (.tup [.int (i : Int), .int (j : Int)])
        rw [upd_same, Int.zero_add, Int.zero_add]
    · rintro σ H3 ⟨w, ys, rfl, s3, hd, iy⟩
      rw [Int.toNat_natCast, ← grid_succ] at iy
      exact ⟨_, _, ys, rfl, s3, hd, iy⟩
  · rintro σ H2 ⟨v, w, ys, rfl, s2, hd, iy⟩
    rw [Int.toNat_natCast] at iy
    exact ⟨_, rfl, k d ys H2 nd s2 hd iy⟩
/-- the pairs of a frame, and the frame -/
def frP (n : Nat) (R : Nat → Nat → Bool) : List (Nat × Nat) := (grid n n).filter fun x => R x.1 x.2
def frD (n : Nat) (ps : List (Nat × Nat)) : PyData := .tuple [.int n, .tuple (ps.map pd)]
theorem atI_i {α : Type} {xs : List α} {j : Nat} {v : α} (h : xs[j]? = some v) : atI xs (j : Int) = some v := atI_nat h
def spFramed (K : PySem.W.Frag) : Sp := fun vs H Q _ => ∃ (s : Addr) (n : Nat) (R : Nat → Nat → Bool), vs = [.ref s] ∧ GridAt H s n R ∧ n ≤ 100 ∧ ∀ (v : V) (H' : Hp), Same H H' → Im K H' v (frD n (frP n R)) → Q v H'
theorem ok_law_framed (T : Top K mg) : FnOk P w K mg base CX0 2 T.f_law_framed T.d_law_framed ["seen"] (spFramed K) := by
  have G_law_grid : FnOk P w K mg base CX0 1 T.f_law_grid T.d_law_grid ["first", "second"] (spGrid K) := ok_law_grid T
  refine T.F_law_framed.ok sc_law_framed (fun vs H Q E h => ?_) (fun cdv A outer s H vs Q E hr h => ?_)
  · obtain ⟨a, n, R, rfl, _⟩ := h
    rfl
  obtain ⟨a, n, R, rfl, hg, hn, k⟩ := h
  refine ⟨_, (pss_cons (ps_set (i := 1) sc_law_framed.nd rfl (.inl rfl) (pe_call G_law_grid (hr.mono (by omega)) (by rfl) T.m_law_grid T.F_law_grid.kp T.b_law_grid .nil pass0 (pa_cons (pe_callB call_len_seq (by rfl) T.z_len PySem.boot_len (pa_cons (pv 0) pa_nil)) (pa_cons (pe_callB call_len_seq (by rfl) T.z_len PySem.boot_len (pa_cons (pv 0) pa_nil)) pa_nil))))
    (pss_one (ps_ret (pe_tup (pa_cons (pe_callB call_len_seq (by rfl) T.z_len PySem.boot_len (pa_cons (pv 0) pa_nil)) (pa_cons (pe_callTy call_tuple_of (by rfl) T.z_tuple (by decide +kernel) (pa_cons (pe_lc (own := [("pair", 2)]) (g := gName 2) (tt := (tB (tOp (rIxL K) (tOp (rIxL K) _ (tOp (rIxT K) _ _)) (tOp (rIxT K) _ _)))) rfl sc_law_framed.nd (pi_list (pv 1)) (blkOk_by (N := ["seen", "pairs", "pair"]) (sc := defScope s_law_framed) (by decide +kernel)) (fun _ _ _ _ _ => pg_name (i := 2) sc_law_framed.nd rfl (Or.inl rfl)) (fun _ _ _ _ _ => pts_one (pt_val (pe_ix ix_list (pe_ix ix_list (pv 0) (pe_ix ix_tup (pv 2) pe_int (fun _ _ => rfl)) (fun _ _ => rfl)) (pe_ix ix_tup (pv 2) pe_int (fun _ _ => rfl)) (fun _ _ => rfl)))) (fun _ _ _ _ _ => (pv 2))) pa_nil)) pa_nil)))))), ?_⟩
  obtain ⟨rs, h1, h2, h3, h4, h5⟩ := hg
  have el : ((rs.map V.ref).length : Int) = (n : Int) := by rw [List.length_map, h2]
  refine ⟨_, rfl, a, _, rfl, .inl (SqL.of h1), _, rfl, a, _, rfl, .inl (SqL.of h1), ?_⟩
  rw [el]
  refine ⟨n, n, rfl, hn, hn, fun p ys H1 np s1 hp iy => ?_⟩
  refine ⟨_, rfl, a, _, rfl, .inl (SqL.of (s1 _ _ h1)), _, rfl, p, rfl, ⟨_, SqL.of hp⟩, fun D nD => ?_⟩
  rw [el]
  have hyl := iy.length
  rw [List.length_map] at hyl
  refine lc_list (K := K) (a := p) (xs := ys) (fun i H2 => ∃ us : List V, Same H1 H2 ∧ H2 D = some (.lst us) ∧ ImAll K H2 us ((((grid n n).take i).filter fun x => R x.1 x.2).map pd)) ⟨[], same_new nD, upd_same, .nil⟩ (fun i H2 _ h => by
    obtain ⟨_, s2, _⟩ := h
    exact SqL.of (s2 _ _ hp)) ?_ ?_
  · rintro i y H2 hy ⟨us, s2, hD, iu⟩
    obtain ⟨d, gd, idd⟩ := iy.get hy
    rw [List.getElem?_map] at gd
    cases hx : (grid n n)[i]? with
    | none => rw [hx] at gd; cases gd
    | some x =>
      rw [hx] at gd
      have ed : d = pd x := (Option.some.inj gd).symm
      subst ed
      have idd2 := idd.mono (Same.ts s2)
      obtain ⟨q, rfl, hq⟩ := pd_inv idd2
      have hxm := grid_mem.mp (List.mem_of_getElem? hx)
      have s12 := s1.trans s2
      obtain ⟨r, hr1⟩ : ∃ r, rs[x.1]? = some r := ⟨_, List.getElem?_eq_getElem (by omega)⟩
      have hrow := s12 _ _ (h5 x.1 r hr1)
      refine ⟨rfl, _, rfl, _, rfl, q, _, 0, _, rfl, rfl, hq, atI_nat (j := 0) rfl, a, _, x.1, .ref r, rfl, rfl, SqL.of (s12 _ _ h1), atI_nat (by rw [List.getElem?_map, hr1]; rfl), _, rfl, q, _, 1, _, rfl, rfl, hq, atI_nat (j := 1) rfl, ?_⟩
      refine ⟨r, _, x.2, .bl (R x.1 x.2), rfl, rfl, SqL.of hrow, atI_nat (by unfold bg; rw [List.getElem?_map, List.getElem?_range hxm.2]; rfl), _, rfl, ?_⟩
      rw [take_snoc hx, List.filter_append, List.map_append]
      have hul := iu.length
      rw [List.length_map] at hul
      have hgl := grid_len n n
      have hnn : n * n ≤ 100 * 100 := Nat.mul_le_mul hn hn
      cases hR : R x.1 x.2 with
      | true =>
        refine iteT ⟨_, rfl, us, hD, Nat.lt_of_le_of_lt (show us.length ≤ 10000 from ?_) (by decide), us ++ [.ref q], fun c o hc => ?_, upd_same, ?_⟩
        · rw [hul]
          refine Nat.le_trans (List.length_filter_le _ _) ?_
          rw [List.length_take]
          omega
        · rw [upd_ne (ne_of_none hc nD)]
          exact s2 _ _ hc
        · rw [show [x].filter (fun x => R x.1 x.2) = [x] by rw [List.filter_cons, if_pos hR]; rfl]
          exact (iu.mono (Kp.upd.ts hD)).snoc (idd2.mono (Kp.upd.ts hD))
      | false =>
        refine iteF ⟨us, s2, hD, ?_⟩
        rw [show [x].filter (fun x => R x.1 x.2) = [] by rw [List.filter_cons, if_neg (by rw [hR]; decide)]; rfl, List.map_nil, List.append_nil]
        exact iu
  · rintro H2 ⟨us, s2, hD, iu⟩
    rw [hyl, List.take_length] at iu
    refine ⟨D, us, rfl, .inl ⟨SqL.of hD, fun q nq => ⟨(by show 2 ≤ sizeLine; decide), fun t nt => ?_⟩⟩⟩
    have s3 := same_new (o := .tup us) nq
    have s4 := same_new (o := .tup [.int n, .ref q]) nt
    exact k _ _ (((s1.trans s2).trans s3).trans s4) (.tup (SqT.of upd_same) (.cons (.int _) (.cons (.tup (SqT.of (s4 _ _ upd_same)) (iu.mono (Same.ts (s3.trans s4)))) .nil)))

/-! ### rows of a frame -/
/-- a dict of lists of worlds -/
def RowsAt (H : Hp) (D : Addr) (as : List (Nat × Addr)) (succ : Nat → List Nat) : Prop :=
  H D = some (.dK (as.map fun x => (.inl (x.1 : Int), .ref x.2))) ∧ (as.map (·.1)).Nodup ∧ (as.map (·.2)).Nodup ∧ D ∉ as.map (·.2) ∧ ∀ x ∈ as, H x.2 = some (.lst ((succ x.1).map fun w : Nat => V.int w))
def sucs (ps : List (Nat × Nat)) (v : Nat) : List Nat := (ps.filter fun x => decide (x.1 = v)).map (·.2)
theorem im_fr {K : PySem.W.Frag} {H : Hp} {x : V} {n : Nat} {ps : List (Nat × Nat)} (h : Im K H x (frD n ps)) : ∃ (a b : Addr) (ys : List V), x = .ref a ∧ SqT K H a [.int n, .ref b] ∧ SqT K H b ys ∧ ImAll K H ys (ps.map pd) := by
  unfold frD at h
  cases h with
  | tup h1 h2 =>
    cases h2 with
    | cons h3 h4 =>
      cases h3
      cases h4 with
      | cons h5 h6 =>
        cases h6
        cases h5 with
        | tup h7 h8 => exact ⟨_, _, _, rfl, h1, h7, h8⟩
theorem sucs_snoc (ps : List (Nat × Nat)) (x : Nat × Nat) (v : Nat) : sucs (ps ++ [x]) v = sucs ps v ++ if x.1 = v then [x.2] else [] := by
  unfold sucs
  rw [List.filter_append, List.map_append, List.filter_cons]
  by_cases e : x.1 = v
  · rw [if_pos (decide_eq_true e), if_pos e]
    rfl
  · rw [if_neg (by rw [decide_eq_true_eq]; exact e), if_neg e]
    rfl
theorem valV_at {as : List (Nat × Addr)} (nd : (as.map (·.1)).Nodup) {x : Nat × Addr} (hx : x ∈ as) : valV (as.map fun x => ((.inl (x.1 : Int) : Key), V.ref x.2)) (.inl (x.1 : Int)) = some (.ref x.2) := by
  unfold valV
  induction as with
  | nil => cases hx
  | cons y as ih =>
    rw [List.map_cons, List.find?_cons]
    by_cases e : y.1 = x.1
    · have : y = x := by
        rcases List.mem_cons.mp hx with rfl | hx
        · rfl
        · exact absurd (List.mem_map.mpr ⟨x, hx, e.symm⟩) (List.nodup_cons.mp nd).1
      subst this
      rw [show decide (((Sum.inl (y.1 : Int) : Key), V.ref y.2).1 = (.inl (y.1 : Int) : Key)) = true from decide_eq_true rfl]
      rfl
    · rw [show decide (((Sum.inl (y.1 : Int) : Key), V.ref y.2).1 = (.inl (x.1 : Int) : Key)) = false from decide_eq_false (fun q => e (Int.ofNat.inj (Sum.inl.inj q)))]
      rcases List.mem_cons.mp hx with rfl | hx
      · exact absurd rfl e
      · exact ih (List.nodup_cons.mp nd).2 hx
theorem valV_off {as : List (Nat × Addr)} {v : Nat} (h : v ∉ as.map (·.1)) : valV (as.map fun x => ((.inl (x.1 : Int) : Key), V.ref x.2)) (.inl (v : Int)) = none := valV_none (by
  intro kv hk e
  obtain ⟨x, hx, rfl⟩ := List.mem_map.mp hk
  exact h (List.mem_map.mpr ⟨x, hx, Int.ofNat.inj (Sum.inl.inj e)⟩))
def spRows (K : PySem.W.Frag) : Sp := fun vs H Q _ => ∃ (x : V) (n : Nat) (ps : List (Nat × Nat)), vs = [x] ∧ Im K H x (frD n ps) ∧ ps.length ≤ 10000 ∧
  ∀ (D : Addr) (as : List (Nat × Addr)) (H' : Hp), H D = none → Same H H' → RowsAt H' D as (sucs ps) → (∀ v, v ∈ as.map (·.1) ↔ ∃ w, (v, w) ∈ ps) → (∀ x ∈ as, H x.2 = none) → Q (.ref D) H'
theorem ok_rows_of (T : Top K mg) : FnOk P w K mg base CX0 1 T.f_rows_of T.d_rows_of ["frame"] (spRows K) := by
  refine T.F_rows_of.ok sc_rows_of (fun vs H Q E h => ?_) (fun cdv A outer s H vs Q E hr h => ?_)
  · obtain ⟨x, n, ps, rfl, _⟩ := h
    rfl
  obtain ⟨x, n, ps, rfl, hx, hps, k⟩ := h
  have hu64 := hr.units
  have hu := Nat.lt_of_le_of_lt (Nat.add_le_add_left (by decide : 1 ≤ 64) _) hu64
  refine ⟨_, (pss_cons (ps_set (i := 1) sc_rows_of.nd rfl (.inl rfl) pe_dnewK)
    (pss_cons (ps_for PassesOwn.never rfl (pi_tup (pe_ix ix_tup (pv 0) pe_int (fun _ _ => rfl))) (pg_tup rfl (pgs_cons (pg_name (i := 2) sc_rows_of.nd rfl (.inl rfl)) (pgs_cons (pg_name (i := 3) sc_rows_of.nd rfl (.inl rfl)) pgs_nil)))
      (pss_one (ps_expr (pe_bm PySem.F.plainAttrs_list PySem.F.slot_list_append PySem.F.type_list_append mt_append (pe_dsetd (pv 1) (pv 2) (pe_lst pa_nil) ⟨rfl, rfl, rfl, rfl⟩) (pa_cons (pv 3) pa_nil)))))
    (pss_one (ps_ret (pv 1))))), ?_⟩
  obtain ⟨a, b, ys, rfl, h1, h2, h3⟩ := im_fr hx
  intro D nD
  have s1 := same_new (o := .dK []) nD
  have hyl := h3.length
  rw [List.length_map] at hyl
  refine ⟨_, rfl, a, _, 1, .ref b, rfl, rfl, (Same.ts s1).sqT h1, atI_nat (j := 1) rfl, b, rfl, ⟨ys, (Same.ts s1).sqT h2⟩, for_tup (K := K) (a := b) (xs := ys) (fun i σ H2 => ∃ (as : List (Nat × Addr)) (v w : Option V), σ = [some (.ref a), some (.ref D), v, w] ∧ Same H H2 ∧ RowsAt H2 D as (sucs (ps.take i)) ∧ (∀ v, v ∈ as.map (·.1) ↔ ∃ w, (v, w) ∈ ps.take i) ∧ (∀ x ∈ as, H x.2 = none) ∧ as.length ≤ i)
    ⟨[], none, none, rfl, s1, ⟨upd_same, .nil, .nil, fun h => (nomatch h), fun x h => (nomatch h)⟩, fun v => ⟨fun h => (nomatch h), fun ⟨w, h⟩ => (nomatch h)⟩, fun x h => (nomatch h), Nat.le_refl _⟩ (fun i σ H2 _ h => by
      obtain ⟨_, _, _, _, h, _⟩ := h
      exact (Same.ts h).sqT h2) ?_ ?_⟩
  · rintro i y σ H2 hy ⟨as, ov, ow, rfl, s2, hR, hks, hfr, hal⟩
    obtain ⟨d, gd, idd⟩ := h3.get hy
    rw [List.getElem?_map] at gd
    cases hz : ps[i]? with
    | none => rw [hz] at gd; cases gd
    | some z =>
      rw [hz] at gd
      have ed : d = pd z := (Option.some.inj gd).symm
      subst ed
      obtain ⟨q, rfl, hq⟩ := pd_inv (idd.mono (Same.ts s2))
      obtain ⟨g1, g2, g3, g4, g5⟩ := hR
      have hi : i < ps.length := (List.getElem?_eq_some_iff.mp hz).1
      refine ⟨q, _, rfl, hq, rfl, _, _, rfl, _, _, rfl, rfl, ?_⟩
      refine ⟨_, rfl, D, rfl, .inl ⟨_, .inl g1⟩, _, rfl, (by show 0 ≤ sizeLine; decide), fun L nL => ?_⟩
      have s3 := same_new (o := .lst []) nL
      have nDL : D ≠ L := ne_of_none g1 nL
      have g1' := s3 _ _ g1
      have hsn : ∀ v, sucs (ps.take (i + 1)) v = sucs (ps.take i) v ++ if z.1 = v then [z.2] else [] := fun v => by rw [take_snoc hz, sucs_snoc]
      have hmem : ∀ v w, (v, w) ∈ ps.take (i + 1) ↔ (v, w) ∈ ps.take i ∨ (v, w) = z := fun v w => by
        rw [take_snoc hz, List.mem_append, List.mem_singleton]
      have sl : ∀ v, (sucs (ps.take i) v).length ≤ 10000 := fun v => by
        unfold sucs
        rw [List.length_map]
        refine Nat.le_trans (List.length_filter_le _ _) ?_
        rw [List.length_take]
        omega
      refine ⟨_, .inl (z.1 : Int), g1', rfl, (by rw [List.length_map]; exact Nat.lt_of_le_of_lt (show as.length ≤ 10000 by omega) (by decide)), fun u hu2 => ?_, fun hn => ?_⟩
      -- there is a row
      · obtain ⟨x, hx, hx1⟩ : ∃ x ∈ as, x.1 = z.1 := by
          refine Classical.byContradiction fun hno => ?_
          rw [valV_off (fun hm => hno (by
            obtain ⟨x, hx, e⟩ := List.mem_map.mp hm
            exact ⟨x, hx, e⟩))] at hu2
          cases hu2
        have hv := valV_at g2 hx
        rw [hx1] at hv
        have eu : u = .ref x.2 := Option.some.inj (hu2.symm.trans hv)
        subst eu
        have hrow := s3 _ _ (g5 x hx)
        refine ⟨.inl ⟨rfl, _, .inl (.inl hrow)⟩, _, rfl, x.2, _, _, rfl, rfl, hrow, Nat.lt_of_le_of_lt (show _ ≤ 10000 by rw [List.length_map]; exact sl _) (by decide), ?_⟩
        have nx : ∀ y ∈ as, y ≠ x → y.2 ≠ x.2 := fun y hy hne e => hne (by
          obtain ⟨j, hj⟩ := List.getElem?_of_mem hy
          obtain ⟨l, hl⟩ := List.getElem?_of_mem hx
          have := (List.getElem?_inj (i := j) (j := l) (by rw [List.length_map]; exact (List.getElem?_eq_some_iff.mp hj).1) g3).mp (by rw [List.getElem?_map, List.getElem?_map, hj, hl]; exact congrArg some e)
          subst this
          exact Option.some.inj (hj.symm.trans hl))
        refine ⟨as, _, _, rfl, fun c o hc => ?_, ⟨?_, g2, g3, g4, fun y hy => ?_⟩, fun v => ?_, hfr, by omega⟩
        · have : c ≠ x.2 := ne_of_none hc (hfr x hx)
          rw [upd_ne this]
          exact s3 _ _ (s2 _ _ hc)
        · rw [upd_ne (show D ≠ x.2 from fun e => g4 (by rw [e]; exact List.mem_map.mpr ⟨x, hx, rfl⟩))]
          exact g1'
        · by_cases e : y = x
          · subst e
            rw [upd_same, hsn, if_pos hx1.symm, List.map_append]
            rfl
          · have ne1 : z.1 ≠ y.1 := fun q => e (by
              obtain ⟨j, hj⟩ := List.getElem?_of_mem hy
              obtain ⟨l, hl⟩ := List.getElem?_of_mem hx
              have := (List.getElem?_inj (i := j) (j := l) (by rw [List.length_map]; exact (List.getElem?_eq_some_iff.mp hj).1) g2).mp (by rw [List.getElem?_map, List.getElem?_map, hj, hl]; exact congrArg some (q.symm.trans hx1.symm))
              subst this
              exact Option.some.inj (hj.symm.trans hl))
            rw [upd_ne (nx y hy e), hsn, if_neg ne1, List.append_nil]
            exact s3 _ _ (g5 y hy)
        · rw [hks]
          constructor
          · rintro ⟨w, hw⟩
            exact ⟨w, (hmem v w).mpr (.inl hw)⟩
          · rintro ⟨w, hw⟩
            rcases (hmem v w).mp hw with hw | hw
            · exact ⟨w, hw⟩
            · have : v = x.1 := by rw [hx1, ← hw]
              rw [this]
              exact (hks x.1).mp (List.mem_map.mpr ⟨x, hx, rfl⟩)
      -- a new row
      · have hoff : z.1 ∉ as.map (·.1) := fun hm => by
          obtain ⟨x, hx, e⟩ := List.mem_map.mp hm
          have := valV_at g2 hx
          rw [e, hn] at this
          cases this
        have nLa : L ∉ as.map (·.2) := fun hm => by
          obtain ⟨x, hx, e⟩ := List.mem_map.mp hm
          have := g5 x hx
          rw [e, nL] at this
          cases this
        have hL4 : (upd (upd H2 L (.lst [])) D (.dK (putK (as.map fun x => ((.inl (x.1 : Int) : Key), V.ref x.2)) (.inl (z.1 : Int)) (.ref L)))) L = some (.lst []) := by
          rw [upd_ne nDL.symm]
          exact upd_same
        refine ⟨.inl ⟨rfl, _, .inl (.inl hL4)⟩, _, rfl, L, _, _, rfl, rfl, hL4, by show 0 < sizeLine; decide, ?_⟩
        have e0 : sucs (ps.take i) z.1 = [] := by
          unfold sucs
          rw [List.map_eq_nil_iff, List.filter_eq_nil_iff]
          intro x hx q
          exact hoff ((hks z.1).mpr ⟨x.2, by
            have : x.1 = z.1 := of_decide_eq_true q
            rw [← this]
            exact hx⟩)
        refine ⟨as ++ [(z.1, L)], _, _, rfl, fun c o hc => ?_, ⟨?_, ?_, ?_, ?_, fun y hy => ?_⟩, fun v => ?_, fun y hy => ?_, by rw [List.length_append, List.length_singleton]; omega⟩
        · have c2 := s2 _ _ hc
          rw [upd_ne (ne_of_none c2 nL), upd_ne (ne_of_none hc nD)]
          exact s3 _ _ c2
        · rw [upd_ne nDL, upd_same, putK_new _ hn, List.map_append]
          rfl
        · rw [List.map_append]
          refine List.nodup_append.mpr ⟨g2, List.nodup_cons.mpr ⟨fun h => (nomatch h), .nil⟩, fun c hc u hu e => hoff ?_⟩
          have e2 : c = z.1 := e.trans (List.mem_singleton.mp hu)
          exact e2 ▸ hc
        · rw [List.map_append]
          refine List.nodup_append.mpr ⟨g3, List.nodup_cons.mpr ⟨fun h => (nomatch h), .nil⟩, fun c hc u hu e => nLa ?_⟩
          have e2 : c = L := e.trans (List.mem_singleton.mp hu)
          exact e2 ▸ hc
        · rw [List.map_append]
          intro hm
          rcases List.mem_append.mp hm with hm | hm
          · exact g4 hm
          · exact nDL (List.mem_singleton.mp hm)
        · rcases List.mem_append.mp hy with hy | hy
          · have n1 : y.2 ≠ L := fun e => nLa (e ▸ List.mem_map.mpr ⟨y, hy, rfl⟩)
            have n2 : y.2 ≠ D := fun e => g4 (e ▸ List.mem_map.mpr ⟨y, hy, rfl⟩)
            have n3 : z.1 ≠ y.1 := fun e => hoff (e ▸ List.mem_map.mpr ⟨y, hy, rfl⟩)
            rw [upd_ne n1, upd_ne n2, hsn, if_neg n3, List.append_nil]
            exact s3 _ _ (g5 y hy)
          · rw [List.mem_singleton.mp hy]
            show upd _ L _ L = _
            rw [upd_same, hsn, e0, if_pos rfl]
            rfl
        · rw [List.map_append, List.mem_append, hks]
          constructor
          · rintro (⟨w, hw⟩ | hw)
            · exact ⟨w, (hmem v w).mpr (.inl hw)⟩
            · have : v = z.1 := List.mem_singleton.mp hw
              exact ⟨z.2, (hmem v z.2).mpr (.inr (by rw [this]))⟩
          · rintro ⟨w, hw⟩
            rcases (hmem v w).mp hw with hw | hw
            · exact .inl ⟨w, hw⟩
            · refine .inr (List.mem_singleton.mpr ?_)
              show v = z.1
              rw [← hw]
        · rcases List.mem_append.mp hy with hy | hy
          · exact hfr y hy
          · rw [List.mem_singleton.mp hy]
            exact s2.free nL
  · rintro σ H2 ⟨as, ov, ow, rfl, s2, hR, hks, hfr, _⟩
    rw [hyl, List.take_length] at hR hks
    exact ⟨_, rfl, k D as H2 nD s2 hR hks hfr⟩

section
variable {K : PySem.W.Frag} {σ : L2.St} {H : Hp}
theorem or_bl {ta tb : TE} {c d : Bool} {Q : VK} (ha : ∀ Q : VK, Q (.bl c) H → ta σ H Q) (hb : ∀ Q : VK, Q (.bl d) H → tb σ H Q) (q : Q (.bl (c || d)) H) : tOrV ta tb σ H Q := by
  refine ha _ ⟨c, rfl, ?_⟩
  cases c with
  | true => exact iteT q
  | false => exact iteF (hb _ q)
theorem and_bl {ta tb : TE} {c d : Bool} {Q : VK} (ha : ∀ Q : VK, Q (.bl c) H → ta σ H Q) (hb : ∀ Q : VK, Q (.bl d) H → tb σ H Q) (q : Q (.bl (c && d)) H) : tAndV ta tb σ H Q := by
  refine ha _ ⟨c, rfl, ?_⟩
  cases c with
  | true => exact iteT (hb _ q)
  | false => exact iteF q
end

/-! ### what a frame is -/
theorem zd_inv {K : PySem.W.Frag} {H : Hp} {v : V} {x : Int × Int} (h : Im K H v (zd x)) : ∃ a, v = .ref a ∧ SqT K H a [.int x.1, .int x.2] := by
  unfold zd at h
  cases h with
  | tup h1 h2 =>
    cases h2 with
    | cons h3 h4 =>
      cases h3
      cases h4 with
      | cons h5 h6 =>
        cases h5
        cases h6
        exact ⟨_, rfl, h1⟩
def spInt (K : PySem.W.Frag) : Sp := fun vs H Q _ => ∃ i : Int, vs = [.int i] ∧ Q (.bl true) H
theorem ok_is_integer (T : Top K mg) : FnOk P w K mg base CX0 1 T.f_is_integer T.d_is_integer ["value"] (spInt K) := by
  refine T.F_is_integer.ok sc_is_integer (fun vs H Q E h => ?_) (fun cdv A outer s H vs Q E hr h => ?_)
  · obtain ⟨i, rfl, _⟩ := h
    rfl
  obtain ⟨i, rfl, k⟩ := h
  refine ⟨_, (pss_one (ps_ret (pe_and (pe_callB call_isi (by rfl) T.z_isinstance (by decide +kernel) (pa_cons (pv 0) (pa_cons (pe_bltn (v := .ty "int") (by rfl) T.z_int (by decide +kernel) rfl) pa_nil))) (pe_one (pe_not (pe_callB call_isi (by rfl) T.z_isinstance (by decide +kernel) (pa_cons (pv 0) (pa_cons (pe_bltn (v := .ty "bool") (by rfl) T.z_bool (by decide +kernel) rfl) pa_nil)))))))), ?_⟩
  have t : TyX K H (.int i) (.type "int") := .base (.int i)
  refine ⟨_, rfl, _, _, _, _, _, rfl, .ty _, t, kB true (by decide +kernel), true, rfl, iteT ⟨_, rfl, _, _, _, _, _, rfl, .ty _, t, kB false (by decide +kernel), _, rfl, k⟩⟩
theorem st_chain {σ : L2.St} {H : Hp} {Q : VK} {i j : Nat} {v wn : Int} (h1 : σ[i]? = some (some (.int v))) (h2 : σ[j]? = some (some (.int wn))) (q : Q (.bl (decide (0 ≤ v) && decide (v < wn))) H) :
    tChain (rI0 fun i j => .bl (decide (i ≤ j))) (rI0 fun i j => .bl (decide (i < j))) (tC (.int 0)) (tVar i) (tVar j) σ H Q := by
  refine ⟨_, h1, 0, v, rfl, rfl, _, rfl, ?_⟩
  cases hd : decide (0 ≤ v) with
  | true =>
    rw [hd] at q
    exact iteT ⟨_, h2, v, wn, rfl, rfl, q⟩
  | false =>
    rw [hd] at q
    exact iteF q
def okP (wn : Int) (z : Int × Int) : Bool := (decide (0 ≤ z.1) && decide (z.1 < wn)) && (decide (0 ≤ z.2) && decide (z.2 < wn))
def spPair (K : PySem.W.Frag) : Sp := fun vs H Q _ => ∃ (x : V) (z : Int × Int) (wn : Int), vs = [x, .int wn] ∧ Im K H x (zd z) ∧ Q (.bl (okP wn z)) H
theorem ok_is_pair (T : Top K mg) : FnOk P w K mg base CX0 2 T.f_is_pair T.d_is_pair ["pair", "worlds"] (spPair K) := by
  have G_is_integer : FnOk P w K mg base CX0 1 T.f_is_integer T.d_is_integer ["value"] (spInt K) := ok_is_integer T
  refine T.F_is_pair.ok sc_is_pair (fun vs H Q E h => ?_) (fun cdv A outer s H vs Q E hr h => ?_)
  · obtain ⟨x, z, wn, rfl, _⟩ := h
    rfl
  obtain ⟨x, z, wn, rfl, hx, k⟩ := h
  refine ⟨_, (pss_cons (ps_if (PW.pt (pw_or (pt_not (pt_val (pe_callB call_isi (by rfl) T.z_isinstance (by decide +kernel) (pa_cons (pv 0) (pa_cons (pe_bltn (v := .ty "tuple") (by rfl) T.z_tuple (by decide +kernel) rfl) pa_nil))))) (pw_or1 (pt_cmpR op_ne (pe_callB call_len_seq (by rfl) T.z_len PySem.boot_len (pa_cons (pv 0) pa_nil)) pe_int (nomark _)))))
      (pss_one (ps_ret pe_bl))
      pss_nil)
    (pss_cons (ps_asg (pv 0) (pg_tup rfl (pgs_cons (pg_name (i := 2) sc_is_pair.nd rfl (.inl rfl)) (pgs_cons (pg_name (i := 3) sc_is_pair.nd rfl (.inl rfl)) pgs_nil))))
    (pss_one (ps_ret (pe_and (pe_call G_is_integer (hr.mono (by omega)) (by rfl) T.m_is_integer T.F_is_integer.kp T.b_is_integer .nil pass0 (pa_cons (pv 2) pa_nil)) (pe_and (pe_call G_is_integer (hr.mono (by omega)) (by rfl) T.m_is_integer T.F_is_integer.kp T.b_is_integer .nil pass0 (pa_cons (pv 3) pa_nil)) (pe_and (pe_chain op_le op_lt pe_int (pv 2) (pv 1)) (pe_one (pe_chain op_le op_lt pe_int (pv 3) (pv 1)))))))))), ?_⟩
  obtain ⟨a, rfl, ha⟩ := zd_inv hx
  have t := ty_tup ha
  refine ⟨_, rfl, _, _, _, _, _, rfl, .ty _, t, kB true (by decide +kernel), _, rfl, iteF ?_⟩
  refine ⟨_, rfl, a, _, rfl, .inr ha, rfl, _, rfl, iteNS rfl ?_⟩
  refine ⟨_, rfl, a, _, rfl, ha, rfl, _, _, rfl, _, _, rfl, rfl, ?_⟩
  dsimp only [tRet]
  refine and_bl (c := true) (d := okP wn z) (fun Q q => ⟨_, rfl, _, rfl, q⟩) (fun Q q => and_bl (c := true) (d := okP wn z) (fun Q q => ⟨_, rfl, _, rfl, q⟩) (fun Q q => and_bl (fun Q q => st_chain rfl rfl q) (fun Q q => st_chain rfl rfl q) q) q) ?_
  exact k
def FrOk (wn : Int) (zs : List (Int × Int)) : Prop := 1 ≤ wn ∧ (∀ z ∈ zs, okP wn z = true) ∧ ∀ k z u, zs[k]? = some z → zs[k + 1]? = some u → zlt z u = true
def frZ (wn : Int) (zs : List (Int × Int)) : PyData := .tuple [.int wn, .tuple (zs.map zd)]
theorem im_frZ {K : PySem.W.Frag} {H : Hp} {x : V} {n : Int} {ps : List (Int × Int)} (h : Im K H x (frZ n ps)) : ∃ (a b : Addr) (ys : List V), x = .ref a ∧ SqT K H a [.int n, .ref b] ∧ SqT K H b ys ∧ ImAll K H ys (ps.map zd) := by
  unfold frZ at h
  cases h with
  | tup h1 h2 =>
    cases h2 with
    | cons h3 h4 =>
      cases h3
      cases h4 with
      | cons h5 h6 =>
        cases h6
        cases h5 with
        | tup h7 h8 => exact ⟨_, _, _, rfl, h1, h7, h8⟩
def spIsFrame (K : PySem.W.Frag) : Sp := fun vs H Q _ => ∃ (x : V) (wn : Int) (zs : List (Int × Int)), vs = [x] ∧ Im K H x (frZ wn zs) ∧ zs.length ≤ 1000 ∧ ∀ b : Bool, (b = true ↔ FrOk wn zs) → Q (.bl b) H
theorem ok_is_frame (T : Top K mg) : FnOk P w K mg base CX0 3 T.f_is_frame T.d_is_frame ["frame"] (spIsFrame K) := by
  have G_is_integer : FnOk P w K mg base CX0 1 T.f_is_integer T.d_is_integer ["value"] (spInt K) := ok_is_integer T
  have G_is_pair : FnOk P w K mg base CX0 2 T.f_is_pair T.d_is_pair ["pair", "worlds"] (spPair K) := ok_is_pair T
  refine T.F_is_frame.ok sc_is_frame (fun vs H Q E h => ?_) (fun cdv A outer s H vs Q E hr h => ?_)
  · obtain ⟨x, n, ps, rfl, _⟩ := h
    rfl
  obtain ⟨x, wn, zs, rfl, hx, hl, k⟩ := h
  have hu64 := hr.units
  refine ⟨_, (pss_cons (ps_if (PW.pt (pw_or (pt_not (pt_val (pe_callB call_isi (by rfl) T.z_isinstance (by decide +kernel) (pa_cons (pv 0) (pa_cons (pe_bltn (v := .ty "tuple") (by rfl) T.z_tuple (by decide +kernel) rfl) pa_nil))))) (pw_or1 (pt_cmpR op_ne (pe_callB call_len_seq (by rfl) T.z_len PySem.boot_len (pa_cons (pv 0) pa_nil)) pe_int (nomark _)))))
      (pss_one (ps_ret pe_bl))
      pss_nil)
    (pss_cons (ps_asg (pv 0) (pg_tup rfl (pgs_cons (pg_name (i := 1) sc_is_frame.nd rfl (.inl rfl)) (pgs_cons (pg_name (i := 2) sc_is_frame.nd rfl (.inl rfl)) pgs_nil))))
    (pss_cons (ps_if (PW.pt (pw_or (pt_not (pt_val (pe_call G_is_integer (hr.mono (by omega)) (by rfl) T.m_is_integer T.F_is_integer.kp T.b_is_integer .nil pass0 (pa_cons (pv 1) pa_nil)))) (pw_or (pt_cmpR op_lt (pv 1) pe_int (nomark _)) (pw_or1 (pt_not (pt_val (pe_callB call_isi (by rfl) T.z_isinstance (by decide +kernel) (pa_cons (pv 2) (pa_cons (pe_bltn (v := .ty "tuple") (by rfl) T.z_tuple (by decide +kernel) rfl) pa_nil)))))))))
      (pss_one (ps_ret pe_bl))
      pss_nil)
    (pss_cons (ps_for PassesOwn.never rfl (pi_tup (pv 2)) (pg_name (i := 3) sc_is_frame.nd rfl (.inl rfl))
      (pss_one (ps_if (pt_not (pt_val (pe_call G_is_pair (hr.mono (by omega)) (by rfl) T.m_is_pair T.F_is_pair.kp T.b_is_pair .nil pass0 (pa_cons (pv 3) (pa_cons (pv 1) pa_nil)))))
      (pss_one (ps_ret pe_bl))
      pss_nil)))
    (pss_cons (ps_for PassesOwn.never rfl (pi_range2 (by rfl) T.z_range (pa_cons pe_int (pa_cons (pe_callB call_len_seq (by rfl) T.z_len PySem.boot_len (pa_cons (pv 2) pa_nil)) pa_nil))) (pg_name (i := 4) sc_is_frame.nd rfl (.inl rfl))
      (pss_one (ps_if (pt_cmpR (op_geZ hu64) (pe_ix ix_tup (pv 2) (pe_op op_sub (pv 4) pe_int) (fun _ _ => rfl)) (pe_ix ix_tup (pv 2) (pv 4) (fun _ _ => rfl)) (nomark _))
      (pss_one (ps_ret pe_bl))
      pss_nil)))
    (pss_one (ps_ret pe_bl))))))), ?_⟩
  obtain ⟨a, b, ys, rfl, h1, h2, h3⟩ := im_frZ hx
  have t := ty_tup h1
  have t2 := ty_tup h2
  have hyl := h3.length
  rw [List.length_map] at hyl
  refine ⟨_, rfl, _, _, _, _, _, rfl, .ty _, t, kB true (by decide +kernel), _, rfl, iteF ?_⟩
  refine ⟨_, rfl, a, _, rfl, .inr h1, rfl, _, rfl, iteNS rfl ?_⟩
  refine ⟨_, rfl, a, _, rfl, h1, rfl, _, _, rfl, _, _, rfl, rfl, ?_⟩
  refine ⟨_, rfl, _, rfl, _, rfl, iteF ⟨_, rfl, _, _, rfl, rfl, _, rfl, ite2 (fun c => ?_) (fun c => ?_)⟩⟩
  · refine iteT (k false ⟨fun h => (nomatch h), fun h => ?_⟩)
    have := of_decide_eq_true c
    have := h.1
    omega
  have hw : 1 ≤ wn := by
    have := of_decide_eq_false (Bool.eq_false_iff.mpr c)
    omega
  refine ⟨_, rfl, _, _, _, _, _, rfl, .ty _, t2, kB true (by decide +kernel), _, rfl, iteF ?_⟩
  -- each pair
  refine ⟨_, rfl, b, rfl, ⟨_, h2⟩, for_tup (K := K) (a := b) (xs := ys) (fun i σ H2 => ∃ v3 : Option V, σ = [some (.ref a), some (.int wn), some (.ref b), v3, none] ∧ H2 = H ∧ ∀ z ∈ zs.take i, okP wn z = true)
    ⟨none, rfl, rfl, fun z hz => (nomatch hz)⟩ (fun i σ H2 _ h => by
      obtain ⟨_, _, rfl, _⟩ := h
      exact h2) ?_ ?_⟩
  · rintro i y σ H2 hy ⟨v3, rfl, rfl, hok⟩
    obtain ⟨d, gd, idd⟩ := h3.get hy
    rw [List.getElem?_map] at gd
    cases hz : zs[i]? with
    | none => rw [hz] at gd; cases gd
    | some z =>
      rw [hz] at gd
      have ed : d = zd z := (Option.some.inj gd).symm
      subst ed
      refine ⟨_, rfl, _, rfl, y, z, wn, rfl, idd, _, rfl, ?_⟩
      cases ho : okP wn z with
      | true =>
        refine iteF ⟨_, rfl, rfl, fun u hu => ?_⟩
        rw [take_snoc hz] at hu
        rcases List.mem_append.mp hu with hu | hu
        · exact hok u hu
        · rw [List.mem_singleton.mp hu]
          exact ho
      | false =>
        refine iteT (k false ⟨fun h => (nomatch h), fun h => ?_⟩)
        rw [h.2.1 z (List.mem_of_getElem? hz)] at ho
        cases ho
  rintro σ H2 ⟨v3, rfl, rfl, hok⟩
  rw [hyl, List.take_length] at hok
  -- neighbours
  refine ⟨_, rfl, b, ys, rfl, .inr h2, 1, (ys.length : Int), rfl, ⟨by decide, by decide, by omega, by omega⟩, for_range (lo := 1) (n := ((ys.length : Int) - 1).toNat) (fun i σ H3 => ∃ v3 v4 : Option V, σ = [some (.ref a), some (.int wn), some (.ref b), v3, v4] ∧ H3 = H2 ∧ ∀ k z u, k < i → zs[k]? = some z → zs[k + 1]? = some u → zlt z u = true)
    ⟨v3, none, rfl, rfl, fun k z u hk => absurd hk (Nat.not_lt_zero _)⟩ ?_ ?_⟩
  · rintro i σ H3 hi ⟨v3, v4, rfl, rfl, hlt⟩
    have hi2 : i + 1 < zs.length := by omega
    obtain ⟨y1, gy1⟩ : ∃ y, ys[i]? = some y := ⟨_, List.getElem?_eq_getElem (by omega)⟩
    obtain ⟨y2, gy2⟩ : ∃ y, ys[i + 1]? = some y := ⟨_, List.getElem?_eq_getElem (by omega)⟩
    obtain ⟨d1, gd1, i1⟩ := h3.get gy1
    obtain ⟨d2, gd2, i2⟩ := h3.get gy2
    have hz1 := List.getElem?_eq_getElem (l := zs) (i := i) (by omega)
    have hz2 := List.getElem?_eq_getElem (l := zs) (i := i + 1) hi2
    rw [List.getElem?_map, hz1] at gd1
    rw [List.getElem?_map, hz2] at gd2
    generalize zs[i] = z1 at hz1 gd1
    generalize zs[i + 1] = z2 at hz2 gd2
    have ed1 : d1 = zd z1 := (Option.some.inj gd1).symm
    have ed2 : d2 = zd z2 := (Option.some.inj gd2).symm
    subst ed1
    subst ed2
    have a1 : atI ys ((1 : Int) + (i : Nat) - 1) = some y1 := by
      rw [show (1 : Int) + (i : Nat) - 1 = ((i : Nat) : Int) by omega]
      exact atI_nat gy1
    have a2 : atI ys ((1 : Int) + (i : Nat)) = some y2 := by
      rw [show (1 : Int) + (i : Nat) = ((i + 1 : Nat) : Int) by omega]
      exact atI_nat gy2
    refine ⟨_, rfl, _, rfl, _, _, rfl, rfl, b, _, _, y1, rfl, rfl, h2, a1, _, rfl, _, rfl, b, _, _, y2, rfl, rfl, h2, a2, z1, z2, i1, i2, _, rfl, ?_⟩
    cases hz : zlt z1 z2 with
    | true =>
      refine iteF ⟨_, _, rfl, rfl, fun k z u hk e1 e2 => ?_⟩
      by_cases e : k < i
      · exact hlt k z u e e1 e2
      · have : k = i := by omega
        subst this
        rw [hz1] at e1
        rw [hz2] at e2
        cases e1
        cases e2
        exact hz
    | false =>
      refine iteT (k false ⟨fun h => (nomatch h), fun h => ?_⟩)
      rw [h.2.2 i z1 z2 hz1 hz2] at hz
      cases hz
  · rintro σ H3 ⟨v3, v4, rfl, rfl, hlt⟩
    refine k true ⟨fun _ => ⟨hw, hok, fun k z u e1 e2 => hlt k z u ?_ e1 e2⟩, fun _ => rfl⟩
    have := (List.getElem?_eq_some_iff.mp e2).1
    omega

/-! ### the law's distinct, of numbers -/
def dI : List Int → List Int
  | [] => []
  | [x] => [x]
  | x :: y :: r => if x = y then dI (y :: r) else x :: dI (y :: r)
def spDistinctI (K : PySem.W.Frag) : Sp := fun vs H Q _ => ∃ (a : Addr) (ns : List Int), vs = [.ref a] ∧ SqL K H a (ns.map V.int) ∧ ns.length < 64 ∧
  ∀ (p : Addr) (ms : List Int) (H' : Hp), H p = none → Same H H' → H' p = some (.lst (ms.map V.int)) → ms.Pairwise (· < ·) → (∀ n, n ∈ ms ↔ n ∈ ns) → Q (.ref p) H'
theorem ok_law_distinctI (T : Top K mg) : FnOk P w K mg base CX0 1 T.f_law_distinct T.d_law_distinct ["rows"] (spDistinctI K) := by
  refine T.F_law_distinct.ok sc_law_distinct (fun vs H Q E h => ?_) (fun cdv A outer s H vs Q E hr h => ?_)
  · obtain ⟨a, ns, rfl, _⟩ := h
    rfl
  obtain ⟨a, ns, rfl, hS, hlen, k⟩ := h
  have hu64 := hr.units
  refine ⟨_, (pss_cons (ps_set (i := 1) sc_law_distinct.nd rfl (.inl rfl) (pe_lst pa_nil))
    (pss_cons (ps_for PassesOwn.never rfl (pi_list (pe_callB cr_sorted (by rfl) T.z_sorted (by decide +kernel) (pa_cons (pv 0) pa_nil))) (pg_name (i := 2) sc_law_distinct.nd rfl (.inl rfl))
      (pss_one (ps_if (PW.pt (pw_or (pt_cmpR (op_eqD hu64) (pv 1) (pe_lst pa_nil) (nomark _)) (pw_or1 (pt_cmpR op_ne (pe_ix ix_list (pv 1) (pe_un un_neg pe_int) (fun _ _ => rfl)) (pv 2) (nomark _)))))
      (pss_one (ps_expr (pe_bm PySem.F.plainAttrs_list PySem.F.slot_list_append PySem.F.type_list_append mt_append (pv 1) (pa_cons (pv 2) pa_nil))))
      pss_nil)))
    (pss_one (ps_ret (pv 1))))), ?_⟩
  refine ⟨Nat.zero_le _, fun d nd => ?_⟩
  have s1 := same_new (o := .lst []) nd
  refine ⟨_, rfl, a, ns, rfl, s1.seq hS, hlen, fun ys p hp hs np => ?_⟩
  have s2 := same_new (o := .lst (ys.map V.int)) np
  have dp : d ≠ p := ne_of_none upd_same np
  have hyl : ys.length = ns.length := hp.length_eq
  refine ⟨p, rfl, ⟨_, SqL.of upd_same⟩, for_list (K := K) (a := p) (xs := ys.map V.int) (fun i σ H2 => ∃ (v : Option V) (ms : List Int), σ = [some (.ref a), some (.ref d), v] ∧ Same H H2 ∧ H2 p = some (.lst (ys.map V.int)) ∧ H2 d = some (.lst (ms.map V.int)) ∧ ms.Pairwise (· < ·) ∧ (∀ n, n ∈ ms ↔ n ∈ ys.take i) ∧ ms.length ≤ i)
    ⟨none, [], rfl, s1.trans s2, upd_same, s2 _ _ upd_same, .nil, fun n => Iff.rfl, Nat.le_refl _⟩ (fun i σ H2 _ h => by
      obtain ⟨_, _, _, _, h, _⟩ := h
      exact SqL.of h) ?_ ?_⟩
  · rintro i x σ H2 hx ⟨v, ms, rfl, s3, hp2, hd, hasc, hmem, hml⟩
    rw [List.getElem?_map] at hx
    cases hy : ys[i]? with
    | none => rw [hy] at hx; cases hx
    | some y =>
      rw [hy] at hx
      have ex : x = .int y := (Option.some.inj hx).symm
      subst ex
      have hi : i < ys.length := (List.getElem?_eq_some_iff.mp hy).1
      refine ⟨_, rfl, (by show 0 ≤ sizeLine; decide), fun e ne => ?_⟩
      have s4 := same_new (o := .lst []) ne
      have s34 := s3.trans s4
      have hp4 := s4 _ _ hp2
      have hd4 := s4 _ _ hd
      refine ⟨_, _, .lst (SqL.of hd4) (dp_ints ms), .lst (SqL.of upd_same) .nil, shaped_ints ms, rfl, _, rfl, ?_⟩
      generalize upd H2 e (.lst []) = H4 at s34 hp4 hd4
      rw [eqv_nil]
      have hle : ∀ n ∈ ms, n ≤ y := fun n hn => by
        obtain ⟨j, hj⟩ := List.getElem?_of_mem ((hmem n).mp hn)
        rw [List.getElem?_take] at hj
        split at hj
        · obtain ⟨j1, e1⟩ := List.getElem?_eq_some_iff.mp hj
          obtain ⟨i1, e2⟩ := List.getElem?_eq_some_iff.mp hy
          have := List.pairwise_iff_getElem.mp hs j i j1 i1 (by omega)
          rw [e1, e2] at this
          exact this
        · cases hj
      have app : ∀ H3, (∀ n ∈ ms, n < y) → H3 = upd H4 d (.lst (ms.map V.int ++ [.int y])) → ∃ (v : Option V) (ms : List Int), [some (V.ref a), some (V.ref d), some (V.int y)] = [some (.ref a), some (.ref d), v] ∧ Same H H3 ∧ H3 p = some (.lst (ys.map V.int)) ∧ H3 d = some (.lst (ms.map V.int)) ∧ ms.Pairwise (· < ·) ∧ (∀ n, n ∈ ms ↔ n ∈ ys.take (i + 1)) ∧ ms.length ≤ i + 1 := by
        rintro _ hlt rfl
        refine ⟨_, ms ++ [y], rfl, fun b o hb => ?_, ?_, ?_, ?_, fun n => ?_, by rw [List.length_append, List.length_singleton]; omega⟩
        · rw [upd_ne (ne_of_none hb nd)]
          exact s34 _ _ hb
        · rw [upd_ne dp.symm]
          exact hp4
        · rw [upd_same, List.map_append]
          rfl
        · refine List.pairwise_append.mpr ⟨hasc, List.pairwise_singleton _ _, fun c hc u hu => ?_⟩
          rw [List.mem_singleton.mp hu]
          exact hlt c hc
        · rw [take_snoc hy, List.mem_append, List.mem_append, hmem]
      have szt : (ms.map V.int).length < sizeLine := by
        rw [List.length_map]
        exact small1000 (by omega)
      rcases List.eq_nil_or_concat ms with e0 | ⟨ms', z, e0⟩
      · subst e0
        refine iteT (iteT ?_)
        exact ⟨_, rfl, .inl ⟨rfl, _, .inl (.inl hd4)⟩, _, rfl, d, _, .int y, rfl, rfl, hd4, szt, app _ (fun n hn => (nomatch hn)) rfl⟩
      · rw [List.concat_eq_append] at e0
        have hne : (ms.map PyData.int).isEmpty = false := by
          rw [e0]
          simp
        rw [hne]
        have gl : (ms.map V.int)[(ms.map V.int).length - 1]? = some (.int z) := by
          rw [e0, List.map_append, List.length_append]
          simp
        refine iteF ⟨_, rfl, 1, rfl, d, _, -1, _, rfl, rfl, SqL.of hd4, atI_m1 gl, _, rfl, rfl, _, rfl, ?_⟩
        have hzm : z ∈ ms := by
          rw [e0]
          exact List.mem_append_right _ (List.mem_singleton.mpr rfl)
        by_cases ez : z = y
        · subst ez
          rw [decide_eq_true rfl]
          refine iteF ⟨_, ms, rfl, s34, hp4, hd4, hasc, fun n => ?_, by omega⟩
          rw [take_snoc hy, List.mem_append, ← hmem, List.mem_singleton]
          exact ⟨.inl, fun h => h.elim id fun h => h ▸ hzm⟩
        · rw [decide_eq_false (fun q => ez (V.int.inj q))]
          refine iteT ?_
          refine ⟨_, rfl, .inl ⟨rfl, _, .inl (.inl hd4)⟩, _, rfl, d, _, .int y, rfl, rfl, hd4, szt, app _ (fun n hn => ?_) rfl⟩
          have hzy : z < y := by
            have := hle z hzm
            omega
          rw [e0] at hn hasc
          rcases List.mem_append.mp hn with hn | hn
          · have := (List.pairwise_append.mp hasc).2.2 n hn z (List.mem_singleton.mpr rfl)
            omega
          · rw [List.mem_singleton.mp hn]
            exact hzy
  · rintro σ H2 ⟨v, ms, rfl, s3, hp2, hd, hasc, hmem, _⟩
    rw [List.length_map, List.take_length] at hmem
    exact ⟨_, rfl, k d ms H2 nd s3 hd hasc fun n => (hmem n).trans hp.mem_iff⟩

theorem dc_it {J : It} {n : Nat} {G : Hp → Prop} {Y : Nat → Hp → V → Hp → Prop} (w : Walk J n G Y) {g : TG} {tt : TT} {tk tv : TE} {vs : List Nat} {σ : L2.St} {H1 : Hp} {D : Addr} {Qd : Hp → Prop} (Pv : Nat → Hp → Prop) (h0 : Pv 0 (upd H1 D (.dK []))) (hG : ∀ i H, i ≤ n → Pv i H → G H)
    (hs : ∀ i x H H', i < n → Pv i H → Y i H x H' → g x (wipe σ vs) H' fun σ2 H2 => wipe σ2 vs = wipe σ vs ∧ tt σ2 H2 fun b H3 => if b = true then tk σ2 H3 fun y H4 => tv σ2 H4 fun z H5 => ∃ kvs k, y = kV k ∧ H5 D = some (.dK kvs) ∧ kvs.length < sizeLine ∧ Pv (i + 1) (upd H5 D (.dK (putK kvs k z))) else Pv (i + 1) H3)
    (hd : ∀ H, Pv n H → Qd H) :
    ∃ W : Nat → Nat → Hp → Prop, (∃ m, W 0 m (upd H1 D (.dK []))) ∧ ∀ i m H, W i m H → (J.stop i H ∧ Qd H) ∨ (J.go i H ∧ ∃ Nx : Hp → Prop, (∀ H', Nx H' → ∃ m', m' < m ∧ W (i + 1) m' H') ∧ ∀ x H', J.yld i H x H' → g x (wipe σ vs) H' fun σ2 H2 => wipe σ2 vs = wipe σ vs ∧ tt σ2 H2 fun b H3 =>
      if b = true then tk σ2 H3 fun y H4 => tv σ2 H4 fun z H5 => ∃ kvs k, y = kV k ∧ H5 D = some (.dK kvs) ∧ kvs.length < sizeLine ∧ Nx (upd H5 D (.dK (putK kvs k z))) else Nx H3) := by
  refine ⟨fun i m H => m = n - i ∧ i ≤ n ∧ Pv i H, ⟨n, by simp, Nat.zero_le _, h0⟩, ?_⟩
  rintro i m H ⟨rfl, hi, p⟩
  have q := hG i H hi p
  by_cases hlt : i < n
  · exact .inr ⟨w.goes i H hlt q, Pv (i + 1), fun H' p' => ⟨n - (i + 1), by omega, rfl, hlt, p'⟩, fun x H' y => hs i x H H' hlt p (w.yields i H x H' hlt q y)⟩
  · have e : i = n := by omega
    subst e
    exact .inl ⟨w.stops H q, hd H p⟩
theorem TS.of_other {H : Hp} {d : Addr} {o : Obj} {kvs kvs' : List (Key × V)} (h : H d = some (.frz o (.dK kvs))) : TS H (upd H d (.dK kvs')) := fun b xs r => by
  have e : b ≠ d := fun e => by
    subst e
    rcases r with r | ⟨u, r⟩
    · rw [h] at r
      cases r
    · rw [h] at r
      cases r
  rcases r with r | ⟨u, r⟩
  · exact .inl (by rw [upd_ne e]; exact r)
  · exact .inr ⟨u, by rw [upd_ne e]; exact r⟩

def PAsc (ps : List (Nat × Nat)) : Prop := ps.Pairwise fun x y => x.1 < y.1 ∨ (x.1 = y.1 ∧ x.2 < y.2)
theorem grid_asc (a b : Nat) : PAsc (grid a b) := by
  induction a with
  | zero => exact .nil
  | succ a ih =>
    rw [grid_succ]
    refine List.pairwise_append.mpr ⟨ih, ?_, fun x hx y hy => .inl ?_⟩
    · rw [List.pairwise_map]
      exact List.pairwise_lt_range.imp fun q => .inr ⟨rfl, q⟩
    · obtain ⟨w, _, rfl⟩ := List.mem_map.mp hy
      exact (grid_mem.mp hx).1
theorem frP_asc (n : Nat) (R : Nat → Nat → Bool) : PAsc (frP n R) := (grid_asc n n).filter _
theorem frP_mem {n : Nat} {R : Nat → Nat → Bool} {a b : Nat} : (a, b) ∈ frP n R ↔ a < n ∧ b < n ∧ R a b = true := by
  unfold frP
  rw [List.mem_filter, grid_mem, and_assoc]
theorem pasc_nodup {l : List (Nat × Nat)} (h : PAsc l) : l.Nodup := h.imp fun {x y} q e => by
  subst e
  omega
theorem frP_len (n : Nat) (R : Nat → Nat → Bool) : (frP n R).length ≤ n * n := by
  have := List.length_filter_le (fun x : Nat × Nat => R x.1 x.2) (grid n n)
  rw [grid_len] at this
  exact this
def toZ (x : Nat × Nat) : Int × Int := ((x.1 : Int), (x.2 : Int))
theorem pd_toZ (l : List (Nat × Nat)) : l.map pd = (l.map toZ).map zd := by
  rw [List.map_map]
  rfl
def ZAsc (zs : List (Int × Int)) : Prop := zs.Pairwise fun z u => zlt z u = true
theorem zasc_of {l : List (Nat × Nat)} (h : PAsc l) : ZAsc (l.map toZ) := by
  unfold ZAsc
  rw [List.pairwise_map]
  refine h.imp fun {x y} q => ?_
  unfold zlt toZ
  rcases q with q | ⟨q1, q2⟩
  · rw [if_neg (by show (x.1 : Int) ≠ (y.1 : Int); omega)]
    exact decide_eq_true (by show (x.1 : Int) < (y.1 : Int); omega)
  · rw [if_pos (by show (x.1 : Int) = (y.1 : Int); omega)]
    exact decide_eq_true (by show (x.2 : Int) < (y.2 : Int); omega)
theorem zlt_irrefl (z : Int × Int) : zlt z z = false := by
  unfold zlt
  rw [if_pos rfl]
  exact decide_eq_false (by omega)
theorem zlt_asymm {z u : Int × Int} (h : zlt z u = true) : zlt u z = false := by
  unfold zlt at h ⊢
  by_cases e : z.1 = u.1
  · rw [if_pos e] at h
    rw [if_pos e.symm]
    have := of_decide_eq_true h
    exact decide_eq_false (by omega)
  · rw [if_neg e] at h
    rw [if_neg (fun q => e q.symm)]
    have := of_decide_eq_true h
    exact decide_eq_false (by omega)
theorem zasc_get {zs : List (Int × Int)} (h : ZAsc zs) {i j : Nat} {z u : Int × Int} (hij : i < j) (h1 : zs[i]? = some z) (h2 : zs[j]? = some u) : zlt z u = true := by
  obtain ⟨i1, e1⟩ := List.getElem?_eq_some_iff.mp h1
  obtain ⟨i2, e2⟩ := List.getElem?_eq_some_iff.mp h2
  have := List.pairwise_iff_getElem.mp h i j i1 i2 hij
  rw [e1, e2] at this
  exact this
theorem frok_P {n : Nat} {R : Nat → Nat → Bool} (hn : 1 ≤ n) : FrOk (n : Int) ((frP n R).map toZ) := by
  refine ⟨by omega, fun z hz => ?_, fun k z u h1 h2 => zasc_get (zasc_of (frP_asc n R)) (Nat.lt_succ_self k) h1 h2⟩
  obtain ⟨x, hx, rfl⟩ := List.mem_map.mp hz
  have := frP_mem.mp (show (x.1, x.2) ∈ frP n R from hx)
  unfold okP toZ
  rw [decide_eq_true (by show (0 : Int) ≤ (x.1 : Int); omega), decide_eq_true (by show (x.1 : Int) < (n : Int); omega), decide_eq_true (by show (0 : Int) ≤ (x.2 : Int); omega), decide_eq_true (by show (x.2 : Int) < (n : Int); omega)]
  rfl
theorem im_zd {K : PySem.W.Frag} {H : Hp} {p : Addr} {x : Int × Int} (h : H p = some (.tup [.int x.1, .int x.2])) : Im K H (.ref p) (zd x) := .tup (SqT.of h) (.cons (.int _) (.cons (.int _) .nil))
theorem okP_no {wn : Int} {z : Int × Int} (h : ¬ (((0 ≤ z.1) ∧ z.1 < wn) ∧ (0 ≤ z.2) ∧ z.2 < wn)) : okP wn z = false := by
  refine Bool.eq_false_iff.mpr fun e => h ?_
  unfold okP at e
  simpa only [Bool.and_eq_true, decide_eq_true_eq] using e
theorem frok_no {wn : Int} {zs : List (Int × Int)} {k : Nat} {z u : Int × Int} (h1 : zs[k]? = some z) (h2 : zs[k + 1]? = some u) (h3 : zlt z u = false) : false = true ↔ FrOk wn zs :=
  ⟨fun h => (nomatch h), fun h => by
    rw [h.2.2 k z u h1 h2] at h3
    cases h3⟩

/-! ### small things for the law -/
theorem asc_uniq {α : Type} {lt : α → α → Prop} (irr : ∀ x, ¬ lt x x) (asy : ∀ x y, lt x y → ¬ lt y x) : ∀ {l m : List α}, l.Pairwise lt → m.Pairwise lt → (∀ x, x ∈ l ↔ x ∈ m) → l = m
  | [], [], _, _, _ => rfl
  | [], y :: m, _, _, h => absurd ((h y).mpr List.mem_cons_self) (by simp)
  | x :: l, [], _, _, h => absurd ((h x).mp List.mem_cons_self) (by simp)
  | x :: l, y :: m, h1, h2, h => by
    obtain ⟨a1, a2⟩ := List.pairwise_cons.mp h1
    obtain ⟨b1, b2⟩ := List.pairwise_cons.mp h2
    have e : x = y := by
      rcases List.mem_cons.mp ((h x).mp List.mem_cons_self) with e | hx
      · exact e
      · rcases List.mem_cons.mp ((h y).mpr List.mem_cons_self) with e | hy
        · exact e.symm
        · exact absurd (a1 y hy) (asy _ _ (b1 x hx))
    subst e
    rw [asc_uniq irr asy a2 b2 fun z => ?_]
    constructor
    · intro hz
      rcases List.mem_cons.mp ((h z).mp (List.mem_cons_of_mem _ hz)) with e | q
      · subst e
        exact absurd (a1 z hz) (irr z)
      · exact q
    · intro hz
      rcases List.mem_cons.mp ((h z).mpr (List.mem_cons_of_mem _ hz)) with e | q
      · subst e
        exact absurd (b1 z hz) (irr z)
      · exact q
theorem sucs_frP {n : Nat} {R : Nat → Nat → Bool} {v : Nat} (hv : v < n) : sucs (frP n R) v = (List.range n).filter (R v) := by
  refine asc_uniq (lt := (· < ·)) (fun x => Nat.lt_irrefl x) (fun x y h => Nat.not_lt.mpr (Nat.le_of_lt h)) ?_ (List.pairwise_lt_range.filter _) fun w => ?_
  · unfold sucs
    rw [List.pairwise_map]
    refine List.Pairwise.imp_of_mem (fun {x y} hx hy h => ?_) ((frP_asc n R).filter _)
    have e1 : x.1 = v := of_decide_eq_true (List.mem_filter.mp hx).2
    have e2 : y.1 = v := of_decide_eq_true (List.mem_filter.mp hy).2
    rcases h with h | h
    · omega
    · exact h.2
  · unfold sucs
    rw [List.mem_map, List.mem_filter, List.mem_range]
    constructor
    · rintro ⟨x, hx, rfl⟩
      obtain ⟨h1, h2⟩ := List.mem_filter.mp hx
      have e1 : x.1 = v := of_decide_eq_true h2
      have := frP_mem.mp (show (x.1, x.2) ∈ frP n R from h1)
      rw [e1] at this
      exact ⟨this.2.1, this.2.2⟩
    · rintro ⟨h1, h2⟩
      exact ⟨(v, w), List.mem_filter.mpr ⟨frP_mem.mpr ⟨hv, h1, h2⟩, decide_eq_true rfl⟩, rfl⟩
theorem ints_sm (ns : List Int) (h : ns.length ≤ 1000000) : (PyData.list (ns.map PyData.int)).depth < 20 ∧ sml (.list (ns.map PyData.int)) := by
  have h1 : PyData.depthAll (ns.map PyData.int) = 0 := by
    clear h
    induction ns with
    | nil => rfl
    | cons x ns ih =>
      rw [List.map_cons, PyData.depthAll, ih]
      rfl
  have h2 : smlAll (ns.map PyData.int) := by
    clear h h1
    induction ns with
    | nil => exact True.intro
    | cons x ns ih => exact ⟨True.intro, ih⟩
  refine ⟨?_, by rw [List.length_map]; exact h, h2⟩
  rw [PyData.depth, h1]
  decide
theorem frD_small (n : Nat) {qs : List (Nat × Nat)} (h : qs.length ≤ 1000000) : (frD n qs).depth < 20 ∧ sml (frD n qs) := by
  have h1 : PyData.depthAll (qs.map pd) ≤ 1 := by
    clear h
    induction qs with
    | nil => exact Nat.zero_le _
    | cons x qs ih =>
      rw [List.map_cons, PyData.depthAll]
      exact Nat.max_le.mpr ⟨Nat.le_refl _, ih⟩
  have h2 : smlAll (qs.map pd) := by
    clear h h1
    induction qs with
    | nil => exact True.intro
    | cons x qs ih => exact ⟨⟨by show 2 ≤ 1000000; decide, True.intro, True.intro, True.intro⟩, ih⟩
  refine ⟨?_, by show 2 ≤ 1000000; decide, True.intro, ⟨by rw [List.length_map]; exact h, h2⟩, True.intro⟩
  show max 0 (max (PyData.depthAll (qs.map pd) + 1) 0) + 1 < 20
  omega

/-! ### models -/
abbrev tTru (K : PySem.W.Frag) (ta : TE) : TT := fun σ H Q => ta σ H fun x H' => ∃ k, TruV K x H' k ∧ Q k H'
/-- a dict of names to lists of numbers, each list an object of its own -/
def VdAt (H : Hp) (d : Addr) (as : List (Str × Addr × List Int)) : Prop := H d = some (.dK (as.map fun x => ((.inr x.1 : Key), V.ref x.2.1))) ∧ (as.map (·.1)).Nodup ∧ (as.map (·.2.1)).Nodup ∧ d ∉ as.map (·.2.1) ∧ ∀ x ∈ as, H x.2.1 = some (.lst (x.2.2.map V.int))
def OkV (wn : Int) (as : List (Str × Addr × List Int)) : Prop := ∀ x ∈ as, ∀ z ∈ x.2.2, 0 ≤ z ∧ z < wn
theorem vd_val {as : List (Str × Addr × List Int)} (nd : (as.map (·.1)).Nodup) {x : Str × Addr × List Int} (hx : x ∈ as) : valV (as.map fun x => ((.inr x.1 : Key), V.ref x.2.1)) (.inr x.1) = some (.ref x.2.1) := by
  induction as with
  | nil => cases hx
  | cons y r ih =>
    rw [List.map_cons, List.nodup_cons] at nd
    rcases List.mem_cons.mp hx with e | h
    · subst e
      exact valV_pos rfl
    · have ne : ¬ y.1 = x.1 := fun e => nd.1 (e ▸ List.mem_map.mpr ⟨x, h, rfl⟩)
      refine (valV_neg (fun e => ne (Sum.inr.inj e))).trans (ih nd.2 h)
theorem nm_inj {as : List (Str × Addr × List Int)} (nd : (as.map (·.1)).Nodup) {x y : Str × Addr × List Int} (hx : x ∈ as) (hy : y ∈ as) (e : x.1 = y.1) : x = y := by
  induction as with
  | nil => cases hx
  | cons z r ih =>
    rw [List.map_cons, List.nodup_cons] at nd
    rcases List.mem_cons.mp hx with ex | hx
    · rcases List.mem_cons.mp hy with ey | hy
      · rw [ex, ey]
      · exact absurd (List.mem_map.mpr ⟨y, hy, by rw [← e, ex]⟩) nd.1
    · rcases List.mem_cons.mp hy with ey | hy
      · exact absurd (List.mem_map.mpr ⟨x, hx, by rw [e, ey]⟩) nd.1
      · exact ih nd.2 hx hy
theorem vd_off {as : List (Str × Addr × List Int)} {n : Str} (h : n ∉ as.map (·.1)) : valV (as.map fun x => ((.inr x.1 : Key), V.ref x.2.1)) (.inr n) = none := valV_none (by
  intro kv hk e
  obtain ⟨x, hx, rfl⟩ := List.mem_map.mp hk
  exact h (List.mem_map.mpr ⟨x, hx, Sum.inr.inj e⟩))
theorem pf_past {f g : Str} {v x : V} {r : List (Str × V)} (h : ¬ g = f) : putF f v ((g, x) :: r) = (g, x) :: putF f v r := if_neg h
theorem pf_new {f : Str} {v : V} : putF f v [] = [(f, v)] := rfl
theorem vd_snoc (as : List (Str × Addr × List Int)) (n : Str) (p : Addr) (l : List Int) : (as ++ [(n, p, l)]).map (fun x => ((.inr x.1 : Key), V.ref x.2.1)) = as.map (fun x => ((.inr x.1 : Key), V.ref x.2.1)) ++ [(.inr n, .ref p)] := by rw [List.map_append]; rfl
theorem VdAt.put {H : Hp} {d : Addr} {as : List (Str × Addr × List Int)} {n : Str} {p : Addr} {l : List Int} (v : VdAt H d as) (hn : n ∉ as.map (·.1)) (hp : H p = some (.lst (l.map V.int))) (hm : p ∉ as.map (·.2.1)) :
    VdAt (upd H d (.dK (putK (as.map fun x => ((.inr x.1 : Key), V.ref x.2.1)) (.inr n) (.ref p)))) d (as ++ [(n, p, l)]) := by
  obtain ⟨v1, v2, v3, v4, v5⟩ := v
  have hpd : p ≠ d := fun e => by rw [e, v1] at hp; cases hp
  refine ⟨by rw [upd_same, putK_new _ (vd_off hn), vd_snoc], ?_, ?_, ?_, fun y hy => ?_⟩
  · rw [List.map_append]
    refine List.nodup_append.mpr ⟨v2, List.nodup_cons.mpr ⟨fun h => (nomatch h), .nil⟩, fun c hc u hu e => hn ?_⟩
    exact (show c = n from e.trans (List.mem_singleton.mp hu)) ▸ hc
  · rw [List.map_append]
    refine List.nodup_append.mpr ⟨v3, List.nodup_cons.mpr ⟨fun h => (nomatch h), .nil⟩, fun c hc u hu e => hm ?_⟩
    exact (show c = p from e.trans (List.mem_singleton.mp hu)) ▸ hc
  · rw [List.map_append]
    intro h
    rcases List.mem_append.mp h with h | h
    · exact v4 h
    · exact hpd (List.mem_singleton.mp h).symm
  · rcases List.mem_append.mp hy with hy | hy
    · have ny : y.2.1 ≠ d := fun e => v4 (by rw [← e]; exact List.mem_map.mpr ⟨y, hy, rfl⟩)
      rw [upd_ne ny]
      exact v5 y hy
    · rw [List.mem_singleton.mp hy]
      show upd H d _ p = _
      rw [upd_ne hpd]
      exact hp
theorem VdAt.nil {H : Hp} {d : Addr} (h : H d = some (.dK [])) : VdAt H d [] := ⟨h, .nil, .nil, fun h => (nomatch h), fun _ h => (nomatch h)⟩
theorem VdAt.keep {H H' : Hp} {d : Addr} {as : List (Str × Addr × List Int)} (v : VdAt H d as) (k : ∀ q, q = d ∨ q ∈ as.map (·.2.1) → ∀ o, H q = some o → H' q = some o) : VdAt H' d as := by
  obtain ⟨v1, v2, v3, v4, v5⟩ := v
  exact ⟨k _ (.inl rfl) _ v1, v2, v3, v4, fun y hy => k _ (.inr (List.mem_map.mpr ⟨y, hy, rfl⟩)) _ (v5 y hy)⟩
theorem VdAt.get {H : Hp} {d : Addr} {as : List (Str × Addr × List Int)} (v : VdAt H d as) {x : Str × Addr × List Int} (hx : x ∈ as) : DGet H d (.str x.1) (some (.ref x.2.1)) := .inl ⟨_, .inr x.1, .inl v.1, rfl, (vd_val v.2.1 hx).symm⟩
/-- bs: the names of as that have worlds, each with its worlds ascending -/
def TrueOf (as bs : List (Str × Addr × List Int)) : Prop := (∀ y ∈ bs, y.2.2.Pairwise (· < ·) ∧ ∃ x ∈ as, x.1 = y.1 ∧ x.2.2 ≠ [] ∧ ∀ k, k ∈ y.2.2 ↔ k ∈ x.2.2) ∧ ∀ x ∈ as, x.2.2 ≠ [] → x.1 ∈ bs.map (·.1)
/-- the model at p: its frame x, its rows, its true worlds; ad: the objects that are its own -/
def ModAt (K : PySem.W.Frag) (C : Addr) (H : Hp) (p : Addr) (x : V) (n : Nat) (ps : List (Nat × Nat)) (as : List (Str × Addr × List Int)) (ad : List Addr) : Prop :=
  ∃ (dx rp tp : Addr) (rs : List (Nat × Addr)) (bs : List (Str × Addr × List Int)), ad = p :: rp :: tp :: (rs.map (·.2) ++ bs.map (·.2.1)) ∧ H p = some (.ins C dx [("_frame", x), ("_rows", .ref rp), ("_true", .ref tp)]) ∧
    Im K H x (frD n ps) ∧ RowsAt H rp rs (sucs ps) ∧ (∀ v, v ∈ rs.map (·.1) ↔ ∃ w, (v, w) ∈ ps) ∧ VdAt H tp bs ∧ TrueOf as bs
theorem ModAt.keep {K : PySem.W.Frag} {C : Addr} {H H' : Hp} {p : Addr} {x : V} {n : Nat} {ps : List (Nat × Nat)} {as : List (Str × Addr × List Int)} {ad : List Addr} (m : ModAt K C H p x n ps as ad) (t : TS H H') (k : ∀ q ∈ ad, ∀ o, H q = some o → H' q = some o) : ModAt K C H' p x n ps as ad := by
  obtain ⟨dx, rp, tp, rs, bs, rfl, h1, h2, ⟨r1, r2, r3, r4, r5⟩, h4, ⟨v1, v2, v3, v4, v5⟩, h6⟩ := m
  refine ⟨dx, rp, tp, rs, bs, rfl, k _ (by simp) _ h1, h2.mono t, ⟨k _ (by simp) _ r1, r2, r3, r4, fun y hy => k _ ?_ _ (r5 y hy)⟩, h4, ⟨k _ (by simp) _ v1, v2, v3, v4, fun y hy => k _ ?_ _ (v5 y hy)⟩, h6⟩
  · have : y.2 ∈ rs.map (·.2) := List.mem_map.mpr ⟨y, hy, rfl⟩
    simp only [List.mem_cons, List.mem_append]
    exact .inr (.inr (.inr (.inl this)))
  · have : y.2.1 ∈ bs.map (·.2.1) := List.mem_map.mpr ⟨y, hy, rfl⟩
    simp only [List.mem_cons, List.mem_append]
    exact .inr (.inr (.inr (.inr this)))
theorem im_frz {K : PySem.W.Frag} {H : Hp} {x : V} {wn : Int} {zs : List (Int × Int)} (h : Im K H x (frZ wn zs)) : ∃ (a b : Addr) (ys : List V), x = .ref a ∧ SqT K H a [.int wn, .ref b] ∧ SqT K H b ys ∧ ImAll K H ys (zs.map zd) := by
  unfold frZ at h
  cases h with
  | tup h1 h2 =>
    cases h2 with
    | cons h3 h4 =>
      cases h3
      cases h4 with
      | cons h5 h6 =>
        cases h6
        cases h5 with
        | tup h7 h8 => exact ⟨_, _, _, rfl, h1, h7, h8⟩
def spInit (K : PySem.W.Frag) (C CI : Addr) : Sp := fun vs H Q E => ∃ (p dx : Addr) (x : V) (d : Addr) (wn : Int) (zs : List (Int × Int)) (as : List (Str × Addr × List Int)), vs = [.ref p, x, .ref d] ∧ H p = some (.ins C dx []) ∧ Im K H x (frZ wn zs) ∧ zs.length ≤ 1000 ∧
  VdAt H d as ∧ as.length < 60 ∧ (∀ a ∈ as, a.2.2.length < 60 ∧ ∀ z ∈ a.2.2, -1000 ≤ z ∧ z ≤ 1000) ∧ (¬ (FrOk wn zs ∧ OkV wn as) → ∀ H', E (.ref CI) none H') ∧
  (FrOk wn zs ∧ OkV wn as → ∃ (n : Nat) (ps : List (Nat × Nat)), frZ wn zs = frD n ps ∧ ∀ (ad : List Addr) (H' : Hp), ModAt K C H' p x n ps as (p :: ad) → (∀ q ∈ ad, H q = none) → (∀ b o, H b = some o → b ≠ p → H' b = some o) → Q .non H')
theorem ok_Model_init (T : Top K mg) : FnOk P w K mg base (L2.CX P w) 4 T.f_Model_init T.d_Model_init ["self", "frame", "values"] (spInit K T.c_Model T.c_InvalidModel) := by
  have G_is_frame : FnOk P w K mg base CX0 3 T.f_is_frame T.d_is_frame ["frame"] (spIsFrame K) := ok_is_frame T
  have G_rows_of : FnOk P w K mg base CX0 1 T.f_rows_of T.d_rows_of ["frame"] (spRows K) := ok_rows_of T
  refine T.F_Model_init.okX sc_Model_init (fun vs H Q E h => ?_) (fun cdv A outer s H vs Q E hr h => ?_)
  · obtain ⟨p, dx, x, d, wn, zs, as, rfl, _⟩ := h
    rfl
  obtain ⟨p, dx, x, d, wn, zs, as, rfl, hp, hx, hzl, hV, hal, has, kE, kQ⟩ := h
  have hu64 := hr.units
  have hu := Nat.lt_of_le_of_lt (Nat.add_le_add_left (by decide : 1 ≤ 64) _) hu64
  refine ⟨_, (pss_cons (ps_if (pt_not (pt_val (pe_call G_is_frame (hr.mono (by omega)) (by rfl) T.m_is_frame T.F_is_frame.kp T.b_is_frame .nil pass0 (pa_cons (pv 1) pa_nil))))
      (pss_one (ps_raise rfl (takes_of rfl rfl rfl rfl) (pmk_own PySem.F.excBase_ValueError T.x_InvalidModel T.g_InvalidModel T.k_InvalidModel (raises_own T.b_InvalidModel T.t_InvalidModel) rfl)))
      pss_nil)
    (pss_cons (ps_lock (ps_for (passes_of rfl) rfl (pi_keys (pv 2)) (pg_name (i := 3) sc_Model_init.nd rfl (.inl rfl))
      (pss_one (ps_for (passes_of rfl) rfl (pi_list (pe_dget hu (pv 2) (pv 3) (fun _ _ => rfl))) (pg_name (i := 4) sc_Model_init.nd rfl (.inl rfl))
      (pss_one (ps_if (pt_not (pt_chain op_le op_lt pe_int (pv 4) (pe_ix ix_tup (pv 1) pe_int (fun _ _ => rfl))))
      (pss_one (ps_raise rfl (takes_of rfl rfl rfl rfl) (SkE.pmk_own1 PySem.F.excBase_ValueError T.x_InvalidModel T.g_InvalidModel T.k_InvalidModel (raises_own T.b_InvalidModel T.t_InvalidModel) rfl (pe_joined (.cons pe_str (.cons (pe_fmt (pv 4)) .nil))))))
      pss_nil))))))
    (pss_cons (ps_fld (pv 0) (pv 1) rfl)
    (pss_cons (ps_fld (pv 0) (pe_call G_rows_of (hr.mono (by omega)) (by rfl) T.m_rows_of T.F_rows_of.kp T.b_rows_of .nil pass0 (pa_cons (pv 1) pa_nil)) rfl)
    (pss_one (ps_fld (pv 0) (pe_dc (own := [("name", 3)]) (g := gName 3) (tv := (tCB (rSortedSet w) (tCons (tCB (rSetLI w K) (tCons (tDGet (tVar 2) (tVar 3)) tNil)) tNil))) (tt := (tTru K (tDGet (tVar 2) (tVar 3)))) rfl sc_Model_init.nd (pi_list (pe_callB (call_sortedD rfl) (by rfl) T.z_sorted (by decide +kernel) (pa_cons (pv 2) pa_nil))) (blkOk_by (N := ["self", "frame", "values", "name", "v"]) (sc := defScope s_Model_init) (by decide +kernel)) (fun _ _ _ _ _ => pg_name (i := 3) sc_Model_init.nd rfl (Or.inl rfl)) (fun _ _ _ _ _ => pts_one (pt_truth (pe_dget hu (pv 2) (pv 3) (fun _ _ => rfl)) (fun _ => rfl))) (fun _ _ _ _ _ => (pv 3)) (fun _ _ _ _ _ => (pe_callB (cr_sortedSet rfl) (by rfl) T.z_sorted (by decide +kernel) (pa_cons (pe_callTy (cr_setLI2 rfl hu64) (by rfl) T.z_set (by decide +kernel) (pa_cons (pe_dget hu (pv 2) (pv 3) (fun _ _ => rfl)) pa_nil)) pa_nil)))) rfl)))))), ?_⟩
  refine ⟨_, rfl, x, wn, zs, rfl, hx, hzl, fun b hb => ⟨b, rfl, ?_⟩⟩
  cases b with
  | false => exact iteT (kE (fun q => nomatch hb.mpr q.1) _)
  | true =>
  have hF := hb.mp rfl
  refine iteF ?_
  obtain ⟨v1, v2, v3, v4, v5⟩ := hV
  have hpd : p ≠ d := fun e => by rw [e, v1] at hp; cases hp
  have hpm : ∀ y ∈ as, y.2.1 ≠ p := fun y hy e => by
    have := v5 y hy
    rw [e, hp] at this
    cases this
  obtain ⟨fa, fb, fys, rfl, i1, i2, i3⟩ := im_frz hx
  -- the values are looked at
  refine ⟨d, _, v1, trivial, fun od => ?_⟩
  have kF : ∀ c o, H c = some o → c ≠ d → upd H d (.frz od (.dK (as.map fun x => ((.inr x.1 : Key), V.ref x.2.1)))) c = some o := fun c o e n => by
    rw [upd_ne n]
    exact e
  have back : upd (upd H d (.frz od (.dK (as.map fun x => ((.inr x.1 : Key), V.ref x.2.1))))) d (.dK (as.map fun x => ((.inr x.1 : Key), V.ref x.2.1))) = H := by
    rw [upd_upd]
    funext c
    by_cases e : c = d
    · rw [e, upd_same, v1]
    · rw [upd_ne e]
  have hD : upd H d (.frz od (.dK (as.map fun x => ((.inr x.1 : Key), V.ref x.2.1)))) d = some (.frz od (.dK (as.map fun x => ((.inr x.1 : Key), V.ref x.2.1)))) := upd_same
  generalize upd H d (.frz od (.dK (as.map fun x => ((.inr x.1 : Key), V.ref x.2.1)))) = HF at kF back hD
  have tF : TS H HF := fun c xs r => by
    have n : c ≠ d := fun e => by
      subst e
      rcases r with r | ⟨u, r⟩
      · rw [v1] at r; cases r
      · rw [v1] at r; cases r
    rcases r with r | ⟨u, r⟩
    · exact .inl (kF _ _ r n)
    · exact .inr ⟨u, kF _ _ r n⟩
  refine ⟨_, rfl, d, od, rfl, .inl ⟨_, hD, ?_⟩⟩
  refine for_it walk_keys (fun i σ H2 => ∃ (u v : Option V), σ = [some (.ref p), some (.ref fa), some (.ref d), u, v] ∧ HF = H2 ∧ ∀ y ∈ as.take i, ∀ z ∈ y.2.2, 0 ≤ z ∧ z < wn)
    ⟨none, none, rfl, rfl, fun y h => (nomatch h)⟩ (fun i σ H2 _ h => by
      obtain ⟨_, _, _, rfl, _⟩ := h
      exact hD) ?_ ?_
  · rintro i y σ H2 H3 hi ⟨u, v, rfl, rfl, hdone⟩ ⟨e3, kk, vv, hkv, rfl⟩
    replace e3 := e3.symm
    subst e3
    rw [List.getElem?_map] at hkv
    cases hz : as[i]? with
    | none => rw [hz] at hkv; cases hkv
    | some z =>
    rw [hz] at hkv
    have e1 : kk = .inr z.1 := (congrArg Prod.fst (Option.some.inj hkv)).symm
    subst e1
    have hzm : z ∈ as := List.mem_of_getElem? hz
    have hzd : z.2.1 ≠ d := fun e => v4 (e ▸ List.mem_map.mpr ⟨z, hzm, rfl⟩)
    have hzF := kF _ _ (v5 z hzm) hzd
    refine ⟨_, rfl, _, rfl, d, .ref z.2.1, rfl, .inl ⟨_, .inr z.1, .inr ⟨od, hD⟩, rfl, (vd_val v2 hzm).symm⟩, z.2.1, rfl, ⟨_, SqL.of hzF⟩, ?_⟩
    refine for_list (K := K) (a := z.2.1) (xs := z.2.2.map V.int) (fun j σ H4 => ∃ (v : Option V), σ = [some (.ref p), some (.ref fa), some (.ref d), some (.str z.1), v] ∧ HF = H4 ∧ ∀ u ∈ z.2.2.take j, 0 ≤ u ∧ u < wn)
      ⟨v, rfl, rfl, fun u h => (nomatch h)⟩ (fun j σ H4 _ h => by
        obtain ⟨_, _, rfl, _⟩ := h
        exact SqL.of hzF) ?_ ?_
    · rintro j y σ H4 hy ⟨v, rfl, rfl, hd2⟩
      rw [List.getElem?_map] at hy
      cases hu0 : z.2.2[j]? with
      | none => rw [hu0] at hy; cases hy
      | some u =>
      rw [hu0] at hy
      have ey : y = .int u := (Option.some.inj hy).symm
      subst ey
      have hum : u ∈ z.2.2 := List.mem_of_getElem? hu0
      have hub := (has z hzm).2 u hum
      refine ⟨_, rfl, _, _, rfl, rfl, _, rfl, ?_⟩
      have raiseOk : ¬ (0 ≤ u ∧ u < wn) → ∀ H' : Hp, E (.ref T.c_InvalidModel) none H' := fun q => kE fun r => q (r.2 z hzm u hum)
      have lenU : (Str.ofString (toString u)).length ≤ 1002 := by
        have := PyProof.Rows.len_str_of_int u
        omega
      have hlog : u.natAbs.log2 < 1920 := Nat.lt_of_le_of_lt (Nat.log2_le_self _) (by omega)
      have hlen : (Str.empty ++ Str.ofString "there is no world " ++ Str.ofString (toString u)).length ≤ sizeLine := by
        rw [Str.length_append, sizeLine_eq]
        have : (Str.empty ++ Str.ofString "there is no world ").length = 18 := by decide +kernel
        omega
      by_cases c0 : 0 ≤ u
      · refine iteD c0 ⟨_, rfl, fa, _, 0, _, rfl, rfl, tF.sqT i1, atI_nat (j := 0) rfl, _, _, rfl, rfl, _, rfl, ?_⟩
        by_cases c1 : u < wn
        · rw [decide_eq_true c1]
          refine iteF ⟨some (.int u), rfl, rfl, fun y hy => ?_⟩
          rw [take_snoc hu0, List.mem_append] at hy
          rcases hy with h | h
          · exact hd2 y h
          · rw [List.mem_singleton.mp h]
            exact ⟨c0, c1⟩
        · rw [decide_eq_false c1]
          exact iteT ⟨_, rfl, (by decide), _, rfl, .inr ⟨u, rfl, hlog, _, rfl, hlen, raiseOk (fun q => c1 q.2) _⟩⟩
      · exact iteDF c0 ⟨_, rfl, iteT ⟨_, rfl, (by decide), _, rfl, .inr ⟨u, rfl, hlog, _, rfl, hlen, raiseOk (fun q => c0 q.1) _⟩⟩⟩
    · rintro σ H4 ⟨v, rfl, rfl, hd2⟩
      rw [List.length_map, List.take_length] at hd2
      refine ⟨_, _, rfl, rfl, fun y hy => ?_⟩
      rw [take_snoc hz, List.mem_append] at hy
      rcases hy with h | h
      · exact hdone y h
      · rw [List.mem_singleton.mp h]
        exact hd2
  · rintro σ H2 ⟨u, v, rfl, rfl, hdone⟩
    rw [List.length_map, List.take_length] at hdone
    refine ⟨hD, ?_⟩
    rw [back]
    obtain ⟨n, ps, hfr, kQ⟩ := kQ ⟨hF, hdone⟩
    rw [hfr] at hx
    -- the frame, the rows
    refine ⟨_, rfl, _, rfl, p, _, dx, [], rfl, hp, T.cl_Model, T.n_Model_frame, (by decide), ?_⟩
    rw [pf_new]
    have tsP : ∀ (H1 : Hp) fs fs', H1 p = some (.ins T.c_Model dx fs) → TS H1 (upd H1 p (.ins T.c_Model dx fs')) := fun H1 fs fs' e c xs r => by
      have n : c ≠ p := fun z => by
        subst z
        rcases r with r | ⟨u, r⟩
        · rw [e] at r; cases r
        · rw [e] at r; cases r
      rcases r with r | ⟨u, r⟩
      · exact .inl (by rw [upd_ne n]; exact r)
      · exact .inr ⟨u, by rw [upd_ne n]; exact r⟩
    have hx1 := hx.mono (tsP H [] [("_frame", .ref fa)] hp)
    have k1 : ∀ b o, H b = some o → b ≠ p → upd H p (.ins T.c_Model dx [("_frame", .ref fa)]) b = some o := fun b o e n => by
      rw [upd_ne n]
      exact e
    have hp1 : upd H p (.ins T.c_Model dx [("_frame", .ref fa)]) p = some (.ins T.c_Model dx [("_frame", .ref fa)]) := upd_same
    have free1 : ∀ q, upd H p (.ins T.c_Model dx [("_frame", .ref fa)]) q = none → H q = none := fun q e => by
      cases h : H q with
      | none => rfl
      | some o =>
        have n : q ≠ p := fun z => by rw [z, hp1] at e; cases e
        rw [k1 q o h n] at e
        cases e
    generalize upd H p (.ins T.c_Model dx [("_frame", .ref fa)]) = H1 at hx1 k1 hp1 free1
    have hpl : ps.length ≤ 1000 := by
      unfold frZ frD at hfr
      injection hfr with e1
      injection e1 with _ e2
      injection e2 with e3 _
      injection e3 with e4
      have := congrArg List.length e4
      rw [List.length_map, List.length_map] at this
      omega
    refine ⟨_, rfl, _, n, ps, rfl, hx1, (by omega), fun rp rs H2 n2 s2 hR hRm hRf => ?_⟩
    have hp2 := s2 _ _ hp1
    refine ⟨_, rfl, p, _, dx, _, rfl, hp2, T.cl_Model, T.n_Model_rows, (by show 1 < 1000; decide), ?_⟩
    rw [pf_past (by decide +kernel), pf_new]
    have k3 : ∀ b o, H2 b = some o → b ≠ p → upd H2 p (.ins T.c_Model dx [("_frame", .ref fa), ("_rows", .ref rp)]) b = some o := fun b o e n => by
      rw [upd_ne n]
      exact e
    have hp3 : upd H2 p (.ins T.c_Model dx [("_frame", .ref fa), ("_rows", .ref rp)]) p = some (.ins T.c_Model dx [("_frame", .ref fa), ("_rows", .ref rp)]) := upd_same
    have t3 := tsP H2 _ [("_frame", .ref fa), ("_rows", .ref rp)] hp2
    have free3 : ∀ q, upd H2 p (.ins T.c_Model dx [("_frame", .ref fa), ("_rows", .ref rp)]) q = none → H2 q = none := fun q e => by
      by_cases z : q = p
      · rw [z, hp3] at e; cases e
      · rwa [upd_ne z] at e
    generalize upd H2 p (.ins T.c_Model dx [("_frame", .ref fa), ("_rows", .ref rp)]) = H3 at k3 hp3 t3 free3
    have k13 : ∀ b o, H b = some o → b ≠ p → H3 b = some o := fun b o e n => k3 _ _ (s2 _ _ (k1 _ _ e n)) n
    have hV3 : VdAt H3 d as := VdAt.keep ⟨v1, v2, v3, v4, v5⟩ fun q hq o e => k13 _ _ e (by
      rintro rfl
      rw [hp] at e
      rcases hq with h | h
      · exact hpd h
      · obtain ⟨y, hy, e2⟩ := List.mem_map.mp h
        exact hpm y hy e2)
    refine ⟨_, rfl, d, _, as.map (·.1), rfl, .inl hV3.1, by rw [List.map_map, List.map_map]; rfl, by rw [List.length_map]; omega, fun ys q hperm hsort nq => ?_⟩
    have s4 := same_new (o := .lst (ys.map V.str)) nq
    have hq4 : upd H3 q (.lst (ys.map V.str)) q = some (.lst (ys.map V.str)) := upd_same
    have hys : ys.Nodup := hperm.nodup_iff.mpr v2
    have hyl : ys.length < 60 := by rw [hperm.length_eq, List.length_map]; exact hal
    generalize upd H3 q (.lst (ys.map V.str)) = H4 at s4 hq4
    refine ⟨q, rfl, ⟨_, SqL.of hq4⟩, fun D nD => ?_⟩
    have nqD : q ≠ D := ne_of_none hq4 nD
    have hV4 : VdAt H4 d as := hV3.keep fun _ _ o e => s4 _ _ e
    refine dc_it (walk_list (a := q) (xs := ys.map V.str)) (fun i H5 => ∃ bs : List (Str × Addr × List Int), Same H4 H5 ∧ VdAt H5 D bs ∧ bs.length ≤ i ∧ (∀ y ∈ bs, H4 y.2.1 = none ∧ y.1 ∈ ys.take i) ∧
      (∀ y ∈ bs, y.2.2.Pairwise (· < ·) ∧ ∃ x ∈ as, x.1 = y.1 ∧ x.2.2 ≠ [] ∧ ∀ k, k ∈ y.2.2 ↔ k ∈ x.2.2) ∧ ∀ x ∈ as, x.1 ∈ ys.take i → x.2.2 ≠ [] → x.1 ∈ bs.map (·.1))
      ⟨[], same_new nD, VdAt.nil upd_same, Nat.zero_le _, fun y h => (nomatch h), fun y h => (nomatch h), fun x _ h => (nomatch h)⟩ (fun i H5 _ h => by
        obtain ⟨_, h, _⟩ := h
        exact SqL.of (h _ _ hq4)) ?_ ?_
    · rintro i y H5 H6 hi ⟨bs, s5, hB, hbl, hbf, hb1, hb2⟩ ⟨rfl, hy⟩
      rw [List.getElem?_map] at hy
      cases hn : ys[i]? with
      | none => rw [hn] at hy; cases hy
      | some nm =>
      rw [hn] at hy
      have ey : y = .str nm := (Option.some.inj hy).symm
      subst ey
      obtain ⟨z, hzm, hz1⟩ := List.mem_map.mp (hperm.mem_iff.mp (List.mem_of_getElem? hn))
      subst hz1
      have hV6 : VdAt H6 d as := hV4.keep fun _ _ o e => s5 _ _ e
      refine ⟨rfl, _, rfl, _, rfl, d, _, rfl, hV6.get hzm, _, .inl ⟨_, SqL.of (hV6.2.2.2.2 z hzm), rfl⟩, ?_⟩
      have stay : ∀ H7, Same H4 H7 → ∀ cs : List (Str × Addr × List Int), True := fun _ _ _ => trivial
      have off : z.1 ∉ bs.map (·.1) := fun h => by
        obtain ⟨y, hy, e⟩ := List.mem_map.mp h
        have m := (hbf y hy).2
        have e : y.1 = z.1 := e
        rw [e] at m
        obtain ⟨j, hj⟩ := List.getElem?_of_mem m
        rw [List.getElem?_take] at hj
        split at hj
        · rename_i hlt
          have h1 := (List.getElem?_eq_some_iff.mp hj)
          have h2 := (List.getElem?_eq_some_iff.mp hn)
          exact List.pairwise_iff_getElem.mp hys j i h1.1 h2.1 hlt (h1.2.trans h2.2.symm)
        · cases hj
      by_cases hz0 : z.2.2 = []
      · rw [hz0]
        refine iteF ⟨bs, s5, hB, by omega, fun y hy => ⟨(hbf y hy).1, ?_⟩, hb1, fun x hx hxt hx0 => ?_⟩
        · rw [take_snoc hn]
          exact List.mem_append_left _ (hbf y hy).2
        · rw [take_snoc hn, List.mem_append] at hxt
          rcases hxt with h | h
          · exact hb2 x hx h hx0
          · have e : x.1 = z.1 := List.mem_singleton.mp h
            have exz : x = z := nm_inj v2 hx hzm e
            rw [exz] at hx0
            exact absurd hz0 hx0
      · have hne : (z.2.2.map V.int).isEmpty = false := by
          cases h : z.2.2 with
          | nil => exact absurd h hz0
          | cons _ _ => rfl
        rw [hne]
        refine iteT ⟨_, rfl, _, rfl, _, rfl, d, _, rfl, hV6.get hzm, z.2.1, z.2.2, rfl, SqL.of (hV6.2.2.2.2 z hzm), (by have := (has z hzm).1; omega), fun sa c nsa hc => ?_⟩
        refine ⟨sa, _, c, rfl, upd_same, (by have := (has z hzm).1; omega), fun ms p2 hms hmem hml np2 => ?_⟩
        have s7 := same_new (o := SetO w sa (fun j => decide (j ∈ z.2.2)) c) nsa
        have s8 := s7.trans (same_new (o := .lst (ms.map V.int)) np2)
        have hp8 : upd (upd H6 sa (SetO w sa (fun j => decide (j ∈ z.2.2)) c)) p2 (.lst (ms.map V.int)) p2 = some (.lst (ms.map V.int)) := upd_same
        generalize upd (upd H6 sa (SetO w sa (fun j => decide (j ∈ z.2.2)) c)) p2 (.lst (ms.map V.int)) = H8 at s8 hp8
        have hB8 : VdAt H8 D bs := hB.keep fun _ _ o e => s8 _ _ e
        have np2H : H6 p2 = none := by
          cases e : H6 p2 with
          | none => rfl
          | some o =>
            rw [s7 _ _ e] at np2
            cases np2
        have np2B : p2 ∉ bs.map (·.2.1) := fun h => by
          obtain ⟨y, hy, e⟩ := List.mem_map.mp h
          have := hB.2.2.2.2 y hy
          rw [e, np2H] at this
          cases this
        have np24 : H4 p2 = none := by
          cases e : H4 p2 with
          | none => rfl
          | some o =>
            rw [s5 _ _ e] at np2H
            cases np2H
        refine ⟨_, .inr z.1, rfl, hB8.1, by rw [List.length_map]; rw [List.length_map] at hi; exact small1000 (by omega), bs ++ [(z.1, p2, ms)], fun b o e => ?_, hB8.put off hp8 np2B, by rw [List.length_append]; simp; omega, fun y hy => ?_, fun y hy => ?_, fun x hx hxt hx0 => ?_⟩
        · have nbD : b ≠ D := ne_of_none e nD
          rw [upd_ne nbD]
          exact s8 _ _ (s5 _ _ e)
        · rw [take_snoc hn]
          rcases List.mem_append.mp hy with hy | hy
          · exact ⟨(hbf y hy).1, List.mem_append_left _ (hbf y hy).2⟩
          · rw [List.mem_singleton.mp hy]
            exact ⟨np24, List.mem_append_right _ List.mem_cons_self⟩
        · rcases List.mem_append.mp hy with hy | hy
          · exact hb1 y hy
          · rw [List.mem_singleton.mp hy]
            exact ⟨hms, z, hzm, rfl, hz0, fun k => by rw [hmem k]; exact decide_eq_true_iff⟩
        · rw [List.map_append]
          rw [take_snoc hn, List.mem_append] at hxt
          rcases hxt with h | h
          · exact List.mem_append_left _ (hb2 x hx h hx0)
          · have e : x.1 = z.1 := List.mem_singleton.mp h
            rw [e]
            exact List.mem_append_right _ List.mem_cons_self
    · rintro H5 ⟨bs, s5, hB, hbl, hbf, hb1, hb2⟩
      have hp5 := s5 _ _ (s4 _ _ hp3)
      refine ⟨_, rfl, p, _, dx, _, rfl, hp5, T.cl_Model, T.n_Model_true, (by show 2 < 1000; decide), ?_⟩
      rw [pf_past (by decide +kernel), pf_past (by decide +kernel), pf_new]
      have tsE := tsP H5 _ [("_frame", .ref fa), ("_rows", .ref rp), ("_true", .ref D)] hp5
      have kE5 : ∀ b o, H5 b = some o → b ≠ p → upd H5 p (.ins T.c_Model dx [("_frame", .ref fa), ("_rows", .ref rp), ("_true", .ref D)]) b = some o := fun b o e n => by
        rw [upd_ne n]
        exact e
      have k25 : ∀ b o, H2 b = some o → b ≠ p → H5 b = some o := fun b o e n => s5 _ _ (s4 _ _ (k3 _ _ e n))
      have nrp : rp ≠ p := fun e => by rw [e, hp1] at n2; cases n2
      have nrs : ∀ y ∈ rs, y.2 ≠ p := fun y hy e => by
        have := hRf y hy
        rw [e, hp1] at this
        cases this
      have pB : ∀ q, q = D ∨ q ∈ bs.map (·.2.1) → q ≠ p := fun q hq e => by
        subst e
        rcases hq with h | h
        · rw [h] at hp5
          rw [hB.1] at hp5
          cases hp5
        · obtain ⟨y, hy, e2⟩ := List.mem_map.mp h
          have := (hbf y hy).1
          have e2 : y.2.1 = q := e2
          rw [e2, s4 _ _ hp3] at this
          cases this
      refine kQ (rp :: D :: (rs.map (·.2) ++ bs.map (·.2.1))) _ ⟨dx, rp, D, rs, bs, rfl, upd_same, ?_, ?_, hRm, ?_, hb1, fun x hx hx0 => ?_⟩ (fun q hq => ?_) fun b o e n => ?_
      · exact ((((hx1.mono (Same.ts s2)).mono t3).mono (Same.ts s4)).mono (Same.ts s5)).mono tsE
      · obtain ⟨r1, r2, r3, r4, r5⟩ := hR
        exact ⟨kE5 _ _ (k25 _ _ r1 nrp) nrp, r2, r3, r4, fun y hy => kE5 _ _ (k25 _ _ (r5 y hy) (nrs y hy)) (nrs y hy)⟩
      · exact hB.keep fun q hq o e => kE5 _ _ e (pB q hq)
      · refine hb2 x hx ?_ hx0
        rw [List.length_map, List.take_length]
        exact hperm.mem_iff.mpr (List.mem_map.mpr ⟨x, hx, rfl⟩)
      · have f4 : ∀ q, H4 q = none → H q = none := fun q e => by
          refine free1 q ?_
          cases h : H1 q with
          | none => rfl
          | some o =>
            by_cases z : q = p
            · rw [z, s4 _ _ hp3] at e; cases e
            · rw [s4 _ _ (k3 _ _ (s2 _ _ h) z)] at e; cases e
        rcases List.mem_cons.mp hq with e | hq
        · rw [e]
          exact free1 _ n2
        rcases List.mem_cons.mp hq with e | hq
        · rw [e]
          exact f4 _ nD
        rcases List.mem_append.mp hq with hq | hq
        · obtain ⟨y, hy, e⟩ := List.mem_map.mp hq
          rw [← e]
          exact free1 _ (hRf y hy)
        · obtain ⟨y, hy, e⟩ := List.mem_map.mp hq
          rw [← e]
          exact f4 _ (hbf y hy).1
      · exact kE5 _ _ (s5 _ _ (s4 _ _ (k13 _ _ e n))) n
theorem lk_here {k : Str} {v : V} {r : List (Str × V)} : List.lookup k ((k, v) :: r) = some v := by
  have e : (k == k) = true := beq_self_eq_true k
  simp only [List.lookup, e]
theorem lk_past {k g : Str} {v : V} {r : List (Str × V)} (h : (k == g) = false) : List.lookup k ((g, v) :: r) = List.lookup k r := by
  simp only [List.lookup, h]
def spMFrame (K : PySem.W.Frag) (C : Addr) : Sp := fun vs H Q _ => ∃ (p : Addr) (x : V) (n : Nat) (ps : List (Nat × Nat)) (as : List (Str × Addr × List Int)) (ad : List Addr), vs = [.ref p] ∧ ModAt K C H p x n ps as ad ∧ Q x H
theorem ok_Model_frame (T : Top K mg) : FnOk P w K mg base CX0 1 T.f_Model_frame T.d_Model_frame ["self"] (spMFrame K T.c_Model) := by
  refine T.F_Model_frame.ok sc_Model_frame (fun vs H Q E h => ?_) (fun cdv A outer s H vs Q E hr h => ?_)
  · obtain ⟨p, x, n, ps, as, ad, rfl, _⟩ := h
    rfl
  obtain ⟨p, x, n, ps, as, ad, rfl, ⟨dx, rp, tp, rs, bs, _, hp, _⟩, q⟩ := h
  refine ⟨_, (pss_one (ps_ret (pe_fld (pv 0) rfl))), ?_⟩
  exact ⟨_, rfl, p, _, dx, _, x, rfl, hp, T.cl_Model, T.n_Model_frame, lk_here, q⟩
def spMSeen (K : PySem.W.Frag) (C : Addr) : Sp := fun vs H Q _ => ∃ (p : Addr) (v : Nat) (x : V) (n : Nat) (ps : List (Nat × Nat)) (as : List (Str × Addr × List Int)) (ad : List Addr), vs = [.ref p, .int (v : Int)] ∧ ModAt K C H p x n ps as ad ∧ ps.length ≤ 10000 ∧
  ∀ (q : Addr) (H' : Hp), H q = none → Same H H' → H' q = some (.lst ((sucs ps v).map fun w : Nat => V.int w)) → Q (.ref q) H'
theorem ok_Model_seen (T : Top K mg) : FnOk P w K mg base CX0 1 T.f_Model_seen T.d_Model_seen ["self", "v"] (spMSeen K T.c_Model) := by
  refine T.F_Model_seen.ok sc_Model_seen (fun vs H Q E h => ?_) (fun cdv A outer s H vs Q E hr h => ?_)
  · obtain ⟨p, v, x, n, ps, as, ad, rfl, _⟩ := h
    rfl
  obtain ⟨p, v, x, n, ps, as, ad, rfl, ⟨dx, rp, tp, rs, bs, _, hp, _, ⟨r1, r2, r3, r4, r5⟩, hm, _⟩, hpl, k⟩ := h
  have hu64 := hr.units
  have hu := Nat.lt_of_le_of_lt (Nat.add_le_add_left (by decide : 1 ≤ 64) _) hu64
  refine ⟨_, (pss_one (ps_ret (pe_callTy call_list_of (by rfl) T.z_list (by decide +kernel) (pa_cons (pe_dget2 hu (pe_fld (pv 0) rfl) (pv 1) (pe_lst pa_nil) ⟨rfl, rfl, rfl, rfl⟩) pa_nil)))), ?_⟩
  refine ⟨_, rfl, p, _, dx, _, .ref rp, rfl, hp, T.cl_Model, T.n_Model_rows, ?_, ?_⟩
  · exact (lk_past (by decide +kernel)).trans lk_here
  refine ⟨rp, rfl, .inl ⟨_, .inl r1⟩, _, rfl, (by show 0 ≤ sizeLine; decide), fun l nl => ?_⟩
  have s1 := same_new (o := .lst []) nl
  by_cases hv : v ∈ rs.map (·.1)
  · obtain ⟨y, hy, e⟩ := List.mem_map.mp hv
    subst e
    refine ⟨_, .inl ⟨_, .inl (y.1 : Int), .inl (s1 _ _ r1), rfl, (valV_at r2 hy).symm⟩, y.2, _, rfl, .inl (SqL.of (s1 _ _ (r5 y hy))), fun q nq => ?_⟩
    have nqH : H q = none := by
      cases e : H q with
      | none => rfl
      | some o => rw [s1 _ _ e] at nq; cases nq
    exact k q _ nqH (s1.trans (same_new nq)) upd_same
  · refine ⟨none, .inl ⟨_, .inl (v : Int), .inl (s1 _ _ r1), rfl, (valV_off hv).symm⟩, l, [], rfl, .inl (SqL.of upd_same), fun q nq => ?_⟩
    have nqH : H q = none := by
      cases e : H q with
      | none => rfl
      | some o => rw [s1 _ _ e] at nq; cases nq
    refine k q _ nqH (s1.trans (same_new nq)) ?_
    have e0 : sucs ps v = [] := by
      cases e : sucs ps v with
      | nil => rfl
      | cons u r =>
        have hu2 : u ∈ sucs ps v := by rw [e]; exact List.mem_cons_self
        unfold sucs at hu2
        obtain ⟨z, hz, e2⟩ := List.mem_map.mp hu2
        obtain ⟨h1, h2⟩ := List.mem_filter.mp hz
        have h2 : z.1 = v := of_decide_eq_true h2
        exact absurd ((hm v).mpr ⟨z.2, by rw [← h2]; exact h1⟩) hv
    rw [e0, upd_same]
    rfl
theorem nodup_le {α : Type} [DecidableEq α] : ∀ (l D : List α), l.Nodup → (∀ x ∈ l, x ∈ D) → l.length ≤ D.length
  | [], _, _, _ => Nat.zero_le _
  | x :: l, D, nd, sub => by
    rw [List.nodup_cons] at nd
    have hx := sub x List.mem_cons_self
    have ih := nodup_le l (D.erase x) nd.2 fun y hy => (List.mem_erase_of_ne fun e : y = x => nd.1 (by rw [← e]; exact hy)).mpr (sub y (List.mem_cons_of_mem _ hy))
    rw [List.length_erase_of_mem hx] at ih
    have := List.length_pos_of_mem hx
    rw [List.length_cons]
    omega
theorem TrueOf.len {as bs : List (Str × Addr × List Int)} (h : TrueOf as bs) (nd : (bs.map (·.1)).Nodup) : bs.length ≤ as.length := by
  have := nodup_le (bs.map (·.1)) (as.map (·.1)) nd fun n hn => by
    obtain ⟨y, hy, rfl⟩ := List.mem_map.mp hn
    obtain ⟨x, hx, e, _⟩ := (h.1 y hy).2
    exact List.mem_map.mpr ⟨x, hx, e⟩
  rwa [List.length_map, List.length_map] at this
theorem TrueOf.of {as bs cs : List (Str × Addr × List Int)} (h : TrueOf as bs) (e : cs.map (fun y => (y.1, y.2.2)) = bs.map (fun y => (y.1, y.2.2))) : TrueOf as cs := by
  have e1 : cs.map (·.1) = bs.map (·.1) := by
    have := congrArg (List.map Prod.fst) e
    rw [List.map_map, List.map_map] at this
    exact this
  refine ⟨fun y hy => ?_, fun x hx h0 => e1 ▸ h.2 x hx h0⟩
  have hm : (y.1, y.2.2) ∈ bs.map (fun y => (y.1, y.2.2)) := e ▸ List.mem_map.mpr ⟨y, hy, rfl⟩
  obtain ⟨z, hz, ez⟩ := List.mem_map.mp hm
  obtain ⟨h1, h2⟩ := Prod.mk.inj ez
  have := h.1 z hz
  rw [h1, h2] at this
  exact this
def spMTrue (K : PySem.W.Frag) (C : Addr) : Sp := fun vs H Q _ => ∃ (p : Addr) (x : V) (n : Nat) (ps : List (Nat × Nat)) (as : List (Str × Addr × List Int)) (ad : List Addr), vs = [.ref p] ∧ ModAt K C H p x n ps as ad ∧ as.length < 60 ∧
  ∀ (D : Addr) (cs : List (Str × Addr × List Int)) (H' : Hp), H D = none → Same H H' → VdAt H' D cs → TrueOf as cs → (∀ y ∈ cs, H y.2.1 = none) → Q (.ref D) H'
theorem ok_Model_true_worlds (T : Top K mg) : FnOk P w K mg base CX0 1 T.f_Model_true_worlds T.d_Model_true_worlds ["self"] (spMTrue K T.c_Model) := by
  refine T.F_Model_true_worlds.ok sc_Model_true_worlds (fun vs H Q E h => ?_) (fun cdv A outer s H vs Q E hr h => ?_)
  · obtain ⟨p, x, n, ps, as, ad, rfl, _⟩ := h
    rfl
  obtain ⟨p, x, n, ps, as, ad, rfl, ⟨dx, rp, tp, rs, bs, _, hp, _, _, _, hV, hT⟩, hbl, k⟩ := h
  refine ⟨_, (pss_one (ps_ret (pe_lock (pe_dc (own := [("name", 1), ("worlds", 2)]) (g := gTup K 2 (gCons (gName 1) (gCons (gName 2) gNil))) (tt := tYes) (tv := (tCB (rListOf K) (tCons (tVar 2) tNil))) rfl sc_Model_true_worlds.nd (pi_items (pe_fld (pv 0) rfl)) (blkOk_by (N := ["self", "name", "worlds"]) (sc := defScope s_Model_true_worlds) (by decide +kernel)) (fun _ _ _ _ _ => (pg_tup rfl (pgs_cons (pg_name (i := 1) sc_Model_true_worlds.nd rfl (.inl rfl)) (pgs_cons (pg_name (i := 2) sc_Model_true_worlds.nd rfl (.inl rfl)) pgs_nil)))) (fun _ _ _ _ _ => pts_nil) (fun _ _ _ _ _ => (pv 1)) (fun _ _ _ _ _ => (pe_callTy (T := "list") call_list_ofK (by rfl) T.z_list (by decide +kernel) (pa_cons (pv 2) pa_nil))))))), ?_⟩
  obtain ⟨v1, v2, v3, v4, v5⟩ := id hV
  refine ⟨tp, _, v1, trivial, fun od => ?_⟩
  have nptp : p ≠ tp := fun e => by rw [e, v1] at hp; cases hp
  have kF : ∀ c o, H c = some o → c ≠ tp → upd H tp (.frz od (.dK (bs.map fun x => ((.inr x.1 : Key), V.ref x.2.1)))) c = some o := fun c o e n => by
    rw [upd_ne n]
    exact e
  have hD : upd H tp (.frz od (.dK (bs.map fun x => ((.inr x.1 : Key), V.ref x.2.1)))) tp = some (.frz od (.dK (bs.map fun x => ((.inr x.1 : Key), V.ref x.2.1)))) := upd_same
  have freeF : ∀ q, upd H tp (.frz od (.dK (bs.map fun x => ((.inr x.1 : Key), V.ref x.2.1)))) q = none → H q = none := fun q e => by
    by_cases z : q = tp
    · rw [z, upd_same] at e; cases e
    · rwa [upd_ne z] at e
  generalize upd H tp (.frz od (.dK (bs.map fun x => ((.inr x.1 : Key), V.ref x.2.1)))) = HF at kF hD freeF
  refine ⟨_, rfl, p, _, dx, _, .ref tp, rfl, kF _ _ hp nptp, T.cl_Model, T.n_Model_true, (lk_past (by decide +kernel)).trans ((lk_past (by decide +kernel)).trans lk_here), ?_⟩
  refine ⟨tp, od, _, rfl, hD, fun D nD => ?_⟩
  have nDt : tp ≠ D := ne_of_none hD nD
  have kFs : ∀ c o, H c = some o → HF c = some o ∨ c = tp := fun c o e => by
    by_cases z : c = tp
    · exact .inr z
    · exact .inl (kF _ _ e z)
  refine dc_it walk_items (fun i H5 => ∃ cs : List (Str × Addr × List Int), Same HF H5 ∧ VdAt H5 D cs ∧ cs.map (fun y => (y.1, y.2.2)) = (bs.take i).map (fun y => (y.1, y.2.2)) ∧ ∀ y ∈ cs, HF y.2.1 = none)
    ⟨[], same_new nD, VdAt.nil upd_same, rfl, fun y h => (nomatch h)⟩ (fun i H5 _ h => by
      obtain ⟨_, h, _⟩ := h
      exact h _ _ hD) ?_ ?_
  · rintro i y H5 H6 hi ⟨cs, s5, hC, hcs, hcf⟩ ⟨tt, k1, k2, rfl, ntt, rfl, hk1, hk2⟩
    simp only [List.getElem?_map] at hk1 hk2
    cases hz : bs[i]? with
    | none => rw [hz] at hk1; cases hk1
    | some z =>
    rw [hz] at hk1 hk2
    have e1 : k1 = .str z.1 := (Option.some.inj hk1).symm
    have e2 : k2 = .ref z.2.1 := (Option.some.inj hk2).symm
    subst e1 e2
    have hzm : z ∈ bs := List.mem_of_getElem? hz
    have hzt : z.2.1 ≠ tp := fun e => v4 (e ▸ List.mem_map.mpr ⟨z, hzm, rfl⟩)
    have hz5 := s5 _ _ (kF _ _ (v5 z hzm) hzt)
    have s6 := s5.trans (same_new (o := .tup [.str z.1, .ref z.2.1]) ntt)
    have s56 := same_new (o := .tup [.str z.1, .ref z.2.1]) ntt
    refine ⟨tt, _, rfl, SqT.of upd_same, rfl, _, _, rfl, _, _, rfl, rfl, rfl, _, rfl, _, rfl, z.2.1, _, rfl, .inl (SqL.of (s56 _ _ hz5)), fun l nl => ?_⟩
    have s7 := s56.trans (same_new (o := .lst (z.2.2.map V.int)) nl)
    have hl7 : upd (upd H5 tt (.tup [.str z.1, .ref z.2.1])) l (.lst (z.2.2.map V.int)) l = some (.lst (z.2.2.map V.int)) := upd_same
    have nl5 : H5 l = none := by
      cases e : H5 l with
      | none => rfl
      | some o => rw [s56 _ _ e] at nl; cases nl
    generalize upd (upd H5 tt (.tup [.str z.1, .ref z.2.1])) l (.lst (z.2.2.map V.int)) = H7 at s7 hl7
    have hC7 : VdAt H7 D cs := hC.keep fun _ _ o e => s7 _ _ e
    have hlen : cs.length = i := by
      have := congrArg List.length hcs
      rw [List.length_map, List.length_map, List.length_take, Nat.min_eq_left] at this
      · exact this
      · have := (List.getElem?_eq_some_iff.mp hz).1
        omega
    have off : z.1 ∉ cs.map (·.1) := fun h => by
      have e3 : cs.map (·.1) = (bs.take i).map (·.1) := by
        have := congrArg (List.map Prod.fst) hcs
        rw [List.map_map, List.map_map] at this
        exact this
      rw [e3] at h
      obtain ⟨u, hu, e⟩ := List.mem_map.mp h
      obtain ⟨j, hj⟩ := List.getElem?_of_mem hu
      rw [List.getElem?_take] at hj
      split at hj
      · rename_i hlt
        have h1 := List.getElem?_eq_some_iff.mp hj
        have h2 := List.getElem?_eq_some_iff.mp hz
        have := List.pairwise_iff_getElem.mp v2 j i (by rw [List.length_map]; exact h1.1) (by rw [List.length_map]; exact h2.1) hlt
        rw [List.getElem_map, List.getElem_map, h1.2, h2.2] at this
        exact this e
      · cases hj
    have nlC : l ∉ cs.map (·.2.1) := fun h => by
      obtain ⟨u, hu, e⟩ := List.mem_map.mp h
      have := hC.2.2.2.2 u hu
      rw [e, nl5] at this
      cases this
    have nlF : HF l = none := by
      cases e : HF l with
      | none => rfl
      | some o => rw [s5 _ _ e] at nl5; cases nl5
    rw [List.length_map] at hi
    have := hT.len v2
    refine ⟨_, .inr z.1, rfl, hC7.1, by rw [List.length_map]; exact small1000 (by omega), cs ++ [(z.1, l, z.2.2)], fun b o e => ?_, hC7.put off hl7 nlC, ?_, fun u hu => ?_⟩
    · rw [upd_ne (ne_of_none e nD)]
      exact s7 _ _ (s5 _ _ e)
    · rw [take_snoc hz, List.map_append, List.map_append, hcs]
      rfl
    · rcases List.mem_append.mp hu with hu | hu
      · exact hcf u hu
      · rw [List.mem_singleton.mp hu]
        exact nlF
  · rintro H5 ⟨cs, s5, hC, hcs, hcf⟩
    rw [List.length_map, List.take_length] at hcs
    refine ⟨s5 _ _ hD, ?_⟩
    have ntD : D ≠ tp := nDt.symm
    refine k D cs _ (freeF _ nD) (fun b o e => ?_) (hC.keep fun q hq o e => ?_) (hT.of hcs) fun y hy => freeF _ (hcf y hy)
    · by_cases z : b = tp
      · rw [z] at e ⊢
        rw [upd_same, ← e, v1]
      · rw [upd_ne z]
        exact s5 _ _ (kF _ _ e z)
    · have n : q ≠ tp := fun z => by
        rcases hq with h | h
        · exact ntD (h.symm.trans z)
        · obtain ⟨y, hy, e2⟩ := List.mem_map.mp h
          have := hcf y hy
          have e2 : y.2.1 = q := e2
          rw [e2, z, hD] at this
          cases this
      rw [upd_ne n]
      exact e

/-! ### the law -/
def spLaw (K : PySem.W.Frag) : Sp := fun vs H Q _ => ∃ (a : Addr) (ns : List Int), vs = [.ref a] ∧ SqL K H a (ns.map V.int) ∧ ns.length ≤ 63 ∧ ∀ H', Q (.bl true) H'
/-- the list at A is another one -/
def modL (as : List (Str × Addr × List Int)) (A : Addr) (l : List Int) : List (Str × Addr × List Int) := as.map fun x => if x.2.1 = A then (x.1, x.2.1, l) else x
theorem modL_same (as : List (Str × Addr × List Int)) (A : Addr) (l : List Int) : (modL as A l).map (fun x => (x.1, x.2.1)) = as.map (fun x => (x.1, x.2.1)) := by
  unfold modL
  rw [List.map_map]
  refine List.map_congr_left fun x _ => ?_
  show ((if x.2.1 = A then (x.1, x.2.1, l) else x).1, (if x.2.1 = A then (x.1, x.2.1, l) else x).2.1) = _
  split <;> rfl
theorem VdAt.like {H H' : Hp} {d : Addr} {as bs : List (Str × Addr × List Int)} (v : VdAt H d as) (e : bs.map (fun x => (x.1, x.2.1)) = as.map (fun x => (x.1, x.2.1))) (hd : H' d = H d) (h : ∀ x ∈ bs, H' x.2.1 = some (.lst (x.2.2.map V.int))) : VdAt H' d bs := by
  obtain ⟨v1, v2, v3, v4, _⟩ := v
  have e1 : bs.map (·.1) = as.map (·.1) := by
    have := congrArg (List.map Prod.fst) e
    rwa [List.map_map, List.map_map] at this
  have e2 : bs.map (·.2.1) = as.map (·.2.1) := by
    have := congrArg (List.map Prod.snd) e
    rwa [List.map_map, List.map_map] at this
  have e3 : bs.map (fun x => ((.inr x.1 : Key), V.ref x.2.1)) = as.map (fun x => ((.inr x.1 : Key), V.ref x.2.1)) := by
    have := congrArg (List.map fun y : Str × Addr => ((.inr y.1 : Key), V.ref y.2)) e
    rwa [List.map_map, List.map_map] at this
  exact ⟨by rw [hd, v1, e3], e1 ▸ v2, e2 ▸ v3, by rw [e2]; exact v4, h⟩
theorem TrueOf.sub {as bs cs : List (Str × Addr × List Int)} (h : TrueOf as bs) (g : TrueOf as cs) {m : Str} (hm : m ∈ bs.map (·.1)) : m ∈ cs.map (·.1) := by
  obtain ⟨y, hy, rfl⟩ := List.mem_map.mp hm
  obtain ⟨_, x, hx, e, h0, _⟩ := h.1 y hy
  have := g.2 x hx h0
  rwa [e] at this
theorem TrueOf.eq {as bs cs : List (Str × Addr × List Int)} (h : TrueOf as bs) (g : TrueOf as cs) (nd : (as.map (·.1)).Nodup) {y z : Str × Addr × List Int} (hy : y ∈ bs) (hz : z ∈ cs) (e : y.1 = z.1) : y.2.2 = z.2.2 := by
  obtain ⟨a1, x, hx, e1, _, m1⟩ := h.1 y hy
  obtain ⟨a2, u, hu, e2, _, m2⟩ := g.1 z hz
  have : x = u := nm_inj nd hx hu (e1.trans (e.trans e2.symm))
  subst this
  exact asc_uniq (lt := (· < ·)) (fun x => Int.lt_irrefl x) (fun x y h => Int.not_lt.mpr (Int.le_of_lt h)) a1 a2 fun k => (m1 k).trans (m2 k).symm
theorem TrueOf.same {as bs cs : List (Str × Addr × List Int)} (h : TrueOf as bs) (g : TrueOf as cs) (n1 : (bs.map (·.1)).Nodup) (n2 : (cs.map (·.1)).Nodup) : bs.length = cs.length := by
  have l1 := nodup_le _ _ n1 fun m hm => h.sub g hm
  have l2 := nodup_le _ _ n2 fun m hm => g.sub h hm
  rw [List.length_map, List.length_map] at l1 l2
  omega
theorem ModAt.ins {K : PySem.W.Frag} {C : Addr} {H : Hp} {p : Addr} {x : V} {n : Nat} {ps : List (Nat × Nat)} {as : List (Str × Addr × List Int)} {ad : List Addr} (m : ModAt K C H p x n ps as ad) : ∃ dx rp tp, H p = some (.ins C dx [("_frame", x), ("_rows", .ref rp), ("_true", .ref tp)]) := by
  obtain ⟨dx, rp, tp, _, _, _, h, _⟩ := m
  exact ⟨dx, rp, tp, h⟩
theorem fl_none {x y z : V} {m : Str} (h1 : (m == ("_frame" : Str)) = false) (h2 : (m == ("_rows" : Str)) = false) (h3 : (m == ("_true" : Str)) = false) : List.lookup m [(("_frame" : Str), x), ("_rows", y), ("_true", z)] = none :=
  (lk_past h1).trans ((lk_past h2).trans ((lk_past h3).trans rfl))
theorem bg_at (R : Nat → Nat → Bool) {n i j : Nat} (h : j < n) : (bg R n i)[j]? = some (.bl (R i j)) := by
  unfold bg
  rw [List.getElem?_map, List.getElem?_range h]
  rfl
theorem sel_step (j : Nat) (f : Nat → Bool) : sel (j + 1) f = sel j f ++ if f j = true then [V.int (j : Int)] else [] := by
  unfold sel
  rw [List.range_succ, List.filter_append, List.map_append, List.filter_cons]
  split <;> rfl
theorem sel_ints (n : Nat) (f : Nat → Bool) : sel n f = (((List.range n).filter f).map fun w : Nat => (w : Int)).map V.int := by
  unfold sel
  rw [List.map_map]
  rfl
theorem frD_frZ (n : Nat) (ps : List (Nat × Nat)) : frZ (n : Int) (ps.map toZ) = frD n ps := by
  unfold frZ frD
  rw [pd_toZ]
theorem ok_law (T : Top K mg) : FnOk P w K mg base CX0 21 T.f_law T.d_law ["script"] (spLaw K) := by
  have G_law_pool : FnOk P w K mg base CX0 1 T.f_law_pool T.d_law_pool ["script"] (spPool K) := ok_law_pool T
  have G_law_draw : FnOk P w K mg base CX0 2 T.f_law_draw T.d_law_draw ["pool", "many"] (spDraw K) := ok_law_draw T
  have G_law_wide_model : FnOk P w K mg base CX0 3 T.f_law_wide_model T.d_law_wide_model ["pool", "most"] (spWide K) := ok_law_wide_model T
  have G_law_framed : FnOk P w K mg base CX0 2 T.f_law_framed T.d_law_framed ["seen"] (spFramed K) := ok_law_framed T
  have G_law_distinct : FnOk P w K mg base CX0 1 T.f_law_distinct T.d_law_distinct ["rows"] (spDistinctI K) := ok_law_distinctI T
  have G_law_same : FnOk P w K mg base CX0 20 T.f_law_same T.d_law_same ["actual", "due"] (spSame K 20) := ok_law_same T 20
  have G_Model_init : FnOk P w K mg base (L2.CX P w) 4 T.f_Model_init T.d_Model_init ["self", "frame", "values"] (spInit K T.c_Model T.c_InvalidModel) := ok_Model_init T
  have G_Model_frame : FnOk P w K mg base CX0 1 T.f_Model_frame T.d_Model_frame ["self"] (spMFrame K T.c_Model) := ok_Model_frame T
  have G_Model_seen : FnOk P w K mg base CX0 1 T.f_Model_seen T.d_Model_seen ["self", "v"] (spMSeen K T.c_Model) := ok_Model_seen T
  have G_Model_true_worlds : FnOk P w K mg base CX0 1 T.f_Model_true_worlds T.d_Model_true_worlds ["self"] (spMTrue K T.c_Model) := ok_Model_true_worlds T
  refine T.F_law.ok sc_law (fun vs H Q E h => ?_) (fun cdv A outer s H vs Q E hr h => ?_)
  · obtain ⟨a, ns, rfl, _⟩ := h
    rfl
  obtain ⟨a, ns, rfl, hS, hlen, k⟩ := h
  have hu64 := hr.units
  have hu200 := hr.un
  have hu := Nat.lt_of_le_of_lt (Nat.add_le_add_left (by decide : 1 ≤ 64) _) hu64
  have hu66 : (A.deeper (envOfC (Str.ofString "law") (defScope s_law) s.heap.objs.size T.f_law cdv)).units + 66 < cLine := by
    have := hr.un
    omega
  refine ⟨_, (pss_cons (ps_set (i := 1) sc_law.nd rfl (.inr rfl) (pe_call G_law_pool (hr.mono (by omega)) (by rfl) T.m_law_pool T.F_law_pool.kp T.b_law_pool .nil pass0 (pa_cons (pv 0) pa_nil)))
    (pss_cons (ps_set (i := 2) sc_law.nd rfl (.inr rfl) (pe_call G_law_wide_model (hr.mono (by omega)) (by rfl) T.m_law_wide_model T.F_law_wide_model.kp T.b_law_wide_model .nil pass0 (pa_cons (pv 1) (pa_cons pe_int pa_nil))))
    (pss_cons (ps_set (i := 3) sc_law.nd rfl (.inr rfl) (pe_callB call_len_seq (by rfl) T.z_len PySem.boot_len (pa_cons (pe_ix ix_tup (pv 2) pe_int (fun _ _ => rfl)) pa_nil)))
    (pss_cons (ps_set (i := 4) sc_law.nd rfl (.inl rfl) (pe_call G_law_framed (hr.mono (by omega)) (by rfl) T.m_law_framed T.F_law_framed.kp T.b_law_framed .nil pass0 (pa_cons (pe_ix ix_tup (pv 2) pe_int (fun _ _ => rfl)) pa_nil)))
    (pss_cons (ps_set (i := 5) sc_law.nd rfl (.inl rfl) pe_dnewK)
    (pss_cons (ps_for PassesOwn.never rfl (pi_tup (pe_tup (pa_cons pe_str (pa_cons pe_str (pa_cons pe_str (pa_cons pe_str pa_nil)))))) (pg_name (i := 6) sc_law.nd rfl (.inl rfl))
      (pss_one (ps_dput hu (pv 5) (pv 6) (pe_lc (own := [("k", 15)]) (g := gName 15) (tt := tYes) rfl sc_law.nd (pi_range1 (by rfl) T.z_range (pa_cons (pe_call G_law_draw (hr.mono (by omega)) (by rfl) T.m_law_draw T.F_law_draw.kp T.b_law_draw .nil pass0 (pa_cons (pv 1) (pa_cons pe_int pa_nil))) pa_nil)) (blkOk_by (N := ["script", "pool", "model", "worlds", "frame", "values", "name", "due", "wrong", "told", "e", "handed", "shown", "v", "row", "k", "w"]) (sc := defScope s_law) (by decide +kernel)) (fun _ _ _ _ _ => pg_name (i := 15) sc_law.nd rfl (Or.inl rfl)) (fun _ _ _ _ _ => pts_nil) (fun _ _ _ _ _ => (pe_call G_law_draw (hr.mono (by omega)) (by rfl) T.m_law_draw T.F_law_draw.kp T.b_law_draw .nil pass0 (pa_cons (pv 1) (pa_cons (pv 3) pa_nil))))) rfl)))
    (pss_cons (ps_set (i := 7) sc_law.nd rfl (.inr rfl) pe_dnewK)
    (pss_cons (ps_lock (ps_for PassesOwn.never rfl (pi_keys (pv 5)) (pg_name (i := 6) sc_law.nd rfl (.inl rfl))
      (pss_one (ps_if (pt_cmpR (op_neD hu64) (pe_dget hu (pv 5) (pv 6) (fun _ _ => rfl)) (pe_lst pa_nil) (nomark _))
      (pss_one (ps_dput hu (pv 7) (pv 6) (pe_call G_law_distinct (hr.mono (by omega)) (by rfl) T.m_law_distinct T.F_law_distinct.kp T.b_law_distinct .nil pass0 (pa_cons (pe_dget hu (pv 5) (pv 6) (fun _ _ => rfl)) pa_nil)) rfl))
      pss_nil))))
    (pss_cons (ps_set (i := 8) sc_law.nd rfl (.inl rfl) (pe_call G_law_draw (hr.mono (by omega)) (by rfl) T.m_law_draw T.F_law_draw.kp T.b_law_draw .nil pass0 (pa_cons (pv 1) (pa_cons pe_int pa_nil))))
    (C8.pss_cut (ps_if (pt_cmpR op_eq (pv 8) pe_int (nomark _))
      (pss_cons (ps_set (i := 6) sc_law.nd rfl (.inl rfl) (pe_ix ix_tup (pe_tup (pa_cons pe_str (pa_cons pe_str (pa_cons pe_str (pa_cons pe_str pa_nil))))) (pe_call G_law_draw (hr.mono (by omega)) (by rfl) T.m_law_draw T.F_law_draw.kp T.b_law_draw .nil pass0 (pa_cons (pv 1) (pa_cons pe_int pa_nil))) (fun _ _ => rfl)))
    (pss_one (ps_expr (pe_bm PySem.F.plainAttrs_list PySem.F.slot_list_insert PySem.F.type_list_insert mt_insert (pe_dget hu (pv 5) (pv 6) (fun _ _ => rfl)) (pa_cons (pe_call G_law_draw (hr.mono (by omega)) (by rfl) T.m_law_draw T.F_law_draw.kp T.b_law_draw .nil pass0 (pa_cons (pv 1) (pa_cons (pe_op op_add (pe_callB call_len_seq (by rfl) T.z_len PySem.boot_len (pa_cons (pe_dget hu (pv 5) (pv 6) (fun _ _ => rfl)) pa_nil)) pe_int) pa_nil))) (pa_cons (pe_ix ix_tup (pe_tup (pa_cons (pv 3) (pa_cons (pe_un un_neg pe_int) (pa_cons (pe_op op_add (pv 3) pe_int) pa_nil)))) (pe_call G_law_draw (hr.mono (by omega)) (by rfl) T.m_law_draw T.F_law_draw.kp T.b_law_draw .nil pass0 (pa_cons (pv 1) (pa_cons pe_int pa_nil))) (fun _ _ => rfl)) pa_nil))))))
      pss_nil)
    (C8.pss_cut (ps_if (pt_cmpR op_eq (pv 8) pe_int (nomark _))
      (pss_one (ps_set (i := 4) sc_law.nd rfl (.inl rfl) (pe_ix ix_list (pe_lst (pa_cons (pe_tup (pa_cons pe_int (pa_cons (pe_tup pa_nil) pa_nil))) (pa_cons (pe_tup (pa_cons (pv 3) (pa_cons (pe_tup (pa_cons (pe_tup (pa_cons pe_int (pa_cons (pv 3) pa_nil))) pa_nil)) pa_nil))) (pa_cons (pe_tup (pa_cons (pv 3) (pa_cons (pe_tup (pa_cons (pe_tup (pa_cons pe_int (pa_cons pe_int pa_nil))) (pa_cons (pe_tup (pa_cons pe_int (pa_cons pe_int pa_nil))) pa_nil))) pa_nil))) (pa_cons (pe_tup (pa_cons (pe_un un_neg pe_int) (pa_cons (pe_tup pa_nil) pa_nil))) pa_nil))))) (pe_call G_law_draw (hr.mono (by omega)) (by rfl) T.m_law_draw T.F_law_draw.kp T.b_law_draw .nil pass0 (pa_cons (pv 1) (pa_cons pe_int pa_nil))) (fun _ _ => rfl))))
      pss_nil)
    (pss_cons (ps_try_as (i := 10) (ts := fun a cls d => tOnly cls d T.c_InvalidModel (tRet (tAndV (tOp _ (tVar 8) (tC (.int 2))) (tNotV (tCB (rIsE K T.c_InvalidModel a) (tCons (tVar 10) (tCons (tC (.ref T.c_NotPlain)) tNil))))))) rfl rfl sc_law.nd rfl rfl ⟨rfl, by decide, .inl T.g_InvalidModel⟩ takes0 (fun W pn xe tk _ => (pss_one (ps_set (i := 9) sc_law.nd rfl (.inl rfl) (pe_makeAt T.mk_Model G_Model_init (hr.mono (by omega)) (by rfl) T.g_Model T.b_Model_init (fun σ => passAt tk σ) (pa_cons (pv 4) (pa_cons (pv 5) pa_nil)))))) (fun a oe cls d pn hz hf => pss_only2 (D := T.c_InvalidModel) hz fun hz => (pss_one (ps_ret (pe_and (pe_cmpR op_lt (pv 8) pe_int (nomark _)) (pe_one (pe_not (pe_callB (call_isE T.E_InvalidModel hz hf) (by rfl) T.z_isinstance (by decide +kernel) (pa_cons (pv 10) (pa_cons (pe_glob (v := .ref T.c_NotPlain) rfl T.g_NotPlain rfl) pa_nil))))))))))
    (pss_cons (ps_if (pt_cmpR op_lt (pv 8) pe_int (nomark _))
      (pss_one (ps_ret pe_bl))
      pss_nil)
    (pss_cons (ps_lock (ps_for PassesOwn.never rfl (pi_keys (pv 5)) (pg_name (i := 6) sc_law.nd rfl (.inl rfl))
      (pss_one (ps_expr (pe_bm PySem.F.plainAttrs_list PySem.F.slot_list_append PySem.F.type_list_append mt_append (pe_dget hu (pv 5) (pv 6) (fun _ _ => rfl)) (pa_cons pe_int pa_nil))))))
    (pss_cons (ps_set (i := 11) sc_law.nd rfl (.inl rfl) (pe_meth0 (pv 9) T.cl_Model T.M_Model_true_worlds G_Model_true_worlds (hr.mono (by omega)) T.b_Model_true_worlds .nil pass0))
    (pss_cons (ps_dput hu (pv 11) pe_str (pe_lst (pa_cons pe_int pa_nil)) rfl)
    (pss_cons (ps_set (i := 12) sc_law.nd rfl (.inr rfl) (pe_meth0 (pv 9) T.cl_Model T.M_Model_true_worlds G_Model_true_worlds (hr.mono (by omega)) T.b_Model_true_worlds .nil pass0))
    (pss_cons (ps_if (PW.pt (pw_or (pt_cmpR (op_neV hu66) (pv 12) (pv 7) (nomark _)) (pw_or1 (pt_cmpR op_gt (pe_callB call_len_seq (by rfl) T.z_len PySem.boot_len (pa_cons (pe_lock (pe_lc (own := [("name", 6)]) (g := gName 6) rfl sc_law.nd (pi_keys (pv 7)) (blkOk_by (N := ["script", "pool", "model", "worlds", "frame", "values", "name", "due", "wrong", "told", "e", "handed", "shown", "v", "row", "k", "w"]) (sc := defScope s_law) (by decide +kernel)) (fun _ _ _ _ _ => pg_name (i := 6) sc_law.nd rfl (Or.inl rfl)) (fun _ _ _ _ _ => pts_one (pt_not (pt_val (pe_call G_law_same (hr.mono (by omega)) (by rfl) T.m_law_same T.F_law_same.kp T.b_law_same .nil pass0 (pa_cons (pe_dget hu (pv 12) (pv 6) (fun _ _ => rfl)) (pa_cons (pe_dget hu (pv 7) (pv 6) (fun _ _ => rfl)) pa_nil)))))) (fun _ _ _ _ _ => (pv 6)))) pa_nil)) pe_int (nomark _)))))
      (pss_one (ps_ret pe_bl))
      pss_nil)
    (pss_cons (ps_for PassesOwn.never rfl (pi_range1 (by rfl) T.z_range (pa_cons (pv 3) pa_nil)) (pg_name (i := 13) sc_law.nd rfl (.inr rfl))
      (pss_cons (ps_set (i := 14) sc_law.nd rfl (.inl rfl) (pe_meth (pv 9) T.cl_Model T.M_Model_seen G_Model_seen (hr.mono (by omega)) T.b_Model_seen .nil pass0 (pa_cons (pv 13) pa_nil)))
    (pss_cons (ps_if (pt_not (pt_val (pe_call G_law_same (hr.mono (by omega)) (by rfl) T.m_law_same T.F_law_same.kp T.b_law_same .nil pass0 (pa_cons (pv 14) (pa_cons (pe_lc (own := [("w", 16)]) (g := gName 16) (tt := (tB (tOp (rIxL K) (tOp (rIxL K) (tOp (rIxT K) _ _) _) _))) rfl sc_law.nd (pi_range1 (by rfl) T.z_range (pa_cons (pv 3) pa_nil)) (blkOk_by (N := ["script", "pool", "model", "worlds", "frame", "values", "name", "due", "wrong", "told", "e", "handed", "shown", "v", "row", "k", "w"]) (sc := defScope s_law) (by decide +kernel)) (fun _ _ _ _ _ => pg_name (i := 16) sc_law.nd rfl (Or.inl rfl)) (fun _ _ _ _ _ => pts_one (pt_val (pe_ix ix_list (pe_ix ix_list (pe_ix ix_tup (pv 2) pe_int (fun _ _ => rfl)) (pv 13) (fun _ _ => rfl)) (pv 16) (fun _ _ => rfl)))) (fun _ _ _ _ _ => (pv 16))) pa_nil)))))
      (pss_one (ps_ret pe_bl))
      pss_nil)
    (pss_cons (ps_expr (pe_bm PySem.F.plainAttrs_list PySem.F.slot_list_append PySem.F.type_list_append mt_append (pv 14) (pa_cons (pv 13) pa_nil)))
    (pss_one (ps_if (pt_cmpR op_eq (pe_callB call_len_seq (by rfl) T.z_len PySem.boot_len (pa_cons (pe_meth (pv 9) T.cl_Model T.M_Model_seen G_Model_seen (hr.mono (by omega)) T.b_Model_seen .nil pass0 (pa_cons (pv 13) pa_nil)) pa_nil)) (pe_callB call_len_seq (by rfl) T.z_len PySem.boot_len (pa_cons (pv 14) pa_nil)) (nomark _))
      (pss_one (ps_ret pe_bl))
      pss_nil))))))
    (pss_one (ps_ret (pe_call G_law_same (hr.mono (by omega)) (by rfl) T.m_law_same T.F_law_same.kp T.b_law_same .nil pass0 (pa_cons (pe_meth0 (pv 9) T.cl_Model T.M_Model_frame G_Model_frame (hr.mono (by omega)) T.b_Model_frame .nil pass0) (pa_cons (pv 4) pa_nil)))))))))))))))))))))))), ?_⟩
  refine ⟨_, rfl, a, ns, rfl, hS, fun p l H1 np s1 hP1 => ?_⟩
  refine ⟨_, rfl, p, l, 5, rfl, hP1, by decide, by decide, fun t s d0 n R W H2 n1 n5 k2 hP2 ns0 nd0 hT hG hV => ?_⟩
  obtain ⟨rs, g1, g2, g3, g4, g5⟩ := hG
  have el : ((rs.map V.ref).length : Int) = (n : Int) := by rw [List.length_map, g2]
  refine ⟨_, rfl, t, _, 0, .ref s, rfl, rfl, hT, atI_nat (j := 0) rfl, s, _, rfl, .inl (SqL.of g1), ?_⟩
  rw [el]
  have hG : GridAt H2 s n R := ⟨rs, g1, g2, g3, g4, g5⟩
  refine ⟨_, rfl, t, _, 0, .ref s, rfl, rfl, hT, atI_nat (j := 0) rfl, s, n, R, rfl, hG, by omega, fun fv H3 s3 i3 => ?_⟩
  have hG3 := hG.same s3
  have hP3 := hP2.same s3
  have hT3 := (Same.ts s3).sqT hT
  intro dv ndv
  refine ⟨(by show 4 ≤ sizeLine; decide), fun tt ntt => ⟨tt, rfl, ⟨_, SqT.of upd_same⟩, ?_⟩⟩
  have s35 := (same_new (o := .dK []) ndv).trans (same_new (o := .tup [.str "p", .str "q", .str "r", .str "x9"]) ntt)
  have hP5 := hP3.same s35
  have ndvt : dv ≠ tt := ne_of_none upd_same ntt
  have hd5 : (upd (upd H3 dv (.dK [])) tt (.tup [.str "p", .str "q", .str "r", .str "x9"])) dv = some (.dK []) := by
    rw [upd_ne ndvt]
    exact upd_same
  have ht5 : (upd (upd H3 dv (.dK [])) tt (.tup [.str "p", .str "q", .str "r", .str "x9"])) tt = some (.tup [.str "p", .str "q", .str "r", .str "x9"]) := upd_same
  generalize upd (upd H3 dv (.dK [])) tt (.tup [.str "p", .str "q", .str "r", .str "x9"]) = H5 at hP5 s35 hd5 ht5
  obtain ⟨xs5, hp5⟩ := hP5.lst
  have ndvp : dv ≠ p := fun e => by
    rw [e, hp5] at hd5
    cases hd5
  have nttp : tt ≠ p := fun e => by
    rw [e, hp5] at ht5
    cases ht5
  refine for_tup (K := K) (a := tt) (xs := [.str "p", .str "q", .str "r", .str "x9"]) (fun i σ H6 => ∃ (as : List (Str × Addr × List Int)) (v6 : Option V), σ = [some (.ref a), some (.ref p), some (.ref t), some (.int n), some fv, some (.ref dv), v6, none, none, none, none, none, none, none, none, none, none] ∧
      (∀ b o, H5 b = some o → b ≠ p → b ≠ dv → H6 b = some o) ∧ Pl K H6 p l ∧ as.map (·.1) = (["p", "q", "r", "x9"] : List Str).take i ∧ VdAt H6 dv as ∧ p ∉ as.map (·.2.1) ∧ (∀ x ∈ as, H5 x.2.1 = none) ∧ ∀ x ∈ as, x.2.2.length ≤ 4 ∧ ∀ z ∈ x.2.2, 0 ≤ z ∧ z < (n : Int))
    ⟨[], none, rfl, fun _ _ h _ _ => h, hP5, rfl, VdAt.nil hd5, fun h => (nomatch h), fun x h => (nomatch h), fun x h => (nomatch h)⟩ (fun i σ H6 _ h => by
      obtain ⟨_, _, _, h, _⟩ := h
      exact SqT.of (h _ _ ht5 nttp ndvt.symm)) ?_ ?_
  · rintro i x σ H6 hx ⟨as, v6, rfl, kk, hP6, has, hV6, npa, hfr, hbd⟩
    obtain ⟨y, rfl, hy⟩ : ∃ y : Str, x = .str y ∧ (["p", "q", "r", "x9"] : List Str)[i]? = some y := by
      have e : ([.str "p", .str "q", .str "r", .str "x9"] : List V) = (["p", "q", "r", "x9"] : List Str).map V.str := rfl
      rw [e, List.getElem?_map] at hx
      cases hz : (["p", "q", "r", "x9"] : List Str)[i]? with
      | none => rw [hz] at hx; cases hx
      | some z =>
        rw [hz] at hx
        exact ⟨z, (Option.some.inj hx).symm, rfl⟩
    have yn : y ∉ as.map (·.1) := by
      rw [has]
      intro hm
      obtain ⟨j, hj⟩ := List.getElem?_of_mem hm
      rw [List.getElem?_take] at hj
      split at hj
      · have nn : (["p", "q", "r", "x9"] : List Str).Nodup := by decide +kernel
        have i3 := (List.getElem?_eq_some_iff.mp hy).1
        have := (List.getElem?_inj (by omega) nn).mp (hj.trans hy.symm)
        omega
      · cases hj
    have hle : as.length ≤ 4 := by
      have := congrArg List.length has
      rw [List.length_map, List.length_take] at this
      have : (["p", "q", "r", "x9"] : List Str).length = 4 := rfl
      omega
    refine ⟨_, rfl, p, l, 5, rfl, hP6, by decide, by decide, fun m H7 m0 m1 k7 hP7 => ⟨m, rfl, by omega, by omega, fun L nL => ?_⟩⟩
    obtain ⟨xs7, hp7⟩ := hP7.lst
    have nLp : L ≠ p := (ne_of_none hp7 nL).symm
    have nq : ∀ q, q = dv ∨ q ∈ as.map (·.2.1) → q ≠ p := fun q hq e => by
      rcases hq with h | h
      · exact ndvp (h.symm.trans e)
      · exact npa (e ▸ h)
    have hV7 : VdAt H7 dv as := hV6.keep fun q hq o e => k7 _ _ e (nq q hq)
    refine lc_range (n := m.toNat) (fun j H8 => ∃ ls : List Int, Kp p H7 H8 ∧ Pl K H8 p l ∧ H8 L = some (.lst (ls.map V.int)) ∧ ls.length = j ∧ ∀ z ∈ ls, 0 ≤ z ∧ z < (n : Int)) ⟨[], Same.kp (same_new nL), hP7.same (same_new nL), upd_same, rfl, fun z h => (nomatch h)⟩ ?_ ?_
    · rintro j H8 hj ⟨ls, k8, hP8, hL8, hl, hb⟩
      refine ⟨rfl, _, rfl, _, rfl, p, l, n, rfl, hP8, by omega, by omega, fun z H9 z0 z1 k9 hP9 => ?_⟩
      have hL9 := k9 _ _ hL8 nLp
      refine ⟨_, hL9, (by rw [List.length_map]; exact small1000 (by omega)), ls ++ [z], (k8.trans k9).under nL Kp.upd, hP7.other nL hP9 Kp.upd, ?_, by rw [List.length_append, hl]; rfl, fun u hu => ?_⟩
      · rw [upd_same, List.map_append]
        rfl
      · rcases List.mem_append.mp hu with h | h
        · exact hb u h
        · rw [List.mem_singleton.mp h]
          exact ⟨z0, z1⟩
    · rintro H8 ⟨ls, k8, hP8, hL8, hl, hb⟩
      have hV8 : VdAt H8 dv as := hV7.keep fun q hq o e => k8 _ _ e (nq q hq)
      have nLas : L ∉ as.map (·.2.1) := fun h => by
        obtain ⟨x, hx, e⟩ := List.mem_map.mp h
        have := hV7.2.2.2.2 x hx
        rw [e, nL] at this
        cases this
      have nLd : L ≠ dv := fun e => by
        rw [e, hV7.1] at nL
        cases nL
      have nL5 : H5 L = none := by
        cases e : H5 L with
        | none => rfl
        | some o => rw [k7 _ _ (kk _ _ e nLp nLd) nLp] at nL; cases nL
      refine ⟨_, rfl, _, rfl, dv, _, rfl, .inl ⟨_, .inr y, hV8.1, rfl, (by rw [List.length_map]; exact small1000 (by omega)), rfl⟩, ?_⟩
      refine ⟨as ++ [(y, L, ls)], _, rfl, fun b o hb h1 h2 => ?_, hP3.other ndv (H1 := H8) hP8 Kp.upd, ?_, hV8.put yn hL8 nLas, ?_, fun x hx => ?_, fun x hx => ?_⟩
      · rw [upd_ne h2]
        exact k8 _ _ (k7 _ _ (kk b o hb h1 h2) h1) h1
      · rw [take_snoc hy, List.map_append, has]
        rfl
      · rw [List.map_append]
        intro hm
        rcases List.mem_append.mp hm with hm | hm
        · exact npa hm
        · exact nLp (List.mem_singleton.mp hm).symm
      · rcases List.mem_append.mp hx with hx | hx
        · exact hfr x hx
        · rw [List.mem_singleton.mp hx]
          exact nL5
      · rcases List.mem_append.mp hx with hx | hx
        · exact hbd x hx
        · rw [List.mem_singleton.mp hx]
          exact ⟨by show ls.length ≤ 4; omega, hb⟩
  rintro σ H6 ⟨as, v6, rfl, kk, hP6, has, hV6, npa, hfr, hbd⟩
  have has4 : as.map (·.1) = ((["p", "q", "r", "x9"] : List Str)) := has
  have hal : as.length = 4 := by
    have := congrArg List.length has4
    rwa [List.length_map] at this
  -- what is due
  intro du ndu
  have s67 := same_new (o := .dK []) ndu
  have hu7 : upd H6 du (.dK []) du = some (.dK []) := upd_same
  have hP7 := hP6.same s67
  have hV7 : VdAt (upd H6 du (.dK [])) dv as := hV6.keep fun _ _ o e => s67 _ _ e
  have nvu : dv ≠ du := ne_of_none hV6.1 ndu
  have nup : du ≠ p := fun e => by
    obtain ⟨xs6, hp6⟩ := hP6.lst
    rw [e, hp6] at ndu
    cases ndu
  generalize upd H6 du (.dK []) = H7 at s67 hu7 hP7 hV7
  refine ⟨dv, _, hV7.1, trivial, fun od => ?_⟩
  have kF : ∀ c o, H7 c = some o → c ≠ dv → upd H7 dv (.frz od (.dK (as.map fun x => ((.inr x.1 : Key), V.ref x.2.1)))) c = some o := fun c o e n => by
    rw [upd_ne n]
    exact e
  have hD : upd H7 dv (.frz od (.dK (as.map fun x => ((.inr x.1 : Key), V.ref x.2.1)))) dv = some (.frz od (.dK (as.map fun x => ((.inr x.1 : Key), V.ref x.2.1)))) := upd_same
  have freeF : ∀ q, upd H7 dv (.frz od (.dK (as.map fun x => ((.inr x.1 : Key), V.ref x.2.1)))) q = none → H7 q = none := fun q e => by
    by_cases z : q = dv
    · rw [z, upd_same] at e; cases e
    · rwa [upd_ne z] at e
  have kFb : ∀ c o, upd H7 dv (.frz od (.dK (as.map fun x => ((.inr x.1 : Key), V.ref x.2.1)))) c = some o → c ≠ dv → H7 c = some o := fun c o e n => by
    rwa [upd_ne n] at e
  generalize upd H7 dv (.frz od (.dK (as.map fun x => ((.inr x.1 : Key), V.ref x.2.1)))) = HF at kF hD freeF kFb
  have hvd : ∀ x ∈ as, x.2.1 ≠ dv := fun x hx e => hV7.2.2.2.1 (e ▸ List.mem_map.mpr ⟨x, hx, rfl⟩)
  have hvu : ∀ x ∈ as, x.2.1 ≠ du := fun x hx e => by
    have := hV6.2.2.2.2 x hx
    rw [e, ndu] at this
    cases this
  refine ⟨_, rfl, dv, od, rfl, .inl ⟨_, hD, ?_⟩⟩
  refine for_it walk_keys (fun i σ H8 => ∃ (bs : List (Str × Addr × List Int)) (v6 : Option V), σ = [some (.ref a), some (.ref p), some (.ref t), some (.int n), some fv, some (.ref dv), v6, some (.ref du), none, none, none, none, none, none, none, none, none] ∧
      (∀ b o, HF b = some o → b ≠ du → H8 b = some o) ∧ VdAt H8 du bs ∧ (∀ y ∈ bs, HF y.2.1 = none) ∧ (∀ y ∈ bs, y.2.2.Pairwise (· < ·) ∧ ∃ x ∈ as.take i, x.1 = y.1 ∧ x.2.2 ≠ [] ∧ ∀ k, k ∈ y.2.2 ↔ k ∈ x.2.2) ∧ (∀ x ∈ as.take i, x.2.2 ≠ [] → x.1 ∈ bs.map (·.1)) ∧ bs.length ≤ i)
    ⟨[], v6, rfl, fun _ _ h _ => h, VdAt.nil (kF _ _ hu7 nvu.symm), fun x h => (nomatch h), fun x h => (nomatch h), fun x h => (nomatch h), Nat.le_refl 0⟩ (fun i σ H8 _ h => by
      obtain ⟨_, _, _, h, _⟩ := h
      exact h _ _ hD nvu) ?_ ?_
  · rintro i x σ H8 H9 hi ⟨bs, v6, rfl, k8, hB, hbf, hb1, hb2, hbl⟩ ⟨e9, kk1, vv, hkv, rfl⟩
    replace e9 := e9.symm
    subst e9
    rw [List.getElem?_map] at hkv
    cases hz : as[i]? with
    | none => rw [hz] at hkv; cases hkv
    | some z =>
    rw [hz] at hkv
    have e1 : kk1 = .inr z.1 := (congrArg Prod.fst (Option.some.inj hkv)).symm
    subst e1
    have hzm : z ∈ as := List.mem_of_getElem? hz
    have hz8 := k8 _ _ (kF _ _ (hV7.2.2.2.2 z hzm) (hvd z hzm)) (hvu z hzm)
    have hg8 : DGet H8 dv (.str z.1) (some (.ref z.2.1)) := .inl ⟨_, .inr z.1, .inr ⟨od, k8 _ _ hD nvu⟩, rfl, (vd_val hV7.2.1 hzm).symm⟩
    refine ⟨_, rfl, _, rfl, dv, _, rfl, hg8, (by show 0 ≤ sizeLine; decide), fun e ne => ?_⟩
    have s9 := same_new (o := .lst []) ne
    refine ⟨_, _, .lst (SqL.of (s9 _ _ hz8)) (dp_ints z.2.2), .lst (SqL.of upd_same) .nil, shaped_ints z.2.2, rfl, _, rfl, ?_⟩
    have hB9 : VdAt (upd H8 e (.lst [])) du bs := hB.keep fun _ _ o h => s9 _ _ h
    rw [eqv_nil]
    have g9 : ∀ b o, H8 b = some o → upd H8 e (.lst []) b = some o := s9
    have e9n : H8 e = none := ne
    generalize upd H8 e (.lst []) = H9 at s9 hB9 g9
    have k9 : ∀ b o, HF b = some o → b ≠ du → H9 b = some o := fun b o h n => s9 _ _ (k8 _ _ h n)
    by_cases hz0 : z.2.2 = []
    · rw [hz0]
      refine iteF ⟨bs, _, rfl, k9, hB9, hbf, fun y hy => ?_, fun x hx hx0 => ?_, by omega⟩
      · obtain ⟨q1, x, hx, q2⟩ := hb1 y hy
        exact ⟨q1, x, by rw [take_snoc hz]; exact List.mem_append_left _ hx, q2⟩
      · rw [take_snoc hz, List.mem_append] at hx
        rcases hx with h | h
        · exact hb2 x h hx0
        · rw [List.mem_singleton.mp h] at hx0
          exact absurd hz0 hx0
    · have hne : (z.2.2.map PyData.int).isEmpty = false := by
        cases h : z.2.2 with
        | nil => exact absurd h hz0
        | cons _ _ => rfl
      rw [hne]
      have hg9 : DGet H9 dv (.str z.1) (some (.ref z.2.1)) := .inl ⟨_, .inr z.1, .inr ⟨od, k9 _ _ hD nvu⟩, rfl, (vd_val hV7.2.1 hzm).symm⟩
      refine iteT ⟨_, rfl, _, rfl, dv, _, rfl, hg9, z.2.1, z.2.2, rfl, SqL.of (s9 _ _ hz8), (by have := (hbd z hzm).1; omega), fun q ms H10 nq s10 hq hms hmem => ?_⟩
      have hB10 : VdAt H10 du bs := hB9.keep fun _ _ o h => s10 _ _ h
      have off : z.1 ∉ bs.map (·.1) := fun h => by
        obtain ⟨y, hy, e⟩ := List.mem_map.mp h
        obtain ⟨_, x, hx, e2, _⟩ := hb1 y hy
        have e : y.1 = z.1 := e
        obtain ⟨j, hj⟩ := List.getElem?_of_mem hx
        rw [List.getElem?_take] at hj
        split at hj
        · rename_i hlt
          have h1 := (List.getElem?_eq_some_iff.mp hj)
          have h2 := (List.getElem?_eq_some_iff.mp hz)
          have := List.pairwise_iff_getElem.mp hV7.2.1 j i (by rw [List.length_map]; exact h1.1) (by rw [List.length_map]; exact h2.1) hlt
          rw [List.getElem_map, List.getElem_map, h1.2, h2.2] at this
          exact this (e2.trans e)
        · cases hj
      have nqB : q ∉ bs.map (·.2.1) := fun h => by
        obtain ⟨y, hy, e⟩ := List.mem_map.mp h
        have := hB9.2.2.2.2 y hy
        rw [e, nq] at this
        cases this
      have nqu : q ≠ du := fun e => by
        rw [e, hB9.1] at nq
        cases nq
      have nqF : HF q = none := by
        cases e : HF q with
        | none => rfl
        | some o => rw [k9 _ _ e nqu] at nq; cases nq
      refine ⟨_, rfl, _, rfl, du, _, rfl, .inl ⟨_, .inr z.1, hB10.1, rfl, (by rw [List.length_map]; rw [List.length_map] at hi; exact small1000 (by omega)), rfl⟩, ?_⟩
      refine ⟨bs ++ [(z.1, q, ms)], _, rfl, fun b o h n => ?_, hB10.put off hq nqB, fun y hy => ?_, fun y hy => ?_, fun x hx hx0 => ?_, by rw [List.length_append]; simp; omega⟩
      · rw [upd_ne n]
        exact s10 _ _ (k9 _ _ h n)
      · rcases List.mem_append.mp hy with hy | hy
        · exact hbf y hy
        · rw [List.mem_singleton.mp hy]
          exact nqF
      · rcases List.mem_append.mp hy with hy | hy
        · obtain ⟨q1, x, hx, q2⟩ := hb1 y hy
          exact ⟨q1, x, by rw [take_snoc hz]; exact List.mem_append_left _ hx, q2⟩
        · rw [List.mem_singleton.mp hy]
          exact ⟨hms, z, by rw [take_snoc hz]; exact List.mem_append_right _ List.mem_cons_self, rfl, hz0, hmem⟩
      · rw [List.map_append]
        rw [take_snoc hz, List.mem_append] at hx
        rcases hx with h | h
        · exact List.mem_append_left _ (hb2 x h hx0)
        · have e : x.1 = z.1 := by rw [List.mem_singleton.mp h]
          rw [e]
          exact List.mem_append_right _ List.mem_cons_self
  rintro σ H8 ⟨bs, v8, rfl, k8, hB, hbf, hb1, hb2, hbl⟩
  rw [List.length_map, List.take_length] at hb1 hb2
  have hdue : TrueOf as bs := ⟨hb1, hb2⟩
  refine ⟨k8 _ _ hD nvu, ?_⟩
  have k89 : ∀ b o, H8 b = some o → b ≠ dv → upd H8 dv (.dK (as.map fun x => ((.inr x.1 : Key), V.ref x.2.1))) b = some o := fun b o e n => by
    rw [upd_ne n]
    exact e
  have hd9 : upd H8 dv (.dK (as.map fun x => ((.inr x.1 : Key), V.ref x.2.1))) dv = some (.dK (as.map fun x => ((.inr x.1 : Key), V.ref x.2.1))) := upd_same
  generalize upd H8 dv (.dK (as.map fun x => ((.inr x.1 : Key), V.ref x.2.1))) = H9 at k89 hd9
  have k79 : Kp du H7 H9 := fun b o e n => by
    by_cases z : b = dv
    · rw [z] at e ⊢
      rw [hV7.1] at e
      rw [hd9, e]
    · exact k89 _ _ (k8 _ _ (kF _ _ e z) n) z
  have s69 : Same H6 H9 := fun b o e => k79 _ _ (s67 _ _ e) (ne_of_none e ndu)
  have hP9 : Pl K H9 p l := hP6.same s69
  have hV9 : VdAt H9 dv as := hV6.keep fun _ _ o e => s69 _ _ e
  have hB9 : VdAt H9 du bs := hB.keep fun q hq o e => k89 _ _ e (by
    rintro rfl
    rcases hq with h | h
    · exact nvu h
    · obtain ⟨y, hy, e2⟩ := List.mem_map.mp h
      have := hbf y hy
      have e2 : y.2.1 = q := e2
      rw [e2, hD] at this
      cases this)
  have hbf6 : ∀ y ∈ bs, H6 y.2.1 = none := fun y hy => by
    cases e : H6 y.2.1 with
    | none => rfl
    | some o =>
      have := freeF _ (hbf y hy)
      rw [s67 _ _ e] at this
      cases this
  obtain ⟨xs6, hp6⟩ := hP6.lst
  have npb : ∀ y ∈ bs, y.2.1 ≠ p := fun y hy e => by
    have := hbf6 y hy
    rw [e, hp6] at this
    cases this
  have npa2 : ∀ y ∈ as, y.2.1 ≠ p := fun y hy e => npa (e ▸ List.mem_map.mpr ⟨y, hy, rfl⟩)
  -- what is done wrong
  refine ⟨_, rfl, p, l, 6, rfl, hP9, by decide, by decide, fun wr H10 w0 w5 k10 hP10 => ?_⟩
  refine ⟨fun σ H => ∃ (as' : List (Str × Addr × List Int)) (v6 : Option V), σ = [some (.ref a), some (.ref p), some (.ref t), some (.int n), some fv, some (.ref dv), v6, some (.ref du), some (.int wr), none, none, none, none, none, none, none, none] ∧
    (∀ b o, H9 b = some o → b ≠ p → b ∉ as.map (·.2.1) → H b = some o) ∧ TS H9 H ∧ Pl K H p l ∧ VdAt H dv as' ∧ as'.map (fun x => (x.1, x.2.1)) = as.map (fun x => (x.1, x.2.1)) ∧ (∀ x ∈ as', x.2.2.length ≤ 5 ∧ ∀ z ∈ x.2.2, -1000 ≤ z ∧ z ≤ 1000) ∧ (wr ≠ 0 → as' = as) ∧ (wr = 0 → ¬ OkV n as'), ?_, ?_⟩
  · have hV10 : VdAt H10 dv as := hV9.keep fun q hq o e => k10 _ _ e (by
      rcases hq with h | h
      · exact fun z => ndvp (h.symm.trans z)
      · exact fun z => npa (z ▸ h))
    refine ⟨_, rfl, rfl, _, rfl, ?_⟩
    by_cases hw : wr = 0
    · refine iteD (by rw [hw]) ?_
      refine ⟨(by show 4 ≤ sizeLine; decide), fun tq ntq => ?_⟩
      have s11 := same_new (o := .tup [.str "p", .str "q", .str "r", .str "x9"]) ntq
      have htq : upd H10 tq (.tup [.str "p", .str "q", .str "r", .str "x9"]) tq = some (.tup [.str "p", .str "q", .str "r", .str "x9"]) := upd_same
      have hP11 := hP10.same s11
      have hV11 : VdAt (upd H10 tq (.tup [.str "p", .str "q", .str "r", .str "x9"])) dv as := hV10.keep fun _ _ o e => s11 _ _ e
      generalize upd H10 tq (.tup [.str "p", .str "q", .str "r", .str "x9"]) = H11 at s11 htq hP11 hV11
      have ntqp : tq ≠ p := fun e => by
        obtain ⟨xs, h⟩ := hP11.lst
        rw [e, h] at htq
        cases htq
      refine ⟨_, rfl, p, l, 4, rfl, hP11, by decide, by decide, fun j H12 j0 j1 k12 hP12 => ?_⟩
      obtain ⟨nv, hv, hm⟩ := atI_mem (xs := [V.str "p", V.str "q", V.str "r", V.str "x9"]) j0 (by show j < 4; omega)
      obtain ⟨z, hzm, rfl⟩ : ∃ z ∈ as, nv = .str z.1 := by
        have e : ([V.str "p", V.str "q", V.str "r", V.str "x9"] : List V) = as.map fun x => V.str x.1 := by
          have := congrArg (List.map V.str) has4
          rw [List.map_map] at this
          exact this.symm
        rw [e] at hm
        obtain ⟨z, hz, e2⟩ := List.mem_map.mp hm
        exact ⟨z, hz, e2.symm⟩
      have npk : ∀ {Ha Hb : Hp}, Kp p Ha Hb → VdAt Ha dv as → VdAt Hb dv as := fun k v => v.keep fun q hq o e => k _ _ e (by
        rcases hq with h | h
        · exact fun z => ndvp (h.symm.trans z)
        · exact fun z => npa (z ▸ h))
      have hV12 := npk k12 hV11
      have hzl := hbd z hzm
      refine ⟨tq, _, j, _, rfl, rfl, SqT.of (k12 _ _ htq ntqp), hv, ?_⟩
      refine ⟨_, rfl, _, rfl, dv, _, rfl, hV12.get hzm, .inl ⟨rfl, _, .inl (.inl (hV12.2.2.2.2 z hzm))⟩, ?_⟩
      refine ⟨_, rfl, _, rfl, _, rfl, dv, _, rfl, hV12.get hzm, z.2.1, _, rfl, .inl (SqL.of (hV12.2.2.2.2 z hzm)), _, _, rfl, rfl, p, l, _, rfl, hP12, (by rw [List.length_map]; omega), (by rw [List.length_map]; omega), fun at_ H13 a0 a1 k13 hP13 => ?_⟩
      refine ⟨_, rfl, _, rfl, _, rfl, _, _, rfl, rfl, (by show 3 ≤ sizeLine; decide), fun tr ntr => ?_⟩
      have s14 := same_new (o := .tup [.int n, .int (-1), .int ((n : Int) + 5)]) ntr
      have htr : upd H13 tr (.tup [.int n, .int (-1), .int ((n : Int) + 5)]) tr = some (.tup [.int n, .int (-1), .int ((n : Int) + 5)]) := upd_same
      have hP14 := hP13.same s14
      have hV13 := npk k13 hV12
      have hV14 : VdAt (upd H13 tr (.tup [.int n, .int (-1), .int ((n : Int) + 5)])) dv as := hV13.keep fun _ _ o e => s14 _ _ e
      generalize upd H13 tr (.tup [.int n, .int (-1), .int ((n : Int) + 5)]) = H14 at s14 htr hP14 hV14
      have ntrp : tr ≠ p := fun e => by
        obtain ⟨xs, h⟩ := hP14.lst
        rw [e, h] at htr
        cases htr
      refine ⟨_, rfl, p, l, 3, rfl, hP14, by decide, by decide, fun c H15 c0 c1 k15 hP15 => ?_⟩
      obtain ⟨uv, hu0, hum⟩ := atI_mem (xs := [V.int n, V.int (-1), V.int ((n : Int) + 5)]) c0 (by show c < 3; omega)
      obtain ⟨u, rfl, hub⟩ : ∃ u : Int, uv = .int u ∧ ¬ (0 ≤ u ∧ u < (n : Int)) ∧ -1 ≤ u ∧ u ≤ 10 := by
        simp only [List.mem_cons, List.not_mem_nil, or_false] at hum
        rcases hum with rfl | rfl | rfl
        · exact ⟨_, rfl, by omega⟩
        · exact ⟨_, rfl, by omega⟩
        · exact ⟨_, rfl, by omega⟩
      have hV15 := npk k15 hV14
      have hz15 := hV15.2.2.2.2 z hzm
      rw [List.length_map] at a1
      refine ⟨tr, _, c, _, rfl, rfl, SqT.of (k15 _ _ htr ntrp), hu0, z.2.1, _, at_, _, rfl, rfl, hz15, (by rw [List.length_map]; exact small1000 (by omega)), a0, by omega, ?_⟩
      have eL : (z.2.2.map V.int).take at_.toNat ++ [V.int u] ++ (z.2.2.map V.int).drop at_.toNat = (z.2.2.take at_.toNat ++ [u] ++ z.2.2.drop at_.toNat).map V.int := by
        rw [List.map_append, List.map_append, List.map_take, List.map_drop]
        rfl
      rw [eL]
      have nzp := npa2 z hzm
      have keep15 : ∀ b o, H9 b = some o → b ≠ p → H15 b = some o := fun b o e n1 => k15 _ _ (s14 _ _ (k13 _ _ (k12 _ _ (s11 _ _ (k10 _ _ e n1)) n1) n1)) n1
      have t15 : TS H9 H15 := ((((hP9.ts k10).trans (Same.ts s11)).trans (hP11.ts k12)).trans (hP12.ts k13)).trans ((Same.ts s14).trans (hP14.ts k15))
      refine ⟨modL as z.2.1 (z.2.2.take at_.toNat ++ [u] ++ z.2.2.drop at_.toNat), _, rfl, fun b o e n1 n2 => ?_, t15.trans (Kp.upd.ts hz15), ?_, ?_, modL_same _ _ _, fun x hx => ?_, fun h => absurd hw h, fun _ ok => ?_⟩
      · have nb : b ≠ z.2.1 := fun e => n2 (e ▸ List.mem_map.mpr ⟨z, hzm, rfl⟩)
        rw [upd_ne nb]
        exact keep15 b o e n1
      · refine Pl.other (H0 := H5) hP5 (hfr z hzm) hP15 Kp.upd
      · refine hV15.like (modL_same _ _ _) (upd_ne fun e => hV15.2.2.2.1 (e ▸ List.mem_map.mpr ⟨z, hzm, rfl⟩)) fun x hx => ?_
        obtain ⟨y, hy, rfl⟩ := List.mem_map.mp hx
        by_cases e : y.2.1 = z.2.1
        · rw [if_pos e]
          show upd H15 z.2.1 _ y.2.1 = _
          rw [e, upd_same]
        · rw [if_neg e, upd_ne e]
          exact hV15.2.2.2.2 y hy
      · obtain ⟨y, hy, rfl⟩ := List.mem_map.mp hx
        by_cases e : y.2.1 = z.2.1
        · rw [if_pos e]
          have l1 : (z.2.2.take at_.toNat ++ [u] ++ z.2.2.drop at_.toNat).length ≤ 5 := by
            rw [List.length_append, List.length_append, List.length_take, List.length_drop]
            simp
            omega
          refine ⟨l1, fun v hv => ?_⟩
          have hv : v ∈ z.2.2.take at_.toNat ++ [u] ++ z.2.2.drop at_.toNat := hv
          rcases List.mem_append.mp hv with h | h
          · rcases List.mem_append.mp h with h | h
            · have := hzl.2 v (List.mem_of_mem_take h)
              omega
            · rw [List.mem_singleton.mp h]
              omega
          · have := hzl.2 v (List.mem_of_mem_drop h)
            omega
        · rw [if_neg e]
          have := hbd y hy
          exact ⟨by omega, fun v hv => by have := this.2 v hv; omega⟩
      · have hm2 : (z.1, z.2.1, z.2.2.take at_.toNat ++ [u] ++ z.2.2.drop at_.toNat) ∈ modL as z.2.1 (z.2.2.take at_.toNat ++ [u] ++ z.2.2.drop at_.toNat) := List.mem_map.mpr ⟨z, hzm, if_pos rfl⟩
        exact hub.1 (ok _ hm2 u (List.mem_append_left _ (List.mem_append_right _ List.mem_cons_self)))
    · refine iteDF (fun e => hw (V.int.inj e)) ⟨as, _, rfl, fun b o e n1 _ => k10 _ _ e n1, hP9.ts k10, hP10, hV10, rfl, fun x hx => ?_, fun _ => rfl, fun e => absurd e hw⟩
      have := hbd x hx
      exact ⟨by omega, fun z hz => by have := this.2 z hz; omega⟩
  rintro σ H11 ⟨as', v6', rfl, k11, t11, hP11, hV11, hsame, hbd', hno, hyes⟩
  have s36 : ∀ b o, H3 b = some o → b ≠ p → H11 b = some o := fun b o e n1 => by
    have n2 : b ≠ dv := ne_of_none e ndv
    refine k11 _ _ (s69 _ _ (kk _ _ (s35 _ _ e) n1 n2)) n1 fun h => ?_
    obtain ⟨x, hx, e2⟩ := List.mem_map.mp h
    have := hfr x hx
    have e2 : x.2.1 = b := e2
    rw [e2, s35 _ _ e] at this
    cases this
  refine ⟨fun σ H => ∃ (x : V) (wn : Int) (zs : List (Int × Int)), σ = [some (.ref a), some (.ref p), some (.ref t), some (.int n), some x, some (.ref dv), v6', some (.ref du), some (.int wr), none, none, none, none, none, none, none, none] ∧
    Kp p H11 H ∧ Pl K H p l ∧ Im K H x (frZ wn zs) ∧ zs.length ≤ 1000 ∧ (wr ≠ 1 → x = fv ∧ frZ wn zs = frD n (frP n R) ∧ FrOk wn zs) ∧ (wr = 1 → ¬ FrOk wn zs), ?_, ?_⟩
  · have t311 : TS H3 H11 := hP3.ts s36
    have hpl : (frP n R).length ≤ 25 := by
      have h1 := frP_len n R
      have h2 : n * n ≤ 5 * 5 := Nat.mul_le_mul (by omega) (by omega)
      omega
    refine ⟨_, rfl, rfl, _, rfl, ?_⟩
    by_cases hw : wr = 1
    · refine iteD (by rw [hw]) ?_
      refine ⟨(by show 0 ≤ sizeLine; decide), fun e1 m1 => ⟨(by show 2 ≤ sizeLine; decide), fun f1 q1 => ⟨_, rfl, _, rfl, (by show 2 ≤ sizeLine; decide), fun g2 m2 => ⟨(by show 1 ≤ sizeLine; decide), fun h2 o2 => ⟨(by show 2 ≤ sizeLine; decide), fun f2 q2 => ?_⟩⟩⟩⟩⟩
      refine ⟨_, rfl, (by show 2 ≤ sizeLine; decide), fun a3 m3 => ⟨(by show 2 ≤ sizeLine; decide), fun b3 o3 => ⟨(by show 2 ≤ sizeLine; decide), fun c3 x3 => ⟨(by show 2 ≤ sizeLine; decide), fun f3 q3 => ?_⟩⟩⟩⟩
      refine ⟨_, rfl, (by show 0 ≤ sizeLine; decide), fun e4 m4 => ⟨(by show 2 ≤ sizeLine; decide), fun f4 q4 => ⟨(by show 4 ≤ sizeLine; decide), fun L nL => ?_⟩⟩⟩
      have se1 := same_new (o := .tup []) m1
      have sf1 := same_new (o := .tup [.int 0, .ref e1]) q1
      have sg2 := same_new (o := .tup [.int 0, .int n]) m2
      have sh2 := same_new (o := .tup [.ref g2]) o2
      have sf2 := same_new (o := .tup [.int n, .ref h2]) q2
      have sa3 := same_new (o := .tup [.int 0, .int 0]) m3
      have sb3 := same_new (o := .tup [.int 0, .int 0]) o3
      have sc3 := same_new (o := .tup [.ref a3, .ref b3]) x3
      have sf3 := same_new (o := .tup [.int n, .ref c3]) q3
      have se4 := same_new (o := .tup []) m4
      have sf4 := same_new (o := .tup [.int (-1), .ref e4]) q4
      have sL := same_new (o := .lst [.ref f1, .ref f2, .ref f3, .ref f4]) nL
      have z4 := sf4.trans sL
      have z3 := se4.trans z4
      have y3 := sf3.trans z3
      have w3 := sc3.trans y3
      have v3 := sb3.trans w3
      have u3 := sa3.trans v3
      have z2 := sf2.trans u3
      have y2 := sh2.trans z2
      have z1 := sg2.trans y2
      have z0 := sf1.trans z1
      have he1 := z0 _ _ (@upd_same H11 e1 (.tup []))
      have hf1 := z1 _ _ (@upd_same _ f1 (.tup [.int 0, .ref e1]))
      have hg2 := y2 _ _ (@upd_same _ g2 (.tup [.int 0, .int n]))
      have hh2 := z2 _ _ (@upd_same _ h2 (.tup [.ref g2]))
      have hf2 := u3 _ _ (@upd_same _ f2 (.tup [.int n, .ref h2]))
      have ha3 := v3 _ _ (@upd_same _ a3 (.tup [.int 0, .int 0]))
      have hb3 := w3 _ _ (@upd_same _ b3 (.tup [.int 0, .int 0]))
      have hc3 := y3 _ _ (@upd_same _ c3 (.tup [.ref a3, .ref b3]))
      have hf3 := z3 _ _ (@upd_same _ f3 (.tup [.int n, .ref c3]))
      have he4 := z4 _ _ (@upd_same _ e4 (.tup []))
      have hf4 := sL _ _ (@upd_same _ f4 (.tup [.int (-1), .ref e4]))
      have sall := se1.trans z0
      have hPc := hP11.same sall
      refine ⟨_, rfl, p, l, 4, rfl, hPc, by decide, by decide, fun c Hd c0 c1 kd hPd => ?_⟩
      have td := hPc.ts kd
      obtain ⟨fx, hfx, hfm⟩ := atI_mem (xs := [V.ref f1, V.ref f2, V.ref f3, V.ref f4]) c0 (by show c < 4; omega)
      have nLp : L ≠ p := fun e => by
        obtain ⟨xs, h⟩ := hP11.lst
        rw [e] at nL
        rw [sf4 _ _ (se4 _ _ (sf3 _ _ (sc3 _ _ (sb3 _ _ (sa3 _ _ (sf2 _ _ (sh2 _ _ (sg2 _ _ (sf1 _ _ (se1 _ _ h))))))))))] at nL
        cases nL
      refine ⟨L, _, c, fx, rfl, rfl, SqL.of (kd _ _ upd_same nLp), hfx, ?_⟩
      have kall : Kp p H11 Hd := fun b o e n1 => kd _ _ (sall _ _ e) n1
      simp only [List.mem_cons, List.not_mem_nil, or_false] at hfm
      have tp0 : ∀ {Ha : Hp} {q : Addr} {xs : List V}, TS Ha Hd → Ha q = some (.tup xs) → SqT K Hd q xs := fun k h => k.sqT (SqT.of (K := K) h)
      rcases hfm with rfl | rfl | rfl | rfl
      · refine ⟨_, 0, [], rfl, kall, hPd, .tup (tp0 td hf1) (.cons (.int _) (.cons (.tup (tp0 td he1) .nil) .nil)), Nat.zero_le _, fun h => absurd hw h, fun _ ok => ?_⟩
        have := ok.1
        omega
      · refine ⟨_, n, [(0, n)], rfl, kall, hPd, .tup (tp0 td hf2) (.cons (.int _) (.cons (.tup (tp0 td hh2) (.cons (.tup (tp0 td hg2) (.cons (.int _) (.cons (.int _) .nil))) .nil)) .nil)), (by show 1 ≤ 1000; decide), fun h => absurd hw h, fun _ ok => ?_⟩
        have := ok.2.1 (0, (n : Int)) List.mem_cons_self
        rw [okP_no (by intro h; omega)] at this
        cases this
      · refine ⟨_, n, [(0, 0), (0, 0)], rfl, kall, hPd, .tup (tp0 td hf3) (.cons (.int _) (.cons (.tup (tp0 td hc3) (.cons (.tup (tp0 td ha3) (.cons (.int _) (.cons (.int _) .nil))) (.cons (.tup (tp0 td hb3) (.cons (.int _) (.cons (.int _) .nil))) .nil))) .nil)), by decide, fun h => absurd hw h, fun _ ok => ?_⟩
        have := ok.2.2 0 (0, 0) (0, 0) rfl rfl
        rw [zlt_irrefl] at this
        cases this
      · refine ⟨_, -1, [], rfl, kall, hPd, .tup (tp0 td hf4) (.cons (.int _) (.cons (.tup (tp0 td he4) .nil) .nil)), Nat.zero_le _, fun h => absurd hw h, fun _ ok => ?_⟩
        have := ok.1
        omega
    · refine iteDF (fun e => hw (V.int.inj e)) ⟨fv, n, (frP n R).map toZ, rfl, Kp.refl _ _, hP11, ?_, by rw [List.length_map]; omega, fun _ => ⟨rfl, frD_frZ _ _, frok_P n1⟩, fun e => absurd e hw⟩
      rw [frD_frZ]
      exact i3.mono t311
  rintro σ H12 ⟨x, wn, zs, rfl, k12, hP12, hx12, hzl, hno1, hyes1⟩
  have hwn : wr ≠ 1 → wn = (n : Int) ∧ zs = (frP n R).map toZ := fun h => by
    have e := (hno1 h).2.1
    rw [← frD_frZ] at e
    unfold frZ at e
    injection e with e1
    injection e1 with e2 e3
    injection e2 with e2
    injection e3 with e3 _
    injection e3 with e3
    refine ⟨e2, ?_⟩
    have inj : ∀ (l m : List (Int × Int)), l.map zd = m.map zd → l = m := fun l => by
      induction l with
      | nil => intro m h; cases m with
        | nil => rfl
        | cons _ _ => cases h
      | cons u r ih =>
        intro m h
        cases m with
        | nil => cases h
        | cons v s =>
          rw [List.map_cons, List.map_cons] at h
          injection h with h1 h2
          unfold zd at h1
          injection h1 with h1
          injection h1 with h3 h4
          injection h3 with h3
          injection h4 with h4 _
          injection h4 with h4
          rw [ih s h2, Prod.ext h3 h4]
    exact inj _ _ e3
  have okAs : OkV n as := fun x hx z hz => (hbd x hx).2 z hz
  have good_iff : FrOk wn zs ∧ OkV wn as' → 2 ≤ wr := fun h => by
    by_cases c0 : wr = 0
    · have e := (hwn (by omega)).1
      rw [e] at h
      exact absurd h.2 (hyes c0)
    · by_cases c1 : wr = 1
      · exact absurd h.1 (hyes1 c1)
      · omega
  have bad_iff : ¬ (FrOk wn zs ∧ OkV wn as') → wr < 2 := fun h => by
    by_cases c : wr < 2
    · exact c
    · refine absurd ⟨(hno1 (by omega)).2.2, ?_⟩ h
      rw [hno (by omega), (hwn (by omega)).1]
      exact okAs
  have hal' : as'.length = 4 := by
    have := congrArg List.length hsame
    rw [List.length_map, List.length_map] at this
    omega
  have npv : ∀ q, q = dv ∨ q ∈ as.map (·.2.1) → q ≠ p := fun q hq => by
    rcases hq with h | h
    · exact fun z => ndvp (h.symm.trans z)
    · exact fun z => npa (z ▸ h)
  have e2' : as'.map (·.2.1) = as.map (·.2.1) := by
    have := congrArg (List.map Prod.snd) hsame
    rwa [List.map_map, List.map_map] at this
  have hV12 : VdAt H12 dv as' := hV11.keep fun q hq o e => k12 _ _ e (npv q (by rw [← e2']; exact hq))
  refine ⟨_, rfl, _, rfl, fun mx dx nmx ndx nxx => ?_⟩
  have sm := (same_new (o := .own mx) ndx).trans (same_new (o := .ins T.c_Model dx []) (H := upd H12 dx (.own mx)) (q := mx) (by rw [upd_ne nxx.symm]; exact nmx))
  have hmx : upd (upd H12 dx (.own mx)) mx (.ins T.c_Model dx []) mx = some (.ins T.c_Model dx []) := upd_same
  generalize upd (upd H12 dx (.own mx)) mx (.ins T.c_Model dx []) = HM at sm hmx
  have hVM : VdAt HM dv as' := hV12.keep fun _ _ o e => sm _ _ e
  refine ⟨mx, dx, x, dv, wn, zs, as', rfl, hmx, hx12.mono (Same.ts sm), hzl, hVM, by omega, fun y hy => ⟨by have := (hbd' y hy).1; omega, (hbd' y hy).2⟩, fun bad H' => ?_, fun good => ?_⟩
  · have hw := bad_iff bad
    refine ⟨true, T.e_InvalidModel, fun _ a0 na => ⟨⟨rfl, rfl⟩, ?_⟩, fun q => nomatch q⟩
    dsimp only [tRet]
    refine and_bl (c := decide (wr < 2)) (d := true) (fun Q q => ⟨_, rfl, _, _, rfl, rfl, q⟩) (fun Q q => ⟨_, rfl, _, _, false, rfl, fun u hu => hu, T.i_InvalidModel_NotPlain, _, rfl, q⟩) ?_
    rw [decide_eq_true hw]
    exact k _
  · have hw2 := good_iff good
    obtain ⟨rfl, hfrz, _⟩ := hno1 (by omega)
    obtain rfl : as' = as := hno (by omega)
    refine ⟨n, frP n R, hfrz, fun ad H13 hM had k13 => ⟨rfl, ?_⟩⟩
    refine ⟨_, rfl, _, _, rfl, rfl, _, rfl, iteDF (show ¬ wr < 2 by omega) ?_⟩
    have nmp : mx ≠ p := fun e => by
      obtain ⟨xs, h⟩ := hP12.lst
      rw [e, h] at nmx
      cases nmx
    have k1213 : ∀ b o, H12 b = some o → H13 b = some o := fun b o e => k13 _ _ (sm _ _ e) (ne_of_none e nmx)
    have k313 : ∀ b o, H3 b = some o → b ≠ p → H13 b = some o := fun b o e n1 => k1213 _ _ (k12 _ _ (s36 _ _ e n1) n1)
    have hVd : VdAt H13 dv as' := hVM.keep fun q hq o e => k13 _ _ e fun z => by
      subst z
      rcases hq with h | h
      · rw [h, hVM.1] at hmx
        cases hmx
      · obtain ⟨y, hy, e2⟩ := List.mem_map.mp h
        have := hVM.2.2.2.2 y hy
        have e2 : y.2.1 = q := e2
        rw [e2, hmx] at this
        cases this
    have nadv : ∀ q ∈ mx :: ad, q ≠ dv ∧ q ∉ as'.map (·.2.1) := fun q hq => by
      rcases List.mem_cons.mp hq with e | h
      · subst e
        refine ⟨fun e => ?_, fun h => ?_⟩
        · rw [e, hVM.1] at hmx
          cases hmx
        · obtain ⟨y, hy, e2⟩ := List.mem_map.mp h
          have := hVM.2.2.2.2 y hy
          have e2 : y.2.1 = q := e2
          rw [e2, hmx] at this
          cases this
      · have hn := had q h
        refine ⟨fun e => ?_, fun h => ?_⟩
        · rw [e, hVM.1] at hn
          cases hn
        · obtain ⟨y, hy, e2⟩ := List.mem_map.mp h
          have := hVM.2.2.2.2 y hy
          have e2 : y.2.1 = q := e2
          rw [e2, hn] at this
          cases this
    have hB13 : VdAt H13 du bs := by
      have k913 : ∀ b o, H9 b = some o → b ≠ p → b ∉ as'.map (·.2.1) → H13 b = some o := fun b o e n1 n2 => k1213 _ _ (k12 _ _ (k11 _ _ e n1 n2) n1)
      refine hB9.keep fun q hq o e => k913 _ _ e ?_ fun h => ?_
      · rcases hq with h | h
        · rw [h]
          exact nup
        · obtain ⟨y, hy, e2⟩ := List.mem_map.mp h
          have e2 : y.2.1 = q := e2
          rw [← e2]
          exact npb y hy
      · obtain ⟨z, hz, e3⟩ := List.mem_map.mp h
        have e3 : z.2.1 = q := e3
        rcases hq with h | h
        · exact hvu z hz (e3.trans h)
        · obtain ⟨y, hy, e2⟩ := List.mem_map.mp h
          have e2 : y.2.1 = q := e2
          have h1 := hbf6 y hy
          rw [e2, ← e3, hV6.2.2.2.2 z hz] at h1
          cases h1
    -- the lists that were handed over are changed
    refine ⟨dv, _, hVd.1, trivial, fun od2 => ?_⟩
    have nvd : dv ∉ as'.map (·.2.1) := hVd.2.2.2.1
    have kG : ∀ c o, H13 c = some o → c ≠ dv → upd H13 dv (.frz od2 (.dK (as'.map fun x => ((.inr x.1 : Key), V.ref x.2.1)))) c = some o := fun c o e n => by
      rw [upd_ne n]
      exact e
    have hG2 : upd H13 dv (.frz od2 (.dK (as'.map fun x => ((.inr x.1 : Key), V.ref x.2.1)))) dv = some (.frz od2 (.dK (as'.map fun x => ((.inr x.1 : Key), V.ref x.2.1)))) := upd_same
    have tsG : TS H13 (upd H13 dv (.frz od2 (.dK (as'.map fun x => ((.inr x.1 : Key), V.ref x.2.1))))) := fun c xs r => by
      have n : c ≠ dv := fun e => by
        subst e
        rcases r with r | ⟨u, r⟩
        · rw [hVd.1] at r; cases r
        · rw [hVd.1] at r; cases r
      rcases r with r | ⟨u, r⟩
      · exact .inl (kG _ _ r n)
      · exact .inr ⟨u, kG _ _ r n⟩
    generalize upd H13 dv (.frz od2 (.dK (as'.map fun x => ((.inr x.1 : Key), V.ref x.2.1)))) = HG at kG hG2 tsG
    refine ⟨_, rfl, dv, od2, rfl, .inl ⟨_, hG2, ?_⟩⟩
    refine for_it walk_keys (fun i σ H => ∃ v6 : Option V, σ = [some (.ref a), some (.ref p), some (.ref t), some (.int n), some x, some (.ref dv), v6, some (.ref du), some (.int wr), some (.ref mx), none, none, none, none, none, none, none] ∧
        (∀ b o, HG b = some o → b ∉ as'.map (·.2.1) → H b = some o) ∧ TS HG H ∧ ∀ x ∈ as', ∃ ys, H x.2.1 = some (.lst ys) ∧ ys.length ≤ 5 + i)
      ⟨_, rfl, fun _ _ h _ => h, TS.refl _, fun y hy => ⟨_, kG _ _ (hVd.2.2.2.2 y hy) (hvd y hy), by rw [List.length_map]; have := (hbd y hy).1; omega⟩⟩ (fun i σ H _ h => by
        obtain ⟨_, _, h, _⟩ := h
        exact h _ _ hG2 nvd) ?_ ?_
    · rintro i y σ H14 H15 hi ⟨v6, rfl, k14, t14, hl14⟩ ⟨e15, kk1, vv, hkv, rfl⟩
      replace e15 := e15.symm
      subst e15
      rw [List.getElem?_map] at hkv
      cases hz : as'[i]? with
      | none => rw [hz] at hkv; cases hkv
      | some z =>
      rw [hz] at hkv
      have e1 : kk1 = .inr z.1 := (congrArg Prod.fst (Option.some.inj hkv)).symm
      subst e1
      have hzm : z ∈ as' := List.mem_of_getElem? hz
      obtain ⟨ys, hys, hyl⟩ := hl14 z hzm
      rw [List.length_map] at hi
      have hgz : DGet H14 dv (.str z.1) (some (.ref z.2.1)) := .inl ⟨_, .inr z.1, .inr ⟨od2, k14 _ _ hG2 nvd⟩, rfl, (vd_val hVd.2.1 hzm).symm⟩
      refine ⟨_, rfl, _, rfl, dv, _, rfl, hgz, .inl ⟨rfl, _, .inl (.inl hys)⟩, z.2.1, ys, _, rfl, rfl, hys, small1000 (by omega), ?_⟩
      refine ⟨_, rfl, fun b o e nb => ?_, t14.trans (Kp.upd.ts hys), fun y hy => ?_⟩
      · have nb2 : b ≠ z.2.1 := fun e => nb (e ▸ List.mem_map.mpr ⟨z, hzm, rfl⟩)
        rw [upd_ne nb2]
        exact k14 _ _ e nb
      · by_cases e : y.2.1 = z.2.1
        · refine ⟨ys ++ [.int 0], by rw [e, upd_same], by rw [List.length_append]; simp; omega⟩
        · obtain ⟨us, h1, h2⟩ := hl14 y hy
          exact ⟨us, by rw [upd_ne e]; exact h1, by omega⟩
    rintro σ H14 ⟨v9, rfl, k14, t14, _⟩
    refine ⟨k14 _ _ hG2 nvd, ?_⟩
    have k1315 : ∀ b o, H13 b = some o → b ∉ as'.map (·.2.1) → upd H14 dv (.dK (as'.map fun x => ((.inr x.1 : Key), V.ref x.2.1))) b = some o := fun b o e nb => by
      by_cases z : b = dv
      · rw [z] at e ⊢
        rw [hVd.1] at e
        rw [upd_same, e]
      · rw [upd_ne z]
        exact k14 _ _ (kG _ _ e z) nb
    have t1315 : TS H13 (upd H14 dv (.dK (as'.map fun x => ((.inr x.1 : Key), V.ref x.2.1)))) := (tsG.trans t14).trans (TS.of_other (k14 _ _ hG2 nvd))
    generalize upd H14 dv (.dK (as'.map fun x => ((.inr x.1 : Key), V.ref x.2.1))) = H15 at k1315 t1315
    have M15 := hM.keep t1315 fun q hq o e => k1315 _ _ e (nadv q hq).2
    have nbs : ∀ q, q = du ∨ q ∈ bs.map (·.2.1) → q ∉ as'.map (·.2.1) := fun q hq h => by
      obtain ⟨z, hz, e3⟩ := List.mem_map.mp h
      have e3 : z.2.1 = q := e3
      rcases hq with h | h
      · exact hvu z hz (e3.trans h)
      · obtain ⟨y, hy, e2⟩ := List.mem_map.mp h
        have e2 : y.2.1 = q := e2
        have h1 := hbf6 y hy
        rw [e2, ← e3, hV6.2.2.2.2 z hz] at h1
        cases h1
    have hB15 : VdAt H15 du bs := hB13.keep fun q hq o e => k1315 _ _ e (nbs q hq)
    obtain ⟨ix, irp, itp, hins⟩ := M15.ins
    refine ⟨_, rfl, mx, _, _, rfl, hins, fl_none (by decide +kernel) (by decide +kernel) (by decide +kernel), mx, x, n, frP n R, as', mx :: ad, rfl, M15, by omega, fun D1 cs1 H16 nD1 s16 hC1 hT1 hf1 => ?_⟩
    refine ⟨(by show 1 ≤ sizeLine; decide), fun l1 nl1 => ?_⟩
    have s17a := same_new (o := .lst [.int 0]) nl1
    have hC1a : VdAt (upd H16 l1 (.lst [.int 0])) D1 cs1 := hC1.keep fun _ _ o e => s17a _ _ e
    have hc1l : cs1.length ≤ 4 := by
      have := hT1.len hC1.2.1
      omega
    refine ⟨_, rfl, D1, _, rfl, .inl ⟨_, .inr "p", hC1a.1, rfl, (by rw [List.length_map]; exact small1000 (by omega)), rfl⟩, ?_⟩
    have s17 : Same H15 (upd (upd H16 l1 (.lst [.int 0])) D1 (.dK (putK (cs1.map fun x => ((.inr x.1 : Key), V.ref x.2.1)) (.inr "p") (.ref l1)))) := fun b o e => by
      rw [upd_ne (ne_of_none e nD1)]
      exact s17a _ _ (s16 _ _ e)
    generalize upd (upd H16 l1 (.lst [.int 0])) D1 (.dK (putK (cs1.map fun x => ((.inr x.1 : Key), V.ref x.2.1)) (.inr "p") (.ref l1))) = H17 at s17
    have M17 := M15.keep (Same.ts s17) fun q _ o e => s17 _ _ e
    refine ⟨_, rfl, mx, _, _, rfl, s17 _ _ hins, fl_none (by decide +kernel) (by decide +kernel) (by decide +kernel), mx, x, n, frP n R, as', mx :: ad, rfl, M17, by omega, fun D2 cs2 H18 nD2 s18 hC2 hT2 hf2 => ?_⟩
    have s1518 := s17.trans s18
    have hB18 : VdAt H18 du bs := hB15.keep fun _ _ o e => s1518 _ _ e
    have hbd2 : ∀ y ∈ cs2, ∃ z ∈ bs, z.1 = y.1 ∧ z.2.2 = y.2.2 := fun y hy => by
      obtain ⟨z, hz, e⟩ := List.mem_map.mp (hT2.sub hdue (List.mem_map.mpr ⟨y, hy, rfl⟩))
      exact ⟨z, hz, e, hdue.eq hT2 hV6.2.1 hz hy e⟩
    refine ⟨_, rfl, _, rfl, D2, du, _, _, rfl, rfl, hC2.1, hB18.1, by rw [List.length_map, List.length_map]; exact hT2.same hdue hC2.2.1 hB18.2.1, fun u hu => ?_, ?_⟩
    · obtain ⟨y, hy, rfl⟩ := List.mem_map.mp hu
      obtain ⟨z, hz, e1, e2⟩ := hbd2 y hy
      refine ⟨.ref z.2.1, y.2.2, ?_, .lst (SqL.of (hC2.2.2.2.2 y hy)) (dp_ints _), .lst (SqL.of ?_) (dp_ints _)⟩
      · have := vd_val hB18.2.1 hz
        rwa [e1] at this
      · rw [← e2]
        exact hB18.2.2.2.2 z hz
    refine ⟨_, rfl, iteF ?_⟩
    refine ⟨du, _, hB18.1, trivial, fun od3 => ?_⟩
    have kL : ∀ c o, H18 c = some o → c ≠ du → upd H18 du (.frz od3 (.dK (bs.map fun x => ((.inr x.1 : Key), V.ref x.2.1)))) c = some o := fun c o e n => by
      rw [upd_ne n]
      exact e
    have hL1 : upd H18 du (.frz od3 (.dK (bs.map fun x => ((.inr x.1 : Key), V.ref x.2.1)))) du = some (.frz od3 (.dK (bs.map fun x => ((.inr x.1 : Key), V.ref x.2.1)))) := upd_same
    generalize upd H18 du (.frz od3 (.dK (bs.map fun x => ((.inr x.1 : Key), V.ref x.2.1)))) = HL at kL hL1
    have nD2u : D2 ≠ du := fun e => by
      have := s17 _ _ hB15.1
      rw [← e, nD2] at this
      cases this
    have nbu : ∀ y ∈ bs, y.2.1 ≠ du := fun y hy e => hB18.2.2.2.1 (e ▸ List.mem_map.mpr ⟨y, hy, rfl⟩)
    have hcu : ∀ y ∈ cs2, y.2.1 ≠ du := fun y hy e => by
      have h1 := hf2 y hy
      rw [e, s17 _ _ hB15.1] at h1
      cases h1
    refine ⟨_, rfl, du, od3, rfl, .inl ⟨_, hL1, fun L nL => ?_⟩⟩
    have nLu : L ≠ du := (ne_of_none hL1 nL).symm
    refine lc_it walk_keys (fun i H => Same HL H ∧ H L = some (.lst [])) ⟨same_new nL, upd_same⟩ (fun i H _ h => h.1 _ _ hL1) ?_ ?_
    · rintro i y H19 H20 hi ⟨s19, hl19⟩ ⟨e20, kk1, vv, hkv, rfl⟩
      replace e20 := e20.symm
      subst e20
      rw [List.getElem?_map] at hkv
      cases hz : bs[i]? with
      | none => rw [hz] at hkv; cases hkv
      | some z =>
      rw [hz] at hkv
      have e1 : kk1 = .inr z.1 := (congrArg Prod.fst (Option.some.inj hkv)).symm
      subst e1
      have hzm : z ∈ bs := List.mem_of_getElem? hz
      obtain ⟨u, hum, hu1⟩ := List.mem_map.mp (hdue.sub hT2 (List.mem_map.mpr ⟨z, hzm, rfl⟩))
      have hu1 : u.1 = z.1 := hu1
      have hu2 := hT2.eq hdue hV6.2.1 hum hzm hu1
      have d1 : DGet H19 D2 (.str z.1) (some (.ref u.2.1)) := by
        rw [← hu1]
        exact .inl ⟨_, .inr u.1, .inl (s19 _ _ (kL _ _ hC2.1 nD2u)), rfl, (vd_val hC2.2.1 hum).symm⟩
      have d2 : DGet H19 du (.str z.1) (some (.ref z.2.1)) := .inl ⟨_, .inr z.1, .inr ⟨od3, s19 _ _ hL1⟩, rfl, (vd_val hB18.2.1 hzm).symm⟩
      have z1 := s19 _ _ (kL _ _ (hB18.2.2.2.2 z hzm) (nbu z hzm))
      have z2 := s19 _ _ (kL _ _ (hC2.2.2.2.2 u hum) (hcu u hum))
      rw [hu2] at z2
      have hsm := ints_sm z.2.2 (by
        obtain ⟨h1, x0, hx0, _, _, h2⟩ := hdue.1 z hzm
        have l1 := nodup_le z.2.2 x0.2.2 (h1.imp fun h => by omega) fun k hk => (h2 k).mp hk
        have := (hbd x0 hx0).1
        omega)
      exact ⟨rfl, _, rfl, _, rfl, D2, _, rfl, d1, _, rfl, _, rfl, du, _, rfl, d2, _, _, _, rfl, .lst (SqL.of z2) (dp_ints _), .lst (SqL.of z1) (dp_ints _), hsm.1, hsm.2, true, rfl, iteF ⟨s19, hl19⟩⟩
    · rintro H19 ⟨s19, hl19⟩
      refine ⟨s19 _ _ hL1, L, [], rfl, .inl (SqL.of (by rw [upd_ne nLu]; exact hl19)), _, _, rfl, rfl, _, rfl, iteDF (by simp) ?_⟩
      have kA : ∀ b o, H18 b = some o → b ≠ du → upd H19 du (.dK (bs.map fun x => ((.inr x.1 : Key), V.ref x.2.1))) b = some o := fun b o e nb => by
        rw [upd_ne nb]
        exact s19 _ _ (kL _ _ e nb)
      have tA : TS H18 (upd H19 du (.dK (bs.map fun x => ((.inr x.1 : Key), V.ref x.2.1)))) := fun c xs r => by
        have nc : c ≠ du := fun e => by
          subst e
          rcases r with r | ⟨u, r⟩
          · rw [hB18.1] at r; cases r
          · rw [hB18.1] at r; cases r
        rcases r with r | ⟨u, r⟩
        · exact .inl (kA _ _ r nc)
        · exact .inr ⟨u, kA _ _ r nc⟩
      generalize upd H19 du (.dK (bs.map fun x => ((.inr x.1 : Key), V.ref x.2.1))) = H20 at kA tA
      have hdu12 : H12 du = some (.dK (bs.map fun x => ((.inr x.1 : Key), V.ref x.2.1))) := k12 _ _ (k11 _ _ hB9.1 nup (nbs du (.inl rfl))) nup
      have nadu : ∀ q ∈ mx :: ad, q ≠ du := fun q hq e => by
        rcases List.mem_cons.mp hq with e2 | h
        · rw [← e2, e, hdu12] at nmx
          cases nmx
        · have := had q h
          rw [e, sm _ _ hdu12] at this
          cases this
      have M18 := M17.keep (Same.ts s18) fun q _ o e => s18 _ _ e
      have M20 := M18.keep tA fun q hq o e => kA _ _ e (nadu q hq)
      have hpl : (frP n R).length ≤ 25 := by
        have h1 := frP_len n R
        have h2 : n * n ≤ 5 * 5 := Nat.mul_le_mul (by omega) (by omega)
        omega
      -- from the first heap with the frame to here
      have k320 : ∀ b o, H3 b = some o → b ≠ p → H20 b = some o := fun b o e n1 => by
        have n2 : b ≠ du := fun z => by
          have n3 := ne_of_none e ndv
          have := kk _ _ (s35 _ _ e) n1 n3
          rw [z, ndu] at this
          cases this
        have n4 : b ∉ as'.map (·.2.1) := fun h => by
          obtain ⟨y, hy, e2⟩ := List.mem_map.mp h
          have e2 : y.2.1 = b := e2
          have := hfr y hy
          rw [e2, s35 _ _ e] at this
          cases this
        exact kA _ _ (s1518 _ _ (k1315 _ _ (k313 _ _ e n1) n4)) n2
      have t320 : TS H3 H20 := hP3.ts k320
      have hT20 := t320.sqT hT3
      have nsp : s ≠ p := fun e => by
        obtain ⟨xs, h⟩ := hP1.lst
        rw [e, h] at ns0
        cases ns0
      have nrp : ∀ r ∈ rs, r ≠ p := fun r hr e => by
        obtain ⟨j, hj⟩ := List.getElem?_of_mem hr
        have h1 := g5 j r hj
        obtain ⟨_, _, _, _, h2, _⟩ := hP2.at5
        rw [e, h2] at h1
        have h3 := HO.lst.inj (Option.some.inj h1)
        unfold bg at h3
        cases n with
        | zero => omega
        | succ n => 
          rw [List.range_succ_eq_map] at h3
          cases h3
      have hg20 : H20 s = some (.lst (rs.map V.ref)) := k320 _ _ (s3 _ _ g1) nsp
      have hr20 : ∀ i r, rs[i]? = some r → H20 r = some (.lst (bg R n i)) := fun i r hr => k320 _ _ (s3 _ _ (g5 i r hr)) (nrp r (List.mem_of_getElem? hr))
      refine ⟨_, rfl, n, rfl, by omega, by omega, for_range (n := (n : Int).toNat) (fun i σ H => ∃ v13 v14 : Option V, σ = [some (.ref a), some (.ref p), some (.ref t), some (.int n), some x, some (.ref dv), v9, some (.ref du), some (.int wr), some (.ref mx), none, some (.ref D1), some (.ref D2), v13, v14, none, none] ∧ Same H20 H) ⟨_, _, rfl, L2.Same.refl _⟩ ?_ ?_⟩
      · rintro i σ H21 hi ⟨v13, v14, rfl, s21⟩
        rw [show (0 : Int) + (i : Int) = (i : Int) from Int.zero_add _]
        rw [Int.toNat_natCast] at hi
        have M21 := M20.keep (Same.ts s21) fun q _ o e => s21 _ _ e
        obtain ⟨jx, jrp, jtp, jns⟩ := M21.ins
        refine ⟨_, rfl, mx, _, _, rfl, jns, fl_none (by decide +kernel) (by decide +kernel) (by decide +kernel), _, rfl, mx, i, x, n, frP n R, as', mx :: ad, rfl, M21, by omega, fun q H22 nq s22 hq => ?_⟩
        rw [sucs_frP hi] at hq
        have h22 : ∀ b o, H20 b = some o → H22 b = some o := fun b o e => s22 _ _ (s21 _ _ e)
        have nqs : ∀ b o, H20 b = some o → b ≠ q := fun b o e => ne_of_none (s21 _ _ e) nq
        obtain ⟨r, hr⟩ : ∃ r, rs[i]? = some r := ⟨rs[i]'(by omega), List.getElem?_eq_getElem _⟩
        refine ⟨_, rfl, _, rfl, n, rfl, by omega, by omega, fun L2' nL2 => ?_⟩
        refine lc_range (n := (n : Int).toNat) (fun j H23 => Same H22 H23 ∧ H23 L2' = some (.lst (sel j (R i)))) ⟨same_new nL2, upd_same⟩ ?_ ?_
        · rintro j H23 hj ⟨s23, hL23⟩
          rw [Int.toNat_natCast] at hj
          rw [show (0 : Int) + (j : Int) = (j : Int) from Int.zero_add _]
          refine ⟨rfl, _, rfl, t, _, 0, .ref s, rfl, rfl, (Same.ts (s21.trans (s22.trans s23))).sqT hT20, atI_nat (j := 0) rfl, _, rfl, s, _, _, .ref r, rfl, rfl, SqL.of (s23 _ _ (h22 _ _ hg20)), atI_nat (by rw [List.getElem?_map, hr]; rfl), _, rfl, r, _, _, _, rfl, rfl, SqL.of (s23 _ _ (h22 _ _ (hr20 i r hr))), atI_nat (bg_at R hj), _, rfl, ?_⟩
          by_cases c : R i j = true
          · rw [c]
            refine iteT ⟨_, rfl, _, hL23, Nat.lt_of_le_of_lt (sel_len j (R i)) (small1000 (by omega)), fun b o e => ?_, ?_⟩
            · rw [upd_ne (ne_of_none e nL2)]
              exact s23 _ _ e
            · rw [upd_same, sel_step, if_pos c]
          · rw [Bool.eq_false_iff.mpr c]
            refine iteF ⟨s23, ?_⟩
            rw [hL23, sel_step, if_neg c, List.append_nil]
        · rintro H23 ⟨s23, hL23⟩
          rw [Int.toNat_natCast] at hL23
          have hq23 := s23 _ _ hq
          have hsm := ints_sm (((List.range n).filter (R i)).map fun w : Nat => (w : Int)) (by
            rw [List.length_map]
            have := List.length_filter_le (R i) (List.range n)
            rw [List.length_range] at this
            omega)
          have hlen3 : ((List.range n).filter (R i)).length ≤ 5 := by
            have := List.length_filter_le (R i) (List.range n)
            rw [List.length_range] at this
            omega
          rw [sel_ints] at hL23
          have eq1 : (((List.range n).filter (R i)).map fun w : Nat => V.int (w : Int)) = (((List.range n).filter (R i)).map fun w : Nat => (w : Int)).map V.int := by
            rw [List.map_map]
            rfl
          rw [eq1] at hq23
          refine ⟨_, _, _, rfl, .lst (SqL.of hq23) (dp_ints _), .lst (SqL.of hL23) (dp_ints _), hsm.1, hsm.2, true, rfl, iteF ?_⟩
          refine ⟨_, rfl, .inl ⟨rfl, _, .inl (.inl hq23)⟩, _, rfl, q, _, _, rfl, rfl, hq23, (by rw [List.length_map, List.length_map]; exact small1000 (by omega)), ?_⟩
          have s24 : Same H20 (upd H23 q (.lst ((((List.range n).filter (R i)).map fun w : Nat => (w : Int)).map V.int ++ [V.int (i : Int)]))) := fun b o e => by
            rw [upd_ne (nqs b o e)]
            exact s23 _ _ (h22 _ _ e)
          have hq24 : upd H23 q (.lst ((((List.range n).filter (R i)).map fun w : Nat => (w : Int)).map V.int ++ [V.int (i : Int)])) q = some (.lst ((((List.range n).filter (R i)).map fun w : Nat => (w : Int)).map V.int ++ [V.int (i : Int)])) := upd_same
          generalize upd H23 q (.lst ((((List.range n).filter (R i)).map fun w : Nat => (w : Int)).map V.int ++ [V.int (i : Int)])) = H24 at s24 hq24
          have M24 := M20.keep (Same.ts s24) fun q _ o e => s24 _ _ e
          obtain ⟨yx, yrp, ytp, yns⟩ := M24.ins
          refine ⟨_, rfl, mx, _, _, rfl, yns, fl_none (by decide +kernel) (by decide +kernel) (by decide +kernel), _, rfl, mx, i, x, n, frP n R, as', mx :: ad, rfl, M24, by omega, fun q2 H25 nq2 s25 hq2 => ?_⟩
          rw [sucs_frP hi] at hq2
          refine ⟨q2, _, rfl, .inl (SqL.of hq2), _, rfl, q, _, rfl, .inl (SqL.of (s25 _ _ hq24)), rfl, _, rfl, iteDF (fun e => ?_) ⟨_, _, rfl, s24.trans s25⟩⟩
          have e := V.int.inj e
          simp only [List.length_append, List.length_map, List.length_cons, List.length_nil] at e
          omega
      · rintro σ H21 ⟨v13, v14, rfl, s21⟩
        have M21 := M20.keep (Same.ts s21) fun q _ o e => s21 _ _ e
        obtain ⟨jx, jrp, jtp, jns⟩ := M21.ins
        have ix3 := (i3.mono (t320.trans (Same.ts s21))).dp
        have hsm := frD_small n (show (frP n R).length ≤ 1000000 by omega)
        exact ⟨_, rfl, mx, _, _, rfl, jns, fl_none (by decide +kernel) (by decide +kernel) (by decide +kernel), mx, x, n, frP n R, as', mx :: ad, rfl, M21, _, rfl, _, _, _, rfl, ix3, ix3, hsm.1, hsm.2, k _⟩

end
theorem all_mk {l : PySem.W.OpenLaw} {w : World} {K : PySem.W.Frag} {h : Heap} {mg : Str → Option Value} {fa : Addr} (X : K.In h) (G : h.Ns mainGlobals mg) (hfa : mg "law" = some (.ref fa))
    {f0 f1 f2 f3 f4 f5 f6 f7 f8 f9 f10 f11 f12 f13 f14 f15 f16 : Addr} {od0 an0 od1 an1 od2 an2 od3 an3 od4 an4 od5 an5 od6 an6 od7 an7 od8 an8 od9 an9 od10 an10 od11 an11 od12 an12 od13 an13 od14 an14 od15 an15 od16 an16 : Option Addr}
    {sl0 sl1 sl2 sl3 sl4 sl5 sl6 sl7 sl8 sl9 sl10 sl11 sl12 sl13 sl14 sl15 sl16 : Array (Option Value)} {oc0 kV0 dc0 pm0 cd0 ct0 oc1 kV1 dc1 pm1 cd1 ct1 oc2 kV2 dc2 pm2 cd2 ct2 oc3 kV3 dc3 pm3 cd3 ct3 oc4 kV4 dc4 pm4 cd4 ct4 oc5 kV5 dc5 pm5 cd5 ct5 oc6 kV6 dc6 pm6 cd6 ct6 oc7 kV7 dc7 pm7 cd7 ct7 oc8 kV8 dc8 pm8 cd8 ct8 oc9 kV9 dc9 pm9 cd9 ct9 oc10 kV10 dc10 pm10 cd10 ct10 oc11 kV11 dc11 pm11 cd11 ct11 oc12 kV12 dc12 pm12 cd12 ct12 oc13 kV13 dc13 pm13 cd13 ct13 oc14 kV14 dc14 pm14 cd14 ct14 oc15 kV15 dc15 pm15 cd15 ct15 oc16 kV16 dc16 pm16 cd16 ct16 : Value}
    {C_InvalidModel C_NotPlain C_Model : Addr}
    (g_InvalidModel : PySem.W.nsIn K mainGlobals "InvalidModel" = some (some (.ref C_InvalidModel)))
    (x_InvalidModel : PySem.W.excIn K C_InvalidModel [.type "ValueError", .type "Exception", .type "BaseException", .type "object"] "ValueError.__new__" = true) (k_InvalidModel : PySem.W.keepIn K (.ref C_InvalidModel) = true) (b_InvalidModel : PySem.W.subIn K (.ref C_InvalidModel) (.type "BaseException") = some true) (t_InvalidModel : PySem.W.typeIn K (.ref C_InvalidModel) = some (.type "type")) (i_InvalidModel : PySem.W.isClsIn K C_InvalidModel = true) (s_InvalidModel : PySem.W.subIn K (.ref C_InvalidModel) (.ref C_InvalidModel) = some true)
    (E1_InvalidModel : PySem.W.findIn K (.ref C_InvalidModel) "__getattribute__" = some (some (.builtin "BaseException.__getattribute__"))) (E2_InvalidModel : PySem.W.findIn K (.ref C_InvalidModel) "__getattr__" = some none) (E3_InvalidModel : PySem.W.hasDictIn K C_InvalidModel = true) (E4_InvalidModel : PySem.W.findIn K (.ref C_InvalidModel) "__class__" = some (some (.builtin "object.__class__"))) (E5_InvalidModel : PySem.W.mroIn K C_InvalidModel (.type "object") = some true)
    (g_NotPlain : PySem.W.nsIn K mainGlobals "NotPlain" = some (some (.ref C_NotPlain)))
    (g_Model : PySem.W.nsIn K mainGlobals "Model" = some (some (.ref C_Model)))
    (pg_Model : PySem.W.plainGet K C_Model Str.empty = true) (hd_Model : PySem.W.hasDictIn K C_Model = true) (po_Model : PySem.W.plainOver K C_Model = true) (sa_Model : PySem.W.findIn K (.ref C_Model) "__setattr__" = some (some (.builtin "object.__setattr__"))) (mk_Model : PySem.W.makesIn K C_Model = true) (kc_Model : PySem.W.keepIn K (.ref C_Model) = true)
    (n_Model_frame : PySem.W.findIn K (.ref C_Model) "_frame" = some none)
    (n_Model_rows : PySem.W.findIn K (.ref C_Model) "_rows" = some none)
    (n_Model_true : PySem.W.findIn K (.ref C_Model) "_true" = some none)
    (E6 : PySem.W.specialIn K (.builtin "object.__class__") "__get__" = some (some (.builtin "getset_descriptor.__get__"))) (E7 : PySem.W.takesIn K (.builtin "object.__class__") = some true)
    (i_InvalidModel_NotPlain : PySem.W.kitOne K (.ref C_InvalidModel) (.ref C_NotPlain) = some false)
    (a0 : PySem.W.nsIn K mainGlobals "is_frame" = some (some (.ref f0))) (l0 : K.lookup f0 = some ⟨oc0, od0, .func (PySem.W.fnOf "is_frame" "is_frame" (defArgs s_is_frame) (defBody s_is_frame) (defScope s_is_frame) .none kV0 dc0 pm0 an0 cd0 ct0), sl0⟩) (c0 : PySem.W.codeIn K cd0 "is_frame" = true) (k0 : PySem.W.keepIn K (.ref f0) = true)
    (a1 : PySem.W.nsIn K mainGlobals "_is_pair" = some (some (.ref f1))) (l1 : K.lookup f1 = some ⟨oc1, od1, .func (PySem.W.fnOf "_is_pair" "_is_pair" (defArgs s_is_pair) (defBody s_is_pair) (defScope s_is_pair) .none kV1 dc1 pm1 an1 cd1 ct1), sl1⟩) (c1 : PySem.W.codeIn K cd1 "_is_pair" = true) (k1 : PySem.W.keepIn K (.ref f1) = true)
    (a2 : PySem.W.nsIn K mainGlobals "_is_integer" = some (some (.ref f2))) (l2 : K.lookup f2 = some ⟨oc2, od2, .func (PySem.W.fnOf "_is_integer" "_is_integer" (defArgs s_is_integer) (defBody s_is_integer) (defScope s_is_integer) .none kV2 dc2 pm2 an2 cd2 ct2), sl2⟩) (c2 : PySem.W.codeIn K cd2 "_is_integer" = true) (k2 : PySem.W.keepIn K (.ref f2) = true)
    (a3 : PySem.W.nsIn K mainGlobals "rows_of" = some (some (.ref f3))) (l3 : K.lookup f3 = some ⟨oc3, od3, .func (PySem.W.fnOf "rows_of" "rows_of" (defArgs s_rows_of) (defBody s_rows_of) (defScope s_rows_of) .none kV3 dc3 pm3 an3 cd3 ct3), sl3⟩) (c3 : PySem.W.codeIn K cd3 "rows_of" = true) (k3 : PySem.W.keepIn K (.ref f3) = true)
    (a4 : PySem.W.findIn K (.ref C_Model) "__init__" = some (some (.ref f4))) (i4 : PySem.W.isFn K (.ref f4) = true) (l4 : K.lookup f4 = some ⟨oc4, od4, .func (PySem.W.fnOf "__init__" "Model.__init__" (defArgs s_Model_init) (defBody s_Model_init) (defScope s_Model_init) .none kV4 dc4 pm4 an4 cd4 ct4), sl4⟩) (c4 : PySem.W.codeIn K cd4 "Model.__init__" = true) (k4 : PySem.W.keepIn K (.ref f4) = true)
    (a5 : PySem.W.findIn K (.ref C_Model) "frame" = some (some (.ref f5))) (i5 : PySem.W.isFn K (.ref f5) = true) (l5 : K.lookup f5 = some ⟨oc5, od5, .func (PySem.W.fnOf "frame" "Model.frame" (defArgs s_Model_frame) (defBody s_Model_frame) (defScope s_Model_frame) .none kV5 dc5 pm5 an5 cd5 ct5), sl5⟩) (c5 : PySem.W.codeIn K cd5 "Model.frame" = true) (k5 : PySem.W.keepIn K (.ref f5) = true)
    (a6 : PySem.W.findIn K (.ref C_Model) "true_worlds" = some (some (.ref f6))) (i6 : PySem.W.isFn K (.ref f6) = true) (l6 : K.lookup f6 = some ⟨oc6, od6, .func (PySem.W.fnOf "true_worlds" "Model.true_worlds" (defArgs s_Model_true_worlds) (defBody s_Model_true_worlds) (defScope s_Model_true_worlds) .none kV6 dc6 pm6 an6 cd6 ct6), sl6⟩) (c6 : PySem.W.codeIn K cd6 "Model.true_worlds" = true) (k6 : PySem.W.keepIn K (.ref f6) = true)
    (a7 : PySem.W.findIn K (.ref C_Model) "seen" = some (some (.ref f7))) (i7 : PySem.W.isFn K (.ref f7) = true) (l7 : K.lookup f7 = some ⟨oc7, od7, .func (PySem.W.fnOf "seen" "Model.seen" (defArgs s_Model_seen) (defBody s_Model_seen) (defScope s_Model_seen) .none kV7 dc7 pm7 an7 cd7 ct7), sl7⟩) (c7 : PySem.W.codeIn K cd7 "Model.seen" = true) (k7 : PySem.W.keepIn K (.ref f7) = true)
    (a8 : PySem.W.nsIn K mainGlobals "_law_pool" = some (some (.ref f8))) (l8 : K.lookup f8 = some ⟨oc8, od8, .func (PySem.W.fnOf "_law_pool" "_law_pool" (defArgs s_law_pool) (defBody s_law_pool) (defScope s_law_pool) .none kV8 dc8 pm8 an8 cd8 ct8), sl8⟩) (c8 : PySem.W.codeIn K cd8 "_law_pool" = true) (k8 : PySem.W.keepIn K (.ref f8) = true)
    (a9 : PySem.W.nsIn K mainGlobals "_law_spread" = some (some (.ref f9))) (l9 : K.lookup f9 = some ⟨oc9, od9, .func (PySem.W.fnOf "_law_spread" "_law_spread" (defArgs s_law_spread) (defBody s_law_spread) (defScope s_law_spread) .none kV9 dc9 pm9 an9 cd9 ct9), sl9⟩) (c9 : PySem.W.codeIn K cd9 "_law_spread" = true) (k9 : PySem.W.keepIn K (.ref f9) = true)
    (a10 : PySem.W.nsIn K mainGlobals "_law_draw" = some (some (.ref f10))) (l10 : K.lookup f10 = some ⟨oc10, od10, .func (PySem.W.fnOf "_law_draw" "_law_draw" (defArgs s_law_draw) (defBody s_law_draw) (defScope s_law_draw) .none kV10 dc10 pm10 an10 cd10 ct10), sl10⟩) (c10 : PySem.W.codeIn K cd10 "_law_draw" = true) (k10 : PySem.W.keepIn K (.ref f10) = true)
    (a11 : PySem.W.nsIn K mainGlobals "_law_same" = some (some (.ref f11))) (l11 : K.lookup f11 = some ⟨oc11, od11, .func (PySem.W.fnOf "_law_same" "_law_same" (defArgs s_law_same) (defBody s_law_same) (defScope s_law_same) .none kV11 dc11 pm11 an11 cd11 ct11), sl11⟩) (c11 : PySem.W.codeIn K cd11 "_law_same" = true) (k11 : PySem.W.keepIn K (.ref f11) = true)
    (a12 : PySem.W.nsIn K mainGlobals "_law_distinct" = some (some (.ref f12))) (l12 : K.lookup f12 = some ⟨oc12, od12, .func (PySem.W.fnOf "_law_distinct" "_law_distinct" (defArgs s_law_distinct) (defBody s_law_distinct) (defScope s_law_distinct) .none kV12 dc12 pm12 an12 cd12 ct12), sl12⟩) (c12 : PySem.W.codeIn K cd12 "_law_distinct" = true) (k12 : PySem.W.keepIn K (.ref f12) = true)
    (a13 : PySem.W.nsIn K mainGlobals "_law_wide_model" = some (some (.ref f13))) (l13 : K.lookup f13 = some ⟨oc13, od13, .func (PySem.W.fnOf "_law_wide_model" "_law_wide_model" (defArgs s_law_wide_model) (defBody s_law_wide_model) (defScope s_law_wide_model) .none kV13 dc13 pm13 an13 cd13 ct13), sl13⟩) (c13 : PySem.W.codeIn K cd13 "_law_wide_model" = true) (k13 : PySem.W.keepIn K (.ref f13) = true)
    (a14 : PySem.W.nsIn K mainGlobals "_law_grid" = some (some (.ref f14))) (l14 : K.lookup f14 = some ⟨oc14, od14, .func (PySem.W.fnOf "_law_grid" "_law_grid" (defArgs s_law_grid) (defBody s_law_grid) (defScope s_law_grid) .none kV14 dc14 pm14 an14 cd14 ct14), sl14⟩) (c14 : PySem.W.codeIn K cd14 "_law_grid" = true) (k14 : PySem.W.keepIn K (.ref f14) = true)
    (a15 : PySem.W.nsIn K mainGlobals "_law_framed" = some (some (.ref f15))) (l15 : K.lookup f15 = some ⟨oc15, od15, .func (PySem.W.fnOf "_law_framed" "_law_framed" (defArgs s_law_framed) (defBody s_law_framed) (defScope s_law_framed) .none kV15 dc15 pm15 an15 cd15 ct15), sl15⟩) (c15 : PySem.W.codeIn K cd15 "_law_framed" = true) (k15 : PySem.W.keepIn K (.ref f15) = true)
    (a16 : PySem.W.nsIn K mainGlobals "law" = some (some (.ref f16))) (l16 : K.lookup f16 = some ⟨oc16, od16, .func (PySem.W.fnOf "law" "law" (defArgs s_law) (defBody s_law) (defScope s_law) .none kV16 dc16 pm16 an16 cd16 ct16), sl16⟩) (c16 : PySem.W.codeIn K cd16 "law" = true) (k16 : PySem.W.keepIn K (.ref f16) = true)
    (z_bool : PySem.W.nsIn K mainGlobals "bool" = some none)
    (z_int : PySem.W.nsIn K mainGlobals "int" = some none)
    (z_isinstance : PySem.W.nsIn K mainGlobals "isinstance" = some none)
    (z_len : PySem.W.nsIn K mainGlobals "len" = some none)
    (z_list : PySem.W.nsIn K mainGlobals "list" = some none)
    (z_range : PySem.W.nsIn K mainGlobals "range" = some none)
    (z_set : PySem.W.nsIn K mainGlobals "set" = some none)
    (z_sorted : PySem.W.nsIn K mainGlobals "sorted" = some none)
    (z_str : PySem.W.nsIn K mainGlobals "str" = some none)
    (z_tuple : PySem.W.nsIn K mainGlobals "tuple" = some none)
    : ∃ fd : FuncData, (∀ (s : Shared) (v : Value), BindsTo s fd ⟨[v], []⟩ [("script", v)]) ∧ ∀ base : Heap, K.In base → base.Ns mainGlobals mg → FnOk l.prog w K mg base CX0 21 fa fd ["script"] (spLaw K) := by
  have e := hfa.symm.trans (PySem.W.mg_of X G a16)
  cases e
  have F0 := fun_mk (st := s_is_frame) l0 c0 k0
  have b0 := F0.binds (ps := ["frame"]) fun _ _ _ _ _ _ us hl => match us, hl with | [_], _ => rfl
  have F1 := fun_mk (st := s_is_pair) l1 c1 k1
  have b1 := F1.binds (ps := ["pair", "worlds"]) fun _ _ _ _ _ _ us hl => match us, hl with | [_, _], _ => rfl
  have F2 := fun_mk (st := s_is_integer) l2 c2 k2
  have b2 := F2.binds (ps := ["value"]) fun _ _ _ _ _ _ us hl => match us, hl with | [_], _ => rfl
  have F3 := fun_mk (st := s_rows_of) l3 c3 k3
  have b3 := F3.binds (ps := ["frame"]) fun _ _ _ _ _ _ us hl => match us, hl with | [_], _ => rfl
  have F4 := fun_mk (st := s_Model_init) l4 c4 k4
  have b4 := F4.binds (ps := ["self", "frame", "values"]) fun _ _ _ _ _ _ us hl => match us, hl with | [_, _, _], _ => rfl
  have F5 := fun_mk (st := s_Model_frame) l5 c5 k5
  have b5 := F5.binds (ps := ["self"]) fun _ _ _ _ _ _ us hl => match us, hl with | [_], _ => rfl
  have F6 := fun_mk (st := s_Model_true_worlds) l6 c6 k6
  have b6 := F6.binds (ps := ["self"]) fun _ _ _ _ _ _ us hl => match us, hl with | [_], _ => rfl
  have F7 := fun_mk (st := s_Model_seen) l7 c7 k7
  have b7 := F7.binds (ps := ["self", "v"]) fun _ _ _ _ _ _ us hl => match us, hl with | [_, _], _ => rfl
  have F8 := fun_mk (st := s_law_pool) l8 c8 k8
  have b8 := F8.binds (ps := ["script"]) fun _ _ _ _ _ _ us hl => match us, hl with | [_], _ => rfl
  have F9 := fun_mk (st := s_law_spread) l9 c9 k9
  have b9 := F9.binds (ps := ["cell"]) fun _ _ _ _ _ _ us hl => match us, hl with | [_], _ => rfl
  have F10 := fun_mk (st := s_law_draw) l10 c10 k10
  have b10 := F10.binds (ps := ["pool", "many"]) fun _ _ _ _ _ _ us hl => match us, hl with | [_, _], _ => rfl
  have F11 := fun_mk (st := s_law_same) l11 c11 k11
  have b11 := F11.binds (ps := ["actual", "due"]) fun _ _ _ _ _ _ us hl => match us, hl with | [_, _], _ => rfl
  have F12 := fun_mk (st := s_law_distinct) l12 c12 k12
  have b12 := F12.binds (ps := ["rows"]) fun _ _ _ _ _ _ us hl => match us, hl with | [_], _ => rfl
  have F13 := fun_mk (st := s_law_wide_model) l13 c13 k13
  have b13 := F13.binds (ps := ["pool", "most"]) fun _ _ _ _ _ _ us hl => match us, hl with | [_, _], _ => rfl
  have F14 := fun_mk (st := s_law_grid) l14 c14 k14
  have b14 := F14.binds (ps := ["first", "second"]) fun _ _ _ _ _ _ us hl => match us, hl with | [_, _], _ => rfl
  have F15 := fun_mk (st := s_law_framed) l15 c15 k15
  have b15 := F15.binds (ps := ["seen"]) fun _ _ _ _ _ _ us hl => match us, hl with | [_], _ => rfl
  have F16 := fun_mk (st := s_law) l16 c16 k16
  have b16 := F16.binds (ps := ["script"]) fun _ _ _ _ _ _ us hl => match us, hl with | [_], _ => rfl
  let T : Top K mg := ⟨_, PySem.W.mg_of X G g_InvalidModel, x_InvalidModel, k_InvalidModel, b_InvalidModel, t_InvalidModel, exm_self b_InvalidModel i_InvalidModel t_InvalidModel s_InvalidModel, ⟨E1_InvalidModel, E2_InvalidModel, b_InvalidModel, E3_InvalidModel, E4_InvalidModel, E6, E7, E5_InvalidModel⟩, _, PySem.W.mg_of X G g_NotPlain, _, PySem.W.mg_of X G g_Model, ⟨pg_Model, hd_Model, po_Model, sa_Model⟩, n_Model_frame, n_Model_rows, n_Model_true, i_InvalidModel_NotPlain, _, _, F0, b0, PySem.W.mg_of X G a0, _, _, F1, b1, PySem.W.mg_of X G a1, _, _, F2, b2, PySem.W.mg_of X G a2, _, _, F3, b3, PySem.W.mg_of X G a3, _, _, F4, b4, ⟨mk_Model, a4, i4, kc_Model⟩, _, _, F5, b5, ⟨a5, i5, k5⟩, _, _, F6, b6, ⟨a6, i6, k6⟩, _, _, F7, b7, ⟨a7, i7, k7⟩, _, _, F8, b8, PySem.W.mg_of X G a8, _, _, F9, b9, PySem.W.mg_of X G a9, _, _, F10, b10, PySem.W.mg_of X G a10, _, _, F11, b11, PySem.W.mg_of X G a11, _, _, F12, b12, PySem.W.mg_of X G a12, _, _, F13, b13, PySem.W.mg_of X G a13, _, _, F14, b14, PySem.W.mg_of X G a14, _, _, F15, b15, PySem.W.mg_of X G a15, _, _, F16, b16, PySem.W.mg_of X G a16, PySem.W.mg_none_of X G z_bool, PySem.W.mg_none_of X G z_int, PySem.W.mg_none_of X G z_isinstance, PySem.W.mg_none_of X G z_len, PySem.W.mg_none_of X G z_list, PySem.W.mg_none_of X G z_range, PySem.W.mg_none_of X G z_set, PySem.W.mg_none_of X G z_sorted, PySem.W.mg_none_of X G z_str, PySem.W.mg_none_of X G z_tuple⟩
  exact ⟨_, fun s v => .of_eq rfl, fun base _ _ => ok_law T⟩
end E
open PySem PySem.W PyProof.Rows
set_option maxRecDepth 100000 in
set_option maxHeartbeats 0 in
theorem PySem.Challenge.cw_elsewhere_k12_models_holds : PySem.Challenge.rw_elsewhere_k12_models.Holds := by
  w_on; o_law; k_head; (case hw => w_witness2)
  k_fill
  refine L2.walk_of (l := PySem.Challenge.rw_elsewhere_k12_models) (n := 63) (k := 21) (x := "script") (CX := fun _ => L2.CX0) (sp := fun w => E.spLaw _) rfl (by decide) rfl ⟨rfl, by decide, by decide⟩ (fun w h Y => PySem.W.kIn_of Y) ?F (fun _ _ a ns hl _ hS => ⟨a, ns, rfl, hS, hl, fun _ => rfl⟩) fun _ _ _ _ _ z => z
  case F =>
    intro w mg fa h KX G hmg
    refine' E.all_mk KX G hmg ?g_InvalidModel ?x_InvalidModel ?k_InvalidModel ?b_InvalidModel ?t_InvalidModel ?i_InvalidModel ?s_InvalidModel ?E1_InvalidModel ?E2_InvalidModel ?E3_InvalidModel ?E4_InvalidModel ?E5_InvalidModel ?g_NotPlain ?g_Model ?pg_Model ?hd_Model ?po_Model ?sa_Model ?mk_Model ?kc_Model ?n_Model_frame ?n_Model_rows ?n_Model_true ?E6 ?E7 ?i_InvalidModel_NotPlain ?a0 ?l0 ?c0 ?k0 ?a1 ?l1 ?c1 ?k1 ?a2 ?l2 ?c2 ?k2 ?a3 ?l3 ?c3 ?k3 ?a4 ?i4 ?l4 ?c4 ?k4 ?a5 ?i5 ?l5 ?c5 ?k5 ?a6 ?i6 ?l6 ?c6 ?k6 ?a7 ?i7 ?l7 ?c7 ?k7 ?a8 ?l8 ?c8 ?k8 ?a9 ?l9 ?c9 ?k9 ?a10 ?l10 ?c10 ?k10 ?a11 ?l11 ?c11 ?k11 ?a12 ?l12 ?c12 ?k12 ?a13 ?l13 ?c13 ?k13 ?a14 ?l14 ?c14 ?k14 ?a15 ?l15 ?c15 ?k15 ?a16 ?l16 ?c16 ?k16 ?z_bool ?z_int ?z_isinstance ?z_len ?z_list ?z_range ?z_set ?z_sorted ?z_str ?z_tuple
    (case g_InvalidModel => k_is); (case x_InvalidModel => k_exc); (case k_InvalidModel => k_is); (case b_InvalidModel => k_is)
    (case t_InvalidModel => k_is); (case i_InvalidModel => first | rfl | k_is | decide +kernel); (case s_InvalidModel => first | rfl | k_is | decide +kernel); (case E1_InvalidModel => k_is)
    (case E2_InvalidModel => k_is); (case E3_InvalidModel => k_is); (case E4_InvalidModel => k_is); (case E5_InvalidModel => k_is)
    (case g_NotPlain => k_is); (case g_Model => k_is); (case pg_Model => k_is); (case hd_Model => k_is)
    (case po_Model => k_is); (case sa_Model => k_is); (case mk_Model => k_is); (case kc_Model => k_is)
    (case n_Model_frame => k_is); (case n_Model_rows => k_is); (case n_Model_true => k_is); (case E6 => k_is)
    (case E7 => k_is); (case i_InvalidModel_NotPlain => first | rfl | k_is | decide +kernel); (case a0 => k_is); (case l0 => k_is)
    (case c0 => k_is); (case k0 => k_is); (case a1 => k_is); (case l1 => k_is)
    (case c1 => k_is); (case k1 => k_is); (case a2 => k_is); (case l2 => k_is)
    (case c2 => k_is); (case k2 => k_is); (case a3 => k_is); (case l3 => k_is)
    (case c3 => k_is); (case k3 => k_is); (case a4 => k_is); (case i4 => k_is)
    (case l4 => k_is); (case c4 => k_is); (case k4 => k_is); (case a5 => k_is)
    (case i5 => k_is); (case l5 => k_is); (case c5 => k_is); (case k5 => k_is)
    (case a6 => k_is); (case i6 => k_is); (case l6 => k_is); (case c6 => k_is)
    (case k6 => k_is); (case a7 => k_is); (case i7 => k_is); (case l7 => k_is)
    (case c7 => k_is); (case k7 => k_is); (case a8 => k_is); (case l8 => k_is)
    (case c8 => k_is); (case k8 => k_is); (case a9 => k_is); (case l9 => k_is)
    (case c9 => k_is); (case k9 => k_is); (case a10 => k_is); (case l10 => k_is)
    (case c10 => k_is); (case k10 => k_is); (case a11 => k_is); (case l11 => k_is)
    (case c11 => k_is); (case k11 => k_is); (case a12 => k_is); (case l12 => k_is)
    (case c12 => k_is); (case k12 => k_is); (case a13 => k_is); (case l13 => k_is)
    (case c13 => k_is); (case k13 => k_is); (case a14 => k_is); (case l14 => k_is)
    (case c14 => k_is); (case k14 => k_is); (case a15 => k_is); (case l15 => k_is)
    (case c15 => k_is); (case k15 => k_is); (case a16 => k_is); (case l16 => k_is)
    (case c16 => k_is); (case k16 => k_is); (case z_bool => k_is); (case z_int => k_is)
    (case z_isinstance => k_is); (case z_len => k_is); (case z_list => k_is); (case z_range => k_is)
    (case z_set => k_is); (case z_sorted => k_is); (case z_str => k_is); (case z_tuple => k_is)

