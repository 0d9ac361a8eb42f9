import PyProof.Rows.All
import Wide.All
import OpenK.AllK
import Wide.FinOn
import HandS.ForMost
import HandS.IsInst
import HandS.Steps
import HandS.TupAny
import HandS.Codes
import KE.LtData
import KE.SortData
import KE.SortLaws
import PyProof.StrOps
import KE.SortCalls
import KE.DatumOrd
import HandS.CallLocal
import HandS.Nested
import HandS.DeepEq
import HandS.SetFor
import HandS.Strs
import HandS.ExcOwn
import HandS.ExcIs
import HandS.RaiseMore
import HandS.FStr
import HandS.WordsExc
import HandS.NestedK
import HandS.HeadHook4
import HandS.EndTab
import KE.KeyNested
import HandS.TupSets
import HandS.DictTup
import HandS.Walk
import HandS.Conv
import KE.KEqDict
import PyProof.DictFindH
import HandS.SetKeys
import HandS.DictComp
import HandS.Star
import HandS.Rev
import HandS.Flow
import HandS.TupLen
import PySem.Challenge.RW_elsewhere_k05_replaced_boxes
set_option Elab.async false
set_option linter.all false
set_option maxRecDepth 100000
namespace E
open PySem PySem.Spec PyProof.Rows L2
/-! ### heaps: what a step keeps -/
/-- tuples stay -/
def TS (H H' : Hp) : Prop := (∀ b xs, Rd H b (.tup xs) → Rd H' b (.tup xs)) ∧ ∀ b xs, H b = some (.tup xs) → H' b = some (.tup xs)
theorem TS.refl (H : Hp) : TS H H := ⟨fun _ _ h => h, fun _ _ h => h⟩
/-- one object, no tuple, is changed -/
theorem TS.but {H H' : Hp} {d : Addr} {u : HO} (hd : H d = some u) (h1 : ∀ xs, u ≠ .tup xs) (h2 : ∀ o xs, u ≠ .frz o (.tup xs)) (k : ∀ c o, H c = some o → c ≠ d → H' c = some o) : TS H H' := by
  have n1 : ∀ c xs, H c = some (.tup xs) → c ≠ d := fun c xs r e => by
    rw [e, hd] at r
    exact h1 xs (Option.some.inj r)
  have n2 : ∀ c o xs, H c = some (.frz o (.tup xs)) → c ≠ d := fun c o xs r e => by
    rw [e, hd] at r
    exact h2 o xs (Option.some.inj r)
  refine ⟨fun c xs r => ?_, fun c xs r => k _ _ r (n1 _ _ r)⟩
  rcases r with r | ⟨o, r⟩
  · exact .inl (k _ _ r (n1 _ _ r))
  · exact .inr ⟨o, k _ _ r (n2 _ _ _ r)⟩
theorem TS.trans {H H1 H2 : Hp} (a : TS H H1) (b : TS H1 H2) : TS H H2 := ⟨fun c xs h => b.1 c xs (a.1 c xs h), fun c xs h => b.2 c xs (a.2 c xs h)⟩
/-- all but the object at p stays -/
def Kp (p : Addr) (H H' : Hp) : Prop := ∀ b o, H b = some o → b ≠ p → H' b = some o
theorem Kp.refl (p : Addr) (H : Hp) : Kp p H H := fun _ _ h _ => h
theorem Kp.trans {p : Addr} {H H1 H2 : Hp} (a : Kp p H H1) (b : Kp p H1 H2) : Kp p H H2 := fun c o h n => b c o (a c o h n) n
theorem Kp.upd {p : Addr} {H : Hp} {o : HO} : Kp p H (upd H p o) := fun b u h n => by rw [upd_ne n]; exact h
theorem Kp.new {p q : Addr} {H : Hp} {o : HO} (h : H q = none) : Kp p H (L2.upd H q o) := fun b u e _ => by rw [upd_ne (ne_of_none e h)]; exact e
theorem same_new {q : Addr} {H : Hp} {o : HO} (h : H q = none) : Same H (upd H q o) := fun b u e => by rw [upd_ne (ne_of_none e h)]; exact e
theorem Same.kp {p : Addr} {H H' : Hp} (s : Same H H') : Kp p H H' := fun b o h _ => s b o h
theorem Same.ts {H H' : Hp} (s : Same H H') : TS H H' := ⟨fun b xs h => by
  rcases h with h | ⟨o, h⟩
  · exact .inl (s _ _ h)
  · exact .inr ⟨o, s _ _ h⟩, fun b xs h => s _ _ h⟩
theorem Kp.rd {p a : Addr} {H H' : Hp} {u : HO} (k : Kp p H H') (h : Rd H a u) (n : a ≠ p) : Rd H' a u := by
  rcases h with h | ⟨o, h⟩
  · exact .inl (k _ _ h n)
  · exact .inr ⟨o, k _ _ h n⟩
theorem Kp.sqL {K : PySem.W.Frag} {p a : Addr} {H H' : Hp} {xs : List V} (k : Kp p H H') (h : SqL K H a xs) (n : a ≠ p) : SqL K H' a xs := by
  rcases h with h | h
  · exact .inl (k.rd h n)
  · exact .inr h
/-- p holds a list: tuples stay -/
theorem Kp.ts {p : Addr} {H H' : Hp} {xs : List V} (k : Kp p H H') (h : H p = some (.lst xs)) : TS H H' := TS.but h (fun _ e => nomatch e) (fun _ _ e => nomatch e) k
/-- what is new for H' was new for H -/
theorem Kp.free {p q : Addr} {H H' : Hp} {o : HO} (k : Kp p H H') (hp : H p = some o) (hp' : ∃ o, H' p = some o) (h : H' q = none) : H q = none := by
  cases e : H q with
  | none => rfl
  | some u =>
    have n : q ≠ p := fun z => by
      subst z
      obtain ⟨o', h'⟩ := hp'
      rw [h] at h'; cases h'
    rw [k q u e n] at h; cases h
theorem TS.sqT {K : PySem.W.Frag} {a : Addr} {H H' : Hp} {xs : List V} (k : TS H H') (h : SqT K H a xs) : SqT K H' a xs := by
  rcases h with h | h
  · exact .inl (k.1 _ _ h)
  · exact .inr h
/-! ### data without lists -/
mutual
inductive Im (K : PySem.W.Frag) (H : Hp) : V → PyData → Prop
  | non : Im K H .non .none
  | bl (b : Bool) : Im K H (.bl b) (.bool b)
  | int (i : Int) : Im K H (.int i) (.int i)
  | str (x : Str) : Im K H (.str x) (.str x)
  | tup {a : Addr} {xs : List V} {ds : List PyData} (h : SqT K H a xs) (l : ImAll K H xs ds) (tr : ∀ y : Str, ds = [.str "var", .str y] → H a = some (.tup xs) := by first | (intro y e; cases e; done) | (intro y e; exact absurd (PyData.str.inj (List.cons.inj e).1) (by decide +kernel))) : Im K H (.ref a) (.tuple ds)
inductive ImAll (K : PySem.W.Frag) (H : Hp) : List V → List PyData → Prop
  | nil : ImAll K H [] []
  | cons {v : V} {vs : List V} {d : PyData} {ds : List PyData} : Im K H v d → ImAll K H vs ds → ImAll K H (v :: vs) (d :: ds)
end
section
variable {K : PySem.W.Frag} {H H' : Hp}
mutual
theorem Im.mono (k : TS H H') : ∀ {v : V} {d : PyData}, Im K H v d → Im K H' v d
  | _, _, .non => .non
  | _, _, .bl b => .bl b
  | _, _, .int i => .int i
  | _, _, .str x => .str x
  | _, _, .tup h a t => .tup (k.sqT h) (ImAll.mono k a) fun y e => k.2 _ _ (t y e)
theorem ImAll.mono (k : TS H H') : ∀ {vs : List V} {ds : List PyData}, ImAll K H vs ds → ImAll K H' vs ds
  | _, _, .nil => .nil
  | _, _, .cons h t => .cons (Im.mono k h) (ImAll.mono k t)
end
mutual
theorem Im.dp : ∀ {v : V} {d : PyData}, Im K H v d → Dp K H v d
  | _, _, .non => .non
  | _, _, .bl b => .bl b
  | _, _, .int i => .int i
  | _, _, .str x => .str x
  | _, _, .tup h a _ => .tup h (ImAll.dp a)
theorem ImAll.dp : ∀ {vs : List V} {ds : List PyData}, ImAll K H vs ds → DpAll K H vs ds
  | _, _, .nil => .nil
  | _, _, .cons h t => .cons (Im.dp h) (ImAll.dp t)
end
theorem ImAll.get : ∀ {vs : List V} {ds : List PyData} {i : Nat} {v : V}, ImAll K H vs ds → vs[i]? = some v → ∃ d, ds[i]? = some d ∧ Im K H v d
  | _, _, _, _, .nil, e => by simp at e
  | _, _, 0, _, .cons h _, e => by simp at e; subst e; exact ⟨_, rfl, h⟩
  | _, _, i + 1, v, .cons _ t, e => by
    obtain ⟨d, h1, h2⟩ := ImAll.get (i := i) (v := v) t (by simpa using e)
    exact ⟨d, by simpa using h1, h2⟩
theorem ImAll.length : ∀ {vs : List V} {ds : List PyData}, ImAll K H vs ds → vs.length = ds.length
  | _, _, .nil => rfl
  | _, _, .cons _ t => by rw [List.length_cons, List.length_cons, ImAll.length t]
theorem ImAll.snoc : ∀ {vs : List V} {ds : List PyData} {v : V} {d : PyData}, ImAll K H vs ds → Im K H v d → ImAll K H (vs ++ [v]) (ds ++ [d])
  | _, _, _, _, .nil, h => .cons h .nil
  | _, _, _, _, .cons h t, h' => .cons h (ImAll.snoc t h')
theorem dpAll_get : ∀ {vs : List V} {ds : List PyData} {i : Nat} {d : PyData}, DpAll K H vs ds → ds[i]? = some d → ∃ v, vs[i]? = some v ∧ Dp K H v d
  | _, _, _, _, .nil, e => by simp at e
  | _, _, 0, _, .cons h _, e => by simp at e; subst e; exact ⟨_, rfl, h⟩
  | _, _, i + 1, d, .cons _ t, e => by
    obtain ⟨v, h1, h2⟩ := dpAll_get (i := i) (d := d) t (by simpa using e)
    exact ⟨v, by simpa using h1, h2⟩
theorem dpAll_len : ∀ {vs : List V} {ds : List PyData}, DpAll K H vs ds → vs.length = ds.length
  | _, _, .nil => rfl
  | _, _, .cons _ t => by rw [List.length_cons, List.length_cons, dpAll_len t]
/-! ### types, for isinstance -/
theorem ty_list {a : Addr} {xs : List V} (h : SqL K H a xs) : TyX K H (.ref a) (.type "list") := by
  rcases h with (h | ⟨o, h⟩) | ⟨o, its, n, h1, h2, _⟩
  · exact .base (.lst h)
  · exact .base (.frz h)
  · exact .kList h1 h2
theorem ty_tup {a : Addr} {xs : List V} (h : SqT K H a xs) : TyX K H (.ref a) (.type "tuple") := by
  rcases h with (h | ⟨o, h⟩) | ⟨o, its, n, h1, h2, _⟩
  · exact .base (.tup h)
  · exact .fTuple h
  · exact .kTuple h1 h2
def tyD : PyData → String
  | .none => "NoneType"
  | .bool _ => "bool"
  | .int _ => "int"
  | .str _ => "str"
  | .list _ => "list"
  | .tuple _ => "tuple"
  | .dict _ => "dict"
theorem Dp.ty {v : V} {d : PyData} (h : Dp K H v d) : TyX K H v (.type (tyD d)) := by
  cases h with
  | non => exact .base .non
  | bl b => exact .base (.bl b)
  | int i => exact .base (.int i)
  | str x => exact .base (.str x)
  | lst h _ => exact ty_list h
  | tup h _ => exact ty_tup h
end
/-! ### the law's pool of numbers -/
structure Pl (K : PySem.W.Frag) (H : Hp) (p l : Addr) : Prop where
  sq : ∃ cs : List Int, SqL K H l (cs.map V.int)
  ne : l ≠ p
  at5 : ∃ i r c s : Int, H p = some (.lst [.ref l, .int i, .int r, .int c, .int s]) ∧ 0 ≤ i
section
variable {K : PySem.W.Frag} {H H' H0 H1 H2 : Hp} {p q l : Addr}
theorem Pl.lst (h : Pl K H p l) : ∃ xs, H p = some (.lst xs) := by
  obtain ⟨i, r, c, s, h, _⟩ := h.at5
  exact ⟨_, h⟩
theorem Pl.same (k : Same H H') (h : Pl K H p l) : Pl K H' p l := by
  obtain ⟨i, r, c, s, h1, h2⟩ := h.at5
  obtain ⟨cs, hs⟩ := h.sq
  exact ⟨⟨cs, k.seq hs⟩, h.ne, i, r, c, s, k _ _ h1, h2⟩
/-- the pool's own turn -/
theorem Pl.turn {i r c s : Int} (h : Pl K H p l) (h0 : 0 ≤ i) : Pl K (upd H p (.lst [.ref l, .int i, .int r, .int c, .int s])) p l := by
  obtain ⟨cs, hs⟩ := h.sq
  exact ⟨⟨cs, Kp.upd.sqL hs h.ne⟩, h.ne, i, r, c, s, upd_same, h0⟩
theorem Pl.ts (h : Pl K H p l) (k : Kp p H H') : TS H H' := by
  obtain ⟨xs, e⟩ := h.lst
  exact k.ts e
/-- another list, younger than the pool, is changed -/
theorem Pl.other (h0 : Pl K H0 p l) (hq : H0 q = none) (h1 : Pl K H1 p l) (k : Kp q H1 H2) : Pl K H2 p l := by
  obtain ⟨i, r, c, s, e1, e2⟩ := h1.at5
  obtain ⟨cs, hs⟩ := h1.sq
  obtain ⟨xs, hl⟩ := h0.lst
  have np : p ≠ q := ne_of_none hl hq
  refine ⟨?_, h1.ne, i, r, c, s, k _ _ e1 np, e2⟩
  rcases hs with hs | hs
  · obtain ⟨cs0, h0s⟩ := h0.sq
    rcases h0s with h0s | h0s
    · have nl : l ≠ q := by
        rcases h0s with z | ⟨o, z⟩
        · exact ne_of_none z hq
        · exact ne_of_none z hq
      exact ⟨cs, .inl (k.rd hs nl)⟩
    · exact ⟨cs0, .inr h0s⟩
  · exact ⟨cs, .inr hs⟩
/-- p's change and that of a younger q together are p's change -/
theorem Kp.under (hq : H0 q = none) (k1 : Kp p H0 H1) (k2 : Kp q H1 H2) : Kp p H0 H2 := fun b o e n => k2 b o (k1 b o e n) (ne_of_none e hq)
end
theorem kB {K : PySem.W.Frag} {a b : String} (r : Bool) (h : L2.kitB a b = some r) : PySem.W.kitOne K (.type a) (.type b) = some r := kit_ty h
/-- a promise that nothing can ask for -/
theorem fn_none {P : Program} {w : World} {K : PySem.W.Frag} {mg : Str → Option Value} {base : Heap} {f : Addr} {fd : FuncData} {ps : List Str} {sp : Sp} (no : ∀ vs H Q E, ¬ sp vs H Q E) : FnOk P w K mg base CX0 0 f fd ps sp :=
  ⟨fun vs H Q E h => absurd h (no vs H Q E), fun A outer s H args us vs Q E _ _ _ _ h => absurd h (no vs H Q E)⟩
mutual
/-- no list or tuple in it is too long -/
def sml : PyData → Prop
  | .list ds => ds.length ≤ 1000000 ∧ smlAll ds
  | .tuple ds => ds.length ≤ 1000000 ∧ smlAll ds
  | _ => True
def smlAll : List PyData → Prop
  | [] => True
  | d :: ds => sml d ∧ smlAll ds
end
theorem sml_mem : ∀ {ds : List PyData} {i : Nat} {d : PyData}, smlAll ds → ds[i]? = some d → sml d
  | [], _, _, _, h => by simp at h
  | e :: ds, 0, d, h1, h => by
    simp at h; subst h
    rw [smlAll] at h1; exact h1.1
  | e :: ds, i + 1, d, h1, h => by
    rw [smlAll] at h1
    exact sml_mem (ds := ds) (i := i) h1.2 (by simpa using h)
theorem depth_mem : ∀ {ds : List PyData} {i : Nat} {d : PyData}, ds[i]? = some d → d.depth ≤ PyData.depthAll ds
  | [], _, _, h => by simp at h
  | e :: ds, 0, d, h => by
    simp at h; subst h
    rw [PyData.depthAll]; exact Nat.le_max_left _ _
  | e :: ds, i + 1, d, h => by
    have := depth_mem (ds := ds) (i := i) (d := d) (by simpa using h)
    rw [PyData.depthAll]; exact Nat.le_trans this (Nat.le_max_right _ _)
theorem sizeU {n : Nat} (h : n ≤ 1000) : n ≤ sizeLine := Nat.le_of_lt (small1000 h)
/-! ### formulas -/
inductive Fm where
  | var (n : Str) | fal | and (a b : Fm) | or (a b : Fm) | imp (a b : Fm) | box (a : Fm)
  deriving DecidableEq
def Fm.d : Fm → PyData
  | .var n => .tuple [.str "var", .str n]
  | .fal => .tuple [.str "falsum"]
  | .and a b => .tuple [.str "and", a.d, b.d]
  | .or a b => .tuple [.str "or", a.d, b.d]
  | .imp a b => .tuple [.str "implies", a.d, b.d]
  | .box a => .tuple [.str "box", a.d]
def Fm.ht : Fm → Nat
  | .var _ => 1
  | .fal => 1
  | .and a b => max a.ht b.ht + 1
  | .or a b => max a.ht b.ht + 1
  | .imp a b => max a.ht b.ht + 1
  | .box a => a.ht + 1
def Fm.plain : Fm → Bool
  | .var _ => true
  | .fal => true
  | .and a b => a.plain && b.plain
  | .or a b => a.plain && b.plain
  | .imp a b => a.plain && b.plain
  | .box _ => false
/-- all names of variables are in N -/
def Fm.over (N : List Str) : Fm → Bool
  | .var n => decide (n ∈ N)
  | .fal => true
  | .and a b => a.over N && b.over N
  | .or a b => a.over N && b.over N
  | .imp a b => a.over N && b.over N
  | .box a => a.over N
theorem Fm.depth : ∀ f : Fm, f.d.depth = f.ht
  | .var _ => by simp [Fm.d, PyData.depth, PyData.depthAll, Fm.ht]
  | .fal => by simp [Fm.d, PyData.depth, PyData.depthAll, Fm.ht]
  | .and a b => by simp [Fm.d, PyData.depth, PyData.depthAll, Fm.ht, Fm.depth a, Fm.depth b]
  | .or a b => by simp [Fm.d, PyData.depth, PyData.depthAll, Fm.ht, Fm.depth a, Fm.depth b]
  | .imp a b => by simp [Fm.d, PyData.depth, PyData.depthAll, Fm.ht, Fm.depth a, Fm.depth b]
  | .box a => by simp [Fm.d, PyData.depth, PyData.depthAll, Fm.ht, Fm.depth a]
theorem Fm.sml : ∀ f : Fm, E.sml f.d
  | .var _ => by simp [Fm.d, E.sml, smlAll]
  | .fal => by simp [Fm.d, E.sml, smlAll]
  | .and a b => by simp [Fm.d, E.sml, smlAll, Fm.sml a, Fm.sml b]
  | .or a b => by simp [Fm.d, E.sml, smlAll, Fm.sml a, Fm.sml b]
  | .imp a b => by simp [Fm.d, E.sml, smlAll, Fm.sml a, Fm.sml b]
  | .box a => by simp [Fm.d, E.sml, smlAll, Fm.sml a]
theorem Fm.ht_pos : ∀ f : Fm, 1 ≤ f.ht
  | .var _ => Nat.le_refl _
  | .fal => Nat.le_refl _
  | .and _ _ => Nat.le_add_left _ _
  | .or _ _ => Nat.le_add_left _ _
  | .imp _ _ => Nat.le_add_left _ _
  | .box _ => Nat.le_add_left _ _
section
variable {K : PySem.W.Frag} {H : Hp} {p : Addr} {v u : V} {f g : Fm}
theorem im_fal (h : H p = some (.tup [.str "falsum"])) : Im K H (.ref p) Fm.fal.d := .tup (SqT.of h) (.cons (.str _) .nil)
theorem im_var {n : Str} (h : H p = some (.tup [.str "var", .str n])) : Im K H (.ref p) (Fm.var n).d := .tup (SqT.of h) (.cons (.str _) (.cons (.str _) .nil)) fun _ _ => h
theorem im_box (h : H p = some (.tup [.str "box", v])) (a : Im K H v f.d) : Im K H (.ref p) (Fm.box f).d := .tup (SqT.of h) (.cons (.str _) (.cons a .nil))
theorem im_and (h : H p = some (.tup [.str "and", v, u])) (a : Im K H v f.d) (b : Im K H u g.d) : Im K H (.ref p) (Fm.and f g).d := .tup (SqT.of h) (.cons (.str _) (.cons a (.cons b .nil)))
theorem im_or (h : H p = some (.tup [.str "or", v, u])) (a : Im K H v f.d) (b : Im K H u g.d) : Im K H (.ref p) (Fm.or f g).d := .tup (SqT.of h) (.cons (.str _) (.cons a (.cons b .nil)))
theorem im_imp (h : H p = some (.tup [.str "implies", v, u])) (a : Im K H v f.d) (b : Im K H u g.d) : Im K H (.ref p) (Fm.imp f g).d := .tup (SqT.of h) (.cons (.str _) (.cons a (.cons b .nil)))
end
/-! ### lists of ints as data -/
theorem dp_ints {K : PySem.W.Frag} {H : Hp} : ∀ ns : List Int, DpAll K H (ns.map V.int) (ns.map PyData.int)
  | [] => .nil
  | n :: ns => .cons (.int n) (dp_ints ns)
theorem lay_ints : ∀ ns : List Int, PyData.canLayAll0 (ns.map PyData.int) = true
  | [] => rfl
  | n :: ns => by
    rw [List.map_cons, PyData.canLayAll0, lay_ints ns]
    rfl
theorem dep_ints : ∀ ns : List Int, PyData.depthAll (ns.map PyData.int) = 0
  | [] => rfl
  | n :: ns => by
    rw [List.map_cons, PyData.depthAll, dep_ints ns]
    rfl
theorem shaped_ints (ns : List Int) : SeqAt.shaped (.list (ns.map PyData.int)) = true := by
  unfold SeqAt.shaped
  rw [PyData.canLay0, lay_ints, PyData.depth, dep_ints]
  rfl
theorem eqv_nil (ds : List PyData) : PyData.eqv (.list ds) (.list []) = ds.isEmpty := by
  cases ds with
  | nil => rfl
  | cons d ds => rfl
theorem atI_mem {α : Type} {xs : List α} {i : Int} (h0 : 0 ≤ i) (h1 : i < xs.length) : ∃ v, atI xs i = some v ∧ v ∈ xs := by
  have hn : i.toNat < xs.length := by omega
  refine ⟨xs[i.toNat], ?_, List.getElem_mem hn⟩
  have e := atI_nat (xs := xs) (j := i.toNat) (List.getElem?_eq_getElem hn)
  rw [show ((i.toNat : Nat) : Int) = i by omega] at e
  exact e
def nms : List Str := ["p", "q", "r"]
section
variable {t u : TT} {σ : L2.St} {H : Hp} {b1 b2 : Bool}
theorem ans_or2 (h1 : Ans t σ H b1) (h2 : Ans u σ H b2) : Ans (tOr t u) σ H (b1 || b2) := by
  cases b1 with
  | true => exact ans_or1 h1
  | false => exact ans_or h1 h2
end
theorem vint {i j : Int} (h : decide (V.int i = V.int j) = true) : i = j := V.int.inj (of_decide_eq_true h)
theorem vintF {i j : Int} (h : ¬ decide (V.int i = V.int j) = true) : i ≠ j := fun e => h (decide_eq_true (congrArg V.int e))
theorem in34 {k : Int} : inV (.int k) [.int 3, .int 4] = decide (k = 3 ∨ k = 4) := by
  unfold inV
  simp only [List.any_cons, List.any_nil, Bool.or_false]
  show ((3 == k) || (4 == k)) = _
  rw [Bool.eq_iff_iff]
  simp only [Bool.or_eq_true, beq_iff_eq, decide_eq_true_eq]
  omega
theorem iteD {c A B : Prop} [Decidable c] (h : c) (a : A) : if decide c = true then A else B := by
  rw [if_pos (decide_eq_true h)]
  exact a
theorem iteDF {c A B : Prop} [Decidable c] (h : ¬ c) (b : B) : if decide c = true then A else B := by
  rw [if_neg (by rw [decide_eq_true_eq]; exact h)]
  exact b
theorem in34y {k : Int} (h : k = 3 ∨ k = 4) : V.bl (if false = true then !inV (.int k) [.int 3, .int 4] else inV (.int k) [.int 3, .int 4]) = V.bl true := by
  rw [if_neg Bool.false_ne_true, in34, decide_eq_true h]
theorem in34n {k : Int} (h : ¬ (k = 3 ∨ k = 4)) : V.bl (if false = true then !inV (.int k) [.int 3, .int 4] else inV (.int k) [.int 3, .int 4]) = V.bl false := by
  rw [if_neg Bool.false_ne_true, in34, decide_eq_false h]
theorem vne {i j : Int} (h : i ≠ j) : ¬ V.int i = V.int j := fun e => h (V.int.inj e)
/-! ### joined formulas -/
def grp (op : Fm → Fm → Fm) (z : Fm) : List Fm → Fm
  | [] => z
  | [a] => a
  | a :: b :: r => op a (grp op z (b :: r))
theorem grp_step {op : Fm → Fm → Fm} {z f : Fm} {fs : List Fm} {j : Nat} (h : fs[j]? = some f) (h2 : j + 1 < fs.length) : grp op z (fs.drop j) = op f (grp op z (fs.drop (j + 1))) := by
  obtain ⟨hj, e⟩ := List.getElem?_eq_some_iff.mp h
  rw [List.drop_eq_getElem_cons hj, e, List.drop_eq_getElem_cons h2]
  rfl
theorem grp_last {op : Fm → Fm → Fm} {z f : Fm} {fs : List Fm} (h : fs[fs.length - 1]? = some f) : grp op z (fs.drop (fs.length - 1)) = f := by
  obtain ⟨hj, e⟩ := List.getElem?_eq_some_iff.mp h
  rw [List.drop_eq_getElem_cons hj, e, List.drop_eq_nil_of_le (by omega)]
  rfl
inductive SgOp : Str → (Fm → Fm → Fm) → Prop
  | and : SgOp "and" Fm.and
  | or : SgOp "or" Fm.or
theorem im_op {K : PySem.W.Frag} {H : Hp} {p : Addr} {v u : V} {f g : Fm} {sg : Str} {op : Fm → Fm → Fm} (o : SgOp sg op) (h : H p = some (.tup [.str sg, v, u])) (a : Im K H v f.d) (b : Im K H u g.d) : Im K H (.ref p) (op f g).d := by
  cases o with
  | and => exact im_and h a b
  | or => exact im_or h a b
theorem atI_m1 {α : Type} {xs : List α} {v : α} (h : xs[xs.length - 1]? = some v) : atI xs (-1) = some v := by
  have hl : 0 < xs.length := by
    have := (List.getElem?_eq_some_iff.mp h).1
    omega
  have e : ixN xs.length (-1) = some (xs.length - 1) := by
    unfold ixN
    rw [if_neg (by decide), if_pos (by omega)]
    congr 1
    omega
  unfold atI
  rw [e]
  exact h
theorem cut_m1 (xs : List V) : cutV xs none (some (-1)) = xs.take (xs.length - 1) := by
  unfold cutV
  have e : HT.sIx xs.length xs.length (some (-1)) = xs.length - 1 := by
    show (if (-1 : Int) < 0 then ((-1 : Int) + (xs.length : Int)).toNat else min (-1 : Int).toNat xs.length) = _
    rw [if_pos (by decide)]
    omega
  rw [e, HT.sIx_none, List.drop_zero, Nat.sub_zero]
/-- for x in reversed(list) -/
theorem for_rev {K : PySem.W.Frag} {a : Addr} {xs : List V} {g : TG} {tb : L2.TS} {D : Ends} {σ : L2.St} {H : Hp} (Pv : Nat → L2.St → Hp → Prop) (h0 : Pv 0 σ H) (hl : ∀ i σ H, i ≤ xs.length → Pv i σ H → SqL K H a xs)
    (hs : ∀ i x σ H, i < xs.length → xs[xs.length - 1 - i]? = some x → Pv i σ H → g x σ H fun σ2 H2 => tb { D with nx := Pv (i + 1), ct := Pv (i + 1), bk := D.nx } σ2 H2) (hd : ∀ σ H, Pv xs.length σ H → D.nx σ H) :
    ∃ W : Nat → Nat → L2.St → Hp → Prop, (∃ m, W 0 m σ H) ∧ ∀ i m σ H, W i m σ H →
      ((Itv K a xs.length).stop i H ∧ D.nx σ H) ∨ ((Itv K a xs.length).go i H ∧ ∃ N : L2.St → Hp → Prop, (∀ σ' H', N σ' H' → ∃ m', m' < m ∧ W (i + 1) m' σ' H') ∧ ∀ x H', (Itv K a xs.length).yld i H x H' → g x σ H' fun σ2 H2 => tb { D with nx := N, ct := N, bk := D.nx } σ2 H2) := by
  refine ⟨fun i m σ H => m = xs.length - i ∧ i ≤ xs.length ∧ Pv i σ H, ⟨xs.length, by simp, Nat.zero_le _, h0⟩, ?_⟩
  rintro i m σ H ⟨rfl, hi, p⟩
  have q := hl i σ H hi p
  by_cases hlt : i < xs.length
  · have g0 : xs[xs.length - 1 - i]? = some xs[xs.length - 1 - i] := List.getElem?_eq_getElem (by omega)
    refine .inr ⟨⟨hlt, xs, _, q, g0⟩, Pv (i + 1), fun σ' H' p' => ⟨xs.length - (i + 1), by omega, rfl, hlt, p'⟩, fun x H' y => ?_⟩
    obtain ⟨e, y⟩ := y
    subst e
    exact hs i x σ _ hlt (y xs q) p
  · have e : i = xs.length := by omega
    subst e
    exact .inl ⟨Nat.le_refl _, hd σ H p⟩
/-! ### what may be compared -/
theorem strOk_lit {x : Str} (h : PyData.strOk x = true) : PyData.canLay0 (.str x) = true := h
theorem Fm.lay {N : List Str} (hN : ∀ n ∈ N, PyData.strOk n = true) : ∀ f : Fm, f.over N = true → f.d.canLay0 = true
  | .var n, h => by
    have h1 := hN n (of_decide_eq_true h)
    simp only [Fm.d, PyData.canLay0, PyData.canLayAll0, h1, Bool.and_true]
    decide +kernel
  | .fal, _ => by decide +kernel
  | .and a b, h => by
    have h' : (a.over N && b.over N) = true := h
    rw [Bool.and_eq_true] at h'
    simp only [Fm.d, PyData.canLay0, PyData.canLayAll0, Fm.lay hN a h'.1, Fm.lay hN b h'.2, Bool.and_true]
    decide +kernel
  | .or a b, h => by
    have h' : (a.over N && b.over N) = true := h
    rw [Bool.and_eq_true] at h'
    simp only [Fm.d, PyData.canLay0, PyData.canLayAll0, Fm.lay hN a h'.1, Fm.lay hN b h'.2, Bool.and_true]
    decide +kernel
  | .imp a b, h => by
    have h' : (a.over N && b.over N) = true := h
    rw [Bool.and_eq_true] at h'
    simp only [Fm.d, PyData.canLay0, PyData.canLayAll0, Fm.lay hN a h'.1, Fm.lay hN b h'.2, Bool.and_true]
    decide +kernel
  | .box a, h => by
    simp only [Fm.d, PyData.canLay0, PyData.canLayAll0, Fm.lay hN a h, Bool.and_true]
    decide +kernel
theorem nms_ok : ∀ n ∈ nms, PyData.strOk n = true := by decide +kernel
/-- a list of formulas, none too high -/
theorem fms_shaped {N : List Str} (hN : ∀ n ∈ N, PyData.strOk n = true) : ∀ {fs : List Fm}, (∀ f ∈ fs, f.over N = true ∧ f.ht ≤ 63) → PyData.canLayAll0 (fs.map Fm.d) = true ∧ PyData.depthAll (fs.map Fm.d) ≤ 63
  | [], _ => ⟨rfl, Nat.zero_le _⟩
  | f :: fs, h => by
    have h1 := h f List.mem_cons_self
    have h2 := fms_shaped hN (fs := fs) fun g hg => h g (List.mem_cons_of_mem _ hg)
    rw [List.map_cons, PyData.canLayAll0, PyData.depthAll, Fm.lay hN f h1.1, h2.1, Fm.depth]
    exact ⟨rfl, Nat.max_le.mpr ⟨h1.2, h2.2⟩⟩
theorem list_shaped {ds : List PyData} (h : PyData.canLayAll0 ds = true ∧ PyData.depthAll ds ≤ 63) : SeqAt.shaped (.list ds) = true := by
  unfold SeqAt.shaped
  rw [PyData.canLay0, PyData.depth, h.1]
  exact decide_eq_true (by omega)
theorem eqv_self {d : PyData} (h : SeqAt.shaped d = true) : PyData.eqv d d = true := SeqAt.eqv_refl d (SeqAt.canLay_of_shaped h)
inductive TagZ : Str → (Fm → Fm → Fm) → Fm → Prop
  | and : TagZ "and" Fm.and (.imp .fal .fal)
  | or : TagZ "or" Fm.or .fal
theorem TagZ.op {sg : Str} {op : Fm → Fm → Fm} {z : Fm} (h : TagZ sg op z) : SgOp sg op := by
  cases h with
  | and => exact .and
  | or => exact .or
theorem SgOp.ht {sg : Str} {op : Fm → Fm → Fm} (h : SgOp sg op) (f g : Fm) : (op f g).ht = max f.ht g.ht + 1 := by
  cases h with
  | and => rfl
  | or => rfl
theorem grp_ht {sg : Str} {op : Fm → Fm → Fm} {z : Fm} {m : Nat} (o : SgOp sg op) (hz : z.ht ≤ m) : ∀ {fs : List Fm}, (∀ f ∈ fs, f.ht ≤ m) → (grp op z fs).ht ≤ m + fs.length
  | [], _ => hz
  | [a], h => Nat.le_trans (h a List.mem_cons_self) (Nat.le_add_right _ _)
  | a :: b :: r, h => by
    have h1 := h a List.mem_cons_self
    have h2 := grp_ht o hz (fs := b :: r) fun f hf => h f (List.mem_cons_of_mem _ hf)
    show (op a (grp op z (b :: r))).ht ≤ _
    rw [o.ht]
    simp only [List.length_cons] at h2 ⊢
    omega
theorem ImAll.fm {K : PySem.W.Frag} {H : Hp} {xs : List V} {fs : List Fm} (hI : ImAll K H xs (fs.map Fm.d)) {j : Nat} (hj : j < xs.length) : ∃ v f, xs[j]? = some v ∧ fs[j]? = some f ∧ Im K H v f.d := by
  have g := List.getElem?_eq_getElem hj
  obtain ⟨d, e, i⟩ := hI.get g
  rw [List.getElem?_map] at e
  cases e2 : fs[j]? with
  | none => rw [e2] at e; cases e
  | some f =>
    rw [e2] at e
    have : f.d = d := Option.some.inj e
    subst this
    exact ⟨_, f, g, rfl, i⟩
theorem fm_snoc {fs : List Fm} {f : Fm} : (fs ++ [f]).map Fm.d = fs.map Fm.d ++ [f.d] := by rw [List.map_append]; rfl
end E

set_option Elab.async false
set_option linter.all false
set_option maxRecDepth 100000
set_option maxHeartbeats 4000000
namespace E
open PySem PySem.Spec PyProof.Rows L2
/-! ### the order of formulas -/
abbrev Tk := List (Int ⊕ List Nat)
def Fm.toks : Fm → Tk
  | .and a b => .inl 0 :: (a.toks ++ b.toks)
  | .box a => .inl 1 :: a.toks
  | .fal => [.inl 2]
  | .imp a b => .inl 3 :: (a.toks ++ b.toks)
  | .or a b => .inl 4 :: (a.toks ++ b.toks)
  | .var n => [.inl 5, .inr n.cps.toList]
def Fm.lt (a b : Fm) : Bool := PyProof.Rows.lexLt itemOrd a.toks b.toks
theorem lex_ii {i j : Int} {l m : Tk} (h : i ≠ j) : PyProof.Rows.lexLt itemOrd (.inl i :: l) (.inl j :: m) = decide (i < j) := lex_diff (O := itemOrd) (fun e => h (Sum.inl.inj e))
theorem lex_same (x : Int ⊕ List Nat) (l m : Tk) : PyProof.Rows.lexLt itemOrd (x :: l) (x :: m) = PyProof.Rows.lexLt itemOrd l m := lex_self (O := itemOrd) x l m
theorem lex_ss {x y : List Nat} (h : x ≠ y) (l m : Tk) : PyProof.Rows.lexLt itemOrd (.inr x :: l) (.inr y :: m) = PyProof.Rows.lexLt itemOrd [.inr x] [.inr y] :=
  (lex_diff (O := itemOrd) (fun e => h (Sum.inr.inj e))).trans (lex_diff (O := itemOrd) (fun e => h (Sum.inr.inj e))).symm
theorem toks_app : ∀ (a b : Fm) (l m : Tk), PyProof.Rows.lexLt itemOrd (a.toks ++ l) (b.toks ++ m) = if a = b then PyProof.Rows.lexLt itemOrd l m else a.lt b := by
  intro a
  induction a with
  | and a1 a2 ih1 ih2 =>
    intro b l m
    cases b with
    | and b1 b2 =>
      show PyProof.Rows.lexLt itemOrd (.inl 0 :: ((a1.toks ++ a2.toks) ++ l)) (.inl 0 :: ((b1.toks ++ b2.toks) ++ m)) = _
      have e2 : Fm.lt (.and a1 a2) (.and b1 b2) = if a1 = b1 then a2.lt b2 else a1.lt b1 := (lex_same _ _ _).trans (ih1 b1 a2.toks b2.toks)
      rw [lex_same, List.append_assoc, List.append_assoc, ih1, ih2, e2]
      by_cases h1 : a1 = b1
      · by_cases h2 : a2 = b2
        · subst h1 h2; simp
        · subst h1; simp [h2]
      · simp [h1]
    | box b1 => exact (lex_ii (by decide)).trans (by rw [if_neg (by simp)]; exact (lex_ii (by decide)).symm)
    | fal => exact (lex_ii (by decide)).trans (by rw [if_neg (by simp)]; exact (lex_ii (by decide)).symm)
    | imp b1 b2 => exact (lex_ii (by decide)).trans (by rw [if_neg (by simp)]; exact (lex_ii (by decide)).symm)
    | or b1 b2 => exact (lex_ii (by decide)).trans (by rw [if_neg (by simp)]; exact (lex_ii (by decide)).symm)
    | var n => exact (lex_ii (by decide)).trans (by rw [if_neg (by simp)]; exact (lex_ii (by decide)).symm)
  | or a1 a2 ih1 ih2 =>
    intro b l m
    cases b with
    | or b1 b2 =>
      show PyProof.Rows.lexLt itemOrd (.inl 4 :: ((a1.toks ++ a2.toks) ++ l)) (.inl 4 :: ((b1.toks ++ b2.toks) ++ m)) = _
      have e2 : Fm.lt (.or a1 a2) (.or b1 b2) = if a1 = b1 then a2.lt b2 else a1.lt b1 := (lex_same _ _ _).trans (ih1 b1 a2.toks b2.toks)
      rw [lex_same, List.append_assoc, List.append_assoc, ih1, ih2, e2]
      by_cases h1 : a1 = b1
      · by_cases h2 : a2 = b2
        · subst h1 h2; simp
        · subst h1; simp [h2]
      · simp [h1]
    | box b1 => exact (lex_ii (by decide)).trans (by rw [if_neg (by simp)]; exact (lex_ii (by decide)).symm)
    | fal => exact (lex_ii (by decide)).trans (by rw [if_neg (by simp)]; exact (lex_ii (by decide)).symm)
    | imp b1 b2 => exact (lex_ii (by decide)).trans (by rw [if_neg (by simp)]; exact (lex_ii (by decide)).symm)
    | and b1 b2 => exact (lex_ii (by decide)).trans (by rw [if_neg (by simp)]; exact (lex_ii (by decide)).symm)
    | var n => exact (lex_ii (by decide)).trans (by rw [if_neg (by simp)]; exact (lex_ii (by decide)).symm)
  | imp a1 a2 ih1 ih2 =>
    intro b l m
    cases b with
    | imp b1 b2 =>
      show PyProof.Rows.lexLt itemOrd (.inl 3 :: ((a1.toks ++ a2.toks) ++ l)) (.inl 3 :: ((b1.toks ++ b2.toks) ++ m)) = _
      have e2 : Fm.lt (.imp a1 a2) (.imp b1 b2) = if a1 = b1 then a2.lt b2 else a1.lt b1 := (lex_same _ _ _).trans (ih1 b1 a2.toks b2.toks)
      rw [lex_same, List.append_assoc, List.append_assoc, ih1, ih2, e2]
      by_cases h1 : a1 = b1
      · by_cases h2 : a2 = b2
        · subst h1 h2; simp
        · subst h1; simp [h2]
      · simp [h1]
    | box b1 => exact (lex_ii (by decide)).trans (by rw [if_neg (by simp)]; exact (lex_ii (by decide)).symm)
    | fal => exact (lex_ii (by decide)).trans (by rw [if_neg (by simp)]; exact (lex_ii (by decide)).symm)
    | or b1 b2 => exact (lex_ii (by decide)).trans (by rw [if_neg (by simp)]; exact (lex_ii (by decide)).symm)
    | and b1 b2 => exact (lex_ii (by decide)).trans (by rw [if_neg (by simp)]; exact (lex_ii (by decide)).symm)
    | var n => exact (lex_ii (by decide)).trans (by rw [if_neg (by simp)]; exact (lex_ii (by decide)).symm)
  | box a1 ih1 =>
    intro b l m
    cases b with
    | box b1 =>
      show PyProof.Rows.lexLt itemOrd (.inl 1 :: (a1.toks ++ l)) (.inl 1 :: (b1.toks ++ m)) = _
      have e2 : Fm.lt (.box a1) (.box b1) = a1.lt b1 := lex_same _ _ _
      rw [lex_same, ih1, e2]
      by_cases h1 : a1 = b1
      · subst h1; simp
      · simp [h1]
    | and b1 b2 => exact (lex_ii (by decide)).trans (by rw [if_neg (by simp)]; exact (lex_ii (by decide)).symm)
    | fal => exact (lex_ii (by decide)).trans (by rw [if_neg (by simp)]; exact (lex_ii (by decide)).symm)
    | imp b1 b2 => exact (lex_ii (by decide)).trans (by rw [if_neg (by simp)]; exact (lex_ii (by decide)).symm)
    | or b1 b2 => exact (lex_ii (by decide)).trans (by rw [if_neg (by simp)]; exact (lex_ii (by decide)).symm)
    | var n => exact (lex_ii (by decide)).trans (by rw [if_neg (by simp)]; exact (lex_ii (by decide)).symm)
  | fal =>
    intro b l m
    cases b with
    | fal => rw [if_pos rfl]; exact lex_same _ _ _
    | and b1 b2 => exact (lex_ii (by decide)).trans (by rw [if_neg (by simp)]; exact (lex_ii (by decide)).symm)
    | box b1 => exact (lex_ii (by decide)).trans (by rw [if_neg (by simp)]; exact (lex_ii (by decide)).symm)
    | imp b1 b2 => exact (lex_ii (by decide)).trans (by rw [if_neg (by simp)]; exact (lex_ii (by decide)).symm)
    | or b1 b2 => exact (lex_ii (by decide)).trans (by rw [if_neg (by simp)]; exact (lex_ii (by decide)).symm)
    | var n => exact (lex_ii (by decide)).trans (by rw [if_neg (by simp)]; exact (lex_ii (by decide)).symm)
  | var n =>
    intro b l m
    cases b with
    | var k =>
      show PyProof.Rows.lexLt itemOrd (.inl 5 :: .inr n.cps.toList :: l) (.inl 5 :: .inr k.cps.toList :: m) = _
      rw [lex_same]
      by_cases h1 : n = k
      · subst h1
        rw [lex_same, if_pos rfl]
      · have hn : n.cps.toList ≠ k.cps.toList := fun e => h1 (PySem.W.str_of_cps e)
        rw [lex_ss hn, if_neg (by simp [h1])]
        exact (lex_same _ _ _).symm
    | and b1 b2 => exact (lex_ii (by decide)).trans (by rw [if_neg (by simp)]; exact (lex_ii (by decide)).symm)
    | box b1 => exact (lex_ii (by decide)).trans (by rw [if_neg (by simp)]; exact (lex_ii (by decide)).symm)
    | fal => exact (lex_ii (by decide)).trans (by rw [if_neg (by simp)]; exact (lex_ii (by decide)).symm)
    | imp b1 b2 => exact (lex_ii (by decide)).trans (by rw [if_neg (by simp)]; exact (lex_ii (by decide)).symm)
    | or b1 b2 => exact (lex_ii (by decide)).trans (by rw [if_neg (by simp)]; exact (lex_ii (by decide)).symm)
theorem toks_inj {a b : Fm} (h : a.toks = b.toks) : a = b := by
  have e := toks_app a b [] [.inl 0]
  rw [List.append_nil] at e
  by_cases hab : a = b
  · exact hab
  · have e2 := toks_app a b [] []
    rw [List.append_nil, List.append_nil, if_neg hab] at e2
    rw [if_neg hab, ← e2, h, lex_irrefl] at e
    have : PyProof.Rows.lexLt itemOrd b.toks (b.toks ++ [.inl 0]) = true := by
      have e3 := PySem.W.lex_pre b.toks [] [.inl 0]
      rw [List.append_nil] at e3
      rw [e3]
      rfl
    rw [this] at e
    cases e
theorem Fm.lt_irrefl (a : Fm) : a.lt a = false := lex_irrefl _
theorem Fm.lt_trans {a b c : Fm} (h1 : a.lt b = true) (h2 : b.lt c = true) : a.lt c = true := lex_trans _ _ _ h1 h2
theorem Fm.lt_total {a b : Fm} (h1 : a.lt b = false) (h2 : b.lt a = false) : a = b := toks_inj (lex_total _ _ h1 h2)
theorem Fm.lt_asymm {a b : Fm} (h : a.lt b = true) : b.lt a = false := by
  cases e : b.lt a with
  | false => rfl
  | true =>
    have := Fm.lt_trans h e
    rw [Fm.lt_irrefl] at this
    cases this
end E

set_option Elab.async false
set_option linter.all false
set_option maxRecDepth 100000
set_option maxHeartbeats 4000000
namespace ELt
open PySem PySem.SeqAt
open PySem.AutoSeq1 (wpAny_loadPart')
open PySem.MeetsSeq PySem.MeetsSeq2 PySem.MeetsSeq3 PySem.SeqRoads2
/-- item by item: where two items differ for the first time, their own < gives k; where none do, the lengths -/
inductive TupLt (A : Around) (s : Shared) (fin k : Bool) : List (Value × Value) → Prop
  | nil : fin = k → TupLt A s fin k []
  | yes {p q : Value} {r : List (Value × Value)} : EqAt A s p q true → TupLt A s fin k r → TupLt A s fin k ((p, q) :: r)
  | no {p q : Value} {r : List (Value × Value)} : EqAt A s p q false → RcLt A s p q k → TupLt A s fin k ((p, q) :: r)
theorem tup_seq (l b : Addr) (xs ys : Array Value) (n m : Nat) (dd de : Option Addr) (sl sm : Array (Option Value)) (k : Bool) :
    Meets (Builtin.«tuple.__lt__» ⟨[.ref l, .ref b], []⟩)
      (fun A R s => s.heap.get? l = some ⟨.type "tuple", dd, .seq xs n, sl⟩ ∧ s.heap.get? b = some ⟨.type "tuple", de, .seq ys m, sm⟩ ∧
        TupLt A.in1 s (decide (xs.size < ys.size)) k (xs.toList.zip ys.toList) ∧ R (.ok (.ret (.bool k))) s) :=
  .of_wp fun prog w A R s h => by
    obtain ⟨hp, g, d, tk, os⟩ := s
    obtain ⟨hl, hb, ht, hR⟩ := h
    have sub := AutoSeq1.sub_tuple_tuple
    wp_walk using wpAny_loadPart' hl, wpAny_loadPart' hb, wpAny_forIn_list _ (fun rest c t => c.1 = none ∧ t = ⟨hp, g, d, tk, os⟩ ∧ TupLt A.in1 ⟨hp, g, d, tk, os⟩ (decide (xs.size < ys.size)) k rest) _
    case turn =>
      rintro ⟨y, x⟩ rest c t ⟨_, rfl, tl⟩
      cases tl with
      | yes e tl =>
        refine wpAny_bind (e prog w _ _ ?_)
        wp_walk
        exact ⟨rfl, rfl, tl⟩
      | no e lt =>
        refine wpAny_bind (e prog w _ _ ?_)
        simp only [Bool.not_false, if_true]
        refine wpAny_bind (wpAny_rule (wpAny_bind (lt prog w _ _ ?_)))
        wp_walk
        exact ⟨_, rfl, hR⟩
    case fin =>
      rintro ⟨c1, c2⟩ t ⟨hc, rfl, tl⟩
      simp only at hc
      subst hc
      cases tl with
      | nil e =>
        wp_walk
        exact ⟨_, rfl, by rw [← e] at hR; simpa [Builtin.Tuple.tupleCompareSizes] using hR⟩
    case h => exact ⟨rfl, rfl, ht⟩
theorem rc_tups {A : Around} {s : Shared} {l b : Addr} {xs ys : Array Value} {k : Bool} (hl : s.heap.IsTuple l xs) (hb : s.heap.IsTuple b ys) (hu : A.units < cLine) (ht : TupLt A.in1 s (decide (xs.size < ys.size)) k (xs.toList.zip ys.toList)) : RcLt A s (.ref l) (.ref b) k := fun prog w E Q h => by
  obtain ⟨⟨c1, dd, d1, sl⟩, ho, hc, n, hd⟩ := id hl
  obtain ⟨⟨c2, de, d2, sm⟩, ho2, hc2, m, hd2⟩ := id hb
  simp only at hc hd hc2 hd2
  subst hc hd hc2 hd2
  exact richCompare_meets_room (op := .Lt) ⟨_, ho, rfl⟩ ⟨_, ho2, rfl⟩ F.slot_tuple_lt F.entry_tuple_lt (F.args_tuple_lt_2 _ _) (tup_seq l b xs ys n m dd de sl sm k)
    ⟨ho, ho2, ht, show Value.bool k ≠ Value.notImplemented ∧ Q (.bool k) s from ⟨(fun x => nomatch x), h⟩⟩ hu
end ELt

set_option Elab.async false
set_option linter.all false
set_option maxRecDepth 100000
set_option maxHeartbeats 4000000
namespace E
open PySem PySem.Spec PyProof.Rows L2
/-! ### the signs -/
def Fm.rk : Fm → Fin 6
  | .and _ _ => 0
  | .box _ => 1
  | .fal => 2
  | .imp _ _ => 3
  | .or _ _ => 4
  | .var _ => 5
def sgT : Fin 6 → Str
  | 0 => "and"
  | 1 => "box"
  | 2 => "falsum"
  | 3 => "implies"
  | 4 => "or"
  | 5 => "var"
def Fm.sg (f : Fm) : Str := sgT f.rk
theorem sgT_ne : ∀ i j : Fin 6, i ≠ j → (sgT i == sgT j) = false := by decide +kernel
theorem sgT_lt : ∀ i j : Fin 6, decide ((sgT i).cps.toList < (sgT j).cps.toList) = decide ((i.val : Int) < (j.val : Int)) := by decide +kernel
def Fm.pts : Fm → List PyData
  | .and a b => [a.d, b.d]
  | .box a => [a.d]
  | .fal => []
  | .imp a b => [a.d, b.d]
  | .or a b => [a.d, b.d]
  | .var n => [.str n]
theorem Fm.d_eq (f : Fm) : f.d = .tuple (.str f.sg :: f.pts) := by cases f <;> rfl
theorem toks_head (f : Fm) : ∃ r, f.toks = .inl (f.rk.val : Int) :: r := by cases f <;> exact ⟨_, rfl⟩
theorem lt_rk {f g : Fm} (h : f.rk ≠ g.rk) : f.lt g = decide ((f.rk.val : Int) < (g.rk.val : Int)) := by
  obtain ⟨r, e⟩ := toks_head f
  obtain ⟨t, e2⟩ := toks_head g
  unfold Fm.lt
  rw [e, e2]
  exact lex_ii fun e => h (Fin.ext (Int.ofNat.inj e))
theorem lt_and (a b c d : Fm) : Fm.lt (.and a b) (.and c d) = if a = c then b.lt d else a.lt c := (lex_same _ _ _).trans (toks_app a c b.toks d.toks)
theorem lt_or (a b c d : Fm) : Fm.lt (.or a b) (.or c d) = if a = c then b.lt d else a.lt c := (lex_same _ _ _).trans (toks_app a c b.toks d.toks)
theorem lt_imp (a b c d : Fm) : Fm.lt (.imp a b) (.imp c d) = if a = c then b.lt d else a.lt c := (lex_same _ _ _).trans (toks_app a c b.toks d.toks)
theorem lt_box (a c : Fm) : Fm.lt (.box a) (.box c) = a.lt c := lex_same _ _ _
theorem lt_var (n m : Str) : Fm.lt (.var n) (.var m) = decide (n.cps.toList < m.cps.toList) := (lex_same _ _ _).trans (PySem.W.lex_one _ _)
theorem streq {x y : Str} : (x == y) = decide (x = y) := by
  rw [Bool.eq_iff_iff, decide_eq_true_iff]
  exact beq_iff_eq
theorem eqv_tup (x y : Str) (ds es : List PyData) : PyData.eqv (.tuple (.str x :: ds)) (.tuple (.str y :: es)) = ((x == y) && PyData.eqvAll ds es) := by
  rw [PyData.eqv, PyData.eqvAll, PyData.eqv]
theorem eqvAll2 (a b c d : PyData) : PyData.eqvAll [a, b] [c, d] = (PyData.eqv a c && PyData.eqv b d) := by
  rw [PyData.eqvAll, PyData.eqvAll, PyData.eqvAll, Bool.and_true]
theorem eqvAll1 (a c : PyData) : PyData.eqvAll [a] [c] = PyData.eqv a c := by
  rw [PyData.eqvAll, PyData.eqvAll, Bool.and_true]
/-- == of formulas as data -/
theorem Fm.eqv : ∀ f g : Fm, PyData.eqv f.d g.d = decide (f = g) := by
  intro f
  induction f with
  | and a b iha ihb =>
    intro g
    cases g with
    | and c d =>
      rw [Fm.d_eq, Fm.d_eq, eqv_tup, show ((Fm.and a b).sg == (Fm.and c d).sg) = true from beq_self_eq_true _, Bool.true_and]
      show PyData.eqvAll [a.d, b.d] [c.d, d.d] = _
      rw [eqvAll2, iha, ihb, ← Bool.decide_and]
      exact decide_eq_decide.mpr (by rw [Fm.and.injEq])
    | _ => rw [Fm.d_eq, Fm.d_eq, eqv_tup, show ∀ x y : Fm, x.rk ≠ y.rk → (x.sg == y.sg) = false from fun x y h => sgT_ne _ _ h, Bool.false_and, decide_eq_false (by simp)]; intro e; simp [Fm.rk] at e
  | or a b iha ihb =>
    intro g
    cases g with
    | or c d =>
      rw [Fm.d_eq, Fm.d_eq, eqv_tup, show ((Fm.or a b).sg == (Fm.or c d).sg) = true from beq_self_eq_true _, Bool.true_and]
      show PyData.eqvAll [a.d, b.d] [c.d, d.d] = _
      rw [eqvAll2, iha, ihb, ← Bool.decide_and]
      exact decide_eq_decide.mpr (by rw [Fm.or.injEq])
    | _ => rw [Fm.d_eq, Fm.d_eq, eqv_tup, show ∀ x y : Fm, x.rk ≠ y.rk → (x.sg == y.sg) = false from fun x y h => sgT_ne _ _ h, Bool.false_and, decide_eq_false (by simp)]; intro e; simp [Fm.rk] at e
  | imp a b iha ihb =>
    intro g
    cases g with
    | imp c d =>
      rw [Fm.d_eq, Fm.d_eq, eqv_tup, show ((Fm.imp a b).sg == (Fm.imp c d).sg) = true from beq_self_eq_true _, Bool.true_and]
      show PyData.eqvAll [a.d, b.d] [c.d, d.d] = _
      rw [eqvAll2, iha, ihb, ← Bool.decide_and]
      exact decide_eq_decide.mpr (by rw [Fm.imp.injEq])
    | _ => rw [Fm.d_eq, Fm.d_eq, eqv_tup, show ∀ x y : Fm, x.rk ≠ y.rk → (x.sg == y.sg) = false from fun x y h => sgT_ne _ _ h, Bool.false_and, decide_eq_false (by simp)]; intro e; simp [Fm.rk] at e
  | box a iha =>
    intro g
    cases g with
    | box c =>
      rw [Fm.d_eq, Fm.d_eq, eqv_tup, show ((Fm.box a).sg == (Fm.box c).sg) = true from beq_self_eq_true _, Bool.true_and]
      show PyData.eqvAll [a.d] [c.d] = _
      rw [eqvAll1, iha]
      exact decide_eq_decide.mpr (by rw [Fm.box.injEq])
    | _ => rw [Fm.d_eq, Fm.d_eq, eqv_tup, show ∀ x y : Fm, x.rk ≠ y.rk → (x.sg == y.sg) = false from fun x y h => sgT_ne _ _ h, Bool.false_and, decide_eq_false (by simp)]; intro e; simp [Fm.rk] at e
  | fal =>
    intro g
    cases g with
    | fal => rw [decide_eq_true rfl]; rfl
    | _ => rw [Fm.d_eq, Fm.d_eq, eqv_tup, show ∀ x y : Fm, x.rk ≠ y.rk → (x.sg == y.sg) = false from fun x y h => sgT_ne _ _ h, Bool.false_and, decide_eq_false (by simp)]; intro e; simp [Fm.rk] at e
  | var n =>
    intro g
    cases g with
    | var m =>
      rw [Fm.d_eq, Fm.d_eq, eqv_tup, show ((Fm.var n).sg == (Fm.var m).sg) = true from beq_self_eq_true _, Bool.true_and]
      show PyData.eqvAll [.str n] [.str m] = _
      rw [eqvAll1, PyData.eqv, streq]
      exact decide_eq_decide.mpr (by rw [Fm.var.injEq])
    | _ => rw [Fm.d_eq, Fm.d_eq, eqv_tup, show ∀ x y : Fm, x.rk ≠ y.rk → (x.sg == y.sg) = false from fun x y h => sgT_ne _ _ h, Bool.false_and, decide_eq_false (by simp)]; intro e; simp [Fm.rk] at e
end E

set_option Elab.async false
set_option linter.all false
set_option maxRecDepth 100000
set_option maxHeartbeats 4000000
namespace E
open PySem PySem.Spec PyProof.Rows L2 PySem.SeqAt ELt
/-! ### the model's own < of formulas -/
theorem rd_items {h : Heap} {v : Value} {f : Fm} {as : List Addr} (r : Reads h v f.d as) : ∃ (l : Addr) (o : Obj) (vs : Array Value) (n : Nat) (t : Tok) (ws : List Value) (bs : List Addr), v = .ref l ∧ h.get? l = some o ∧ o.cls = .type "tuple" ∧ o.data = .seq vs n ∧ vs.toList = .str f.sg t :: ws ∧ ReadsAll h ws f.pts bs := by
  rw [Fm.d_eq] at r
  generalize f.sg = sg at r
  cases r with
  | @tuple l o vs n _ _ h1 h2 h3 h4 =>
    generalize hv : vs.toList = vl at h4
    cases h4 with
    | @cons w ws _ _ as bs r1 r2 =>
      cases r1 with
      | str _ t => exact ⟨l, o, vs, n, t, ws, bs, rfl, h1, h2, h3, hv, r2⟩
theorem eq_fm {h : Heap} {A : Around} {s : Shared} (hs : s.heap = h) {f g : Fm} {v u : Value} {as bs : List Addr} (rv : Reads h v f.d as) (ru : Reads h u g.d bs) (lf : f.d.canLay0 = true) (lg : g.d.canLay0 = true) (hu : A.units + min f.ht g.ht < cLine) : EqAt A s v u (decide (f = g)) := by
  subst hs
  rw [← Fm.eqv]
  exact eqAt_reads f.d g.d A s v u as bs rv ru lf lg (by rw [Fm.depth, Fm.depth]; exact hu)
theorem size_of {vs : Array Value} {l : List Value} (h : vs.toList = l) : vs.size = l.length := by rw [← h, Array.length_toList]
/-- the items behind the signs, in order -/
theorem seq_pts : ∀ (f g : Fm), f.rk = g.rk → ∀ (A : Around) (s : Shared) (ws us : List Value) (as bs : List Addr), ReadsAll s.heap ws f.pts as → ReadsAll s.heap us g.pts bs → f.d.canLay0 = true → g.d.canLay0 = true → A.units + min f.ht g.ht < cLine + 1 →
    (∀ (f' g' : Fm) (v u : Value) (cs ds : List Addr), f'.ht < f.ht → Reads s.heap v f'.d cs → Reads s.heap u g'.d ds → f'.d.canLay0 = true → g'.d.canLay0 = true → A.units + min f'.ht g'.ht < cLine → RcLt A s v u (f'.lt g')) →
    TupLt A s false (f.lt g) (ws.zip us) := by
  intro f g hk A s ws us as bs rw_ ru lf lg hu ih
  have two : ∀ (a b c d : Fm) (k : Bool), k = (if a = c then b.lt d else a.lt c) → a.ht < f.ht → b.ht < f.ht → a.d.canLay0 = true → b.d.canLay0 = true → c.d.canLay0 = true → d.d.canLay0 = true → A.units + min a.ht c.ht < cLine → A.units + min b.ht d.ht < cLine →
      ReadsAll s.heap ws [a.d, b.d] as → ReadsAll s.heap us [c.d, d.d] bs → TupLt A s false k (ws.zip us) := by
    intro a b c d k ek ha hb la lb lc ld h1 h2 r1 r2
    cases r1 with
    | cons p1 q1 =>
      cases q1 with
      | cons p2 q2 =>
        cases q2
        cases r2 with
        | cons p3 q3 =>
          cases q3 with
          | cons p4 q4 =>
            cases q4
            by_cases e1 : a = c
            · rw [if_pos e1] at ek
              have t1 := eq_fm (A := A) (s := s) rfl p1 p3 la lc h1
              rw [decide_eq_true e1] at t1
              refine .yes t1 ?_
              have t2 := eq_fm (A := A) (s := s) rfl p2 p4 lb ld h2
              by_cases e2 : b = d
              · rw [decide_eq_true e2] at t2
                subst e2
                rw [Fm.lt_irrefl] at ek
                exact .yes t2 (.nil ek.symm)
              · rw [decide_eq_false e2] at t2
                rw [ek]
                exact .no t2 (ih b d _ _ _ _ hb p2 p4 lb ld h2)
            · rw [if_neg e1] at ek
              have t1 := eq_fm (A := A) (s := s) rfl p1 p3 la lc h1
              rw [decide_eq_false e1] at t1
              rw [ek]
              exact .no t1 (ih a c _ _ _ _ ha p1 p3 la lc h1)
  have lay2 : ∀ {sg : Str} {a b : Fm}, PyData.canLay0 (.tuple [.str sg, a.d, b.d]) = true → a.d.canLay0 = true ∧ b.d.canLay0 = true := by
    intro sg a b h
    simp only [PyData.canLay0, PyData.canLayAll0, Bool.and_eq_true] at h
    exact ⟨h.2.1, h.2.2.1⟩
  cases f with
  | and a b =>
    cases g with
    | and c d =>
      have hu' : A.units + min (max a.ht b.ht + 1) (max c.ht d.ht + 1) < cLine + 1 := hu
      exact two a b c d _ (lt_and a b c d) (by show _ < max a.ht b.ht + 1; omega) (by show _ < max a.ht b.ht + 1; omega) (lay2 lf).1 (lay2 lf).2 (lay2 lg).1 (lay2 lg).2 (by omega) (by omega) rw_ ru
    | _ => exact absurd hk (by simp [Fm.rk])
  | or a b =>
    cases g with
    | or c d =>
      have hu' : A.units + min (max a.ht b.ht + 1) (max c.ht d.ht + 1) < cLine + 1 := hu
      exact two a b c d _ (lt_or a b c d) (by show _ < max a.ht b.ht + 1; omega) (by show _ < max a.ht b.ht + 1; omega) (lay2 lf).1 (lay2 lf).2 (lay2 lg).1 (lay2 lg).2 (by omega) (by omega) rw_ ru
    | _ => exact absurd hk (by simp [Fm.rk])
  | imp a b =>
    cases g with
    | imp c d =>
      have hu' : A.units + min (max a.ht b.ht + 1) (max c.ht d.ht + 1) < cLine + 1 := hu
      exact two a b c d _ (lt_imp a b c d) (by show _ < max a.ht b.ht + 1; omega) (by show _ < max a.ht b.ht + 1; omega) (lay2 lf).1 (lay2 lf).2 (lay2 lg).1 (lay2 lg).2 (by omega) (by omega) rw_ ru
    | _ => exact absurd hk (by simp [Fm.rk])
  | box a =>
    cases g with
    | box c =>
      have hu' : A.units + min (a.ht + 1) (c.ht + 1) < cLine + 1 := hu
      have la : a.d.canLay0 = true := by
        have h : PyData.canLay0 (.tuple [.str "box", a.d]) = true := lf
        simp only [PyData.canLay0, PyData.canLayAll0, Bool.and_eq_true] at h
        exact h.2.1
      have lc : c.d.canLay0 = true := by
        have h : PyData.canLay0 (.tuple [.str "box", c.d]) = true := lg
        simp only [PyData.canLay0, PyData.canLayAll0, Bool.and_eq_true] at h
        exact h.2.1
      rw [lt_box]
      cases rw_ with
      | cons p1 q1 =>
        cases q1
        cases ru with
        | cons p3 q3 =>
          cases q3
          have t1 := eq_fm (A := A) (s := s) rfl p1 p3 la lc (by omega)
          by_cases e1 : a = c
          · rw [decide_eq_true e1] at t1
            subst e1
            exact .yes t1 (.nil (Fm.lt_irrefl a).symm)
          · rw [decide_eq_false e1] at t1
            exact .no t1 (ih a c _ _ _ _ (Nat.lt_succ_self _) p1 p3 la lc (by omega))
    | _ => exact absurd hk (by simp [Fm.rk])
  | fal =>
    cases g with
    | fal =>
      cases rw_
      cases ru
      exact .nil (Fm.lt_irrefl _).symm
    | _ => exact absurd hk (by simp [Fm.rk])
  | var n =>
    cases g with
    | var m =>
      rw [lt_var]
      cases rw_ with
      | cons p1 q1 =>
        cases q1
        cases ru with
        | cons p3 q3 =>
          cases q3
          cases p1 with
          | str _ t =>
            cases p3 with
            | str _ t2 =>
              have t1 := EqAt.str_str (A := A) (s := s) n t m t2
              by_cases e1 : n = m
              · subst e1
                rw [beq_self_eq_true] at t1
                exact .yes t1 (.nil (decide_eq_false (List.lt_irrefl _)).symm)
              · rw [streq, decide_eq_false e1] at t1
                exact .no t1 fun prog w E Q hq => P.lt_str hq
    | _ => exact absurd hk (by simp [Fm.rk])
theorem rc_fm : ∀ (n : Nat) (f g : Fm) (A : Around) (s : Shared) (v u : Value) (as bs : List Addr), f.ht ≤ n → Reads s.heap v f.d as → Reads s.heap u g.d bs → f.d.canLay0 = true → g.d.canLay0 = true → A.units + min f.ht g.ht < cLine → RcLt A s v u (f.lt g)
  | 0, f, _, _, _, _, _, _, _, h, _, _, _, _, _ => absurd (Fm.ht_pos f) (by omega)
  | n + 1, f, g, A, s, v, u, as, bs, hn, rv, ru, lf, lg, hu => by
    obtain ⟨l, o, vs, k, t, ws, cs, rfl, h1, h2, h3, h4, h5⟩ := rd_items rv
    obtain ⟨l', o', vs', k', t', ws', cs', rfl, k1, k2, k3, k4, k5⟩ := rd_items ru
    refine rc_tups ⟨o, h1, h2, k, h3⟩ ⟨o', k1, k2, k', k3⟩ (Nat.lt_of_le_of_lt (Nat.le_add_right _ _) hu) ?_
    rw [h4, k4, List.zip_cons_cons]
    have t1 := EqAt.str_str (A := A.in1) (s := s) f.sg t g.sg t'
    by_cases hk : f.rk = g.rk
    · rw [show f.sg = g.sg from congrArg sgT hk] at t1 ⊢
      rw [beq_self_eq_true] at t1
      refine .yes t1 ?_
      have hsz : decide (vs.size < vs'.size) = false := by
        rw [size_of h4, size_of k4, List.length_cons, List.length_cons, SeqAt.ReadsAll.length _ _ _ h5, SeqAt.ReadsAll.length _ _ _ k5]
        have : f.pts.length = g.pts.length := by
          cases f <;> cases g <;> first | rfl | exact absurd hk (by simp [Fm.rk])
        rw [this]
        exact decide_eq_false (Nat.lt_irrefl _)
      rw [hsz]
      exact seq_pts f g hk A.in1 s ws ws' cs cs' h5 k5 lf lg (by show A.units + 1 + _ < _; omega) fun f' g' v u cs ds hf r1 r2 l1 l2 hu' => rc_fm n f' g' A.in1 s v u cs ds (by omega) r1 r2 l1 l2 hu'
    · rw [show (f.sg == g.sg) = false from sgT_ne _ _ hk] at t1
      refine .no t1 fun prog w E Q hq => ?_
      rw [lt_rk hk, ← sgT_lt] at hq
      exact P.lt_str hq
end E

set_option Elab.async false
set_option linter.all false
set_option maxRecDepth 100000
set_option maxHeartbeats 4000000
namespace E
open PySem PySem.Spec PyProof.Rows L2 PySem.SeqAt ELt PySem.W PySem.Calls
/-! ### sorting formulas -/
theorem sgT_inj {i j : Fin 6} (h : sgT i = sgT j) : i = j := by
  by_cases e : i = j
  · exact e
  · have := sgT_ne i j e
    rw [h, beq_self_eq_true] at this
    cases this
theorem rd_head {h : Heap} {f g : Fm} {v : Value} {as bs : List Addr} (r1 : Reads h v f.d as) (r2 : Reads h v g.d bs) : f.rk = g.rk ∧ ∃ (ws : List Value) (cs ds : List Addr), ReadsAll h ws f.pts cs ∧ ReadsAll h ws g.pts ds := by
  obtain ⟨l, o, vs, k, t, ws, cs, rfl, h1, h2, h3, h4, h5⟩ := rd_items r1
  obtain ⟨l', o', vs', k', t', ws', cs', e, k1, k2, k3, k4, k5⟩ := rd_items r2
  cases e
  rw [h1] at k1
  cases k1
  rw [h3] at k3
  cases k3
  rw [h4] at k4
  obtain ⟨e1, e2⟩ := List.cons.inj k4
  have e3 : f.sg = g.sg := by injection e1
  subst e2
  exact ⟨sgT_inj e3, ws, cs, cs', h5, k5⟩
theorem rd_two {h : Heap} {ws : List Value} {a b c d : PyData} {as bs : List Addr} (r1 : ReadsAll h ws [a, b] as) (r2 : ReadsAll h ws [c, d] bs) : ∃ (v u : Value) (x y z w : List Addr), Reads h v a x ∧ Reads h v c y ∧ Reads h u b z ∧ Reads h u d w := by
  cases r1 with
  | cons p1 q1 =>
    cases q1 with
    | cons p2 q1 =>
      cases r2 with
      | cons p3 q2 =>
        cases q2 with
        | cons p4 q2 => exact ⟨_, _, _, _, _, _, p1, p3, p2, p4⟩
theorem rd_one {h : Heap} {ws : List Value} {a c : PyData} {as bs : List Addr} (r1 : ReadsAll h ws [a] as) (r2 : ReadsAll h ws [c] bs) : ∃ (v : Value) (x y : List Addr), Reads h v a x ∧ Reads h v c y := by
  cases r1 with
  | cons p1 q1 =>
    cases r2 with
    | cons p3 q2 => exact ⟨_, _, _, p1, p3⟩
theorem rd_uniq {h : Heap} : ∀ (f g : Fm) (v : Value) (as bs : List Addr), Reads h v f.d as → Reads h v g.d bs → f = g := by
  intro f
  induction f with
  | and a b iha ihb =>
    intro g v as bs r1 r2
    obtain ⟨hk, ws, cs, ds, q1, q2⟩ := rd_head r1 r2
    cases g with
    | and c d =>
      obtain ⟨_, _, _, _, _, _, p1, p2, p3, p4⟩ := rd_two q1 q2
      rw [iha c _ _ _ p1 p2, ihb d _ _ _ p3 p4]
    | _ => exact absurd hk (by simp [Fm.rk])
  | or a b iha ihb =>
    intro g v as bs r1 r2
    obtain ⟨hk, ws, cs, ds, q1, q2⟩ := rd_head r1 r2
    cases g with
    | or c d =>
      obtain ⟨_, _, _, _, _, _, p1, p2, p3, p4⟩ := rd_two q1 q2
      rw [iha c _ _ _ p1 p2, ihb d _ _ _ p3 p4]
    | _ => exact absurd hk (by simp [Fm.rk])
  | imp a b iha ihb =>
    intro g v as bs r1 r2
    obtain ⟨hk, ws, cs, ds, q1, q2⟩ := rd_head r1 r2
    cases g with
    | imp c d =>
      obtain ⟨_, _, _, _, _, _, p1, p2, p3, p4⟩ := rd_two q1 q2
      rw [iha c _ _ _ p1 p2, ihb d _ _ _ p3 p4]
    | _ => exact absurd hk (by simp [Fm.rk])
  | box a iha =>
    intro g v as bs r1 r2
    obtain ⟨hk, ws, cs, ds, q1, q2⟩ := rd_head r1 r2
    cases g with
    | box c =>
      obtain ⟨_, _, _, p1, p2⟩ := rd_one q1 q2
      rw [iha c _ _ _ p1 p2]
    | _ => exact absurd hk (by simp [Fm.rk])
  | fal =>
    intro g v as bs r1 r2
    obtain ⟨hk, ws, cs, ds, q1, q2⟩ := rd_head r1 r2
    cases g with
    | fal => rfl
    | _ => exact absurd hk (by simp [Fm.rk])
  | var n =>
    intro g v as bs r1 r2
    obtain ⟨hk, ws, cs, ds, q1, q2⟩ := rd_head r1 r2
    cases g with
    | var m =>
      obtain ⟨_, _, _, p1, p2⟩ := rd_one q1 q2
      cases p1
      cases p2
      rfl
    | _ => exact absurd hk (by simp [Fm.rk])
/-- formulas as keys, read off a heap -/
noncomputable def fmKind (h : Heap) (fs : List Fm) : PyProof.Rows.KeyKind where
  toKeyOrd := listOrd itemOrd
  keyOf v := open Classical in if q : ∃ f, f ∈ fs ∧ ∃ as, Reads h v f.d as then some q.choose.toks else none
  dflt := ([] : Tk)
theorem fmKind_some {h : Heap} {fs : List Fm} {v : Value} {f : Fm} {as : List Addr} (hf : f ∈ fs) (r : Reads h v f.d as) : (fmKind h fs).keyOf v = some f.toks := by
  have q : ∃ f, f ∈ fs ∧ ∃ as, Reads h v f.d as := ⟨f, hf, as, r⟩
  obtain ⟨_, as', h2⟩ := q.choose_spec
  have e : q.choose = f := rd_uniq _ _ _ _ _ h2 r
  show (open Classical in if q : ∃ f, f ∈ fs ∧ ∃ as, Reads h v f.d as then some q.choose.toks else none) = _
  rw [dif_pos q, e]
theorem fmKind_inv {h : Heap} {fs : List Fm} {v : Value} {k : Tk} (e : (fmKind h fs).keyOf v = some k) : ∃ f as, f ∈ fs ∧ Reads h v f.d as ∧ k = f.toks := by
  have e' : (open Classical in if q : ∃ f, f ∈ fs ∧ ∃ as, Reads h v f.d as then some q.choose.toks else none) = some k := e
  by_cases q : ∃ f, f ∈ fs ∧ ∃ as, Reads h v f.d as
  · obtain ⟨h1, as', h2⟩ := q.choose_spec
    rw [dif_pos q] at e'
    exact ⟨_, as', h1, h2, (Option.some.inj e').symm⟩
  · rw [dif_neg q] at e'
    cases e'
section
variable {prog : Program} {w : World} {A : Around} {E : Value → Shared → Prop} {s : Shared}
theorem lex_tail {fin k : Bool} {Q : Bool → Shared → Prop} (hq : Q k s) : ∀ (l : List (Value × Value)) (i : Nat), TupLt A s fin k l → KatLex prog w A true fin Q l (i + 1) s
  | _, _, .nil e => kat_nil (by rw [e]; exact hq)
  | _, i, .yes (r := r) e t => kat_cons (e prog w _ _ (kat_yes (lex_tail hq r (i + 1) t)))
  | _, i, .no e lt => kat_cons (e prog w _ _ (kat_no (by
      show wpAny (model prog w) A (oneLt' (true && (i + 1 == 0)) _ _) Q _ s
      rw [show (true && (i + 1 == 0)) = false from rfl]
      exact kat_one _ _ (lt prog w _ _ hq))))
theorem sorts_fm {vs : List Value} {fs : List Fm} (e : EachIs (fun v f => ∃ as, Reads s.heap v f.d as) vs fs) (hl : ∀ f, f ∈ fs → f.d.canLay0 = true ∧ A.units + f.ht < cLine) : SortsAt prog w A s (fmKind s.heap fs) vs := by
  refine ⟨fun v hv => ?_, tuples' (Value.type "str" != Value.type "tuple"), ?_, fun h2 E Q hq => ?_⟩
  · obtain ⟨f, hf, as, r⟩ := e.left v hv
    exact ⟨_, fmKind_some hf r⟩
  · intro E x y a b Q ha hb hq
    obtain ⟨f, as, hf, rf, rfl⟩ := fmKind_inv ha
    obtain ⟨g, bs, hg, rg, rfl⟩ := fmKind_inv hb
    have hq' : Q (f.lt g) s := hq
    obtain ⟨l, o, vs, k, t, ws, cs, rfl, h1, h2, h3, h4, h5⟩ := rd_items rf
    obtain ⟨l', o', vs', k', t', ws', cs', rfl, k1, k2, k3, k4, k5⟩ := rd_items rg
    have room : A.units + min f.ht g.ht < cLine := by
      have := (hl f hf).2
      omega
    refine kat_lt h1 h3 k1 k3 ?_
    rw [h4, k4, List.zip_cons_cons, show (Value.type "str" != Value.type "tuple") = true by decide]
    have t1 := EqAt.str_str (A := A) (s := s) f.sg t g.sg t'
    by_cases hk : f.rk = g.rk
    · rw [show f.sg = g.sg from congrArg sgT hk] at t1 ⊢
      rw [beq_self_eq_true] at t1
      have hsz : decide (vs.size < vs'.size) = false := by
        rw [size_of h4, size_of k4, List.length_cons, List.length_cons, SeqAt.ReadsAll.length _ _ _ h5, SeqAt.ReadsAll.length _ _ _ k5]
        have : f.pts.length = g.pts.length := by
          cases f <;> cases g <;> first | rfl | exact absurd hk (by simp [Fm.rk])
        rw [this]
        exact decide_eq_false (Nat.lt_irrefl _)
      rw [hsz]
      refine kat_cons (t1 prog w _ _ (kat_yes (lex_tail hq' _ 0 ?_)))
      exact seq_pts f g hk A s ws ws' cs cs' h5 k5 (hl f hf).1 (hl g hg).1 (by omega) fun f' g' v u cs ds hf' r1 r2 l1 l2 hu' => rc_fm f'.ht f' g' A s v u cs ds (Nat.le_refl _) r1 r2 l1 l2 hu'
    · rw [show (f.sg == g.sg) = false from sgT_ne _ _ hk] at t1
      refine kat_cons (t1 prog w _ _ (kat_no ?_))
      rw [lt_rk hk, ← sgT_lt] at hq'
      exact oneLt_str hq'
  · have firsts : ∀ {vs : List Value} {fs : List Fm}, EachIs (fun v f => ∃ as, Reads s.heap v f.d as) vs fs → ∃ us, KatTups s.heap vs us ∧ us.length = vs.length ∧ ∀ u ∈ us, ∃ x t, u = Value.str x t := by
      intro vs fs e
      induction e with
      | nil => exact ⟨[], KatTups.nil, rfl, fun u hu => nomatch hu⟩
      | cons h _ ih =>
        obtain ⟨as, r⟩ := h
        obtain ⟨us, a1, a2, a3⟩ := ih
        obtain ⟨l, o, vs, k, t, ws, cs, rfl, h1, h2, h3, h4, h5⟩ := rd_items r
        refine ⟨.str _ t :: us, KatTups.cons h1 h2 h3 (by rw [← Array.getElem?_toList, h4]; rfl) a1, by rw [List.length_cons, List.length_cons, a2], fun u hu => ?_⟩
        rcases List.mem_cons.mp hu with rfl | hu
        · exact ⟨_, _, rfl⟩
        · exact a3 u hu
    obtain ⟨us, a1, a2, a3⟩ := firsts e
    refine kat_kind (T := .type "str") a1 (by omega) (fun u hu => ?_) (beq_self_eq_true _) hq
    obtain ⟨x, t, rfl⟩ := a3 u hu
    exact Looks.of_pure rfl
end
def Fm.le (f g : Fm) : Bool := !g.lt f
/-- sorted(xs), xs a list of formulas -/
def rSortedF (K : PySem.W.Frag) : List V → Hp → VK → Prop := fun vs H Q => ∃ (a : Addr) (xs : List V) (fs : List Fm), vs = [V.ref a] ∧ SqL K H a xs ∧ ImAll K H xs (fs.map Fm.d) ∧ (∀ f ∈ fs, f.d.canLay0 = true ∧ f.ht ≤ 100) ∧
  ∀ (p : Addr) (ys : List V), H p = none → ImAll K H ys ((fs.mergeSort Fm.le).map Fm.d) → Q (.ref p) (upd H p (.lst ys))
theorem each_of {X : Cx} {pins : List (Addr × Obj)} {σ : L2.St} {H : Hp} {s : Shared} (I : Inv X pins σ H s) : ∀ {xs : List V} {us : List Value} {fs : List Fm}, Vals xs us → ImAll X.K H xs (fs.map Fm.d) →
    EachIs (fun v f => ∃ x : V, RelV x v ∧ Im X.K H x (Fm.d f)) us fs ∧ EachIs (fun v f => ∃ as, Reads s.heap v (Fm.d f) as) us fs
  | _, _, [], .nil, _ => ⟨.nil, .nil⟩
  | _, _, f :: fs, .cons r t, i => by
    have i' : ImAll X.K H _ (f.d :: fs.map Fm.d) := i
    cases i' with
    | cons i1 i2 =>
      obtain ⟨a1, a2⟩ := each_of I t i2
      exact ⟨.cons ⟨_, r, i1⟩ a1, .cons (Dp.reads I _ _ _ i1.dp r) a2⟩
theorem each_back {K : PySem.W.Frag} {H : Hp} : ∀ {us : List Value} {fs : List Fm}, EachIs (fun v f => ∃ x : V, RelV x v ∧ Im K H x (Fm.d f)) us fs → ∃ ys : List V, Vals ys us ∧ ImAll K H ys (fs.map Fm.d)
  | _, _, .nil => ⟨[], .nil, .nil⟩
  | _, _, .cons ⟨x, r, i⟩ t => by
    obtain ⟨ys, h1, h2⟩ := each_back t
    exact ⟨x :: ys, .cons r h1, .cons i h2⟩
section
variable {X : Cx}
theorem cr_sortedF (hu64 : X.A.units + 200 < cLine) : CallR X (.builtin "sorted") (rSortedF X.K) := by
  intro pins s σ H vs us Q I r h
  obtain ⟨a, xs, fs, rfl, hs, hi, hb, q⟩ := h
  obtain ⟨its, rv, hl, hz⟩ := I.list hs
  obtain ⟨u, rfl, ru⟩ := vals1 r
  obtain rfl : u = Value.ref a := ru
  obtain ⟨e1, e2⟩ := each_of I rv hi
  have e3 : EachIs (fun v f => ∃ as, Reads (sortingHeap (copyHeap s.heap its) (s.heap.objs.size + 1) its) v (Fm.d f) as) its fs := e2.mono fun v f ⟨as, r⟩ => ⟨as, PyProof.Rows.Reads.keeps (fun _ _ => sorting_copy_old) r⟩
  refine sorted_vals (κ := fmKind (sortingHeap (copyHeap s.heap its) (s.heap.objs.size + 1) its) fs) hl.isList (sorts_fm (s := { s with heap := sortingHeap (copyHeap s.heap its) (s.heap.objs.size + 1) its }) e3 fun f hf => ⟨(hb f hf).1, ?_⟩) (by rw [← rv.length]; exact hz) ?_
  · have := (hb f hf).2
    show X.A.units + 1 + 1 + f.ht < cLine
    omega
  · have ek : EachIs (fun v f => (fmKind (sortingHeap (copyHeap s.heap its) (s.heap.objs.size + 1) its) fs).keyOf v = some (Fm.toks f)) its fs := (each_mem e3).mono fun v f ⟨⟨as, r⟩, hf⟩ => fmKind_some hf r
    have es := sortVals_each (κ := fmKind (sortingHeap (copyHeap s.heap its) (s.heap.objs.size + 1) its) fs) (rev := false) Fm.toks e1 ek
    obtain ⟨ys, y1, y2⟩ := each_back es
    obtain ⟨n, hn⟩ := sortedAll_at s.heap its (sortVals (fmKind (sortingHeap (copyHeap s.heap its) (s.heap.objs.size + 1) its) fs) false its its).toArray
    have hf : s.heap.objs.size ≤ s.heap.objs.size + 1 := Nat.le_succ _
    refine ⟨.ref (s.heap.objs.size + 1), upd H _ (.lst ys), I.laid (t' := s.toks) (fun _ _ => sortedAll_old) hf ⟨?_, _, n, y1, hn⟩, rfl, q _ ys (I.hok.fresh hf) y2⟩
    have hl2 := y1.length
    rw [sortVals_length false rfl] at hl2
    have := rv.length
    omega
end
end E
namespace E
open PySem PySem.Spec PyProof.Rows L2 PySem.SeqAt ELt PySem.W PySem.Calls
def rLtF (K : PySem.W.Frag) : R2 := fun x y H Q => ∃ f g : Fm, Im K H x f.d ∧ Im K H y g.d ∧ f.d.canLay0 = true ∧ g.d.canLay0 = true ∧ f.ht ≤ 100 ∧ Q (.bl (f.lt g)) H
theorem op_ltF {X : Cx} (hu : X.A.units + 200 < cLine) : OpR X (compareOp .Lt) (rLtF X.K) := by
  intro pins s σ H x y v u Q I rx ry h
  obtain ⟨f, g, hf, hg, lf, lg, hh, q⟩ := h
  obtain ⟨as, r1⟩ := Dp.reads I _ x v hf.dp rx
  obtain ⟨bs, r2⟩ := Dp.reads I _ y u hg.dp ry
  exact rc_fm f.ht f g X.A s v u as bs (Nat.le_refl _) r1 r2 lf lg (by omega) X.prog X.w _ _ ⟨.bl _, H, I, rfl, q⟩
end E

set_option Elab.async false
set_option linter.all false
set_option maxRecDepth 100000
set_option maxHeartbeats 4000000
namespace E
open PySem PySem.Spec PyProof.Rows L2
/-! ### ascending lists of formulas -/
def dd (l : List Fm) : List Fm := l.foldl (fun acc x => if acc.getLast? = some x then acc else acc ++ [x]) []
def dist (l : List Fm) : List Fm := dd (l.mergeSort Fm.le)
theorem dd_snoc (l : List Fm) (x : Fm) : dd (l ++ [x]) = if (dd l).getLast? = some x then dd l else dd l ++ [x] := by
  unfold dd
  rw [List.foldl_append]
  rfl
def Asc (l : List Fm) : Prop := l.Pairwise fun a b => a.lt b = true
theorem le_total (a b : Fm) : a.le b = true ∨ b.le a = true := by
  unfold Fm.le
  cases e : b.lt a with
  | false => exact .inl rfl
  | true => exact .inr (by rw [Fm.lt_asymm e]; rfl)
theorem lt_of_le_ne {a b : Fm} (h : a.le b = true) (n : a ≠ b) : a.lt b = true := by
  unfold Fm.le at h
  rw [Bool.not_eq_true'] at h
  cases e : a.lt b with
  | true => rfl
  | false => exact absurd (Fm.lt_total e h) n
theorem le_of_lt {a b : Fm} (h : a.lt b = true) : a.le b = true := by
  unfold Fm.le
  rw [Fm.lt_asymm h]
  rfl
theorem le_trans' {a b c : Fm} (h1 : a.le b = true) (h2 : b.le c = true) : a.le c = true := by
  by_cases e : a = b
  · rw [e]; exact h2
  · by_cases e2 : b = c
    · rw [← e2]; exact h1
    · exact le_of_lt (Fm.lt_trans (lt_of_le_ne h1 e) (lt_of_le_ne h2 e2))
theorem ms_sorted (l : List Fm) : (l.mergeSort Fm.le).Pairwise fun a b => a.le b = true :=
  List.pairwise_mergeSort (le := Fm.le) (fun a b c h1 h2 => le_trans' (a := a) (b := b) (c := c) h1 h2) (fun a b => Bool.or_eq_true_iff.mpr (le_total a b)) l
theorem getLast?_of_pairwise {l : List Fm} {x y : Fm} (h : l.getLast? = some y) (p : Asc l) (hx : x ∈ l) : x = y ∨ x.lt y = true := by
  obtain ⟨l', rfl⟩ := List.getLast?_eq_some_iff.mp h
  rcases List.mem_append.mp hx with q | q
  · exact .inr ((List.pairwise_append.mp p).2.2 x q y (List.mem_singleton.mpr rfl))
  · exact .inl (List.mem_singleton.mp q)
theorem snoc_ind {α : Type} {P : List α → Prop} (h0 : P []) (hs : ∀ l x, P l → P (l ++ [x])) (l : List α) : P l := by
  have : ∀ r : List α, P r.reverse := by
    intro r
    induction r with
    | nil => exact h0
    | cons x r ih =>
      rw [List.reverse_cons]
      exact hs _ _ ih
  have e := this l.reverse
  rw [List.reverse_reverse] at e
  exact e
/-- the walk over a sorted list: strictly ascending, the same members, a part of it -/
theorem dd_spec (l : List Fm) : (l.Pairwise fun a b => a.le b = true) → Asc (dd l) ∧ (∀ x, x ∈ dd l ↔ x ∈ l) ∧ (dd l).Sublist l ∧ (dd l).getLast? = l.getLast? := by
  induction l using snoc_ind with
  | h0 => exact fun _ => ⟨.nil, fun x => Iff.rfl, List.Sublist.refl _, rfl⟩
  | hs l x ih =>
    intro p
    obtain ⟨p1, _, p2⟩ := List.pairwise_append.mp p
    obtain ⟨a1, a2, a3, a4⟩ := ih p1
    rw [dd_snoc]
    by_cases e : (dd l).getLast? = some x
    · rw [if_pos e]
      refine ⟨a1, fun y => ?_, a3.trans (List.sublist_append_left _ _), by rw [e, List.getLast?_append]; rfl⟩
      rw [a2, List.mem_append, List.mem_singleton]
      constructor
      · exact .inl
      · rintro (q | rfl)
        · exact q
        · exact (a2 y).mp (List.mem_of_getLast? e)
    · rw [if_neg e]
      refine ⟨List.pairwise_append.mpr ⟨a1, List.pairwise_singleton _ _, fun y hy z hz => ?_⟩, fun y => ?_, List.Sublist.append a3 (List.Sublist.refl _), by rw [List.getLast?_append, List.getLast?_append]; rfl⟩
      · rw [List.mem_singleton] at hz
        subst hz
        refine lt_of_le_ne (p2 y ((a2 y).mp hy) z (List.mem_singleton.mpr rfl)) fun q => ?_
        subst q
        cases g : (dd l).getLast? with
        | none =>
          rw [List.getLast?_eq_none_iff] at g
          rw [g] at hy
          cases hy
        | some m =>
          have hm : m ∈ dd l := List.mem_of_getLast? g
          rcases getLast?_of_pairwise g a1 hy with q | q
          · rw [q] at e; exact e g
          · have := p2 m ((a2 m).mp hm) y (List.mem_singleton.mpr rfl)
            unfold Fm.le at this
            rw [q] at this
            cases this
      · rw [List.mem_append, List.mem_append, a2]
theorem dist_asc (l : List Fm) : Asc (dist l) := (dd_spec _ (ms_sorted l)).1
theorem dist_mem {l : List Fm} {x : Fm} : x ∈ dist l ↔ x ∈ l := ((dd_spec _ (ms_sorted l)).2.1 x).trans ((List.mergeSort_perm l Fm.le).mem_iff)
theorem asc_one : ∀ {l m : List Fm}, Asc l → Asc m → (∀ x, x ∈ l ↔ x ∈ m) → l = m
  | [], [], _, _, _ => rfl
  | [], y :: m, _, _, h => absurd ((h y).mpr List.mem_cons_self) (by simp)
  | x :: l, [], _, _, h => absurd ((h x).mp List.mem_cons_self) (by simp)
  | x :: l, y :: m, hl, hm, h => by
    have hl' := List.pairwise_cons.mp hl
    have hm' := List.pairwise_cons.mp hm
    have e : x = y := by
      rcases List.mem_cons.mp ((h x).mp List.mem_cons_self) with q | q
      · exact q
      · rcases List.mem_cons.mp ((h y).mpr List.mem_cons_self) with r | r
        · exact r.symm
        · have h1 := hm'.1 x q
          have h2 := hl'.1 y r
          rw [Fm.lt_asymm h1] at h2
          cases h2
    subst e
    have : l = m := asc_one hl'.2 hm'.2 fun z => by
      constructor
      · intro q
        rcases List.mem_cons.mp ((h z).mp (List.mem_cons_of_mem _ q)) with r | r
        · subst r
          have := hl'.1 z q
          rw [Fm.lt_irrefl] at this
          cases this
        · exact r
      · intro q
        rcases List.mem_cons.mp ((h z).mpr (List.mem_cons_of_mem _ q)) with r | r
        · subst r
          have := hm'.1 z q
          rw [Fm.lt_irrefl] at this
          cases this
        · exact r
    rw [this]
theorem dist_ext {l m : List Fm} (h : ∀ x, x ∈ l ↔ x ∈ m) : dist l = dist m := asc_one (dist_asc l) (dist_asc m) fun x => by rw [dist_mem, dist_mem, h]
theorem dist_self {l : List Fm} (h : Asc l) : dist l = l := asc_one (dist_asc l) h fun x => dist_mem
theorem dist_len (l : List Fm) : (dist l).length ≤ l.length := by
  have := (dd_spec _ (ms_sorted l)).2.2.1.length_le
  rw [List.length_mergeSort] at this
  exact this
theorem sub_sum (k : Fm → Nat) : ∀ {l m : List Fm}, l.Sublist m → (l.map k).sum ≤ (m.map k).sum
  | _, _, .slnil => Nat.le_refl _
  | _, _, .cons x h => by
    rw [List.map_cons, List.sum_cons]
    exact Nat.le_trans (sub_sum k h) (Nat.le_add_left _ _)
  | _, _, .cons₂ x h => by
    rw [List.map_cons, List.sum_cons, List.map_cons, List.sum_cons]
    exact Nat.add_le_add_left (sub_sum k h) _
theorem dist_sum (k : Fm → Nat) (l : List Fm) : ((dist l).map k).sum ≤ (l.map k).sum := by
  refine Nat.le_trans (sub_sum k (dd_spec _ (ms_sorted l)).2.2.1) ?_
  rw [((List.mergeSort_perm l Fm.le).map k).sum_nat]
  exact Nat.le_refl _
/-! ### parts, levels -/
def Fm.kids : Fm → List Fm
  | .and a b => [a, b]
  | .or a b => [a, b]
  | .imp a b => [a, b]
  | .box a => [a]
  | .fal => []
  | .var _ => []
def Fm.sz : Fm → Nat
  | .and a b => a.sz + b.sz + 1
  | .or a b => a.sz + b.sz + 1
  | .imp a b => a.sz + b.sz + 1
  | .box a => a.sz + 1
  | .fal => 1
  | .var _ => 1
theorem Fm.sz_pos (f : Fm) : 1 ≤ f.sz := by cases f <;> exact Nat.le_add_left _ _
theorem kids_sz (f : Fm) : (f.kids.map Fm.sz).sum + 1 = f.sz := by cases f <;> simp [Fm.kids, Fm.sz]
theorem kids_ht {f g : Fm} (h : g ∈ f.kids) : g.ht < f.ht := by
  cases f with
  | and a b =>
    have q : g = a ∨ g = b := by simpa [Fm.kids] using h
    show _ < max a.ht b.ht + 1
    rcases q with rfl | rfl <;> omega
  | or a b =>
    have q : g = a ∨ g = b := by simpa [Fm.kids] using h
    show _ < max a.ht b.ht + 1
    rcases q with rfl | rfl <;> omega
  | imp a b =>
    have q : g = a ∨ g = b := by simpa [Fm.kids] using h
    show _ < max a.ht b.ht + 1
    rcases q with rfl | rfl <;> omega
  | box a =>
    have q : g = a := by simpa [Fm.kids] using h
    subst q
    exact Nat.lt_succ_self _
  | fal => cases h
  | var n => cases h
/-- one more level down -/
def down (l : List Fm) : List Fm := dist (l.flatMap Fm.kids)
def levs : Nat → List Fm → List (List Fm)
  | 0, _ => []
  | n + 1, l => if l = [] then [] else l :: levs n (down l)
theorem down_sum (l : List Fm) : ((down l).map Fm.sz).sum + l.length ≤ (l.map Fm.sz).sum := by
  have h1 := dist_sum Fm.sz (l.flatMap Fm.kids)
  have h2 : ((l.flatMap Fm.kids).map Fm.sz).sum + l.length = (l.map Fm.sz).sum := by
    induction l with
    | nil => rfl
    | cons f l ih =>
      have ih' := ih (dist_sum Fm.sz (l.flatMap Fm.kids))
      rw [List.flatMap_cons, List.map_append, List.sum_append_nat, List.map_cons, List.sum_cons, List.length_cons, ← kids_sz f]
      omega
  unfold down
  omega
theorem sum_len (l : List Fm) : l.length ≤ (l.map Fm.sz).sum := by
  induction l with
  | nil => exact Nat.le_refl _
  | cons f l ih =>
    rw [List.map_cons, List.sum_cons, List.length_cons]
    have := f.sz_pos
    omega
theorem down_mem {l : List Fm} {x : Fm} : x ∈ down l ↔ ∃ f ∈ l, x ∈ f.kids := by
  unfold down
  rw [dist_mem, List.mem_flatMap]
/-- all that occurs in a formula -/
def Fm.subs : Fm → List Fm
  | .and a b => .and a b :: (a.subs ++ b.subs)
  | .or a b => .or a b :: (a.subs ++ b.subs)
  | .imp a b => .imp a b :: (a.subs ++ b.subs)
  | .box a => .box a :: a.subs
  | .fal => [.fal]
  | .var n => [.var n]
theorem subs_kids {f x : Fm} : x ∈ f.subs ↔ x = f ∨ ∃ g ∈ f.kids, x ∈ g.subs := by
  cases f <;> simp [Fm.subs, Fm.kids]
/-- what stands on the levels: all that occurs in the first one -/
theorem levs_mem : ∀ (n : Nat) (l : List Fm), (∀ f ∈ l, f.ht ≤ n) → ∀ x, x ∈ (levs n l).flatten ↔ ∃ f ∈ l, x ∈ f.subs
  | 0, l, h, x => by
    constructor
    · intro q
      cases q
    · rintro ⟨f, hf, _⟩
      exact absurd (h f hf) (by have := f.ht_pos; omega)
  | n + 1, l, h, x => by
    rw [levs]
    by_cases e : l = []
    · rw [if_pos e, e]
      simp
    · rw [if_neg e, List.flatten_cons, List.mem_append, levs_mem n (down l) (fun f hf => by
        obtain ⟨g, hg, hk⟩ := down_mem.mp hf
        have h1 := kids_ht hk
        have h2 := h g hg
        omega) x]
      constructor
      · rintro (q | ⟨f, hf, hx⟩)
        · exact ⟨x, q, subs_kids.mpr (.inl rfl)⟩
        · obtain ⟨g, hg, hk⟩ := down_mem.mp hf
          exact ⟨g, hg, subs_kids.mpr (.inr ⟨f, hk, hx⟩)⟩
      · rintro ⟨f, hf, hx⟩
        rcases subs_kids.mp hx with rfl | ⟨g, hg, hx⟩
        · exact .inl hf
        · exact .inr ⟨g, down_mem.mpr ⟨f, hf, hg⟩, hx⟩
theorem levs_len : ∀ (n : Nat) (l : List Fm), (levs n l).length ≤ n
  | 0, _ => Nat.le_refl _
  | n + 1, l => by
    rw [levs]
    split
    · exact Nat.zero_le _
    · rw [List.length_cons]
      have := levs_len n (down l)
      omega
theorem levs_sum : ∀ (n : Nat) (l : List Fm), ((levs n l).map List.length).sum ≤ (l.map Fm.sz).sum
  | 0, _ => Nat.zero_le _
  | n + 1, l => by
    rw [levs]
    split
    · exact Nat.zero_le _
    · rw [List.map_cons, List.sum_cons]
      have h1 := levs_sum n (down l)
      have h2 := down_sum l
      omega
end E

set_option Elab.async false
set_option linter.all false
set_option maxRecDepth 100000
set_option maxHeartbeats 4000000
namespace E
open PySem PySem.Spec PyProof.Rows L2
/-! ### comprehensions of two loops -/
section
variable {K : PySem.W.Frag}
/-- the outer loop, over a list -/
theorem out_list {a : Addr} {xs : List V} {g g1 : TG} {tt tt1 : TT} {wi1 : TI} {te : TE} {vs vs1 : List Nat} {σ : L2.St} {H1 : Hp} {D : Addr} {Qd : Hp → Prop} (Pv : Nat → Hp → Prop) (start : Pv 0 (upd H1 D (.lst []))) (at_ : ∀ i H, i ≤ xs.length → Pv i H → SqL K H a xs)
    (turn : ∀ i x H, xs[i]? = some x → Pv i H → g x (wipe σ vs) H fun σ2 H2 => wipe σ2 vs = wipe σ vs ∧ tt σ2 H2 fun b H3 => if b = true then wi1 σ2 H3 fun J1 H4 => ∃ W1 : Nat → Nat → Hp → Prop, (∃ m, W1 0 m H4) ∧ ∀ j k H, W1 j k H →
      (J1.stop j H ∧ Pv (i + 1) H) ∨ (J1.go j H ∧ ∃ N1 : Hp → Prop, (∀ H', N1 H' → ∃ k', k' < k ∧ W1 (j + 1) k' H') ∧ ∀ x H', J1.yld j H x H' → g1 x (wipe σ2 vs1) H' fun σ3 H5 => wipe σ3 vs1 = wipe σ2 vs1 ∧ tt1 σ3 H5 fun b H6 =>
        if b = true then te σ3 H6 fun y H7 => ∃ acc, H7 D = some (.lst acc) ∧ acc.length < sizeLine ∧ N1 (upd H7 D (.lst (acc ++ [y]))) else N1 H6) else Pv (i + 1) H3) (fin : ∀ H, Pv xs.length H → Qd H) :
    ∃ W : Nat → Nat → Hp → Prop, (∃ m, W 0 m (upd H1 D (.lst []))) ∧ ∀ i m H, W i m H →
      ((Itl K a).stop i H ∧ Qd H) ∨ ((Itl K a).go i H ∧ ∃ Nx : Hp → Prop, (∀ H', Nx H' → ∃ m', m' < m ∧ W (i + 1) m' H') ∧ ∀ x H', (Itl K a).yld i H x H' → g x (wipe σ vs) H' fun σ2 H2 => wipe σ2 vs = wipe σ vs ∧ tt σ2 H2 fun b H3 =>
        if b = true then wi1 σ2 H3 fun J1 H4 => ∃ W1 : Nat → Nat → Hp → Prop, (∃ m, W1 0 m H4) ∧ ∀ j k H, W1 j k H →
          (J1.stop j H ∧ Nx H) ∨ (J1.go j H ∧ ∃ Nx1 : Hp → Prop, (∀ H', Nx1 H' → ∃ k', k' < k ∧ W1 (j + 1) k' H') ∧ ∀ x H', J1.yld j H x H' → g1 x (wipe σ2 vs1) H' fun σ3 H5 => wipe σ3 vs1 = wipe σ2 vs1 ∧ tt1 σ3 H5 fun b H6 =>
            if b = true then te σ3 H6 fun y H7 => ∃ acc, H7 D = some (.lst acc) ∧ acc.length < sizeLine ∧ Nx1 (upd H7 D (.lst (acc ++ [y]))) else Nx1 H6)
        else Nx H3) := by
  refine ⟨fun i m H => m + i = xs.length ∧ Pv i H, ⟨xs.length, rfl, start⟩, fun i m H h => ?_⟩
  obtain ⟨hm, p⟩ := h
  have q := at_ i H (by omega) p
  by_cases hi : i < xs.length
  · refine Or.inr ⟨⟨xs, xs[i], q, List.getElem?_eq_getElem hi⟩, Pv (i + 1), fun H' p' => ⟨m - 1, by omega, by omega, p'⟩, fun x H' y => ?_⟩
    obtain ⟨rfl, y⟩ := y
    exact turn i x _ (y xs q) p
  · refine Or.inl ⟨⟨xs, q, by omega⟩, fin H ?_⟩
    rw [show xs.length = i by omega]
    exact p
/-- the inner loop, over a tuple -/
theorem in_tup {b : Addr} {ys : List V} {g1 : TG} {tt1 : TT} {te : TE} {vs1 : List Nat} {σ2 : L2.St} {H4 : Hp} {D : Addr} {Nx : Hp → Prop} (Pv : Nat → Hp → Prop) (start : Pv 0 H4) (at_ : ∀ j H, j ≤ ys.length → Pv j H → SqT K H b ys)
    (turn : ∀ j y H, ys[j]? = some y → Pv j H → g1 y (wipe σ2 vs1) H fun σ3 H5 => wipe σ3 vs1 = wipe σ2 vs1 ∧ tt1 σ3 H5 fun b H6 => if b = true then te σ3 H6 fun y H7 => ∃ acc, H7 D = some (.lst acc) ∧ acc.length < sizeLine ∧ Pv (j + 1) (upd H7 D (.lst (acc ++ [y]))) else Pv (j + 1) H6)
    (fin : ∀ H, Pv ys.length H → Nx H) :
    ∃ W1 : Nat → Nat → Hp → Prop, (∃ m, W1 0 m H4) ∧ ∀ j k H, W1 j k H →
      ((Itt K b).stop j H ∧ Nx H) ∨ ((Itt K b).go j H ∧ ∃ Nx1 : Hp → Prop, (∀ H', Nx1 H' → ∃ k', k' < k ∧ W1 (j + 1) k' H') ∧ ∀ x H', (Itt K b).yld j H x H' → g1 x (wipe σ2 vs1) H' fun σ3 H5 => wipe σ3 vs1 = wipe σ2 vs1 ∧ tt1 σ3 H5 fun b H6 =>
        if b = true then te σ3 H6 fun y H7 => ∃ acc, H7 D = some (.lst acc) ∧ acc.length < sizeLine ∧ Nx1 (upd H7 D (.lst (acc ++ [y]))) else Nx1 H6) := by
  refine ⟨fun i m H => m + i = ys.length ∧ Pv i H, ⟨ys.length, rfl, start⟩, fun i m H h => ?_⟩
  obtain ⟨hm, p⟩ := h
  have q := at_ i H (by omega) p
  by_cases hi : i < ys.length
  · refine Or.inr ⟨⟨ys, ys[i], q, List.getElem?_eq_getElem hi⟩, Pv (i + 1), fun H' p' => ⟨m - 1, by omega, by omega, p'⟩, fun x H' y => ?_⟩
    obtain ⟨rfl, y⟩ := y
    exact turn i x _ (y ys q) p
  · refine Or.inl ⟨⟨ys, q, by omega⟩, fin H ?_⟩
    rw [show ys.length = i by omega]
    exact p
/-- the inner loop, over a list -/
theorem in_list {b : Addr} {ys : List V} {g1 : TG} {tt1 : TT} {te : TE} {vs1 : List Nat} {σ2 : L2.St} {H4 : Hp} {D : Addr} {Nx : Hp → Prop} (Pv : Nat → Hp → Prop) (start : Pv 0 H4) (at_ : ∀ j H, j ≤ ys.length → Pv j H → SqL K H b ys)
    (turn : ∀ j y H, ys[j]? = some y → Pv j H → g1 y (wipe σ2 vs1) H fun σ3 H5 => wipe σ3 vs1 = wipe σ2 vs1 ∧ tt1 σ3 H5 fun b H6 => if b = true then te σ3 H6 fun y H7 => ∃ acc, H7 D = some (.lst acc) ∧ acc.length < sizeLine ∧ Pv (j + 1) (upd H7 D (.lst (acc ++ [y]))) else Pv (j + 1) H6)
    (fin : ∀ H, Pv ys.length H → Nx H) :
    ∃ W1 : Nat → Nat → Hp → Prop, (∃ m, W1 0 m H4) ∧ ∀ j k H, W1 j k H →
      ((Itl K b).stop j H ∧ Nx H) ∨ ((Itl K b).go j H ∧ ∃ Nx1 : Hp → Prop, (∀ H', Nx1 H' → ∃ k', k' < k ∧ W1 (j + 1) k' H') ∧ ∀ x H', (Itl K b).yld j H x H' → g1 x (wipe σ2 vs1) H' fun σ3 H5 => wipe σ3 vs1 = wipe σ2 vs1 ∧ tt1 σ3 H5 fun b H6 =>
        if b = true then te σ3 H6 fun y H7 => ∃ acc, H7 D = some (.lst acc) ∧ acc.length < sizeLine ∧ Nx1 (upd H7 D (.lst (acc ++ [y]))) else Nx1 H6) := by
  refine ⟨fun i m H => m + i = ys.length ∧ Pv i H, ⟨ys.length, rfl, start⟩, fun i m H h => ?_⟩
  obtain ⟨hm, p⟩ := h
  have q := at_ i H (by omega) p
  by_cases hi : i < ys.length
  · refine Or.inr ⟨⟨ys, ys[i], q, List.getElem?_eq_getElem hi⟩, Pv (i + 1), fun H' p' => ⟨m - 1, by omega, by omega, p'⟩, fun x H' y => ?_⟩
    obtain ⟨rfl, y⟩ := y
    exact turn i x _ (y ys q) p
  · refine Or.inl ⟨⟨ys, q, by omega⟩, fin H ?_⟩
    rw [show ys.length = i by omega]
    exact p
end
/-! ### a formula's tuple -/
theorem im_inv {K : PySem.W.Frag} {H : Hp} {x : V} {f : Fm} (h : Im K H x f.d) : ∃ (a : Addr) (ys : List V), x = .ref a ∧ SqT K H a (.str f.sg :: ys) ∧ ImAll K H ys f.pts := by
  rw [Fm.d_eq] at h
  generalize f.sg = sg at h ⊢
  cases h with
  | tup h1 h2 =>
    cases h2 with
    | cons h3 h4 =>
      cases h3
      exact ⟨_, _, rfl, h1, h4⟩
def Fm.isVar : Fm → Bool
  | .var _ => true
  | _ => false
def Fm.isBox : Fm → Bool
  | .box _ => true
  | _ => false
theorem vsg : ∀ i j : Fin 6, decide (V.str (sgT i) = V.str (sgT j)) = decide (i = j) := by decide +kernel
theorem sg_var (f : Fm) : decide (V.str f.sg = V.str "var") = f.isVar := by
  show decide (V.str (sgT f.rk) = V.str (sgT 5)) = _
  rw [vsg]
  cases f <;> rfl
theorem sg_box (f : Fm) : decide (V.str f.sg = V.str "box") = f.isBox := by
  show decide (V.str (sgT f.rk) = V.str (sgT 1)) = _
  rw [vsg]
  cases f <;> rfl
theorem kids_pts {f : Fm} (h : f.isVar = false) : f.pts = f.kids.map Fm.d := by
  cases f <;> first | rfl | cases h
theorem kids_var {f : Fm} (h : f.isVar = true) : f.kids = [] ∧ ∃ n, f = .var n := by
  cases f <;> first | exact ⟨rfl, _, rfl⟩ | cases h
theorem cut_1 (xs : List V) (x : V) : cutV (x :: xs) (some 1) none = xs := by
  unfold cutV
  rw [show HT.sIx (x :: xs).length 0 (some 1) = 1 from by
    show (if (1 : Int) < 0 then ((1 : Int) + ((x :: xs).length : Int)).toNat else min (1 : Int).toNat (x :: xs).length) = 1
    rw [if_neg (by decide), List.length_cons]
    omega, HT.sIx_none]
  show List.take _ xs = xs
  exact List.take_of_length_le (by rw [List.length_cons]; omega)
theorem sIx_1 (xs : List V) (x : V) : HT.sIx (x :: xs).length 0 (some 1) = 1 := by
  show (if (1 : Int) < 0 then ((1 : Int) + ((x :: xs).length : Int)).toNat else min (1 : Int).toNat (x :: xs).length) = 1
  rw [if_neg (by decide), List.length_cons]
  omega
theorem imAll_of {K : PySem.W.Frag} {H : Hp} {xs : List V} {fs : List Fm} {x : V} {i : Nat} (hI : ImAll K H xs (fs.map Fm.d)) (h : xs[i]? = some x) : ∃ f, fs[i]? = some f ∧ Im K H x f.d := by
  obtain ⟨d, e, j⟩ := hI.get h
  rw [List.getElem?_map] at e
  cases e2 : fs[i]? with
  | none => rw [e2] at e; cases e
  | some f =>
    rw [e2] at e
    have : f.d = d := Option.some.inj e
    subst this
    exact ⟨f, rfl, j⟩
theorem take_snoc {α : Type} {l : List α} {i : Nat} {x : α} (h : l[i]? = some x) : l.take (i + 1) = l.take i ++ [x] := by
  rw [List.take_add_one, h]
  rfl
theorem fms_len {K : PySem.W.Frag} {H : Hp} {xs : List V} {fs : List Fm} (h : ImAll K H xs (fs.map Fm.d)) : xs.length = fs.length := by
  have := h.length
  rw [List.length_map] at this
  exact this
theorem imAll_append {K : PySem.W.Frag} {H : Hp} : ∀ {xs ys : List V} {ds es : List PyData}, ImAll K H xs ds → ImAll K H ys es → ImAll K H (xs ++ ys) (ds ++ es)
  | _, _, _, _, .nil, h => h
  | _, _, _, _, .cons a t, h => .cons a (imAll_append t h)
/-- a list of lists of formulas -/
inductive LvAt (K : PySem.W.Frag) (H : Hp) : List V → List (List Fm) → Prop
  | nil : LvAt K H [] []
  | cons {b : Addr} {ys : List V} {fs : List Fm} {vs : List V} {ls : List (List Fm)} : SqL K H b ys → ImAll K H ys (fs.map Fm.d) → LvAt K H vs ls → LvAt K H (.ref b :: vs) (fs :: ls)
theorem LvAt.same {K : PySem.W.Frag} {H H' : Hp} (s : Same H H') : ∀ {vs : List V} {ls : List (List Fm)}, LvAt K H vs ls → LvAt K H' vs ls
  | _, _, .nil => .nil
  | _, _, .cons h1 h2 t => .cons (s.seq h1) (h2.mono (Same.ts s)) (LvAt.same s t)
theorem LvAt.snoc {K : PySem.W.Frag} {H : Hp} {b : Addr} {ys : List V} {fs : List Fm} (h1 : SqL K H b ys) (h2 : ImAll K H ys (fs.map Fm.d)) : ∀ {vs : List V} {ls : List (List Fm)}, LvAt K H vs ls → LvAt K H (vs ++ [.ref b]) (ls ++ [fs])
  | _, _, .nil => .cons h1 h2 .nil
  | _, _, .cons a1 a2 t => .cons a1 a2 (LvAt.snoc h1 h2 t)
theorem LvAt.len {K : PySem.W.Frag} {H : Hp} : ∀ {vs : List V} {ls : List (List Fm)}, LvAt K H vs ls → vs.length = ls.length
  | _, _, .nil => rfl
  | _, _, .cons _ _ t => by rw [List.length_cons, List.length_cons, LvAt.len t]
theorem LvAt.get {K : PySem.W.Frag} {H : Hp} : ∀ {vs : List V} {ls : List (List Fm)} {i : Nat} {v : V}, LvAt K H vs ls → vs[i]? = some v → ∃ b ys fs, v = .ref b ∧ ls[i]? = some fs ∧ SqL K H b ys ∧ ImAll K H ys (fs.map Fm.d)
  | _, _, _, _, .nil, e => by simp at e
  | _, _, 0, _, .cons h1 h2 _, e => by simp at e; subst e; exact ⟨_, _, _, rfl, rfl, h1, h2⟩
  | _, _, i + 1, v, .cons _ _ t, e => by
    obtain ⟨b, ys, fs, q1, q2, q3⟩ := LvAt.get (i := i) (v := v) t (by simpa using e)
    exact ⟨b, ys, fs, q1, by simpa using q2, q3⟩
/-- the list that holds the levels grows -/
theorem LvAt.mut {K : PySem.W.Frag} {H H' : Hp} {L : Addr} {ws : List V} (k : Kp L H H') (hL : H L = some (.lst ws)) : ∀ {vs : List V} {ls : List (List Fm)}, LvAt K H vs ls → (∀ v ∈ vs, v ≠ .ref L) → LvAt K H' vs ls
  | _, _, .nil, _ => .nil
  | _, _, .cons h1 h2 t, n => .cons (k.sqL h1 fun e => n _ List.mem_cons_self (by rw [e])) (h2.mono (k.ts hL)) (LvAt.mut k hL t fun v hv => n v (List.mem_cons_of_mem _ hv))
theorem levs_nil (n : Nat) : levs n [] = [] := by cases n <;> rfl
theorem kids_subs {f g h : Fm} (h1 : g ∈ f.subs) (h2 : h ∈ g.kids) : h ∈ f.subs := by
  induction f with
  | and a b iha ihb =>
    rcases subs_kids.mp h1 with rfl | ⟨k, hk, hg⟩
    · exact subs_kids.mpr (.inr ⟨h, h2, subs_kids.mpr (.inl rfl)⟩)
    · have q : k = a ∨ k = b := by simpa [Fm.kids] using hk
      rcases q with rfl | rfl
      · exact subs_kids.mpr (.inr ⟨k, hk, iha hg⟩)
      · exact subs_kids.mpr (.inr ⟨k, hk, ihb hg⟩)
  | or a b iha ihb =>
    rcases subs_kids.mp h1 with rfl | ⟨k, hk, hg⟩
    · exact subs_kids.mpr (.inr ⟨h, h2, subs_kids.mpr (.inl rfl)⟩)
    · have q : k = a ∨ k = b := by simpa [Fm.kids] using hk
      rcases q with rfl | rfl
      · exact subs_kids.mpr (.inr ⟨k, hk, iha hg⟩)
      · exact subs_kids.mpr (.inr ⟨k, hk, ihb hg⟩)
  | imp a b iha ihb =>
    rcases subs_kids.mp h1 with rfl | ⟨k, hk, hg⟩
    · exact subs_kids.mpr (.inr ⟨h, h2, subs_kids.mpr (.inl rfl)⟩)
    · have q : k = a ∨ k = b := by simpa [Fm.kids] using hk
      rcases q with rfl | rfl
      · exact subs_kids.mpr (.inr ⟨k, hk, iha hg⟩)
      · exact subs_kids.mpr (.inr ⟨k, hk, ihb hg⟩)
  | box a iha =>
    rcases subs_kids.mp h1 with rfl | ⟨k, hk, hg⟩
    · exact subs_kids.mpr (.inr ⟨h, h2, subs_kids.mpr (.inl rfl)⟩)
    · have q : k = a := by simpa [Fm.kids] using hk
      subst q
      exact subs_kids.mpr (.inr ⟨k, hk, iha hg⟩)
  | fal =>
    have e : g = .fal := by simpa [Fm.subs] using h1
    subst e
    cases h2
  | var n =>
    have e : g = .var n := by simpa [Fm.subs] using h1
    subst e
    cases h2
theorem flat_len (l : List Fm) : (l.flatMap Fm.kids).length ≤ (l.map Fm.sz).sum := by
  induction l with
  | nil => exact Nat.le_refl _
  | cons f l ih =>
    rw [List.flatMap_cons, List.length_append, List.map_cons, List.sum_cons, ← kids_sz f]
    have := sum_len f.kids
    omega
end E

set_option Elab.async false
set_option linter.all false
set_option maxRecDepth 100000
set_option maxHeartbeats 4000000
namespace E
open PySem PySem.Spec PyProof.Rows L2 PySem.SeqAt ELt PySem.W PySem.Calls
/-! ### pairs of ints: >= and sorted -/
def zd (z : Int × Int) : PyData := .tuple [.int z.1, .int z.2]
def zlt (z u : Int × Int) : Bool := if z.1 = u.1 then decide (z.2 < u.2) else decide (z.1 < u.1)
def rGeZ (K : PySem.W.Frag) : R2 := fun x y H Q => ∃ z u : Int × Int, Im K H x (zd z) ∧ Im K H y (zd u) ∧ Q (.bl (!zlt z u)) H
theorem op_geZ {X : Cx} (hu : X.A.units + 64 < cLine) : OpR X (compareOp .GtE) (rGeZ X.K) := by
  intro pins s σ H x y v u Q I rx ry h
  obtain ⟨z, t, hz, ht, q⟩ := h
  obtain ⟨as, r1⟩ := Dp.reads I _ x v hz.dp rx
  obtain ⟨bs, r2⟩ := Dp.reads I _ y u ht.dp ry
  refine PySem.W.ge_datum (α := Int × Int) (x := z) (y := t) ⟨as, r1⟩ ⟨bs, r2⟩ (Nat.lt_of_le_of_lt (Nat.add_le_add_left (show PySem.W.Datum.depth (Int × Int) ≤ 64 by decide) _) hu) ⟨.bl _, H, I, rfl, ?_⟩
  exact q
theorem each_ofZ {X : Cx} {pins : List (Addr × Obj)} {σ : L2.St} {H : Hp} {s : Shared} (I : Inv X pins σ H s) : ∀ {xs : List V} {us : List Value} {fs : List (Int × Int)}, Vals xs us → ImAll X.K H xs (fs.map zd) →
    EachIs (fun v f => ∃ x : V, RelV x v ∧ Im X.K H x (zd f)) us fs ∧ EachIs (fun v f => ∃ as, Reads s.heap v (zd f) as) us fs
  | _, _, [], .nil, _ => ⟨.nil, .nil⟩
  | _, _, f :: fs, .cons r t, i => by
    have i' : ImAll X.K H _ (zd f :: fs.map zd) := i
    cases i' with
    | cons i1 i2 =>
      obtain ⟨a1, a2⟩ := each_ofZ I t i2
      exact ⟨.cons ⟨_, r, i1⟩ a1, .cons (Dp.reads I _ _ _ i1.dp r) a2⟩
theorem each_backZ {K : PySem.W.Frag} {H : Hp} : ∀ {us : List Value} {fs : List (Int × Int)}, EachIs (fun v f => ∃ x : V, RelV x v ∧ Im K H x (zd f)) us fs → ∃ ys : List V, Vals ys us ∧ ImAll K H ys (fs.map zd)
  | _, _, .nil => ⟨[], .nil, .nil⟩
  | _, _, .cons ⟨x, r, i⟩ t => by
    obtain ⟨ys, h1, h2⟩ := each_backZ t
    exact ⟨x :: ys, .cons r h1, .cons i h2⟩
def rSortedZ (K : PySem.W.Frag) : List V → Hp → VK → Prop := fun vs H Q => ∃ (a : Addr) (xs : List V) (zs : List (Int × Int)), vs = [V.ref a] ∧ SqL K H a xs ∧ ImAll K H xs (zs.map zd) ∧
  ∀ (p : Addr) (ys : List V) (us : List (Int × Int)), H p = none → us.Perm zs → ImAll K H ys (us.map zd) → Q (.ref p) (upd H p (.lst ys))
theorem cr_sortedZ {X : Cx} (hu64 : X.A.units + 64 < cLine) : CallR X (.builtin "sorted") (rSortedZ X.K) := by
  intro pins s σ H vs us Q I r h
  obtain ⟨a, xs, fs, rfl, hs, hi, q⟩ := h
  obtain ⟨its, rv, hl, hz⟩ := I.list hs
  obtain ⟨u, rfl, ru⟩ := vals1 r
  obtain rfl : u = Value.ref a := ru
  obtain ⟨e1, e2⟩ := each_ofZ I rv hi
  have e9 : fs.map zd = fs.map (PySem.W.Datum.toD (α := Int × Int)) := rfl
  refine PySem.W.sorted_data (enc := zd) hl.isList e1 e2 ?_ ?_ (by rw [← e1.length, ← rv.length]; exact hz) (fun b hb => ?_) fun out ho eo => ?_
  · intro d hd d' hd'
    obtain ⟨b, _, rfl⟩ := List.mem_map.mp hd
    obtain ⟨b', _, rfl⟩ := List.mem_map.mp hd'
    exact PySem.W.DatumOrd.alike (α := Int × Int) b b'
  · exact .inl fun d hd => by
      obtain ⟨b, _, rfl⟩ := List.mem_map.mp hd
      exact ⟨_, _, rfl⟩
  · show X.A.units + 2 + (zd b).depth < cLine
    have : (zd b).depth = 1 := rfl
    omega
  · obtain ⟨ys, y1, y2⟩ := each_backZ eo
    obtain ⟨n, hn⟩ := sortedAll_at s.heap its out.toArray
    have hf : s.heap.objs.size ≤ s.heap.objs.size + 1 := Nat.le_succ _
    refine ⟨.ref (s.heap.objs.size + 1), upd H _ (.lst ys), I.laid (t' := s.toks) (fun _ _ => sortedAll_old) hf ⟨?_, _, n, y1, hn⟩, rfl, q _ ys _ (I.hok.fresh hf) (List.mergeSort_perm _ _) y2⟩
    have hl2 := y1.length
    have := rv.length
    have := e1.length
    omega
end E

set_option Elab.async false
set_option linter.all false
set_option maxRecDepth 100000
set_option maxHeartbeats 4000000
namespace E
open PySem PySem.Spec PyProof.Rows L2 LamX NdefX
/-! ### lambdas with parameters that capture nothing -/
/-- a lambda's words, its code object -/
structure LF where
  qual : Str
  params : Arguments
  body : Expr
  scope : Scope
  c : Addr
abbrev LF.nf (F : LF) : NF := ⟨"<lambda>", F.qual, F.params, [], F.scope, [], F.c⟩
/-- the object at f is the lambda F -/
def LamO (f : Addr) (F : LF) : HO := .ext fun h => ∃ (pm ctv : Value), h.get? f = some (PySem.W.kla_obj "<lambda>" F.qual F.params F.body F.scope [] pm F.c ctv)
theorem lamO_at {P : Program} {w : World} {H : Hp} {h : Heap} {f : Addr} {F : LF} (hok : HOk P w H h) (e : H f = some (LamO f F)) : ∃ (pm ctv : Value), h.get? f = some (PySem.W.kla_obj "<lambda>" F.qual F.params F.body F.scope [] pm F.c ctv) := by
  obtain ⟨z, _, _⟩ := hok f _ e
  exact z
theorem inv_lam {X : Cx} {pins : List (Addr × Obj)} {σ : L2.St} {H : Hp} {s : Shared} {F : LF} {o : Obj} {t' : Nat} {pm ctv : Value} (I : Inv X pins σ H s) (ho : o = PySem.W.kla_obj "<lambda>" F.qual F.params F.body F.scope [] pm F.c ctv) :
    Inv X pins σ (upd H s.heap.objs.size (LamO s.heap.objs.size F)) { s with heap := s.heap.push o, toks := t' } := by
  subst ho
  refine I.laid (a := s.heap.objs.size) (fun b u e => Heap.get?_push_of_some _ e) (Nat.le_refl _) ?_
  have e : (s.heap.push (PySem.W.kla_obj "<lambda>" F.qual F.params F.body F.scope [] pm F.c ctv)).get? s.heap.objs.size = some (PySem.W.kla_obj "<lambda>" F.qual F.params F.body F.scope [] pm F.c ctv) := Heap.get?_push_size _ rfl
  exact ⟨⟨pm, ctv, e⟩, ⟨_, e⟩, fun h1 h2 ⟨p, t, z⟩ st => ⟨p, t, st _ z⟩⟩
/-- the reading of «lambda ..: ..»: the new function -/
def tLam (T : List NTab) (mk : Addr → LF) : TE := fun σ H Q => TabsN T H ∧ ∀ (f c' : Addr) (H1 : Hp), ExtN H H1 → TabsN T H1 → H f = none → H1 f = some (LamO f (mk c')) → H1 c' = some (CodeO c' (mk c').qual) → Q (.ref f) H1
theorem clo_none {cells : List (Str × Addr)} {names : List (Str × NameKind)} (h : (names.all fun y => !decide (y.2 = .free)) = true) : cloFrom cells names [] = [] := by
  have key : ∀ (l : List (Str × NameKind)), (∀ y ∈ l, y.2 ≠ .free) → ∀ acc, cloFrom cells l acc = acc := by
    intro l
    induction l with
    | nil => exact fun _ _ => rfl
    | cons y l ih =>
      intro hy acc
      have h1 := hy y List.mem_cons_self
      have h2 := ih (fun z hz => hy z (List.mem_cons_of_mem _ hz))
      obtain ⟨n, k⟩ := y
      cases k <;> first | exact absurd rfl h1 | exact h2 acc
  refine key names (fun y hy e => ?_) []
  have := List.all_eq_true.mp h y hy
  rw [e] at this
  exact absurd this (by decide)
/-- one more code object in the table at P: the tables go on telling what they told -/
theorem tabs_put {T : List NTab} {nm : Nat → Nat → Str} {H H' : Hp} {P d : Addr} {rows : Array Value} {at_ : Pos} {q : Str} (tT : TabsN T H) (mem : (P, nm) ∈ T) (one : ∀ p ∈ T, p.1 = P → p.2 = nm) (tP : H P = some (.tbl rows)) (eq : nm at_.line at_.col = q)
    (keep : ∀ b o, H b = some o → b ≠ P → H' b = some o) (newP : H' P = some (.tbl (rows ++ #[rawInt at_.line, rawInt at_.col, .ref d]))) (newC : H' d = some (CodeO d q)) : TabsN T H' := by
  rintro ⟨P', nm'⟩ hp
  by_cases here : P' = P
  · have same := one _ hp here
    subst here
    obtain rfl : nm' = nm := same
    obtain ⟨rows', r1, r2, r3⟩ := tT _ mem
    rw [tP] at r1
    cases r1
    have split : (rows ++ #[rawInt at_.line, rawInt at_.col, .ref d]).toList = rows.toList ++ [rawInt at_.line, rawInt at_.col, .ref d] := Array.toList_append ..
    refine ⟨_, newP, split ▸ PySem.TriplesOk_snoc _ _ _ _ r2, fun at2 u hu => ?_⟩
    rcases among_app2 _ r2 (split ▸ hu) with old | ⟨new, l1, l2⟩
    · obtain ⟨x, x1, x2⟩ := r3 at2 u old
      exact ⟨x, x1, keep _ _ x2 fun z => by rw [z, tP] at x2; cases x2⟩
    · exact ⟨d, new, by rw [← l1, ← l2]; show H' d = some (CodeO d (nm' at_.line at_.col)); rw [eq]; exact newC⟩
  · obtain ⟨rows', r1, r2, r3⟩ := tT _ hp
    refine ⟨rows', keep _ _ r1 here, r2, fun at2 u hu => ?_⟩
    obtain ⟨x, x1, x2⟩ := r3 at2 u hu
    exact ⟨x, x1, keep _ _ x2 fun z => by rw [z, tP] at x2; cases x2⟩
section
variable {X : Cx}
/-- what is new above all that is known changes nothing of it -/
theorem above {H H' : Hp} {a : Addr} {o : HO} (n : H' a = none) (k : ∀ b u, H b = some u → H' b = some u) : ∀ b u, H b = some u → upd H' a o b = some u := fun b u e => (upd_ne (ne_of_none (k b u e) n)).trans (k b u e)
theorem pe_lam {T : List NTab} {nm : Nat → Nat → Str} {c P : Addr} {params : Arguments} {body : Expr} {scope : Scope} {pos : Pos} (TB : TabB X.base X.mg c P) (code : X.env.code = .ref c) (mem : (P, nm) ∈ T) (name : nm pos.line pos.col = X.env.qual ++ "<lambda>") (one : ∀ p ∈ T, p.1 = P → p.2 = nm)
    (nofree : (scope.names.all fun y => !decide (y.2 = .free)) = true) (dflt : defaultsOf params X.env = ([], [])) :
    PE X (.Lambda params body scope pos) (tLam T fun c' => ⟨X.env.qual ++ "<lambda>", params, body, scope, c'⟩) := by
  refine ⟨fun pins s σ H Q I ⟨tT, q⟩ => PySem.W.kla_eval dflt ?_⟩
  have shut : cloFrom X.env.cells scope.names [] = [] := clo_none nofree
  have caught : ∀ y ∈ scope.names, y.2 = .free → ∃ a, X.env.cells.lookup y.1 = some a := fun y hy e => absurd (List.all_eq_true.mp nofree y hy) (by rw [e]; decide)
  obtain ⟨rows, tP, tok, told⟩ := (show TabN H P nm from tT _ mem)
  have ask : ∀ (d : Addr) (h' : Heap) (tk : Nat) (ctv : Value) (H1 : Hp), Inv X pins σ H1 { s with heap := h', toks := tk } → ExtN H H1 → TabsN T H1 → (∀ b, H1 b = none → H b = none) → H1 d = some (CodeO d (X.env.qual ++ "<lambda>")) →
      EP X pins σ Q (.ref h'.objs.size) { s with heap := h'.push (PySem.W.kla_obj "<lambda>" (X.env.qual ++ "<lambda>") params body scope [] ((X.mg "__name__").getD .none) d ctv), toks := tk } := fun d h' tk ctv H1 I1 e1 t1 back hd => by
    have free : H1 h'.objs.size = none := I1.hok.fresh (Nat.le_refl _)
    have up := above (o := LamO h'.objs.size ⟨X.env.qual ++ "<lambda>", params, body, scope, d⟩) free fun _ _ e => e
    exact ⟨.ref h'.objs.size, _, inv_lam (F := ⟨X.env.qual ++ "<lambda>", params, body, scope, d⟩) (t' := tk) (ctv := ctv) I1 rfl, rfl, q _ d _ (e1.trans (ExtN.of up)) (t1.ext up) (back _ free) upd_same (up _ _ hd)⟩
  have glob := I.mod.glob.keeps I.bk
  have atP : s.heap.get? P = some { cls := .none, data := .fields rows } := I.hok P _ tP
  have bt : s.heap.BuiltinsAt X.mg P := TB.bm.keeps I.bk
  cases found : codeAmong pos rows.toList with
  | some u =>
    obtain ⟨d, rfl, hd⟩ := told pos u found
    refine PySem.W.kla_makeFunctionHit (mg := X.mg) (c := c) (P := P) (ps := rows) (closure_ok caught) I.ok.glob glob code (TB.code.keeps I.bk) atP tok found bt fun ctv h' tk more _ => ?_
    rw [shut]
    exact ask d h' tk ctv H (I.kept more) (ExtN.refl H) tT (fun _ e => e) (name ▸ hd)
  | none =>
    refine PySem.W.kla_makeFunction (mg := X.mg) (c := c) (P := P) (ps := rows) (closure_ok caught) I.ok.glob glob code (TB.code.keeps I.bk) atP tok found TB.gP bt fun d ctv h' tk more ge lt rec_ tab => ?_
    obtain ⟨d', oc, vs, t, same, r⟩ := rec_
    obtain rfl : d = d' := Value.ref.inj same
    rw [shut]
    have nd : H d = none := I.hok.fresh ge
    have dP : d ≠ P := (ne_of_none tP nd).symm
    have keep : ∀ b o, H b = some o → b ≠ P → upd (upd H P (.tbl (rows ++ #[rawInt pos.line, rawInt pos.col, .ref d]))) d (CodeO d (X.env.qual ++ "<lambda>")) b = some o := fun b o e n => by
      rw [upd_ne (ne_of_none e nd), upd_ne n, e]
    refine ask d h' tk ctv _ (inv_table I tP more tab ge ⟨oc, vs, t, r⟩) (fun b o e n => keep b o e fun z => n rows (Option.some.inj (e.symm.trans (z ▸ tP)))) (tabs_put tT mem one tP name keep (by rw [upd_ne dP.symm, upd_same]) upd_same) (fun b e => ?_) upd_same
    cases eb : H b with
    | none => rfl
    | some o =>
      by_cases z : b = P
      · subst z
        rw [upd_ne dP.symm, upd_same] at e
        cases e
      · rw [keep b o eb z] at e
        cases e
end
/-- the promise of the lambda F at f -/
structure LOk (P : Program) (w : World) (K : PySem.W.Frag) (mg : Str → Option Value) (base : Heap) (CX : CXT) (k : Nat) (f : Addr) (F : LF) (ps : List Str) (sp : Sp) : Prop where
  len : ∀ vs H Q E, sp vs H Q E → vs.length = ps.length
  run : ∀ (A : Around) (outer : List Env) (s : Shared) (H : Hp) (us : List Value) (vs : List V) (Q : VK) (E : XK), Room k A → Env0 P w K mg base A outer s H → H f = some (LamO f F) → H F.c = some (CodeO F.c F.qual) →
    Vals vs us → sp vs H Q E → codeAny (model P w) A (.call (.ref f) ⟨us, []⟩) (CR CX outer P w H s Q E) s
section
variable {CX : CXT} {P : Program} {w : World} {K : PySem.W.Frag} {mg : Str → Option Value} {base : Heap} {N ps : List Str} {F : LF} {f : Addr} {k j : Nat} {sp : Sp}
theorem cells_nil (h : Heap) (H : Hp) : CellsAt [] [] [] h H := ⟨rfl, fun y c z => (nomatch z), fun x y c z => (nomatch z), fun i y z => (nomatch z)⟩
theorem LOk.mono (o : LOk P w K mg base CX j f F ps sp) (h : j ≤ k) : LOk P w K mg base CX k f F ps sp := ⟨o.len, fun A outer s H us vs Q E hr => o.run A outer s H us vs Q E (hr.mono h)⟩
/-- THE RULE: a lambda by its body -/
theorem lok_of (S : NScope N ps [] F.scope) (hb : ∀ (pm ctv : Value) (us : List Value), us.length = ps.length → bindArgs (PySem.W.kla_fn "<lambda>" F.qual F.params F.body F.scope [] pm (.ref F.c) ctv) ⟨us, []⟩ = pure (ps.zip us)) (len : ∀ vs H Q E, sp vs H Q E → vs.length = ps.length)
    (hbody : ∀ (A : Around) (outer : List Env) (s : Shared) (H : Hp) (vs : List V) (Q : VK) (E : XK), Room k (A.deeper (envF F.nf f s.heap.objs.size)) → sp vs H Q E →
      ∃ t, PE (ncx CX P w K mg base N F.nf f A outer s H E) F.body t ∧ t (startF N vs []) H Q) :
    LOk P w K mg base CX (k + 1) f F ps sp := by
  refine ⟨len, fun A outer s H us vs Q E room e0 at_ code r q => ?_⟩
  obtain ⟨pm, ctv, ho⟩ := lamO_at e0.hok at_
  have many : us.length = ps.length := r.length ▸ len _ _ _ _ q
  refine PySem.W.kla_callFunE room.depth ho rfl S.co S.gen rfl (codeO_at e0.hok code) ?_
  rw [hb pm ctv us many]
  have free : s.heap.NoLimit := e0.mod.nolimit.keeps fun b o z => (e0.bs b o z).1
  refine wpAny_pure (wpAny_newFunctionEnv S.nocell (fun y hy => S.par y.1 (List.of_mem_zip hy).1) (fun h₁ own grown => ⟨free.fresh _ grown, PySem.W.kla_codeExpr ?_⟩) S.kind)
  obtain ⟨t, term, reading⟩ := hbody A outer s H vs Q E (room.deeper _) q
  have I := inv_startN (E := E) (CX := CX) (f := f) (F := F.nf) (N := N) (tk := s.toks + (ps.zip us).length) S room.hd e0 (len _ _ _ _ q) r (cells_nil _ _) own fun b o z => grown.extBut b o (Nat.ne_of_lt (Heap.lt_size z)) (Heap.get?_push_of_some _ z)
  exact wpAny_mono (term.run [] _ _ H Q I reading) (fun v s' ⟨u, H', J, rv, done⟩ => ⟨u, H', J.os, J.bare, J.base, J.hok, rv, done⟩) fun e s' z => z
end
/-! ### a call of a parameter that holds a def of the top, or a def or lambda made at run time that captures nothing -/
/-- the def at f, made or of the top, keeps the promise sp -/
inductive Cal (P : Program) (w : World) (K : PySem.W.Frag) (mg : Str → Option Value) (base : Heap) (k : Nat) (f : Addr) (sp : Sp) (H : Hp) : Prop
  | top {fd : FuncData} {ps : List Str} (o : FnOk P w K mg base CX0 k f fd ps sp) (kp : PySem.W.keepIn K (.ref f) = true) (b : L2.Binds K fd ps [])
  | made {F : NF} {ps : List Str} (o : NOk P w K mg base CX0 k f F ps [] (fun _ => sp)) (cl : F.cl = []) (h : H f = some (FnO f F)) (hc : H F.c = some (CodeO F.c F.qual))
  | lam {F : LF} {ps : List Str} (o : LOk P w K mg base CX0 k f F ps sp) (h : H f = some (LamO f F)) (hc : H F.c = some (CodeO F.c F.qual))
theorem Cal.same {P : Program} {w : World} {K : PySem.W.Frag} {mg : Str → Option Value} {base : Heap} {k : Nat} {f : Addr} {sp : Sp} {H H' : Hp} (c : Cal P w K mg base k f sp H) (s : ∀ b F, H b = some (.ext F) → H' b = some (.ext F)) : Cal P w K mg base k f sp H' := by
  cases c with
  | top o kp b => exact .top o kp b
  | made o cl h hc => exact .made o cl (s _ _ h) (s _ _ hc)
  | lam o h hc => exact .lam o (s _ _ h) (s _ _ hc)
theorem cells_none {cl : List (Str × Addr)} (e : cl = []) (h : Heap) (H : Hp) : CellsAt cl [] [] h H := by
  subst e
  exact ⟨rfl, fun y c z => (nomatch z), fun x y c z => (nomatch z), fun i y z => (nomatch z)⟩
def tCallV (P : Program) (w : World) (K : PySem.W.Frag) (mg : Str → Option Value) (base : Heap) (k i : Nat) (t : TA) : TE := fun σ H Q => ∃ (f : Addr) (sp : Sp), σ[i]? = some (some (.ref f)) ∧ Cal P w K mg base k f sp H ∧
  t σ H fun vs H1 => Cal P w K mg base k f sp H1 ∧ (∀ b F, H b = some (.ext F) → H1 b = some (.ext F)) ∧ sp vs H1 Q (fun _ _ _ => False)
section
variable {X : Cx} {i j k : Nat} {x : Str} {p pos : Pos} {e : Expr} {es : List Expr} {t : TA}
theorem pe_callV (hr : Room j X.A) (hk : k ≤ j) (hN : X.N[i]? = some x) (hv : Vis X.env.scope x) (ha : PA X (e :: es) t)
    (hdb : (x == ("__debug__" : Str)) = false := by decide) (hcd : (x == ("__classdict__" : Str)) = false := by decide)
    (he : starEach (e :: es) X.env = (false, eval e X.env) :: starEach es X.env := by rfl) (hpl : (backTo pos (starEach es X.env)).any (·.1) = false := by rfl) :
    PE X (.Call (.Name x p) (e :: es) [] pos) (tCallV X.prog X.w X.K X.mg X.base k i t) := by
  refine ⟨fun pins s σ H Q I ⟨f, sp, hs, hc, ht⟩ => ?_⟩
  refine wpAny_Call_Name_kw (thn ((pe_var (pos := p) hN hv hdb hcd).run pins s σ H (fun v H1 => v = .ref f ∧ H1 = H) I ⟨.ref f, hs, rfl, rfl⟩) fun u s1 ⟨v, H1, I1, r1, q1, q2⟩ => ?_)
  subst q1 q2
  obtain rfl : u = Value.ref f := r1
  cases hc with
  | @top fd ps o kp b =>
    refine PySem.W.callWith_K (h₀ := X.base) I.ok.mod.kin kp (thn (ha.run pos pins s1 σ _ _ I1 ht) fun us s2 ⟨vs, H2, I2, r, _, _, q⟩ => ⟨I2.kIn, ?_⟩) he hpl
    refine run_fn (dvs := []) (E := fun _ _ _ => False) o (hr.mono hk) b .nil pass0 I2 r ?_
    rw [List.append_nil]
    exact q
  | @made F ps o cl h hcode =>
    refine PySem.W.callWith_F (first := []) (fnAt_of I1 h) (thn (ha.run pos pins s1 σ _ _ I1 ht) fun us s2 ⟨vs, H2, I2, r, _, keep, q⟩ => ⟨fnAt_of I2 (keep _ _ h), ?_⟩) he hpl
    show wpAny _ _ (call (.ref f) us) _ _ _
    exact run_n (mk := fun _ => F) (js := []) (fr := []) (c' := f) (sp := fun _ _ _ => sp) o hr hk (E := fun _ _ _ => False) pass0 I2 (keep _ _ h) (keep _ _ hcode) (cells_none cl _ _) r q
  | @lam F ps o h hcode =>
    have fa : ∀ {s' : Shared} {H' : Hp}, Inv X pins σ H' s' → H' f = some (LamO f F) → PySem.W.FnAt f s'.heap := fun I' h' => by
      obtain ⟨pm, ctv, ho⟩ := lamO_at I'.hok h'
      exact ⟨_, _, _, _, ho⟩
    refine PySem.W.callWith_F (first := []) (fa I1 h) (thn (ha.run pos pins s1 σ _ _ I1 ht) fun us s2 ⟨vs, H2, I2, r, _, keep, q⟩ => ⟨fa I2 (keep _ _ h), ?_⟩) he hpl
    show wpAny _ _ (call (.ref f) us) _ _ _
    refine wpAny_call (codeAny_mono (o.run X.A X.stack s2 H2 us vs _ _ (hr.mono hk) I2.env0 (keep _ _ h) (keep _ _ hcode) r q) fun r s' hq => ?_)
    cases r with
    | error e => exact (show False from hq).elim
    | ok fl =>
      cases fl with
      | ret u => exact I2.after hq
      | next => exact False.elim hq
      | brk => exact False.elim hq
      | cont => exact False.elim hq
end
end E

set_option Elab.async false
set_option linter.all false
set_option maxRecDepth 100000
namespace E
open PySem PySem.Spec PyProof.Rows L2
/-! ### the numbers of formulas, by their sign and the numbers of their parts -/
/-- what a formula is looked up by, N the numbers of its parts -/
def keyF (N : Fm → Nat) (f : Fm) : List Key := match f with
  | .var y => [.inr "var", .inr y]
  | g => .inr g.sg :: g.kids.map fun c => (.inl ((N c : Nat) : Int) : Key)
theorem keyF_var (N : Fm → Nat) (y : Str) : keyF N (.var y) = [.inr "var", .inr y] := rfl
theorem keyF_not {N : Fm → Nat} {f : Fm} (h : f.isVar = false) : keyF N f = .inr f.sg :: f.kids.map fun c => (.inl ((N c : Nat) : Int) : Key) := by
  cases f <;> first | rfl | cases h
theorem keyF_congr {N M : Fm → Nat} {f : Fm} (h : ∀ c ∈ f.kids, N c = M c) : keyF N f = keyF M f := by
  by_cases hv : f.isVar = true
  · obtain ⟨_, n, rfl⟩ := kids_var hv
    rfl
  · have hv := Bool.eq_false_iff.mpr hv
    rw [keyF_not hv, keyF_not hv]
    exact congrArg _ (List.map_congr_left fun c hc => by rw [h c hc])
/-- two formulas of one key, their parts numbered apart, are one -/
theorem keyF_inj {N : Fm → Nat} {gs : List Fm} (inj : ∀ a ∈ gs, ∀ b ∈ gs, N a = N b → a = b) {f g : Fm} (hf : ∀ c ∈ f.kids, c ∈ gs) (hg : ∀ c ∈ g.kids, c ∈ gs) (e : keyF N f = keyF N g) : f = g := by
  have i2 : ∀ {a b : Fm}, a ∈ gs → b ∈ gs → (Sum.inl ((N a : Nat) : Int) : Key) = Sum.inl ((N b : Nat) : Int) → a = b := fun ha hb q => inj _ ha _ hb (Int.ofNat.inj (Sum.inl.inj q))
  have sgs : ∀ {a b : Str} {r s : List Key}, (Sum.inr a : Key) :: r = Sum.inr b :: s → a = b := fun q => Sum.inr.inj (List.cons.inj q).1
  cases f <;> cases g
  case var.var a b => 
    have := (List.cons.inj (List.cons.inj e).2).1
    rw [Sum.inr.inj this]
  case fal.fal => rfl
  case and.and a b c d =>
    obtain ⟨h1, h2⟩ := List.cons.inj (List.cons.inj e).2
    rw [i2 (hf _ (by simp [Fm.kids])) (hg _ (by simp [Fm.kids])) h1, i2 (hf _ (by simp [Fm.kids])) (hg _ (by simp [Fm.kids])) (List.cons.inj h2).1]
  case or.or a b c d =>
    obtain ⟨h1, h2⟩ := List.cons.inj (List.cons.inj e).2
    rw [i2 (hf _ (by simp [Fm.kids])) (hg _ (by simp [Fm.kids])) h1, i2 (hf _ (by simp [Fm.kids])) (hg _ (by simp [Fm.kids])) (List.cons.inj h2).1]
  case imp.imp a b c d =>
    obtain ⟨h1, h2⟩ := List.cons.inj (List.cons.inj e).2
    rw [i2 (hf _ (by simp [Fm.kids])) (hg _ (by simp [Fm.kids])) h1, i2 (hf _ (by simp [Fm.kids])) (hg _ (by simp [Fm.kids])) (List.cons.inj h2).1]
  case box.box a b =>
    obtain ⟨h1, _⟩ := List.cons.inj (List.cons.inj e).2
    rw [i2 (hf _ (by simp [Fm.kids])) (hg _ (by simp [Fm.kids])) h1]
  all_goals exact absurd (sgs e) (by first | decide +kernel | (simp only [Fm.sg, Fm.rk]; decide +kernel))
/-- the table of numbers -/
def tabF (gs : List Fm) : List (List Key × V) := gs.map fun g => (keyF (fun c => gs.idxOf c) g, V.int ((gs.idxOf g : Nat) : Int))
theorem idx_inj {gs : List Fm} : ∀ a ∈ gs, ∀ b ∈ gs, gs.idxOf a = gs.idxOf b → a = b := fun a ha b hb e => by
  have h1 := List.getElem_idxOf (List.idxOf_lt_length_of_mem ha)
  have h2 := List.getElem_idxOf (List.idxOf_lt_length_of_mem hb)
  rw [← h1, ← h2]
  congr 1
theorem tab_get {gs : List Fm} (cl : ∀ g ∈ gs, ∀ c ∈ g.kids, c ∈ gs) {b : Fm} (hb : ∀ c ∈ b.kids, c ∈ gs) :
    valV (tabF gs) (keyF (fun c => gs.idxOf c) b) = if b ∈ gs then some (V.int ((gs.idxOf b : Nat) : Int)) else none := by
  have key : ∀ l : List Fm, (∀ g ∈ l, g ∈ gs) → valV (l.map fun g => (keyF (fun c => gs.idxOf c) g, V.int ((gs.idxOf g : Nat) : Int))) (keyF (fun c => gs.idxOf c) b) = if b ∈ l then some (V.int ((gs.idxOf b : Nat) : Int)) else none := by
    intro l
    induction l with
    | nil => exact fun _ => rfl
    | cons g l ih =>
      intro h
      rw [List.map_cons]
      by_cases e : g = b
      · subst e
        rw [valV_pos rfl, if_pos List.mem_cons_self]
      · have ne : ¬ keyF (fun c => gs.idxOf c) g = keyF (fun c => gs.idxOf c) b := fun q => e (keyF_inj idx_inj (cl g (h g List.mem_cons_self)) hb q)
        rw [valV_neg ne, ih fun x hx => h x (List.mem_cons_of_mem _ hx)]
        by_cases m : b ∈ l
        · rw [if_pos m, if_pos (List.mem_cons_of_mem _ m)]
        · rw [if_neg m, if_neg fun q => (List.mem_cons.mp q).elim (fun z => e z.symm) m]
  exact key gs fun g hg => hg
theorem tab_put {gs : List Fm} (cl : ∀ g ∈ gs, ∀ c ∈ g.kids, c ∈ gs) {b : Fm} (hb : ∀ c ∈ b.kids, c ∈ gs) (nb : b ∉ gs) :
    putK (tabF gs) (keyF (fun c => gs.idxOf c) b) (V.int ((gs.length : Nat) : Int)) = tabF (gs ++ [b]) := by
  rw [putK_new _ (by rw [tab_get cl hb, if_neg nb])]
  unfold tabF
  have old : ∀ c ∈ gs, (gs ++ [b]).idxOf c = gs.idxOf c := fun c hc => by rw [List.idxOf_append, if_pos hc]
  rw [List.map_append]
  congr 1
  · refine List.map_congr_left fun g hg => ?_
    rw [old g hg, keyF_congr fun c hc => (old c (cl g hg c hc)).symm]
  · have e : (gs ++ [b]).idxOf b = gs.length := by rw [List.idxOf_append, if_neg nb]; simp
    show [_] = [(keyF (fun c => (gs ++ [b]).idxOf c) b, V.int (((gs ++ [b]).idxOf b : Nat) : Int))]
    rw [e, keyF_congr fun c hc => (old c (hb c hc)).symm]
/-- from one level to the next -/
theorem lev_next : ∀ (n : Nat) (cur : List Fm) (j : Nat) (l : List Fm), (∀ g ∈ cur, g.ht ≤ n) → (levs n cur)[j]? = some l → (levs n cur)[j + 1]? = some (down l) ∨ ((levs n cur)[j + 1]? = none ∧ down l = [])
  | 0, cur, j, l, _, h => by
    have e : levs 0 cur = [] := rfl
    rw [e] at h
    cases h
  | n + 1, cur, j, l, hh, h => by
    by_cases hc : cur = []
    · rw [hc, levs_nil] at h
      cases h
    · have e : levs (n + 1) cur = cur :: levs n (down cur) := by
        rw [levs, if_neg hc]
      rw [e] at h ⊢
      have hd : ∀ g ∈ down cur, g.ht ≤ n := fun g hg => by
        obtain ⟨k, hk, hm⟩ := down_mem.mp hg
        have h1 := kids_ht hm
        have h2 := hh k hk
        omega
      cases j with
      | zero =>
        have e2 : cur = l := Option.some.inj h
        subst e2
        rw [List.getElem?_cons_succ]
        by_cases hz : down cur = []
        · rw [hz, levs_nil]
          exact .inr ⟨rfl, rfl⟩
        · left
          cases n with
          | zero =>
            obtain ⟨g, hg⟩ := List.exists_mem_of_ne_nil _ hz
            have := hd g hg
            have := g.ht_pos
            omega
          | succ n =>
            rw [levs, if_neg hz]
            rfl
      | succ j =>
        rw [List.getElem?_cons_succ] at h ⊢
        exact lev_next n (down cur) j l hd h
theorem lev_head {n : Nat} {f : Fm} (h : f.ht ≤ n) : (levs n [f])[0]? = some [f] := by
  cases n with
  | zero =>
    have := f.ht_pos
    omega
  | succ n =>
    rw [levs, if_neg (by simp)]
    rfl
theorem lev_asc : ∀ (n : Nat) (cur : List Fm) (j : Nat) (l : List Fm), Asc cur → (levs n cur)[j]? = some l → Asc l
  | 0, cur, j, l, _, h => by
    have e : levs 0 cur = [] := rfl
    rw [e] at h
    cases h
  | n + 1, cur, j, l, ha, h => by
    by_cases hc : cur = []
    · rw [hc, levs_nil] at h
      cases h
    · have e : levs (n + 1) cur = cur :: levs n (down cur) := by
        rw [levs, if_neg hc]
      rw [e] at h
      cases j with
      | zero =>
        have e2 : cur = l := Option.some.inj h
        subst e2
        exact ha
      | succ j =>
        rw [List.getElem?_cons_succ] at h
        exact lev_asc n (down cur) j l (dist_asc _) h
theorem lev_ne : ∀ (n : Nat) (cur : List Fm) (j : Nat) (l : List Fm), (levs n cur)[j]? = some l → l ≠ []
  | 0, cur, j, l, h => by
    have e : levs 0 cur = [] := rfl
    rw [e] at h
    cases h
  | n + 1, cur, j, l, h => by
    by_cases hc : cur = []
    · rw [hc, levs_nil] at h
      cases h
    · have e : levs (n + 1) cur = cur :: levs n (down cur) := by
        rw [levs, if_neg hc]
      rw [e] at h
      cases j with
      | zero =>
        have e2 : cur = l := Option.some.inj h
        subst e2
        exact hc
      | succ j =>
        rw [List.getElem?_cons_succ] at h
        exact lev_ne n (down cur) j l h
theorem idx_get {gs : List Fm} {c : Fm} (h : c ∈ gs) : gs[gs.idxOf c]? = some c := by
  have := List.idxOf_lt_length_of_mem h
  rw [List.getElem?_eq_getElem this, List.getElem_idxOf]
/-- the numbers stay when the table grows -/
theorem idx_app {gs : List Fm} {b c : Fm} (h : c ∈ gs) : (gs ++ [b]).idxOf c = gs.idxOf c := by rw [List.idxOf_append, if_pos h]
theorem idx_new {gs : List Fm} {b : Fm} (h : b ∉ gs) : (gs ++ [b]).idxOf b = gs.length := by rw [List.idxOf_append, if_neg h]; simp
theorem nodup_few {α : Type} [DecidableEq α] : ∀ (l D : List α), l.Nodup → (∀ x ∈ l, x ∈ D) → l.length ≤ D.length
  | [], _, _, _ => Nat.zero_le _
  | x :: l, D, nd, sub => by
    rw [List.nodup_cons] at nd
    have hx := sub x List.mem_cons_self
    have ih := nodup_few l (D.erase x) nd.2 fun y hy => (List.mem_erase_of_ne fun e : y = x => nd.1 (by rw [← e]; exact hy)).mpr (sub y (List.mem_cons_of_mem _ hy))
    rw [List.length_erase_of_mem hx] at ih
    have := List.length_pos_of_mem hx
    rw [List.length_cons]
    omega
/-- a tuple with a formula's sign in front, no variable's -/
theorem im_sg {K : PySem.W.Frag} {H : Hp} {f : Fm} {a : Addr} {xs : List V} {ds : List PyData} (hv : f.isVar = false) (h : SqT K H a (.str f.sg :: xs)) (i : ImAll K H xs ds) : Im K H (.ref a) (.tuple (.str f.sg :: ds)) :=
  .tup h (.cons (.str _) i) fun y e => by
    have e2 := sg_var f
    rw [PyData.str.inj (List.cons.inj e).1, hv] at e2
    exact absurd e2 (by decide +kernel)
theorem kids_le2 (f : Fm) : f.kids.length ≤ 2 := by cases f <;> simp [Fm.kids]
theorem subs_len : ∀ f : Fm, f.subs.length = f.sz := by
  intro f
  induction f with
  | var n => rfl
  | fal => rfl
  | and a b h1 h2 => simp [Fm.subs, Fm.sz, h1, h2]; try omega
  | or a b h1 h2 => simp [Fm.subs, Fm.sz, h1, h2]; try omega
  | imp a b h1 h2 => simp [Fm.subs, Fm.sz, h1, h2]; try omega
  | box a h1 => simp [Fm.subs, Fm.sz, h1]; try omega
end E

set_option Elab.async false
set_option linter.all false
set_option maxRecDepth 100000
set_option maxHeartbeats 4000000
namespace E
open PySem PySem.Spec PyProof.Rows L2
/-! ### own classes made within a try; sets of a list's ints; dicts that do not differ -/
section
variable {X : Cx} {CX : CXT} {k : Nat} {f C : Addr} {fd : FuncData} {ps : List Str} {sp : Sp} {Wi : L2.St → XK} {x : Str} {p pos : Pos} {e : Expr} {es : List Expr} {t : TA}
/-- C(..) whose maker may raise: the wish is told at the slots as they stand -/
def tMakeAt (C : Addr) (sp : Sp) (Wi : L2.St → XK) (t : TA) : TE := fun σ H Q => t σ H fun vs H1 => ∀ x dx, H1 x = none → H1 dx = none → dx ≠ x →
  sp (.ref x :: vs) (upd (upd H1 dx (.own x)) x (.ins C dx [])) (fun v H2 => v = .non ∧ Q (.ref x) H2) (Wi σ)
theorem pe_makeAt (M : Mk X.K C f) (F : FnOk X.prog X.w X.K X.mg X.base CX k f fd ps sp) (hr : Room (k + 1) X.A) (hg : Gl X x) (hm : X.mg x = some (.ref C)) (hb : Binds X.K fd ps []) (hx : ∀ σ, PassesAt CX X σ (Wi σ)) (ha : PA X (e :: es) t)
    (hdb : (x == ("__debug__" : Str)) = false := by decide) (he : starEach (e :: es) X.env = (false, eval e X.env) :: starEach es X.env := by rfl) (hpl : (backTo pos (starEach es X.env)).any (·.1) = false := by rfl) :
    PE X (.Call (.Name x p) (e :: es) [] pos) (tMakeAt C sp Wi t) := by
  refine ⟨fun pins s σ H Q I h => wpAny_Call_Name_kw (ld_glob I hg hm (PySem.W.callWith_K (h₀ := X.base) I.ok.mod.kin M.kp (thn (ha.run pos pins s σ H _ I h) fun us s1 ⟨vs, H1, I1, r, q⟩ => ⟨I1.kIn, ?_⟩) he hpl) hdb)⟩
  have n1 := I1.hok.fresh (Nat.le_succ s1.heap.objs.size)
  have n0 := I1.hok.fresh (Nat.le_refl s1.heap.objs.size)
  have hq := q (s1.heap.objs.size + 1) s1.heap.objs.size n1 n0 (Nat.ne_of_lt (Nat.lt_succ_self _))
  have J := Inv.made (C := C) I1
  have rv : Vals (V.ref (s1.heap.objs.size + 1) :: vs) (Value.ref (s1.heap.objs.size + 1) :: us) := .cons rfl r
  have len : (Value.ref (s1.heap.objs.size + 1) :: us).length = ps.length := rv.length.symm.trans (F.len _ _ _ _ hq)
  have bd := hb _ (Value.ref (s1.heap.objs.size + 1) :: us) J.kIn (by rw [List.append_nil]; exact len)
  rw [List.append_nil] at bd
  show wpAny _ _ (call (.ref C) us) _ _ _
  refine wpAny_call (make_map (f := f) I1.kIn M.makes M.init (beq_iff_eq.mp M.fn) (codeAny_mono (F.run _ X.stack _ _ ⟨_, []⟩ _ _ _ (Wi σ) (hr.make C us []) (J.env0.make C us []) bd rv hq) fun res s' done => ?_))
  rcases res with er | fl
  · exact hx σ pins _ _ er s' J done
  · rcases fl with _ | _ | _ | u
    case ret =>
      obtain ⟨v, H', J', r', ev, q'⟩ := J.after done
      subst ev
      exact ⟨r', ⟨V.ref (s1.heap.objs.size + 1), H', J', rfl, q'⟩⟩
    all_goals exact done.elim
/-- the reading of a suite that is entered for errors of one class alone -/
def tOnly (cls : Value) (d : Option Addr) (D : Addr) (t : L2.TS) : L2.TS := fun En σ H => (cls = .ref D ∧ d = none) ∧ t En σ H
theorem pss_only {cls : Value} {d : Option Addr} {D : Addr} {b : List Stmt} {t : L2.TS} (h : cls = .ref D → d = none → PSs X b t) : PSs X b (tOnly cls d D t) :=
  ⟨fun pins s σ H En I q => (h q.1.1 q.1.2).run pins s σ H En I q.2⟩
theorem pss_only2 {cls : Value} {d : Option Addr} {D : Addr} {b : List Stmt} {t : L2.TS} {oe : Obj} (hz : Zc cls d oe) (h : Zc (.ref D) none oe → PSs X b t) : PSs X b (tOnly cls d D t) :=
  ⟨fun pins s σ H En I q => (h (by rw [← q.1.1, ← q.1.2]; exact hz)).run pins s σ H En I q.2⟩
/-- d != e of two dicts with the same keys, whose values are equal lists of ints -/
def rNeV (K : PySem.W.Frag) : R2 := fun x y H Q => ∃ a b ks ls, x = .ref a ∧ y = .ref b ∧ H a = some (.dK ks) ∧ H b = some (.dK ls) ∧ ks.length = ls.length ∧
  (∀ p ∈ ks, ∃ (u : V) (ns : List Int), valV ls p.1 = some u ∧ Dp K H p.2 (.list (ns.map PyData.int)) ∧ Dp K H u (.list (ns.map PyData.int))) ∧ Q (.bl false) H
theorem eqv_intsL (ns : List Int) : PyData.eqv (.list (ns.map PyData.int)) (.list (ns.map PyData.int)) = true := by
  have e : PySem.Spec.same (.list (ns.map PyData.int)) (.list (ns.map PyData.int)) = true := by
    simp only [PySem.Spec.same]
    rw [PySem.W.same_ints]
    exact decide_eq_true rfl
  rw [← e]
  exact (SeqAt.same_eq_eqv _ _ (by simp only [SeqAt.noMix]; exact PySem.W.noMix_ints ns ns)).symm
theorem hits_ints {H : Hp} {s : Shared} {A : Around} {pins : List (Addr × Obj)} {σ : L2.St} (I : Inv X pins σ H s) (hu : A.in1.units + 64 < cLine) {ls : List (Key × V)} {vb : List (Key × Value)} (rb : KV ls vb) {ks : List (Key × V)} {va : List (Key × Value)} (ra : KV ks va) :
    (∀ p ∈ ks, ∃ (u : V) (ns : List Int), valV ls p.1 = some u ∧ Dp X.K H p.2 (.list (ns.map PyData.int)) ∧ Dp X.K H u (.list (ns.map PyData.int))) → PySem.W.KeqHits A.in1 s vb va true := by
  unfold KV at ra
  induction ra with
  | nil => exact fun _ => .nil
  | @cons g q gs qs hgq _ more =>
    intro all
    obtain ⟨key, val⟩ := q
    obtain ⟨e1, e2⟩ := hgq
    obtain ⟨u, ns, hv, d1, d2⟩ := all g List.mem_cons_self
    obtain ⟨y, hy, ry⟩ := (show RelO (some u) (valueAt vb g.1) by rw [← hv]; exact rb.val g.1).some_of
    have e1 : g.1 = key := e1
    rw [e1] at hy
    obtain ⟨as, r1⟩ := Dp.reads I _ _ val d1 e2
    obtain ⟨bs, r2⟩ := Dp.reads I _ _ y d2 ry
    have one := PySem.W.keq_at (A := A) r1 r2 (shaped_ints ns) (shaped_ints ns) hu
    rw [eqv_intsL] at one
    exact PySem.W.KeqHits.hit hy one (more fun p' m => all p' (List.mem_cons_of_mem _ m))
theorem op_neV (hu : X.A.units + 66 < cLine) : OpR X (compareOp .NotEq) (rNeV X.K) := by
  intro pins s σ H x y v u Q I rx ry ⟨a, b, ks, ls, ex, ey, ha, hb, hl, hp, q⟩
  subst ex ey
  cases rx; cases ry
  obtain ⟨_, ya, va, ra, da⟩ := (show ObjOk X.prog X.w H s.heap a (.dK ks) from I.hok a _ ha)
  obtain ⟨_, yb, vb, rb, db⟩ := (show ObjOk X.prog X.w H s.heap b (.dK ls) from I.hok b _ hb)
  have e : va.length = vb.length := ra.length.symm.trans (hl.trans rb.length)
  refine PySem.W.keq_ne (knd := mixKind X.prog X.w) (r := true) ya yb da db (by omega) (fun _ => hits_ints (A := X.A) I (by show X.A.units + 1 + 64 < cLine; omega) rb ra hp) ⟨.bl false, H, I, ?_, q⟩
  simp [e, L2.RelV]
end
/-- an error of the class at S is what «except S» names -/
theorem exm_self {K : PySem.W.Frag} {S : Addr} (h1 : PySem.W.subIn K (.ref S) (.type "BaseException") = some true) (h2 : PySem.W.isClsIn K S = true) (h3 : PySem.W.typeIn K (.ref S) = some (.type "type")) (h4 : PySem.W.subIn K (.ref S) (.ref S) = some true) :
    PySem.W.exmOne K (.ref S) (.ref S) = some true := by
  have h2' : (PySem.W.clsIn K S).isSome = true := h2
  unfold PySem.W.exmOne PySem.W.kitCls
  simp [h1, h2', h3, h4]
end E

set_option Elab.async false
set_option linter.all false
set_option maxRecDepth 100000
set_option maxHeartbeats 4000000
namespace E
open PySem PySem.Spec PyProof.Rows L2
/-- an empty set as the model lays it -/
abbrev so0 (w : World) : Obj := { cls := .type "set", dict := none, data := .set #[] 0 (.fresh 0 0 (!w.params.followText "set-order")) }
/-- what set(xs) leaves: the members, in a heap that keeps all -/
def SetDone (w : World) (ns : List Int) (s : Shared) (h' : Heap) (c : Nat) : Prop := SetR w h' s.heap.objs.size (fun j => decide (j ∈ ns)) c ∧ c ≤ ns.length ∧ ∀ b o, s.heap.get? b = some o → h'.get? b = some o
section
variable {P : Program} {w : World} {A : Around} {Er : Value → Shared → Prop} {s : Shared}
theorem vals_at {items : Array Value} {ns : List Int} (hit : IntsAre items.toList ns) (hn : items.size = ns.length) (i : Nat) (v : Value) (hv : items[i]? = some v) : ∃ k t, ns[i]? = some k ∧ v = .int k t := by
  have hi : i < ns.length := hn ▸ (Array.getElem?_eq_some_iff.mp hv).1
  obtain ⟨t, e⟩ := IntsAre.int_at hit i v (by rw [Array.getElem?_toList, hv])
  exact ⟨ns[i], t, List.getElem?_eq_getElem hi, by rw [e, List.getD_eq_getElem?_getD, List.getElem?_eq_getElem hi, Option.getD_some]⟩
/-- the filling of the new set from the list at l -/
theorem fill_list {l : Addr} {items : Array Value} (ns : List Int) (hh : A.handled = none) (hl : s.heap.IsList l items) (hit : IntsAre items.toList ns) (hb : ns.length + 1 < scanBound) {R : Result → Shared → Prop}
    (hR : ∀ (h' : Heap) (tk c : Nat), SetDone w ns s h' c → R (.ok (.ret .none)) { s with heap := h', toks := tk }) :
    codeAny (model P w) A.in1.in1 (.builtin "set.update.loop" ⟨[.ref s.heap.objs.size, .ref (s.heap.push (so0 w)).objs.size], []⟩) R
      { s with heap := (s.heap.push (so0 w)).push { cls := .type "list_iterator", data := .fields #[.ref l, .int 0 0] } } := by
  have hn : items.size = ns.length := by
    rw [← Array.length_toList]
    exact IntsAre.length hit
  have low : l < s.heap.objs.size := let ⟨_, e, _⟩ := hl; Heap.lt_size e
  have sz : (s.heap.push (so0 w)).objs.size = s.heap.objs.size + 1 := Heap.size_push ..
  have nl : l ≠ (s.heap.push (so0 w)).objs.size := sz ▸ Nat.ne_of_lt (Nat.lt_succ_of_lt low)
  have out : s.heap.objs.size ∉ [(s.heap.push (so0 w)).objs.size, l] := by
    rw [sz]
    simp only [List.mem_cons, List.not_mem_nil, or_false, not_or]
    exact ⟨Nat.ne_of_lt (Nat.lt_succ_self _), (Nat.ne_of_lt low).symm⟩
  have at0 : ((s.heap.push (so0 w)).push { cls := .type "list_iterator", data := .fields #[.ref l, .int 0 0] }).get? s.heap.objs.size = some (so0 w) := Heap.get?_push_of_some _ (Heap.get?_push_size _ rfl)
  have W := Walks.list (prog := P) (w := w) (A := A.in1.in1.in1) (by simp [hh]) (s.heap.push (so0 w)).objs.size l nl items
  refine set_update_ints W.toS s.heap.objs.size out ns hn hb (vals_at hit hn) items.size 0 _ (Nat.sub_zero _) (Nat.zero_le _) ⟨⟨_, Heap.get?_push_size _ rfl, rfl, rfl⟩, (hl.push _).push _⟩ ⟨0, Nat.le_refl 0, setR_new_at at0⟩ fun s' c mv hc hS => ?_
  rcases s' with ⟨h', gg, dd, tt, oo⟩
  obtain rfl : gg = s.gens := mv.gens
  obtain rfl : dd = s.drawn := mv.drawn
  obtain rfl : oo = s.os := mv.os
  refine hR h' tt c ⟨hS, hn ▸ hc, fun b o e => mv.heap b o ?_ (Heap.get?_push_of_some _ (Heap.get?_push_of_some _ e))⟩
  have lt := Heap.lt_size e
  rw [sz]
  simp only [List.mem_cons, List.not_mem_nil, or_false, not_or]
  exact ⟨Nat.ne_of_lt lt, Nat.ne_of_lt (Nat.lt_succ_of_lt lt)⟩
/-- set(xs) of a list of ints -/
theorem call_set_ints {l : Addr} {items : Array Value} (ns : List Int) {Q : Value → Shared → Prop} (hh : A.handled = none) (hl : s.heap.IsList l items) (hit : IntsAre items.toList ns) (hb : ns.length + 1 < scanBound)
    (done : ∀ (h' : Heap) (tk c : Nat), SetDone w ns s h' c → Q (.ref s.heap.objs.size) { s with heap := h', toks := tk }) : wpAny (model P w) A (call (.type "set") [.ref l]) Q Er s := by
  obtain ⟨c0, t0, mro⟩ := F.called_set.mro
  have m1 := F.called_set.made
  have m2 := F.called_set.sub
  have m3 := F.called_set.notType
  have m4 := F.called_set.canCreate
  have m5 := F.typeCall_set_1 (.ref l)
  refine wpAny_call (codeAny_of_tree (show wpAny _ _ (callAny (.type "set") _) _ _ _ from wpAny_pure ⟨Code.quiet_builtin _ (by decide +kernel), codeAny_builtin F.entry_type_call ?_⟩))
  rw [Around.under_plain (weight_type_call_type "set" [.ref l] []) rfl]
  repeat (any_goals (first | assumption | wp_step))
  refine codeAny_mono (code_set_led1 (.ref l) (E := Er) (Q₁ := fun u s1 => u = .ref s.heap.objs.size ∧ s1 = { s with heap := s.heap.push (so0 w) }) ⟨rfl, rfl⟩) fun r s1 q => ?_
  rcases r with er | fl
  · exact q
  rcases fl with _ | _ | _ | u
  case ret =>
    obtain ⟨rfl, rfl⟩ := q
    have at0 : (s.heap.push (so0 w)).get? s.heap.objs.size = some (so0 w) := Heap.get?_push_size _ rfl
    have isSet : Shared.TypeIs { s with heap := s.heap.push (so0 w) } (.ref s.heap.objs.size) "set" := ⟨_, at0, rfl⟩
    have i1 := F.called_set.init.lookup
    have i2 := F.called_set.init.bind (.ref s.heap.objs.size)
    repeat (any_goals (first | assumption | wp_step))
    refine codeAny_mono (codeAny_call_builtin (R := wants (fun r s2 => r = .none ∧ ∃ h' tk c, s2 = { s with heap := h', toks := tk } ∧ SetDone w ns s h' c) Er) F.called_set.init.plain F.entry_set_init (check_set_init_1 isSet ?_)) fun r2 s2 q2 => ?_
    · have hl1 : (s.heap.push (so0 w)).IsList l items := hl.push _
      obtain ⟨ol, e0, hcl, nl, hdl⟩ := hl1
      obtain ⟨ocls, odict, odata, oslots⟩ := ol
      obtain rfl : ocls = _ := hcl
      obtain rfl : odata = _ := hdl
      have z1 := F.sub_list_set
      have z2 := F.sub_list_frozenset
      have z3 : (Value.type "list" == Value.type "dict") = false := by decide
      unfold Builtin.«set.__init__» noKeywords Builtin.Frozenset.updateFrom
      generalize hPI : pyIter = PI
      wp_walk
      subst hPI
      refine wpAny_pyIter_list (hl.push _) (wpAny_bind (wpAny_runValue (fill_list ns hh hl hit hb fun h' tk c d => ?_)))
      refine wpAny_pure (show wpAny _ _ (ret Value.none) _ _ _ from wpAny_pure ⟨rfl, h', tk, c, rfl, d⟩)
    · rcases r2 with er | fl2
      · exact q2
      rcases fl2 with _ | _ | _ | u2
      case ret =>
        obtain ⟨rfl, h', tk, c, rfl, d⟩ := q2
        repeat (any_goals (first | assumption | wp_step))
        exact done _ _ _ d
      all_goals exact q2.elim
  all_goals exact q.elim
end
section
variable {X : Cx}
def rSetLI (w : World) (K : PySem.W.Frag) : List V → Hp → VK → Prop := fun xs H Q => ∃ (l : Addr) (ns : List Int), xs = [V.ref l] ∧ SqL K H l (ns.map V.int) ∧ ns.length ≤ 1000 ∧
  ∀ (a : Addr) (c : Nat), H a = none → c ≤ ns.length → Q (.ref a) (upd H a (SetO w a (fun j => decide (j ∈ ns)) c))
theorem cr_setLI (hc : X.calm = true) : CallR X (.type "set") (rSetLI X.w X.K) := by
  intro pins s σ H xs us Q I r ⟨l, ns, ex, hl, hn, q⟩
  subst ex
  rw [Vals.ref1 r]
  obtain ⟨its, rv, pl, _⟩ := I.list hl
  refine call_set_ints ns (I.ok.hd hc) pl.isList (by simpa using rv.ints) (by unfold scanBound; omega) fun h' tk c d => ?_
  exact ⟨.ref _, _, I.laid (t' := tk) d.2.2 (Nat.le_refl _) (setO_new d.1), rfl, q _ c (I.hok.fresh (Nat.le_refl _)) d.2.1⟩
theorem cr_setLI2 (hc : X.calm = true) (_ : X.A.units + 64 < cLine) : CallR X (.type "set") (rSetLI X.w X.K) := cr_setLI hc
end
end E

set_option Elab.async false
set_option linter.all false
set_option maxRecDepth 100000
set_option maxHeartbeats 4000000
namespace E
open PySem PySem.Spec PyProof.Rows L2 LamX NdefX
/-! ### a def of the text that makes functions: its code object is known -/
structure FunC (K : PySem.W.Frag) (x qual : Str) (st : Stmt) (f : Addr) (fd : FuncData) (c : Addr) : Prop where
  ex : ∃ (oc : Value) (od : Option Addr) (kV doc pm : Value) (an : Option Addr) (ct : Value) (osl : Array (Option Value)),
    fd = PySem.W.fnOf x qual (defArgs st) (defBody st) (defScope st) .none kV doc pm an (.ref c) ct ∧ K.lookup f = some ⟨oc, od, .func fd, osl⟩ ∧ PySem.W.codeIn K (.ref c) qual = true
section
variable {P : Program} {w : World} {K : PySem.W.Frag} {mg : Str → Option Value} {base : Heap}
theorem FunC.ok {x qual : Str} {st : Stmt} {f c : Addr} {fd : FuncData} {N ps : List Str} {k : Nat} {sp : Sp} (F : FunC K x qual st f fd c) (S : FnScope N ps (defScope st)) (len : ∀ vs H Q E, sp vs H Q E → vs.length = ps.length)
    (hbody : ∀ (A : Around) (outer : List Env) (s : Shared) (H : Hp) (vs : List V) (Q : VK) (E : XK), Room k (A.deeper (envOfC qual (defScope st) s.heap.objs.size f (.ref c))) → sp vs H Q E →
      ∃ t, PSs (cxOf CX0 P w K mg base N qual (defScope st) f (.ref c) A outer s H E).nox (defBody st) t ∧ t { nx := fun _ H' => Q .non H', rt := Q } (start N vs) H) : FnOk P w K mg base CX0 (k + 1) f fd ps sp := by
  obtain ⟨oc, od, kV, doc, pm, an, ct, osl, rfl, lk, hcd⟩ := F.ex
  refine fn_of lk hcd S len fun A outer s H vs Q E hr hsp => ?_
  obtain ⟨t, h, q⟩ := hbody A outer s H vs Q E hr hsp
  exact ⟨t, h.nox, q⟩
/-- .. that may raise -/
theorem FunC.okX {x qual : Str} {st : Stmt} {f c : Addr} {fd : FuncData} {N ps : List Str} {k : Nat} {sp : Sp} (F : FunC K x qual st f fd c) (S : FnScope N ps (defScope st)) (len : ∀ vs H Q E, sp vs H Q E → vs.length = ps.length)
    (hbody : ∀ (A : Around) (outer : List Env) (s : Shared) (H : Hp) (vs : List V) (Q : VK) (E : XK), Room k (A.deeper (envOfC qual (defScope st) s.heap.objs.size f (.ref c))) → sp vs H Q E →
      ∃ t, PSs (cxOf (L2.CX P w) P w K mg base N qual (defScope st) f (.ref c) A outer s H E) (defBody st) t ∧ t { nx := fun _ H' => Q .non H', rt := Q } (start N vs) H) : FnOk P w K mg base (L2.CX P w) (k + 1) f fd ps sp := by
  obtain ⟨oc, od, kV, doc, pm, an, ct, osl, rfl, lk, hcd⟩ := F.ex
  exact fn_of lk hcd S len hbody
theorem func_mk {x qual : Str} {st : Stmt} {f : Addr} {oc : Value} {od an : Option Addr} {osl : Array (Option Value)} {kV doc pm ct : Value} {cd : Addr} (l : K.lookup f = some ⟨oc, od, .func (PySem.W.fnOf x qual (defArgs st) (defBody st) (defScope st) .none kV doc pm an (.ref cd) ct), osl⟩)
    (c : PySem.W.codeIn K (.ref cd) qual = true) : FunC K x qual st f (PySem.W.fnOf x qual (defArgs st) (defBody st) (defScope st) .none kV doc pm an (.ref cd) ct) cd := ⟨⟨oc, od, kV, doc, pm, an, ct, osl, rfl, l, c⟩⟩
end
/-- all but the tables stay: tuples, lists, what else is told -/
theorem extn_ts {H H' : Hp} (e : ExtN H H') : TS H H' := ⟨fun b xs r => by
  rcases r with r | ⟨o, r⟩
  · exact .inl (e _ _ r fun _ z => nomatch z)
  · exact .inr ⟨o, e _ _ r fun _ z => nomatch z⟩, fun b xs r => e _ _ r fun _ z => nomatch z⟩
theorem extn_sqL {K : PySem.W.Frag} {H H' : Hp} {a : Addr} {xs : List V} (e : ExtN H H') (h : SqL K H a xs) : SqL K H' a xs := by
  rcases h with (r | ⟨o, r⟩) | r
  · exact .inl (.inl (e _ _ r fun _ z => nomatch z))
  · exact .inl (.inr ⟨o, e _ _ r fun _ z => nomatch z⟩)
  · exact .inr r
theorem extn_pl {K : PySem.W.Frag} {H H' : Hp} {p l : Addr} (e : ExtN H H') (h : Pl K H p l) : Pl K H' p l := by
  obtain ⟨i, r, c, s, h1, h2⟩ := h.at5
  obtain ⟨cs, hs⟩ := h.sq
  exact ⟨⟨cs, extn_sqL e hs⟩, h.ne, i, r, c, s, (e _ _ h1 fun _ z => nomatch z), h2⟩
/-- one object, no table, is changed: the tables stay -/
theorem tabs_kp {T : List NTab} {H H' : Hp} {p : Addr} {u : HO} (t : TabsN T H) (k : Kp p H H') (hp : H p = some u) (hu : ∀ ps, u ≠ .tbl ps) (hc : ∀ f, u ≠ .ext f) : TabsN T H' := fun q hq => by
  obtain ⟨ps, h1, h2, h3⟩ := t q hq
  refine ⟨ps, k _ _ h1 (fun z => by rw [z, hp] at h1; exact hu _ (Option.some.inj h1)), h2, fun pos cv hcv => ?_⟩
  obtain ⟨c, e1, e2⟩ := h3 pos cv hcv
  exact ⟨c, e1, k _ _ e2 (fun z => by rw [z, hp] at e2; exact hc _ (Option.some.inj e2))⟩
theorem tabs_kpl {T : List NTab} {H H' : Hp} {p : Addr} {xs : List V} (t : TabsN T H) (k : Kp p H H') (hp : H p = some (.lst xs)) : TabsN T H' := tabs_kp t k hp (fun _ z => nomatch z) fun _ z => nomatch z
/-- all tables are empty -/
theorem tabs_start {T : List NTab} {cs : List (Addr × Addr)} {H : Hp} (e : T.map (·.1) = cs.map (·.2)) (h : ∀ p ∈ cs, H p.2 = some (.tbl #[])) : TabsN T H := fun q hq => by
  have hm : q.1 ∈ cs.map (·.2) := by rw [← e]; exact List.mem_map.mpr ⟨q, hq, rfl⟩
  obtain ⟨p, hp, ep⟩ := List.mem_map.mp hm
  exact TabN.nil (by rw [← ep]; exact h p hp)
theorem tab_uniq : ∀ {T : List NTab}, (T.map (·.1)).Nodup → ∀ {P : Addr} {nm : Nat → Nat → Str}, (P, nm) ∈ T → ∀ p ∈ T, p.1 = P → p.2 = nm
  | [], _, _, _, h => nomatch h
  | t :: T, nd, P, nm, h => fun p hp e => by
    rw [List.map_cons, List.nodup_cons] at nd
    rcases List.mem_cons.mp h with h1 | h1
    · subst h1
      rcases List.mem_cons.mp hp with h2 | h2
      · rw [h2]
      · exact absurd (List.mem_map.mpr ⟨p, h2, e⟩) nd.1
    · rcases List.mem_cons.mp hp with h2 | h2
      · subst h2
        exact absurd (List.mem_map.mpr ⟨_, h1, e.symm⟩) nd.1
      · exact tab_uniq nd.2 h1 p h2 e
end E

set_option Elab.async false
set_option linter.all false
set_option maxRecDepth 100000
set_option maxHeartbeats 4000000
namespace E
open PySem PySem.Spec PyProof.Rows L2 LamX NdefX
/-! ### tuples and known things stay -/
def TZ (H H' : Hp) : Prop := TS H H' ∧ ∀ b o u, H b = some (.frz o u) → H' b = some (.frz o u)
theorem TZ.refl (H : Hp) : TZ H H := ⟨TS.refl H, fun _ _ _ h => h⟩
theorem TZ.trans {H H1 H2 : Hp} (a : TZ H H1) (b : TZ H1 H2) : TZ H H2 := ⟨a.1.trans b.1, fun c o u h => b.2 _ _ _ (a.2 _ _ _ h)⟩
theorem TZ.but {H H' : Hp} {d : Addr} {u : HO} (hd : H d = some u) (h1 : ∀ xs, u ≠ .tup xs) (h2 : ∀ o v, u ≠ .frz o v) (k : ∀ c o, H c = some o → c ≠ d → H' c = some o) : TZ H H' :=
  ⟨TS.but hd h1 (fun o xs => h2 o (.tup xs)) k, fun c o v r => k _ _ r fun e => by
    rw [e, hd] at r
    exact h2 o v (Option.some.inj r)⟩
theorem Same.tz {H H' : Hp} (s : Same H H') : TZ H H' := ⟨Same.ts s, fun _ _ _ h => s _ _ h⟩
theorem Kp.tz {p : Addr} {H H' : Hp} {xs : List V} (k : Kp p H H') (h : H p = some (.lst xs)) : TZ H H' := TZ.but h (fun _ e => nomatch e) (fun _ _ e => nomatch e) k
/-! ### cells that are known while other defs run -/
/-- the cells of cl, each known to its object; ws: what the captured names hold (some v) or may hold (none) -/
structure WithC (cl : List (Str × Addr)) (fr : List Str) (ws : List (Option V)) (H : Hp) : Prop where
  len : ws.length = fr.length
  inj : ∀ x y c, cl.lookup x = some c → cl.lookup y = some c → x = y
  all : ∀ p ∈ cl, ∃ o v, H p.2 = some (.frz o (.own p.2)) ∧ o.data = .cell v
  has : ∀ (i : Nat) (y : Str), fr[i]? = some y → ∃ c, cl.lookup y = some c ∧ ∀ v, ws[i]? = some (some v) → ∃ u o, L2.RelV v u ∧ H c = some (.frz o (.own c)) ∧ o.data = .cell (some u)
theorem WithC.same {cl : List (Str × Addr)} {fr : List Str} {ws : List (Option V)} {H H' : Hp} (W : WithC cl fr ws H) (s : ∀ b o u, H b = some (.frz o u) → H' b = some (.frz o u)) : WithC cl fr ws H' := by
  refine ⟨W.len, W.inj, fun p hp => ?_, fun i y e => ?_⟩
  · obtain ⟨o, v, h1, h2⟩ := W.all p hp
    exact ⟨o, v, s _ _ _ h1, h2⟩
  · obtain ⟨c, h1, h2⟩ := W.has i y e
    refine ⟨c, h1, fun v hv => ?_⟩
    obtain ⟨u, o, r, h3, h4⟩ := h2 v hv
    exact ⟨u, o, r, s _ _ _ h3, h4⟩
/-- the addresses of the cells -/
def AtC (cl : List (Str × Addr)) (b : Addr) : Prop := ∃ p ∈ cl, p.2 = b
open Classical in
/-- without the cells -/
noncomputable def offC (cl : List (Str × Addr)) (H : Hp) : Hp := fun b => if AtC cl b then none else H b
open Classical in
/-- the cells back -/
noncomputable def onC (cl : List (Str × Addr)) (H H' : Hp) : Hp := fun b => if AtC cl b then H b else H' b
section
variable {cl : List (Str × Addr)} {fr : List Str} {ws : List (Option V)} {H H' H1 : Hp} {b : Addr} {o : HO}
theorem offC_at (h : AtC cl b) : offC cl H b = none := by unfold offC; rw [if_pos h]
theorem offC_ne (h : ¬ AtC cl b) : offC cl H b = H b := by unfold offC; rw [if_neg h]
theorem onC_at (h : AtC cl b) : onC cl H H' b = H b := by unfold onC; rw [if_pos h]
theorem onC_ne (h : ¬ AtC cl b) : onC cl H H' b = H' b := by unfold onC; rw [if_neg h]
theorem offC_some (h : offC cl H b = some o) : ¬ AtC cl b ∧ H b = some o := by
  by_cases c : AtC cl b
  · rw [offC_at c] at h; cases h
  · rw [offC_ne c] at h; exact ⟨c, h⟩
theorem offC_none (h : H b = none) : offC cl H b = none := by
  by_cases c : AtC cl b
  · exact offC_at c
  · rw [offC_ne c]; exact h
theorem WithC.at_ (W : WithC cl fr ws H) (h : AtC cl b) : ∃ o v, H b = some (.frz o (.own b)) ∧ o.data = .cell v := by
  obtain ⟨p, hp, rfl⟩ := h
  exact W.all p hp
/-- what is no cell's record is none of the cells -/
theorem WithC.off (W : WithC cl fr ws H) (h : H b = some o) (n : ∀ ob, o ≠ .frz ob (.own b)) : offC cl H b = some o := by
  have c : ¬ AtC cl b := fun z => by
    obtain ⟨ob, v, h1, _⟩ := W.at_ z
    rw [h] at h1
    exact n ob (Option.some.inj h1)
  rw [offC_ne c]; exact h
theorem WithC.offRd (W : WithC cl fr ws H) {u : HO} (h : Rd H b u) (n1 : ∀ ob x, u ≠ .frz ob x) (n2 : ∀ x, u ≠ .own x) : Rd (offC cl H) b u := by
  rcases h with h | ⟨ob, h⟩
  · exact .inl (W.off h fun ob z => n1 _ _ z)
  · refine .inr ⟨ob, W.off h fun ob' z => ?_⟩
    injection z with _ z2
    exact n2 _ z2
theorem WithC.ts (W : WithC cl fr ws H) : TS H (offC cl H) := ⟨fun b xs h => W.offRd h (fun _ _ e => nomatch e) (fun _ e => nomatch e), fun b xs h => W.off h fun _ e => nomatch e⟩
theorem WithC.sqL {K : PySem.W.Frag} {xs : List V} (W : WithC cl fr ws H) (h : SqL K H b xs) : SqL K (offC cl H) b xs := by
  rcases h with h | h
  · exact .inl (W.offRd h (fun _ _ e => nomatch e) (fun _ e => nomatch e))
  · exact .inr h
theorem WithC.frz (W : WithC cl fr ws H) {ob : Obj} {u : HO} (h : H b = some (.frz ob u)) (n : ∀ x, u ≠ .own x) : offC cl H b = some (.frz ob u) := W.off h fun ob' z => by
  injection z with _ z2
  exact n _ z2
theorem WithC.tab {T : List NTab} (W : WithC cl fr ws H) (t : TabsN T H) : TabsN T (offC cl H) := fun p hp => by
  obtain ⟨ps, h1, h2, h3⟩ := t p hp
  refine ⟨ps, W.off h1 (fun _ e => nomatch e), h2, fun pos cv hcv => ?_⟩
  obtain ⟨c, e1, e2⟩ := h3 pos cv hcv
  exact ⟨c, e1, W.off e2 (fun _ e => nomatch e)⟩
/-- what is kept without the cells is kept with them -/
theorem on_same (h : L2.Same (offC cl H) H') : L2.Same H (onC cl H H') := fun b o e => by
  by_cases c : AtC cl b
  · rw [onC_at c]; exact e
  · rw [onC_ne c]
    exact h _ _ (by rw [offC_ne c]; exact e)
theorem on_new (n : ∀ b, AtC cl b → H' b = none) (h : H' b = some o) : onC cl H H' b = some o := by
  rw [onC_ne fun c => by rw [n b c] at h; cases h]; exact h
/-- what the cells hold, to their objects -/
theorem WithC.cells {P : Program} {w : World} {h : Heap} (W : WithC cl fr ws H) (ok : HOk P w H h) : CellsAt cl fr ws h (offC cl H) := by
  have lk : ∀ y c, cl.lookup y = some c → AtC cl c := fun y c e => ⟨_, PySem.mem_of_lookup e, rfl⟩
  refine ⟨W.len, fun y c e => ?_, W.inj, fun i y e => ?_⟩
  · obtain ⟨o, v, h1, h2⟩ := W.at_ (lk y c e)
    obtain ⟨z, _⟩ := ok _ _ h1
    exact ⟨offC_at (lk y c e), v, o, z, h2⟩
  · obtain ⟨c, h1, h2⟩ := W.has i y e
    refine ⟨c, h1, fun v hv => ?_⟩
    obtain ⟨u, o, r, h3, h4⟩ := h2 v hv
    obtain ⟨z, _⟩ := ok _ _ h3
    exact ⟨u, r, o, z, h4⟩
theorem WithC.hok {P : Program} {w : World} {h : Heap} (W : WithC cl fr ws H) (ok : HOk P w H h) : HOk P w (offC cl H) h := fun a o e => by
  obtain ⟨_, e'⟩ := offC_some e
  exact (ok a o e').stay (fun _ _ _ q => q) (fun b q => W.off q fun _ z => nomatch z) fun b xs q => W.off q fun _ z => nomatch z
theorem WithC.env0 {P : Program} {w : World} {K : PySem.W.Frag} {mg : Str → Option Value} {base : Heap} {A : Around} {outer : List Env} {s : Shared} (W : WithC cl fr ws H) (e : Env0 P w K mg base A outer s H) : Env0 P w K mg base A outer s (offC cl H) :=
  ⟨e.frames, e.mod, fun b o q => ⟨(e.bs b o q).1, offC_none (e.bs b o q).2⟩, e.bsz, e.funs, fun b hb => offC_none (e.frf b hb), W.hok e.hok, e.bare⟩
/-- behind the captured function's run: the cells are known again -/
theorem WithC.back {P : Program} {w : World} {outer : List Env} {s s' : Shared} {u : Value} {Q : VK} (W : WithC cl fr ws H) (ok : HOk P w H s.heap) (frf : ∀ b ∈ frs outer, H b = none)
    (h : CE outer P w (offC cl H) s (fun v H' => (∀ b, AtC cl b → H' b = none) → Q v (onC cl H H')) u s') : CE outer P w H s Q u s' := by
  obtain ⟨v, H', os, bare, un, hok, r, q⟩ := h
  have cg : ∀ {b}, AtC cl b → ∃ o, H b = some (.frz o (.own b)) ∧ s.heap.get? b = some o := fun {b} c => by
    obtain ⟨o, v, h1, _⟩ := W.at_ c
    obtain ⟨z, _⟩ := ok _ _ h1
    exact ⟨o, h1, z⟩
  have cn : ∀ {b}, AtC cl b → H' b = none := fun {b} c => by
    obtain ⟨o, _, h2⟩ := cg c
    exact un.free b o h2 (offC_at c) (by simp)
  have nof : ∀ {b}, AtC cl b → b ∉ frs outer := fun {b} c z => by
    obtain ⟨o, h1, _⟩ := cg c
    rw [frf b z] at h1; cases h1
  have nn : ∀ {b}, H b = none → ¬ AtC cl b := fun {b} n c => by
    obtain ⟨o, h1, _⟩ := cg c
    rw [n] at h1; cases h1
  refine ⟨v, onC cl H H', os, bare, ⟨fun b o e n hb hx => un.keep b o e (offC_none n) hb hx, fun b o e n hb hx => un.slot b o e (offC_none n) hb hx, fun b o e n hx => ?_, un.there, fun b xs e => ?_, fun b o x e => ?_, fun b ps e => ?_⟩, fun a o e => ?_, r, q fun b c => cn c⟩
  · rw [onC_ne (nn n)]
    exact un.free b o e (offC_none n) hx
  · by_cases c : AtC cl b
    · rw [onC_at c]; exact e
    · rw [onC_ne c]; exact un.tups b xs (by rw [offC_ne c]; exact e)
  · by_cases c : AtC cl b
    · rw [onC_at c]; exact e
    · rw [onC_ne c]; exact un.frzs b o x (by rw [offC_ne c]; exact e)
  · by_cases c : AtC cl b
    · exact ⟨#[], by rw [onC_at c, e]; simp⟩
    · obtain ⟨m, z⟩ := un.tbls b ps (by rw [offC_ne c]; exact e)
      exact ⟨m, by rw [onC_ne c]; exact z⟩
  · by_cases c : AtC cl a
    · rw [onC_at c] at e
      obtain ⟨o', h1, h2⟩ := cg c
      rw [h1] at e
      cases e
      have k := un.keep a o' h2 (offC_at c) (nof c) (by simp)
      exact ⟨k, o', k⟩
    · rw [onC_ne c] at e
      refine (hok a o e).stay (fun _ _ _ z => z) (fun b z => ?_) fun b xs z => ?_
      · rw [onC_ne fun k => by rw [cn k] at z; cases z]; exact z
      · rw [onC_ne fun k => by rw [cn k] at z; cases z]; exact z
end
/-- the promise of a function with captured cells, where these are known -/
noncomputable def capSp (cl : List (Str × Addr)) (ws : List (Option V)) (sp : List (Option V) → Sp) : Sp := fun vs H Q E => sp ws vs (offC cl H) (fun v H' => (∀ b, AtC cl b → H' b = none) → Q v (onC cl H H')) E
/-! ### what is returned new is known from now on -/
def Fzb : HO → Prop
  | .lst _ => True
  | .dK _ => True
  | _ => False
def frzSp (sp : Sp) : Sp := fun vs H Q E => sp vs H (fun v H' => ∃ a u, v = .ref a ∧ H a = none ∧ H' a = some u ∧ Fzb u ∧ ∀ o, Q v (upd H' a (.frz o u))) E
theorem ce_frz {outer : List Env} {P : Program} {w : World} {H : Hp} {s s' : Shared} {u : Value} {Q : VK} (h : CE outer P w H s (fun v H' => ∃ a u, v = .ref a ∧ H a = none ∧ H' a = some u ∧ Fzb u ∧ ∀ o, Q v (upd H' a (.frz o u))) u s') : CE outer P w H s Q u s' := by
  obtain ⟨v, H', os, bare, un, hok, r, a, x, rfl, h1, h2, hz, q⟩ := h
  have old : s.heap.get? a = none := by
    cases e : s.heap.get? a with
    | none => rfl
    | some o => rw [un.free a o e h1 (by simp)] at h2; cases h2
  obtain ⟨o, ho⟩ : ∃ o, s'.heap.get? a = some o := by
    have := hok a x h2
    cases x with
    | lst xs => obtain ⟨_, its, n, _, e⟩ := this; exact ⟨_, e⟩
    | dK kvs => obtain ⟨_, _, vs, _, ob, es, ep, e, _⟩ := this; exact ⟨_, e⟩
    | _ => exact hz.elim
  have ne : ∀ b y, H b = some y → b ≠ a := fun b y e z => by rw [z, h1] at e; cases e
  have nt : ∀ xs, x ≠ .tup xs := fun xs e => by rw [e] at hz; exact hz
  have no : ∀ y, x ≠ .own y := fun y e => by rw [e] at hz; exact hz
  refine ⟨.ref a, upd H' a (.frz o x), os, bare, ⟨un.keep, un.slot, fun b ob e n hx => ?_, un.there, fun b xs e => ?_, fun b ob y e => ?_, fun b ps e => ?_⟩, fun b y e => ?_, r, q o⟩
  · rw [upd_ne fun z => by rw [z, old] at e; cases e]
    exact un.free b ob e n hx
  · rw [upd_ne (ne _ _ e)]; exact un.tups b xs e
  · rw [upd_ne (ne _ _ e)]; exact un.frzs b ob y e
  · obtain ⟨m, z⟩ := un.tbls b ps e
    exact ⟨m, by rw [upd_ne (ne _ _ e)]; exact z⟩
  · have key : ∀ b y, H' b = some y → ObjOk P w (upd H' a (.frz o x)) s'.heap b y := fun b y e => (hok b y e).stay (fun _ _ _ z => z)
      (fun c z => by rw [upd_ne fun k => by rw [k, h2] at z; exact no _ (Option.some.inj z)]; exact z) fun c xs z => by rw [upd_ne fun k => by rw [k, h2] at z; exact nt _ (Option.some.inj z)]; exact z
    by_cases c : b = a
    · subst c
      rw [upd_same] at e
      cases e
      exact ⟨ho, key b x h2⟩
    · rw [upd_ne c] at e
      exact key b y e
section
variable {P : Program} {w : World} {K : PySem.W.Frag} {mg : Str → Option Value} {base : Heap} {k : Nat} {f : Addr} {ps fr : List Str}
theorem cr_frz {outer : List Env} {H : Hp} {s : Shared} {Q : VK} {E E' : XK} {r : Result} {s' : Shared} (h : CR CX0 outer P w H s (fun v H' => ∃ a u, v = .ref a ∧ H a = none ∧ H' a = some u ∧ Fzb u ∧ ∀ o, Q v (upd H' a (.frz o u))) E r s') : CR CX0 outer P w H s Q E' r s' := by
  cases r with
  | error e => exact h
  | ok fl =>
    cases fl with
    | ret u => exact ce_frz h
    | next => exact h
    | brk => exact h
    | cont => exact h
theorem nok_frz {F : NF} {sp : List (Option V) → Sp} (o : NOk P w K mg base CX0 k f F ps fr sp) : NOk P w K mg base CX0 k f F ps fr (fun ws => frzSp (sp ws)) :=
  ⟨fun ws vs H Q E q => o.len _ _ _ _ _ q, fun A outer s H us vs ws Q E hr e0 hf hc C r q => codeAny_mono (o.run A outer s H us vs ws _ E hr e0 hf hc C r q) fun r s' z => cr_frz z⟩
theorem fn_frz {fd : FuncData} {sp : Sp} (o : FnOk P w K mg base CX0 k f fd ps sp) : FnOk P w K mg base CX0 k f fd ps (frzSp sp) :=
  ⟨fun vs H Q E q => o.len _ _ _ _ q, fun A outer s H args us vs Q E hr e0 hb r q => codeAny_mono (o.run A outer s H args us vs _ E hr e0 hb r q) fun r s' z => cr_frz z⟩
end
/-! ### a call of a parameter that holds a function with captured cells -/
inductive CalC (P : Program) (w : World) (K : PySem.W.Frag) (mg : Str → Option Value) (base : Heap) (k : Nat) (f : Addr) (sp : Sp) (H : Hp) : Prop
  | pl (c : Cal P w K mg base k f sp H)
  | cap {F : NF} {ps fr : List Str} {ws : List (Option V)} {sp' : List (Option V) → Sp} (o : NOk P w K mg base CX0 k f F ps fr sp') (h : H f = some (FnO f F)) (hc : H F.c = some (CodeO F.c F.qual)) (W : WithC F.cl fr ws H) (e : ∀ vs H Q E, sp vs H Q E → capSp F.cl ws sp' vs H Q E)
theorem CalC.same {P : Program} {w : World} {K : PySem.W.Frag} {mg : Str → Option Value} {base : Heap} {k : Nat} {f : Addr} {sp : Sp} {H H' : Hp} (c : CalC P w K mg base k f sp H) (s : ∀ b F, H b = some (.ext F) → H' b = some (.ext F)) (z : ∀ b o u, H b = some (.frz o u) → H' b = some (.frz o u)) : CalC P w K mg base k f sp H' := by
  cases c with
  | pl c => exact .pl (c.same s)
  | cap o h hc W e => exact .cap o (s _ _ h) (s _ _ hc) (W.same z) e
def tCallZ (P : Program) (w : World) (K : PySem.W.Frag) (mg : Str → Option Value) (base : Heap) (k i : Nat) (t : TA) : TE := fun σ H Q => ∃ (f : Addr) (sp : Sp), σ[i]? = some (some (.ref f)) ∧ CalC P w K mg base k f sp H ∧
  t σ H fun vs H1 => CalC P w K mg base k f sp H1 ∧ (∀ b F, H b = some (.ext F) → H1 b = some (.ext F)) ∧ (∀ b o u, H b = some (.frz o u) → H1 b = some (.frz o u)) ∧ sp vs H1 Q (fun _ _ _ => False)
section
variable {X : Cx} {i j k : Nat} {x : Str} {p pos : Pos} {e : Expr} {es : List Expr} {t : TA}
theorem run_cap {pins : List (Addr × Obj)} {σ : L2.St} {H : Hp} {s : Shared} {Q : VK} {f : Addr} {F : NF} {ps fr : List Str} {ws : List (Option V)} {us : List Value} {vs : List V} {sp : List (Option V) → Sp} (o : NOk X.prog X.w X.K X.mg X.base CX0 k f F ps fr sp) (hr : Room j X.A) (hk : k ≤ j) (I : Inv X pins σ H s)
    (hf : H f = some (FnO f F)) (hc : H F.c = some (CodeO F.c F.qual)) (W : WithC F.cl fr ws H) (r : Vals vs us) (q : capSp F.cl ws sp vs H Q (fun _ _ _ => False)) :
    wpAny (model X.prog X.w) X.A (call (.ref f) us) (EP X pins σ Q) X.xe s := by
  refine wpAny_call (codeAny_mono (o.run X.A X.stack s (offC F.cl H) us vs ws _ _ (hr.mono hk) (W.env0 I.env0) (W.off hf fun _ e => nomatch e) (W.off hc fun _ e => nomatch e) (W.cells I.hok) r q) fun r s' hq => ?_)
  cases r with
  | error e => exact (show False from hq).elim
  | ok fl =>
    cases fl with
    | ret u => exact I.after (W.back I.hok I.stkFree hq)
    | next => exact False.elim hq
    | brk => exact False.elim hq
    | cont => exact False.elim hq
theorem pe_callZ (hr : Room j X.A) (hk : k ≤ j) (hN : X.N[i]? = some x) (hv : Vis X.env.scope x) (ha : PA X (e :: es) t)
    (hdb : (x == ("__debug__" : Str)) = false := by decide) (hcd : (x == ("__classdict__" : Str)) = false := by decide)
    (he : starEach (e :: es) X.env = (false, eval e X.env) :: starEach es X.env := by rfl) (hpl : (backTo pos (starEach es X.env)).any (·.1) = false := by rfl) :
    PE X (.Call (.Name x p) (e :: es) [] pos) (tCallZ X.prog X.w X.K X.mg X.base k i t) := by
  refine ⟨fun pins s σ H Q I ⟨f, sp, hs, hc, ht⟩ => ?_⟩
  cases hc with
  | pl c =>
    refine wpAny_Call_Name_kw (thn ((pe_var (pos := p) hN hv hdb hcd).run pins s σ H (fun v H1 => v = .ref f ∧ H1 = H) I ⟨.ref f, hs, rfl, rfl⟩) fun u s1 ⟨v, H1, I1, r1, q1, q2⟩ => ?_)
    subst q1 q2
    obtain rfl : u = Value.ref f := r1
    cases c with
    | @top fd ps o kp b =>
      refine PySem.W.callWith_K (h₀ := X.base) I.ok.mod.kin kp (thn (ha.run pos pins s1 σ _ _ I1 ht) fun us s2 ⟨vs, H2, I2, r, _, _, _, q⟩ => ⟨I2.kIn, ?_⟩) he hpl
      refine run_fn (dvs := []) (E := fun _ _ _ => False) o (hr.mono hk) b .nil pass0 I2 r ?_
      rw [List.append_nil]
      exact q
    | @made F ps o cl h hcode =>
      refine PySem.W.callWith_F (first := []) (fnAt_of I1 h) (thn (ha.run pos pins s1 σ _ _ I1 ht) fun us s2 ⟨vs, H2, I2, r, _, keep, _, q⟩ => ⟨fnAt_of I2 (keep _ _ h), ?_⟩) he hpl
      show wpAny _ _ (call (.ref f) us) _ _ _
      exact run_n (mk := fun _ => F) (js := []) (fr := []) (c' := f) (sp := fun _ _ _ => sp) o hr hk (E := fun _ _ _ => False) pass0 I2 (keep _ _ h) (keep _ _ hcode) (cells_none cl _ _) r q
    | @lam F ps o h hcode =>
      have fa : ∀ {s' : Shared} {H' : Hp}, Inv X pins σ H' s' → H' f = some (LamO f F) → PySem.W.FnAt f s'.heap := fun I' h' => by
        obtain ⟨pm, ctv, ho⟩ := lamO_at I'.hok h'
        exact ⟨_, _, _, _, ho⟩
      refine PySem.W.callWith_F (first := []) (fa I1 h) (thn (ha.run pos pins s1 σ _ _ I1 ht) fun us s2 ⟨vs, H2, I2, r, _, keep, _, q⟩ => ⟨fa I2 (keep _ _ h), ?_⟩) he hpl
      show wpAny _ _ (call (.ref f) us) _ _ _
      refine wpAny_call (codeAny_mono (o.run X.A X.stack s2 H2 us vs _ _ (hr.mono hk) I2.env0 (keep _ _ h) (keep _ _ hcode) r q) fun r s' hq => ?_)
      cases r with
      | error e => exact (show False from hq).elim
      | ok fl =>
        cases fl with
        | ret u => exact I2.after hq
        | next => exact False.elim hq
        | brk => exact False.elim hq
        | cont => exact False.elim hq
  | @cap F ps fr ws sp' o h hcode W hsp =>
    refine wpAny_Call_Name_kw (thn ((pe_var (pos := p) hN hv hdb hcd).run pins s σ H (fun v H1 => v = .ref f ∧ H1 = H) I ⟨.ref f, hs, rfl, rfl⟩) fun u s1 ⟨v, H1, I1, r1, q1, q2⟩ => ?_)
    subst q1 q2
    obtain rfl : u = Value.ref f := r1
    refine PySem.W.callWith_F (first := []) (fnAt_of I1 h) (thn (ha.run pos pins s1 σ _ _ I1 ht) fun us s2 ⟨vs, H2, I2, r, _, k1, k2, q⟩ => ⟨fnAt_of I2 (k1 _ _ h), ?_⟩) he hpl
    show wpAny _ _ (call (.ref f) us) _ _ _
    exact run_cap o hr hk I2 (k1 _ _ h) (k1 _ _ hcode) (W.same k2) r (hsp _ _ _ _ q)
end
/-! ### a call of a def of the top that is handed a function with captured cells -/
/-- H2 is H with the cells of cl known -/
structure Plus (cl : List (Str × Addr)) (fr : List Str) (ws : List (Option V)) (H H2 : Hp) : Prop where
  w : WithC cl fr ws H2
  no : ∀ b, AtC cl b → H b = none
  eq : ∀ b, ¬ AtC cl b → H2 b = H b
theorem Plus.same {cl : List (Str × Addr)} {fr : List Str} {ws : List (Option V)} {H H2 : Hp} (p : Plus cl fr ws H H2) : L2.Same H H2 := fun b o e => by
  rw [p.eq b fun c => by rw [p.no b c] at e; cases e]; exact e
theorem Plus.off {cl : List (Str × Addr)} {fr : List Str} {ws : List (Option V)} {H H2 H3 : Hp} (p : Plus cl fr ws H H2) (s : L2.Same H2 H3) : L2.Same H (offC cl H3) := fun b o e => by
  have n : ¬ AtC cl b := fun c => by rw [p.no b c] at e; cases e
  rw [offC_ne n]; exact s _ _ (p.same _ _ e)
theorem Plus.free {cl : List (Str × Addr)} {fr : List Str} {ws : List (Option V)} {H H2 H3 : Hp} (p : Plus cl fr ws H H2) (n : ∀ b, H3 b = none → H2 b = none) : ∀ b, offC cl H3 b = none → H b = none := fun b e => by
  by_cases c : AtC cl b
  · exact p.no b c
  · rw [offC_ne c] at e
    rw [← p.eq b c]; exact n b e
def tCallW (cl : List (Str × Addr)) (fr : List Str) (js : List Nat) (sp : Sp) (t : TA) : TE := fun σ H Q => t σ H fun vs H1 => ∀ H2, Plus cl fr (js.map (slotAt σ)) H1 H2 → sp vs H2 (fun v H3 => WithC cl fr (js.map (slotAt σ)) H3 → Q v (offC cl H3)) (fun _ _ _ => False)
section
variable {X : Cx} {pins : List (Addr × Obj)} {σ : L2.St} {H : Hp} {s : Shared} {cl : List (Str × Addr)} {fr : List Str} {js : List Nat}
open Classical in
/-- the running frame's cells, known -/
theorem plus_of (I : Inv X pins σ H s) (c : Caps X cl fr js) (mem : ∀ p ∈ cl, X.env.cells.lookup p.1 = some p.2) (hfn : ∀ p ∈ cl, X.fn p.1 = true) :
    ∃ H2, Plus cl fr (js.map (slotAt σ)) H H2 ∧ Env0 X.prog X.w X.K X.mg X.base X.A X.stack s H2 := by
  have C := cells_of I c
  have cg : ∀ b, AtC cl b → ∃ o v, s.heap.get? b = some o ∧ o.data = .cell v ∧ H b = none := fun b ⟨p, hp, e⟩ => by
    subst e
    obtain ⟨v, o, h1, h2⟩ := I.cell _ _ (mem p hp)
    exact ⟨o, v, h1, h2, I.freeC _ _ (mem p hp)⟩
  refine ⟨fun b => if AtC cl b then (s.heap.get? b).map fun o => .frz o (.own b) else H b, ⟨⟨C.len, C.inj, fun p hp => ?_, fun i y e => ?_⟩, fun b h => ?_, fun b h => if_neg h⟩, ?_⟩
  · obtain ⟨o, v, h1, h2, _⟩ := cg p.2 ⟨p, hp, rfl⟩
    exact ⟨o, v, (if_pos (⟨p, hp, rfl⟩ : AtC cl p.2)).trans (by rw [h1]; rfl), h2⟩
  · obtain ⟨a, h1, h2⟩ := C.has i y e
    refine ⟨a, h1, fun v hv => ?_⟩
    obtain ⟨u, r, o, h3, h4⟩ := h2 v hv
    have at_ : AtC cl a := ⟨_, PySem.mem_of_lookup h1, rfl⟩
    exact ⟨u, o, r, (if_pos at_).trans (by rw [h3]; rfl), h4⟩
  · obtain ⟨_, _, _, _, n⟩ := cg b h
    exact n
  · have e := I.env0
    have nc : ∀ b, AtC cl b → X.s_0.heap.objs.size ≤ b ∧ b ≠ X.env.locals := fun b ⟨p, hp, z⟩ => by
      subst z
      exact ⟨I.ok.cab _ _ (hfn p hp) (mem p hp), I.cne _ _ (mem p hp)⟩
    refine ⟨e.frames, e.mod, fun b o q => ⟨(e.bs b o q).1, ?_⟩, e.bsz, e.funs, fun b hb => ?_, fun a o q => ?_, e.bare⟩
    · refine (if_neg fun z => ?_).trans (e.bs b o q).2
      have h1 := (nc b z).1
      have h2 := Heap.lt_size (I.ok.bs b o q).1
      exact absurd (Nat.lt_of_lt_of_le h2 h1) (Nat.lt_irrefl _)
    · refine (if_neg fun z => ?_).trans (e.frf b hb)
      rcases List.mem_cons.mp (I.stkSub b hb) with k | k
      · exact (nc b z).2 k
      · obtain ⟨_, o, ho, _⟩ := I.ok.funs.mem k
        exact absurd (Nat.lt_of_lt_of_le (Heap.lt_size ho) (nc b z).1) (Nat.lt_irrefl _)
    · by_cases z : AtC cl a
      · obtain ⟨o', v, h1, h2, h3⟩ := cg a z
        have q' : (s.heap.get? a).map (fun o => HO.frz o (.own a)) = some o := (if_pos z).symm.trans q
        rw [h1] at q'
        cases q'
        exact ⟨h1, o', h1⟩
      · have q' : H a = some o := (if_neg z).symm.trans q
        refine (I.hok a o q').stay (fun _ _ _ k => k) (fun b k => ?_) fun b xs k => ?_
        · refine (if_neg fun z2 => ?_).trans k
          obtain ⟨_, _, _, _, n⟩ := cg b z2
          rw [n] at k; cases k
        · refine (if_neg fun z2 => ?_).trans k
          obtain ⟨_, _, _, _, n⟩ := cg b z2
          rw [n] at k; cases k
/-- behind the call the cells are the frame's again -/
theorem plus_back {P : Program} {w : World} {outer : List Env} {H2 : Hp} {s' : Shared} {u : Value} {Q : VK} {ws : List (Option V)} (p : Plus cl fr ws H H2) (ok : HOk P w H2 s.heap) (frf : ∀ b ∈ frs outer, H2 b = none)
    (h : CE outer P w H2 s (fun v H3 => WithC cl fr ws H3 → Q v (offC cl H3)) u s') : CE outer P w H s Q u s' := by
  obtain ⟨v, H3, os, bare, un, hok, r, q⟩ := h
  have W3 := p.w.same un.frzs
  have cg : ∀ {b}, AtC cl b → ∃ o, H2 b = some (.frz o (.own b)) ∧ s.heap.get? b = some o := fun {b} c => by
    obtain ⟨o, v, h1, _⟩ := p.w.at_ c
    obtain ⟨z, _⟩ := ok _ _ h1
    exact ⟨o, h1, z⟩
  have ks : ∀ b o, s.heap.get? b = some o → AtC cl b → s'.heap.get? b = some o := fun b o e c => by
    obtain ⟨o', h1, h2⟩ := cg c
    rw [h2] at e
    cases e
    obtain ⟨z, _⟩ := hok _ _ (un.frzs _ _ _ h1)
    exact z
  have nn : ∀ {b y}, H b = some y → ¬ AtC cl b := fun {b y} e c => by rw [p.no b c] at e; cases e
  refine ⟨v, offC cl H3, os, bare, ⟨fun b o e n hb hx => ?_, fun b o e n hb hx => ?_, fun b o e n hx => ?_, un.there, fun b xs e => ?_, fun b o x e => ?_, fun b ps e => ?_⟩, W3.hok hok, r, q W3⟩
  · by_cases c : AtC cl b
    · exact ks b o e c
    · exact un.keep b o e ((p.eq b c).trans n) hb hx
  · by_cases c : AtC cl b
    · exact ⟨o.slots, ks b o e c⟩
    · exact un.slot b o e ((p.eq b c).trans n) hb hx
  · by_cases c : AtC cl b
    · exact offC_at c
    · exact offC_none (un.free b o e ((p.eq b c).trans n) hx)
  · rw [offC_ne (nn e)]
    exact un.tups b xs ((p.eq b (nn e)).trans e)
  · rw [offC_ne (nn e)]
    exact un.frzs b o x ((p.eq b (nn e)).trans e)
  · rw [offC_ne (nn e)]
    exact un.tbls b ps ((p.eq b (nn e)).trans e)
variable {k : Nat} {f : Addr} {fd : FuncData} {ps : List Str} {sp : Sp} {x : Str} {p pos : Pos} {e : Expr} {es : List Expr} {t : TA}
theorem pe_callW (F : FnOk X.prog X.w X.K X.mg X.base CX0 k f fd ps sp) (hr : Room k X.A) (hg : Gl X x) (hm : X.mg x = some (.ref f)) (hk : PySem.W.keepIn X.K (.ref f) = true) (hb : Binds X.K fd ps [])
    (cp : X.Ok → Caps X cl fr js) (mem : X.Ok → ∀ p ∈ cl, X.env.cells.lookup p.1 = some p.2) (hfn : ∀ p ∈ cl, X.fn p.1 = true)
    (ha : PA X (e :: es) t) (hdb : (x == ("__debug__" : Str)) = false := by decide) (he : starEach (e :: es) X.env = (false, eval e X.env) :: starEach es X.env := by rfl) (hpl : (backTo pos (starEach es X.env)).any (·.1) = false := by rfl) :
    PE X (.Call (.Name x p) (e :: es) [] pos) (tCallW cl fr js sp t) := by
  refine ⟨fun pins s σ H Q I h => ?_⟩
  refine wpAny_Call_Name_kw (ld_glob I hg hm ?_ hdb)
  refine PySem.W.callWith_K (h₀ := X.base) I.ok.mod.kin hk (thn (ha.run pos pins s σ H _ I h) fun us s1 ⟨vs, H1, I1, r, q⟩ => ⟨I1.kIn, ?_⟩) he hpl
  obtain ⟨H2, pl, e2⟩ := plus_of I1 (cp I1.ok) (mem I1.ok) hfn
  have q2 := q H2 pl
  have hl : us.length = ps.length := by rw [← r.length]; exact F.len _ _ _ _ q2
  have hb' := hb s1 us I1.kIn (by rw [List.append_nil]; exact hl)
  rw [List.append_nil] at hb'
  show wpAny _ _ (call (.ref f) us) _ _ _
  refine wpAny_call (codeAny_mono (F.run X.A X.stack s1 H2 ⟨us, []⟩ us vs _ _ hr e2 hb' r q2) fun r s' hq => ?_)
  cases r with
  | error e => exact (show False from hq).elim
  | ok fl =>
    cases fl with
    | ret u => exact I1.after (plus_back pl e2.hok e2.frf hq)
    | next => exact False.elim hq
    | brk => exact False.elim hq
    | cont => exact False.elim hq
/-- the members of a made function's cells -/
theorem clo_mem {cells : List (Str × Addr)} {names : List (Str × NameKind)} (hfree : ∀ y ∈ names, y.2 = .free → ∃ c, cells.lookup y.1 = some c) : ∀ p ∈ cloFrom cells names [], cells.lookup p.1 = some p.2 := fun p hp => by
  rcases cloFrom_mem (show (p.1, p.2) ∈ _ from hp) with hm | ⟨h1, h2⟩
  · cases hm
  · obtain ⟨c1, hc⟩ := hfree _ h1 rfl
    have hc : cells.lookup p.1 = some c1 := hc
    have e2 : p.2 = c1 := by
      rw [h2, hc] <;> rfl
    rw [e2]
    exact hc
theorem caps_mem {scope : Scope} (ok : X.Ok) (hfree : ∀ y ∈ scope.names, y.2 = .free → X.env.scope.names.lookup y.1 = some .cell ∨ X.env.scope.names.lookup y.1 = some .free) : ∀ p ∈ cloFrom X.env.cells scope.names [], X.env.cells.lookup p.1 = some p.2 :=
  clo_mem fun y hy e => (hfree y hy e).elim (fun z => ok.has _ (.inl z)) fun z => ok.has _ (.inr z)
end
end E

set_option Elab.async false
set_option linter.all false
set_option maxRecDepth 100000
set_option maxHeartbeats 4000000
namespace E
open PySem PySem.Spec PyProof.Rows L2
/-- d != e of two dicts with the same keys, whose values are equal data -/
def rNeR (K : PySem.W.Frag) : R2 := fun x y H Q => ∃ a b ks ls, x = .ref a ∧ y = .ref b ∧ Rd H a (.dK ks) ∧ Rd H b (.dK ls) ∧ ks.length = ls.length ∧
  (∀ p ∈ ks, ∃ (u : V) (d : PyData), valV ls p.1 = some u ∧ Dp K H p.2 d ∧ Dp K H u d ∧ SeqAt.shaped d = true) ∧ Q (.bl false) H
section
variable {X : Cx}
theorem hits_R {H : Hp} {s : Shared} {A : Around} {pins : List (Addr × Obj)} {σ : L2.St} (I : Inv X pins σ H s) (hu : A.in1.units + 64 < cLine) {ls : List (Key × V)} {vb : List (Key × Value)} (rb : KV ls vb) {ks : List (Key × V)} {va : List (Key × Value)} (ra : KV ks va) :
    (∀ p ∈ ks, ∃ (u : V) (d : PyData), valV ls p.1 = some u ∧ Dp X.K H p.2 d ∧ Dp X.K H u d ∧ SeqAt.shaped d = true) → PySem.W.KeqHits A.in1 s vb va true := by
  unfold KV at ra
  induction ra with
  | nil => exact fun _ => .nil
  | @cons g q gs qs hgq _ more =>
    intro all
    obtain ⟨key, val⟩ := q
    obtain ⟨e1, e2⟩ := hgq
    obtain ⟨u, d, hv, d1, d2, sh⟩ := all g List.mem_cons_self
    obtain ⟨y, hy, ry⟩ := (show RelO (some u) (valueAt vb g.1) by rw [← hv]; exact rb.val g.1).some_of
    have e1 : g.1 = key := e1
    rw [e1] at hy
    obtain ⟨as, r1⟩ := Dp.reads I _ _ val d1 e2
    obtain ⟨bs, r2⟩ := Dp.reads I _ _ y d2 ry
    have one := PySem.W.keq_at (A := A) r1 r2 sh sh hu
    rw [eqv_self sh] at one
    exact PySem.W.KeqHits.hit hy one (more fun p' m => all p' (List.mem_cons_of_mem _ m))
theorem op_neR (hu : X.A.units + 66 < cLine) : OpR X (compareOp .NotEq) (rNeR X.K) := by
  intro pins s σ H x y v u Q I rx ry ⟨a, b, ks, ls, ex, ey, ha, hb, hl, hp, q⟩
  subst ex ey
  cases rx; cases ry
  obtain ⟨_, ya, va, ra, da⟩ := (show ObjOk X.prog X.w H s.heap a (.dK ks) from ha.ok I.hok)
  obtain ⟨_, yb, vb, rb, db⟩ := (show ObjOk X.prog X.w H s.heap b (.dK ls) from hb.ok I.hok)
  have e : va.length = vb.length := ra.length.symm.trans (hl.trans rb.length)
  refine PySem.W.keq_ne (knd := mixKind X.prog X.w) (r := true) ya yb da db (by omega) (fun _ => hits_R (A := X.A) I (by show X.A.units + 1 + 64 < cLine; omega) rb ra hp) ⟨.bl false, H, I, ?_, q⟩
  simp [e, L2.RelV]
end
theorem fm_shapedR {N : List Str} (hN : ∀ n ∈ N, PyData.strOk n = true) {f : Fm} (ho : f.over N = true) (hh : f.ht ≤ 60) : SeqAt.shaped f.d = true := by
  unfold SeqAt.shaped
  rw [Fm.lay hN f ho, Fm.depth]
  exact decide_eq_true (by omega)
end E

set_option Elab.async false
set_option linter.all false
set_option maxRecDepth 100000
set_option maxHeartbeats 4000000
namespace NS
open PySem PySem.Spec PyProof.Rows L2
section
variable {P : Program} {w : World} {E : Value → Shared → Prop}
mutual
/-- whether the hash of a key is by value: some word -/
theorem by_val : ∀ (k : NestedKey) (v : Value) (n : Nat) (A : Around) (s : Shared) (Q : Bool → Shared → Prop), NestedIs s.heap k v → (∀ b, Q b s) → wpAny (model P w) A (hashByValue n v) Q E s
  | .none, _, n, _, _, _, x, q => by cases x; cases n <;> exact wpAny_pure (q _)
  | .num i, _, n, _, _, _, x, q => by cases x <;> cases n <;> exact wpAny_pure (q _)
  | .text y, _, n, _, _, _, x, q => by cases x; cases n <;> exact wpAny_pure (q _)
  | .tup ks, _, 0, _, _, _, x, q => by cases x; exact wpAny_pure (q _)
  | .tup ks, _, n + 1, A, s, Q, x, q => by
    cases x with
    | tup hg hc hd hk =>
      unfold hashByValue
      refine wpAny_bind (wpAny_specialOf (T := "tuple") ⟨_, hg, hc⟩ F.slot_tuple_hash.lookup ?_)
      refine wpAny_bind (wpAny_seqItems hg hd ?_)
      refine wpAny_bind ?_
      rw [show forIn (m := Sem) ((some _ : Option (Array Value)).getD #[Value.ellipsis]) = forIn (m := Sem) _ from rfl, ← Array.forIn_toList]
      refine wpAny_forIn_list _ (fun l r s1 => r.1 = none ∧ s1 = s ∧ ∀ v ∈ l, ∀ (A : Around) (Q : Bool → Shared → Prop), (∀ b, Q b s) → wpAny (model P w) A (hashByValue n v) Q E s) _ ?_ ?_ _ _ ⟨rfl, rfl, fun v hv A' Q' q' => by_vals ks _ n A' s Q' hk v hv q'⟩
      · rintro u l ⟨r0, _⟩ s1 ⟨e1, rfl, hall⟩
        refine wpAny_bind (hall u List.mem_cons_self _ _ fun b => ?_)
        cases b
        · exact wpAny_pure (wpAny_pure (q _))
        · exact wpAny_pure ⟨rfl, rfl, fun v hv => hall v (List.mem_cons_of_mem _ hv)⟩
      · rintro ⟨r0, _⟩ s1 ⟨e1, rfl, _⟩
        cases e1
        exact wpAny_pure (q _)
theorem by_vals : ∀ (ks : List NestedKey) (vs : List Value) (n : Nat) (A : Around) (s : Shared) (Q : Bool → Shared → Prop), NestedAll s.heap ks vs → ∀ v ∈ vs, (∀ b, Q b s) → wpAny (model P w) A (hashByValue n v) Q E s
  | [], _, _, _, _, _, x, v, hv, _ => by cases x; cases hv
  | k :: ks, _, n, A, s, Q, x, v, hv, q => by
    cases x with
    | cons x1 x2 =>
      rcases List.mem_cons.mp hv with rfl | hv
      · exact by_val k _ n A s Q x1 q
      · exact by_vals ks _ n A s Q x2 v hv q
end
mutual
/-- no key is of a class statement -/
theorem no_class : ∀ (k : NestedKey) (v : Value) (n : Nat) (A : Around) (s : Shared) (Q : Bool → Shared → Prop), NestedIs s.heap k v → k.depth ≤ n → Q false s → wpAny (model P w) A (ofAClassStatement n v) Q E s
  | .none, _, n, _, _, _, x, _, q => by cases x; cases n <;> exact wpAny_pure q
  | .num i, _, n, _, _, _, x, _, q => by cases x <;> cases n <;> exact wpAny_pure q
  | .text y, _, n, _, _, _, x, _, q => by cases x; cases n <;> exact wpAny_pure q
  | .tup ks, _, 0, _, _, _, _, hn, _ => absurd hn (by simp only [NestedKey.depth]; omega)
  | .tup ks, _, n + 1, A, s, Q, x, hn, q => by
    have hn' : NestedKey.depthAll ks ≤ n := by simp only [NestedKey.depth] at hn; omega
    cases x with
    | tup hg hc hd hk =>
      unfold ofAClassStatement
      refine wpAny_bind (wpAny_typeOf (T := "tuple") ⟨_, hg, hc⟩ ?_)
      dsimp only
      refine wp_if_pos (by decide) ?_
      refine wpAny_bind (wpAny_pure ?_)
      refine wp_if_neg (by decide) ?_
      refine wpAny_bind (wpAny_seqItems hg hd ?_)
      dsimp only
      refine wpAny_bind ?_
      rw [← Array.forIn_toList]
      refine wpAny_forIn_list _ (fun l r s1 => r.1 = none ∧ s1 = s ∧ ∀ v ∈ l, ∀ (A : Around) (Q : Bool → Shared → Prop), Q false s → wpAny (model P w) A (ofAClassStatement n v) Q E s) _ ?_ ?_ _ _ ⟨rfl, rfl, fun v hv A' Q' q' => no_classes ks _ n A' s Q' hk hn' v hv q'⟩
      · rintro u l ⟨r0, _⟩ s1 ⟨e1, rfl, hall⟩
        refine wpAny_bind (hall u List.mem_cons_self _ _ ?_)
        exact wpAny_pure ⟨rfl, rfl, fun v hv => hall v (List.mem_cons_of_mem _ hv)⟩
      · rintro ⟨r0, _⟩ s1 ⟨e1, rfl, _⟩
        cases e1
        exact wpAny_pure q
theorem no_classes : ∀ (ks : List NestedKey) (vs : List Value) (n : Nat) (A : Around) (s : Shared) (Q : Bool → Shared → Prop), NestedAll s.heap ks vs → NestedKey.depthAll ks ≤ n → ∀ v ∈ vs, Q false s → wpAny (model P w) A (ofAClassStatement n v) Q E s
  | [], _, _, _, _, _, x, _, v, hv, _ => by cases x; cases hv
  | k :: ks, _, n, A, s, Q, x, hn, v, hv, q => by
    have hn' : max k.depth (NestedKey.depthAll ks) ≤ n := hn
    cases x with
    | cons x1 x2 =>
      rcases List.mem_cons.mp hv with rfl | hv
      · exact no_class k _ n A s Q x1 (by omega) q
      · exact no_classes ks _ n A s Q x2 (by omega) v hv q
end
/-- the tuple at b is the key k -/
def KA (h : Heap) (k : NestedKey) (b : Addr) : Prop := NestedIs h k (.ref b) ∧ k.depth ≤ 8
/-- a search among keys shows nothing -/
theorem unseen {A : Around} {s : Shared} {k : NestedKey} {b : Addr} {Q : Bool → Shared → Prop} {ys : List Value} (hk : KA s.heap k b) (hy : ∀ y ∈ ys, ∃ k' c, y = Value.ref c ∧ KA s.heap k' c) (q : Q false s) : wpAny (model P w) A (searchCouldBeSeen (.ref b) ys) Q E s := by
  unfold searchCouldBeSeen
  refine wpAny_bind ?_
  refine wpAny_forIn_list _ (fun l r s1 => r.1 = none ∧ s1 = s ∧ ∀ y ∈ l, ∃ k' c, y = Value.ref c ∧ KA s.heap k' c) _ ?_ ?_ _ _ ⟨rfl, rfl, hy⟩
  · rintro u l ⟨r0, _⟩ s1 ⟨e1, rfl, hall⟩
    have tl : ∀ y ∈ l, ∃ k' c, y = Value.ref c ∧ KA s1.heap k' c := fun y m => hall y (List.mem_cons_of_mem _ m)
    obtain ⟨k', c, rfl, hc⟩ := hall u List.mem_cons_self
    dsimp only
    by_cases e : (b == c || (carriedByValue (.ref b) && carriedByValue (.ref c))) = true
    · exact wp_if_pos e (wpAny_pure ⟨rfl, rfl, tl⟩)
    · refine wp_if_neg e (wpAny_bind (quiet_key k _ 8 s1 hk.1 hk.2 _ _ _ ?_))
      refine wpAny_bind (quiet_key k' _ 8 s1 hc.1 hc.2 _ _ _ ?_)
      refine wpAny_bind (no_class k _ 8 _ s1 _ hk.1 hk.2 ?_)
      refine wpAny_bind (no_class k' _ 8 _ s1 _ hc.1 hc.2 ?_)
      exact wpAny_pure ⟨rfl, rfl, tl⟩
  · rintro ⟨r0, _⟩ s1 ⟨e1, rfl, _⟩
    cases e1
    exact wpAny_pure q
end
end NS

set_option Elab.async false
set_option linter.all false
set_option maxRecDepth 100000
set_option maxHeartbeats 4000000
namespace NS
open PySem PySem.Spec PyProof.Rows L2
abbrev KL := List (Addr × NestedKey)
def rowN (w : World) (L : KL) : List (Int × Value) := L.map fun z => (NestedKey.hash w z.2, .ref z.1)
abbrev hsN (w : World) (L : KL) : List Int := L.map fun z => NestedKey.hash w z.2
def SetObj (h : Heap) (a : Addr) (es : Array (Int × Value)) (ep : Nat) (t : SetTable) : Prop := ∃ ob, h.get? a = some ob ∧ ob.ExactSet ∧ ob.data = .set es ep t
/-- the set at a holds the keys of L -/
structure NSt (w : World) (h : Heap) (a : Addr) (L : KL) (es : Array (Int × Value)) (ep : Nat) (t : SetTable) : Prop where
  obj : SetObj h a es ep t
  row : es.toList = rowN w L
  tb : TabOk t (hsN w L)
  one : (L.map Prod.snd).Nodup
  key : ∀ z ∈ L, KA h z.2 z.1
  ld : w.params.followText "set-order" = true ∨ t.led = true
  free : L.length * 5 < t.mask * 3
  few : L.length < 64
def st0 (m : Nat) (h : Int) : SetTable.Probe := runAt m (SetTable.bits h % (m + 1)) (SetTable.bits h)
theorem way_st0 (m : Nat) (h : Int) (k : Nat) : way m h k = (nth m (st0 m h) k).j := rfl
theorem no_dummy (m : Nat) : ∀ (n : Nat) (p : SetTable.Probe), p.dummy = none → (nth m p n).dummy = none
  | 0, _, e => e
  | n + 1, p, e => no_dummy m n (adv m p) (by unfold adv; split <;> exact e)
theorem same_mem (t : SetTable) : t.sameMemory t.moves t.mask = some true := by simp [SetTable.sameMemory]
section
variable {P : Program} {w : World} {A : Around} {E : Value → Shared → Prop} {s : Shared} {h : Heap} {a : Addr} {L : KL} {es : Array (Int × Value)} {ep : Nat} {t : SetTable}
theorem NSt.len (R : NSt w h a L es ep t) : es.size = L.length := by rw [← Array.length_toList, R.row]; simp [rowN]
theorem NSt.plen (R : NSt w h a L es ep t) : t.place.size = L.length := by rw [R.tb.sz, List.length_map]
theorem NSt.ok (R : NSt w h a L es ep t) : t.fits es.size = true := by
  have h1 := R.len
  have h2 := R.plen
  have h3 := R.free
  simp only [SetTable.fits, SetTable.fill, R.tb.dm, Bool.and_eq_true, beq_iff_eq, decide_eq_true_eq]
  simp
  omega
theorem NSt.odd (R : NSt w h a L es ep t) : ¬ t.gaveWay = true := by simp [SetTable.gaveWay, mask_odd R.tb.mok]
theorem NSt.at (R : NSt w h a L es ep t) {i : Nat} {z : Addr × NestedKey} (e : L[i]? = some z) : es[i]? = some (NestedKey.hash w z.2, .ref z.1) := by
  rw [← Array.getElem?_toList, R.row, rowN, List.getElem?_map, e]
  rfl
/-- the search, from the c-th step of the way on -/
theorem seek (R : NSt w s.heap a L es ep t) {x : Addr} {k : NestedKey} (hx : KA s.heap k x) (hu : A.units + 8 < cLine) {K : Nat} (big : K < 10 * SetTable.turns t.mask)
    (out : way t.mask (k.hash w) K ∉ t.place.toList) (inn : ∀ c, c < K → way t.mask (k.hash w) c ∈ t.place.toList) {add : Bool} {Q : SetFound → Shared → Prop}
    (yes : k ∈ L.map Prod.snd → ∀ i, (add = false → ∃ j, i = some j) → Q (.there i) s) (no : k ∉ L.map Prod.snd → Q (.free (way t.mask (k.hash w) K) false) s) :
    ∀ (f c : Nat) (sd : Option SetTable.Probe), sd.getD (t.probeStart (k.hash w)) = nth t.mask (st0 t.mask (k.hash w)) c → c ≤ K → K < f + c →
      (∀ (i : Nat) (z : Addr × NestedKey), L[i]? = some z → z.2 = k → ∃ c', (c ≤ c' ∧ c' < K) ∧ t.place.toList[i]? = some (way t.mask (k.hash w) c')) → wpAny (model P w) A (setSearchFrom a (.ref x) (k.hash w) add f sd) Q E s := by
  intro f
  induction f with
  | zero => exact fun c sd _ h1 h2 _ => absurd h2 (by omega)
  | succ f ih =>
    intro c sd e0 hc hf ahead
    have ⟨ob, g1, g2, g3⟩ := R.obj
    have sh : ∀ q, nth t.mask (nth t.mask (st0 t.mask (k.hash w)) c) q = nth t.mask (st0 t.mask (k.hash w)) (c + q) := fun q => (nth_add t.mask c _ q).symm
    have shj : ∀ q, (nth t.mask (nth t.mask (st0 t.mask (k.hash w)) c) q).j = way t.mask (k.hash w) (c + q) := fun q => by rw [sh]; rfl
    have hsh : ∀ (i : Nat) z, L[i]? = some z → (es[i]?.map Prod.fst).getD 0 = NestedKey.hash w z.2 := fun i z e => by rw [R.at e]; rfl
    rw [setSearchFrom_succ]
    refine wpAny_bind (wpAny_setState_of g1 g3 R.ok (wp_if_neg R.odd ?_))
    try refine wpAny_bind (wpAny_pure ?_)
    have sp := go_spec t R.tb.ris R.tb.dm (fun i => (es[i]?.map (·.1)).getD 0) (k.hash w) (10 * SetTable.turns t.mask) (K - c) _ (no_dummy t.mask c (st0 t.mask (k.hash w)) rfl) (by omega)
      (fun q hq => by rw [shj]; exact inn _ (by omega)) (by rw [shj, Nat.add_sub_cancel' hc]; exact out)
    rw [← e0] at sp
    rcases sp with ⟨q, i, hq, hi, hh, hno, hpr⟩ | ⟨hno, hpr⟩
    · rw [show t.probe (fun i => (es[i]?.map (·.1)).getD 0) (k.hash w) (sd.getD (t.probeStart (k.hash w))) = _ from hpr]
      rw [e0, shj] at hi
      have il : i < L.length := by
        have := (List.getElem?_eq_some_iff.mp hi).1
        rw [Array.length_toList, R.plen] at this
        exact this
      obtain ⟨z, hz⟩ : ∃ z, L[i]? = some z := ⟨_, List.getElem?_eq_getElem il⟩
      have zm := List.mem_of_getElem? hz
      have zk := R.key z zm
      have fin : ∀ (j : Nat) (nx : SetTable.Probe), j = way t.mask (k.hash w) (c + q) → nx = nth t.mask (st0 t.mask (k.hash w)) (c + (q + 1)) → wpAny (model P w) A (searchRest a (.ref x) (k.hash w) add f es t j i nx) Q E s := fun j nx ej en => by
        subst ej
        subst en
        unfold searchRest
        rw [R.at hz]
        refine wpAny_bind (wpAny_holding (eqAt_key z.2 k A s _ _ zk.1 hx.1 (by have := hx.2; omega) P w _ _ ?_))
        refine wpAny_bind (wpAny_setState_of g1 g3 R.ok ?_)
        dsimp only
        rw [same_mem]
        have live : t.slot (way t.mask (k.hash w) (c + q)) = .live i := slot_live R.tb.ris hi
        by_cases e : NestedKey.beq z.2 k = true
        · have ek := NestedKey.eq_of_beq _ _ e
          have mk : k ∈ L.map Prod.snd := List.mem_map.mpr ⟨z, zm, ek⟩
          cases add with
          | true => exact wp_if_pos (by rw [e]; rfl) (wpAny_pure (yes mk _ fun e => nomatch e))
          | false =>
            refine wp_if_neg (by simp) ?_
            try refine wpAny_bind (wpAny_pure ?_)
            try dsimp only
            rw [live]
            rw [if_pos (rfl : true = true)]
            dsimp only
            rw [R.at hz]
            refine wpAny_bind (wpAny_isSame_ref_self (wpAny_bind (wpAny_pure ?_)))
            rw [if_pos (rfl : true = true)]
            dsimp only
            rw [e]
            exact wp_if_pos rfl (wpAny_pure (yes mk _ fun _ => ⟨_, rfl⟩))
        · have ef : NestedKey.beq z.2 k = false := by simpa using e
          refine wp_if_neg (by rw [ef]; simp) ?_
          try refine wpAny_bind (wpAny_pure ?_)
          try dsimp only
          rw [live]
          rw [if_pos (rfl : true = true)]
          dsimp only
          rw [R.at hz]
          refine wpAny_bind (wpAny_isSame_ref_self (wpAny_bind (wpAny_pure ?_)))
          rw [if_pos (rfl : true = true)]
          dsimp only
          rw [ef]
          refine wp_if_neg (by simp) ?_
          have nk : z.2 ≠ k := fun e2 => by rw [e2, NestedKey.beq_self] at ef; cases ef
          refine ih (c + (q + 1)) _ rfl (by omega) (by omega) fun i0 z0 h0 k0 => ?_
          obtain ⟨c', ⟨a1, a2⟩, a3⟩ := ahead i0 z0 h0 k0
          refine ⟨c', ⟨?_, a2⟩, a3⟩
          rcases Nat.lt_trichotomy c' (c + q) with l | l | l
          · refine absurd ((hsh i0 z0 h0).trans (congrArg (NestedKey.hash w) k0)) (hno (c' - c) i0 (by omega) ?_)
            rw [e0, shj, Nat.add_sub_cancel' a1]
            exact a3
          · rw [l] at a3
            have z1 := slot_live R.tb.ris a3
            rw [live] at z1
            injection z1 with z1
            rw [← z1, hz] at h0
            cases h0
            exact absurd k0 nk
          · omega
      have fin' := fin (nth t.mask (sd.getD (t.probeStart (k.hash w))) q).j (nth t.mask (sd.getD (t.probeStart (k.hash w))) (q + 1)) (by rw [e0, shj]) (by rw [e0, sh])
      by_cases hl : t.led = true
      · refine wp_if_neg (by simp [hl]) ?_
        try refine wpAny_bind (wpAny_pure ?_)
        exact fin'
      · refine wp_if_pos (by simp [hl]) (wpAny_bind (unseen hx (fun y hy => ?_) ?_))
        · obtain ⟨r, hr, rfl⟩ := List.mem_map.mp hy
          have hr' : r ∈ es.toList := by
            have := Array.mem_filter.mp (Array.mem_toList_iff.mp hr)
            exact Array.mem_toList_iff.mpr this.1
          rw [R.row] at hr'
          obtain ⟨z0, m0, rfl⟩ := List.mem_map.mp hr'
          exact ⟨z0.2, z0.1, rfl, R.key z0 m0⟩
        · exact wp_if_neg (by decide) (by first | exact fin' | exact wpAny_bind (wpAny_pure fin'))
    · rw [show t.probe (fun i => (es[i]?.map (·.1)).getD 0) (k.hash w) (sd.getD (t.probeStart (k.hash w))) = _ from hpr]
      rw [e0, shj, Nat.add_sub_cancel' hc]
      refine wpAny_pure (no fun m => ?_)
      obtain ⟨z0, m0, k0⟩ := List.mem_map.mp m
      obtain ⟨i0, hi0, ei⟩ := List.getElem_of_mem m0
      have h0 : L[i0]? = some z0 := by rw [List.getElem?_eq_getElem hi0, ei]
      obtain ⟨c', ⟨a1, a2⟩, a3⟩ := ahead i0 z0 h0 k0
      refine absurd ((hsh i0 z0 h0).trans (congrArg (NestedKey.hash w) k0)) (hno (c' - c) i0 (by omega) ?_)
      rw [e0, shj, Nat.add_sub_cancel' a1]
      exact a3
/-- a search of a set -/
theorem search (R : NSt w s.heap a L es ep t) {x : Addr} {k : NestedKey} (hx : KA s.heap k x) (hu : A.units + 8 < cLine) {add : Bool} {Q : SetFound → Shared → Prop}
    (yes : k ∈ L.map Prod.snd → ∀ i, (add = false → ∃ j, i = some j) → Q (.there i) s)
    (no : ∀ K, k ∉ L.map Prod.snd → way t.mask (k.hash w) K ∉ t.place.toList → (∀ c, c < K → way t.mask (k.hash w) c ∈ t.place.toList) → Q (.free (way t.mask (k.hash w) K) false) s) :
    wpAny (model P w) A (setSearch a (.ref x) (k.hash w) add) Q E s := by
  have fr := R.free
  obtain ⟨K, b1, b2, b3⟩ := R.tb.first (by rw [List.length_map]; omega) (k.hash w)
  refine seek R hx hu b1 b2 b3 yes (fun n => no K n b2 b3) 100000 0 none rfl (Nat.zero_le _) ?_ fun i z hz hk => ?_
  · have : SetTable.turns t.mask ≤ 142 := by
      unfold SetTable.turns
      rcases R.tb.mok with e | e | e <;> omega
    omega
  · have i1 : i < t.place.toList.length := by
      rw [Array.length_toList, R.plen]
      exact (List.getElem?_eq_some_iff.mp hz).1
    have i2 : (hsN w L)[i]? = some (k.hash w) := by rw [List.getElem?_map, hz, ← hk]; rfl
    have i3 := List.getElem?_eq_getElem i1
    obtain ⟨c, c1, c2⟩ := R.tb.before b2 i2 i3
    exact ⟨c, ⟨Nat.zero_le _, c1⟩, by rw [i3, c2]⟩
end
end NS

set_option Elab.async false
set_option linter.all false
set_option maxRecDepth 100000
set_option maxHeartbeats 4000000
namespace NS
open PySem PySem.Spec PyProof.Rows L2
theorem all_picked {α : Type} : ∀ L : List α, (List.range L.length).filterMap (fun i => L[i]?) = L
  | [] => rfl
  | x :: L => by
    rw [List.length_cons, List.range_succ_eq_map, List.filterMap_cons_some (f := fun i => (x :: L)[i]?) (b := x) rfl, List.filterMap_map]
    exact congrArg (x :: ·) (all_picked L)
theorem some_picked {α β : Type} (L : List α) (M : Nat → Option β) (f : α → β) (e : ∀ i z, L[i]? = some z → M i = some (f z)) : ∀ l : List Nat, (∀ i ∈ l, i < L.length) → l.filterMap M = (l.filterMap (fun i => L[i]?)).map f
  | [], _ => rfl
  | i :: l, h => by
    have hi := List.getElem?_eq_getElem (h i List.mem_cons_self)
    rw [List.filterMap_cons_some (e _ _ hi), List.filterMap_cons_some hi, List.map_cons, some_picked L M f e l fun j m => h j (List.mem_cons_of_mem _ m)]
theorem picked_map {α β : Type} (L : List α) (g : Nat → β) (f : α → β) (e : ∀ i z, L[i]? = some z → g i = f z) : ∀ l : List Nat, (∀ i ∈ l, i < L.length) → l.map g = (l.filterMap (fun i => L[i]?)).map f
  | [], _ => rfl
  | i :: l, h => by
    have hi := List.getElem?_eq_getElem (h i List.mem_cons_self)
    rw [List.filterMap_cons_some hi, List.map_cons, List.map_cons, e _ _ hi, picked_map L g f e l fun j m => h j (List.mem_cons_of_mem _ m)]
theorem rowN_len {w : World} {L : KL} {l : List (Int × Value)} (e : l = rowN w L) : l.length = L.length := by rw [e, rowN, List.length_map]
section
variable {P : Program} {w : World} {A : Around} {E : Value → Shared → Prop} {s : Shared} {h : Heap} {a : Addr} {L : KL} {es : Array (Int × Value)} {ep : Nat} {t : SetTable}
theorem KA.same {h h' : Heap} {k : NestedKey} {b : Addr} (x : KA h k b) (ho : SetObj h a es ep t) (d : Heap.SameBut a h h') : KA h' k b := ⟨NestedIs.at (fun c o vs n e1 e2 => by
  refine (d.2 c fun z => ?_).trans e1
  subst z
  have ⟨ob, g1, _, g3⟩ := ho
  rw [g1] at e1
  cases e1
  rw [g3] at e2
  cases e2) k _ x.1, x.2⟩
/-- what the table holds, laid anew and larger -/
theorem larger {ob : Obj} (g1 : s.heap.get? a = some ob) (g2 : ob.ExactSet) (g3 : ob.data = .set es ep t) (row : es.toList = rowN w L) (hp : t.place.size = L.length) (dm : t.dummies = #[]) (fl : L.length ≤ t.mask)
    (one : (L.map Prod.snd).Nodup) (key : ∀ z ∈ L, KA s.heap z.2 z.1) (ld : w.params.followText "set-order" = true ∨ t.led = true) (few : L.length < 64) {wanted M : Nat}
    (hM : MaskOk M) (hw : SetTable.sizeAbove wanted = M + 1) (fr : L.length * 5 < M * 3) {Q : Unit → Shared → Prop}
    (q : ∀ h' L' es' ep' t', Heap.SameBut a s.heap h' → NSt w h' a L' es' ep' t' → L'.Perm L → Q () { s with heap := h' }) : wpAny (model P w) A (setRelay a wanted) Q E s := by
  have el : es.size = L.length := by rw [← Array.length_toList]; exact rowN_len row
  have at' : ∀ (i : Nat) (z : Addr × NestedKey), L[i]? = some z → es[i]? = some (NestedKey.hash w z.2, Value.ref z.1) := fun i z e => by
    rw [← Array.getElem?_toList, row, rowN, List.getElem?_map, e]
    rfl
  have fit : t.fits es.size = true := by
    simp only [SetTable.fits, SetTable.fill, dm, Bool.and_eq_true, beq_iff_eq, decide_eq_true_eq]
    simp
    omega
  have hz : (es.map (·.1)).size = L.length := by rw [Array.size_map, el]
  have M128 : M + 1 ≤ 128 := by rcases hM with e | e | e <;> omega
  obtain ⟨t', order, r1, r2, r3, r4, r5, r6, r7⟩ := relaid_ok t (hs := es.map (·.1)) (wanted := wanted) (M := M) (by omega) hM (by omega)
  rw [hz] at r2
  have inb : ∀ i ∈ order.toList, i < L.length := fun i m => List.mem_range.mp (r2.mem_iff.mp m)
  obtain ⟨L2, eL⟩ : ∃ L2, L2 = order.toList.filterMap (fun i => L[i]?) := ⟨_, rfl⟩
  have p1 : (order.filterMap (es[·]?)).toList = rowN w L2 := by
    rw [Array.toList_filterMap, eL]
    exact some_picked L _ _ at' _ inb
  have p2 : (order.toList.map fun i => (es.map (·.1)).getD i 0) = hsN w L2 := by
    rw [eL]
    refine picked_map L _ _ (fun i z e => ?_) _ inb
    rw [Array.getD_eq_getD_getElem?, Array.getElem?_map, at' i z e]
    rfl
  have pm : L2.Perm L := by
    have := r2.filterMap (fun i => L[i]?)
    rw [all_picked, ← eL] at this
    exact this
  rw [p2] at r3
  have len2 : (order.filterMap (es[·]?)).size = es.size := by rw [← Array.length_toList, rowN_len p1, pm.length_eq, el]
  rw [setRelay_eq]
  refine wpAny_bind (wpAny_setState_of g1 g3 fit (wp_if_neg (by rw [hw, sizeLine_eq]; omega) ?_))
  try refine wpAny_bind (wpAny_pure ?_)
  rw [r1]
  refine wpAny_bind ?_
  refine wp_if_neg (by simp [len2]) ?_
  try refine wpAny_bind (wpAny_pure ?_)
  refine wpAny_pure ?_
  refine wpAny_storeSet_of g1 g3 ?_ (by rw [len2, el, sizeLine_eq]; omega)
  have d : Heap.SameBut a s.heap (s.heap.update a (Obj.putSet (order.filterMap (es[·]?)) t')) := Heap.SameBut.update ..
  exact q _ L2 _ _ t' d ⟨⟨_, store_at g1 g3, ⟨g2.1, g2.2.1, g2.2.2⟩, rfl⟩, p1, r3, (pm.map Prod.snd).nodup_iff.mpr one, fun z m => (key z (pm.mem_iff.mp m)).same ⟨ob, g1, g2, g3⟩ d, by rw [r5]; exact ld, by rw [pm.length_eq, r4]; exact fr, by rw [pm.length_eq]; exact few⟩ pm
/-- one key is put in, if it isn't there -/
theorem put_in (R : NSt w s.heap a L es ep t) {x : Addr} {k : NestedKey} (hx : KA s.heap k x) (hu : A.units + 8 < cLine) (hf : L.length + 1 < 64) {Q : Bool → Shared → Prop}
    (q : ∀ b h' L' es' ep' t', Heap.SameBut a s.heap h' → NSt w h' a L' es' ep' t' → (k ∈ L.map Prod.snd ∧ L' = L ∨ k ∉ L.map Prod.snd ∧ L'.Perm ((x, k) :: L)) → Q b { s with heap := h' }) :
    wpAny (model P w) A (setAddHashed a (.ref x) (k.hash w)) Q E s := by
  have ⟨ob, g1, g2, g3⟩ := R.obj
  have fr := R.free
  have el := R.len
  unfold setAddHashed
  refine wpAny_holding ?_
  show wpAny _ _ (setAddHashedIn a (.ref x) (k.hash w) (99999 + 1)) _ _ _
  rw [setAddHashedIn_succ]
  refine wpAny_bind (wpAny_setState_of g1 g3 R.ok (wp_if_neg (by simp [byScan, Value.scannable]) ?_))
  try refine wpAny_bind (wpAny_pure ?_)
  refine wpAny_bind (search R hx hu (fun m i _ => ?_) fun K m out inn => ?_)
  · exact wpAny_pure (q false s.heap L es ep t (Heap.SameBut.refl a s.heap) R (.inl ⟨m, rfl⟩))
  refine wpAny_bind (wpAny_setState_of g1 g3 R.ok ?_)
  dsimp only
  obtain ⟨q1, q2, q3, q4, q5, q6, q7, q8, q9⟩ := R.tb.put out inn
  generalize ept : t.put (way t.mask (k.hash w) K) = pt at q1 q3 q4 q5 q6 q7 q8 q9 ⊢
  obtain ⟨t1, pp⟩ := pt
  dsimp only at q1 q3 q4 q5 q6 q7 q8 q9 ⊢
  -- whatever is said of the hash, the table goes on
  have rest : ∀ t2 : SetTable, (t2 = t1 ∨ t2 = { t1 with plain := false }) → wpAny (model P w) A (do
      storeSet a (SetTable.insertAt es pp (k.hash w, .ref x)) t2
      if !false && t2.tooFull then setRelay a (SetTable.grown (es.size + 1))
      return true) Q E s := fun t2 e2 => by
    have f1 : t2.mask = t.mask := by rcases e2 with e | e <;> rw [e] <;> exact q4
    have f2 : t2.place = t1.place := by rcases e2 with e | e <;> rw [e]
    have f3 : t2.dummies = t1.dummies := by rcases e2 with e | e <;> rw [e]
    have f4 : t2.led = t.led := by rcases e2 with e | e <;> rw [e] <;> exact q5
    have f5 : t2.fill = L.length + 1 := by
      have : t2.fill = t1.fill := by unfold SetTable.fill; rw [f2, f3]
      rw [this, q9, List.length_map]
    subst q1
    have row1 : (SetTable.insertAt es (SetTable.below t.place (way t.mask (k.hash w) K)) (k.hash w, .ref x)).toList = rowN w (L.take (SetTable.below t.place (way t.mask (k.hash w) K)) ++ (x, k) :: L.drop (SetTable.below t.place (way t.mask (k.hash w) K))) := by
      rw [SetTable.toList_insertAt, R.row]
      simp [rowN, List.map_take, List.map_drop]
    have tb1 : TabOk t2 (hsN w (L.take (SetTable.below t.place (way t.mask (k.hash w) K)) ++ (x, k) :: L.drop (SetTable.below t.place (way t.mask (k.hash w) K)))) := by
      have e : hsN w (L.take (SetTable.below t.place (way t.mask (k.hash w) K)) ++ (x, k) :: L.drop (SetTable.below t.place (way t.mask (k.hash w) K))) = (hsN w L).take (SetTable.below t.place (way t.mask (k.hash w) K)) ++ k.hash w :: (hsN w L).drop (SetTable.below t.place (way t.mask (k.hash w) K)) := by
        simp [hsN, List.map_take, List.map_drop]
      rw [e]
      rcases e2 with e2 | e2 <;> rw [e2]
      · exact q3
      · exact ⟨q3.ris, q3.dm, q3.sz, q3.mok, q3.bd, q3.reach⟩
    generalize SetTable.below t.place (way t.mask (k.hash w) K) = b at row1 tb1 ⊢
    have pm := put_perm L b (x, k)
    generalize L.take b ++ (x, k) :: L.drop b = L1 at row1 tb1 pm
    have len1 : L1.length = L.length + 1 := by rw [pm.length_eq, List.length_cons]
    generalize SetTable.insertAt es b (k.hash w, .ref x) = es1 at row1 ⊢
    have sz1 : es1.size = L.length + 1 := by rw [← Array.length_toList, rowN_len row1, len1]
    refine wpAny_bind (wpAny_storeSet_of g1 g3 ?_ (by rw [sz1, sizeLine_eq]; omega))
    have d1 : Heap.SameBut a s.heap (s.heap.update a (Obj.putSet es1 t2)) := Heap.SameBut.update ..
    have o1 := store_at (es' := es1) (t' := t2) g1 g3
    generalize s.heap.update a (Obj.putSet es1 t2) = h1 at d1 o1 ⊢
    have key1 : ∀ z ∈ L1, KA h1 z.2 z.1 := fun z m => by
      rcases List.mem_cons.mp (pm.mem_iff.mp m) with e | m
      · rw [e]; exact hx.same R.obj d1
      · exact (R.key z m).same R.obj d1
    have one1 : (L1.map Prod.snd).Nodup := (pm.map Prod.snd).nodup_iff.mpr (by rw [List.map_cons]; exact List.nodup_cons.mpr ⟨m, R.one⟩)
    have ld1 : w.params.followText "set-order" = true ∨ t2.led = true := by rw [f4]; exact R.ld
    by_cases full : t2.tooFull = true
    · have big : (L.length + 1) * 5 ≥ t.mask * 3 := by
        have := full
        simp only [SetTable.tooFull, decide_eq_true_eq, f5, f1] at this
        exact this
      refine wp_if_pos (show (!false && t2.tooFull) = true by rw [full]; rfl) (wpAny_bind ?_)
      have grow : ∀ M, MaskOk M → SetTable.sizeAbove (SetTable.grown (es.size + 1)) = M + 1 → L.length + 1 ≤ t.mask → L1.length * 5 < M * 3 → wpAny (model P w) A (setRelay a (SetTable.grown (es.size + 1))) (fun _ s' => wpAny (model P w) A (pure true) Q E s') E { s with heap := h1 } := fun M hM e le hn => by
        refine larger (s := { s with heap := h1 }) o1 ⟨g2.1, g2.2.1, g2.2.2⟩ rfl row1 (by rw [tb1.sz, List.length_map]) tb1.dm (by rw [f1, len1]; exact le) one1 key1 ld1 (by omega) hM e hn fun h2 L2 es2 ep2 t3 d2 R2 pm2 => ?_
        exact wpAny_pure (q true h2 L2 es2 ep2 t3 (d1.trans d2) R2 (.inr ⟨m, pm2.trans pm⟩))
      rcases R.tb.mok with e | e | e <;> rw [e] at fr big
      · have : L.length = 4 := by omega
        exact grow 31 (.inr (.inl rfl)) (by rw [el, this]; exact size_20) (by omega) (by omega)
      · have : L.length = 18 := by omega
        exact grow 127 (.inr (.inr rfl)) (by rw [el, this]; exact size_76) (by omega) (by omega)
      · omega
    · refine wp_if_neg (show ¬ (!false && t2.tooFull) = true from full) ?_
      refine wpAny_pure (q true h1 L1 es1 (ep + 1) t2 d1 ⟨⟨_, o1, ⟨g2.1, g2.2.1, g2.2.2⟩, rfl⟩, row1, tb1, one1, key1, ld1, ?_, by omega⟩ (.inr ⟨m, pm⟩))
      have := full
      simp only [SetTable.tooFull, decide_eq_true_eq, f5] at this
      omega
  by_cases hp : t1.plain = true
  · first
      | (refine wp_if_pos hp (wpAny_bind (by_val k _ 8 _ s _ hx.1 fun b => ?_)))
      | (refine wpAny_bind (wp_if_pos hp (by_val k _ 8 _ s _ hx.1 fun b => ?_)))
    cases b
    · exact rest _ (.inr rfl)
    · exact rest _ (.inl rfl)
  · first
      | (refine wp_if_neg hp (wpAny_bind (wpAny_pure ?_)))
      | (refine wpAny_bind (wp_if_neg hp (wpAny_pure ?_)))
    exact rest _ (.inl rfl)
end
end NS

set_option Elab.async false
set_option linter.all false
set_option maxRecDepth 100000
set_option maxHeartbeats 4000000
namespace NS
open PySem PySem.Spec PyProof.Rows L2
def emptyObj (w : World) : Obj := { cls := .type "set", dict := none, data := .set #[] 0 (.fresh 0 0 (!w.params.followText "set-order")) }
section
variable {P : Program} {w : World} {A : Around} {E : Value → Shared → Prop} {s : Shared}
theorem set_from {T : String} (c1 : isSubtype (.type T) (.type "set") = pure false) (c2 : isSubtype (.type T) (.type "frozenset") = pure false) (c3 : (Value.type T == Value.type "dict") = false) {l : Addr} {ob : Obj} (g : s.heap.get? l = some ob) (gc : ob.cls = .type T)
    {Good : Shared → Prop} {Q : Value → Shared → Prop}
    (go : ∀ {B : Around} {q : Value → Shared → Prop}, B.handled = A.handled → B.units ≤ A.units + 3 → (∀ s', Good s' → q .none s') → wpAny (model P w) B (pyIter (.ref l)) (fun it s1 => wpAny (model P w) B (runValue (.builtin "set.update.loop" ⟨[.ref s.heap.objs.size, it], []⟩)) q E s1) E { s with heap := s.heap.push (emptyObj w) })
    (h : ∀ s', Good s' → Q (.ref s.heap.objs.size) s') :
    wpAny (model P w) A (call (.type "set") [.ref l]) Q E s := by
  obtain ⟨mc, mt, mro⟩ := F.called_set.mro
  have x1 := F.called_set.made
  have x2 := F.called_set.sub
  have x3 := F.called_set.notType
  have x4 := F.called_set.canCreate
  have x5 := F.typeCall_set_1 (.ref l)
  refine wpAny_call (codeAny_of_tree ?_)
  show wpAny _ _ (callAny (.type "set") _) _ _ _
  refine wpAny_pure ⟨Code.quiet_builtin _ (by decide +kernel), codeAny_builtin F.entry_type_call ?_⟩
  rw [Around.under_plain (weight_type_call_type "set" [.ref l] []) rfl]
  repeat (any_goals (first | assumption | wp_step))
  refine codeAny_mono (code_set_led1 (.ref l) (E := E) (Q₁ := fun v s1 => v = .ref s.heap.objs.size ∧ s1 = { s with heap := s.heap.push (emptyObj w) }) ⟨rfl, rfl⟩) fun r s1 hr => ?_
  match r, hr with
  | .error e, hr => exact hr
  | .ok (.ret v), hr =>
    obtain ⟨e1, e2⟩ := hr
    subst e1
    subst e2
    have gS : (s.heap.push (emptyObj w)).get? s.heap.objs.size = some (emptyObj w) := Heap.get?_push_size _ rfl
    have tS : Shared.TypeIs { s with heap := s.heap.push (emptyObj w) } (.ref s.heap.objs.size) "set" := ⟨_, gS, rfl⟩
    have x6 := F.called_set.init.lookup
    have x7 := F.called_set.init.bind (.ref s.heap.objs.size)
    repeat (any_goals (first | assumption | wp_step))
    refine codeAny_mono (codeAny_call_builtin (R := wants (fun v s2 => v = .none ∧ Good s2) E) F.called_set.init.plain F.entry_set_init (check_set_init_1 tS ?_)) fun r s2 hr => ?_
    · obtain ⟨a1, a2, a3, a4⟩ := ob
      dsimp only at gc
      subst gc
      have g' : (s.heap.push (emptyObj w)).get? l = some { cls := .type T, dict := a2, data := a3, slots := a4 } := Heap.get?_push_of_some _ g
      unfold Builtin.«set.__init__» noKeywords Builtin.Frozenset.updateFrom
      generalize hp : pyIter = pit at go ⊢
      generalize hr : runValue = rv at go ⊢
      wp_walk
      refine wpAny_mono (go (by simp) (by simp [Around.in1_units]) fun s2 z => ?_) (fun it s2 z => wpAny_bind z) fun _ _ z => z
      exact wpAny_pure (wpAny_pure ⟨rfl, z⟩)
    · match r, hr with
      | .error e, hr => exact hr
      | .ok (.ret v), hr =>
        obtain ⟨e1, z⟩ := hr
        subst e1
        repeat (any_goals (first | assumption | wp_step))
        exact h _ z
      | .ok .next, hr => exact hr.elim
      | .ok .brk, hr => exact hr.elim
      | .ok .cont, hr => exact hr.elim
  | .ok .next, hr => exact hr.elim
  | .ok .brk, hr => exact hr.elim
  | .ok .cont, hr => exact hr.elim
/-- what the first i keys of a list leave in a set -/
structure Fil (ks : KL) (i : Nat) (L : KL) : Prop where
  of : ∀ z ∈ L, z ∈ ks.take i
  to : ∀ z ∈ ks.take i, z.2 ∈ L.map Prod.snd
  le : L.length ≤ i
theorem Fil.step {ks L L' : KL} {i : Nat} {z : Addr × NestedKey} (g : Fil ks i L) (e : ks[i]? = some z) (c : z.2 ∈ L.map Prod.snd ∧ L' = L ∨ z.2 ∉ L.map Prod.snd ∧ L'.Perm ((z.1, z.2) :: L)) : Fil ks (i + 1) L' := by
  have tk : ks.take (i + 1) = ks.take i ++ [z] := by rw [List.take_succ, e]; rfl
  rcases c with ⟨m, rfl⟩ | ⟨_, pm⟩
  · refine ⟨fun y hy => by rw [tk]; exact List.mem_append_left _ (g.of y hy), fun y hy => ?_, Nat.le_succ_of_le g.le⟩
    rw [tk] at hy
    rcases List.mem_append.mp hy with hy | hy
    · exact g.to y hy
    · rw [List.mem_singleton.mp hy]; exact m
  · refine ⟨fun y hy => ?_, fun y hy => ?_, by rw [pm.length_eq, List.length_cons]; exact Nat.succ_le_succ g.le⟩
    · rw [tk]
      rcases List.mem_cons.mp (pm.mem_iff.mp hy) with hy | hy
      · rw [hy]; exact List.mem_append_right _ List.mem_cons_self
      · exact List.mem_append_left _ (g.of y hy)
    · rw [(pm.map Prod.snd).mem_iff, List.map_cons]
      rw [tk] at hy
      rcases List.mem_append.mp hy with hy | hy
      · exact List.mem_cons_of_mem _ (g.to y hy)
      · rw [List.mem_singleton.mp hy]; exact List.mem_cons_self
theorem KA.mono {h h' : Heap} {k : NestedKey} {b : Addr} (x : KA h k b) (d : ∀ c o, h.get? c = some o → h'.get? c = some o) : KA h' k b := ⟨NestedIs.at (fun c o _ _ e _ => d c o e) k _ x.1, x.2⟩
theorem NSt.mono {h h' : Heap} {a : Addr} {L : KL} {es : Array (Int × Value)} {ep : Nat} {t : SetTable} (R : NSt w h a L es ep t) (d : ∀ o, h.get? a = some o → h'.get? a = some o) (key : ∀ z ∈ L, KA h' z.2 z.1) : NSt w h' a L es ep t :=
  have ⟨ob, g1, g2⟩ := R.obj
  ⟨⟨ob, d _ g1, g2⟩, R.row, R.tb, R.one, key, R.ld, R.free, R.few⟩
theorem NSt.fresh {h : Heap} {a : Addr} (g : h.get? a = some (emptyObj w)) : NSt w h a [] #[] 0 (.fresh 0 0 (!w.params.followText "set-order")) where
  obj := ⟨_, g, ⟨rfl, rfl, rfl⟩, rfl⟩
  row := rfl
  tb := ⟨List.Pairwise.nil, rfl, rfl, .inl rfl, (fun _ m => nomatch m), fun i _ _ e => nomatch (show (none : Option Int) = _ from e)⟩
  one := List.nodup_nil
  key := fun _ m => nomatch m
  ld := by
    cases e : w.params.followText "set-order"
    · exact .inr rfl
    · exact .inl rfl
  free := by show 0 < 21; decide
  few := by show 0 < 64; decide
/-- the loop of set.update, over keys -/
theorem fill_loop {I S : Addr} {fp : List Addr} {ks : KL} {Pv : Nat → Value → Prop} {St : Nat → Heap → Prop} {R : Result → Shared → Prop} {h0 : Heap} (W : Walks P w A.in1 I fp [I] ks.length Pv St) (nS : S ∉ fp) (few : ks.length < 64)
    (val : ∀ i v, Pv i v → ∃ z, ks[i]? = some z ∧ v = .ref z.1) (keys : ∀ z ∈ ks, KA h0 z.2 z.1) (newS : h0.get? S = none) (newI : h0.get? I = none) (hu : A.in1.units + 8 < cLine) :
    ∀ (m i : Nat) (s : Shared), i + m = ks.length → St i s.heap → (∀ b o, h0.get? b = some o → s.heap.get? b = some o) → (∃ L es ep t, NSt w s.heap S L es ep t ∧ Fil ks i L) →
      (∀ h' tk L es ep t, NSt w h' S L es ep t → Fil ks ks.length L → (∀ b o, h0.get? b = some o → h'.get? b = some o) → R (.ok (.ret .none)) { s with heap := h', toks := tk }) →
      codeAny (model P w) A (.builtin "set.update.loop" ⟨[.ref S, .ref I], []⟩) R s := by
  have nI : S ≠ I := fun e => nS (by rw [e]; exact W.sub _ List.mem_cons_self)
  have kp : ∀ {h1 h2 : Heap}, (∀ b o, b ∉ [I] → h1.get? b = some o → h2.get? b = some o) → (∀ b o, h0.get? b = some o → h1.get? b = some o) → ∀ b o, h0.get? b = some o → h2.get? b = some o := fun mv k b o e =>
    mv b o (fun m => by rw [List.mem_singleton.mp m, newI] at e; cases e) (k b o e)
  have stay : ∀ {h1 h2 : Heap} {L : KL} {es : Array (Int × Value)} {ep : Nat} {t : SetTable} {i : Nat}, NSt w h1 S L es ep t → Fil ks i L → (∀ b o, b ∉ [I] → h1.get? b = some o → h2.get? b = some o) → (∀ b o, h0.get? b = some o → h2.get? b = some o) → NSt w h2 S L es ep t := fun R g mv k =>
    R.mono (fun o e => mv S o (fun m => nI (List.mem_singleton.mp m)) e) fun z m => (keys z (List.mem_of_mem_take (g.of z m))).mono k
  intro m
  induction m with
  | zero =>
    intro i s hi st k ⟨L, es, ep, t, R0, g⟩ q
    obtain rfl : i = ks.length := hi
    refine codeAny_builtin F.entry_set_update_loop ?_
    rw [Around.under_plainId F.plain_set_update_loop _]
    refine wpAny_bind (W.done s _ _ st fun h' tk mv => ?_)
    have k' := kp mv k
    exact wpAny_pure (q h' tk L es ep t (stay R0 g mv k') g k')
  | succ m ih =>
    intro i s hi st k ⟨L, es, ep, t, R0, g⟩ q
    refine codeAny_builtin F.entry_set_update_loop ?_
    rw [Around.under_plainId F.plain_set_update_loop _]
    refine wpAny_bind (W.item i s _ _ (by omega) st fun v h1 tk pv st1 mv => ?_)
    obtain ⟨z, hz, rfl⟩ := val i v pv
    have k1 := kp mv k
    have x : KA h1 z.2 z.1 := (keys z (List.mem_of_getElem? hz)).mono k1
    refine wpAny_bind (wpAny_holding ?_)
    unfold setAdd
    refine wpAny_holding (wpAny_bind (pyHash_key z.2 _ A.in1 { s with heap := h1, toks := tk } _ x.1 (by have := x.2; omega) ?_))
    have gl := g.le
    refine put_in (s := { s with heap := h1, toks := tk + z.2.draws }) (stay R0 g mv k1) x hu (by omega) fun b h2 L2 es2 ep2 t2 d R2 c => ?_
    have off : ∀ b o, b ≠ S → h1.get? b = some o → h2.get? b = some o := fun b o n e => (d.2 b n).trans e
    have k2 : ∀ b o, h0.get? b = some o → h2.get? b = some o := fun b o e => off b o (fun n => by rw [n, newS] at e; cases e) (k1 b o e)
    refine wpAny_pure ⟨plainId_quiet F.plain_set_update_loop _, ih (i + 1) _ (by omega) (W.frame _ h1 h2 st1 fun b m o e => off b o (fun n => nS (by rw [← n]; exact m)) e) k2 ⟨L2, es2, ep2, t2, R2, g.step hz c⟩ fun h' tk' => q h' tk'⟩
theorem fresh_none (h : Heap) {b : Addr} (e : h.objs.size ≤ b) : h.get? b = none := by
  cases g : h.get? b with
  | none => rfl
  | some o => exact absurd (Heap.lt_size g) (Nat.not_lt.mpr e)
/-- set(xs) of a list or a tuple of keys -/
theorem set_keys {l : Addr} {items : Array Value} (ks : KL) {Q : Value → Shared → Prop} (hh : A.handled = none) (hl : s.heap.IsList l items ∨ s.heap.IsTuple l items) (hit : items.toList = ks.map fun z => Value.ref z.1)
    (keys : ∀ z ∈ ks, KA s.heap z.2 z.1) (few : ks.length < 64) (hu : A.units + 12 < cLine)
    (q : ∀ (h' : Heap) (tk : Nat) L es ep t, NSt w h' s.heap.objs.size L es ep t → Fil ks ks.length L → (∀ b o, s.heap.get? b = some o → h'.get? b = some o) → Q (.ref s.heap.objs.size) { s with heap := h', toks := tk }) :
    wpAny (model P w) A (call (.type "set") [.ref l]) Q E s := by
  have len : items.size = ks.length := by rw [← Array.length_toList, hit, List.length_map]
  have val : ∀ (i : Nat) (v : Value), items[i]? = some v → ∃ z, ks[i]? = some z ∧ v = .ref z.1 := fun i v e => by
    rw [← Array.getElem?_toList, hit, List.getElem?_map] at e
    cases g : ks[i]? with
    | none => rw [g] at e; cases e
    | some z => rw [g] at e; exact ⟨z, rfl, (Option.some.inj e).symm⟩
  have sz : (s.heap.push (emptyObj w)).objs.size = s.heap.objs.size + 1 := size_push' _ _
  have gS : (s.heap.push (emptyObj w)).get? s.heap.objs.size = some (emptyObj w) := Heap.get?_push_size _ rfl
  have lt : l < s.heap.objs.size := by
    rcases hl with ⟨o, e, _⟩ | ⟨o, e, _⟩ <;> exact Heap.lt_size e
  have ne1 : l ≠ (s.heap.push (emptyObj w)).objs.size := by rw [sz]; exact Nat.ne_of_lt (Nat.lt_succ_of_lt lt)
  have ne2 : s.heap.objs.size ∉ [(s.heap.push (emptyObj w)).objs.size, l] := fun m => by
    rcases List.mem_cons.mp m with e | m
    · rw [sz] at e; exact absurd e (Nat.ne_of_lt (Nat.lt_succ_self _))
    · exact absurd (List.mem_singleton.mp m) (Nat.ne_of_gt lt)
  rcases hl with hl | hl
  · obtain ⟨o, g, gc, gr⟩ := id hl
    refine set_from F.sub_list_set F.sub_list_frozenset (by decide) g gc (Good := fun s' => ∃ h' tk L es ep t, s' = { s with heap := h', toks := tk } ∧ NSt w h' s.heap.objs.size L es ep t ∧ Fil ks ks.length L ∧ ∀ b o, s.heap.get? b = some o → h'.get? b = some o) (fun {B q'} b1 b2 b3 => ?_) fun s' ⟨h', tk, L, es, ep, t, e, z1, z2, z3⟩ => by rw [e]; exact q h' tk L es ep t z1 z2 z3
    have l1 : (s.heap.push (emptyObj w)).IsList l items := ⟨o, Heap.get?_push_of_some _ g, gc, gr⟩
    refine wpAny_pyIter_list l1 (wpAny_runValue ?_)
    refine fill_loop (ks := ks) (h0 := s.heap) (len ▸ Walks.list (A := B.in1) (by simp [b1, hh]) _ l ne1 items) ne2 few val keys (fresh_none _ (Nat.le_refl _)) (fresh_none _ (by rw [sz]; omega)) (by rw [Around.in1_units]; omega)
      ks.length 0 _ (Nat.zero_add _) ⟨⟨_, Heap.get?_push_size _ rfl, rfl, rfl⟩, l1.push _⟩ (fun b o e => Heap.get?_push_of_some _ (Heap.get?_push_of_some _ e)) ⟨[], #[], 0, _, NSt.fresh (Heap.get?_push_of_some _ gS), ⟨fun _ m => (nomatch m), fun _ m => (nomatch m), Nat.le_refl _⟩⟩
      fun h' tk L es ep t z1 z2 z3 => b3 _ ⟨h', tk, L, es, ep, t, rfl, z1, z2, z3⟩
  · obtain ⟨o, g, gc, gr⟩ := id hl
    refine set_from F.sub_tuple_set F.sub_tuple_frozenset (by decide) g gc (Good := fun s' => ∃ h' tk L es ep t, s' = { s with heap := h', toks := tk } ∧ NSt w h' s.heap.objs.size L es ep t ∧ Fil ks ks.length L ∧ ∀ b o, s.heap.get? b = some o → h'.get? b = some o) (fun {B q'} b1 b2 b3 => ?_) fun s' ⟨h', tk, L, es, ep, t, e, z1, z2, z3⟩ => by rw [e]; exact q h' tk L es ep t z1 z2 z3
    have l1 : (s.heap.push (emptyObj w)).IsTuple l items := ⟨o, Heap.get?_push_of_some _ g, gc, gr⟩
    refine wpAny_pyIter_tuple l1 (wpAny_runValue ?_)
    refine fill_loop (ks := ks) (h0 := s.heap) (len ▸ Walks.tuple (A := B.in1) (by simp [b1, hh]) _ l ne1 items) ne2 few val keys (fresh_none _ (Nat.le_refl _)) (fresh_none _ (by rw [sz]; omega)) (by rw [Around.in1_units]; omega)
      ks.length 0 _ (Nat.zero_add _) ⟨⟨_, Heap.get?_push_size _ rfl, rfl, rfl⟩, l1.push _⟩ (fun b o e => Heap.get?_push_of_some _ (Heap.get?_push_of_some _ e)) ⟨[], #[], 0, _, NSt.fresh (Heap.get?_push_of_some _ gS), ⟨fun _ m => (nomatch m), fun _ m => (nomatch m), Nat.le_refl _⟩⟩
      fun h' tk L es ep t z1 z2 z3 => b3 _ ⟨h', tk, L, es, ep, t, rfl, z1, z2, z3⟩
end
end NS

set_option Elab.async false
set_option linter.all false
set_option maxRecDepth 100000
set_option maxHeartbeats 4000000
namespace NS
open PySem PySem.Spec PyProof.Rows L2 PySem.W E
/-! ### data as keys -/
mutual
def kbl : PyData → Bool
  | .list _ | .dict _ => false
  | .tuple xs => kbls xs
  | .none | .bool _ | .int _ | .str _ => true
def kbls : List PyData → Bool
  | [] => true
  | x :: xs => kbl x && kbls xs
end
mutual
def nkd : PyData → NestedKey
  | .none => .none
  | .bool b => .num (if b = true then 1 else 0)
  | .int i => .num i
  | .str x => .text x
  | .tuple xs => .tup (nkds xs)
  | .list _ => .none
  | .dict _ => .none
def nkds : List PyData → List NestedKey
  | [] => []
  | x :: xs => nkd x :: nkds xs
end
mutual
theorem nkd_is {h : Heap} : ∀ (d : PyData) (v : Value) (as : List Addr), Reads h v d as → kbl d = true → NestedIs h (nkd d) v
  | .none, _, _, r, _ => by cases r; exact .none
  | .bool b, _, _, r, _ => by cases r; exact .bool rfl
  | .int i, _, _, r, _ => by cases r; exact .int _ _
  | .str x, _, _, r, _ => by cases r; exact .text _ _
  | .tuple xs, _, _, r, k => by
    cases r with
    | tuple h1 h2 h3 h4 => exact .tup h1 h2 h3 (nkds_is xs _ _ h4 k)
  | .list _, _, _, _, k => nomatch k
  | .dict _, _, _, _, k => nomatch k
theorem nkds_is {h : Heap} : ∀ (ds : List PyData) (vs : List Value) (as : List Addr), ReadsAll h vs ds as → kbls ds = true → NestedAll h (nkds ds) vs
  | [], _, _, r, _ => by cases r; exact .nil
  | d :: ds, _, _, r, k => by
    have k' : (kbl d && kbls ds) = true := k
    rw [Bool.and_eq_true] at k'
    cases r with
    | cons r1 r2 => exact .cons (nkd_is d _ _ r1 k'.1) (nkds_is ds _ _ r2 k'.2)
end
mutual
theorem nkd_depth : ∀ d : PyData, (nkd d).depth ≤ d.depth
  | .none => Nat.le_refl _
  | .bool b => Nat.le_refl _
  | .int i => Nat.le_refl _
  | .str x => Nat.le_refl _
  | .tuple xs => Nat.succ_le_succ (nkds_depth xs)
  | .list _ => Nat.zero_le _
  | .dict _ => Nat.zero_le _
theorem nkds_depth : ∀ ds : List PyData, NestedKey.depthAll (nkds ds) ≤ PyData.depthAll ds
  | [] => Nat.le_refl _
  | d :: ds => by
    have h1 := nkd_depth d
    have h2 := nkds_depth ds
    show max (nkd d).depth (NestedKey.depthAll (nkds ds)) ≤ max d.depth (PyData.depthAll ds)
    omega
end
/-! ### the set as a known thing -/
structure NS0 (w : World) (h : Heap) (a : Addr) (L : KL) : Prop where
  is : ∃ es ep t, SetObj h a es ep t ∧ es.toList = rowN w L ∧ TabOk t (hsN w L) ∧ (L.map Prod.snd).Nodup ∧ (w.params.followText "set-order" = true ∨ t.led = true) ∧ L.length * 5 < t.mask * 3 ∧ L.length < 64
def NSO (w : World) (a : Addr) (L : KL) : HO := .ext fun h => NS0 w h a L
theorem NSt.zero {w : World} {h : Heap} {a : Addr} {L : KL} {es : Array (Int × Value)} {ep : Nat} {t : SetTable} (R : NSt w h a L es ep t) : NS0 w h a L := ⟨es, ep, t, R.obj, R.row, R.tb, R.one, R.ld, R.free, R.few⟩
theorem NS0.nst {w : World} {h : Heap} {a : Addr} {L : KL} (R : NS0 w h a L) (key : ∀ z ∈ L, KA h z.2 z.1) : ∃ es ep t, NSt w h a L es ep t := by
  obtain ⟨es, ep, t, h1, h2, h3, h4, h5, h6, h7⟩ := R.is
  exact ⟨es, ep, t, h1, h2, h3, h4, key, h5, h6, h7⟩
theorem nso_new {P : Program} {w : World} {H : Hp} {h : Heap} {a : Addr} {L : KL} (R : NS0 w h a L) : ObjOk P w H h a (NSO w a L) := by
  have ⟨es, ep, t, ⟨o, g, r⟩, q⟩ := R.is
  refine ⟨R, ⟨o, g⟩, fun h1 h2 p k => ?_⟩
  have ⟨es', ep', t', ⟨o', g', r'⟩, q'⟩ := NS0.is p
  exact ⟨es', ep', t', ⟨o', k _ g', r'⟩, q'⟩
/-! ### set(xs) -/
section
variable {β : Type}
def keyT (enc : β → PyData) (T : List (Addr × β)) : KL := T.map fun x => (x.1, nkd (enc x.2))
theorem pick_of {α γ : Type} {P : α → Prop} {g : α → γ} : ∀ L : List γ, (∀ z ∈ L, ∃ x, P x ∧ z = g x) → ∃ T : List α, L = T.map g ∧ ∀ x ∈ T, P x
  | [], _ => ⟨[], rfl, fun _ m => nomatch m⟩
  | z :: L, h => by
    obtain ⟨x, hx, rfl⟩ := h z List.mem_cons_self
    obtain ⟨T, rfl, hT⟩ := pick_of L fun y m => h y (List.mem_cons_of_mem _ m)
    exact ⟨x :: T, rfl, fun y m => by
      rcases List.mem_cons.mp m with rfl | m
      · exact hx
      · exact hT y m⟩
/-- what is wanted of the data of a set -/
def Keyable (d : PyData) : Prop := kbl d = true ∧ d.depth ≤ 8 ∧ ∃ ds, d = .tuple ds
def rSetB (K : PySem.W.Frag) (w : World) (enc : β → PyData) : List V → Hp → VK → Prop := fun vs H Q => ∃ (l : Addr) (xs : List V) (bs : List β), vs = [.ref l] ∧ (SqL K H l xs ∨ SqT K H l xs) ∧ DpAll K H xs (bs.map enc) ∧ (∀ b ∈ bs, Keyable (enc b)) ∧ bs.length < 64 ∧
  ∀ (a : Addr) (T : List (Addr × β)), H a = none → (∀ x ∈ T, ∃ i : Nat, xs[i]? = some (.ref x.1) ∧ bs[i]? = some x.2) → (∀ b ∈ bs, nkd (enc b) ∈ (keyT enc T).map Prod.snd) → ((keyT enc T).map Prod.snd).Nodup → T.length < 64 → Q (.ref a) (upd H a (NSO w a (keyT enc T)))
theorem addrs_of {K : PySem.W.Frag} {H : Hp} {enc : β → PyData} : ∀ {xs : List V} {us : List Value} {bs : List β}, DpAll K H xs (bs.map enc) → (∀ b ∈ bs, Keyable (enc b)) → Vals xs us → ∃ ps : List (Addr × β), xs = ps.map (fun x => V.ref x.1) ∧ us = ps.map (fun x => Value.ref x.1) ∧ bs = ps.map Prod.snd
  | _, _, [], .nil, _, .nil => ⟨[], rfl, rfl, rfl⟩
  | _, _, b :: bs, h, k, r => by
    have h' : DpAll K H _ (enc b :: bs.map enc) := h
    cases h' with
    | cons h1 h2 =>
      cases r with
      | cons r1 r2 =>
        obtain ⟨ps, e1, e2, e3⟩ := addrs_of h2 (fun c m => k c (List.mem_cons_of_mem _ m)) r2
        obtain ⟨_, _, ds, ed⟩ := k b List.mem_cons_self
        rw [ed] at h1
        cases h1
        cases r1
        exact ⟨(_, b) :: ps, by rw [e1]; rfl, by rw [e2]; rfl, by rw [e3]; rfl⟩
theorem ka_of {X : Cx} {pins : List (Addr × Obj)} {σ : L2.St} {H : Hp} {s : Shared} {a : Addr} {d : PyData} (I : Inv X pins σ H s) (h : Dp X.K H (.ref a) d) (k : Keyable d) : KA s.heap (nkd d) a := by
  obtain ⟨as, r⟩ := Dp.reads I d _ (.ref a) h rfl
  exact ⟨nkd_is d _ as r k.1, Nat.le_trans (nkd_depth d) k.2.1⟩
theorem cr_setB {X : Cx} {enc : β → PyData} (hc : X.calm = true) (hu : X.A.units + 64 < cLine) : CallR X (.type "set") (rSetB X.K X.w enc) := by
  intro pins s σ H vs us Q I r h
  obtain ⟨l, xs, bs, rfl, hl, hd, hk, hb, q⟩ := h
  rw [Vals.ref1 r]
  have hi : ∃ its : List Value, Vals xs its ∧ (s.heap.IsList l its.toArray ∨ s.heap.IsTuple l its.toArray) := by
    rcases hl with hl | hl
    · obtain ⟨its, rv, p, _⟩ := I.list hl
      exact ⟨its, rv, .inl p.isList⟩
    · obtain ⟨its, rv, p, _⟩ := I.tuple hl
      exact ⟨its, rv, .inr p⟩
  obtain ⟨its, rv, hits⟩ := hi
  obtain ⟨ps, e1, e2, e3⟩ := addrs_of hd hk rv
  have dp : ∀ x ∈ ps, ∃ i : Nat, xs[i]? = some (.ref x.1) ∧ bs[i]? = some x.2 := fun x m => by
    obtain ⟨i, hi, e⟩ := List.getElem_of_mem m
    refine ⟨i, ?_, ?_⟩
    · rw [e1, List.getElem?_map, List.getElem?_eq_getElem hi, e]; rfl
    · rw [e3, List.getElem?_map, List.getElem?_eq_getElem hi, e]; rfl
  have ka : ∀ x ∈ ps, KA s.heap (nkd (enc x.2)) x.1 := fun x m => by
    obtain ⟨i, h1, h2⟩ := dp x m
    obtain ⟨v, h3, h4⟩ := dpAll_get hd (show (bs.map enc)[i]? = some (enc x.2) by rw [List.getElem?_map, h2]; rfl)
    rw [h1] at h3
    cases h3
    exact ka_of I h4 (hk _ (List.mem_of_getElem? h2))
  refine set_keys (P := X.prog) (w := X.w) (keyT enc ps) (I.ok.hd hc) hits (by rw [List.toList_toArray, e2, keyT, List.map_map]; rfl) (fun z m => ?_) (by rw [keyT, List.length_map]; rw [e3, List.length_map] at hb; exact hb) (by omega) fun h' tk L es ep t R g kp => ?_
  · obtain ⟨x, hx, rfl⟩ := List.mem_map.mp m
    exact ka x hx
  have gof : ∀ z ∈ L, z ∈ keyT enc ps := fun z m => List.mem_of_mem_take (g.of z m)
  obtain ⟨T, eT, hT⟩ := pick_of (P := fun x => x ∈ ps) (g := fun x : Addr × β => (x.1, nkd (enc x.2))) L fun z m => by
    obtain ⟨x, hx, e⟩ := List.mem_map.mp (gof z m)
    exact ⟨x, hx, e.symm⟩
  have eT' : L = keyT enc T := eT
  subst eT'
  refine ⟨.ref s.heap.objs.size, _, I.laid (t' := tk) kp (Nat.le_refl _) (nso_new R.zero), rfl, q _ T (I.hok.fresh (Nat.le_refl _)) (fun x m => dp x (hT x m)) (fun b m => ?_) R.one ?_⟩
  · rw [e3] at m
    obtain ⟨x, hx, rfl⟩ := List.mem_map.mp m
    exact g.to (x.1, nkd (enc x.2)) (by rw [List.take_length]; exact List.mem_map.mpr ⟨x, hx, rfl⟩)
  · have := R.few
    rw [keyT, List.length_map] at this
    exact this
/-! ### sorted(a set) -/
/-- a way to sort -/
structure Srt (enc : β → PyData) (ok : β → Prop) (le : β → β → Prop) : Prop where
  go : ∀ (P : Program) (w : World) (A : Around) (s : Shared) (vs : List Value) (bs : List β), EachIs (fun v b => ∃ as, Reads s.heap v (enc b) as) vs bs → (∀ b ∈ bs, ok b) → A.units + 110 < cLine →
    ∃ κ, SortsAt P w A s κ vs ∧ ∀ R : Value → β → Prop, EachIs R vs bs → ∃ cs : List β, cs.Perm bs ∧ cs.Pairwise le ∧ EachIs R (sortVals κ false vs vs) cs
theorem each_of_map' {α γ : Type} {R : α → γ → Prop} {δ : Type} {f : δ → α} {g : δ → γ} : ∀ l : List δ, (∀ x ∈ l, R (f x) (g x)) → EachIs R (l.map f) (l.map g)
  | [], _ => .nil
  | x :: l, h => .cons (h x List.mem_cons_self) (each_of_map' l fun y m => h y (List.mem_cons_of_mem _ m))
theorem perm_lift {α γ : Type} {f : α → γ} {l m : List γ} (p : l.Perm m) : ∀ {L : List α}, m = L.map f → ∃ M : List α, M.Perm L ∧ l = M.map f := by
  induction p with
  | nil =>
    intro L e
    exact ⟨[], by rw [List.map_eq_nil_iff.mp e.symm], rfl⟩
  | cons x _ ih =>
    intro L e
    cases L with
    | nil => cases e
    | cons z L =>
      obtain ⟨e1, e2⟩ := List.cons.inj e
      obtain ⟨M, pm, rfl⟩ := ih e2
      exact ⟨z :: M, pm.cons z, by rw [e1]; rfl⟩
  | swap x y l =>
    intro L e
    cases L with
    | nil => cases e
    | cons z L =>
      cases L with
      | nil => cases (List.cons.inj e).2
      | cons u L =>
        obtain ⟨e1, e2⟩ := List.cons.inj e
        obtain ⟨e2, e3⟩ := List.cons.inj e2
        exact ⟨u :: z :: L, List.Perm.swap z u L, by rw [e1, e2, e3]; rfl⟩
  | trans _ _ ih1 ih2 =>
    intro L e
    obtain ⟨M, pm, e1⟩ := ih2 e
    obtain ⟨N, pn, e2⟩ := ih1 e1
    exact ⟨N, pn.trans pm, e2⟩
theorem each_pairs {K : PySem.W.Frag} {T : List (Addr × β)} : ∀ {vs : List Value} {cs : List β}, EachIs (fun v b => ∃ x ∈ T, v = Value.ref x.1 ∧ x.2 = b) vs cs → ∃ M : List (Addr × β), vs = M.map (fun x => Value.ref x.1) ∧ cs = M.map Prod.snd ∧ ∀ x ∈ M, x ∈ T
  | _, _, .nil => ⟨[], rfl, rfl, fun _ m => nomatch m⟩
  | _, _, .cons ⟨x, hx, e1, e2⟩ t => by
    obtain ⟨M, h1, h2, h3⟩ := each_pairs (K := K) t
    exact ⟨x :: M, by rw [e1, h1]; rfl, by rw [← e2, h2]; rfl, fun y m => by
      rcases List.mem_cons.mp m with rfl | m
      · exact hx
      · exact h3 y m⟩
def rSortB (K : PySem.W.Frag) (w : World) (enc : β → PyData) (ok : β → Prop) (le : β → β → Prop) : List V → Hp → VK → Prop := fun vs H Q => ∃ (a : Addr) (T : List (Addr × β)), vs = [.ref a] ∧ H a = some (NSO w a (keyT enc T)) ∧ (∀ x ∈ T, Dp K H (.ref x.1) (enc x.2) ∧ Keyable (enc x.2) ∧ ok x.2) ∧
  ∀ (p : Addr) (M : List (Addr × β)), H p = none → (M.map Prod.snd).Perm (T.map Prod.snd) → (∀ x ∈ M, x ∈ T) → (M.map Prod.snd).Pairwise le → Q (.ref p) (upd H p (.lst (M.map fun x => V.ref x.1)))
theorem vals_refs : ∀ M : List (Addr × β), Vals (M.map fun x => V.ref x.1) (M.map fun x => Value.ref x.1)
  | [] => .nil
  | _ :: M => .cons rfl (vals_refs M)
theorem cr_sortB {X : Cx} {enc : β → PyData} {ok : β → Prop} {le : β → β → Prop} (so : Srt enc ok le) (hc : X.calm = true) (hu : X.A.units + 200 < cLine) : CallR X (.builtin "sorted") (rSortB X.K X.w enc ok le) := by
  intro pins s σ H vs us Q I r h
  obtain ⟨a, T, rfl, ha, hT, q⟩ := h
  rw [Vals.ref1 r]
  have R0 : NS0 X.w s.heap a (keyT enc T) := (I.hok a _ ha).1
  obtain ⟨es, ep, t, R⟩ := R0.nst fun z m => by
    obtain ⟨x, hx, rfl⟩ := List.mem_map.mp m
    exact ka_of I (hT x hx).1 (hT x hx).2.1
  have ⟨ob, g1, g2, g3⟩ := R.obj
  have el := R.len
  have few := R.few
  refine Calls.call_function_entry kind_sorted plain_sorted entry_sorted (args_sorted1 _) ?_
  unfold Builtin.«sorted»
  refine wpAny_bind (m := checkCount "sorted" 1 1 _) (wpAny_pure ?_)
  refine wpAny_bind (collect_set (A := X.A.in1) (I.ok.hd hc) ⟨ob, g1, g2.1, g3⟩ R.ok (by unfold scanBound; omega) R.tb.ris R.ld fun s1 vs kp hz ge os pm => ?_)
  have pm' : vs.Perm (T.map fun x => Value.ref x.1) := by
    have : es.toList.map (·.2) = T.map fun x => Value.ref x.1 := by rw [R.row, rowN, keyT, List.map_map, List.map_map]; rfl
    rw [this] at pm
    exact pm
  obtain ⟨T1, p1, rfl⟩ := perm_lift pm' rfl
  have len1 : (T1.map fun x => Value.ref x.1).length ≤ sizeLine := by
    rw [List.length_map, p1.length_eq]
    rw [keyT, List.length_map] at few
    rw [sizeLine_eq]
    omega
  refine wpAny_bind (wpAny_newList ?_ len1)
  have kp2 : ∀ b u, s.heap.get? b = some u → (s1.heap.push (seqObj "list" (T1.map fun x => Value.ref x.1).toArray 0)).get? b = some u := fun b u e => Heap.get?_push_of_some _ (kp b u e)
  have ne : ∀ b u, s.heap.get? b = some u → b ≠ s1.heap.objs.size := fun b u e => Nat.ne_of_lt (Heap.lt_size (kp b u e))
  have rd : EachIs (fun v b => ∃ as, Reads (sortingHeap (s1.heap.push (seqObj "list" (T1.map fun x => Value.ref x.1).toArray 0)) s1.heap.objs.size (T1.map fun x => Value.ref x.1)) v (enc b) as) (T1.map fun x => Value.ref x.1) (T1.map Prod.snd) :=
    each_of_map' T1 fun x m => by
      obtain ⟨as, r⟩ := Dp.reads I (enc x.2) _ (.ref x.1) (hT x (p1.mem_iff.mp m)).1 rfl
      exact ⟨as, PyProof.Rows.Reads.keeps (fun b u e => sortingHeap_old (ne b u e) (kp2 b u e)) r⟩
  obtain ⟨κ, S, out⟩ := so.go X.prog X.w X.A.in1.in1 { s1 with heap := sortingHeap (s1.heap.push (seqObj "list" (T1.map fun x => Value.ref x.1).toArray 0)) s1.heap.objs.size (T1.map fun x => Value.ref x.1) } _ _ rd
    (fun b m => by obtain ⟨x, hx, rfl⟩ := List.mem_map.mp m; exact (hT x (p1.mem_iff.mp hx)).2.2) (by show X.A.units + 1 + 1 + 110 < cLine; omega)
  have go : (s1.heap.push (seqObj "list" (T1.map fun x => Value.ref x.1).toArray 0)).get? s1.heap.objs.size = some (seqObj "list" (T1.map fun x => Value.ref x.1).toArray 0) := Heap.get?_push_size _ rfl
  refine wpAny_bind (wpAny_holding (wpAny_call_entry slot_list_sort ⟨_, go, rfl⟩ entry_list_sort ?_ (args_list_sort _)))
  refine list_sort_vals (s := { s1 with heap := s1.heap.push (seqObj "list" (T1.map fun x => Value.ref x.1).toArray 0) }) go S len1 ⟨.none, rfl, ?_⟩
  obtain ⟨cs, c1, c2, c3⟩ := out (fun v b => ∃ x ∈ T, v = Value.ref x.1 ∧ x.2 = b) (each_of_map' T1 fun x m => ⟨x, p1.mem_iff.mp m, rfl, rfl⟩)
  obtain ⟨M, m1, m2, m3⟩ := each_pairs (K := X.K) c3
  rw [m1]
  obtain ⟨c, hcq⟩ := sortedHeap_at (vs := T1.map fun x => Value.ref x.1) (out := (M.map fun x => Value.ref x.1).toArray) go
  have hp : s.heap.objs.size ≤ s1.heap.objs.size := hz
  have pM : (M.map Prod.snd).Perm (T.map Prod.snd) := by
    rw [← m2]
    exact c1.trans (p1.map Prod.snd)
  have lenM : (M.map fun x => V.ref x.1).length ≤ sizeLine := by
    have := pM.length_eq
    rw [List.length_map, List.length_map] at this
    rw [keyT, List.length_map] at few
    rw [List.length_map, sizeLine_eq]
    omega
  have hn : H s1.heap.objs.size = none := I.hok.fresh hp
  have old : ∀ b u, s.heap.get? b = some u → (sortedHeap (s1.heap.push (seqObj "list" (T1.map fun x => Value.ref x.1).toArray 0)) s1.heap.objs.size (T1.map fun x => Value.ref x.1) (M.map fun x => Value.ref x.1).toArray).get? b = some u := fun b u e => by
    rw [sortedHeap_old (ne b u e) (by rw [size_push']; exact Nat.lt_succ_of_lt (Heap.lt_size (kp b u e)))]
    exact kp2 b u e
  refine wpAny_pure ⟨_, rfl, .ref s1.heap.objs.size, _, ?_, rfl, q _ M hn pM m3 (by rw [← m2]; exact c2)⟩
  refine I.call' (ch := []) os (Un.laid old hp hn) (I.hok.laid old hp ⟨lenM, _, c, vals_refs M, hcq⟩) (by show AllBare s1.gens; rw [ge]; exact I.bare) (fun _ z => nomatch z)
end
/-- formulas -/
theorem srt_fm : Srt Fm.d (fun f => f.d.canLay0 = true ∧ f.ht ≤ 100) (fun a b => Fm.le a b = true) := ⟨fun P w A s vs fs e ok hu => by
  refine ⟨fmKind s.heap fs, sorts_fm e fun f hf => ⟨(ok f hf).1, by have := (ok f hf).2; omega⟩, fun R h => ⟨fs.mergeSort Fm.le, List.mergeSort_perm _ _, ms_sorted fs, ?_⟩⟩
  have ek : EachIs (fun v f => (fmKind s.heap fs).keyOf v = some (Fm.toks f)) vs fs := (each_mem e).mono fun v f ⟨⟨as, r⟩, hf⟩ => fmKind_some hf r
  exact sortVals_each (κ := fmKind s.heap fs) (rev := false) Fm.toks h ek⟩
/-- pairs of ints -/
def zle (p q : Int × Int) : Prop := p.1 < q.1 ∨ (p.1 = q.1 ∧ p.2 ≤ q.2)
theorem srt_zz : Srt zd (fun _ => True) zle := ⟨fun P w A s vs zs e _ hu => by
  have al : AllAlike (zs.map zd) := fun d hd d' hd' => by
    obtain ⟨b, _, rfl⟩ := List.mem_map.mp hd
    obtain ⟨b', _, rfl⟩ := List.mem_map.mp hd'
    exact PySem.W.DatumOrd.alike (α := Int × Int) b b'
  have so : Sortable (zs.map zd) := .inl fun d hd => by
    obtain ⟨b, _, rfl⟩ := List.mem_map.mp hd
    exact ⟨_, _, rfl⟩
  have em := each_map (R := fun v d => ∃ as, Reads s.heap v d as) zd e
  refine ⟨dataKind s.heap (zs.map zd), SortsAt.data em al so fun d hd => ?_, fun R h => ⟨zs.mergeSort (dataLe false zd), List.mergeSort_perm _ _, ?_, sortVals_data false h e al⟩⟩
  · obtain ⟨b, _, rfl⟩ := List.mem_map.mp hd
    have : (zd b).depth = 1 := rfl
    omega
  · have ele : dataLe false zd = fun p q : Int × Int => decide (p.1 < q.1 ∨ (p.1 = q.1 ∧ p.2 ≤ q.2)) := dataLe_ii (β := Int × Int) Prod.fst Prod.snd
    rw [ele]
    have key : (zs.mergeSort fun p q : Int × Int => decide (p.1 < q.1 ∨ (p.1 = q.1 ∧ p.2 ≤ q.2))).Pairwise fun p q => decide (p.1 < q.1 ∨ (p.1 = q.1 ∧ p.2 ≤ q.2)) = true :=
      List.pairwise_mergeSort (fun a b c h1 h2 => by rw [decide_eq_true_eq] at h1 h2 ⊢; omega) (fun a b => by rw [Bool.or_eq_true, decide_eq_true_eq, decide_eq_true_eq]; omega) zs
    exact key.imp fun h => of_decide_eq_true h⟩
end NS

set_option Elab.async false
set_option linter.all false
set_option maxRecDepth 100000
set_option maxHeartbeats 4000000
namespace ND
open PySem PySem.Spec PyProof.Rows L2 PySem.W E NS
/-! ### dicts whose keys are nested tuples: their rows (the key, where its own tuple stands, the value) -/
abbrev NR := NestedKey × Addr × V
abbrev NX := NestedKey × Addr × Value
/-- rows told, rows laid -/
def Rw : List NR → List NX → Prop
  | [], [] => True
  | p :: ps, q :: qs => (p.1 = q.1 ∧ p.2.1 = q.2.1 ∧ L2.RelV p.2.2 q.2.2) ∧ Rw ps qs
  | _, _ => False
theorem Rw.len : ∀ {ps : List NR} {qs : List NX}, Rw ps qs → ps.length = qs.length
  | [], [], _ => rfl
  | _ :: _, _ :: _, h => congrArg (· + 1) (Rw.len h.2)
  | [], _ :: _, h => h.elim
  | _ :: _, [], h => h.elim
theorem Rw.snoc : ∀ {ps : List NR} {qs : List NX}, Rw ps qs → ∀ {p : NR} {q : NX}, p.1 = q.1 → p.2.1 = q.2.1 → L2.RelV p.2.2 q.2.2 → Rw (ps ++ [p]) (qs ++ [q])
  | [], [], _, _, _, a, b, c => ⟨⟨a, b, c⟩, trivial⟩
  | _ :: _, _ :: _, h, _, _, a, b, c => ⟨h.1, Rw.snoc h.2 a b c⟩
  | [], _ :: _, h, _, _, _, _, _ => h.elim
  | _ :: _, [], h, _, _, _, _, _ => h.elim
/-- each row laid has its row told, at the same place -/
theorem Rw.at_ : ∀ {ps : List NR} {qs : List NX}, Rw ps qs → ∀ i : Nat, (ps[i]? = none ∧ qs[i]? = none) ∨ ∃ p q, ps[i]? = some p ∧ qs[i]? = some q ∧ p.1 = q.1 ∧ p.2.1 = q.2.1 ∧ L2.RelV p.2.2 q.2.2
  | [], [], _, i => .inl ⟨rfl, rfl⟩
  | p :: _, q :: _, h, 0 => .inr ⟨p, q, rfl, rfl, h.1⟩
  | _ :: _, _ :: _, h, i + 1 => by simpa using Rw.at_ h.2 i
  | [], _ :: _, h, _ => h.elim
  | _ :: _, [], h, _ => h.elim
theorem Rw.back {ps : List NR} {qs : List NX} (h : Rw ps qs) {q : NX} (m : q ∈ qs) : ∃ p ∈ ps, p.1 = q.1 ∧ p.2.1 = q.2.1 ∧ L2.RelV p.2.2 q.2.2 := by
  obtain ⟨i, e⟩ := List.getElem?_of_mem m
  rcases h.at_ i with ⟨_, n⟩ | ⟨p, q', h1, h2, r⟩
  · rw [n] at e; cases e
  · rw [h2] at e
    cases e
    exact ⟨p, List.mem_of_getElem? h1, r⟩
def valN (kvs : List NR) (k : NestedKey) : Option V := (kvs.find? fun x => decide (x.1 = k)).map (·.2.2)
def putN (kvs : List NR) (k : NestedKey) (b : Addr) (v : V) : List NR := if (valN kvs k).isSome then kvs.map (fun x => if x.1 = k then (x.1, x.2.1, v) else x) else kvs ++ [(k, b, v)]
theorem valN_pos {x : NR} {kvs : List NR} {k : NestedKey} (e : x.1 = k) : valN (x :: kvs) k = some x.2.2 := by simp [valN, List.find?_cons, e]
theorem valN_neg {x : NR} {kvs : List NR} {k : NestedKey} (e : ¬ x.1 = k) : valN (x :: kvs) k = valN kvs k := by simp [valN, List.find?_cons, e]
theorem putN_len (kvs : List NR) (k : NestedKey) (b : Addr) (v : V) : (putN kvs k b v).length ≤ kvs.length + 1 := by
  by_cases c : (valN kvs k).isSome = true <;> simp [putN, c]
/-- what is found among the rows told and among those laid -/
theorem Rw.val (k : NestedKey) : ∀ {ps : List NR} {qs : List NX}, Rw ps qs → (valN ps k = none ∧ atKey qs k = none) ∨ ∃ v a u, valN ps k = some v ∧ atKey qs k = some (a, u) ∧ L2.RelV v u
  | [], [], _ => .inl ⟨rfl, rfl⟩
  | p :: ps, q :: qs, h => by
    by_cases c : p.1 = k
    · exact .inr ⟨p.2.2, q.2.1, q.2.2, valN_pos c, by simp [atKey, List.find?_cons, h.1.1 ▸ c], h.1.2.2⟩
    · rw [valN_neg c, show atKey (q :: qs) k = atKey qs k by simp [atKey, List.find?_cons, show ¬ q.1 = k from h.1.1 ▸ c]]
      exact Rw.val k h.2
  | [], _ :: _, h => h.elim
  | _ :: _, [], h => h.elim
theorem Rw.repl (k : NestedKey) {v : V} {u : Value} (r : L2.RelV v u) : ∀ {ps : List NR} {qs : List NX}, Rw ps qs → Rw (ps.map fun x => if x.1 = k then (x.1, x.2.1, v) else x) (qs.map (putAt k u))
  | [], [], _ => trivial
  | p :: ps, q :: qs, h => by
    refine ⟨?_, Rw.repl k r h.2⟩
    dsimp only
    by_cases c : p.1 = k
    · simp only [putAt, c, if_true, show q.1 = k from h.1.1 ▸ c]
      exact ⟨trivial, h.1.2.1, r⟩
    · simp only [putAt, c, if_false, show ¬ q.1 = k from h.1.1 ▸ c]
      exact h.1
  | [], _ :: _, h => h.elim
  | _ :: _, [], h => h.elim
theorem Rw.put {ps : List NR} {qs : List NX} (h : Rw ps qs) (k : NestedKey) (b : Addr) {v : V} {u : Value} (r : L2.RelV v u) : Rw (putN ps k b v) (storedH qs k b u) := by
  rcases h.val k with ⟨e1, e2⟩ | ⟨v', a, u', e1, e2, _⟩
  · rw [storedH_new e2]
    simp only [putN, e1, Option.isSome, Bool.false_eq_true, if_false]
    exact h.snoc rfl rfl r
  · rw [storedH_old e2]
    simp only [putN, e1, Option.isSome, if_true]
    exact h.repl k r
/-- the dict at a, by its own object alone -/
def ND0 (P : Program) (w : World) (h : Heap) (a : Addr) (kvs : List NR) : Prop := kvs.length ≤ sizeLine ∧ (a == sysModules) = false ∧ ∃ xs : List NX, Rw kvs xs ∧
  ∃ o es ep, h.get? a = some o ∧ o.ExactDict ∧ o.data = .dict es ep ∧ es.toList = xs.map (entryOfKey (nestedKind P w)) ∧ (xs.map (·.1)).Nodup
def NDO (P : Program) (w : World) (a : Addr) (kvs : List NR) : HO := .ext fun h => ND0 P w h a kvs
theorem ndo_new {P : Program} {w : World} {H : Hp} {h : Heap} {a : Addr} {kvs : List NR} (R : ND0 P w h a kvs) : ObjOk P w H h a (NDO P w a kvs) :=
  ⟨R, let ⟨_, _, _, _, o, _, _, g, _⟩ := R; ⟨o, g⟩, fun _ _ p k => let ⟨z, y, xs, pr, o, es, ep, g, r⟩ := p; ⟨z, y, xs, pr, o, es, ep, k _ g, r⟩⟩
/-- the keys stand there -/
def NKeys (K : PySem.W.Frag) (H : Hp) (kvs : List NR) : Prop := ∀ x ∈ kvs, ∃ d, Dp K H (.ref x.2.1) d ∧ Keyable d ∧ nkd d = x.1
/-- the dict at a, asked at y: it holds o -/
def NGet (P : Program) (w : World) (K : PySem.W.Frag) (H : Hp) (a : Addr) (y : V) (o : Option V) : Prop := ∃ kvs d, Rd H a (NDO P w a kvs) ∧ NKeys K H kvs ∧ Dp K H y d ∧ Keyable d ∧ o = valN kvs (nkd d)
def NPut (P : Program) (w : World) (K : PySem.W.Frag) (H : Hp) (a : Addr) (y v : V) (H' : Hp) : Prop := ∃ kvs d b, H a = some (NDO P w a kvs) ∧ NKeys K H kvs ∧ y = .ref b ∧ Dp K H y d ∧ Keyable d ∧ kvs.length < sizeLine ∧ H' = upd H a (NDO P w a (putN kvs (nkd d) b v))
section
variable {X : Cx} {pins : List (Addr × Obj)} {σ : L2.St} {H : Hp} {s : Shared} {a : Addr}
/-- as the library's dict of that kind of keys -/
theorem nd_rd {kvs : List NR} (I : Inv X pins σ H s) (e : Rd H a (NDO X.prog X.w a kvs)) (hk : NKeys X.K H kvs) : kvs.length ≤ sizeLine ∧ (a == sysModules) = false ∧ ∃ xs, Rw kvs xs ∧ s.heap.DictOfH (nestedKind X.prog X.w) a xs := by
  obtain ⟨⟨few, ns, xs, r, ob, es, ep, g1, g2, g3, g4, g5⟩, _⟩ := e.ok I.hok
  refine ⟨few, ns, xs, r, ob, es, ep, g1, g2, g3, g4, fun x m => ?_, g5⟩
  obtain ⟨z, hz, e1, e2, _⟩ := r.back m
  obtain ⟨d, d1, d2, d3⟩ := hk z hz
  exact e1 ▸ e2 ▸ d3 ▸ ka_of I d1 d2
/-- what one question to such a dict stands on -/
structure Asked (X : Cx) (s : Shared) (a : Addr) (u : Value) (o : Option V) (b : Addr) (k : NestedKey) (xs : List NX) : Prop where
  u : u = .ref b
  ka : (nestedKind X.prog X.w).is s.heap k b
  sm : (a == sysModules) = false
  dd : s.heap.DictOfH (nestedKind X.prog X.w) a xs
  val : (o = none ∧ atKey xs k = none) ∨ ∃ v c w', o = some v ∧ atKey xs k = some (c, w') ∧ L2.RelV v w'
theorem asked {y : V} {u : Value} {o : Option V} (I : Inv X pins σ H s) (g : NGet X.prog X.w X.K H a y o) (ry : L2.RelV y u) : ∃ b k xs, Asked X s a u o b k xs := by
  obtain ⟨kvs, d, e, hk, hy, kd, rfl⟩ := g
  obtain ⟨few, ns, xs, r, dd⟩ := nd_rd I e hk
  have kd' := kd
  obtain ⟨_, _, ds, rfl⟩ := kd'
  cases hy with
  | tup h1 h2 => exact ⟨_, _, xs, ry, ka_of I (.tup h1 h2) kd, ns, dd, r.val _⟩
/-- two parts evaluated, then a step that is told by what they are -/
theorem two_parts {α : Type} {e f : Expr} {te tf : TE} {Q : α → Shared → Prop} {R : V → V → Hp → Prop} {m : Value → Value → Sem α} (he : PE X e te) (hf : PE X f tf) (I : Inv X pins σ H s) (h : te σ H fun x H1 => tf σ H1 fun y H2 => R x y H2)
    (k : ∀ {x y : V} {u v : Value} {H2 : Hp} {s2 : Shared}, Inv X pins σ H2 s2 → L2.RelV x u → L2.RelV y v → R x y H2 → wpAny (model X.prog X.w) X.A (m u v) Q X.xe s2) :
    wpAny (model X.prog X.w) X.A (eval e X.env) (fun u s1 => wpAny (model X.prog X.w) X.A (eval f X.env) (fun v s2 => wpAny (model X.prog X.w) X.A (m u v) Q X.xe s2) X.xe s1) X.xe s :=
  thn (he.run pins s σ H _ I h) fun _ _ ⟨_, _, I1, r1, q1⟩ => thn (hf.run pins _ σ _ _ I1 q1) fun _ _ ⟨_, _, I2, r2, q2⟩ => k I2 r1 r2 q2
end
def tNGet (P : Program) (w : World) (K : PySem.W.Frag) (td ty : TE) : TE := fun σ H Q => td σ H fun x H1 => ty σ H1 fun y H2 => ∃ a v, x = .ref a ∧ NGet P w K H2 a y (some v) ∧ Q v H2
def tNIn (P : Program) (w : World) (K : PySem.W.Frag) (ty td : TE) : TE := fun σ H Q => ty σ H fun y H1 => td σ H1 fun x H2 => ∃ a o, x = .ref a ∧ NGet P w K H2 a y o ∧ Q (.bl o.isSome) H2
def tNNotIn (P : Program) (w : World) (K : PySem.W.Frag) (ty td : TE) : TE := fun σ H Q => ty σ H fun y H1 => td σ H1 fun x H2 => ∃ a o, x = .ref a ∧ NGet P w K H2 a y o ∧ Q (.bl (!o.isSome)) H2
def sNPut (P : Program) (w : World) (K : PySem.W.Frag) (td ty tv : TE) : TS := fun D σ H => tv σ H fun v H1 => td σ H1 fun x H2 => ty σ H2 fun y H3 => ∃ a H4, x = .ref a ∧ NPut P w K H3 a y v H4 ∧ D.nx σ H4
def tNNew (P : Program) (w : World) : TE := fun _ H Q => ∀ p, H p = none → Q (.ref p) (upd H p (NDO P w p []))
section
variable {X : Cx} {o i value : Expr} {pos pos' : Pos} {td ty tv : TE}
theorem pc_nin (hu : X.A.units + 64 < cLine) (hi : PE X i ty) (ho : PE X o td) : PC X .In i o (tNIn X.prog X.w X.K ty td) := ⟨fun pins s σ H Q I h =>
  two_parts (m := compareOp .In) hi ho I h fun {y x v u H2 s2} J ry rx ⟨a, ov, ex, g, q⟩ => by
    obtain ⟨b, k, xs, w⟩ := asked J g ry
    rw [ex] at rx
    rw [show u = Value.ref a from rx, w.u]
    refine wpAny_in_heap (knd := nestedKind X.prog X.w) (by show X.A.units + 1 + 8 < cLine; omega) w.ka w.sm w.dd ⟨.bl ov.isSome, H2, J.tok _, ?_, q⟩
    rcases w.val with ⟨e1, e2⟩ | ⟨_, _, _, e1, e2, _⟩ <;> rw [e1, e2] <;> rfl⟩
theorem pc_nnotin (hu : X.A.units + 64 < cLine) (hi : PE X i ty) (ho : PE X o td) : PC X .NotIn i o (tNNotIn X.prog X.w X.K ty td) := ⟨fun pins s σ H Q I h =>
  two_parts (m := compareOp .NotIn) hi ho I h fun {y x v u H2 s2} J ry rx ⟨a, ov, ex, g, q⟩ => by
    obtain ⟨b, k, xs, w⟩ := asked J g ry
    rw [ex] at rx
    rw [show u = Value.ref a from rx, w.u]
    refine wpAny_notIn_heap (knd := nestedKind X.prog X.w) (by show X.A.units + 1 + 8 < cLine; omega) w.ka w.sm w.dd ⟨.bl (!ov.isSome), H2, J.tok _, ?_, q⟩
    rcases w.val with ⟨e1, e2⟩ | ⟨_, _, _, e1, e2, _⟩ <;> rw [e1, e2] <;> rfl⟩
theorem pe_nget (hu : X.A.units + 64 < cLine) (ho : PE X o td) (hi : PE X i ty) (hs : NoSl i) : PE X (.Subscript o i pos) (tNGet X.prog X.w X.K td ty) := ⟨fun pins s σ H Q I h =>
  subD_of PySem.F.slot_dict_getitem.lookup hs (thn (ho.run pins s σ H _ I h) fun u s1 ⟨x, H1, I1, rx, q1⟩ => thn (hi.run pins s1 σ H1 _ I1 q1) fun v s2 ⟨y, H2, J, ry, a, r, ex, g, q⟩ => by
    obtain ⟨b, k, xs, w⟩ := asked J g ry
    rw [ex] at rx
    rw [show u = Value.ref a from rx, w.u]
    rcases w.val with ⟨e1, _⟩ | ⟨r', c, z, e1, e2, rz⟩
    · cases e1
    · cases e1
      exact ⟨w.dd.typeIs, wpAny_getItem_heap (knd := nestedKind X.prog X.w) (show X.A.units + 1 + 8 < cLine by omega) w.ka w.dd e2 ⟨r, H2, J.tok _, rz, q⟩⟩)⟩
/-- what is stored stands there from then on -/
theorem stored_inv {pins : List (Addr × Obj)} {σ : L2.St} {H : Hp} {s : Shared} {a b : Addr} {kvs : List NR} {xs : List NX} {k : NestedKey} {v : V} {u : Value} {h' : Heap} {t : Nat} (I : Inv X pins σ H s) (e : H a = some (NDO X.prog X.w a kvs)) (ns : (a == sysModules) = false)
    (few : kvs.length < sizeLine) (r : Rw kvs xs) (rv : L2.RelV v u) (dd : h'.DictOfH (nestedKind X.prog X.w) a (storedH xs k b u)) (sb : Heap.SameBut a s.heap h') : Inv X pins σ (upd H a (NDO X.prog X.w a (putN kvs k b v))) { s with heap := h', toks := t } := by
  obtain ⟨ob, es, ep, g1, g2, g3, g4, _, g5⟩ := dd
  have l := putN_len kvs k b v
  exact d_write I (by rw [e]; trivial) sb ⟨ob, g1⟩ (ndo_new ⟨by omega, ns, _, r.put k b rv, ob, es, ep, g1, g2, g3, g4, g5⟩)
theorem ps_nput (hu : X.A.units + 64 < cLine) (ho : PE X o td) (hi : PE X i ty) (hv : PE X value tv) (hs : swapsWith value (some (.Subscript o i pos')) pos.line X.env = pure false) :
    PS X (.Assign [.Subscript o i pos'] value pos) (sNPut X.prog X.w X.K td ty tv) := ⟨fun pins s σ H D I h =>
  wpAny_Assign_Subscript (thn (hv.run pins s σ H _ I h) fun z s1 ⟨v, H1, I1, rv, q1⟩ => two_parts (m := fun u iv => setItem u iv z) (Q := fun _ s4 => SP X pins D .next s4) ho hi I1 q1 fun {x y u iv H3 s3} J rx ry ⟨a, H4, ex, ⟨kvs, d, b, e, hk, ey, hy, kd, few, eH⟩, q⟩ => by
    obtain ⟨_, ns, xs, r, dd⟩ := nd_rd J (.inl e) hk
    rw [ex] at rx
    rw [ey] at ry hy
    rw [show u = Value.ref a from rx, show iv = Value.ref b from ry]
    refine wpAny_setItem_heap (hsz := by rw [← r.len]; omega) (knd := nestedKind X.prog X.w) (show X.A.units + 1 + 8 < cLine by omega) (ka_of J hy kd) dd fun h' dd' sb => ⟨σ, H4, ?_, q⟩
    rw [eH]
    exact stored_inv J e ns few r rv dd' sb) hs⟩
theorem pe_nnew : PE X (.Dict [] [] pos) (tNNew X.prog X.w) := ⟨fun pins s σ H Q I h => by
  have big : sysModules ≠ s.heap.objs.size := Nat.ne_of_lt I.big
  have at_ : (s.heap.push { cls := .type "dict", data := .dict #[] }).get? s.heap.objs.size = some { cls := .type "dict", data := .dict #[] } := Heap.get?_push_size _ rfl
  have new : ND0 X.prog X.w (s.heap.push { cls := .type "dict", data := .dict #[] }) s.heap.objs.size [] := ⟨Nat.zero_le _, beq_eq_false_iff_ne.mpr big.symm, [], trivial, _, #[], 0, at_, ⟨rfl, rfl, rfl⟩, rfl, rfl, .nil⟩
  exact wpAny_Dict_empty ⟨.ref s.heap.objs.size, _, I.laid (t' := s.toks) (fun _ _ q => Heap.get?_push_of_some _ q) (Nat.le_refl _) (ndo_new new), rfl, h _ (I.hok.fresh (Nat.le_refl _))⟩⟩
/-- len(d) -/
def rLenN (P : Program) (w : World) (K : PySem.W.Frag) : List V → Hp → VK → Prop := fun vs H Q => ∃ (a : Addr) (kvs : List NR), vs = [.ref a] ∧ Rd H a (NDO P w a kvs) ∧ NKeys K H kvs ∧ Q (.int (kvs.length : Nat)) H
end
/-! ### walks: the dict is locked, its object known -/
/-- what a locked dict is -/
structure Locked (X : Cx) (s : Shared) (d : Addr) (o : Obj) (kvs : List NR) (es : Array DictEntry) (ep : Nat) : Prop where
  sm : (d == sysModules) = false
  raw : s.heap.get? d = some o
  ex : o.ExactDict
  dat : o.data = .dict es ep
  size : es.size = kvs.length
  row : ∀ {i : Nat} {x : NR}, kvs[i]? = some x → ∃ en, es[i]? = some en ∧ en.key = .ref x.2.1 ∧ L2.RelV x.2.2 en.val
theorem locked {X : Cx} {pins : List (Addr × Obj)} {σ : L2.St} {H : Hp} {s : Shared} {d : Addr} {o : Obj} {kvs : List NR} (I : Inv X pins σ H s) (h : H d = some (.frz o (NDO X.prog X.w d kvs))) : ∃ es ep, Locked X s d o kvs es ep := by
  obtain ⟨g, ⟨few, ns, xs, r, o', es, ep, g1, g2, g3, g4, _⟩, _⟩ := I.hok d _ h
  obtain rfl : o = o' := Option.some.inj (g.symm.trans g1)
  refine ⟨es, ep, ns, g, g2, g3, (size_of_entries g4).trans r.len.symm, fun {i x} e => ?_⟩
  rcases r.at_ i with ⟨n, _⟩ | ⟨p, q, e1, e2, _, e3, e4⟩
  · rw [n] at e; cases e
  · cases e1.symm.trans e
    exact ⟨_, (entry_at g4 i).trans (by rw [e2]; rfl), by rw [e3]; rfl, e4⟩
theorem Locked.same {X : Cx} {s : Shared} {d : Addr} {o : Obj} {kvs : List NR} {es es' : Array DictEntry} {ep ep' : Nat} (l : Locked X s d o kvs es ep) (e : o.data = .dict es' ep') : es' = es ∧ ep' = ep := by
  rw [l.dat] at e
  cases e
  exact ⟨rfl, rfl⟩
def Itn (P : Program) (w : World) (d : Addr) (o : Obj) (kvs : List NR) : It :=
  ⟨fun i H => H d = some (.frz o (NDO P w d kvs)) ∧ i < kvs.length, fun i H x H' => H' = H ∧ ∃ k b v, kvs[i]? = some (k, b, v) ∧ x = .ref b, fun i H => H d = some (.frz o (NDO P w d kvs)) ∧ kvs.length ≤ i⟩
def Itni (P : Program) (w : World) (d : Addr) (o : Obj) (kvs : List NR) : It :=
  ⟨fun i H => H d = some (.frz o (NDO P w d kvs)) ∧ i < kvs.length, fun i H x H' => ∃ T k b v, kvs[i]? = some (k, b, v) ∧ x = .ref T ∧ H T = none ∧ H' = upd H T (.tup [.ref b, v]), fun i H => H d = some (.frz o (NDO P w d kvs)) ∧ kvs.length ≤ i⟩
section
variable {P : Program} {w : World} {K : PySem.W.Frag} {tg : Expr} {d : Addr} {o : Obj} {es : Array DictEntry} {ep : Nat} {kvs : List NR}
/-- a step of the iterator at it alone: the invariant stays -/
theorem one_turned {X : Cx} {pins : List (Addr × Obj)} {σ : L2.St} {H : Hp} {s : Shared} {it : Addr} {h' : Heap} (I : Inv X pins σ H s) (hf : ∀ b ∈ [it], FpOk X pins H b) (k : ∀ b ob, b ≠ it → s.heap.get? b = some ob → h'.get? b = some ob) : Inv X pins σ H { s with heap := h' } :=
  let ⟨a0, a1, _, a3, a4, a5⟩ := hf it (List.mem_singleton.mpr rfl)
  I.turned (t' := s.toks) k a0 a1 a3 a4 a5
theorem turn_keysN (it : Addr) (hod : o.data = .dict es ep) : Turn P w K tg (Itn P w d o kvs) [it] it (fun i h => h.IsKeyIter it d i kvs.length ep) where
  mem := List.mem_singleton.mpr rfl
  obj := fun i h ⟨oi, g, _, dd⟩ b hb => ⟨oi, List.mem_singleton.mp hb ▸ g, fun v z => nomatch dd.symm.trans z⟩
  keep := fun i h h' st k => st.at fun oi g => k it (List.mem_singleton.mpr rfl) oi g
  item := by
    rintro X rfl rfl rfl hc i pins s σ H E I hf st ⟨hd, hi⟩
    obtain ⟨es', ep', L⟩ := locked I hd
    obtain ⟨rfl, rfl⟩ := L.same hod
    obtain ⟨en, hen, ek, _⟩ := L.row (List.getElem?_eq_getElem hi)
    refine next_key_item st L.raw hod L.size hen fun h' st2 sb => ?_
    have J := one_turned I hf fun b ob n g => (sb.2 b n).trans g
    have st3 := st2
    obtain ⟨oi, g, c, dd⟩ := st3
    exact ⟨_, rfl, go_of (s := { s with heap := h' }) g c dd (by decide) ⟨.ref kvs[i].2.1, H, J, ek, ⟨rfl, kvs[i].1, _, kvs[i].2.2, List.getElem?_eq_getElem hi, rfl⟩, st2, fun b m => (hf b m).1⟩⟩
  done := by
    rintro X rfl rfl rfl hc i pins s σ H E I hf st ⟨hd, hi⟩
    obtain ⟨es', ep', L⟩ := locked I hd
    obtain ⟨rfl, rfl⟩ := L.same hod
    exact next_key_end (I.ok.hd hc) st L.raw hod L.size hi fun h' eb => ⟨rfl, one_turned I hf fun b ob n g => eb b ob n g⟩
  self := fun A i s Q E st h => wpAny_pyIter_slot st.typeIs F.slot_dict_keyiterator_iter
    (wpAny_call_entry F.slot_dict_keyiterator_iter st.typeIs F.entry_dict_keyiterator_iter (wpAny_pure ⟨_, rfl, "dict_keyiterator", _, st.typeIs, F.slot_dict_keyiterator_next.lookup, h⟩) (F.args_dict_keyiterator_iter_1 _))
theorem turn_itemsN {elts : List Expr} {kk : Nat} {tpos : Pos} (it : Addr) (hod : o.data = .dict es ep) :
    Turn P w K (.Tuple elts kk tpos) (Itni P w d o kvs) [it] it (fun i h => ∃ ok ov, IsItemIter h it d i kvs.length ep ok ov) where
  mem := List.mem_singleton.mpr rfl
  obj := fun i h ⟨_, _, g⟩ b hb => by
    rw [List.mem_singleton.mp hb]
    exact ⟨_, g, fun v z => nomatch z⟩
  keep := fun i h h' ⟨a, b, g⟩ k => ⟨a, b, k it (List.mem_singleton.mpr rfl) _ g⟩
  item := by
    rintro X rfl rfl rfl hc i pins s σ H E I hf ⟨ok, ov, st⟩ ⟨hd, hi⟩
    obtain ⟨es', ep', L⟩ := locked I hd
    obtain ⟨rfl, rfl⟩ := L.same hod
    obtain ⟨en, hen, ek, ev⟩ := L.row (List.getElem?_eq_getElem hi)
    have hie : i < es.size := L.size ▸ hi
    rw [← L.size] at st
    have old : it < s.heap.objs.size := Heap.lt_size st
    refine DT.nextI st ⟨o, L.raw, L.ex, hod⟩ hie fun h' out made _ kp => ⟨_, rfl, wpAny_letOwnedTupleGo_items (s := { s with heap := h' }) out fun h2 st2 sb => ?_⟩
    have g2 := (sb.2 _ (Nat.ne_of_gt old)).trans made
    rw [Array.getElem?_eq_getElem hie] at hen
    rw [Option.some.inj hen] at g2
    have pair : ObjOk X.prog X.w (upd H s.heap.objs.size (.tup [.ref kvs[i].2.1, kvs[i].2.2])) h2 s.heap.objs.size (.tup [.ref kvs[i].2.1, kvs[i].2.2]) :=
      ⟨show 2 ≤ sizeLine by decide, [en.key, en.val], .cons ek (.cons ev .nil), _, g2, rfl, _, rfl⟩
    have ni : ∀ {b}, b ∉ [it] → b ≠ it := fun m e => m (e ▸ List.mem_singleton.mpr rfl)
    refine ⟨.ref s.heap.objs.size, _, I.turnedNew (t' := s.toks) (ch := [it]) (fun b ob m g => (sb.2 b (ni m)).trans (kp b ob (ni m) g)) hf (Nat.le_refl _) pair, rfl, ⟨_, kvs[i].1, _, _, List.getElem?_eq_getElem hi, rfl, I.hok.fresh (Nat.le_refl _), rfl⟩, ⟨_, _, L.size ▸ st2⟩, fun b m => ?_⟩
    obtain rfl := List.mem_singleton.mp m
    exact (upd_ne (Nat.ne_of_lt old)).trans (hf b m).1
  done := by
    rintro X rfl rfl rfl hc i pins s σ H E I hf ⟨ok, ov, st⟩ ⟨hd, hi⟩
    obtain ⟨es', ep', L⟩ := locked I hd
    obtain ⟨rfl, rfl⟩ := L.same hod
    rw [← L.size] at st hi
    exact DT.endI (I.ok.hd hc) st ⟨o, L.raw, L.ex, hod⟩ hi fun h' eb => ⟨rfl, one_turned I hf fun b ob n g => eb b ob n g⟩
  self := fun A i s Q E ⟨_, _, st⟩ h => PySem.W.kcp_self st h
end
def iKeysN (P : Program) (w : World) (td : TE) : TI := fun σ H R => td σ H fun x H1 => ∃ d o kvs, x = .ref d ∧ H1 d = some (.frz o (NDO P w d kvs)) ∧ R (Itn P w d o kvs) H1
def iItemsN (P : Program) (w : World) (td : TE) : TI := fun σ H R => td σ H fun x H1 => ∃ d o kvs, x = .ref d ∧ H1 d = some (.frz o (NDO P w d kvs)) ∧ R (Itni P w d o kvs) H1
section
variable {X : Cx} {tg e : Expr} {td : TE}
theorem pi_keysN (he : PE X e td) : PI X tg e (iKeysN X.prog X.w td) := ⟨fun pins s σ H R I h => thn (he.run pins s σ H _ I h) fun u s1 ⟨x, H1, J, rx, d, o, kvs, ex, hd, q⟩ => by
  rw [ex] at rx
  rw [show u = Value.ref d from rx]
  obtain ⟨es, ep, L⟩ := locked J hd
  exact iter_keys L.sm L.raw L.ex L.dat (pi_one (tk := s1.toks) J _ (turn_keysN _ L.dat) ⟨_, Heap.get?_push_size _ rfl, rfl, by rw [← L.size]; rfl⟩ q)⟩
theorem pi_itemsN {apos cpos : Pos} {elts : List Expr} {kk : Nat} {tpos : Pos} (he : PE X e td) (hbase : attributeBase e "items" X.env (eval e X.env) = eval e X.env := by rfl) (hline : (apos.endLine == cpos.line) = true := by rfl) :
    PI X (.Tuple elts kk tpos) (.Call (.Attribute e "items" apos) [] [] cpos) (iItemsN X.prog X.w td) := ⟨fun pins s σ H R I h =>
  wpAny_Call_method (T := "dict") (id := "dict.items") hbase rfl hline F.plainAttrs_dict F.slot_dict_items F.type_dict_items (thn (he.run pins s σ H _ I h) fun u s1 ⟨x, H1, J, rx, d, o, kvs, ex, hd, q⟩ => by
    rw [ex] at rx
    rw [show u = Value.ref d from rx]
    obtain ⟨es, ep, L⟩ := locked J hd
    have raw : DT.Raw s1.heap d es ep := ⟨o, L.raw, L.ex, L.dat⟩
    refine ⟨raw.typeIs, fun b q => by cases q; exact ⟨o, L.raw, L.ex.2.1⟩, ?_⟩
    refine method_meetsIn F.slot_dict_items F.entry_dict_items rfl (PySem.evalArgs_none ⟨rfl, raw.typeIs, F.args_dict_items_1 _, _, DT.meetsItems (es := es) (ep := ep) L.sm, raw, ?_⟩)
    have J2 := J.kept (t' := s1.toks) (h' := s1.heap.push { cls := .type "dict_items", data := .fields #[.ref d] }) fun b ob g => Heap.get?_push_of_some _ g
    exact DT.iterI (d := d) ⟨_, Heap.get?_push_size _ rfl, rfl, rfl⟩ (raw.push _) (pi_one (tk := s1.toks) J2 _ (turn_itemsN _ L.dat) ⟨.none, .none, L.size ▸ Heap.get?_push_size _ rfl⟩ q))⟩
theorem walk_keysN {P : Program} {w : World} {d : Addr} {o : Obj} {kvs : List NR} : Walk (Itn P w d o kvs) kvs.length (fun H => H d = some (.frz o (NDO P w d kvs))) (fun i H x H' => H' = H ∧ ∃ k b v, kvs[i]? = some (k, b, v) ∧ x = .ref b) where
  goes := fun i H lt g => ⟨g, lt⟩
  stops := fun H g => ⟨g, Nat.le_refl _⟩
  yields := fun i H x H' lt g y => y
theorem walk_itemsN {P : Program} {w : World} {d : Addr} {o : Obj} {kvs : List NR} : Walk (Itni P w d o kvs) kvs.length (fun H => H d = some (.frz o (NDO P w d kvs))) (YPair (fun i => kvs[i]?.map fun x => .ref x.2.1) (fun i => kvs[i]?.map fun x => x.2.2)) where
  goes := fun i H lt g => ⟨g, lt⟩
  stops := fun H g => ⟨g, Nat.le_refl _⟩
  yields := fun i H x H' lt g ⟨T, k, b, v, h1, h2, h3, h4⟩ => ⟨T, .ref b, v, h2, h3, h4, by simp only [h1]; rfl, by simp only [h1]; rfl⟩
end
/-! ### == of two such dicts whose values are equal -/
section
variable {w : World} {A : Around} {E : Value → Shared → Prop} {s : Shared}
/-- turns that change nothing -/
theorem all_turns {M : Model} {β : Type} {n : Nat} {body : Nat → β → Sem (ForInStep β)} {b0 : β} {Q : β → Shared → Prop} (step : ∀ i, i < n → wpAny M A (body i b0) (fun r t => r = .yield b0 ∧ t = s) E s) (fin : Q b0 s) : wpAny M A (forIn (List.range' 0 n) b0 body) Q E s := by
  refine wpAny_forIn_list _ (fun rest b t => t = s ∧ b = b0 ∧ ∀ i ∈ rest, i < n) _ (fun i rest b t h => ?_) (fun b t h => ?_) _ _ ⟨rfl, rfl, fun i m => by simpa using m⟩
  · obtain ⟨rfl, rfl, lt⟩ := h
    exact wpAny_mono (step i (lt i List.mem_cons_self)) (fun r u ⟨e1, e2⟩ => by subst e1 e2; exact ⟨rfl, rfl, fun j m => lt j (List.mem_cons_of_mem _ m)⟩) fun _ _ x => x
  · obtain ⟨rfl, rfl, _⟩ := h
    exact fin
theorem same_nd {prog : Program} {nm : String} {a b : Addr} {xa xb : List NX} {Q : Bool → Shared → Prop} (hu : A.units + 16 < cLine) (ha : ¬ (a == sysModules) = true) (hb : ¬ (b == sysModules) = true)
    (da : s.heap.DictOfH (nestedKind prog w) a xa) (db : s.heap.DictOfH (nestedKind prog w) b xb) (hl : xa.length = xb.length) (hits : ∀ x ∈ xa, ∃ p, atKey xb x.1 = some p ∧ SeqAt.EqAt A s x.2.2 p.2 true) (h : Q true s) :
    wpAny (model prog w) A (Builtin.Dict.samePairs nm a b) Q E s := by
  obtain ⟨oa, es, ep, a1, _, a3, a4, a5, _⟩ := da
  obtain ⟨ob, fs, fp, b1, _, b3, b4, b5, b6⟩ := db
  have la := size_of_entries a4
  have lb := size_of_entries b4
  unfold Builtin.Dict.samePairs Builtin.Dict.showsAll
  rw [if_neg ha, if_neg hb]
  refine wpAny_bind (wpAny_pure (wpAny_bind (wpAny_pure (wpAny_bind (wpAny_dictEntries a1 a3 ?_)))))
  refine wpAny_bind (wpAny_dictEntries b1 b3 ?_)
  rw [if_neg (by simp [la, lb, hl])]
  refine wpAny_bind (wpAny_dictEpoch a1 a3 (wpAny_bind ?_))
  simp only [Std.Legacy.Range.forIn_eq_forIn_range', Std.Legacy.Range.size, Nat.sub_zero, Nat.add_sub_cancel, Nat.div_one]
  refine all_turns (fun i lt => ?_) (wpAny_pure h)
  have row : es[i]? = some (entryOfKey (nestedKind prog w) (xa[i]'(la ▸ lt))) := (entry_at a4 i).trans (by rw [List.getElem?_eq_getElem (la ▸ lt)]; rfl)
  have m : xa[i]'(la ▸ lt) ∈ xa := List.getElem_mem _
  generalize xa[i]'(la ▸ lt) = x at row m
  obtain ⟨p, hp, he⟩ := hits x m
  refine wpAny_bind (wpAny_dictEntries a1 a3 ?_)
  rw [row]
  refine wpAny_bind (wpAny_holding (wpAny_bind (wpAny_dictFind_heap (knd := nestedKind prog w) (show A.units + 8 < cLine by omega) (a5 x m) b1 b3 b4 b5 b6 (fun no => ?_) fun j p' hj => ?_)))
  · rw [atKey_none_of_get no] at hp
    cases hp
  · obtain rfl : p = p' := Option.some.inj (hp.symm.trans (atKey_of_get b6 hj))
    refine wpAny_bind (wpAny_dictEntries b1 b3 ?_)
    rw [show fs[j]? = some (entryOfKey (nestedKind prog w) (x.1, p)) from (entry_at b4 j).trans (by rw [hj]; rfl)]
    refine wpAny_holding (he prog w _ _ ?_)
    refine wpAny_bind (wpAny_dictEpoch a1 a3 ?_)
    rw [if_neg (by simp)]
    exact wpAny_pure ⟨rfl, rfl⟩
end
def rEqN (P : Program) (w : World) (K : PySem.W.Frag) : R2 := fun x y H Q => ∃ a b ks ls, x = .ref a ∧ y = .ref b ∧ H a = some (NDO P w a ks) ∧ H b = some (NDO P w b ls) ∧ NKeys K H ks ∧ NKeys K H ls ∧ ks.length = ls.length ∧
  (∀ p ∈ ks, ∃ (u : V) (d : PyData), valN ls p.1 = some u ∧ Dp K H p.2.2 d ∧ Dp K H u d ∧ SeqAt.shaped d = true) ∧ Q (.bl true) H
theorem eq_nd {prog : Program} {w : World} {A : Around} {E : Value → Shared → Prop} {s : Shared} {a b : Addr} {xa xb : List NX} {Q : Value → Shared → Prop} (hu : A.units + 64 < cLine) (ha : ¬ (a == sysModules) = true) (hb : ¬ (b == sysModules) = true)
    (da : s.heap.DictOfH (nestedKind prog w) a xa) (db : s.heap.DictOfH (nestedKind prog w) b xb) (hl : xa.length = xb.length) (hits : ∀ x ∈ xa, ∃ p, atKey xb x.1 = some p ∧ SeqAt.EqAt A.in1 s x.2.2 p.2 true) (h : Q (.bool true) s) : wpAny (model prog w) A (compareOp .Eq (.ref a) (.ref b)) Q E s := by
  have last : wpAny (model prog w) A.in1 (Builtin.Dict.samePairs "dict.__eq__" a b >>= fun r => ret (.bool (r == true))) (fun fin s' => ∃ v, fin = Fin.done (Flow.ret v) ∧ v ≠ Value.notImplemented ∧ Q v s') E s :=
    wpAny_bind (same_nd (show A.units + 1 + 16 < cLine by omega) ha hb da db hl hits (wpAny_pure ⟨.bool true, rfl, Value.noConfusion, h⟩))
  refine wpAny_richCompare_same_room (op := .Eq) da.typeIs db.typeIs PySem.F.slot_dict_eq (wpAny_call_entry PySem.F.slot_dict_eq da.typeIs PySem.F.entry_dict_eq (wpAny_bind (m := Builtin.Dict.dictSlotArgs "__eq__" ⟨[.ref a, .ref b], []⟩) ?_) (PySem.F.args_dict_eq_2 _ _)) (by omega)
  unfold Builtin.Dict.dictSlotArgs
  refine wpAny_bind (wpAny_notOrdered_dict da.typeIs (wpAny_pure (wpAny_bind (wpAny_isInstance (T := "dict") db.typeIs PySem.F.sub_dict_dict ?_))))
  exact wpAny_bind (wpAny_pure (wpAny_bind (wpAny_pure last)))
theorem op_eqN {X : Cx} (hu : X.A.units + 66 < cLine) : OpR X (compareOp .Eq) (rEqN X.prog X.w X.K) := by
  rintro pins s σ H _ _ v u Q I rx ry ⟨a, b, ks, ls, rfl, rfl, ha, hb, ka, kb, len, vals, q⟩
  obtain ⟨_, na, xa, ra, da⟩ := nd_rd I (.inl ha) ka
  obtain ⟨_, nb, xb, rb, db⟩ := nd_rd I (.inl hb) kb
  rw [show v = Value.ref a from rx, show u = Value.ref b from ry]
  refine eq_nd (by omega) (by simp [na]) (by simp [nb]) da db (ra.len.symm.trans (len.trans rb.len)) (fun x m => ?_) ⟨.bl true, H, I, rfl, q⟩
  obtain ⟨p, hp, e1, _, e3⟩ := ra.back m
  obtain ⟨y, d, hv, d1, d2, sh⟩ := vals p hp
  rcases rb.val p.1 with ⟨n, _⟩ | ⟨y', c, z, h1, h2, h3⟩
  · rw [n] at hv
    cases hv
  · rw [h1] at hv
    obtain rfl : y' = y := Option.some.inj hv
    obtain ⟨as, r1⟩ := Dp.reads I _ _ _ d1 e3
    obtain ⟨bs, r2⟩ := Dp.reads I _ _ _ d2 h3
    refine ⟨(c, z), e1 ▸ h2, ?_⟩
    have one := PySem.W.keq_at (A := X.A) r1 r2 sh sh (by show X.A.units + 1 + 64 < cLine; omega)
    rwa [eqv_self sh] at one
end ND

set_option Elab.async false
set_option linter.all false
set_option maxRecDepth 100000
set_option maxHeartbeats 4000000
namespace E
open PySem PySem.Spec PyProof.Rows L2
abbrev topS (i : Nat) : Stmt := PySem.Challenge.pw_elsewhere_k05_replaced_boxes.main.body.getD i (.Pass ⟨0, 0, 0, 0⟩)
abbrev s_parts_of : Stmt := topS 1
theorem sc_parts_of : FnScope ["a"] ["a"] (defScope s_parts_of) := ⟨rfl, rfl, rfl, by decide +kernel, rfl, by decide +kernel, by decide +kernel⟩
abbrev s_distinct : Stmt := topS 2
theorem sc_distinct : FnScope ["rows", "found", "row"] ["rows"] (defScope s_distinct) := ⟨rfl, rfl, rfl, by decide +kernel, rfl, by decide +kernel, by decide +kernel⟩
abbrev s_levels_of : Stmt := topS 3
theorem sc_levels_of : FnScope ["a"] ["a"] (defScope s_levels_of) := ⟨rfl, rfl, rfl, by decide +kernel, rfl, by decide +kernel, by decide +kernel⟩
abbrev s_levels_from : Stmt := topS 4
theorem sc_levels_from : FnScope ["formulas", "levels", "level", "b", "part"] ["formulas"] (defScope s_levels_from) := ⟨rfl, rfl, rfl, by decide +kernel, rfl, by decide +kernel, by decide +kernel⟩
abbrev s_place_of : Stmt := topS 5
theorem sc_place_of : FnScope ["rows", "row", "low", "high", "middle"] ["rows", "row"] (defScope s_place_of) := ⟨rfl, rfl, rfl, by decide +kernel, rfl, by decide +kernel, by decide +kernel⟩
abbrev s_folded : Stmt := topS 6
theorem sc_folded : FnScope ["a", "value_of", "numbers", "values", "below", "numbers_below", "level", "numbers_here", "b", "parts", "key", "part", "k"] ["a", "value_of"] (defScope s_folded) := ⟨rfl, rfl, rfl, by decide +kernel, rfl, by decide +kernel, by decide +kernel⟩
abbrev s_replace_boxes : Stmt := topS 8
theorem sc_replace_boxes : FnScope ["a", "values", "value_of"] ["a", "values"] (defScope s_replace_boxes) := ⟨rfl, rfl, rfl, by decide +kernel, rfl, by decide +kernel, by decide +kernel⟩
abbrev s_replace_boxes_value_of : Stmt := (defBody s_replace_boxes).getD 0 (.Pass ⟨0, 0, 0, 0⟩)
theorem nsc_replace_boxes_value_of : NdefX.NScope ["b", "parts", "values"] ["b", "parts"] ["values"] (C8.fnScope s_replace_boxes_value_of) := NdefX.nscope_by (by decide +kernel)
theorem fsc_replace_boxes_value_of : NdefX.ndefB (defScope s_replace_boxes) (C8.fnScope s_replace_boxes_value_of) ["values"] = true := by decide +kernel
abbrev s_value_at : Stmt := topS 9
theorem sc_value_at : FnScope ["values", "a", "otherwise", "key", "value"] ["values", "a", "otherwise"] (defScope s_value_at) := ⟨rfl, rfl, rfl, by decide +kernel, rfl, by decide +kernel, by decide +kernel⟩
abbrev s_law_pool : Stmt := topS 11
theorem sc_law_pool : FnScope ["script", "salt", "cell"] ["script"] (defScope s_law_pool) := ⟨rfl, rfl, rfl, by decide +kernel, rfl, by decide +kernel, by decide +kernel⟩
abbrev s_law_spread : Stmt := topS 12
theorem sc_law_spread : FnScope ["cell", "mixed", "total", "k"] ["cell"] (defScope s_law_spread) := ⟨rfl, rfl, rfl, by decide +kernel, rfl, by decide +kernel, by decide +kernel⟩
abbrev s_law_draw : Stmt := topS 13
theorem sc_law_draw : FnScope ["pool", "many", "cell", "mixed", "value"] ["pool", "many"] (defScope s_law_draw) := ⟨rfl, rfl, rfl, by decide +kernel, rfl, by decide +kernel, by decide +kernel⟩
abbrev s_law_same : Stmt := topS 14
theorem sc_law_same : FnScope ["actual", "due", "k"] ["actual", "due"] (defScope s_law_same) := ⟨rfl, rfl, rfl, by decide +kernel, rfl, by decide +kernel, by decide +kernel⟩
abbrev s_law_formula : Stmt := topS 15
theorem sc_law_formula : FnScope ["pool", "depth", "plain", "number", "kind", "first"] ["pool", "depth", "plain"] (defScope s_law_formula) := ⟨rfl, rfl, rfl, by decide +kernel, rfl, by decide +kernel, by decide +kernel⟩
abbrev s_law_list : Stmt := topS 16
theorem sc_law_list : FnScope ["pool", "many", "k"] ["pool", "many"] (defScope s_law_list) := ⟨rfl, rfl, rfl, by decide +kernel, rfl, by decide +kernel, by decide +kernel⟩
abbrev s_law_some : Stmt := topS 17
theorem sc_law_some : FnScope ["pool", "depth", "plain"] ["pool", "depth", "plain"] (defScope s_law_some) := ⟨rfl, rfl, rfl, by decide +kernel, rfl, by decide +kernel, by decide +kernel⟩
abbrev s_law_parts : Stmt := topS 18
theorem sc_law_parts : FnScope ["a"] ["a"] (defScope s_law_parts) := ⟨rfl, rfl, rfl, by decide +kernel, rfl, by decide +kernel, by decide +kernel⟩
abbrev s_law_all : Stmt := topS 19
theorem sc_law_all : FnScope ["a", "found", "part"] ["a"] (defScope s_law_all) := ⟨rfl, rfl, rfl, by decide +kernel, rfl, by decide +kernel, by decide +kernel⟩
abbrev s_law_put : Stmt := topS 20
theorem sc_law_put : FnScope ["a", "values", "part"] ["a", "values"] (defScope s_law_put) := ⟨rfl, rfl, rfl, by decide +kernel, rfl, by decide +kernel, by decide +kernel⟩
abbrev s_law : Stmt := topS 21
theorem sc_law : FnScope ["script", "pool", "a", "found", "values", "b", "handed"] ["script"] (defScope s_law) := ⟨rfl, rfl, rfl, by decide +kernel, rfl, by decide +kernel, by decide +kernel⟩
structure Top (K : PySem.W.Frag) (mg : Str → Option Value) where
  f_parts_of : Addr
  d_parts_of : FuncData
  F_parts_of : Fun K "parts_of" "parts_of" s_parts_of f_parts_of d_parts_of
  b_parts_of : Binds K d_parts_of ["a"] []
  m_parts_of : mg "parts_of" = some (.ref f_parts_of)
  f_distinct : Addr
  d_distinct : FuncData
  F_distinct : Fun K "distinct" "distinct" s_distinct f_distinct d_distinct
  b_distinct : Binds K d_distinct ["rows"] []
  m_distinct : mg "distinct" = some (.ref f_distinct)
  f_levels_of : Addr
  d_levels_of : FuncData
  F_levels_of : Fun K "levels_of" "levels_of" s_levels_of f_levels_of d_levels_of
  b_levels_of : Binds K d_levels_of ["a"] []
  m_levels_of : mg "levels_of" = some (.ref f_levels_of)
  f_levels_from : Addr
  d_levels_from : FuncData
  F_levels_from : Fun K "levels_from" "levels_from" s_levels_from f_levels_from d_levels_from
  b_levels_from : Binds K d_levels_from ["formulas"] []
  m_levels_from : mg "levels_from" = some (.ref f_levels_from)
  f_place_of : Addr
  d_place_of : FuncData
  F_place_of : Fun K "place_of" "place_of" s_place_of f_place_of d_place_of
  b_place_of : Binds K d_place_of ["rows", "row"] []
  m_place_of : mg "place_of" = some (.ref f_place_of)
  f_folded : Addr
  d_folded : FuncData
  F_folded : Fun K "folded" "folded" s_folded f_folded d_folded
  b_folded : Binds K d_folded ["a", "value_of"] []
  m_folded : mg "folded" = some (.ref f_folded)
  f_replace_boxes : Addr
  d_replace_boxes : FuncData
  F_replace_boxes : Fun K "replace_boxes" "replace_boxes" s_replace_boxes f_replace_boxes d_replace_boxes
  b_replace_boxes : Binds K d_replace_boxes ["a", "values"] []
  m_replace_boxes : mg "replace_boxes" = some (.ref f_replace_boxes)
  f_value_at : Addr
  d_value_at : FuncData
  F_value_at : Fun K "_value_at" "_value_at" s_value_at f_value_at d_value_at
  b_value_at : Binds K d_value_at ["values", "a", "otherwise"] []
  m_value_at : mg "_value_at" = some (.ref f_value_at)
  f_law_pool : Addr
  d_law_pool : FuncData
  F_law_pool : Fun K "_law_pool" "_law_pool" s_law_pool f_law_pool d_law_pool
  b_law_pool : Binds K d_law_pool ["script"] []
  m_law_pool : mg "_law_pool" = some (.ref f_law_pool)
  f_law_spread : Addr
  d_law_spread : FuncData
  F_law_spread : Fun K "_law_spread" "_law_spread" s_law_spread f_law_spread d_law_spread
  b_law_spread : Binds K d_law_spread ["cell"] []
  m_law_spread : mg "_law_spread" = some (.ref f_law_spread)
  f_law_draw : Addr
  d_law_draw : FuncData
  F_law_draw : Fun K "_law_draw" "_law_draw" s_law_draw f_law_draw d_law_draw
  b_law_draw : Binds K d_law_draw ["pool", "many"] []
  m_law_draw : mg "_law_draw" = some (.ref f_law_draw)
  f_law_same : Addr
  d_law_same : FuncData
  F_law_same : Fun K "_law_same" "_law_same" s_law_same f_law_same d_law_same
  b_law_same : Binds K d_law_same ["actual", "due"] []
  m_law_same : mg "_law_same" = some (.ref f_law_same)
  f_law_formula : Addr
  d_law_formula : FuncData
  F_law_formula : Fun K "_law_formula" "_law_formula" s_law_formula f_law_formula d_law_formula
  b_law_formula : Binds K d_law_formula ["pool", "depth", "plain"] []
  m_law_formula : mg "_law_formula" = some (.ref f_law_formula)
  f_law_list : Addr
  d_law_list : FuncData
  F_law_list : Fun K "_law_list" "_law_list" s_law_list f_law_list d_law_list
  b_law_list : Binds K d_law_list ["pool", "many"] []
  m_law_list : mg "_law_list" = some (.ref f_law_list)
  f_law_some : Addr
  d_law_some : FuncData
  F_law_some : Fun K "_law_some" "_law_some" s_law_some f_law_some d_law_some
  b_law_some : Binds K d_law_some ["pool", "depth", "plain"] []
  m_law_some : mg "_law_some" = some (.ref f_law_some)
  f_law_parts : Addr
  d_law_parts : FuncData
  F_law_parts : Fun K "_law_parts" "_law_parts" s_law_parts f_law_parts d_law_parts
  b_law_parts : Binds K d_law_parts ["a"] []
  m_law_parts : mg "_law_parts" = some (.ref f_law_parts)
  f_law_all : Addr
  d_law_all : FuncData
  F_law_all : Fun K "_law_all" "_law_all" s_law_all f_law_all d_law_all
  b_law_all : Binds K d_law_all ["a"] []
  m_law_all : mg "_law_all" = some (.ref f_law_all)
  f_law_put : Addr
  d_law_put : FuncData
  F_law_put : Fun K "_law_put" "_law_put" s_law_put f_law_put d_law_put
  b_law_put : Binds K d_law_put ["a", "values"] []
  m_law_put : mg "_law_put" = some (.ref f_law_put)
  f_law : Addr
  d_law : FuncData
  F_law : Fun K "law" "law" s_law f_law d_law
  b_law : Binds K d_law ["script"] []
  m_law : mg "law" = some (.ref f_law)
  z_bool : mg "bool" = none
  z_int : mg "int" = none
  z_isinstance : mg "isinstance" = none
  z_len : mg "len" = none
  z_list : mg "list" = none
  z_range : mg "range" = none
  z_reversed : mg "reversed" = none
  z_sorted : mg "sorted" = none
  z_str : mg "str" = none
  z_tuple : mg "tuple" = none
  c_replace_boxes : Addr
  P_replace_boxes : Addr
  C_replace_boxes : FunC K "replace_boxes" "replace_boxes" s_replace_boxes f_replace_boxes d_replace_boxes c_replace_boxes
  dT : [P_replace_boxes].Nodup
abbrev Top.tabs {K : PySem.W.Frag} {mg : Str → Option Value} (T : Top K mg) : List NdefX.NTab := [(T.P_replace_boxes, fun _ _ => "replace_boxes.<locals>.value_of")]
abbrev Top.cs {K : PySem.W.Frag} {mg : Str → Option Value} (T : Top K mg) : List (Addr × Addr) := [(T.c_replace_boxes, T.P_replace_boxes)]
section
variable {P : Program} {w : World} {K : PySem.W.Frag} {mg : Str → Option Value} {base : Heap}

/-! ### parts, distinct items, levels -/
def spParts (K : PySem.W.Frag) : Sp := fun vs H Q _ => ∃ (x : V) (f : Fm), vs = [x] ∧ Im K H x f.d ∧ ∀ (p : Addr) (ys : List V) (H' : Hp), Same H H' → SqT K H' p ys → ImAll K H' ys (f.kids.map Fm.d) → Q (.ref p) H'
theorem ok_parts_of (T : Top K mg) : FnOk P w K mg base CX0 1 T.f_parts_of T.d_parts_of ["a"] (spParts K) := by
  refine T.F_parts_of.ok sc_parts_of (fun vs H Q E h => ?_) (fun cdv A outer s H vs Q E hr h => ?_)
  · obtain ⟨x, f, rfl, _⟩ := h
    rfl
  obtain ⟨x, f, rfl, hx, k⟩ := h
  refine ⟨_, (pss_cons (ps_if (pt_cmpR op_eq (pe_ix ix_tup (pv 0) pe_int (fun _ _ => rfl)) pe_str (nomark _))
      (pss_one (ps_ret (pe_tup pa_nil)))
      pss_nil)
    (pss_one (ps_ret (pe_slice sl_tupA (pv 0) (po_some pe_int) po_none)))), ?_⟩
  obtain ⟨a, ys, rfl, h1, h2⟩ := im_inv hx
  refine ⟨_, rfl, a, _, 0, _, rfl, rfl, h1, atI_nat (j := 0) rfl, rfl, _, rfl, ?_⟩
  rw [sg_var]
  cases hv : f.isVar with
  | true =>
    refine iteT ⟨(by show 0 ≤ sizeLine; decide), fun p np => ?_⟩
    obtain ⟨e, _⟩ := kids_var hv
    exact k p [] _ (same_new np) (SqT.of upd_same) (by rw [e]; exact .nil)
  | false =>
    refine iteF ⟨_, rfl, 1, rfl, a, _, rfl, h1, fun e => ?_, fun _ p np => ?_⟩
    · rw [sIx_1] at e
      exact absurd e.1 (by decide)
    · rw [cut_1]
      have s1 := same_new (o := .tup ys) np
      exact k p ys _ s1 (SqT.of upd_same) (by rw [← kids_pts hv]; exact h2.mono (Same.ts s1))
def Ok1 (f : Fm) : Prop := f.d.canLay0 = true ∧ f.ht ≤ 63
def spDistinct (K : PySem.W.Frag) : Sp := fun vs H Q _ => ∃ (a : Addr) (xs : List V) (fs : List Fm), vs = [.ref a] ∧ SqL K H a xs ∧ ImAll K H xs (fs.map Fm.d) ∧ (∀ f ∈ fs, Ok1 f) ∧ fs.length ≤ 1000000 ∧
  ∀ (p : Addr) (ys : List V) (H' : Hp), H p = none → Same H H' → H' p = some (.lst ys) → ImAll K H' ys ((dist fs).map Fm.d) → Q (.ref p) H'
theorem ok1_shaped {f : Fm} (h : Ok1 f) : SeqAt.shaped f.d = true := by
  unfold SeqAt.shaped
  rw [h.1, Fm.depth]
  exact decide_eq_true (Nat.le_trans h.2 (by decide))
theorem ok_distinct (T : Top K mg) : FnOk P w K mg base CX0 1 T.f_distinct T.d_distinct ["rows"] (spDistinct K) := by
  refine T.F_distinct.ok sc_distinct (fun vs H Q E h => ?_) (fun cdv A outer s H vs Q E hr h => ?_)
  · obtain ⟨a, xs, fs, rfl, _⟩ := h
    rfl
  obtain ⟨a, xs, fs, rfl, hS, hI, hok, hlen, k⟩ := h
  have hu64 := hr.units
  have hu200 := hr.un
  refine ⟨_, (pss_cons (ps_set (i := 1) sc_distinct.nd rfl (.inl rfl) (pe_lst pa_nil))
    (pss_cons (ps_for PassesOwn.never rfl (pi_list (pe_callB (cr_sortedF hu200) (by rfl) T.z_sorted (by decide +kernel) (pa_cons (pv 0) pa_nil))) (pg_name (i := 2) sc_distinct.nd rfl (.inl rfl))
      (pss_one (ps_if (PW.pt (pw_or (pt_not (pt_truth (pv 1) (fun _ => rfl))) (pw_or1 (pt_cmpR (op_neD hu64) (pv 2) (pe_ix ix_list (pv 1) (pe_un un_neg pe_int) (fun _ _ => rfl)) (nomark _)))))
      (pss_one (ps_expr (pe_bm PySem.F.plainAttrs_list PySem.F.slot_list_append PySem.F.type_list_append mt_append (pv 1) (pa_cons (pv 2) pa_nil))))
      pss_nil)))
    (pss_one (ps_ret (pv 1))))), ?_⟩
  refine ⟨Nat.zero_le _, fun d nd => ?_⟩
  have s1 := same_new (o := .lst []) nd
  refine ⟨_, rfl, a, xs, fs, rfl, s1.seq hS, hI.mono (Same.ts s1), fun f hf => ⟨(hok f hf).1, Nat.le_trans (hok f hf).2 (by decide)⟩, fun p ys np iy => ?_⟩
  have s2 := same_new (o := .lst ys) np
  have hl := fms_len iy
  have hlm : (fs.mergeSort Fm.le).length = fs.length := List.length_mergeSort fs
  have dp : d ≠ p := ne_of_none upd_same np
  refine ⟨p, rfl, ⟨_, SqL.of upd_same⟩, for_list (K := K) (a := p) (xs := ys) (fun i σ H2 => ∃ (v : Option V) (zs : List V), σ = [some (.ref a), some (.ref d), v] ∧ Same H H2 ∧ H2 p = some (.lst ys) ∧ H2 d = some (.lst zs) ∧ ImAll K H2 ys ((fs.mergeSort Fm.le).map Fm.d) ∧ ImAll K H2 zs ((dd ((fs.mergeSort Fm.le).take i)).map Fm.d))
    ⟨none, [], rfl, s1.trans s2, upd_same, s2 _ _ upd_same, iy.mono (Same.ts s2), .nil⟩ (fun i σ H2 _ h => by
      obtain ⟨_, _, _, _, h, _⟩ := h
      exact SqL.of h) ?_ ?_⟩
  · rintro i x σ H2 hx ⟨v, zs, rfl, s3, hp, hd, iy2, iz⟩
    obtain ⟨f, hf, ix⟩ := imAll_of iy2 hx
    have hi : i < ys.length := (List.getElem?_eq_some_iff.mp hx).1
    have hfm : f ∈ fs := (List.mergeSort_perm fs Fm.le).mem_iff.mp (List.mem_of_getElem? hf)
    have hzl := fms_len iz
    have hzb : (dd ((fs.mergeSort Fm.le).take i)).length ≤ i := by
      have h1 : ((fs.mergeSort Fm.le).take i).Pairwise fun a b => a.le b = true := (ms_sorted fs).sublist (List.take_sublist _ _)
      have := (dd_spec _ h1).2.2.1.length_le
      rw [List.length_take] at this
      omega
    have sz : zs.length < sizeLine := Nat.lt_of_le_of_lt (show zs.length ≤ 1000000 by omega) (by decide)
    have app : ∀ H3, H3 = upd H2 d (.lst (zs ++ [x])) → dd ((fs.mergeSort Fm.le).take (i + 1)) = dd ((fs.mergeSort Fm.le).take i) ++ [f] → ∃ (v : Option V) (zs : List V), [some (V.ref a), some (V.ref d), some x] = [some (.ref a), some (.ref d), v] ∧ Same H H3 ∧ H3 p = some (.lst ys) ∧ H3 d = some (.lst zs) ∧ ImAll K H3 ys ((fs.mergeSort Fm.le).map Fm.d) ∧ ImAll K H3 zs ((dd ((fs.mergeSort Fm.le).take (i + 1))).map Fm.d) := by
      rintro _ rfl e
      have tt := Kp.upd.ts (H := H2) (p := d) (H' := upd H2 d (.lst (zs ++ [x]))) hd
      refine ⟨_, _, rfl, fun b o hb => ?_, ?_, upd_same, iy2.mono tt, ?_⟩
      · rw [upd_ne (ne_of_none hb nd)]
        exact s3 _ _ hb
      · rw [upd_ne dp.symm]
        exact hp
      · rw [e, fm_snoc]
        exact (iz.mono tt).snoc (ix.mono tt)
    have ed : dd ((fs.mergeSort Fm.le).take (i + 1)) = if (dd ((fs.mergeSort Fm.le).take i)).getLast? = some f then dd ((fs.mergeSort Fm.le).take i) else dd ((fs.mergeSort Fm.le).take i) ++ [f] := by
      rw [take_snoc hf, dd_snoc]
    rcases hz : zs with _ | ⟨z0, zr⟩
    · subst hz
      have e0 : dd ((fs.mergeSort Fm.le).take i) = [] := List.length_eq_zero_iff.mp hzl.symm
      refine ⟨_, rfl, _, .inl ⟨_, SqL.of hd, rfl⟩, iteT (iteT ?_)⟩
      refine ⟨_, rfl, .inl ⟨rfl, _, .inl (.inl hd)⟩, _, rfl, d, [], x, rfl, rfl, hd, sz, ?_⟩
      exact app _ rfl (by rw [ed, e0, if_neg (by simp)])
    · have hne : zs.isEmpty = false := by rw [hz]; rfl
      have hpos : 0 < zs.length := by rw [hz]; exact Nat.succ_pos _
      refine ⟨_, rfl, _, .inl ⟨_, SqL.of hd, rfl⟩, ?_⟩
      rw [hne]
      have gl := List.getElem?_eq_getElem (l := zs) (i := zs.length - 1) (by omega)
      obtain ⟨g, hg, ig⟩ := imAll_of iz gl
      have glast : (dd ((fs.mergeSort Fm.le).take i)).getLast? = some g := by
        rw [List.getLast?_eq_getElem?, ← hzl]
        exact hg
      have hgm : g ∈ fs := by
        have h1 : ((fs.mergeSort Fm.le).take i).Pairwise fun a b => a.le b = true := (ms_sorted fs).sublist (List.take_sublist _ _)
        have h2 := ((dd_spec _ h1).2.1 g).mp (List.mem_of_getLast? glast)
        exact (List.mergeSort_perm fs Fm.le).mem_iff.mp (List.mem_of_mem_take h2)
      refine iteF ⟨_, rfl, _, rfl, 1, rfl, d, zs, -1, _, rfl, rfl, SqL.of hd, atI_m1 gl, _, _, ix.dp, ig.dp, ok1_shaped (hok f hfm), ok1_shaped (hok g hgm), _, rfl, ?_⟩
      rw [Fm.eqv]
      by_cases e : f = g
      · rw [decide_eq_true e]
        refine iteF ?_
        refine ⟨_, _, rfl, s3, hp, hd, iy2, ?_⟩
        rw [ed, if_pos (by rw [glast, e])]
        exact iz
      · rw [decide_eq_false e]
        refine iteT ?_
        refine ⟨_, rfl, .inl ⟨rfl, _, .inl (.inl hd)⟩, _, rfl, d, zs, x, rfl, rfl, hd, sz, ?_⟩
        exact app _ rfl (by rw [ed, if_neg (by rw [glast]; exact fun q => e (Option.some.inj q).symm)])
  · rintro σ H2 ⟨v, zs, rfl, s3, hp, hd, _, iz⟩
    rw [hl, hlm, ← hlm, List.take_length] at iz
    exact ⟨_, rfl, k d zs H2 nd s3 hd iz⟩
/-- a list of levels, each a new list -/
def spLevelsF (K : PySem.W.Frag) : Sp := fun vs H Q _ => ∃ (q : Addr) (x : V) (f : Fm) (n : Nat), vs = [.ref q] ∧ SqL K H q [x] ∧ Im K H x f.d ∧ (∀ g ∈ f.subs, Ok1 g) ∧ f.ht ≤ n ∧ f.sz ≤ 100000 ∧
  ∀ (p : Addr) (vs : List V) (H' : Hp), H p = none → Same H H' → H' p = some (.lst vs) → LvAt K H' vs (levs n [f]) → Q (.ref p) H'
theorem dist_sing (f : Fm) : dist [f] = [f] := dist_self (List.pairwise_singleton _ _)
theorem ok_levels_from (T : Top K mg) : FnOk P w K mg base CX0 2 T.f_levels_from T.d_levels_from ["formulas"] (spLevelsF K) := by
  have G_parts_of : FnOk P w K mg base CX0 1 T.f_parts_of T.d_parts_of ["a"] (spParts K) := ok_parts_of T
  have G_distinct : FnOk P w K mg base CX0 1 T.f_distinct T.d_distinct ["rows"] (spDistinct K) := ok_distinct T
  refine T.F_levels_from.ok sc_levels_from (fun vs H Q E h => ?_) (fun cdv A outer s H vs Q E hr h => ?_)
  · obtain ⟨q, x, f, n, rfl, _⟩ := h
    rfl
  obtain ⟨q, x, f, n, rfl, hq, hx, hok, hn, hsz, k⟩ := h
  refine ⟨_, (pss_cons (ps_set (i := 1) sc_levels_from.nd rfl (.inl rfl) (pe_lst pa_nil))
    (pss_cons (ps_set (i := 2) sc_levels_from.nd rfl (.inl rfl) (pe_call G_distinct (hr.mono (by omega)) (by rfl) T.m_distinct T.F_distinct.kp T.b_distinct .nil pass0 (pa_cons (pv 0) pa_nil)))
    (pss_cons (ps_while PassesOwn.never (pt_truth (pv 2) (fun _ => rfl))
      (pss_cons (ps_expr (pe_bm PySem.F.plainAttrs_list PySem.F.slot_list_append PySem.F.type_list_append mt_append (pv 1) (pa_cons (pv 2) pa_nil)))
    (pss_one (ps_set (i := 2) sc_levels_from.nd rfl (.inl rfl) (pe_call G_distinct (hr.mono (by omega)) (by rfl) T.m_distinct T.F_distinct.kp T.b_distinct .nil pass0 (pa_cons (pe_lc2 (own := [("b", 3), ("part", 4)]) (vs1 := [4]) (g := gName 3) (g1 := gName 4) (tt := tYes) (tt1 := tYes) (wi1 := iTup K _) rfl sc_levels_from.nd (pi_list (pv 2)) (blkOk_by (N := ["formulas", "levels", "level", "b", "part"]) (sc := defScope s_levels_from) (by decide +kernel)) (by decide) (fun _ _ _ _ _ => pg_name (i := 3) sc_levels_from.nd rfl (Or.inl rfl)) (fun _ _ _ _ _ => pts_nil) (fun _ _ _ _ _ => (pi_tup (pe_call G_parts_of (hr.mono (by omega)) (by rfl) T.m_parts_of T.F_parts_of.kp T.b_parts_of .nil pass0 (pa_cons (pv 3) pa_nil)))) (fun _ _ _ _ _ => pg_name (i := 4) sc_levels_from.nd rfl (Or.inl rfl)) (fun _ _ _ _ _ => pts_nil) (fun _ _ _ _ _ => (pv 4))) pa_nil))))))
    (pss_one (ps_ret (pv 1)))))), ?_⟩
  refine ⟨Nat.zero_le _, fun L nL => ?_⟩
  have s1 := same_new (o := .lst []) nL
  refine ⟨_, rfl, q, [x], [f], rfl, s1.seq hq, .cons (hx.mono (Same.ts s1)) .nil, fun g hg => hok g (by rw [List.mem_singleton.mp hg]; exact subs_kids.mpr (.inl rfl)), by show 1 ≤ 1000000; decide, fun c0 ys0 Hs nc0 ss hc0 hI0 => ?_⟩
  rw [dist_sing] at hI0
  have s2 := s1.trans ss
  have hLs := ss _ _ (@upd_same H L (.lst []))
  have nLc : L ≠ c0 := ne_of_none upd_same nc0
  refine ⟨fun m σ H2 => ∃ (vs : List V) (acc : List (List Fm)) (c : Addr) (ys : List V) (cur : List Fm) (v3 v4 : Option V), σ = [some (.ref q), some (.ref L), some (.ref c), v3, v4] ∧ Same H H2 ∧ H2 L = some (.lst vs) ∧ LvAt K H2 vs acc ∧ (∀ v ∈ vs, v ≠ .ref L) ∧ c ≠ L ∧ SqL K H2 c ys ∧ ImAll K H2 ys (cur.map Fm.d) ∧ (∀ g ∈ cur, g ∈ f.subs ∧ g.ht ≤ m) ∧ (cur.map Fm.sz).sum ≤ 100000 ∧ acc ++ levs m cur = levs n [f] ∧ acc.length + m ≤ n,
    ⟨n, [], [], c0, ys0, [f], none, none, rfl, s2, hLs, .nil, (fun v hv => nomatch hv), nLc.symm, SqL.of hc0, hI0, ?_, by simpa using hsz, rfl, by simp⟩, ?_⟩
  · intro g hg
    rw [List.mem_singleton.mp hg]
    exact ⟨subs_kids.mpr (.inl rfl), hn⟩
  rintro m σ H2 ⟨vs, acc, c, ys, cur, v3, v4, rfl, s3, hL, lv, nv, ncL, hc, iy, hcur, hsum, hlev, hlen⟩
  have hyl := fms_len iy
  refine ⟨_, rfl, _, .inl ⟨ys, hc, rfl⟩, ?_⟩
  cases hcu : cur with
  | nil =>
    have e : ys = [] := by
      rw [hcu] at hyl
      exact List.length_eq_zero_iff.mp hyl
    subst e
    rw [hcu, levs_nil, List.append_nil] at hlev
    exact iteF ⟨_, rfl, k L vs H2 nL s3 hL (by rw [← hlev]; exact lv)⟩
  | cons g0 gr =>
    have hne : ys.isEmpty = false := by
      rw [hcu] at hyl
      cases ys with
      | nil => cases hyl
      | cons _ _ => rfl
    rw [hne]
    have hm : 1 ≤ m := by
      have h1 := (hcur g0 (by rw [hcu]; exact List.mem_cons_self)).2
      have h2 := g0.ht_pos
      omega
    obtain ⟨m', rfl⟩ : ∃ m', m = m' + 1 := ⟨m - 1, by omega⟩
    have hl2 : levs (m' + 1) cur = cur :: levs m' (down cur) := by
      rw [levs, if_neg (by rw [hcu]; simp)]
    rw [hl2] at hlev
    refine iteT ⟨_, fun σ' H' h => ⟨m', Nat.lt_succ_self _, h⟩, ?_⟩
    -- levels.append(level)
    have hvl := lv.len
    have hn2 : acc.length ≤ 1000000 := by
      have h1 : acc.length ≤ (levs n [f]).length := by rw [← hlev, List.length_append]; exact Nat.le_add_right _ _
      have h2 : (levs n [f]).length ≤ ((levs n [f]).map List.length).sum := by
        have : ∀ (n : Nat) (l : List Fm), (levs n l).length ≤ ((levs n l).map List.length).sum := by
          intro n
          induction n with
          | zero => exact fun _ => Nat.le_refl _
          | succ n ih =>
            intro l
            rw [levs]
            split
            · exact Nat.le_refl _
            · rename_i hl
              rw [List.length_cons, List.map_cons, List.sum_cons]
              have := ih (down l)
              have : 0 < l.length := List.length_pos_iff.mpr hl
              omega
        exact this n [f]
      have h3 := levs_sum n [f]
      have h4 : ([f].map Fm.sz).sum = f.sz := by simp
      omega
    refine ⟨_, rfl, .inl ⟨rfl, _, .inl (.inl hL)⟩, _, rfl, L, vs, .ref c, rfl, rfl, hL, Nat.lt_of_le_of_lt (show vs.length ≤ 1000000 by omega) (by decide), ?_⟩
    have kL : Kp L H2 (upd H2 L (.lst (vs ++ [.ref c]))) := Kp.upd
    have s4 : Same H (upd H2 L (.lst (vs ++ [.ref c]))) := fun b o hb => by
      rw [upd_ne (ne_of_none hb nL)]
      exact s3 _ _ hb
    have hL4 : upd H2 L (.lst (vs ++ [.ref c])) L = some (.lst (vs ++ [.ref c])) := upd_same
    have hc4 := kL.sqL hc ncL
    have iy4 := iy.mono (kL.ts hL)
    have lv4 : LvAt K (upd H2 L (.lst (vs ++ [.ref c]))) (vs ++ [.ref c]) (acc ++ [cur]) := LvAt.snoc hc4 iy4 (LvAt.mut kL hL lv nv)
    have nv4 : ∀ v ∈ vs ++ [.ref c], v ≠ .ref L := fun v hv => by
      rcases List.mem_append.mp hv with q | q
      · exact nv v q
      · rw [List.mem_singleton.mp q]
        exact fun e => ncL (V.ref.inj e)
    generalize upd H2 L (.lst (vs ++ [.ref c])) = H4 at s4 hL4 hc4 iy4 lv4
    -- the parts of all
    refine ⟨_, rfl, c, rfl, ⟨_, hc4⟩, fun D nD => ?_⟩
    refine out_list (K := K) (a := c) (xs := ys) (fun i H5 => ∃ zs : List V, Same H4 H5 ∧ H5 D = some (.lst zs) ∧ ImAll K H5 zs (((cur.take i).flatMap Fm.kids).map Fm.d)) ⟨[], same_new nD, upd_same, .nil⟩ (fun i H5 _ h => by
      obtain ⟨zs, h, _⟩ := h
      exact h.seq hc4) ?_ ?_
    · rintro i y H5 hy ⟨zs, s5, hD, iz⟩
      obtain ⟨g, hg, ig⟩ := imAll_of iy4 hy
      refine ⟨rfl, _, rfl, y, g, rfl, ig.mono (Same.ts s5), fun p ps H6 s6 hp ip => ⟨p, rfl, ⟨_, hp⟩, ?_⟩⟩
      have hpl := fms_len ip
      have hgc : (cur.take (i + 1)).flatMap Fm.kids = (cur.take i).flatMap Fm.kids ++ g.kids := by
        rw [take_snoc hg, List.flatMap_append]
        simp
      have hbig : ((cur.take (i + 1)).flatMap Fm.kids).length ≤ 100000 := by
        refine Nat.le_trans (flat_len _) (Nat.le_trans (sub_sum Fm.sz (List.take_sublist _ _)) hsum)
      refine in_tup (K := K) (b := p) (ys := ps) (fun j H7 => ∃ zs : List V, Same H4 H7 ∧ SqT K H7 p ps ∧ H7 D = some (.lst zs) ∧ ImAll K H7 ps (g.kids.map Fm.d) ∧ ImAll K H7 zs (((cur.take i).flatMap Fm.kids ++ g.kids.take j).map Fm.d)) ⟨zs, s5.trans s6, hp, s6 _ _ hD, ip, by rw [List.take_zero, List.append_nil]; exact iz.mono (Same.ts s6)⟩ (fun j H7 _ h => by
        obtain ⟨_, _, h, _⟩ := h
        exact h) ?_ ?_
      · rintro j q H7 hq ⟨zs, s7, hp7, hD7, ip7, iz7⟩
        obtain ⟨r, hr7, ir⟩ := imAll_of ip7 hq
        have hzl := fms_len iz7
        have hj : j < g.kids.length := (List.getElem?_eq_some_iff.mp hr7).1
        have hzs : zs.length ≤ 100000 := by
          rw [hgc, List.length_append] at hbig
          rw [List.length_append, List.length_take] at hzl
          omega
        refine ⟨rfl, _, rfl, zs, hD7, Nat.lt_of_le_of_lt hzs (by decide), zs ++ [q], ?_, ?_, upd_same, ?_, ?_⟩
        · intro b o hb
          rw [upd_ne (ne_of_none hb nD)]
          exact s7 _ _ hb
        · exact (Kp.upd.ts hD7).sqT hp7
        · exact ip7.mono (Kp.upd.ts hD7)
        · rw [take_snoc hr7, ← List.append_assoc, fm_snoc]
          exact (iz7.mono (Kp.upd.ts hD7)).snoc (ir.mono (Kp.upd.ts hD7))
      · rintro H7 ⟨zs, s7, hp7, hD7, ip7, iz7⟩
        rw [hpl, List.take_length, ← hgc] at iz7
        exact ⟨zs, s7, hD7, iz7⟩
    · rintro H5 ⟨zs, s5, hD, iz⟩
      rw [hyl, List.take_length] at iz
      refine ⟨D, zs, _, rfl, SqL.of hD, iz, fun g hg => ?_, Nat.le_trans (flat_len cur) (Nat.le_trans hsum (by decide)), fun p ws H6 np s6 hp ip => ?_⟩
      · obtain ⟨h, hh, hk⟩ := List.mem_flatMap.mp hg
        exact hok g (kids_subs (hcur h hh).1 hk)
      · have sa := s5.trans s6
        refine ⟨_, _, p, ws, down cur, _, _, rfl, s4.trans sa, sa _ _ hL4, LvAt.same sa lv4, nv4, ?_, SqL.of hp, ip, fun g hg => ?_, ?_, ?_, ?_⟩
        · exact (ne_of_none (s5 _ _ hL4) np).symm
        · obtain ⟨h, hh, hk⟩ := down_mem.mp hg
          have := kids_ht hk
          have h2 := (hcur h hh).2
          exact ⟨kids_subs (hcur h hh).1 hk, by omega⟩
        · have := down_sum cur
          omega
        · rw [List.append_assoc]
          exact hlev
        · rw [List.length_append]
          show acc.length + 1 + m' ≤ n
          omega

/-- the levels of one formula -/
def spLevels (K : PySem.W.Frag) : Sp := fun vs H Q _ => ∃ (x : V) (f : Fm) (n : Nat), vs = [x] ∧ Im K H x f.d ∧ (∀ g ∈ f.subs, Ok1 g) ∧ f.ht ≤ n ∧ f.sz ≤ 100000 ∧
  ∀ (p : Addr) (vs : List V) (H' : Hp), H p = none → Same H H' → H' p = some (.lst vs) → LvAt K H' vs (levs n [f]) → Q (.ref p) H'
theorem ok_levels_of (T : Top K mg) : FnOk P w K mg base CX0 3 T.f_levels_of T.d_levels_of ["a"] (spLevels K) := by
  have G_levels_from : FnOk P w K mg base CX0 2 T.f_levels_from T.d_levels_from ["formulas"] (spLevelsF K) := ok_levels_from T
  refine T.F_levels_of.ok sc_levels_of (fun vs H Q E h => ?_) (fun cdv A outer s H vs Q E hr h => ?_)
  · obtain ⟨x, f, n, rfl, _⟩ := h
    rfl
  obtain ⟨x, f, n, rfl, hx, hok, hn, hsz, k⟩ := h
  refine ⟨_, (pss_one (ps_ret (pe_call G_levels_from (hr.mono (by omega)) (by rfl) T.m_levels_from T.F_levels_from.kp T.b_levels_from .nil pass0 (pa_cons (pe_lst (pa_cons (pv 0) pa_nil)) pa_nil)))), ?_⟩
  refine ⟨_, rfl, (by show 1 ≤ sizeLine; decide), fun q nq => ?_⟩
  have s1 := same_new (o := .lst [x]) nq
  refine ⟨q, x, f, n, rfl, SqL.of upd_same, hx.mono (Same.ts s1), hok, hn, hsz, fun p vs H' np s2 hp hl => ?_⟩
  have npH : H p = none := by
    cases e : H p with
    | none => rfl
    | some o => rw [s1 _ _ e] at np; cases np
  exact k p vs H' npH (s1.trans s2) hp hl

/-! ### the place of a formula in an ascending row -/
def spPlace (K : PySem.W.Frag) : Sp := fun vs H Q _ => ∃ (a : Addr) (xs : List V) (fs : List Fm) (x : V) (f : Fm) (i : Nat), vs = [.ref a, x] ∧ SqL K H a xs ∧ ImAll K H xs (fs.map Fm.d) ∧ Asc fs ∧ fs[i]? = some f ∧ Im K H x f.d ∧ (∀ g ∈ fs, Ok1 g) ∧ fs.length ≤ 100000 ∧ Q (.int (i : Int)) H
theorem ok_place_of (T : Top K mg) : FnOk P w K mg base CX0 1 T.f_place_of T.d_place_of ["rows", "row"] (spPlace K) := by
  refine T.F_place_of.ok sc_place_of (fun vs H Q E h => ?_) (fun cdv A outer s H vs Q E hr h => ?_)
  · obtain ⟨a, xs, fs, x, f, i, rfl, _⟩ := h
    rfl
  obtain ⟨a, xs, fs, x, f, i, rfl, hS, hI, hasc, hi, hx, hok, hlen, k⟩ := h
  have hu64 := hr.units
  have hu200 := hr.un
  refine ⟨_, (pss_cons (ps_set (i := 2) sc_place_of.nd rfl (.inl rfl) pe_int)
    (pss_cons (ps_set (i := 3) sc_place_of.nd rfl (.inl rfl) (pe_op op_sub (pe_callB call_len_seq (by rfl) T.z_len PySem.boot_len (pa_cons (pv 0) pa_nil)) pe_int))
    (pss_cons (ps_while PassesOwn.never (pt_cmpR op_lt (pv 2) (pv 3) (nomark _))
      (pss_cons (ps_set (i := 4) sc_place_of.nd rfl (.inl rfl) (pe_op op_fdiv (pe_op op_add (pv 2) (pv 3)) pe_int))
    (pss_one (ps_if (pt_cmpR (op_ltF hu200) (pe_ix ix_list (pv 0) (pv 4) (fun _ _ => rfl)) (pv 1) (nomark _))
      (pss_one (ps_set (i := 2) sc_place_of.nd rfl (.inl rfl) (pe_op op_add (pv 4) pe_int)))
      (pss_one (ps_set (i := 3) sc_place_of.nd rfl (.inl rfl) (pv 4)))))))
    (pss_one (ps_ret (pv 2)))))), ?_⟩
  have hxl := fms_len hI
  have hif : i < fs.length := (List.getElem?_eq_some_iff.mp hi).1
  refine ⟨_, rfl, a, xs, rfl, .inl hS, _, _, rfl, rfl, ?_⟩
  refine ⟨fun m σ H2 => ∃ (lo hi : Nat) (v4 : Option V), σ = [some (.ref a), some x, some (.int (lo : Int)), some (.int (hi : Int)), v4] ∧ H2 = H ∧ lo ≤ i ∧ i ≤ hi ∧ hi < fs.length ∧ m = hi - lo, ⟨fs.length - 1, 0, fs.length - 1, none, ?_, rfl, Nat.zero_le _, by omega, by omega, by omega⟩, ?_⟩
  · show [some (V.ref a), some x, some (V.int 0), some (V.int ((xs.length : Int) - 1)), none] = _
    rw [show (xs.length : Int) - 1 = ((fs.length - 1 : Nat) : Int) by omega]
    rfl
  rintro m σ H2 ⟨lo, hi', v4, rfl, rfl, h1, h2, h3, rfl⟩
  refine ⟨_, rfl, _, rfl, _, _, rfl, rfl, _, rfl, ite2 (fun c => ?_) (fun c => ?_)⟩
  · have hlt : lo < hi' := by
      have := of_decide_eq_true c
      omega
    refine ⟨fun σ' H' => ∃ m', m' < hi' - lo ∧ ∃ (lo hi : Nat) (v4 : Option V), σ' = [some (.ref a), some x, some (.int (lo : Int)), some (.int (hi : Int)), v4] ∧ H' = H2 ∧ lo ≤ i ∧ i ≤ hi ∧ hi < fs.length ∧ m' = hi - lo, fun σ' H' h => h, ?_⟩
    refine ⟨_, rfl, _, rfl, _, _, rfl, rfl, _, _, rfl, rfl, ⟨by decide, by decide⟩, ?_⟩
    obtain ⟨mid, hm⟩ : ∃ mid : Nat, ((lo : Int) + (hi' : Int)) / 2 = (mid : Int) := ⟨(lo + hi') / 2, by omega⟩
    have hm1 : lo ≤ mid := by omega
    have hm2 : mid < hi' := by omega
    change gName 4 (V.int (((lo : Int) + (hi' : Int)) / 2)) _ _ _
    rw [hm]
    obtain ⟨y, gy⟩ : ∃ y, xs[mid]? = some y := ⟨_, List.getElem?_eq_getElem (by omega)⟩
    obtain ⟨g, gg, ig⟩ := imAll_of hI gy
    have og := hok g (List.mem_of_getElem? gg)
    have of_ := hok f (List.mem_of_getElem? hi)
    refine ⟨_, rfl, _, rfl, a, xs, _, _, rfl, rfl, hS, atI_nat gy, _, rfl, g, f, ig, hx, og.1, of_.1, Nat.le_trans og.2 (by decide), _, rfl, ?_⟩
    obtain ⟨m1, e1⟩ := List.getElem?_eq_some_iff.mp gg
    obtain ⟨m2, e2⟩ := List.getElem?_eq_some_iff.mp hi
    by_cases c1 : mid < i
    · have h5 := List.pairwise_iff_getElem.mp hasc mid i m1 m2 c1
      rw [e1, e2] at h5
      rw [h5]
      exact iteT ⟨_, rfl, _, _, rfl, rfl, hi' - (mid + 1), by omega, mid + 1, hi', some (V.int (mid : Int)), rfl, rfl, by omega, h2, h3, rfl⟩
    · have h5 : g.lt f = false := by
        by_cases c3 : mid = i
        · subst c3
          rw [gg] at hi
          cases hi
          exact Fm.lt_irrefl _
        · have h6 := List.pairwise_iff_getElem.mp hasc i mid m2 m1 (by omega)
          rw [e1, e2] at h6
          exact Fm.lt_asymm h6
      rw [h5]
      exact iteF ⟨_, rfl, mid - lo, by omega, lo, mid, _, rfl, rfl, h1, by omega, by omega, rfl⟩
  · have e : lo = i := by
      have := of_decide_eq_false (Bool.eq_false_iff.mpr c)
      omega
    subst e
    exact ⟨_, rfl, k⟩

/-! ### the pool -/
def spPool (K : PySem.W.Frag) : Sp := fun vs H Q _ => ∃ (a : Addr) (ns : List Int), vs = [.ref a] ∧ SqL K H a (ns.map V.int) ∧
  ∀ (p l : Addr) (H' : Hp), H p = none → Same H H' → Pl K H' p l → Q (.ref p) H'
theorem ok_law_pool (T : Top K mg) : FnOk P w K mg base CX0 1 T.f_law_pool T.d_law_pool ["script"] (spPool K) := by
  refine T.F_law_pool.ok sc_law_pool (fun vs H Q E h => ?_) (fun cdv A outer s H vs Q E hr h => ?_)
  · obtain ⟨a, ns, rfl, _⟩ := h
    rfl
  obtain ⟨a, ns, rfl, hS, q⟩ := h
  refine ⟨_, (pss_cons (ps_set (i := 1) sc_law_pool.nd rfl (.inl rfl) pe_int)
    (pss_cons (ps_for PassesOwn.never rfl (pi_list (pe_slice sl_list (pv 0) po_none (po_some pe_int))) (pg_name (i := 2) sc_law_pool.nd rfl (.inl rfl))
      (pss_one (ps_set (i := 1) sc_law_pool.nd rfl (.inl rfl) (pe_op op_mod (pe_callTy call_int1 (by rfl) T.z_int (by decide +kernel) (pa_cons (pe_op op_add (pe_op op_mul (pv 1) pe_int) (pv 2)) pa_nil)) pe_int))))
    (pss_one (ps_ret (pe_lst (pa_cons (pe_callTy call_list_of (by rfl) T.z_list (by decide +kernel) (pa_cons (pv 0) pa_nil)) (pa_cons pe_int (pa_cons pe_int (pa_cons pe_int (pa_cons (pv 1) pa_nil)))))))))), ?_⟩
  refine ⟨_, rfl, 63, rfl, a, ns.map V.int, rfl, hS, fun c nc => ?_⟩
  have s1 : Same H (upd H c (.lst (cutV (ns.map V.int) none (some 63)))) := same_new nc
  obtain ⟨ms, hms⟩ : ∃ ms : List Int, cutV (ns.map V.int) none (some 63) = ms.map V.int := ⟨_, by unfold cutV; rw [← List.map_drop, ← List.map_take]⟩
  rw [hms] at s1 ⊢
  refine ⟨c, rfl, ⟨_, SqL.of upd_same⟩, for_list (K := K) (a := c) (xs := ms.map V.int) (fun i σ H2 => ∃ (z : Int) (v : Option V), σ = [some (.ref a), some (.int z), v] ∧ H2 = upd H c (.lst (ms.map V.int))) ⟨7, none, rfl, rfl⟩ (fun i σ H2 _ h => by
    obtain ⟨_, _, _, rfl⟩ := h
    exact SqL.of upd_same) ?_ ?_⟩
  · rintro i x σ H2 hx ⟨z, v, rfl, rfl⟩
    obtain ⟨y, rfl⟩ : ∃ y, x = V.int y := by
      rw [List.getElem?_map] at hx
      cases e : ms[i]? with
      | none => rw [e] at hx; cases hx
      | some y => rw [e] at hx; exact ⟨y, (Option.some.inj hx).symm⟩
    refine ⟨_, rfl, _, _, rfl, rfl, .inr ⟨by decide, by decide⟩, _, rfl, _, _, rfl, rfl, .inl ⟨_, rfl, _, _, rfl, rfl, (by show (0 : Int) < 1000003; decide), _, _, rfl, rfl⟩⟩
  · rintro σ H2 ⟨z, v, rfl, rfl⟩
    refine ⟨_, rfl, a, _, rfl, .inl (s1.seq hS), fun l nl => ?_⟩
    refine ⟨_, rfl, (by show 5 ≤ sizeLine; decide), fun p np => ?_⟩
    have s2 := s1.trans (same_new (o := .lst (ns.map V.int)) nl)
    have s3 := s2.trans (same_new (o := .lst [.ref l, .int 0, .int 0, .int 0, .int z]) np)
    have hl : (upd (upd H c (.lst (ms.map V.int))) l (.lst (ns.map V.int))) l = some (.lst (ns.map V.int)) := upd_same
    have nlp : l ≠ p := ne_of_none hl np
    exact q p l _ (s2.free np) s3 ⟨⟨ns, SqL.of (by rw [upd_ne nlp]; exact hl)⟩, nlp, 0, 0, 0, z, upd_same, Int.le_refl 0⟩
/-! ### numbers out of the pool -/
def spSpread (K : PySem.W.Frag) : Sp := fun vs H Q _ => ∃ (c : Int), vs = [.int c] ∧ ∀ n : Int, Q (.int n) H
theorem ok_law_spread (T : Top K mg) : FnOk P w K mg base CX0 1 T.f_law_spread T.d_law_spread ["cell"] (spSpread K) := by
  refine T.F_law_spread.ok sc_law_spread (fun vs H Q E h => ?_) (fun cdv A outer s H vs Q E hr h => ?_)
  · obtain ⟨c, rfl, _⟩ := h
    rfl
  obtain ⟨c, rfl, q⟩ := h
  refine ⟨_, (pss_cons (ps_set (i := 1) sc_law_spread.nd rfl (.inl rfl) (pe_op op_mod (pe_callTy call_int1 (by rfl) T.z_int (by decide +kernel) (pa_cons (pv 0) pa_nil)) pe_int))
    (pss_cons (ps_set (i := 2) sc_law_spread.nd rfl (.inl rfl) pe_int)
    (pss_cons (ps_for PassesOwn.never rfl (pi_range1 (by rfl) T.z_range (pa_cons pe_int pa_nil)) (pg_name (i := 3) sc_law_spread.nd rfl (.inl rfl))
      (pss_cons (ps_set (i := 1) sc_law_spread.nd rfl (.inl rfl) (pe_op op_mod (pe_callTy call_int1 (by rfl) T.z_int (by decide +kernel) (pa_cons (pe_op op_add (pe_op op_add (pe_op op_mul (pv 1) pe_int) pe_int) (pv 3)) pa_nil)) pe_int))
    (pss_one (ps_set (i := 2) sc_law_spread.nd rfl (.inl rfl) (pe_op op_add (pe_op op_mul (pv 2) pe_int) (pv 1))))))
    (pss_one (ps_ret (pv 2)))))), ?_⟩
  refine ⟨_, rfl, .inl ⟨_, rfl, _, _, rfl, rfl, (by show (0 : Int) < 2147483647; decide), ?_⟩⟩
  refine ⟨4, rfl, by decide, by decide, for_range (n := 4) (fun i σ H2 => ∃ (m t : Int) (v : Option V), σ = [some (.int c), some (.int m), some (.int t), v] ∧ H2 = H) ⟨_, _, none, rfl, rfl⟩ ?_ ?_⟩
  · rintro i σ H2 hi ⟨m, t, v, rfl, rfl⟩
    refine ⟨_, rfl, _, _, rfl, rfl, .inr ⟨by decide, by decide⟩, _, _, rfl, rfl, _, rfl, _, _, rfl, rfl, .inl ⟨_, rfl, _, _, rfl, rfl, (by show (0 : Int) < 2147483647; decide), ?_⟩⟩
    exact ⟨_, rfl, _, _, rfl, rfl, .inr ⟨by decide, by decide⟩, _, rfl, _, _, rfl, rfl, _, _, _, rfl, rfl⟩
  · rintro σ H2 ⟨m, t, v, rfl, rfl⟩
    exact ⟨_, rfl, q _⟩
def spDraw (K : PySem.W.Frag) : Sp := fun vs H Q _ => ∃ (p l : Addr) (m : Int), vs = [.ref p, .int m] ∧ Pl K H p l ∧ 0 < m ∧ m < 1073741824 ∧
  ∀ (r : Int) (H' : Hp), 0 ≤ r → r < m → Kp p H H' → Pl K H' p l → Q (.int r) H'
theorem ok_law_draw (T : Top K mg) : FnOk P w K mg base CX0 2 T.f_law_draw T.d_law_draw ["pool", "many"] (spDraw K) := by
  have G_law_spread : FnOk P w K mg base CX0 1 T.f_law_spread T.d_law_spread ["cell"] (spSpread K) := ok_law_spread T
  refine T.F_law_draw.ok sc_law_draw (fun vs H Q E h => ?_) (fun cdv A outer s H vs Q E hr h => ?_)
  · obtain ⟨p, l, m, rfl, _⟩ := h
    rfl
  obtain ⟨p, l, m, rfl, hP, m0, m1, q⟩ := h
  refine ⟨_, (C8.pss_cut (ps_if (PW.pt (pw_and (pt_cmpR op_le (pe_ix ix_list (pv 0) pe_int (fun _ _ => rfl)) pe_int (nomark _)) (pw_and1 (pt_cmpR op_lt (pe_ix ix_list (pv 0) pe_int (fun _ _ => rfl)) (pe_callB call_len_seq (by rfl) T.z_len PySem.boot_len (pa_cons (pe_ix ix_list (pv 0) pe_int (fun _ _ => rfl)) pa_nil)) (nomark _)))))
      (pss_cons (ps_set (i := 2) sc_law_draw.nd rfl (.inl rfl) (pe_ix ix_list (pe_ix ix_list (pv 0) pe_int (fun _ _ => rfl)) (pe_ix ix_list (pv 0) pe_int (fun _ _ => rfl)) (fun _ _ => rfl)))
    (pss_cons (ps_asg (pe_op op_add (pe_ix ix_list (pv 0) pe_int (fun _ _ => rfl)) pe_int) (pg_sub (pv 0) pe_int set_list))
    (pss_cons (ps_asg (pv 2) (pg_sub (pv 0) pe_int set_list))
    (pss_one (ps_if (pt_cmpR op_lt (pv 2) pe_int (nomark _))
      (pss_one (ps_asg (pe_call G_law_spread (hr.mono (by omega)) (by rfl) T.m_law_spread T.F_law_spread.kp T.b_law_spread .nil pass0 (pa_cons (pv 2) pa_nil)) (pg_sub (pv 0) pe_int set_list)))
      pss_nil)))))
      pss_nil)
    (pss_cons (ps_asg (pe_op op_add (pe_ix ix_list (pv 0) pe_int (fun _ _ => rfl)) pe_int) (pg_sub (pv 0) pe_int set_list))
    (pss_cons (ps_if (pt_cmpR op_le (pe_ix ix_list (pv 0) pe_int (fun _ _ => rfl)) pe_int (nomark _))
      (pss_cons (ps_set (i := 3) sc_law_draw.nd rfl (.inl rfl) (pe_op op_mod (pe_callTy call_int1 (by rfl) T.z_int (by decide +kernel) (pa_cons (pe_op op_add (pe_op op_add (pe_op op_mul (pe_ix ix_list (pv 0) pe_int (fun _ _ => rfl)) pe_int) (pe_op op_mul (pe_ix ix_list (pv 0) pe_int (fun _ _ => rfl)) pe_int)) pe_int) pa_nil)) pe_int))
    (pss_cons (ps_set (i := 3) sc_law_draw.nd rfl (.inl rfl) (pe_op op_mod (pe_callTy call_int1 (by rfl) T.z_int (by decide +kernel) (pa_cons (pe_op op_add (pe_op op_mul (pv 3) pe_int) (pe_ix ix_list (pv 0) pe_int (fun _ _ => rfl))) pa_nil)) pe_int))
    (pss_one (ps_ret (pe_op op_mod (pe_op op_fdiv (pv 3) pe_int) (pv 1))))))
      pss_nil)
    (pss_cons (ps_set (i := 4) sc_law_draw.nd rfl (.inl rfl) (pe_op op_mod (pe_callTy call_int1 (by rfl) T.z_int (by decide +kernel) (pa_cons (pe_ix ix_list (pv 0) pe_int (fun _ _ => rfl)) pa_nil)) (pv 1)))
    (pss_cons (ps_asg (pe_op op_fdiv (pe_ix ix_list (pv 0) pe_int (fun _ _ => rfl)) (pv 1)) (pg_sub (pv 0) pe_int set_list))
    (pss_one (ps_ret (pv 4)))))))), ?_⟩
  obtain ⟨i, r, c, s, hp, hi⟩ := hP.at5
  obtain ⟨cs, hl⟩ := hP.sq
  -- the first if: a new number may be taken
  refine ⟨fun σ H1 => ∃ (i r : Int) (v2 v3 v4 : Option V), σ = [some (.ref p), some (.int m), v2, v3, v4] ∧ H1 = upd H p (.lst [.ref l, .int i, .int r, .int c, .int s]) ∧ 0 ≤ i, ?_, ?_⟩
  · have upd0 : upd H p (.lst [.ref l, .int i, .int r, .int c, .int s]) = H := by
      funext b
      by_cases e : b = p
      · rw [e, upd_same, hp]
      · rw [upd_ne e]
    refine ⟨_, rfl, p, _, 2, _, rfl, rfl, SqL.of hp, atI_nat (j := 2) rfl, _, _, rfl, rfl, _, rfl, ite2 (fun c1 => ?_) (fun c1 => iteF ?_)⟩
    · refine ⟨_, rfl, p, _, 1, _, rfl, rfl, SqL.of hp, atI_nat (j := 1) rfl, _, rfl, p, _, 0, _, rfl, rfl, SqL.of hp, atI_nat (j := 0) rfl, l, _, rfl, .inl hl, _, _, rfl, rfl, _, rfl, ite2 (fun c2 => ?_) (fun c2 => ?_)⟩
      · have c2' : i < ((cs.map V.int).length : Int) := of_decide_eq_true c2
        rw [List.length_map] at c2'
        have g : atI (cs.map V.int) i = some (.int cs[i.toNat]) := by
          have e := atI_nat (xs := cs.map V.int) (j := i.toNat) (v := .int cs[i.toNat]) (by rw [List.getElem?_map, List.getElem?_eq_getElem (by omega)]; rfl)
          rw [show ((i.toNat : Nat) : Int) = i by omega] at e
          exact e
        generalize cs[i.toNat] = z at g
        refine ⟨_, rfl, p, _, 0, _, rfl, rfl, SqL.of hp, atI_nat (j := 0) rfl, _, rfl, p, _, 1, _, rfl, rfl, SqL.of hp, atI_nat (j := 1) rfl, l, _, i, .int z, rfl, rfl, hl, g, ?_⟩
        refine ⟨_, rfl, p, _, 1, _, rfl, rfl, SqL.of hp, atI_nat (j := 1) rfl, _, _, rfl, rfl, _, rfl, p, _, 1, 1, rfl, rfl, hp, rfl, ?_⟩
        refine ⟨_, rfl, _, rfl, p, _, 2, 2, rfl, rfl, upd_same, rfl, ?_⟩
        rw [upd_upd]
        refine ⟨_, rfl, _, _, rfl, rfl, _, rfl, ite2 (fun c3 => ?_) (fun c3 => ?_)⟩
        · refine ⟨_, rfl, z, rfl, fun n => ⟨_, rfl, p, _, 2, 2, rfl, rfl, upd_same, rfl, ?_⟩⟩
          rw [upd_upd]
          exact ⟨i + 1, n, some (.int z), none, none, rfl, rfl, by omega⟩
        · exact ⟨i + 1, z, some (.int z), none, none, rfl, rfl, by omega⟩
      · exact ⟨i, r, none, none, none, rfl, upd0.symm, hi⟩
    · exact ⟨i, r, none, none, none, rfl, upd0.symm, hi⟩
  · rintro σ H1 ⟨i, r, v2, v3, v4, rfl, rfl, hi⟩
    refine ⟨_, rfl, p, _, 3, _, rfl, rfl, SqL.of upd_same, atI_nat (j := 3) rfl, _, _, rfl, rfl, _, rfl, p, _, 3, 3, rfl, rfl, upd_same, rfl, ?_⟩
    rw [upd_upd]
    refine ⟨_, rfl, p, _, 2, _, rfl, rfl, SqL.of upd_same, atI_nat (j := 2) rfl, _, _, rfl, rfl, _, rfl, ite2 (fun c1 => ?_) (fun c1 => ?_)⟩
    · refine ⟨_, rfl, p, _, 4, _, rfl, rfl, SqL.of upd_same, atI_nat (j := 4) rfl, _, _, rfl, rfl, .inr ⟨by decide, by decide⟩, _, rfl, p, _, 3, _, rfl, rfl, SqL.of upd_same, atI_nat (j := 3) rfl, _, _, rfl, rfl, .inr ⟨by decide, by decide⟩, _, _, rfl, rfl, _, _, rfl, rfl, .inl ⟨_, rfl, _, _, rfl, rfl, (by show (0 : Int) < 2147483647; decide), ?_⟩⟩
      refine ⟨_, rfl, _, _, rfl, rfl, .inr ⟨by decide, by decide⟩, _, rfl, p, _, 3, _, rfl, rfl, SqL.of upd_same, atI_nat (j := 3) rfl, _, _, rfl, rfl, .inl ⟨_, rfl, _, _, rfl, rfl, (by show (0 : Int) < 2147483629; decide), ?_⟩⟩
      refine ⟨_, rfl, _, _, rfl, rfl, ⟨by decide, by decide⟩, _, rfl, _, _, rfl, rfl, m0, ?_⟩
      exact q _ _ (Int.emod_nonneg _ (by omega)) (Int.emod_lt_of_pos _ m0) Kp.upd (hP.turn hi)
    · refine ⟨_, rfl, p, _, 2, _, rfl, rfl, SqL.of upd_same, atI_nat (j := 2) rfl, .inl ⟨_, rfl, _, rfl, _, _, rfl, rfl, m0, ?_⟩⟩
      refine ⟨_, rfl, p, _, 2, _, rfl, rfl, SqL.of upd_same, atI_nat (j := 2) rfl, _, rfl, _, _, rfl, rfl, ⟨m0, m1⟩, _, rfl, p, _, 2, 2, rfl, rfl, upd_same, rfl, _, rfl, ?_⟩
      rw [upd_upd]
      exact q _ _ (Int.emod_nonneg _ (by omega)) (Int.emod_lt_of_pos _ m0) Kp.upd (hP.turn hi)

/-! ### the law's own comparison: of a thing with itself it says True -/
def spSame (K : PySem.W.Frag) (n : Nat) : Sp := fun vs H Q _ => ∃ (x y : V) (d : PyData), vs = [x, y] ∧ Dp K H x d ∧ Dp K H y d ∧ d.depth < n ∧ sml d ∧ Q (.bl true) H
theorem ok_law_same (T : Top K mg) : ∀ n : Nat, FnOk P w K mg base CX0 n T.f_law_same T.d_law_same ["actual", "due"] (spSame K n) := by
  intro n
  induction n with
  | zero =>
    refine fn_none fun vs H Q E h => ?_
    obtain ⟨x, y, d, _, _, _, h, _⟩ := h
    exact absurd h (Nat.not_lt_zero _)
  | succ n G_law_same =>
    refine T.F_law_same.ok sc_law_same (fun vs H Q E h => ?_) (fun cdv A outer s H vs Q E hr h => ?_)
    · obtain ⟨x, y, d, rfl, _⟩ := h
      rfl
    obtain ⟨x, y, d, rfl, hx, hy, hd, hm, q⟩ := h
    refine ⟨_, (pss_cons (ps_if (PW.pt (pw_or (pt_val (pe_callB call_isi (by rfl) T.z_isinstance (by decide +kernel) (pa_cons (pv 1) (pa_cons (pe_bltn (v := .ty "tuple") (by rfl) T.z_tuple (by decide +kernel) rfl) pa_nil)))) (pw_or1 (pt_val (pe_callB call_isi (by rfl) T.z_isinstance (by decide +kernel) (pa_cons (pv 1) (pa_cons (pe_bltn (v := .ty "list") (by rfl) T.z_list (by decide +kernel) rfl) pa_nil)))))))
      (pss_cons (ps_if (PW.pt (pw_or (pt_cmpR op_ne (pe_callB call_isi (by rfl) T.z_isinstance (by decide +kernel) (pa_cons (pv 1) (pa_cons (pe_bltn (v := .ty "tuple") (by rfl) T.z_tuple (by decide +kernel) rfl) pa_nil))) (pe_callB call_isi (by rfl) T.z_isinstance (by decide +kernel) (pa_cons (pv 0) (pa_cons (pe_bltn (v := .ty "tuple") (by rfl) T.z_tuple (by decide +kernel) rfl) pa_nil))) (nomark _)) (pw_or1 (pt_cmpR op_ne (pe_callB call_isi (by rfl) T.z_isinstance (by decide +kernel) (pa_cons (pv 1) (pa_cons (pe_bltn (v := .ty "list") (by rfl) T.z_list (by decide +kernel) rfl) pa_nil))) (pe_callB call_isi (by rfl) T.z_isinstance (by decide +kernel) (pa_cons (pv 0) (pa_cons (pe_bltn (v := .ty "list") (by rfl) T.z_list (by decide +kernel) rfl) pa_nil))) (nomark _)))))
      (pss_one (ps_ret pe_bl))
      pss_nil)
    (pss_cons (ps_if (pt_cmpR op_ne (pe_callB call_len_seq (by rfl) T.z_len PySem.boot_len (pa_cons (pv 0) pa_nil)) (pe_callB call_len_seq (by rfl) T.z_len PySem.boot_len (pa_cons (pv 1) pa_nil)) (nomark _))
      (pss_one (ps_ret pe_bl))
      pss_nil)
    (pss_cons (ps_for PassesOwn.never rfl (pi_range1 (by rfl) T.z_range (pa_cons (pe_callB call_len_seq (by rfl) T.z_len PySem.boot_len (pa_cons (pv 1) pa_nil)) pa_nil)) (pg_name (i := 2) sc_law_same.nd rfl (.inl rfl))
      (pss_one (ps_if (pt_not (pt_val (pe_call G_law_same (hr.mono (by omega)) (by rfl) T.m_law_same T.F_law_same.kp T.b_law_same .nil pass0 (pa_cons (pe_ix ix_seq (pv 0) (pv 2) (fun _ _ => rfl)) (pa_cons (pe_ix ix_seq (pv 1) (pv 2) (fun _ _ => rfl)) pa_nil)))))
      (pss_one (ps_ret pe_bl))
      pss_nil)))
    (pss_one (ps_ret pe_bl)))))
      pss_nil)
    (pss_cons (ps_if (pt_cmpR op_isN1 (pv 1) pe_non (nomark _))
      (pss_one (ps_ret (pe_cmpR op_isN1 (pv 0) pe_non (nomark _))))
      pss_nil)
    (pss_cons (ps_if (pt_val (pe_callB call_isi (by rfl) T.z_isinstance (by decide +kernel) (pa_cons (pv 1) (pa_cons (pe_bltn (v := .ty "bool") (by rfl) T.z_bool (by decide +kernel) rfl) pa_nil))))
      (pss_one (ps_ret (pe_and (pe_callB call_isi (by rfl) T.z_isinstance (by decide +kernel) (pa_cons (pv 0) (pa_cons (pe_bltn (v := .ty "bool") (by rfl) T.z_bool (by decide +kernel) rfl) pa_nil))) (pe_one (pe_cmpR op_eq (pv 0) (pv 1) (nomark _))))))
      pss_nil)
    (pss_cons (ps_if (pt_val (pe_callB call_isi (by rfl) T.z_isinstance (by decide +kernel) (pa_cons (pv 1) (pa_cons (pe_bltn (v := .ty "int") (by rfl) T.z_int (by decide +kernel) rfl) pa_nil))))
      (pss_one (ps_ret (pe_and (pe_callB call_isi (by rfl) T.z_isinstance (by decide +kernel) (pa_cons (pv 0) (pa_cons (pe_bltn (v := .ty "int") (by rfl) T.z_int (by decide +kernel) rfl) pa_nil))) (pe_and (pe_not (pe_callB call_isi (by rfl) T.z_isinstance (by decide +kernel) (pa_cons (pv 0) (pa_cons (pe_bltn (v := .ty "bool") (by rfl) T.z_bool (by decide +kernel) rfl) pa_nil)))) (pe_one (pe_cmpR op_eq (pv 0) (pv 1) (nomark _)))))))
      pss_nil)
    (pss_one (ps_ret (pe_and (pe_callB call_isi (by rfl) T.z_isinstance (by decide +kernel) (pa_cons (pv 0) (pa_cons (pe_bltn (v := .ty "str") (by rfl) T.z_str (by decide +kernel) rfl) pa_nil))) (pe_one (pe_cmpR op_eq (pv 0) (pv 1) (nomark _)))))))))), ?_⟩
    cases d with
    | none =>
      cases hx; cases hy
      have t : TyX K H .non (.type "NoneType") := .base .non
      refine ⟨_, rfl, _, _, _, _, _, rfl, .ty _, t, kB false (by decide +kernel), _, rfl, iteF ⟨_, rfl, _, _, _, _, _, rfl, .ty _, t, kB false (by decide +kernel), _, rfl, iteF ?_⟩⟩
      exact ⟨_, rfl, rfl, _, rfl, iteT ⟨_, rfl, rfl, q⟩⟩
    | bool b =>
      cases hx; cases hy
      have t : TyX K H (.bl b) (.type "bool") := .base (.bl b)
      refine ⟨_, rfl, _, _, _, _, _, rfl, .ty _, t, kB false (by decide +kernel), _, rfl, iteF ⟨_, rfl, _, _, _, _, _, rfl, .ty _, t, kB false (by decide +kernel), _, rfl, iteF ?_⟩⟩
      refine ⟨_, rfl, rfl, _, rfl, iteF ⟨_, rfl, _, _, _, _, _, rfl, .ty _, t, kB true (by decide +kernel), _, rfl, iteT ⟨_, rfl, _, _, _, _, _, rfl, .ty _, t, kB true (by decide +kernel), _, rfl, iteT ⟨_, rfl, _, rfl, rfl, ?_⟩⟩⟩⟩
      rw [decide_eq_true rfl]
      exact q
    | int i =>
      cases hx; cases hy
      have t : TyX K H (.int i) (.type "int") := .base (.int i)
      refine ⟨_, rfl, _, _, _, _, _, rfl, .ty _, t, kB false (by decide +kernel), _, rfl, iteF ⟨_, rfl, _, _, _, _, _, rfl, .ty _, t, kB false (by decide +kernel), _, rfl, iteF ?_⟩⟩
      refine ⟨_, rfl, rfl, _, rfl, iteF ⟨_, rfl, _, _, _, _, _, rfl, .ty _, t, kB false (by decide +kernel), _, rfl, iteF ⟨_, rfl, _, _, _, _, _, rfl, .ty _, t, kB true (by decide +kernel), _, rfl, iteT ?_⟩⟩⟩
      refine ⟨_, rfl, _, _, _, _, _, rfl, .ty _, t, kB true (by decide +kernel), _, rfl, iteT ⟨_, rfl, _, _, _, _, _, rfl, .ty _, t, kB false (by decide +kernel), _, rfl, _, rfl, iteT ⟨_, rfl, _, rfl, rfl, ?_⟩⟩⟩
      rw [decide_eq_true rfl]
      exact q
    | str z =>
      cases hx; cases hy
      have t : TyX K H (.str z) (.type "str") := .base (.str z)
      refine ⟨_, rfl, _, _, _, _, _, rfl, .ty _, t, kB false (by decide +kernel), _, rfl, iteF ⟨_, rfl, _, _, _, _, _, rfl, .ty _, t, kB false (by decide +kernel), _, rfl, iteF ?_⟩⟩
      refine ⟨_, rfl, rfl, _, rfl, iteF ⟨_, rfl, _, _, _, _, _, rfl, .ty _, t, kB false (by decide +kernel), _, rfl, iteF ⟨_, rfl, _, _, _, _, _, rfl, .ty _, t, kB false (by decide +kernel), _, rfl, iteF ?_⟩⟩⟩
      refine ⟨_, rfl, _, _, _, _, _, rfl, .ty _, t, kB true (by decide +kernel), _, rfl, iteT ⟨_, rfl, _, rfl, rfl, ?_⟩⟩
      rw [decide_eq_true rfl]
      exact q
    | dict kvs => cases hx
    | list ds =>
      cases hx with
      | @lst a xs _ h1 h2 =>
      cases hy with
      | @lst b ys _ h3 h4 =>
      have t1 := ty_list h1
      have t2 := ty_list h3
      have e1 := dpAll_len h2
      have e2 := dpAll_len h4
      have hd' : PyData.depthAll ds < n := by
        rw [PyData.depth] at hd
        omega
      rw [sml] at hm
      have hz : (ys.length : Int) < 2 ^ 62 := by
        have := hm.1
        omega
      refine ⟨_, rfl, _, _, _, _, _, rfl, .ty _, t2, kB false (by decide +kernel), _, rfl, iteF ⟨_, rfl, _, _, _, _, _, rfl, .ty _, t2, kB true (by decide +kernel), _, rfl, iteT ?_⟩⟩
      refine ⟨_, rfl, _, _, _, _, _, rfl, .ty _, t2, kB false (by decide +kernel), _, rfl, _, _, _, _, _, rfl, .ty _, t1, kB false (by decide +kernel), rfl, _, rfl, iteF ?_⟩
      refine ⟨_, rfl, _, _, _, _, _, rfl, .ty _, t2, kB true (by decide +kernel), _, rfl, _, _, _, _, _, rfl, .ty _, t1, kB true (by decide +kernel), rfl, _, rfl, iteF ?_⟩
      refine ⟨_, rfl, a, xs, rfl, .inl h1, _, rfl, b, ys, rfl, .inl h3, rfl, _, rfl, iteNS (by rw [e1, e2]) ?_⟩
      refine ⟨_, rfl, b, ys, rfl, .inl h3, _, rfl, (by omega), hz, for_range (n := (ys.length : Int).toNat) (fun i σ H2 => ∃ v : Option V, σ = [some (.ref a), some (.ref b), v] ∧ H2 = H) ⟨none, rfl, rfl⟩ ?_ ?_⟩
      · rintro i σ H2 hi ⟨v, rfl, rfl⟩
        have hi' : i < ds.length := by omega
        have g := List.getElem?_eq_getElem hi'
        generalize ds[i] = d at g
        obtain ⟨v1, g1, p1⟩ := dpAll_get h2 g
        obtain ⟨v2, g2, p2⟩ := dpAll_get h4 g
        have ei : (0 : Int) + (i : Nat) = ((i : Nat) : Int) := by omega
        have a1 : atI xs (0 + (i : Int)) = some v1 := by rw [ei]; exact atI_nat g1
        have a2 : atI ys (0 + (i : Int)) = some v2 := by rw [ei]; exact atI_nat g2
        refine ⟨_, rfl, _, rfl, .inl ⟨a, xs, _, v1, rfl, rfl, h1, a1, _, rfl, _, rfl, .inl ⟨b, ys, _, v2, rfl, rfl, h3, a2, v1, v2, d, rfl, p1, p2, Nat.lt_of_le_of_lt (depth_mem g) hd', sml_mem hm.2 g, ?_⟩⟩⟩
        exact ⟨_, rfl, iteF ⟨_, rfl, rfl⟩⟩
      · rintro σ H2 ⟨v, rfl, rfl⟩
        exact q
    | tuple ds =>
      cases hx with
      | @tup a xs _ h1 h2 =>
      cases hy with
      | @tup b ys _ h3 h4 =>
      have t1 := ty_tup h1
      have t2 := ty_tup h3
      have e1 := dpAll_len h2
      have e2 := dpAll_len h4
      have hd' : PyData.depthAll ds < n := by
        rw [PyData.depth] at hd
        omega
      rw [sml] at hm
      have hz : (ys.length : Int) < 2 ^ 62 := by
        have := hm.1
        omega
      refine ⟨_, rfl, _, _, _, _, _, rfl, .ty _, t2, kB true (by decide +kernel), _, rfl, iteT (iteT ?_)⟩
      refine ⟨_, rfl, _, _, _, _, _, rfl, .ty _, t2, kB true (by decide +kernel), _, rfl, _, _, _, _, _, rfl, .ty _, t1, kB true (by decide +kernel), rfl, _, rfl, iteF ?_⟩
      refine ⟨_, rfl, _, _, _, _, _, rfl, .ty _, t2, kB false (by decide +kernel), _, rfl, _, _, _, _, _, rfl, .ty _, t1, kB false (by decide +kernel), rfl, _, rfl, iteF ?_⟩
      refine ⟨_, rfl, a, xs, rfl, .inr h1, _, rfl, b, ys, rfl, .inr h3, rfl, _, rfl, iteNS (by rw [e1, e2]) ?_⟩
      refine ⟨_, rfl, b, ys, rfl, .inr h3, _, rfl, (by omega), hz, for_range (n := (ys.length : Int).toNat) (fun i σ H2 => ∃ v : Option V, σ = [some (.ref a), some (.ref b), v] ∧ H2 = H) ⟨none, rfl, rfl⟩ ?_ ?_⟩
      · rintro i σ H2 hi ⟨v, rfl, rfl⟩
        have hi' : i < ds.length := by omega
        have g := List.getElem?_eq_getElem hi'
        generalize ds[i] = d at g
        obtain ⟨v1, g1, p1⟩ := dpAll_get h2 g
        obtain ⟨v2, g2, p2⟩ := dpAll_get h4 g
        have ei : (0 : Int) + (i : Nat) = ((i : Nat) : Int) := by omega
        have a1 : atI xs (0 + (i : Int)) = some v1 := by rw [ei]; exact atI_nat g1
        have a2 : atI ys (0 + (i : Int)) = some v2 := by rw [ei]; exact atI_nat g2
        refine ⟨_, rfl, _, rfl, .inr (.inl ⟨a, xs, _, v1, rfl, rfl, h1, a1, _, rfl, _, rfl, .inr (.inl ⟨b, ys, _, v2, rfl, rfl, h3, a2, v1, v2, d, rfl, p1, p2, Nat.lt_of_le_of_lt (depth_mem g) hd', sml_mem hm.2 g, ?_⟩)⟩)⟩
        exact ⟨_, rfl, iteF ⟨_, rfl, rfl⟩⟩
      · rintro σ H2 ⟨v, rfl, rfl⟩
        exact q

/-! ### drawn formulas -/
def spFormula (K : PySem.W.Frag) (n : Nat) : Sp := fun vs H Q _ => ∃ (q : Addr) (dep : Int) (pl : Bool) (ns : List Int), vs = [.ref q, .int dep, .bl pl] ∧ H q = some (.lst (ns.map V.int)) ∧ 0 ≤ dep ∧ dep < n ∧
  ∀ (v : V) (f : Fm) (H' : Hp) (ms : List Int), Kp q H H' → H' q = some (.lst (ms.map V.int)) → Im K H' v f.d → f.ht ≤ dep.toNat + 1 → f.over nms = true → (pl = true → f.plain = true) → Q v H'
theorem ok_law_formula (T : Top K mg) : ∀ n : Nat, FnOk P w K mg base CX0 n T.f_law_formula T.d_law_formula ["pool", "depth", "plain"] (spFormula K n) := by
  intro n
  induction n with
  | zero =>
    refine fn_none fun vs H Q E h => ?_
    obtain ⟨q, dep, pl, ns, _, _, h0, h1, _⟩ := h
    exact absurd h1 (by omega)
  | succ n G_law_formula =>
    refine T.F_law_formula.ok sc_law_formula (fun vs H Q E h => ?_) (fun cdv A outer s H vs Q E hr h => ?_)
    · obtain ⟨q, dep, pl, ns, rfl, _⟩ := h
      rfl
    obtain ⟨q, dep, pl, ns, rfl, hq, h0, h1, k⟩ := h
    have hu64 := hr.units
    refine ⟨_, (pss_cons (ps_set (i := 3) sc_law_formula.nd rfl (.inl rfl) pe_int)
    (C8.pss_cut (ps_if (pt_cmpR (op_neD hu64) (pv 0) (pe_lst pa_nil) (nomark _))
      (pss_one (ps_set (i := 3) sc_law_formula.nd rfl (.inl rfl) (pe_callTy call_int1 (by rfl) T.z_int (by decide +kernel) (pa_cons (pe_bm PySem.F.plainAttrs_list PySem.F.slot_list_pop PySem.F.type_list_pop mt_popAt (pv 0) (pa_cons pe_int pa_nil)) pa_nil))))
      pss_nil)
    (pss_cons (ps_set (i := 4) sc_law_formula.nd rfl (.inl rfl) (pe_op op_mod (pv 3) pe_int))
    (pss_cons (ps_if (PW.pt (pw_or (pt_cmpR op_eq (pv 1) pe_int (nomark _)) (pw_or1 (pt_cmpR op_lt (pv 4) pe_int (nomark _)))))
      (pss_cons (ps_if (pt_cmpR op_eq (pe_op op_mod (pe_op op_fdiv (pv 3) pe_int) pe_int) pe_int (nomark _))
      (pss_one (ps_ret (pe_tup (pa_cons pe_str pa_nil))))
      pss_nil)
    (pss_one (ps_ret (pe_tup (pa_cons pe_str (pa_cons (pe_ix ix_list (pe_lst (pa_cons pe_str (pa_cons pe_str (pa_cons pe_str (pa_cons pe_str (pa_cons pe_str pa_nil)))))) (pe_op op_mod (pe_op op_fdiv (pv 3) pe_int) pe_int) (fun _ _ => rfl)) pa_nil))))))
      pss_nil)
    (pss_cons (ps_if (PW.pt (pw_or (pt_cmpR op_eq (pv 4) pe_int (nomark _)) (pw_or1 (PW.pt (pw_and (pt_cmpR op_in_seq (pv 4) (pe_tup (pa_cons pe_int (pa_cons pe_int pa_nil))) rfl) (pw_and1 (pt_val (pv 2))))))))
      (pss_one (ps_ret (pe_tup (pa_cons pe_str (pa_cons (pe_call G_law_formula (hr.mono (by omega)) (by rfl) T.m_law_formula T.F_law_formula.kp T.b_law_formula .nil pass0 (pa_cons (pv 0) (pa_cons (pe_op op_sub (pv 1) pe_int) (pa_cons (pv 2) pa_nil)))) (pa_cons (pe_tup (pa_cons pe_str pa_nil)) pa_nil))))))
      pss_nil)
    (pss_cons (ps_if (pt_cmpR op_in_seq (pv 4) (pe_tup (pa_cons pe_int (pa_cons pe_int pa_nil))) rfl)
      (pss_one (ps_ret (pe_tup (pa_cons pe_str (pa_cons (pe_call G_law_formula (hr.mono (by omega)) (by rfl) T.m_law_formula T.F_law_formula.kp T.b_law_formula .nil pass0 (pa_cons (pv 0) (pa_cons (pe_op op_sub (pv 1) pe_int) (pa_cons (pv 2) pa_nil)))) pa_nil)))))
      pss_nil)
    (pss_cons (ps_set (i := 5) sc_law_formula.nd rfl (.inl rfl) (pe_call G_law_formula (hr.mono (by omega)) (by rfl) T.m_law_formula T.F_law_formula.kp T.b_law_formula .nil pass0 (pa_cons (pv 0) (pa_cons (pe_op op_sub (pv 1) pe_int) (pa_cons (pv 2) pa_nil)))))
    (pss_one (ps_ret (pe_tup (pa_cons (pe_ix ix_list (pe_lst (pa_cons pe_str (pa_cons pe_str (pa_cons pe_str (pa_cons pe_str (pa_cons pe_str pa_nil)))))) (pe_op op_sub (pv 4) pe_int) (fun _ _ => rfl)) (pa_cons (pv 5) (pa_cons (pe_call G_law_formula (hr.mono (by omega)) (by rfl) T.m_law_formula T.F_law_formula.kp T.b_law_formula .nil pass0 (pa_cons (pv 0) (pa_cons (pe_op op_sub (pv 1) pe_int) (pa_cons (pv 2) pa_nil)))) pa_nil))))))))))))), ?_⟩
    refine ⟨fun σ H1 => ∃ (z : Int) (ms : List Int), σ = [some (.ref q), some (.int dep), some (.bl pl), some (.int z), none, none] ∧ H1 q = some (.lst (ms.map V.int)) ∧ Kp q H H1, ?_, ?_⟩
    · refine ⟨_, rfl, (by show 0 ≤ sizeLine; decide), fun e ne => ?_⟩
      have s1 := same_new (o := .lst []) ne
      refine ⟨_, _, .lst (SqL.of (s1 _ _ hq)) (dp_ints ns), .lst (SqL.of upd_same) .nil, shaped_ints ns, rfl, _, rfl, ?_⟩
      rw [eqv_nil]
      cases ns with
      | nil => exact ⟨0, [], rfl, s1 _ _ hq, Same.kp s1⟩
      | cons z ns =>
        refine iteT ⟨_, rfl, .inl ⟨rfl, _, .inl (.inl (s1 _ _ hq))⟩, q, _, 0, 0, .int z, rfl, rfl, s1 _ _ hq, by decide, by decide, seqIndex_of (by decide) (by rw [List.map_cons, List.length_cons]; omega), rfl, .inl ⟨_, rfl, ?_⟩⟩
        exact ⟨z, ns, rfl, upd_same, Kp.trans (Same.kp s1) Kp.upd⟩
    · rintro σ H1 ⟨z, ms, rfl, hq1, k1⟩
      refine ⟨_, rfl, _, _, rfl, rfl, (by show (0 : Int) < 10; decide), ?_⟩
      have kd0 : 0 ≤ z % 10 := Int.emod_nonneg _ (by decide)
      have kd1 : z % 10 < 10 := Int.emod_lt_of_pos _ (by decide)
      dsimp only [gName, tSeq, tIfS, List.set]
      refine ans_or2 (b1 := decide (V.int dep = V.int 0)) (b2 := decide (z % 10 < 2)) (fun Q q => ⟨_, rfl, rfl, _, rfl, q⟩) (fun Q q => ⟨_, rfl, _, _, rfl, rfl, _, rfl, q⟩) _ ?_
      refine ite2 (fun c1 => ?_) (fun c1 => ?_)
      -- a leaf
      · refine ⟨_, rfl, _, _, rfl, rfl, ⟨by decide, by decide⟩, _, _, rfl, rfl, (by show (0 : Int) < 8; decide), rfl, _, rfl, ite2 (fun _ => ?_) (fun _ => ?_)⟩
        · refine ⟨(by show 1 ≤ sizeLine; decide), fun p np => ?_⟩
          have s2 := same_new (o := .tup [.str "falsum"]) np
          exact k _ .fal _ ms (k1.trans (Same.kp s2)) (s2 _ _ hq1) (im_fal upd_same) (Nat.le_add_left _ _) rfl fun _ => rfl
        · refine ⟨(by show 5 ≤ sizeLine; decide), fun a na => ?_⟩
          have s2 := same_new (o := .lst [.str "p", .str "q", .str "p", .str "q", .str "r"]) na
          obtain ⟨v, hv, hm⟩ := atI_mem (xs := [V.str "p", V.str "q", V.str "p", V.str "q", V.str "r"]) (i := z / 80 % 5) (Int.emod_nonneg _ (by decide)) (Int.emod_lt_of_pos _ (by decide))
          obtain ⟨y, rfl, hy⟩ : ∃ y : Str, v = .str y ∧ y ∈ nms := by
            simp only [List.mem_cons, List.not_mem_nil, or_false] at hm
            rcases hm with rfl | rfl | rfl | rfl | rfl
            all_goals exact ⟨_, rfl, by decide⟩
          refine ⟨_, rfl, _, _, rfl, rfl, ⟨by decide, by decide⟩, _, _, rfl, rfl, (by show (0 : Int) < 5; decide), a, _, _, _, rfl, rfl, SqL.of upd_same, hv, (by show 2 ≤ sizeLine; decide), fun p np => ?_⟩
          have s3 := s2.trans (same_new (o := .tup [.str "var", .str y]) np)
          exact k _ (.var y) _ ms (k1.trans (Same.kp s3)) (s3 _ _ hq1) (im_var upd_same) (Nat.le_add_left _ _) (decide_eq_true hy) fun _ => rfl
      · rw [Bool.or_eq_true, not_or] at c1
        have d0 : dep ≠ 0 := vintF c1.1
        have hk2 : 2 ≤ z % 10 := by
          have := of_decide_eq_false (Bool.eq_false_iff.mpr c1.2)
          omega
        have hd' : (dep - 1).toNat + 1 ≤ dep.toNat := by omega
        have negc : ∀ H2, Kp q H H2 → H2 q = some (.lst (ms.map V.int)) → True := fun _ _ _ => trivial
        by_cases e2 : z % 10 = 2
        -- a negation
        · refine ⟨_, rfl, rfl, _, rfl, iteD (congrArg V.int e2) (iteT ?_)⟩
          refine ⟨_, rfl, _, rfl, _, _, rfl, rfl, _, rfl, q, dep - 1, pl, ms, rfl, hq1, by omega, by omega, fun v f H3 ms3 k3 hq3 im3 hf3 ov3 pl3 => ?_⟩
          refine ⟨(by show 1 ≤ sizeLine; decide), fun a na => ⟨(by show 3 ≤ sizeLine; decide), fun p np => ?_⟩⟩
          have s4 := same_new (o := .tup [.str "falsum"]) na
          have s5 := same_new (o := .tup [.str "implies", v, .ref a]) np
          exact k _ (.imp f .fal) _ ms3 ((k1.trans k3).trans (Same.kp (s4.trans s5))) (s5 _ _ (s4 _ _ hq3)) (im_imp upd_same (im3.mono (Same.ts (s4.trans s5))) (im_fal (s5 _ _ upd_same)))
            (by show max f.ht 1 + 1 ≤ _; omega) (by show (f.over nms && true) = true; rw [ov3]; rfl) (fun e => by show (f.plain && true) = true; rw [pl3 e]; rfl)
        · refine ⟨_, rfl, rfl, _, rfl, iteDF (vne e2) ?_⟩
          by_cases e34 : z % 10 = 3 ∨ z % 10 = 4
          · refine ⟨_, rfl, (by show 2 ≤ sizeLine; decide), fun t nt => ⟨t, _, rfl, .inr (SqT.of upd_same), rfl, rfl, true, in34y e34, iteT ⟨_, rfl, _, rfl, ?_⟩⟩⟩
            have s2 := same_new (o := .tup [.int 3, .int 4]) nt
            cases pl with
            -- a negation in place of a box
            | true =>
              refine iteT ?_
              refine ⟨_, rfl, _, rfl, _, _, rfl, rfl, _, rfl, q, dep - 1, true, ms, rfl, s2 _ _ hq1, by omega, by omega, fun v f H3 ms3 k3 hq3 im3 hf3 ov3 pl3 => ?_⟩
              refine ⟨(by show 1 ≤ sizeLine; decide), fun a na => ⟨(by show 3 ≤ sizeLine; decide), fun p np => ?_⟩⟩
              have s4 := same_new (o := .tup [.str "falsum"]) na
              have s5 := same_new (o := .tup [.str "implies", v, .ref a]) np
              exact k _ (.imp f .fal) _ ms3 (((k1.trans (Same.kp s2)).trans k3).trans (Same.kp (s4.trans s5))) (s5 _ _ (s4 _ _ hq3)) (im_imp upd_same (im3.mono (Same.ts (s4.trans s5))) (im_fal (s5 _ _ upd_same)))
                (by show max f.ht 1 + 1 ≤ _; omega) (by show (f.over nms && true) = true; rw [ov3]; rfl) (fun e => by show (f.plain && true) = true; rw [pl3 e]; rfl)
            -- a box
            | false =>
              refine iteF ?_
              refine ⟨_, rfl, (by show 2 ≤ sizeLine; decide), fun t2 nt2 => ⟨t2, _, rfl, .inr (SqT.of upd_same), rfl, rfl, true, in34y e34, iteT ?_⟩⟩
              have s3 := s2.trans (same_new (o := .tup [.int 3, .int 4]) nt2)
              refine ⟨_, rfl, _, rfl, _, _, rfl, rfl, _, rfl, q, dep - 1, false, ms, rfl, s3 _ _ hq1, by omega, by omega, fun v f H3 ms3 k3 hq3 im3 hf3 ov3 pl3 => ?_⟩
              refine ⟨(by show 2 ≤ sizeLine; decide), fun p np => ?_⟩
              have s5 := same_new (o := .tup [.str "box", v]) np
              exact k _ (.box f) _ ms3 (((k1.trans (Same.kp s3)).trans k3).trans (Same.kp s5)) (s5 _ _ hq3) (im_box upd_same (im3.mono (Same.ts s5)))
                (by show f.ht + 1 ≤ _; omega) ov3 (fun e => nomatch e)
          -- two parts
          · refine ⟨_, rfl, (by show 2 ≤ sizeLine; decide), fun t nt => ⟨t, _, rfl, .inr (SqT.of upd_same), rfl, rfl, false, in34n e34, iteF (iteF ?_)⟩⟩
            have s2 := same_new (o := .tup [.int 3, .int 4]) nt
            refine ⟨_, rfl, (by show 2 ≤ sizeLine; decide), fun t2 nt2 => ⟨t2, _, rfl, .inr (SqT.of upd_same), rfl, rfl, false, in34n e34, iteF ?_⟩⟩
            have s3 := s2.trans (same_new (o := .tup [.int 3, .int 4]) nt2)
            refine ⟨_, rfl, _, rfl, _, _, rfl, rfl, _, rfl, q, dep - 1, pl, ms, rfl, s3 _ _ hq1, by omega, by omega, fun v f H3 ms3 k3 hq3 im3 hf3 ov3 pl3 => ?_⟩
            refine ⟨(by show 5 ≤ sizeLine; decide), fun a na => ?_⟩
            have s4 := same_new (o := .lst [.str "and", .str "or", .str "implies", .str "implies", .str "or"]) na
            obtain ⟨op, hv, hm⟩ := atI_mem (xs := [V.str "and", V.str "or", V.str "implies", V.str "implies", V.str "or"]) (i := z % 10 - 5) (by omega) (by show z % 10 - 5 < 5; omega)
            refine ⟨_, rfl, _, _, rfl, rfl, a, _, _, op, rfl, rfl, SqL.of upd_same, hv, _, rfl, ?_⟩
            refine ⟨_, rfl, _, rfl, _, _, rfl, rfl, _, rfl, q, dep - 1, pl, ms3, rfl, s4 _ _ hq3, by omega, by omega, fun u g H5 ms5 k5 hq5 im5 hf5 ov5 pl5 => ?_⟩
            refine ⟨(by show 3 ≤ sizeLine; decide), fun p np => ?_⟩
            have s6 := same_new (o := .tup [op, v, u]) np
            have kk := ((((k1.trans (Same.kp s3)).trans k3).trans (Same.kp s4)).trans k5).trans (Same.kp s6)
            have im3' := ((im3.mono (Same.ts s4)).mono (k5.ts (s4 _ _ hq3))).mono (Same.ts s6)
            have im5' := im5.mono (Same.ts s6)
            have hh : max f.ht g.ht + 1 ≤ dep.toNat + 1 := by omega
            have ho : (f.over nms && g.over nms) = true := by rw [ov3, ov5]; rfl
            have hp : pl = true → (f.plain && g.plain) = true := fun e => by rw [pl3 e, pl5 e]; rfl
            simp only [List.mem_cons, List.not_mem_nil, or_false] at hm
            rcases hm with rfl | rfl | rfl | rfl | rfl
            · exact k _ (.and f g) _ ms5 kk (s6 _ _ hq5) (im_and upd_same im3' im5') hh ho hp
            · exact k _ (.or f g) _ ms5 kk (s6 _ _ hq5) (im_or upd_same im3' im5') hh ho hp
            · exact k _ (.imp f g) _ ms5 kk (s6 _ _ hq5) (im_imp upd_same im3' im5') hh ho hp
            · exact k _ (.imp f g) _ ms5 kk (s6 _ _ hq5) (im_imp upd_same im3' im5') hh ho hp
            · exact k _ (.or f g) _ ms5 kk (s6 _ _ hq5) (im_or upd_same im3' im5') hh ho hp
def spList (K : PySem.W.Frag) : Sp := fun vs H Q _ => ∃ (p l : Addr) (m : Int), vs = [.ref p, .int m] ∧ Pl K H p l ∧ 0 ≤ m ∧ m ≤ 1000 ∧
  ∀ (q : Addr) (ns : List Int) (H' : Hp), H q = none → Kp p H H' → Pl K H' p l → H' q = some (.lst (ns.map V.int)) → (ns.length : Int) = m → Q (.ref q) H'
theorem ok_law_list (T : Top K mg) : FnOk P w K mg base CX0 3 T.f_law_list T.d_law_list ["pool", "many"] (spList K) := by
  have G_law_draw : FnOk P w K mg base CX0 2 T.f_law_draw T.d_law_draw ["pool", "many"] (spDraw K) := ok_law_draw T
  refine T.F_law_list.ok sc_law_list (fun vs H Q E h => ?_) (fun cdv A outer s H vs Q E hr h => ?_)
  · obtain ⟨p, l, m, rfl, _⟩ := h
    rfl
  obtain ⟨p, l, m, rfl, hP, m0, m1, k⟩ := h
  refine ⟨_, (pss_one (ps_ret (pe_lc (own := [("k", 2)]) (g := gName 2) (tt := tYes) rfl sc_law_list.nd (pi_range1 (by rfl) T.z_range (pa_cons (pv 1) pa_nil)) (blkOk_by (N := ["pool", "many", "k"]) (sc := defScope s_law_list) (by decide +kernel)) (fun _ _ _ _ _ => pg_name (i := 2) sc_law_list.nd rfl (Or.inl rfl)) (fun _ _ _ _ _ => pts_nil) (fun _ _ _ _ _ => (pe_call G_law_draw (hr.mono (by omega)) (by rfl) T.m_law_draw T.F_law_draw.kp T.b_law_draw .nil pass0 (pa_cons (pv 0) (pa_cons pe_int pa_nil))))))), ?_⟩
  refine ⟨_, rfl, m, rfl, by omega, by omega, fun D nD => ?_⟩
  obtain ⟨xs0, hp0⟩ := hP.lst
  have nDp : D ≠ p := (ne_of_none hp0 nD).symm
  refine lc_range (n := m.toNat) (fun i H2 => ∃ ns : List Int, Kp p H H2 ∧ Pl K H2 p l ∧ H2 D = some (.lst (ns.map V.int)) ∧ ns.length = i) ⟨[], Same.kp (same_new nD), hP.same (same_new nD), upd_same, rfl⟩ ?_ ?_
  · rintro i H2 hi ⟨ns, k2, hP2, hD2, hl⟩
    refine ⟨rfl, _, rfl, p, l, 4096, rfl, hP2, by decide, by decide, fun r H3 r0 r1 k3 hP3 => ?_⟩
    have hD3 := k3 _ _ hD2 nDp
    refine ⟨_, hD3, (by rw [List.length_map]; exact small1000 (by omega)), ns ++ [r], (k2.trans k3).under nD Kp.upd, hP.other nD hP3 Kp.upd, ?_, by rw [List.length_append, hl]; rfl⟩
    rw [upd_same, List.map_append]
    rfl
  · rintro H2 ⟨ns, k2, hP2, hD2, hl⟩
    exact k D ns H2 nD k2 hP2 hD2 (by omega)
/-- a formula that the pool gives -/
def spSome (K : PySem.W.Frag) (n : Nat) : Sp := fun vs H Q _ => ∃ (p l : Addr) (dep : Int) (pl : Bool), vs = [.ref p, .int dep, .bl pl] ∧ Pl K H p l ∧ 0 ≤ dep ∧ dep < n ∧
  ∀ (v : V) (f : Fm) (H' : Hp), Kp p H H' → Pl K H' p l → Im K H' v f.d → f.ht ≤ dep.toNat + 1 → f.over nms = true → (pl = true → f.plain = true) → Q v H'
theorem ok_law_some (T : Top K mg) (n : Nat) (hn : 3 ≤ n) : FnOk P w K mg base CX0 (n + 1) T.f_law_some T.d_law_some ["pool", "depth", "plain"] (spSome K n) := by
  have G_law_list : FnOk P w K mg base CX0 3 T.f_law_list T.d_law_list ["pool", "many"] (spList K) := ok_law_list T
  have G_law_formula : FnOk P w K mg base CX0 n T.f_law_formula T.d_law_formula ["pool", "depth", "plain"] (spFormula K n) := ok_law_formula T n
  refine T.F_law_some.ok sc_law_some (fun vs H Q E h => ?_) (fun cdv A outer s H vs Q E hr h => ?_)
  · obtain ⟨p, l, dep, pl, rfl, _⟩ := h
    rfl
  obtain ⟨p, l, dep, pl, rfl, hP, d0, d1, k⟩ := h
  refine ⟨_, (pss_one (ps_ret (pe_call G_law_formula (hr.mono (by omega)) (by rfl) T.m_law_formula T.F_law_formula.kp T.b_law_formula .nil pass0 (pa_cons (pe_call G_law_list (hr.mono (by omega)) (by rfl) T.m_law_list T.F_law_list.kp T.b_law_list .nil pass0 (pa_cons (pv 0) (pa_cons pe_int pa_nil))) (pa_cons (pv 1) (pa_cons (pv 2) pa_nil)))))), ?_⟩
  refine ⟨_, rfl, p, l, 40, rfl, hP, by decide, by decide, fun q ns H2 nq k2 hP2 hq2 hl => ?_⟩
  refine ⟨_, rfl, _, rfl, q, dep, pl, ns, rfl, hq2, d0, d1, fun v f H3 ms k3 hq3 im hf ov pn => ?_⟩
  exact k v f H3 (k2.under nq k3) (hP.other nq hP2 k3) im hf ov pn

/-- us are the values of bs, one by one -/
def Rs (R : Hp → V → Fm → Prop) (H : Hp) (us : List V) (bs : List Fm) : Prop := us.length = bs.length ∧ ∀ (i : Nat) (v : V) (b : Fm), us[i]? = some v → bs[i]? = some b → R H v b
theorem Rs.mono {R : Hp → V → Fm → Prop} (m : ∀ H H' v b, TZ H H' → R H v b → R H' v b) {H H' : Hp} {us : List V} {bs : List Fm} (h : Rs R H us bs) (t : TZ H H') : Rs R H' us bs := ⟨h.1, fun i v b h1 h2 => m _ _ _ _ t (h.2 i v b h1 h2)⟩
theorem Rs.snoc {R : Hp → V → Fm → Prop} {H : Hp} {us : List V} {bs : List Fm} {v : V} {b : Fm} (h : Rs R H us bs) (r : R H v b) : Rs R H (us ++ [v]) (bs ++ [b]) := by
  refine ⟨by rw [List.length_append, List.length_append, h.1]; rfl, fun i x c h1 h2 => ?_⟩
  by_cases hi : i < us.length
  · rw [List.getElem?_append_left hi] at h1
    rw [List.getElem?_append_left (by rw [← h.1]; exact hi)] at h2
    exact h.2 i x c h1 h2
  · rw [List.getElem?_append_right (by omega)] at h1
    rw [List.getElem?_append_right (by rw [← h.1]; omega)] at h2
    rw [← h.1] at h2
    have e : i - us.length = 0 := by
      have := (List.getElem?_eq_some_iff.mp h1).1
      simp at this
      omega
    rw [e] at h1 h2
    cases h1
    cases h2
    exact r
theorem im_var_at {K : PySem.W.Frag} {H : Hp} {a : Addr} {n : Str} (h : Im K H (.ref a) (Fm.var n).d) : H a = some (.tup [.str "var", .str n]) := by
  cases h with
  | tup h1 h2 tr =>
    have t := tr n rfl
    cases h2 with
    | cons h3 h4 =>
      cases h3
      cases h4 with
      | cons h5 h6 =>
        cases h5
        cases h6
        exact t
theorem sum_one : ∀ (ls : List (List Fm)) (l : List Fm), l ∈ ls → l.length ≤ (ls.map List.length).sum
  | x :: ls, l, h => by
    rw [List.map_cons, List.sum_cons]
    rcases List.mem_cons.mp h with e | h
    · rw [e]
      omega
    · have := sum_one ls l h
      omega
theorem sql_keep {K : PySem.W.Frag} {H H' : Hp} {B vl dn : Addr} {ys : List V} (h : SqL K H B ys) (hy : ys ≠ []) (hv : H vl = some (.lst [])) (hd : ∃ kvs, H dn = some (.dT kvs)) (k : ∀ b o, H b = some o → b ≠ dn → b ≠ vl → H' b = some o) : SqL K H' B ys := by
  obtain ⟨kvs, hd⟩ := hd
  rcases h with h | h
  · have n1 : B ≠ dn := fun e => by
      subst e
      rcases h with r | ⟨o, r⟩
      · rw [hd] at r; cases r
      · rw [hd] at r; cases r
    have n2 : B ≠ vl := fun e => by
      subst e
      rcases h with r | ⟨o, r⟩
      · rw [hv] at r
        cases r
        exact hy rfl
      · rw [hv] at r; cases r
    rcases h with r | ⟨o, r⟩
    · exact .inl (.inl (k _ _ r n1 n2))
    · exact .inl (.inr ⟨o, k _ _ r n1 n2⟩)
  · exact .inr h
theorem sql_ne {K : PySem.W.Frag} {H H' : Hp} {B vl dn : Addr} {ys : List V} (h : SqL K H B ys) (hn : B ≠ vl) (hd : ∃ kvs, H dn = some (.dT kvs)) (k : ∀ b o, H b = some o → b ≠ dn → b ≠ vl → H' b = some o) : SqL K H' B ys := by
  obtain ⟨kvs, hd⟩ := hd
  rcases h with h | h
  · have n1 : B ≠ dn := fun e => by
      subst e
      rcases h with r | ⟨o, r⟩
      · rw [hd] at r; cases r
      · rw [hd] at r; cases r
    rcases h with r | ⟨o, r⟩
    · exact .inl (.inl (k _ _ r n1 hn))
    · exact .inl (.inr ⟨o, k _ _ r n1 hn⟩)
  · exact .inr h
theorem tz_two {H H' : Hp} {dn vl : Addr} {kvs : List (List Key × V)} {us : List V} (hd : H dn = some (.dT kvs)) (hv : H vl = some (.lst us)) (k : ∀ b o, H b = some o → b ≠ dn → b ≠ vl → H' b = some o) : TZ H H' := by
  have n : ∀ b o, H b = some o → (∀ kvs, o ≠ .dT kvs) → (∀ us, o ≠ .lst us) → H' b = some o := fun b o e n1 n2 => k _ _ e (fun z => by rw [z, hd] at e; exact n1 _ (Option.some.inj e).symm) (fun z => by rw [z, hv] at e; exact n2 _ (Option.some.inj e).symm)
  refine ⟨⟨fun b xs r => ?_, fun b xs r => n _ _ r (fun _ z => nomatch z) (fun _ z => nomatch z)⟩, fun b o u r => n _ _ r (fun _ z => nomatch z) (fun _ z => nomatch z)⟩
  rcases r with r | ⟨o, r⟩
  · exact .inl (n _ _ r (fun _ z => nomatch z) (fun _ z => nomatch z))
  · exact .inr ⟨o, n _ _ r (fun _ z => nomatch z) (fun _ z => nomatch z)⟩
/-- what folded asks of its two arguments: a formula, and what tells the value of a formula from those of its parts -/
def spFolded (P : Program) (w : World) (K : PySem.W.Frag) (mg : Str → Option Value) (base : Heap) : Sp := fun vs H Q _ => ∃ (x : V) (g : Addr) (f : Fm) (sp : Sp) (R : Hp → V → Fm → Prop) (n : Nat), vs = [x, .ref g] ∧ Im K H x f.d ∧ (∀ b ∈ f.subs, Ok1 b) ∧ f.ht ≤ n ∧ f.sz ≤ 100000 ∧ CalC P w K mg base 4 g sp H ∧
  (∀ H H' v b, TZ H H' → R H v b → R H' v b) ∧
  (∀ (b : Fm) (H1 : Hp) (y : V) (l : Addr) (us : List V) (Q1 : VK), b ∈ f.subs → L2.Same H H1 → Im K H1 y b.d → H1 l = some (.lst us) → Rs R H1 us b.kids → (∀ v H2, Same H1 H2 → R H2 v b → Q1 v H2) → sp [y, .ref l] H1 Q1 (fun _ _ _ => False)) ∧
  ∀ v H', Same H H' → R H' v f → Q v H'
/-- what stands while the table grows: the formulas numbered so far, their values, the table -/
structure FoldAt (K : PySem.W.Frag) (R : Hp → V → Fm → Prop) (H : Hp) (dn vl : Addr) (f : Fm) (gs : List Fm) : Prop where
  tab : H dn = some (.dT (tabF gs))
  vals : ∃ us, H vl = some (.lst us) ∧ Rs R H us gs
  nd : gs.Nodup
  cl : ∀ g ∈ gs, ∀ c ∈ g.kids, c ∈ gs
  sub : ∀ g ∈ gs, g ∈ f.subs
theorem ok_folded (T : Top K mg) : FnOk P w K mg base CX0 5 T.f_folded T.d_folded ["a", "value_of"] (spFolded P w K mg base) := by
  have G_levels_of : FnOk P w K mg base CX0 3 T.f_levels_of T.d_levels_of ["a"] (spLevels K) := ok_levels_of T
  have G_parts_of : FnOk P w K mg base CX0 1 T.f_parts_of T.d_parts_of ["a"] (spParts K) := ok_parts_of T
  have G_place_of : FnOk P w K mg base CX0 1 T.f_place_of T.d_place_of ["rows", "row"] (spPlace K) := ok_place_of T
  refine T.F_folded.ok sc_folded (fun vs H Q E h => ?_) (fun cdv A outer s H vs Q E hr h => ?_)
  · obtain ⟨x, g, f, sp, R, n, rfl, _⟩ := h
    rfl
  obtain ⟨x, g, f, sp, R, n, rfl, hx, hok, hn, hsz, hC, hmono, hval, kQ⟩ := h
  have hu64 := hr.units
  have hu := Nat.lt_of_le_of_lt (Nat.add_le_add_left (by decide : 1 ≤ 64) _) hu64
  refine ⟨_, (pss_cons (ps_set (i := 2) sc_folded.nd rfl (.inl rfl) pe_dnewT)
    (pss_cons (ps_set (i := 3) sc_folded.nd rfl (.inr rfl) (pe_lst pa_nil))
    (pss_cons (ps_set (i := 4) sc_folded.nd rfl (.inr rfl) (pe_lst pa_nil))
    (pss_cons (ps_set (i := 5) sc_folded.nd rfl (.inr rfl) (pe_lst pa_nil))
    (pss_cons (ps_for PassesOwn.never rfl (RT.pi_revA (by rfl) T.z_reversed (pe_call G_levels_of (hr.mono (by omega)) (by rfl) T.m_levels_of T.F_levels_of.kp T.b_levels_of .nil pass0 (pa_cons (pv 0) pa_nil))) (pg_name (i := 6) sc_folded.nd rfl (.inl rfl))
      (pss_cons (ps_set (i := 7) sc_folded.nd rfl (.inl rfl) (pe_lst pa_nil))
    (pss_cons (ps_for PassesOwn.never rfl (pi_list (pv 6)) (pg_name (i := 8) sc_folded.nd rfl (.inl rfl))
      (pss_cons (ps_setLc (own := [("part", 11)]) (g := gName 11) (tt := tYes) (te := (tOp (rIxL K) _ _)) (i := 9) rfl sc_folded.nd rfl rfl (sw_true rfl rfl rfl (by decide +kernel)) (pi_tup (pe_call G_parts_of (hr.mono (by omega)) (by rfl) T.m_parts_of T.F_parts_of.kp T.b_parts_of .nil pass0 (pa_cons (pv 8) pa_nil))) (blkOk_by (N := ["a", "value_of", "numbers", "values", "below", "numbers_below", "level", "numbers_here", "b", "parts", "key", "part", "k"]) (sc := defScope s_folded) (by decide +kernel)) (fun _ _ _ _ _ => pg_name (i := 11) sc_folded.nd rfl (Or.inl rfl)) (fun _ _ _ _ _ => pts_nil) (fun _ _ _ _ _ => (pe_ix ix_list (pv 5) (pe_call G_place_of (hr.mono (by omega)) (by rfl) T.m_place_of T.F_place_of.kp T.b_place_of .nil pass0 (pa_cons (pv 4) (pa_cons (pv 11) pa_nil))) (fun _ _ => rfl))))
    (C8.pss_cut (ps_set (i := 10) sc_folded.nd rfl (.inl rfl) (pe_ifExp (pt_cmpR op_eq (pe_ix ix_tup (pv 8) pe_int (fun _ _ => rfl)) pe_str (nomark _)) (pv 8) (pe_tup (pa_cons (pe_ix ix_tup (pv 8) pe_int (fun _ _ => rfl)) (StX.pa_star (pv 9) pa_nil)))))
    (C8.pss_cut (ps_if (pt_cmp (pc_dnotin hu (pv 10) (pv 2)))
      (pss_cons (ps_dput hu (pv 2) (pv 10) (pe_callB call_len_seq (by rfl) T.z_len PySem.boot_len (pa_cons (pv 3) pa_nil)) rfl)
    (pss_one (ps_expr (pe_bm PySem.F.plainAttrs_list PySem.F.slot_list_append PySem.F.type_list_append mt_append (pv 3) (pa_cons (pe_callZ (i := 1) (k := 4) hr (by omega) rfl (by first | exact .inl rfl | exact .inr (.inl rfl) | exact .inr rfl) (pa_cons (pv 8) (pa_cons (pe_lc (own := [("k", 12)]) (g := gName 12) (tt := tYes) (te := (tOp (rIxL K) _ _)) rfl sc_folded.nd (pi_list (pv 9)) (blkOk_by (N := ["a", "value_of", "numbers", "values", "below", "numbers_below", "level", "numbers_here", "b", "parts", "key", "part", "k"]) (sc := defScope s_folded) (by decide +kernel)) (fun _ _ _ _ _ => pg_name (i := 12) sc_folded.nd rfl (Or.inl rfl)) (fun _ _ _ _ _ => pts_nil) (fun _ _ _ _ _ => (pe_ix ix_list (pv 3) (pv 12) (fun _ _ => rfl)))) pa_nil))) pa_nil)))))
      pss_nil)
    (pss_one (ps_expr (pe_bm PySem.F.plainAttrs_list PySem.F.slot_list_append PySem.F.type_list_append mt_append (pv 7) (pa_cons (pe_dget hu (pv 2) (pv 10) (fun _ _ => rfl)) pa_nil))))))))
    (pss_cons (ps_set (i := 4) sc_folded.nd rfl (.inr rfl) (pv 6))
    (pss_one (ps_set (i := 5) sc_folded.nd rfl (.inr rfl) (pv 7)))))))
    (pss_one (ps_ret (pe_ix ix_list (pv 3) (pe_ix ix_list (pv 5) pe_int (fun _ _ => rfl)) (fun _ _ => rfl))))))))), ?_⟩
  intro dn ndn
  refine ⟨Nat.zero_le _, fun vl nvl => ⟨Nat.zero_le _, fun bl nbl => ⟨Nat.zero_le _, fun nb nnb => ?_⟩⟩⟩
  have t1 := same_new (o := .dT []) ndn
  have t2 := same_new (o := .lst []) nvl
  have t3 := same_new (o := .lst []) nbl
  have t4 := same_new (o := .lst []) nnb
  have t14 := ((t1.trans t2).trans t3).trans t4
  have hdn := t4 _ _ (t3 _ _ (t2 _ _ (@upd_same H dn (.dT []))))
  have hvl := t4 _ _ (t3 _ _ (@upd_same _ vl (.lst [])))
  have hbl := t4 _ _ (@upd_same _ bl (.lst []))
  have ndv : dn ≠ vl := ne_of_none upd_same nvl
  have ndb : dn ≠ bl := ne_of_none (t2 _ _ upd_same) nbl
  have nvb : vl ≠ bl := ne_of_none upd_same nbl
  have ndnb : dn ≠ nb := ne_of_none (t3 _ _ (t2 _ _ upd_same)) nnb
  have nvnb : vl ≠ nb := ne_of_none (t3 _ _ upd_same) nnb
  have hnb := @upd_same (upd (upd (upd H dn (.dT [])) vl (.lst [])) bl (.lst [])) nb (.lst [])
  generalize upd (upd (upd (upd H dn (.dT [])) vl (.lst [])) bl (.lst [])) nb (.lst []) = H4 at t14 hdn hvl hbl hnb
  refine ⟨_, rfl, x, f, n, rfl, hx.mono (Same.ts t14), hok, hn, hsz, fun lv vs H5 nlv s5 hlv hLv => ⟨lv, vs, rfl, .inl ⟨SqL.of hlv, ?_⟩⟩⟩
  have hd5 := s5 _ _ hdn
  have hv5 := s5 _ _ hvl
  have hm := hLv.len
  have hC5 := hC.same (H' := H5) (fun b F e => s5 _ _ (t14 _ _ e)) fun b o u e => s5 _ _ (t14 _ _ e)
  have hx5 := hx.mono (Same.ts (t14.trans s5))
  have nlvd : lv ≠ dn := fun e => by rw [e, hd5] at hlv; cases hlv
  have nlvv : lv ≠ vl := fun e => by
    rw [e] at nlv
    rw [hvl] at nlv
    cases nlv
  refine RT.for_Itv (K := K) (a := lv) (xs := vs) (fun i σ H6 => ∃ (gs L : List Fm) (B NB : Addr) (ys : List V) (v6 v7 v8 v9 v10 : Option V), σ = [some x, some (.ref g), some (.ref dn), some (.ref vl), some (.ref B), some (.ref NB), v6, v7, v8, v9, v10, none, none] ∧
      (∀ b o, H5 b = some o → b ≠ dn → b ≠ vl → H6 b = some o) ∧ FoldAt K R H6 dn vl f gs ∧ SqL K H6 B ys ∧ ImAll K H6 ys (L.map Fm.d) ∧ (∀ H' : Hp, (∀ b o, H6 b = some o → b ≠ dn → b ≠ vl → H' b = some o) → SqL K H' B ys) ∧ NB ≠ vl ∧ H6 NB = some (.lst (L.map fun c => V.int ((gs.idxOf c : Nat) : Int))) ∧
      Asc L ∧ (∀ c ∈ L, c ∈ gs) ∧ L.length ≤ 100000 ∧ ((i = 0 ∧ L = []) ∨ (0 < i ∧ (levs n [f])[vs.length - i]? = some L)))
    ⟨[], [], bl, nb, [], none, none, none, none, none, rfl, fun _ _ h _ _ => h, ⟨hd5, ⟨[], hv5, rfl, fun i v b h => (nomatch h)⟩, .nil, fun g h => (nomatch h), fun g h => (nomatch h)⟩, SqL.of (s5 _ _ hbl), .nil, fun H' k => SqL.of (k _ _ (s5 _ _ hbl) ndb.symm nvb.symm), nvnb.symm, s5 _ _ hnb, .nil, fun c h => (nomatch h), Nat.zero_le _, .inl ⟨rfl, rfl⟩⟩
    (fun i σ H6 h => by
      obtain ⟨_, _, _, _, _, _, _, _, _, _, _, k, _⟩ := h
      exact SqL.of (k _ _ hlv nlvd nlvv)) ?_ ?_
  · rintro i y σ H6 hi hy ⟨gs, L, B, NB, ys, v6, v7, v8, v9, v10, rfl, k6, fa, hB, hBI, nBv, nNv, hNB, hLa, hLg, hLl, hLi⟩
    obtain ⟨lb, lys, l, rfl, hl, hlS, hlI⟩ := hLv.get hy
    have hlj : vs.length - 1 - i < (levs n [f]).length := (List.getElem?_eq_some_iff.mp hl).1
    have hlne := lev_ne _ _ _ _ hl
    have hlys : lys ≠ [] := fun e => by
      have := fms_len hlI
      rw [e] at this
      exact hlne (List.length_eq_zero_iff.mp this.symm)
    have hlasc := lev_asc n [f] _ l (List.pairwise_singleton _ _) hl
    have hht : ∀ g ∈ [f], g.ht ≤ n := fun g hg => by rw [List.mem_singleton.mp hg]; exact hn
    have hlsub : ∀ b ∈ l, b ∈ f.subs := fun b hb => by
      obtain ⟨g, hg, hm⟩ := (levs_mem n [f] hht b).mp (List.mem_flatten.mpr ⟨l, List.mem_of_getElem? hl, hb⟩)
      rwa [List.mem_singleton.mp hg] at hm
    have hkid : ∀ b ∈ l, ∀ c ∈ b.kids, c ∈ L := fun b hb c hc => by
      have hm1 : c ∈ down l := down_mem.mpr ⟨b, hb, hc⟩
      rcases lev_next n [f] _ l hht hl with h | ⟨_, h⟩
      · rcases hLi with ⟨h0, _⟩ | ⟨h0, h1⟩
        · have := (List.getElem?_eq_some_iff.mp h).1
          omega
        · rw [show vs.length - 1 - i + 1 = vs.length - i by omega, h1] at h
          rw [Option.some.inj h]
          exact hm1
      · rw [h] at hm1
        cases hm1
    have hll : l.length ≤ 100000 := by
      have h1 := levs_sum n [f]
      have h2 : l.length ≤ ((levs n [f]).map List.length).sum := by
        have := sum_one (levs n [f]) l (List.mem_of_getElem? hl)
        exact this
      simp at h1
      omega
    refine ⟨Nat.zero_le _, fun nh nnh => ?_⟩
    have hvl6 := fa.vals
    obtain ⟨us6, hus6, _⟩ := hvl6
    have t56 := (tz_two hd5 hv5 k6).1
    have hlS6 := sql_keep hlS hlys hv5 ⟨_, hd5⟩ k6
    have sn := same_new (o := .lst []) nnh
    have hnh := @upd_same H6 nh (.lst [])
    have nhv : nh ≠ vl := fun e => by rw [e, hus6] at nnh; cases nnh
    have nhd : nh ≠ dn := fun e => by rw [e, fa.tab] at nnh; cases nnh
    have nhN : NB ≠ nh := ne_of_none hNB nnh
    have fa' : FoldAt K R (upd H6 nh (.lst [])) dn vl f gs := by
      obtain ⟨us, h1, h2⟩ := fa.vals
      exact ⟨sn _ _ fa.tab, ⟨us, sn _ _ h1, h2.mono hmono (Same.tz sn)⟩, fa.nd, fa.cl, fa.sub⟩
    have lbn : ∀ {A : Addr} {zs : List V}, SqL K H6 A zs → SqL K (upd H6 nh (.lst [])) A zs := fun h => sn.seq h
    refine ⟨_, rfl, lb, rfl, ⟨_, sn.seq hlS6⟩, for_list (K := K) (a := lb) (xs := lys) (fun j σ H7 => ∃ (gs' : List Fm) (v8 v9 v10 : Option V), σ = [some x, some (.ref g), some (.ref dn), some (.ref vl), some (.ref B), some (.ref NB), some (.ref lb), some (.ref nh), v8, v9, v10, none, none] ∧
        (∀ b o, H6 b = some o → b ≠ dn → b ≠ vl → H7 b = some o) ∧ FoldAt K R H7 dn vl f gs' ∧ (∀ c ∈ gs, c ∈ gs' ∧ gs'.idxOf c = gs.idxOf c) ∧ H7 nh = some (.lst ((l.take j).map fun c => V.int ((gs'.idxOf c : Nat) : Int))) ∧ ∀ c ∈ l.take j, c ∈ gs')
      ⟨gs, v8, v9, v10, rfl, fun b o e _ _ => sn _ _ e, fa', fun c hc => ⟨hc, rfl⟩, hnh, fun c h => (nomatch h)⟩ (fun j σ H7 _ h => by
        obtain ⟨_, _, _, _, _, k7, _⟩ := h
        exact sql_keep hlS hlys hv5 ⟨_, hd5⟩ fun b o e n1 n2 => k7 _ _ (k6 _ _ e n1 n2) n1 n2) ?_ ?_⟩
    · rintro j y σ H7 hy ⟨gs', w8, w9, w10, rfl, k7, fb, hold, hnh7, hmem⟩
      have k57 : ∀ b o, H5 b = some o → b ≠ dn → b ≠ vl → H7 b = some o := fun b o e n1 n2 => k7 _ _ (k6 _ _ e n1 n2) n1 n2
      have t57 := (tz_two hd5 hv5 k57).1
      have t67 := (tz_two fa.tab hus6 k7).1
      obtain ⟨b, hbj, hbI⟩ := imAll_of (hlI.mono t57) hy
      have hbm : b ∈ l := List.mem_of_getElem? hbj
      have hjl : j < l.length := (List.getElem?_eq_some_iff.mp hbj).1
      have hB7 := nBv H7 k7
      have hBI7 := hBI.mono t67
      have nNd : NB ≠ dn := fun e => by rw [e, fa.tab] at hNB; cases hNB
      have hNB7 := k7 _ _ hNB nNd nNv
      have hNBe : (L.map fun c => V.int ((gs.idxOf c : Nat) : Int)) = L.map fun c => V.int ((gs'.idxOf c : Nat) : Int) := List.map_congr_left fun c hc => by rw [(hold c (hLg c hc)).2]
      rw [hNBe] at hNB7
      have hkg : ∀ c ∈ b.kids, c ∈ gs' := fun c hc => (hold c (hLg c (hkid b hbm c hc))).1
      -- the numbers of the parts
      refine ⟨_, rfl, y, b, rfl, hbI, fun pt yk H8 s8 hpt hkI => ⟨pt, rfl, ⟨_, hpt⟩, fun D nD => ?_⟩⟩
      have hkl := fms_len hkI
      have hk2 : b.kids.length ≤ 2 := by cases b <;> simp [Fm.kids]
      refine lc_tup (K := K) (a := pt) (xs := yk) (fun m H9 => Same H8 H9 ∧ H9 D = some (.lst ((b.kids.take m).map fun c => V.int ((gs'.idxOf c : Nat) : Int)))) ⟨same_new nD, upd_same⟩ (fun m H9 _ h => (Same.ts h.1).sqT hpt) ?_ ?_
      · rintro m u H9 hu0 ⟨s9, hD9⟩
        obtain ⟨c, hc, cI⟩ := imAll_of (hkI.mono (Same.ts s9)) hu0
        have hcm : c ∈ b.kids := List.mem_of_getElem? hc
        have hcL := hkid b hbm c hcm
        obtain ⟨ic, hic⟩ := List.getElem?_of_mem hcL
        refine ⟨rfl, _, rfl, _, rfl, _, rfl, B, ys, L, u, c, ic, rfl, s9.seq (s8.seq hB7), hBI7.mono (Same.ts (s8.trans s9)), hLa, hic, cI, fun g hg => ?_, hLl, ?_⟩
        · exact hok g (fb.sub g ((hold g (hLg g hg)).1))
        refine ⟨NB, _, _, .int ((gs'.idxOf c : Nat) : Int), rfl, rfl, SqL.of (s9 _ _ (s8 _ _ hNB7)), atI_nat (by rw [List.getElem?_map, hic]; rfl), _, hD9, ?_, fun a o e => ?_, ?_⟩
        · rw [List.length_map, List.length_take]
          exact small1000 (by omega)
        · rw [upd_ne (ne_of_none e nD)]
          exact s9 _ _ e
        · rw [upd_same, take_snoc hc, List.map_append]
          rfl
      · rintro H9 ⟨s9, hD9⟩
        rw [hkl, List.take_length] at hD9
        have s79 := s8.trans s9
        have hy9 := hbI.mono (Same.ts s79)
        have fb9 : FoldAt K R H9 dn vl f gs' := by
          obtain ⟨us, h1, h2⟩ := fb.vals
          exact ⟨s79 _ _ fb.tab, ⟨us, s79 _ _ h1, h2.mono hmono (Same.tz s79)⟩, fb.nd, fb.cl, fb.sub⟩
        have hkN : (b.kids.map fun c => V.int ((gs'.idxOf c : Nat) : Int)).length ≤ 2 := by rw [List.length_map]; exact hk2
        obtain ⟨ba, bys, rfl, hb1, hb2⟩ := im_inv hy9
        -- the key
        refine ⟨fun σ H10 => ∃ ka : Addr, σ = [some x, some (.ref g), some (.ref dn), some (.ref vl), some (.ref B), some (.ref NB), some (.ref lb), some (.ref nh), some (.ref ba), some (.ref D), some (.ref ka), none, none] ∧ Same H9 H10 ∧ H10 ka = some (.tup ((keyF (fun c => gs'.idxOf c) b).map kV)), ?_, ?_⟩
        · refine ⟨_, rfl, ba, _, 0, _, rfl, rfl, hb1, atI_nat (j := 0) rfl, rfl, _, rfl, ?_⟩
          rw [sg_var]
          cases hv : b.isVar with
          | true =>
            obtain ⟨_, vn, rfl⟩ := kids_var hv
            exact iteT ⟨_, rfl, ba, rfl, fun _ _ e => e, im_var_at hy9⟩
          | false =>
            refine iteF ⟨_, rfl, ba, _, 0, _, rfl, rfl, hb1, atI_nat (j := 0) rfl, _, rfl, D, _, rfl, .inr (SqL.of hD9), ?_⟩
            have eK : V.str b.sg :: ((b.kids.map fun c => V.int ((gs'.idxOf c : Nat) : Int)) ++ []) = (keyF (fun c => gs'.idxOf c) b).map kV := by
              rw [keyF_not hv, List.append_nil, List.map_cons, List.map_map]
              rfl
            refine ⟨?_, fun ka nka => ⟨ka, rfl, same_new nka, ?_⟩⟩
            · rw [List.length_cons, List.length_append, List.length_nil]
              exact Nat.le_of_lt (small1000 (by omega))
            · rw [upd_same, ← eK]
        · rintro σ H10 ⟨ka, rfl, s10, hka⟩
          have s710 := s79.trans s10
          have fb10 : FoldAt K R H10 dn vl f gs' := by
            obtain ⟨us, h1, h2⟩ := fb9.vals
            exact ⟨s10 _ _ fb9.tab, ⟨us, s10 _ _ h1, h2.mono hmono (Same.tz s10)⟩, fb.nd, fb.cl, fb.sub⟩
          have k710 : ∀ a o, H7 a = some o → a ≠ dn → a ≠ vl → H10 a = some o := fun a o e _ _ => s710 _ _ e
          have hget := tab_get fb.cl hkg
          have hD10 := s10 _ _ hD9
          have hgsl : gs'.length ≤ 100000 := by
            have := nodup_few gs' f.subs fb.nd fb.sub
            rw [subs_len] at this
            omega
          refine ⟨fun σ H11 => ∃ gs2 : List Fm, σ = [some x, some (.ref g), some (.ref dn), some (.ref vl), some (.ref B), some (.ref NB), some (.ref lb), some (.ref nh), some (.ref ba), some (.ref D), some (.ref ka), none, none] ∧
              (∀ a o, H10 a = some o → a ≠ dn → a ≠ vl → H11 a = some o) ∧ FoldAt K R H11 dn vl f gs2 ∧ (∀ c ∈ gs', c ∈ gs2 ∧ gs2.idxOf c = gs'.idxOf c) ∧ b ∈ gs2 ∧ keyF (fun c => gs2.idxOf c) b = keyF (fun c => gs'.idxOf c) b, ?_, ?_⟩
          · refine ⟨_, rfl, _, rfl, dn, _, rfl, .t fb10.tab hka, _, rfl, ?_⟩
            rw [hget]
            by_cases hbg : b ∈ gs'
            · rw [if_pos hbg]
              exact iteF ⟨gs', rfl, fun _ _ e _ _ => e, fb10, fun c hc => ⟨hc, rfl⟩, hbg, rfl⟩
            · rw [if_neg hbg]
              obtain ⟨us, hus, hR⟩ := fb10.vals
              refine iteT ⟨_, rfl, vl, us, rfl, .inl (SqL.of hus), _, rfl, _, rfl, dn, _, rfl, .t fb10.tab hka ?_, ?_⟩
              · unfold tabF
                rw [List.length_map]
                exact Nat.lt_of_le_of_lt hgsl (by decide)
              rw [hR.1, tab_put fb.cl hkg hbg]
              have k1011 : ∀ a o, H10 a = some o → a ≠ dn → upd H10 dn (.dT (tabF (gs' ++ [b]))) a = some o := fun a o e n => by
                rw [upd_ne n]
                exact e
              have hd11 : upd H10 dn (.dT (tabF (gs' ++ [b]))) dn = some (.dT (tabF (gs' ++ [b]))) := upd_same
              generalize upd H10 dn (.dT (tabF (gs' ++ [b]))) = H11 at k1011 hd11
              have hus11 := k1011 _ _ hus ndv.symm
              have t1011 : TZ H10 H11 := TZ.but fb10.tab (fun _ e => nomatch e) (fun _ _ e => nomatch e) k1011
              have k511 : ∀ a o, H5 a = some o → a ≠ dn → a ≠ vl → H11 a = some o := fun a o e n1 n2 => k1011 _ _ (s710 _ _ (k57 _ _ e n1 n2)) n1
              have kext : ∀ a F, H5 a = some (.ext F) → H11 a = some (.ext F) := fun a F e => k511 _ _ e (fun z => by rw [z, hd5] at e; cases e) (fun z => by rw [z, hv5] at e; cases e)
              have kfrz : ∀ a o u, H5 a = some (.frz o u) → H11 a = some (.frz o u) := fun a o u e => k511 _ _ e (fun z => by rw [z, hd5] at e; cases e) (fun z => by rw [z, hv5] at e; cases e)
              have hC11 := hC5.same kext kfrz
              have sH11 : L2.Same H H11 := fun a o e => k511 _ _ (s5 _ _ (t14 _ _ e)) (ne_of_none e ndn) (fun z => by
                have := t1 _ _ e
                rw [z, nvl] at this
                cases this)
              have nDd : D ≠ dn := fun e => by rw [e, fb10.tab] at hD10; cases hD10
              have hD11 := k1011 _ _ hD10 nDd
              refine ⟨_, rfl, .inl ⟨rfl, _, .inl (.inl hus11)⟩, g, sp, rfl, hC11, _, rfl, _, rfl, D, rfl, ⟨_, SqL.of hD11⟩, fun W nW => ?_⟩
              have nWv : vl ≠ W := ne_of_none hus11 nW
              refine lc_list (K := K) (a := D) (xs := b.kids.map fun c => V.int ((gs'.idxOf c : Nat) : Int)) (fun m H12 => ∃ acc, Same H11 H12 ∧ H12 W = some (.lst acc) ∧ Rs R H12 acc (b.kids.take m)) ⟨[], same_new nW, upd_same, rfl, fun i v b h => (nomatch h)⟩ (fun m H12 _ h => by
                obtain ⟨_, s, _⟩ := h
                exact SqL.of (s _ _ hD11)) ?_ ?_
              · rintro m u H12 hu0 ⟨acc, s12, hW, hRs⟩
                rw [List.getElem?_map] at hu0
                cases hc : b.kids[m]? with
                | none => rw [hc] at hu0; cases hu0
                | some c =>
                rw [hc] at hu0
                have eu : u = .int ((gs'.idxOf c : Nat) : Int) := (Option.some.inj hu0).symm
                subst eu
                have hcg := hkg c (List.mem_of_getElem? hc)
                have hi1 := List.idxOf_lt_length_of_mem hcg
                have hv1 : us[gs'.idxOf c]? = some (us[gs'.idxOf c]'(by rw [hR.1]; exact hi1)) := List.getElem?_eq_getElem _
                have hRc := hR.2 _ _ _ hv1 (idx_get hcg)
                have hal : acc.length ≤ 2 := by
                  rw [hRs.1, List.length_take]
                  omega
                refine ⟨rfl, _, rfl, _, rfl, vl, _, _, _, rfl, rfl, SqL.of (s12 _ _ hus11), atI_nat hv1, acc, hW, small1000 (by omega), acc ++ [_], fun a o e => ?_, upd_same, ?_⟩
                · rw [upd_ne (ne_of_none e nW)]
                  exact s12 _ _ e
                · rw [take_snoc hc]
                  have tt := (Kp.upd (H := H12) (p := W) (o := .lst (acc ++ [us[gs'.idxOf c]'(by rw [hR.1]; exact hi1)]))).tz hW
                  exact (hRs.mono hmono tt).snoc (hmono _ _ _ _ ((t1011.trans (Same.tz s12)).trans tt) hRc)
              · rintro H12 ⟨acc, s12, hW, hRs⟩
                rw [List.length_map, List.take_length] at hRs
                have s1112 : ∀ a F, H11 a = some (.ext F) → H12 a = some (.ext F) := fun a F e => s12 _ _ e
                have z1112 : ∀ a o u, H11 a = some (.frz o u) → H12 a = some (.frz o u) := fun a o u e => s12 _ _ e
                refine ⟨hC11.same s1112 z1112, s1112, z1112, hval b H12 (.ref ba) W acc _ (hlsub b hbm) (sH11.trans s12) (((hy9.mono (Same.ts s10)).mono t1011.1).mono (Same.ts s12)) hW hRs fun v H13 s13 hv13 => ?_⟩
                have s1113 := s12.trans s13
                have hus13 := s1113 _ _ hus11
                refine ⟨vl, us, v, rfl, rfl, hus13, Nat.lt_of_le_of_lt (by rw [hR.1]; exact hgsl) (by decide), ?_⟩
                have tt := (Kp.upd (H := H13) (p := vl) (o := .lst (us ++ [v]))).tz hus13
                have t1014 := (t1011.trans (Same.tz s1113)).trans tt
                refine ⟨gs' ++ [b], rfl, fun a o e n1 n2 => ?_, ⟨?_, ⟨us ++ [v], upd_same, (hR.mono hmono t1014).snoc (hmono _ _ _ _ tt hv13)⟩, ?_, fun h hh c hc => ?_, fun h hh => ?_⟩, fun c hc => ⟨List.mem_append_left _ hc, idx_app hc⟩, List.mem_append_right _ List.mem_cons_self, keyF_congr fun c hc => idx_app (hkg c hc)⟩
                · rw [upd_ne n2]
                  exact s1113 _ _ (k1011 _ _ e n1)
                · rw [upd_ne ndv]
                  exact s1113 _ _ hd11
                · exact List.nodup_append.mpr ⟨fb.nd, List.nodup_cons.mpr ⟨fun h => (nomatch h), .nil⟩, fun c hc u hu e => hbg (by rw [← List.mem_singleton.mp hu, ← e]; exact hc)⟩
                · rcases List.mem_append.mp hh with hh | hh
                  · exact List.mem_append_left _ (fb.cl h hh c hc)
                  · rw [List.mem_singleton.mp hh] at hc
                    exact List.mem_append_left _ (hkg c hc)
                · rcases List.mem_append.mp hh with hh | hh
                  · exact fb.sub h hh
                  · rw [List.mem_singleton.mp hh]
                    exact hlsub b hbm
          · rintro σ H11 ⟨gs2, rfl, k11, fc, hold2, hb2g, hkey2⟩
            have hkg2 : ∀ c ∈ b.kids, c ∈ gs2 := fun c hc => (hold2 c (hkg c hc)).1
            have hgt : valV (tabF gs2) (keyF (fun c => gs'.idxOf c) b) = some (V.int ((gs2.idxOf b : Nat) : Int)) := by
              rw [← hkey2, tab_get fc.cl hkg2, if_pos hb2g]
            have hnh10 := s710 _ _ hnh7
            have hnh11 := k11 _ _ hnh10 nhd nhv
            obtain ⟨us10, hus10, _⟩ := fb10.vals
            have nkd : ka ≠ dn := fun e => by rw [e, fb10.tab] at hka; cases hka
            have nkv : ka ≠ vl := fun e => by rw [e, hus10] at hka; cases hka
            refine ⟨_, rfl, .inl ⟨rfl, _, .inl (.inl hnh11)⟩, _, rfl, _, rfl, dn, _, rfl, .inr ⟨_, _, ka, .inl fc.tab, rfl, k11 _ _ hka nkd nkv, hgt.symm⟩, nh, _, _, rfl, rfl, hnh11, ?_, ?_⟩
            · rw [List.length_map, List.length_take]
              exact Nat.lt_of_le_of_lt (Nat.le_trans (Nat.min_le_right _ _) hll) (by decide)
            have tt := (Kp.upd (H := H11) (p := nh) (o := .lst (((l.take j).map fun c => V.int ((gs'.idxOf c : Nat) : Int)) ++ [V.int ((gs2.idxOf b : Nat) : Int)]))).tz hnh11
            refine ⟨gs2, _, _, _, rfl, fun a o e n1 n2 => ?_, ?_, fun c hc => ?_, ?_, fun c hc => ?_⟩
            · rw [upd_ne (ne_of_none e nnh)]
              exact k11 _ _ (s710 _ _ (k7 _ _ e n1 n2)) n1 n2
            · obtain ⟨us, h1, h2⟩ := fc.vals
              exact ⟨by rw [upd_ne nhd.symm]; exact fc.tab, ⟨us, by rw [upd_ne nhv.symm]; exact h1, h2.mono hmono tt⟩, fc.nd, fc.cl, fc.sub⟩
            · obtain ⟨h1, h2⟩ := hold c hc
              obtain ⟨h3, h4⟩ := hold2 c h1
              exact ⟨h3, h4.trans h2⟩
            · rw [upd_same, take_snoc hbj, List.map_append]
              rw [show ((l.take j).map fun c => V.int ((gs2.idxOf c : Nat) : Int)) = (l.take j).map fun c => V.int ((gs'.idxOf c : Nat) : Int) from List.map_congr_left fun c hc => by rw [(hold2 c (hmem c hc)).2]]
              rfl
            · rw [take_snoc hbj] at hc
              rcases List.mem_append.mp hc with h | h
              · exact (hold2 c (hmem c h)).1
              · rw [List.mem_singleton.mp h]
                exact hb2g
    · rintro σ H7 ⟨gs', w8, w9, w10, rfl, k7, fb, hold, hnh7, hmem⟩
      have hlen7 := fms_len hlI
      rw [hlen7, List.take_length] at hnh7 hmem
      have k57 : ∀ b o, H5 b = some o → b ≠ dn → b ≠ vl → H7 b = some o := fun b o e n1 n2 => k7 _ _ (k6 _ _ e n1 n2) n1 n2
      have hlS7 := sql_keep hlS hlys hv5 ⟨_, hd5⟩ k57
      refine ⟨_, rfl, _, rfl, gs', l, lb, nh, lys, _, _, _, _, _, rfl, k57, fb, hlS7, hlI.mono (tz_two hd5 hv5 k57).1, fun H' k => sql_keep hlS hlys hv5 ⟨_, hd5⟩ fun b o e n1 n2 => k _ _ (k57 _ _ e n1 n2) n1 n2, nhv, hnh7, hlasc, hmem, hll, .inr ⟨Nat.succ_pos _, ?_⟩⟩
      rw [show vs.length - (i + 1) = vs.length - 1 - i by omega]
      exact hl
  · rintro σ H6 ⟨gs, L, B, NB, ys, v6, v7, v8, v9, v10, rfl, k6, fa, hB, hBI, nBv, nNv, hNB, hLa, hLg, hLl, hLi⟩
    have hL : L = [f] := by
      rcases hLi with ⟨h0, _⟩ | ⟨_, h1⟩
      · have := lev_head hn
        have := (List.getElem?_eq_some_iff.mp this).1
        omega
      · rw [Nat.sub_self, lev_head hn] at h1
        exact (Option.some.inj h1).symm
    subst hL
    have hfg := hLg f List.mem_cons_self
    obtain ⟨us, hus, hR⟩ := fa.vals
    have hi1 := List.idxOf_lt_length_of_mem hfg
    have hv1 : us[gs.idxOf f]? = some (us[gs.idxOf f]'(by rw [hR.1]; exact hi1)) := List.getElem?_eq_getElem _
    have hRf := hR.2 _ _ _ hv1 (idx_get hfg)
    refine ⟨_, rfl, _, rfl, NB, _, 0, _, rfl, rfl, SqL.of hNB, atI_nat (j := 0) rfl, vl, us, _, _, rfl, rfl, SqL.of hus, atI_nat hv1, kQ _ H6 (fun b o e => ?_) hRf⟩
    have h4 := t14 _ _ e
    have n1 : b ≠ dn := ne_of_none e ndn
    have n2 : b ≠ vl := fun z => by
      have := t1 _ _ e
      rw [z, nvl] at this
      cases this
    exact k6 _ _ (s5 _ _ h4) n1 n2

/-! ### the law's own parts -/
theorem vin : ∀ i : Fin 6, inV (.str (sgT i)) [.str "var", .str "falsum"] = decide (i = 5 ∨ i = 2) := by decide +kernel
theorem vflat : flatV (.str "var") = true := rfl
def spLawParts (K : PySem.W.Frag) : Sp := fun vs H Q _ => ∃ (x : V) (f : Fm), vs = [x] ∧ Im K H x f.d ∧ ∀ (p : Addr) (ys : List V) (H' : Hp), H p = none → Same H H' → H' p = some (.lst ys) → ImAll K H' ys (f.kids.map Fm.d) → Q (.ref p) H'
theorem ok_law_parts (T : Top K mg) : FnOk P w K mg base CX0 1 T.f_law_parts T.d_law_parts ["a"] (spLawParts K) := by
  refine T.F_law_parts.ok sc_law_parts (fun vs H Q E h => ?_) (fun cdv A outer s H vs Q E hr h => ?_)
  · obtain ⟨x, f, rfl, _⟩ := h
    rfl
  obtain ⟨x, f, rfl, hx, k⟩ := h
  refine ⟨_, (pss_one (ps_ret (pe_ifExp (pt_cmpR op_in_seq (pe_ix ix_tup (pv 0) pe_int (fun _ _ => rfl)) (pe_tup (pa_cons pe_str (pa_cons pe_str pa_nil))) rfl) (pe_lst pa_nil) (pe_callTy call_list_of (by rfl) T.z_list (by decide +kernel) (pa_cons (pe_slice sl_tupA (pv 0) (po_some pe_int) po_none) pa_nil))))), ?_⟩
  obtain ⟨a, ys, rfl, h1, h2⟩ := im_inv hx
  refine ⟨_, rfl, a, _, 0, _, rfl, rfl, h1, atI_nat (j := 0) rfl, (by show 2 ≤ sizeLine; decide), fun t nt => ?_⟩
  have s1 := same_new (o := .tup [.str "var", .str "falsum"]) nt
  refine ⟨t, _, rfl, .inr (SqT.of upd_same), rfl, rfl, inV (.str f.sg) [.str "var", .str "falsum"], rfl, ?_⟩
  rw [show inV (.str f.sg) [.str "var", .str "falsum"] = decide (f.rk = 5 ∨ f.rk = 2) from vin f.rk]
  by_cases hk : f.rk = 5 ∨ f.rk = 2
  · refine iteD hk ⟨(by show 0 ≤ sizeLine; decide), fun p np => ?_⟩
    have e : f.kids = [] := by
      cases f <;> first | rfl | exact absurd hk (by simp [Fm.rk])
    exact k p [] _ (s1.free np) (s1.trans (same_new np)) upd_same (by rw [e]; exact .nil)
  · have hv : f.isVar = false := by
      cases f <;> first | rfl | exact absurd (Or.inl rfl) hk
    refine iteDF hk ⟨_, rfl, 1, rfl, a, _, rfl, (Same.ts s1).sqT h1, fun e => ?_, fun _ p np => ?_⟩
    · rw [sIx_1] at e
      exact absurd e.1 (by decide)
    · rw [cut_1]
      have s2 := s1.trans (same_new (o := .tup ys) np)
      refine ⟨p, ys, rfl, .inr (SqT.of upd_same), fun l nl => ?_⟩
      have s3 := s2.trans (same_new (o := .lst ys) nl)
      exact k l ys _ (s2.free nl) s3 upd_same (by rw [← kids_pts hv]; exact h2.mono (Same.ts s3))

/-! ### formulas: parts, sizes -/
theorem subs_eq (f : Fm) : f.subs = f :: f.kids.flatMap Fm.subs := by
  cases f <;> simp [Fm.subs, Fm.kids]
theorem over_mono {N M : List Str} (h : ∀ n ∈ N, n ∈ M) : ∀ {f : Fm}, f.over N = true → f.over M = true
  | .var n, q => decide_eq_true (h n (of_decide_eq_true q))
  | .fal, _ => rfl
  | .and a b, q => by
    have q' : (a.over N && b.over N) = true := q
    rw [Bool.and_eq_true] at q'
    show (a.over M && b.over M) = true
    rw [over_mono h q'.1, over_mono h q'.2]; rfl
  | .or a b, q => by
    have q' : (a.over N && b.over N) = true := q
    rw [Bool.and_eq_true] at q'
    show (a.over M && b.over M) = true
    rw [over_mono h q'.1, over_mono h q'.2]; rfl
  | .imp a b, q => by
    have q' : (a.over N && b.over N) = true := q
    rw [Bool.and_eq_true] at q'
    show (a.over M && b.over M) = true
    rw [over_mono h q'.1, over_mono h q'.2]; rfl
  | .box a, q => over_mono (f := a) h q
theorem kids_over {N : List Str} {f g : Fm} (h : f.over N = true) (hg : g ∈ f.kids) : g.over N = true := by
  cases f with
  | var n => cases hg
  | fal => cases hg
  | box a =>
    rw [List.mem_singleton.mp hg]
    exact h
  | _ a b =>
    have q' : (a.over N && b.over N) = true := h
    rw [Bool.and_eq_true] at q'
    rcases List.mem_cons.mp hg with rfl | hg
    · exact q'.1
    · rw [List.mem_singleton.mp hg]
      exact q'.2
theorem subs_ok {N : List Str} : ∀ (n : Nat) {f g : Fm}, f.ht ≤ n → f.over N = true → g ∈ f.subs → g.over N = true ∧ g.ht ≤ f.ht
  | 0, f, _, h, _, _ => absurd f.ht_pos (by omega)
  | n + 1, f, g, h, ho, hg => by
    rw [subs_eq] at hg
    rcases List.mem_cons.mp hg with rfl | hg
    · exact ⟨ho, Nat.le_refl _⟩
    · obtain ⟨k, hk, hg⟩ := List.mem_flatMap.mp hg
      have hh := kids_ht hk
      obtain ⟨a, b⟩ := subs_ok n (by omega) (kids_over ho hk) hg
      exact ⟨a, by omega⟩
theorem sz_ht : ∀ f : Fm, f.sz + 1 ≤ 2 ^ f.ht
  | .var n => by show 1 + 1 ≤ 2 ^ 1; decide
  | .fal => by decide
  | .and a b => by
    have h1 := sz_ht a
    have h2 := sz_ht b
    have h3 : 2 ^ a.ht ≤ 2 ^ max a.ht b.ht := Nat.pow_le_pow_right (by decide) (Nat.le_max_left _ _)
    have h4 : 2 ^ b.ht ≤ 2 ^ max a.ht b.ht := Nat.pow_le_pow_right (by decide) (Nat.le_max_right _ _)
    show a.sz + b.sz + 1 + 1 ≤ 2 ^ (max a.ht b.ht + 1)
    rw [Nat.pow_succ]
    omega
  | .or a b => by
    have h1 := sz_ht a
    have h2 := sz_ht b
    have h3 : 2 ^ a.ht ≤ 2 ^ max a.ht b.ht := Nat.pow_le_pow_right (by decide) (Nat.le_max_left _ _)
    have h4 : 2 ^ b.ht ≤ 2 ^ max a.ht b.ht := Nat.pow_le_pow_right (by decide) (Nat.le_max_right _ _)
    show a.sz + b.sz + 1 + 1 ≤ 2 ^ (max a.ht b.ht + 1)
    rw [Nat.pow_succ]
    omega
  | .imp a b => by
    have h1 := sz_ht a
    have h2 := sz_ht b
    have h3 : 2 ^ a.ht ≤ 2 ^ max a.ht b.ht := Nat.pow_le_pow_right (by decide) (Nat.le_max_left _ _)
    have h4 : 2 ^ b.ht ≤ 2 ^ max a.ht b.ht := Nat.pow_le_pow_right (by decide) (Nat.le_max_right _ _)
    show a.sz + b.sz + 1 + 1 ≤ 2 ^ (max a.ht b.ht + 1)
    rw [Nat.pow_succ]
    omega
  | .box a => by
    have h1 := sz_ht a
    show a.sz + 1 + 1 ≤ 2 ^ (a.ht + 1)
    rw [Nat.pow_succ]
    omega

/-! ### formulas made anew from the values of their parts -/
/-- the formula with other parts -/
def Fm.mp (φ : Fm → Fm) : Fm → Fm
  | .and a b => .and (φ a) (φ b)
  | .or a b => .or (φ a) (φ b)
  | .imp a b => .imp (φ a) (φ b)
  | .box a => .box (φ a)
  | f => f
theorem mp_d {φ : Fm → Fm} {b : Fm} (hv : b.isVar = false) : (b.mp φ).d = .tuple (.str b.sg :: b.kids.map fun c => (φ c).d) := by
  cases b <;> first | rfl | cases hv
theorem rs_im {K : PySem.W.Frag} {φ : Fm → Fm} {H : Hp} : ∀ {us : List V} {bs : List Fm}, Rs (fun H v c => Im K H v (φ c).d) H us bs → ImAll K H us (bs.map fun c => (φ c).d)
  | [], [], _ => .nil
  | [], _ :: _, h => nomatch h.1
  | _ :: _, [], h => nomatch h.1
  | u :: us, b :: bs, h => .cons (h.2 0 u b rfl rfl) (rs_im ⟨Nat.succ.inj h.1, fun i v c h1 h2 => h.2 (i + 1) v c h1 h2⟩)
theorem rs_two {R : Hp → V → Fm → Prop} {H : Hp} {us : List V} {a b : Fm} (h : Rs R H us [a, b]) : ∃ v u, us = [v, u] ∧ R H v a ∧ R H u b := by
  obtain ⟨h1, h2⟩ := h
  match us, h1 with
  | [v, u], _ => exact ⟨v, u, rfl, h2 0 v a rfl rfl, h2 1 u b rfl rfl⟩
/-- what is promised of the function that tells a formula's value from those of its parts -/
def spVal (K : PySem.W.Frag) (φ : Fm → Fm) : Sp := fun vs H Q _ => ∃ (y : V) (l : Addr) (b : Fm) (us : List V), vs = [y, .ref l] ∧ Im K H y b.d ∧ H l = some (.lst us) ∧ Rs (fun H v c => Im K H v (φ c).d) H us b.kids ∧ ∀ v H', Same H H' → Im K H' v (φ b).d → Q v H'
/-- .. of the def around it -/
def spMk (K : PySem.W.Frag) (TT : List NdefX.NTab) (φ : Fm → Fm) : Sp := fun vs H Q _ => ∃ (x : V) (f : Fm) (n : Nat), vs = [x] ∧ Im K H x f.d ∧ (∀ b ∈ f.subs, Ok1 b) ∧ f.ht ≤ n ∧ f.sz ≤ 100000 ∧ NdefX.TabsN TT H ∧
  ∀ v H', LamX.ExtN H H' → NdefX.TabsN TT H' → Im K H' v (φ f).d → Q v H'
/-- the formula made anew -/
theorem im_mpA {H' : Hp} {φ : Fm → Fm} {b : Fm} {us : List V} {ka : Addr} (hv : b.isVar = false) (hA : ImAll K H' us (b.kids.map fun c => (φ c).d)) (h : SqT K H' ka (.str b.sg :: us)) : Im K H' (.ref ka) (b.mp φ).d := by
  rw [mp_d hv]
  refine .tup h (.cons (.str _) hA) fun y e => ?_
  have e1 : b.sg = "var" := PyData.str.inj (List.cons.inj (PyData.tuple.inj (congrArg PyData.tuple e))).1
  have e2 := sg_var b
  rw [e1, hv] at e2
  exact absurd e2 (by decide +kernel)
theorem im_mp {H H' : Hp} {φ : Fm → Fm} {b : Fm} {us : List V} {ka : Addr} (hv : b.isVar = false) (hR : Rs (fun H v c => Im K H v (φ c).d) H us b.kids) (s : Same H H') (h : H' ka = some (.tup (.str b.sg :: us))) : Im K H' (.ref ka) (b.mp φ).d :=
  im_mpA hv ((rs_im hR).mono (Same.ts s)) (SqT.of h)

def spLawAll (K : PySem.W.Frag) (n : Nat) : Sp := fun vs H Q _ => ∃ (x : V) (f : Fm), vs = [x] ∧ Im K H x f.d ∧ f.ht < n ∧ f.sz ≤ 100000 ∧ ∀ (p : Addr) (ys : List V) (H' : Hp), H p = none → Same H H' → H' p = some (.lst ys) → ImAll K H' ys (f.subs.map Fm.d) → Q (.ref p) H'
theorem ok_law_all (T : Top K mg) : ∀ n : Nat, FnOk P w K mg base CX0 n T.f_law_all T.d_law_all ["a"] (spLawAll K n) := by
  intro n
  induction n with
  | zero =>
    refine fn_none fun vs H Q E h => ?_
    obtain ⟨x, f, _, _, h, _⟩ := h
    exact absurd h (Nat.not_lt_zero _)
  | succ n G_law_all =>
    have G_law_parts : FnOk P w K mg base CX0 1 T.f_law_parts T.d_law_parts ["a"] (spLawParts K) := ok_law_parts T
    refine T.F_law_all.ok sc_law_all (fun vs H Q E h => ?_) (fun cdv A outer s H vs Q E hr h => ?_)
    · obtain ⟨x, f, rfl, _⟩ := h
      rfl
    obtain ⟨x, f, rfl, hx, hh, hz, k⟩ := h
    have hn1 : 1 ≤ n := by
      have := f.ht_pos
      omega
    refine ⟨_, (pss_cons (ps_set (i := 1) sc_law_all.nd rfl (.inl rfl) (pe_lst (pa_cons (pv 0) pa_nil)))
    (pss_cons (ps_for PassesOwn.never rfl (pi_list (pe_call G_law_parts (hr.mono (by omega)) (by rfl) T.m_law_parts T.F_law_parts.kp T.b_law_parts .nil pass0 (pa_cons (pv 0) pa_nil))) (pg_name (i := 2) sc_law_all.nd rfl (.inl rfl))
      (pss_one (ps_set (i := 1) sc_law_all.nd rfl (.inl rfl) (pe_op op_cat (pv 1) (pe_call G_law_all (hr.mono (by omega)) (by rfl) T.m_law_all T.F_law_all.kp T.b_law_all .nil pass0 (pa_cons (pv 2) pa_nil))))))
    (pss_one (ps_ret (pv 1))))), ?_⟩
    refine ⟨_, rfl, (by show 1 ≤ sizeLine; decide), fun d nd => ?_⟩
    have s1 := same_new (o := .lst [x]) nd
    refine ⟨_, rfl, x, f, rfl, hx.mono (Same.ts s1), fun p ys H2 np s2 hp iy => ⟨p, rfl, ⟨_, SqL.of hp⟩, ?_⟩⟩
    have hyl := fms_len iy
    have hkz := kids_sz f
    refine for_list (K := K) (a := p) (xs := ys) (fun i σ H3 => ∃ (e : Addr) (zs : List V) (v : Option V), σ = [some x, some (.ref e), v] ∧ Same H2 H3 ∧ H e = none ∧ H3 e = some (.lst zs) ∧ ImAll K H3 zs ((f :: (f.kids.take i).flatMap Fm.subs).map Fm.d))
      ⟨d, [x], none, rfl, L2.Same.refl _, nd, s2 _ _ upd_same, .cons (hx.mono (Same.ts (s1.trans s2))) .nil⟩ (fun i σ H3 _ h => by
        obtain ⟨_, _, _, _, h, _⟩ := h
        exact SqL.of (h _ _ hp)) ?_ ?_
    · rintro i y σ H3 hy ⟨e, zs, v, rfl, s3, ne, he, iz⟩
      obtain ⟨g, hg, ig⟩ := imAll_of iy hy
      have hgm : g ∈ f.kids := List.mem_of_getElem? hg
      have hgh := kids_ht hgm
      have hgz : g.sz ≤ (f.kids.map Fm.sz).sum := by
        have := sub_sum Fm.sz (List.singleton_sublist.mpr hgm)
        simpa using this
      refine ⟨_, rfl, _, rfl, y, g, rfl, ig.mono (Same.ts s3), by omega, by omega, fun q ws H4 nq s4 hq iq => ?_⟩
      have hzl := fms_len iz
      have hql := fms_len iq
      have hcat : f :: (f.kids.take (i + 1)).flatMap Fm.subs = (f :: (f.kids.take i).flatMap Fm.subs) ++ g.subs := by
        rw [take_snoc hg, List.flatMap_append]
        simp
      have hsz : zs.length + ws.length ≤ 100000 := by
        have h1 : (f :: (f.kids.take (i + 1)).flatMap Fm.subs).length ≤ f.subs.length := by
          rw [subs_eq f, List.length_cons, List.length_cons]
          refine Nat.succ_le_succ ?_
          have : f.kids.flatMap Fm.subs = (f.kids.take (i + 1)).flatMap Fm.subs ++ (f.kids.drop (i + 1)).flatMap Fm.subs := by
            rw [← List.flatMap_append, List.take_append_drop]
          rw [this, List.length_append]
          exact Nat.le_add_right _ _
        rw [hcat, List.length_append] at h1
        have h2 := subs_len f
        have h3 := subs_len g
        omega
      refine ⟨e, q, zs, ws, rfl, rfl, s4 _ _ he, hq, Nat.le_trans hsz (by decide), fun r nr => ?_⟩
      have s5 := same_new (o := .lst (zs ++ ws)) nr
      have sa := (s3.trans s4).trans s5
      refine ⟨r, _, _, rfl, sa, ((s1.trans s2).trans (s3.trans s4)).free nr, upd_same, ?_⟩
      rw [hcat, List.map_append]
      exact imAll_append ((iz.mono (Same.ts s4)).mono (Same.ts s5)) (iq.mono (Same.ts s5))
    · rintro σ H3 ⟨e, zs, v, rfl, s3, ne, he, iz⟩
      rw [hyl, List.take_length, ← subs_eq] at iz
      exact ⟨_, rfl, k e zs H3 ne ((s1.trans s2).trans s3) he iz⟩

/-! ### formulas as keys -/
theorem nkd_fm : ∀ {f g : Fm}, NS.nkd f.d = NS.nkd g.d → f = g
  | .var n, g, h => by
    cases g with
    | var m =>
      simp only [Fm.d, NS.nkd, NS.nkds, NestedKey.tup.injEq, List.cons.injEq, NestedKey.text.injEq, true_and, and_true] at h
      rw [h]
    | _ =>
      simp only [Fm.d, NS.nkd, NS.nkds, NestedKey.tup.injEq, List.cons.injEq, NestedKey.text.injEq] at h
      exact absurd h.1 (by decide +kernel)
  | .fal , g, h => by
    cases g with
    | fal  =>
      rfl
    | _ =>
      simp only [Fm.d, NS.nkd, NS.nkds, NestedKey.tup.injEq, List.cons.injEq, NestedKey.text.injEq] at h
      exact absurd h.1 (by decide +kernel)
  | .and a b, g, h => by
    cases g with
    | and a' b' =>
      simp only [Fm.d, NS.nkd, NS.nkds, NestedKey.tup.injEq, List.cons.injEq, NestedKey.text.injEq, true_and, and_true] at h
      rw [nkd_fm h.1, nkd_fm h.2]
    | _ =>
      simp only [Fm.d, NS.nkd, NS.nkds, NestedKey.tup.injEq, List.cons.injEq, NestedKey.text.injEq] at h
      exact absurd h.1 (by decide +kernel)
  | .or a b, g, h => by
    cases g with
    | or a' b' =>
      simp only [Fm.d, NS.nkd, NS.nkds, NestedKey.tup.injEq, List.cons.injEq, NestedKey.text.injEq, true_and, and_true] at h
      rw [nkd_fm h.1, nkd_fm h.2]
    | _ =>
      simp only [Fm.d, NS.nkd, NS.nkds, NestedKey.tup.injEq, List.cons.injEq, NestedKey.text.injEq] at h
      exact absurd h.1 (by decide +kernel)
  | .imp a b, g, h => by
    cases g with
    | imp a' b' =>
      simp only [Fm.d, NS.nkd, NS.nkds, NestedKey.tup.injEq, List.cons.injEq, NestedKey.text.injEq, true_and, and_true] at h
      rw [nkd_fm h.1, nkd_fm h.2]
    | _ =>
      simp only [Fm.d, NS.nkd, NS.nkds, NestedKey.tup.injEq, List.cons.injEq, NestedKey.text.injEq] at h
      exact absurd h.1 (by decide +kernel)
  | .box a, g, h => by
    cases g with
    | box a' =>
      simp only [Fm.d, NS.nkd, NS.nkds, NestedKey.tup.injEq, List.cons.injEq, NestedKey.text.injEq, true_and, and_true] at h
      rw [nkd_fm h]
    | _ =>
      simp only [Fm.d, NS.nkd, NS.nkds, NestedKey.tup.injEq, List.cons.injEq, NestedKey.text.injEq] at h
      exact absurd h.1 (by decide +kernel)
theorem kbl_fm : ∀ f : Fm, NS.kbl f.d = true
  | .var n => rfl
  | .fal => rfl
  | .and a b => by simp [Fm.d, NS.kbl, NS.kbls, kbl_fm a, kbl_fm b]
  | .or a b => by simp [Fm.d, NS.kbl, NS.kbls, kbl_fm a, kbl_fm b]
  | .imp a b => by simp [Fm.d, NS.kbl, NS.kbls, kbl_fm a, kbl_fm b]
  | .box a => by simp [Fm.d, NS.kbl, NS.kbls, kbl_fm a]
theorem keyable_fm {f : Fm} (h : f.ht ≤ 8) : NS.Keyable f.d := ⟨kbl_fm f, by rw [Fm.depth]; exact h, by cases f <;> exact ⟨_, rfl⟩⟩
abbrev Bx := List (Fm × Addr × V × Fm)
def bxVal (L : Bx) (f : Fm) : Option Fm := (L.find? fun x => decide (x.1 = f)).map fun x => x.2.2.2
def Fm.rb (L : Bx) : Fm → Fm
  | .var n => .var n
  | .fal => .fal
  | .and a b => .and (a.rb L) (b.rb L)
  | .or a b => .or (a.rb L) (b.rb L)
  | .imp a b => .imp (a.rb L) (b.rb L)
  | .box a => (bxVal L (.box a)).getD (.box (a.rb L))
def bxRows (L : Bx) : List ND.NR := L.map fun x => (NS.nkd x.1.d, x.2.1, x.2.2.1)
/-- a dict of boxes to formulas -/
structure BxAt (P : Program) (w : World) (K : PySem.W.Frag) (H : Hp) (d : Addr) (L : Bx) : Prop where
  at_ : H d = some (ND.NDO P w d (bxRows L))
  nd : (L.map (·.1)).Nodup
  ok : ∀ x ∈ L, x.1.isBox = true ∧ x.1.ht ≤ 7 ∧ x.1.over nms = true ∧ x.2.2.2.ht ≤ 8 ∧ x.2.2.2.over nms = true ∧ Im K H (.ref x.2.1) x.1.d ∧ Im K H x.2.2.1 x.2.2.2.d
theorem BxAt.keep {K : PySem.W.Frag} {H H' : Hp} {d : Addr} {L : Bx} (h : BxAt P w K H d L) (t : TS H H') (k : H' d = H d) : BxAt P w K H' d L :=
  ⟨k.trans h.at_, h.nd, fun x hx => let ⟨a, b, c, e, f, g, i⟩ := h.ok x hx; ⟨a, b, c, e, f, g.mono t, i.mono t⟩⟩
theorem BxAt.same {K : PySem.W.Frag} {H H' : Hp} {d : Addr} {L : Bx} (h : BxAt P w K H d L) (s : L2.Same H H') : BxAt P w K H' d L := h.keep (Same.ts s) ((s _ _ h.at_).trans h.at_.symm)
theorem bx_keys {K : PySem.W.Frag} {H : Hp} {L : Bx} (h : ∀ x ∈ L, x.1.isBox = true ∧ x.1.ht ≤ 7 ∧ x.1.over nms = true ∧ x.2.2.2.ht ≤ 8 ∧ x.2.2.2.over nms = true ∧ Im K H (.ref x.2.1) x.1.d ∧ Im K H x.2.2.1 x.2.2.2.d) : ND.NKeys K H (bxRows L) := fun r hr => by
  obtain ⟨x, hx, rfl⟩ := List.mem_map.mp hr
  obtain ⟨_, h2, _, _, _, h6, _⟩ := h x hx
  exact ⟨x.1.d, h6.dp, keyable_fm (by omega), rfl⟩
theorem bx_val (L : Bx) (f : Fm) : ND.valN (bxRows L) (NS.nkd f.d) = (L.find? fun x => decide (x.1 = f)).map fun x => x.2.2.1 := by
  induction L with
  | nil => rfl
  | cons x r ih =>
    by_cases e : x.1 = f
    · rw [show bxRows (x :: r) = (NS.nkd x.1.d, x.2.1, x.2.2.1) :: bxRows r from rfl, ND.valN_pos (by rw [e]), List.find?_cons_of_pos (by simp [e])]
      rfl
    · rw [show bxRows (x :: r) = (NS.nkd x.1.d, x.2.1, x.2.2.1) :: bxRows r from rfl, ND.valN_neg (fun q => e (nkd_fm q)), ih, List.find?_cons_of_neg (by simp [e])]
theorem bx_get {K : PySem.W.Frag} {H : Hp} {d : Addr} {L : Bx} (h : BxAt P w K H d L) {y : V} {f : Fm} (hy : Im K H y f.d) (hf : f.ht ≤ 8) :
    ∃ o, ND.NGet P w K H d y o ∧ ((o = none ∧ bxVal L f = none) ∨ ∃ v g, o = some v ∧ bxVal L f = some g ∧ Im K H v g.d ∧ f.isBox = true) := by
  refine ⟨_, ⟨bxRows L, f.d, .inl h.at_, bx_keys h.ok, hy.dp, keyable_fm hf, rfl⟩, ?_⟩
  rw [bx_val]
  unfold bxVal
  cases e : L.find? fun x => decide (x.1 = f) with
  | none => exact .inl ⟨rfl, rfl⟩
  | some x =>
    obtain ⟨h1, _, _, _, _, _, h7⟩ := h.ok x (List.mem_of_find?_eq_some e)
    have e1 : x.1 = f := by simpa using List.find?_some e
    exact .inr ⟨_, _, rfl, rfl, h7, e1 ▸ h1⟩
abbrev BxOk (K : PySem.W.Frag) (H : Hp) (L : Bx) : Prop := ∀ x ∈ L, x.1.isBox = true ∧ x.1.ht ≤ 7 ∧ x.1.over nms = true ∧ x.2.2.2.ht ≤ 8 ∧ x.2.2.2.over nms = true ∧ Im K H (.ref x.2.1) x.1.d ∧ Im K H x.2.2.1 x.2.2.2.d
theorem BxOk.mono {K : PySem.W.Frag} {H H' : Hp} {L : Bx} (h : BxOk K H L) (t : TS H H') : BxOk K H' L := fun x hx => let ⟨a, b, c, e, f, g, i⟩ := h x hx; ⟨a, b, c, e, f, g.mono t, i.mono t⟩
theorem bx_ts {H : Hp} {d : Addr} {L M : List ND.NR} (h : H d = some (ND.NDO P w d L)) : TS H (upd H d (ND.NDO P w d M)) := TS.but h (fun _ e => nomatch e) (fun _ _ e => nomatch e) fun b o e n => by rw [upd_ne n]; exact e
theorem bx_find {L : Bx} {g : Fm} : (∃ x, L.find? (fun x => decide (x.1 = g)) = some x) ↔ g ∈ L.map (·.1) := by
  constructor
  · rintro ⟨x, hx⟩
    exact List.mem_map.mpr ⟨x, List.mem_of_find?_eq_some hx, by simpa using List.find?_some hx⟩
  · intro h
    obtain ⟨x, hx, e⟩ := List.mem_map.mp h
    cases hf : L.find? (fun x => decide (x.1 = g)) with
    | some u => exact ⟨u, rfl⟩
    | none => exact absurd e (by simpa using List.find?_eq_none.mp hf x hx)
theorem bx_new {K : PySem.W.Frag} {H : Hp} {d : Addr} {L : Bx} (h : BxAt P w K H d L) {x : Fm × Addr × V × Fm} (hn : x.1 ∉ L.map (·.1)) (hx : BxOk K H [x]) :
    ND.putN (bxRows L) (NS.nkd x.1.d) x.2.1 x.2.2.1 = bxRows (L ++ [x]) ∧ BxAt P w K (upd H d (ND.NDO P w d (bxRows (L ++ [x])))) d (L ++ [x]) := by
  have hv : ND.valN (bxRows L) (NS.nkd x.1.d) = none := by
    rw [bx_val]
    cases hf : L.find? (fun y => decide (y.1 = x.1)) with
    | none => rfl
    | some u => exact absurd (bx_find.mp ⟨u, hf⟩) hn
  refine ⟨?_, upd_same, ?_, ?_⟩
  · unfold ND.putN
    rw [hv, bxRows, bxRows, List.map_append]
    rfl
  · rw [List.map_append]
    refine List.nodup_append.mpr ⟨h.nd, List.nodup_cons.mpr ⟨fun h => (nomatch h), .nil⟩, fun z hz u hu e => hn ?_⟩
    have e2 : z = x.1 := e.trans (List.mem_singleton.mp hu)
    exact e2 ▸ hz
  · refine BxOk.mono (fun y hy => ?_) (bx_ts h.at_)
    rcases List.mem_append.mp hy with hy | hy
    · exact h.ok y hy
    · exact hx y hy
theorem bx_put {K : PySem.W.Frag} {H : Hp} {d : Addr} {L : Bx} (h : BxAt P w K H d L) {x : Fm × Addr × V × Fm} (hx : BxOk K H [x]) :
    ∃ L' : Bx, ND.putN (bxRows L) (NS.nkd x.1.d) x.2.1 x.2.2.1 = bxRows L' ∧ BxAt P w K (upd H d (ND.NDO P w d (bxRows L'))) d L' ∧ L'.length ≤ L.length + 1 := by
  by_cases hn : x.1 ∈ L.map (·.1)
  · refine ⟨L.map fun y => if y.1 = x.1 then (y.1, y.2.1, x.2.2.1, x.2.2.2) else y, ?_, ⟨upd_same, ?_, ?_⟩, by rw [List.length_map]; omega⟩
    · have hv : (ND.valN (bxRows L) (NS.nkd x.1.d)).isSome = true := by
        rw [bx_val]
        obtain ⟨u, hu⟩ := bx_find.mpr hn
        rw [hu]
        rfl
      unfold ND.putN
      rw [if_pos hv, bxRows, bxRows, List.map_map, List.map_map]
      refine List.map_congr_left fun y _ => ?_
      by_cases e : y.1 = x.1
      · simp [e]
      · have : ¬ NS.nkd y.1.d = NS.nkd x.1.d := fun q => e (nkd_fm q)
        simp [e, this]
    · have : (L.map fun y => if y.1 = x.1 then (y.1, y.2.1, x.2.2.1, x.2.2.2) else y).map (·.1) = L.map (·.1) := by
        rw [List.map_map]
        refine List.map_congr_left fun y _ => ?_
        by_cases e : y.1 = x.1 <;> simp [e]
      rw [this]
      exact h.nd
    · refine BxOk.mono (fun y hy => ?_) (bx_ts h.at_)
      obtain ⟨z, hz, rfl⟩ := List.mem_map.mp hy
      by_cases e : z.1 = x.1
      · rw [if_pos e]
        obtain ⟨a1, a2, a3, _, _, a6, _⟩ := h.ok z hz
        obtain ⟨_, _, _, b4, b5, _, b7⟩ := hx x List.mem_cons_self
        exact ⟨a1, a2, a3, b4, b5, a6, b7⟩
      · rw [if_neg e]
        exact h.ok z hz
  · obtain ⟨h1, h2⟩ := bx_new h hn hx
    exact ⟨_, h1, h2, by rw [List.length_append]; exact Nat.le_refl _⟩
theorem rb_mp {L : Bx} {b : Fm} (h : b.isVar = false) (n : bxVal L b = none) : b.rb L = b.mp (Fm.rb L) := by
  cases b with
  | box a => rw [Fm.rb, n]; rfl
  | var _ => cases h
  | _ => rfl
theorem rb_mp2 {L : Bx} {b : Fm} (h : b.isVar = false) (n : b.isBox = false) : b.rb L = b.mp (Fm.rb L) := by
  cases b with
  | box a => cases n
  | var _ => cases h
  | _ => rfl
theorem rb_val {L : Bx} {b g : Fm} (h : b.isBox = true) (n : bxVal L b = some g) : b.rb L = g := by
  cases b <;> first | cases h | skip
  rename_i a
  show (bxVal L (.box a)).getD (.box (a.rb L)) = g
  rw [n]
  rfl
theorem rb_var {L : Bx} {b : Fm} (h : b.isVar = true) : b.rb L = b := by
  cases b <;> first | rfl | cases h
/-- the program's look-up -/
def spValAt (P : Program) (w : World) (K : PySem.W.Frag) : Sp := fun vs H Q _ => ∃ (d : Addr) (L : Bx) (y z : V) (f g : Fm), vs = [.ref d, y, z] ∧ BxAt P w K H d L ∧ L.length ≤ 1000 ∧ Im K H y f.d ∧ f.over nms = true ∧ f.ht ≤ 50 ∧ Im K H z g.d ∧
  ∀ v H', Same H H' → Im K H' v (if f.isBox = true then (bxVal L f).getD g else g).d → Q v H'
theorem ok_value_at (T : Top K mg) : FnOk P w K mg base CX0 1 T.f_value_at T.d_value_at ["values", "a", "otherwise"] (spValAt P w K) := by
  refine T.F_value_at.ok sc_value_at (fun vs H Q E h => ?_) (fun cdv A outer s H vs Q E hr h => ?_)
  · obtain ⟨d, L, y, z, f, g, rfl, _⟩ := h
    rfl
  obtain ⟨d, L, y, z, f, g, rfl, hB, hl, hy, fo, fh, hz, k⟩ := h
  have hu64 := hr.units
  have hu := Nat.lt_of_le_of_lt (Nat.add_le_add_left (by decide : 1 ≤ 64) _) hu64
  refine ⟨_, (C8.pss_cut (ps_if (pt_cmpR op_eq (pe_ix ix_tup (pv 1) pe_int (fun _ _ => rfl)) pe_str (nomark _))
      (pss_one (ps_lock (ps_for PassesOwn.never rfl (ND.pi_itemsN (pv 0)) (pg_tup rfl (pgs_cons (pg_name (i := 3) sc_value_at.nd rfl (.inl rfl)) (pgs_cons (pg_name (i := 4) sc_value_at.nd rfl (.inl rfl)) pgs_nil)))
      (pss_one (ps_if (pt_cmpR (op_eqD hu64) (pv 3) (pv 1) (nomark _))
      (pss_one (ps_ret (pv 4)))
      pss_nil)))))
      pss_nil)
    (pss_one (ps_ret (pv 2)))), ?_⟩
  obtain ⟨ba, ys, rfl, h1, h2⟩ := im_inv hy
  refine ⟨fun σ H1 => ∃ o3 o4 : Option V, σ = [some (.ref d), some (.ref ba), some z, o3, o4] ∧ Same H H1 ∧ (f.isBox = true → bxVal L f = none), ?_, ?_⟩
  · refine ⟨_, rfl, ba, _, 0, _, rfl, rfl, h1, atI_nat (j := 0) rfl, rfl, _, rfl, ?_⟩
    rw [sg_box]
    cases hb : f.isBox with
    | false => exact iteF ⟨none, none, rfl, L2.Same.refl _, fun e => nomatch e⟩
    | true =>
      refine iteT ⟨d, _, hB.at_, trivial, fun od => ?_⟩
      have hF : upd H d (.frz od (ND.NDO P w d (bxRows L))) d = some (.frz od (ND.NDO P w d (bxRows L))) := upd_same
      have kF : ∀ b o, H b = some o → b ≠ d → upd H d (.frz od (ND.NDO P w d (bxRows L))) b = some o := fun b o e n => by
        rw [upd_ne n]
        exact e
      generalize upd H d (.frz od (ND.NDO P w d (bxRows L))) = HF at hF kF
      have tF : TS H HF := TS.but hB.at_ (fun _ e => nomatch e) (fun _ _ e => nomatch e) kF
      have back : ∀ {H3 : Hp}, (∀ b o, HF b = some o → H3 b = some o) → Same H (upd H3 d (ND.NDO P w d (bxRows L))) := fun {H3} k3 b o e => by
        by_cases c : b = d
        · subst c
          rw [upd_same]
          exact hB.at_.symm.trans e
        · rw [upd_ne c]
          exact k3 _ _ (kF _ _ e c)
      refine ⟨_, rfl, d, od, _, rfl, hF, ?_⟩
      refine for_it ND.walk_itemsN (fun i σ H3 => ∃ o3 o4 : Option V, σ = [some (.ref d), some (.ref ba), some z, o3, o4] ∧ (∀ b o, HF b = some o → H3 b = some o) ∧ ∀ x ∈ L.take i, x.1 ≠ f)
        ⟨none, none, rfl, fun _ _ e => e, fun x hx => (nomatch hx)⟩ (fun i σ H3 _ h => by
          obtain ⟨_, _, _, h, _⟩ := h
          exact h _ _ hF) ?_ ?_
      · rintro i y σ H3 H4 hi ⟨o3, o4, rfl, k3, hne⟩ ⟨tt, q1, q2, rfl, ntt, rfl, hq1, hq2⟩
        simp only [bxRows, List.getElem?_map] at hq1 hq2
        cases hx : L[i]? with
        | none => rw [hx] at hq1; cases hq1
        | some x =>
        rw [hx] at hq1 hq2
        obtain rfl : V.ref x.2.1 = q1 := Option.some.inj hq1
        obtain rfl : x.2.2.1 = q2 := Option.some.inj hq2
        have hxm : x ∈ L := List.mem_of_getElem? hx
        obtain ⟨b1, b2, b3, b4, b5, b6, b7⟩ := hB.ok x hxm
        have s4 := same_new (o := .tup [.ref x.2.1, x.2.2.1]) ntt
        have k4 : ∀ b o, HF b = some o → upd H3 tt (.tup [.ref x.2.1, x.2.2.1]) b = some o := fun b o e => s4 _ _ (k3 _ _ e)
        have t4 : TS H (upd H3 tt (.tup [.ref x.2.1, x.2.2.1])) := tF.trans (Same.ts k4)
        refine ⟨tt, _, rfl, SqT.of upd_same, rfl, _, _, rfl, _, _, rfl, rfl, ?_⟩
        refine ⟨_, rfl, _, rfl, _, _, (b6.mono t4).dp, (hy.mono t4).dp, fm_shapedR nms_ok b3 (by omega), fm_shapedR nms_ok fo (by omega), _, rfl, ?_⟩
        rw [Fm.eqv]
        by_cases e : x.1 = f
        · rw [decide_eq_true e]
          have hv : bxVal L f = some x.2.2.2 := by
            unfold bxVal
            have : L.find? (fun x => decide (x.1 = f)) = some x := by
              cases hf : L.find? fun x => decide (x.1 = f) with
              | none => exact absurd e (by simpa using List.find?_eq_none.mp hf x hxm)
              | some u =>
                have hu1 : u.1 = f := by simpa using List.find?_some hf
                obtain ⟨j, hj⟩ := List.getElem?_of_mem (List.mem_of_find?_eq_some hf)
                have hij : j = i := by
                  have n1 : (L.map (·.1))[j]? = some f := by rw [List.getElem?_map, hj]; exact congrArg some hu1
                  have n2 : (L.map (·.1))[i]? = some f := by rw [List.getElem?_map, hx]; exact congrArg some e
                  exact (List.getElem?_inj (List.getElem?_eq_some_iff.mp n1).1 hB.nd).mp (n1.trans n2.symm)
                rw [hij, hx] at hj
                exact hj.symm
            rw [this]
            rfl
          refine iteT ⟨_, rfl, k4 _ _ hF, k _ _ (back k4) ?_⟩
          rw [hb, if_pos rfl, hv]
          refine b7.mono ((Same.ts (back k4)))
        · rw [decide_eq_false e]
          refine iteF ⟨_, _, rfl, k4, fun u hu => ?_⟩
          rw [take_snoc hx] at hu
          rcases List.mem_append.mp hu with hu | hu
          · exact hne u hu
          · rw [List.mem_singleton.mp hu]
            exact e
      · rintro σ H3 ⟨o3, o4, rfl, k3, hne⟩
        refine ⟨k3 _ _ hF, _, _, rfl, back k3, fun _ => ?_⟩
        rw [bxRows, List.length_map, List.take_length] at hne
        unfold bxVal
        rw [List.find?_eq_none.mpr fun u hu => by simpa using hne u hu]
        rfl
  · rintro σ H1 ⟨o3, o4, rfl, s1, hno⟩
    refine ⟨_, rfl, k _ _ s1 ?_⟩
    cases hb : f.isBox with
    | false => exact hz.mono (Same.ts s1)
    | true =>
      rw [if_pos rfl, hno hb]
      exact hz.mono (Same.ts s1)

def spRbV (P : Program) (w : World) (K : PySem.W.Frag) (d : Addr) (L : Bx) : List (Option V) → Sp := fun ws vs H Q _ => ∃ (y : V) (l : Addr) (b : Fm) (us : List V), ws = [some (.ref d)] ∧ vs = [y, .ref l] ∧ BxAt P w K H d L ∧ L.length ≤ 1000 ∧
  Im K H y b.d ∧ b.over nms = true ∧ b.ht ≤ 50 ∧ H l = some (.lst us) ∧ Rs (fun H v c => Im K H v (c.rb L).d) H us b.kids ∧ ∀ v H', Same H H' → Im K H' v (b.rb L).d → Q v H'
theorem nok_rb (T : Top K mg) {f c' : Addr} {q : Str} {cl : List (Str × Addr)} {d : Addr} {L : Bx} : NdefX.NOk P w K mg base CX0 2 f (NdefX.NF.of s_replace_boxes_value_of "value_of" q cl c') ["b", "parts"] ["values"] (spRbV P w K d L) := by
  have G_value_at : FnOk P w K mg base CX0 1 T.f_value_at T.d_value_at ["values", "a", "otherwise"] (spValAt P w K) := ok_value_at T
  refine NdefX.nok_of nsc_replace_boxes_value_of (fun doc pm ctv us hl => match us, hl with | [_, _], _ => rfl) (fun ws vs H Q E h => ?_) (fun A outer s H vs ws Q E hr hf hc hw h => ?_)
  · obtain ⟨y, l, b, us, _, rfl, _⟩ := h
    rfl
  obtain ⟨y, l, b, us, rfl, rfl, hS, hL, hy, bo, bh, hl, hR, kQ⟩ := h
  have hu64 := hr.units
  have hu := Nat.lt_of_le_of_lt (Nat.add_le_add_left (by decide : 1 ≤ 64) _) hu64
  refine ⟨_, (pss_cons (ps_if (pt_cmpR op_eq (pe_ix ix_tup (pv 0) pe_int (fun _ _ => rfl)) pe_str (nomark _))
      (pss_one (ps_ret (pv 0)))
      pss_nil)
    (pss_one (ps_ret (pe_call G_value_at (hr.mono (by omega)) (by rfl) T.m_value_at T.F_value_at.kp T.b_value_at .nil pass0 (pa_cons (pv 2) (pa_cons (pv 0) (pa_cons (pe_tup (pa_cons (pe_ix ix_tup (pv 0) pe_int (fun _ _ => rfl)) (StX.pa_star (pv 1) pa_nil))) pa_nil))))))), ?_⟩
  obtain ⟨ba, ys, rfl, h1, h2⟩ := im_inv hy
  have hle := kids_le2 b
  have hlen := hR.1
  refine ⟨_, rfl, ba, _, 0, _, rfl, rfl, h1, atI_nat (j := 0) rfl, rfl, _, rfl, ?_⟩
  rw [sg_var]
  cases hv : b.isVar with
  | true => exact iteT ⟨_, rfl, kQ _ H (L2.Same.refl _) (by rw [rb_var hv]; exact hy)⟩
  | false =>
    refine iteF ⟨_, rfl, _, rfl, _, rfl, ba, _, 0, _, rfl, rfl, h1, atI_nat (j := 0) rfl, _, rfl, l, _, rfl, .inr (SqL.of hl), ?_⟩
    refine ⟨?_, fun p np => ?_⟩
    · rw [List.append_nil]
      show us.length + 1 ≤ sizeLine
      exact Nat.le_of_lt (small1000 (by omega))
    · have s1 := same_new (o := .tup (.str b.sg :: (us ++ []))) np
      refine ⟨d, L, .ref ba, .ref p, b, b.mp (Fm.rb L), rfl, hS.same s1, hL, hy.mono (Same.ts s1), bo, bh, im_mp hv hR s1 (by rw [upd_same, List.append_nil]), fun v H' s2 iv => kQ _ _ (s1.trans s2) ?_⟩
      cases hb : b.isBox with
      | false =>
        rw [hb] at iv
        rw [rb_mp2 hv hb]
        exact iv
      | true =>
        rw [hb, if_pos rfl] at iv
        cases hx : bxVal L b with
        | none =>
          rw [hx] at iv
          rw [rb_mp hv hx]
          exact iv
        | some g =>
          rw [hx] at iv
          rw [rb_val hb hx]
          exact iv
theorem on_ts {cl : List (Str × Addr)} {H H' : Hp} (n : ∀ b, AtC cl b → H' b = none) : TS H' (onC cl H H') := ⟨fun b xs h => by
  rcases h with h | ⟨o, h⟩
  · exact .inl (on_new n h)
  · exact .inr ⟨o, on_new n h⟩, fun b xs h => on_new n h⟩
theorem cap_rb {K : PySem.W.Frag} {cl : List (Str × Addr)} {d : Addr} {L : Bx} {H6 : Hp} {y : V} {l : Addr} {us : List V} {b : Fm} {Q1 : VK} {E : XK} (W6 : WithC cl ["values"] [some (.ref d)] H6) (hS : BxAt P w K H6 d L) (hL : L.length ≤ 1000)
    (hy : Im K H6 y b.d) (bo : b.over nms = true) (bh : b.ht ≤ 50) (hl : H6 l = some (.lst us)) (hR : Rs (fun H v c => Im K H v (c.rb L).d) H6 us b.kids) (k1 : ∀ v H2, Same H6 H2 → Im K H2 v (b.rb L).d → Q1 v H2) : capSp cl [some (.ref d)] (spRbV P w K d L) [y, .ref l] H6 Q1 E := by
  refine ⟨y, l, b, us, rfl, rfl, hS.keep W6.ts ?_, hL, hy.mono W6.ts, bo, bh, W6.off hl (fun _ z => nomatch z), ⟨hR.1, fun i v c h1 h2 => (hR.2 i v c h1 h2).mono W6.ts⟩, fun v H' s' hi noC => k1 _ _ (on_same s') (hi.mono (on_ts noC))⟩
  rw [W6.off hS.at_ (fun _ z => nomatch z), hS.at_]
def spRb (P : Program) (w : World) (K : PySem.W.Frag) (TT : List NdefX.NTab) : Sp := fun vs H Q _ => ∃ (x : V) (d : Addr) (L : Bx) (f : Fm), vs = [x, .ref d] ∧ BxAt P w K H d L ∧ L.length ≤ 1000 ∧ Im K H x f.d ∧ f.over nms = true ∧ f.ht ≤ 10 ∧ NdefX.TabsN TT H ∧
  ∀ v H', LamX.ExtN H H' → NdefX.TabsN TT H' → Im K H' v (f.rb L).d → Q v H'
theorem ok_replace_boxes (T : Top K mg) (TBs : ∀ p ∈ T.cs, LamX.TabB base mg p.1 p.2) : FnOk P w K mg base CX0 6 T.f_replace_boxes T.d_replace_boxes ["a", "values"] (spRb P w K T.tabs) := by
  have G_folded : FnOk P w K mg base CX0 5 T.f_folded T.d_folded ["a", "value_of"] (spFolded P w K mg base) := ok_folded T
  have hm : (T.P_replace_boxes, fun (_ _ : Nat) => (("replace_boxes.<locals>.value_of" : String) : Str)) ∈ T.tabs := by simp [Top.tabs]
  have hun := tab_uniq (T := T.tabs) T.dT hm
  have TB := TBs (T.c_replace_boxes, T.P_replace_boxes) (by simp [Top.cs])
  refine T.C_replace_boxes.ok sc_replace_boxes (fun vs H Q E h => ?_) (fun A outer s H vs Q E hr h => ?_)
  · obtain ⟨x, d, L, f, rfl, _⟩ := h
    rfl
  obtain ⟨x, d, L, f, rfl, hS, hL, hx, fo, fh, hT, kQ⟩ := h
  have hok : ∀ g ∈ f.subs, Ok1 g := fun g hg => by
    obtain ⟨a1, a2⟩ := subs_ok 10 fh fo hg
    exact ⟨Fm.lay nms_ok g a1, by omega⟩
  have hsz : f.sz ≤ 100000 := by
    have h1 := sz_ht f
    have h2 : 2 ^ f.ht ≤ 2 ^ 10 := Nat.pow_le_pow_right (by decide) fh
    omega
  refine ⟨_, (pss_cons (NdefX.ps_ndefMS (i := 2) rfl TB rfl hm rfl hun (NdefX.ndef_free fsc_replace_boxes_value_of) rfl rfl rfl sc_replace_boxes.nd rfl (.inl rfl) (.inl rfl))
    (pss_one (ps_ret (pe_callW (fr := ["values"]) (js := [1]) G_folded (hr.mono (by omega)) (by rfl) T.m_folded T.F_folded.kp T.b_folded (fun ok => NdefX.Caps.made (scope := C8.fnScope s_replace_boxes_value_of) ok (NdefX.ndef_free fsc_replace_boxes_value_of) (NdefX.ndef_fr fsc_replace_boxes_value_of) rfl) (fun ok => caps_mem (scope := C8.fnScope s_replace_boxes_value_of) ok (NdefX.ndef_free fsc_replace_boxes_value_of)) (fun _ _ => rfl) (pa_cons (pv 0) (pa_cons (pv 2) pa_nil)))))), ?_⟩
  refine ⟨hT, fun g c' H4 eN nn T4 hg0 hg hc => ?_⟩
  have hS4 := hS.keep (extn_ts eN) ((eN _ _ hS.at_ fun _ z => nomatch z).trans hS.at_.symm)
  refine ⟨_, rfl, _, rfl, fun H5 pl => ?_⟩
  have hS5 := hS4.same pl.same
  refine ⟨x, g, f, _, fun H v c => Im K H v (c.rb L).d, f.ht, rfl, (hx.mono (extn_ts eN)).mono (Same.ts pl.same), hok, Nat.le_refl _, hsz, .cap ((nok_rb T (d := d) (L := L)).mono (by decide)) (pl.same _ _ hg) (pl.same _ _ hc) pl.w (fun _ _ _ _ h => h), fun H H' v b t h => h.mono t.1, fun b H6 y l us Q1 hb s6 hy hl hR k1 => ?_, fun v H6 s6 hv W6 => ?_⟩
  · have W6 := pl.w.same (H' := H6) fun b o u e => s6 _ _ e
    obtain ⟨a1, a2⟩ := subs_ok 10 fh fo hb
    exact cap_rb W6 (hS5.same s6) hL hy a1 (by omega) hl hR k1
  · have s46 := pl.off s6
    exact kQ v _ (eN.trans (LamX.ExtN.of s46)) (T4.ext s46) (hv.mono W6.ts)
/-- the law's own -/
def spPut (P : Program) (w : World) (K : PySem.W.Frag) (n : Nat) : Sp := fun vs H Q _ => ∃ (x : V) (d : Addr) (L : Bx) (f : Fm), vs = [x, .ref d] ∧ BxAt P w K H d L ∧ Im K H x f.d ∧ f.ht < n ∧ f.ht ≤ 8 ∧ ∀ v H', Same H H' → Im K H' v (f.rb L).d → Q v H'
theorem ok_law_put (T : Top K mg) : ∀ n : Nat, FnOk P w K mg base CX0 n T.f_law_put T.d_law_put ["a", "values"] (spPut P w K n) := by
  intro n
  induction n with
  | zero =>
    refine fn_none fun vs H Q E h => ?_
    obtain ⟨x, d, L, f, _, _, _, h, _⟩ := h
    exact absurd h (Nat.not_lt_zero _)
  | succ n G_law_put =>
    have G_law_parts : FnOk P w K mg base CX0 1 T.f_law_parts T.d_law_parts ["a"] (spLawParts K) := ok_law_parts T
    refine T.F_law_put.ok sc_law_put (fun vs H Q E h => ?_) (fun cdv A outer s H vs Q E hr h => ?_)
    · obtain ⟨x, d, L, f, rfl, _⟩ := h
      rfl
    obtain ⟨x, d, L, f, rfl, hS, hx, hh, h8, k⟩ := h
    have hu64 := hr.units
    have hu := Nat.lt_of_le_of_lt (Nat.add_le_add_left (by decide : 1 ≤ 64) _) hu64
    have hn1 : 1 ≤ n := by
      have := f.ht_pos
      omega
    refine ⟨_, (pss_cons (ps_if (pt_cmp (ND.pc_nin hu64 (pv 0) (pv 1)))
      (pss_one (ps_ret (ND.pe_nget hu64 (pv 1) (pv 0) (fun _ _ => rfl))))
      pss_nil)
    (pss_cons (ps_if (pt_cmpR op_eq (pe_ix ix_tup (pv 0) pe_int (fun _ _ => rfl)) pe_str (nomark _))
      (pss_one (ps_ret (pv 0)))
      pss_nil)
    (pss_one (ps_ret (pe_op op_catA (pe_tup (pa_cons (pe_ix ix_tup (pv 0) pe_int (fun _ _ => rfl)) pa_nil)) (pe_callTy call_tuple_of (by rfl) T.z_tuple (by decide +kernel) (pa_cons (pe_lc (own := [("part", 2)]) (g := gName 2) (tt := tYes) rfl sc_law_put.nd (pi_list (pe_call G_law_parts (hr.mono (by omega)) (by rfl) T.m_law_parts T.F_law_parts.kp T.b_law_parts .nil pass0 (pa_cons (pv 0) pa_nil))) (blkOk_by (N := ["a", "values", "part"]) (sc := defScope s_law_put) (by decide +kernel)) (fun _ _ _ _ _ => pg_name (i := 2) sc_law_put.nd rfl (Or.inl rfl)) (fun _ _ _ _ _ => pts_nil) (fun _ _ _ _ _ => (pe_call G_law_put (hr.mono (by omega)) (by rfl) T.m_law_put T.F_law_put.kp T.b_law_put .nil pass0 (pa_cons (pv 2) (pa_cons (pv 1) pa_nil))))) pa_nil))))))), ?_⟩
    obtain ⟨o, ho, hcase⟩ := bx_get hS hx h8
    refine ⟨_, rfl, _, rfl, d, o, rfl, ho, ?_⟩
    rcases hcase with ⟨rfl, hno⟩ | ⟨v, g, rfl, hyes, hg, hb⟩
    · refine ⟨_, rfl, iteF ?_⟩
      obtain ⟨ba, ys, rfl, h1, h2⟩ := im_inv hx
      refine ⟨_, rfl, ba, _, 0, _, rfl, rfl, h1, atI_nat (j := 0) rfl, rfl, _, rfl, ?_⟩
      rw [sg_var]
      cases hv : f.isVar with
      | true => exact iteT ⟨_, rfl, k _ H (L2.Same.refl _) (by rw [rb_var hv]; exact hx)⟩
      | false =>
        refine iteF ?_
        refine ⟨_, rfl, ba, _, 0, _, rfl, rfl, h1, atI_nat (j := 0) rfl, (by show 1 ≤ sizeLine; decide), fun t nt => ?_⟩
        have s1 := same_new (o := .tup [.str f.sg]) nt
        refine ⟨_, rfl, .ref ba, f, rfl, hx.mono (Same.ts s1), fun p zs H2 np s2 hp iz => ?_⟩
        refine ⟨p, rfl, ⟨_, SqL.of hp⟩, fun M nM => ?_⟩
        have s12 := s1.trans s2
        have hzl := fms_len iz
        have hk3 := kids_le2 f
        have hS2 := hS.same s12
        refine lc_list (K := K) (a := p) (xs := zs) (fun i H3 => ∃ us : List V, Same H2 H3 ∧ H3 M = some (.lst us) ∧ us.length = i ∧ ImAll K H3 us ((f.kids.take i).map fun g => (g.rb L).d)) ⟨[], same_new nM, upd_same, rfl, .nil⟩ (fun i H3 _ h => by
          obtain ⟨_, s3, _⟩ := h
          exact SqL.of (s3 _ _ hp)) ?_ ?_
        · rintro i y H3 hy ⟨us, s3, hM, hul, iu⟩
          obtain ⟨g, hg, ig⟩ := imAll_of iz hy
          have hgm : g ∈ f.kids := List.mem_of_getElem? hg
          have hgh := kids_ht hgm
          refine ⟨rfl, _, rfl, _, rfl, y, d, L, g, rfl, hS2.same s3, ig.mono (Same.ts s3), by omega, by omega, fun v H4 s4 iv => ?_⟩
          have hi : i < zs.length := (List.getElem?_eq_some_iff.mp hy).1
          refine ⟨us, s4 _ _ hM, small1000 (by omega), us ++ [v], fun b o hb => ?_, upd_same, by rw [List.length_append, hul]; rfl, ?_⟩
          · rw [upd_ne (ne_of_none hb nM)]
            exact s4 _ _ (s3 _ _ hb)
          · have t : TS H4 (upd H4 M (.lst (us ++ [v]))) := Kp.ts Kp.upd (s4 _ _ hM)
            rw [take_snoc hg, List.map_append]
            exact ((iu.mono (Same.ts s4)).mono t).snoc (iv.mono t)
        · rintro H3 ⟨us, s3, hM, hul, iu⟩
          have s123 := s12.trans s3
          rw [hzl, List.take_length] at iu
          refine ⟨M, us, rfl, .inl ⟨SqL.of hM, fun q nq => ?_⟩⟩
          have s4 := same_new (o := .tup us) nq
          have ht := s4 _ _ (s3 _ _ (s2 _ _ (upd_same (H := H) (a := t) (o := HO.tup [V.str f.sg]))))
          refine ⟨t, q, _, us, rfl, rfl, SqT.of ht, SqT.of upd_same, (by show 1 + us.length ≤ sizeLine; exact sizeU (by omega)), fun e => (nomatch e), fun _ e => ?_, fun _ e r nr => ?_⟩
          · have e1 : us = [] := e
            subst e1
            refine k _ _ (s123.trans s4) ?_
            rw [rb_mp hv hno]
            exact im_mpA hv (iu.mono (Same.ts s4)) (SqT.of ht)
          · have s5 := same_new (o := .tup ([V.str f.sg] ++ us)) nr
            have sa := (s123.trans s4).trans s5
            have hr5 : upd (upd H3 q (.tup us)) r (.tup ([V.str f.sg] ++ us)) r = some (.tup (.str f.sg :: us)) := upd_same
            have iu5 := (iu.mono (Same.ts s4)).mono (Same.ts s5)
            refine k _ _ sa ?_
            rw [rb_mp hv hno]
            exact im_mpA hv iu5 (SqT.of hr5)
    · exact ⟨_, rfl, iteT ⟨_, rfl, _, rfl, d, v, rfl, ho, k _ H (L2.Same.refl _) (by rw [rb_val hb hyes]; exact hg)⟩⟩

def spLaw (K : PySem.W.Frag) (TT : List NdefX.NTab) : Sp := fun vs H Q _ => ∃ (a : Addr) (ns : List Int), vs = [.ref a] ∧ SqL K H a (ns.map V.int) ∧ ns.length ≤ 63 ∧ NdefX.TabsN TT H ∧ ∀ H', Q (.bl true) H'
theorem bx_self {L : Bx} (nd : (L.map (·.1)).Nodup) {x : Fm × Addr × V × Fm} (hx : x ∈ L) : L.find? (fun y => decide (y.1 = x.1)) = some x := by
  induction L with
  | nil => cases hx
  | cons y r ih =>
    rw [List.map_cons, List.nodup_cons] at nd
    rcases List.mem_cons.mp hx with rfl | h
    · exact List.find?_cons_of_pos (by simp)
    · rw [List.find?_cons_of_neg (by simpa using fun e : y.1 = x.1 => nd.1 (e ▸ List.mem_map.mpr ⟨x, h, rfl⟩))]
      exact ih nd.2 h
theorem bx_ht {K : PySem.W.Frag} {H : Hp} {L : Bx} (h : BxOk K H L) {f g : Fm} (e : bxVal L f = some g) : g.ht ≤ 8 := by
  unfold bxVal at e
  cases hf : L.find? (fun x => decide (x.1 = f)) with
  | none => rw [hf] at e; cases e
  | some x =>
    rw [hf] at e
    obtain ⟨_, _, _, h4, _⟩ := h x (List.mem_of_find?_eq_some hf)
    rw [← Option.some.inj e]
    exact h4
theorem rb_ht {K : PySem.W.Frag} {H : Hp} {L : Bx} (h : BxOk K H L) : ∀ f : Fm, (f.rb L).ht ≤ f.ht + 8
  | .var n => Nat.le_add_right _ _
  | .fal => Nat.le_add_right _ _
  | .and a b => by have := rb_ht h a; have := rb_ht h b; simp only [Fm.rb, Fm.ht]; omega
  | .or a b => by have := rb_ht h a; have := rb_ht h b; simp only [Fm.rb, Fm.ht]; omega
  | .imp a b => by have := rb_ht h a; have := rb_ht h b; simp only [Fm.rb, Fm.ht]; omega
  | .box a => by
    have := rb_ht h a
    rw [Fm.rb]
    cases e : bxVal L (.box a) with
    | none => simp only [Option.getD, Fm.ht]; omega
    | some g =>
      have := bx_ht h e
      simp only [Option.getD, Fm.ht]
      omega
theorem fin3 {α : Type} {g : α → Hp → Prop} {x : α} {H : Hp} (h : g x H) : g x H := h
theorem ok_law (T : Top K mg) (TBs : ∀ p ∈ T.cs, LamX.TabB base mg p.1 p.2) : FnOk P w K mg base CX0 21 T.f_law T.d_law ["script"] (spLaw K T.tabs) := by
  have G_law_pool : FnOk P w K mg base CX0 1 T.f_law_pool T.d_law_pool ["script"] (spPool K) := ok_law_pool T
  have G_law_draw : FnOk P w K mg base CX0 2 T.f_law_draw T.d_law_draw ["pool", "many"] (spDraw K) := ok_law_draw T
  have G_law_same : FnOk P w K mg base CX0 20 T.f_law_same T.d_law_same ["actual", "due"] (spSame K 20) := ok_law_same T 20
  have G_law_some : FnOk P w K mg base CX0 9 T.f_law_some T.d_law_some ["pool", "depth", "plain"] (spSome K 8) := ok_law_some T 8 (by decide)
  have G_law_all := ok_law_all (P := P) (w := w) (base := base) T 20
  have G_replace_boxes := ok_replace_boxes (P := P) (w := w) (base := base) T TBs
  have G_law_put := ok_law_put (P := P) (w := w) (base := base) T 20
  refine T.F_law.ok sc_law (fun vs H Q E h => ?_) (fun cdv A outer s H vs Q E hr h => ?_)
  · obtain ⟨a, ns, rfl, _⟩ := h
    rfl
  obtain ⟨a, ns, rfl, hS, hn, hT, q⟩ := h
  have hu64 := hr.units
  have hu := Nat.lt_of_le_of_lt (Nat.add_le_add_left (by decide : 1 ≤ 64) _) hu64
  have hu66 : (A.deeper (envOfC "law" (defScope s_law) s.heap.objs.size T.f_law cdv)).units + 66 < cLine := by have := hr.un; omega
  refine ⟨_, (pss_cons (ps_set (i := 1) sc_law.nd rfl (.inl rfl) (pe_call G_law_pool (hr.mono (by omega)) (by rfl) T.m_law_pool T.F_law_pool.kp T.b_law_pool .nil pass0 (pa_cons (pv 0) pa_nil)))
    (pss_cons (ps_set (i := 2) sc_law.nd rfl (.inl rfl) (pe_call G_law_some (hr.mono (by omega)) (by rfl) T.m_law_some T.F_law_some.kp T.b_law_some .nil pass0 (pa_cons (pv 1) (pa_cons (pe_op op_add pe_int (pe_call G_law_draw (hr.mono (by omega)) (by rfl) T.m_law_draw T.F_law_draw.kp T.b_law_draw .nil pass0 (pa_cons (pv 1) (pa_cons pe_int pa_nil)))) (pa_cons pe_bl pa_nil)))))
    (C8.pss_cut (ps_if (pt_cmpR op_eq (pe_call G_law_draw (hr.mono (by omega)) (by rfl) T.m_law_draw T.F_law_draw.kp T.b_law_draw .nil pass0 (pa_cons (pv 1) (pa_cons pe_int pa_nil))) pe_int (nomark _))
      (pss_one (ps_set (i := 2) sc_law.nd rfl (.inl rfl) (pe_tup (pa_cons pe_str (pa_cons (pe_tup (pa_cons pe_str (pa_cons (pv 2) pa_nil))) (pa_cons (pe_tup (pa_cons pe_str (pa_cons (pe_tup (pa_cons pe_str (pa_cons (pe_tup (pa_cons pe_str (pa_cons (pe_call G_law_some (hr.mono (by omega)) (by rfl) T.m_law_some T.F_law_some.kp T.b_law_some .nil pass0 (pa_cons (pv 1) (pa_cons pe_int (pa_cons pe_bl pa_nil)))) pa_nil))) pa_nil))) (pa_cons (pv 2) pa_nil)))) pa_nil))))))
      pss_nil)
    (pss_cons (ps_set (i := 3) sc_law.nd rfl (.inl rfl) (pe_op op_cat (pe_lc (own := [("b", 5)]) (g := gName 5) (tt := (tTest (tOp _ (tOp (rIxT K) _ _) _))) rfl sc_law.nd (pi_list (pe_call G_law_all (hr.mono (by omega)) (by rfl) T.m_law_all T.F_law_all.kp T.b_law_all .nil pass0 (pa_cons (pv 2) pa_nil))) (blkOk_by (N := ["script", "pool", "a", "found", "values", "b", "handed"]) (sc := defScope s_law) (by decide +kernel)) (fun _ _ _ _ _ => pg_name (i := 5) sc_law.nd rfl (Or.inl rfl)) (fun _ _ _ _ _ => pts_one (pt_cmpR op_eq (pe_ix ix_tup (pv 5) pe_int (fun _ _ => rfl)) pe_str (nomark _))) (fun _ _ _ _ _ => (pv 5))) (pe_lst (pa_cons (pe_tup (pa_cons pe_str (pa_cons (pe_tup (pa_cons pe_str (pa_cons pe_str pa_nil))) pa_nil))) (pa_cons (pe_tup (pa_cons pe_str (pa_cons (pe_call G_law_some (hr.mono (by omega)) (by rfl) T.m_law_some T.F_law_some.kp T.b_law_some .nil pass0 (pa_cons (pv 1) (pa_cons pe_int (pa_cons pe_bl pa_nil)))) pa_nil))) pa_nil)))))
    (pss_cons (ps_set (i := 4) sc_law.nd rfl (.inl rfl) ND.pe_nnew)
    (pss_cons (ps_for PassesOwn.never rfl (pi_list (pv 3)) (pg_name (i := 5) sc_law.nd rfl (.inl rfl))
      (pss_one (ps_if (pt_cmpR op_eq (pe_call G_law_draw (hr.mono (by omega)) (by rfl) T.m_law_draw T.F_law_draw.kp T.b_law_draw .nil pass0 (pa_cons (pv 1) (pa_cons pe_int pa_nil))) pe_int (nomark _))
      (pss_one (ND.ps_nput hu64 (pv 4) (pv 5) (pe_ix ix_list (pe_lst (pa_cons (pe_call G_law_some (hr.mono (by omega)) (by rfl) T.m_law_some T.F_law_some.kp T.b_law_some .nil pass0 (pa_cons (pv 1) (pa_cons pe_int (pa_cons pe_bl pa_nil)))) (pa_cons (pe_tup (pa_cons pe_str (pa_cons (pv 5) pa_nil))) (pa_cons (pe_tup (pa_cons pe_str pa_nil)) (pa_cons (pe_ix ix_list (pv 3) (pe_call G_law_draw (hr.mono (by omega)) (by rfl) T.m_law_draw T.F_law_draw.kp T.b_law_draw .nil pass0 (pa_cons (pv 1) (pa_cons (pe_callB call_len_seq (by rfl) T.z_len PySem.boot_len (pa_cons (pv 3) pa_nil)) pa_nil))) (fun _ _ => rfl)) pa_nil))))) (pe_call G_law_draw (hr.mono (by omega)) (by rfl) T.m_law_draw T.F_law_draw.kp T.b_law_draw .nil pass0 (pa_cons (pv 1) (pa_cons pe_int pa_nil))) (fun _ _ => rfl)) rfl))
      pss_nil)))
    (pss_cons (ps_set (i := 6) sc_law.nd rfl (.inl rfl) ND.pe_nnew)
    (pss_cons (ps_lock (ps_for PassesOwn.never rfl (ND.pi_keysN (pv 4)) (pg_name (i := 5) sc_law.nd rfl (.inl rfl))
      (pss_one (ND.ps_nput hu64 (pv 6) (pv 5) (ND.pe_nget hu64 (pv 4) (pv 5) (fun _ _ => rfl)) rfl))))
    (pss_one (ps_ret (pe_and (pe_call G_law_same (hr.mono (by omega)) (by rfl) T.m_law_same T.F_law_same.kp T.b_law_same .nil pass0 (pa_cons (pe_call G_replace_boxes (hr.mono (by omega)) (by rfl) T.m_replace_boxes T.F_replace_boxes.kp T.b_replace_boxes .nil pass0 (pa_cons (pv 2) (pa_cons (pv 6) pa_nil))) (pa_cons (pe_call G_law_put (hr.mono (by omega)) (by rfl) T.m_law_put T.F_law_put.kp T.b_law_put .nil pass0 (pa_cons (pv 2) (pa_cons (pv 4) pa_nil))) pa_nil))) (pe_one (pe_cmpR (ND.op_eqN hu66) (pv 6) (pv 4) (nomark _)))))))))))))), ?_⟩
  refine ⟨_, rfl, a, ns, rfl, hS, fun p l H1 np s1 hP1 => ?_⟩
  have T1 := hT.ext s1
  refine ⟨_, rfl, _, rfl, p, l, 4, rfl, hP1, by decide, by decide, fun dep H2 d0 d1 k2 hP2 => ⟨_, _, rfl, rfl, ?_⟩⟩
  obtain ⟨xs1, hp1⟩ := hP1.lst
  have T2 := tabs_kpl T1 k2 hp1
  refine ⟨p, l, 1 + dep, _, rfl, hP2, by omega, by omega, fun va fa H4 k4 hP4 ia ha ha2 _ => ?_⟩
  obtain ⟨xs2, hp2⟩ := hP2.lst
  have T4 := tabs_kpl T2 k4 hp2
  have ha5 : fa.ht ≤ 5 := by omega
  refine ⟨fun σ H6 => ∃ (v : V) (f : Fm), σ = [some (.ref a), some (.ref p), some v, none, none, none, none] ∧ Im K H6 v f.d ∧ f.ht ≤ 7 ∧ f.over nms = true ∧ (∀ g ∈ f.subs, g.isBox = true → g.ht ≤ 6) ∧ Pl K H6 p l ∧ NdefX.TabsN T.tabs H6, ?_, ?_⟩
  · refine ⟨_, rfl, p, l, 2, rfl, hP4, by decide, by decide, fun r H6 r0 r1 k6 hP6 => ⟨rfl, _, rfl, ite2 (fun c => ?_) (fun c => ?_)⟩⟩
    · obtain ⟨xs4, hp4⟩ := hP4.lst
      have T6 := tabs_kpl T4 k6 hp4
      replace ia := ia.mono (hP4.ts k6)
      refine ⟨_, rfl, (by show 2 ≤ sizeLine; decide), fun t1 nt1 => ?_⟩
      have s1 := same_new (o := .tup [.str "box", va]) nt1
      have hP7 := hP6.same s1
      have T7 := T6.ext s1
      refine ⟨_, rfl, p, l, 1, false, rfl, hP7, by decide, by decide, fun vb fb H8 k8 hP8 ib hb ob _ => ⟨(by show 2 ≤ sizeLine; decide), fun t2 nt2 => ⟨(by show 2 ≤ sizeLine; decide), fun t3 nt3 => ⟨_, rfl, (by show 3 ≤ sizeLine; decide), fun t4 nt4 => ⟨(by show 3 ≤ sizeLine; decide), fun t5 nt5 => ?_⟩⟩⟩⟩⟩
      obtain ⟨xs7, hp7⟩ := hP7.lst
      have T8 := tabs_kpl T7 k8 hp7
      have h78 := hP7.ts k8
      have s2 := same_new (o := .tup [.str "box", vb]) nt2
      have s3 := same_new (o := .tup [.str "box", .ref t2]) nt3
      have s4 := same_new (o := .tup [.str "implies", .ref t3, va]) nt4
      have s5 := same_new (o := .tup [.str "and", .ref t1, .ref t4]) nt5
      have s25 := ((s2.trans s3).trans s4).trans s5
      have h1 := s25 _ _ (h78.2 _ _ (upd_same (H := H6) (a := t1) (o := HO.tup [V.str "box", va])))
      have h2 := s5 _ _ (s4 _ _ (s3 _ _ (upd_same (H := H8) (a := t2) (o := HO.tup [V.str "box", vb]))))
      have h3 := s5 _ _ (s4 _ _ (upd_same (H := upd H8 t2 (.tup [.str "box", vb])) (a := t3) (o := HO.tup [V.str "box", .ref t2])))
      have h4 := s5 _ _ (upd_same (H := upd (upd H8 t2 (.tup [.str "box", vb])) t3 (.tup [.str "box", .ref t2])) (a := t4) (o := HO.tup [V.str "implies", .ref t3, va]))
      have iaN := (((ia.mono (Same.ts s1)).mono h78).mono (Same.ts s25))
      have hfb : fb.ht ≤ 2 := hb
      refine ⟨_, .and (.box fa) (.imp (.box (.box fb)) fa), rfl, im_and upd_same (im_box h1 iaN) (im_imp h4 (im_box h3 (im_box h2 (ib.mono (Same.ts s25)))) iaN), ?_, ?_, ?_, hP8.same s25, T8.ext s25⟩
      · show max (fa.ht + 1) (max (fb.ht + 1 + 1) fa.ht + 1) + 1 ≤ 7
        omega
      · show (fa.over nms && (fb.over nms && fa.over nms)) = true
        rw [ha2, ob]
        rfl
      · intro g hg hgb
        simp only [Fm.subs, List.mem_cons, List.mem_append] at hg
        have inA : g ∈ fa.subs → g.ht ≤ 6 := fun h => Nat.le_trans (subs_ok 7 (by omega) ha2 h).2 (by omega)
        rcases hg with rfl | (rfl | hg) | rfl | (rfl | rfl | hg) | hg
        · cases hgb
        · show fa.ht + 1 ≤ 6
          omega
        · exact inA hg
        · cases hgb
        · show fb.ht + 1 + 1 ≤ 6
          omega
        · show fb.ht + 1 ≤ 6
          omega
        · exact Nat.le_trans (subs_ok 7 (by omega) ob hg).2 (by omega)
        · exact inA hg
    · obtain ⟨xs4, hp4⟩ := hP4.lst
      exact ⟨va, fa, rfl, ia.mono (hP4.ts k6), by omega, ha2, fun g hg _ => Nat.le_trans (subs_ok 7 (by omega) ha2 hg).2 (by omega), hP6, tabs_kpl T4 k6 hp4⟩
  rintro σ H6 ⟨v, f, rfl, iv, hf, ho, hbx, hP6, T6⟩
  have hsz : f.sz ≤ 200 := by
    have h1 := sz_ht f
    have h2 : 2 ^ f.ht ≤ 2 ^ 7 := Nat.pow_le_pow_right (by decide) hf
    omega
  have hsl : f.subs.length = f.sz := subs_len f
  refine ⟨_, rfl, v, f, rfl, iv, by omega, by omega, fun sp ys H7 nsp s7 hsp iy => ⟨sp, rfl, ⟨_, SqL.of hsp⟩, fun bp nbp => ?_⟩⟩
  have hyl := fms_len iy
  refine lc_list (K := K) (a := sp) (xs := ys) (fun i H8 => ∃ us : List V, Same H7 H8 ∧ H8 bp = some (.lst us) ∧ ImAll K H8 us (((f.subs.take i).filter Fm.isBox).map Fm.d)) ⟨[], same_new nbp, upd_same, .nil⟩ (fun i H8 _ h => by
    obtain ⟨_, h, _⟩ := h
    exact SqL.of (h _ _ hsp)) ?_ ?_
  · rintro i y H8 hy ⟨us, s8, hb8, iu⟩
    obtain ⟨g, hg, ig⟩ := imAll_of iy hy
    have hi : i < f.subs.length := (List.getElem?_eq_some_iff.mp hg).1
    have ig8 := ig.mono (Same.ts s8)
    obtain ⟨ga, gs, rfl, g1, g2⟩ := im_inv ig8
    refine ⟨rfl, _, rfl, ga, _, 0, _, rfl, rfl, g1, atI_nat (j := 0) rfl, rfl, _, rfl, ?_⟩
    rw [sg_box, take_snoc hg, List.filter_append]
    cases hgb : g.isBox with
    | false =>
      refine (if_neg Bool.false_ne_true).mpr ⟨us, s8, hb8, ?_⟩
      rw [show [g].filter Fm.isBox = [] by rw [List.filter_cons, hgb]; rfl, List.append_nil]
      exact iu
    | true =>
      have hul := fms_len iu
      have hfl : ((f.subs.take i).filter Fm.isBox).length ≤ 200 := by
        refine Nat.le_trans (List.length_filter_le _ _) ?_
        rw [List.length_take]
        omega
      refine (if_pos rfl).mpr ⟨_, rfl, us, hb8, small1000 (by omega), us ++ [.ref ga], fun b o hb => ?_, upd_same, ?_⟩
      · rw [upd_ne (ne_of_none hb nbp)]
        exact s8 _ _ hb
      · have t : TS H8 (upd H8 bp (.lst (us ++ [.ref ga]))) := Kp.ts Kp.upd hb8
        rw [show [g].filter Fm.isBox = [g] by rw [List.filter_cons, hgb]; rfl, List.map_append]
        exact (iu.mono t).snoc (ig8.mono t)
  · rintro H8 ⟨us, s8, hb8, iu⟩
    rw [hyl, List.take_length] at iu
    have hul := fms_len iu
    have hful : (f.subs.filter Fm.isBox).length ≤ 200 := by
      refine Nat.le_trans (List.length_filter_le _ _) ?_
      omega
    refine ⟨(by show 2 ≤ sizeLine; decide), fun t1 nt1 => ⟨(by show 2 ≤ sizeLine; decide), fun t2 nt2 => ?_⟩⟩
    have s9 := same_new (o := .tup [.str "var", .str "r"]) nt1
    have s10 := same_new (o := .tup [.str "box", .ref t1]) nt2
    have s610 := ((s7.trans s8).trans s9).trans s10
    have hP10 := hP6.same s610
    have T10 := T6.ext s610
    have iv10 := iv.mono (Same.ts s610)
    have iu10 := (iu.mono (Same.ts s9)).mono (Same.ts s10)
    have ir : Im K (upd (upd H8 t1 (.tup [.str "var", .str "r"])) t2 (.tup [.str "box", .ref t1])) (.ref t2) (Fm.box (.var "r")).d := im_box upd_same (im_var (s10 _ _ upd_same))
    have hb10 := s10 _ _ (s9 _ _ hb8)
    have nbpp : bp ≠ p := fun e => by
      obtain ⟨xs, h⟩ := hP6.lst
      rw [e] at nbp
      rw [s7 _ _ h] at nbp
      cases nbp
    generalize upd (upd H8 t1 (.tup [.str "var", .str "r"])) t2 (.tup [.str "box", .ref t1]) = H10 at s10 s610 hP10 T10 iv10 iu10 ir hb10
    refine ⟨_, rfl, p, l, 1, false, rfl, hP10, by decide, by decide, fun vb fb H11 k11 hP11 ib hb ob _ => ⟨(by show 2 ≤ sizeLine; decide), fun t3 nt3 => ⟨(by show 2 ≤ sizeLine; decide), fun q2 nq2 => ?_⟩⟩⟩
    obtain ⟨xs10, hp10⟩ := hP10.lst
    have T11 := tabs_kpl T10 k11 hp10
    have t1011 := hP10.ts k11
    have s12 := same_new (o := .tup [.str "box", vb]) nt3
    have s13 := same_new (o := .lst [.ref t2, .ref t3]) nq2
    have s1213 := s12.trans s13
    have hb13 := s1213 _ _ (k11 _ _ hb10 nbpp)
    have iu13 := (iu10.mono t1011).mono (Same.ts s1213)
    have iv13 := (iv10.mono t1011).mono (Same.ts s1213)
    have ir13 := (ir.mono t1011).mono (Same.ts s1213)
    have i213 : Im K (upd (upd H11 t3 (.tup [.str "box", vb])) q2 (.lst [.ref t2, .ref t3])) (.ref t3) (Fm.box fb).d := im_box (s13 _ _ upd_same) (ib.mono (Same.ts s1213))
    have hq13 := @upd_same (upd H11 t3 (.tup [.str "box", vb])) q2 (.lst [.ref t2, .ref t3])
    have hP13 := hP11.same s1213
    have T13 := T11.ext s1213
    generalize upd (upd H11 t3 (.tup [.str "box", vb])) q2 (.lst [.ref t2, .ref t3]) = H13 at s13 s1213 hb13 iu13 iv13 ir13 i213 hq13 hP13 T13
    refine ⟨bp, q2, us, [.ref t2, .ref t3], rfl, rfl, hb13, hq13, Nat.le_of_lt (small1000 (by show us.length + 2 ≤ 1000; omega)), fun fl nfl => ?_⟩
    have s14 := same_new (o := .lst (us ++ [.ref t2, .ref t3])) nfl
    have hfl14 := @upd_same H13 fl (.lst (us ++ [.ref t2, .ref t3]))
    have hP14 := hP13.same s14
    have T14 := T13.ext s14
    have iv14 := iv13.mono (Same.ts s14)
    have ifs : ImAll K (upd H13 fl (.lst (us ++ [.ref t2, .ref t3]))) (us ++ [.ref t2, .ref t3]) ((f.subs.filter Fm.isBox ++ [Fm.box (.var "r"), Fm.box fb]).map Fm.d) := by
      rw [List.map_append]
      exact imAll_append (iu13.mono (Same.ts s14)) (.cons (ir13.mono (Same.ts s14)) (.cons (i213.mono (Same.ts s14)) .nil))
    have hfb : fb.ht ≤ 2 := hb
    have hfs : ∀ g ∈ f.subs.filter Fm.isBox ++ [Fm.box (.var "r"), Fm.box fb], g.isBox = true ∧ g.ht ≤ 6 ∧ g.over nms = true := fun g hg => by
      rcases List.mem_append.mp hg with hg | hg
      · obtain ⟨g1, g2⟩ := List.mem_filter.mp hg
        exact ⟨g2, hbx g g1 g2, (subs_ok 7 hf ho g1).1⟩
      · rcases List.mem_cons.mp hg with rfl | hg
        · exact ⟨rfl, by decide, by decide⟩
        · rw [List.mem_singleton.mp hg]
          exact ⟨rfl, by show fb.ht + 1 ≤ 6; omega, ob⟩
    have hfsl : (f.subs.filter Fm.isBox ++ [Fm.box (.var "r"), Fm.box fb]).length ≤ 300 := by
      rw [List.length_append]
      show _ + 2 ≤ 300
      omega
    have hfs0 : 0 < (f.subs.filter Fm.isBox ++ [Fm.box (.var "r"), Fm.box fb]).length := by
      rw [List.length_append]
      show 0 < _ + 2
      omega
    have nfp : fl ≠ p := fun e => by
      obtain ⟨xs, h⟩ := hP13.lst
      rw [e, h] at nfl
      cases nfl
    generalize f.subs.filter Fm.isBox ++ [Fm.box (.var "r"), Fm.box fb] = fs at ifs hfs hfsl hfs0
    generalize us ++ [.ref t2, .ref t3] = zs at s14 hfl14 hP14 T14 iv14 ifs
    generalize upd H13 fl (.lst zs) = H14 at s14 hfl14 hP14 T14 iv14 ifs
    have hzl := fms_len ifs
    intro dv ndv
    change gName 4 (V.ref dv) _ (upd H14 dv (ND.NDO P w dv [])) _
    have s15 := same_new (o := ND.NDO P w dv []) ndv
    have hdv15 := @upd_same H14 dv (ND.NDO P w dv [])
    have ndfl : fl ≠ dv := ne_of_none hfl14 ndv
    have ndp : dv ≠ p := fun e => by
      obtain ⟨xs, h⟩ := hP14.lst
      rw [e, h] at ndv
      cases ndv
    have hP15 := hP14.same s15
    obtain ⟨xs14, hp14⟩ := hP14.lst
    have hB15 : BxAt P w K (upd H14 dv (ND.NDO P w dv [])) dv [] := ⟨hdv15, .nil, fun x h => nomatch h⟩
    have K15 : Kp p H14 (upd H14 dv (ND.NDO P w dv [])) := Same.kp s15
    have hfl15 := s15 _ _ hfl14
    generalize upd H14 dv (ND.NDO P w dv []) = H15 at hP15 hB15 K15 hfl15
    refine ⟨_, rfl, fl, rfl, ⟨_, SqL.of hfl15⟩, ?_⟩
    refine for_list (K := K) (a := fl) (xs := zs) (fun i σ H' => ∃ (L : Bx) (o5 : Option V), σ = [some (.ref a), some (.ref p), some v, some (.ref fl), some (.ref dv), o5, none] ∧ Pl K H' p l ∧ Kp p H14 H' ∧ BxAt P w K H' dv L ∧ L.length ≤ i)
      ⟨[], none, rfl, hP15, K15, hB15, Nat.le_refl _⟩ (fun i σ H' _ h => by
        obtain ⟨_, _, _, _, h, _⟩ := h
        exact SqL.of (h _ _ hfl14 nfp)) ?_ ?_
    · rintro i y σ H1 hy ⟨L, o5, rfl, hPa, Ka, hBa, hLi⟩
      obtain ⟨g, hg, ig⟩ := imAll_of (ifs.mono (Ka.ts hp14)) hy
      obtain ⟨g1, g2, g3⟩ := hfs g (List.mem_of_getElem? hg)
      have hi : i < fs.length := (List.getElem?_eq_some_iff.mp hg).1
      refine ⟨_, rfl, p, l, 2, rfl, hPa, by decide, by decide, fun r H2 r0 r1 k2 hPb => ⟨rfl, _, rfl, ite2 (fun c => ?_) (fun c => ?_)⟩⟩
      · have tb := hPa.ts k2
        have igb := ig.mono tb
        have Kb := Ka.trans k2
        have hBb := hBa.keep tb ((k2 _ _ hBa.at_ ndp).trans hBa.at_.symm)
        refine ⟨_, rfl, p, l, 2, false, rfl, hPb, by decide, by decide, fun vc fc H3 k3 hPc ic hc oc _ => ⟨_, rfl, (by show 2 ≤ sizeLine; decide), fun u1 nu1 => ⟨(by show 1 ≤ sizeLine; decide), fun u2 nu2 => ?_⟩⟩⟩
        have tc := hPb.ts k3
        have s4 := same_new (o := .tup [.str "box", y]) nu1
        have s5 := same_new (o := .tup [.str "falsum"]) nu2
        have s45 := s4.trans s5
        have hPd := hPc.same s45
        have Kd := (Kb.trans k3).trans (Same.kp s45)
        have igd := (igb.mono tc).mono (Same.ts s45)
        have hBd := (hBb.keep tc ((k3 _ _ hBb.at_ ndp).trans hBb.at_.symm)).same s45
        have icd := ic.mono (Same.ts s45)
        have ibd : Im K (upd (upd H3 u1 (.tup [.str "box", y])) u2 (.tup [.str "falsum"])) (.ref u1) (Fm.box g).d := im_box (s5 _ _ upd_same) igd
        have ifal : Im K (upd (upd H3 u1 (.tup [.str "box", y])) u2 (.tup [.str "falsum"])) (.ref u2) Fm.fal.d := im_fal upd_same
        generalize upd (upd H3 u1 (.tup [.str "box", y])) u2 (.tup [.str "falsum"]) = Hd at s5 s45 hPd Kd igd hBd icd ibd ifal
        refine ⟨_, rfl, _, rfl, _, rfl, fl, zs, rfl, .inl (SqL.of (Kd _ _ hfl14 nfp)), p, l, _, rfl, hPd, by omega, by omega, fun r2 H4 r20 r21 k4 hPe => ?_⟩
        have te := hPd.ts k4
        have Ke := Kd.trans k4
        obtain ⟨gf, hgf⟩ : ∃ gf, fs[r2.toNat]? = some gf := ⟨fs[r2.toNat]'(by omega), List.getElem?_eq_getElem _⟩
        have hzf : ∃ vf, zs[r2.toNat]? = some vf := ⟨zs[r2.toNat]'(by omega), List.getElem?_eq_getElem _⟩
        obtain ⟨vf, hvf⟩ := hzf
        obtain ⟨gf', hgf', igf⟩ := imAll_of (ifs.mono (Ke.ts hp14)) hvf
        rw [hgf] at hgf'
        obtain rfl : gf = gf' := Option.some.inj hgf'
        obtain ⟨gf1, gf2, gf3⟩ := hfs gf (List.mem_of_getElem? hgf)
        have hBe := hBd.keep te ((k4 _ _ hBd.at_ ndp).trans hBd.at_.symm)
        have hr2 : ((r2.toNat : Nat) : Int) = r2 := by omega
        refine ⟨fl, zs, r2, vf, rfl, rfl, SqL.of (Ke _ _ hfl14 nfp), by rw [← hr2]; exact atI_nat hvf, (by show 4 ≤ sizeLine; decide), fun q4 nq4 => ?_⟩
        have s6 := same_new (o := .lst [vc, .ref u1, .ref u2, vf]) nq4
        have hq4 := @upd_same H4 q4 (.lst [vc, .ref u1, .ref u2, vf])
        have nq4p : q4 ≠ p := fun e => by
          obtain ⟨xs, h⟩ := hPe.lst
          rw [e, h] at nq4
          cases nq4
        have hPf := hPe.same s6
        have Kf := Ke.trans (Same.kp s6)
        have im4 : ImAll K (upd H4 q4 (.lst [vc, .ref u1, .ref u2, vf])) [vc, .ref u1, .ref u2, vf] ([fc, Fm.box g, Fm.fal, gf].map Fm.d) := (ImAll.cons (icd.mono te) (.cons (ibd.mono te) (.cons (ifal.mono te) (.cons igf .nil)))).mono (Same.ts s6)
        have igf6 := (igd.mono te).mono (Same.ts s6)
        have hBf := hBe.same s6
        generalize upd H4 q4 (.lst [vc, .ref u1, .ref u2, vf]) = Hf at s6 hq4 hPf Kf im4 igf6 hBf
        refine ⟨_, rfl, p, l, 4, rfl, hPf, by decide, by decide, fun r3 H5 r30 r31 k5 hPg => ?_⟩
        have tg := hPf.ts k5
        have Kg := Kf.trans k5
        have hr3 : ((r3.toNat : Nat) : Int) = r3 := by omega
        have hlt : r3.toNat < [vc, V.ref u1, V.ref u2, vf].length := by show r3.toNat < 4; omega
        obtain ⟨vv, hvv⟩ : ∃ vv, [vc, V.ref u1, V.ref u2, vf][r3.toNat]? = some vv := ⟨_, List.getElem?_eq_getElem hlt⟩
        obtain ⟨fv, hfv, ifv⟩ := imAll_of (im4.mono tg) hvv
        have hfvm := List.mem_of_getElem? hfv
        have hfv2 : fv.ht ≤ 8 ∧ fv.over nms = true := by
          have hfc : fc.ht ≤ 3 := hc
          rcases List.mem_cons.mp hfvm with rfl | hm
          · exact ⟨by omega, oc⟩
          rcases List.mem_cons.mp hm with rfl | hm
          · exact ⟨by show g.ht + 1 ≤ 8; omega, g3⟩
          rcases List.mem_cons.mp hm with rfl | hm
          · exact ⟨by decide, rfl⟩
          · rw [List.mem_singleton.mp hm]
            exact ⟨by omega, gf3⟩
        have igg := igf6.mono tg
        have hBg := hBf.keep tg ((k5 _ _ hBf.at_ ndp).trans hBf.at_.symm)
        obtain ⟨gb, gs, rfl, _, _⟩ := im_inv igg
        obtain ⟨L', e1, hB', hl'⟩ := bx_put hBg (x := (g, gb, vv, fv)) fun x hx => by
          rw [List.mem_singleton.mp hx]
          exact ⟨g1, Nat.le_succ_of_le g2, g3, hfv2.1, hfv2.2, igg, ifv⟩
        refine ⟨q4, _, r3, vv, rfl, rfl, SqL.of (k5 _ _ hq4 nq4p), by rw [← hr3]; exact atI_nat hvv, _, rfl, _, rfl, dv, _, rfl, ⟨bxRows L, g.d, gb, hBg.at_, bx_keys hBg.ok, rfl, igg.dp, keyable_fm (by omega), ?_, rfl⟩, ?_⟩
        · rw [bxRows, List.length_map]
          have : (1000 : Nat) < sizeLine := by decide
          omega
        · have e1 : ND.putN (bxRows L) (NS.nkd g.d) gb vv = bxRows L' := e1
          refine ⟨L', _, rfl, ?_⟩
          change Pl K (upd H5 dv (ND.NDO P w dv (ND.putN (bxRows L) (NS.nkd g.d) gb vv))) p l ∧ _
          rw [e1]
          exact ⟨hP14.other ndv hPg Kp.upd, fun b o e n => by rw [upd_ne (ne_of_none e ndv)]; exact Kg _ _ e n, hB', by omega⟩
      · have tb := hPa.ts k2
        exact ⟨L, _, rfl, hPb, Ka.trans k2, hBa.keep tb ((k2 _ _ hBa.at_ ndp).trans hBa.at_.symm), by omega⟩
    · rintro σ H1 ⟨L, o5, rfl, hPa, Ka, hBa, hLi⟩
      intro hd nhd
      change gName 6 (V.ref hd) _ (upd H1 hd (ND.NDO P w hd [])) _
      have s16 := same_new (o := ND.NDO P w hd []) nhd
      have hhd16 := @upd_same H1 hd (ND.NDO P w hd [])
      have hB16 := hBa.same s16
      have ndh : dv ≠ hd := ne_of_none hBa.at_ nhd
      generalize upd H1 hd (ND.NDO P w hd []) = H16 at s16 hhd16 hB16
      refine ⟨dv, _, hB16.at_, trivial, fun od => ?_⟩
      have hF : upd H16 dv (.frz od (ND.NDO P w dv (bxRows L))) dv = some (.frz od (ND.NDO P w dv (bxRows L))) := upd_same
      have kF : ∀ b o, H16 b = some o → b ≠ dv → upd H16 dv (.frz od (ND.NDO P w dv (bxRows L))) b = some o := fun b o e n => by
        rw [upd_ne n]
        exact e
      generalize upd H16 dv (.frz od (ND.NDO P w dv (bxRows L))) = HF at hF kF
      have tF : TS H16 HF := TS.but hB16.at_ (fun _ e => nomatch e) (fun _ _ e => nomatch e) kF
      have hhdF := kF _ _ hhd16 ndh.symm
      have okF : BxOk K HF L := BxOk.mono hB16.ok tF
      refine ⟨_, rfl, dv, od, _, rfl, hF, ?_⟩
      refine for_it ND.walk_keysN (fun i σ H3 => ∃ o5 : Option V, σ = [some (.ref a), some (.ref p), some v, some (.ref fl), some (.ref dv), o5, some (.ref hd)] ∧ (∀ b o, HF b = some o → b ≠ hd → H3 b = some o) ∧ BxAt P w K H3 hd (L.take i))
        ⟨_, rfl, fun _ _ e _ => e, hhdF, .nil, fun x h => nomatch h⟩ (fun i σ H3 _ h => by
          obtain ⟨_, _, h, _⟩ := h
          exact h _ _ hF ndh) ?_ ?_
      · rintro i y σ H3 H4 hi ⟨o5, rfl, k3, hB3⟩ ⟨e3, kk, bb, vv, hx, rfl⟩
        obtain rfl := e3.symm
        simp only [bxRows, List.getElem?_map] at hx
        cases hx0 : L[i]? with
        | none => rw [hx0] at hx; cases hx
        | some x =>
        rw [hx0] at hx
        obtain ⟨rfl, rfl, rfl⟩ : NS.nkd x.1.d = kk ∧ x.2.1 = bb ∧ x.2.2.1 = vv := by
          have := Option.some.inj hx
          exact ⟨congrArg Prod.fst this, congrArg (fun z => z.2.1) this, congrArg (fun z => z.2.2) this⟩
        have hxm := List.mem_of_getElem? hx0
        have t3 : TS HF H3 := TS.but hhdF (fun _ e => nomatch e) (fun _ _ e => nomatch e) k3
        have ok3 := okF.mono t3
        obtain ⟨c1, c2, c3, c4, c5, c6, c7⟩ := ok3 x hxm
        have hnew : x.1 ∉ (L.take i).map (·.1) := fun hm => by
          rw [List.map_take] at hm
          obtain ⟨j, hj⟩ := List.getElem?_of_mem hm
          rw [List.getElem?_take] at hj
          split at hj
          · have i3 : (L.map (·.1))[i]? = some x.1 := by rw [List.getElem?_map, hx0]; rfl
            have := (List.getElem?_inj (List.getElem?_eq_some_iff.mp hj).1 hBa.nd).mp (hj.trans i3.symm)
            omega
          · cases hj
        obtain ⟨e1, hB'⟩ := bx_new hB3 (x := x) hnew fun z hz => by
          rw [List.mem_singleton.mp hz]
          exact ⟨c1, c2, c3, c4, c5, c6, c7⟩
        refine ⟨_, rfl, _, rfl, dv, x.2.2.1, rfl, ⟨bxRows L, x.1.d, .inr ⟨od, k3 _ _ hF ndh⟩, bx_keys ok3, c6.dp, keyable_fm (by omega), ?_⟩, _, rfl, _, rfl, hd, _, rfl, ⟨bxRows (L.take i), x.1.d, x.2.1, hB3.at_, bx_keys hB3.ok, rfl, c6.dp, keyable_fm (by omega), ?_, rfl⟩, ?_⟩
        · rw [bx_val, bx_self hBa.nd hxm]
          rfl
        · rw [bxRows, List.length_map, List.length_take]
          have : (1000 : Nat) < sizeLine := by decide
          omega
        · refine ⟨_, rfl, ?_⟩
          change (∀ b o, HF b = some o → b ≠ hd → upd H3 hd (ND.NDO P w hd (ND.putN (bxRows (L.take i)) (NS.nkd x.1.d) x.2.1 x.2.2.1)) b = some o) ∧ _
          rw [e1, take_snoc hx0]
          exact ⟨fun b o e n => by rw [upd_ne n]; exact k3 _ _ e n, hB'⟩
      · rintro σ H3 ⟨o5, rfl, k3, hB3⟩
        rw [bxRows, List.length_map, List.take_length] at hB3
        refine ⟨k3 _ _ hF ndh, ?_⟩
        refine fin3 (H := upd H3 dv (ND.NDO P w dv (bxRows L))) ?_
        have hv3 := k3 _ _ hF ndh
        have t3 : TS HF H3 := TS.but hhdF (fun _ e => nomatch e) (fun _ _ e => nomatch e) k3
        have k20 : ∀ b o, H3 b = some o → b ≠ dv → upd H3 dv (ND.NDO P w dv (bxRows L)) b = some o := fun b o e n => by
          rw [upd_ne n]
          exact e
        have t20 : TS H3 (upd H3 dv (ND.NDO P w dv (bxRows L))) := TS.but hv3 (fun _ e => nomatch e) (fun _ _ e => nomatch e) k20
        have t120 := (((Same.ts s16).trans tF).trans t3).trans t20
        have hdv20 := @upd_same H3 dv (ND.NDO P w dv (bxRows L))
        have K20 : Kp p H14 (upd H3 dv (ND.NDO P w dv (bxRows L))) := fun b o e n => by
          have n1 : b ≠ dv := ne_of_none e ndv
          have e1 := Ka _ _ e n
          exact k20 _ _ (k3 _ _ (kF _ _ (s16 _ _ e1) n1) (ne_of_none e1 nhd)) n1
        have hBh : BxAt P w K (upd H3 dv (ND.NDO P w dv (bxRows L))) hd L := ⟨k20 _ _ hB3.at_ ndh.symm, hBa.nd, BxOk.mono hBa.ok t120⟩
        have hBv : BxAt P w K (upd H3 dv (ND.NDO P w dv (bxRows L))) dv L := ⟨hdv20, hBa.nd, BxOk.mono hBa.ok t120⟩
        generalize upd H3 dv (ND.NDO P w dv (bxRows L)) = H20 at K20 hBh hBv
        have T20 := tabs_kpl T14 K20 hp14
        have iv20 := iv14.mono (K20.ts hp14)
        have hrb := rb_ht hBh.ok f
        refine ⟨_, rfl, _, rfl, v, hd, L, f, rfl, hBh, by omega, iv20, ho, by omega, T20, fun u1 H21 e21 T21 i21 => ?_⟩
        have hBh1 : BxAt P w K H21 hd L := hBh.keep (extn_ts e21) ((e21 _ _ hBh.at_ fun _ z => nomatch z).trans hBh.at_.symm)
        have hBv1 : BxAt P w K H21 dv L := hBv.keep (extn_ts e21) ((e21 _ _ hBv.at_ fun _ z => nomatch z).trans hBv.at_.symm)
        refine ⟨_, rfl, _, rfl, v, dv, L, f, rfl, hBv1, iv20.mono (extn_ts e21), by omega, by omega, fun u2 H22 s22 i22 => ⟨u1, u2, _, rfl, (i21.mono (Same.ts s22)).dp, i22.dp, by rw [Fm.depth]; omega, Fm.sml _, true, rfl, iteT ?_⟩⟩
        have hBh2 := hBh1.same s22
        have hBv2 := hBv1.same s22
        refine ⟨_, rfl, _, rfl, hd, dv, bxRows L, bxRows L, rfl, rfl, hBh2.at_, hBv2.at_, bx_keys hBh2.ok, bx_keys hBv2.ok, rfl, fun r hr => ?_, q _⟩
        obtain ⟨x, hx, rfl⟩ := List.mem_map.mp hr
        obtain ⟨_, _, _, c4, c5, _, c7⟩ := hBh2.ok x hx
        exact ⟨x.2.2.1, x.2.2.2.d, by rw [bx_val, bx_self hBa.nd hx]; rfl, c7.dp, c7.dp, fm_shapedR nms_ok c5 (by omega)⟩

end
theorem all_mk {l : PySem.W.OpenLaw} {w : World} {K : PySem.W.Frag} {h : Heap} {mg : Str → Option Value} {fa : Addr} (X : K.In h) (G : h.Ns mainGlobals mg) (hfa : mg "law" = some (.ref fa))
    {f0 f1 f2 f3 f4 f5 f6 f7 f8 f9 f10 f11 f12 f13 f14 f15 f16 f17 f18 : Addr} {od0 an0 od1 an1 od2 an2 od3 an3 od4 an4 od5 an5 od6 an6 od7 an7 od8 an8 od9 an9 od10 an10 od11 an11 od12 an12 od13 an13 od14 an14 od15 an15 od16 an16 od17 an17 od18 an18 : Option Addr}
    {sl0 sl1 sl2 sl3 sl4 sl5 sl6 sl7 sl8 sl9 sl10 sl11 sl12 sl13 sl14 sl15 sl16 sl17 sl18 : Array (Option Value)} {oc0 kV0 dc0 pm0 cd0 ct0 oc1 kV1 dc1 pm1 cd1 ct1 oc2 kV2 dc2 pm2 cd2 ct2 oc3 kV3 dc3 pm3 cd3 ct3 oc4 kV4 dc4 pm4 cd4 ct4 oc5 kV5 dc5 pm5 cd5 ct5 oc6 kV6 dc6 pm6 ct6 oc7 kV7 dc7 pm7 cd7 ct7 oc8 kV8 dc8 pm8 cd8 ct8 oc9 kV9 dc9 pm9 cd9 ct9 oc10 kV10 dc10 pm10 cd10 ct10 oc11 kV11 dc11 pm11 cd11 ct11 oc12 kV12 dc12 pm12 cd12 ct12 oc13 kV13 dc13 pm13 cd13 ct13 oc14 kV14 dc14 pm14 cd14 ct14 oc15 kV15 dc15 pm15 cd15 ct15 oc16 kV16 dc16 pm16 cd16 ct16 oc17 kV17 dc17 pm17 cd17 ct17 oc18 kV18 dc18 pm18 cd18 ct18 : Value}
    {kc6 : Addr}
    (a0 : PySem.W.nsIn K mainGlobals "parts_of" = some (some (.ref f0))) (l0 : K.lookup f0 = some ⟨oc0, od0, .func (PySem.W.fnOf "parts_of" "parts_of" (defArgs s_parts_of) (defBody s_parts_of) (defScope s_parts_of) .none kV0 dc0 pm0 an0 cd0 ct0), sl0⟩) (c0 : PySem.W.codeIn K cd0 "parts_of" = true) (k0 : PySem.W.keepIn K (.ref f0) = true)
    (a1 : PySem.W.nsIn K mainGlobals "distinct" = some (some (.ref f1))) (l1 : K.lookup f1 = some ⟨oc1, od1, .func (PySem.W.fnOf "distinct" "distinct" (defArgs s_distinct) (defBody s_distinct) (defScope s_distinct) .none kV1 dc1 pm1 an1 cd1 ct1), sl1⟩) (c1 : PySem.W.codeIn K cd1 "distinct" = true) (k1 : PySem.W.keepIn K (.ref f1) = true)
    (a2 : PySem.W.nsIn K mainGlobals "levels_of" = some (some (.ref f2))) (l2 : K.lookup f2 = some ⟨oc2, od2, .func (PySem.W.fnOf "levels_of" "levels_of" (defArgs s_levels_of) (defBody s_levels_of) (defScope s_levels_of) .none kV2 dc2 pm2 an2 cd2 ct2), sl2⟩) (c2 : PySem.W.codeIn K cd2 "levels_of" = true) (k2 : PySem.W.keepIn K (.ref f2) = true)
    (a3 : PySem.W.nsIn K mainGlobals "levels_from" = some (some (.ref f3))) (l3 : K.lookup f3 = some ⟨oc3, od3, .func (PySem.W.fnOf "levels_from" "levels_from" (defArgs s_levels_from) (defBody s_levels_from) (defScope s_levels_from) .none kV3 dc3 pm3 an3 cd3 ct3), sl3⟩) (c3 : PySem.W.codeIn K cd3 "levels_from" = true) (k3 : PySem.W.keepIn K (.ref f3) = true)
    (a4 : PySem.W.nsIn K mainGlobals "place_of" = some (some (.ref f4))) (l4 : K.lookup f4 = some ⟨oc4, od4, .func (PySem.W.fnOf "place_of" "place_of" (defArgs s_place_of) (defBody s_place_of) (defScope s_place_of) .none kV4 dc4 pm4 an4 cd4 ct4), sl4⟩) (c4 : PySem.W.codeIn K cd4 "place_of" = true) (k4 : PySem.W.keepIn K (.ref f4) = true)
    (a5 : PySem.W.nsIn K mainGlobals "folded" = some (some (.ref f5))) (l5 : K.lookup f5 = some ⟨oc5, od5, .func (PySem.W.fnOf "folded" "folded" (defArgs s_folded) (defBody s_folded) (defScope s_folded) .none kV5 dc5 pm5 an5 cd5 ct5), sl5⟩) (c5 : PySem.W.codeIn K cd5 "folded" = true) (k5 : PySem.W.keepIn K (.ref f5) = true)
    (a6 : PySem.W.nsIn K mainGlobals "replace_boxes" = some (some (.ref f6))) (l6 : K.lookup f6 = some ⟨oc6, od6, .func (PySem.W.fnOf "replace_boxes" "replace_boxes" (defArgs s_replace_boxes) (defBody s_replace_boxes) (defScope s_replace_boxes) .none kV6 dc6 pm6 an6 (.ref kc6) ct6), sl6⟩) (c6 : PySem.W.codeIn K (.ref kc6) "replace_boxes" = true) (k6 : PySem.W.keepIn K (.ref f6) = true)
    (a7 : PySem.W.nsIn K mainGlobals "_value_at" = some (some (.ref f7))) (l7 : K.lookup f7 = some ⟨oc7, od7, .func (PySem.W.fnOf "_value_at" "_value_at" (defArgs s_value_at) (defBody s_value_at) (defScope s_value_at) .none kV7 dc7 pm7 an7 cd7 ct7), sl7⟩) (c7 : PySem.W.codeIn K cd7 "_value_at" = true) (k7 : PySem.W.keepIn K (.ref f7) = true)
    (a8 : PySem.W.nsIn K mainGlobals "_law_pool" = some (some (.ref f8))) (l8 : K.lookup f8 = some ⟨oc8, od8, .func (PySem.W.fnOf "_law_pool" "_law_pool" (defArgs s_law_pool) (defBody s_law_pool) (defScope s_law_pool) .none kV8 dc8 pm8 an8 cd8 ct8), sl8⟩) (c8 : PySem.W.codeIn K cd8 "_law_pool" = true) (k8 : PySem.W.keepIn K (.ref f8) = true)
    (a9 : PySem.W.nsIn K mainGlobals "_law_spread" = some (some (.ref f9))) (l9 : K.lookup f9 = some ⟨oc9, od9, .func (PySem.W.fnOf "_law_spread" "_law_spread" (defArgs s_law_spread) (defBody s_law_spread) (defScope s_law_spread) .none kV9 dc9 pm9 an9 cd9 ct9), sl9⟩) (c9 : PySem.W.codeIn K cd9 "_law_spread" = true) (k9 : PySem.W.keepIn K (.ref f9) = true)
    (a10 : PySem.W.nsIn K mainGlobals "_law_draw" = some (some (.ref f10))) (l10 : K.lookup f10 = some ⟨oc10, od10, .func (PySem.W.fnOf "_law_draw" "_law_draw" (defArgs s_law_draw) (defBody s_law_draw) (defScope s_law_draw) .none kV10 dc10 pm10 an10 cd10 ct10), sl10⟩) (c10 : PySem.W.codeIn K cd10 "_law_draw" = true) (k10 : PySem.W.keepIn K (.ref f10) = true)
    (a11 : PySem.W.nsIn K mainGlobals "_law_same" = some (some (.ref f11))) (l11 : K.lookup f11 = some ⟨oc11, od11, .func (PySem.W.fnOf "_law_same" "_law_same" (defArgs s_law_same) (defBody s_law_same) (defScope s_law_same) .none kV11 dc11 pm11 an11 cd11 ct11), sl11⟩) (c11 : PySem.W.codeIn K cd11 "_law_same" = true) (k11 : PySem.W.keepIn K (.ref f11) = true)
    (a12 : PySem.W.nsIn K mainGlobals "_law_formula" = some (some (.ref f12))) (l12 : K.lookup f12 = some ⟨oc12, od12, .func (PySem.W.fnOf "_law_formula" "_law_formula" (defArgs s_law_formula) (defBody s_law_formula) (defScope s_law_formula) .none kV12 dc12 pm12 an12 cd12 ct12), sl12⟩) (c12 : PySem.W.codeIn K cd12 "_law_formula" = true) (k12 : PySem.W.keepIn K (.ref f12) = true)
    (a13 : PySem.W.nsIn K mainGlobals "_law_list" = some (some (.ref f13))) (l13 : K.lookup f13 = some ⟨oc13, od13, .func (PySem.W.fnOf "_law_list" "_law_list" (defArgs s_law_list) (defBody s_law_list) (defScope s_law_list) .none kV13 dc13 pm13 an13 cd13 ct13), sl13⟩) (c13 : PySem.W.codeIn K cd13 "_law_list" = true) (k13 : PySem.W.keepIn K (.ref f13) = true)
    (a14 : PySem.W.nsIn K mainGlobals "_law_some" = some (some (.ref f14))) (l14 : K.lookup f14 = some ⟨oc14, od14, .func (PySem.W.fnOf "_law_some" "_law_some" (defArgs s_law_some) (defBody s_law_some) (defScope s_law_some) .none kV14 dc14 pm14 an14 cd14 ct14), sl14⟩) (c14 : PySem.W.codeIn K cd14 "_law_some" = true) (k14 : PySem.W.keepIn K (.ref f14) = true)
    (a15 : PySem.W.nsIn K mainGlobals "_law_parts" = some (some (.ref f15))) (l15 : K.lookup f15 = some ⟨oc15, od15, .func (PySem.W.fnOf "_law_parts" "_law_parts" (defArgs s_law_parts) (defBody s_law_parts) (defScope s_law_parts) .none kV15 dc15 pm15 an15 cd15 ct15), sl15⟩) (c15 : PySem.W.codeIn K cd15 "_law_parts" = true) (k15 : PySem.W.keepIn K (.ref f15) = true)
    (a16 : PySem.W.nsIn K mainGlobals "_law_all" = some (some (.ref f16))) (l16 : K.lookup f16 = some ⟨oc16, od16, .func (PySem.W.fnOf "_law_all" "_law_all" (defArgs s_law_all) (defBody s_law_all) (defScope s_law_all) .none kV16 dc16 pm16 an16 cd16 ct16), sl16⟩) (c16 : PySem.W.codeIn K cd16 "_law_all" = true) (k16 : PySem.W.keepIn K (.ref f16) = true)
    (a17 : PySem.W.nsIn K mainGlobals "_law_put" = some (some (.ref f17))) (l17 : K.lookup f17 = some ⟨oc17, od17, .func (PySem.W.fnOf "_law_put" "_law_put" (defArgs s_law_put) (defBody s_law_put) (defScope s_law_put) .none kV17 dc17 pm17 an17 cd17 ct17), sl17⟩) (c17 : PySem.W.codeIn K cd17 "_law_put" = true) (k17 : PySem.W.keepIn K (.ref f17) = true)
    (a18 : PySem.W.nsIn K mainGlobals "law" = some (some (.ref f18))) (l18 : K.lookup f18 = some ⟨oc18, od18, .func (PySem.W.fnOf "law" "law" (defArgs s_law) (defBody s_law) (defScope s_law) .none kV18 dc18 pm18 an18 cd18 ct18), sl18⟩) (c18 : PySem.W.codeIn K cd18 "law" = true) (k18 : PySem.W.keepIn K (.ref f18) = true)
    (z_bool : PySem.W.nsIn K mainGlobals "bool" = some none)
    (z_int : PySem.W.nsIn K mainGlobals "int" = some none)
    (z_isinstance : PySem.W.nsIn K mainGlobals "isinstance" = some none)
    (z_len : PySem.W.nsIn K mainGlobals "len" = some none)
    (z_list : PySem.W.nsIn K mainGlobals "list" = some none)
    (z_range : PySem.W.nsIn K mainGlobals "range" = some none)
    (z_reversed : PySem.W.nsIn K mainGlobals "reversed" = some none)
    (z_sorted : PySem.W.nsIn K mainGlobals "sorted" = some none)
    (z_str : PySem.W.nsIn K mainGlobals "str" = some none)
    (z_tuple : PySem.W.nsIn K mainGlobals "tuple" = some none)
    (hd6 : PySem.W.codeHdIn K kc6 (He.tabOf K kc6) = true) (n6 : K.lookup (He.tabOf K kc6) = none) (t6 : h.get? (He.tabOf K kc6) = some { cls := .none, data := .fields #[] })
    (dT : decide ([He.tabOf K kc6].Nodup) = true)
    : LamX.LawAtS l w K CX0 21 63 "script" mg fa h := by
  have e := hfa.symm.trans (PySem.W.mg_of X G a18)
  cases e
  have F0 := fun_mk (st := s_parts_of) l0 c0 k0
  have b0 := F0.binds (ps := ["a"]) fun _ _ _ _ _ _ us hl => match us, hl with | [_], _ => rfl
  have F1 := fun_mk (st := s_distinct) l1 c1 k1
  have b1 := F1.binds (ps := ["rows"]) fun _ _ _ _ _ _ us hl => match us, hl with | [_], _ => rfl
  have F2 := fun_mk (st := s_levels_of) l2 c2 k2
  have b2 := F2.binds (ps := ["a"]) fun _ _ _ _ _ _ us hl => match us, hl with | [_], _ => rfl
  have F3 := fun_mk (st := s_levels_from) l3 c3 k3
  have b3 := F3.binds (ps := ["formulas"]) fun _ _ _ _ _ _ us hl => match us, hl with | [_], _ => rfl
  have F4 := fun_mk (st := s_place_of) l4 c4 k4
  have b4 := F4.binds (ps := ["rows", "row"]) fun _ _ _ _ _ _ us hl => match us, hl with | [_, _], _ => rfl
  have F5 := fun_mk (st := s_folded) l5 c5 k5
  have b5 := F5.binds (ps := ["a", "value_of"]) fun _ _ _ _ _ _ us hl => match us, hl with | [_, _], _ => rfl
  have F6 := fun_mk (st := s_replace_boxes) l6 c6 k6
  have b6 := F6.binds (ps := ["a", "values"]) fun _ _ _ _ _ _ us hl => match us, hl with | [_, _], _ => rfl
  have F7 := fun_mk (st := s_value_at) l7 c7 k7
  have b7 := F7.binds (ps := ["values", "a", "otherwise"]) fun _ _ _ _ _ _ us hl => match us, hl with | [_, _, _], _ => rfl
  have F8 := fun_mk (st := s_law_pool) l8 c8 k8
  have b8 := F8.binds (ps := ["script"]) fun _ _ _ _ _ _ us hl => match us, hl with | [_], _ => rfl
  have F9 := fun_mk (st := s_law_spread) l9 c9 k9
  have b9 := F9.binds (ps := ["cell"]) fun _ _ _ _ _ _ us hl => match us, hl with | [_], _ => rfl
  have F10 := fun_mk (st := s_law_draw) l10 c10 k10
  have b10 := F10.binds (ps := ["pool", "many"]) fun _ _ _ _ _ _ us hl => match us, hl with | [_, _], _ => rfl
  have F11 := fun_mk (st := s_law_same) l11 c11 k11
  have b11 := F11.binds (ps := ["actual", "due"]) fun _ _ _ _ _ _ us hl => match us, hl with | [_, _], _ => rfl
  have F12 := fun_mk (st := s_law_formula) l12 c12 k12
  have b12 := F12.binds (ps := ["pool", "depth", "plain"]) fun _ _ _ _ _ _ us hl => match us, hl with | [_, _, _], _ => rfl
  have F13 := fun_mk (st := s_law_list) l13 c13 k13
  have b13 := F13.binds (ps := ["pool", "many"]) fun _ _ _ _ _ _ us hl => match us, hl with | [_, _], _ => rfl
  have F14 := fun_mk (st := s_law_some) l14 c14 k14
  have b14 := F14.binds (ps := ["pool", "depth", "plain"]) fun _ _ _ _ _ _ us hl => match us, hl with | [_, _, _], _ => rfl
  have F15 := fun_mk (st := s_law_parts) l15 c15 k15
  have b15 := F15.binds (ps := ["a"]) fun _ _ _ _ _ _ us hl => match us, hl with | [_], _ => rfl
  have F16 := fun_mk (st := s_law_all) l16 c16 k16
  have b16 := F16.binds (ps := ["a"]) fun _ _ _ _ _ _ us hl => match us, hl with | [_], _ => rfl
  have F17 := fun_mk (st := s_law_put) l17 c17 k17
  have b17 := F17.binds (ps := ["a", "values"]) fun _ _ _ _ _ _ us hl => match us, hl with | [_, _], _ => rfl
  have F18 := fun_mk (st := s_law) l18 c18 k18
  have b18 := F18.binds (ps := ["script"]) fun _ _ _ _ _ _ us hl => match us, hl with | [_], _ => rfl
  let T : Top K mg := ⟨_, _, F0, b0, PySem.W.mg_of X G a0, _, _, F1, b1, PySem.W.mg_of X G a1, _, _, F2, b2, PySem.W.mg_of X G a2, _, _, F3, b3, PySem.W.mg_of X G a3, _, _, F4, b4, PySem.W.mg_of X G a4, _, _, F5, b5, PySem.W.mg_of X G a5, _, _, F6, b6, PySem.W.mg_of X G a6, _, _, F7, b7, PySem.W.mg_of X G a7, _, _, F8, b8, PySem.W.mg_of X G a8, _, _, F9, b9, PySem.W.mg_of X G a9, _, _, F10, b10, PySem.W.mg_of X G a10, _, _, F11, b11, PySem.W.mg_of X G a11, _, _, F12, b12, PySem.W.mg_of X G a12, _, _, F13, b13, PySem.W.mg_of X G a13, _, _, F14, b14, PySem.W.mg_of X G a14, _, _, F15, b15, PySem.W.mg_of X G a15, _, _, F16, b16, PySem.W.mg_of X G a16, _, _, F17, b17, PySem.W.mg_of X G a17, _, _, F18, b18, PySem.W.mg_of X G a18, PySem.W.mg_none_of X G z_bool, PySem.W.mg_none_of X G z_int, PySem.W.mg_none_of X G z_isinstance, PySem.W.mg_none_of X G z_len, PySem.W.mg_none_of X G z_list, PySem.W.mg_none_of X G z_range, PySem.W.mg_none_of X G z_reversed, PySem.W.mg_none_of X G z_sorted, PySem.W.mg_none_of X G z_str, PySem.W.mg_none_of X G z_tuple, _, _, func_mk (st := s_replace_boxes) l6 c6, of_decide_eq_true dT⟩
  exact ⟨_, T.cs, spLaw K T.tabs, List.forall_mem_cons.mpr ⟨t6, (fun _ h => nomatch h)⟩, List.forall_mem_cons.mpr ⟨n6, (fun _ h => nomatch h)⟩, List.forall_mem_cons.mpr ⟨PySem.W.codeHd_of_K X hd6, (fun _ h => nomatch h)⟩, fun s v => .of_eq rfl, fun H a ns hl _ hE hS => ⟨a, ns, rfl, hS, hl, tabs_start rfl hE, fun _ => rfl⟩, fun base _ _ TBs => ok_law T TBs⟩
end E
open PySem PySem.W PyProof.Rows
set_option maxRecDepth 100000 in
set_option maxHeartbeats 0 in
theorem PySem.Challenge.cw_elsewhere_k05_replaced_boxes_holds : PySem.Challenge.rw_elsewhere_k05_replaced_boxes.Holds := by
  w_on; o_law; k_head; (case hw => w_witness2)
  k_fill
  refine LamX.walk_ofTs (l := PySem.Challenge.rw_elsewhere_k05_replaced_boxes) (n := 63) (k := 21) (x := "script") (CX := fun _ => L2.CX0) rfl (by decide) rfl ⟨rfl, by decide, by decide⟩ (fun w h Y => PySem.W.km_in_of Y) ?F (fun _ _ _ _ _ z => z)
  case F =>
    intro w mg fa h Y KX G hmg
    have hT8 := PySem.W.km_tabs_of Y
    refine' E.all_mk KX G hmg ?a0 ?l0 ?c0 ?k0 ?a1 ?l1 ?c1 ?k1 ?a2 ?l2 ?c2 ?k2 ?a3 ?l3 ?c3 ?k3 ?a4 ?l4 ?c4 ?k4 ?a5 ?l5 ?c5 ?k5 ?a6 ?l6 ?c6 ?k6 ?a7 ?l7 ?c7 ?k7 ?a8 ?l8 ?c8 ?k8 ?a9 ?l9 ?c9 ?k9 ?a10 ?l10 ?c10 ?k10 ?a11 ?l11 ?c11 ?k11 ?a12 ?l12 ?c12 ?k12 ?a13 ?l13 ?c13 ?k13 ?a14 ?l14 ?c14 ?k14 ?a15 ?l15 ?c15 ?k15 ?a16 ?l16 ?c16 ?k16 ?a17 ?l17 ?c17 ?k17 ?a18 ?l18 ?c18 ?k18 ?z_bool ?z_int ?z_isinstance ?z_len ?z_list ?z_range ?z_reversed ?z_sorted ?z_str ?z_tuple ?hd6 ?n6 ?t6 ?dT
    (case a0 => k_is); (case l0 => k_is); (case c0 => k_is); (case k0 => k_is)
    (case a1 => k_is); (case l1 => k_is); (case c1 => k_is); (case k1 => k_is)
    (case a2 => k_is); (case l2 => k_is); (case c2 => k_is); (case k2 => k_is)
    (case a3 => k_is); (case l3 => k_is); (case c3 => k_is); (case k3 => k_is)
    (case a4 => k_is); (case l4 => k_is); (case c4 => k_is); (case k4 => k_is)
    (case a5 => k_is); (case l5 => k_is); (case c5 => k_is); (case k5 => k_is)
    (case a6 => k_is); (case l6 => k_is); (case c6 => k_is); (case k6 => k_is)
    (case a7 => k_is); (case l7 => k_is); (case c7 => k_is); (case k7 => k_is)
    (case a8 => k_is); (case l8 => k_is); (case c8 => k_is); (case k8 => k_is)
    (case a9 => k_is); (case l9 => k_is); (case c9 => k_is); (case k9 => k_is)
    (case a10 => k_is); (case l10 => k_is); (case c10 => k_is); (case k10 => k_is)
    (case a11 => k_is); (case l11 => k_is); (case c11 => k_is); (case k11 => k_is)
    (case a12 => k_is); (case l12 => k_is); (case c12 => k_is); (case k12 => k_is)
    (case a13 => k_is); (case l13 => k_is); (case c13 => k_is); (case k13 => k_is)
    (case a14 => k_is); (case l14 => k_is); (case c14 => k_is); (case k14 => k_is)
    (case a15 => k_is); (case l15 => k_is); (case c15 => k_is); (case k15 => k_is)
    (case a16 => k_is); (case l16 => k_is); (case c16 => k_is); (case k16 => k_is)
    (case a17 => k_is); (case l17 => k_is); (case c17 => k_is); (case k17 => k_is)
    (case a18 => k_is); (case l18 => k_is); (case c18 => k_is); (case k18 => k_is)
    (case z_bool => k_is); (case z_int => k_is); (case z_isinstance => k_is); (case z_len => k_is)
    (case z_list => k_is); (case z_range => k_is); (case z_reversed => k_is); (case z_sorted => k_is)
    (case z_str => k_is); (case z_tuple => k_is); (case hd6 => kernel_rfl); (case n6 => kernel_rfl)
    (case t6 => exact hT8 _ (List.elem_iff.mp (by kernel_rfl))); (case dT => kernel_rfl)

