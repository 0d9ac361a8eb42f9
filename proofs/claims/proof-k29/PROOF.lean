import PyProof.Rows.All
import Wide.All
import OpenK.AllK
import Wide.FinOn
import HandS.ForMost
import HandS.IsInst
import HandS.Steps
import HandS.TupAny
import HandS.Codes
import KE.LtData
import KE.SortData
import KE.SortLaws
import PyProof.StrOps
import KE.SortCalls
import KE.DatumOrd
import HandS.DeepEq
import HandS.SetFor
import HandS.Strs
import HandS.ExcOwn
import HandS.ExcIs
import HandS.RaiseMore
import HandS.FStr
import HandS.More
import HandS.Defaults
import HandS.Head0
import HandS.Head1
import HandS.Head2
import HandS.HeadEnd
import HandS.HeadHook1
import HandS.HeadHook2
import HandS.HeadHook3
import HandS.CallLocal
import HandS.Nested
import HandS.WordsExc
import HandS.NestedK
import HandS.HeadHook4
import HandS.EndTab
import HandS.SortKw
import KE.KMinKey
import HandS.TryElse
import HandS.DictComp
import HandS.Conv
import HandS.Walk
import HandS.Star
import HandS.Rev
import HandS.Flow
import HandS.CallSlots
import HandS.TupLen
import HandS.Deep
import KE.KeyNested
import HandS.TupSets
import HandS.Style
import PyProof.P3In
import PySem.Challenge.RW_elsewhere_k29_premises_of_logical_rules
set_option Elab.async false
set_option linter.all false
set_option maxRecDepth 100000
namespace E
open PySem PySem.Spec PyProof.Rows L2
/-! ### heaps: what a step keeps -/
/-- tuples stay -/
def TS (H H' : Hp) : Prop := (∀ b xs, Rd H b (.tup xs) → Rd H' b (.tup xs)) ∧ ∀ b xs, H b = some (.tup xs) → H' b = some (.tup xs)
theorem TS.refl (H : Hp) : TS H H := ⟨fun _ _ h => h, fun _ _ h => h⟩
/-- one object, no tuple, is changed -/
theorem TS.but {H H' : Hp} {d : Addr} {u : HO} (hd : H d = some u) (h1 : ∀ xs, u ≠ .tup xs) (h2 : ∀ o xs, u ≠ .frz o (.tup xs)) (k : ∀ c o, H c = some o → c ≠ d → H' c = some o) : TS H H' := by
  have n1 : ∀ c xs, H c = some (.tup xs) → c ≠ d := fun c xs r e => by
    rw [e, hd] at r
    exact h1 xs (Option.some.inj r)
  have n2 : ∀ c o xs, H c = some (.frz o (.tup xs)) → c ≠ d := fun c o xs r e => by
    rw [e, hd] at r
    exact h2 o xs (Option.some.inj r)
  refine ⟨fun c xs r => ?_, fun c xs r => k _ _ r (n1 _ _ r)⟩
  rcases r with r | ⟨o, r⟩
  · exact .inl (k _ _ r (n1 _ _ r))
  · exact .inr ⟨o, k _ _ r (n2 _ _ _ r)⟩
theorem TS.trans {H H1 H2 : Hp} (a : TS H H1) (b : TS H1 H2) : TS H H2 := ⟨fun c xs h => b.1 c xs (a.1 c xs h), fun c xs h => b.2 c xs (a.2 c xs h)⟩
/-- all but the object at p stays -/
def Kp (p : Addr) (H H' : Hp) : Prop := ∀ b o, H b = some o → b ≠ p → H' b = some o
theorem Kp.refl (p : Addr) (H : Hp) : Kp p H H := fun _ _ h _ => h
theorem Kp.trans {p : Addr} {H H1 H2 : Hp} (a : Kp p H H1) (b : Kp p H1 H2) : Kp p H H2 := fun c o h n => b c o (a c o h n) n
theorem Kp.upd {p : Addr} {H : Hp} {o : HO} : Kp p H (upd H p o) := fun b u h n => by rw [upd_ne n]; exact h
theorem Kp.new {p q : Addr} {H : Hp} {o : HO} (h : H q = none) : Kp p H (L2.upd H q o) := fun b u e _ => by rw [upd_ne (ne_of_none e h)]; exact e
theorem same_new {q : Addr} {H : Hp} {o : HO} (h : H q = none) : Same H (upd H q o) := fun b u e => by rw [upd_ne (ne_of_none e h)]; exact e
theorem Same.kp {p : Addr} {H H' : Hp} (s : Same H H') : Kp p H H' := fun b o h _ => s b o h
theorem Same.ts {H H' : Hp} (s : Same H H') : TS H H' := ⟨fun b xs h => by
  rcases h with h | ⟨o, h⟩
  · exact .inl (s _ _ h)
  · exact .inr ⟨o, s _ _ h⟩, fun b xs h => s _ _ h⟩
theorem Kp.rd {p a : Addr} {H H' : Hp} {u : HO} (k : Kp p H H') (h : Rd H a u) (n : a ≠ p) : Rd H' a u := by
  rcases h with h | ⟨o, h⟩
  · exact .inl (k _ _ h n)
  · exact .inr ⟨o, k _ _ h n⟩
theorem Kp.sqL {K : PySem.W.Frag} {p a : Addr} {H H' : Hp} {xs : List V} (k : Kp p H H') (h : SqL K H a xs) (n : a ≠ p) : SqL K H' a xs := by
  rcases h with h | h
  · exact .inl (k.rd h n)
  · exact .inr h
/-- p holds a list: tuples stay -/
theorem Kp.ts {p : Addr} {H H' : Hp} {xs : List V} (k : Kp p H H') (h : H p = some (.lst xs)) : TS H H' := TS.but h (fun _ e => nomatch e) (fun _ _ e => nomatch e) k
/-- what is new for H' was new for H -/
theorem Kp.free {p q : Addr} {H H' : Hp} {o : HO} (k : Kp p H H') (hp : H p = some o) (hp' : ∃ o, H' p = some o) (h : H' q = none) : H q = none := by
  cases e : H q with
  | none => rfl
  | some u =>
    have n : q ≠ p := fun z => by
      subst z
      obtain ⟨o', h'⟩ := hp'
      rw [h] at h'; cases h'
    rw [k q u e n] at h; cases h
theorem TS.sqT {K : PySem.W.Frag} {a : Addr} {H H' : Hp} {xs : List V} (k : TS H H') (h : SqT K H a xs) : SqT K H' a xs := by
  rcases h with h | h
  · exact .inl (k.1 _ _ h)
  · exact .inr h
/-! ### data without lists -/
mutual
inductive Im (K : PySem.W.Frag) (H : Hp) : V → PyData → Prop
  | non : Im K H .non .none
  | bl (b : Bool) : Im K H (.bl b) (.bool b)
  | int (i : Int) : Im K H (.int i) (.int i)
  | str (x : Str) : Im K H (.str x) (.str x)
  | tup {a : Addr} {xs : List V} {ds : List PyData} (h : SqT K H a xs) (l : ImAll K H xs ds) (tr : ∀ y : Str, ds = [.str "var", .str y] → H a = some (.tup xs) := by first | (intro y e; cases e; done) | (intro y e; exact absurd (PyData.str.inj (List.cons.inj e).1) (by decide +kernel))) : Im K H (.ref a) (.tuple ds)
inductive ImAll (K : PySem.W.Frag) (H : Hp) : List V → List PyData → Prop
  | nil : ImAll K H [] []
  | cons {v : V} {vs : List V} {d : PyData} {ds : List PyData} : Im K H v d → ImAll K H vs ds → ImAll K H (v :: vs) (d :: ds)
end
section
variable {K : PySem.W.Frag} {H H' : Hp}
mutual
theorem Im.mono (k : TS H H') : ∀ {v : V} {d : PyData}, Im K H v d → Im K H' v d
  | _, _, .non => .non
  | _, _, .bl b => .bl b
  | _, _, .int i => .int i
  | _, _, .str x => .str x
  | _, _, .tup h a t => .tup (k.sqT h) (ImAll.mono k a) fun y e => k.2 _ _ (t y e)
theorem ImAll.mono (k : TS H H') : ∀ {vs : List V} {ds : List PyData}, ImAll K H vs ds → ImAll K H' vs ds
  | _, _, .nil => .nil
  | _, _, .cons h t => .cons (Im.mono k h) (ImAll.mono k t)
end
mutual
theorem Im.dp : ∀ {v : V} {d : PyData}, Im K H v d → Dp K H v d
  | _, _, .non => .non
  | _, _, .bl b => .bl b
  | _, _, .int i => .int i
  | _, _, .str x => .str x
  | _, _, .tup h a _ => .tup h (ImAll.dp a)
theorem ImAll.dp : ∀ {vs : List V} {ds : List PyData}, ImAll K H vs ds → DpAll K H vs ds
  | _, _, .nil => .nil
  | _, _, .cons h t => .cons (Im.dp h) (ImAll.dp t)
end
theorem ImAll.get : ∀ {vs : List V} {ds : List PyData} {i : Nat} {v : V}, ImAll K H vs ds → vs[i]? = some v → ∃ d, ds[i]? = some d ∧ Im K H v d
  | _, _, _, _, .nil, e => by simp at e
  | _, _, 0, _, .cons h _, e => by simp at e; subst e; exact ⟨_, rfl, h⟩
  | _, _, i + 1, v, .cons _ t, e => by
    obtain ⟨d, h1, h2⟩ := ImAll.get (i := i) (v := v) t (by simpa using e)
    exact ⟨d, by simpa using h1, h2⟩
theorem ImAll.length : ∀ {vs : List V} {ds : List PyData}, ImAll K H vs ds → vs.length = ds.length
  | _, _, .nil => rfl
  | _, _, .cons _ t => by rw [List.length_cons, List.length_cons, ImAll.length t]
theorem ImAll.snoc : ∀ {vs : List V} {ds : List PyData} {v : V} {d : PyData}, ImAll K H vs ds → Im K H v d → ImAll K H (vs ++ [v]) (ds ++ [d])
  | _, _, _, _, .nil, h => .cons h .nil
  | _, _, _, _, .cons h t, h' => .cons h (ImAll.snoc t h')
theorem dpAll_get : ∀ {vs : List V} {ds : List PyData} {i : Nat} {d : PyData}, DpAll K H vs ds → ds[i]? = some d → ∃ v, vs[i]? = some v ∧ Dp K H v d
  | _, _, _, _, .nil, e => by simp at e
  | _, _, 0, _, .cons h _, e => by simp at e; subst e; exact ⟨_, rfl, h⟩
  | _, _, i + 1, d, .cons _ t, e => by
    obtain ⟨v, h1, h2⟩ := dpAll_get (i := i) (d := d) t (by simpa using e)
    exact ⟨v, by simpa using h1, h2⟩
theorem dpAll_len : ∀ {vs : List V} {ds : List PyData}, DpAll K H vs ds → vs.length = ds.length
  | _, _, .nil => rfl
  | _, _, .cons _ t => by rw [List.length_cons, List.length_cons, dpAll_len t]
/-! ### types, for isinstance -/
theorem ty_list {a : Addr} {xs : List V} (h : SqL K H a xs) : TyX K H (.ref a) (.type "list") := by
  rcases h with (h | ⟨o, h⟩) | ⟨o, its, n, h1, h2, _⟩
  · exact .base (.lst h)
  · exact .base (.frz h)
  · exact .kList h1 h2
theorem ty_tup {a : Addr} {xs : List V} (h : SqT K H a xs) : TyX K H (.ref a) (.type "tuple") := by
  rcases h with (h | ⟨o, h⟩) | ⟨o, its, n, h1, h2, _⟩
  · exact .base (.tup h)
  · exact .fTuple h
  · exact .kTuple h1 h2
def tyD : PyData → String
  | .none => "NoneType"
  | .bool _ => "bool"
  | .int _ => "int"
  | .str _ => "str"
  | .list _ => "list"
  | .tuple _ => "tuple"
  | .dict _ => "dict"
theorem Dp.ty {v : V} {d : PyData} (h : Dp K H v d) : TyX K H v (.type (tyD d)) := by
  cases h with
  | non => exact .base .non
  | bl b => exact .base (.bl b)
  | int i => exact .base (.int i)
  | str x => exact .base (.str x)
  | lst h _ => exact ty_list h
  | tup h _ => exact ty_tup h
end
/-! ### the law's pool of numbers -/
structure Pl (K : PySem.W.Frag) (H : Hp) (p l : Addr) : Prop where
  sq : ∃ cs : List Int, SqL K H l (cs.map V.int)
  ne : l ≠ p
  at5 : ∃ i r c s : Int, H p = some (.lst [.ref l, .int i, .int r, .int c, .int s]) ∧ 0 ≤ i
section
variable {K : PySem.W.Frag} {H H' H0 H1 H2 : Hp} {p q l : Addr}
theorem Pl.lst (h : Pl K H p l) : ∃ xs, H p = some (.lst xs) := by
  obtain ⟨i, r, c, s, h, _⟩ := h.at5
  exact ⟨_, h⟩
theorem Pl.same (k : Same H H') (h : Pl K H p l) : Pl K H' p l := by
  obtain ⟨i, r, c, s, h1, h2⟩ := h.at5
  obtain ⟨cs, hs⟩ := h.sq
  exact ⟨⟨cs, k.seq hs⟩, h.ne, i, r, c, s, k _ _ h1, h2⟩
/-- the pool's own turn -/
theorem Pl.turn {i r c s : Int} (h : Pl K H p l) (h0 : 0 ≤ i) : Pl K (upd H p (.lst [.ref l, .int i, .int r, .int c, .int s])) p l := by
  obtain ⟨cs, hs⟩ := h.sq
  exact ⟨⟨cs, Kp.upd.sqL hs h.ne⟩, h.ne, i, r, c, s, upd_same, h0⟩
theorem Pl.ts (h : Pl K H p l) (k : Kp p H H') : TS H H' := by
  obtain ⟨xs, e⟩ := h.lst
  exact k.ts e
/-- another list, younger than the pool, is changed -/
theorem Pl.other (h0 : Pl K H0 p l) (hq : H0 q = none) (h1 : Pl K H1 p l) (k : Kp q H1 H2) : Pl K H2 p l := by
  obtain ⟨i, r, c, s, e1, e2⟩ := h1.at5
  obtain ⟨cs, hs⟩ := h1.sq
  obtain ⟨xs, hl⟩ := h0.lst
  have np : p ≠ q := ne_of_none hl hq
  refine ⟨?_, h1.ne, i, r, c, s, k _ _ e1 np, e2⟩
  rcases hs with hs | hs
  · obtain ⟨cs0, h0s⟩ := h0.sq
    rcases h0s with h0s | h0s
    · have nl : l ≠ q := by
        rcases h0s with z | ⟨o, z⟩
        · exact ne_of_none z hq
        · exact ne_of_none z hq
      exact ⟨cs, .inl (k.rd hs nl)⟩
    · exact ⟨cs0, .inr h0s⟩
  · exact ⟨cs, .inr hs⟩
/-- p's change and that of a younger q together are p's change -/
theorem Kp.under (hq : H0 q = none) (k1 : Kp p H0 H1) (k2 : Kp q H1 H2) : Kp p H0 H2 := fun b o e n => k2 b o (k1 b o e n) (ne_of_none e hq)
end
theorem kB {K : PySem.W.Frag} {a b : String} (r : Bool) (h : L2.kitB a b = some r) : PySem.W.kitOne K (.type a) (.type b) = some r := kit_ty h
/-- a promise that nothing can ask for -/
theorem fn_none {P : Program} {w : World} {K : PySem.W.Frag} {mg : Str → Option Value} {base : Heap} {f : Addr} {fd : FuncData} {ps : List Str} {sp : Sp} (no : ∀ vs H Q E, ¬ sp vs H Q E) : FnOk P w K mg base CX0 0 f fd ps sp :=
  ⟨fun vs H Q E h => absurd h (no vs H Q E), fun A outer s H args us vs Q E _ _ _ _ h => absurd h (no vs H Q E)⟩
mutual
/-- no list or tuple in it is too long -/
def sml : PyData → Prop
  | .list ds => ds.length ≤ 1000000 ∧ smlAll ds
  | .tuple ds => ds.length ≤ 1000000 ∧ smlAll ds
  | _ => True
def smlAll : List PyData → Prop
  | [] => True
  | d :: ds => sml d ∧ smlAll ds
end
theorem sml_mem : ∀ {ds : List PyData} {i : Nat} {d : PyData}, smlAll ds → ds[i]? = some d → sml d
  | [], _, _, _, h => by simp at h
  | e :: ds, 0, d, h1, h => by
    simp at h; subst h
    rw [smlAll] at h1; exact h1.1
  | e :: ds, i + 1, d, h1, h => by
    rw [smlAll] at h1
    exact sml_mem (ds := ds) (i := i) h1.2 (by simpa using h)
theorem depth_mem : ∀ {ds : List PyData} {i : Nat} {d : PyData}, ds[i]? = some d → d.depth ≤ PyData.depthAll ds
  | [], _, _, h => by simp at h
  | e :: ds, 0, d, h => by
    simp at h; subst h
    rw [PyData.depthAll]; exact Nat.le_max_left _ _
  | e :: ds, i + 1, d, h => by
    have := depth_mem (ds := ds) (i := i) (d := d) (by simpa using h)
    rw [PyData.depthAll]; exact Nat.le_trans this (Nat.le_max_right _ _)
theorem sizeU {n : Nat} (h : n ≤ 1000) : n ≤ sizeLine := Nat.le_of_lt (small1000 h)
/-! ### formulas -/
inductive Fm where
  | var (n : Str) | fal | and (a b : Fm) | or (a b : Fm) | imp (a b : Fm) | box (a : Fm)
  deriving DecidableEq
def Fm.d : Fm → PyData
  | .var n => .tuple [.str "var", .str n]
  | .fal => .tuple [.str "falsum"]
  | .and a b => .tuple [.str "and", a.d, b.d]
  | .or a b => .tuple [.str "or", a.d, b.d]
  | .imp a b => .tuple [.str "implies", a.d, b.d]
  | .box a => .tuple [.str "box", a.d]
def Fm.ht : Fm → Nat
  | .var _ => 1
  | .fal => 1
  | .and a b => max a.ht b.ht + 1
  | .or a b => max a.ht b.ht + 1
  | .imp a b => max a.ht b.ht + 1
  | .box a => a.ht + 1
def Fm.plain : Fm → Bool
  | .var _ => true
  | .fal => true
  | .and a b => a.plain && b.plain
  | .or a b => a.plain && b.plain
  | .imp a b => a.plain && b.plain
  | .box _ => false
/-- all names of variables are in N -/
def Fm.over (N : List Str) : Fm → Bool
  | .var n => decide (n ∈ N)
  | .fal => true
  | .and a b => a.over N && b.over N
  | .or a b => a.over N && b.over N
  | .imp a b => a.over N && b.over N
  | .box a => a.over N
theorem Fm.depth : ∀ f : Fm, f.d.depth = f.ht
  | .var _ => by simp [Fm.d, PyData.depth, PyData.depthAll, Fm.ht]
  | .fal => by simp [Fm.d, PyData.depth, PyData.depthAll, Fm.ht]
  | .and a b => by simp [Fm.d, PyData.depth, PyData.depthAll, Fm.ht, Fm.depth a, Fm.depth b]
  | .or a b => by simp [Fm.d, PyData.depth, PyData.depthAll, Fm.ht, Fm.depth a, Fm.depth b]
  | .imp a b => by simp [Fm.d, PyData.depth, PyData.depthAll, Fm.ht, Fm.depth a, Fm.depth b]
  | .box a => by simp [Fm.d, PyData.depth, PyData.depthAll, Fm.ht, Fm.depth a]
theorem Fm.sml : ∀ f : Fm, E.sml f.d
  | .var _ => by simp [Fm.d, E.sml, smlAll]
  | .fal => by simp [Fm.d, E.sml, smlAll]
  | .and a b => by simp [Fm.d, E.sml, smlAll, Fm.sml a, Fm.sml b]
  | .or a b => by simp [Fm.d, E.sml, smlAll, Fm.sml a, Fm.sml b]
  | .imp a b => by simp [Fm.d, E.sml, smlAll, Fm.sml a, Fm.sml b]
  | .box a => by simp [Fm.d, E.sml, smlAll, Fm.sml a]
theorem Fm.ht_pos : ∀ f : Fm, 1 ≤ f.ht
  | .var _ => Nat.le_refl _
  | .fal => Nat.le_refl _
  | .and _ _ => Nat.le_add_left _ _
  | .or _ _ => Nat.le_add_left _ _
  | .imp _ _ => Nat.le_add_left _ _
  | .box _ => Nat.le_add_left _ _
section
variable {K : PySem.W.Frag} {H : Hp} {p : Addr} {v u : V} {f g : Fm}
theorem im_fal (h : H p = some (.tup [.str "falsum"])) : Im K H (.ref p) Fm.fal.d := .tup (SqT.of h) (.cons (.str _) .nil)
theorem im_var {n : Str} (h : H p = some (.tup [.str "var", .str n])) : Im K H (.ref p) (Fm.var n).d := .tup (SqT.of h) (.cons (.str _) (.cons (.str _) .nil)) fun _ _ => h
theorem im_box (h : H p = some (.tup [.str "box", v])) (a : Im K H v f.d) : Im K H (.ref p) (Fm.box f).d := .tup (SqT.of h) (.cons (.str _) (.cons a .nil))
theorem im_and (h : H p = some (.tup [.str "and", v, u])) (a : Im K H v f.d) (b : Im K H u g.d) : Im K H (.ref p) (Fm.and f g).d := .tup (SqT.of h) (.cons (.str _) (.cons a (.cons b .nil)))
theorem im_or (h : H p = some (.tup [.str "or", v, u])) (a : Im K H v f.d) (b : Im K H u g.d) : Im K H (.ref p) (Fm.or f g).d := .tup (SqT.of h) (.cons (.str _) (.cons a (.cons b .nil)))
theorem im_imp (h : H p = some (.tup [.str "implies", v, u])) (a : Im K H v f.d) (b : Im K H u g.d) : Im K H (.ref p) (Fm.imp f g).d := .tup (SqT.of h) (.cons (.str _) (.cons a (.cons b .nil)))
end
/-! ### lists of ints as data -/
theorem dp_ints {K : PySem.W.Frag} {H : Hp} : ∀ ns : List Int, DpAll K H (ns.map V.int) (ns.map PyData.int)
  | [] => .nil
  | n :: ns => .cons (.int n) (dp_ints ns)
theorem lay_ints : ∀ ns : List Int, PyData.canLayAll0 (ns.map PyData.int) = true
  | [] => rfl
  | n :: ns => by
    rw [List.map_cons, PyData.canLayAll0, lay_ints ns]
    rfl
theorem dep_ints : ∀ ns : List Int, PyData.depthAll (ns.map PyData.int) = 0
  | [] => rfl
  | n :: ns => by
    rw [List.map_cons, PyData.depthAll, dep_ints ns]
    rfl
theorem shaped_ints (ns : List Int) : SeqAt.shaped (.list (ns.map PyData.int)) = true := by
  unfold SeqAt.shaped
  rw [PyData.canLay0, lay_ints, PyData.depth, dep_ints]
  rfl
theorem eqv_nil (ds : List PyData) : PyData.eqv (.list ds) (.list []) = ds.isEmpty := by
  cases ds with
  | nil => rfl
  | cons d ds => rfl
theorem atI_mem {α : Type} {xs : List α} {i : Int} (h0 : 0 ≤ i) (h1 : i < xs.length) : ∃ v, atI xs i = some v ∧ v ∈ xs := by
  have hn : i.toNat < xs.length := by omega
  refine ⟨xs[i.toNat], ?_, List.getElem_mem hn⟩
  have e := atI_nat (xs := xs) (j := i.toNat) (List.getElem?_eq_getElem hn)
  rw [show ((i.toNat : Nat) : Int) = i by omega] at e
  exact e
def nms : List Str := ["p", "q", "r"]
section
variable {t u : TT} {σ : L2.St} {H : Hp} {b1 b2 : Bool}
theorem ans_or2 (h1 : Ans t σ H b1) (h2 : Ans u σ H b2) : Ans (tOr t u) σ H (b1 || b2) := by
  cases b1 with
  | true => exact ans_or1 h1
  | false => exact ans_or h1 h2
end
theorem vint {i j : Int} (h : decide (V.int i = V.int j) = true) : i = j := V.int.inj (of_decide_eq_true h)
theorem vintF {i j : Int} (h : ¬ decide (V.int i = V.int j) = true) : i ≠ j := fun e => h (decide_eq_true (congrArg V.int e))
theorem in34 {k : Int} : inV (.int k) [.int 3, .int 4] = decide (k = 3 ∨ k = 4) := by
  unfold inV
  simp only [List.any_cons, List.any_nil, Bool.or_false]
  show ((3 == k) || (4 == k)) = _
  rw [Bool.eq_iff_iff]
  simp only [Bool.or_eq_true, beq_iff_eq, decide_eq_true_eq]
  omega
theorem iteD {c A B : Prop} [Decidable c] (h : c) (a : A) : if decide c = true then A else B := by
  rw [if_pos (decide_eq_true h)]
  exact a
theorem iteDF {c A B : Prop} [Decidable c] (h : ¬ c) (b : B) : if decide c = true then A else B := by
  rw [if_neg (by rw [decide_eq_true_eq]; exact h)]
  exact b
theorem in34y {k : Int} (h : k = 3 ∨ k = 4) : V.bl (if false = true then !inV (.int k) [.int 3, .int 4] else inV (.int k) [.int 3, .int 4]) = V.bl true := by
  rw [if_neg Bool.false_ne_true, in34, decide_eq_true h]
theorem in34n {k : Int} (h : ¬ (k = 3 ∨ k = 4)) : V.bl (if false = true then !inV (.int k) [.int 3, .int 4] else inV (.int k) [.int 3, .int 4]) = V.bl false := by
  rw [if_neg Bool.false_ne_true, in34, decide_eq_false h]
theorem vne {i j : Int} (h : i ≠ j) : ¬ V.int i = V.int j := fun e => h (V.int.inj e)
/-! ### joined formulas -/
def grp (op : Fm → Fm → Fm) (z : Fm) : List Fm → Fm
  | [] => z
  | [a] => a
  | a :: b :: r => op a (grp op z (b :: r))
theorem grp_step {op : Fm → Fm → Fm} {z f : Fm} {fs : List Fm} {j : Nat} (h : fs[j]? = some f) (h2 : j + 1 < fs.length) : grp op z (fs.drop j) = op f (grp op z (fs.drop (j + 1))) := by
  obtain ⟨hj, e⟩ := List.getElem?_eq_some_iff.mp h
  rw [List.drop_eq_getElem_cons hj, e, List.drop_eq_getElem_cons h2]
  rfl
theorem grp_last {op : Fm → Fm → Fm} {z f : Fm} {fs : List Fm} (h : fs[fs.length - 1]? = some f) : grp op z (fs.drop (fs.length - 1)) = f := by
  obtain ⟨hj, e⟩ := List.getElem?_eq_some_iff.mp h
  rw [List.drop_eq_getElem_cons hj, e, List.drop_eq_nil_of_le (by omega)]
  rfl
inductive SgOp : Str → (Fm → Fm → Fm) → Prop
  | and : SgOp "and" Fm.and
  | or : SgOp "or" Fm.or
theorem im_op {K : PySem.W.Frag} {H : Hp} {p : Addr} {v u : V} {f g : Fm} {sg : Str} {op : Fm → Fm → Fm} (o : SgOp sg op) (h : H p = some (.tup [.str sg, v, u])) (a : Im K H v f.d) (b : Im K H u g.d) : Im K H (.ref p) (op f g).d := by
  cases o with
  | and => exact im_and h a b
  | or => exact im_or h a b
theorem atI_m1 {α : Type} {xs : List α} {v : α} (h : xs[xs.length - 1]? = some v) : atI xs (-1) = some v := by
  have hl : 0 < xs.length := by
    have := (List.getElem?_eq_some_iff.mp h).1
    omega
  have e : ixN xs.length (-1) = some (xs.length - 1) := by
    unfold ixN
    rw [if_neg (by decide), if_pos (by omega)]
    congr 1
    omega
  unfold atI
  rw [e]
  exact h
theorem cut_m1 (xs : List V) : cutV xs none (some (-1)) = xs.take (xs.length - 1) := by
  unfold cutV
  have e : HT.sIx xs.length xs.length (some (-1)) = xs.length - 1 := by
    show (if (-1 : Int) < 0 then ((-1 : Int) + (xs.length : Int)).toNat else min (-1 : Int).toNat xs.length) = _
    rw [if_pos (by decide)]
    omega
  rw [e, HT.sIx_none, List.drop_zero, Nat.sub_zero]
/-- for x in reversed(list) -/
theorem for_rev {K : PySem.W.Frag} {a : Addr} {xs : List V} {g : TG} {tb : L2.TS} {D : Ends} {σ : L2.St} {H : Hp} (Pv : Nat → L2.St → Hp → Prop) (h0 : Pv 0 σ H) (hl : ∀ i σ H, i ≤ xs.length → Pv i σ H → SqL K H a xs)
    (hs : ∀ i x σ H, i < xs.length → xs[xs.length - 1 - i]? = some x → Pv i σ H → g x σ H fun σ2 H2 => tb { D with nx := Pv (i + 1), ct := Pv (i + 1), bk := D.nx } σ2 H2) (hd : ∀ σ H, Pv xs.length σ H → D.nx σ H) :
    ∃ W : Nat → Nat → L2.St → Hp → Prop, (∃ m, W 0 m σ H) ∧ ∀ i m σ H, W i m σ H →
      ((Itv K a xs.length).stop i H ∧ D.nx σ H) ∨ ((Itv K a xs.length).go i H ∧ ∃ N : L2.St → Hp → Prop, (∀ σ' H', N σ' H' → ∃ m', m' < m ∧ W (i + 1) m' σ' H') ∧ ∀ x H', (Itv K a xs.length).yld i H x H' → g x σ H' fun σ2 H2 => tb { D with nx := N, ct := N, bk := D.nx } σ2 H2) := by
  refine ⟨fun i m σ H => m = xs.length - i ∧ i ≤ xs.length ∧ Pv i σ H, ⟨xs.length, by simp, Nat.zero_le _, h0⟩, ?_⟩
  rintro i m σ H ⟨rfl, hi, p⟩
  have q := hl i σ H hi p
  by_cases hlt : i < xs.length
  · have g0 : xs[xs.length - 1 - i]? = some xs[xs.length - 1 - i] := List.getElem?_eq_getElem (by omega)
    refine .inr ⟨⟨hlt, xs, _, q, g0⟩, Pv (i + 1), fun σ' H' p' => ⟨xs.length - (i + 1), by omega, rfl, hlt, p'⟩, fun x H' y => ?_⟩
    obtain ⟨e, y⟩ := y
    subst e
    exact hs i x σ _ hlt (y xs q) p
  · have e : i = xs.length := by omega
    subst e
    exact .inl ⟨Nat.le_refl _, hd σ H p⟩
/-! ### what may be compared -/
theorem strOk_lit {x : Str} (h : PyData.strOk x = true) : PyData.canLay0 (.str x) = true := h
theorem Fm.lay {N : List Str} (hN : ∀ n ∈ N, PyData.strOk n = true) : ∀ f : Fm, f.over N = true → f.d.canLay0 = true
  | .var n, h => by
    have h1 := hN n (of_decide_eq_true h)
    simp only [Fm.d, PyData.canLay0, PyData.canLayAll0, h1, Bool.and_true]
    decide +kernel
  | .fal, _ => by decide +kernel
  | .and a b, h => by
    have h' : (a.over N && b.over N) = true := h
    rw [Bool.and_eq_true] at h'
    simp only [Fm.d, PyData.canLay0, PyData.canLayAll0, Fm.lay hN a h'.1, Fm.lay hN b h'.2, Bool.and_true]
    decide +kernel
  | .or a b, h => by
    have h' : (a.over N && b.over N) = true := h
    rw [Bool.and_eq_true] at h'
    simp only [Fm.d, PyData.canLay0, PyData.canLayAll0, Fm.lay hN a h'.1, Fm.lay hN b h'.2, Bool.and_true]
    decide +kernel
  | .imp a b, h => by
    have h' : (a.over N && b.over N) = true := h
    rw [Bool.and_eq_true] at h'
    simp only [Fm.d, PyData.canLay0, PyData.canLayAll0, Fm.lay hN a h'.1, Fm.lay hN b h'.2, Bool.and_true]
    decide +kernel
  | .box a, h => by
    simp only [Fm.d, PyData.canLay0, PyData.canLayAll0, Fm.lay hN a h, Bool.and_true]
    decide +kernel
theorem nms_ok : ∀ n ∈ nms, PyData.strOk n = true := by decide +kernel
/-- a list of formulas, none too high -/
theorem fms_shaped {N : List Str} (hN : ∀ n ∈ N, PyData.strOk n = true) : ∀ {fs : List Fm}, (∀ f ∈ fs, f.over N = true ∧ f.ht ≤ 63) → PyData.canLayAll0 (fs.map Fm.d) = true ∧ PyData.depthAll (fs.map Fm.d) ≤ 63
  | [], _ => ⟨rfl, Nat.zero_le _⟩
  | f :: fs, h => by
    have h1 := h f List.mem_cons_self
    have h2 := fms_shaped hN (fs := fs) fun g hg => h g (List.mem_cons_of_mem _ hg)
    rw [List.map_cons, PyData.canLayAll0, PyData.depthAll, Fm.lay hN f h1.1, h2.1, Fm.depth]
    exact ⟨rfl, Nat.max_le.mpr ⟨h1.2, h2.2⟩⟩
theorem list_shaped {ds : List PyData} (h : PyData.canLayAll0 ds = true ∧ PyData.depthAll ds ≤ 63) : SeqAt.shaped (.list ds) = true := by
  unfold SeqAt.shaped
  rw [PyData.canLay0, PyData.depth, h.1]
  exact decide_eq_true (by omega)
theorem eqv_self {d : PyData} (h : SeqAt.shaped d = true) : PyData.eqv d d = true := SeqAt.eqv_refl d (SeqAt.canLay_of_shaped h)
inductive TagZ : Str → (Fm → Fm → Fm) → Fm → Prop
  | and : TagZ "and" Fm.and (.imp .fal .fal)
  | or : TagZ "or" Fm.or .fal
theorem TagZ.op {sg : Str} {op : Fm → Fm → Fm} {z : Fm} (h : TagZ sg op z) : SgOp sg op := by
  cases h with
  | and => exact .and
  | or => exact .or
theorem SgOp.ht {sg : Str} {op : Fm → Fm → Fm} (h : SgOp sg op) (f g : Fm) : (op f g).ht = max f.ht g.ht + 1 := by
  cases h with
  | and => rfl
  | or => rfl
theorem grp_ht {sg : Str} {op : Fm → Fm → Fm} {z : Fm} {m : Nat} (o : SgOp sg op) (hz : z.ht ≤ m) : ∀ {fs : List Fm}, (∀ f ∈ fs, f.ht ≤ m) → (grp op z fs).ht ≤ m + fs.length
  | [], _ => hz
  | [a], h => Nat.le_trans (h a List.mem_cons_self) (Nat.le_add_right _ _)
  | a :: b :: r, h => by
    have h1 := h a List.mem_cons_self
    have h2 := grp_ht o hz (fs := b :: r) fun f hf => h f (List.mem_cons_of_mem _ hf)
    show (op a (grp op z (b :: r))).ht ≤ _
    rw [o.ht]
    simp only [List.length_cons] at h2 ⊢
    omega
theorem ImAll.fm {K : PySem.W.Frag} {H : Hp} {xs : List V} {fs : List Fm} (hI : ImAll K H xs (fs.map Fm.d)) {j : Nat} (hj : j < xs.length) : ∃ v f, xs[j]? = some v ∧ fs[j]? = some f ∧ Im K H v f.d := by
  have g := List.getElem?_eq_getElem hj
  obtain ⟨d, e, i⟩ := hI.get g
  rw [List.getElem?_map] at e
  cases e2 : fs[j]? with
  | none => rw [e2] at e; cases e
  | some f =>
    rw [e2] at e
    have : f.d = d := Option.some.inj e
    subst this
    exact ⟨_, f, g, rfl, i⟩
theorem fm_snoc {fs : List Fm} {f : Fm} : (fs ++ [f]).map Fm.d = fs.map Fm.d ++ [f.d] := by rw [List.map_append]; rfl
end E

set_option Elab.async false
set_option linter.all false
set_option maxRecDepth 100000
set_option maxHeartbeats 4000000
namespace E
open PySem PySem.Spec PyProof.Rows L2
/-! ### the order of formulas -/
abbrev Tk := List (Int ⊕ List Nat)
def Fm.toks : Fm → Tk
  | .and a b => .inl 0 :: (a.toks ++ b.toks)
  | .box a => .inl 1 :: a.toks
  | .fal => [.inl 2]
  | .imp a b => .inl 3 :: (a.toks ++ b.toks)
  | .or a b => .inl 4 :: (a.toks ++ b.toks)
  | .var n => [.inl 5, .inr n.cps.toList]
def Fm.lt (a b : Fm) : Bool := PyProof.Rows.lexLt itemOrd a.toks b.toks
theorem lex_ii {i j : Int} {l m : Tk} (h : i ≠ j) : PyProof.Rows.lexLt itemOrd (.inl i :: l) (.inl j :: m) = decide (i < j) := lex_diff (O := itemOrd) (fun e => h (Sum.inl.inj e))
theorem lex_same (x : Int ⊕ List Nat) (l m : Tk) : PyProof.Rows.lexLt itemOrd (x :: l) (x :: m) = PyProof.Rows.lexLt itemOrd l m := lex_self (O := itemOrd) x l m
theorem lex_ss {x y : List Nat} (h : x ≠ y) (l m : Tk) : PyProof.Rows.lexLt itemOrd (.inr x :: l) (.inr y :: m) = PyProof.Rows.lexLt itemOrd [.inr x] [.inr y] :=
  (lex_diff (O := itemOrd) (fun e => h (Sum.inr.inj e))).trans (lex_diff (O := itemOrd) (fun e => h (Sum.inr.inj e))).symm
theorem toks_app : ∀ (a b : Fm) (l m : Tk), PyProof.Rows.lexLt itemOrd (a.toks ++ l) (b.toks ++ m) = if a = b then PyProof.Rows.lexLt itemOrd l m else a.lt b := by
  intro a
  induction a with
  | and a1 a2 ih1 ih2 =>
    intro b l m
    cases b with
    | and b1 b2 =>
      show PyProof.Rows.lexLt itemOrd (.inl 0 :: ((a1.toks ++ a2.toks) ++ l)) (.inl 0 :: ((b1.toks ++ b2.toks) ++ m)) = _
      have e2 : Fm.lt (.and a1 a2) (.and b1 b2) = if a1 = b1 then a2.lt b2 else a1.lt b1 := (lex_same _ _ _).trans (ih1 b1 a2.toks b2.toks)
      rw [lex_same, List.append_assoc, List.append_assoc, ih1, ih2, e2]
      by_cases h1 : a1 = b1
      · by_cases h2 : a2 = b2
        · subst h1 h2; simp
        · subst h1; simp [h2]
      · simp [h1]
    | box b1 => exact (lex_ii (by decide)).trans (by rw [if_neg (by simp)]; exact (lex_ii (by decide)).symm)
    | fal => exact (lex_ii (by decide)).trans (by rw [if_neg (by simp)]; exact (lex_ii (by decide)).symm)
    | imp b1 b2 => exact (lex_ii (by decide)).trans (by rw [if_neg (by simp)]; exact (lex_ii (by decide)).symm)
    | or b1 b2 => exact (lex_ii (by decide)).trans (by rw [if_neg (by simp)]; exact (lex_ii (by decide)).symm)
    | var n => exact (lex_ii (by decide)).trans (by rw [if_neg (by simp)]; exact (lex_ii (by decide)).symm)
  | or a1 a2 ih1 ih2 =>
    intro b l m
    cases b with
    | or b1 b2 =>
      show PyProof.Rows.lexLt itemOrd (.inl 4 :: ((a1.toks ++ a2.toks) ++ l)) (.inl 4 :: ((b1.toks ++ b2.toks) ++ m)) = _
      have e2 : Fm.lt (.or a1 a2) (.or b1 b2) = if a1 = b1 then a2.lt b2 else a1.lt b1 := (lex_same _ _ _).trans (ih1 b1 a2.toks b2.toks)
      rw [lex_same, List.append_assoc, List.append_assoc, ih1, ih2, e2]
      by_cases h1 : a1 = b1
      · by_cases h2 : a2 = b2
        · subst h1 h2; simp
        · subst h1; simp [h2]
      · simp [h1]
    | box b1 => exact (lex_ii (by decide)).trans (by rw [if_neg (by simp)]; exact (lex_ii (by decide)).symm)
    | fal => exact (lex_ii (by decide)).trans (by rw [if_neg (by simp)]; exact (lex_ii (by decide)).symm)
    | imp b1 b2 => exact (lex_ii (by decide)).trans (by rw [if_neg (by simp)]; exact (lex_ii (by decide)).symm)
    | and b1 b2 => exact (lex_ii (by decide)).trans (by rw [if_neg (by simp)]; exact (lex_ii (by decide)).symm)
    | var n => exact (lex_ii (by decide)).trans (by rw [if_neg (by simp)]; exact (lex_ii (by decide)).symm)
  | imp a1 a2 ih1 ih2 =>
    intro b l m
    cases b with
    | imp b1 b2 =>
      show PyProof.Rows.lexLt itemOrd (.inl 3 :: ((a1.toks ++ a2.toks) ++ l)) (.inl 3 :: ((b1.toks ++ b2.toks) ++ m)) = _
      have e2 : Fm.lt (.imp a1 a2) (.imp b1 b2) = if a1 = b1 then a2.lt b2 else a1.lt b1 := (lex_same _ _ _).trans (ih1 b1 a2.toks b2.toks)
      rw [lex_same, List.append_assoc, List.append_assoc, ih1, ih2, e2]
      by_cases h1 : a1 = b1
      · by_cases h2 : a2 = b2
        · subst h1 h2; simp
        · subst h1; simp [h2]
      · simp [h1]
    | box b1 => exact (lex_ii (by decide)).trans (by rw [if_neg (by simp)]; exact (lex_ii (by decide)).symm)
    | fal => exact (lex_ii (by decide)).trans (by rw [if_neg (by simp)]; exact (lex_ii (by decide)).symm)
    | or b1 b2 => exact (lex_ii (by decide)).trans (by rw [if_neg (by simp)]; exact (lex_ii (by decide)).symm)
    | and b1 b2 => exact (lex_ii (by decide)).trans (by rw [if_neg (by simp)]; exact (lex_ii (by decide)).symm)
    | var n => exact (lex_ii (by decide)).trans (by rw [if_neg (by simp)]; exact (lex_ii (by decide)).symm)
  | box a1 ih1 =>
    intro b l m
    cases b with
    | box b1 =>
      show PyProof.Rows.lexLt itemOrd (.inl 1 :: (a1.toks ++ l)) (.inl 1 :: (b1.toks ++ m)) = _
      have e2 : Fm.lt (.box a1) (.box b1) = a1.lt b1 := lex_same _ _ _
      rw [lex_same, ih1, e2]
      by_cases h1 : a1 = b1
      · subst h1; simp
      · simp [h1]
    | and b1 b2 => exact (lex_ii (by decide)).trans (by rw [if_neg (by simp)]; exact (lex_ii (by decide)).symm)
    | fal => exact (lex_ii (by decide)).trans (by rw [if_neg (by simp)]; exact (lex_ii (by decide)).symm)
    | imp b1 b2 => exact (lex_ii (by decide)).trans (by rw [if_neg (by simp)]; exact (lex_ii (by decide)).symm)
    | or b1 b2 => exact (lex_ii (by decide)).trans (by rw [if_neg (by simp)]; exact (lex_ii (by decide)).symm)
    | var n => exact (lex_ii (by decide)).trans (by rw [if_neg (by simp)]; exact (lex_ii (by decide)).symm)
  | fal =>
    intro b l m
    cases b with
    | fal => rw [if_pos rfl]; exact lex_same _ _ _
    | and b1 b2 => exact (lex_ii (by decide)).trans (by rw [if_neg (by simp)]; exact (lex_ii (by decide)).symm)
    | box b1 => exact (lex_ii (by decide)).trans (by rw [if_neg (by simp)]; exact (lex_ii (by decide)).symm)
    | imp b1 b2 => exact (lex_ii (by decide)).trans (by rw [if_neg (by simp)]; exact (lex_ii (by decide)).symm)
    | or b1 b2 => exact (lex_ii (by decide)).trans (by rw [if_neg (by simp)]; exact (lex_ii (by decide)).symm)
    | var n => exact (lex_ii (by decide)).trans (by rw [if_neg (by simp)]; exact (lex_ii (by decide)).symm)
  | var n =>
    intro b l m
    cases b with
    | var k =>
      show PyProof.Rows.lexLt itemOrd (.inl 5 :: .inr n.cps.toList :: l) (.inl 5 :: .inr k.cps.toList :: m) = _
      rw [lex_same]
      by_cases h1 : n = k
      · subst h1
        rw [lex_same, if_pos rfl]
      · have hn : n.cps.toList ≠ k.cps.toList := fun e => h1 (PySem.W.str_of_cps e)
        rw [lex_ss hn, if_neg (by simp [h1])]
        exact (lex_same _ _ _).symm
    | and b1 b2 => exact (lex_ii (by decide)).trans (by rw [if_neg (by simp)]; exact (lex_ii (by decide)).symm)
    | box b1 => exact (lex_ii (by decide)).trans (by rw [if_neg (by simp)]; exact (lex_ii (by decide)).symm)
    | fal => exact (lex_ii (by decide)).trans (by rw [if_neg (by simp)]; exact (lex_ii (by decide)).symm)
    | imp b1 b2 => exact (lex_ii (by decide)).trans (by rw [if_neg (by simp)]; exact (lex_ii (by decide)).symm)
    | or b1 b2 => exact (lex_ii (by decide)).trans (by rw [if_neg (by simp)]; exact (lex_ii (by decide)).symm)
theorem toks_inj {a b : Fm} (h : a.toks = b.toks) : a = b := by
  have e := toks_app a b [] [.inl 0]
  rw [List.append_nil] at e
  by_cases hab : a = b
  · exact hab
  · have e2 := toks_app a b [] []
    rw [List.append_nil, List.append_nil, if_neg hab] at e2
    rw [if_neg hab, ← e2, h, lex_irrefl] at e
    have : PyProof.Rows.lexLt itemOrd b.toks (b.toks ++ [.inl 0]) = true := by
      have e3 := PySem.W.lex_pre b.toks [] [.inl 0]
      rw [List.append_nil] at e3
      rw [e3]
      rfl
    rw [this] at e
    cases e
theorem Fm.lt_irrefl (a : Fm) : a.lt a = false := lex_irrefl _
theorem Fm.lt_trans {a b c : Fm} (h1 : a.lt b = true) (h2 : b.lt c = true) : a.lt c = true := lex_trans _ _ _ h1 h2
theorem Fm.lt_total {a b : Fm} (h1 : a.lt b = false) (h2 : b.lt a = false) : a = b := toks_inj (lex_total _ _ h1 h2)
theorem Fm.lt_asymm {a b : Fm} (h : a.lt b = true) : b.lt a = false := by
  cases e : b.lt a with
  | false => rfl
  | true =>
    have := Fm.lt_trans h e
    rw [Fm.lt_irrefl] at this
    cases this
end E

set_option Elab.async false
set_option linter.all false
set_option maxRecDepth 100000
set_option maxHeartbeats 4000000
namespace ELt
open PySem PySem.SeqAt
open PySem.AutoSeq1 (wpAny_loadPart')
open PySem.MeetsSeq PySem.MeetsSeq2 PySem.MeetsSeq3 PySem.SeqRoads2
/-- item by item: where two items differ for the first time, their own < gives k; where none do, the lengths -/
inductive TupLt (A : Around) (s : Shared) (fin k : Bool) : List (Value × Value) → Prop
  | nil : fin = k → TupLt A s fin k []
  | yes {p q : Value} {r : List (Value × Value)} : EqAt A s p q true → TupLt A s fin k r → TupLt A s fin k ((p, q) :: r)
  | no {p q : Value} {r : List (Value × Value)} : EqAt A s p q false → RcLt A s p q k → TupLt A s fin k ((p, q) :: r)
theorem tup_seq (l b : Addr) (xs ys : Array Value) (n m : Nat) (dd de : Option Addr) (sl sm : Array (Option Value)) (k : Bool) :
    Meets (Builtin.«tuple.__lt__» ⟨[.ref l, .ref b], []⟩)
      (fun A R s => s.heap.get? l = some ⟨.type "tuple", dd, .seq xs n, sl⟩ ∧ s.heap.get? b = some ⟨.type "tuple", de, .seq ys m, sm⟩ ∧
        TupLt A.in1 s (decide (xs.size < ys.size)) k (xs.toList.zip ys.toList) ∧ R (.ok (.ret (.bool k))) s) :=
  .of_wp fun prog w A R s h => by
    obtain ⟨hp, g, d, tk, os⟩ := s
    obtain ⟨hl, hb, ht, hR⟩ := h
    have sub := AutoSeq1.sub_tuple_tuple
    wp_walk using wpAny_loadPart' hl, wpAny_loadPart' hb, wpAny_forIn_list _ (fun rest c t => c.1 = none ∧ t = ⟨hp, g, d, tk, os⟩ ∧ TupLt A.in1 ⟨hp, g, d, tk, os⟩ (decide (xs.size < ys.size)) k rest) _
    case turn =>
      rintro ⟨y, x⟩ rest c t ⟨_, rfl, tl⟩
      cases tl with
      | yes e tl =>
        refine wpAny_bind (e prog w _ _ ?_)
        wp_walk
        exact ⟨rfl, rfl, tl⟩
      | no e lt =>
        refine wpAny_bind (e prog w _ _ ?_)
        simp only [Bool.not_false, if_true]
        refine wpAny_bind (wpAny_rule (wpAny_bind (lt prog w _ _ ?_)))
        wp_walk
        exact ⟨_, rfl, hR⟩
    case fin =>
      rintro ⟨c1, c2⟩ t ⟨hc, rfl, tl⟩
      simp only at hc
      subst hc
      cases tl with
      | nil e =>
        wp_walk
        exact ⟨_, rfl, by rw [← e] at hR; simpa [Builtin.Tuple.tupleCompareSizes] using hR⟩
    case h => exact ⟨rfl, rfl, ht⟩
theorem rc_tups {A : Around} {s : Shared} {l b : Addr} {xs ys : Array Value} {k : Bool} (hl : s.heap.IsTuple l xs) (hb : s.heap.IsTuple b ys) (hu : A.units < cLine) (ht : TupLt A.in1 s (decide (xs.size < ys.size)) k (xs.toList.zip ys.toList)) : RcLt A s (.ref l) (.ref b) k := fun prog w E Q h => by
  obtain ⟨⟨c1, dd, d1, sl⟩, ho, hc, n, hd⟩ := id hl
  obtain ⟨⟨c2, de, d2, sm⟩, ho2, hc2, m, hd2⟩ := id hb
  simp only at hc hd hc2 hd2
  subst hc hd hc2 hd2
  exact richCompare_meets_room (op := .Lt) ⟨_, ho, rfl⟩ ⟨_, ho2, rfl⟩ F.slot_tuple_lt F.entry_tuple_lt (F.args_tuple_lt_2 _ _) (tup_seq l b xs ys n m dd de sl sm k)
    ⟨ho, ho2, ht, show Value.bool k ≠ Value.notImplemented ∧ Q (.bool k) s from ⟨(fun x => nomatch x), h⟩⟩ hu
end ELt

set_option Elab.async false
set_option linter.all false
set_option maxRecDepth 100000
set_option maxHeartbeats 4000000
namespace E
open PySem PySem.Spec PyProof.Rows L2
/-! ### the signs -/
def Fm.rk : Fm → Fin 6
  | .and _ _ => 0
  | .box _ => 1
  | .fal => 2
  | .imp _ _ => 3
  | .or _ _ => 4
  | .var _ => 5
def sgT : Fin 6 → Str
  | 0 => "and"
  | 1 => "box"
  | 2 => "falsum"
  | 3 => "implies"
  | 4 => "or"
  | 5 => "var"
def Fm.sg (f : Fm) : Str := sgT f.rk
theorem sgT_ne : ∀ i j : Fin 6, i ≠ j → (sgT i == sgT j) = false := by decide +kernel
theorem sgT_lt : ∀ i j : Fin 6, decide ((sgT i).cps.toList < (sgT j).cps.toList) = decide ((i.val : Int) < (j.val : Int)) := by decide +kernel
def Fm.pts : Fm → List PyData
  | .and a b => [a.d, b.d]
  | .box a => [a.d]
  | .fal => []
  | .imp a b => [a.d, b.d]
  | .or a b => [a.d, b.d]
  | .var n => [.str n]
theorem Fm.d_eq (f : Fm) : f.d = .tuple (.str f.sg :: f.pts) := by cases f <;> rfl
theorem toks_head (f : Fm) : ∃ r, f.toks = .inl (f.rk.val : Int) :: r := by cases f <;> exact ⟨_, rfl⟩
theorem lt_rk {f g : Fm} (h : f.rk ≠ g.rk) : f.lt g = decide ((f.rk.val : Int) < (g.rk.val : Int)) := by
  obtain ⟨r, e⟩ := toks_head f
  obtain ⟨t, e2⟩ := toks_head g
  unfold Fm.lt
  rw [e, e2]
  exact lex_ii fun e => h (Fin.ext (Int.ofNat.inj e))
theorem lt_and (a b c d : Fm) : Fm.lt (.and a b) (.and c d) = if a = c then b.lt d else a.lt c := (lex_same _ _ _).trans (toks_app a c b.toks d.toks)
theorem lt_or (a b c d : Fm) : Fm.lt (.or a b) (.or c d) = if a = c then b.lt d else a.lt c := (lex_same _ _ _).trans (toks_app a c b.toks d.toks)
theorem lt_imp (a b c d : Fm) : Fm.lt (.imp a b) (.imp c d) = if a = c then b.lt d else a.lt c := (lex_same _ _ _).trans (toks_app a c b.toks d.toks)
theorem lt_box (a c : Fm) : Fm.lt (.box a) (.box c) = a.lt c := lex_same _ _ _
theorem lt_var (n m : Str) : Fm.lt (.var n) (.var m) = decide (n.cps.toList < m.cps.toList) := (lex_same _ _ _).trans (PySem.W.lex_one _ _)
theorem streq {x y : Str} : (x == y) = decide (x = y) := by
  rw [Bool.eq_iff_iff, decide_eq_true_iff]
  exact beq_iff_eq
theorem eqv_tup (x y : Str) (ds es : List PyData) : PyData.eqv (.tuple (.str x :: ds)) (.tuple (.str y :: es)) = ((x == y) && PyData.eqvAll ds es) := by
  rw [PyData.eqv, PyData.eqvAll, PyData.eqv]
theorem eqvAll2 (a b c d : PyData) : PyData.eqvAll [a, b] [c, d] = (PyData.eqv a c && PyData.eqv b d) := by
  rw [PyData.eqvAll, PyData.eqvAll, PyData.eqvAll, Bool.and_true]
theorem eqvAll1 (a c : PyData) : PyData.eqvAll [a] [c] = PyData.eqv a c := by
  rw [PyData.eqvAll, PyData.eqvAll, Bool.and_true]
/-- == of formulas as data -/
theorem Fm.eqv : ∀ f g : Fm, PyData.eqv f.d g.d = decide (f = g) := by
  intro f
  induction f with
  | and a b iha ihb =>
    intro g
    cases g with
    | and c d =>
      rw [Fm.d_eq, Fm.d_eq, eqv_tup, show ((Fm.and a b).sg == (Fm.and c d).sg) = true from beq_self_eq_true _, Bool.true_and]
      show PyData.eqvAll [a.d, b.d] [c.d, d.d] = _
      rw [eqvAll2, iha, ihb, ← Bool.decide_and]
      exact decide_eq_decide.mpr (by rw [Fm.and.injEq])
    | _ => rw [Fm.d_eq, Fm.d_eq, eqv_tup, show ∀ x y : Fm, x.rk ≠ y.rk → (x.sg == y.sg) = false from fun x y h => sgT_ne _ _ h, Bool.false_and, decide_eq_false (by simp)]; intro e; simp [Fm.rk] at e
  | or a b iha ihb =>
    intro g
    cases g with
    | or c d =>
      rw [Fm.d_eq, Fm.d_eq, eqv_tup, show ((Fm.or a b).sg == (Fm.or c d).sg) = true from beq_self_eq_true _, Bool.true_and]
      show PyData.eqvAll [a.d, b.d] [c.d, d.d] = _
      rw [eqvAll2, iha, ihb, ← Bool.decide_and]
      exact decide_eq_decide.mpr (by rw [Fm.or.injEq])
    | _ => rw [Fm.d_eq, Fm.d_eq, eqv_tup, show ∀ x y : Fm, x.rk ≠ y.rk → (x.sg == y.sg) = false from fun x y h => sgT_ne _ _ h, Bool.false_and, decide_eq_false (by simp)]; intro e; simp [Fm.rk] at e
  | imp a b iha ihb =>
    intro g
    cases g with
    | imp c d =>
      rw [Fm.d_eq, Fm.d_eq, eqv_tup, show ((Fm.imp a b).sg == (Fm.imp c d).sg) = true from beq_self_eq_true _, Bool.true_and]
      show PyData.eqvAll [a.d, b.d] [c.d, d.d] = _
      rw [eqvAll2, iha, ihb, ← Bool.decide_and]
      exact decide_eq_decide.mpr (by rw [Fm.imp.injEq])
    | _ => rw [Fm.d_eq, Fm.d_eq, eqv_tup, show ∀ x y : Fm, x.rk ≠ y.rk → (x.sg == y.sg) = false from fun x y h => sgT_ne _ _ h, Bool.false_and, decide_eq_false (by simp)]; intro e; simp [Fm.rk] at e
  | box a iha =>
    intro g
    cases g with
    | box c =>
      rw [Fm.d_eq, Fm.d_eq, eqv_tup, show ((Fm.box a).sg == (Fm.box c).sg) = true from beq_self_eq_true _, Bool.true_and]
      show PyData.eqvAll [a.d] [c.d] = _
      rw [eqvAll1, iha]
      exact decide_eq_decide.mpr (by rw [Fm.box.injEq])
    | _ => rw [Fm.d_eq, Fm.d_eq, eqv_tup, show ∀ x y : Fm, x.rk ≠ y.rk → (x.sg == y.sg) = false from fun x y h => sgT_ne _ _ h, Bool.false_and, decide_eq_false (by simp)]; intro e; simp [Fm.rk] at e
  | fal =>
    intro g
    cases g with
    | fal => rw [decide_eq_true rfl]; rfl
    | _ => rw [Fm.d_eq, Fm.d_eq, eqv_tup, show ∀ x y : Fm, x.rk ≠ y.rk → (x.sg == y.sg) = false from fun x y h => sgT_ne _ _ h, Bool.false_and, decide_eq_false (by simp)]; intro e; simp [Fm.rk] at e
  | var n =>
    intro g
    cases g with
    | var m =>
      rw [Fm.d_eq, Fm.d_eq, eqv_tup, show ((Fm.var n).sg == (Fm.var m).sg) = true from beq_self_eq_true _, Bool.true_and]
      show PyData.eqvAll [.str n] [.str m] = _
      rw [eqvAll1, PyData.eqv, streq]
      exact decide_eq_decide.mpr (by rw [Fm.var.injEq])
    | _ => rw [Fm.d_eq, Fm.d_eq, eqv_tup, show ∀ x y : Fm, x.rk ≠ y.rk → (x.sg == y.sg) = false from fun x y h => sgT_ne _ _ h, Bool.false_and, decide_eq_false (by simp)]; intro e; simp [Fm.rk] at e
end E

set_option Elab.async false
set_option linter.all false
set_option maxRecDepth 100000
set_option maxHeartbeats 4000000
namespace E
open PySem PySem.Spec PyProof.Rows L2 PySem.SeqAt ELt
/-! ### the model's own < of formulas -/
theorem rd_items {h : Heap} {v : Value} {f : Fm} {as : List Addr} (r : Reads h v f.d as) : ∃ (l : Addr) (o : Obj) (vs : Array Value) (n : Nat) (t : Tok) (ws : List Value) (bs : List Addr), v = .ref l ∧ h.get? l = some o ∧ o.cls = .type "tuple" ∧ o.data = .seq vs n ∧ vs.toList = .str f.sg t :: ws ∧ ReadsAll h ws f.pts bs := by
  rw [Fm.d_eq] at r
  generalize f.sg = sg at r
  cases r with
  | @tuple l o vs n _ _ h1 h2 h3 h4 =>
    generalize hv : vs.toList = vl at h4
    cases h4 with
    | @cons w ws _ _ as bs r1 r2 =>
      cases r1 with
      | str _ t => exact ⟨l, o, vs, n, t, ws, bs, rfl, h1, h2, h3, hv, r2⟩
theorem eq_fm {h : Heap} {A : Around} {s : Shared} (hs : s.heap = h) {f g : Fm} {v u : Value} {as bs : List Addr} (rv : Reads h v f.d as) (ru : Reads h u g.d bs) (lf : f.d.canLay0 = true) (lg : g.d.canLay0 = true) (hu : A.units + min f.ht g.ht < cLine) : EqAt A s v u (decide (f = g)) := by
  subst hs
  rw [← Fm.eqv]
  exact eqAt_reads f.d g.d A s v u as bs rv ru lf lg (by rw [Fm.depth, Fm.depth]; exact hu)
theorem size_of {vs : Array Value} {l : List Value} (h : vs.toList = l) : vs.size = l.length := by rw [← h, Array.length_toList]
/-- the items behind the signs, in order -/
theorem seq_pts : ∀ (f g : Fm), f.rk = g.rk → ∀ (A : Around) (s : Shared) (ws us : List Value) (as bs : List Addr), ReadsAll s.heap ws f.pts as → ReadsAll s.heap us g.pts bs → f.d.canLay0 = true → g.d.canLay0 = true → A.units + min f.ht g.ht < cLine + 1 →
    (∀ (f' g' : Fm) (v u : Value) (cs ds : List Addr), f'.ht < f.ht → Reads s.heap v f'.d cs → Reads s.heap u g'.d ds → f'.d.canLay0 = true → g'.d.canLay0 = true → A.units + min f'.ht g'.ht < cLine → RcLt A s v u (f'.lt g')) →
    TupLt A s false (f.lt g) (ws.zip us) := by
  intro f g hk A s ws us as bs rw_ ru lf lg hu ih
  have two : ∀ (a b c d : Fm) (k : Bool), k = (if a = c then b.lt d else a.lt c) → a.ht < f.ht → b.ht < f.ht → a.d.canLay0 = true → b.d.canLay0 = true → c.d.canLay0 = true → d.d.canLay0 = true → A.units + min a.ht c.ht < cLine → A.units + min b.ht d.ht < cLine →
      ReadsAll s.heap ws [a.d, b.d] as → ReadsAll s.heap us [c.d, d.d] bs → TupLt A s false k (ws.zip us) := by
    intro a b c d k ek ha hb la lb lc ld h1 h2 r1 r2
    cases r1 with
    | cons p1 q1 =>
      cases q1 with
      | cons p2 q2 =>
        cases q2
        cases r2 with
        | cons p3 q3 =>
          cases q3 with
          | cons p4 q4 =>
            cases q4
            by_cases e1 : a = c
            · rw [if_pos e1] at ek
              have t1 := eq_fm (A := A) (s := s) rfl p1 p3 la lc h1
              rw [decide_eq_true e1] at t1
              refine .yes t1 ?_
              have t2 := eq_fm (A := A) (s := s) rfl p2 p4 lb ld h2
              by_cases e2 : b = d
              · rw [decide_eq_true e2] at t2
                subst e2
                rw [Fm.lt_irrefl] at ek
                exact .yes t2 (.nil ek.symm)
              · rw [decide_eq_false e2] at t2
                rw [ek]
                exact .no t2 (ih b d _ _ _ _ hb p2 p4 lb ld h2)
            · rw [if_neg e1] at ek
              have t1 := eq_fm (A := A) (s := s) rfl p1 p3 la lc h1
              rw [decide_eq_false e1] at t1
              rw [ek]
              exact .no t1 (ih a c _ _ _ _ ha p1 p3 la lc h1)
  have lay2 : ∀ {sg : Str} {a b : Fm}, PyData.canLay0 (.tuple [.str sg, a.d, b.d]) = true → a.d.canLay0 = true ∧ b.d.canLay0 = true := by
    intro sg a b h
    simp only [PyData.canLay0, PyData.canLayAll0, Bool.and_eq_true] at h
    exact ⟨h.2.1, h.2.2.1⟩
  cases f with
  | and a b =>
    cases g with
    | and c d =>
      have hu' : A.units + min (max a.ht b.ht + 1) (max c.ht d.ht + 1) < cLine + 1 := hu
      exact two a b c d _ (lt_and a b c d) (by show _ < max a.ht b.ht + 1; omega) (by show _ < max a.ht b.ht + 1; omega) (lay2 lf).1 (lay2 lf).2 (lay2 lg).1 (lay2 lg).2 (by omega) (by omega) rw_ ru
    | _ => exact absurd hk (by simp [Fm.rk])
  | or a b =>
    cases g with
    | or c d =>
      have hu' : A.units + min (max a.ht b.ht + 1) (max c.ht d.ht + 1) < cLine + 1 := hu
      exact two a b c d _ (lt_or a b c d) (by show _ < max a.ht b.ht + 1; omega) (by show _ < max a.ht b.ht + 1; omega) (lay2 lf).1 (lay2 lf).2 (lay2 lg).1 (lay2 lg).2 (by omega) (by omega) rw_ ru
    | _ => exact absurd hk (by simp [Fm.rk])
  | imp a b =>
    cases g with
    | imp c d =>
      have hu' : A.units + min (max a.ht b.ht + 1) (max c.ht d.ht + 1) < cLine + 1 := hu
      exact two a b c d _ (lt_imp a b c d) (by show _ < max a.ht b.ht + 1; omega) (by show _ < max a.ht b.ht + 1; omega) (lay2 lf).1 (lay2 lf).2 (lay2 lg).1 (lay2 lg).2 (by omega) (by omega) rw_ ru
    | _ => exact absurd hk (by simp [Fm.rk])
  | box a =>
    cases g with
    | box c =>
      have hu' : A.units + min (a.ht + 1) (c.ht + 1) < cLine + 1 := hu
      have la : a.d.canLay0 = true := by
        have h : PyData.canLay0 (.tuple [.str "box", a.d]) = true := lf
        simp only [PyData.canLay0, PyData.canLayAll0, Bool.and_eq_true] at h
        exact h.2.1
      have lc : c.d.canLay0 = true := by
        have h : PyData.canLay0 (.tuple [.str "box", c.d]) = true := lg
        simp only [PyData.canLay0, PyData.canLayAll0, Bool.and_eq_true] at h
        exact h.2.1
      rw [lt_box]
      cases rw_ with
      | cons p1 q1 =>
        cases q1
        cases ru with
        | cons p3 q3 =>
          cases q3
          have t1 := eq_fm (A := A) (s := s) rfl p1 p3 la lc (by omega)
          by_cases e1 : a = c
          · rw [decide_eq_true e1] at t1
            subst e1
            exact .yes t1 (.nil (Fm.lt_irrefl a).symm)
          · rw [decide_eq_false e1] at t1
            exact .no t1 (ih a c _ _ _ _ (Nat.lt_succ_self _) p1 p3 la lc (by omega))
    | _ => exact absurd hk (by simp [Fm.rk])
  | fal =>
    cases g with
    | fal =>
      cases rw_
      cases ru
      exact .nil (Fm.lt_irrefl _).symm
    | _ => exact absurd hk (by simp [Fm.rk])
  | var n =>
    cases g with
    | var m =>
      rw [lt_var]
      cases rw_ with
      | cons p1 q1 =>
        cases q1
        cases ru with
        | cons p3 q3 =>
          cases q3
          cases p1 with
          | str _ t =>
            cases p3 with
            | str _ t2 =>
              have t1 := EqAt.str_str (A := A) (s := s) n t m t2
              by_cases e1 : n = m
              · subst e1
                rw [beq_self_eq_true] at t1
                exact .yes t1 (.nil (decide_eq_false (List.lt_irrefl _)).symm)
              · rw [streq, decide_eq_false e1] at t1
                exact .no t1 fun prog w E Q hq => P.lt_str hq
    | _ => exact absurd hk (by simp [Fm.rk])
theorem rc_fm : ∀ (n : Nat) (f g : Fm) (A : Around) (s : Shared) (v u : Value) (as bs : List Addr), f.ht ≤ n → Reads s.heap v f.d as → Reads s.heap u g.d bs → f.d.canLay0 = true → g.d.canLay0 = true → A.units + min f.ht g.ht < cLine → RcLt A s v u (f.lt g)
  | 0, f, _, _, _, _, _, _, _, h, _, _, _, _, _ => absurd (Fm.ht_pos f) (by omega)
  | n + 1, f, g, A, s, v, u, as, bs, hn, rv, ru, lf, lg, hu => by
    obtain ⟨l, o, vs, k, t, ws, cs, rfl, h1, h2, h3, h4, h5⟩ := rd_items rv
    obtain ⟨l', o', vs', k', t', ws', cs', rfl, k1, k2, k3, k4, k5⟩ := rd_items ru
    refine rc_tups ⟨o, h1, h2, k, h3⟩ ⟨o', k1, k2, k', k3⟩ (Nat.lt_of_le_of_lt (Nat.le_add_right _ _) hu) ?_
    rw [h4, k4, List.zip_cons_cons]
    have t1 := EqAt.str_str (A := A.in1) (s := s) f.sg t g.sg t'
    by_cases hk : f.rk = g.rk
    · rw [show f.sg = g.sg from congrArg sgT hk] at t1 ⊢
      rw [beq_self_eq_true] at t1
      refine .yes t1 ?_
      have hsz : decide (vs.size < vs'.size) = false := by
        rw [size_of h4, size_of k4, List.length_cons, List.length_cons, SeqAt.ReadsAll.length _ _ _ h5, SeqAt.ReadsAll.length _ _ _ k5]
        have : f.pts.length = g.pts.length := by
          cases f <;> cases g <;> first | rfl | exact absurd hk (by simp [Fm.rk])
        rw [this]
        exact decide_eq_false (Nat.lt_irrefl _)
      rw [hsz]
      exact seq_pts f g hk A.in1 s ws ws' cs cs' h5 k5 lf lg (by show A.units + 1 + _ < _; omega) fun f' g' v u cs ds hf r1 r2 l1 l2 hu' => rc_fm n f' g' A.in1 s v u cs ds (by omega) r1 r2 l1 l2 hu'
    · rw [show (f.sg == g.sg) = false from sgT_ne _ _ hk] at t1
      refine .no t1 fun prog w E Q hq => ?_
      rw [lt_rk hk, ← sgT_lt] at hq
      exact P.lt_str hq
end E

set_option Elab.async false
set_option linter.all false
set_option maxRecDepth 100000
set_option maxHeartbeats 4000000
namespace E
open PySem PySem.Spec PyProof.Rows L2 PySem.SeqAt ELt PySem.W PySem.Calls
/-! ### sorting formulas -/
theorem sgT_inj {i j : Fin 6} (h : sgT i = sgT j) : i = j := by
  by_cases e : i = j
  · exact e
  · have := sgT_ne i j e
    rw [h, beq_self_eq_true] at this
    cases this
theorem rd_head {h : Heap} {f g : Fm} {v : Value} {as bs : List Addr} (r1 : Reads h v f.d as) (r2 : Reads h v g.d bs) : f.rk = g.rk ∧ ∃ (ws : List Value) (cs ds : List Addr), ReadsAll h ws f.pts cs ∧ ReadsAll h ws g.pts ds := by
  obtain ⟨l, o, vs, k, t, ws, cs, rfl, h1, h2, h3, h4, h5⟩ := rd_items r1
  obtain ⟨l', o', vs', k', t', ws', cs', e, k1, k2, k3, k4, k5⟩ := rd_items r2
  cases e
  rw [h1] at k1
  cases k1
  rw [h3] at k3
  cases k3
  rw [h4] at k4
  obtain ⟨e1, e2⟩ := List.cons.inj k4
  have e3 : f.sg = g.sg := by injection e1
  subst e2
  exact ⟨sgT_inj e3, ws, cs, cs', h5, k5⟩
theorem rd_two {h : Heap} {ws : List Value} {a b c d : PyData} {as bs : List Addr} (r1 : ReadsAll h ws [a, b] as) (r2 : ReadsAll h ws [c, d] bs) : ∃ (v u : Value) (x y z w : List Addr), Reads h v a x ∧ Reads h v c y ∧ Reads h u b z ∧ Reads h u d w := by
  cases r1 with
  | cons p1 q1 =>
    cases q1 with
    | cons p2 q1 =>
      cases r2 with
      | cons p3 q2 =>
        cases q2 with
        | cons p4 q2 => exact ⟨_, _, _, _, _, _, p1, p3, p2, p4⟩
theorem rd_one {h : Heap} {ws : List Value} {a c : PyData} {as bs : List Addr} (r1 : ReadsAll h ws [a] as) (r2 : ReadsAll h ws [c] bs) : ∃ (v : Value) (x y : List Addr), Reads h v a x ∧ Reads h v c y := by
  cases r1 with
  | cons p1 q1 =>
    cases r2 with
    | cons p3 q2 => exact ⟨_, _, _, p1, p3⟩
theorem rd_uniq {h : Heap} : ∀ (f g : Fm) (v : Value) (as bs : List Addr), Reads h v f.d as → Reads h v g.d bs → f = g := by
  intro f
  induction f with
  | and a b iha ihb =>
    intro g v as bs r1 r2
    obtain ⟨hk, ws, cs, ds, q1, q2⟩ := rd_head r1 r2
    cases g with
    | and c d =>
      obtain ⟨_, _, _, _, _, _, p1, p2, p3, p4⟩ := rd_two q1 q2
      rw [iha c _ _ _ p1 p2, ihb d _ _ _ p3 p4]
    | _ => exact absurd hk (by simp [Fm.rk])
  | or a b iha ihb =>
    intro g v as bs r1 r2
    obtain ⟨hk, ws, cs, ds, q1, q2⟩ := rd_head r1 r2
    cases g with
    | or c d =>
      obtain ⟨_, _, _, _, _, _, p1, p2, p3, p4⟩ := rd_two q1 q2
      rw [iha c _ _ _ p1 p2, ihb d _ _ _ p3 p4]
    | _ => exact absurd hk (by simp [Fm.rk])
  | imp a b iha ihb =>
    intro g v as bs r1 r2
    obtain ⟨hk, ws, cs, ds, q1, q2⟩ := rd_head r1 r2
    cases g with
    | imp c d =>
      obtain ⟨_, _, _, _, _, _, p1, p2, p3, p4⟩ := rd_two q1 q2
      rw [iha c _ _ _ p1 p2, ihb d _ _ _ p3 p4]
    | _ => exact absurd hk (by simp [Fm.rk])
  | box a iha =>
    intro g v as bs r1 r2
    obtain ⟨hk, ws, cs, ds, q1, q2⟩ := rd_head r1 r2
    cases g with
    | box c =>
      obtain ⟨_, _, _, p1, p2⟩ := rd_one q1 q2
      rw [iha c _ _ _ p1 p2]
    | _ => exact absurd hk (by simp [Fm.rk])
  | fal =>
    intro g v as bs r1 r2
    obtain ⟨hk, ws, cs, ds, q1, q2⟩ := rd_head r1 r2
    cases g with
    | fal => rfl
    | _ => exact absurd hk (by simp [Fm.rk])
  | var n =>
    intro g v as bs r1 r2
    obtain ⟨hk, ws, cs, ds, q1, q2⟩ := rd_head r1 r2
    cases g with
    | var m =>
      obtain ⟨_, _, _, p1, p2⟩ := rd_one q1 q2
      cases p1
      cases p2
      rfl
    | _ => exact absurd hk (by simp [Fm.rk])
/-- formulas as keys, read off a heap -/
noncomputable def fmKind (h : Heap) (fs : List Fm) : PyProof.Rows.KeyKind where
  toKeyOrd := listOrd itemOrd
  keyOf v := open Classical in if q : ∃ f, f ∈ fs ∧ ∃ as, Reads h v f.d as then some q.choose.toks else none
  dflt := ([] : Tk)
theorem fmKind_some {h : Heap} {fs : List Fm} {v : Value} {f : Fm} {as : List Addr} (hf : f ∈ fs) (r : Reads h v f.d as) : (fmKind h fs).keyOf v = some f.toks := by
  have q : ∃ f, f ∈ fs ∧ ∃ as, Reads h v f.d as := ⟨f, hf, as, r⟩
  obtain ⟨_, as', h2⟩ := q.choose_spec
  have e : q.choose = f := rd_uniq _ _ _ _ _ h2 r
  show (open Classical in if q : ∃ f, f ∈ fs ∧ ∃ as, Reads h v f.d as then some q.choose.toks else none) = _
  rw [dif_pos q, e]
theorem fmKind_inv {h : Heap} {fs : List Fm} {v : Value} {k : Tk} (e : (fmKind h fs).keyOf v = some k) : ∃ f as, f ∈ fs ∧ Reads h v f.d as ∧ k = f.toks := by
  have e' : (open Classical in if q : ∃ f, f ∈ fs ∧ ∃ as, Reads h v f.d as then some q.choose.toks else none) = some k := e
  by_cases q : ∃ f, f ∈ fs ∧ ∃ as, Reads h v f.d as
  · obtain ⟨h1, as', h2⟩ := q.choose_spec
    rw [dif_pos q] at e'
    exact ⟨_, as', h1, h2, (Option.some.inj e').symm⟩
  · rw [dif_neg q] at e'
    cases e'
section
variable {prog : Program} {w : World} {A : Around} {E : Value → Shared → Prop} {s : Shared}
theorem lex_tail {fin k : Bool} {Q : Bool → Shared → Prop} (hq : Q k s) : ∀ (l : List (Value × Value)) (i : Nat), TupLt A s fin k l → KatLex prog w A true fin Q l (i + 1) s
  | _, _, .nil e => kat_nil (by rw [e]; exact hq)
  | _, i, .yes (r := r) e t => kat_cons (e prog w _ _ (kat_yes (lex_tail hq r (i + 1) t)))
  | _, i, .no e lt => kat_cons (e prog w _ _ (kat_no (by
      show wpAny (model prog w) A (oneLt' (true && (i + 1 == 0)) _ _) Q _ s
      rw [show (true && (i + 1 == 0)) = false from rfl]
      exact kat_one _ _ (lt prog w _ _ hq))))
theorem sorts_fm {vs : List Value} {fs : List Fm} (e : EachIs (fun v f => ∃ as, Reads s.heap v f.d as) vs fs) (hl : ∀ f, f ∈ fs → f.d.canLay0 = true ∧ A.units + f.ht < cLine) : SortsAt prog w A s (fmKind s.heap fs) vs := by
  refine ⟨fun v hv => ?_, tuples' (Value.type "str" != Value.type "tuple"), ?_, fun h2 E Q hq => ?_⟩
  · obtain ⟨f, hf, as, r⟩ := e.left v hv
    exact ⟨_, fmKind_some hf r⟩
  · intro E x y a b Q ha hb hq
    obtain ⟨f, as, hf, rf, rfl⟩ := fmKind_inv ha
    obtain ⟨g, bs, hg, rg, rfl⟩ := fmKind_inv hb
    have hq' : Q (f.lt g) s := hq
    obtain ⟨l, o, vs, k, t, ws, cs, rfl, h1, h2, h3, h4, h5⟩ := rd_items rf
    obtain ⟨l', o', vs', k', t', ws', cs', rfl, k1, k2, k3, k4, k5⟩ := rd_items rg
    have room : A.units + min f.ht g.ht < cLine := by
      have := (hl f hf).2
      omega
    refine kat_lt h1 h3 k1 k3 ?_
    rw [h4, k4, List.zip_cons_cons, show (Value.type "str" != Value.type "tuple") = true by decide]
    have t1 := EqAt.str_str (A := A) (s := s) f.sg t g.sg t'
    by_cases hk : f.rk = g.rk
    · rw [show f.sg = g.sg from congrArg sgT hk] at t1 ⊢
      rw [beq_self_eq_true] at t1
      have hsz : decide (vs.size < vs'.size) = false := by
        rw [size_of h4, size_of k4, List.length_cons, List.length_cons, SeqAt.ReadsAll.length _ _ _ h5, SeqAt.ReadsAll.length _ _ _ k5]
        have : f.pts.length = g.pts.length := by
          cases f <;> cases g <;> first | rfl | exact absurd hk (by simp [Fm.rk])
        rw [this]
        exact decide_eq_false (Nat.lt_irrefl _)
      rw [hsz]
      refine kat_cons (t1 prog w _ _ (kat_yes (lex_tail hq' _ 0 ?_)))
      exact seq_pts f g hk A s ws ws' cs cs' h5 k5 (hl f hf).1 (hl g hg).1 (by omega) fun f' g' v u cs ds hf' r1 r2 l1 l2 hu' => rc_fm f'.ht f' g' A s v u cs ds (Nat.le_refl _) r1 r2 l1 l2 hu'
    · rw [show (f.sg == g.sg) = false from sgT_ne _ _ hk] at t1
      refine kat_cons (t1 prog w _ _ (kat_no ?_))
      rw [lt_rk hk, ← sgT_lt] at hq'
      exact oneLt_str hq'
  · have firsts : ∀ {vs : List Value} {fs : List Fm}, EachIs (fun v f => ∃ as, Reads s.heap v f.d as) vs fs → ∃ us, KatTups s.heap vs us ∧ us.length = vs.length ∧ ∀ u ∈ us, ∃ x t, u = Value.str x t := by
      intro vs fs e
      induction e with
      | nil => exact ⟨[], KatTups.nil, rfl, fun u hu => nomatch hu⟩
      | cons h _ ih =>
        obtain ⟨as, r⟩ := h
        obtain ⟨us, a1, a2, a3⟩ := ih
        obtain ⟨l, o, vs, k, t, ws, cs, rfl, h1, h2, h3, h4, h5⟩ := rd_items r
        refine ⟨.str _ t :: us, KatTups.cons h1 h2 h3 (by rw [← Array.getElem?_toList, h4]; rfl) a1, by rw [List.length_cons, List.length_cons, a2], fun u hu => ?_⟩
        rcases List.mem_cons.mp hu with rfl | hu
        · exact ⟨_, _, rfl⟩
        · exact a3 u hu
    obtain ⟨us, a1, a2, a3⟩ := firsts e
    refine kat_kind (T := .type "str") a1 (by omega) (fun u hu => ?_) (beq_self_eq_true _) hq
    obtain ⟨x, t, rfl⟩ := a3 u hu
    exact Looks.of_pure rfl
end
def Fm.le (f g : Fm) : Bool := !g.lt f
/-- sorted(xs), xs a list of formulas -/
def rSortedF (K : PySem.W.Frag) : List V → Hp → VK → Prop := fun vs H Q => ∃ (a : Addr) (xs : List V) (fs : List Fm), vs = [V.ref a] ∧ SqL K H a xs ∧ ImAll K H xs (fs.map Fm.d) ∧ (∀ f ∈ fs, f.d.canLay0 = true ∧ f.ht ≤ 100) ∧
  ∀ (p : Addr) (ys : List V), H p = none → ImAll K H ys ((fs.mergeSort Fm.le).map Fm.d) → Q (.ref p) (upd H p (.lst ys))
theorem each_of {X : Cx} {pins : List (Addr × Obj)} {σ : L2.St} {H : Hp} {s : Shared} (I : Inv X pins σ H s) : ∀ {xs : List V} {us : List Value} {fs : List Fm}, Vals xs us → ImAll X.K H xs (fs.map Fm.d) →
    EachIs (fun v f => ∃ x : V, RelV x v ∧ Im X.K H x (Fm.d f)) us fs ∧ EachIs (fun v f => ∃ as, Reads s.heap v (Fm.d f) as) us fs
  | _, _, [], .nil, _ => ⟨.nil, .nil⟩
  | _, _, f :: fs, .cons r t, i => by
    have i' : ImAll X.K H _ (f.d :: fs.map Fm.d) := i
    cases i' with
    | cons i1 i2 =>
      obtain ⟨a1, a2⟩ := each_of I t i2
      exact ⟨.cons ⟨_, r, i1⟩ a1, .cons (Dp.reads I _ _ _ i1.dp r) a2⟩
theorem each_back {K : PySem.W.Frag} {H : Hp} : ∀ {us : List Value} {fs : List Fm}, EachIs (fun v f => ∃ x : V, RelV x v ∧ Im K H x (Fm.d f)) us fs → ∃ ys : List V, Vals ys us ∧ ImAll K H ys (fs.map Fm.d)
  | _, _, .nil => ⟨[], .nil, .nil⟩
  | _, _, .cons ⟨x, r, i⟩ t => by
    obtain ⟨ys, h1, h2⟩ := each_back t
    exact ⟨x :: ys, .cons r h1, .cons i h2⟩
section
variable {X : Cx}
theorem cr_sortedF (hu64 : X.A.units + 200 < cLine) : CallR X (.builtin "sorted") (rSortedF X.K) := by
  intro pins s σ H vs us Q I r h
  obtain ⟨a, xs, fs, rfl, hs, hi, hb, q⟩ := h
  obtain ⟨its, rv, hl, hz⟩ := I.list hs
  obtain ⟨u, rfl, ru⟩ := vals1 r
  obtain rfl : u = Value.ref a := ru
  obtain ⟨e1, e2⟩ := each_of I rv hi
  have e3 : EachIs (fun v f => ∃ as, Reads (sortingHeap (copyHeap s.heap its) (s.heap.objs.size + 1) its) v (Fm.d f) as) its fs := e2.mono fun v f ⟨as, r⟩ => ⟨as, PyProof.Rows.Reads.keeps (fun _ _ => sorting_copy_old) r⟩
  refine sorted_vals (κ := fmKind (sortingHeap (copyHeap s.heap its) (s.heap.objs.size + 1) its) fs) hl.isList (sorts_fm (s := { s with heap := sortingHeap (copyHeap s.heap its) (s.heap.objs.size + 1) its }) e3 fun f hf => ⟨(hb f hf).1, ?_⟩) (by rw [← rv.length]; exact hz) ?_
  · have := (hb f hf).2
    show X.A.units + 1 + 1 + f.ht < cLine
    omega
  · have ek : EachIs (fun v f => (fmKind (sortingHeap (copyHeap s.heap its) (s.heap.objs.size + 1) its) fs).keyOf v = some (Fm.toks f)) its fs := (each_mem e3).mono fun v f ⟨⟨as, r⟩, hf⟩ => fmKind_some hf r
    have es := sortVals_each (κ := fmKind (sortingHeap (copyHeap s.heap its) (s.heap.objs.size + 1) its) fs) (rev := false) Fm.toks e1 ek
    obtain ⟨ys, y1, y2⟩ := each_back es
    obtain ⟨n, hn⟩ := sortedAll_at s.heap its (sortVals (fmKind (sortingHeap (copyHeap s.heap its) (s.heap.objs.size + 1) its) fs) false its its).toArray
    have hf : s.heap.objs.size ≤ s.heap.objs.size + 1 := Nat.le_succ _
    refine ⟨.ref (s.heap.objs.size + 1), upd H _ (.lst ys), I.laid (t' := s.toks) (fun _ _ => sortedAll_old) hf ⟨?_, _, n, y1, hn⟩, rfl, q _ ys (I.hok.fresh hf) y2⟩
    have hl2 := y1.length
    rw [sortVals_length false rfl] at hl2
    have := rv.length
    omega
end
end E
namespace E
open PySem PySem.Spec PyProof.Rows L2 PySem.SeqAt ELt PySem.W PySem.Calls
def rLtF (K : PySem.W.Frag) : R2 := fun x y H Q => ∃ f g : Fm, Im K H x f.d ∧ Im K H y g.d ∧ f.d.canLay0 = true ∧ g.d.canLay0 = true ∧ f.ht ≤ 100 ∧ Q (.bl (f.lt g)) H
theorem op_ltF {X : Cx} (hu : X.A.units + 200 < cLine) : OpR X (compareOp .Lt) (rLtF X.K) := by
  intro pins s σ H x y v u Q I rx ry h
  obtain ⟨f, g, hf, hg, lf, lg, hh, q⟩ := h
  obtain ⟨as, r1⟩ := Dp.reads I _ x v hf.dp rx
  obtain ⟨bs, r2⟩ := Dp.reads I _ y u hg.dp ry
  exact rc_fm f.ht f g X.A s v u as bs (Nat.le_refl _) r1 r2 lf lg (by omega) X.prog X.w _ _ ⟨.bl _, H, I, rfl, q⟩
end E

set_option Elab.async false
set_option linter.all false
set_option maxRecDepth 100000
set_option maxHeartbeats 4000000
namespace E
open PySem PySem.Spec PyProof.Rows L2
/-! ### ascending lists of formulas -/
def dd (l : List Fm) : List Fm := l.foldl (fun acc x => if acc.getLast? = some x then acc else acc ++ [x]) []
def dist (l : List Fm) : List Fm := dd (l.mergeSort Fm.le)
theorem dd_snoc (l : List Fm) (x : Fm) : dd (l ++ [x]) = if (dd l).getLast? = some x then dd l else dd l ++ [x] := by
  unfold dd
  rw [List.foldl_append]
  rfl
def Asc (l : List Fm) : Prop := l.Pairwise fun a b => a.lt b = true
theorem le_total (a b : Fm) : a.le b = true ∨ b.le a = true := by
  unfold Fm.le
  cases e : b.lt a with
  | false => exact .inl rfl
  | true => exact .inr (by rw [Fm.lt_asymm e]; rfl)
theorem lt_of_le_ne {a b : Fm} (h : a.le b = true) (n : a ≠ b) : a.lt b = true := by
  unfold Fm.le at h
  rw [Bool.not_eq_true'] at h
  cases e : a.lt b with
  | true => rfl
  | false => exact absurd (Fm.lt_total e h) n
theorem le_of_lt {a b : Fm} (h : a.lt b = true) : a.le b = true := by
  unfold Fm.le
  rw [Fm.lt_asymm h]
  rfl
theorem le_trans' {a b c : Fm} (h1 : a.le b = true) (h2 : b.le c = true) : a.le c = true := by
  by_cases e : a = b
  · rw [e]; exact h2
  · by_cases e2 : b = c
    · rw [← e2]; exact h1
    · exact le_of_lt (Fm.lt_trans (lt_of_le_ne h1 e) (lt_of_le_ne h2 e2))
theorem ms_sorted (l : List Fm) : (l.mergeSort Fm.le).Pairwise fun a b => a.le b = true :=
  List.pairwise_mergeSort (le := Fm.le) (fun a b c h1 h2 => le_trans' (a := a) (b := b) (c := c) h1 h2) (fun a b => Bool.or_eq_true_iff.mpr (le_total a b)) l
theorem getLast?_of_pairwise {l : List Fm} {x y : Fm} (h : l.getLast? = some y) (p : Asc l) (hx : x ∈ l) : x = y ∨ x.lt y = true := by
  obtain ⟨l', rfl⟩ := List.getLast?_eq_some_iff.mp h
  rcases List.mem_append.mp hx with q | q
  · exact .inr ((List.pairwise_append.mp p).2.2 x q y (List.mem_singleton.mpr rfl))
  · exact .inl (List.mem_singleton.mp q)
theorem snoc_ind {α : Type} {P : List α → Prop} (h0 : P []) (hs : ∀ l x, P l → P (l ++ [x])) (l : List α) : P l := by
  have : ∀ r : List α, P r.reverse := by
    intro r
    induction r with
    | nil => exact h0
    | cons x r ih =>
      rw [List.reverse_cons]
      exact hs _ _ ih
  have e := this l.reverse
  rw [List.reverse_reverse] at e
  exact e
/-- the walk over a sorted list: strictly ascending, the same members, a part of it -/
theorem dd_spec (l : List Fm) : (l.Pairwise fun a b => a.le b = true) → Asc (dd l) ∧ (∀ x, x ∈ dd l ↔ x ∈ l) ∧ (dd l).Sublist l ∧ (dd l).getLast? = l.getLast? := by
  induction l using snoc_ind with
  | h0 => exact fun _ => ⟨.nil, fun x => Iff.rfl, List.Sublist.refl _, rfl⟩
  | hs l x ih =>
    intro p
    obtain ⟨p1, _, p2⟩ := List.pairwise_append.mp p
    obtain ⟨a1, a2, a3, a4⟩ := ih p1
    rw [dd_snoc]
    by_cases e : (dd l).getLast? = some x
    · rw [if_pos e]
      refine ⟨a1, fun y => ?_, a3.trans (List.sublist_append_left _ _), by rw [e, List.getLast?_append]; rfl⟩
      rw [a2, List.mem_append, List.mem_singleton]
      constructor
      · exact .inl
      · rintro (q | rfl)
        · exact q
        · exact (a2 y).mp (List.mem_of_getLast? e)
    · rw [if_neg e]
      refine ⟨List.pairwise_append.mpr ⟨a1, List.pairwise_singleton _ _, fun y hy z hz => ?_⟩, fun y => ?_, List.Sublist.append a3 (List.Sublist.refl _), by rw [List.getLast?_append, List.getLast?_append]; rfl⟩
      · rw [List.mem_singleton] at hz
        subst hz
        refine lt_of_le_ne (p2 y ((a2 y).mp hy) z (List.mem_singleton.mpr rfl)) fun q => ?_
        subst q
        cases g : (dd l).getLast? with
        | none =>
          rw [List.getLast?_eq_none_iff] at g
          rw [g] at hy
          cases hy
        | some m =>
          have hm : m ∈ dd l := List.mem_of_getLast? g
          rcases getLast?_of_pairwise g a1 hy with q | q
          · rw [q] at e; exact e g
          · have := p2 m ((a2 m).mp hm) y (List.mem_singleton.mpr rfl)
            unfold Fm.le at this
            rw [q] at this
            cases this
      · rw [List.mem_append, List.mem_append, a2]
theorem dist_asc (l : List Fm) : Asc (dist l) := (dd_spec _ (ms_sorted l)).1
theorem dist_mem {l : List Fm} {x : Fm} : x ∈ dist l ↔ x ∈ l := ((dd_spec _ (ms_sorted l)).2.1 x).trans ((List.mergeSort_perm l Fm.le).mem_iff)
theorem asc_one : ∀ {l m : List Fm}, Asc l → Asc m → (∀ x, x ∈ l ↔ x ∈ m) → l = m
  | [], [], _, _, _ => rfl
  | [], y :: m, _, _, h => absurd ((h y).mpr List.mem_cons_self) (by simp)
  | x :: l, [], _, _, h => absurd ((h x).mp List.mem_cons_self) (by simp)
  | x :: l, y :: m, hl, hm, h => by
    have hl' := List.pairwise_cons.mp hl
    have hm' := List.pairwise_cons.mp hm
    have e : x = y := by
      rcases List.mem_cons.mp ((h x).mp List.mem_cons_self) with q | q
      · exact q
      · rcases List.mem_cons.mp ((h y).mpr List.mem_cons_self) with r | r
        · exact r.symm
        · have h1 := hm'.1 x q
          have h2 := hl'.1 y r
          rw [Fm.lt_asymm h1] at h2
          cases h2
    subst e
    have : l = m := asc_one hl'.2 hm'.2 fun z => by
      constructor
      · intro q
        rcases List.mem_cons.mp ((h z).mp (List.mem_cons_of_mem _ q)) with r | r
        · subst r
          have := hl'.1 z q
          rw [Fm.lt_irrefl] at this
          cases this
        · exact r
      · intro q
        rcases List.mem_cons.mp ((h z).mpr (List.mem_cons_of_mem _ q)) with r | r
        · subst r
          have := hm'.1 z q
          rw [Fm.lt_irrefl] at this
          cases this
        · exact r
    rw [this]
theorem dist_ext {l m : List Fm} (h : ∀ x, x ∈ l ↔ x ∈ m) : dist l = dist m := asc_one (dist_asc l) (dist_asc m) fun x => by rw [dist_mem, dist_mem, h]
theorem dist_self {l : List Fm} (h : Asc l) : dist l = l := asc_one (dist_asc l) h fun x => dist_mem
theorem dist_len (l : List Fm) : (dist l).length ≤ l.length := by
  have := (dd_spec _ (ms_sorted l)).2.2.1.length_le
  rw [List.length_mergeSort] at this
  exact this
theorem sub_sum (k : Fm → Nat) : ∀ {l m : List Fm}, l.Sublist m → (l.map k).sum ≤ (m.map k).sum
  | _, _, .slnil => Nat.le_refl _
  | _, _, .cons x h => by
    rw [List.map_cons, List.sum_cons]
    exact Nat.le_trans (sub_sum k h) (Nat.le_add_left _ _)
  | _, _, .cons₂ x h => by
    rw [List.map_cons, List.sum_cons, List.map_cons, List.sum_cons]
    exact Nat.add_le_add_left (sub_sum k h) _
theorem dist_sum (k : Fm → Nat) (l : List Fm) : ((dist l).map k).sum ≤ (l.map k).sum := by
  refine Nat.le_trans (sub_sum k (dd_spec _ (ms_sorted l)).2.2.1) ?_
  rw [((List.mergeSort_perm l Fm.le).map k).sum_nat]
  exact Nat.le_refl _
/-! ### parts, levels -/
def Fm.kids : Fm → List Fm
  | .and a b => [a, b]
  | .or a b => [a, b]
  | .imp a b => [a, b]
  | .box a => [a]
  | .fal => []
  | .var _ => []
def Fm.sz : Fm → Nat
  | .and a b => a.sz + b.sz + 1
  | .or a b => a.sz + b.sz + 1
  | .imp a b => a.sz + b.sz + 1
  | .box a => a.sz + 1
  | .fal => 1
  | .var _ => 1
theorem Fm.sz_pos (f : Fm) : 1 ≤ f.sz := by cases f <;> exact Nat.le_add_left _ _
theorem kids_sz (f : Fm) : (f.kids.map Fm.sz).sum + 1 = f.sz := by cases f <;> simp [Fm.kids, Fm.sz]
theorem kids_ht {f g : Fm} (h : g ∈ f.kids) : g.ht < f.ht := by
  cases f with
  | and a b =>
    have q : g = a ∨ g = b := by simpa [Fm.kids] using h
    show _ < max a.ht b.ht + 1
    rcases q with rfl | rfl <;> omega
  | or a b =>
    have q : g = a ∨ g = b := by simpa [Fm.kids] using h
    show _ < max a.ht b.ht + 1
    rcases q with rfl | rfl <;> omega
  | imp a b =>
    have q : g = a ∨ g = b := by simpa [Fm.kids] using h
    show _ < max a.ht b.ht + 1
    rcases q with rfl | rfl <;> omega
  | box a =>
    have q : g = a := by simpa [Fm.kids] using h
    subst q
    exact Nat.lt_succ_self _
  | fal => cases h
  | var n => cases h
/-- one more level down -/
def down (l : List Fm) : List Fm := dist (l.flatMap Fm.kids)
def levs : Nat → List Fm → List (List Fm)
  | 0, _ => []
  | n + 1, l => if l = [] then [] else l :: levs n (down l)
theorem down_sum (l : List Fm) : ((down l).map Fm.sz).sum + l.length ≤ (l.map Fm.sz).sum := by
  have h1 := dist_sum Fm.sz (l.flatMap Fm.kids)
  have h2 : ((l.flatMap Fm.kids).map Fm.sz).sum + l.length = (l.map Fm.sz).sum := by
    induction l with
    | nil => rfl
    | cons f l ih =>
      have ih' := ih (dist_sum Fm.sz (l.flatMap Fm.kids))
      rw [List.flatMap_cons, List.map_append, List.sum_append_nat, List.map_cons, List.sum_cons, List.length_cons, ← kids_sz f]
      omega
  unfold down
  omega
theorem sum_len (l : List Fm) : l.length ≤ (l.map Fm.sz).sum := by
  induction l with
  | nil => exact Nat.le_refl _
  | cons f l ih =>
    rw [List.map_cons, List.sum_cons, List.length_cons]
    have := f.sz_pos
    omega
theorem down_mem {l : List Fm} {x : Fm} : x ∈ down l ↔ ∃ f ∈ l, x ∈ f.kids := by
  unfold down
  rw [dist_mem, List.mem_flatMap]
/-- all that occurs in a formula -/
def Fm.subs : Fm → List Fm
  | .and a b => .and a b :: (a.subs ++ b.subs)
  | .or a b => .or a b :: (a.subs ++ b.subs)
  | .imp a b => .imp a b :: (a.subs ++ b.subs)
  | .box a => .box a :: a.subs
  | .fal => [.fal]
  | .var n => [.var n]
theorem subs_kids {f x : Fm} : x ∈ f.subs ↔ x = f ∨ ∃ g ∈ f.kids, x ∈ g.subs := by
  cases f <;> simp [Fm.subs, Fm.kids]
/-- what stands on the levels: all that occurs in the first one -/
theorem levs_mem : ∀ (n : Nat) (l : List Fm), (∀ f ∈ l, f.ht ≤ n) → ∀ x, x ∈ (levs n l).flatten ↔ ∃ f ∈ l, x ∈ f.subs
  | 0, l, h, x => by
    constructor
    · intro q
      cases q
    · rintro ⟨f, hf, _⟩
      exact absurd (h f hf) (by have := f.ht_pos; omega)
  | n + 1, l, h, x => by
    rw [levs]
    by_cases e : l = []
    · rw [if_pos e, e]
      simp
    · rw [if_neg e, List.flatten_cons, List.mem_append, levs_mem n (down l) (fun f hf => by
        obtain ⟨g, hg, hk⟩ := down_mem.mp hf
        have h1 := kids_ht hk
        have h2 := h g hg
        omega) x]
      constructor
      · rintro (q | ⟨f, hf, hx⟩)
        · exact ⟨x, q, subs_kids.mpr (.inl rfl)⟩
        · obtain ⟨g, hg, hk⟩ := down_mem.mp hf
          exact ⟨g, hg, subs_kids.mpr (.inr ⟨f, hk, hx⟩)⟩
      · rintro ⟨f, hf, hx⟩
        rcases subs_kids.mp hx with rfl | ⟨g, hg, hx⟩
        · exact .inl hf
        · exact .inr ⟨g, down_mem.mpr ⟨f, hf, hg⟩, hx⟩
theorem levs_len : ∀ (n : Nat) (l : List Fm), (levs n l).length ≤ n
  | 0, _ => Nat.le_refl _
  | n + 1, l => by
    rw [levs]
    split
    · exact Nat.zero_le _
    · rw [List.length_cons]
      have := levs_len n (down l)
      omega
theorem levs_sum : ∀ (n : Nat) (l : List Fm), ((levs n l).map List.length).sum ≤ (l.map Fm.sz).sum
  | 0, _ => Nat.zero_le _
  | n + 1, l => by
    rw [levs]
    split
    · exact Nat.zero_le _
    · rw [List.map_cons, List.sum_cons]
      have h1 := levs_sum n (down l)
      have h2 := down_sum l
      omega
end E

set_option Elab.async false
set_option linter.all false
set_option maxRecDepth 100000
set_option maxHeartbeats 4000000
namespace E
open PySem PySem.Spec PyProof.Rows L2
/-! ### comprehensions of two loops -/
section
variable {K : PySem.W.Frag}
/-- the outer loop, over a list -/
theorem out_list {a : Addr} {xs : List V} {g g1 : TG} {tt tt1 : TT} {wi1 : TI} {te : TE} {vs vs1 : List Nat} {σ : L2.St} {H1 : Hp} {D : Addr} {Qd : Hp → Prop} (Pv : Nat → Hp → Prop) (start : Pv 0 (upd H1 D (.lst []))) (at_ : ∀ i H, i ≤ xs.length → Pv i H → SqL K H a xs)
    (turn : ∀ i x H, xs[i]? = some x → Pv i H → g x (wipe σ vs) H fun σ2 H2 => wipe σ2 vs = wipe σ vs ∧ tt σ2 H2 fun b H3 => if b = true then wi1 σ2 H3 fun J1 H4 => ∃ W1 : Nat → Nat → Hp → Prop, (∃ m, W1 0 m H4) ∧ ∀ j k H, W1 j k H →
      (J1.stop j H ∧ Pv (i + 1) H) ∨ (J1.go j H ∧ ∃ N1 : Hp → Prop, (∀ H', N1 H' → ∃ k', k' < k ∧ W1 (j + 1) k' H') ∧ ∀ x H', J1.yld j H x H' → g1 x (wipe σ2 vs1) H' fun σ3 H5 => wipe σ3 vs1 = wipe σ2 vs1 ∧ tt1 σ3 H5 fun b H6 =>
        if b = true then te σ3 H6 fun y H7 => ∃ acc, H7 D = some (.lst acc) ∧ acc.length < sizeLine ∧ N1 (upd H7 D (.lst (acc ++ [y]))) else N1 H6) else Pv (i + 1) H3) (fin : ∀ H, Pv xs.length H → Qd H) :
    ∃ W : Nat → Nat → Hp → Prop, (∃ m, W 0 m (upd H1 D (.lst []))) ∧ ∀ i m H, W i m H →
      ((Itl K a).stop i H ∧ Qd H) ∨ ((Itl K a).go i H ∧ ∃ Nx : Hp → Prop, (∀ H', Nx H' → ∃ m', m' < m ∧ W (i + 1) m' H') ∧ ∀ x H', (Itl K a).yld i H x H' → g x (wipe σ vs) H' fun σ2 H2 => wipe σ2 vs = wipe σ vs ∧ tt σ2 H2 fun b H3 =>
        if b = true then wi1 σ2 H3 fun J1 H4 => ∃ W1 : Nat → Nat → Hp → Prop, (∃ m, W1 0 m H4) ∧ ∀ j k H, W1 j k H →
          (J1.stop j H ∧ Nx H) ∨ (J1.go j H ∧ ∃ Nx1 : Hp → Prop, (∀ H', Nx1 H' → ∃ k', k' < k ∧ W1 (j + 1) k' H') ∧ ∀ x H', J1.yld j H x H' → g1 x (wipe σ2 vs1) H' fun σ3 H5 => wipe σ3 vs1 = wipe σ2 vs1 ∧ tt1 σ3 H5 fun b H6 =>
            if b = true then te σ3 H6 fun y H7 => ∃ acc, H7 D = some (.lst acc) ∧ acc.length < sizeLine ∧ Nx1 (upd H7 D (.lst (acc ++ [y]))) else Nx1 H6)
        else Nx H3) := by
  refine ⟨fun i m H => m + i = xs.length ∧ Pv i H, ⟨xs.length, rfl, start⟩, fun i m H h => ?_⟩
  obtain ⟨hm, p⟩ := h
  have q := at_ i H (by omega) p
  by_cases hi : i < xs.length
  · refine Or.inr ⟨⟨xs, xs[i], q, List.getElem?_eq_getElem hi⟩, Pv (i + 1), fun H' p' => ⟨m - 1, by omega, by omega, p'⟩, fun x H' y => ?_⟩
    obtain ⟨rfl, y⟩ := y
    exact turn i x _ (y xs q) p
  · refine Or.inl ⟨⟨xs, q, by omega⟩, fin H ?_⟩
    rw [show xs.length = i by omega]
    exact p
/-- the inner loop, over a tuple -/
theorem in_tup {b : Addr} {ys : List V} {g1 : TG} {tt1 : TT} {te : TE} {vs1 : List Nat} {σ2 : L2.St} {H4 : Hp} {D : Addr} {Nx : Hp → Prop} (Pv : Nat → Hp → Prop) (start : Pv 0 H4) (at_ : ∀ j H, j ≤ ys.length → Pv j H → SqT K H b ys)
    (turn : ∀ j y H, ys[j]? = some y → Pv j H → g1 y (wipe σ2 vs1) H fun σ3 H5 => wipe σ3 vs1 = wipe σ2 vs1 ∧ tt1 σ3 H5 fun b H6 => if b = true then te σ3 H6 fun y H7 => ∃ acc, H7 D = some (.lst acc) ∧ acc.length < sizeLine ∧ Pv (j + 1) (upd H7 D (.lst (acc ++ [y]))) else Pv (j + 1) H6)
    (fin : ∀ H, Pv ys.length H → Nx H) :
    ∃ W1 : Nat → Nat → Hp → Prop, (∃ m, W1 0 m H4) ∧ ∀ j k H, W1 j k H →
      ((Itt K b).stop j H ∧ Nx H) ∨ ((Itt K b).go j H ∧ ∃ Nx1 : Hp → Prop, (∀ H', Nx1 H' → ∃ k', k' < k ∧ W1 (j + 1) k' H') ∧ ∀ x H', (Itt K b).yld j H x H' → g1 x (wipe σ2 vs1) H' fun σ3 H5 => wipe σ3 vs1 = wipe σ2 vs1 ∧ tt1 σ3 H5 fun b H6 =>
        if b = true then te σ3 H6 fun y H7 => ∃ acc, H7 D = some (.lst acc) ∧ acc.length < sizeLine ∧ Nx1 (upd H7 D (.lst (acc ++ [y]))) else Nx1 H6) := by
  refine ⟨fun i m H => m + i = ys.length ∧ Pv i H, ⟨ys.length, rfl, start⟩, fun i m H h => ?_⟩
  obtain ⟨hm, p⟩ := h
  have q := at_ i H (by omega) p
  by_cases hi : i < ys.length
  · refine Or.inr ⟨⟨ys, ys[i], q, List.getElem?_eq_getElem hi⟩, Pv (i + 1), fun H' p' => ⟨m - 1, by omega, by omega, p'⟩, fun x H' y => ?_⟩
    obtain ⟨rfl, y⟩ := y
    exact turn i x _ (y ys q) p
  · refine Or.inl ⟨⟨ys, q, by omega⟩, fin H ?_⟩
    rw [show ys.length = i by omega]
    exact p
/-- the inner loop, over a list -/
theorem in_list {b : Addr} {ys : List V} {g1 : TG} {tt1 : TT} {te : TE} {vs1 : List Nat} {σ2 : L2.St} {H4 : Hp} {D : Addr} {Nx : Hp → Prop} (Pv : Nat → Hp → Prop) (start : Pv 0 H4) (at_ : ∀ j H, j ≤ ys.length → Pv j H → SqL K H b ys)
    (turn : ∀ j y H, ys[j]? = some y → Pv j H → g1 y (wipe σ2 vs1) H fun σ3 H5 => wipe σ3 vs1 = wipe σ2 vs1 ∧ tt1 σ3 H5 fun b H6 => if b = true then te σ3 H6 fun y H7 => ∃ acc, H7 D = some (.lst acc) ∧ acc.length < sizeLine ∧ Pv (j + 1) (upd H7 D (.lst (acc ++ [y]))) else Pv (j + 1) H6)
    (fin : ∀ H, Pv ys.length H → Nx H) :
    ∃ W1 : Nat → Nat → Hp → Prop, (∃ m, W1 0 m H4) ∧ ∀ j k H, W1 j k H →
      ((Itl K b).stop j H ∧ Nx H) ∨ ((Itl K b).go j H ∧ ∃ Nx1 : Hp → Prop, (∀ H', Nx1 H' → ∃ k', k' < k ∧ W1 (j + 1) k' H') ∧ ∀ x H', (Itl K b).yld j H x H' → g1 x (wipe σ2 vs1) H' fun σ3 H5 => wipe σ3 vs1 = wipe σ2 vs1 ∧ tt1 σ3 H5 fun b H6 =>
        if b = true then te σ3 H6 fun y H7 => ∃ acc, H7 D = some (.lst acc) ∧ acc.length < sizeLine ∧ Nx1 (upd H7 D (.lst (acc ++ [y]))) else Nx1 H6) := by
  refine ⟨fun i m H => m + i = ys.length ∧ Pv i H, ⟨ys.length, rfl, start⟩, fun i m H h => ?_⟩
  obtain ⟨hm, p⟩ := h
  have q := at_ i H (by omega) p
  by_cases hi : i < ys.length
  · refine Or.inr ⟨⟨ys, ys[i], q, List.getElem?_eq_getElem hi⟩, Pv (i + 1), fun H' p' => ⟨m - 1, by omega, by omega, p'⟩, fun x H' y => ?_⟩
    obtain ⟨rfl, y⟩ := y
    exact turn i x _ (y ys q) p
  · refine Or.inl ⟨⟨ys, q, by omega⟩, fin H ?_⟩
    rw [show ys.length = i by omega]
    exact p
end
/-! ### a formula's tuple -/
theorem im_inv {K : PySem.W.Frag} {H : Hp} {x : V} {f : Fm} (h : Im K H x f.d) : ∃ (a : Addr) (ys : List V), x = .ref a ∧ SqT K H a (.str f.sg :: ys) ∧ ImAll K H ys f.pts := by
  rw [Fm.d_eq] at h
  generalize f.sg = sg at h ⊢
  cases h with
  | tup h1 h2 =>
    cases h2 with
    | cons h3 h4 =>
      cases h3
      exact ⟨_, _, rfl, h1, h4⟩
def Fm.isVar : Fm → Bool
  | .var _ => true
  | _ => false
def Fm.isBox : Fm → Bool
  | .box _ => true
  | _ => false
theorem vsg : ∀ i j : Fin 6, decide (V.str (sgT i) = V.str (sgT j)) = decide (i = j) := by decide +kernel
theorem sg_var (f : Fm) : decide (V.str f.sg = V.str "var") = f.isVar := by
  show decide (V.str (sgT f.rk) = V.str (sgT 5)) = _
  rw [vsg]
  cases f <;> rfl
theorem sg_box (f : Fm) : decide (V.str f.sg = V.str "box") = f.isBox := by
  show decide (V.str (sgT f.rk) = V.str (sgT 1)) = _
  rw [vsg]
  cases f <;> rfl
theorem kids_pts {f : Fm} (h : f.isVar = false) : f.pts = f.kids.map Fm.d := by
  cases f <;> first | rfl | cases h
theorem kids_var {f : Fm} (h : f.isVar = true) : f.kids = [] ∧ ∃ n, f = .var n := by
  cases f <;> first | exact ⟨rfl, _, rfl⟩ | cases h
theorem cut_1 (xs : List V) (x : V) : cutV (x :: xs) (some 1) none = xs := by
  unfold cutV
  rw [show HT.sIx (x :: xs).length 0 (some 1) = 1 from by
    show (if (1 : Int) < 0 then ((1 : Int) + ((x :: xs).length : Int)).toNat else min (1 : Int).toNat (x :: xs).length) = 1
    rw [if_neg (by decide), List.length_cons]
    omega, HT.sIx_none]
  show List.take _ xs = xs
  exact List.take_of_length_le (by rw [List.length_cons]; omega)
theorem sIx_1 (xs : List V) (x : V) : HT.sIx (x :: xs).length 0 (some 1) = 1 := by
  show (if (1 : Int) < 0 then ((1 : Int) + ((x :: xs).length : Int)).toNat else min (1 : Int).toNat (x :: xs).length) = 1
  rw [if_neg (by decide), List.length_cons]
  omega
theorem imAll_of {K : PySem.W.Frag} {H : Hp} {xs : List V} {fs : List Fm} {x : V} {i : Nat} (hI : ImAll K H xs (fs.map Fm.d)) (h : xs[i]? = some x) : ∃ f, fs[i]? = some f ∧ Im K H x f.d := by
  obtain ⟨d, e, j⟩ := hI.get h
  rw [List.getElem?_map] at e
  cases e2 : fs[i]? with
  | none => rw [e2] at e; cases e
  | some f =>
    rw [e2] at e
    have : f.d = d := Option.some.inj e
    subst this
    exact ⟨f, rfl, j⟩
theorem take_snoc {α : Type} {l : List α} {i : Nat} {x : α} (h : l[i]? = some x) : l.take (i + 1) = l.take i ++ [x] := by
  rw [List.take_add_one, h]
  rfl
theorem fms_len {K : PySem.W.Frag} {H : Hp} {xs : List V} {fs : List Fm} (h : ImAll K H xs (fs.map Fm.d)) : xs.length = fs.length := by
  have := h.length
  rw [List.length_map] at this
  exact this
theorem imAll_append {K : PySem.W.Frag} {H : Hp} : ∀ {xs ys : List V} {ds es : List PyData}, ImAll K H xs ds → ImAll K H ys es → ImAll K H (xs ++ ys) (ds ++ es)
  | _, _, _, _, .nil, h => h
  | _, _, _, _, .cons a t, h => .cons a (imAll_append t h)
/-- a list of lists of formulas -/
inductive LvAt (K : PySem.W.Frag) (H : Hp) : List V → List (List Fm) → Prop
  | nil : LvAt K H [] []
  | cons {b : Addr} {ys : List V} {fs : List Fm} {vs : List V} {ls : List (List Fm)} : SqL K H b ys → ImAll K H ys (fs.map Fm.d) → LvAt K H vs ls → LvAt K H (.ref b :: vs) (fs :: ls)
theorem LvAt.same {K : PySem.W.Frag} {H H' : Hp} (s : Same H H') : ∀ {vs : List V} {ls : List (List Fm)}, LvAt K H vs ls → LvAt K H' vs ls
  | _, _, .nil => .nil
  | _, _, .cons h1 h2 t => .cons (s.seq h1) (h2.mono (Same.ts s)) (LvAt.same s t)
theorem LvAt.snoc {K : PySem.W.Frag} {H : Hp} {b : Addr} {ys : List V} {fs : List Fm} (h1 : SqL K H b ys) (h2 : ImAll K H ys (fs.map Fm.d)) : ∀ {vs : List V} {ls : List (List Fm)}, LvAt K H vs ls → LvAt K H (vs ++ [.ref b]) (ls ++ [fs])
  | _, _, .nil => .cons h1 h2 .nil
  | _, _, .cons a1 a2 t => .cons a1 a2 (LvAt.snoc h1 h2 t)
theorem LvAt.len {K : PySem.W.Frag} {H : Hp} : ∀ {vs : List V} {ls : List (List Fm)}, LvAt K H vs ls → vs.length = ls.length
  | _, _, .nil => rfl
  | _, _, .cons _ _ t => by rw [List.length_cons, List.length_cons, LvAt.len t]
theorem LvAt.get {K : PySem.W.Frag} {H : Hp} : ∀ {vs : List V} {ls : List (List Fm)} {i : Nat} {v : V}, LvAt K H vs ls → vs[i]? = some v → ∃ b ys fs, v = .ref b ∧ ls[i]? = some fs ∧ SqL K H b ys ∧ ImAll K H ys (fs.map Fm.d)
  | _, _, _, _, .nil, e => by simp at e
  | _, _, 0, _, .cons h1 h2 _, e => by simp at e; subst e; exact ⟨_, _, _, rfl, rfl, h1, h2⟩
  | _, _, i + 1, v, .cons _ _ t, e => by
    obtain ⟨b, ys, fs, q1, q2, q3⟩ := LvAt.get (i := i) (v := v) t (by simpa using e)
    exact ⟨b, ys, fs, q1, by simpa using q2, q3⟩
/-- the list that holds the levels grows -/
theorem LvAt.mut {K : PySem.W.Frag} {H H' : Hp} {L : Addr} {ws : List V} (k : Kp L H H') (hL : H L = some (.lst ws)) : ∀ {vs : List V} {ls : List (List Fm)}, LvAt K H vs ls → (∀ v ∈ vs, v ≠ .ref L) → LvAt K H' vs ls
  | _, _, .nil, _ => .nil
  | _, _, .cons h1 h2 t, n => .cons (k.sqL h1 fun e => n _ List.mem_cons_self (by rw [e])) (h2.mono (k.ts hL)) (LvAt.mut k hL t fun v hv => n v (List.mem_cons_of_mem _ hv))
theorem levs_nil (n : Nat) : levs n [] = [] := by cases n <;> rfl
theorem kids_subs {f g h : Fm} (h1 : g ∈ f.subs) (h2 : h ∈ g.kids) : h ∈ f.subs := by
  induction f with
  | and a b iha ihb =>
    rcases subs_kids.mp h1 with rfl | ⟨k, hk, hg⟩
    · exact subs_kids.mpr (.inr ⟨h, h2, subs_kids.mpr (.inl rfl)⟩)
    · have q : k = a ∨ k = b := by simpa [Fm.kids] using hk
      rcases q with rfl | rfl
      · exact subs_kids.mpr (.inr ⟨k, hk, iha hg⟩)
      · exact subs_kids.mpr (.inr ⟨k, hk, ihb hg⟩)
  | or a b iha ihb =>
    rcases subs_kids.mp h1 with rfl | ⟨k, hk, hg⟩
    · exact subs_kids.mpr (.inr ⟨h, h2, subs_kids.mpr (.inl rfl)⟩)
    · have q : k = a ∨ k = b := by simpa [Fm.kids] using hk
      rcases q with rfl | rfl
      · exact subs_kids.mpr (.inr ⟨k, hk, iha hg⟩)
      · exact subs_kids.mpr (.inr ⟨k, hk, ihb hg⟩)
  | imp a b iha ihb =>
    rcases subs_kids.mp h1 with rfl | ⟨k, hk, hg⟩
    · exact subs_kids.mpr (.inr ⟨h, h2, subs_kids.mpr (.inl rfl)⟩)
    · have q : k = a ∨ k = b := by simpa [Fm.kids] using hk
      rcases q with rfl | rfl
      · exact subs_kids.mpr (.inr ⟨k, hk, iha hg⟩)
      · exact subs_kids.mpr (.inr ⟨k, hk, ihb hg⟩)
  | box a iha =>
    rcases subs_kids.mp h1 with rfl | ⟨k, hk, hg⟩
    · exact subs_kids.mpr (.inr ⟨h, h2, subs_kids.mpr (.inl rfl)⟩)
    · have q : k = a := by simpa [Fm.kids] using hk
      subst q
      exact subs_kids.mpr (.inr ⟨k, hk, iha hg⟩)
  | fal =>
    have e : g = .fal := by simpa [Fm.subs] using h1
    subst e
    cases h2
  | var n =>
    have e : g = .var n := by simpa [Fm.subs] using h1
    subst e
    cases h2
theorem flat_len (l : List Fm) : (l.flatMap Fm.kids).length ≤ (l.map Fm.sz).sum := by
  induction l with
  | nil => exact Nat.le_refl _
  | cons f l ih =>
    rw [List.flatMap_cons, List.length_append, List.map_cons, List.sum_cons, ← kids_sz f]
    have := sum_len f.kids
    omega
end E

set_option Elab.async false
set_option linter.all false
set_option maxRecDepth 100000
set_option maxHeartbeats 4000000
namespace E
open PySem PySem.Spec PyProof.Rows L2 PySem.SeqAt ELt PySem.W PySem.Calls
/-! ### pairs of ints: >= and sorted -/
def zd (z : Int × Int) : PyData := .tuple [.int z.1, .int z.2]
def zlt (z u : Int × Int) : Bool := if z.1 = u.1 then decide (z.2 < u.2) else decide (z.1 < u.1)
def rGeZ (K : PySem.W.Frag) : R2 := fun x y H Q => ∃ z u : Int × Int, Im K H x (zd z) ∧ Im K H y (zd u) ∧ Q (.bl (!zlt z u)) H
theorem op_geZ {X : Cx} (hu : X.A.units + 64 < cLine) : OpR X (compareOp .GtE) (rGeZ X.K) := by
  intro pins s σ H x y v u Q I rx ry h
  obtain ⟨z, t, hz, ht, q⟩ := h
  obtain ⟨as, r1⟩ := Dp.reads I _ x v hz.dp rx
  obtain ⟨bs, r2⟩ := Dp.reads I _ y u ht.dp ry
  refine PySem.W.ge_datum (α := Int × Int) (x := z) (y := t) ⟨as, r1⟩ ⟨bs, r2⟩ (Nat.lt_of_le_of_lt (Nat.add_le_add_left (show PySem.W.Datum.depth (Int × Int) ≤ 64 by decide) _) hu) ⟨.bl _, H, I, rfl, ?_⟩
  exact q
theorem each_ofZ {X : Cx} {pins : List (Addr × Obj)} {σ : L2.St} {H : Hp} {s : Shared} (I : Inv X pins σ H s) : ∀ {xs : List V} {us : List Value} {fs : List (Int × Int)}, Vals xs us → ImAll X.K H xs (fs.map zd) →
    EachIs (fun v f => ∃ x : V, RelV x v ∧ Im X.K H x (zd f)) us fs ∧ EachIs (fun v f => ∃ as, Reads s.heap v (zd f) as) us fs
  | _, _, [], .nil, _ => ⟨.nil, .nil⟩
  | _, _, f :: fs, .cons r t, i => by
    have i' : ImAll X.K H _ (zd f :: fs.map zd) := i
    cases i' with
    | cons i1 i2 =>
      obtain ⟨a1, a2⟩ := each_ofZ I t i2
      exact ⟨.cons ⟨_, r, i1⟩ a1, .cons (Dp.reads I _ _ _ i1.dp r) a2⟩
theorem each_backZ {K : PySem.W.Frag} {H : Hp} : ∀ {us : List Value} {fs : List (Int × Int)}, EachIs (fun v f => ∃ x : V, RelV x v ∧ Im K H x (zd f)) us fs → ∃ ys : List V, Vals ys us ∧ ImAll K H ys (fs.map zd)
  | _, _, .nil => ⟨[], .nil, .nil⟩
  | _, _, .cons ⟨x, r, i⟩ t => by
    obtain ⟨ys, h1, h2⟩ := each_backZ t
    exact ⟨x :: ys, .cons r h1, .cons i h2⟩
def rSortedZ (K : PySem.W.Frag) : List V → Hp → VK → Prop := fun vs H Q => ∃ (a : Addr) (xs : List V) (zs : List (Int × Int)), vs = [V.ref a] ∧ SqL K H a xs ∧ ImAll K H xs (zs.map zd) ∧
  ∀ (p : Addr) (ys : List V) (us : List (Int × Int)), H p = none → us.Perm zs → ImAll K H ys (us.map zd) → Q (.ref p) (upd H p (.lst ys))
theorem cr_sortedZ {X : Cx} (hu64 : X.A.units + 64 < cLine) : CallR X (.builtin "sorted") (rSortedZ X.K) := by
  intro pins s σ H vs us Q I r h
  obtain ⟨a, xs, fs, rfl, hs, hi, q⟩ := h
  obtain ⟨its, rv, hl, hz⟩ := I.list hs
  obtain ⟨u, rfl, ru⟩ := vals1 r
  obtain rfl : u = Value.ref a := ru
  obtain ⟨e1, e2⟩ := each_ofZ I rv hi
  have e9 : fs.map zd = fs.map (PySem.W.Datum.toD (α := Int × Int)) := rfl
  refine PySem.W.sorted_data (enc := zd) hl.isList e1 e2 ?_ ?_ (by rw [← e1.length, ← rv.length]; exact hz) (fun b hb => ?_) fun out ho eo => ?_
  · intro d hd d' hd'
    obtain ⟨b, _, rfl⟩ := List.mem_map.mp hd
    obtain ⟨b', _, rfl⟩ := List.mem_map.mp hd'
    exact PySem.W.DatumOrd.alike (α := Int × Int) b b'
  · exact .inl fun d hd => by
      obtain ⟨b, _, rfl⟩ := List.mem_map.mp hd
      exact ⟨_, _, rfl⟩
  · show X.A.units + 2 + (zd b).depth < cLine
    have : (zd b).depth = 1 := rfl
    omega
  · obtain ⟨ys, y1, y2⟩ := each_backZ eo
    obtain ⟨n, hn⟩ := sortedAll_at s.heap its out.toArray
    have hf : s.heap.objs.size ≤ s.heap.objs.size + 1 := Nat.le_succ _
    refine ⟨.ref (s.heap.objs.size + 1), upd H _ (.lst ys), I.laid (t' := s.toks) (fun _ _ => sortedAll_old) hf ⟨?_, _, n, y1, hn⟩, rfl, q _ ys _ (I.hok.fresh hf) (List.mergeSort_perm _ _) y2⟩
    have hl2 := y1.length
    have := rv.length
    have := e1.length
    omega
end E

set_option Elab.async false
set_option linter.all false
set_option maxRecDepth 100000
set_option maxHeartbeats 4000000
namespace E
open PySem PySem.Spec PyProof.Rows L2
/-! ### own classes made within a try; sets of a list's ints; dicts that do not differ -/
section
variable {X : Cx} {CX : CXT} {k : Nat} {f C : Addr} {fd : FuncData} {ps : List Str} {sp : Sp} {Wi : L2.St → XK} {x : Str} {p pos : Pos} {e : Expr} {es : List Expr} {t : TA}
/-- C(..) whose maker may raise: the wish is told at the slots as they stand -/
def tMakeAt (C : Addr) (sp : Sp) (Wi : L2.St → XK) (t : TA) : TE := fun σ H Q => t σ H fun vs H1 => ∀ x dx, H1 x = none → H1 dx = none → dx ≠ x →
  sp (.ref x :: vs) (upd (upd H1 dx (.own x)) x (.ins C dx [])) (fun v H2 => v = .non ∧ Q (.ref x) H2) (Wi σ)
theorem pe_makeAt (M : Mk X.K C f) (F : FnOk X.prog X.w X.K X.mg X.base CX k f fd ps sp) (hr : Room (k + 1) X.A) (hg : Gl X x) (hm : X.mg x = some (.ref C)) (hb : Binds X.K fd ps []) (hx : ∀ σ, PassesAt CX X σ (Wi σ)) (ha : PA X (e :: es) t)
    (hdb : (x == ("__debug__" : Str)) = false := by decide) (he : starEach (e :: es) X.env = (false, eval e X.env) :: starEach es X.env := by rfl) (hpl : (backTo pos (starEach es X.env)).any (·.1) = false := by rfl) :
    PE X (.Call (.Name x p) (e :: es) [] pos) (tMakeAt C sp Wi t) := by
  refine ⟨fun pins s σ H Q I h => wpAny_Call_Name_kw (ld_glob I hg hm (PySem.W.callWith_K (h₀ := X.base) I.ok.mod.kin M.kp (thn (ha.run pos pins s σ H _ I h) fun us s1 ⟨vs, H1, I1, r, q⟩ => ⟨I1.kIn, ?_⟩) he hpl) hdb)⟩
  have n1 := I1.hok.fresh (Nat.le_succ s1.heap.objs.size)
  have n0 := I1.hok.fresh (Nat.le_refl s1.heap.objs.size)
  have hq := q (s1.heap.objs.size + 1) s1.heap.objs.size n1 n0 (Nat.ne_of_lt (Nat.lt_succ_self _))
  have J := Inv.made (C := C) I1
  have rv : Vals (V.ref (s1.heap.objs.size + 1) :: vs) (Value.ref (s1.heap.objs.size + 1) :: us) := .cons rfl r
  have len : (Value.ref (s1.heap.objs.size + 1) :: us).length = ps.length := rv.length.symm.trans (F.len _ _ _ _ hq)
  have bd := hb _ (Value.ref (s1.heap.objs.size + 1) :: us) J.kIn (by rw [List.append_nil]; exact len)
  rw [List.append_nil] at bd
  show wpAny _ _ (call (.ref C) us) _ _ _
  refine wpAny_call (make_map (f := f) I1.kIn M.makes M.init (beq_iff_eq.mp M.fn) (codeAny_mono (F.run _ X.stack _ _ ⟨_, []⟩ _ _ _ (Wi σ) (hr.make C us []) (J.env0.make C us []) bd rv hq) fun res s' done => ?_))
  rcases res with er | fl
  · exact hx σ pins _ _ er s' J done
  · rcases fl with _ | _ | _ | u
    case ret =>
      obtain ⟨v, H', J', r', ev, q'⟩ := J.after done
      subst ev
      exact ⟨r', ⟨V.ref (s1.heap.objs.size + 1), H', J', rfl, q'⟩⟩
    all_goals exact done.elim
/-- the reading of a suite that is entered for errors of one class alone -/
def tOnly (cls : Value) (d : Option Addr) (D : Addr) (t : L2.TS) : L2.TS := fun En σ H => (cls = .ref D ∧ d = none) ∧ t En σ H
theorem pss_only {cls : Value} {d : Option Addr} {D : Addr} {b : List Stmt} {t : L2.TS} (h : cls = .ref D → d = none → PSs X b t) : PSs X b (tOnly cls d D t) :=
  ⟨fun pins s σ H En I q => (h q.1.1 q.1.2).run pins s σ H En I q.2⟩
theorem pss_only2 {cls : Value} {d : Option Addr} {D : Addr} {b : List Stmt} {t : L2.TS} {oe : Obj} (hz : Zc cls d oe) (h : Zc (.ref D) none oe → PSs X b t) : PSs X b (tOnly cls d D t) :=
  ⟨fun pins s σ H En I q => (h (by rw [← q.1.1, ← q.1.2]; exact hz)).run pins s σ H En I q.2⟩
/-- d != e of two dicts with the same keys, whose values are equal lists of ints -/
def rNeV (K : PySem.W.Frag) : R2 := fun x y H Q => ∃ a b ks ls, x = .ref a ∧ y = .ref b ∧ H a = some (.dK ks) ∧ H b = some (.dK ls) ∧ ks.length = ls.length ∧
  (∀ p ∈ ks, ∃ (u : V) (ns : List Int), valV ls p.1 = some u ∧ Dp K H p.2 (.list (ns.map PyData.int)) ∧ Dp K H u (.list (ns.map PyData.int))) ∧ Q (.bl false) H
theorem eqv_intsL (ns : List Int) : PyData.eqv (.list (ns.map PyData.int)) (.list (ns.map PyData.int)) = true := by
  have e : PySem.Spec.same (.list (ns.map PyData.int)) (.list (ns.map PyData.int)) = true := by
    simp only [PySem.Spec.same]
    rw [PySem.W.same_ints]
    exact decide_eq_true rfl
  rw [← e]
  exact (SeqAt.same_eq_eqv _ _ (by simp only [SeqAt.noMix]; exact PySem.W.noMix_ints ns ns)).symm
theorem hits_ints {H : Hp} {s : Shared} {A : Around} {pins : List (Addr × Obj)} {σ : L2.St} (I : Inv X pins σ H s) (hu : A.in1.units + 64 < cLine) {ls : List (Key × V)} {vb : List (Key × Value)} (rb : KV ls vb) {ks : List (Key × V)} {va : List (Key × Value)} (ra : KV ks va) :
    (∀ p ∈ ks, ∃ (u : V) (ns : List Int), valV ls p.1 = some u ∧ Dp X.K H p.2 (.list (ns.map PyData.int)) ∧ Dp X.K H u (.list (ns.map PyData.int))) → PySem.W.KeqHits A.in1 s vb va true := by
  unfold KV at ra
  induction ra with
  | nil => exact fun _ => .nil
  | @cons g q gs qs hgq _ more =>
    intro all
    obtain ⟨key, val⟩ := q
    obtain ⟨e1, e2⟩ := hgq
    obtain ⟨u, ns, hv, d1, d2⟩ := all g List.mem_cons_self
    obtain ⟨y, hy, ry⟩ := (show RelO (some u) (valueAt vb g.1) by rw [← hv]; exact rb.val g.1).some_of
    have e1 : g.1 = key := e1
    rw [e1] at hy
    obtain ⟨as, r1⟩ := Dp.reads I _ _ val d1 e2
    obtain ⟨bs, r2⟩ := Dp.reads I _ _ y d2 ry
    have one := PySem.W.keq_at (A := A) r1 r2 (shaped_ints ns) (shaped_ints ns) hu
    rw [eqv_intsL] at one
    exact PySem.W.KeqHits.hit hy one (more fun p' m => all p' (List.mem_cons_of_mem _ m))
theorem op_neV (hu : X.A.units + 66 < cLine) : OpR X (compareOp .NotEq) (rNeV X.K) := by
  intro pins s σ H x y v u Q I rx ry ⟨a, b, ks, ls, ex, ey, ha, hb, hl, hp, q⟩
  subst ex ey
  cases rx; cases ry
  obtain ⟨_, ya, va, ra, da⟩ := (show ObjOk X.prog X.w H s.heap a (.dK ks) from I.hok a _ ha)
  obtain ⟨_, yb, vb, rb, db⟩ := (show ObjOk X.prog X.w H s.heap b (.dK ls) from I.hok b _ hb)
  have e : va.length = vb.length := ra.length.symm.trans (hl.trans rb.length)
  refine PySem.W.keq_ne (knd := mixKind X.prog X.w) (r := true) ya yb da db (by omega) (fun _ => hits_ints (A := X.A) I (by show X.A.units + 1 + 64 < cLine; omega) rb ra hp) ⟨.bl false, H, I, ?_, q⟩
  simp [e, L2.RelV]
end
/-- an error of the class at S is what «except S» names -/
theorem exm_self {K : PySem.W.Frag} {S : Addr} (h1 : PySem.W.subIn K (.ref S) (.type "BaseException") = some true) (h2 : PySem.W.isClsIn K S = true) (h3 : PySem.W.typeIn K (.ref S) = some (.type "type")) (h4 : PySem.W.subIn K (.ref S) (.ref S) = some true) :
    PySem.W.exmOne K (.ref S) (.ref S) = some true := by
  have h2' : (PySem.W.clsIn K S).isSome = true := h2
  unfold PySem.W.exmOne PySem.W.kitCls
  simp [h1, h2', h3, h4]
end E

set_option Elab.async false
set_option linter.all false
set_option maxRecDepth 100000
set_option maxHeartbeats 4000000
namespace E
open PySem PySem.Spec PyProof.Rows L2
/-- an empty set as the model lays it -/
abbrev so0 (w : World) : Obj := { cls := .type "set", dict := none, data := .set #[] 0 (.fresh 0 0 (!w.params.followText "set-order")) }
/-- what set(xs) leaves: the members, in a heap that keeps all -/
def SetDone (w : World) (ns : List Int) (s : Shared) (h' : Heap) (c : Nat) : Prop := SetR w h' s.heap.objs.size (fun j => decide (j ∈ ns)) c ∧ c ≤ ns.length ∧ ∀ b o, s.heap.get? b = some o → h'.get? b = some o
section
variable {P : Program} {w : World} {A : Around} {Er : Value → Shared → Prop} {s : Shared}
theorem vals_at {items : Array Value} {ns : List Int} (hit : IntsAre items.toList ns) (hn : items.size = ns.length) (i : Nat) (v : Value) (hv : items[i]? = some v) : ∃ k t, ns[i]? = some k ∧ v = .int k t := by
  have hi : i < ns.length := hn ▸ (Array.getElem?_eq_some_iff.mp hv).1
  obtain ⟨t, e⟩ := IntsAre.int_at hit i v (by rw [Array.getElem?_toList, hv])
  exact ⟨ns[i], t, List.getElem?_eq_getElem hi, by rw [e, List.getD_eq_getElem?_getD, List.getElem?_eq_getElem hi, Option.getD_some]⟩
/-- the filling of the new set from the list at l -/
theorem fill_list {l : Addr} {items : Array Value} (ns : List Int) (hh : A.handled = none) (hl : s.heap.IsList l items) (hit : IntsAre items.toList ns) (hb : ns.length + 1 < scanBound) {R : Result → Shared → Prop}
    (hR : ∀ (h' : Heap) (tk c : Nat), SetDone w ns s h' c → R (.ok (.ret .none)) { s with heap := h', toks := tk }) :
    codeAny (model P w) A.in1.in1 (.builtin "set.update.loop" ⟨[.ref s.heap.objs.size, .ref (s.heap.push (so0 w)).objs.size], []⟩) R
      { s with heap := (s.heap.push (so0 w)).push { cls := .type "list_iterator", data := .fields #[.ref l, .int 0 0] } } := by
  have hn : items.size = ns.length := by
    rw [← Array.length_toList]
    exact IntsAre.length hit
  have low : l < s.heap.objs.size := let ⟨_, e, _⟩ := hl; Heap.lt_size e
  have sz : (s.heap.push (so0 w)).objs.size = s.heap.objs.size + 1 := Heap.size_push ..
  have nl : l ≠ (s.heap.push (so0 w)).objs.size := sz ▸ Nat.ne_of_lt (Nat.lt_succ_of_lt low)
  have out : s.heap.objs.size ∉ [(s.heap.push (so0 w)).objs.size, l] := by
    rw [sz]
    simp only [List.mem_cons, List.not_mem_nil, or_false, not_or]
    exact ⟨Nat.ne_of_lt (Nat.lt_succ_self _), (Nat.ne_of_lt low).symm⟩
  have at0 : ((s.heap.push (so0 w)).push { cls := .type "list_iterator", data := .fields #[.ref l, .int 0 0] }).get? s.heap.objs.size = some (so0 w) := Heap.get?_push_of_some _ (Heap.get?_push_size _ rfl)
  have W := Walks.list (prog := P) (w := w) (A := A.in1.in1.in1) (by simp [hh]) (s.heap.push (so0 w)).objs.size l nl items
  refine set_update_ints W.toS s.heap.objs.size out ns hn hb (vals_at hit hn) items.size 0 _ (Nat.sub_zero _) (Nat.zero_le _) ⟨⟨_, Heap.get?_push_size _ rfl, rfl, rfl⟩, (hl.push _).push _⟩ ⟨0, Nat.le_refl 0, setR_new_at at0⟩ fun s' c mv hc hS => ?_
  rcases s' with ⟨h', gg, dd, tt, oo⟩
  obtain rfl : gg = s.gens := mv.gens
  obtain rfl : dd = s.drawn := mv.drawn
  obtain rfl : oo = s.os := mv.os
  refine hR h' tt c ⟨hS, hn ▸ hc, fun b o e => mv.heap b o ?_ (Heap.get?_push_of_some _ (Heap.get?_push_of_some _ e))⟩
  have lt := Heap.lt_size e
  rw [sz]
  simp only [List.mem_cons, List.not_mem_nil, or_false, not_or]
  exact ⟨Nat.ne_of_lt lt, Nat.ne_of_lt (Nat.lt_succ_of_lt lt)⟩
/-- set(xs) of a list of ints -/
theorem call_set_ints {l : Addr} {items : Array Value} (ns : List Int) {Q : Value → Shared → Prop} (hh : A.handled = none) (hl : s.heap.IsList l items) (hit : IntsAre items.toList ns) (hb : ns.length + 1 < scanBound)
    (done : ∀ (h' : Heap) (tk c : Nat), SetDone w ns s h' c → Q (.ref s.heap.objs.size) { s with heap := h', toks := tk }) : wpAny (model P w) A (call (.type "set") [.ref l]) Q Er s := by
  obtain ⟨c0, t0, mro⟩ := F.called_set.mro
  have m1 := F.called_set.made
  have m2 := F.called_set.sub
  have m3 := F.called_set.notType
  have m4 := F.called_set.canCreate
  have m5 := F.typeCall_set_1 (.ref l)
  refine wpAny_call (codeAny_of_tree (show wpAny _ _ (callAny (.type "set") _) _ _ _ from wpAny_pure ⟨Code.quiet_builtin _ (by decide +kernel), codeAny_builtin F.entry_type_call ?_⟩))
  rw [Around.under_plain (weight_type_call_type "set" [.ref l] []) rfl]
  repeat (any_goals (first | assumption | wp_step))
  refine codeAny_mono (code_set_led1 (.ref l) (E := Er) (Q₁ := fun u s1 => u = .ref s.heap.objs.size ∧ s1 = { s with heap := s.heap.push (so0 w) }) ⟨rfl, rfl⟩) fun r s1 q => ?_
  rcases r with er | fl
  · exact q
  rcases fl with _ | _ | _ | u
  case ret =>
    obtain ⟨rfl, rfl⟩ := q
    have at0 : (s.heap.push (so0 w)).get? s.heap.objs.size = some (so0 w) := Heap.get?_push_size _ rfl
    have isSet : Shared.TypeIs { s with heap := s.heap.push (so0 w) } (.ref s.heap.objs.size) "set" := ⟨_, at0, rfl⟩
    have i1 := F.called_set.init.lookup
    have i2 := F.called_set.init.bind (.ref s.heap.objs.size)
    repeat (any_goals (first | assumption | wp_step))
    refine codeAny_mono (codeAny_call_builtin (R := wants (fun r s2 => r = .none ∧ ∃ h' tk c, s2 = { s with heap := h', toks := tk } ∧ SetDone w ns s h' c) Er) F.called_set.init.plain F.entry_set_init (check_set_init_1 isSet ?_)) fun r2 s2 q2 => ?_
    · have hl1 : (s.heap.push (so0 w)).IsList l items := hl.push _
      obtain ⟨ol, e0, hcl, nl, hdl⟩ := hl1
      obtain ⟨ocls, odict, odata, oslots⟩ := ol
      obtain rfl : ocls = _ := hcl
      obtain rfl : odata = _ := hdl
      have z1 := F.sub_list_set
      have z2 := F.sub_list_frozenset
      have z3 : (Value.type "list" == Value.type "dict") = false := by decide
      unfold Builtin.«set.__init__» noKeywords Builtin.Frozenset.updateFrom
      generalize hPI : pyIter = PI
      wp_walk
      subst hPI
      refine wpAny_pyIter_list (hl.push _) (wpAny_bind (wpAny_runValue (fill_list ns hh hl hit hb fun h' tk c d => ?_)))
      refine wpAny_pure (show wpAny _ _ (ret Value.none) _ _ _ from wpAny_pure ⟨rfl, h', tk, c, rfl, d⟩)
    · rcases r2 with er | fl2
      · exact q2
      rcases fl2 with _ | _ | _ | u2
      case ret =>
        obtain ⟨rfl, h', tk, c, rfl, d⟩ := q2
        repeat (any_goals (first | assumption | wp_step))
        exact done _ _ _ d
      all_goals exact q2.elim
  all_goals exact q.elim
end
section
variable {X : Cx}
def rSetLI (w : World) (K : PySem.W.Frag) : List V → Hp → VK → Prop := fun xs H Q => ∃ (l : Addr) (ns : List Int), xs = [V.ref l] ∧ SqL K H l (ns.map V.int) ∧ ns.length ≤ 1000 ∧
  ∀ (a : Addr) (c : Nat), H a = none → c ≤ ns.length → Q (.ref a) (upd H a (SetO w a (fun j => decide (j ∈ ns)) c))
theorem cr_setLI (hc : X.calm = true) : CallR X (.type "set") (rSetLI X.w X.K) := by
  intro pins s σ H xs us Q I r ⟨l, ns, ex, hl, hn, q⟩
  subst ex
  rw [Vals.ref1 r]
  obtain ⟨its, rv, pl, _⟩ := I.list hl
  refine call_set_ints ns (I.ok.hd hc) pl.isList (by simpa using rv.ints) (by unfold scanBound; omega) fun h' tk c d => ?_
  exact ⟨.ref _, _, I.laid (t' := tk) d.2.2 (Nat.le_refl _) (setO_new d.1), rfl, q _ c (I.hok.fresh (Nat.le_refl _)) d.2.1⟩
theorem cr_setLI2 (hc : X.calm = true) (_ : X.A.units + 64 < cLine) : CallR X (.type "set") (rSetLI X.w X.K) := cr_setLI hc
end
end E

set_option Elab.async false
set_option linter.all false
set_option maxRecDepth 100000
namespace E
open PySem PySem.Spec PyProof.Rows L2
/-! ### the numbers of formulas, by their sign and the numbers of their parts -/
/-- what a formula is looked up by, N the numbers of its parts -/
def keyF (N : Fm → Nat) (f : Fm) : List Key := match f with
  | .var y => [.inr "var", .inr y]
  | g => .inr g.sg :: g.kids.map fun c => (.inl ((N c : Nat) : Int) : Key)
theorem keyF_var (N : Fm → Nat) (y : Str) : keyF N (.var y) = [.inr "var", .inr y] := rfl
theorem keyF_not {N : Fm → Nat} {f : Fm} (h : f.isVar = false) : keyF N f = .inr f.sg :: f.kids.map fun c => (.inl ((N c : Nat) : Int) : Key) := by
  cases f <;> first | rfl | cases h
theorem keyF_congr {N M : Fm → Nat} {f : Fm} (h : ∀ c ∈ f.kids, N c = M c) : keyF N f = keyF M f := by
  by_cases hv : f.isVar = true
  · obtain ⟨_, n, rfl⟩ := kids_var hv
    rfl
  · have hv := Bool.eq_false_iff.mpr hv
    rw [keyF_not hv, keyF_not hv]
    exact congrArg _ (List.map_congr_left fun c hc => by rw [h c hc])
/-- two formulas of one key, their parts numbered apart, are one -/
theorem keyF_inj {N : Fm → Nat} {gs : List Fm} (inj : ∀ a ∈ gs, ∀ b ∈ gs, N a = N b → a = b) {f g : Fm} (hf : ∀ c ∈ f.kids, c ∈ gs) (hg : ∀ c ∈ g.kids, c ∈ gs) (e : keyF N f = keyF N g) : f = g := by
  have i2 : ∀ {a b : Fm}, a ∈ gs → b ∈ gs → (Sum.inl ((N a : Nat) : Int) : Key) = Sum.inl ((N b : Nat) : Int) → a = b := fun ha hb q => inj _ ha _ hb (Int.ofNat.inj (Sum.inl.inj q))
  have sgs : ∀ {a b : Str} {r s : List Key}, (Sum.inr a : Key) :: r = Sum.inr b :: s → a = b := fun q => Sum.inr.inj (List.cons.inj q).1
  cases f <;> cases g
  case var.var a b => 
    have := (List.cons.inj (List.cons.inj e).2).1
    rw [Sum.inr.inj this]
  case fal.fal => rfl
  case and.and a b c d =>
    obtain ⟨h1, h2⟩ := List.cons.inj (List.cons.inj e).2
    rw [i2 (hf _ (by simp [Fm.kids])) (hg _ (by simp [Fm.kids])) h1, i2 (hf _ (by simp [Fm.kids])) (hg _ (by simp [Fm.kids])) (List.cons.inj h2).1]
  case or.or a b c d =>
    obtain ⟨h1, h2⟩ := List.cons.inj (List.cons.inj e).2
    rw [i2 (hf _ (by simp [Fm.kids])) (hg _ (by simp [Fm.kids])) h1, i2 (hf _ (by simp [Fm.kids])) (hg _ (by simp [Fm.kids])) (List.cons.inj h2).1]
  case imp.imp a b c d =>
    obtain ⟨h1, h2⟩ := List.cons.inj (List.cons.inj e).2
    rw [i2 (hf _ (by simp [Fm.kids])) (hg _ (by simp [Fm.kids])) h1, i2 (hf _ (by simp [Fm.kids])) (hg _ (by simp [Fm.kids])) (List.cons.inj h2).1]
  case box.box a b =>
    obtain ⟨h1, _⟩ := List.cons.inj (List.cons.inj e).2
    rw [i2 (hf _ (by simp [Fm.kids])) (hg _ (by simp [Fm.kids])) h1]
  all_goals exact absurd (sgs e) (by first | decide +kernel | (simp only [Fm.sg, Fm.rk]; decide +kernel))
/-- the table of numbers -/
def tabF (gs : List Fm) : List (List Key × V) := gs.map fun g => (keyF (fun c => gs.idxOf c) g, V.int ((gs.idxOf g : Nat) : Int))
theorem idx_inj {gs : List Fm} : ∀ a ∈ gs, ∀ b ∈ gs, gs.idxOf a = gs.idxOf b → a = b := fun a ha b hb e => by
  have h1 := List.getElem_idxOf (List.idxOf_lt_length_of_mem ha)
  have h2 := List.getElem_idxOf (List.idxOf_lt_length_of_mem hb)
  rw [← h1, ← h2]
  congr 1
theorem tab_get {gs : List Fm} (cl : ∀ g ∈ gs, ∀ c ∈ g.kids, c ∈ gs) {b : Fm} (hb : ∀ c ∈ b.kids, c ∈ gs) :
    valV (tabF gs) (keyF (fun c => gs.idxOf c) b) = if b ∈ gs then some (V.int ((gs.idxOf b : Nat) : Int)) else none := by
  have key : ∀ l : List Fm, (∀ g ∈ l, g ∈ gs) → valV (l.map fun g => (keyF (fun c => gs.idxOf c) g, V.int ((gs.idxOf g : Nat) : Int))) (keyF (fun c => gs.idxOf c) b) = if b ∈ l then some (V.int ((gs.idxOf b : Nat) : Int)) else none := by
    intro l
    induction l with
    | nil => exact fun _ => rfl
    | cons g l ih =>
      intro h
      rw [List.map_cons]
      by_cases e : g = b
      · subst e
        rw [valV_pos rfl, if_pos List.mem_cons_self]
      · have ne : ¬ keyF (fun c => gs.idxOf c) g = keyF (fun c => gs.idxOf c) b := fun q => e (keyF_inj idx_inj (cl g (h g List.mem_cons_self)) hb q)
        rw [valV_neg ne, ih fun x hx => h x (List.mem_cons_of_mem _ hx)]
        by_cases m : b ∈ l
        · rw [if_pos m, if_pos (List.mem_cons_of_mem _ m)]
        · rw [if_neg m, if_neg fun q => (List.mem_cons.mp q).elim (fun z => e z.symm) m]
  exact key gs fun g hg => hg
theorem tab_put {gs : List Fm} (cl : ∀ g ∈ gs, ∀ c ∈ g.kids, c ∈ gs) {b : Fm} (hb : ∀ c ∈ b.kids, c ∈ gs) (nb : b ∉ gs) :
    putK (tabF gs) (keyF (fun c => gs.idxOf c) b) (V.int ((gs.length : Nat) : Int)) = tabF (gs ++ [b]) := by
  rw [putK_new _ (by rw [tab_get cl hb, if_neg nb])]
  unfold tabF
  have old : ∀ c ∈ gs, (gs ++ [b]).idxOf c = gs.idxOf c := fun c hc => by rw [List.idxOf_append, if_pos hc]
  rw [List.map_append]
  congr 1
  · refine List.map_congr_left fun g hg => ?_
    rw [old g hg, keyF_congr fun c hc => (old c (cl g hg c hc)).symm]
  · have e : (gs ++ [b]).idxOf b = gs.length := by rw [List.idxOf_append, if_neg nb]; simp
    show [_] = [(keyF (fun c => (gs ++ [b]).idxOf c) b, V.int (((gs ++ [b]).idxOf b : Nat) : Int))]
    rw [e, keyF_congr fun c hc => (old c (hb c hc)).symm]
/-- from one level to the next -/
theorem lev_next : ∀ (n : Nat) (cur : List Fm) (j : Nat) (l : List Fm), (∀ g ∈ cur, g.ht ≤ n) → (levs n cur)[j]? = some l → (levs n cur)[j + 1]? = some (down l) ∨ ((levs n cur)[j + 1]? = none ∧ down l = [])
  | 0, cur, j, l, _, h => by
    have e : levs 0 cur = [] := rfl
    rw [e] at h
    cases h
  | n + 1, cur, j, l, hh, h => by
    by_cases hc : cur = []
    · rw [hc, levs_nil] at h
      cases h
    · have e : levs (n + 1) cur = cur :: levs n (down cur) := by
        rw [levs, if_neg hc]
      rw [e] at h ⊢
      have hd : ∀ g ∈ down cur, g.ht ≤ n := fun g hg => by
        obtain ⟨k, hk, hm⟩ := down_mem.mp hg
        have h1 := kids_ht hm
        have h2 := hh k hk
        omega
      cases j with
      | zero =>
        have e2 : cur = l := Option.some.inj h
        subst e2
        rw [List.getElem?_cons_succ]
        by_cases hz : down cur = []
        · rw [hz, levs_nil]
          exact .inr ⟨rfl, rfl⟩
        · left
          cases n with
          | zero =>
            obtain ⟨g, hg⟩ := List.exists_mem_of_ne_nil _ hz
            have := hd g hg
            have := g.ht_pos
            omega
          | succ n =>
            rw [levs, if_neg hz]
            rfl
      | succ j =>
        rw [List.getElem?_cons_succ] at h ⊢
        exact lev_next n (down cur) j l hd h
theorem lev_head {n : Nat} {f : Fm} (h : f.ht ≤ n) : (levs n [f])[0]? = some [f] := by
  cases n with
  | zero =>
    have := f.ht_pos
    omega
  | succ n =>
    rw [levs, if_neg (by simp)]
    rfl
theorem lev_asc : ∀ (n : Nat) (cur : List Fm) (j : Nat) (l : List Fm), Asc cur → (levs n cur)[j]? = some l → Asc l
  | 0, cur, j, l, _, h => by
    have e : levs 0 cur = [] := rfl
    rw [e] at h
    cases h
  | n + 1, cur, j, l, ha, h => by
    by_cases hc : cur = []
    · rw [hc, levs_nil] at h
      cases h
    · have e : levs (n + 1) cur = cur :: levs n (down cur) := by
        rw [levs, if_neg hc]
      rw [e] at h
      cases j with
      | zero =>
        have e2 : cur = l := Option.some.inj h
        subst e2
        exact ha
      | succ j =>
        rw [List.getElem?_cons_succ] at h
        exact lev_asc n (down cur) j l (dist_asc _) h
theorem lev_ne : ∀ (n : Nat) (cur : List Fm) (j : Nat) (l : List Fm), (levs n cur)[j]? = some l → l ≠ []
  | 0, cur, j, l, h => by
    have e : levs 0 cur = [] := rfl
    rw [e] at h
    cases h
  | n + 1, cur, j, l, h => by
    by_cases hc : cur = []
    · rw [hc, levs_nil] at h
      cases h
    · have e : levs (n + 1) cur = cur :: levs n (down cur) := by
        rw [levs, if_neg hc]
      rw [e] at h
      cases j with
      | zero =>
        have e2 : cur = l := Option.some.inj h
        subst e2
        exact hc
      | succ j =>
        rw [List.getElem?_cons_succ] at h
        exact lev_ne n (down cur) j l h
theorem idx_get {gs : List Fm} {c : Fm} (h : c ∈ gs) : gs[gs.idxOf c]? = some c := by
  have := List.idxOf_lt_length_of_mem h
  rw [List.getElem?_eq_getElem this, List.getElem_idxOf]
/-- the numbers stay when the table grows -/
theorem idx_app {gs : List Fm} {b c : Fm} (h : c ∈ gs) : (gs ++ [b]).idxOf c = gs.idxOf c := by rw [List.idxOf_append, if_pos h]
theorem idx_new {gs : List Fm} {b : Fm} (h : b ∉ gs) : (gs ++ [b]).idxOf b = gs.length := by rw [List.idxOf_append, if_neg h]; simp
theorem nodup_few {α : Type} [DecidableEq α] : ∀ (l D : List α), l.Nodup → (∀ x ∈ l, x ∈ D) → l.length ≤ D.length
  | [], _, _, _ => Nat.zero_le _
  | x :: l, D, nd, sub => by
    rw [List.nodup_cons] at nd
    have hx := sub x List.mem_cons_self
    have ih := nodup_few l (D.erase x) nd.2 fun y hy => (List.mem_erase_of_ne fun e : y = x => nd.1 (by rw [← e]; exact hy)).mpr (sub y (List.mem_cons_of_mem _ hy))
    rw [List.length_erase_of_mem hx] at ih
    have := List.length_pos_of_mem hx
    rw [List.length_cons]
    omega
/-- a tuple with a formula's sign in front, no variable's -/
theorem im_sg {K : PySem.W.Frag} {H : Hp} {f : Fm} {a : Addr} {xs : List V} {ds : List PyData} (hv : f.isVar = false) (h : SqT K H a (.str f.sg :: xs)) (i : ImAll K H xs ds) : Im K H (.ref a) (.tuple (.str f.sg :: ds)) :=
  .tup h (.cons (.str _) i) fun y e => by
    have e2 := sg_var f
    rw [PyData.str.inj (List.cons.inj e).1, hv] at e2
    exact absurd e2 (by decide +kernel)
theorem kids_le2 (f : Fm) : f.kids.length ≤ 2 := by cases f <;> simp [Fm.kids]
theorem subs_len : ∀ f : Fm, f.subs.length = f.sz := by
  intro f
  induction f with
  | var n => rfl
  | fal => rfl
  | and a b h1 h2 => simp [Fm.subs, Fm.sz, h1, h2]; try omega
  | or a b h1 h2 => simp [Fm.subs, Fm.sz, h1, h2]; try omega
  | imp a b h1 h2 => simp [Fm.subs, Fm.sz, h1, h2]; try omega
  | box a h1 => simp [Fm.subs, Fm.sz, h1]; try omega
end E

set_option Elab.async false
set_option linter.all false
set_option maxRecDepth 100000
set_option maxHeartbeats 2000000
/-! my own Hook: facts of the written part as Bools, defs, tables with text keys -/
namespace EH
open PySem PySem.Spec PyProof.Rows L2
structure Df where
  at_ : Str × Option Str
  name : Str
  qual : Str
  st : Stmt
def Df.val (d : Df) : He.FnV := some (d.name, d.qual, defArgs d.st, .stmts (defBody d.st), defScope d.st, mainGlobals, [], .none, builtinsNs)
def Df.ok (K : PySem.W.Frag) (d : Df) : Bool := PySem.W.keepIn K (.ref (He.fAd K d.at_)) && (match K.lookup (He.fAd K d.at_) with
  | some ⟨_, _, .func fd, _⟩ => PySem.W.codeIn K fd.code d.qual
  | _ => false)
theorem Df.fun_ {K : PySem.W.Frag} {d : Df} (e : He.fnObs K d.at_ = d.val) (c : d.ok K = true) : ∃ fd, Fun K d.name d.qual d.st (He.fAd K d.at_) fd := by
  obtain ⟨kp, c2⟩ := He.ba c
  unfold He.fnObs at e
  cases q : K.lookup (He.fAd K d.at_) with
  | none =>
    rw [q] at c2
    cases c2
  | some o =>
    obtain ⟨oc, od, dt, osl⟩ := o
    rw [q] at c2 e
    cases dt with
    | func fd =>
      obtain ⟨n1, n2, n3, n4, n5, n6, n7, n8, n9, n10, n11, n12, n13, n14, n15⟩ := fd
      have e2 : (some (n1, n2, n3, n4, n5, n6, n7, n8, n15) : He.FnV) = some (d.name, d.qual, defArgs d.st, .stmts (defBody d.st), defScope d.st, mainGlobals, [], .none, builtinsNs) := e
      simp only [Option.some.injEq, Prod.mk.injEq] at e2
      obtain ⟨h1, h2, h3, h4, h5, h6, h7, h8, h9⟩ := e2
      subst h1 h2 h3 h4 h5 h6 h7 h8 h9
      exact ⟨_, ⟨oc, od, n9, n10, n11, n12, n13, n14, osl, rfl, q, c2⟩, kp⟩
    | _ => cases c2
theorem bindsA {K : PySem.W.Frag} {x qual : Str} {st : Stmt} {f : Addr} {fd : FuncData} {ps : List Str} (F : Fun K x qual st f fd)
    (h : ∀ (kV doc pm : Value) (an : Option Addr) (cdv ct : Value) (us : List Value), us.length = ps.length → bindArgs (PySem.W.fnOf x qual (defArgs st) (defBody st) (defScope st) .none kV doc pm an cdv ct) ⟨us, []⟩ = pure (ps.zip us)) (s : Shared) (us : List Value) (hl : us.length = ps.length) : BindsTo s fd ⟨us, []⟩ (ps.zip us) := by
  obtain ⟨oc, od, kV, doc, pm, an, cdv, ct, osl, rfl, lk, hcd⟩ := F.ex
  exact .of_eq (h kV doc pm an cdv ct us hl)
/-! ### the Hook -/
abbrev Al : Type := Bool × List He.FnV × List (Option (List (Option (Str × Int))))
def obs (bs : List (PySem.W.Frag → Bool)) (fn : List Df) (ts : List He.Tab) (K : PySem.W.Frag) : Al := (bs.all (fun b => b K) && fn.all fun d => d.ok K, fn.map fun d => He.fnObs K d.at_, ts.map fun t => He.dicW K (t.1 K))
def val (fn : List Df) (ts : List He.Tab) (w : World) : Al := (true, fn.map Df.val, ts.map fun t => some (He.keysIn w.params t.2))
def Says (bs : List (PySem.W.Frag → Bool)) (fn : List Df) (ts : List He.Tab) (w : World) (K : PySem.W.Frag) : Prop := obs bs fn ts K = val fn ts w
def obsG (n : Nat) (bs : List (PySem.W.Frag → Bool)) (fn : List Df) (ts : List He.Tab) (g : Addr → Option Obj) : Al := obs bs fn ts (He.frG g (He.asD g n))
def hook (n : Nat) (bs : List (PySem.W.Frag → Bool)) (fn : List Df) (ts : List He.Tab) : PySem.W.Hook where
  α := Al
  obs := fun s => obsG n bs fn ts s.heap.get?
  val := fun w => val fn ts w
  says := fun w h => ∃ K : PySem.W.Frag, K.In h ∧ Says bs fn ts w K
  of := fun _ _ e => ⟨_, He.frG_in, e⟩
  keeps := fun _ _ _ ⟨K, hK, c⟩ k => ⟨K, PySem.W.Frag.In.keeps hK k, c⟩
theorem obsG_eq {n : Nat} {bs : List (PySem.W.Frag → Bool)} {fn : List Df} {ts : List He.Tab} {g : Addr → Option Obj} {s : Shared} (h : ∀ a, g a = s.heap.get? a) : obsG n bs fn ts g = (hook n bs fn ts).obs s := by
  have e : g = s.heap.get? := funext h
  rw [e] <;> rfl
section
variable {bs : List (PySem.W.Frag → Bool)} {fn : List Df} {ts : List He.Tab} {w : World} {K : PySem.W.Frag}
theorem Says.fact (c : Says bs fn ts w K) (i : Nat) {f : PySem.W.Frag → Bool} (h : bs[i]? = some f := by rfl) : f K = true := by
  have c1 := (He.ba (show (bs.all (fun b => b K) && fn.all fun d => d.ok K) = true from congrArg (fun z : Al => z.1) c)).1
  exact List.all_eq_true.mp c1 f (List.mem_of_getElem? h)
theorem Says.dfn (c : Says bs fn ts w K) (i : Nat) {d : Df} (h : fn[i]? = some d := by rfl) : ∃ fd, Fun K d.name d.qual d.st (He.fAd K d.at_) fd := by
  have c2 := (He.ba (show (bs.all (fun b => b K) && fn.all fun d => d.ok K) = true from congrArg (fun z : Al => z.1) c)).2
  have e : fn.map (fun d => He.fnObs K d.at_) = fn.map Df.val := congrArg (fun z : Al => z.2.1) c
  have e2 : (fn.map fun d => He.fnObs K d.at_)[i]? = (fn.map Df.val)[i]? := by rw [e]
  rw [List.getElem?_map, List.getElem?_map, h] at e2
  exact Df.fun_ (Option.some.inj e2) (List.all_eq_true.mp c2 d (List.mem_of_getElem? h))
theorem Says.tab (c : Says bs fn ts w K) (i : Nat) {t : He.Tab} (h : ts[i]? = some t := by rfl) : He.dicW K (t.1 K) = some (He.keysIn w.params t.2) := by
  have e : ts.map (fun t => He.dicW K (t.1 K)) = ts.map fun t => some (He.keysIn w.params t.2) := congrArg (fun z : Al => z.2.2) c
  have e2 : (ts.map fun t => He.dicW K (t.1 K))[i]? = (ts.map fun t => some (He.keysIn w.params t.2))[i]? := by rw [e]
  rw [List.getElem?_map, List.getElem?_map, h] at e2
  exact Option.some.inj e2
end
/-! ### the same by written addresses: nothing is searched for -/
structure Da where
  at_ : Addr
  name : Str
  qual : Str
  st : Stmt
def Da.val (d : Da) : He.FnV := some (d.name, d.qual, defArgs d.st, .stmts (defBody d.st), defScope d.st, mainGlobals, [], .none, builtinsNs)
def Da.obs (K : PySem.W.Frag) (d : Da) : He.FnV := match K.lookup d.at_ with
  | some ⟨_, _, .func fd, _⟩ => some (fd.name, fd.qualname, fd.params, fd.body, fd.scope, fd.globals, fd.closure, fd.defaults, fd.builtins)
  | _ => none
def Da.ok (K : PySem.W.Frag) (d : Da) : Bool := PySem.W.keepIn K (.ref d.at_) && (match K.lookup d.at_ with
  | some ⟨_, _, .func fd, _⟩ => PySem.W.codeIn K fd.code d.qual
  | _ => false)
theorem Da.fun_ {K : PySem.W.Frag} {d : Da} (e : d.obs K = d.val) (c : d.ok K = true) : ∃ fd, Fun K d.name d.qual d.st d.at_ fd := by
  obtain ⟨kp, c2⟩ := He.ba c
  unfold Da.obs at e
  cases q : K.lookup d.at_ with
  | none =>
    rw [q] at c2
    cases c2
  | some o =>
    obtain ⟨oc, od, dt, osl⟩ := o
    rw [q] at c2 e
    cases dt with
    | func fd =>
      obtain ⟨n1, n2, n3, n4, n5, n6, n7, n8, n9, n10, n11, n12, n13, n14, n15⟩ := fd
      have e2 : (some (n1, n2, n3, n4, n5, n6, n7, n8, n15) : He.FnV) = some (d.name, d.qual, defArgs d.st, .stmts (defBody d.st), defScope d.st, mainGlobals, [], .none, builtinsNs) := e
      simp only [Option.some.injEq, Prod.mk.injEq] at e2
      obtain ⟨h1, h2, h3, h4, h5, h6, h7, h8, h9⟩ := e2
      subst h1 h2 h3 h4 h5 h6 h7 h8 h9
      exact ⟨_, ⟨oc, od, n9, n10, n11, n12, n13, n14, osl, rfl, q, c2⟩, kp⟩
    | _ => cases c2
abbrev TabA : Type := Addr × List Str
def obsA (bs : List (PySem.W.Frag → Bool)) (fn : List Da) (ts : List TabA) (K : PySem.W.Frag) : Al := (bs.all (fun b => b K) && fn.all fun d => d.ok K, fn.map fun d => d.obs K, ts.map fun t => He.dicW K t.1)
def valA (fn : List Da) (ts : List TabA) (w : World) : Al := (true, fn.map Da.val, ts.map fun t => some (He.keysIn w.params t.2))
def SaysA (bs : List (PySem.W.Frag → Bool)) (fn : List Da) (ts : List TabA) (w : World) (K : PySem.W.Frag) : Prop := obsA bs fn ts K = valA fn ts w
/-- the list made first, then handed on -/
def fromK (k : PySem.W.Frag → Al) : List Addr → (Addr → Option Obj) → PySem.W.Frag → Al
  | [], _, acc => k acc.reverse
  | a :: as, g, acc => match g a with
    | some o => fromK k as g ((a, o) :: acc)
    | none => fromK k as g acc
theorem fromK_eq (k : PySem.W.Frag → Al) : ∀ (as : List Addr) (g : Addr → Option Obj) (acc : PySem.W.Frag), fromK k as g acc = k (acc.reverse ++ He.frG g as)
  | [], g, acc => by
    show k acc.reverse = k (acc.reverse ++ [])
    rw [List.append_nil]
  | a :: as, g, acc => by
    show (match g a with | some o => fromK k as g ((a, o) :: acc) | none => fromK k as g acc) = _
    unfold He.frG
    cases e : g a with
    | none =>
      rw [List.filterMap_cons, e]
      exact fromK_eq k as g acc
    | some o =>
      rw [List.filterMap_cons, e]
      show fromK k as g ((a, o) :: acc) = _
      rw [fromK_eq k as g _, List.reverse_cons, List.append_assoc]
      rfl
def obsAG (as : List Addr) (bs : List (PySem.W.Frag → Bool)) (fn : List Da) (ts : List TabA) (g : Addr → Option Obj) : Al := fromK (obsA bs fn ts) as g []
def hookA (as : List Addr) (bs : List (PySem.W.Frag → Bool)) (fn : List Da) (ts : List TabA) : PySem.W.Hook where
  α := Al
  obs := fun s => obsAG as bs fn ts s.heap.get?
  val := fun w => valA fn ts w
  says := fun w h => ∃ K : PySem.W.Frag, K.In h ∧ SaysA bs fn ts w K
  of := fun w s e => by
    have e : fromK (obsA bs fn ts) as s.heap.get? [] = valA fn ts w := e
    rw [fromK_eq] at e
    exact ⟨_, He.frG_in, e⟩
  keeps := fun _ _ _ ⟨K, hK, c⟩ k => ⟨K, PySem.W.Frag.In.keeps hK k, c⟩
theorem obsAG_eq {as : List Addr} {bs : List (PySem.W.Frag → Bool)} {fn : List Da} {ts : List TabA} {g : Addr → Option Obj} {s : Shared} (h : ∀ a, g a = s.heap.get? a) : obsAG as bs fn ts g = (hookA as bs fn ts).obs s := by
  have e : g = s.heap.get? := funext h
  rw [e] <;> rfl
section
variable {bs : List (PySem.W.Frag → Bool)} {fn : List Da} {ts : List TabA} {w : World} {K : PySem.W.Frag}
theorem SaysA.fact (c : SaysA bs fn ts w K) (i : Nat) {f : PySem.W.Frag → Bool} (h : bs[i]? = some f := by rfl) : f K = true := by
  have c1 := (He.ba (show (bs.all (fun b => b K) && fn.all fun d => d.ok K) = true from congrArg (fun z : Al => z.1) c)).1
  exact List.all_eq_true.mp c1 f (List.mem_of_getElem? h)
theorem SaysA.dfn (c : SaysA bs fn ts w K) (i : Nat) {d : Da} (h : fn[i]? = some d := by rfl) : ∃ fd, Fun K d.name d.qual d.st d.at_ fd := by
  have c2 := (He.ba (show (bs.all (fun b => b K) && fn.all fun d => d.ok K) = true from congrArg (fun z : Al => z.1) c)).2
  have e : fn.map (fun d => d.obs K) = fn.map Da.val := congrArg (fun z : Al => z.2.1) c
  have e2 : (fn.map fun d => d.obs K)[i]? = (fn.map Da.val)[i]? := by rw [e]
  rw [List.getElem?_map, List.getElem?_map, h] at e2
  exact Da.fun_ (Option.some.inj e2) (List.all_eq_true.mp c2 d (List.mem_of_getElem? h))
theorem SaysA.tab (c : SaysA bs fn ts w K) (i : Nat) {t : TabA} (h : ts[i]? = some t := by rfl) : He.dicW K t.1 = some (He.keysIn w.params t.2) := by
  have e : ts.map (fun t => He.dicW K t.1) = ts.map fun t => some (He.keysIn w.params t.2) := congrArg (fun z : Al => z.2.2) c
  have e2 : (ts.map fun t => He.dicW K t.1)[i]? = (ts.map fun t => some (He.keysIn w.params t.2))[i]? := by rw [e]
  rw [List.getElem?_map, List.getElem?_map, h] at e2
  exact Option.some.inj e2
/-- the module's name x stands for the object at a -/
def gloB (x : Str) (a : Addr) (K : PySem.W.Frag) : Bool := He.eqO (PySem.W.nsIn K mainGlobals x) (some (some (.ref a)))
theorem gloB_ok {h : Heap} {mg : Str → Option Value} (X : K.In h) (G : h.Ns mainGlobals mg) {x : Str} {a : Addr} (c : gloB x a K = true) : mg x = some (.ref a) := PySem.W.mg_of X G (He.eqO_ok c)
/-- a tuple at a -/
def tupB (a : Addr) (vs : List He.Dv) (K : PySem.W.Frag) : Bool := match K.lookup a with
  | some ⟨.type c, _, .seq its _, _⟩ => decide (c = "tuple") && (decide (its.size ≤ sizeLine) && He.relAll (vs.map (He.Dv.v K)) its.toList)
  | _ => false
theorem tupB_ok {a : Addr} {vs : List He.Dv} (h : tupB a vs K = true) (H : Hp) : SqT K H a (vs.map (He.Dv.v K)) := by
  unfold tupB at h
  split at h
  · rename_i c _ its _ _ q
    obtain ⟨h1, h2⟩ := He.ba h
    obtain ⟨h3, h4⟩ := He.ba h2
    exact .inr ⟨_, its, _, q, congrArg Value.type (of_decide_eq_true h1), rfl, of_decide_eq_true h3, He.relAll_ok h4⟩
  · cases h
end
/-! ### a table: which keys it has -/
theorem find_keys {P : Params} {z : Str} : ∀ {l : List DictEntry} {ks : List Str}, l.map He.keyOf = He.keysIn P ks → (l.find? (·.key.isStr z)).isSome = ks.contains z ∧ l.any (·.refKey) = false
  | [], [], _ => ⟨rfl, rfl⟩
  | [], _ :: _, h => by cases h
  | _ :: _, [], h => by cases h
  | e :: r, k :: ks, h => by
    have h1 : He.keyOf e :: r.map He.keyOf = some (k, PyData.keyHash P k) :: He.keysIn P ks := h
    injection h1 with h2 h3
    obtain ⟨i1, i2⟩ := find_keys (z := z) h3
    obtain ⟨eh, ek, ev⟩ := e
    cases ek with
    | str x t =>
      have h4 : (x, _) = (k, _) := Option.some.inj h2
      have h5 : x = k := (Prod.mk.inj h4).1
      subst h5
      constructor
      · show (match (Value.str x t).isStr z with | true => some _ | false => r.find? _).isSome = (List.elem z (x :: ks))
        have e0 : (Value.str x t).isStr z = (x == z) := rfl
        by_cases hx : x = z
        · subst hx
          simp [e0]
        · have e1 : (Value.str x t).isStr z = false := by rw [e0]; exact beq_eq_false_iff_ne.mpr hx
          rw [e1]
          have : List.elem z (x :: ks) = List.elem z ks := by
            have ex : (z == x) = false := beq_eq_false_iff_ne.mpr (Ne.symm hx)
            rw [List.elem_cons, ex]
          rw [this]
          exact i1
      · simp only [List.any_cons, i2, Bool.or_false]
        first
          | done
          | rfl
    | _ => cases h2
theorem has_of {K : PySem.W.Frag} {P : Params} {a : Addr} {ks : List Str} (h : He.dicW K a = some (He.keysIn P ks)) (z : Str) : ∃ r, PySem.W.nsIn K a z = some r ∧ r.isSome = ks.contains z := by
  unfold He.dicW at h
  cases q : K.lookup a with
  | none =>
    rw [q] at h
    cases h
  | some o =>
    obtain ⟨oc, od, dt, osl⟩ := o
    rw [q] at h
    cases oc with
    | type c =>
      cases od with
      | none =>
        cases dt with
        | dict es n =>
          have h1 : (match decide (c = "dict") && (osl.isEmpty && !(a == sysModules)) with
            | true => some (es.toList.map He.keyOf)
            | false => none) = some (He.keysIn P ks) := h
          split at h1
          · obtain ⟨f1, f2⟩ := find_keys (z := z) (Option.some.inj h1)
            unfold PySem.W.nsIn
            rw [q]
            show ∃ r, (match es.toList.find? (·.key.isStr z) with | some e => some (some e.val) | none => if es.toList.any (·.refKey) then none else some none) = some r ∧ _
            cases hf : es.toList.find? (·.key.isStr z) with
            | some e => exact ⟨_, rfl, by rw [← f1, hf]; rfl⟩
            | none => exact ⟨none, by rw [f2]; rfl, by rw [← f1, hf]; rfl⟩
          · cases h1
        | _ => cases h
      | some b => cases dt <;> cases h
    | _ => cases od <;> cases dt <;> cases h
/-- a tuple at a name of a table -/
def tupInB (K : PySem.W.Frag) (d : Addr) (k : Str) (vs : List He.Dv) : Bool := match PySem.W.nsIn K d k with
  | some (some (.ref a)) => (match K.lookup a with
    | some ⟨.type c, _, .seq its _, _⟩ => decide (c = "tuple") && (decide (its.size ≤ sizeLine) && He.relAll (vs.map (He.Dv.v K)) its.toList)
    | _ => false)
  | _ => false
theorem tupInB_ok {K : PySem.W.Frag} {d : Addr} {k : Str} {vs : List He.Dv} (h : tupInB K d k vs = true) : ∃ a, PySem.W.nsIn K d k = some (some (.ref a)) ∧ ∀ H, SqT K H a (vs.map (He.Dv.v K)) := by
  unfold tupInB at h
  split at h
  · rename_i a e
    split at h
    · rename_i c _ its _ _ q
      obtain ⟨h1, h2⟩ := He.ba h
      obtain ⟨h3, h4⟩ := He.ba h2
      exact ⟨a, e, fun H => .inr ⟨_, its, _, q, congrArg Value.type (of_decide_eq_true h1), rfl, of_decide_eq_true h3, He.relAll_ok h4⟩⟩
    · cases h
  · cases h
end EH

set_option Elab.async false
set_option linter.all false
set_option maxRecDepth 100000
set_option maxHeartbeats 4000000
namespace E
open PySem PySem.Spec PyProof.Rows L2 LamX NdefX
/-! ### lambdas with parameters that capture nothing -/
/-- a lambda's words, its code object -/
structure LF where
  qual : Str
  params : Arguments
  body : Expr
  scope : Scope
  c : Addr
abbrev LF.nf (F : LF) : NF := ⟨"<lambda>", F.qual, F.params, [], F.scope, [], F.c⟩
/-- the object at f is the lambda F -/
def LamO (f : Addr) (F : LF) : HO := .ext fun h => ∃ (pm ctv : Value), h.get? f = some (PySem.W.kla_obj "<lambda>" F.qual F.params F.body F.scope [] pm F.c ctv)
theorem lamO_at {P : Program} {w : World} {H : Hp} {h : Heap} {f : Addr} {F : LF} (hok : HOk P w H h) (e : H f = some (LamO f F)) : ∃ (pm ctv : Value), h.get? f = some (PySem.W.kla_obj "<lambda>" F.qual F.params F.body F.scope [] pm F.c ctv) := by
  obtain ⟨z, _, _⟩ := hok f _ e
  exact z
theorem inv_lam {X : Cx} {pins : List (Addr × Obj)} {σ : L2.St} {H : Hp} {s : Shared} {F : LF} {o : Obj} {t' : Nat} {pm ctv : Value} (I : Inv X pins σ H s) (ho : o = PySem.W.kla_obj "<lambda>" F.qual F.params F.body F.scope [] pm F.c ctv) :
    Inv X pins σ (upd H s.heap.objs.size (LamO s.heap.objs.size F)) { s with heap := s.heap.push o, toks := t' } := by
  subst ho
  refine I.laid (a := s.heap.objs.size) (fun b u e => Heap.get?_push_of_some _ e) (Nat.le_refl _) ?_
  have e : (s.heap.push (PySem.W.kla_obj "<lambda>" F.qual F.params F.body F.scope [] pm F.c ctv)).get? s.heap.objs.size = some (PySem.W.kla_obj "<lambda>" F.qual F.params F.body F.scope [] pm F.c ctv) := Heap.get?_push_size _ rfl
  exact ⟨⟨pm, ctv, e⟩, ⟨_, e⟩, fun h1 h2 ⟨p, t, z⟩ st => ⟨p, t, st _ z⟩⟩
/-- the reading of «lambda ..: ..»: the new function -/
def tLam (T : List NTab) (mk : Addr → LF) : TE := fun σ H Q => TabsN T H ∧ ∀ (f c' : Addr) (H1 : Hp), ExtN H H1 → TabsN T H1 → H f = none → H1 f = some (LamO f (mk c')) → H1 c' = some (CodeO c' (mk c').qual) → Q (.ref f) H1
theorem clo_none {cells : List (Str × Addr)} {names : List (Str × NameKind)} (h : (names.all fun y => !decide (y.2 = .free)) = true) : cloFrom cells names [] = [] := by
  have key : ∀ (l : List (Str × NameKind)), (∀ y ∈ l, y.2 ≠ .free) → ∀ acc, cloFrom cells l acc = acc := by
    intro l
    induction l with
    | nil => exact fun _ _ => rfl
    | cons y l ih =>
      intro hy acc
      have h1 := hy y List.mem_cons_self
      have h2 := ih (fun z hz => hy z (List.mem_cons_of_mem _ hz))
      obtain ⟨n, k⟩ := y
      cases k <;> first | exact absurd rfl h1 | exact h2 acc
  refine key names (fun y hy e => ?_) []
  have := List.all_eq_true.mp h y hy
  rw [e] at this
  exact absurd this (by decide)
/-- one more code object in the table at P: the tables go on telling what they told -/
theorem tabs_put {T : List NTab} {nm : Nat → Nat → Str} {H H' : Hp} {P d : Addr} {rows : Array Value} {at_ : Pos} {q : Str} (tT : TabsN T H) (mem : (P, nm) ∈ T) (one : ∀ p ∈ T, p.1 = P → p.2 = nm) (tP : H P = some (.tbl rows)) (eq : nm at_.line at_.col = q)
    (keep : ∀ b o, H b = some o → b ≠ P → H' b = some o) (newP : H' P = some (.tbl (rows ++ #[rawInt at_.line, rawInt at_.col, .ref d]))) (newC : H' d = some (CodeO d q)) : TabsN T H' := by
  rintro ⟨P', nm'⟩ hp
  by_cases here : P' = P
  · have same := one _ hp here
    subst here
    obtain rfl : nm' = nm := same
    obtain ⟨rows', r1, r2, r3⟩ := tT _ mem
    rw [tP] at r1
    cases r1
    have split : (rows ++ #[rawInt at_.line, rawInt at_.col, .ref d]).toList = rows.toList ++ [rawInt at_.line, rawInt at_.col, .ref d] := Array.toList_append ..
    refine ⟨_, newP, split ▸ PySem.TriplesOk_snoc _ _ _ _ r2, fun at2 u hu => ?_⟩
    rcases among_app2 _ r2 (split ▸ hu) with old | ⟨new, l1, l2⟩
    · obtain ⟨x, x1, x2⟩ := r3 at2 u old
      exact ⟨x, x1, keep _ _ x2 fun z => by rw [z, tP] at x2; cases x2⟩
    · exact ⟨d, new, by rw [← l1, ← l2]; show H' d = some (CodeO d (nm' at_.line at_.col)); rw [eq]; exact newC⟩
  · obtain ⟨rows', r1, r2, r3⟩ := tT _ hp
    refine ⟨rows', keep _ _ r1 here, r2, fun at2 u hu => ?_⟩
    obtain ⟨x, x1, x2⟩ := r3 at2 u hu
    exact ⟨x, x1, keep _ _ x2 fun z => by rw [z, tP] at x2; cases x2⟩
section
variable {X : Cx}
/-- what is new above all that is known changes nothing of it -/
theorem above {H H' : Hp} {a : Addr} {o : HO} (n : H' a = none) (k : ∀ b u, H b = some u → H' b = some u) : ∀ b u, H b = some u → upd H' a o b = some u := fun b u e => (upd_ne (ne_of_none (k b u e) n)).trans (k b u e)
theorem pe_lam {T : List NTab} {nm : Nat → Nat → Str} {c P : Addr} {params : Arguments} {body : Expr} {scope : Scope} {pos : Pos} (TB : TabB X.base X.mg c P) (code : X.env.code = .ref c) (mem : (P, nm) ∈ T) (name : nm pos.line pos.col = X.env.qual ++ "<lambda>") (one : ∀ p ∈ T, p.1 = P → p.2 = nm)
    (nofree : (scope.names.all fun y => !decide (y.2 = .free)) = true) (dflt : defaultsOf params X.env = ([], [])) :
    PE X (.Lambda params body scope pos) (tLam T fun c' => ⟨X.env.qual ++ "<lambda>", params, body, scope, c'⟩) := by
  refine ⟨fun pins s σ H Q I ⟨tT, q⟩ => PySem.W.kla_eval dflt ?_⟩
  have shut : cloFrom X.env.cells scope.names [] = [] := clo_none nofree
  have caught : ∀ y ∈ scope.names, y.2 = .free → ∃ a, X.env.cells.lookup y.1 = some a := fun y hy e => absurd (List.all_eq_true.mp nofree y hy) (by rw [e]; decide)
  obtain ⟨rows, tP, tok, told⟩ := (show TabN H P nm from tT _ mem)
  have ask : ∀ (d : Addr) (h' : Heap) (tk : Nat) (ctv : Value) (H1 : Hp), Inv X pins σ H1 { s with heap := h', toks := tk } → ExtN H H1 → TabsN T H1 → (∀ b, H1 b = none → H b = none) → H1 d = some (CodeO d (X.env.qual ++ "<lambda>")) →
      EP X pins σ Q (.ref h'.objs.size) { s with heap := h'.push (PySem.W.kla_obj "<lambda>" (X.env.qual ++ "<lambda>") params body scope [] ((X.mg "__name__").getD .none) d ctv), toks := tk } := fun d h' tk ctv H1 I1 e1 t1 back hd => by
    have free : H1 h'.objs.size = none := I1.hok.fresh (Nat.le_refl _)
    have up := above (o := LamO h'.objs.size ⟨X.env.qual ++ "<lambda>", params, body, scope, d⟩) free fun _ _ e => e
    exact ⟨.ref h'.objs.size, _, inv_lam (F := ⟨X.env.qual ++ "<lambda>", params, body, scope, d⟩) (t' := tk) (ctv := ctv) I1 rfl, rfl, q _ d _ (e1.trans (ExtN.of up)) (t1.ext up) (back _ free) upd_same (up _ _ hd)⟩
  have glob := I.mod.glob.keeps I.bk
  have atP : s.heap.get? P = some { cls := .none, data := .fields rows } := I.hok P _ tP
  have bt : s.heap.BuiltinsAt X.mg P := TB.bm.keeps I.bk
  cases found : codeAmong pos rows.toList with
  | some u =>
    obtain ⟨d, rfl, hd⟩ := told pos u found
    refine PySem.W.kla_makeFunctionHit (mg := X.mg) (c := c) (P := P) (ps := rows) (closure_ok caught) I.ok.glob glob code (TB.code.keeps I.bk) atP tok found bt fun ctv h' tk more _ => ?_
    rw [shut]
    exact ask d h' tk ctv H (I.kept more) (ExtN.refl H) tT (fun _ e => e) (name ▸ hd)
  | none =>
    refine PySem.W.kla_makeFunction (mg := X.mg) (c := c) (P := P) (ps := rows) (closure_ok caught) I.ok.glob glob code (TB.code.keeps I.bk) atP tok found TB.gP bt fun d ctv h' tk more ge lt rec_ tab => ?_
    obtain ⟨d', oc, vs, t, same, r⟩ := rec_
    obtain rfl : d = d' := Value.ref.inj same
    rw [shut]
    have nd : H d = none := I.hok.fresh ge
    have dP : d ≠ P := (ne_of_none tP nd).symm
    have keep : ∀ b o, H b = some o → b ≠ P → upd (upd H P (.tbl (rows ++ #[rawInt pos.line, rawInt pos.col, .ref d]))) d (CodeO d (X.env.qual ++ "<lambda>")) b = some o := fun b o e n => by
      rw [upd_ne (ne_of_none e nd), upd_ne n, e]
    refine ask d h' tk ctv _ (inv_table I tP more tab ge ⟨oc, vs, t, r⟩) (fun b o e n => keep b o e fun z => n rows (Option.some.inj (e.symm.trans (z ▸ tP)))) (tabs_put tT mem one tP name keep (by rw [upd_ne dP.symm, upd_same]) upd_same) (fun b e => ?_) upd_same
    cases eb : H b with
    | none => rfl
    | some o =>
      by_cases z : b = P
      · subst z
        rw [upd_ne dP.symm, upd_same] at e
        cases e
      · rw [keep b o eb z] at e
        cases e
end
/-- the promise of the lambda F at f -/
structure LOk (P : Program) (w : World) (K : PySem.W.Frag) (mg : Str → Option Value) (base : Heap) (CX : CXT) (k : Nat) (f : Addr) (F : LF) (ps : List Str) (sp : Sp) : Prop where
  len : ∀ vs H Q E, sp vs H Q E → vs.length = ps.length
  run : ∀ (A : Around) (outer : List Env) (s : Shared) (H : Hp) (us : List Value) (vs : List V) (Q : VK) (E : XK), Room k A → Env0 P w K mg base A outer s H → H f = some (LamO f F) → H F.c = some (CodeO F.c F.qual) →
    Vals vs us → sp vs H Q E → codeAny (model P w) A (.call (.ref f) ⟨us, []⟩) (CR CX outer P w H s Q E) s
section
variable {CX : CXT} {P : Program} {w : World} {K : PySem.W.Frag} {mg : Str → Option Value} {base : Heap} {N ps : List Str} {F : LF} {f : Addr} {k j : Nat} {sp : Sp}
theorem cells_nil (h : Heap) (H : Hp) : CellsAt [] [] [] h H := ⟨rfl, fun y c z => (nomatch z), fun x y c z => (nomatch z), fun i y z => (nomatch z)⟩
theorem LOk.mono (o : LOk P w K mg base CX j f F ps sp) (h : j ≤ k) : LOk P w K mg base CX k f F ps sp := ⟨o.len, fun A outer s H us vs Q E hr => o.run A outer s H us vs Q E (hr.mono h)⟩
/-- THE RULE: a lambda by its body -/
theorem lok_of (S : NScope N ps [] F.scope) (hb : ∀ (pm ctv : Value) (us : List Value), us.length = ps.length → bindArgs (PySem.W.kla_fn "<lambda>" F.qual F.params F.body F.scope [] pm (.ref F.c) ctv) ⟨us, []⟩ = pure (ps.zip us)) (len : ∀ vs H Q E, sp vs H Q E → vs.length = ps.length)
    (hbody : ∀ (A : Around) (outer : List Env) (s : Shared) (H : Hp) (vs : List V) (Q : VK) (E : XK), Room k (A.deeper (envF F.nf f s.heap.objs.size)) → sp vs H Q E →
      ∃ t, PE (ncx CX P w K mg base N F.nf f A outer s H E) F.body t ∧ t (startF N vs []) H Q) :
    LOk P w K mg base CX (k + 1) f F ps sp := by
  refine ⟨len, fun A outer s H us vs Q E room e0 at_ code r q => ?_⟩
  obtain ⟨pm, ctv, ho⟩ := lamO_at e0.hok at_
  have many : us.length = ps.length := r.length ▸ len _ _ _ _ q
  refine PySem.W.kla_callFunE room.depth ho rfl S.co S.gen rfl (codeO_at e0.hok code) ?_
  rw [hb pm ctv us many]
  have free : s.heap.NoLimit := e0.mod.nolimit.keeps fun b o z => (e0.bs b o z).1
  refine wpAny_pure (wpAny_newFunctionEnv S.nocell (fun y hy => S.par y.1 (List.of_mem_zip hy).1) (fun h₁ own grown => ⟨free.fresh _ grown, PySem.W.kla_codeExpr ?_⟩) S.kind)
  obtain ⟨t, term, reading⟩ := hbody A outer s H vs Q E (room.deeper _) q
  have I := inv_startN (E := E) (CX := CX) (f := f) (F := F.nf) (N := N) (tk := s.toks + (ps.zip us).length) S room.hd e0 (len _ _ _ _ q) r (cells_nil _ _) own fun b o z => grown.extBut b o (Nat.ne_of_lt (Heap.lt_size z)) (Heap.get?_push_of_some _ z)
  exact wpAny_mono (term.run [] _ _ H Q I reading) (fun v s' ⟨u, H', J, rv, done⟩ => ⟨u, H', J.os, J.bare, J.base, J.hok, rv, done⟩) fun e s' z => z
end
/-! ### a call of a parameter that holds a def of the top, or a def or lambda made at run time that captures nothing -/
/-- the def at f, made or of the top, keeps the promise sp -/
inductive Cal (P : Program) (w : World) (K : PySem.W.Frag) (mg : Str → Option Value) (base : Heap) (k : Nat) (f : Addr) (sp : Sp) (H : Hp) : Prop
  | top {fd : FuncData} {ps : List Str} (o : FnOk P w K mg base CX0 k f fd ps sp) (kp : PySem.W.keepIn K (.ref f) = true) (b : L2.Binds K fd ps [])
  | made {F : NF} {ps : List Str} (o : NOk P w K mg base CX0 k f F ps [] (fun _ => sp)) (cl : F.cl = []) (h : H f = some (FnO f F)) (hc : H F.c = some (CodeO F.c F.qual))
  | lam {F : LF} {ps : List Str} (o : LOk P w K mg base CX0 k f F ps sp) (h : H f = some (LamO f F)) (hc : H F.c = some (CodeO F.c F.qual))
theorem Cal.same {P : Program} {w : World} {K : PySem.W.Frag} {mg : Str → Option Value} {base : Heap} {k : Nat} {f : Addr} {sp : Sp} {H H' : Hp} (c : Cal P w K mg base k f sp H) (s : ∀ b F, H b = some (.ext F) → H' b = some (.ext F)) : Cal P w K mg base k f sp H' := by
  cases c with
  | top o kp b => exact .top o kp b
  | made o cl h hc => exact .made o cl (s _ _ h) (s _ _ hc)
  | lam o h hc => exact .lam o (s _ _ h) (s _ _ hc)
theorem cells_none {cl : List (Str × Addr)} (e : cl = []) (h : Heap) (H : Hp) : CellsAt cl [] [] h H := by
  subst e
  exact ⟨rfl, fun y c z => (nomatch z), fun x y c z => (nomatch z), fun i y z => (nomatch z)⟩
def tCallV (P : Program) (w : World) (K : PySem.W.Frag) (mg : Str → Option Value) (base : Heap) (k i : Nat) (t : TA) : TE := fun σ H Q => ∃ (f : Addr) (sp : Sp), σ[i]? = some (some (.ref f)) ∧ Cal P w K mg base k f sp H ∧
  t σ H fun vs H1 => Cal P w K mg base k f sp H1 ∧ (∀ b F, H b = some (.ext F) → H1 b = some (.ext F)) ∧ sp vs H1 Q (fun _ _ _ => False)
section
variable {X : Cx} {i j k : Nat} {x : Str} {p pos : Pos} {e : Expr} {es : List Expr} {t : TA}
theorem pe_callV (hr : Room j X.A) (hk : k ≤ j) (hN : X.N[i]? = some x) (hv : Vis X.env.scope x) (ha : PA X (e :: es) t)
    (hdb : (x == ("__debug__" : Str)) = false := by decide) (hcd : (x == ("__classdict__" : Str)) = false := by decide)
    (he : starEach (e :: es) X.env = (false, eval e X.env) :: starEach es X.env := by rfl) (hpl : (backTo pos (starEach es X.env)).any (·.1) = false := by rfl) :
    PE X (.Call (.Name x p) (e :: es) [] pos) (tCallV X.prog X.w X.K X.mg X.base k i t) := by
  refine ⟨fun pins s σ H Q I ⟨f, sp, hs, hc, ht⟩ => ?_⟩
  refine wpAny_Call_Name_kw (thn ((pe_var (pos := p) hN hv hdb hcd).run pins s σ H (fun v H1 => v = .ref f ∧ H1 = H) I ⟨.ref f, hs, rfl, rfl⟩) fun u s1 ⟨v, H1, I1, r1, q1, q2⟩ => ?_)
  subst q1 q2
  obtain rfl : u = Value.ref f := r1
  cases hc with
  | @top fd ps o kp b =>
    refine PySem.W.callWith_K (h₀ := X.base) I.ok.mod.kin kp (thn (ha.run pos pins s1 σ _ _ I1 ht) fun us s2 ⟨vs, H2, I2, r, _, _, q⟩ => ⟨I2.kIn, ?_⟩) he hpl
    refine run_fn (dvs := []) (E := fun _ _ _ => False) o (hr.mono hk) b .nil pass0 I2 r ?_
    rw [List.append_nil]
    exact q
  | @made F ps o cl h hcode =>
    refine PySem.W.callWith_F (first := []) (fnAt_of I1 h) (thn (ha.run pos pins s1 σ _ _ I1 ht) fun us s2 ⟨vs, H2, I2, r, _, keep, q⟩ => ⟨fnAt_of I2 (keep _ _ h), ?_⟩) he hpl
    show wpAny _ _ (call (.ref f) us) _ _ _
    exact run_n (mk := fun _ => F) (js := []) (fr := []) (c' := f) (sp := fun _ _ _ => sp) o hr hk (E := fun _ _ _ => False) pass0 I2 (keep _ _ h) (keep _ _ hcode) (cells_none cl _ _) r q
  | @lam F ps o h hcode =>
    have fa : ∀ {s' : Shared} {H' : Hp}, Inv X pins σ H' s' → H' f = some (LamO f F) → PySem.W.FnAt f s'.heap := fun I' h' => by
      obtain ⟨pm, ctv, ho⟩ := lamO_at I'.hok h'
      exact ⟨_, _, _, _, ho⟩
    refine PySem.W.callWith_F (first := []) (fa I1 h) (thn (ha.run pos pins s1 σ _ _ I1 ht) fun us s2 ⟨vs, H2, I2, r, _, keep, q⟩ => ⟨fa I2 (keep _ _ h), ?_⟩) he hpl
    show wpAny _ _ (call (.ref f) us) _ _ _
    refine wpAny_call (codeAny_mono (o.run X.A X.stack s2 H2 us vs _ _ (hr.mono hk) I2.env0 (keep _ _ h) (keep _ _ hcode) r q) fun r s' hq => ?_)
    cases r with
    | error e => exact (show False from hq).elim
    | ok fl =>
      cases fl with
      | ret u => exact I2.after hq
      | next => exact False.elim hq
      | brk => exact False.elim hq
      | cont => exact False.elim hq
end
end E

set_option Elab.async false
set_option linter.all false
set_option maxRecDepth 100000
set_option maxHeartbeats 4000000
namespace E
open PySem PySem.Spec PyProof.Rows L2 LamX NdefX
/-! ### a def of the text that makes functions: its code object is known -/
structure FunC (K : PySem.W.Frag) (x qual : Str) (st : Stmt) (f : Addr) (fd : FuncData) (c : Addr) : Prop where
  ex : ∃ (oc : Value) (od : Option Addr) (kV doc pm : Value) (an : Option Addr) (ct : Value) (osl : Array (Option Value)),
    fd = PySem.W.fnOf x qual (defArgs st) (defBody st) (defScope st) .none kV doc pm an (.ref c) ct ∧ K.lookup f = some ⟨oc, od, .func fd, osl⟩ ∧ PySem.W.codeIn K (.ref c) qual = true
section
variable {P : Program} {w : World} {K : PySem.W.Frag} {mg : Str → Option Value} {base : Heap}
theorem FunC.ok {x qual : Str} {st : Stmt} {f c : Addr} {fd : FuncData} {N ps : List Str} {k : Nat} {sp : Sp} (F : FunC K x qual st f fd c) (S : FnScope N ps (defScope st)) (len : ∀ vs H Q E, sp vs H Q E → vs.length = ps.length)
    (hbody : ∀ (A : Around) (outer : List Env) (s : Shared) (H : Hp) (vs : List V) (Q : VK) (E : XK), Room k (A.deeper (envOfC qual (defScope st) s.heap.objs.size f (.ref c))) → sp vs H Q E →
      ∃ t, PSs (cxOf CX0 P w K mg base N qual (defScope st) f (.ref c) A outer s H E).nox (defBody st) t ∧ t { nx := fun _ H' => Q .non H', rt := Q } (start N vs) H) : FnOk P w K mg base CX0 (k + 1) f fd ps sp := by
  obtain ⟨oc, od, kV, doc, pm, an, ct, osl, rfl, lk, hcd⟩ := F.ex
  refine fn_of lk hcd S len fun A outer s H vs Q E hr hsp => ?_
  obtain ⟨t, h, q⟩ := hbody A outer s H vs Q E hr hsp
  exact ⟨t, h.nox, q⟩
/-- .. that may raise -/
theorem FunC.okX {x qual : Str} {st : Stmt} {f c : Addr} {fd : FuncData} {N ps : List Str} {k : Nat} {sp : Sp} (F : FunC K x qual st f fd c) (S : FnScope N ps (defScope st)) (len : ∀ vs H Q E, sp vs H Q E → vs.length = ps.length)
    (hbody : ∀ (A : Around) (outer : List Env) (s : Shared) (H : Hp) (vs : List V) (Q : VK) (E : XK), Room k (A.deeper (envOfC qual (defScope st) s.heap.objs.size f (.ref c))) → sp vs H Q E →
      ∃ t, PSs (cxOf (L2.CX P w) P w K mg base N qual (defScope st) f (.ref c) A outer s H E) (defBody st) t ∧ t { nx := fun _ H' => Q .non H', rt := Q } (start N vs) H) : FnOk P w K mg base (L2.CX P w) (k + 1) f fd ps sp := by
  obtain ⟨oc, od, kV, doc, pm, an, ct, osl, rfl, lk, hcd⟩ := F.ex
  exact fn_of lk hcd S len hbody
theorem func_mk {x qual : Str} {st : Stmt} {f : Addr} {oc : Value} {od an : Option Addr} {osl : Array (Option Value)} {kV doc pm ct : Value} {cd : Addr} (l : K.lookup f = some ⟨oc, od, .func (PySem.W.fnOf x qual (defArgs st) (defBody st) (defScope st) .none kV doc pm an (.ref cd) ct), osl⟩)
    (c : PySem.W.codeIn K (.ref cd) qual = true) : FunC K x qual st f (PySem.W.fnOf x qual (defArgs st) (defBody st) (defScope st) .none kV doc pm an (.ref cd) ct) cd := ⟨⟨oc, od, kV, doc, pm, an, ct, osl, rfl, l, c⟩⟩
end
/-- all but the tables stay: tuples, lists, what else is told -/
theorem extn_ts {H H' : Hp} (e : ExtN H H') : TS H H' := ⟨fun b xs r => by
  rcases r with r | ⟨o, r⟩
  · exact .inl (e _ _ r fun _ z => nomatch z)
  · exact .inr ⟨o, e _ _ r fun _ z => nomatch z⟩, fun b xs r => e _ _ r fun _ z => nomatch z⟩
theorem extn_sqL {K : PySem.W.Frag} {H H' : Hp} {a : Addr} {xs : List V} (e : ExtN H H') (h : SqL K H a xs) : SqL K H' a xs := by
  rcases h with (r | ⟨o, r⟩) | r
  · exact .inl (.inl (e _ _ r fun _ z => nomatch z))
  · exact .inl (.inr ⟨o, e _ _ r fun _ z => nomatch z⟩)
  · exact .inr r
theorem extn_pl {K : PySem.W.Frag} {H H' : Hp} {p l : Addr} (e : ExtN H H') (h : Pl K H p l) : Pl K H' p l := by
  obtain ⟨i, r, c, s, h1, h2⟩ := h.at5
  obtain ⟨cs, hs⟩ := h.sq
  exact ⟨⟨cs, extn_sqL e hs⟩, h.ne, i, r, c, s, (e _ _ h1 fun _ z => nomatch z), h2⟩
/-- one object, no table, is changed: the tables stay -/
theorem tabs_kp {T : List NTab} {H H' : Hp} {p : Addr} {u : HO} (t : TabsN T H) (k : Kp p H H') (hp : H p = some u) (hu : ∀ ps, u ≠ .tbl ps) (hc : ∀ f, u ≠ .ext f) : TabsN T H' := fun q hq => by
  obtain ⟨ps, h1, h2, h3⟩ := t q hq
  refine ⟨ps, k _ _ h1 (fun z => by rw [z, hp] at h1; exact hu _ (Option.some.inj h1)), h2, fun pos cv hcv => ?_⟩
  obtain ⟨c, e1, e2⟩ := h3 pos cv hcv
  exact ⟨c, e1, k _ _ e2 (fun z => by rw [z, hp] at e2; exact hc _ (Option.some.inj e2))⟩
theorem tabs_kpl {T : List NTab} {H H' : Hp} {p : Addr} {xs : List V} (t : TabsN T H) (k : Kp p H H') (hp : H p = some (.lst xs)) : TabsN T H' := tabs_kp t k hp (fun _ z => nomatch z) fun _ z => nomatch z
/-- all tables are empty -/
theorem tabs_start {T : List NTab} {cs : List (Addr × Addr)} {H : Hp} (e : T.map (·.1) = cs.map (·.2)) (h : ∀ p ∈ cs, H p.2 = some (.tbl #[])) : TabsN T H := fun q hq => by
  have hm : q.1 ∈ cs.map (·.2) := by rw [← e]; exact List.mem_map.mpr ⟨q, hq, rfl⟩
  obtain ⟨p, hp, ep⟩ := List.mem_map.mp hm
  exact TabN.nil (by rw [← ep]; exact h p hp)
theorem tab_uniq : ∀ {T : List NTab}, (T.map (·.1)).Nodup → ∀ {P : Addr} {nm : Nat → Nat → Str}, (P, nm) ∈ T → ∀ p ∈ T, p.1 = P → p.2 = nm
  | [], _, _, _, h => nomatch h
  | t :: T, nd, P, nm, h => fun p hp e => by
    rw [List.map_cons, List.nodup_cons] at nd
    rcases List.mem_cons.mp h with h1 | h1
    · subst h1
      rcases List.mem_cons.mp hp with h2 | h2
      · rw [h2]
      · exact absurd (List.mem_map.mpr ⟨p, h2, e⟩) nd.1
    · rcases List.mem_cons.mp hp with h2 | h2
      · subst h2
        exact absurd (List.mem_map.mpr ⟨_, h1, e.symm⟩) nd.1
      · exact tab_uniq nd.2 h1 p h2 e
end E

set_option Elab.async false
set_option linter.all false
set_option maxRecDepth 100000
set_option maxHeartbeats 4000000
namespace E
open PySem PySem.Spec PyProof.Rows L2 LamX NdefX
/-! ### tuples and known things stay -/
def TZ (H H' : Hp) : Prop := TS H H' ∧ ∀ b o u, H b = some (.frz o u) → H' b = some (.frz o u)
theorem TZ.refl (H : Hp) : TZ H H := ⟨TS.refl H, fun _ _ _ h => h⟩
theorem TZ.trans {H H1 H2 : Hp} (a : TZ H H1) (b : TZ H1 H2) : TZ H H2 := ⟨a.1.trans b.1, fun c o u h => b.2 _ _ _ (a.2 _ _ _ h)⟩
theorem TZ.but {H H' : Hp} {d : Addr} {u : HO} (hd : H d = some u) (h1 : ∀ xs, u ≠ .tup xs) (h2 : ∀ o v, u ≠ .frz o v) (k : ∀ c o, H c = some o → c ≠ d → H' c = some o) : TZ H H' :=
  ⟨TS.but hd h1 (fun o xs => h2 o (.tup xs)) k, fun c o v r => k _ _ r fun e => by
    rw [e, hd] at r
    exact h2 o v (Option.some.inj r)⟩
theorem Same.tz {H H' : Hp} (s : Same H H') : TZ H H' := ⟨Same.ts s, fun _ _ _ h => s _ _ h⟩
theorem Kp.tz {p : Addr} {H H' : Hp} {xs : List V} (k : Kp p H H') (h : H p = some (.lst xs)) : TZ H H' := TZ.but h (fun _ e => nomatch e) (fun _ _ e => nomatch e) k
/-! ### cells that are known while other defs run -/
/-- the cells of cl, each known to its object; ws: what the captured names hold (some v) or may hold (none) -/
structure WithC (cl : List (Str × Addr)) (fr : List Str) (ws : List (Option V)) (H : Hp) : Prop where
  len : ws.length = fr.length
  inj : ∀ x y c, cl.lookup x = some c → cl.lookup y = some c → x = y
  all : ∀ p ∈ cl, ∃ o v, H p.2 = some (.frz o (.own p.2)) ∧ o.data = .cell v
  has : ∀ (i : Nat) (y : Str), fr[i]? = some y → ∃ c, cl.lookup y = some c ∧ ∀ v, ws[i]? = some (some v) → ∃ u o, L2.RelV v u ∧ H c = some (.frz o (.own c)) ∧ o.data = .cell (some u)
theorem WithC.same {cl : List (Str × Addr)} {fr : List Str} {ws : List (Option V)} {H H' : Hp} (W : WithC cl fr ws H) (s : ∀ b o u, H b = some (.frz o u) → H' b = some (.frz o u)) : WithC cl fr ws H' := by
  refine ⟨W.len, W.inj, fun p hp => ?_, fun i y e => ?_⟩
  · obtain ⟨o, v, h1, h2⟩ := W.all p hp
    exact ⟨o, v, s _ _ _ h1, h2⟩
  · obtain ⟨c, h1, h2⟩ := W.has i y e
    refine ⟨c, h1, fun v hv => ?_⟩
    obtain ⟨u, o, r, h3, h4⟩ := h2 v hv
    exact ⟨u, o, r, s _ _ _ h3, h4⟩
/-- the addresses of the cells -/
def AtC (cl : List (Str × Addr)) (b : Addr) : Prop := ∃ p ∈ cl, p.2 = b
open Classical in
/-- without the cells -/
noncomputable def offC (cl : List (Str × Addr)) (H : Hp) : Hp := fun b => if AtC cl b then none else H b
open Classical in
/-- the cells back -/
noncomputable def onC (cl : List (Str × Addr)) (H H' : Hp) : Hp := fun b => if AtC cl b then H b else H' b
section
variable {cl : List (Str × Addr)} {fr : List Str} {ws : List (Option V)} {H H' H1 : Hp} {b : Addr} {o : HO}
theorem offC_at (h : AtC cl b) : offC cl H b = none := by unfold offC; rw [if_pos h]
theorem offC_ne (h : ¬ AtC cl b) : offC cl H b = H b := by unfold offC; rw [if_neg h]
theorem onC_at (h : AtC cl b) : onC cl H H' b = H b := by unfold onC; rw [if_pos h]
theorem onC_ne (h : ¬ AtC cl b) : onC cl H H' b = H' b := by unfold onC; rw [if_neg h]
theorem offC_some (h : offC cl H b = some o) : ¬ AtC cl b ∧ H b = some o := by
  by_cases c : AtC cl b
  · rw [offC_at c] at h; cases h
  · rw [offC_ne c] at h; exact ⟨c, h⟩
theorem offC_none (h : H b = none) : offC cl H b = none := by
  by_cases c : AtC cl b
  · exact offC_at c
  · rw [offC_ne c]; exact h
theorem WithC.at_ (W : WithC cl fr ws H) (h : AtC cl b) : ∃ o v, H b = some (.frz o (.own b)) ∧ o.data = .cell v := by
  obtain ⟨p, hp, rfl⟩ := h
  exact W.all p hp
/-- what is no cell's record is none of the cells -/
theorem WithC.off (W : WithC cl fr ws H) (h : H b = some o) (n : ∀ ob, o ≠ .frz ob (.own b)) : offC cl H b = some o := by
  have c : ¬ AtC cl b := fun z => by
    obtain ⟨ob, v, h1, _⟩ := W.at_ z
    rw [h] at h1
    exact n ob (Option.some.inj h1)
  rw [offC_ne c]; exact h
theorem WithC.offRd (W : WithC cl fr ws H) {u : HO} (h : Rd H b u) (n1 : ∀ ob x, u ≠ .frz ob x) (n2 : ∀ x, u ≠ .own x) : Rd (offC cl H) b u := by
  rcases h with h | ⟨ob, h⟩
  · exact .inl (W.off h fun ob z => n1 _ _ z)
  · refine .inr ⟨ob, W.off h fun ob' z => ?_⟩
    injection z with _ z2
    exact n2 _ z2
theorem WithC.ts (W : WithC cl fr ws H) : TS H (offC cl H) := ⟨fun b xs h => W.offRd h (fun _ _ e => nomatch e) (fun _ e => nomatch e), fun b xs h => W.off h fun _ e => nomatch e⟩
theorem WithC.sqL {K : PySem.W.Frag} {xs : List V} (W : WithC cl fr ws H) (h : SqL K H b xs) : SqL K (offC cl H) b xs := by
  rcases h with h | h
  · exact .inl (W.offRd h (fun _ _ e => nomatch e) (fun _ e => nomatch e))
  · exact .inr h
theorem WithC.frz (W : WithC cl fr ws H) {ob : Obj} {u : HO} (h : H b = some (.frz ob u)) (n : ∀ x, u ≠ .own x) : offC cl H b = some (.frz ob u) := W.off h fun ob' z => by
  injection z with _ z2
  exact n _ z2
theorem WithC.tab {T : List NTab} (W : WithC cl fr ws H) (t : TabsN T H) : TabsN T (offC cl H) := fun p hp => by
  obtain ⟨ps, h1, h2, h3⟩ := t p hp
  refine ⟨ps, W.off h1 (fun _ e => nomatch e), h2, fun pos cv hcv => ?_⟩
  obtain ⟨c, e1, e2⟩ := h3 pos cv hcv
  exact ⟨c, e1, W.off e2 (fun _ e => nomatch e)⟩
/-- what is kept without the cells is kept with them -/
theorem on_same (h : L2.Same (offC cl H) H') : L2.Same H (onC cl H H') := fun b o e => by
  by_cases c : AtC cl b
  · rw [onC_at c]; exact e
  · rw [onC_ne c]
    exact h _ _ (by rw [offC_ne c]; exact e)
theorem on_new (n : ∀ b, AtC cl b → H' b = none) (h : H' b = some o) : onC cl H H' b = some o := by
  rw [onC_ne fun c => by rw [n b c] at h; cases h]; exact h
/-- what the cells hold, to their objects -/
theorem WithC.cells {P : Program} {w : World} {h : Heap} (W : WithC cl fr ws H) (ok : HOk P w H h) : CellsAt cl fr ws h (offC cl H) := by
  have lk : ∀ y c, cl.lookup y = some c → AtC cl c := fun y c e => ⟨_, PySem.mem_of_lookup e, rfl⟩
  refine ⟨W.len, fun y c e => ?_, W.inj, fun i y e => ?_⟩
  · obtain ⟨o, v, h1, h2⟩ := W.at_ (lk y c e)
    obtain ⟨z, _⟩ := ok _ _ h1
    exact ⟨offC_at (lk y c e), v, o, z, h2⟩
  · obtain ⟨c, h1, h2⟩ := W.has i y e
    refine ⟨c, h1, fun v hv => ?_⟩
    obtain ⟨u, o, r, h3, h4⟩ := h2 v hv
    obtain ⟨z, _⟩ := ok _ _ h3
    exact ⟨u, r, o, z, h4⟩
theorem WithC.hok {P : Program} {w : World} {h : Heap} (W : WithC cl fr ws H) (ok : HOk P w H h) : HOk P w (offC cl H) h := fun a o e => by
  obtain ⟨_, e'⟩ := offC_some e
  exact (ok a o e').stay (fun _ _ _ q => q) (fun b q => W.off q fun _ z => nomatch z) fun b xs q => W.off q fun _ z => nomatch z
theorem WithC.env0 {P : Program} {w : World} {K : PySem.W.Frag} {mg : Str → Option Value} {base : Heap} {A : Around} {outer : List Env} {s : Shared} (W : WithC cl fr ws H) (e : Env0 P w K mg base A outer s H) : Env0 P w K mg base A outer s (offC cl H) :=
  ⟨e.frames, e.mod, fun b o q => ⟨(e.bs b o q).1, offC_none (e.bs b o q).2⟩, e.bsz, e.funs, fun b hb => offC_none (e.frf b hb), W.hok e.hok, e.bare⟩
/-- behind the captured function's run: the cells are known again -/
theorem WithC.back {P : Program} {w : World} {outer : List Env} {s s' : Shared} {u : Value} {Q : VK} (W : WithC cl fr ws H) (ok : HOk P w H s.heap) (frf : ∀ b ∈ frs outer, H b = none)
    (h : CE outer P w (offC cl H) s (fun v H' => (∀ b, AtC cl b → H' b = none) → Q v (onC cl H H')) u s') : CE outer P w H s Q u s' := by
  obtain ⟨v, H', os, bare, un, hok, r, q⟩ := h
  have cg : ∀ {b}, AtC cl b → ∃ o, H b = some (.frz o (.own b)) ∧ s.heap.get? b = some o := fun {b} c => by
    obtain ⟨o, v, h1, _⟩ := W.at_ c
    obtain ⟨z, _⟩ := ok _ _ h1
    exact ⟨o, h1, z⟩
  have cn : ∀ {b}, AtC cl b → H' b = none := fun {b} c => by
    obtain ⟨o, _, h2⟩ := cg c
    exact un.free b o h2 (offC_at c) (by simp)
  have nof : ∀ {b}, AtC cl b → b ∉ frs outer := fun {b} c z => by
    obtain ⟨o, h1, _⟩ := cg c
    rw [frf b z] at h1; cases h1
  have nn : ∀ {b}, H b = none → ¬ AtC cl b := fun {b} n c => by
    obtain ⟨o, h1, _⟩ := cg c
    rw [n] at h1; cases h1
  refine ⟨v, onC cl H H', os, bare, ⟨fun b o e n hb hx => un.keep b o e (offC_none n) hb hx, fun b o e n hb hx => un.slot b o e (offC_none n) hb hx, fun b o e n hx => ?_, un.there, fun b xs e => ?_, fun b o x e => ?_, fun b ps e => ?_⟩, fun a o e => ?_, r, q fun b c => cn c⟩
  · rw [onC_ne (nn n)]
    exact un.free b o e (offC_none n) hx
  · by_cases c : AtC cl b
    · rw [onC_at c]; exact e
    · rw [onC_ne c]; exact un.tups b xs (by rw [offC_ne c]; exact e)
  · by_cases c : AtC cl b
    · rw [onC_at c]; exact e
    · rw [onC_ne c]; exact un.frzs b o x (by rw [offC_ne c]; exact e)
  · by_cases c : AtC cl b
    · exact ⟨#[], by rw [onC_at c, e]; simp⟩
    · obtain ⟨m, z⟩ := un.tbls b ps (by rw [offC_ne c]; exact e)
      exact ⟨m, by rw [onC_ne c]; exact z⟩
  · by_cases c : AtC cl a
    · rw [onC_at c] at e
      obtain ⟨o', h1, h2⟩ := cg c
      rw [h1] at e
      cases e
      have k := un.keep a o' h2 (offC_at c) (nof c) (by simp)
      exact ⟨k, o', k⟩
    · rw [onC_ne c] at e
      refine (hok a o e).stay (fun _ _ _ z => z) (fun b z => ?_) fun b xs z => ?_
      · rw [onC_ne fun k => by rw [cn k] at z; cases z]; exact z
      · rw [onC_ne fun k => by rw [cn k] at z; cases z]; exact z
end
/-- the promise of a function with captured cells, where these are known -/
noncomputable def capSp (cl : List (Str × Addr)) (ws : List (Option V)) (sp : List (Option V) → Sp) : Sp := fun vs H Q E => sp ws vs (offC cl H) (fun v H' => (∀ b, AtC cl b → H' b = none) → Q v (onC cl H H')) E
/-! ### what is returned new is known from now on -/
def Fzb : HO → Prop
  | .lst _ => True
  | .dK _ => True
  | _ => False
def frzSp (sp : Sp) : Sp := fun vs H Q E => sp vs H (fun v H' => ∃ a u, v = .ref a ∧ H a = none ∧ H' a = some u ∧ Fzb u ∧ ∀ o, Q v (upd H' a (.frz o u))) E
theorem ce_frz {outer : List Env} {P : Program} {w : World} {H : Hp} {s s' : Shared} {u : Value} {Q : VK} (h : CE outer P w H s (fun v H' => ∃ a u, v = .ref a ∧ H a = none ∧ H' a = some u ∧ Fzb u ∧ ∀ o, Q v (upd H' a (.frz o u))) u s') : CE outer P w H s Q u s' := by
  obtain ⟨v, H', os, bare, un, hok, r, a, x, rfl, h1, h2, hz, q⟩ := h
  have old : s.heap.get? a = none := by
    cases e : s.heap.get? a with
    | none => rfl
    | some o => rw [un.free a o e h1 (by simp)] at h2; cases h2
  obtain ⟨o, ho⟩ : ∃ o, s'.heap.get? a = some o := by
    have := hok a x h2
    cases x with
    | lst xs => obtain ⟨_, its, n, _, e⟩ := this; exact ⟨_, e⟩
    | dK kvs => obtain ⟨_, _, vs, _, ob, es, ep, e, _⟩ := this; exact ⟨_, e⟩
    | _ => exact hz.elim
  have ne : ∀ b y, H b = some y → b ≠ a := fun b y e z => by rw [z, h1] at e; cases e
  have nt : ∀ xs, x ≠ .tup xs := fun xs e => by rw [e] at hz; exact hz
  have no : ∀ y, x ≠ .own y := fun y e => by rw [e] at hz; exact hz
  refine ⟨.ref a, upd H' a (.frz o x), os, bare, ⟨un.keep, un.slot, fun b ob e n hx => ?_, un.there, fun b xs e => ?_, fun b ob y e => ?_, fun b ps e => ?_⟩, fun b y e => ?_, r, q o⟩
  · rw [upd_ne fun z => by rw [z, old] at e; cases e]
    exact un.free b ob e n hx
  · rw [upd_ne (ne _ _ e)]; exact un.tups b xs e
  · rw [upd_ne (ne _ _ e)]; exact un.frzs b ob y e
  · obtain ⟨m, z⟩ := un.tbls b ps e
    exact ⟨m, by rw [upd_ne (ne _ _ e)]; exact z⟩
  · have key : ∀ b y, H' b = some y → ObjOk P w (upd H' a (.frz o x)) s'.heap b y := fun b y e => (hok b y e).stay (fun _ _ _ z => z)
      (fun c z => by rw [upd_ne fun k => by rw [k, h2] at z; exact no _ (Option.some.inj z)]; exact z) fun c xs z => by rw [upd_ne fun k => by rw [k, h2] at z; exact nt _ (Option.some.inj z)]; exact z
    by_cases c : b = a
    · subst c
      rw [upd_same] at e
      cases e
      exact ⟨ho, key b x h2⟩
    · rw [upd_ne c] at e
      exact key b y e
section
variable {P : Program} {w : World} {K : PySem.W.Frag} {mg : Str → Option Value} {base : Heap} {k : Nat} {f : Addr} {ps fr : List Str}
theorem cr_frz {outer : List Env} {H : Hp} {s : Shared} {Q : VK} {E E' : XK} {r : Result} {s' : Shared} (h : CR CX0 outer P w H s (fun v H' => ∃ a u, v = .ref a ∧ H a = none ∧ H' a = some u ∧ Fzb u ∧ ∀ o, Q v (upd H' a (.frz o u))) E r s') : CR CX0 outer P w H s Q E' r s' := by
  cases r with
  | error e => exact h
  | ok fl =>
    cases fl with
    | ret u => exact ce_frz h
    | next => exact h
    | brk => exact h
    | cont => exact h
theorem nok_frz {F : NF} {sp : List (Option V) → Sp} (o : NOk P w K mg base CX0 k f F ps fr sp) : NOk P w K mg base CX0 k f F ps fr (fun ws => frzSp (sp ws)) :=
  ⟨fun ws vs H Q E q => o.len _ _ _ _ _ q, fun A outer s H us vs ws Q E hr e0 hf hc C r q => codeAny_mono (o.run A outer s H us vs ws _ E hr e0 hf hc C r q) fun r s' z => cr_frz z⟩
theorem fn_frz {fd : FuncData} {sp : Sp} (o : FnOk P w K mg base CX0 k f fd ps sp) : FnOk P w K mg base CX0 k f fd ps (frzSp sp) :=
  ⟨fun vs H Q E q => o.len _ _ _ _ q, fun A outer s H args us vs Q E hr e0 hb r q => codeAny_mono (o.run A outer s H args us vs _ E hr e0 hb r q) fun r s' z => cr_frz z⟩
end
/-! ### a call of a parameter that holds a function with captured cells -/
inductive CalC (P : Program) (w : World) (K : PySem.W.Frag) (mg : Str → Option Value) (base : Heap) (k : Nat) (f : Addr) (sp : Sp) (H : Hp) : Prop
  | pl (c : Cal P w K mg base k f sp H)
  | cap {F : NF} {ps fr : List Str} {ws : List (Option V)} {sp' : List (Option V) → Sp} (o : NOk P w K mg base CX0 k f F ps fr sp') (h : H f = some (FnO f F)) (hc : H F.c = some (CodeO F.c F.qual)) (W : WithC F.cl fr ws H) (e : ∀ vs H Q E, sp vs H Q E → capSp F.cl ws sp' vs H Q E)
theorem CalC.same {P : Program} {w : World} {K : PySem.W.Frag} {mg : Str → Option Value} {base : Heap} {k : Nat} {f : Addr} {sp : Sp} {H H' : Hp} (c : CalC P w K mg base k f sp H) (s : ∀ b F, H b = some (.ext F) → H' b = some (.ext F)) (z : ∀ b o u, H b = some (.frz o u) → H' b = some (.frz o u)) : CalC P w K mg base k f sp H' := by
  cases c with
  | pl c => exact .pl (c.same s)
  | cap o h hc W e => exact .cap o (s _ _ h) (s _ _ hc) (W.same z) e
def tCallZ (P : Program) (w : World) (K : PySem.W.Frag) (mg : Str → Option Value) (base : Heap) (k i : Nat) (t : TA) : TE := fun σ H Q => ∃ (f : Addr) (sp : Sp), σ[i]? = some (some (.ref f)) ∧ CalC P w K mg base k f sp H ∧
  t σ H fun vs H1 => CalC P w K mg base k f sp H1 ∧ (∀ b F, H b = some (.ext F) → H1 b = some (.ext F)) ∧ (∀ b o u, H b = some (.frz o u) → H1 b = some (.frz o u)) ∧ sp vs H1 Q (fun _ _ _ => False)
section
variable {X : Cx} {i j k : Nat} {x : Str} {p pos : Pos} {e : Expr} {es : List Expr} {t : TA}
theorem run_cap {pins : List (Addr × Obj)} {σ : L2.St} {H : Hp} {s : Shared} {Q : VK} {f : Addr} {F : NF} {ps fr : List Str} {ws : List (Option V)} {us : List Value} {vs : List V} {sp : List (Option V) → Sp} (o : NOk X.prog X.w X.K X.mg X.base CX0 k f F ps fr sp) (hr : Room j X.A) (hk : k ≤ j) (I : Inv X pins σ H s)
    (hf : H f = some (FnO f F)) (hc : H F.c = some (CodeO F.c F.qual)) (W : WithC F.cl fr ws H) (r : Vals vs us) (q : capSp F.cl ws sp vs H Q (fun _ _ _ => False)) :
    wpAny (model X.prog X.w) X.A (call (.ref f) us) (EP X pins σ Q) X.xe s := by
  refine wpAny_call (codeAny_mono (o.run X.A X.stack s (offC F.cl H) us vs ws _ _ (hr.mono hk) (W.env0 I.env0) (W.off hf fun _ e => nomatch e) (W.off hc fun _ e => nomatch e) (W.cells I.hok) r q) fun r s' hq => ?_)
  cases r with
  | error e => exact (show False from hq).elim
  | ok fl =>
    cases fl with
    | ret u => exact I.after (W.back I.hok I.stkFree hq)
    | next => exact False.elim hq
    | brk => exact False.elim hq
    | cont => exact False.elim hq
theorem pe_callZ (hr : Room j X.A) (hk : k ≤ j) (hN : X.N[i]? = some x) (hv : Vis X.env.scope x) (ha : PA X (e :: es) t)
    (hdb : (x == ("__debug__" : Str)) = false := by decide) (hcd : (x == ("__classdict__" : Str)) = false := by decide)
    (he : starEach (e :: es) X.env = (false, eval e X.env) :: starEach es X.env := by rfl) (hpl : (backTo pos (starEach es X.env)).any (·.1) = false := by rfl) :
    PE X (.Call (.Name x p) (e :: es) [] pos) (tCallZ X.prog X.w X.K X.mg X.base k i t) := by
  refine ⟨fun pins s σ H Q I ⟨f, sp, hs, hc, ht⟩ => ?_⟩
  cases hc with
  | pl c =>
    refine wpAny_Call_Name_kw (thn ((pe_var (pos := p) hN hv hdb hcd).run pins s σ H (fun v H1 => v = .ref f ∧ H1 = H) I ⟨.ref f, hs, rfl, rfl⟩) fun u s1 ⟨v, H1, I1, r1, q1, q2⟩ => ?_)
    subst q1 q2
    obtain rfl : u = Value.ref f := r1
    cases c with
    | @top fd ps o kp b =>
      refine PySem.W.callWith_K (h₀ := X.base) I.ok.mod.kin kp (thn (ha.run pos pins s1 σ _ _ I1 ht) fun us s2 ⟨vs, H2, I2, r, _, _, _, q⟩ => ⟨I2.kIn, ?_⟩) he hpl
      refine run_fn (dvs := []) (E := fun _ _ _ => False) o (hr.mono hk) b .nil pass0 I2 r ?_
      rw [List.append_nil]
      exact q
    | @made F ps o cl h hcode =>
      refine PySem.W.callWith_F (first := []) (fnAt_of I1 h) (thn (ha.run pos pins s1 σ _ _ I1 ht) fun us s2 ⟨vs, H2, I2, r, _, keep, _, q⟩ => ⟨fnAt_of I2 (keep _ _ h), ?_⟩) he hpl
      show wpAny _ _ (call (.ref f) us) _ _ _
      exact run_n (mk := fun _ => F) (js := []) (fr := []) (c' := f) (sp := fun _ _ _ => sp) o hr hk (E := fun _ _ _ => False) pass0 I2 (keep _ _ h) (keep _ _ hcode) (cells_none cl _ _) r q
    | @lam F ps o h hcode =>
      have fa : ∀ {s' : Shared} {H' : Hp}, Inv X pins σ H' s' → H' f = some (LamO f F) → PySem.W.FnAt f s'.heap := fun I' h' => by
        obtain ⟨pm, ctv, ho⟩ := lamO_at I'.hok h'
        exact ⟨_, _, _, _, ho⟩
      refine PySem.W.callWith_F (first := []) (fa I1 h) (thn (ha.run pos pins s1 σ _ _ I1 ht) fun us s2 ⟨vs, H2, I2, r, _, keep, _, q⟩ => ⟨fa I2 (keep _ _ h), ?_⟩) he hpl
      show wpAny _ _ (call (.ref f) us) _ _ _
      refine wpAny_call (codeAny_mono (o.run X.A X.stack s2 H2 us vs _ _ (hr.mono hk) I2.env0 (keep _ _ h) (keep _ _ hcode) r q) fun r s' hq => ?_)
      cases r with
      | error e => exact (show False from hq).elim
      | ok fl =>
        cases fl with
        | ret u => exact I2.after hq
        | next => exact False.elim hq
        | brk => exact False.elim hq
        | cont => exact False.elim hq
  | @cap F ps fr ws sp' o h hcode W hsp =>
    refine wpAny_Call_Name_kw (thn ((pe_var (pos := p) hN hv hdb hcd).run pins s σ H (fun v H1 => v = .ref f ∧ H1 = H) I ⟨.ref f, hs, rfl, rfl⟩) fun u s1 ⟨v, H1, I1, r1, q1, q2⟩ => ?_)
    subst q1 q2
    obtain rfl : u = Value.ref f := r1
    refine PySem.W.callWith_F (first := []) (fnAt_of I1 h) (thn (ha.run pos pins s1 σ _ _ I1 ht) fun us s2 ⟨vs, H2, I2, r, _, k1, k2, q⟩ => ⟨fnAt_of I2 (k1 _ _ h), ?_⟩) he hpl
    show wpAny _ _ (call (.ref f) us) _ _ _
    exact run_cap o hr hk I2 (k1 _ _ h) (k1 _ _ hcode) (W.same k2) r (hsp _ _ _ _ q)
end
/-! ### a call of a def of the top that is handed a function with captured cells -/
/-- H2 is H with the cells of cl known -/
structure Plus (cl : List (Str × Addr)) (fr : List Str) (ws : List (Option V)) (H H2 : Hp) : Prop where
  w : WithC cl fr ws H2
  no : ∀ b, AtC cl b → H b = none
  eq : ∀ b, ¬ AtC cl b → H2 b = H b
theorem Plus.same {cl : List (Str × Addr)} {fr : List Str} {ws : List (Option V)} {H H2 : Hp} (p : Plus cl fr ws H H2) : L2.Same H H2 := fun b o e => by
  rw [p.eq b fun c => by rw [p.no b c] at e; cases e]; exact e
theorem Plus.off {cl : List (Str × Addr)} {fr : List Str} {ws : List (Option V)} {H H2 H3 : Hp} (p : Plus cl fr ws H H2) (s : L2.Same H2 H3) : L2.Same H (offC cl H3) := fun b o e => by
  have n : ¬ AtC cl b := fun c => by rw [p.no b c] at e; cases e
  rw [offC_ne n]; exact s _ _ (p.same _ _ e)
theorem Plus.free {cl : List (Str × Addr)} {fr : List Str} {ws : List (Option V)} {H H2 H3 : Hp} (p : Plus cl fr ws H H2) (n : ∀ b, H3 b = none → H2 b = none) : ∀ b, offC cl H3 b = none → H b = none := fun b e => by
  by_cases c : AtC cl b
  · exact p.no b c
  · rw [offC_ne c] at e
    rw [← p.eq b c]; exact n b e
def tCallW (cl : List (Str × Addr)) (fr : List Str) (js : List Nat) (sp : Sp) (t : TA) : TE := fun σ H Q => t σ H fun vs H1 => ∀ H2, Plus cl fr (js.map (slotAt σ)) H1 H2 → sp vs H2 (fun v H3 => WithC cl fr (js.map (slotAt σ)) H3 → Q v (offC cl H3)) (fun _ _ _ => False)
section
variable {X : Cx} {pins : List (Addr × Obj)} {σ : L2.St} {H : Hp} {s : Shared} {cl : List (Str × Addr)} {fr : List Str} {js : List Nat}
open Classical in
/-- the running frame's cells, known -/
theorem plus_of (I : Inv X pins σ H s) (c : Caps X cl fr js) (mem : ∀ p ∈ cl, X.env.cells.lookup p.1 = some p.2) (hfn : ∀ p ∈ cl, X.fn p.1 = true) :
    ∃ H2, Plus cl fr (js.map (slotAt σ)) H H2 ∧ Env0 X.prog X.w X.K X.mg X.base X.A X.stack s H2 := by
  have C := cells_of I c
  have cg : ∀ b, AtC cl b → ∃ o v, s.heap.get? b = some o ∧ o.data = .cell v ∧ H b = none := fun b ⟨p, hp, e⟩ => by
    subst e
    obtain ⟨v, o, h1, h2⟩ := I.cell _ _ (mem p hp)
    exact ⟨o, v, h1, h2, I.freeC _ _ (mem p hp)⟩
  refine ⟨fun b => if AtC cl b then (s.heap.get? b).map fun o => .frz o (.own b) else H b, ⟨⟨C.len, C.inj, fun p hp => ?_, fun i y e => ?_⟩, fun b h => ?_, fun b h => if_neg h⟩, ?_⟩
  · obtain ⟨o, v, h1, h2, _⟩ := cg p.2 ⟨p, hp, rfl⟩
    exact ⟨o, v, (if_pos (⟨p, hp, rfl⟩ : AtC cl p.2)).trans (by rw [h1]; rfl), h2⟩
  · obtain ⟨a, h1, h2⟩ := C.has i y e
    refine ⟨a, h1, fun v hv => ?_⟩
    obtain ⟨u, r, o, h3, h4⟩ := h2 v hv
    have at_ : AtC cl a := ⟨_, PySem.mem_of_lookup h1, rfl⟩
    exact ⟨u, o, r, (if_pos at_).trans (by rw [h3]; rfl), h4⟩
  · obtain ⟨_, _, _, _, n⟩ := cg b h
    exact n
  · have e := I.env0
    have nc : ∀ b, AtC cl b → X.s_0.heap.objs.size ≤ b ∧ b ≠ X.env.locals := fun b ⟨p, hp, z⟩ => by
      subst z
      exact ⟨I.ok.cab _ _ (hfn p hp) (mem p hp), I.cne _ _ (mem p hp)⟩
    refine ⟨e.frames, e.mod, fun b o q => ⟨(e.bs b o q).1, ?_⟩, e.bsz, e.funs, fun b hb => ?_, fun a o q => ?_, e.bare⟩
    · refine (if_neg fun z => ?_).trans (e.bs b o q).2
      have h1 := (nc b z).1
      have h2 := Heap.lt_size (I.ok.bs b o q).1
      exact absurd (Nat.lt_of_lt_of_le h2 h1) (Nat.lt_irrefl _)
    · refine (if_neg fun z => ?_).trans (e.frf b hb)
      rcases List.mem_cons.mp (I.stkSub b hb) with k | k
      · exact (nc b z).2 k
      · obtain ⟨_, o, ho, _⟩ := I.ok.funs.mem k
        exact absurd (Nat.lt_of_lt_of_le (Heap.lt_size ho) (nc b z).1) (Nat.lt_irrefl _)
    · by_cases z : AtC cl a
      · obtain ⟨o', v, h1, h2, h3⟩ := cg a z
        have q' : (s.heap.get? a).map (fun o => HO.frz o (.own a)) = some o := (if_pos z).symm.trans q
        rw [h1] at q'
        cases q'
        exact ⟨h1, o', h1⟩
      · have q' : H a = some o := (if_neg z).symm.trans q
        refine (I.hok a o q').stay (fun _ _ _ k => k) (fun b k => ?_) fun b xs k => ?_
        · refine (if_neg fun z2 => ?_).trans k
          obtain ⟨_, _, _, _, n⟩ := cg b z2
          rw [n] at k; cases k
        · refine (if_neg fun z2 => ?_).trans k
          obtain ⟨_, _, _, _, n⟩ := cg b z2
          rw [n] at k; cases k
/-- behind the call the cells are the frame's again -/
theorem plus_back {P : Program} {w : World} {outer : List Env} {H2 : Hp} {s' : Shared} {u : Value} {Q : VK} {ws : List (Option V)} (p : Plus cl fr ws H H2) (ok : HOk P w H2 s.heap) (frf : ∀ b ∈ frs outer, H2 b = none)
    (h : CE outer P w H2 s (fun v H3 => WithC cl fr ws H3 → Q v (offC cl H3)) u s') : CE outer P w H s Q u s' := by
  obtain ⟨v, H3, os, bare, un, hok, r, q⟩ := h
  have W3 := p.w.same un.frzs
  have cg : ∀ {b}, AtC cl b → ∃ o, H2 b = some (.frz o (.own b)) ∧ s.heap.get? b = some o := fun {b} c => by
    obtain ⟨o, v, h1, _⟩ := p.w.at_ c
    obtain ⟨z, _⟩ := ok _ _ h1
    exact ⟨o, h1, z⟩
  have ks : ∀ b o, s.heap.get? b = some o → AtC cl b → s'.heap.get? b = some o := fun b o e c => by
    obtain ⟨o', h1, h2⟩ := cg c
    rw [h2] at e
    cases e
    obtain ⟨z, _⟩ := hok _ _ (un.frzs _ _ _ h1)
    exact z
  have nn : ∀ {b y}, H b = some y → ¬ AtC cl b := fun {b y} e c => by rw [p.no b c] at e; cases e
  refine ⟨v, offC cl H3, os, bare, ⟨fun b o e n hb hx => ?_, fun b o e n hb hx => ?_, fun b o e n hx => ?_, un.there, fun b xs e => ?_, fun b o x e => ?_, fun b ps e => ?_⟩, W3.hok hok, r, q W3⟩
  · by_cases c : AtC cl b
    · exact ks b o e c
    · exact un.keep b o e ((p.eq b c).trans n) hb hx
  · by_cases c : AtC cl b
    · exact ⟨o.slots, ks b o e c⟩
    · exact un.slot b o e ((p.eq b c).trans n) hb hx
  · by_cases c : AtC cl b
    · exact offC_at c
    · exact offC_none (un.free b o e ((p.eq b c).trans n) hx)
  · rw [offC_ne (nn e)]
    exact un.tups b xs ((p.eq b (nn e)).trans e)
  · rw [offC_ne (nn e)]
    exact un.frzs b o x ((p.eq b (nn e)).trans e)
  · rw [offC_ne (nn e)]
    exact un.tbls b ps ((p.eq b (nn e)).trans e)
variable {k : Nat} {f : Addr} {fd : FuncData} {ps : List Str} {sp : Sp} {x : Str} {p pos : Pos} {e : Expr} {es : List Expr} {t : TA}
theorem pe_callW (F : FnOk X.prog X.w X.K X.mg X.base CX0 k f fd ps sp) (hr : Room k X.A) (hg : Gl X x) (hm : X.mg x = some (.ref f)) (hk : PySem.W.keepIn X.K (.ref f) = true) (hb : Binds X.K fd ps [])
    (cp : X.Ok → Caps X cl fr js) (mem : X.Ok → ∀ p ∈ cl, X.env.cells.lookup p.1 = some p.2) (hfn : ∀ p ∈ cl, X.fn p.1 = true)
    (ha : PA X (e :: es) t) (hdb : (x == ("__debug__" : Str)) = false := by decide) (he : starEach (e :: es) X.env = (false, eval e X.env) :: starEach es X.env := by rfl) (hpl : (backTo pos (starEach es X.env)).any (·.1) = false := by rfl) :
    PE X (.Call (.Name x p) (e :: es) [] pos) (tCallW cl fr js sp t) := by
  refine ⟨fun pins s σ H Q I h => ?_⟩
  refine wpAny_Call_Name_kw (ld_glob I hg hm ?_ hdb)
  refine PySem.W.callWith_K (h₀ := X.base) I.ok.mod.kin hk (thn (ha.run pos pins s σ H _ I h) fun us s1 ⟨vs, H1, I1, r, q⟩ => ⟨I1.kIn, ?_⟩) he hpl
  obtain ⟨H2, pl, e2⟩ := plus_of I1 (cp I1.ok) (mem I1.ok) hfn
  have q2 := q H2 pl
  have hl : us.length = ps.length := by rw [← r.length]; exact F.len _ _ _ _ q2
  have hb' := hb s1 us I1.kIn (by rw [List.append_nil]; exact hl)
  rw [List.append_nil] at hb'
  show wpAny _ _ (call (.ref f) us) _ _ _
  refine wpAny_call (codeAny_mono (F.run X.A X.stack s1 H2 ⟨us, []⟩ us vs _ _ hr e2 hb' r q2) fun r s' hq => ?_)
  cases r with
  | error e => exact (show False from hq).elim
  | ok fl =>
    cases fl with
    | ret u => exact I1.after (plus_back pl e2.hok e2.frf hq)
    | next => exact False.elim hq
    | brk => exact False.elim hq
    | cont => exact False.elim hq
/-- the members of a made function's cells -/
theorem clo_mem {cells : List (Str × Addr)} {names : List (Str × NameKind)} (hfree : ∀ y ∈ names, y.2 = .free → ∃ c, cells.lookup y.1 = some c) : ∀ p ∈ cloFrom cells names [], cells.lookup p.1 = some p.2 := fun p hp => by
  rcases cloFrom_mem (show (p.1, p.2) ∈ _ from hp) with hm | ⟨h1, h2⟩
  · cases hm
  · obtain ⟨c1, hc⟩ := hfree _ h1 rfl
    have hc : cells.lookup p.1 = some c1 := hc
    have e2 : p.2 = c1 := by
      rw [h2, hc] <;> rfl
    rw [e2]
    exact hc
theorem caps_mem {scope : Scope} (ok : X.Ok) (hfree : ∀ y ∈ scope.names, y.2 = .free → X.env.scope.names.lookup y.1 = some .cell ∨ X.env.scope.names.lookup y.1 = some .free) : ∀ p ∈ cloFrom X.env.cells scope.names [], X.env.cells.lookup p.1 = some p.2 :=
  clo_mem fun y hy e => (hfree y hy e).elim (fun z => ok.has _ (.inl z)) fun z => ok.has _ (.inr z)
end
end E

set_option Elab.async false
set_option linter.all false
set_option maxRecDepth 100000
set_option maxHeartbeats 4000000
/-! max(xs, default=d) of a list of whole numbers -/
namespace E
open PySem PySem.Spec PySem.W PySem.Calls PyProof.Rows L2
theorem dflt_args (a v : Value) : argsOk "max" ⟨[a], [(Str.ofString "default", v)]⟩ := by unfold argsOk; kernel_rfl
/-- the best of the first j, twice; nothing of none -/
inductive Two (P : Nat → Value → Prop) (bt : Nat → Nat → Bool) : Nat → Array Value → Prop
  | no : Two P bt 0 #[]
  | yes {j : Nat} {v : Value} (h : P (argBest bt j) v) : Two P bt (j + 1) #[v, v]
section
variable {prog : Program} {w : World} {A : Around} {R : Result → Shared → Prop} {I : Addr} {fp wr : List Addr} {n : Nat} {P : Nat → Value → Prop} {St : Nat → Heap → Prop}
theorem max_turns {d : Value} (W : Walks prog w A.in1 I fp wr n P St) (bt : Nat → Nat → Bool) (cmp : CmpOf prog w A.in1 .Gt P bt) (S : Addr) (out : S ∉ fp) :
    ∀ (left j : Nat) (s : Shared) (two : Array Value) (c : Nat), j + left = n → St j s.heap → Two P bt j two → s.heap.get? S = some { cls := .type "list", dict := none, data := .seq two c, slots := #[] } →
    (∀ v h' tk, (n = 0 ∧ v = d ∨ 0 < n ∧ P (argBest bt (n - 1)) v) → (∀ b o, b ∉ wr → b ≠ S → s.heap.get? b = some o → h'.get? b = some o) → R (.ok (.ret v)) { s with heap := h', toks := tk }) →
    codeAny (model prog w) A (.builtin "max.loop" ⟨[.ref I, .none, .ref S], [(Str.ofString "default", d)]⟩) R s := by
  have Sw : S ∉ wr := fun z => out (W.sub _ z)
  have again : (toString "max" ++ toString ".loop" : String) = "max.loop" := by decide
  intro left
  induction left with
  | zero =>
    intro j s two c hj st best at_ fin
    refine codeAny_builtin PySem.F.entry_max_loop ?_
    rw [Around.under_plainId PySem.F.plain_max_loop _]
    refine wpAny_bind (m := seqItems? (.ref S)) (wpAny_seqItems at_ rfl ?_)
    cases best with
    | no =>
      refine wpAny_bind (wpAny_tryCatch (W.done s _ _ (by rw [← hj]; exact st) fun h' tk keep => ?_))
      exact wpAny_bind (m := rule _) (wpAny_rule (wpAny_pure (fin d h' tk (.inl ⟨by omega, rfl⟩) fun b o nb _ e => keep b o nb e)))
    | @yes k v good =>
      refine wpAny_bind (wpAny_tryCatch (W.done s _ _ (by rw [← hj]; exact st) fun h' tk keep => ?_))
      refine wpAny_bind (m := updateSeq S fun _ => #[]) (wpAny_updateSeq (keep S _ Sw at_) rfl (wpAny_bind (wpAny_letGo (wpAny_pure ?_))))
      refine fin v _ tk (.inr ⟨by omega, by rw [show n - 1 = k by omega]; exact good⟩) fun b o nb nS e => ?_
      rw [Heap.get?_update_other _ _ (Ne.symm nS)]
      exact keep b o nb e
  | succ left ih =>
    intro j s two c hj st best at_ fin
    refine codeAny_builtin PySem.F.entry_max_loop ?_
    rw [Around.under_plainId PySem.F.plain_max_loop _]
    refine wpAny_bind (m := seqItems? (.ref S)) (wpAny_seqItems at_ rfl ?_)
    have more : j < n := by omega
    cases best with
    | no =>
      refine wpAny_bind (wpAny_tryCatch (W.item 0 s _ _ more st fun v h' tk isP st' keep => ?_))
      have at2 := keep S _ Sw at_
      refine wpAny_bind (m := updateSeq S fun _ => #[v, v]) (wpAny_updateSeq at2 rfl ?_)
      rw [again]
      refine wpAny_pure ⟨plainId_quiet PySem.F.plain_max_loop _, ih 1 _ _ _ (by omega) (W.frame _ _ _ st' fun b hb o e => ?_) (.yes isP) (Heap.get?_update_self _ at2 rfl) fun u h2 tk2 hu keep2 => fin u h2 tk2 hu fun b o nb nS e => ?_⟩
      · rw [Heap.get?_update_other _ _ fun z : S = b => out (by rw [z]; exact hb)]
        exact e
      · refine keep2 b o nb nS ?_
        rw [Heap.get?_update_other _ _ (Ne.symm nS)]
        exact keep b o nb e
    | @yes k vb good =>
      refine wpAny_bind (wpAny_tryCatch (W.item (k + 1) s _ _ more st fun v h' tk isP st' keep => ?_))
      have at2 := keep S _ Sw at_
      refine wpAny_bind (m := pure v) (wpAny_pure ?_)
      show wpAny _ A.in1 (tryCatch (holding [v, v] (richCompare .Gt v vb >>= _)) _ >>= _) _ _ _
      refine wpAny_bind (wpAny_tryCatch (wpAny_holding (wpAny_bind (cmp (k + 1) (argBest bt k) v vb _ _ _ isP good ?_))))
      refine wpAny_bind (wpAny_holding (wpAny_truthy_bool ?_))
      refine wpAny_bind (wpAny_letGo (wpAny_pure ?_))
      cases better : bt (k + 1) (argBest bt k) with
      | true =>
        rw [if_pos rfl]
        refine wpAny_bind (m := updateSeq S fun _ => #[v, v]) (wpAny_updateSeq at2 rfl (wpAny_bind (wpAny_letGo ?_)))
        rw [again]
        refine wpAny_pure ⟨plainId_quiet PySem.F.plain_max_loop _, ih (k + 2) _ _ _ (by omega) (W.frame _ _ _ st' fun b hb o e => ?_) (.yes (by rw [argBest, better, if_pos rfl]; exact isP)) (Heap.get?_update_self _ at2 rfl) fun u h2 tk2 hu keep2 => fin u h2 tk2 hu fun b o nb nS e => ?_⟩
        · rw [Heap.get?_update_other _ _ fun z : S = b => out (by rw [z]; exact hb)]
          exact e
        · refine keep2 b o nb nS ?_
          rw [Heap.get?_update_other _ _ (Ne.symm nS)]
          exact keep b o nb e
      | false =>
        rw [if_neg Bool.false_ne_true]
        refine wpAny_bind (wpAny_letGo ?_)
        rw [again]
        exact wpAny_pure ⟨plainId_quiet PySem.F.plain_max_loop _, ih (k + 2) _ _ c (by omega) st' (.yes (by rw [argBest, better, if_neg Bool.false_ne_true]; exact good)) at2 fun u h2 tk2 hu keep2 => fin u h2 tk2 hu fun b o nb nS e => keep2 b o nb nS (keep b o nb e)⟩
end
section
variable {prog : Program} {w : World} {A : Around} {E : Value → Shared → Prop} {s : Shared} {l : Addr} {its : List Value} {ns : List Int} {Q : Value → Shared → Prop} {d : Value}
theorem max_dflt (hh : A.handled = none) (hl : s.heap.IsList l its.toArray) (hi : IntsAre its ns)
    (h : ∀ v h' tk, (∀ b o, s.heap.get? b = some o → h'.get? b = some o) → (ns = [] ∧ v = d ∨ ∃ m t, v = .int m t ∧ m ∈ ns ∧ ∀ a, a ∈ ns → a ≤ m) → Q v { s with heap := h', toks := tk }) :
    wpAny (model prog w) A (call (.builtin "max") [.ref l] [(Str.ofString "default", d)]) Q E s := by
  obtain ⟨xs, e⟩ := hi.allInts.items
  have hn : numsOf (intItems xs).toList = ns := by rw [← e]; exact hi.numsOf
  rw [nums_intItems] at hn
  subst hn
  rw [e] at hl
  have again : (toString "max" ++ toString ".loop" : String) = "max.loop" := by decide
  refine kmk_tree PySem.F.kind_max PySem.F.plain_max PySem.F.entry_max (dflt_args _ _) ?_
  refine wpAny_bind (m := Builtin.Builtins.bindParams "max" ["key", "default"] 0 ⟨[], [(Str.ofString "default", d)]⟩) (wpAny_of_eq (show Builtin.Builtins.bindParams "max" ["key", "default"] 0 ⟨[], [(Str.ofString "default", d)]⟩ = pure [none, some d] from rfl) ?_)
  refine wpAny_bind (wpAny_pure ?_)
  refine wpAny_bind (iter_intList hl fun s₂ e2 st below own => ?_)
  subst e2
  refine wpAny_bind (wpAny_newObj_type ?_)
  rw [again]
  have W := Walks.list (prog := prog) (w := w) (A := A.in1) hh s.heap.objs.size l own (intItems xs)
  refine wpAny_pure ⟨plainId_quiet PySem.F.plain_max_loop _, max_turns W _ (CmpOf.ints_gt (numAt xs) fun _ _ => intItems_at) _ (fun z => Nat.lt_irrefl _ (below _ z)) _ 0 _ _ _ (Nat.zero_add _) (W.frame _ _ _ st fun b _ o z => Heap.get?_push_of_some _ z) .no (Heap.get?_push_size _ rfl) fun v h' tk hv keep => ?_⟩
  refine h v h' tk (fun b o z => keep b o ?_ ?_ (Heap.get?_push_of_some _ (Heap.get?_push_of_some _ z))) ?_
  · exact fun m => Nat.ne_of_lt (Heap.lt_size z) (List.mem_singleton.mp m)
  · exact Nat.ne_of_lt (Nat.lt_of_lt_of_le (Heap.lt_size z) (by rw [Heap.size_push]; exact Nat.le_succ _))
  · have sz : (intItems xs).size = xs.size := by simp [intItems]
    rcases hv with ⟨z, rfl⟩ | ⟨z, hv⟩
    · left
      rw [sz] at z
      exact ⟨by simpa using z, rfl⟩
    · right
      rw [sz] at z hv
      obtain ⟨t, rfl⟩ := intItems_at hv
      obtain ⟨h1, h2⟩ := argBest_gt (numAt xs) (xs.size - 1)
      refine ⟨_, t, rfl, ?_, fun a ha => ?_⟩
      · rw [numAt_eq]
        exact PySem.getD_mem (by rw [List.length_map, Array.length_toList]; omega)
      · obtain ⟨j, hj, rfl⟩ := mem_getD ha
        rw [List.length_map, Array.length_toList] at hj
        rw [← numAt_eq]
        exact h2 j (by omega)
end
def rMaxD (K : PySem.W.Frag) : List V → List V → Hp → VK → Prop := fun vs zs H Q => ∃ (a : Addr) (ns : List Int) (d : Int), vs = [V.ref a] ∧ zs = [V.int d] ∧ SqL K H a (ns.map V.int) ∧ ∀ m : Int, (ns = [] ∧ m = d ∨ m ∈ ns ∧ ∀ y, y ∈ ns → y ≤ m) → Q (.int m) H
theorem cr_maxD {X : Cx} (hc : X.calm = true) : CallRK X (.builtin "max") [Str.ofString "default"] (rMaxD X.K) := by
  intro pins s σ H xs zs us ws Q I r r2 h
  obtain ⟨a, ns, d, rfl, rfl, hs, q⟩ := h
  obtain ⟨its, rv, hl, _⟩ := I.list hs
  rw [Vals.ref1 r]
  match ws, r2 with
  | [u], .cons hu .nil =>
    obtain ⟨t0, rfl⟩ := hu
    refine max_dflt (I.ok.hd hc) hl.isList rv.ints fun v h' tk keep hv => ?_
    rcases hv with ⟨z, rfl⟩ | ⟨m, t, rfl, h1, h2⟩
    · exact ⟨.int d, H, I.kept keep, ⟨_, rfl⟩, q d (.inl ⟨z, rfl⟩)⟩
    · exact ⟨.int m, H, I.kept keep, ⟨_, rfl⟩, q m (.inr ⟨h1, h2⟩)⟩
end E

set_option Elab.async false
set_option linter.all false
set_option maxRecDepth 100000
set_option maxHeartbeats 4000000
/-! try .. except C as e .. else .. -/
namespace E
open PySem PySem.Spec PyProof.Rows L2
/-- the reading of try .. except C as e .. else .. -/
def tTryE (K : PySem.W.Frag) (c : Value) (i : Nat) (ts : Addr → Value → Option Addr → L2.TS) (tb : WX → L2.TS) (u : L2.TS) (Wout : WX) : L2.TS := fun D σ H => tb (wAs K c i ts Wout D) { D with nx := u D } σ H
section
variable {X : Cx} {x n : Str} {c : Value} {i : Nat} {body suite : List Stmt} {b₀ : Stmt} {np pos pos' : Pos} {tb : WX → L2.TS} {ts : Addr → Value → Option Addr → L2.TS} {Wout : WX}
theorem ps_try_asE {other : List Stmt} {u : L2.TS} (els : PSs X other u) (top : X.stack = X.env :: X.outer) (fr : X.env.frame = some X.env.locals) (nd : X.N.Nodup) (at_ : X.N[i]? = some n) (loc : X.env.kindOf n = some .local) (names : Names X x c) (tk : Takes X Wout)
    (tried : ∀ (W : WX) (pn : List (Addr × Obj)) (xe : Value → Shared → Prop), Takes (X.tr pn xe) W → PassesOwn (model X.prog X.w) X.A X.env xe → PSs (X.tr pn xe) body (tb W))
    (caught : ∀ (a : Addr) (oe : Obj) (cls : Value) (d : Option Addr) (pn : List (Addr × Obj)), Zc cls d oe → (∃ vs, oe.data = .fields vs) → PSs (X.suite a ((a, oe) :: pn)) (b₀ :: suite) (ts a cls d)) :
    PS X (.Try body [.ExceptHandler (some (.Name x np)) (some n) (b₀ :: suite) pos'] other [] pos) (tTryE X.K c i ts tb u Wout) := by
  refine ⟨fun pins s σ H D I h => wpAny_Try_except ?_⟩
  have ok := I.ok
  have frames : X.A.frames = some (X.env :: X.outer) := ok.frames.trans (by rw [top])
  refine wpAny_mono ((tried (wAs X.K c i ts Wout D) (X.pn ++ pins) _ (fun e s' flies => ?_) PassesOwn.looking).run [] s σ H { D with nx := u D } (I.toTry _) h) (fun f s1 r => ?_) fun e s1 z => z
  · obtain ⟨a, B, sI, pins', σ', H', cls, d, rfl, J', nb, up, sky, na, os, ag, b, test, yes, no⟩ := flies
    have J : Inv X pins σ' H' sI := J'.ofTry ok
    show wpAny (model X.prog X.w) X.A (noteFrame (.ref a) X.env) _ _ _
    refine Sky.land (Z := Zc cls d) Zc.steady frames fr (by rw [← top]; exact sky) fun h3 fl3 up3 => ?_
    have J3 : Inv X pins σ' H' { s' with heap := h3 } := J.landed nb fl3.1 (up.trans up3) os ag
    obtain ⟨oe, vs, at3, z3, data3⟩ := fl3.there
    have alone : a ∉ frs (X.env :: X.outer) := fun m => by
      obtain ⟨_, o', e', notFrame⟩ := fl3.2.2.1.mem m
      rw [at3] at e'
      cases e'
      exact notFrame _ data3
    have nL : a ≠ X.env.locals := fun z => alone (List.mem_filterMap.mpr ⟨X.env, List.mem_cons_self, by rw [fr, z]⟩)
    have nF : a ∉ X.fs := fun m => by
      obtain ⟨e, he, q⟩ := List.mem_filterMap.mp m
      exact alone (List.mem_filterMap.mpr ⟨e, List.mem_cons_of_mem _ he, q⟩)
    have S3 := J3.suite at3 data3 na nL nF
    refine wpAny_handleBy_cons (codeAny_handlers_test ?_) (by intro q; cases q)
    have kind := PySem.W.exm_one (M := model X.prog X.w) J3.kIn (fun A Q E s k q => wpAny_typeOf_ref (k _ _ at3) (by rw [z3.1]; exact q)) test
    have look : wpAny (model X.prog X.w) (X.A.mark (some (.ref a))) (eval (.Name x np) X.env) (fun v s4 => v = c ∧ s4 = { s' with heap := h3 }) (fun _ _ => False) { s' with heap := h3 } := by
      obtain ⟨gl, dbg, m | ⟨m, bv, nn⟩⟩ := names
      · exact ld_glob (X := X.suite a ((a, oe) :: (X.pn ++ pins))) S3 gl m ⟨rfl, rfl⟩ dbg
      · exact ld_blt (X := X.suite a ((a, oe) :: (X.pn ++ pins))) S3 gl m bv ⟨rfl, rfl⟩ nn dbg
    refine wpAny_mono look (fun v s4 ⟨ev, es⟩ => ?_) fun _ _ z => z.elim
    subst ev es
    refine kind.here ?_
    cases b with
    | true =>
      refine codeAny_handlers_suite_as (HandSPX.lands_againZ fl3 fun h4 fl4 up4 => ?_)
      obtain ⟨oe4, vs4, at4, z4, data4⟩ := fl4.there
      have J4 : Inv X pins σ' H' { s' with heap := h4 } := J.landed nb fl4.1 ((up.trans up3).trans up4) os ag
      have S4 := J4.suite at4 data4 na nL nF
      refine store_ok (X := X.suite a ((a, oe4) :: (X.pn ++ pins))) (v := .ref a) S4 nd at_ (.inl loc) rfl (fun s5 S5 => ?_) (.inr loc)
      refine wpAny_mono ((caught a oe4 cls d (X.pn ++ pins) z4 ⟨_, data4⟩).run [] s5 _ H' _ S5 (yes rfl a na)) (fun f s6 r6 => ?_) fun _ _ z => z.elim
      cases f with
      | ret w =>
        obtain ⟨v6, σ6, H6, S6, rel6, q6⟩ := r6
        exact gone_ok (S6.unsuite ok) nd at_ loc fun s7 J7 => ⟨_, _, _, J7, rel6, q6⟩
      | next =>
        obtain ⟨σ6, H6, S6, q6⟩ := r6
        exact gone_ok (S6.unsuite ok) nd at_ loc fun s7 J7 => ⟨_, _, J7, q6⟩
      | brk =>
        obtain ⟨σ6, H6, S6, q6⟩ := r6
        exact gone_ok (S6.unsuite ok) nd at_ loc fun s7 J7 => ⟨_, _, J7, q6⟩
      | cont =>
        obtain ⟨σ6, H6, S6, q6⟩ := r6
        exact gone_ok (S6.unsuite ok) nd at_ loc fun s7 J7 => ⟨_, _, J7, q6⟩
    | false =>
      show wpAny _ X.A (handleBy (.ref a) X.env []) _ _ _
      obtain ⟨_, _, _, oe5, vs5, T, oT, ts5, at5, z5, data5, tr5, hr5⟩ := id fl3
      refine wpAny_handleBy_nil ?_
      unfold PySem.passOn
      refine wpAny_bind (wpAny_field at5 data5 tr5 ?_)
      rw [if_neg (show ¬ ((Value.ref T == Value.none) = true) from by simp)]
      have on : wpAny (model X.prog X.w) X.A (setFlight (.ref a) X.env.frame) (fun _ s4 => wpAny (model X.prog X.w) X.A (throw (.ref a) : Sem Flow) (SP X pins D) X.xe s4) X.xe { s' with heap := h3 } := by
        rw [fr]
        exact HandSPX.setFlight_upZ fl3 fun h4 hh4 up4 => wpAny_throw (tk _ _ ⟨a, B, sI, pins, σ', H', cls, d, rfl, J, nb, (up.trans up3).trans up4, .inr (.inr (by rw [top]; exact hh4)), na, os, ag, no rfl⟩)
      first
        | exact wpAny_bind (wpAny_pure (wpAny_bind on))
        | exact wpAny_bind on
  · cases f with
    | ret w =>
      obtain ⟨v, σ', H', J', rel, q⟩ := r
      exact ⟨v, σ', H', J'.ofTry ok, rel, q⟩
    | next =>
      obtain ⟨σ', H', J', q⟩ := r
      exact els.run pins s1 σ' H' D (J'.ofTry ok) q
    | brk =>
      obtain ⟨σ', H', J', q⟩ := r
      exact ⟨σ', H', J'.ofTry ok, q⟩
    | cont =>
      obtain ⟨σ', H', J', q⟩ := r
      exact ⟨σ', H', J'.ofTry ok, q⟩
end
end E

set_option Elab.async false
set_option linter.all false
set_option maxRecDepth 100000
set_option maxHeartbeats 4000000
namespace E
open PySem PySem.Spec PyProof.Rows L2
/-! ### a dict comprehension that is given to a local -/
section
variable {X : Cx}
theorem ps_setDc {kx vx tg iter : Expr} {ifs : List Expr} {scope : Scope} {own : List (Str × Nat)} {wi : TI} {g : TG} {tt : TT} {tk tv : TE}
    {i : Nat} {y : Str} {py pos spos : Pos} (calm : X.calm = true) (nodup : X.N.Nodup) (slot : X.N[i]? = some y)
    (loc : X.env.scope.names.lookup y = some .local)
    (sw : swapsWith (.DictComp kx vx [⟨tg, iter, ifs, 0⟩] scope pos) (some (.Name y py)) spos.line X.env = pure true)
    (walk : PI X tg iter wi) (blk : BlkOk X.N X.env.scope scope own)
    (ptg : ∀ s H C cl fp, PG (X.blk s H scope (compEnvC scope cl C X.env) fp) tg g)
    (pts : ∀ s H C cl fp, PTs (X.blk s H scope (compEnvC scope cl C X.env) fp) ifs tt)
    (pk : ∀ s H C cl fp, PE (X.blk s H scope (compEnvC scope cl C X.env) fp) kx tk)
    (pv : ∀ s H C cl fp, PE (X.blk s H scope (compEnvC scope cl C X.env) fp) vx tv)
    (fs : ∀ x, foldedSetIterable iter X.env x = pure x := by intro _; rfl) :
    PS X (.Assign [.Name y py] (.DictComp kx vx [⟨tg, iter, ifs, 0⟩] scope pos) spos) (tAsg (tDc wi g tt tk tv (own.map (·.2))) (gName i)) := by
  constructor
  intro pins s σ H D I h
  rw [exec_Assign_Name_used _ _ _ _ sw]
  apply wpAny_bind
  apply wpAny_standAt
  apply wpAny_bind
  have h2 : tDc wi g tt tk tv (own.map (·.2)) σ H fun x H1 => gName i x σ H1 D.nx := h
  show wpAny _ X.A (do
    let _ ← comprehension (.DictComp kx vx [⟨tg, iter, ifs, 0⟩] scope pos) scope X.env (firstIterPos [⟨tg, iter, ifs, 0⟩] pos) newDict false (eval iter X.env) (some (assign (.Name y py) X.env))) _ _ s
  refine wpAny_bind (thn (dc_core (Qf := fun _ s' => SP X pins D .next s') calm nodup I walk blk ptg pts pk pv fs h2 ?_) fun _ _ hq => wpAny_pure (wpAny_pure hq))
  intro L C s' m H' I' q hn fp
  show wpAny _ _ (assign (.Name y py) X.env (.ref L)) _ _ _
  refine wpAny_assign_Name (store_ok2 (v := V.ref L) I' nodup slot (.inl loc) rfl ?_ (.inr loc))
  rintro s2 I2 ⟨a, sb, ha⟩
  have e0 := fp.1
  have e1 := fp.2.1
  have e2 := fp.2.2.1
  have e3 := fp.2.2.2.1
  have e4 := fp.2.2.2.2.1
  have e5 := fp.2.2.2.2.2
  have ne : C ≠ a := by
    cases ha with
    | inl z => exact z ▸ e1
    | inr z => exact fun e => e4 y a z e.symm
  exact ⟨m, hn.sameBut sb ne, fun h3 sb3 => ⟨_, H', I2.turned (t' := s2.toks) (fun b o hb e => (sb3.2 b hb).trans e) e0 e1 e3 e4 e5, q⟩⟩
end
theorem sw_trueD {kx vx : Expr} {gs : List Comprehension} {scope : Scope} {pos py : Pos} {y : Str} {l : Nat} {env : Env} (fn : env.scope.kind = .function) (loc : env.scope.names.lookup y = some .local)
    (line : (py.line == pos.line) = true) (off : (scope.names.any fun (n, k) => n == y && (k == .local || k == .cell)) = false) :
    swapsWith (.DictComp kx vx gs scope pos) (some (.Name y py)) l env = pure true := by
  have k1 : env.kindOf y = some .local := loc
  have k2 : env.blockKind = .function := by
    unfold Env.blockKind
    rw [fn]
    rfl
  unfold swapsWith
  simp only [k2, k1, off, Expr.pos, line]
  rfl
end E

set_option Elab.async false
set_option linter.all false
set_option maxRecDepth 100000
set_option maxHeartbeats 4000000
namespace DL
open PySem PySem.Spec PyProof.Rows L2 E
/-! ### values as data -/
inductive D where
  | non | bl (b : Bool) | int (i : Int) | str (x : Str) | raw (v : V)
  | tup (xs : List D) | lst (xs : List D) | dct (kvs : List (Key × D)) | obj (C : Addr) (fs : List (Str × D))
/-- a known list, a known dict -/
def FzL (K : PySem.W.Frag) (H : Hp) (a : Addr) (xs : List V) : Prop := (∃ o, H a = some (.frz o (.lst xs))) ∨ ∃ (o : Obj) (its : Array Value) (n : Nat), K.lookup a = some o ∧ o.cls = .type "list" ∧ o.dict = none ∧ o.data = .seq its n ∧ its.size ≤ sizeLine ∧ Vals xs its.toList
def FzD (H : Hp) (a : Addr) (kvs : List (Key × V)) : Prop := ∃ o, H a = some (.frz o (.dK kvs))
mutual
inductive Z (K : PySem.W.Frag) (H : Hp) : V → D → Prop
  | non : Z K H .non .non
  | bl (b : Bool) : Z K H (.bl b) (.bl b)
  | int (i : Int) : Z K H (.int i) (.int i)
  | str (x : Str) : Z K H (.str x) (.str x)
  | raw (v : V) : Z K H v (.raw v)
  | tup {a : Addr} {xs : List V} {ds : List D} (h : SqT K H a xs) (l : ZA K H xs ds) (tr : ∀ y : Str, ds = [.str "var", .str y] → H a = some (.tup xs)) : Z K H (.ref a) (.tup ds)
  | lst {a : Addr} {xs : List V} {ds : List D} (h : FzL K H a xs) (l : ZA K H xs ds) : Z K H (.ref a) (.lst ds)
  | dct {a : Addr} {xs : List (Key × V)} {ds : List (Key × D)} (h : FzD H a xs) (l : ZK K H xs ds) : Z K H (.ref a) (.dct ds)
  | obj {a C dx : Addr} {xs : List (Str × V)} {ds : List (Str × D)} (h : H a = some (.ins C dx xs)) (l : ZF K H xs ds) : Z K H (.ref a) (.obj C ds)
inductive ZA (K : PySem.W.Frag) (H : Hp) : List V → List D → Prop
  | nil : ZA K H [] []
  | cons {v : V} {vs : List V} {d : D} {ds : List D} : Z K H v d → ZA K H vs ds → ZA K H (v :: vs) (d :: ds)
inductive ZK (K : PySem.W.Frag) (H : Hp) : List (Key × V) → List (Key × D) → Prop
  | nil : ZK K H [] []
  | cons {k : Key} {v : V} {vs : List (Key × V)} {d : D} {ds : List (Key × D)} : Z K H v d → ZK K H vs ds → ZK K H ((k, v) :: vs) ((k, d) :: ds)
inductive ZF (K : PySem.W.Frag) (H : Hp) : List (Str × V) → List (Str × D) → Prop
  | nil : ZF K H [] []
  | cons {k : Str} {v : V} {vs : List (Str × V)} {d : D} {ds : List (Str × D)} : Z K H v d → ZF K H vs ds → ZF K H ((k, v) :: vs) ((k, d) :: ds)
end
/-- what stays through every step -/
def Sty : HO → Prop
  | .tup _ => True
  | .frz _ _ => True
  | .ins _ _ _ => True
  | _ => False
def Ext (H H' : Hp) : Prop := ∀ a o, H a = some o → Sty o → H' a = some o
theorem Ext.refl (H : Hp) : Ext H H := fun _ _ h _ => h
theorem Ext.trans {H H1 H2 : Hp} (a : Ext H H1) (b : Ext H1 H2) : Ext H H2 := fun c o h z => b c o (a c o h z) z
theorem Ext.same {H H' : Hp} (s : Same H H') : Ext H H' := fun a o h _ => s a o h
theorem Ext.rdT {H H' : Hp} {a : Addr} {xs : List V} (k : Ext H H') (h : Rd H a (.tup xs)) : Rd H' a (.tup xs) := by
  rcases h with h | ⟨o, h⟩
  · exact .inl (k _ _ h trivial)
  · exact .inr ⟨o, k _ _ h trivial⟩
theorem Ext.sqT {K : PySem.W.Frag} {H H' : Hp} {a : Addr} {xs : List V} (k : Ext H H') (h : SqT K H a xs) : SqT K H' a xs := by
  rcases h with h | h
  · exact .inl (k.rdT h)
  · exact .inr h
theorem Ext.ts {H H' : Hp} (k : Ext H H') : TS H H' := ⟨fun _ _ h => k.rdT h, fun _ _ h => k _ _ h trivial⟩
theorem FzL.mono {K : PySem.W.Frag} {H H' : Hp} {a : Addr} {xs : List V} (h : FzL K H a xs) (k : Ext H H') : FzL K H' a xs := by
  rcases h with ⟨o, h⟩ | h
  · exact .inl ⟨o, k _ _ h trivial⟩
  · exact .inr h
theorem FzL.sq {K : PySem.W.Frag} {H : Hp} {a : Addr} {xs : List V} (h : FzL K H a xs) : SqL K H a xs := by
  rcases h with ⟨o, h⟩ | h
  · exact .inl (.inr ⟨o, h⟩)
  · exact .inr h
section
variable {K : PySem.W.Frag} {H H' : Hp}
mutual
theorem Z.mono (k : Ext H H') : ∀ {v : V} {d : D}, Z K H v d → Z K H' v d
  | _, _, .non => .non
  | _, _, .bl b => .bl b
  | _, _, .int i => .int i
  | _, _, .str x => .str x
  | _, _, .raw v => .raw v
  | _, _, .tup h l t => .tup (k.sqT h) (ZA.mono k l) fun y e => k _ _ (t y e) trivial
  | _, _, .lst h l => .lst (h.mono k) (ZA.mono k l)
  | _, _, .dct ⟨o, h⟩ l => .dct ⟨o, k _ _ h trivial⟩ (ZK.mono k l)
  | _, _, .obj h l => .obj (k _ _ h trivial) (ZF.mono k l)
theorem ZA.mono (k : Ext H H') : ∀ {vs : List V} {ds : List D}, ZA K H vs ds → ZA K H' vs ds
  | _, _, .nil => .nil
  | _, _, .cons h t => .cons (Z.mono k h) (ZA.mono k t)
theorem ZK.mono (k : Ext H H') : ∀ {vs : List (Key × V)} {ds : List (Key × D)}, ZK K H vs ds → ZK K H' vs ds
  | _, _, .nil => .nil
  | _, _, .cons h t => .cons (Z.mono k h) (ZK.mono k t)
theorem ZF.mono (k : Ext H H') : ∀ {vs : List (Str × V)} {ds : List (Str × D)}, ZF K H vs ds → ZF K H' vs ds
  | _, _, .nil => .nil
  | _, _, .cons h t => .cons (Z.mono k h) (ZF.mono k t)
end
theorem ZA.length : ∀ {vs : List V} {ds : List D}, ZA K H vs ds → vs.length = ds.length
  | _, _, .nil => rfl
  | _, _, .cons _ t => by rw [List.length_cons, List.length_cons, ZA.length t]
theorem ZA.get : ∀ {vs : List V} {ds : List D} {i : Nat} {d : D}, ZA K H vs ds → ds[i]? = some d → ∃ v, vs[i]? = some v ∧ Z K H v d
  | _, _, _, _, .nil, e => by simp at e
  | _, _, 0, _, .cons h _, e => by simp at e; subst e; exact ⟨_, rfl, h⟩
  | _, _, i + 1, d, .cons _ t, e => by
    obtain ⟨v, h1, h2⟩ := ZA.get (i := i) (d := d) t (by simpa using e)
    exact ⟨v, by simpa using h1, h2⟩
theorem ZA.get2 : ∀ {vs : List V} {ds : List D} {i : Nat} {v : V}, ZA K H vs ds → vs[i]? = some v → ∃ d, ds[i]? = some d ∧ Z K H v d
  | _, _, _, _, .nil, e => by simp at e
  | _, _, 0, _, .cons h _, e => by simp at e; subst e; exact ⟨_, rfl, h⟩
  | _, _, i + 1, v, .cons _ t, e => by
    obtain ⟨d, h1, h2⟩ := ZA.get2 (i := i) (v := v) t (by simpa using e)
    exact ⟨d, by simpa using h1, h2⟩
theorem ZA.append : ∀ {vs us : List V} {ds es : List D}, ZA K H vs ds → ZA K H us es → ZA K H (vs ++ us) (ds ++ es)
  | _, _, _, _, .nil, h => h
  | _, _, _, _, .cons h t, h' => .cons h (ZA.append t h')
theorem ZA.snoc {vs : List V} {ds : List D} {v : V} {d : D} (h : ZA K H vs ds) (h' : Z K H v d) : ZA K H (vs ++ [v]) (ds ++ [d]) := h.append (.cons h' .nil)
theorem ZA.set : ∀ {vs : List V} {ds : List D} {i : Nat} {v : V} {d : D}, ZA K H vs ds → Z K H v d → ZA K H (vs.set i v) (ds.set i d)
  | _, _, _, _, _, .nil, _ => .nil
  | _, _, 0, _, _, .cons _ t, h => .cons h t
  | _, _, i + 1, _, _, .cons h t, h' => .cons h (ZA.set t h')
theorem ZA.drop : ∀ {vs : List V} {ds : List D} (n : Nat), ZA K H vs ds → ZA K H (vs.drop n) (ds.drop n)
  | _, _, 0, h => h
  | _, _, n + 1, .nil => .nil
  | _, _, n + 1, .cons _ t => ZA.drop n t
theorem ZA.take : ∀ {vs : List V} {ds : List D} (n : Nat), ZA K H vs ds → ZA K H (vs.take n) (ds.take n)
  | _, _, 0, _ => .nil
  | _, _, n + 1, .nil => .nil
  | _, _, n + 1, .cons h t => .cons h (ZA.take n t)
theorem ZA.erase : ∀ {vs : List V} {ds : List D} (n : Nat), ZA K H vs ds → ZA K H (vs.eraseIdx n) (ds.eraseIdx n)
  | _, _, _, .nil => .nil
  | _, _, 0, .cons _ t => t
  | _, _, n + 1, .cons h t => .cons h (ZA.erase n t)
theorem ZA.rev {vs : List V} {ds : List D} (h : ZA K H vs ds) : ZA K H vs.reverse ds.reverse := by
  induction vs generalizing ds with
  | nil => cases h; exact .nil
  | cons v vs ih =>
    cases h with
    | cons h t => rw [List.reverse_cons, List.reverse_cons]; exact (ih t).snoc h
theorem ZA.ints (ns : List Int) : ZA K H (ns.map V.int) (ns.map D.int) := by
  induction ns with
  | nil => exact .nil
  | cons n ns ih => exact .cons (.int n) ih
theorem ZA.bls (bs : List Bool) : ZA K H (bs.map V.bl) (bs.map D.bl) := by
  induction bs with
  | nil => exact .nil
  | cons n ns ih => exact .cons (.bl n) ih
theorem ZA.ints_inv : ∀ {vs : List V} {ns : List Int}, ZA K H vs (ns.map D.int) → vs = ns.map V.int
  | _, [], .nil => rfl
  | _, n :: ns, .cons (.int _) t => by rw [ZA.ints_inv t]; rfl
theorem ZA.bls_inv : ∀ {vs : List V} {ns : List Bool}, ZA K H vs (ns.map D.bl) → vs = ns.map V.bl
  | _, [], .nil => rfl
  | _, n :: ns, .cons (.bl _) t => by rw [ZA.bls_inv t]; rfl
theorem ZA.strs_inv : ∀ {vs : List V} {ns : List Str}, ZA K H vs (ns.map D.str) → vs = ns.map V.str
  | _, [], .nil => rfl
  | _, n :: ns, .cons (.str _) t => by rw [ZA.strs_inv t]; rfl
theorem ZK.length : ∀ {vs : List (Key × V)} {ds : List (Key × D)}, ZK K H vs ds → vs.length = ds.length
  | _, _, .nil => rfl
  | _, _, .cons _ t => by rw [List.length_cons, List.length_cons, ZK.length t]
end
/-! ### the environment -/
inductive Sl where
  | no
  | val (d : D)
  | ls (p : Addr) (ds : List D)
  | dk (p : Addr) (kvs : List (Key × D))
  | pl (p l : Addr)
  | il (p : Addr)
def Sl.own : Sl → Option Addr
  | .ls p _ => some p
  | .dk p _ => some p
  | .pl p _ => some p
  | .il p => some p
  | _ => none
abbrev En := List Sl
def ownAt (ρ : En) (i : Nat) : Option Addr := (ρ[i]?).bind Sl.own
def Owns (ρ : En) (p : Addr) : Prop := ∃ i, ownAt ρ i = some p
/-- the context of a walk: the heap at its entry, the lists that were handed in to be changed, the tables -/
structure Ktx where
  H0 : Hp
  io : List Addr
  TT : List NdefX.NTab
def SlOk (K : PySem.W.Frag) (H : Hp) : Sl → Option (Option V) → Prop
  | .no, _ => True
  | .val d, x => ∃ v, x = some (some v) ∧ Z K H v d
  | .ls p ds, x => x = some (some (.ref p)) ∧ ∃ vs, H p = some (.lst vs) ∧ ZA K H vs ds
  | .dk p kvs, x => x = some (some (.ref p)) ∧ ∃ vs, H p = some (.dK vs) ∧ ZK K H vs kvs
  | .pl p l, x => x = some (some (.ref p)) ∧ Pl K H p l
  | .il p, x => x = some (some (.ref p)) ∧ ∃ ns : List Int, H p = some (.lst (ns.map V.int))
structure Rep (K : PySem.W.Frag) (κ : Ktx) (ρ : En) (σ : L2.St) (H : Hp) : Prop where
  len : ρ.length = σ.length
  ok : ∀ (i : Nat) (s : Sl), (ρ[i]? : Option Sl) = some s → SlOk K H s (σ[i]?)
  nd : ∀ i j p, ownAt ρ i = some p → ownAt ρ j = some p → i = j
  new : ∀ i p, ownAt ρ i = some p → κ.H0 p = none ∨ p ∈ κ.io
  ctx : ∀ b o, κ.H0 b = some o → (∀ ps, o ≠ .tbl ps) → b ∉ κ.io → H b = some o
  dom : ∀ b o, κ.H0 b = some o → ∃ o', H b = some o'
  tab : NdefX.TabsN κ.TT H
  plx : ∀ (i : Nat) (q l : Addr), (ρ[i]? : Option Sl) = some (.pl q l) → ¬ Owns ρ l ∨ ∃ cs : List Int, ∀ H', SqL K H' l (cs.map V.int)
/-- all but the owned lists stays -/
def Fr (ρ : En) (H H' : Hp) : Prop := (∀ b o, H b = some o → (∀ ps, o ≠ .tbl ps) → ¬ Owns ρ b → H' b = some o) ∧ ∀ b o, H b = some o → ∃ o', H' b = some o'
def Sub (ρ ρ' : En) : Prop := (∀ p, Owns ρ p → Owns ρ' p) ∧ ∀ (j : Nat) (q l : Addr), (ρ[j]? : Option Sl) = some (.pl q l) → ∃ j' : Nat, (ρ'[j']? : Option Sl) = some (.pl q l)
theorem Fr.refl (ρ : En) (H : Hp) : Fr ρ H H := ⟨fun _ _ h _ _ => h, fun b o h => ⟨o, h⟩⟩
theorem Sub.refl (ρ : En) : Sub ρ ρ := ⟨fun _ h => h, fun j _ _ h => ⟨j, h⟩⟩
theorem Sub.trans {a b c : En} (h : Sub a b) (h' : Sub b c) : Sub a c := ⟨fun p q => h'.1 p (h.1 p q), fun j q l e => let ⟨j', e'⟩ := h.2 j q l e; h'.2 j' q l e'⟩
theorem Fr.trans {ρ ρ1 : En} {H H1 H2 : Hp} (a : Fr ρ H H1) (s : Sub ρ1 ρ) (b : Fr ρ1 H1 H2) : Fr ρ H H2 :=
  ⟨fun c o h n m => b.1 c o (a.1 c o h n m) n fun z => m (s.1 c z), fun c o h => let ⟨o', h'⟩ := a.2 c o h; b.2 c o' h'⟩
theorem Fr.same {ρ : En} {H H' : Hp} (s : Same H H') : Fr ρ H H' := ⟨fun b o h _ _ => s b o h, fun b o h => ⟨o, s b o h⟩⟩
theorem Fr.extn {ρ : En} {H H' : Hp} (s : LamX.ExtN H H') (t : ∀ b ps, H b = some (.tbl ps) → ∃ o', H' b = some o') : Fr ρ H H' := ⟨fun b o h n _ => s b o h n, fun b o h => by
  cases o with
  | tbl ps => exact t b ps h
  | _ => exact ⟨_, s b _ h fun _ e => nomatch e⟩⟩
section
variable {K : PySem.W.Frag} {κ : Ktx} {ρ ρ' : En} {σ σ' : L2.St} {H H' : Hp} {i : Nat} {p : Addr} {v : V} {d : D}
theorem ownAt_of {s : Sl} (h : ρ[i]? = some s) : ownAt ρ i = s.own := by unfold ownAt; rw [h]; rfl
theorem ownAt_some (h : ownAt ρ i = some p) : ∃ s, ρ[i]? = some s ∧ s.own = some p := by
  unfold ownAt at h
  cases e : ρ[i]? with
  | none => rw [e] at h; cases h
  | some s => rw [e] at h; exact ⟨s, rfl, h⟩
/-- an owned thing is a list or a dict -/
def Mu : HO → Prop
  | .lst _ => True
  | .dK _ => True
  | _ => False
theorem Rep.own (R : Rep K κ ρ σ H) (h : Owns ρ p) : ∃ u, H p = some u ∧ Mu u := by
  obtain ⟨i, h⟩ := h
  obtain ⟨s, e, hs⟩ := ownAt_some h
  have q := R.ok i s e
  cases s with
  | no => cases hs
  | val d => cases hs
  | ls p' ds => cases hs; obtain ⟨_, vs, h, _⟩ := q; exact ⟨_, h, trivial⟩
  | dk p' ds => cases hs; obtain ⟨_, vs, h, _⟩ := q; exact ⟨_, h, trivial⟩
  | pl p' l => cases hs; obtain ⟨_, h⟩ := q; obtain ⟨xs, h⟩ := h.lst; exact ⟨_, h, trivial⟩
  | il p' => cases hs; obtain ⟨_, ns, h⟩ := q; exact ⟨_, h, trivial⟩
theorem Rep.ext (R : Rep K κ ρ σ H) (f : Fr ρ H H') : Ext H H' := fun b o h z => f.1 b o h (fun ps e => by rw [e] at z; exact z) fun q => by
  obtain ⟨u, h', m⟩ := R.own q
  rw [h] at h'
  cases h'
  cases o <;> first | exact z.elim | exact m.elim
/-- what a step that keeps the owned lists leaves -/
theorem Rep.step (R : Rep K κ ρ σ H) (s : Same H H') : Rep K κ ρ σ H' := by
  have x := Ext.same s
  refine ⟨R.len, fun i sl e => ?_, R.nd, R.new, fun b o h n m => s _ _ (R.ctx b o h n m), fun b o h => let ⟨o', h'⟩ := R.dom b o h; ⟨o', s _ _ h'⟩, R.tab.ext s, R.plx⟩
  have q := R.ok i sl e
  cases sl with
  | no => trivial
  | val d => obtain ⟨v, e, z⟩ := q; exact ⟨v, e, z.mono x⟩
  | ls p ds => obtain ⟨e, vs, h, z⟩ := q; exact ⟨e, vs, s _ _ h, z.mono x⟩
  | dk p ds => obtain ⟨e, vs, h, z⟩ := q; exact ⟨e, vs, s _ _ h, z.mono x⟩
  | pl p l => obtain ⟨e, h⟩ := q; exact ⟨e, h.same s⟩
  | il p => obtain ⟨e, ns, h⟩ := q; exact ⟨e, ns, s _ _ h⟩
/-- all but the tables stays -/
def Kpt (H H' : Hp) : Prop := (∀ b o, H b = some o → (∀ ps, o ≠ .tbl ps) → H' b = some o) ∧ ∀ b o, H b = some o → ∃ o', H' b = some o'
theorem Kpt.same (s : Same H H') : Kpt H H' := ⟨fun b o h _ => s b o h, fun b o h => ⟨o, s b o h⟩⟩
theorem Kpt.trans {H2 : Hp} (a : Kpt H H') (b : Kpt H' H2) : Kpt H H2 := ⟨fun c o h n => b.1 c o (a.1 c o h n) n, fun c o h => let ⟨o', h'⟩ := a.2 c o h; b.2 c o' h'⟩
theorem Kpt.ext (s : Kpt H H') : Ext H H' := fun b o h z => s.1 b o h fun ps e => by rw [e] at z; exact z
theorem Kpt.fr (s : Kpt H H') : Fr ρ H H' := ⟨fun b o h n _ => s.1 b o h n, s.2⟩
theorem Pl.kpt {K : PySem.W.Frag} {H H' : Hp} {p l : Addr} (h : Pl K H p l) (k : Kpt H H') : Pl K H' p l := by
  obtain ⟨i, r, c, s, h1, h2⟩ := h.at5
  obtain ⟨cs, hs⟩ := h.sq
  refine ⟨⟨cs, ?_⟩, h.ne, i, r, c, s, k.1 _ _ h1 (fun _ e => nomatch e), h2⟩
  rcases hs with (hs | ⟨o, hs⟩) | hs
  · exact .inl (.inl (k.1 _ _ hs (fun _ e => nomatch e)))
  · exact .inl (.inr ⟨o, k.1 _ _ hs (fun _ e => nomatch e)⟩)
  · exact .inr hs
theorem Rep.stepK (R : Rep K κ ρ σ H) (s : Kpt H H') (t : NdefX.TabsN κ.TT H') : Rep K κ ρ σ H' := by
  have x := s.ext
  refine ⟨R.len, fun i sl e => ?_, R.nd, R.new, fun b o h n m => s.1 _ _ (R.ctx b o h n m) n, fun b o h => let ⟨o', h'⟩ := R.dom b o h; s.2 _ _ h', t, R.plx⟩
  have q := R.ok i sl e
  cases sl with
  | no => trivial
  | val d => obtain ⟨v, e, z⟩ := q; exact ⟨v, e, z.mono x⟩
  | ls p ds => obtain ⟨e, vs, h, z⟩ := q; exact ⟨e, vs, s.1 _ _ h (fun _ e => nomatch e), z.mono x⟩
  | dk p ds => obtain ⟨e, vs, h, z⟩ := q; exact ⟨e, vs, s.1 _ _ h (fun _ e => nomatch e), z.mono x⟩
  | pl p l => obtain ⟨e, h⟩ := q; exact ⟨e, Pl.kpt h s⟩
  | il p => obtain ⟨e, ns, h⟩ := q; exact ⟨e, ns, s.1 _ _ h (fun _ e => nomatch e)⟩
/-- an owned list or dict is changed in place -/
theorem Rep.tabs {u o : HO} {T : List NdefX.NTab} (t : NdefX.TabsN T H) (h : H p = some u) (m : Mu u) : NdefX.TabsN T (upd H p o) := fun q hq => by
  obtain ⟨ps, h1, h2, h3⟩ := t q hq
  have n1 : q.1 ≠ p := fun e => by rw [e, h] at h1; cases h1; exact m
  refine ⟨ps, by rw [upd_ne n1]; exact h1, h2, fun pos cv hcv => ?_⟩
  obtain ⟨c, e1, e2⟩ := h3 pos cv hcv
  have n2 : c ≠ p := fun e => by rw [e, h] at e2; cases e2; exact m
  exact ⟨c, e1, by rw [upd_ne n2]; exact e2⟩
end
/-! ### the judgements -/
/-- what an expression gives: a value, or the owned list or dict of a slot -/
inductive Rs where
  | v (d : D)
  | o (p : Addr) (i : Nat)
def ZR (K : PySem.W.Frag) (H : Hp) (x : V) : Rs → Prop
  | .v d => Z K H x d
  | .o p _ => x = .ref p
theorem ZR.mono {K : PySem.W.Frag} {H H' : Hp} {x : V} {r : Rs} (k : Ext H H') (h : ZR K H x r) : ZR K H' x r := by
  cases r with
  | v d => exact Z.mono k h
  | o p i => exact h
inductive ZRA (K : PySem.W.Frag) (H : Hp) : List V → List Rs → Prop
  | nil : ZRA K H [] []
  | cons {v : V} {vs : List V} {d : Rs} {ds : List Rs} : ZR K H v d → ZRA K H vs ds → ZRA K H (v :: vs) (d :: ds)
abbrev DQ := Rs → En → Prop
abbrev DE := En → DQ → Prop
abbrev DTt := En → (Bool → En → Prop) → Prop
abbrev DAa := En → (List Rs → En → Prop) → Prop
structure DEnds where
  nx : En → Prop
  rt : D → En → Prop
  bk : En → Prop := fun _ => False
  ct : En → Prop := fun _ => False
abbrev DSt := DEnds → En → Prop
section
variable (K : PySem.W.Frag) (κ : Ktx)
def pD (σ : L2.St) (H : Hp) (ρ : En) (Q : DQ) : VK := fun v H' => ∃ d ρ', Rep K κ ρ' σ H' ∧ ZR K H' v d ∧ Fr ρ H H' ∧ Sub ρ' ρ ∧ Q d ρ'
def pT (σ : L2.St) (H : Hp) (ρ : En) (Q : Bool → En → Prop) : Bool → Hp → Prop := fun b H' => ∃ ρ', Rep K κ ρ' σ H' ∧ Fr ρ H H' ∧ Sub ρ' ρ ∧ Q b ρ'
def pA (σ : L2.St) (H : Hp) (ρ : En) (Q : List Rs → En → Prop) : List V → Hp → Prop := fun vs H' => ∃ ds ρ', Rep K κ ρ' σ H' ∧ ZRA K H' vs ds ∧ Fr ρ H H' ∧ Sub ρ' ρ ∧ Q ds ρ'
def tD (s : DE) : TE := fun σ H Q => ∃ ρ q, Rep K κ ρ σ H ∧ s ρ q ∧ ∀ v H', pD K κ σ H ρ q v H' → Q v H'
def tT (s : DTt) : TT := fun σ H Q => ∃ ρ q, Rep K κ ρ σ H ∧ s ρ q ∧ ∀ v H', pT K κ σ H ρ q v H' → Q v H'
def tA (s : DAa) : TA := fun σ H Q => ∃ ρ q, Rep K κ ρ σ H ∧ s ρ q ∧ ∀ v H', pA K κ σ H ρ q v H' → Q v H'
def pS (H : Hp) (E : DEnds) : Ends where
  nx := fun σ H' => ∃ ρ, Rep K κ ρ σ H' ∧ Ext H H' ∧ E.nx ρ
  rt := fun v H' => ∃ d ρ σ, Rep K κ ρ σ H' ∧ Ext H H' ∧ Z K H' v d ∧ E.rt d ρ
  bk := fun σ H' => ∃ ρ, Rep K κ ρ σ H' ∧ Ext H H' ∧ E.bk ρ
  ct := fun σ H' => ∃ ρ, Rep K κ ρ σ H' ∧ Ext H H' ∧ E.ct ρ
structure LeE (D D' : Ends) : Prop where
  nx : ∀ σ H, D.nx σ H → D'.nx σ H
  rt : ∀ v H, D.rt v H → D'.rt v H
  bk : ∀ σ H, D.bk σ H → D'.bk σ H
  ct : ∀ σ H, D.ct σ H → D'.ct σ H
def tSs (s : DSt) : TS := fun D σ H => ∃ ρ E, Rep K κ ρ σ H ∧ s E ρ ∧ LeE (pS K κ H E) D
end
section
variable (X : Cx) (κ : Ktx)
abbrev DX (e : Expr) (s : DE) : Prop := PE X e (tD X.K κ s)
abbrev DT (e : Expr) (s : DTt) : Prop := PT X e (tT X.K κ s)
abbrev DA (es : List Expr) (s : DAa) : Prop := PA X es (tA X.K κ s)
abbrev DS (st : Stmt) (s : DSt) : Prop := PS X st (tSs X.K κ s)
abbrev DSs (sts : List Stmt) (s : DSt) : Prop := PSs X sts (tSs X.K κ s)
end
section
variable {X : Cx} {κ : Ktx} {K : PySem.W.Frag} {e : Expr} {es : List Expr} {st : Stmt} {sts : List Stmt} {t : TE} {tt : TT} {ta : TA} {ts : TS} {s : DE} {sT : DTt} {sA : DAa} {sS : DSt}
theorem SP.le {pins : List (Addr × Obj)} {D D' : Ends} {f : Flow} {s' : Shared} (h : SP X pins D f s') (l : LeE D D') : SP X pins D' f s' := by
  cases f with
  | next => obtain ⟨σ, H, I, q⟩ := h; exact ⟨σ, H, I, l.nx _ _ q⟩
  | brk => obtain ⟨σ, H, I, q⟩ := h; exact ⟨σ, H, I, l.bk _ _ q⟩
  | cont => obtain ⟨σ, H, I, q⟩ := h; exact ⟨σ, H, I, l.ct _ _ q⟩
  | ret u => obtain ⟨v, σ, H, I, r, q⟩ := h; exact ⟨v, σ, H, I, r, l.rt _ _ q⟩
theorem DX.of (h : PE X e t) (c : ∀ σ H ρ Q, Rep X.K κ ρ σ H → s ρ Q → t σ H (pD X.K κ σ H ρ Q)) : DX X κ e s := ⟨fun pins st σ H Q I ⟨ρ, q, R, hs, k⟩ =>
  thn (h.run pins st σ H _ I (c σ H ρ q R hs)) fun u s' ⟨v, H', I', r, z⟩ => ⟨v, H', I', r, k v H' z⟩⟩
theorem DT.of (h : PT X e tt) (c : ∀ σ H ρ Q, Rep X.K κ ρ σ H → sT ρ Q → tt σ H (pT X.K κ σ H ρ Q)) : DT X κ e sT := ⟨fun pins st σ H Q I ⟨ρ, q, R, hs, k⟩ =>
  thn (h.run pins st σ H _ I (c σ H ρ q R hs)) fun u s' ⟨H', I', z⟩ => ⟨H', I', k u H' z⟩⟩
theorem DA.of (h : PA X es ta) (c : ∀ σ H ρ Q, Rep X.K κ ρ σ H → sA ρ Q → ta σ H (pA X.K κ σ H ρ Q)) : DA X κ es sA := ⟨fun pos pins st σ H Q I ⟨ρ, q, R, hs, k⟩ =>
  thn (h.run pos pins st σ H _ I (c σ H ρ q R hs)) fun u s' ⟨v, H', I', r, z⟩ => ⟨v, H', I', r, k v H' z⟩⟩
theorem DS.of (h : PS X st ts) (c : ∀ σ H ρ E, Rep X.K κ ρ σ H → sS E ρ → ts (pS X.K κ H E) σ H) : DS X κ st sS := ⟨fun pins st σ H D I ⟨ρ, E, R, hs, l⟩ =>
  thn (h.run pins st σ H _ I (c σ H ρ E R hs)) fun f s' z => SP.le z l⟩
theorem DSs.of (h : PSs X sts ts) (c : ∀ σ H ρ E, Rep X.K κ ρ σ H → sS E ρ → ts (pS X.K κ H E) σ H) : DSs X κ sts sS := ⟨fun pins st σ H D I ⟨ρ, E, R, hs, l⟩ =>
  thn (h.run pins st σ H _ I (c σ H ρ E R hs)) fun f s' z => SP.le z l⟩
/-- a part is evaluated where the walk stands -/
theorem goD {σ : L2.St} {H : Hp} {ρ : En} {q : DQ} {Q : VK} (R : Rep K κ ρ σ H) (h : s ρ q) (k : ∀ v H' d ρ', Rep K κ ρ' σ H' → ZR K H' v d → Fr ρ H H' → Sub ρ' ρ → q d ρ' → Q v H') : tD K κ s σ H Q :=
  ⟨ρ, q, R, h, fun v H' ⟨d, ρ', a, b, c, e, f⟩ => k v H' d ρ' a b c e f⟩
theorem goT {σ : L2.St} {H : Hp} {ρ : En} {q : Bool → En → Prop} {Q : Bool → Hp → Prop} (R : Rep K κ ρ σ H) (h : sT ρ q) (k : ∀ b H' ρ', Rep K κ ρ' σ H' → Fr ρ H H' → Sub ρ' ρ → q b ρ' → Q b H') : tT K κ sT σ H Q :=
  ⟨ρ, q, R, h, fun v H' ⟨ρ', a, c, e, f⟩ => k v H' ρ' a c e f⟩
theorem goA {σ : L2.St} {H : Hp} {ρ : En} {q : List Rs → En → Prop} {Q : List V → Hp → Prop} (R : Rep K κ ρ σ H) (h : sA ρ q) (k : ∀ vs H' ds ρ', Rep K κ ρ' σ H' → ZRA K H' vs ds → Fr ρ H H' → Sub ρ' ρ → q ds ρ' → Q vs H') : tA K κ sA σ H Q :=
  ⟨ρ, q, R, h, fun v H' ⟨d, ρ', a, b, c, e, f⟩ => k v H' d ρ' a b c e f⟩
theorem LeE.refl {D : Ends} : LeE D D := ⟨fun _ _ h => h, fun _ _ h => h, fun _ _ h => h, fun _ _ h => h⟩
theorem goS {σ : L2.St} {H : Hp} {ρ : En} {E : DEnds} {D : Ends} (R : Rep K κ ρ σ H) (h : sS E ρ) (l : LeE (pS K κ H E) D) : tSs K κ sS D σ H := ⟨ρ, E, R, h, l⟩
end
/-! ### what is returned or kept is known from now on -/
def Fz : HO → Prop
  | .lst _ => True
  | .dK _ => True
  | _ => False
/-- either as it is, or known from now on -/
def tFz (t : TE) : TE := fun σ H Q => t σ H fun v H' => Q v H' ∨ ∃ a u, v = .ref a ∧ H' a = some u ∧ Fz u ∧ ∀ o, Q v (upd H' a (.frz o u))
theorem inv_frz {X : Cx} {pins : List (Addr × Obj)} {σ : L2.St} {H : Hp} {s : Shared} {a : Addr} {u : HO} (I : Inv X pins σ H s) (h : H a = some u) (z : Fz u) : ∃ o, Inv X pins σ (upd H a (.frz o u)) s := by
  obtain ⟨o, ho⟩ : ∃ o, s.heap.get? a = some o := by
    have := I.hok a u h
    cases u with
    | lst xs => obtain ⟨_, its, n, _, e⟩ := this; exact ⟨_, e⟩
    | dK kvs => obtain ⟨_, _, vs, _, ob, es, ep, e, _⟩ := this; exact ⟨_, e⟩
    | _ => exact z.elim
  have nt : ∀ xs, u ≠ .tup xs := fun xs e => by rw [e] at z; exact z
  have no : ∀ y, u ≠ .own y := fun y e => by rw [e] at z; exact z
  have nf : ∀ ob y, u ≠ .frz ob y := fun ob y e => by rw [e] at z; exact z
  have nb : ∀ ps, u ≠ .tbl ps := fun y e => by rw [e] at z; exact z
  have ne : ∀ b y, H b = some y → y ≠ u → b ≠ a := fun b y e n q => by rw [q, h] at e; exact n (Option.some.inj e).symm
  have hok : HOk X.prog X.w (upd H a (.frz o u)) s.heap := fun b y e => by
    have key : ∀ b y, H b = some y → ObjOk X.prog X.w (upd H a (.frz o u)) s.heap b y := fun b y e => (I.hok b y e).stay (fun _ _ _ z => z)
      (fun c z => by rw [upd_ne (ne _ _ z fun e => no _ e.symm)]; exact z) fun c xs z => by rw [upd_ne (ne _ _ z fun e => nt _ e.symm)]; exact z
    by_cases c : b = a
    · subst c
      rw [upd_same] at e
      cases e
      exact ⟨ho, key b u h⟩
    · rw [upd_ne c] at e
      exact key b y e
  refine ⟨o, I.un (t' := s.toks) ⟨fun b ob e n _ _ => e, fun b ob e n _ _ => ⟨ob.slots, e⟩, fun b ob e n _ => ?_, fun b ob e _ => ⟨ob, e⟩, fun b xs e => ?_, fun b ob y e => ?_, fun b ps e => ⟨#[], ?_⟩⟩ hok⟩
  · rw [upd_ne fun z => by rw [z, h] at n; cases n]; exact n
  · rw [upd_ne (ne _ _ e fun q => nt _ q.symm)]; exact e
  · rw [upd_ne (ne _ _ e fun q => nf _ _ q.symm)]; exact e
  · rw [upd_ne (ne _ _ e fun q => nb _ q.symm), e]; simp
theorem pe_fz {X : Cx} {e : Expr} {t : TE} (h : PE X e t) : PE X e (tFz t) := ⟨fun pins s σ H Q I q => thn (h.run pins s σ H _ I q) fun u s' ⟨v, H', I', r, z⟩ => by
  rcases z with z | ⟨a, y, rfl, h1, h2, k⟩
  · exact ⟨v, H', I', r, z⟩
  · obtain ⟨o, I2⟩ := inv_frz I' h1 h2
    exact ⟨_, _, I2, r, k o⟩⟩
end DL

set_option Elab.async false
set_option linter.all false
set_option maxRecDepth 100000
set_option maxHeartbeats 4000000
namespace DL
open PySem PySem.Spec PyProof.Rows L2 E
/-! ### what may be read -/
def Rv (K : PySem.W.Frag) (H : Hp) (v : V) : D → Prop
  | .lst ds => ∃ a xs, v = .ref a ∧ SqL K H a xs ∧ ZA K H xs ds
  | .dct ds => ∃ a xs, v = .ref a ∧ Rd H a (.dK xs) ∧ ZK K H xs ds
  | d => Z K H v d
/-- what is read of a result -/
def slK (p : Addr) (k : D → Prop) : Option Sl → Prop
  | some (.ls q ds) => q = p ∧ k (.lst ds)
  | some (.dk q ds) => q = p ∧ k (.dct ds)
  | _ => False
def resK (ρ : En) : Rs → (D → Prop) → Prop
  | .v d, k => k d
  | .o p i, k => slK p k ρ[i]?
def resKs (ρ : En) : List Rs → (List D → Prop) → Prop
  | [], k => k []
  | r :: rs, k => resK ρ r fun d => resKs ρ rs fun ds => k (d :: ds)
def valK : Rs → (D → Prop) → Prop
  | .v d, k => k d
  | .o _ _, _ => False
def valKs : List Rs → (List D → Prop) → Prop
  | [], k => k []
  | r :: rs, k => valK r fun d => valKs rs fun ds => k (d :: ds)
section
variable {K : PySem.W.Frag} {κ : Ktx} {ρ ρ' : En} {σ σ' : L2.St} {H H' : Hp} {i : Nat} {p : Addr} {v : V} {d : D}
theorem Rv.of (h : Z K H v d) : Rv K H v d := by
  cases h with
  | lst h l => exact ⟨_, _, rfl, h.sq, l⟩
  | dct h l => exact ⟨_, _, rfl, .inr h, l⟩
  | non => exact .non
  | bl b => exact .bl b
  | int i => exact .int i
  | str x => exact .str x
  | raw v => exact .raw v
  | tup h l t => exact .tup h l t
  | obj h l => exact .obj h l
theorem Rep.res {r : Rs} {k : D → Prop} (R : Rep K κ ρ σ H) (h : ZR K H v r) (q : resK ρ r k) : ∃ d, Rv K H v d ∧ k d := by
  cases r with
  | v d => exact ⟨d, Rv.of h, q⟩
  | o p i =>
    have e : v = .ref p := h
    subst e
    have q1 : slK p k (ρ[i]? : Option Sl) := q
    clear q
    cases e : (ρ[i]? : Option Sl) with
    | none => rw [e] at q1; exact q1.elim
    | some s =>
      rw [e] at q1
      have z := R.ok i s e
      cases s with
      | no => exact q1.elim
      | val d => exact q1.elim
      | pl p l => exact q1.elim
      | il p => exact q1.elim
      | ls a ds =>
        obtain ⟨e1, q2⟩ := q1
        subst e1
        obtain ⟨_, vs, h1, h2⟩ := z
        exact ⟨.lst ds, ⟨_, vs, rfl, SqL.of h1, h2⟩, q2⟩
      | dk a ds =>
        obtain ⟨e1, q2⟩ := q1
        subst e1
        obtain ⟨_, vs, h1, h2⟩ := z
        exact ⟨.dct ds, ⟨_, vs, rfl, .inl h1, h2⟩, q2⟩
inductive RvA (K : PySem.W.Frag) (H : Hp) : List V → List D → Prop
  | nil : RvA K H [] []
  | cons {v : V} {vs : List V} {d : D} {ds : List D} : Rv K H v d → RvA K H vs ds → RvA K H (v :: vs) (d :: ds)
theorem Rep.ress {rs : List Rs} {vs : List V} {k : List D → Prop} (R : Rep K κ ρ σ H) (h : ZRA K H vs rs) (q : resKs ρ rs k) : ∃ ds, RvA K H vs ds ∧ k ds := by
  induction h generalizing k with
  | nil => exact ⟨[], .nil, q⟩
  | cons h t ih =>
    obtain ⟨d, h1, q⟩ := R.res h q
    obtain ⟨ds, h2, q⟩ := ih q
    exact ⟨d :: ds, .cons h1 h2, q⟩
theorem val_of {r : Rs} {k : D → Prop} (h : ZR K H v r) (q : valK r k) : ∃ d, Z K H v d ∧ k d := by
  cases r with
  | v d => exact ⟨d, h, q⟩
  | o p i => exact (show False from q).elim
theorem vals_of {rs : List Rs} {vs : List V} {k : List D → Prop} (h : ZRA K H vs rs) (q : valKs rs k) : ∃ ds, ZA K H vs ds ∧ k ds := by
  induction h generalizing k with
  | nil => exact ⟨[], .nil, q⟩
  | cons h t ih =>
    obtain ⟨d, h1, q⟩ := val_of h q
    obtain ⟨ds, h2, q⟩ := ih q
    exact ⟨d :: ds, .cons h1 h2, q⟩
end
/-! ### as the library's data -/
mutual
def D.py : D → Option PyData
  | .non => some .none
  | .bl b => some (.bool b)
  | .int i => some (.int i)
  | .str x => some (.str x)
  | .tup xs => (pyAll xs).map .tuple
  | .lst xs => (pyAll xs).map .list
  | _ => none
def pyAll : List D → Option (List PyData)
  | [] => some []
  | d :: ds => match D.py d, pyAll ds with
    | some p, some ps => some (p :: ps)
    | _, _ => none
end
section
variable {K : PySem.W.Frag} {H : Hp}
mutual
theorem Z.dp : ∀ {v : V} {d : D} {p : PyData}, Z K H v d → d.py = some p → Dp K H v p
  | _, _, _, .non, e => by cases e; exact .non
  | _, _, _, .bl b, e => by cases e; exact .bl b
  | _, _, _, .int i, e => by cases e; exact .int i
  | _, _, _, .str x, e => by cases e; exact .str x
  | _, _, _, .raw v, e => by cases e
  | _, _, p, .tup (ds := ds) h l _, e => by
    have e : (pyAll ds).map PyData.tuple = some p := e
    cases q : pyAll ds with
    | none => rw [q] at e; cases e
    | some ps => rw [q] at e; cases e; exact .tup h (ZA.dp l q)
  | _, _, p, .lst (ds := ds) h l, e => by
    have e : (pyAll ds).map PyData.list = some p := e
    cases q : pyAll ds with
    | none => rw [q] at e; cases e
    | some ps => rw [q] at e; cases e; exact .lst h.sq (ZA.dp l q)
  | _, _, _, .dct _ _, e => by cases e
  | _, _, _, .obj _ _, e => by cases e
theorem ZA.dp : ∀ {vs : List V} {ds : List D} {ps : List PyData}, ZA K H vs ds → pyAll ds = some ps → DpAll K H vs ps
  | _, _, _, .nil, e => by cases e; exact .nil
  | _, _, ps, .cons (d := d) (ds := ds) h t, e => by
    rw [pyAll] at e
    cases q : d.py with
    | none => rw [q] at e; cases e
    | some p =>
      cases r : pyAll ds with
      | none => rw [q, r] at e; cases e
      | some qs => rw [q, r] at e; cases e; exact .cons (Z.dp h q) (ZA.dp t r)
end
theorem Rv.dp {v : V} {d : D} {p : PyData} (h : Rv K H v d) (e : d.py = some p) : Dp K H v p := by
  cases d with
  | lst ds =>
    obtain ⟨a, xs, rfl, h1, h2⟩ := h
    have e : (pyAll ds).map PyData.list = some p := e
    cases q : pyAll ds with
    | none => rw [q] at e; cases e
    | some ps => rw [q] at e; cases e; exact .lst h1 (ZA.dp h2 q)
  | dct ds => cases e
  | non => exact Z.dp h e
  | bl b => exact Z.dp h e
  | int i => exact Z.dp h e
  | str x => exact Z.dp h e
  | raw v => cases e
  | tup xs => exact Z.dp h e
  | obj C fs => cases e
end
/-! ### what a rule gives: known data, or a new list, a new dict -/
def Zo (K : PySem.W.Frag) (H H' : Hp) (v : V) (z : D) : Prop := Z K H' v z ∨ (∃ p vs ds, v = .ref p ∧ z = .lst ds ∧ H p = none ∧ H' p = some (.lst vs) ∧ ZA K H' vs ds) ∨ ∃ p vs ds, v = .ref p ∧ z = .dct ds ∧ H p = none ∧ H' p = some (.dK vs) ∧ ZK K H' vs ds
section
variable {K : PySem.W.Frag} {κ : Ktx} {ρ ρ' : En} {σ σ' : L2.St} {H H' H0 : Hp} {i : Nat} {p : Addr} {v : V} {d z : D} {Q : DQ}
theorem ext_mu {u o : HO} (h : H p = some u) (m : Mu u) : Ext H (upd H p o) := fun b y e z => by
  rw [upd_ne fun q => ?_]
  · exact e
  · rw [q, h] at e
    cases e
    cases u <;> first | exact z.elim | exact m.elim
/-- the end of a rule: what is new is known from now on -/
theorem fin_o (R : Rep K κ ρ' σ H) (f : Fr ρ H0 H) (s : Sub ρ' ρ) (sm : Same H H') (zo : Zo K H H' v z) (q : Q (.v z) ρ') : pD K κ σ H0 ρ Q v H' ∨ ∃ a u, v = .ref a ∧ H' a = some u ∧ Fz u ∧ ∀ o, pD K κ σ H0 ρ Q v (upd H' a (.frz o u)) := by
  rcases zo with z1 | ⟨p, vs, ds, rfl, rfl, n, h, za⟩ | ⟨p, vs, ds, rfl, rfl, n, h, za⟩
  · exact .inl ⟨.v z, ρ', R.step sm, z1, f.trans s (Fr.same sm), s, q⟩
  · refine .inr ⟨p, _, rfl, h, trivial, fun o => ?_⟩
    have sm2 : Same H (upd H' p (.frz o (.lst vs))) := fun b u e => by
      rw [upd_ne (ne_of_none e n)]
      exact sm b u e
    exact ⟨.v _, ρ', R.step sm2, Z.lst (.inl ⟨o, upd_same⟩) (ZA.mono (ext_mu h trivial) za), f.trans s (Fr.same sm2), s, q⟩
  · refine .inr ⟨p, _, rfl, h, trivial, fun o => ?_⟩
    have sm2 : Same H (upd H' p (.frz o (.dK vs))) := fun b u e => by
      rw [upd_ne (ne_of_none e n)]
      exact sm b u e
    exact ⟨.v _, ρ', R.step sm2, Z.dct ⟨o, upd_same⟩ (ZK.mono (ext_mu h trivial) za), f.trans s (Fr.same sm2), s, q⟩
end
/-! ### names, constants -/
def sVar (i : Nat) : DE := fun ρ Q => match (ρ[i]? : Option Sl) with
  | some (.val d) => Q (.v d) ρ
  | some (.ls p _) => Q (.o p i) ρ
  | some (.dk p _) => Q (.o p i) ρ
  | some (.pl p _) => Q (.o p i) ρ
  | some (.il p) => Q (.o p i) ρ
  | _ => False
def sC (d : D) : DE := fun ρ Q => Q (.v d) ρ
section
variable {X : Cx} {κ : Ktx} {i : Nat} {x : Str} {pos : Pos} {a b : Expr} {sa sb : DE}
theorem dx_var (hN : X.N[i]? = some x) (hv : Vis X.env.scope x) (hd : (x == ("__debug__" : Str)) = false := by decide) (hcd : (x == ("__classdict__" : Str)) = false := by decide) : DX X κ (.Name x pos) (sVar i) :=
  DX.of (pe_var hN hv hd hcd) fun σ H ρ Q R h => by
    unfold sVar at h
    cases e : (ρ[i]? : Option Sl) with
    | none => rw [e] at h; exact h.elim
    | some s =>
      rw [e] at h
      have q := R.ok i s e
      cases s with
      | no => exact h.elim
      | val d => obtain ⟨v, e1, z⟩ := q; exact ⟨v, e1, .v d, ρ, R, z, Fr.refl _ _, Sub.refl _, h⟩
      | ls p ds => exact ⟨_, q.1, .o p i, ρ, R, rfl, Fr.refl _ _, Sub.refl _, h⟩
      | dk p ds => exact ⟨_, q.1, .o p i, ρ, R, rfl, Fr.refl _ _, Sub.refl _, h⟩
      | pl p l => exact ⟨_, q.1, .o p i, ρ, R, rfl, Fr.refl _ _, Sub.refl _, h⟩
      | il p => exact ⟨_, q.1, .o p i, ρ, R, rfl, Fr.refl _ _, Sub.refl _, h⟩
theorem dx_c {v : V} {d : D} {e : Expr} (h : PE X e (tC v)) (z : ∀ H, Z X.K H v d) : DX X κ e (sC d) := DX.of h fun σ H ρ Q R q => ⟨.v d, ρ, R, z H, Fr.refl _ _, Sub.refl _, q⟩
theorem dx_int {n j} : DX X κ (.Constant (.int n) j pos) (sC (.int n)) := dx_c pe_int fun _ => .int n
theorem dx_bl {n j} : DX X κ (.Constant (.bool n) j pos) (sC (.bl n)) := dx_c pe_bl fun _ => .bl n
theorem dx_non {j} : DX X κ (.Constant .none j pos) (sC .non) := dx_c pe_non fun _ => .non
theorem dx_str {n j} : DX X κ (.Constant (.str n) j pos) (sC (.str n)) := dx_c pe_str fun _ => .str n
theorem dx_glob {v : V} {u : Value} (hg : Gl X x) (hm : X.mg x = some u) (r : RelV v u) (hd : (x == ("__debug__" : Str)) = false := by decide) : DX X κ (.Name x pos) (sC (.raw v)) := dx_c (pe_glob hg hm r hd) fun _ => .raw v
/-- a module's constant, as data -/
theorem dx_globD {v : V} {d : D} {u : Value} (z : ∀ H, Z X.K H v d) (hg : Gl X x) (hm : X.mg x = some u) (r : RelV v u) (hd : (x == ("__debug__" : Str)) = false := by decide) : DX X κ (.Name x pos) (sC d) := dx_c (pe_glob hg hm r hd) z
/-! ### operators by values -/
abbrev G1 := D → (D → Prop) → Prop
abbrev G2 := D → D → (D → Prop) → Prop
abbrev GL := List D → (D → Prop) → Prop
structure OA (K : PySem.W.Frag) (r : R2) (g : G2) : Prop where
  ok : ∀ H x y d e q Q, Rv K H x d → Rv K H y e → g d e q → (∀ v H' z, Same H H' → Zo K H H' v z → q z → Q v H') → r x y H Q
def sOp (g : G2) (sa sb : DE) : DE := fun ρ Q => sa ρ fun d ρ1 => sb ρ1 fun e ρ2 => resK ρ2 d fun d' => resK ρ2 e fun e' => g d' e' fun z => Q (.v z) ρ2
theorem op_run {K : PySem.W.Frag} {r : R2} {g : G2} (oa : OA K r g) {σ : L2.St} {H : Hp} {ρ : En} {Q : DQ} (R : Rep K κ ρ σ H) (h : sOp g sa sb ρ Q) :
    tOp r (tD K κ sa) (tD K κ sb) σ H fun v H' => pD K κ σ H ρ Q v H' ∨ ∃ a u, v = .ref a ∧ H' a = some u ∧ Fz u ∧ ∀ o, pD K κ σ H ρ Q v (upd H' a (.frz o u)) :=
  goD R h fun x H1 d ρ1 R1 z1 f1 s1 h1 => goD R1 h1 fun y H2 e ρ2 R2 z2 f2 s2 h2 =>
    let ⟨_, v1, h3⟩ := R2.res (z1.mono (R1.ext f2)) h2
    let ⟨_, v2, h4⟩ := R2.res z2 h3
    oa.ok H2 x y _ _ _ _ v1 v2 h4 fun v H3 z sm zo q => fin_o R2 (f1.trans s1 f2) (s2.trans s1) sm zo q
theorem dx_op {op : Operator} {r : R2} {g : G2} (ho : OpR X (binaryOp op) r) (oa : OA X.K r g) (ha : DX X κ a sa) (hb : DX X κ b sb) : DX X κ (.BinOp a op b pos) (sOp g sa sb) :=
  DX.of (pe_fz (pe_op ho ha hb)) fun σ H ρ Q R h => op_run oa R h
theorem dx_cmp {op : CmpOp} {r : R2} {g : G2} (ho : OpR X (compareOp op) r) (oa : OA X.K r g) (ha : DX X κ a sa) (hb : DX X κ b sb) (hm : behindInMarks op b = false) : DX X κ (.Compare a [op] [b] pos) (sOp g sa sb) :=
  DX.of (pe_fz (pe_cmpR ho ha hb hm)) fun σ H ρ Q R h => op_run oa R h
theorem dx_ix {r : R2} {g : G2} (ho : IxR X r) (oa : OA X.K r g) (ha : DX X κ a sa) (hb : DX X κ b sb) (hs : PlainIx b) : DX X κ (.Subscript a b pos) (sOp g sa sb) :=
  DX.of (pe_fz (pe_ix ho ha hb hs)) fun σ H ρ Q R h => op_run oa R h
structure UA (K : PySem.W.Frag) (r : V → Hp → VK → Prop) (g : G1) : Prop where
  ok : ∀ H x d q Q, Rv K H x d → g d q → (∀ v H' z, Same H H' → Zo K H H' v z → q z → Q v H') → r x H Q
def sUn (g : G1) (sa : DE) : DE := fun ρ Q => sa ρ fun d ρ1 => resK ρ1 d fun d' => g d' fun z => Q (.v z) ρ1
theorem dx_un {op : UnaryOp} {r : V → Hp → VK → Prop} {g : G1} (ho : UnR X (unaryOp op) r) (oa : UA X.K r g) (ha : DX X κ a sa) : DX X κ (.UnaryOp op a pos) (sUn g sa) :=
  DX.of (pe_fz (pe_un ho ha)) fun σ H ρ Q R h => goD R h fun x H1 d ρ1 R1 z1 f1 s1 h1 => let ⟨_, v1, h2⟩ := R1.res z1 h1; oa.ok H1 x _ _ _ v1 h2 fun v H3 z sm zo q => fin_o R1 f1 s1 sm zo q
end
/-! ### the operators -/
section
variable {K : PySem.W.Frag}
theorem Rv.int {H : Hp} {x : V} {i : Int} (h : Rv K H x (.int i)) : x = .int i := by cases (show Z K H x (.int i) from h); rfl
theorem Rv.bl {H : Hp} {x : V} {i : Bool} (h : Rv K H x (.bl i)) : x = .bl i := by cases (show Z K H x (.bl i) from h); rfl
theorem Rv.str {H : Hp} {x : V} {i : Str} (h : Rv K H x (.str i)) : x = .str i := by cases (show Z K H x (.str i) from h); rfl
theorem Rv.non {H : Hp} {x : V} (h : Rv K H x .non) : x = .non := by cases (show Z K H x .non from h); rfl
theorem Rv.raw {H : Hp} {x v : V} (h : Rv K H x (.raw v)) : x = v := by cases (show Z K H x (.raw v) from h); rfl
theorem Rv.tup {H : Hp} {x : V} {ds : List D} (h : Rv K H x (.tup ds)) : ∃ a xs, x = .ref a ∧ SqT K H a xs ∧ ZA K H xs ds := by
  cases (show Z K H x (.tup ds) from h) with
  | tup h1 l t => exact ⟨_, _, rfl, h1, l⟩
theorem Rv.tupZ {H : Hp} {x : V} {ds : List D} (h : Rv K H x (.tup ds)) : Z K H x (.tup ds) := h
/-- two ints -/
def g2I (C : Int → Int → Prop) (g : Int → Int → D) : G2 := fun d e q => match d, e with
  | .int i, .int j => C i j ∧ q (g i j)
  | _, _ => False
def ofD : D → V
  | .int i => .int i
  | .bl b => .bl b
  | .str x => .str x
  | _ => .non
theorem g2I_inv {C : Int → Int → Prop} {g : Int → Int → D} {d e : D} {q : D → Prop} (h : g2I C g d e q) : ∃ i j, d = .int i ∧ e = .int j ∧ C i j ∧ q (g i j) := by
  cases d <;> first | exact h.elim | skip
  cases e <;> first | exact h.elim | exact ⟨_, _, rfl, rfl, h.1, h.2⟩
theorem oa_int {C : Int → Int → Prop} {f : Int → Int → Int} : OA K (rI C fun i j => .int (f i j)) (g2I C fun i j => .int (f i j)) := ⟨fun H x y d e q Q hx hy hg k => by
  obtain ⟨i, j, rfl, rfl, c, hq⟩ := g2I_inv hg
  exact ⟨i, j, hx.int, hy.int, c, k _ H _ (L2.Same.refl _) (.inl (.int _)) hq⟩⟩
def gInt (f : Int → Int → Int) : G2 := fun d e q => match d, e with
  | .int i, .int j => q (.int (f i j))
  | _, _ => False
def gCmp (f : Int → Int → Bool) : G2 := fun d e q => match d, e with
  | .int i, .int j => q (.bl (f i j))
  | _, _ => False
theorem gInt_inv {f : Int → Int → Int} {d e : D} {q : D → Prop} (h : gInt f d e q) : ∃ i j, d = .int i ∧ e = .int j ∧ q (.int (f i j)) := by
  cases d <;> first | exact h.elim | skip
  cases e <;> first | exact h.elim | exact ⟨_, _, rfl, rfl, h⟩
theorem gCmp_inv {f : Int → Int → Bool} {d e : D} {q : D → Prop} (h : gCmp f d e q) : ∃ i j, d = .int i ∧ e = .int j ∧ q (.bl (f i j)) := by
  cases d <;> first | exact h.elim | skip
  cases e <;> first | exact h.elim | exact ⟨_, _, rfl, rfl, h⟩
theorem oa_int0 {f : Int → Int → Int} : OA K (rI0 fun i j => .int (f i j)) (gInt f) := ⟨fun H x y d e q Q hx hy hg k => by
  obtain ⟨i, j, rfl, rfl, hq⟩ := gInt_inv hg
  exact ⟨i, j, hx.int, hy.int, k _ H _ (L2.Same.refl _) (.inl (.int _)) hq⟩⟩
theorem oa_cmp0 {f : Int → Int → Bool} : OA K (rI0 fun i j => .bl (f i j)) (gCmp f) := ⟨fun H x y d e q Q hx hy hg k => by
  obtain ⟨i, j, rfl, rfl, hq⟩ := gCmp_inv hg
  exact ⟨i, j, hx.int, hy.int, k _ H _ (L2.Same.refl _) (.inl (.bl _)) hq⟩⟩
theorem OpR.or {X : Cx} {f : Value → Value → Sem Value} {r r' : R2} (h : OpR X f r) (h' : OpR X f r') : OpR X f (fun x y H Q => r x y H Q ∨ r' x y H Q) := fun pins s σ H x y v u Q I rx ry q => by
  rcases q with q | q
  · exact h pins s σ H x y v u Q I rx ry q
  · exact h' pins s σ H x y v u Q I rx ry q
/-! ### + -/
/-- lists that may be known already -/
def rCatF (K : PySem.W.Frag) : R2 := fun x y H Q => ∃ l b xs zs, x = .ref l ∧ y = .ref b ∧ SqL K H l xs ∧ SqL K H b zs ∧ xs.length + zs.length ≤ sizeLine ∧ ∀ p, H p = none → Q (.ref p) (upd H p (.lst (xs ++ zs)))
theorem op_catF {X : Cx} : OpR X (binaryOp .Add) (rCatF X.K) := by
  intro pins s σ H x y v u Q I rx ry h
  obtain ⟨l, b, xs, zs, rfl, rfl, hH, hB, hz, q⟩ := h
  cases rx
  cases ry
  obtain ⟨its, r, ⟨⟨cls, dd, data, sls⟩, n, ho, hc, hdn, hdt⟩, hlen⟩ := I.list hH
  obtain ⟨its2, r2, ⟨⟨cls2, dd2, data2, sls2⟩, n2, ho2, hc2, hdn2, hdt2⟩, hlen2⟩ := I.list hB
  simp only at hc hdn hdt hc2 hdn2 hdt2
  subst hc hdn hdt hc2 hdn2 hdt2
  have hl := r.length
  have hl2 := r2.length
  refine concat_meets ⟨_, ho, rfl⟩ ⟨_, ho2, rfl⟩ noFill_list_add seq_list_add PySem.F.slot_list_add PySem.F.entry_list_add (PySem.F.args_list_add_2 _ _) (list_addW l b its.toArray its2.toArray n n2 _ _ sls sls2 (by rw [List.size_toArray, List.size_toArray]; omega)) ⟨ho, ho2, ?_⟩
  have ea : its.toArray ++ its2.toArray = (its ++ its2).toArray := by simp
  rw [ea]
  exact ⟨.ref _, _, I.lnew (t' := s.toks) (r.append r2) (by rw [List.length_append]; omega), rfl, q _ I.fresh⟩
def gAdd : G2 := fun d e q => match d, e with
  | .int i, .int j => q (.int (i + j))
  | .str i, .str j => i.length + j.length ≤ sizeLine ∧ q (.str (i ++ j))
  | .tup i, .tup j => i.length + j.length ≤ sizeLine ∧ q (.tup (i ++ j))
  | .lst i, .lst j => i.length + j.length ≤ sizeLine ∧ q (.lst (i ++ j))
  | _, _ => False
abbrev rAddA (K : PySem.W.Frag) : R2 := fun x y H Q => (rI0 fun i j => V.int (i + j)) x y H Q ∨ (∃ i j, x = .str i ∧ y = .str j ∧ i.length + j.length ≤ sizeLine ∧ Q (.str (i ++ j)) H) ∨ rCatA K x y H Q ∨ rCatF K x y H Q
theorem op_addA {X : Cx} : OpR X (binaryOp .Add) (rAddA X.K) := OpR.or op_add (OpR.or op_add_str (OpR.or op_catA op_catF))
theorem oa_add : OA K (rAddA K) gAdd := ⟨fun H x y d e q Q hx hy hg k => by
  cases d <;> first | exact (show False from hg).elim | skip
  case int i =>
    cases e <;> first | exact (show False from hg).elim | skip
    exact .inl ⟨_, _, hx.int, hy.int, k _ H _ (L2.Same.refl _) (.inl (.int _)) hg⟩
  case str i =>
    cases e <;> first | exact (show False from hg).elim | skip
    exact .inr (.inl ⟨_, _, hx.str, hy.str, hg.1, k _ H _ (L2.Same.refl _) (.inl (.str _)) hg.2⟩)
  case tup i =>
    cases e <;> first | exact (show False from hg).elim | skip
    rename_i j
    obtain ⟨a, xs, rfl, h1, h2⟩ := hx.tup
    obtain ⟨b, ys, rfl, h3, h4⟩ := hy.tup
    have l1 := h2.length
    have l2 := h4.length
    refine .inr (.inr (.inl ⟨a, b, xs, ys, rfl, rfl, h1, h3, by rw [l1, l2]; exact hg.1, fun e => ?_, fun e1 e2 => ?_, fun e1 e2 p np => ?_⟩))
    · subst e
      have : i = [] := List.eq_nil_of_length_eq_zero (by rw [← l1]; rfl)
      subst this
      exact k _ H _ (L2.Same.refl _) (.inl hy.tupZ) hg.2
    · subst e2
      have : j = [] := List.eq_nil_of_length_eq_zero (by rw [← l2]; rfl)
      subst this
      have q2 := hg.2
      rw [List.append_nil] at q2
      exact k _ H _ (L2.Same.refl _) (.inl hx.tupZ) q2
    · have sm := same_new (o := .tup (xs ++ ys)) np
      exact k _ _ _ sm (.inl (.tup (SqT.of upd_same) ((ZA.mono (Ext.same sm) h2).append (ZA.mono (Ext.same sm) h4)) fun _ _ => upd_same)) hg.2
  case lst i =>
    cases e <;> first | exact (show False from hg).elim | skip
    rename_i j
    obtain ⟨a, xs, rfl, h1, h2⟩ := hx
    obtain ⟨b, ys, rfl, h3, h4⟩ := hy
    refine .inr (.inr (.inr ⟨a, b, xs, ys, rfl, rfl, h1, h3, by rw [h2.length, h4.length]; exact hg.1, fun p np => ?_⟩))
    have sm := same_new (o := .lst (xs ++ ys)) np
    exact k _ _ _ sm (.inr (.inl ⟨p, _, _, rfl, rfl, np, upd_same, (ZA.mono (Ext.same sm) h2).append (ZA.mono (Ext.same sm) h4)⟩)) hg.2⟩
/-! ### == and != -/
def gEqB (f : Bool → Bool) : G2 := fun d e q => match d, e with
  | .int i, .int j => q (.bl (f (decide (i = j))))
  | .str i, .str j => q (.bl (f (decide (i = j))))
  | .bl i, .bl j => q (.bl (f (decide (i = j))))
  | .non, .non => q (.bl (f true))
  | d, e => ∃ p r, d.py = some p ∧ e.py = some r ∧ SeqAt.shaped p = true ∧ SeqAt.shaped r = true ∧ q (.bl (f (PyData.eqv p r)))
abbrev rEqA (K : PySem.W.Frag) : R2 := fun x y H Q => rEq x y H Q ∨ rEqD K x y H Q
abbrev rNeA (K : PySem.W.Frag) : R2 := fun x y H Q => rNe x y H Q ∨ rNeD K x y H Q
theorem op_eqA {X : Cx} (hu : X.A.units + 64 < cLine) : OpR X (compareOp .Eq) (rEqA X.K) := OpR.or op_eq (op_eqD hu)
theorem op_neA {X : Cx} (hu : X.A.units + 64 < cLine) : OpR X (compareOp .NotEq) (rNeA X.K) := OpR.or op_ne (op_neD hu)
theorem dec_inj {α β : Type} [DecidableEq α] [DecidableEq β] {f : α → β} (h : ∀ a b, f a = f b → a = b) (a b : α) : decide (f a = f b) = decide (a = b) := by
  by_cases e : a = b
  · subst e; simp
  · rw [decide_eq_false e, decide_eq_false fun z => e (h _ _ z)]
theorem eq_cases {H : Hp} {x y : V} {d e : D} {q : D → Prop} {f : Bool → Bool} (hx : Rv K H x d) (hy : Rv K H y e) (hg : gEqB f d e q) :
    (scal x y = true ∧ q (.bl (f (decide (x = y))))) ∨ ∃ p r, Dp K H x p ∧ Dp K H y r ∧ SeqAt.shaped p = true ∧ SeqAt.shaped r = true ∧ q (.bl (f (PyData.eqv p r))) := by
  have gen : (∃ p r, d.py = some p ∧ e.py = some r ∧ SeqAt.shaped p = true ∧ SeqAt.shaped r = true ∧ q (.bl (f (PyData.eqv p r)))) → ∃ p r, Dp K H x p ∧ Dp K H y r ∧ SeqAt.shaped p = true ∧ SeqAt.shaped r = true ∧ q (.bl (f (PyData.eqv p r))) := fun ⟨p, r, e1, e2, h⟩ => ⟨p, r, hx.dp e1, hy.dp e2, h⟩
  cases d with
  | int i =>
    cases e with
    | int j => have e1 := hx.int; have e2 := hy.int; subst e1 e2; exact .inl ⟨rfl, by rw [dec_inj fun _ _ => V.int.inj]; exact hg⟩
    | _ => exact .inr (gen hg)
  | str i =>
    cases e with
    | str j => have e1 := hx.str; have e2 := hy.str; subst e1 e2; exact .inl ⟨rfl, by rw [dec_inj fun _ _ => V.str.inj]; exact hg⟩
    | _ => exact .inr (gen hg)
  | bl i =>
    cases e with
    | bl j => have e1 := hx.bl; have e2 := hy.bl; subst e1 e2; exact .inl ⟨rfl, by rw [dec_inj fun _ _ => V.bl.inj]; exact hg⟩
    | _ => exact .inr (gen hg)
  | non =>
    cases e with
    | non => have e1 := hx.non; have e2 := hy.non; subst e1 e2; exact .inl ⟨rfl, hg⟩
    | _ => exact .inr (gen hg)
  | _ => exact .inr (gen hg)
theorem oa_eq : OA K (rEqA K) (gEqB id) := ⟨fun H x y d e q Q hx hy hg k => by
  rcases eq_cases hx hy hg with ⟨h, h2⟩ | ⟨p, r, a, b, c, d, h2⟩
  · exact .inl ⟨h, k _ H _ (L2.Same.refl _) (.inl (.bl _)) h2⟩
  · exact .inr ⟨p, r, a, b, c, d, k _ H _ (L2.Same.refl _) (.inl (.bl _)) h2⟩⟩
theorem oa_ne : OA K (rNeA K) (gEqB not) := ⟨fun H x y d e q Q hx hy hg k => by
  rcases eq_cases hx hy hg with ⟨h, h2⟩ | ⟨p, r, a, b, c, d, h2⟩
  · exact .inl ⟨h, k _ H _ (L2.Same.refl _) (.inl (.bl _)) h2⟩
  · exact .inr ⟨p, r, a, b, c, d, k _ H _ (L2.Same.refl _) (.inl (.bl _)) h2⟩⟩
/-! ### x in xs, of flat items; in a dict -/
def flatD : D → Bool
  | .int _ => true
  | .bl _ => true
  | .str _ => true
  | .non => true
  | _ => false
def beqD : D → D → Bool
  | .int i, .int j => decide (i = j)
  | .bl i, .bl j => decide (i = j)
  | .str i, .str j => decide (i = j)
  | .non, .non => true
  | _, _ => false
def keyD : Key → D
  | .inl i => .int i
  | .inr x => .str x
/-! ### indexing -/
def gIx : G2 := fun d e q => match d, e with
  | .lst xs, .int i => ∃ z, atI xs i = some z ∧ q z
  | .tup xs, .int i => ∃ z, atI xs i = some z ∧ q z
  | .str x, .int i => x.length ≤ sizeLine ∧ ∃ c, atI x.cps.toList i = some c ∧ q (.str ⟨#[c]⟩)
  | _, _ => False
theorem atI_za {H : Hp} {vs : List V} {ds : List D} {i : Int} {z : D} (h : ZA K H vs ds) (e : atI ds i = some z) : ∃ v, atI vs i = some v ∧ Z K H v z := by
  unfold atI at e ⊢
  rw [h.length]
  cases q : ixN ds.length i with
  | none => rw [q] at e; cases e
  | some j => rw [q] at e; exact h.get e
theorem oa_ix : OA K (rIx K) gIx := ⟨fun H x y d e q Q hx hy hg k => by
  cases d <;> first | exact (show False from hg).elim | skip
  case str z =>
    cases e <;> first | exact (show False from hg).elim | skip
    obtain ⟨h1, c, h2, h3⟩ := hg
    exact .inr (.inr ⟨_, _, _, hx.str, hy.int, h1, h2, k _ H _ (L2.Same.refl _) (.inl (.str _)) h3⟩)
  case tup xs =>
    cases e <;> first | exact (show False from hg).elim | skip
    obtain ⟨z, h2, h3⟩ := hg
    obtain ⟨a, vs, rfl, s, l⟩ := hx.tup
    obtain ⟨v, h4, h5⟩ := atI_za l h2
    exact .inr (.inl ⟨_, _, _, _, rfl, hy.int, s, h4, k _ H _ (L2.Same.refl _) (.inl h5) h3⟩)
  case lst xs =>
    cases e <;> first | exact (show False from hg).elim | skip
    obtain ⟨z, h2, h3⟩ := hg
    obtain ⟨a, vs, rfl, s, l⟩ := hx
    obtain ⟨v, h4, h5⟩ := atI_za l h2
    exact .inl ⟨_, _, _, _, rfl, hy.int, s, h4, k _ H _ (L2.Same.refl _) (.inl h5) h3⟩⟩
end
end DL

set_option Elab.async false
set_option linter.all false
set_option maxRecDepth 100000
set_option maxHeartbeats 4000000
namespace DL
open PySem PySem.Spec PyProof.Rows L2 E
section
variable {K : PySem.W.Frag} {H : Hp}
/-! ### in -/
def eqF : D → D → Bool
  | .non, .non => true
  | .bl a, .bl b => a == b
  | .bl a, .int b => (if a then 1 else 0) == b
  | .int a, .bl b => a == (if b then 1 else 0)
  | .int a, .int b => a == b
  | .str a, .str b => a == b
  | _, _ => false
theorem Z.flat {v : V} {d : D} (h : Z K H v d) (f : flatD d = true) : flatV v = true := by
  cases h <;> first | rfl | exact (Bool.false_ne_true f).elim
theorem eqF_eq {v u : V} {d e : D} (h : Z K H v d) (h' : Z K H u e) (f : flatD d = true) (f' : flatD e = true) : eqV v u = eqF d e := by
  cases h <;> first | exact (Bool.false_ne_true f).elim | skip
  all_goals cases h' <;> first | rfl | exact (Bool.false_ne_true f').elim
theorem any_F {u : V} {e : D} (h' : Z K H u e) (f' : flatD e = true) : ∀ {vs : List V} {ds : List D}, ZA K H vs ds → ds.all flatD = true → (inV u vs = ds.any fun y => eqF y e) ∧ vs.all flatV = true
  | _, _, .nil, _ => ⟨rfl, rfl⟩
  | _, _, .cons (d := d) (ds := ds) h t, f => by
    rw [List.all_cons, Bool.and_eq_true] at f
    obtain ⟨i1, i2⟩ := any_F h' f' t f.2
    refine ⟨?_, ?_⟩
    · show (List.any (_ :: _) _) = _
      rw [List.any_cons, List.any_cons, eqF_eq h h' f.1 f', ← i1]
      rfl
    · rw [List.all_cons, h.flat f.1, i2]
      rfl
def findK (kvs : List (Key × D)) (k : Key) : Option D := (kvs.find? fun kv => decide (kv.1 = k)).map (·.2)
theorem zk_find {vs : List (Key × V)} {ds : List (Key × D)} (h : ZK K H vs ds) (k : Key) : (∃ v d, valV vs k = some v ∧ findK ds k = some d ∧ Z K H v d) ∨ (valV vs k = none ∧ findK ds k = none) := by
  induction vs generalizing ds with
  | nil => cases h; exact .inr ⟨rfl, rfl⟩
  | cons p vs ih =>
    cases h with
    | @cons k' v _ d ds' h1 h2 =>
      by_cases e : k' = k
      · refine .inl ⟨v, d, valV_pos e, ?_, h1⟩
        simp [findK, List.find?_cons, e]
      · have e2 : findK ((k', d) :: ds') k = findK ds' k := by simp [findK, List.find?_cons, e]
        have e1 : valV ((k', v) :: vs) k = valV vs k := valV_neg e
        rw [e1, e2]
        exact ih h2
def toKey : D → Option Key
  | .int i => some (.inl i)
  | .str x => some (.inr x)
  | _ => none
theorem key_of {x : V} {d : D} {k : Key} (h : Rv K H x d) (e : toKey d = some k) : x = kV k := by
  cases d <;> first | (cases e; done) | skip
  case int i => cases e; exact h.int
  case str i => cases e; exact h.str
/-- x in xs: flat things in a list or a tuple; any data in a list; a key in a dict; a sign in a text -/
def gInB (f : Bool → Bool) : G2 := fun d e q => match e with
  | .lst xs => (flatD d = true ∧ xs.all flatD = true ∧ q (.bl (f (xs.any fun y => eqF y d)))) ∨ ∃ p ps, d.py = some p ∧ pyAll xs = some ps ∧ SeqAt.shaped p = true ∧ SeqAt.shaped (.list ps) = true ∧ q (.bl (f (ps.any fun z => PyData.eqv z p)))
  | .tup xs => flatD d = true ∧ xs.all flatD = true ∧ q (.bl (f (xs.any fun y => eqF y d)))
  | .dct kvs => ∃ k, toKey d = some k ∧ q (.bl (f (findK kvs k).isSome))
  | .str y => ∃ c : Nat, d = .str ⟨#[c]⟩ ∧ q (.bl (f (decide (c ∈ y.cps.toList))))
  | _ => False
abbrev rDIn (f : Bool → Bool) : R2 := fun y x H Q => ∃ a o, x = .ref a ∧ DGet H a y o ∧ Q (.bl (f o.isSome)) H
theorem op_inDct {X : Cx} (hu : X.A.units + 64 < cLine) : OpR X (compareOp .In) (rDIn id) := by
  intro pins s σ H x y v u Q I rx ry h
  obtain ⟨a, o, rfl, g, q⟩ := h
  cases ry
  exact d_in (by omega) I g rx fun s3 I3 => ⟨.bl o.isSome, H, I3, rfl, q⟩
theorem op_notInDct {X : Cx} (hu : X.A.units + 64 < cLine) : OpR X (compareOp .NotIn) (rDIn not) := by
  intro pins s σ H x y v u Q I rx ry h
  obtain ⟨a, o, rfl, g, q⟩ := h
  cases ry
  exact d_notIn (by omega) I g rx fun s3 I3 => ⟨.bl (!o.isSome), H, I3, rfl, q⟩
abbrev rSgn (f : Bool → Bool) : R2 := fun x y H Q => ∃ (c : Nat) (z : Str), x = .str ⟨#[c]⟩ ∧ y = .str z ∧ Q (.bl (f (decide (c ∈ z.cps.toList)))) H
abbrev rInA (K : PySem.W.Frag) : R2 := fun x y H Q => rIn K false x y H Q ∨ rInD K x y H Q ∨ rDIn id x y H Q ∨ rSgn id x y H Q
abbrev rNotInA (K : PySem.W.Frag) : R2 := fun x y H Q => rIn K true x y H Q ∨ rNotInD K x y H Q ∨ rDIn not x y H Q ∨ rSgn not x y H Q
theorem op_inA {X : Cx} (hu : X.A.units + 65 < cLine) : OpR X (compareOp .In) (rInA X.K) := OpR.or op_in_seq (OpR.or (op_inD hu) (OpR.or (op_inDct (by omega)) op_in_sign))
theorem op_notInA {X : Cx} (hu : X.A.units + 65 < cLine) : OpR X (compareOp .NotIn) (rNotInA X.K) := OpR.or op_notIn_seq (OpR.or (op_notInD hu) (OpR.or (op_notInDct (by omega)) op_notIn_sign))
theorem Rv.z {x : V} {d : D} (h : Rv K H x d) (f : flatD d = true) : Z K H x d := by
  cases d <;> first | exact h | exact (Bool.false_ne_true f).elim
theorem in_cases {x y : V} {d e : D} {q : D → Prop} {f : Bool → Bool} (hx : Rv K H x d) (hy : Rv K H y e) (hg : gInB f d e q) :
    (∃ p xs, y = .ref p ∧ (SqL K H p xs ∨ SqT K H p xs) ∧ flatV x = true ∧ xs.all flatV = true ∧ q (.bl (f (inV x xs)))) ∨ (∃ p ps, Dp K H x p ∧ Dp K H y (.list ps) ∧ SeqAt.shaped p = true ∧ SeqAt.shaped (.list ps) = true ∧ q (.bl (f (ps.any fun z => PyData.eqv z p)))) ∨
    (∃ a o, y = .ref a ∧ DGet H a x o ∧ q (.bl (f o.isSome))) ∨ ∃ (c : Nat) (z : Str), x = .str ⟨#[c]⟩ ∧ y = .str z ∧ q (.bl (f (decide (c ∈ z.cps.toList)))) := by
  cases e <;> first | exact (show False from hg).elim | skip
  case lst ds =>
    rcases hg with ⟨h1, h2, h3⟩ | ⟨p, ps, h1, h2, h3, h4, h5⟩
    · obtain ⟨a, xs, rfl, s, l⟩ := hy
      obtain ⟨e1, e2⟩ := any_F (hx.z h1) h1 l h2
      exact .inl ⟨a, xs, rfl, .inl s, (hx.z h1).flat h1, e2, by rw [e1]; exact h3⟩
    · exact .inr (.inl ⟨p, ps, hx.dp h1, hy.dp (by show (pyAll ds).map PyData.list = _; rw [h2]; rfl), h3, h4, h5⟩)
  case tup ds =>
    obtain ⟨h1, h2, h3⟩ := hg
    obtain ⟨a, xs, rfl, s, l⟩ := hy.tup
    obtain ⟨e1, e2⟩ := any_F (hx.z h1) h1 l h2
    exact .inl ⟨a, xs, rfl, .inr s, (hx.z h1).flat h1, e2, by rw [e1]; exact h3⟩
  case dct kvs =>
    obtain ⟨k, h1, h2⟩ := hg
    obtain ⟨a, xs, rfl, s, l⟩ := hy
    refine .inr (.inr (.inl ⟨a, valV xs k, rfl, .inl ⟨xs, k, s, key_of hx h1, rfl⟩, ?_⟩))
    rcases zk_find l k with ⟨v, d, e1, e2, _⟩ | ⟨e1, e2⟩
    · rw [e1]; rw [e2] at h2; exact h2
    · rw [e1]; rw [e2] at h2; exact h2
  case str z =>
    obtain ⟨c, rfl, h⟩ := hg
    exact .inr (.inr (.inr ⟨c, z, hx.str, hy.str, h⟩))
theorem oa_in : OA K (rInA K) (gInB id) := ⟨fun H x y d e q Q hx hy hg k => by
  have kk := fun b h => k (.bl b) H (.bl b) (L2.Same.refl _) (.inl (.bl _)) h
  rcases in_cases hx hy hg with ⟨p, xs, a, b, c, d, h⟩ | ⟨p, ps, a, b, c, d, h⟩ | ⟨a, o, e, g, h⟩ | ⟨c, z, a, b, h⟩
  · exact .inl ⟨p, xs, a, b, c, d, kk _ h⟩
  · exact .inr (.inl ⟨p, ps, a, b, c, d, kk _ h⟩)
  · exact .inr (.inr (.inl ⟨a, o, e, g, kk _ h⟩))
  · exact .inr (.inr (.inr ⟨c, z, a, b, kk _ h⟩))⟩
theorem oa_notIn : OA K (rNotInA K) (gInB not) := ⟨fun H x y d e q Q hx hy hg k => by
  have kk := fun b h => k (.bl b) H (.bl b) (L2.Same.refl _) (.inl (.bl _)) h
  rcases in_cases hx hy hg with ⟨p, xs, a, b, c, d, h⟩ | ⟨p, ps, a, b, c, d, h⟩ | ⟨a, o, e, g, h⟩ | ⟨c, z, a, b, h⟩
  · exact .inl ⟨p, xs, a, b, c, d, kk _ h⟩
  · exact .inr (.inl ⟨p, ps, a, b, c, d, kk _ h⟩)
  · exact .inr (.inr (.inl ⟨a, o, e, g, kk _ h⟩))
  · exact .inr (.inr (.inr ⟨c, z, a, b, kk _ h⟩))⟩
/-- is None -/
def gIsN (f : Bool → Bool) : G2 := fun d e q => match e with
  | .non => (match d with | .non => q (.bl (f true)) | .raw _ => False | _ => q (.bl (f false)))
  | _ => False
def isNonD : D → Bool
  | .non => true
  | _ => false
theorem z_non {x : V} {d : D} (h : Rv K H x d) (n : ∀ v, d ≠ .raw v) : decide (x = V.non) = isNonD d := by
  cases d with
  | non => have e := h.non; subst e; rfl
  | raw v => exact absurd rfl (n v)
  | int i => have e := h.int; subst e; rfl
  | bl i => have e := h.bl; subst e; rfl
  | str i => have e := h.str; subst e; rfl
  | tup xs => obtain ⟨a, _, rfl, _⟩ := h.tup; rfl
  | lst xs => obtain ⟨a, _, rfl, _⟩ := h; rfl
  | dct xs => obtain ⟨a, _, rfl, _⟩ := h; rfl
  | obj C fs => cases (show Z K H x _ from h); rfl
theorem oa_isN : OA K rIsN (gIsN id) := ⟨fun H x y d e q Q hx hy hg k => by
  cases e <;> first | exact (show False from hg).elim | skip
  refine ⟨hy.non, k (.bl (decide (x = V.non))) H _ (L2.Same.refl _) (.inl (.bl _)) ?_⟩
  cases d with
  | raw v => exact (show False from hg).elim
  | _ => rw [z_non hx (fun v e => by cases e)]; exact hg⟩
theorem oa_notN : OA K rNotN (gIsN not) := ⟨fun H x y d e q Q hx hy hg k => by
  cases e <;> first | exact (show False from hg).elim | skip
  refine ⟨hy.non, k (.bl (!decide (x = V.non))) H _ (L2.Same.refl _) (.inl (.bl _)) ?_⟩
  cases d with
  | raw v => exact (show False from hg).elim
  | _ => rw [z_non hx (fun v e => by cases e)]; exact hg⟩
end
/-! ### tests -/
section
variable {X : Cx} {κ : Ktx} {i : Nat} {x : Str} {pos : Pos} {a b c : Expr} {rest : List Expr} {sa sb sc : DE} {ta tb : DTt}
def truD : D → (Bool → Prop) → Prop := fun d q => match d with
  | .non => q false
  | .bl b => q b
  | .int i => q (i != 0)
  | .str y => y.length ≤ sizeLine ∧ q ((y.length : Int) != 0)
  | .tup xs => q (!xs.isEmpty)
  | .lst xs => q (!xs.isEmpty)
  | _ => False
theorem isE {K : PySem.W.Frag} {H : Hp} {vs : List V} {ds : List D} (h : ZA K H vs ds) : vs.isEmpty = ds.isEmpty := by cases h <;> rfl
theorem truD_ok {K : PySem.W.Frag} {H : Hp} {x : V} {d : D} {q : Bool → Prop} (h : Rv K H x d) (g : truD d q) : ∃ k, TruV K x H k ∧ q k := by
  cases d <;> first | exact (show False from g).elim | skip
  case non => rw [h.non]; exact ⟨_, rfl, g⟩
  case bl b => rw [h.bl]; exact ⟨_, rfl, g⟩
  case int i => rw [h.int]; exact ⟨_, rfl, g⟩
  case str y => rw [h.str]; exact ⟨_, ⟨g.1, rfl⟩, g.2⟩
  case tup xs => obtain ⟨a, vs, rfl, s, l⟩ := h.tup; exact ⟨_, .inr (.inl ⟨vs, s, rfl⟩), by rw [isE l]; exact g⟩
  case lst xs => obtain ⟨a, vs, rfl, s, l⟩ := h; exact ⟨_, .inl ⟨vs, s, rfl⟩, by rw [isE l]; exact g⟩
def sTru (sa : DE) : DTt := fun ρ Q => sa ρ fun d ρ1 => resK ρ1 d fun d' => truD d' fun k => Q k ρ1
theorem dt_truth (ha : DX X κ a sa) (he : ∀ whole, isTrue a X.env whole = (do let v ← whole; standAt a.pos; holding [v] (truthy v))) : DT X κ a (sTru sa) :=
  DT.of (pt_truth ha he) fun σ H ρ Q R h => goD R h fun v H1 d ρ1 R1 z1 f1 s1 h1 => by
    obtain ⟨d', v1, h2⟩ := R1.res z1 h1
    obtain ⟨k, t, q⟩ := truD_ok v1 h2
    exact ⟨k, t, ρ1, R1, f1, s1, q⟩
/-- a comparison as a test -/
def sTst (s : DE) : DTt := fun ρ Q => s ρ fun d ρ1 => ∃ b, d = .v (.bl b) ∧ Q b ρ1
theorem opT_run {K : PySem.W.Frag} {κ : Ktx} {r : R2} {g : G2} (oa : OA K r g) {σ : L2.St} {H : Hp} {ρ : En} {Q : Bool → En → Prop} (R : Rep K κ ρ σ H) (h : sTst (sOp g sa sb) ρ Q) :
    tTest (tOp r (tD K κ sa) (tD K κ sb)) σ H (pT K κ σ H ρ Q) :=
  goD R h fun x H1 d ρ1 R1 z1 f1 s1 h1 => goD R1 h1 fun y H2 e ρ2 R2 z2 f2 s2 h2 =>
    let ⟨_, v1, h3⟩ := R2.res (z1.mono (R1.ext f2)) h2
    let ⟨_, v2, h4⟩ := R2.res z2 h3
    oa.ok H2 x y _ _ _ _ v1 v2 h4 fun v H3 z sm zo q => by
      obtain ⟨b, eb, q⟩ := q
      cases eb
      rcases zo with z | ⟨_, _, _, _, e, _⟩ | ⟨_, _, _, _, e, _⟩
      · cases z
        exact ⟨b, rfl, ρ2, R2.step sm, (f1.trans s1 f2).trans (s2.trans s1) (Fr.same sm), s2.trans s1, q⟩
      · cases e
      · cases e
theorem dt_cmp {op : CmpOp} {r : R2} {g : G2} (ho : OpR X (compareOp op) r) (oa : OA X.K r g) (ha : DX X κ a sa) (hb : DX X κ b sb) (hm : behindInMarks op b = false) : DT X κ (.Compare a [op] [b] pos) (sTst (sOp g sa sb)) :=
  DT.of (pt_cmpR ho ha hb hm) fun σ H ρ Q R h => opT_run oa R h
def sAnd (t u : DTt) : DTt := fun ρ Q => t ρ fun b ρ1 => if b = true then u ρ1 Q else Q false ρ1
def sOr (t u : DTt) : DTt := fun ρ Q => t ρ fun b ρ1 => if b = true then Q true ρ1 else u ρ1 Q
def sNot (t : DTt) : DTt := fun ρ Q => t ρ fun b ρ1 => Q (!b) ρ1
abbrev DW (X : Cx) (κ : Ktx) (e : Expr) (s : DTt) : Prop := PW X e (tT X.K κ s)
theorem DW.of {e : Expr} {t : TT} {s : DTt} (h : PW X e t) (c : ∀ σ H ρ Q, Rep X.K κ ρ σ H → s ρ Q → t σ H (pT X.K κ σ H ρ Q)) : DW X κ e s := ⟨fun wh pins st σ H Q I ⟨ρ, q, R, hs, k⟩ =>
  thn (h.run wh pins st σ H _ I (c σ H ρ q R hs)) fun u s' ⟨H', I', z⟩ => ⟨H', I', k u H' z⟩⟩
theorem dw_and1 (ha : DT X κ a ta) : DW X κ (.BoolOp .And [a] pos) ta := pw_and1 ha
theorem dw_or1 (ha : DT X κ a ta) : DW X κ (.BoolOp .Or [a] pos) ta := pw_or1 ha
theorem pT.tr {K : PySem.W.Frag} {κ : Ktx} {σ : L2.St} {H H1 H' : Hp} {ρ ρ1 : En} {v : Bool} {Q : Bool → En → Prop} (f : Fr ρ H H1) (s : Sub ρ1 ρ) (h : pT K κ σ H1 ρ1 Q v H') : pT K κ σ H ρ Q v H' := by
  obtain ⟨ρ', a, b, c, d⟩ := h
  exact ⟨ρ', a, f.trans s b, c.trans s, d⟩
theorem pD.tr {K : PySem.W.Frag} {κ : Ktx} {σ : L2.St} {H H1 H' : Hp} {ρ ρ1 : En} {v : V} {Q : DQ} (f : Fr ρ H H1) (s : Sub ρ1 ρ) (h : pD K κ σ H1 ρ1 Q v H') : pD K κ σ H ρ Q v H' := by
  obtain ⟨d, ρ', a, z, b, c, q⟩ := h
  exact ⟨d, ρ', a, z, f.trans s b, c.trans s, q⟩
theorem dw_and (ha : DT X κ a ta) (hb : DW X κ (.BoolOp .And (b :: rest) pos) tb) : DW X κ (.BoolOp .And (a :: b :: rest) pos) (sAnd ta tb) :=
  DW.of (pw_and ha hb) fun σ H ρ Q R h => goT R h fun c H1 ρ1 R1 f1 s1 h1 => by
    cases c with
    | true => exact (if_pos rfl).mpr ⟨ρ1, Q, R1, (if_pos rfl).mp h1, fun v H' z => z.tr f1 s1⟩
    | false => exact (if_neg Bool.false_ne_true).mpr ⟨ρ1, R1, f1, s1, (if_neg Bool.false_ne_true).mp h1⟩
theorem dw_or (ha : DT X κ a ta) (hb : DW X κ (.BoolOp .Or (b :: rest) pos) tb) : DW X κ (.BoolOp .Or (a :: b :: rest) pos) (sOr ta tb) :=
  DW.of (pw_or ha hb) fun σ H ρ Q R h => goT R h fun c H1 ρ1 R1 f1 s1 h1 => by
    cases c with
    | true => exact (if_pos rfl).mpr ⟨ρ1, R1, f1, s1, (if_pos rfl).mp h1⟩
    | false => exact (if_neg Bool.false_ne_true).mpr ⟨ρ1, Q, R1, (if_neg Bool.false_ne_true).mp h1, fun v H' z => z.tr f1 s1⟩
theorem dt_not (ha : DT X κ a ta) : DT X κ (.UnaryOp .Not a pos) (sNot ta) :=
  DT.of (pt_not ha) fun σ H ρ Q R h => goT R h fun c H1 ρ1 R1 f1 s1 h1 => ⟨ρ1, R1, f1, s1, h1⟩
/-! ### values: a if t else b, not, and, or -/
def sIf (t : DTt) (sa sb : DE) : DE := fun ρ Q => t ρ fun b ρ1 => if b = true then sa ρ1 Q else sb ρ1 Q
theorem dx_if (ht : DT X κ c ta) (ha : DX X κ a sa) (hb : DX X κ b sb) : DX X κ (.IfExp c a b pos) (sIf ta sa sb) :=
  DX.of (pe_ifExp ht ha hb) fun σ H ρ Q R h => goT R h fun c H1 ρ1 R1 f1 s1 h1 => by
    cases c with
    | true => exact (if_pos rfl).mpr ⟨ρ1, Q, R1, (if_pos rfl).mp h1, fun v H' z => z.tr f1 s1⟩
    | false => exact (if_neg Bool.false_ne_true).mpr ⟨ρ1, Q, R1, (if_neg Bool.false_ne_true).mp h1, fun v H' z => z.tr f1 s1⟩
def sNotV (sa : DE) : DE := fun ρ Q => sa ρ fun d ρ1 => resK ρ1 d fun d' => truD d' fun k => Q (.v (.bl (!k))) ρ1
theorem dx_not (ha : DX X κ a sa) : DX X κ (.UnaryOp .Not a pos) (sNotV sa) :=
  DX.of (pe_notT ha) fun σ H ρ Q R h => goD R h fun v H1 d ρ1 R1 z1 f1 s1 h1 => by
    obtain ⟨d', v1, h2⟩ := R1.res z1 h1
    obtain ⟨k, t, q⟩ := truD_ok v1 h2
    exact ⟨k, t, .v (.bl (!k)), ρ1, R1, Z.bl _, f1, s1, q⟩
/-- x and y, x or y, by truth: x itself or y -/
def sAndV (sa sb : DE) : DE := fun ρ Q => sa ρ fun d ρ1 => resK ρ1 d fun d' => truD d' fun k => if k = true then sb ρ1 Q else Q d ρ1
def sOrV (sa sb : DE) : DE := fun ρ Q => sa ρ fun d ρ1 => resK ρ1 d fun d' => truD d' fun k => if k = true then Q d ρ1 else sb ρ1 Q
theorem dx_and (ha : DX X κ a sa) (hb : DX X κ (.BoolOp .And (b :: rest) pos) sb) : DX X κ (.BoolOp .And (a :: b :: rest) pos) (sAndV sa sb) :=
  DX.of (pe_andT ha hb) fun σ H ρ Q R h => goD R h fun v H1 d ρ1 R1 z1 f1 s1 h1 => by
    obtain ⟨d', v1, h2⟩ := R1.res z1 h1
    obtain ⟨k, t, q⟩ := truD_ok v1 h2
    refine ⟨k, t, ?_⟩
    cases k with
    | true => exact (if_pos rfl).mpr ⟨ρ1, Q, R1, (if_pos rfl).mp q, fun v H' z => z.tr f1 s1⟩
    | false => exact (if_neg Bool.false_ne_true).mpr ⟨d, ρ1, R1, z1, f1, s1, (if_neg Bool.false_ne_true).mp q⟩
theorem dx_or (ha : DX X κ a sa) (hb : DX X κ (.BoolOp .Or (b :: rest) pos) sb) : DX X κ (.BoolOp .Or (a :: b :: rest) pos) (sOrV sa sb) :=
  DX.of (pe_orT ha hb) fun σ H ρ Q R h => goD R h fun v H1 d ρ1 R1 z1 f1 s1 h1 => by
    obtain ⟨d', v1, h2⟩ := R1.res z1 h1
    obtain ⟨k, t, q⟩ := truD_ok v1 h2
    refine ⟨k, t, ?_⟩
    cases k with
    | true => exact (if_pos rfl).mpr ⟨d, ρ1, R1, z1, f1, s1, (if_pos rfl).mp q⟩
    | false => exact (if_neg Bool.false_ne_true).mpr ⟨ρ1, Q, R1, (if_neg Bool.false_ne_true).mp q, fun v H' z => z.tr f1 s1⟩
theorem dx_one {op : BoolOp} (ha : DX X κ a sa) : DX X κ (.BoolOp op [a] pos) sa := pe_one ha
end
end DL

set_option Elab.async false
set_option linter.all false
set_option maxRecDepth 100000
set_option maxHeartbeats 4000000
namespace DL
open PySem PySem.Spec PyProof.Rows L2 E
section
variable {X : Cx} {κ : Ktx} {i : Nat} {x : Str} {p pos : Pos} {a b c e : Expr} {es : List Expr} {sa sb sc : DE} {sA : DAa}
/-! ### arguments, tuples, lists -/
def sNil : DAa := fun ρ Q => Q [] ρ
def sCons (sa : DE) (r : DAa) : DAa := fun ρ Q => sa ρ fun d ρ1 => r ρ1 fun ds ρ2 => Q (d :: ds) ρ2
theorem da_nil : DA X κ [] sNil := DA.of pa_nil fun σ H ρ Q R h => ⟨[], ρ, R, .nil, Fr.refl _ _, Sub.refl _, h⟩
theorem ZRA.mono {K : PySem.W.Frag} {H H' : Hp} {vs : List V} {rs : List Rs} (k : Ext H H') (h : ZRA K H vs rs) : ZRA K H' vs rs := by
  induction h with
  | nil => exact .nil
  | cons h t ih => exact .cons (h.mono k) ih
theorem da_cons (ha : DX X κ e sa) (hr : DA X κ es sA) (hs : starEach (e :: es) X.env = (false, eval e X.env) :: starEach es X.env := by rfl) : DA X κ (e :: es) (sCons sa sA) :=
  DA.of (pa_cons ha hr hs) fun σ H ρ Q R h => goD R h fun v H1 d ρ1 R1 z1 f1 s1 h1 => goA R1 h1 fun vs H2 ds ρ2 R2 z2 f2 s2 h2 => ⟨d :: ds, ρ2, R2, .cons (z1.mono (R1.ext f2)) z2, f1.trans s1 f2, s2.trans s1, h2⟩
def sTup (r : DAa) : DE := fun ρ Q => r ρ fun rs ρ1 => valKs rs fun ds => ds.length ≤ sizeLine ∧ Q (.v (.tup ds)) ρ1
theorem dx_tup {x1} (h : DA X κ es sA) : DX X κ (.Tuple es x1 pos) (sTup sA) :=
  DX.of (pe_tup h) fun σ H ρ Q R h => goA R h fun vs H1 rs ρ1 R1 z1 f1 s1 h1 => by
    obtain ⟨ds, z, h2, h3⟩ := vals_of z1 h1
    refine ⟨by rw [z.length]; exact h2, fun p np => ?_⟩
    have sm := same_new (o := .tup vs) np
    exact ⟨.v (.tup ds), ρ1, R1.step sm, Z.tup (SqT.of upd_same) (ZA.mono (Ext.same sm) z) fun _ _ => upd_same, f1.trans s1 (Fr.same sm), s1, h3⟩
/-! ### new lists -/
abbrev DF := En → (List D → En → Prop) → Prop
def pF (K : PySem.W.Frag) (κ : Ktx) (σ : L2.St) (H : Hp) (ρ : En) (Q : List D → En → Prop) : VK := fun v H' => ∃ p vs ds ρ', v = .ref p ∧ H p = none ∧ H' p = some (.lst vs) ∧ ZA K H' vs ds ∧ Rep K κ ρ' σ H' ∧ Fr ρ H H' ∧ Sub ρ' ρ ∧ Q ds ρ'
def tF (K : PySem.W.Frag) (κ : Ktx) (s : DF) : TE := fun σ H Q => ∃ ρ q, Rep K κ ρ σ H ∧ s ρ q ∧ ∀ v H', pF K κ σ H ρ q v H' → Q v H'
abbrev FX (X : Cx) (κ : Ktx) (e : Expr) (s : DF) : Prop := PE X e (tF X.K κ s)
theorem FX.of {t : TE} {s : DF} (h : PE X e t) (c : ∀ σ H ρ Q, Rep X.K κ ρ σ H → s ρ Q → t σ H (pF X.K κ σ H ρ Q)) : FX X κ e s := ⟨fun pins st σ H Q I ⟨ρ, q, R, hs, k⟩ =>
  thn (h.run pins st σ H _ I (c σ H ρ q R hs)) fun u s' ⟨v, H', I', r, z⟩ => ⟨v, H', I', r, k v H' z⟩⟩
def sFx (s : DF) : DE := fun ρ Q => s ρ fun ds ρ1 => Q (.v (.lst ds)) ρ1
theorem dom_none {ρ : En} {H H' : Hp} {p : Addr} (f : Fr ρ H H') (h : H' p = none) : H p = none := by
  cases e : H p with
  | none => rfl
  | some o =>
    obtain ⟨o', h'⟩ := f.2 _ _ e
    rw [h] at h'
    cases h'
theorem frz_rep {K : PySem.W.Frag} {ρ ρ' : En} {σ : L2.St} {H H' : Hp} {p : Addr} {u : HO} {o : Obj} (R0 : Rep K κ ρ σ H) (R : Rep K κ ρ' σ H') (s : Sub ρ' ρ) (n : H p = none) (h : H' p = some u) (m : Mu u) : Rep K κ ρ' σ (upd H' p (.frz o u)) ∧ Ext H' (upd H' p (.frz o u)) ∧ κ.H0 p = none := by
  have n0 : κ.H0 p = none := by
    cases e : κ.H0 p with
    | none => rfl
    | some o =>
      obtain ⟨o', h'⟩ := R0.dom _ _ e
      rw [n] at h'
      cases h'
  have nOwn : ¬ Owns ρ' p := fun q => by
    obtain ⟨u, h', _⟩ := R0.own (s.1 p q)
    rw [n] at h'
    cases h'
  have x := ext_mu (o := .frz o u) h m
  refine ⟨⟨R.len, fun i sl e => ?_, R.nd, R.new, fun b y h0 n1 n2 => ?_, fun b y h0 => ?_, Rep.tabs R.tab h m, R.plx⟩, x, n0⟩
  · have q := R.ok i sl e
    have ne : ∀ a, sl.own = some a → a ≠ p := fun a ea z => nOwn ⟨i, by rw [ownAt_of e, ea, z]⟩
    cases sl with
    | no => trivial
    | val d => obtain ⟨v, e1, z⟩ := q; exact ⟨v, e1, z.mono x⟩
    | ls a ds => obtain ⟨e1, vs, h1, z⟩ := q; exact ⟨e1, vs, by rw [upd_ne (ne a rfl)]; exact h1, z.mono x⟩
    | dk a ds => obtain ⟨e1, vs, h1, z⟩ := q; exact ⟨e1, vs, by rw [upd_ne (ne a rfl)]; exact h1, z.mono x⟩
    | il a => obtain ⟨e1, ns, h1⟩ := q; exact ⟨e1, ns, by rw [upd_ne (ne a rfl)]; exact h1⟩
    | pl a l =>
      obtain ⟨e1, h1⟩ := q
      refine ⟨e1, ?_⟩
      obtain ⟨i, r, c, s, h5, h6⟩ := h1.at5
      obtain ⟨cs, hs⟩ := h1.sq
      refine ⟨?_, h1.ne, i, r, c, s, by rw [upd_ne (ne a rfl)]; exact h5, h6⟩
      rcases hs with (hs | ⟨ob, hs⟩) | hs
      · by_cases e2 : l = p
        · rw [e2, h] at hs
          have eu : u = .lst (cs.map V.int) := Option.some.inj hs
          exact ⟨cs, .inl (.inr ⟨o, by rw [e2, upd_same, eu]⟩)⟩
        · exact ⟨cs, .inl (.inl (by rw [upd_ne e2]; exact hs))⟩
      · exact ⟨cs, .inl (.inr ⟨ob, x _ _ hs trivial⟩)⟩
      · exact ⟨cs, .inr hs⟩
  · rw [upd_ne fun z => by rw [z, n0] at h0; cases h0]
    exact R.ctx b y h0 n1 n2
  · rw [upd_ne fun z => by rw [z, n0] at h0; cases h0]
    exact R.dom b y h0
theorem dx_fx {s : DF} (h : FX X κ e s) : DX X κ e (sFx s) := DX.of (pe_fz h) fun σ H ρ Q R hs => ⟨ρ, _, R, hs, fun v H' ⟨p, vs, ds, ρ', e, n, hp, z, R', f, s', q⟩ => by
    subst e
    refine .inr ⟨p, _, rfl, hp, trivial, fun o => ?_⟩
    obtain ⟨R2, x, n0⟩ := frz_rep (o := o) R R' s' n hp trivial
    refine ⟨.v (.lst ds), ρ', R2, Z.lst (.inl ⟨o, upd_same⟩) (z.mono x), ⟨fun b y e m1 m2 => ?_, fun b y e => ?_⟩, s', q⟩
    · rw [upd_ne (ne_of_none e n)]
      exact f.1 b y e m1 m2
    · rw [upd_ne (ne_of_none e n)]
      exact f.2 b y e⟩
def sLst (r : DAa) : DF := fun ρ Q => r ρ fun rs ρ1 => valKs rs fun ds => ds.length ≤ sizeLine ∧ Q ds ρ1
theorem fx_lst (h : DA X κ es sA) : FX X κ (.List es pos) (sLst sA) :=
  FX.of (pe_lst h) fun σ H ρ Q R h => goA R h fun vs H1 rs ρ1 R1 z1 f1 s1 h1 => by
    obtain ⟨ds, z, h2, h3⟩ := vals_of z1 h1
    refine ⟨by rw [z.length]; exact h2, fun p np => ?_⟩
    have sm := same_new (o := .lst vs) np
    exact ⟨p, vs, ds, ρ1, rfl, dom_none f1 np, upd_same, z.mono (Ext.same sm), R1.step sm, f1.trans s1 (Fr.same sm), s1, h3⟩
/-! ### calls of built-ins by values -/
structure CA (K : PySem.W.Frag) (r : List V → Hp → VK → Prop) (g : GL) : Prop where
  ok : ∀ H xs ds q Q, RvA K H xs ds → g ds q → (∀ v H' z, Same H H' → Zo K H H' v z → q z → Q v H') → r xs H Q
def sCB (g : GL) (sA : DAa) : DE := fun ρ Q => sA ρ fun rs ρ1 => resKs ρ1 rs fun ds => g ds fun z => Q (.v z) ρ1
theorem dx_callB {id : String} {r : List V → Hp → VK → Prop} {g : GL} (ca : CA X.K r g) (hc : CallR X (.builtin id) r) (hg : Gl X x) (hm : X.mg x = none) (hv : bootBuiltins x = some (.builtin id)) (ha : DA X κ (e :: es) sA) (hn : x ≠ "__name__" := by decide) (hdb : (x == ("__debug__" : Str)) = false := by decide)
    (he : starEach (e :: es) X.env = (false, eval e X.env) :: starEach es X.env := by rfl) (hpl : (backTo pos (starEach es X.env)).any (·.1) = false := by rfl) : DX X κ (.Call (.Name x p) (e :: es) [] pos) (sCB g sA) :=
  DX.of (pe_fz (pe_callB hc hg hm hv ha hn hdb he hpl)) fun σ H ρ Q R h => goA R h fun vs H1 rs ρ1 R1 z1 f1 s1 h1 =>
    let ⟨ds, v1, h2⟩ := R1.ress z1 h1
    ca.ok H1 vs ds _ _ v1 h2 fun v H3 z sm zo q => fin_o R1 f1 s1 sm zo q
theorem dx_callTy {T : String} {r : List V → Hp → VK → Prop} {g : GL} (ca : CA X.K r g) (hc : CallR X (.type T) r) (hg : Gl X x) (hm : X.mg x = none) (hv : bootBuiltins x = some (.type T)) (ha : DA X κ (e :: es) sA) (hn : x ≠ "__name__" := by decide) (hdb : (x == ("__debug__" : Str)) = false := by decide)
    (he : starEach (e :: es) X.env = (false, eval e X.env) :: starEach es X.env := by rfl) (hpl : (backTo pos (starEach es X.env)).any (·.1) = false := by rfl) : DX X κ (.Call (.Name x p) (e :: es) [] pos) (sCB g sA) :=
  DX.of (pe_fz (pe_callTy hc hg hm hv ha hn hdb he hpl)) fun σ H ρ Q R h => goA R h fun vs H1 rs ρ1 R1 z1 f1 s1 h1 =>
    let ⟨ds, v1, h2⟩ := R1.ress z1 h1
    ca.ok H1 vs ds _ _ v1 h2 fun v H3 z sm zo q => fin_o R1 f1 s1 sm zo q
/-- a new list by a built-in class -/
structure CF (K : PySem.W.Frag) (r : List V → Hp → VK → Prop) (g : List D → (List D → Prop) → Prop) : Prop where
  ok : ∀ H xs ds q Q, RvA K H xs ds → g ds q → (∀ p vs z H', Same H H' → H p = none → H' p = some (.lst vs) → ZA K H' vs z → q z → Q (.ref p) H') → r xs H Q
def sCF (g : List D → (List D → Prop) → Prop) (sA : DAa) : DF := fun ρ Q => sA ρ fun rs ρ1 => resKs ρ1 rs fun ds => g ds fun z => Q z ρ1
theorem fx_callTy {T : String} {r : List V → Hp → VK → Prop} {g : List D → (List D → Prop) → Prop} (ca : CF X.K r g) (hc : CallR X (.type T) r) (hg : Gl X x) (hm : X.mg x = none) (hv : bootBuiltins x = some (.type T)) (ha : DA X κ (e :: es) sA) (hn : x ≠ "__name__" := by decide) (hdb : (x == ("__debug__" : Str)) = false := by decide)
    (he : starEach (e :: es) X.env = (false, eval e X.env) :: starEach es X.env := by rfl) (hpl : (backTo pos (starEach es X.env)).any (·.1) = false := by rfl) : FX X κ (.Call (.Name x p) (e :: es) [] pos) (sCF g sA) :=
  FX.of (pe_callTy hc hg hm hv ha hn hdb he hpl) fun σ H ρ Q R h => goA R h fun vs H1 rs ρ1 R1 z1 f1 s1 h1 =>
    let ⟨ds, v1, h2⟩ := R1.ress z1 h1
    ca.ok H1 vs ds _ _ v1 h2 fun p vs z H3 sm n hp za q => ⟨p, vs, z, ρ1, rfl, dom_none f1 n, hp, za, R1.step sm, f1.trans s1 (Fr.same sm), s1, q⟩
theorem fx_callB {id : String} {r : List V → Hp → VK → Prop} {g : List D → (List D → Prop) → Prop} (ca : CF X.K r g) (hc : CallR X (.builtin id) r) (hg : Gl X x) (hm : X.mg x = none) (hv : bootBuiltins x = some (.builtin id)) (ha : DA X κ (e :: es) sA) (hn : x ≠ "__name__" := by decide) (hdb : (x == ("__debug__" : Str)) = false := by decide)
    (he : starEach (e :: es) X.env = (false, eval e X.env) :: starEach es X.env := by rfl) (hpl : (backTo pos (starEach es X.env)).any (·.1) = false := by rfl) : FX X κ (.Call (.Name x p) (e :: es) [] pos) (sCF g sA) :=
  FX.of (pe_callB hc hg hm hv ha hn hdb he hpl) fun σ H ρ Q R h => goA R h fun vs H1 rs ρ1 R1 z1 f1 s1 h1 =>
    let ⟨ds, v1, h2⟩ := R1.ress z1 h1
    ca.ok H1 vs ds _ _ v1 h2 fun p vs z H3 sm n hp za q => ⟨p, vs, z, ρ1, rfl, dom_none f1 n, hp, za, R1.step sm, f1.trans s1 (Fr.same sm), s1, q⟩
/-! ### calls of the program's defs -/
def spD (K : PySem.W.Frag) (TT : List NdefX.NTab) (φ : GL) : Sp := fun vs H Q _ => ∃ ds q, ZA K H vs ds ∧ NdefX.TabsN TT H ∧ φ ds q ∧ ∀ v H' z, Kpt H H' → NdefX.TabsN TT H' → Z K H' v z → q z → Q v H'
/-- .. of one that may raise: x is what is wanted of the class that is raised -/
abbrev GX := List D → (D → Prop) → (Addr → Prop) → Prop
def spX (K : PySem.W.Frag) (TT : List NdefX.NTab) (φ : GX) : Sp := fun vs H Q E => ∃ ds q x, ZA K H vs ds ∧ NdefX.TabsN TT H ∧ φ ds q x ∧ (∀ v H' z, Kpt H H' → NdefX.TabsN TT H' → Z K H' v z → q z → Q v H') ∧ ∀ C H', Kpt H H' → NdefX.TabsN TT H' → x C → E (.ref C) none H'
def sCall (φ : GL) (sA : DAa) : DE := fun ρ Q => sA ρ fun rs ρ1 => valKs rs fun ds => φ ds fun z => Q (.v z) ρ1
variable {CX : CXT} {k : Nat} {f : Addr} {fd : FuncData} {ps : List Str} {sp : Sp} {ds : List Value} {dvs : List V} {E : XK}
theorem dx_call {φ : GL} (F : FnOk X.prog X.w X.K X.mg X.base CX k f fd ps (spD X.K κ.TT φ)) (hr : Room k X.A) (hg : Gl X x) (hm : X.mg x = some (.ref f)) (hk : PySem.W.keepIn X.K (.ref f) = true) (hb : Binds X.K fd ps []) (hx : Passes CX X E)
    (ha : DA X κ (e :: es) sA) (hdb : (x == ("__debug__" : Str)) = false := by decide) (he : starEach (e :: es) X.env = (false, eval e X.env) :: starEach es X.env := by rfl) (hpl : (backTo pos (starEach es X.env)).any (·.1) = false := by rfl) :
    DX X κ (.Call (.Name x p) (e :: es) [] pos) (sCall φ sA) :=
  DX.of (pe_call F hr hg hm hk hb .nil hx ha hdb he hpl) fun σ H ρ Q R h => goA R h fun vs H1 rs ρ1 R1 z1 f1 s1 h1 => by
    obtain ⟨ds, z, h2⟩ := vals_of z1 h1
    show spD _ _ _ (vs ++ []) _ _ _
    rw [List.append_nil]
    exact ⟨ds, _, z, R1.tab, h2, fun v H' z kp tb zv q => ⟨.v z, ρ1, R1.stepK kp tb, zv, f1.trans s1 kp.fr, s1, q⟩⟩
theorem dx_call0 {φ : GL} (F : FnOk X.prog X.w X.K X.mg X.base CX k f fd ps (spD X.K κ.TT φ)) (hr : Room k X.A) (hg : Gl X x) (hm : X.mg x = some (.ref f)) (hk : PySem.W.keepIn X.K (.ref f) = true) (hb : Binds X.K fd ps []) (hx : Passes CX X E)
    (hdb : (x == ("__debug__" : Str)) = false := by decide) : DX X κ (.Call (.Name x p) [] [] pos) (sCall φ sNil) :=
  DX.of (pe_call0 F hr hg hm hk hb .nil hx hdb) fun σ H ρ Q R h => by
    refine (show spD X.K κ.TT φ ([] ++ []) H _ E from ?_)
    exact ⟨[], _, .nil, R.tab, h, fun v H' z kp tb zv q => ⟨.v z, ρ, R.stepK kp tb, zv, kp.fr, Sub.refl _, q⟩⟩
/-- a call by a promise of another form -/
def sCallO (g : List Rs → En → DQ → Prop) (sA : DAa) : DE := fun ρ Q => sA ρ fun rs ρ1 => g rs ρ1 Q
theorem dx_callO {g : List Rs → En → DQ → Prop} (F : FnOk X.prog X.w X.K X.mg X.base CX k f fd ps sp) (c : ∀ σ H ρ vs rs Q (Q' : VK), Rep X.K κ ρ σ H → ZRA X.K H vs rs → g rs ρ Q → (∀ v H', pD X.K κ σ H ρ Q v H' → Q' v H') → sp vs H Q' E)
    (hr : Room k X.A) (hg : Gl X x) (hm : X.mg x = some (.ref f)) (hk : PySem.W.keepIn X.K (.ref f) = true) (hb : Binds X.K fd ps []) (hx : Passes CX X E)
    (ha : DA X κ (e :: es) sA) (hdb : (x == ("__debug__" : Str)) = false := by decide) (he : starEach (e :: es) X.env = (false, eval e X.env) :: starEach es X.env := by rfl) (hpl : (backTo pos (starEach es X.env)).any (·.1) = false := by rfl) :
    DX X κ (.Call (.Name x p) (e :: es) [] pos) (sCallO g sA) :=
  DX.of (pe_call F hr hg hm hk hb .nil hx ha hdb he hpl) fun σ H ρ Q R h => goA R h fun vs H1 rs ρ1 R1 z1 f1 s1 h1 => by
    show sp (vs ++ []) _ _ _
    rw [List.append_nil]
    exact c σ H1 ρ1 vs rs Q _ R1 z1 h1 fun v H' z => z.tr f1 s1
end
/-! ### what a loop goes over -/
/-- the walk yields the items, as long as ST stands -/
structure Src (K : PySem.W.Frag) (J : It) (xs : List D) (ST : Hp → Prop) : Prop where
  go : ∀ i H, i < xs.length → ST H → J.go i H
  stop : ∀ H, ST H → J.stop xs.length H
  yld : ∀ i H x H', ST H → J.yld i H x H' → Same H H' ∧ ∀ d, xs[i]? = some d → Z K H' x d
abbrev DIt := En → (List D → (En → Prop) → En → Prop) → Prop
def ItOk (K : PySem.W.Frag) (κ : Ktx) (wi : TI) (s : DIt) : Prop := ∀ σ H ρ Q (R : It → Hp → Prop), Rep K κ ρ σ H → s ρ Q →
  (∀ J ST xs kp H1 ρ1, Rep K κ ρ1 σ H1 → Fr ρ H H1 → Sub ρ1 ρ → Src K J xs ST → ST H1 → (∀ ρ' σ' H', Rep K κ ρ' σ' H' → Ext H1 H' → kp ρ' → ST H') → Q xs kp ρ1 → R J H1) → wi σ H R
def keepAll : En → Prop := fun _ => True
section
variable {K : PySem.W.Frag} {κ : Ktx} {sa : DE} {sA : DAa}
/-- a list -/
def iL (sa : DE) : DIt := fun ρ Q => sa ρ fun r ρ1 => match r with
  | .v (.lst xs) => Q xs keepAll ρ1
  | .o p i => resK ρ1 (.o p i) fun d => ∃ xs, d = .lst xs ∧ Q xs (fun ρ' => (ρ'[i]? : Option Sl) = some (.ls p xs)) ρ1
  | _ => False
theorem src_list {a : Addr} {xs : List D} : Src K (Itl K a) xs (fun H => ∃ vs, SqL K H a vs ∧ ZA K H vs xs) where
  go := fun i H hi ⟨vs, h, l⟩ => by
    obtain ⟨v, h1, _⟩ := l.get (List.getElem?_eq_getElem hi)
    exact ⟨vs, v, h, h1⟩
  stop := fun H ⟨vs, h, l⟩ => ⟨vs, h, Nat.le_of_eq l.length⟩
  yld := fun i H x H' ⟨vs, h, l⟩ ⟨e, y⟩ => by
    subst e
    refine ⟨L2.Same.refl _, fun d hd => ?_⟩
    obtain ⟨v, h1, z⟩ := l.get hd
    have := y vs h
    rw [h1] at this
    cases this
    exact z
theorem it_list : ItOk K κ (iList K (tD K κ sa)) (iL sa) := fun σ H ρ Q R Rp h k => goD Rp h fun v H1 r ρ1 R1 z1 f1 s1 h1 => by
  cases r with
  | v d =>
    cases d <;> first | exact (show False from h1).elim | skip
    rename_i xs
    cases (show Z K H1 v (.lst xs) from z1) with
    | @lst a vs _ h2 l =>
      exact ⟨a, rfl, ⟨vs, h2.sq⟩, k _ _ xs keepAll H1 ρ1 R1 f1 s1 src_list ⟨vs, h2.sq, l⟩ (fun ρ' σ' H' _ x _ => ⟨vs, (h2.mono x).sq, l.mono x⟩) h1⟩
  | o p i =>
    have e : v = .ref p := z1
    subst e
    obtain ⟨d, v1, xs, rfl, q⟩ := R1.res (v := .ref p) (r := .o p i) rfl h1
    obtain ⟨a, vs, e, h2, l⟩ := v1
    cases e
    exact ⟨p, rfl, ⟨vs, h2⟩, k _ _ xs _ H1 ρ1 R1 f1 s1 src_list ⟨vs, h2, l⟩ (fun ρ' σ' H' Rp' x e => by
      obtain ⟨_, us, h3, l3⟩ := Rp'.ok i _ e
      exact ⟨us, SqL.of h3, l3⟩) q⟩
/-- a tuple -/
def iT (sa : DE) : DIt := fun ρ Q => sa ρ fun r ρ1 => match r with
  | .v (.tup xs) => Q xs keepAll ρ1
  | _ => False
theorem src_tup {a : Addr} {xs : List D} : Src K (Itt K a) xs (fun H => ∃ vs, SqT K H a vs ∧ ZA K H vs xs) where
  go := fun i H hi ⟨vs, h, l⟩ => by
    obtain ⟨v, h1, _⟩ := l.get (List.getElem?_eq_getElem hi)
    exact ⟨vs, v, h, h1⟩
  stop := fun H ⟨vs, h, l⟩ => ⟨vs, h, Nat.le_of_eq l.length⟩
  yld := fun i H x H' ⟨vs, h, l⟩ ⟨e, y⟩ => by
    subst e
    refine ⟨L2.Same.refl _, fun d hd => ?_⟩
    obtain ⟨v, h1, z⟩ := l.get hd
    have := y vs h
    rw [h1] at this
    cases this
    exact z
theorem it_tup : ItOk K κ (iTup K (tD K κ sa)) (iT sa) := fun σ H ρ Q R Rp h k => goD Rp h fun v H1 r ρ1 R1 z1 f1 s1 h1 => by
  cases r with
  | v d =>
    cases d <;> first | exact (show False from h1).elim | skip
    rename_i xs
    obtain ⟨a, vs, rfl, h2, l⟩ := Rv.tup (Rv.of z1)
    exact ⟨a, rfl, ⟨vs, h2⟩, k _ _ xs keepAll H1 ρ1 R1 f1 s1 src_tup ⟨vs, h2, l⟩ (fun ρ' σ' H' _ x _ => ⟨vs, x.sqT h2, l.mono x⟩) h1⟩
  | o p i => exact (show False from h1).elim
/-- ranges -/
def rngD (lo : Int) (n : Nat) : List D := (List.range n).map fun k : Nat => .int (lo + (k : Int))
theorem src_rng {lo : Int} {n : Nat} : Src K (Itr lo n) (rngD lo n) (fun _ => True) where
  go := fun i H hi _ => by
    unfold rngD at hi
    rw [List.length_map, List.length_range] at hi
    exact hi
  stop := fun H _ => by
    unfold rngD
    rw [List.length_map, List.length_range]
    exact Nat.le_refl _
  yld := fun i H x H' _ ⟨e, y⟩ => by
    subst e y
    refine ⟨L2.Same.refl _, fun d hd => ?_⟩
    unfold rngD at hd
    rw [List.getElem?_map] at hd
    cases q : (List.range n)[i]? with
    | none => rw [q] at hd; cases hd
    | some j =>
      rw [q] at hd
      have e := (List.getElem?_eq_some_iff.mp q).2
      rw [List.getElem_range] at e
      cases hd
      rw [e]
      exact .int _
def iR1 (sA : DAa) : DIt := fun ρ Q => sA ρ fun rs ρ1 => resKs ρ1 rs fun ds => match ds with
  | [.int j] => -(2 ^ 62) ≤ j ∧ j < 2 ^ 62 ∧ Q (rngD 0 j.toNat) keepAll ρ1
  | _ => False
def iR2 (sA : DAa) : DIt := fun ρ Q => sA ρ fun rs ρ1 => resKs ρ1 rs fun ds => match ds with
  | [.int i, .int j] => (-(2 ^ 62) ≤ i ∧ i < 2 ^ 62 ∧ -(2 ^ 62) ≤ j ∧ j < 2 ^ 62) ∧ Q (rngD i (j - i).toNat) keepAll ρ1
  | _ => False
theorem it_rng1 : ItOk K κ (iRng1 (tA K κ sA)) (iR1 sA) := fun σ H ρ Q R Rp h k => goA Rp h fun vs H1 rs ρ1 R1 z1 f1 s1 h1 => by
  obtain ⟨ds, v1, h2⟩ := R1.ress z1 h1
  cases v1 with
  | nil => exact (show False from h2).elim
  | @cons v vs d ds h3 t =>
    cases t with
    | nil =>
      cases d <;> first | exact (show False from h2).elim | skip
      rename_i j
      rw [h3.int]
      exact ⟨j, rfl, h2.1, h2.2.1, k _ _ _ keepAll H1 ρ1 R1 f1 s1 src_rng trivial (fun _ _ _ _ _ _ => trivial) h2.2.2⟩
    | cons _ _ => cases d <;> exact (show False from h2).elim
theorem it_rng2 : ItOk K κ (iRng2 (tA K κ sA)) (iR2 sA) := fun σ H ρ Q R Rp h k => goA Rp h fun vs H1 rs ρ1 R1 z1 f1 s1 h1 => by
  obtain ⟨ds, v1, h2⟩ := R1.ress z1 h1
  match ds, v1, h2 with
  | [.int i, .int j], .cons h3 (.cons h4 .nil), h2 =>
    rw [h3.int, h4.int]
    exact ⟨i, j, rfl, h2.1, k _ _ _ keepAll H1 ρ1 R1 f1 s1 src_rng trivial (fun _ _ _ _ _ _ => trivial) h2.2⟩
end
end DL

set_option Elab.async false
set_option linter.all false
set_option maxRecDepth 100000
set_option maxHeartbeats 4000000
namespace DL
open PySem PySem.Spec PyProof.Rows L2 E
/-! ### slots are set, forgotten -/
section
variable {K : PySem.W.Frag} {κ : Ktx} {ρ ρ' ρ2 : En} {σ σ' σ2 : L2.St} {H H' : Hp} {i j : Nat} {p : Addr} {v : V} {d : D} {s : Sl}
theorem ownAt_set {p : Addr} (h : ownAt (ρ.set i s) j = some p) : (j = i ∧ s.own = some p) ∨ (j ≠ i ∧ ownAt ρ j = some p) := by
  unfold ownAt at h
  by_cases e : i = j
  · subst e
    by_cases l : i < ρ.length
    · rw [List.getElem?_set_self l] at h
      exact .inl ⟨rfl, h⟩
    · rw [List.getElem?_eq_none (by rw [List.length_set]; omega)] at h
      cases h
  · rw [List.getElem?_set_ne e] at h
    exact .inr ⟨fun z => e z.symm, h⟩
theorem Rep.setS (R : Rep K κ ρ σ H) (x : Option V) (h : SlOk K H s (some x)) (n : ∀ p, s.own = some p → (∀ j, j ≠ i → ownAt ρ j ≠ some p) ∧ (κ.H0 p = none ∨ p ∈ κ.io))
    (hp : ∀ (j : Nat) (q l : Addr), ((ρ.set i s)[j]? : Option Sl) = some (.pl q l) → ¬ Owns (ρ.set i s) l ∨ ∃ cs : List Int, ∀ H', SqL K H' l (cs.map V.int)) : Rep K κ (ρ.set i s) (σ.set i x) H := by
  refine ⟨by rw [List.length_set, List.length_set, R.len], fun j sl e => ?_, fun a b p ha hb => ?_, fun a p ha => ?_, R.ctx, R.dom, R.tab, hp⟩
  · by_cases ej : i = j
    · subst ej
      by_cases l : i < ρ.length
      · rw [List.getElem?_set_self l] at e
        cases e
        rw [List.getElem?_set_self (by rw [← R.len]; exact l)]
        exact h
      · rw [List.getElem?_eq_none (by rw [List.length_set]; omega)] at e
        cases e
    · rw [List.getElem?_set_ne ej] at e ⊢
      exact R.ok j sl e
  · rcases ownAt_set ha with ⟨rfl, h1⟩ | ⟨n1, h1⟩
    · rcases ownAt_set hb with ⟨rfl, h2⟩ | ⟨n2, h2⟩
      · rfl
      · exact absurd h2 ((n p h1).1 b n2)
    · rcases ownAt_set hb with ⟨rfl, h2⟩ | ⟨n2, h2⟩
      · exact absurd h1 ((n p h2).1 a n1)
      · exact R.nd a b p h1 h2
  · rcases ownAt_set ha with ⟨rfl, h1⟩ | ⟨n1, h1⟩
    · exact (n p h1).2
    · exact R.new a p h1
theorem plx_set (R : Rep K κ ρ σ H) (hs : s.own = none) : ∀ (j : Nat) (q l : Addr), ((ρ.set i s)[j]? : Option Sl) = some (.pl q l) → ¬ Owns (ρ.set i s) l ∨ ∃ cs : List Int, ∀ H', SqL K H' l (cs.map V.int) := fun j q l e => by
  by_cases ej : i = j
  · subst ej
    by_cases l : i < ρ.length
    · rw [List.getElem?_set_self l] at e
      cases e
      cases hs
    · rw [List.getElem?_eq_none (by rw [List.length_set]; omega)] at e
      cases e
  · rw [List.getElem?_set_ne ej] at e
    rcases R.plx j q l e with h | h
    · refine .inl fun ⟨b, hb⟩ => ?_
      rcases ownAt_set hb with ⟨_, e2⟩ | ⟨_, e2⟩
      · rw [hs] at e2; cases e2
      · exact h ⟨b, e2⟩
    · exact .inr h
theorem Rep.setv (R : Rep K κ ρ σ H) (z : Z K H v d) : Rep K κ (ρ.set i (.val d)) (σ.set i (some v)) H := R.setS (s := .val d) (some v) ⟨v, rfl, z⟩ (fun _ e => nomatch e) (plx_set R rfl)
/-- the slot alone is forgotten -/
theorem Rep.no (R : Rep K κ ρ σ H) (x : Option V) : Rep K κ (ρ.set i .no) (σ.set i x) H := R.setS (s := .no) x trivial (fun _ e => nomatch e) (plx_set R rfl)
def wipeE (ρ : En) : List Nat → En
  | [] => ρ
  | v :: vs => (wipeE ρ vs).set v .no
theorem Rep.wipe (R : Rep K κ ρ σ H) : ∀ vs, Rep K κ (wipeE ρ vs) (wipe σ vs) H
  | [] => R
  | v :: vs => (R.wipe vs).no none
theorem wipe_get (σ : L2.St) : ∀ (vs : List Nat) (j : Nat), (wipe σ vs)[j]? = if j ∈ vs ∧ j < σ.length then some none else σ[j]?
  | [], j => by
    show σ[j]? = _
    rw [if_neg (fun h => (nomatch h.1))]
  | v :: vs, j => by
    show ((wipe σ vs).set v none)[j]? = _
    by_cases e : v = j
    · subst e
      by_cases l : v < σ.length
      · rw [List.getElem?_set_self (by rw [wipe_length]; exact l), if_pos ⟨List.mem_cons_self, l⟩]
      · rw [List.getElem?_eq_none (by rw [List.length_set, wipe_length]; omega), if_neg (fun h => l h.2), List.getElem?_eq_none (by omega)]
    · rw [List.getElem?_set_ne e, wipe_get σ vs j]
      by_cases m : j ∈ vs ∧ j < σ.length
      · rw [if_pos m, if_pos ⟨List.mem_cons_of_mem _ m.1, m.2⟩]
      · rw [if_neg m, if_neg fun h => m ⟨(List.mem_cons.mp h.1).resolve_left fun z => e z.symm, h.2⟩]
theorem wipeE_get (ρ : En) : ∀ (vs : List Nat) (j : Nat), j ∉ vs → (wipeE ρ vs)[j]? = ρ[j]?
  | [], j, _ => rfl
  | v :: vs, j, h => by
    show ((wipeE ρ vs).set v .no)[j]? = _
    have ne : v ≠ j := fun e => h (by rw [e]; exact List.mem_cons_self)
    rw [List.getElem?_set_ne ne]
    exact wipeE_get ρ vs j fun z => h (List.mem_cons_of_mem _ z)
theorem wipe_ext {σ σ' : L2.St} (l : σ'.length = σ.length) {vs : List Nat} (h : ∀ j, j ∉ vs → σ'[j]? = σ[j]?) : L2.wipe σ' vs = L2.wipe σ vs := by
  refine List.ext_getElem? fun j => ?_
  rw [wipe_get, wipe_get, l]
  by_cases m : j ∈ vs ∧ j < σ.length
  · rw [if_pos m, if_pos m]
  · rw [if_neg m, if_neg m]
    by_cases e : j ∈ vs
    · have : ¬ j < σ.length := fun z => m ⟨e, z⟩
      rw [List.getElem?_eq_none (by omega), List.getElem?_eq_none (by omega)]
    · exact h j e
/-! ### targets -/
abbrev GT := D → En → (En → Prop) → Prop
abbrev GTs := List D → En → (En → Prop) → Prop
structure Off (is : List Nat) (ρ ρ' : En) (σ σ' : L2.St) : Prop where
  len : σ'.length = σ.length
  at_ : ∀ j, j ∉ is → (ρ'[j]? : Option Sl) = ρ[j]? ∧ σ'[j]? = σ[j]?
  sub : Sub ρ' ρ
theorem sub_set {ρ : En} {i : Nat} {s : Sl} (h : s.own = none) : Sub (ρ.set i s) ρ := ⟨fun p ⟨j, hj⟩ => by
  rcases ownAt_set hj with ⟨_, e⟩ | ⟨_, e⟩
  · rw [h] at e; cases e
  · exact ⟨j, e⟩, fun j q l e => by
  by_cases ej : i = j
  · subst ej
    by_cases l : i < ρ.length
    · rw [List.getElem?_set_self l] at e
      cases e
      cases h
    · rw [List.getElem?_eq_none (by rw [List.length_set]; omega)] at e
      cases e
  · rw [List.getElem?_set_ne ej] at e
    exact ⟨j, e⟩⟩
theorem sub_wipe (ρ : En) : ∀ vs, Sub (wipeE ρ vs) ρ
  | [] => Sub.refl _
  | v :: vs => (sub_set rfl).trans (sub_wipe ρ vs)
def TgOk (K : PySem.W.Frag) (κ : Ktx) (g : TG) (is : List Nat) (gd : GT) : Prop := ∀ v d σ H ρ Q (Q' : L2.St → Hp → Prop), Rep K κ ρ σ H → Z K H v d → gd d ρ Q →
  (∀ ρ' σ', Rep K κ ρ' σ' H → Off is ρ ρ' σ σ' → Q ρ' → Q' σ' H) → g v σ H Q'
def TgsOk (K : PySem.W.Frag) (κ : Ktx) (g : TGs) (is : List Nat) (gd : GTs) : Prop := ∀ vs ds σ H ρ Q (Q' : L2.St → Hp → Prop), Rep K κ ρ σ H → ZA K H vs ds → gd ds ρ Q →
  (∀ ρ' σ', Rep K κ ρ' σ' H → Off is ρ ρ' σ σ' → Q ρ' → Q' σ' H) → g vs σ H Q'
def gN (i : Nat) : GT := fun d ρ Q => Q (ρ.set i (.val d))
theorem tg_name : TgOk K κ (gName i) [i] (gN i) := fun v d σ H ρ Q Q' R z h k => k _ _ (R.setv z) ⟨List.length_set .., fun j hj => by
  have : i ≠ j := fun e => hj (e ▸ List.mem_singleton_self _)
  exact ⟨List.getElem?_set_ne this, List.getElem?_set_ne this⟩, sub_set rfl⟩ h
def gNl : GTs := fun ds ρ Q => ds = [] ∧ Q ρ
def gCn (g : GT) (r : GTs) : GTs := fun ds ρ Q => match ds with
  | d :: ds => g d ρ fun ρ' => r ds ρ' Q
  | [] => False
theorem tgs_nil : TgsOk K κ gNil [] gNl := fun vs ds σ H ρ Q Q' R z h k => by
  obtain ⟨rfl, h⟩ := h
  cases z
  exact ⟨rfl, k ρ σ R ⟨rfl, fun _ _ => ⟨rfl, rfl⟩, Sub.refl _⟩ h⟩
theorem tgs_cons {g : TG} {r : TGs} {is js : List Nat} {gd : GT} {rd : GTs} (hg : TgOk K κ g is gd) (hr : TgsOk K κ r js rd) : TgsOk K κ (gCons g r) (is ++ js) (gCn gd rd) := fun vs ds σ H ρ Q Q' R z h k => by
  cases z with
  | nil => exact (show False from h).elim
  | @cons v vs d ds z zs =>
    refine ⟨v, vs, rfl, hg v d σ H ρ _ _ R z h fun ρ1 σ1 R1 o1 h1 => hr vs ds σ1 H ρ1 Q Q' R1 zs h1 fun ρ2 σ2 R2 o2 h2 => k ρ2 σ2 R2 ⟨o2.1.trans o1.1, fun j hj => ?_, o2.sub.trans o1.sub⟩ h2⟩
    have a := o1.2 j fun m => hj (List.mem_append_left _ m)
    have b := o2.2 j fun m => hj (List.mem_append_right _ m)
    exact ⟨b.1.trans a.1, b.2.trans a.2⟩
def gTp (n : Nat) (r : GTs) : GT := fun d ρ Q => match d with
  | .tup ds => ds.length = n ∧ r ds ρ Q
  | _ => False
theorem tg_tup {r : TGs} {is : List Nat} {rd : GTs} {n : Nat} (hr : TgsOk K κ r is rd) : TgOk K κ (gTup K n r) is (gTp n rd) := fun v d σ H ρ Q Q' R z h k => by
  cases d <;> first | exact (show False from h).elim | skip
  obtain ⟨a, xs, rfl, s, l⟩ := Rv.tup (Rv.of z)
  exact ⟨a, xs, rfl, s, l.length.trans h.1, hr xs _ σ H ρ Q Q' R l h.2 k⟩
/-! ### list comprehensions -/
def compW (gd : GT) (st : DTt) (se : DE) (ρw : En) : List D → List D → (List D → Prop) → Prop
  | [], acc, Q => Q acc
  | x :: xs, acc, Q => gd x ρw fun ρ2 => st ρ2 fun b ρ3 => ρ3 = ρ2 ∧ if b = true then se ρ2 fun r ρ4 => ρ4 = ρ2 ∧ valK r fun d => compW gd st se ρw xs (acc ++ [d]) Q else compW gd st se ρw xs acc Q
def sLc (it : DIt) (gd : GT) (st : DTt) (se : DE) (vs : List Nat) : DF := fun ρ Q => it ρ fun xs kp ρ1 => kp ρ1 ∧ (∀ i ∈ vs, ownAt ρ1 i = none) ∧ xs.length ≤ sizeLine ∧ compW gd st se (wipeE ρ1 vs) xs [] fun ds => Q ds ρ1
def sYes : DTt := fun ρ Q => Q true ρ
/-- the outer walk goes on behind a block -/
theorem Rep.unwipe {vs : List Nat} (R : Rep K κ ρ σ H) (x : Ext H H') (R2 : Rep K κ ρ2 σ2 H') (o : ∀ j, j ∉ vs → (ρ2[j]? : Option Sl) = ρ[j]? ∧ σ2[j]? = σ[j]?) (n : ∀ j ∈ vs, ownAt ρ j = none) : Rep K κ ρ σ H' := by
  refine ⟨R.len, fun j sl e => ?_, R.nd, R.new, R2.ctx, R2.dom, R2.tab, R.plx⟩
  by_cases m : j ∈ vs
  · have q := R.ok j sl e
    have nn := n j m
    rw [ownAt_of e] at nn
    cases sl with
    | no => trivial
    | val d => obtain ⟨v, e1, z⟩ := q; exact ⟨v, e1, z.mono x⟩
    | ls a ds => cases nn
    | dk a ds => cases nn
    | pl a l => cases nn
    | il a => cases nn
  · obtain ⟨e1, e2⟩ := o j m
    rw [← e2]
    exact R2.ok j sl (by rw [e1]; exact e)
/-- a new list that is none of the owned ones grows -/
theorem Rep.grow {us ws : List V} (R : Rep K κ ρ σ H) (h : H p = some (.lst us)) (n : ¬ Owns ρ p) (n0 : κ.H0 p = none) (nl : ∀ (i : Nat) (q l : Addr), (ρ[i]? : Option Sl) = some (.pl q l) → l ≠ p ∨ ∃ cs : List Int, ∀ H', SqL K H' l (cs.map V.int)) : Rep K κ ρ σ (upd H p (.lst ws)) := by
  have x := ext_mu (o := .lst ws) h trivial
  have ne : ∀ (i : Nat) (sl : Sl) a, (ρ[i]? : Option Sl) = some sl → sl.own = some a → a ≠ p := fun i sl a e ea z => n ⟨i, by rw [ownAt_of e, ea, z]⟩
  refine ⟨R.len, fun i sl e => ?_, R.nd, R.new, fun b y h0 n1 n2 => ?_, fun b y h0 => ?_, Rep.tabs R.tab h trivial, R.plx⟩
  · have q := R.ok i sl e
    cases sl with
    | no => trivial
    | val d => obtain ⟨v, e1, z⟩ := q; exact ⟨v, e1, z.mono x⟩
    | ls a ds => obtain ⟨e1, vs, h1, z⟩ := q; exact ⟨e1, vs, by rw [upd_ne (ne i _ a e rfl)]; exact h1, z.mono x⟩
    | dk a ds => obtain ⟨e1, vs, h1, z⟩ := q; exact ⟨e1, vs, by rw [upd_ne (ne i _ a e rfl)]; exact h1, z.mono x⟩
    | il a => obtain ⟨e1, ns, h1⟩ := q; exact ⟨e1, ns, by rw [upd_ne (ne i _ a e rfl)]; exact h1⟩
    | pl a l =>
      obtain ⟨e1, h1⟩ := q
      refine ⟨e1, ?_⟩
      obtain ⟨i', r, c, s, h5, h6⟩ := h1.at5
      obtain ⟨cs, hs⟩ := h1.sq
      refine ⟨?_, h1.ne, i', r, c, s, by rw [upd_ne (ne i _ a e rfl)]; exact h5, h6⟩
      rcases nl i a l e with nl | ⟨cs2, nl⟩
      · refine ⟨cs, ?_⟩
        rcases hs with (hs | ⟨ob, hs⟩) | hs
        · exact .inl (.inl (by rw [upd_ne nl]; exact hs))
        · exact .inl (.inr ⟨ob, x _ _ hs trivial⟩)
        · exact .inr hs
      · exact ⟨cs2, nl _⟩
  · rw [upd_ne fun z => by rw [z, n0] at h0; cases h0]
    exact R.ctx b y h0 n1 n2
  · rw [upd_ne fun z => by rw [z, n0] at h0; cases h0]
    exact R.dom b y h0
end
section
variable {X : Cx} {κ : Ktx}
theorem dts_nil : PTs X [] (tT X.K κ sYes) := ⟨fun pins s σ H Q I ⟨ρ, q, R, h, k⟩ => pts_nil.run pins s σ H Q I (k true H ⟨ρ, R, Fr.refl _ _, Sub.refl _, h⟩)⟩
theorem dts_one {c : Expr} {st : DTt} (h : DT X κ c st) : PTs X [c] (tT X.K κ st) := pts_one h
theorem plDom {K : PySem.W.Frag} {H : Hp} {p l : Addr} (h : Pl K H p l) : (∃ o, H l = some o) ∨ ∃ cs : List Int, ∀ H', SqL K H' l (cs.map V.int) := by
  obtain ⟨cs, hs⟩ := h.sq
  rcases hs with (hs | ⟨ob, hs⟩) | hs
  · exact .inl ⟨_, hs⟩
  · exact .inl ⟨_, hs⟩
  · exact .inr ⟨cs, fun H' => .inr hs⟩
theorem lc_run {K : PySem.W.Frag} {wi : TI} {it : DIt} {g : TG} {is vs : List Nat} {gd : GT} {st : DTt} {se : DE} {σ : L2.St} {H : Hp} {ρ : En} {Q : List D → En → Prop} {Q' : VK} (iok : ItOk K κ wi it) (gok : TgOk K κ g is gd) (his : ∀ j ∈ is, j ∈ vs) (R : Rep K κ ρ σ H) (h : sLc it gd st se vs ρ Q)
    (k : ∀ v H', pF K κ σ H ρ Q v H' → Q' v H') : tLc wi g (tT K κ st) (tD K κ se) vs σ H Q' := by
  refine iok σ H ρ _ _ R h fun J ST xs kp H1 ρ1 R1 f1 s1 src st0 per ⟨k0, hown, hlen, hw⟩ => fun D nD => ?_
  have n0 : κ.H0 D = none := by
    cases e : κ.H0 D with
    | none => rfl
    | some o =>
      obtain ⟨o', h'⟩ := R1.dom _ _ e
      rw [nD] at h'
      cases h'
  have nOwn : ∀ ρ', Sub ρ' ρ1 → ¬ Owns ρ' D := fun ρ' s q => by
    obtain ⟨u, h', _⟩ := R1.own (s.1 D q)
    rw [nD] at h'
    cases h'
  have npl : ∀ (i : Nat) (q l : Addr), (ρ1[i]? : Option Sl) = some (.pl q l) → l ≠ D ∨ ∃ cs : List Int, ∀ H', SqL K H' l (cs.map V.int) := fun i q l e => by
    obtain ⟨_, hp⟩ := R1.ok i _ e
    rcases plDom hp with ⟨o, e2⟩ | h2
    · exact .inl fun z => by rw [z, nD] at e2; cases e2
    · exact .inr h2
  refine ⟨fun i m H2 => m = xs.length - i ∧ i ≤ xs.length ∧ ∃ acc us, Rep K κ ρ1 σ H2 ∧ Fr ρ1 H1 H2 ∧ H2 D = some (.lst us) ∧ ZA K H2 us acc ∧ acc.length ≤ i ∧ compW gd st se (wipeE ρ1 vs) (xs.drop i) acc fun ds => Q ds ρ1, ⟨xs.length, rfl, Nat.zero_le _, [], [], R1.step (same_new nD), Fr.same (same_new nD), upd_same, .nil, Nat.le_refl _, hw⟩, ?_⟩
  rintro i m H2 ⟨rfl, hi2, acc, us, R2, f2, hD, za, hl, hc2⟩
  have x2 := R1.ext f2
  have st2 := per ρ1 σ H2 R2 x2 k0
  by_cases hlt : i < xs.length
  · refine .inr ⟨src.go i H2 hlt st2, fun H' => ∃ acc us, Rep K κ ρ1 σ H' ∧ Fr ρ1 H1 H' ∧ H' D = some (.lst us) ∧ ZA K H' us acc ∧ acc.length ≤ i + 1 ∧ compW gd st se (wipeE ρ1 vs) (xs.drop (i + 1)) acc fun ds => Q ds ρ1, fun H' h => ⟨xs.length - (i + 1), by omega, rfl, hlt, h⟩, fun x H3 y => ?_⟩
    obtain ⟨sm3, hz⟩ := src.yld i H2 x H3 st2 y
    have hx := List.getElem?_eq_getElem hlt
    have z3 := hz _ hx
    rw [List.drop_eq_getElem_cons hlt] at hc2
    have R3 := R2.step sm3
    have f3 : Fr ρ1 H1 H3 := f2.trans (Sub.refl _) (Fr.same sm3)
    have za3 := za.mono (Ext.same sm3)
    have hD3 := sm3 _ _ hD
    refine gok x _ (wipe σ vs) H3 (wipeE ρ1 vs) _ _ (R3.wipe vs) z3 hc2 fun ρ4 σ4 R4 o4 h4 => ?_
    have hwp : ∀ j, j ∉ vs → (ρ4[j]? : Option Sl) = ρ1[j]? ∧ σ4[j]? = σ[j]? := fun j hj => by
      obtain ⟨a, b⟩ := o4.2 j fun m => hj (his j m)
      refine ⟨a.trans (wipeE_get ρ1 vs j hj), b.trans ?_⟩
      rw [wipe_get, if_neg fun z => hj z.1]
    have sub4 : Sub ρ4 ρ1 := o4.sub.trans (sub_wipe _ _)
    refine ⟨?_, ?_⟩
    · refine (wipe_ext o4.1 fun j hj => (o4.2 j fun m => hj (his j m)).2).trans ?_
      refine wipe_ext (wipe_length _ _) fun j hj => ?_
      rw [wipe_get, if_neg fun z => hj z.1]
    refine goT R4 h4 fun b H5 ρ5 R5 f5 s5 ⟨e5, h5⟩ => ?_
    subst e5
    have hD5 : H5 D = some (.lst us) := f5.1 _ _ hD3 (fun _ e => nomatch e) (nOwn _ sub4)
    have x5 := R4.ext f5
    have R5' : Rep K κ ρ1 σ H5 := R3.unwipe x5 R5 hwp hown
    have g5 : Fr ρ1 H1 H5 := f3.trans (Sub.refl _) ⟨fun b o h n m => f5.1 b o h n fun q => m (sub4.1 b q), f5.2⟩
    cases b with
    | false => exact (if_neg Bool.false_ne_true).mpr ⟨acc, us, R5', g5, hD5, za3.mono x5, by omega, (if_neg Bool.false_ne_true).mp h5⟩
    | true =>
      refine (if_pos rfl).mpr (goD R5 ((if_pos rfl).mp h5) fun v H6 r ρ6 R6 z6 f6 s6 ⟨e6, h6⟩ => ?_)
      subst e6
      obtain ⟨d, z7, h7⟩ := val_of z6 h6
      have hD6 : H6 D = some (.lst us) := f6.1 _ _ hD5 (fun _ e => nomatch e) (nOwn _ sub4)
      have x6 := R5.ext f6
      have R6' : Rep K κ ρ1 σ H6 := R5'.unwipe x6 R6 hwp hown
      have g6 : Fr ρ1 H1 H6 := g5.trans (Sub.refl _) ⟨fun b o h n m => f6.1 b o h n fun q => m (sub4.1 b q), f6.2⟩
      have za6 := (za3.mono x5).mono x6
      have x7 := ext_mu (o := .lst (us ++ [v])) hD6 trivial
      refine ⟨us, hD6, ?_, acc ++ [d], us ++ [v], R6'.grow hD6 (nOwn _ (Sub.refl _)) n0 npl, ⟨fun b o h n m => ?_, fun b o h => ?_⟩, upd_same, (za6.mono x7).snoc (z7.mono x7), by rw [List.length_append]; simp; omega, h7⟩
      · rw [za6.length]; omega
      · rw [upd_ne (ne_of_none h nD)]
        exact g6.1 b o h n m
      · rw [upd_ne (ne_of_none h nD)]
        exact g6.2 b o h
  · have e : i = xs.length := by omega
    subst e
    rw [List.drop_length] at hc2
    exact .inl ⟨src.stop H2 st2, k _ _ ⟨D, us, acc, ρ1, rfl, dom_none f1 nD, hD, za, R2, f1.trans s1 f2, s1, hc2⟩⟩
theorem fx_lc {elt tg iter : Expr} {ifs : List Expr} {scope : Scope} {own : List (Str × Nat)} {pos : Pos} {wi : TI} {it : DIt} {g : TG} {is : List Nat} {gd : GT} {st : DTt} {se : DE} (hc : X.calm = true) (hN : X.N.Nodup) (hi : PI X tg iter wi) (iok : ItOk X.K κ wi it) (ok : BlkOk X.N X.env.scope scope own)
    (hg : ∀ (s : Shared) (H : Hp) (C : Addr) (cl : List (Str × Addr)) (fp : List Addr), PG (X.blk s H scope (compEnvC scope cl C X.env) fp) tg g) (gok : TgOk X.K κ g is gd) (his : ∀ j ∈ is, j ∈ own.map (·.2))
    (ht : ∀ (s : Shared) (H : Hp) (C : Addr) (cl : List (Str × Addr)) (fp : List Addr), PTs (X.blk s H scope (compEnvC scope cl C X.env) fp) ifs (tT X.K κ st))
    (he : ∀ (s : Shared) (H : Hp) (C : Addr) (cl : List (Str × Addr)) (fp : List Addr), PE (X.blk s H scope (compEnvC scope cl C X.env) fp) elt (tD X.K κ se)) (hs : ∀ x, foldedSetIterable iter X.env x = pure x := by intro _; rfl) :
    FX X κ (.ListComp elt [⟨tg, iter, ifs, 0⟩] scope pos) (sLc it gd st se (own.map (·.2))) := by
  exact FX.of (pe_lc hc hN hi ok hg ht he hs) fun σ H ρ Q R h => lc_run iok gok his R h fun _ _ z => z
end
end DL

set_option Elab.async false
set_option linter.all false
set_option maxRecDepth 100000
set_option maxHeartbeats 4000000
namespace DL
open PySem PySem.Spec PyProof.Rows L2 E
/-! ### statements -/
section
variable {X : Cx} {κ : Ktx} {i : Nat} {x : Str} {p pos pos' : Pos} {a b c e : Expr} {es : List Expr} {sa sb sc : DE} {sA : DAa} {st : Stmt} {sts : List Stmt} {s u : DSt} {tt : DTt}
theorem LeE.mk' {K : PySem.W.Frag} {H H' : Hp} {E : DEnds} (x : Ext H H') : LeE (pS K κ H' E) (pS K κ H E) :=
  ⟨fun σ H2 ⟨ρ, a, b, c⟩ => ⟨ρ, a, x.trans b, c⟩, fun v H2 ⟨d, ρ, σ, a, b, c⟩ => ⟨d, ρ, σ, a, x.trans b, c⟩, fun σ H2 ⟨ρ, a, b, c⟩ => ⟨ρ, a, x.trans b, c⟩, fun σ H2 ⟨ρ, a, b, c⟩ => ⟨ρ, a, x.trans b, c⟩⟩
def sNext : DSt := fun E ρ => E.nx ρ
def sSeq (s u : DSt) : DSt := fun E ρ => s { E with nx := u E } ρ
theorem dss_nil : DSs X κ [] sNext := DSs.of pss_nil fun σ H ρ E R h => ⟨ρ, R, Ext.refl _, h⟩
theorem dss_cons (h1 : DS X κ st s) (h2 : DSs X κ sts u) : DSs X κ (st :: sts) (sSeq s u) :=
  DSs.of (pss_cons h1 h2) fun σ H ρ E R h => ⟨ρ, _, R, h, fun σ' H' ⟨ρ', R', x', h'⟩ => ⟨ρ', E, R', h', LeE.mk' x'⟩, fun v H' h => h, fun σ' H' h => h, fun σ' H' h => h⟩
theorem dss_one (h1 : DS X κ st s) : DSs X κ [st] s := pss_one h1
def sBreak : DSt := fun E ρ => E.bk ρ
def sCont : DSt := fun E ρ => E.ct ρ
theorem ds_pass : DS X κ (.Pass pos) sNext := DS.of ps_pass fun σ H ρ E R h => ⟨ρ, R, Ext.refl _, h⟩
theorem ds_break : DS X κ (.Break pos) sBreak := DS.of ps_break fun σ H ρ E R h => ⟨ρ, R, Ext.refl _, h⟩
theorem ds_continue : DS X κ (.Continue pos) sCont := DS.of ps_continue fun σ H ρ E R h => ⟨ρ, R, Ext.refl _, h⟩
def sDrop (sa : DE) : DSt := fun E ρ => sa ρ fun _ ρ1 => E.nx ρ1
theorem ds_expr (he : DX X κ e sa) (hs : swapsWith e none pos.line X.env = pure false := by rfl) : DS X κ (.Expr e pos) (sDrop sa) :=
  DS.of (ps_expr he hs) fun σ H ρ E R h => goD R h fun v H1 d ρ1 R1 z1 f1 s1 h1 => ⟨ρ1, R1, R.ext f1, h1⟩
def sIfS (c : DTt) (s u : DSt) : DSt := fun E ρ => c ρ fun b ρ1 => if b = true then s E ρ1 else u E ρ1
theorem ds_if {sts2 : List Stmt} (hc : DT X κ c tt) (ha : DSs X κ sts s) (hb : DSs X κ sts2 u) : DS X κ (.If c sts sts2 pos) (sIfS tt s u) :=
  DS.of (ps_if hc ha hb) fun σ H ρ E R h => goT R h fun b H1 ρ1 R1 f1 s1 h1 => by
    have x := R.ext f1
    cases b with
    | true => exact (if_pos rfl).mpr ⟨ρ1, E, R1, (if_pos rfl).mp h1, LeE.mk' x⟩
    | false => exact (if_neg Bool.false_ne_true).mpr ⟨ρ1, E, R1, (if_neg Bool.false_ne_true).mp h1, LeE.mk' x⟩
/-- x = e -/
def sSet (i : Nat) (sa : DE) : DSt := fun E ρ => sa ρ fun r ρ1 => valK r fun d => E.nx (ρ1.set i (.val d))
theorem ds_set (hN : X.N.Nodup) (hi : X.N[i]? = some x) (hx : Loc X.env.scope x) (he : DX X κ e sa) (hs : swapsWith e (some (.Name x pos')) pos.line X.env = pure false := by rfl) (hf : X.fn x = true ∨ X.env.scope.names.lookup x = some .local := by first | exact .inl rfl | exact .inr rfl | assumption) :
    DS X κ (.Assign [.Name x pos'] e pos) (sSet i sa) :=
  DS.of (ps_set hN hi hx he hs hf) fun σ H ρ E R h => goD R h fun v H1 r ρ1 R1 z1 f1 s1 h1 => by
    obtain ⟨d, z, h2⟩ := val_of z1 h1
    exact ⟨_, R1.setv z, R.ext f1, h2⟩
/-- x = a new list, to be changed -/
def sSetM (i : Nat) (sf : DF) : DSt := fun E ρ => sf ρ fun ds ρ1 => ∀ p, E.nx (ρ1.set i (.ls p ds))
theorem new_own {K : PySem.W.Frag} {ρ ρ' : En} {σ : L2.St} {H : Hp} {p : Addr} (R0 : Rep K κ ρ σ H) (s : Sub ρ' ρ) (n : H p = none) : (∀ j, ownAt ρ' j ≠ some p) ∧ κ.H0 p = none := by
  refine ⟨fun j e => ?_, ?_⟩
  · obtain ⟨u, h, _⟩ := R0.own (s.1 p ⟨j, e⟩)
    rw [n] at h
    cases h
  · cases e : κ.H0 p with
    | none => rfl
    | some o =>
      obtain ⟨o', h'⟩ := R0.dom _ _ e
      rw [n] at h'
      cases h'
/-- what is new is no pool's list -/
theorem pl_ne {K : PySem.W.Frag} {ρ ρ' : En} {σ : L2.St} {H H' : Hp} {p : Addr} (R0 : Rep K κ ρ σ H) (R : Rep K κ ρ' σ H') (s : Sub ρ' ρ) (n : H p = none) :
    ∀ (j : Nat) (q l : Addr), (ρ'[j]? : Option Sl) = some (.pl q l) → l ≠ p ∨ ∃ cs : List Int, ∀ H', SqL K H' l (cs.map V.int) := fun j q l e => by
  obtain ⟨j', e'⟩ := s.2 j q l e
  obtain ⟨_, h⟩ := R0.ok j' _ e'
  rcases plDom h with ⟨o, e2⟩ | h2
  · exact .inl fun z => by rw [z, n] at e2; cases e2
  · exact .inr h2
theorem plx_new {K : PySem.W.Frag} {ρ ρ' : En} {σ : L2.St} {H H' : Hp} {p : Addr} {sl : Sl} (R0 : Rep K κ ρ σ H) (R : Rep K κ ρ' σ H') (s : Sub ρ' ρ) (n : H p = none) (h1 : ∀ j, ownAt ρ' j ≠ some p) (hs : sl.own = some p := by rfl) (hq : ∀ q l, sl ≠ .pl q l := by intro _ _ e; cases e)
    (hl : ∀ (j : Nat) (q l : Addr), (ρ'[j]? : Option Sl) = some (.pl q l) → l ≠ p ∨ ∃ cs : List Int, ∀ H', SqL K H' l (cs.map V.int)) :
    ∀ (j : Nat) (q l : Addr), ((ρ'.set i sl)[j]? : Option Sl) = some (.pl q l) → ¬ Owns (ρ'.set i sl) l ∨ ∃ cs : List Int, ∀ H', SqL K H' l (cs.map V.int) := fun j q l e => by
  have ej : i ≠ j := fun ej => by
    subst ej
    by_cases l : i < ρ'.length
    · rw [List.getElem?_set_self l] at e
      exact hq _ _ (Option.some.inj e)
    · rw [List.getElem?_eq_none (by rw [List.length_set]; omega)] at e
      cases e
  rw [List.getElem?_set_ne ej] at e
  rcases R.plx j q l e with h | h
  · rcases hl j q l e with h2 | h2
    · refine .inl fun ⟨b, hb⟩ => ?_
      rcases ownAt_set hb with ⟨_, e2⟩ | ⟨_, e2⟩
      · rw [hs] at e2
        exact h2 (Option.some.inj e2).symm
      · exact h ⟨b, e2⟩
    · exact .inr h2
  · exact .inr h
theorem ds_setM {sf : DF} (hN : X.N.Nodup) (hi : X.N[i]? = some x) (hx : Loc X.env.scope x) (he : FX X κ e sf) (hs : swapsWith e (some (.Name x pos')) pos.line X.env = pure false := by rfl) (hf : X.fn x = true ∨ X.env.scope.names.lookup x = some .local := by first | exact .inl rfl | exact .inr rfl | assumption) :
    DS X κ (.Assign [.Name x pos'] e pos) (sSetM i sf) :=
  DS.of (ps_set hN hi hx he hs hf) fun σ H ρ E R h => ⟨ρ, _, R, h, fun v H' ⟨p, vs, ds, ρ', ev, n, hp, z, R', f, s', q⟩ => by
    subst ev
    obtain ⟨h1, h2⟩ := new_own R s' n
    exact ⟨_, R'.setS (s := .ls p ds) (some (.ref p)) ⟨rfl, vs, hp, z⟩ (fun p' e => by cases e; exact ⟨fun j _ => h1 j, .inl h2⟩) (plx_new R R' s' n h1 rfl (fun _ _ e => nomatch e) (pl_ne R R' s' n)), R.ext f, q p⟩⟩
/-- .. within a statement: what the name is given is known from now on -/
def tFzS (t : TS) : TS := fun D σ H => t { D with nx := fun σ' H' => D.nx σ' H' ∨ ∃ a u, H' a = some u ∧ Fz u ∧ ∀ o, D.nx σ' (upd H' a (.frz o u)) } σ H
theorem ps_fz {t : TS} (h : PS X st t) : PS X st (tFzS t) := ⟨fun pins s σ H D I q => thn (h.run pins s σ H _ I q) fun f s' z => by
  cases f with
  | next =>
    obtain ⟨σ', H', I', z⟩ := z
    rcases z with z | ⟨a, y, h1, h2, k⟩
    · exact ⟨σ', H', I', z⟩
    · obtain ⟨o, I2⟩ := inv_frz I' h1 h2
      exact ⟨_, _, I2, k o⟩
  | brk => exact z
  | cont => exact z
  | ret u => exact z⟩
/-- y = [.. for ..] -/
theorem ds_setLc {y : Str} {py : Pos} {elt tg iter : Expr} {ifs : List Expr} {scope : Scope} {own : List (Str × Nat)} {spos : Pos} {wi : TI} {it : DIt} {g : TG} {is : List Nat} {gd : GT} {st : DTt} {se : DE} (hc : X.calm = true) (hN : X.N.Nodup) (hy : X.N[i]? = some y) (hyl : X.env.scope.names.lookup y = some .local)
    (hsw : swapsWith (.ListComp elt [⟨tg, iter, ifs, 0⟩] scope pos) (some (.Name y py)) spos.line X.env = pure true) (hi : PI X tg iter wi) (iok : ItOk X.K κ wi it) (ok : BlkOk X.N X.env.scope scope own)
    (hg : ∀ (s : Shared) (H : Hp) (C : Addr) (cl : List (Str × Addr)) (fp : List Addr), PG (X.blk s H scope (compEnvC scope cl C X.env) fp) tg g) (gok : TgOk X.K κ g is gd) (his : ∀ j ∈ is, j ∈ own.map (·.2))
    (ht : ∀ (s : Shared) (H : Hp) (C : Addr) (cl : List (Str × Addr)) (fp : List Addr), PTs (X.blk s H scope (compEnvC scope cl C X.env) fp) ifs (tT X.K κ st))
    (he : ∀ (s : Shared) (H : Hp) (C : Addr) (cl : List (Str × Addr)) (fp : List Addr), PE (X.blk s H scope (compEnvC scope cl C X.env) fp) elt (tD X.K κ se)) (hs : ∀ x, foldedSetIterable iter X.env x = pure x := by intro _; rfl) :
    DS X κ (.Assign [.Name y py] (.ListComp elt [⟨tg, iter, ifs, 0⟩] scope pos) spos) (sSet i (sFx (sLc it gd st se (own.map (·.2))))) :=
  DS.of (ps_fz (ps_setLc hc hN hy hyl hsw hi ok hg ht he hs)) fun σ H ρ E R h => (show tLc wi g (tT X.K κ st) (tD X.K κ se) (own.map (·.2)) σ H (fun x H1 => gName i x σ H1 fun σ' H' => (pS X.K κ H E).nx σ' H' ∨ ∃ a u, H' a = some u ∧ Fz u ∧ ∀ o, (pS X.K κ H E).nx σ' (upd H' a (.frz o u))) from lc_run iok gok his R h fun v H' ⟨p, vs, ds, ρ', ev, n, hp, z, R', f, s', q⟩ => by
    subst ev
    refine .inr ⟨p, _, hp, trivial, fun o => ?_⟩
    obtain ⟨R2, x, n0⟩ := frz_rep (o := o) R R' s' n hp trivial
    exact ⟨_, R2.setv (Z.lst (.inl ⟨o, upd_same⟩) (z.mono x)), (R.ext f).trans x, q⟩)
theorem ds_setLcM {y : Str} {py : Pos} {elt tg iter : Expr} {ifs : List Expr} {scope : Scope} {own : List (Str × Nat)} {spos : Pos} {wi : TI} {it : DIt} {g : TG} {is : List Nat} {gd : GT} {st : DTt} {se : DE} (hc : X.calm = true) (hN : X.N.Nodup) (hy : X.N[i]? = some y) (hyl : X.env.scope.names.lookup y = some .local)
    (hsw : swapsWith (.ListComp elt [⟨tg, iter, ifs, 0⟩] scope pos) (some (.Name y py)) spos.line X.env = pure true) (hi : PI X tg iter wi) (iok : ItOk X.K κ wi it) (ok : BlkOk X.N X.env.scope scope own)
    (hg : ∀ (s : Shared) (H : Hp) (C : Addr) (cl : List (Str × Addr)) (fp : List Addr), PG (X.blk s H scope (compEnvC scope cl C X.env) fp) tg g) (gok : TgOk X.K κ g is gd) (his : ∀ j ∈ is, j ∈ own.map (·.2))
    (ht : ∀ (s : Shared) (H : Hp) (C : Addr) (cl : List (Str × Addr)) (fp : List Addr), PTs (X.blk s H scope (compEnvC scope cl C X.env) fp) ifs (tT X.K κ st))
    (he : ∀ (s : Shared) (H : Hp) (C : Addr) (cl : List (Str × Addr)) (fp : List Addr), PE (X.blk s H scope (compEnvC scope cl C X.env) fp) elt (tD X.K κ se)) (hs : ∀ x, foldedSetIterable iter X.env x = pure x := by intro _; rfl) :
    DS X κ (.Assign [.Name y py] (.ListComp elt [⟨tg, iter, ifs, 0⟩] scope pos) spos) (sSetM i (sLc it gd st se (own.map (·.2)))) :=
  DS.of (ps_setLc hc hN hy hyl hsw hi ok hg ht he hs) fun σ H ρ E R h => lc_run iok gok his R h fun v H' ⟨p, vs, ds, ρ', ev, n, hp, z, R', f, s', q⟩ => by
    subst ev
    obtain ⟨h1, h2⟩ := new_own R s' n
    exact ⟨_, R'.setS (s := .ls p ds) (some (.ref p)) ⟨rfl, vs, hp, z⟩ (fun p' e => by cases e; exact ⟨fun j _ => h1 j, .inl h2⟩) (plx_new R R' s' n h1 rfl (fun _ _ e => nomatch e) (pl_ne R R' s' n)), R.ext f, q p⟩
/-! ### an owned list is known from now on -/
theorem Rep.frzOwn {K : PySem.W.Frag} {ρ : En} {σ : L2.St} {H : Hp} {p : Addr} {sl : Sl} {u : HO} {o : Obj} (R : Rep K κ ρ σ H) (e : (ρ[i]? : Option Sl) = some sl) (es : sl.own = some p) (h : H p = some u) (m : Mu u) : Rep K κ (ρ.set i .no) σ (upd H p (.frz o u)) := by
  have x := ext_mu (o := .frz o u) h m
  have R2 := R.no (i := i) (σ.getD i none)
  have eσ : σ.set i (σ.getD i none) = σ := by
    refine List.ext_getElem? fun j => ?_
    by_cases ej : i = j
    · subst ej
      by_cases l : i < σ.length
      · rw [List.getElem?_set_self l, List.getD_eq_getElem?_getD, List.getElem?_eq_getElem l]
        rfl
      · rw [List.getElem?_eq_none (by rw [List.length_set]; omega), List.getElem?_eq_none (by omega)]
    · rw [List.getElem?_set_ne ej]
  rw [eσ] at R2
  have nOwn : ¬ Owns (ρ.set i .no) p := fun ⟨j, hj⟩ => by
    rcases ownAt_set hj with ⟨_, e2⟩ | ⟨n, e2⟩
    · cases e2
    · exact n (R.nd j i p e2 (by rw [ownAt_of e, es]))
  have new := R.new i p (by rw [ownAt_of e, es])
  refine ⟨R2.len, fun j s2 e2 => ?_, R2.nd, R2.new, fun b y h0 n1 n2 => ?_, fun b y h0 => ?_, Rep.tabs R2.tab h m, R2.plx⟩
  · have q := R2.ok j s2 e2
    have ne : ∀ a, s2.own = some a → a ≠ p := fun a ea z => nOwn ⟨j, by rw [ownAt_of e2, ea, z]⟩
    cases s2 with
    | no => trivial
    | val d => obtain ⟨v, e1, z⟩ := q; exact ⟨v, e1, z.mono x⟩
    | ls a ds => obtain ⟨e1, vs, h1, z⟩ := q; exact ⟨e1, vs, by rw [upd_ne (ne a rfl)]; exact h1, z.mono x⟩
    | dk a ds => obtain ⟨e1, vs, h1, z⟩ := q; exact ⟨e1, vs, by rw [upd_ne (ne a rfl)]; exact h1, z.mono x⟩
    | il a => obtain ⟨e1, ns, h1⟩ := q; exact ⟨e1, ns, by rw [upd_ne (ne a rfl)]; exact h1⟩
    | pl a l =>
      obtain ⟨e1, h1⟩ := q
      refine ⟨e1, ?_⟩
      obtain ⟨i', r, c, s, h5, h6⟩ := h1.at5
      obtain ⟨cs, hs⟩ := h1.sq
      refine ⟨?_, h1.ne, i', r, c, s, by rw [upd_ne (ne a rfl)]; exact h5, h6⟩
      rcases hs with (hs | ⟨ob, hs⟩) | hs
      · by_cases e2 : l = p
        · rw [e2, h] at hs
          have eu : u = .lst (cs.map V.int) := Option.some.inj hs
          exact ⟨cs, .inl (.inr ⟨o, by rw [e2, upd_same, eu]⟩)⟩
        · exact ⟨cs, .inl (.inl (by rw [upd_ne e2]; exact hs))⟩
      · exact ⟨cs, .inl (.inr ⟨ob, x _ _ hs trivial⟩)⟩
      · exact ⟨cs, .inr hs⟩
  · rw [upd_ne fun z => ?_]
    · exact R2.ctx b y h0 n1 n2
    · rw [z] at h0 n2
      rcases new with q | q
      · rw [q] at h0; cases h0
      · exact n2 q
  · by_cases z : b = p
    · exact ⟨_, by rw [z, upd_same]⟩
    · rw [upd_ne z]
      exact R2.dom b y h0
/-- return: an owned list is known from now on -/
def sRet (sa : DE) : DSt := fun E ρ => sa ρ fun r ρ1 => resK ρ1 r fun d => ∀ ρ2, E.rt d ρ2
theorem ds_ret (he : DX X κ e sa) : DS X κ (.Return (some e) pos) (sRet sa) :=
  DS.of (ps_ret (pe_fz he)) fun σ H ρ E R h => ⟨ρ, _, R, h, fun v H' ⟨r, ρ1, R1, z1, f1, s1, h1⟩ => by
    cases r with
    | v d => exact .inl ⟨d, ρ1, σ, R1, R.ext f1, z1, h1 ρ1⟩
    | o p i =>
      have e : v = .ref p := z1
      subst e
      have q1 : slK p (fun d => ∀ ρ2, E.rt d ρ2) (ρ1[i]? : Option Sl) := h1
      cases es : (ρ1[i]? : Option Sl) with
      | none => rw [es] at q1; exact q1.elim
      | some s =>
        rw [es] at q1
        have z := R1.ok i s es
        cases s with
        | no => exact q1.elim
        | val d => exact q1.elim
        | pl p l => exact q1.elim
        | il p => exact q1.elim
        | ls a ds =>
          obtain ⟨e1, q2⟩ := q1
          subst e1
          obtain ⟨_, vs, h2, z2⟩ := z
          refine .inr ⟨_, _, rfl, h2, trivial, fun o => ?_⟩
          have x := ext_mu (o := .frz o (.lst vs)) h2 trivial
          exact ⟨.lst ds, _, σ, R1.frzOwn (o := o) es rfl h2 trivial, (R.ext f1).trans x, Z.lst (.inl ⟨o, upd_same⟩) (z2.mono x), q2 _⟩
        | dk a ds =>
          obtain ⟨e1, q2⟩ := q1
          subst e1
          obtain ⟨_, vs, h2, z2⟩ := z
          refine .inr ⟨_, _, rfl, h2, trivial, fun o => ?_⟩
          have x := ext_mu (o := .frz o (.dK vs)) h2 trivial
          exact ⟨.dct ds, _, σ, R1.frzOwn (o := o) es rfl h2 trivial, (R.ext f1).trans x, Z.dct ⟨o, upd_same⟩ (z2.mono x), q2 _⟩⟩
def sRetN : DSt := fun E ρ => E.rt .non ρ
theorem ds_retN : DS X κ (.Return none pos) sRetN := DS.of ps_retN fun σ H ρ E R h => ⟨.non, ρ, σ, R, Ext.refl _, .non, h⟩
/-! ### loops -/
def forW (gd : GT) (body : DSt) (E : DEnds) (kp : En → Prop) : List D → En → Prop
  | [], ρ => E.nx ρ
  | x :: xs, ρ => gd x ρ fun ρ1 => body { nx := fun ρ2 => kp ρ2 ∧ forW gd body E kp xs ρ2, ct := fun ρ2 => kp ρ2 ∧ forW gd body E kp xs ρ2, bk := E.nx, rt := E.rt } ρ1
def sFor (it : DIt) (gd : GT) (body : DSt) : DSt := fun E ρ => it ρ fun xs kp ρ1 => kp ρ1 ∧ forW gd body E kp xs ρ1
theorem ds_for {iter tg : Expr} {body : List Stmt} {wi : TI} {it : DIt} {g : TG} {is : List Nat} {gd : GT} {sb : DSt} (hp : PassesOwn (model X.prog X.w) X.A X.env X.xe) (hc : X.calm = true) (hi : PI X tg iter wi) (iok : ItOk X.K κ wi it) (hg : PG X tg g) (gok : TgOk X.K κ g is gd) (hb : DSs X κ body sb)
    (hs : ∀ x, foldedSetIterable iter X.env x = pure x := by intro _; rfl) : DS X κ (.For tg iter body [] pos) (sFor it gd sb) :=
  DS.of (ps_for hp hc hi hg hb hs) fun σ H ρ E R h => iok σ H ρ _ _ R h fun J ST xs kp H1 ρ1 R1 f1 s1 src st0 per ⟨k0, hw⟩ => by
    have x1 := R.ext f1
    refine ⟨fun i m σ' H' => m = xs.length - i ∧ i ≤ xs.length ∧ ∃ ρ', Rep X.K κ ρ' σ' H' ∧ Ext H1 H' ∧ kp ρ' ∧ forW gd sb E kp (xs.drop i) ρ', ⟨xs.length, rfl, Nat.zero_le _, ρ1, R1, Ext.refl _, k0, hw⟩, ?_⟩
    rintro i m σ' H' ⟨rfl, hi2, ρ', R', x', k', hw'⟩
    have st' := per ρ' σ' H' R' x' k'
    by_cases hlt : i < xs.length
    · refine .inr ⟨src.go i H' hlt st', fun σ2 H2 => ∃ ρ2, Rep X.K κ ρ2 σ2 H2 ∧ Ext H1 H2 ∧ kp ρ2 ∧ forW gd sb E kp (xs.drop (i + 1)) ρ2, fun σ2 H2 h2 => ⟨xs.length - (i + 1), by omega, rfl, hlt, h2⟩, fun x H2 y => ?_⟩
      obtain ⟨sm, hz⟩ := src.yld i H' x H2 st' y
      have z := hz _ (List.getElem?_eq_getElem hlt)
      rw [List.drop_eq_getElem_cons hlt] at hw'
      have R2 := R'.step sm
      have x2 : Ext H1 H2 := x'.trans (Ext.same sm)
      refine gok x _ σ' H2 ρ' _ _ R2 z hw' fun ρ3 σ3 R3 o3 h3 => ⟨ρ3, _, R3, h3, ?_, ?_, ?_, ?_⟩
      · rintro σ4 H4 ⟨ρ4, R4, x4, k4, h4⟩
        exact ⟨ρ4, R4, x2.trans x4, k4, h4⟩
      · rintro v H4 ⟨d, ρ4, σ4, R4, x4, z4, h4⟩
        exact ⟨d, ρ4, σ4, R4, x1.trans (x2.trans x4), z4, h4⟩
      · rintro σ4 H4 ⟨ρ4, R4, x4, h4⟩
        exact ⟨ρ4, R4, x1.trans (x2.trans x4), h4⟩
      · rintro σ4 H4 ⟨ρ4, R4, x4, k4, h4⟩
        exact ⟨ρ4, R4, x2.trans x4, k4, h4⟩
    · have e : i = xs.length := by omega
      subst e
      rw [List.drop_length] at hw'
      exact .inl ⟨src.stop H' st', ρ', R', x1.trans x', hw'⟩
def sWhile (tt : DTt) (sb : DSt) : DSt := fun E ρ => ∃ W : Nat → En → Prop, (∃ m, W m ρ) ∧ ∀ m ρ, W m ρ → tt ρ fun b ρ1 => if b = true then sb { nx := fun ρ2 => ∃ m', m' < m ∧ W m' ρ2, ct := fun ρ2 => ∃ m', m' < m ∧ W m' ρ2, bk := E.nx, rt := E.rt } ρ1 else E.nx ρ1
theorem ds_while {body : List Stmt} {sb : DSt} (hp : PassesOwn (model X.prog X.w) X.A X.env X.xe) (hc : DT X κ c tt) (hb : DSs X κ body sb) : DS X κ (.While c body [] pos) (sWhile tt sb) :=
  DS.of (ps_while hp hc hb) fun σ H ρ E R ⟨W, ⟨m0, w0⟩, turn⟩ => by
    refine ⟨fun m σ' H' => ∃ ρ', Rep X.K κ ρ' σ' H' ∧ Ext H H' ∧ W m ρ', ⟨m0, ρ, R, Ext.refl _, w0⟩, ?_⟩
    rintro m σ' H' ⟨ρ', R', x', w'⟩
    refine goT R' (turn m ρ' w') fun b H1 ρ1 R1 f1 s1 h1 => ?_
    have x1 : Ext H H1 := x'.trans (R'.ext f1)
    cases b with
    | false => exact (if_neg Bool.false_ne_true).mpr ⟨ρ1, R1, x1, (if_neg Bool.false_ne_true).mp h1⟩
    | true =>
      refine (if_pos rfl).mpr ⟨fun σ2 H2 => ∃ ρ2, Rep X.K κ ρ2 σ2 H2 ∧ Ext H H2 ∧ ∃ m', m' < m ∧ W m' ρ2, fun σ2 H2 ⟨ρ2, R2, x2, m', hm, w2⟩ => ⟨m', hm, ρ2, R2, x2, w2⟩, ρ1, _, R1, (if_pos rfl).mp h1, ?_, ?_, ?_, ?_⟩
      · rintro σ4 H4 ⟨ρ4, R4, x4, h4⟩
        exact ⟨ρ4, R4, x1.trans x4, h4⟩
      · rintro v H4 ⟨d, ρ4, σ4, R4, x4, z4, h4⟩
        exact ⟨d, ρ4, σ4, R4, x1.trans x4, z4, h4⟩
      · rintro σ4 H4 ⟨ρ4, R4, x4, h4⟩
        exact ⟨ρ4, R4, x1.trans x4, h4⟩
      · rintro σ4 H4 ⟨ρ4, R4, x4, h4⟩
        exact ⟨ρ4, R4, x1.trans x4, h4⟩
end
end DL

set_option Elab.async false
set_option linter.all false
set_option maxRecDepth 100000
set_option maxHeartbeats 4000000
namespace DL
open PySem PySem.Spec PyProof.Rows L2 E
section
variable {K : PySem.W.Frag}
/-! ### built-ins -/
theorem RvA.one {H : Hp} {vs : List V} {d : D} (h : RvA K H vs [d]) : ∃ v, vs = [v] ∧ Rv K H v d := by
  cases h with
  | cons h t => cases t; exact ⟨_, rfl, h⟩
theorem RvA.two {H : Hp} {vs : List V} {d e : D} (h : RvA K H vs [d, e]) : ∃ v u, vs = [v, u] ∧ Rv K H v d ∧ Rv K H u e := by
  cases h with
  | cons h t =>
    cases t with
    | cons h2 t => cases t; exact ⟨_, _, rfl, h, h2⟩
theorem CallR.or {X : Cx} {f : Value} {r r' : List V → Hp → VK → Prop} (h : CallR X f r) (h' : CallR X f r') : CallR X f (fun xs H Q => r xs H Q ∨ r' xs H Q) := fun pins s σ H xs us Q I rs q => by
  rcases q with q | q
  · exact h pins s σ H xs us Q I rs q
  · exact h' pins s σ H xs us Q I rs q
abbrev rLenA (K : PySem.W.Frag) : List V → Hp → VK → Prop := fun xs H Q => (∃ p ys, xs = [.ref p] ∧ (SqL K H p ys ∨ SqT K H p ys) ∧ Q (.int ys.length) H) ∨ ∃ z, xs = [.str z] ∧ z.length ≤ sizeLine ∧ Q (.int z.length) H
theorem cr_len {X : Cx} : CallR X (.builtin "len") (rLenA X.K) := CallR.or call_len_seq call_len_str
def gLen : GL := fun ds q => match ds with
  | [.lst xs] => q (.int xs.length)
  | [.tup xs] => q (.int xs.length)
  | [.str z] => z.length ≤ sizeLine ∧ q (.int z.length)
  | _ => False
theorem ca_len : CA K (rLenA K) gLen := ⟨fun H xs ds q Q h g k => by
  match ds, h, g with
  | [.lst ds], h, g =>
    obtain ⟨v, rfl, a, vs, rfl, s, l⟩ := h.one
    refine .inl ⟨a, vs, rfl, .inl s, k _ H _ (L2.Same.refl _) (.inl ?_) g⟩
    rw [l.length]; exact .int _
  | [.tup ds], h, g =>
    obtain ⟨v, rfl, hh⟩ := h.one
    obtain ⟨a, vs, rfl, s, l⟩ := hh.tup
    refine .inl ⟨a, vs, rfl, .inr s, k _ H _ (L2.Same.refl _) (.inl ?_) g⟩
    rw [l.length]; exact .int _
  | [.str z], h, g =>
    obtain ⟨v, rfl, hh⟩ := h.one
    have e := hh.str
    subst e
    exact .inr ⟨z, rfl, g.1, k _ H _ (L2.Same.refl _) (.inl (.int _)) g.2⟩⟩
abbrev rInt1 : List V → Hp → VK → Prop := fun xs H Q => (∃ i, xs = [.int i] ∧ Q (.int i) H) ∨ ∃ k, xs = [.bl k] ∧ Q (.int (if k then 1 else 0)) H
def gInt1 : GL := fun ds q => match ds with
  | [.int i] => q (.int i)
  | [.bl b] => q (.int (if b then 1 else 0))
  | _ => False
theorem ca_int1 : CA K rInt1 gInt1 := ⟨fun H xs ds q Q h g k => by
  match ds, h, g with
  | [.int i], h, g =>
    obtain ⟨v, rfl, hh⟩ := h.one
    have e := hh.int
    subst e
    exact .inl ⟨i, rfl, k _ H _ (L2.Same.refl _) (.inl (.int _)) g⟩
  | [.bl i], h, g =>
    obtain ⟨v, rfl, hh⟩ := h.one
    have e := hh.bl
    subst e
    exact .inr ⟨i, rfl, k _ H _ (L2.Same.refl _) (.inl (.int _)) g⟩⟩
abbrev rAbs : List V → Hp → VK → Prop := fun xs H Q => ∃ i, xs = [.int i] ∧ Q (.int (if i < 0 then -i else i)) H
def gAbs : GL := fun ds q => match ds with
  | [.int i] => q (.int (if i < 0 then -i else i))
  | _ => False
theorem ca_abs : CA K rAbs gAbs := ⟨fun H xs ds q Q h g k => by
  match ds, h, g with
  | [.int i], h, g =>
    obtain ⟨v, rfl, hh⟩ := h.one
    have e := hh.int
    subst e
    exact ⟨i, rfl, k _ H _ (L2.Same.refl _) (.inl (.int _)) g⟩⟩
/-- all, any of a list of bools -/
def gAllB (f : List Bool → Bool) : GL := fun ds q => match ds with
  | [.lst xs] => ∃ bs : List Bool, xs = bs.map D.bl ∧ q (.bl (f bs))
  | _ => False
theorem ca_all : CA K (rAll K) (gAllB fun bs => bs.all id) := ⟨fun H xs ds q Q h g k => by
  match ds, h, g with
  | [.lst ds], h, g =>
    obtain ⟨v, rfl, a, vs, rfl, s, l⟩ := h.one
    obtain ⟨bs, rfl, g⟩ := g
    have e := l.bls_inv
    subst e
    exact ⟨a, bs, rfl, s, k _ H _ (L2.Same.refl _) (.inl (.bl _)) g⟩⟩
theorem ca_any : CA K (rAny K) (gAllB fun bs => bs.any id) := ⟨fun H xs ds q Q h g k => by
  match ds, h, g with
  | [.lst ds], h, g =>
    obtain ⟨v, rfl, a, vs, rfl, s, l⟩ := h.one
    obtain ⟨bs, rfl, g⟩ := g
    have e := l.bls_inv
    subst e
    exact ⟨a, bs, rfl, s, k _ H _ (L2.Same.refl _) (.inl (.bl _)) g⟩⟩
def gSum : GL := fun ds q => match ds with
  | [.lst xs] => ∃ ns : List Int, xs = ns.map D.int ∧ q (.int ns.sum)
  | _ => False
theorem ca_sum : CA K (rSum K) gSum := ⟨fun H xs ds q Q h g k => by
  match ds, h, g with
  | [.lst ds], h, g =>
    obtain ⟨v, rfl, a, vs, rfl, s, l⟩ := h.one
    obtain ⟨bs, rfl, g⟩ := g
    have e := l.ints_inv
    subst e
    exact ⟨a, bs, rfl, s, k _ H _ (L2.Same.refl _) (.inl (.int _)) g⟩⟩
def gMaxL (f : Int → Int → Prop) : GL := fun ds q => match ds with
  | [.lst xs] => ∃ ns : List Int, xs = ns.map D.int ∧ 0 < ns.length ∧ ∀ m, m ∈ ns → (∀ y, y ∈ ns → f y m) → q (.int m)
  | _ => False
theorem ca_max : CA K (rMax K) (gMaxL fun y m => y ≤ m) := ⟨fun H xs ds q Q h g k => by
  match ds, h, g with
  | [.lst ds], h, g =>
    obtain ⟨v, rfl, a, vs, rfl, s, l⟩ := h.one
    obtain ⟨bs, rfl, g1, g2⟩ := g
    have e := l.ints_inv
    subst e
    exact ⟨a, bs, rfl, s, g1, fun m m1 m2 => k _ H _ (L2.Same.refl _) (.inl (.int _)) (g2 m m1 m2)⟩⟩
theorem ca_min : CA K (rMin K) (gMaxL fun y m => m ≤ y) := ⟨fun H xs ds q Q h g k => by
  match ds, h, g with
  | [.lst ds], h, g =>
    obtain ⟨v, rfl, a, vs, rfl, s, l⟩ := h.one
    obtain ⟨bs, rfl, g1, g2⟩ := g
    have e := l.ints_inv
    subst e
    exact ⟨a, bs, rfl, s, g1, fun m m1 m2 => k _ H _ (L2.Same.refl _) (.inl (.int _)) (g2 m m1 m2)⟩⟩
/-- list(xs), tuple(xs) -/
abbrev rListA (K : PySem.W.Frag) : List V → Hp → VK → Prop := fun xs H Q => ∃ p ys, xs = [.ref p] ∧ (SqL K H p ys ∨ SqT K H p ys) ∧ ∀ l, H l = none → Q (.ref l) (upd H l (.lst ys))
abbrev rTupleA (K : PySem.W.Frag) : List V → Hp → VK → Prop := fun xs H Q => ∃ p ys, xs = [.ref p] ∧ ((SqL K H p ys ∧ ∀ l, H l = none → Q (.ref l) (upd H l (.tup ys))) ∨ (SqT K H p ys ∧ Q (.ref p) H))
def gListF : List D → (List D → Prop) → Prop := fun ds q => match ds with
  | [.lst xs] => q xs
  | [.tup xs] => q xs
  | _ => False
theorem cf_list : CF K (rListA K) gListF := ⟨fun H xs ds q Q h g k => by
  match ds, h, g with
  | [.lst ds], h, g =>
    obtain ⟨v, rfl, a, vs, rfl, s, l⟩ := h.one
    exact ⟨a, vs, rfl, .inl s, fun p np => k p vs ds _ (same_new np) np upd_same (l.mono (Ext.same (same_new np))) g⟩
  | [.tup ds], h, g =>
    obtain ⟨v, rfl, hh⟩ := h.one
    obtain ⟨a, vs, rfl, s, l⟩ := hh.tup
    exact ⟨a, vs, rfl, .inr s, fun p np => k p vs ds _ (same_new np) np upd_same (l.mono (Ext.same (same_new np))) g⟩⟩
def gTupA : GL := fun ds q => match ds with
  | [.lst xs] => q (.tup xs)
  | [.tup xs] => q (.tup xs)
  | _ => False
theorem ca_tuple : CA K (rTupleA K) gTupA := ⟨fun H xs ds q Q h g k => by
  match ds, h, g with
  | [.lst ds], h, g =>
    obtain ⟨v, rfl, a, vs, rfl, s, l⟩ := h.one
    exact ⟨a, vs, rfl, .inl ⟨s, fun p np => k _ _ _ (same_new np) (.inl (.tup (SqT.of upd_same) (l.mono (Ext.same (same_new np))) fun _ _ => upd_same)) g⟩⟩
  | [.tup ds], h, g =>
    obtain ⟨v, rfl, hh⟩ := h.one
    obtain ⟨a, vs, rfl, s, l⟩ := id hh.tup
    exact ⟨a, vs, rfl, .inr ⟨s, k _ H _ (L2.Same.refl _) (.inl hh) g⟩⟩⟩
end
/-! ### slices -/
section
variable {X : Cx} {κ : Ktx} {i : Nat} {x : Str} {p pos pos' p2 : Pos} {a b c e : Expr} {lo hi : Option Expr} {es : List Expr} {sa sb sc : DE} {sA : DAa}
abbrev DO := En → (Option Int → En → Prop) → Prop
def pO (K : PySem.W.Frag) (κ : Ktx) (σ : L2.St) (H : Hp) (ρ : En) (Q : Option Int → En → Prop) : Option Int → Hp → Prop := fun o H' => ∃ ρ', Rep K κ ρ' σ H' ∧ Fr ρ H H' ∧ Sub ρ' ρ ∧ Q o ρ'
def tO (K : PySem.W.Frag) (κ : Ktx) (s : DO) : TO := fun σ H Q => ∃ ρ q, Rep K κ ρ σ H ∧ s ρ q ∧ ∀ v H', pO K κ σ H ρ q v H' → Q v H'
def sNoP : DO := fun ρ Q => Q none ρ
def sPart (sa : DE) : DO := fun ρ Q => sa ρ fun r ρ1 => ∃ i, r = .v (.int i) ∧ Q (some i) ρ1
theorem do_none : PO X none (tO X.K κ sNoP) := ⟨fun pins s σ H Q I ⟨ρ, q, R, h, k⟩ => po_none.run pins s σ H Q I (k none H ⟨ρ, R, Fr.refl _ _, Sub.refl _, h⟩)⟩
theorem do_some (h : DX X κ e sa) : PO X (some e) (tO X.K κ (sPart sa)) := ⟨fun pins s σ H Q I ⟨ρ, q, R, hs, k⟩ => (po_some h).run pins s σ H Q I (goD R hs fun v H' d ρ' R' z f s' ⟨i, e, q⟩ => by
  subst e
  cases (show Z X.K H' v (.int i) from z)
  exact ⟨i, rfl, k _ _ ⟨ρ', R', f, s', q⟩⟩)⟩
def cutD (xs : List D) (lo hi : Option Int) : List D := (xs.drop (HT.sIx xs.length 0 lo)).take (HT.sIx xs.length xs.length hi - HT.sIx xs.length 0 lo)
abbrev rSlT' (K : PySem.W.Frag) : V → Option Int → Option Int → Hp → VK → Prop := fun x lo hi H Q => rSlA K x lo hi H Q ∨ rSlS x lo hi H Q
theorem sl_ts : SlR X (rSlT' X.K) := SlR.or sl_tupA sl_str
/-- a slice of a tuple, of a text -/
def sSlT (sa : DE) (sl sh : DO) : DE := fun ρ Q => sa ρ fun r ρ1 => sl ρ1 fun lo ρ2 => sh ρ2 fun hi ρ3 => valK r fun d => match d with
  | .tup xs => Q (.v (.tup (cutD xs lo hi))) ρ3
  | .str z => z.length ≤ sizeLine ∧ Q (.v (.str (cutS z lo hi))) ρ3
  | _ => False
def sSlL (sa : DE) (sl sh : DO) : DF := fun ρ Q => sa ρ fun r ρ1 => sl ρ1 fun lo ρ2 => sh ρ2 fun hi ρ3 => resK ρ3 r fun d => match d with
  | .lst xs => Q (cutD xs lo hi) ρ3
  | _ => False
theorem za_cut {K : PySem.W.Frag} {H : Hp} {vs : List V} {ds : List D} (h : ZA K H vs ds) (lo hi : Option Int) : ZA K H (cutV vs lo hi) (cutD ds lo hi) := by
  unfold cutV cutD
  rw [h.length]
  exact (h.drop _).take _
theorem goO {K : PySem.W.Frag} {s : DO} {σ : L2.St} {H : Hp} {ρ : En} {q : Option Int → En → Prop} {Q : Option Int → Hp → Prop} (R : Rep K κ ρ σ H) (h : s ρ q) (k : ∀ o H' ρ', Rep K κ ρ' σ H' → Fr ρ H H' → Sub ρ' ρ → q o ρ' → Q o H') : tO K κ s σ H Q :=
  ⟨ρ, q, R, h, fun v H' ⟨ρ', a, c, e, f⟩ => k v H' ρ' a c e f⟩
theorem dx_slT {sl sh : DO} (he : DX X κ e sa) (hl : PO X lo (tO X.K κ sl)) (hu : PO X hi (tO X.K κ sh)) : DX X κ (.Subscript e (.Slice lo hi none p2) pos) (sSlT sa sl sh) :=
  DX.of (pe_slice sl_ts he hl hu) fun σ H ρ Q R h => goD R h fun x H1 r ρ1 R1 z1 f1 s1 h1 => goO R1 h1 fun l H2 ρ2 R2 f2 s2 h2 => goO R2 h2 fun u H3 ρ3 R3 f3 s3 h3 => by
    have z3 := (z1.mono (R1.ext f2)).mono (R2.ext f3)
    obtain ⟨d, z, h4⟩ := val_of z3 h3
    have ff := (f1.trans s1 f2).trans (s2.trans s1) f3
    have ss := (s3.trans s2).trans s1
    cases d <;> first | exact (show False from h4).elim | skip
    case tup xs =>
      obtain ⟨a, vs, rfl, s, la⟩ := Rv.tup (Rv.of z)
      refine .inl ⟨a, vs, rfl, s, fun ⟨e1, e2⟩ => ?_, fun _ p np => ?_⟩
      · refine ⟨.v (.tup (cutD xs l u)), ρ3, R3, ?_, ff, ss, h4⟩
        have : cutD xs l u = xs := by
          unfold cutD
          rw [← la.length, e1, e2, List.drop_zero, Nat.sub_zero, List.take_of_length_le (by rw [la.length]; exact Nat.le_refl _)]
        show Z _ _ _ (.tup (cutD xs l u))
        rw [this]
        exact z
      · have sm := same_new (o := .tup (cutV vs l u)) np
        exact ⟨.v (.tup (cutD xs l u)), ρ3, R3.step sm, Z.tup (SqT.of upd_same) (za_cut (la.mono (Ext.same sm)) l u) (fun _ _ => upd_same), ff.trans ss (Fr.same sm), ss, h4⟩
    case str y =>
      have e := (Rv.of z).str
      subst e
      exact .inr ⟨y, rfl, h4.1, .v (.str (cutS y l u)), ρ3, R3, Z.str _, ff, ss, h4.2⟩
theorem fx_slL {sl sh : DO} (he : DX X κ e sa) (hl : PO X lo (tO X.K κ sl)) (hu : PO X hi (tO X.K κ sh)) : FX X κ (.Subscript e (.Slice lo hi none p2) pos) (sSlL sa sl sh) :=
  FX.of (pe_slice sl_list he hl hu) fun σ H ρ Q R h => goD R h fun x H1 r ρ1 R1 z1 f1 s1 h1 => goO R1 h1 fun l H2 ρ2 R2 f2 s2 h2 => goO R2 h2 fun u H3 ρ3 R3 f3 s3 h3 => by
    have z3 := (z1.mono (R1.ext f2)).mono (R2.ext f3)
    obtain ⟨d, z, h4⟩ := R3.res z3 h3
    have ff := (f1.trans s1 f2).trans (s2.trans s1) f3
    have ss := (s3.trans s2).trans s1
    cases d <;> first | exact (show False from h4).elim | skip
    rename_i xs
    obtain ⟨a, vs, rfl, s, la⟩ := z
    refine ⟨a, vs, rfl, s, fun p np => ?_⟩
    have sm := same_new (o := .lst (cutV vs l u)) np
    exact ⟨p, _, _, ρ3, rfl, dom_none ff np, upd_same, za_cut (la.mono (Ext.same sm)) l u, R3.step sm, ff.trans ss (Fr.same sm), ss, h4⟩
/-! ### an owned list is changed by a method -/
structure MA (K : PySem.W.Frag) (r : V → List V → Hp → VK → Prop) (g : List D → List D → (List D → D → Prop) → Prop) : Prop where
  ok : ∀ H p us xs vs ds q Q, H p = some (.lst us) → ZA K H us xs → ZA K H vs ds → g xs ds q → (∀ us' xs' v z, ZA K H us' xs' → Z K H v z → q xs' z → Q v (upd H p (.lst us'))) → r (.ref p) vs H Q
def isLs : Option Sl → Prop
  | some (.ls _ _) => True
  | _ => False
def mutK (g : List D → List D → (List D → D → Prop) → Prop) (ds : List D) (i : Nat) (Q : DQ) (ρ : En) : Option Sl → Prop
  | some (.ls p xs) => g xs ds fun xs' z => Q (.v z) (ρ.set i (.ls p xs'))
  | _ => False
def sMut (i : Nat) (g : List D → List D → (List D → D → Prop) → Prop) (sA : DAa) : DE := fun ρ Q => isLs (ρ[i]? : Option Sl) ∧ sA ρ fun rs ρ1 => valKs rs fun ds => mutK g ds i Q ρ1 (ρ1[i]? : Option Sl)
theorem Rep.write {K : PySem.W.Frag} {ρ : En} {σ : L2.St} {H : Hp} {q : Addr} {xs xs' : List D} {us us' : List V} (R : Rep K κ ρ σ H) (e : (ρ[i]? : Option Sl) = some (.ls q xs)) (h : H q = some (.lst us)) (z : ZA K H us' xs') : Rep K κ (ρ.set i (.ls q xs')) σ (upd H q (.lst us')) ∧ Fr ρ H (upd H q (.lst us')) ∧ Sub (ρ.set i (.ls q xs')) ρ := by
  have x := ext_mu (o := .lst us') h trivial
  have own : ownAt ρ i = some q := ownAt_of e
  have hi := (List.getElem?_eq_some_iff.mp e).1
  have ow : ∀ {b p}, ownAt (ρ.set i (.ls q xs')) b = some p → ownAt ρ b = some p := fun {b p} hb => by
    rcases ownAt_set hb with ⟨rfl, e2⟩ | ⟨_, e2⟩
    · cases e2; exact own
    · exact e2
  have sub : Sub (ρ.set i (.ls q xs')) ρ := ⟨fun p ⟨b, hb⟩ => ⟨b, ow hb⟩, fun j a l e2 => by
    by_cases ej : i = j
    · subst ej
      rw [List.getElem?_set_self hi] at e2
      cases e2
    · rw [List.getElem?_set_ne ej] at e2
      exact ⟨j, e2⟩⟩
  refine ⟨⟨by rw [List.length_set, R.len], fun j s2 e2 => ?_, fun a b p ha hb => R.nd a b p (ow ha) (ow hb), fun a p ha => R.new a p (ow ha), fun b y h0 n1 n2 => ?_, fun b y h0 => ?_, Rep.tabs R.tab h trivial, fun j a l e2 => ?_⟩, ⟨fun b y h0 n1 n2 => ?_, fun b y h0 => ?_⟩, sub⟩
  · by_cases ej : i = j
    · subst ej
      rw [List.getElem?_set_self hi] at e2
      cases e2
      exact ⟨(R.ok i _ e).1, us', upd_same, z.mono x⟩
    · rw [List.getElem?_set_ne ej] at e2
      have qq := R.ok j s2 e2
      have ne : ∀ a, s2.own = some a → a ≠ q := fun a ea z => ej (R.nd i j q own (by rw [ownAt_of e2, ea, z]))
      cases s2 with
      | no => trivial
      | val d => obtain ⟨v, e1, z⟩ := qq; exact ⟨v, e1, z.mono x⟩
      | ls a ds => obtain ⟨e1, vs, h1, z⟩ := qq; exact ⟨e1, vs, by rw [upd_ne (ne a rfl)]; exact h1, z.mono x⟩
      | dk a ds => obtain ⟨e1, vs, h1, z⟩ := qq; exact ⟨e1, vs, by rw [upd_ne (ne a rfl)]; exact h1, z.mono x⟩
      | il a => obtain ⟨e1, ns, h1⟩ := qq; exact ⟨e1, ns, by rw [upd_ne (ne a rfl)]; exact h1⟩
      | pl a l =>
        obtain ⟨e1, h1⟩ := qq
        refine ⟨e1, ?_⟩
        obtain ⟨i', r, c, s, h5, h6⟩ := h1.at5
        obtain ⟨cs, hs⟩ := h1.sq
        refine ⟨?_, h1.ne, i', r, c, s, by rw [upd_ne (ne a rfl)]; exact h5, h6⟩
        rcases R.plx j a l e2 with nl | ⟨cs2, nl⟩
        · refine ⟨cs, ?_⟩
          rcases hs with (hs | ⟨ob, hs⟩) | hs
          · exact .inl (.inl (by rw [upd_ne fun z => nl ⟨i, by rw [z]; exact own⟩]; exact hs))
          · exact .inl (.inr ⟨ob, x _ _ hs trivial⟩)
          · exact .inr hs
        · exact ⟨cs2, nl _⟩
  · by_cases z : b = q
    · rw [z] at h0 n2
      rcases R.new i q own with r | r
      · rw [r] at h0; cases h0
      · exact absurd r n2
    · rw [upd_ne z]
      exact R.ctx b y h0 n1 n2
  · by_cases z : b = q
    · exact ⟨_, by rw [z, upd_same]⟩
    · rw [upd_ne z]
      exact R.dom b y h0
  · obtain ⟨j', e3⟩ := sub.2 j a l e2
    rcases R.plx j' a l e3 with nl | nl
    · exact .inl fun ⟨b, hb⟩ => nl ⟨b, ow hb⟩
    · exact .inr nl
  · rw [upd_ne fun z => n2 ⟨i, by rw [z]; exact own⟩]
    exact h0
  · by_cases z : b = q
    · exact ⟨_, by rw [z, upd_same]⟩
    · rw [upd_ne z]
      exact ⟨y, h0⟩
theorem mut_run {K : PySem.W.Frag} {r : V → List V → Hp → VK → Prop} {g : List D → List D → (List D → D → Prop) → Prop} (ma : MA K r g) {σ : L2.St} {H : Hp} {ρ : En} {Q : DQ} (R : Rep K κ ρ σ H) (h : sMut i g sA ρ Q) : tBM K "list" r (tVar i) (tA K κ sA) σ H (pD K κ σ H ρ Q) := by
  obtain ⟨h0, h⟩ := h
  cases e : (ρ[i]? : Option Sl) with
  | none => rw [e] at h0; exact h0.elim
  | some s =>
    rw [e] at h0
    cases s <;> first | exact (show False from h0).elim | skip
    rename_i q xs
    obtain ⟨es, us, hq, za⟩ := R.ok i _ e
    refine ⟨.ref q, es, .inl ⟨rfl, us, .inl (.inl hq)⟩, goA R h fun vs H1 rs ρ1 R1 z1 f1 s1 h1 => ?_⟩
    obtain ⟨ds, z, h2⟩ := vals_of z1 h1
    cases e1 : (ρ1[i]? : Option Sl) with
    | none => rw [e1] at h2; exact (show False from h2).elim
    | some s =>
      rw [e1] at h2
      cases s <;> first | exact (show False from h2).elim | skip
      rename_i q1 xs1
      obtain ⟨es1, us1, hq1, za1⟩ := R1.ok i _ e1
      rw [es] at es1
      cases es1
      refine ma.ok H1 q us1 xs1 vs ds _ _ hq1 za1 z h2 fun us' xs' v z' za' zv qq => ?_
      obtain ⟨R2, f2, s2⟩ := R1.write e1 hq1 za'
      exact ⟨.v z', _, R2, Z.mono (ext_mu (o := .lst us') hq1 trivial) zv, f1.trans s1 f2, s2.trans s1, qq⟩
theorem dx_mut {name : Str} {id : String} {r : V → List V → Hp → VK → Prop} {g : List D → List D → (List D → D → Prop) → Prop} {apos cpos : Pos} (ma : MA X.K r g) (hN : X.N[i]? = some x) (hv : Vis X.env.scope x) (pa : PlainAttrs "list") (slot : Slot "list" name id) (hty : typeOf (.builtin id) = pure (.type "method_descriptor")) (hm : MtR X id r) (ha : DA X κ (e :: es) sA)
    (hd : (x == ("__debug__" : Str)) = false := by decide) (hcd : (x == ("__classdict__" : Str)) = false := by decide)
    (hbase : attributeBase (.Name x p) name X.env (eval (.Name x p) X.env) = eval (.Name x p) X.env := by rfl)
    (hfew : ((backTo cpos (starEach (e :: es) X.env)).all (fun x => !x.1) && (backToKw cpos (keywordEach [] X.env)).all (fun x => x.1.isSome)
      && decide ((e :: es).length + ([] : List Keyword).length + (if ([] : List Keyword).isEmpty then 0 else 1) < 30)) = true := by rfl)
    (hline : (apos.endLine == cpos.line) = true := by rfl) (hs : starEach (e :: es) X.env = (false, eval e X.env) :: starEach es X.env := by rfl) (hplain : (backTo cpos (starEach es X.env)).any (·.1) = false := by rfl) :
    DX X κ (.Call (.Attribute (.Name x p) name apos) (e :: es) [] cpos) (sMut i g sA) :=
  DX.of (pe_bm pa slot hty hm (pe_var hN hv hd hcd) ha hbase hfew hline hs hplain) fun σ H ρ Q R h => mut_run ma R h
theorem dx_mut0 {name : Str} {id : String} {r : V → List V → Hp → VK → Prop} {g : List D → List D → (List D → D → Prop) → Prop} {apos cpos : Pos} (ma : MA X.K r g) (hN : X.N[i]? = some x) (hv : Vis X.env.scope x) (pa : PlainAttrs "list") (slot : Slot "list" name id) (hty : typeOf (.builtin id) = pure (.type "method_descriptor")) (hm : MtR X id r)
    (hd : (x == ("__debug__" : Str)) = false := by decide) (hcd : (x == ("__classdict__" : Str)) = false := by decide)
    (hbase : attributeBase (.Name x p) name X.env (eval (.Name x p) X.env) = eval (.Name x p) X.env := by rfl) (hline : (apos.endLine == cpos.line) = true := by rfl) :
    DX X κ (.Call (.Attribute (.Name x p) name apos) [] [] cpos) (sMut i g sNil) :=
  DX.of (pe_bm0 pa slot hty hm (pe_var hN hv hd hcd) hbase hline) fun σ H ρ Q R h => by
    obtain ⟨v, es, t, q⟩ := mut_run ma R h
    obtain ⟨ρ0, q0, R0, h0, k0⟩ := q
    exact ⟨v, es, t, k0 [] H ⟨[], ρ0, R0, .nil, Fr.refl _ _, Sub.refl _, h0⟩⟩
def gAppend : List D → List D → (List D → D → Prop) → Prop := fun xs ds q => match ds with
  | [d] => xs.length < sizeLine ∧ q (xs ++ [d]) .non
  | _ => False
theorem ma_append {K : PySem.W.Frag} : MA K rAppend gAppend := ⟨fun H p us xs vs ds q Q h za zv g k => by
  match ds, zv, g with
  | [d], .cons (v := v) z .nil, g => exact ⟨p, us, v, rfl, rfl, h, by rw [za.length]; exact g.1, k _ _ _ _ (za.snoc z) .non g.2⟩⟩
def gPop : List D → List D → (List D → D → Prop) → Prop := fun xs ds q => ds = [] ∧ ∃ z, xs[xs.length - 1]? = some z ∧ q xs.dropLast z
theorem ma_pop {K : PySem.W.Frag} : MA K rPop gPop := ⟨fun H p us xs vs ds q Q h za zv g k => by
  obtain ⟨rfl, z, g1, g2⟩ := g
  cases zv
  obtain ⟨v, h1, h2⟩ := za.get g1
  refine ⟨p, us, v, rfl, rfl, h, by rw [za.length]; exact h1, k _ _ _ _ ?_ h2 g2⟩
  rw [List.dropLast_eq_take, List.dropLast_eq_take, za.length]
  exact za.take _⟩
def gPopAt : List D → List D → (List D → D → Prop) → Prop := fun xs ds q => match ds with
  | [.int i] => -(2 ^ 63) ≤ i ∧ i < 2 ^ 63 ∧ ∃ k z, seqIndex? i xs.length = some k ∧ xs[k]? = some z ∧ q (xs.eraseIdx k) z
  | _ => False
theorem ma_popAt {K : PySem.W.Frag} : MA K rPopAt gPopAt := ⟨fun H p us xs vs ds q Q h za zv g k => by
  match ds, zv, g with
  | [.int i], .cons (v := v) z .nil, g =>
    obtain ⟨h1, h2, j, y, h3, h4, h5⟩ := g
    cases z
    obtain ⟨v, h6, h7⟩ := za.get h4
    exact ⟨p, us, i, j, v, rfl, rfl, h, h1, h2, by rw [za.length]; exact h3, h6, k _ _ _ _ (za.erase j) h7 h5⟩⟩
end
end DL

set_option Elab.async false
set_option linter.all false
set_option maxRecDepth 100000
set_option maxHeartbeats 4000000
namespace DL
open PySem PySem.Spec PyProof.Rows L2 E
section
variable {X : Cx} {κ : Ktx} {i : Nat} {x : Str} {p pos pos' : Pos} {a b c e : Expr} {es : List Expr} {sa sb sc : DE} {sA : DAa} {st : Stmt} {sts : List Stmt} {s u : DSt} {tt : DTt}
theorem dv (i : Nat) {x : Str} {pos : Pos} (hN : X.N[i]? = some x := by rfl) (hv : Vis X.env.scope x := by first | exact Or.inl rfl | exact Or.inr (Or.inl rfl) | exact Or.inr (Or.inr rfl)) (hd : (x == ("__debug__" : Str)) = false := by decide) (hcd : (x == ("__classdict__" : Str)) = false := by decide) : DX X κ (.Name x pos) (sVar i) := dx_var hN hv hd hcd
/-! ### a op b op' c -/
def sChain (g g' : G2) (sa sb sc : DE) : DE := fun ρ Q => sa ρ fun d ρ1 => sb ρ1 fun e ρ2 => resK ρ2 d fun d' => resK ρ2 e fun e' => g d' e' fun z => ∃ k, z = .bl k ∧ if k = true then sc ρ2 fun f ρ3 => resK ρ3 e fun e2 => resK ρ3 f fun f' => g' e2 f' fun z => Q (.v z) ρ3 else Q (.v (.bl false)) ρ2
theorem chain_run {K : PySem.W.Frag} {r r' : R2} {g g' : G2} (oa : OA K r g) (oa' : OA K r' g') {σ : L2.St} {H : Hp} {ρ : En} {Q : DQ} (R : Rep K κ ρ σ H) (h : sChain g g' sa sb sc ρ Q) :
    tChain r r' (tD K κ sa) (tD K κ sb) (tD K κ sc) σ H fun v H' => pD K κ σ H ρ Q v H' ∨ ∃ a u, v = .ref a ∧ H' a = some u ∧ Fz u ∧ ∀ o, pD K κ σ H ρ Q v (upd H' a (.frz o u)) :=
  goD R h fun x H1 d ρ1 R1 z1 f1 s1 h1 => goD R1 h1 fun y H2 e ρ2 R2 z2 f2 s2 h2 => by
    obtain ⟨d', v1, h3⟩ := R2.res (z1.mono (R1.ext f2)) h2
    obtain ⟨e', v2, h4⟩ := R2.res z2 h3
    refine oa.ok H2 x y _ _ _ _ v1 v2 h4 fun v H3 z sm zo q => ?_
    obtain ⟨k, rfl, q⟩ := q
    have ev : v = .bl k := by
      rcases zo with z | ⟨_, _, _, _, e, _⟩ | ⟨_, _, _, _, e, _⟩
      · cases z; rfl
      · cases e
      · cases e
    refine ⟨k, ev, ?_⟩
    have R3 := R2.step sm
    have f3 := (f1.trans s1 f2).trans (s2.trans s1) (Fr.same sm)
    have s3 := s2.trans s1
    cases k with
    | false => exact (if_neg Bool.false_ne_true).mpr (.inl ⟨.v (.bl false), ρ2, R3, Z.bl _, f3, s3, (if_neg Bool.false_ne_true).mp q⟩)
    | true =>
      refine (if_pos rfl).mpr (goD R3 ((if_pos rfl).mp q) fun w H4 f ρ4 R4 z4 f4 s4 h5 => ?_)
      obtain ⟨e2, v3, h6⟩ := R4.res ((z2.mono (Ext.same sm)).mono (R3.ext f4)) h5
      obtain ⟨f', v4, h7⟩ := R4.res z4 h6
      exact oa'.ok H4 y w _ _ _ _ v3 v4 h7 fun v H5 z sm2 zo2 q2 => fin_o R4 (f3.trans s3 f4) (s4.trans s3) sm2 zo2 q2
theorem dx_chain {op op' : CmpOp} {r r' : R2} {g g' : G2} (ho : OpR X (compareOp op) r) (oa : OA X.K r g) (ho' : OpR X (compareOp op') r') (oa' : OA X.K r' g') (ha : DX X κ a sa) (hb : DX X κ b sb) (hc : DX X κ c sc)
    (hm : lastMarks [op, op'] [b, c] = false := by with_unfolding_all rfl) : DX X κ (.Compare a [op, op'] [b, c] pos) (sChain g g' sa sb sc) :=
  DX.of (pe_fz (pe_chain ho ho' ha hb hc hm)) fun σ H ρ Q R h => chain_run oa oa' R h
theorem dt_chain {op op' : CmpOp} {r r' : R2} {g g' : G2} (ho : OpR X (compareOp op) r) (oa : OA X.K r g) (ho' : OpR X (compareOp op') r') (oa' : OA X.K r' g') (ha : DX X κ a sa) (hb : DX X κ b sb) (hc : DX X κ c sc)
    (hm : lastMarks [op, op'] [b, c] = false := by with_unfolding_all rfl) : DT X κ (.Compare a [op, op'] [b, c] pos) (sTst (sChain g g' sa sb sc)) :=
  DT.of (pt_chain ho ho' ha hb hc hm) fun σ H ρ Q R h => by
    have := chain_run (κ := κ) oa oa' R h
    refine goD R h fun x H1 d ρ1 R1 z1 f1 s1 h1 => goD R1 h1 fun y H2 e ρ2 R2 z2 f2 s2 h2 => ?_
    obtain ⟨d', v1, h3⟩ := R2.res (z1.mono (R1.ext f2)) h2
    obtain ⟨e', v2, h4⟩ := R2.res z2 h3
    refine oa.ok H2 x y _ _ _ _ v1 v2 h4 fun v H3 z sm zo q => ?_
    obtain ⟨k, rfl, q⟩ := q
    have ev : v = .bl k := by
      rcases zo with z | ⟨_, _, _, _, e, _⟩ | ⟨_, _, _, _, e, _⟩
      · cases z; rfl
      · cases e
      · cases e
    refine ⟨k, ev, ?_⟩
    have R3 := R2.step sm
    have f3 := (f1.trans s1 f2).trans (s2.trans s1) (Fr.same sm)
    have s3 := s2.trans s1
    cases k with
    | false =>
      obtain ⟨b, eb, q⟩ := (if_neg Bool.false_ne_true).mp q
      cases eb
      exact (if_neg Bool.false_ne_true).mpr ⟨false, rfl, ρ2, R3, f3, s3, q⟩
    | true =>
      refine (if_pos rfl).mpr (goD R3 ((if_pos rfl).mp q) fun w H4 f ρ4 R4 z4 f4 s4 h5 => ?_)
      obtain ⟨e2, v3, h6⟩ := R4.res ((z2.mono (Ext.same sm)).mono (R3.ext f4)) h5
      obtain ⟨f', v4, h7⟩ := R4.res z4 h6
      refine oa'.ok H4 y w _ _ _ _ v3 v4 h7 fun v H5 z sm2 zo2 q2 => ?_
      obtain ⟨b, eb, q2⟩ := q2
      cases eb
      have ev : v = .bl b := by
        rcases zo2 with z | ⟨_, _, _, _, e, _⟩ | ⟨_, _, _, _, e, _⟩
        · cases z; rfl
        · cases e
        · cases e
      exact ⟨b, ev, ρ4, R4.step sm2, (f3.trans s3 f4).trans (s4.trans s3) (Fr.same sm2), s4.trans s3, q2⟩
/-! ### stores -/
/-- targets of any form -/
def sAsg (sa : DE) (g : GT) : DSt := fun E ρ => sa ρ fun r ρ1 => valK r fun d => g d ρ1 E.nx
theorem ds_asg {tg : Expr} {g : TG} {is : List Nat} {gd : GT} (he : DX X κ e sa) (hg : PG X tg g) (gok : TgOk X.K κ g is gd) (hs : swapsWithSole [tg] e pos.line X.env = pure false := by rfl) (hw : swappedStores [tg] e X.env = pure none := by rfl)
    (h1 : (assignEach [tg] X.env).map (·.2) = [assign tg X.env] := by rfl) : DS X κ (.Assign [tg] e pos) (sAsg sa gd) :=
  DS.of (ps_asg he hg hs hw h1) fun σ H ρ E R h => goD R h fun v H1 r ρ1 R1 z1 f1 s1 h1 => by
    obtain ⟨d, z, h2⟩ := val_of z1 h1
    exact gok v d σ H1 ρ1 _ _ R1 z h2 fun ρ' σ' R' o q => ⟨ρ', R', R.ext f1, q⟩
/-- x += e -/
def augK (f : Int → Int → Int) (i : Nat) (sa : DE) (E : DEnds) (ρ : En) : Option Sl → Prop
  | some (.val (.int k)) => sa ρ fun r ρ1 => ∃ j, r = .v (.int j) ∧ E.nx (ρ1.set i (.val (.int (f k j))))
  | _ => False
def sAug (i : Nat) (f : Int → Int → Int) (sa : DE) : DSt := fun E ρ => augK f i sa E ρ (ρ[i]? : Option Sl)
theorem ds_aug {f : Int → Int → Int} {op : Operator} (hN : X.N.Nodup) (hi : X.N[i]? = some x) (hx : Loc X.env.scope x) (he : DX X κ e sa) (ho : PIp X op (ipI f)) (hf : X.fn x = true ∨ X.env.scope.names.lookup x = some .local := by first | exact .inl rfl | exact .inr rfl | assumption) :
    DS X κ (.AugAssign (.Name x pos') op e pos) (sAug i f sa) :=
  DS.of (ps_aug hN hi hx he ho hf) fun σ H ρ E R h => by
    have h : augK f i sa E ρ (ρ[i]? : Option Sl) := h
    cases e : (ρ[i]? : Option Sl) with
    | none => rw [e] at h; exact h.elim
    | some s =>
      rw [e] at h
      cases s with
      | val d =>
        cases d <;> first | exact (show False from h).elim | skip
        rename_i k
        obtain ⟨v, ev, z⟩ := R.ok i _ e
        cases z
        refine ⟨_, ev, goD R h fun y H1 r ρ1 R1 z1 f1 s1 ⟨j, er, h1⟩ => ?_⟩
        subst er
        cases (show Z X.K H1 y (.int j) from z1)
        exact ⟨k, j, rfl, rfl, _, R1.setv (.int _), R.ext f1, h1⟩
      | _ => exact (show False from h).elim
end
/-! ### defs -/
def startE (N : List Str) (ds : List D) : En := ds.map Sl.val ++ List.replicate (N.length - ds.length) .no
theorem start_rep {K : PySem.W.Frag} {N : List Str} {H : Hp} {TT : List NdefX.NTab} {vs : List V} {ds : List D} (z : ZA K H vs ds) (t : NdefX.TabsN TT H) : Rep K ⟨H, [], TT⟩ (startE N ds) (L2.start N vs) H := by
  have l := z.length
  have own : ∀ i p, ownAt (startE N ds) i ≠ some p := fun i p h => by
    unfold ownAt startE at h
    by_cases hi : i < ds.length
    · rw [List.getElem?_append_left (by rw [List.length_map]; exact hi), List.getElem?_map, List.getElem?_eq_getElem hi] at h
      cases h
    · rw [List.getElem?_append_right (by rw [List.length_map]; omega), List.getElem?_replicate] at h
      split at h
      · cases h
      · cases h
  refine ⟨by unfold startE L2.start; simp [l], fun i s e => ?_, fun i j p h => absurd h (own i p), fun i p h => absurd h (own i p), fun b o h _ _ => h, fun b o h => ⟨o, h⟩, t, fun i q l e => ?_⟩
  · unfold startE at e
    by_cases hi : i < ds.length
    · rw [List.getElem?_append_left (by rw [List.length_map]; exact hi), List.getElem?_map, List.getElem?_eq_getElem hi] at e
      cases e
      obtain ⟨v, h1, h2⟩ := z.get (List.getElem?_eq_getElem hi)
      refine ⟨v, ?_, h2⟩
      unfold L2.start
      rw [List.getElem?_append_left (by rw [List.length_map, l]; exact hi), List.getElem?_map, h1]
      rfl
    · rw [List.getElem?_append_right (by rw [List.length_map]; omega), List.getElem?_replicate] at e
      split at e
      · cases e; trivial
      · cases e
  · exfalso
    have : ownAt (startE N ds) i = some q := ownAt_of e
    exact own i q this
theorem Rep.kpt {K : PySem.W.Frag} {H0 H : Hp} {TT : List NdefX.NTab} {ρ : En} {σ : L2.St} (R : Rep K ⟨H0, [], TT⟩ ρ σ H) : Kpt H0 H := ⟨fun b o h n => R.ctx b o h n (fun h => nomatch h), R.dom⟩
section
variable {P : Program} {w : World} {K : PySem.W.Frag} {mg : Str → Option Value} {base : Heap}
/-- THE RULE for a def over data -/
theorem okD {x qual : Str} {st : Stmt} {f : Addr} {fd : FuncData} {N ps : List Str} {k : Nat} {φ : GL} (TT : List NdefX.NTab) (F : Fun K x qual st f fd) (S : FnScope N ps (defScope st)) (len : ∀ ds q, φ ds q → ds.length = ps.length)
    (hbody : ∀ (cdv : Value) (A : Around) (outer : List PySem.Env) (s : Shared) (H : Hp) (E : XK) (κ : Ktx), Room k (A.deeper (envOfC qual (defScope st) s.heap.objs.size f cdv)) → κ.TT = TT → ∀ ds q, φ ds q →
      ∃ t, DSs (cxOf CX0 P w K mg base N qual (defScope st) f cdv A outer s H E).nox κ (defBody st) t ∧ t { nx := fun _ => q .non, rt := fun d _ => q d } (startE N ds)) : FnOk P w K mg base CX0 (k + 1) f fd ps (spD K TT φ) := by
  refine F.ok S (fun vs H Q E ⟨ds, q, z, t, h, _⟩ => z.length.trans (len ds q h)) fun cdv A outer s H vs Q E hr ⟨ds, q, z, t, h, kq⟩ => ?_
  obtain ⟨tm, hd, hs⟩ := hbody cdv A outer s H E ⟨H, [], TT⟩ hr rfl ds q h
  refine ⟨_, hd, startE N ds, _, start_rep z t, hs, ⟨fun σ H' ⟨ρ, R, x, hq⟩ => kq _ _ _ R.kpt R.tab .non hq, fun v H' ⟨d, ρ, σ, R, x, zv, hq⟩ => kq _ _ _ R.kpt R.tab zv hq, fun σ H' ⟨_, _, _, hq⟩ => hq, fun σ H' ⟨_, _, _, hq⟩ => hq⟩⟩
end
end DL

set_option Elab.async false
set_option linter.all false
set_option maxRecDepth 100000
set_option maxHeartbeats 4000000
namespace DL
open PySem PySem.Spec PyProof.Rows L2 E
/-! ### a walk over anything -/
def iAny (K : PySem.W.Frag) (tl : TE) : TI := fun σ H R => tl σ H fun x H1 => (∃ a, x = .ref a ∧ (∃ xs, SqL K H1 a xs) ∧ R (Itl K a) H1) ∨ (∃ a, x = .ref a ∧ (∃ xs, SqT K H1 a xs) ∧ R (Itt K a) H1) ∨ (∃ z, x = .str z ∧ R (Its z) H1) ∨ ∃ d o kvs, x = .ref d ∧ H1 d = some (.frz o (.dK kvs)) ∧ R (Itk d o kvs) H1
section
variable {X : Cx} {tg : Expr}
theorem pi_any {l : Expr} {tl : TE} (hl : PE X l tl) : PI X tg l (iAny X.K tl) := by
  refine ⟨fun pins s σ H R I h => ?_⟩
  refine thn (hl.run pins s σ H _ I h) fun v s1 ⟨x, H1, I1, r1, q1⟩ => ?_
  rcases q1 with ⟨a, e, ⟨xs, hq⟩, q⟩ | ⟨a, e, ⟨xs, hq⟩, q⟩ | ⟨z, ex, q⟩ | ⟨d, o, kvs, ex, hd, q⟩
  · subst e
    cases r1
    obtain ⟨its, rv, p, hz⟩ := I1.list hq
    refine wpAny_pyIter_list p.isList ?_
    refine ⟨s1.heap.objs.size, [s1.heap.objs.size], _, _, H1, rfl, I1.kept (t' := s1.toks) fun b o e => Heap.get?_push_of_some _ e, turn_list a _, ⟨_, Heap.get?_push_size _ rfl, rfl, rfl⟩, fun b hb => ?_, q⟩
    have e : b = s1.heap.objs.size := by simpa using hb
    subst e
    exact I1.fpOk (Nat.le_refl _) (I1.hok.fresh (Nat.le_refl _))
  · subst e
    cases r1
    obtain ⟨its, rv, p, hz⟩ := I1.tuple hq
    refine wpAny_pyIter_tuple (show s1.heap.IsTuple a its.toArray from p) ?_
    refine ⟨s1.heap.objs.size, [s1.heap.objs.size], _, _, H1, rfl, I1.kept (t' := s1.toks) fun b o e => Heap.get?_push_of_some _ e, turn_tuple a _, ⟨_, Heap.get?_push_size _ rfl, rfl, rfl⟩, fun b hb => ?_, q⟩
    have e : b = s1.heap.objs.size := by simpa using hb
    subst e
    exact I1.fpOk (Nat.le_refl _) (I1.hok.fresh (Nat.le_refl _))
  · subst ex
    obtain ⟨t, rfl⟩ := r1
    cases ha : z.cps.all (· < 128)
    · exact wpAny_pyIter_wide ha (pi_one (tk := s1.toks) I1 _ (turn_str _ z t "str_iterator" (.inr rfl)) ⟨_, Heap.get?_push_size _ rfl, rfl, rfl⟩ q)
    · exact wpAny_pyIter_ascii ha (pi_one (tk := s1.toks) I1 _ (turn_str _ z t "str_ascii_iterator" (.inl rfl)) ⟨_, Heap.get?_push_size _ rfl, rfl, rfl⟩ q)
  · subst ex
    obtain rfl : v = Value.ref d := r1
    obtain ⟨hs, hgd, hx, es, ep, vs, hdt, hsz, kv, hm⟩ := I1.frzK hd
    refine iter_keys hs hgd hx hdt (pi_one (tk := s1.toks) I1 _ (turn_keys _ hdt) ⟨_, Heap.get?_push_size _ rfl, rfl, ?_⟩ q)
    rw [hsz] <;> rfl
end
section
variable {K : PySem.W.Frag} {κ : Ktx} {sa : DE} {sA : DAa}
def chD (z : Str) : List D := z.cps.toList.map fun c => .str ⟨#[c]⟩
/-- a list, a tuple, a text, the keys of a dict -/
def iA (sa : DE) : DIt := fun ρ Q => sa ρ fun r ρ1 => match r with
  | .v (.lst xs) => Q xs keepAll ρ1
  | .v (.tup xs) => Q xs keepAll ρ1
  | .v (.str z) => Q (chD z) keepAll ρ1
  | .v (.dct kvs) => Q (kvs.map fun kv => keyD kv.1) keepAll ρ1
  | .o p i => resK ρ1 (.o p i) fun d => ∃ xs, d = .lst xs ∧ Q xs (fun ρ' => (ρ'[i]? : Option Sl) = some (.ls p xs)) ρ1
  | _ => False
theorem src_str {z : Str} : Src K (Its z) (chD z) (fun _ => True) where
  go := fun i H hi _ => by
    unfold chD at hi
    rw [List.length_map, Array.length_toList] at hi
    exact hi
  stop := fun H _ => by
    unfold chD
    rw [List.length_map, Array.length_toList]
    exact Nat.le_refl _
  yld := fun i H x H' _ ⟨e, c, hc, ex⟩ => by
    subst e ex
    refine ⟨L2.Same.refl _, fun d hd => ?_⟩
    unfold chD at hd
    rw [List.getElem?_map, Array.getElem?_toList, hc] at hd
    cases hd
    exact .str _
theorem zkey (k : Key) {H : Hp} : Z K H (kV k) (keyD k) := by
  cases k with
  | inl i => exact .int i
  | inr x => exact .str x
theorem ZK.at_ {H : Hp} {vs : List (Key × V)} {ds : List (Key × D)} (h : ZK K H vs ds) : ∀ {i : Nat} {k : Key} {v : V}, vs[i]? = some (k, v) → ∃ d, ds[i]? = some (k, d) ∧ Z K H v d := by
  intro i k v e
  induction vs generalizing ds i with
  | nil => cases e
  | cons p vs ih =>
    cases h with
    | cons h t =>
      cases i with
      | zero => cases e; exact ⟨_, rfl, h⟩
      | succ i => exact ih t (by simpa using e)
theorem src_keys {d : Addr} {o : Obj} {vs : List (Key × V)} {ds : List (Key × D)} : Src K (Itk d o vs) (ds.map fun kv => keyD kv.1) (fun H => H d = some (.frz o (.dK vs)) ∧ ZK K H vs ds) where
  go := fun i H hi ⟨h, l⟩ => ⟨h, by rw [l.length]; rw [List.length_map] at hi; exact hi⟩
  stop := fun H ⟨h, l⟩ => ⟨h, by rw [l.length, List.length_map]; exact Nat.le_refl _⟩
  yld := fun i H x H' ⟨h, l⟩ ⟨e, k, v, hk, ex⟩ => by
    subst e ex
    refine ⟨L2.Same.refl _, fun d hd => ?_⟩
    obtain ⟨d2, h2, _⟩ := l.at_ hk
    rw [List.getElem?_map, h2] at hd
    cases hd
    exact zkey k
theorem it_any : ItOk K κ (iAny K (tD K κ sa)) (iA sa) := fun σ H ρ Q R Rp h k => goD Rp h fun v H1 r ρ1 R1 z1 f1 s1 h1 => by
  cases r with
  | v d =>
    cases d <;> first | exact (show False from h1).elim | skip
    case lst xs =>
      cases (show Z K H1 v (.lst xs) from z1) with
      | @lst a vs _ h2 l =>
        exact .inl ⟨a, rfl, ⟨vs, h2.sq⟩, k _ _ xs keepAll H1 ρ1 R1 f1 s1 src_list ⟨vs, h2.sq, l⟩ (fun ρ' σ' H' _ x _ => ⟨vs, (h2.mono x).sq, l.mono x⟩) h1⟩
    case tup xs =>
      obtain ⟨a, vs, rfl, h2, l⟩ := Rv.tup (Rv.of z1)
      exact .inr (.inl ⟨a, rfl, ⟨vs, h2⟩, k _ _ xs keepAll H1 ρ1 R1 f1 s1 src_tup ⟨vs, h2, l⟩ (fun ρ' σ' H' _ x _ => ⟨vs, x.sqT h2, l.mono x⟩) h1⟩)
    case str z =>
      have e := (Rv.of z1).str
      subst e
      exact .inr (.inr (.inl ⟨z, rfl, k _ _ _ keepAll H1 ρ1 R1 f1 s1 src_str trivial (fun _ _ _ _ _ _ => trivial) h1⟩))
    case dct kvs =>
      cases (show Z K H1 v (.dct kvs) from z1) with
      | @dct a vs _ h2 l =>
        obtain ⟨o, h2⟩ := h2
        exact .inr (.inr (.inr ⟨a, o, vs, rfl, h2, k _ _ _ keepAll H1 ρ1 R1 f1 s1 src_keys ⟨h2, l⟩ (fun ρ' σ' H' _ x _ => ⟨x _ _ h2 trivial, l.mono x⟩) h1⟩))
  | o p i =>
    have e : v = .ref p := z1
    subst e
    obtain ⟨d, v1, xs, rfl, q⟩ := R1.res (v := .ref p) (r := .o p i) rfl h1
    obtain ⟨a, vs, e, h2, l⟩ := v1
    cases e
    exact .inl ⟨p, rfl, ⟨vs, h2⟩, k _ _ xs _ H1 ρ1 R1 f1 s1 src_list ⟨vs, h2, l⟩ (fun ρ' σ' H' Rp' x e => by
      obtain ⟨_, us, h3, l3⟩ := Rp'.ok i _ e
      exact ⟨us, SqL.of h3, l3⟩) q⟩
/-! ### enumerate, zip, reversed; items, values, keys -/
def enD : Nat → List D → List D
  | _, [] => []
  | n, d :: ds => .tup [.int n, d] :: enD (n + 1) ds
theorem enD_len : ∀ (n : Nat) (ds : List D), (enD n ds).length = ds.length
  | _, [] => rfl
  | n, d :: ds => by rw [enD, List.length_cons, List.length_cons, enD_len]
theorem enD_get : ∀ (n : Nat) (ds : List D) (i : Nat), (enD n ds)[i]? = (ds[i]?).map fun d => .tup [.int ((n + i : Nat) : Int), d]
  | _, [], i => by rw [enD]; simp
  | n, d :: ds, 0 => by rw [enD]; simp
  | n, d :: ds, i + 1 => by
    rw [enD, List.getElem?_cons_succ, List.getElem?_cons_succ, enD_get (n + 1) ds i, show n + 1 + i = n + (i + 1) by omega]
theorem ztup2 {H : Hp} {T : Addr} {v u : V} {d e : D} (h : H T = some (.tup [v, u])) (z1 : Z K H v d) (z2 : Z K H u e) : Z K H (.ref T) (.tup [d, e]) := .tup (SqT.of h) (.cons z1 (.cons z2 .nil)) fun _ _ => h
theorem src_enum {a : Addr} {xs : List D} : Src K (Ite K a) (enD 0 xs) (fun H => ∃ vs, SqL K H a vs ∧ ZA K H vs xs) where
  go := fun i H hi ⟨vs, h, l⟩ => by
    rw [enD_len] at hi
    obtain ⟨v, h1, _⟩ := l.get (List.getElem?_eq_getElem hi)
    exact ⟨vs, v, h, h1⟩
  stop := fun H ⟨vs, h, l⟩ => ⟨vs, h, by rw [enD_len]; exact Nat.le_of_eq l.length⟩
  yld := fun i H x H' ⟨vs, h, l⟩ ⟨T, y, ex, nT, eH, y2⟩ => by
    subst ex eH
    have sm := same_new (o := .tup [.int (i : Nat), y]) nT
    refine ⟨sm, fun d hd => ?_⟩
    rw [enD_get, Nat.zero_add] at hd
    cases e : xs[i]? with
    | none => rw [e] at hd; cases hd
    | some d0 =>
      rw [e] at hd
      cases hd
      obtain ⟨v, h1, z⟩ := l.get e
      have := y2 vs h
      rw [h1] at this
      cases this
      exact ztup2 upd_same (.int _) (z.mono (Ext.same sm))
def lstK (ρ : En) (r : Rs) (k : List D → (En → Prop) → Prop) : Prop := match r with
  | .v (.lst xs) => k xs keepAll
  | .o p i => resK ρ (.o p i) fun d => ∃ xs, d = .lst xs ∧ k xs (fun ρ' => (ρ'[i]? : Option Sl) = some (.ls p xs))
  | _ => False
theorem lstK_of {ρ : En} {σ : L2.St} {H : Hp} {r : Rs} {k : List D → (En → Prop) → Prop} {v : V} (R : Rep K κ ρ σ H) (z : ZR K H v r) (h : lstK ρ r k) : ∃ a vs xs kp, v = .ref a ∧ SqL K H a vs ∧ ZA K H vs xs ∧ k xs kp ∧ ∀ ρ' σ' H', Rep K κ ρ' σ' H' → Ext H H' → kp ρ' → ∃ us, SqL K H' a us ∧ ZA K H' us xs := by
  cases r with
  | v d =>
    cases d <;> first | exact (show False from h).elim | skip
    rename_i xs
    cases (show Z K H v (.lst xs) from z) with
    | @lst a vs _ h2 l => exact ⟨a, vs, xs, keepAll, rfl, h2.sq, l, h, fun ρ' σ' H' _ x _ => ⟨vs, (h2.mono x).sq, l.mono x⟩⟩
  | o p i =>
    have e : v = .ref p := z
    subst e
    have h : resK ρ (.o p i) (fun d => ∃ xs, d = .lst xs ∧ k xs (fun ρ' => (ρ'[i]? : Option Sl) = some (.ls p xs))) := h
    obtain ⟨d, v1, xs, rfl, q⟩ := R.res (v := .ref p) (r := .o p i) rfl h
    obtain ⟨a, vs, e, h2, l⟩ := v1
    cases e
    exact ⟨p, vs, xs, _, rfl, h2, l, q, fun ρ' σ' H' Rp' x e => by
      obtain ⟨_, us, h3, l3⟩ := Rp'.ok i _ e
      exact ⟨us, SqL.of h3, l3⟩⟩
def iE (sA : DAa) : DIt := fun ρ Q => sA ρ fun rs ρ1 => match rs with
  | [r] => lstK ρ1 r fun xs kp => Q (enD 0 xs) kp ρ1
  | _ => False
theorem it_enum : ItOk K κ (iEnum K (tA K κ sA)) (iE sA) := fun σ H ρ Q R Rp h k => goA Rp h fun vs H1 rs ρ1 R1 z1 f1 s1 h1 => by
  match rs, z1, h1 with
  | [r], .cons (v := v) z .nil, h1 =>
    obtain ⟨a, us, xs, kp, rfl, h2, l, q, per⟩ := lstK_of R1 z h1
    exact ⟨a, us, rfl, h2, k _ _ _ kp H1 ρ1 R1 f1 s1 src_enum ⟨us, h2, l⟩ per q⟩
def zipD : List D → List D → List D
  | [], _ => []
  | _ :: _, [] => []
  | x :: xs, y :: ys => .tup [x, y] :: zipD xs ys
theorem zipD_get : ∀ (xs ys : List D) (i : Nat), (zipD xs ys)[i]? = match xs[i]?, ys[i]? with | some x, some y => some (.tup [x, y]) | _, _ => none
  | [], ys, i => by rw [zipD]; simp
  | x :: xs, [], i => by rw [zipD]; cases (x :: xs)[i]? <;> simp
  | x :: xs, y :: ys, 0 => by rw [zipD]; rfl
  | x :: xs, y :: ys, i + 1 => by
    rw [zipD, List.getElem?_cons_succ, List.getElem?_cons_succ, List.getElem?_cons_succ]
    exact zipD_get xs ys i
theorem zipD_len : ∀ (xs ys : List D), (zipD xs ys).length = min xs.length ys.length
  | [], ys => by rw [zipD]; simp
  | x :: xs, [] => by rw [zipD]; simp
  | x :: xs, y :: ys => by rw [zipD, List.length_cons, List.length_cons, List.length_cons, zipD_len xs ys]; omega
theorem src_zip {a b : Addr} {xs ys : List D} : Src K (Itz K a b) (zipD xs ys) (fun H => (∃ vs, SqL K H a vs ∧ ZA K H vs xs) ∧ ∃ us, SqL K H b us ∧ ZA K H us ys) where
  go := fun i H hi ⟨⟨vs, h, l⟩, us, h', l'⟩ => by
    rw [zipD_len] at hi
    obtain ⟨v, h1, _⟩ := l.get (List.getElem?_eq_getElem (show i < xs.length by omega))
    obtain ⟨u, h2, _⟩ := l'.get (List.getElem?_eq_getElem (show i < ys.length by omega))
    exact ⟨vs, us, v, u, h, h', h1, h2⟩
  stop := fun H ⟨⟨vs, h, l⟩, us, h', l'⟩ => ⟨vs, us, h, h', by rw [zipD_len, l.length, l'.length]; omega⟩
  yld := fun i H x H' ⟨⟨vs, h, l⟩, us, h', l'⟩ ⟨T, y, w, ex, nT, eH, y1, y2⟩ => by
    subst ex eH
    have sm := same_new (o := .tup [y, w]) nT
    refine ⟨sm, fun d hd => ?_⟩
    rw [zipD_get] at hd
    cases e : xs[i]? with
    | none => rw [e] at hd; cases hd
    | some d0 =>
      cases e' : ys[i]? with
      | none => rw [e, e'] at hd; cases hd
      | some d1 =>
        rw [e, e'] at hd
        cases hd
        obtain ⟨v, h1, z⟩ := l.get e
        obtain ⟨u, h2, z'⟩ := l'.get e'
        have := y1 vs h
        rw [h1] at this
        cases this
        have := y2 us h'
        rw [h2] at this
        cases this
        exact ztup2 upd_same (z.mono (Ext.same sm)) (z'.mono (Ext.same sm))
def iZ (sA : DAa) : DIt := fun ρ Q => sA ρ fun rs ρ1 => match rs with
  | [r, r'] => lstK ρ1 r fun xs kp => lstK ρ1 r' fun ys kp' => Q (zipD xs ys) (fun ρ' => kp ρ' ∧ kp' ρ') ρ1
  | _ => False
theorem it_zip : ItOk K κ (iZip K (tA K κ sA)) (iZ sA) := fun σ H ρ Q R Rp h k => goA Rp h fun vs H1 rs ρ1 R1 z1 f1 s1 h1 => by
  match rs, z1, h1 with
  | [r, r'], .cons (v := v) z (.cons (v := v') z' .nil), h1 =>
    obtain ⟨a, us, xs, kp, rfl, h2, l, q, per⟩ := lstK_of R1 z h1
    obtain ⟨b, ws, ys, kp', rfl, h3, l', q, per'⟩ := lstK_of R1 z' q
    exact ⟨a, b, us, ws, rfl, h2, h3, k _ _ _ (fun ρ' => kp ρ' ∧ kp' ρ') H1 ρ1 R1 f1 s1 src_zip ⟨⟨us, h2, l⟩, ws, h3, l'⟩ (fun ρ' σ' H' a b c => ⟨per ρ' σ' H' a b c.1, per' ρ' σ' H' a b c.2⟩) q⟩
theorem src_rev {a : Addr} {xs : List D} : Src K (Itv K a xs.length) xs.reverse (fun H => ∃ vs, SqL K H a vs ∧ ZA K H vs xs) where
  go := fun i H hi ⟨vs, h, l⟩ => by
    rw [List.length_reverse] at hi
    obtain ⟨v, h1, _⟩ := l.get (List.getElem?_eq_getElem (show xs.length - 1 - i < xs.length by omega))
    exact ⟨hi, vs, v, h, h1⟩
  stop := fun H _ => by rw [List.length_reverse]; exact Nat.le_refl _
  yld := fun i H x H' ⟨vs, h, l⟩ ⟨e, y⟩ => by
    subst e
    refine ⟨L2.Same.refl _, fun d hd => ?_⟩
    have hi : i < xs.length := by
      have := (List.getElem?_eq_some_iff.mp hd).1
      rw [List.length_reverse] at this
      exact this
    rw [List.getElem?_reverse hi] at hd
    obtain ⟨v, h1, z⟩ := l.get hd
    have := y vs h
    rw [h1] at this
    cases this
    exact z
def iRv (sA : DAa) : DIt := fun ρ Q => sA ρ fun rs ρ1 => match rs with
  | [r] => lstK ρ1 r fun xs kp => Q xs.reverse kp ρ1
  | _ => False
theorem it_rev : ItOk K κ (iRev K (tA K κ sA)) (iRv sA) := fun σ H ρ Q R Rp h k => goA Rp h fun vs H1 rs ρ1 R1 z1 f1 s1 h1 => by
  match rs, z1, h1 with
  | [r], .cons (v := v) z .nil, h1 =>
    obtain ⟨a, us, xs, kp, rfl, h2, l, q, per⟩ := lstK_of R1 z h1
    refine ⟨a, us, rfl, h2, ?_⟩
    rw [l.length]
    exact k _ _ _ kp H1 ρ1 R1 f1 s1 src_rev ⟨us, h2, l⟩ per q
def itmD (kv : Key × D) : D := .tup [keyD kv.1, kv.2]
theorem src_items {d : Addr} {o : Obj} {vs : List (Key × V)} {ds : List (Key × D)} : Src K (Iti d o vs) (ds.map itmD) (fun H => H d = some (.frz o (.dK vs)) ∧ ZK K H vs ds) where
  go := fun i H hi ⟨h, l⟩ => ⟨h, by rw [l.length]; rw [List.length_map] at hi; exact hi⟩
  stop := fun H ⟨h, l⟩ => ⟨h, by rw [l.length, List.length_map]; exact Nat.le_refl _⟩
  yld := fun i H x H' ⟨h, l⟩ ⟨T, k, v, hk, ex, nT, eH⟩ => by
    subst ex eH
    have sm := same_new (o := .tup [kV k, v]) nT
    refine ⟨sm, fun d hd => ?_⟩
    obtain ⟨d2, h2, z⟩ := l.at_ hk
    rw [List.getElem?_map, h2] at hd
    cases hd
    exact ztup2 upd_same (zkey k) (z.mono (Ext.same sm))
theorem src_vals {d : Addr} {o : Obj} {vs : List (Key × V)} {ds : List (Key × D)} : Src K (Itd d o vs) (ds.map (·.2)) (fun H => H d = some (.frz o (.dK vs)) ∧ ZK K H vs ds) where
  go := fun i H hi ⟨h, l⟩ => ⟨h, by rw [l.length]; rw [List.length_map] at hi; exact hi⟩
  stop := fun H ⟨h, l⟩ => ⟨h, by rw [l.length, List.length_map]; exact Nat.le_refl _⟩
  yld := fun i H x H' ⟨h, l⟩ ⟨e, k, hk⟩ => by
    subst e
    refine ⟨L2.Same.refl _, fun d hd => ?_⟩
    obtain ⟨d2, h2, z⟩ := l.at_ hk
    rw [List.getElem?_map, h2] at hd
    cases hd
    exact z
def iDc (f : List (Key × D) → List D) (sa : DE) : DIt := fun ρ Q => sa ρ fun r ρ1 => match r with
  | .v (.dct kvs) => Q (f kvs) keepAll ρ1
  | _ => False
theorem it_items : ItOk K κ (iItems (tD K κ sa)) (iDc (·.map itmD) sa) := fun σ H ρ Q R Rp h k => goD Rp h fun v H1 r ρ1 R1 z1 f1 s1 h1 => by
  cases r with
  | o p i => exact (show False from h1).elim
  | v d =>
    cases d <;> first | exact (show False from h1).elim | skip
    rename_i kvs
    cases (show Z K H1 v (.dct kvs) from z1) with
    | @dct a vs _ h2 l =>
      obtain ⟨o, h2⟩ := h2
      exact ⟨a, o, vs, rfl, h2, k _ _ _ keepAll H1 ρ1 R1 f1 s1 src_items ⟨h2, l⟩ (fun ρ' σ' H' _ x _ => ⟨x _ _ h2 trivial, l.mono x⟩) h1⟩
theorem it_values : ItOk K κ (iVals (tD K κ sa)) (iDc (·.map (·.2)) sa) := fun σ H ρ Q R Rp h k => goD Rp h fun v H1 r ρ1 R1 z1 f1 s1 h1 => by
  cases r with
  | o p i => exact (show False from h1).elim
  | v d =>
    cases d <;> first | exact (show False from h1).elim | skip
    rename_i kvs
    cases (show Z K H1 v (.dct kvs) from z1) with
    | @dct a vs _ h2 l =>
      obtain ⟨o, h2⟩ := h2
      exact ⟨a, o, vs, rfl, h2, k _ _ _ keepAll H1 ρ1 R1 f1 s1 src_vals ⟨h2, l⟩ (fun ρ' σ' H' _ x _ => ⟨x _ _ h2 trivial, l.mono x⟩) h1⟩
end
/-! ### dicts, read -/
section
variable {X : Cx} {κ : Ktx} {i : Nat} {x : Str} {p pos pos' apos cpos : Pos} {a b c e f o : Expr} {es : List Expr} {sa sb sc : DE} {sA : DAa}
/-- d[k] -/
def sDg (sa sb : DE) : DE := fun ρ Q => sa ρ fun r ρ1 => sb ρ1 fun r' ρ2 => resK ρ2 r fun d => resK ρ2 r' fun k' => match d with
  | .dct kvs => ∃ k z, toKey k' = some k ∧ findK kvs k = some z ∧ Q (.v z) ρ2
  | _ => False
theorem dx_dget (hu : X.A.units + 1 < cLine) (ha : DX X κ a sa) (hb : DX X κ b sb) (hs : NoSl b) : DX X κ (.Subscript a b pos) (sDg sa sb) :=
  DX.of (pe_dget hu ha hb hs) fun σ H ρ Q R h => goD R h fun v H1 r ρ1 R1 z1 f1 s1 h1 => goD R1 h1 fun y H2 r' ρ2 R2 z2 f2 s2 h2 => by
    obtain ⟨d, v1, h3⟩ := R2.res (z1.mono (R1.ext f2)) h2
    obtain ⟨k', v2, h4⟩ := R2.res z2 h3
    cases d <;> first | exact (show False from h4).elim | skip
    obtain ⟨k, z, e1, e2, q⟩ := h4
    obtain ⟨ad, ks, rfl, rd, zk⟩ := v1
    rcases zk_find zk k with ⟨v, d, e3, e4, zz⟩ | ⟨_, e4⟩
    · rw [e2] at e4
      cases e4
      exact ⟨ad, v, rfl, .inl ⟨ks, k, rd, key_of v2 e1, e3.symm⟩, .v z, ρ2, R2, zz, f1.trans s1 f2, s2.trans s1, q⟩
    · rw [e2] at e4
      cases e4
/-- d.get(k), d.get(k, x) -/
def sDg1 (sa sb : DE) : DE := fun ρ Q => sa ρ fun r ρ1 => sb ρ1 fun r' ρ2 => valK r fun d => resK ρ2 r' fun k' => match d with
  | .dct kvs => ∃ k, toKey k' = some k ∧ Q (.v ((findK kvs k).getD .non)) ρ2
  | _ => False
def sDg2 (sa sb sc : DE) : DE := fun ρ Q => sa ρ fun r ρ1 => sb ρ1 fun r' ρ2 => sc ρ2 fun r2 ρ3 => valK r fun d => resK ρ3 r' fun k' => valK r2 fun z => match d with
  | .dct kvs => ∃ k, toKey k' = some k ∧ Q (.v ((findK kvs k).getD z)) ρ3
  | _ => False
theorem isD_of {K : PySem.W.Frag} {H : Hp} {v : V} {r : Rs} {k : D → Prop} (z : ZR K H v r) (h : valK r k) (hk : ∀ d, k d → ∃ kvs, d = .dct kvs) : ∃ a ks kvs, r = .v (.dct kvs) ∧ v = .ref a ∧ Rd H a (.dK ks) ∧ ZK K H ks kvs ∧ k (.dct kvs) := by
  cases r with
  | o p i => exact (show False from h).elim
  | v d =>
    obtain ⟨kvs, rfl⟩ := hk d h
    cases (show Z K H v (.dct kvs) from z) with
    | @dct a vs _ h2 l => exact ⟨a, vs, kvs, rfl, rfl, .inr h2, l, h⟩
end
end DL

set_option Elab.async false
set_option linter.all false
set_option maxRecDepth 100000
set_option maxHeartbeats 2000000
namespace DL
open E PySem PySem.Spec PyProof.Rows L2
section
variable {K : PySem.W.Frag} {κ : Ktx}
def gNegI : G1 := fun d q => match d with
  | .int i => q (.int (-i))
  | _ => False
theorem ua_neg : UA K (rU fun i => V.int (-i)) gNegI := ⟨fun H x d q Q hx hg k => by
  cases d with
  | int i => exact ⟨i, Rv.int hx, k _ _ _ (L2.Same.refl _) (.inl (.int _)) hg⟩
  | _ => exact (show False from hg).elim⟩
/-! ### loops and comprehensions, with what holds between the turns -/
/-- a loop: what holds ahead of each turn -/
theorem forW_inv {gd : GT} {body : DSt} {E : DEnds} {kp : En → Prop} (Iv : Nat → En → Prop) (xs : List D) (ρ : En) (h0 : Iv 0 ρ)
    (step : ∀ (i : Nat) (x : D) (ρ : En) (E' : DEnds), xs[i]? = some x → Iv i ρ → (∀ ρ2, Iv (i + 1) ρ2 → kp ρ2 → E'.nx ρ2 ∧ E'.ct ρ2) → E'.bk = E.nx → E'.rt = E.rt → gd x ρ fun ρ1 => body E' ρ1)
    (kpI : ∀ i ρ, Iv i ρ → kp ρ) (done : ∀ ρ, Iv xs.length ρ → E.nx ρ) : forW gd body E kp xs ρ := by
  have key : ∀ (ys : List D) (i : Nat) (ρ : En), xs.drop i = ys → Iv i ρ → i ≤ xs.length → forW gd body E kp ys ρ := by
    intro ys
    induction ys with
    | nil =>
      intro i ρ e h hi
      have : xs.length ≤ i := by
        have := congrArg List.length e
        rw [List.length_drop] at this
        simp at this
        omega
      have e2 : i = xs.length := by omega
      subst e2
      exact done ρ h
    | cons y ys ih =>
      intro i ρ e h hi
      have hx : xs[i]? = some y := by
        have := congrArg (fun l => l[0]?) e
        simpa [List.getElem?_drop] using this
      have hi2 : i < xs.length := (List.getElem?_eq_some_iff.mp hx).1
      have e3 : xs.drop (i + 1) = ys := by
        have := congrArg (List.drop 1) e
        rw [List.drop_drop] at this
        exact this
      exact step i y ρ _ hx h (fun ρ2 h2 k2 => ⟨⟨k2, ih (i + 1) ρ2 e3 h2 (by omega)⟩, ⟨k2, ih (i + 1) ρ2 e3 h2 (by omega)⟩⟩) rfl rfl
  exact key xs 0 ρ rfl h0 (Nat.zero_le _)
theorem compW_fm {α : Type} {gd : GT} {st : DTt} {se : DE} {ρw : En} (f g : α → D) (tt : α → Bool) : ∀ (xs : List α) (acc : List D) (Q : List D → Prop),
    (∀ x ∈ xs, ∀ (k : D → Prop) (k0 : Prop), (tt x = true → k (g x)) → (tt x = false → k0) → gd (f x) ρw fun ρ2 => st ρ2 fun b ρ3 => ρ3 = ρ2 ∧ if b = true then se ρ2 fun r ρ4 => ρ4 = ρ2 ∧ valK r k else k0) →
    Q (acc ++ (xs.filter tt).map g) → compW gd st se ρw (xs.map f) acc Q
  | [], acc, Q, _, h => by
    simp only [List.filter_nil, List.map_nil, List.append_nil] at h
    exact h
  | x :: xs, acc, Q, step, h => by
    refine step x List.mem_cons_self _ _ (fun e => ?_) (fun e => ?_)
    · refine compW_fm f g tt xs _ Q (fun y hy => step y (List.mem_cons_of_mem _ hy)) ?_
      rw [List.filter_cons, e] at h
      rw [List.append_assoc]
      exact h
    · refine compW_fm f g tt xs _ Q (fun y hy => step y (List.mem_cons_of_mem _ hy)) ?_
      rw [List.filter_cons, e] at h
      exact h
/-- a comprehension without a test -/
theorem compW_map {α : Type} {gd : GT} {se : DE} {ρw : En} (f g : α → D) (xs : List α) (acc : List D) (Q : List D → Prop)
    (step : ∀ x ∈ xs, ∀ (k : D → Prop), k (g x) → gd (f x) ρw fun ρ2 => se ρ2 fun r ρ4 => ρ4 = ρ2 ∧ valK r k)
    (h : Q (acc ++ xs.map g)) : compW gd sYes se ρw (xs.map f) acc Q := by
  revert acc
  induction xs with
  | nil =>
    intro acc h
    rw [List.map_nil, List.append_nil] at h
    exact h
  | cons x xs ih =>
    intro acc h
    have key : (fun ρ2 => sYes ρ2 fun b ρ3 => ρ3 = ρ2 ∧ if b = true then se ρ2 fun r ρ4 => ρ4 = ρ2 ∧ valK r fun d => compW gd sYes se ρw (xs.map f) (acc ++ [d]) Q else compW gd sYes se ρw (xs.map f) acc Q) = fun ρ2 => se ρ2 fun r ρ4 => ρ4 = ρ2 ∧ valK r fun d => compW gd sYes se ρw (xs.map f) (acc ++ [d]) Q := by
      funext ρ2
      unfold sYes
      simp
    show gd (f x) ρw _
    rw [key]
    refine step x List.mem_cons_self _ ?_
    refine ih (fun y hy => step y (List.mem_cons_of_mem _ hy)) _ ?_
    rw [List.append_assoc]
    exact h
end
/-! ### d.get(k), d.get(k, z) -/
section
variable {X : Cx} {κ : Ktx} {apos cpos : Pos} {e f o : Expr} {sa sb sc : DE}
def sGet1 (sa sb : DE) : DE := fun ρ Q => sa ρ fun r ρ1 => ∃ kvs, r = .v (.dct kvs) ∧ sb ρ1 fun r' ρ2 => resK ρ2 r' fun k' => ∃ k, toKey k' = some k ∧ Q (.v ((findK kvs k).getD .non)) ρ2
def sGet2 (sa sb sc : DE) : DE := fun ρ Q => sa ρ fun r ρ1 => ∃ kvs, r = .v (.dct kvs) ∧ sb ρ1 fun r' ρ2 => sc ρ2 fun r2 ρ3 => resK ρ3 r' fun k' => valK r2 fun z => ∃ k, toKey k' = some k ∧ Q (.v ((findK kvs k).getD z)) ρ3
theorem isD_dct {K : PySem.W.Frag} {H : Hp} {v : V} {kvs : List (Key × D)} (z : ZR K H v (.v (.dct kvs))) : ∃ a ks o, v = .ref a ∧ H a = some (.frz o (.dK ks)) ∧ ZK K H ks kvs := by
  cases (show Z K H v (.dct kvs) from z) with
  | @dct a vs _ h2 l =>
    obtain ⟨o, h⟩ := h2
    exact ⟨a, vs, o, rfl, h, l⟩
theorem dx_dget1 (hu : X.A.units + 1 < cLine) (ha : DX X κ o sa) (hb : DX X κ e sb) (m : M1 X o "get" apos e cpos) : DX X κ (.Call (.Attribute o "get" apos) [e] [] cpos) (sGet1 sa sb) :=
  DX.of (pe_dget1 hu ha hb m) fun σ H ρ Q R h => goD R h fun v H1 r ρ1 R1 z1 f1 s1 ⟨kvs, er, h1⟩ => by
    subst er
    obtain ⟨a, ks, o, rfl, h2, zk⟩ := isD_dct z1
    refine ⟨a, rfl, .inl ⟨ks, .inr ⟨o, h2⟩⟩, goD R1 h1 fun y H2 r' ρ2 R2 z2 f2 s2 h2' => ?_⟩
    obtain ⟨k', v2, k, ek, q⟩ := R2.res z2 h2'
    have x := R1.ext f2
    refine ⟨valV ks k, .inl ⟨ks, k, .inr ⟨o, x _ _ h2 trivial⟩, key_of v2 ek, rfl⟩, .v ((findK kvs k).getD .non), ρ2, R2, ?_, f1.trans s1 f2, s2.trans s1, q⟩
    rcases zk_find (zk.mono x) k with ⟨v, d, e3, e4, zz⟩ | ⟨e3, e4⟩
    · rw [e3, e4]
      exact zz
    · rw [e3, e4]
      exact .non
theorem dx_dget2 (hu : X.A.units + 1 < cLine) (ha : DX X κ o sa) (hb : DX X κ e sb) (hc : DX X κ f sc) (m : M2 X o "get" apos e f cpos) : DX X κ (.Call (.Attribute o "get" apos) [e, f] [] cpos) (sGet2 sa sb sc) :=
  DX.of (pe_dget2 hu ha hb hc m) fun σ H ρ Q R h => goD R h fun v H1 r ρ1 R1 z1 f1 s1 ⟨kvs, er, h1⟩ => by
    subst er
    obtain ⟨a, ks, o, rfl, h2, zk⟩ := isD_dct z1
    refine ⟨a, rfl, .inl ⟨ks, .inr ⟨o, h2⟩⟩, goD R1 h1 fun y H2 r' ρ2 R2 z2 f2 s2 h2' => goD R2 h2' fun z H3 r2 ρ3 R3 z3 f3 s3 h3 => ?_⟩
    obtain ⟨k', v2, h4⟩ := R3.res (z2.mono (R2.ext f3)) h3
    obtain ⟨dz, zz, k, ek, q⟩ := val_of z3 h4
    have x := (R1.ext f2).trans (R2.ext f3)
    refine ⟨valV ks k, .inl ⟨ks, k, .inr ⟨o, x _ _ h2 trivial⟩, key_of v2 ek, rfl⟩, .v ((findK kvs k).getD dz), ρ3, R3, ?_, (f1.trans s1 f2).trans (s2.trans s1) f3, s3.trans (s2.trans s1), q⟩
    rcases zk_find (zk.mono x) k with ⟨v, d, e3, e4, zz'⟩ | ⟨e3, e4⟩
    · rw [e3, e4]
      exact zz'
    · rw [e3, e4]
      exact zz
end
/-! ### {} -/
section
variable {X : Cx} {κ : Ktx} {e : Expr}
theorem dx_d0 (h : PE X e tDNewK) : DX X κ e (sC (.dct [])) := DX.of (pe_fz h) fun σ H ρ Q R q => fun p n => by
  have sm := same_new (o := .dK []) n
  refine .inr ⟨p, _, rfl, upd_same, trivial, fun o => ?_⟩
  obtain ⟨R2, x, n0⟩ := frz_rep (o := o) R (R.step sm) (Sub.refl ρ) n upd_same trivial
  refine ⟨.v (.dct []), ρ, R2, .dct ⟨o, upd_same⟩ .nil, ⟨fun b y e m1 m2 => ?_, fun b y e => ?_⟩, Sub.refl ρ, q⟩
  · rw [upd_ne (ne_of_none e n)]
    exact sm _ _ e
  · rw [upd_ne (ne_of_none e n)]
    exact ⟨y, sm _ _ e⟩
end
/-! ### promises of the old kind, over data -/
/-- an old promise, called with data -/
theorem spD_imp {P : Program} {w : World} {K : PySem.W.Frag} {mg : Str → Option Value} {base : Heap} {CX : CXT} {k : Nat} {f : Addr} {fd : FuncData} {ps : List Str} {sp : Sp} {TT : List NdefX.NTab} {φ : GL} (F : FnOk P w K mg base CX k f fd ps sp)
    (c : ∀ vs H Q E ds q, ZA K H vs ds → φ ds q → (∀ v H' d, Kpt H H' → NdefX.TabsN TT H' → Z K H' v d → q d → Q v H') → NdefX.TabsN TT H → sp vs H Q E) : FnOk P w K mg base CX k f fd ps (spD K TT φ) :=
  F.imp fun vs H Q E ⟨ds, q, z, t, h, kq⟩ => c vs H Q E ds q z h kq t
end DL

set_option Elab.async false
set_option linter.all false
set_option maxRecDepth 100000
set_option maxHeartbeats 2000000
namespace DL
open E PySem PySem.Spec PyProof.Rows L2
/-! ### blocks in blocks -/
def relab (sc scope : Scope) : Scope := { scope with names := scope.names.map fun (n, k) => if (k == .free && sc.kind == .function && sc.names.lookup n == some .cell) then (n, .cell) else (n, k) }
theorem relab_eq {scope sc : Scope} {x : Str} {L a : Addr} {cd : Value} : PySem.relabel scope (PyProof.Rows.envOfC x sc L a cd) = relab sc scope := rfl
/-! ### formulas as data -/
theorem ofString_inj {a b : String} (h : Str.ofString a = Str.ofString b) : a = b := by
  rw [Str.ofString_eq_toList, Str.ofString_eq_toList] at h
  have h2 : (a.toList.map Char.toNat) = (b.toList.map Char.toNat) := by
    have := congrArg (fun s : Str => s.cps.toList) h
    simpa using this
  have inj : ∀ (xs ys : List Char), xs.map Char.toNat = ys.map Char.toNat → xs = ys := by
    intro xs
    induction xs with
    | nil =>
      intro ys e
      cases ys with
      | nil => rfl
      | cons y ys => cases e
    | cons x xs ih =>
      intro ys e
      cases ys with
      | nil => cases e
      | cons y ys =>
        rw [List.map_cons, List.map_cons] at e
        injection e with e1 e2
        rw [ih ys e2, Char.toNat_inj.mp e1]
  exact String.toList_inj.mp (inj _ _ h2)
theorem str_dec (a b : String) : decide (Str.ofString a = Str.ofString b) = decide (a = b) := by
  by_cases h : a = b
  · subst h
    simp
  · rw [decide_eq_false h, decide_eq_false fun e => h (ofString_inj e)]
theorem str_beq (a b : String) : (Str.ofString a == Str.ofString b) = decide (a = b) := by
  rw [← str_dec]
  rfl
def fD : Fm → D
  | .var n => .tup [.str "var", .str n]
  | .fal => .tup [.str "falsum"]
  | .and a b => .tup [.str "and", fD a, fD b]
  | .or a b => .tup [.str "or", fD a, fD b]
  | .imp a b => .tup [.str "implies", fD a, fD b]
  | .box a => .tup [.str "box", fD a]
theorem fD_py : ∀ f : Fm, (fD f).py = some f.d
  | .var n => rfl
  | .fal => rfl
  | .and a b => by simp [fD, D.py, pyAll, fD_py a, fD_py b, Fm.d]
  | .or a b => by simp [fD, D.py, pyAll, fD_py a, fD_py b, Fm.d]
  | .imp a b => by simp [fD, D.py, pyAll, fD_py a, fD_py b, Fm.d]
  | .box a => by simp [fD, D.py, pyAll, fD_py a, Fm.d]
theorem fm_sh {N : List Str} (hN : ∀ n ∈ N, PyData.strOk n = true) {f : Fm} (h : f.over N = true) (ht : f.ht ≤ 64) : SeqAt.shaped f.d = true := by
  unfold SeqAt.shaped
  rw [Fm.lay hN f h, Fm.depth]
  exact decide_eq_true ht
theorem eq_fm {f g : Fm} {k : Bool → Bool} {q : D → Prop} (hf : SeqAt.shaped f.d = true) (hg : SeqAt.shaped g.d = true) (h : q (.bl (k (decide (f = g))))) : gEqB k (fD f) (fD g) q := by
  cases f <;> cases g <;> exact ⟨_, _, fD_py _, fD_py _, hf, hg, by rw [Fm.eqv]; exact h⟩
theorem atI_0 {α : Type} (x : α) (xs : List α) : atI (x :: xs) 0 = some x := atI_nat (j := 0) rfl
theorem atI_1 {α : Type} (x y : α) (xs : List α) : atI (x :: y :: xs) 1 = some y := atI_nat (j := 1) rfl
theorem atI_2 {α : Type} (x y z : α) (xs : List α) : atI (x :: y :: z :: xs) 2 = some z := atI_nat (j := 2) rfl
theorem eq_if {f g : Fm} {P Q : Prop} (hf : SeqAt.shaped f.d = true) (hg : SeqAt.shaped g.d = true) (h1 : f = g → P) (h2 : ¬ f = g → Q) : gEqB id (fD f) (fD g) (fun z => ∃ b, z = D.bl b ∧ if b = true then P else Q) := eq_fm hf hg ⟨_, rfl, by
  show if decide (f = g) = true then P else Q
  by_cases e : f = g
  · rw [decide_eq_true e, if_pos rfl]
    exact h1 e
  · rw [decide_eq_false e, if_neg Bool.false_ne_true]
    exact h2 e⟩
/-- truth (fo = false) and forcing (fo = true) of a formula at a world below n -/
def fat (n : Nat) (R : Nat → Nat → Bool) (W : Str → Nat → Bool) (fo : Bool) : Fm → Nat → Bool
  | .var m, v => W m v
  | .fal, _ => false
  | .and a b, v => fat n R W fo a v && fat n R W fo b v
  | .or a b, v => fat n R W fo a v || fat n R W fo b v
  | .imp a b, v => (List.range n).all fun u => !(if fo = true then R v u else decide (u = v)) || (!fat n R W fo a u || fat n R W fo b u)
  | .box a, v => (List.range n).all fun u => !R v u || fat n R W fo a u
def rowD (n : Nat) (f : Nat → Bool) : D := .lst ((List.range n).map fun w => .bl (f w))
def gridD (n : Nat) (R : Nat → Nat → Bool) : D := .lst ((List.range n).map fun v => rowD n (R v))
def intsD (n : Nat) (f : Nat → Bool) : List D := ((List.range n).filter f).map fun w : Nat => .int (w : Int)
theorem atI_nat' {α : Type} {xs : List α} {i : Nat} {x : α} (h : xs[i]? = some x) : atI xs (i : Int) = some x := atI_nat h
theorem ix_row {n w : Nat} {f : Nat → Bool} {q : D → Prop} (h : w < n) (k : q (.bl (f w))) : gIx (rowD n f) (.int (w : Int)) q := ⟨_, atI_nat (by rw [List.getElem?_map, List.getElem?_range h]; rfl), k⟩
theorem ix_grid {n v : Nat} {R : Nat → Nat → Bool} {q : D → Prop} (h : v < n) (k : q (rowD n (R v))) : gIx (gridD n R) (.int (v : Int)) q := ⟨_, atI_nat (by rw [List.getElem?_map, List.getElem?_range h]; rfl), k⟩
theorem ixg {n v : Nat} (h : v < n) (R : Nat → Nat → Bool) (q : D → Prop) : gIx (gridD n R) (.int (v : Int)) q = q (rowD n (R v)) := propext ⟨fun ⟨z, e, hq⟩ => by
  rw [atI_nat (show ((List.range n).map fun v => rowD n (R v))[v]? = some (rowD n (R v)) by rw [List.getElem?_map, List.getElem?_range h]; rfl)] at e
  cases e
  exact hq, fun hq => ix_grid h hq⟩
theorem ixr {n w : Nat} (h : w < n) (f : Nat → Bool) (q : D → Prop) : gIx (rowD n f) (.int (w : Int)) q = q (.bl (f w)) := propext ⟨fun ⟨z, e, hq⟩ => by
  rw [atI_nat (show ((List.range n).map fun w => D.bl (f w))[w]? = some (.bl (f w)) by rw [List.getElem?_map, List.getElem?_range h]; rfl)] at e
  cases e
  exact hq, fun hq => ix_row h hq⟩
theorem rng_at {n i : Nat} {x : D} (h : (rngD 0 n)[i]? = some x) : i < n ∧ x = .int (i : Int) := by
  unfold rngD at h
  rw [List.getElem?_map] at h
  by_cases hi : i < n
  · rw [List.getElem?_range hi] at h
    refine ⟨hi, ?_⟩
    have := Option.some.inj h
    rw [← this]
    exact congrArg D.int (Int.zero_add _)
  · rw [List.getElem?_eq_none_iff.mpr (by rw [List.length_range]; omega)] at h
    cases h
theorem rng_len (n : Nat) : (rngD 0 n).length = n := by
  unfold rngD
  rw [List.length_map, List.length_range]
theorem all_false {n i : Nat} {f : Nat → Bool} (hi : i < n) (h : f i = false) : (List.range n).all f = false := by
  cases e : (List.range n).all f with
  | false => rfl
  | true =>
    have := List.all_eq_true.mp e i (List.mem_range.mpr hi)
    rw [h] at this
    cases this
theorem in_ints {n v : Nat} {f : Nat → Bool} {q : D → Prop} {g : Bool → Bool} (h : v < n) (k : q (.bl (g (f v)))) : gInB g (.int (v : Int)) (.lst (intsD n f)) q := by
  have hf : (intsD n f).all flatD = true := List.all_eq_true.mpr fun x hx => by
    unfold intsD at hx
    obtain ⟨u, _, rfl⟩ := List.mem_map.mp hx
    rfl
  have e : ((intsD n f).any fun y => eqF y (.int (v : Int))) = f v := by
    rw [Bool.eq_iff_iff, List.any_eq_true]
    constructor
    · rintro ⟨x, hx, he⟩
      unfold intsD at hx
      obtain ⟨u, hu, rfl⟩ := List.mem_map.mp hx
      have : ((u : Nat) : Int) = (v : Int) := by simpa [eqF] using he
      have e2 : u = v := by omega
      rw [← e2]
      exact (List.mem_filter.mp hu).2
    · intro hv
      exact ⟨.int (v : Int), List.mem_map.mpr ⟨v, List.mem_filter.mpr ⟨List.mem_range.mpr h, hv⟩, rfl⟩, by simp [eqF]⟩
  exact .inl ⟨rfl, hf, by rw [e]; exact k⟩
end DL

set_option Elab.async false
set_option linter.all false
set_option maxRecDepth 100000
set_option maxHeartbeats 2000000
namespace DL
open E PySem PySem.Spec PyProof.Rows L2
/-! ### {k: v, ..} -/
section
variable {K : PySem.W.Frag} {κ : Ktx} {ρ ρ' : En} {σ : L2.St} {H H' : Hp} {p : Addr}
/-- a dict that no local owns, changed -/
theorem dk_rep {ks : List (Key × V)} {o : HO} (R0 : Rep K κ ρ σ H) (R : Rep K κ ρ' σ H') (s : Sub ρ' ρ) (n : H p = none) (h : H' p = some (.dK ks)) : Rep K κ ρ' σ (upd H' p o) ∧ Ext H' (upd H' p o) ∧ κ.H0 p = none := by
  have n0 : κ.H0 p = none := by
    cases e : κ.H0 p with
    | none => rfl
    | some o =>
      obtain ⟨o', h'⟩ := R0.dom _ _ e
      rw [n] at h'
      cases h'
  have nOwn : ¬ Owns ρ' p := fun q => by
    obtain ⟨u, h', _⟩ := R0.own (s.1 p q)
    rw [n] at h'
    cases h'
  have x : Ext H' (upd H' p o) := ext_mu h trivial
  refine ⟨⟨R.len, fun i sl e => ?_, R.nd, R.new, fun b y h0 n1 n2 => ?_, fun b y h0 => ?_, Rep.tabs R.tab h trivial, R.plx⟩, x, n0⟩
  · have q := R.ok i sl e
    have ne : ∀ a, sl.own = some a → a ≠ p := fun a ea z => nOwn ⟨i, by rw [ownAt_of e, ea, z]⟩
    cases sl with
    | no => trivial
    | val d => obtain ⟨v, e1, z⟩ := q; exact ⟨v, e1, z.mono x⟩
    | ls a ds => obtain ⟨e1, vs, h1, z⟩ := q; exact ⟨e1, vs, by rw [upd_ne (ne a rfl)]; exact h1, z.mono x⟩
    | dk a ds => obtain ⟨e1, vs, h1, z⟩ := q; exact ⟨e1, vs, by rw [upd_ne (ne a rfl)]; exact h1, z.mono x⟩
    | il a => obtain ⟨e1, ns, h1⟩ := q; exact ⟨e1, ns, by rw [upd_ne (ne a rfl)]; exact h1⟩
    | pl a l =>
      obtain ⟨e1, h1⟩ := q
      refine ⟨e1, ?_⟩
      obtain ⟨i, r, c, s, h5, h6⟩ := h1.at5
      obtain ⟨cs, hs⟩ := h1.sq
      refine ⟨?_, h1.ne, i, r, c, s, by rw [upd_ne (ne a rfl)]; exact h5, h6⟩
      rcases hs with (hs | ⟨ob, hs⟩) | hs
      · exact ⟨cs, .inl (.inl (by rw [upd_ne fun e2 => by rw [e2, h] at hs; cases hs]; exact hs))⟩
      · exact ⟨cs, .inl (.inr ⟨ob, x _ _ hs trivial⟩)⟩
      · exact ⟨cs, .inr hs⟩
  · rw [upd_ne fun z => by rw [z, n0] at h0; cases h0]
    exact R.ctx b y h0 n1 n2
  · rw [upd_ne fun z => by rw [z, n0] at h0; cases h0]
    exact R.dom b y h0
def putD (kvs : List (Key × D)) (k : Key) (d : D) : List (Key × D) := if (kvs.any fun kv => decide (kv.1 = k)) = true then kvs.map (fun kv => if kv.1 = k then (kv.1, d) else kv) else kvs ++ [(k, d)]
def mergeD (kvs more : List (Key × D)) : List (Key × D) := more.foldl (fun acc kv => putD acc kv.1 kv.2) kvs
theorem ZK.any (k : Key) : ∀ {vs : List (Key × V)} {ds : List (Key × D)}, ZK K H vs ds → (vs.any fun kv => decide (kv.1 = k)) = ds.any fun kv => decide (kv.1 = k)
  | _, _, .nil => rfl
  | _, _, .cons z t => by rw [List.any_cons, List.any_cons, ZK.any k t]
theorem ZK.app {us : List (Key × V)} {es : List (Key × D)} (g : ZK K H us es) : ∀ {vs : List (Key × V)} {ds : List (Key × D)}, ZK K H vs ds → ZK K H (vs ++ us) (ds ++ es)
  | _, _, .nil => g
  | _, _, .cons z t => .cons z (ZK.app g t)
theorem ZK.repl {v : V} {d : D} (zd : Z K H v d) (k : Key) : ∀ {vs : List (Key × V)} {ds : List (Key × D)}, ZK K H vs ds → ZK K H (vs.map fun kv => if kv.1 = k then (kv.1, v) else kv) (ds.map fun kv => if kv.1 = k then (kv.1, d) else kv)
  | _, _, .nil => .nil
  | _, _, .cons (k := k') z t => by
    rw [List.map_cons, List.map_cons]
    by_cases e : k' = k
    · rw [if_pos e, if_pos e]
      exact .cons zd (ZK.repl zd k t)
    · rw [if_neg e, if_neg e]
      exact .cons z (ZK.repl zd k t)
theorem ZK.put {vs : List (Key × V)} {ds : List (Key × D)} {v : V} {d : D} (h : ZK K H vs ds) (zd : Z K H v d) (k : Key) : ZK K H (putK vs k v) (putD ds k d) := by
  unfold putK putD
  rw [ZK.any k h]
  split
  · exact ZK.repl zd k h
  · exact ZK.app (.cons zd .nil) h
theorem ZK.merge : ∀ {more : List (Key × V)} {md : List (Key × D)}, ZK K H more md → ∀ {vs : List (Key × V)} {ds : List (Key × D)}, ZK K H vs ds → ZK K H (mergeK vs more) (mergeD ds md)
  | _, _, .nil, _, _, h => h
  | _, _, .cons z t, _, _, h => ZK.merge t (ZK.put h z _)
def dpairs : List (DE × DE) → En → (List (Key × D) → En → Prop) → Prop
  | [], ρ, Q => Q [] ρ
  | (sk, sv) :: r, ρ, Q => sk ρ fun rk ρ1 => valK rk fun kd => ∃ k, toKey kd = some k ∧ sv ρ1 fun rv ρ2 => valK rv fun d => dpairs r ρ2 fun kvs ρ3 => Q ((k, d) :: kvs) ρ3
theorem z_key {v : V} {d : D} {k : Key} (z : Z K H v d) (e : toKey d = some k) : v = kV k := by
  cases z <;> first | (cases e; done) | (cases e; rfl)
theorem go_pairs (p : Addr) : ∀ (ss : List (DE × DE)) (ρ : En) (σ : L2.St) (H : Hp) (q : List (Key × D) → En → Prop) (Qf : List (V × V) → Hp → Prop), Rep K κ ρ σ H → dpairs ss ρ q → H p = some (.dK []) → ¬ Owns ρ p →
    (∀ (vs : List (Key × V)) (H' : Hp) (kvs : List (Key × D)) (ρ' : En), Rep K κ ρ' σ H' → ZK K H' vs kvs → Fr ρ H H' → Sub ρ' ρ → H' p = some (.dK []) → q kvs ρ' → Qf (vs.map fun kv => (kV kv.1, kv.2)) H') → tPairs (ss.map fun s => (tD K κ s.1, tD K κ s.2)) σ H Qf
  | [], ρ, σ, H, q, Qf, R, h, hp, no, k => k [] H [] ρ R .nil (Fr.refl _ _) (Sub.refl _) hp h
  | (sk, sv) :: r, ρ, σ, H, q, Qf, R, h, hp, no, kk => goD R h fun v H1 rk ρ1 R1 z1 f1 s1 h1 => by
    obtain ⟨kd, zk, k, ek, h1⟩ := val_of z1 h1
    have hp1 := f1.1 _ _ hp (fun _ e => nomatch e) no
    have no1 : ¬ Owns ρ1 p := fun o => no (s1.1 p o)
    refine goD R1 h1 fun u H2 rv ρ2 R2 z2 f2 s2 h2 => ?_
    obtain ⟨d, zd, h2⟩ := val_of z2 h2
    have hp2 := f2.1 _ _ hp1 (fun _ e => nomatch e) no1
    have no2 : ¬ Owns ρ2 p := fun o => no1 (s2.1 p o)
    have ev := z_key zk ek
    subst ev
    refine go_pairs p r ρ2 σ H2 _ _ R2 h2 hp2 no2 fun vs H3 kvs ρ3 R3 zs f3 s3 hp3 hq => ?_
    exact kk ((k, u) :: vs) H3 ((k, d) :: kvs) ρ3 R3 (.cons (zd.mono (R2.ext f3)) zs) ((f1.trans s1 f2).trans (s2.trans s1) f3) (s3.trans (s2.trans s1)) hp3 hq
end
section
variable {X : Cx} {κ : Ktx} {pos : Pos} {keys : List (Option Expr)} {values : List Expr}
def sDisp (ss : List (DE × DE)) : DE := fun ρ Q => dpairs ss ρ fun kvs ρ' => kvs.length ≤ 15 ∧ Q (.v (.dct (mergeD [] kvs))) ρ'
theorem zk_len {K : PySem.W.Frag} {H : Hp} {vs : List (Key × V)} {ds : List (Key × D)} (h : ZK K H vs ds) : vs.length = ds.length := h.length
theorem dx_disp (ss : List (DE × DE)) (h : PPs X pos keys values (ss.map fun s => (tD X.K κ s.1, tD X.K κ s.2))) (hall : keys.all (·.isSome) = true) (hl : keys.length = values.length) (h0 : keys ≠ []) (h15 : keys.length ≤ 15) : DX X κ (.Dict keys values pos) (sDisp ss) :=
  DX.of (pe_fz (pe_disp h hall hl h0 h15)) fun σ H ρ Q R q => fun p n => by
    have sm := same_new (o := .dK []) n
    have R1 := R.step sm
    have no : ¬ Owns ρ p := fun o => by
      obtain ⟨u, h', _⟩ := R.own o
      rw [n] at h'
      cases h'
    refine go_pairs p ss ρ σ _ _ _ R1 q upd_same no fun vs H2 kvs ρ2 R2 zs f2 s2 hp2 ⟨hl, hq⟩ => ⟨hp2, vs, rfl, by rw [zk_len zs]; exact hl, .inr ⟨p, _, rfl, upd_same, trivial, fun o => ?_⟩⟩
    have eu : upd (upd H2 p (.dK (mergeK [] vs))) p (.frz o (.dK (mergeK [] vs))) = upd H2 p (.frz o (.dK (mergeK [] vs))) := by
      funext b
      by_cases e : b = p
      · rw [e, upd_same, upd_same]
      · rw [upd_ne e, upd_ne e, upd_ne e]
    rw [eu]
    obtain ⟨R3, x3, _⟩ := dk_rep (o := .frz o (.dK (mergeK [] vs))) R R2 s2 n hp2
    refine ⟨.v (.dct (mergeD [] kvs)), ρ2, R3, .dct ⟨o, upd_same⟩ (ZK.merge (zs.mono x3) .nil), ⟨fun b y e m1 m2 => ?_, fun b y e => ?_⟩, s2, hq⟩
    · have hb := f2.1 b y (sm _ _ e) m1 m2
      rw [upd_ne (ne_of_none e n)]
      exact hb
    · obtain ⟨y', h'⟩ := f2.2 b y (sm _ _ e)
      rw [upd_ne (ne_of_none e n)]
      exact ⟨y', h'⟩
end
theorem gEqB_str (a b : String) (k : Bool → Bool) (q : D → Prop) : gEqB k (.str (Str.ofString a)) (.str (Str.ofString b)) q = q (.bl (k (decide (a = b)))) := by
  rw [← str_dec]
  rfl
theorem key_dec (a b : String) : decide ((Sum.inr (Str.ofString a) : Key) = Sum.inr (Str.ofString b)) = decide (a = b) := by
  rw [← str_dec]
  by_cases h : Str.ofString a = Str.ofString b
  · rw [decide_eq_true h, decide_eq_true (congrArg Sum.inr h)]
  · rw [decide_eq_false h, decide_eq_false fun e => h (Sum.inr.inj e)]
theorem eq_non {f : Fm} {P Q : Prop} (hf : SeqAt.shaped f.d = true) (h : Q) : gEqB id (fD f) .non (fun z => ∃ b, z = D.bl b ∧ if b = true then P else Q) := by
  have e : PyData.eqv f.d .none = false := by cases f <;> rfl
  cases f <;> exact ⟨_, _, fD_py _, rfl, hf, rfl, _, rfl, by rw [e]; exact (if_neg Bool.false_ne_true).mpr h⟩
/-! ### formulas of the two kinds of readings -/
theorem z_im {K : PySem.W.Frag} {H : Hp} : ∀ (f : Fm) {v : V}, Im K H v f.d → Z K H v (fD f)
  | .var n, v, h => by
    have h : Im K H v (.tuple [.str "var", .str n]) := h
    cases h with
    | tup h1 l tr =>
      cases l with
      | cons h0 l =>
      cases h0
      cases l with
      | cons h2 l =>
      cases h2
      cases l
      exact .tup h1 (.cons (.str _) (.cons (.str _) .nil)) (fun y e => tr n rfl)
  | .fal, v, h => by
    have h : Im K H v (.tuple [.str "falsum"]) := h
    cases h with
    | tup h1 l tr =>
      cases l with
      | cons h0 l =>
      cases h0
      cases l
      exact .tup h1 (.cons (.str _) .nil) (fun y e => by cases e)
  | .and a b, v, h => by
    have h : Im K H v (.tuple [.str "and", a.d, b.d]) := h
    cases h with
    | tup h1 l tr =>
      cases l with
      | cons h0 l =>
      cases h0
      cases l with
      | cons h2 l =>
      cases l with
      | cons h3 l =>
      cases l
      exact .tup h1 (.cons (.str _) (.cons (z_im a h2) (.cons (z_im b h3) .nil))) (fun y e => by cases e)
  | .or a b, v, h => by
    have h : Im K H v (.tuple [.str "or", a.d, b.d]) := h
    cases h with
    | tup h1 l tr =>
      cases l with
      | cons h0 l =>
      cases h0
      cases l with
      | cons h2 l =>
      cases l with
      | cons h3 l =>
      cases l
      exact .tup h1 (.cons (.str _) (.cons (z_im a h2) (.cons (z_im b h3) .nil))) (fun y e => by cases e)
  | .imp a b, v, h => by
    have h : Im K H v (.tuple [.str "implies", a.d, b.d]) := h
    cases h with
    | tup h1 l tr =>
      cases l with
      | cons h0 l =>
      cases h0
      cases l with
      | cons h2 l =>
      cases l with
      | cons h3 l =>
      cases l
      exact .tup h1 (.cons (.str _) (.cons (z_im a h2) (.cons (z_im b h3) .nil))) (fun y e => by cases e)
  | .box a, v, h => by
    have h : Im K H v (.tuple [.str "box", a.d]) := h
    cases h with
    | tup h1 l tr =>
      cases l with
      | cons h0 l =>
      cases h0
      cases l with
      | cons h2 l =>
      cases l
      exact .tup h1 (.cons (.str _) (.cons (z_im a h2) .nil)) (fun y e => absurd (D.str.inj (List.cons.inj e).1) (by decide +kernel))
theorem im_z {K : PySem.W.Frag} {H : Hp} : ∀ (f : Fm) {v : V}, Z K H v (fD f) → Im K H v f.d
  | .var n, v, h => by
    have h : Z K H v (.tup [.str "var", .str n]) := h
    cases h with
    | tup h1 l tr =>
      cases l with
      | cons h0 l =>
      cases h0
      cases l with
      | cons h2 l =>
      cases h2
      cases l
      exact .tup h1 (.cons (.str _) (.cons (.str _) .nil)) (fun y e => tr n rfl)
  | .fal, v, h => by
    have h : Z K H v (.tup [.str "falsum"]) := h
    cases h with
    | tup h1 l tr =>
      cases l with
      | cons h0 l =>
      cases h0
      cases l
      exact .tup h1 (.cons (.str _) .nil) (fun y e => by cases e)
  | .and a b, v, h => by
    have h : Z K H v (.tup [.str "and", fD a, fD b]) := h
    cases h with
    | tup h1 l tr =>
      cases l with
      | cons h0 l =>
      cases h0
      cases l with
      | cons h2 l =>
      cases l with
      | cons h3 l =>
      cases l
      exact .tup h1 (.cons (.str _) (.cons (im_z a h2) (.cons (im_z b h3) .nil))) (fun y e => by cases e)
  | .or a b, v, h => by
    have h : Z K H v (.tup [.str "or", fD a, fD b]) := h
    cases h with
    | tup h1 l tr =>
      cases l with
      | cons h0 l =>
      cases h0
      cases l with
      | cons h2 l =>
      cases l with
      | cons h3 l =>
      cases l
      exact .tup h1 (.cons (.str _) (.cons (im_z a h2) (.cons (im_z b h3) .nil))) (fun y e => by cases e)
  | .imp a b, v, h => by
    have h : Z K H v (.tup [.str "implies", fD a, fD b]) := h
    cases h with
    | tup h1 l tr =>
      cases l with
      | cons h0 l =>
      cases h0
      cases l with
      | cons h2 l =>
      cases l with
      | cons h3 l =>
      cases l
      exact .tup h1 (.cons (.str _) (.cons (im_z a h2) (.cons (im_z b h3) .nil))) (fun y e => by cases e)
  | .box a, v, h => by
    have h : Z K H v (.tup [.str "box", fD a]) := h
    cases h with
    | tup h1 l tr =>
      cases l with
      | cons h0 l =>
      cases h0
      cases l with
      | cons h2 l =>
      cases l
      exact .tup h1 (.cons (.str _) (.cons (im_z a h2) .nil)) (fun y e => absurd (PyData.str.inj (List.cons.inj e).1) (by decide +kernel))
end DL

set_option Elab.async false
set_option linter.all false
set_option maxRecDepth 100000
set_option maxHeartbeats 4000000
namespace NS
open PySem PySem.Spec PyProof.Rows L2
section
variable {P : Program} {w : World} {E : Value → Shared → Prop}
mutual
/-- whether the hash of a key is by value: some word -/
theorem by_val : ∀ (k : NestedKey) (v : Value) (n : Nat) (A : Around) (s : Shared) (Q : Bool → Shared → Prop), NestedIs s.heap k v → (∀ b, Q b s) → wpAny (model P w) A (hashByValue n v) Q E s
  | .none, _, n, _, _, _, x, q => by cases x; cases n <;> exact wpAny_pure (q _)
  | .num i, _, n, _, _, _, x, q => by cases x <;> cases n <;> exact wpAny_pure (q _)
  | .text y, _, n, _, _, _, x, q => by cases x; cases n <;> exact wpAny_pure (q _)
  | .tup ks, _, 0, _, _, _, x, q => by cases x; exact wpAny_pure (q _)
  | .tup ks, _, n + 1, A, s, Q, x, q => by
    cases x with
    | tup hg hc hd hk =>
      unfold hashByValue
      refine wpAny_bind (wpAny_specialOf (T := "tuple") ⟨_, hg, hc⟩ F.slot_tuple_hash.lookup ?_)
      refine wpAny_bind (wpAny_seqItems hg hd ?_)
      refine wpAny_bind ?_
      rw [show forIn (m := Sem) ((some _ : Option (Array Value)).getD #[Value.ellipsis]) = forIn (m := Sem) _ from rfl, ← Array.forIn_toList]
      refine wpAny_forIn_list _ (fun l r s1 => r.1 = none ∧ s1 = s ∧ ∀ v ∈ l, ∀ (A : Around) (Q : Bool → Shared → Prop), (∀ b, Q b s) → wpAny (model P w) A (hashByValue n v) Q E s) _ ?_ ?_ _ _ ⟨rfl, rfl, fun v hv A' Q' q' => by_vals ks _ n A' s Q' hk v hv q'⟩
      · rintro u l ⟨r0, _⟩ s1 ⟨e1, rfl, hall⟩
        refine wpAny_bind (hall u List.mem_cons_self _ _ fun b => ?_)
        cases b
        · exact wpAny_pure (wpAny_pure (q _))
        · exact wpAny_pure ⟨rfl, rfl, fun v hv => hall v (List.mem_cons_of_mem _ hv)⟩
      · rintro ⟨r0, _⟩ s1 ⟨e1, rfl, _⟩
        cases e1
        exact wpAny_pure (q _)
theorem by_vals : ∀ (ks : List NestedKey) (vs : List Value) (n : Nat) (A : Around) (s : Shared) (Q : Bool → Shared → Prop), NestedAll s.heap ks vs → ∀ v ∈ vs, (∀ b, Q b s) → wpAny (model P w) A (hashByValue n v) Q E s
  | [], _, _, _, _, _, x, v, hv, _ => by cases x; cases hv
  | k :: ks, _, n, A, s, Q, x, v, hv, q => by
    cases x with
    | cons x1 x2 =>
      rcases List.mem_cons.mp hv with rfl | hv
      · exact by_val k _ n A s Q x1 q
      · exact by_vals ks _ n A s Q x2 v hv q
end
mutual
/-- no key is of a class statement -/
theorem no_class : ∀ (k : NestedKey) (v : Value) (n : Nat) (A : Around) (s : Shared) (Q : Bool → Shared → Prop), NestedIs s.heap k v → k.depth ≤ n → Q false s → wpAny (model P w) A (ofAClassStatement n v) Q E s
  | .none, _, n, _, _, _, x, _, q => by cases x; cases n <;> exact wpAny_pure q
  | .num i, _, n, _, _, _, x, _, q => by cases x <;> cases n <;> exact wpAny_pure q
  | .text y, _, n, _, _, _, x, _, q => by cases x; cases n <;> exact wpAny_pure q
  | .tup ks, _, 0, _, _, _, _, hn, _ => absurd hn (by simp only [NestedKey.depth]; omega)
  | .tup ks, _, n + 1, A, s, Q, x, hn, q => by
    have hn' : NestedKey.depthAll ks ≤ n := by simp only [NestedKey.depth] at hn; omega
    cases x with
    | tup hg hc hd hk =>
      unfold ofAClassStatement
      refine wpAny_bind (wpAny_typeOf (T := "tuple") ⟨_, hg, hc⟩ ?_)
      dsimp only
      refine wp_if_pos (by decide) ?_
      refine wpAny_bind (wpAny_pure ?_)
      refine wp_if_neg (by decide) ?_
      refine wpAny_bind (wpAny_seqItems hg hd ?_)
      dsimp only
      refine wpAny_bind ?_
      rw [← Array.forIn_toList]
      refine wpAny_forIn_list _ (fun l r s1 => r.1 = none ∧ s1 = s ∧ ∀ v ∈ l, ∀ (A : Around) (Q : Bool → Shared → Prop), Q false s → wpAny (model P w) A (ofAClassStatement n v) Q E s) _ ?_ ?_ _ _ ⟨rfl, rfl, fun v hv A' Q' q' => no_classes ks _ n A' s Q' hk hn' v hv q'⟩
      · rintro u l ⟨r0, _⟩ s1 ⟨e1, rfl, hall⟩
        refine wpAny_bind (hall u List.mem_cons_self _ _ ?_)
        exact wpAny_pure ⟨rfl, rfl, fun v hv => hall v (List.mem_cons_of_mem _ hv)⟩
      · rintro ⟨r0, _⟩ s1 ⟨e1, rfl, _⟩
        cases e1
        exact wpAny_pure q
theorem no_classes : ∀ (ks : List NestedKey) (vs : List Value) (n : Nat) (A : Around) (s : Shared) (Q : Bool → Shared → Prop), NestedAll s.heap ks vs → NestedKey.depthAll ks ≤ n → ∀ v ∈ vs, Q false s → wpAny (model P w) A (ofAClassStatement n v) Q E s
  | [], _, _, _, _, _, x, _, v, hv, _ => by cases x; cases hv
  | k :: ks, _, n, A, s, Q, x, hn, v, hv, q => by
    have hn' : max k.depth (NestedKey.depthAll ks) ≤ n := hn
    cases x with
    | cons x1 x2 =>
      rcases List.mem_cons.mp hv with rfl | hv
      · exact no_class k _ n A s Q x1 (by omega) q
      · exact no_classes ks _ n A s Q x2 (by omega) v hv q
end
/-- the tuple at b is the key k -/
def KA (h : Heap) (k : NestedKey) (b : Addr) : Prop := NestedIs h k (.ref b) ∧ k.depth ≤ 8
/-- a search among keys shows nothing -/
theorem unseen {A : Around} {s : Shared} {k : NestedKey} {b : Addr} {Q : Bool → Shared → Prop} {ys : List Value} (hk : KA s.heap k b) (hy : ∀ y ∈ ys, ∃ k' c, y = Value.ref c ∧ KA s.heap k' c) (q : Q false s) : wpAny (model P w) A (searchCouldBeSeen (.ref b) ys) Q E s := by
  unfold searchCouldBeSeen
  refine wpAny_bind ?_
  refine wpAny_forIn_list _ (fun l r s1 => r.1 = none ∧ s1 = s ∧ ∀ y ∈ l, ∃ k' c, y = Value.ref c ∧ KA s.heap k' c) _ ?_ ?_ _ _ ⟨rfl, rfl, hy⟩
  · rintro u l ⟨r0, _⟩ s1 ⟨e1, rfl, hall⟩
    have tl : ∀ y ∈ l, ∃ k' c, y = Value.ref c ∧ KA s1.heap k' c := fun y m => hall y (List.mem_cons_of_mem _ m)
    obtain ⟨k', c, rfl, hc⟩ := hall u List.mem_cons_self
    dsimp only
    by_cases e : (b == c || (carriedByValue (.ref b) && carriedByValue (.ref c))) = true
    · exact wp_if_pos e (wpAny_pure ⟨rfl, rfl, tl⟩)
    · refine wp_if_neg e (wpAny_bind (quiet_key k _ 8 s1 hk.1 hk.2 _ _ _ ?_))
      refine wpAny_bind (quiet_key k' _ 8 s1 hc.1 hc.2 _ _ _ ?_)
      refine wpAny_bind (no_class k _ 8 _ s1 _ hk.1 hk.2 ?_)
      refine wpAny_bind (no_class k' _ 8 _ s1 _ hc.1 hc.2 ?_)
      exact wpAny_pure ⟨rfl, rfl, tl⟩
  · rintro ⟨r0, _⟩ s1 ⟨e1, rfl, _⟩
    cases e1
    exact wpAny_pure q
end
end NS

set_option Elab.async false
set_option linter.all false
set_option maxRecDepth 100000
set_option maxHeartbeats 4000000
namespace NS
open PySem PySem.Spec PyProof.Rows L2
abbrev KL := List (Addr × NestedKey)
def rowN (w : World) (L : KL) : List (Int × Value) := L.map fun z => (NestedKey.hash w z.2, .ref z.1)
abbrev hsN (w : World) (L : KL) : List Int := L.map fun z => NestedKey.hash w z.2
def SetObj (h : Heap) (a : Addr) (es : Array (Int × Value)) (ep : Nat) (t : SetTable) : Prop := ∃ ob, h.get? a = some ob ∧ ob.ExactSet ∧ ob.data = .set es ep t
/-- the set at a holds the keys of L -/
structure NSt (w : World) (h : Heap) (a : Addr) (L : KL) (es : Array (Int × Value)) (ep : Nat) (t : SetTable) : Prop where
  obj : SetObj h a es ep t
  row : es.toList = rowN w L
  tb : TabOk t (hsN w L)
  one : (L.map Prod.snd).Nodup
  key : ∀ z ∈ L, KA h z.2 z.1
  ld : w.params.followText "set-order" = true ∨ t.led = true
  free : L.length * 5 < t.mask * 3
  few : L.length < 64
def st0 (m : Nat) (h : Int) : SetTable.Probe := runAt m (SetTable.bits h % (m + 1)) (SetTable.bits h)
theorem way_st0 (m : Nat) (h : Int) (k : Nat) : way m h k = (nth m (st0 m h) k).j := rfl
theorem no_dummy (m : Nat) : ∀ (n : Nat) (p : SetTable.Probe), p.dummy = none → (nth m p n).dummy = none
  | 0, _, e => e
  | n + 1, p, e => no_dummy m n (adv m p) (by unfold adv; split <;> exact e)
theorem same_mem (t : SetTable) : t.sameMemory t.moves t.mask = some true := by simp [SetTable.sameMemory]
section
variable {P : Program} {w : World} {A : Around} {E : Value → Shared → Prop} {s : Shared} {h : Heap} {a : Addr} {L : KL} {es : Array (Int × Value)} {ep : Nat} {t : SetTable}
theorem NSt.len (R : NSt w h a L es ep t) : es.size = L.length := by rw [← Array.length_toList, R.row]; simp [rowN]
theorem NSt.plen (R : NSt w h a L es ep t) : t.place.size = L.length := by rw [R.tb.sz, List.length_map]
theorem NSt.ok (R : NSt w h a L es ep t) : t.fits es.size = true := by
  have h1 := R.len
  have h2 := R.plen
  have h3 := R.free
  simp only [SetTable.fits, SetTable.fill, R.tb.dm, Bool.and_eq_true, beq_iff_eq, decide_eq_true_eq]
  simp
  omega
theorem NSt.odd (R : NSt w h a L es ep t) : ¬ t.gaveWay = true := by simp [SetTable.gaveWay, mask_odd R.tb.mok]
theorem NSt.at (R : NSt w h a L es ep t) {i : Nat} {z : Addr × NestedKey} (e : L[i]? = some z) : es[i]? = some (NestedKey.hash w z.2, .ref z.1) := by
  rw [← Array.getElem?_toList, R.row, rowN, List.getElem?_map, e]
  rfl
/-- the search, from the c-th step of the way on -/
theorem seek (R : NSt w s.heap a L es ep t) {x : Addr} {k : NestedKey} (hx : KA s.heap k x) (hu : A.units + 8 < cLine) {K : Nat} (big : K < 10 * SetTable.turns t.mask)
    (out : way t.mask (k.hash w) K ∉ t.place.toList) (inn : ∀ c, c < K → way t.mask (k.hash w) c ∈ t.place.toList) {add : Bool} {Q : SetFound → Shared → Prop}
    (yes : k ∈ L.map Prod.snd → ∀ i, (add = false → ∃ j, i = some j) → Q (.there i) s) (no : k ∉ L.map Prod.snd → Q (.free (way t.mask (k.hash w) K) false) s) :
    ∀ (f c : Nat) (sd : Option SetTable.Probe), sd.getD (t.probeStart (k.hash w)) = nth t.mask (st0 t.mask (k.hash w)) c → c ≤ K → K < f + c →
      (∀ (i : Nat) (z : Addr × NestedKey), L[i]? = some z → z.2 = k → ∃ c', (c ≤ c' ∧ c' < K) ∧ t.place.toList[i]? = some (way t.mask (k.hash w) c')) → wpAny (model P w) A (setSearchFrom a (.ref x) (k.hash w) add f sd) Q E s := by
  intro f
  induction f with
  | zero => exact fun c sd _ h1 h2 _ => absurd h2 (by omega)
  | succ f ih =>
    intro c sd e0 hc hf ahead
    have ⟨ob, g1, g2, g3⟩ := R.obj
    have sh : ∀ q, nth t.mask (nth t.mask (st0 t.mask (k.hash w)) c) q = nth t.mask (st0 t.mask (k.hash w)) (c + q) := fun q => (nth_add t.mask c _ q).symm
    have shj : ∀ q, (nth t.mask (nth t.mask (st0 t.mask (k.hash w)) c) q).j = way t.mask (k.hash w) (c + q) := fun q => by rw [sh]; rfl
    have hsh : ∀ (i : Nat) z, L[i]? = some z → (es[i]?.map Prod.fst).getD 0 = NestedKey.hash w z.2 := fun i z e => by rw [R.at e]; rfl
    rw [setSearchFrom_succ]
    refine wpAny_bind (wpAny_setState_of g1 g3 R.ok (wp_if_neg R.odd ?_))
    try refine wpAny_bind (wpAny_pure ?_)
    have sp := go_spec t R.tb.ris R.tb.dm (fun i => (es[i]?.map (·.1)).getD 0) (k.hash w) (10 * SetTable.turns t.mask) (K - c) _ (no_dummy t.mask c (st0 t.mask (k.hash w)) rfl) (by omega)
      (fun q hq => by rw [shj]; exact inn _ (by omega)) (by rw [shj, Nat.add_sub_cancel' hc]; exact out)
    rw [← e0] at sp
    rcases sp with ⟨q, i, hq, hi, hh, hno, hpr⟩ | ⟨hno, hpr⟩
    · rw [show t.probe (fun i => (es[i]?.map (·.1)).getD 0) (k.hash w) (sd.getD (t.probeStart (k.hash w))) = _ from hpr]
      rw [e0, shj] at hi
      have il : i < L.length := by
        have := (List.getElem?_eq_some_iff.mp hi).1
        rw [Array.length_toList, R.plen] at this
        exact this
      obtain ⟨z, hz⟩ : ∃ z, L[i]? = some z := ⟨_, List.getElem?_eq_getElem il⟩
      have zm := List.mem_of_getElem? hz
      have zk := R.key z zm
      have fin : ∀ (j : Nat) (nx : SetTable.Probe), j = way t.mask (k.hash w) (c + q) → nx = nth t.mask (st0 t.mask (k.hash w)) (c + (q + 1)) → wpAny (model P w) A (searchRest a (.ref x) (k.hash w) add f es t j i nx) Q E s := fun j nx ej en => by
        subst ej
        subst en
        unfold searchRest
        rw [R.at hz]
        refine wpAny_bind (wpAny_holding (eqAt_key z.2 k A s _ _ zk.1 hx.1 (by have := hx.2; omega) P w _ _ ?_))
        refine wpAny_bind (wpAny_setState_of g1 g3 R.ok ?_)
        dsimp only
        rw [same_mem]
        have live : t.slot (way t.mask (k.hash w) (c + q)) = .live i := slot_live R.tb.ris hi
        by_cases e : NestedKey.beq z.2 k = true
        · have ek := NestedKey.eq_of_beq _ _ e
          have mk : k ∈ L.map Prod.snd := List.mem_map.mpr ⟨z, zm, ek⟩
          cases add with
          | true => exact wp_if_pos (by rw [e]; rfl) (wpAny_pure (yes mk _ fun e => nomatch e))
          | false =>
            refine wp_if_neg (by simp) ?_
            try refine wpAny_bind (wpAny_pure ?_)
            try dsimp only
            rw [live]
            rw [if_pos (rfl : true = true)]
            dsimp only
            rw [R.at hz]
            refine wpAny_bind (wpAny_isSame_ref_self (wpAny_bind (wpAny_pure ?_)))
            rw [if_pos (rfl : true = true)]
            dsimp only
            rw [e]
            exact wp_if_pos rfl (wpAny_pure (yes mk _ fun _ => ⟨_, rfl⟩))
        · have ef : NestedKey.beq z.2 k = false := by simpa using e
          refine wp_if_neg (by rw [ef]; simp) ?_
          try refine wpAny_bind (wpAny_pure ?_)
          try dsimp only
          rw [live]
          rw [if_pos (rfl : true = true)]
          dsimp only
          rw [R.at hz]
          refine wpAny_bind (wpAny_isSame_ref_self (wpAny_bind (wpAny_pure ?_)))
          rw [if_pos (rfl : true = true)]
          dsimp only
          rw [ef]
          refine wp_if_neg (by simp) ?_
          have nk : z.2 ≠ k := fun e2 => by rw [e2, NestedKey.beq_self] at ef; cases ef
          refine ih (c + (q + 1)) _ rfl (by omega) (by omega) fun i0 z0 h0 k0 => ?_
          obtain ⟨c', ⟨a1, a2⟩, a3⟩ := ahead i0 z0 h0 k0
          refine ⟨c', ⟨?_, a2⟩, a3⟩
          rcases Nat.lt_trichotomy c' (c + q) with l | l | l
          · refine absurd ((hsh i0 z0 h0).trans (congrArg (NestedKey.hash w) k0)) (hno (c' - c) i0 (by omega) ?_)
            rw [e0, shj, Nat.add_sub_cancel' a1]
            exact a3
          · rw [l] at a3
            have z1 := slot_live R.tb.ris a3
            rw [live] at z1
            injection z1 with z1
            rw [← z1, hz] at h0
            cases h0
            exact absurd k0 nk
          · omega
      have fin' := fin (nth t.mask (sd.getD (t.probeStart (k.hash w))) q).j (nth t.mask (sd.getD (t.probeStart (k.hash w))) (q + 1)) (by rw [e0, shj]) (by rw [e0, sh])
      by_cases hl : t.led = true
      · refine wp_if_neg (by simp [hl]) ?_
        try refine wpAny_bind (wpAny_pure ?_)
        exact fin'
      · refine wp_if_pos (by simp [hl]) (wpAny_bind (unseen hx (fun y hy => ?_) ?_))
        · obtain ⟨r, hr, rfl⟩ := List.mem_map.mp hy
          have hr' : r ∈ es.toList := by
            have := Array.mem_filter.mp (Array.mem_toList_iff.mp hr)
            exact Array.mem_toList_iff.mpr this.1
          rw [R.row] at hr'
          obtain ⟨z0, m0, rfl⟩ := List.mem_map.mp hr'
          exact ⟨z0.2, z0.1, rfl, R.key z0 m0⟩
        · exact wp_if_neg (by decide) (by first | exact fin' | exact wpAny_bind (wpAny_pure fin'))
    · rw [show t.probe (fun i => (es[i]?.map (·.1)).getD 0) (k.hash w) (sd.getD (t.probeStart (k.hash w))) = _ from hpr]
      rw [e0, shj, Nat.add_sub_cancel' hc]
      refine wpAny_pure (no fun m => ?_)
      obtain ⟨z0, m0, k0⟩ := List.mem_map.mp m
      obtain ⟨i0, hi0, ei⟩ := List.getElem_of_mem m0
      have h0 : L[i0]? = some z0 := by rw [List.getElem?_eq_getElem hi0, ei]
      obtain ⟨c', ⟨a1, a2⟩, a3⟩ := ahead i0 z0 h0 k0
      refine absurd ((hsh i0 z0 h0).trans (congrArg (NestedKey.hash w) k0)) (hno (c' - c) i0 (by omega) ?_)
      rw [e0, shj, Nat.add_sub_cancel' a1]
      exact a3
/-- a search of a set -/
theorem search (R : NSt w s.heap a L es ep t) {x : Addr} {k : NestedKey} (hx : KA s.heap k x) (hu : A.units + 8 < cLine) {add : Bool} {Q : SetFound → Shared → Prop}
    (yes : k ∈ L.map Prod.snd → ∀ i, (add = false → ∃ j, i = some j) → Q (.there i) s)
    (no : ∀ K, k ∉ L.map Prod.snd → way t.mask (k.hash w) K ∉ t.place.toList → (∀ c, c < K → way t.mask (k.hash w) c ∈ t.place.toList) → Q (.free (way t.mask (k.hash w) K) false) s) :
    wpAny (model P w) A (setSearch a (.ref x) (k.hash w) add) Q E s := by
  have fr := R.free
  obtain ⟨K, b1, b2, b3⟩ := R.tb.first (by rw [List.length_map]; omega) (k.hash w)
  refine seek R hx hu b1 b2 b3 yes (fun n => no K n b2 b3) 100000 0 none rfl (Nat.zero_le _) ?_ fun i z hz hk => ?_
  · have : SetTable.turns t.mask ≤ 142 := by
      unfold SetTable.turns
      rcases R.tb.mok with e | e | e <;> omega
    omega
  · have i1 : i < t.place.toList.length := by
      rw [Array.length_toList, R.plen]
      exact (List.getElem?_eq_some_iff.mp hz).1
    have i2 : (hsN w L)[i]? = some (k.hash w) := by rw [List.getElem?_map, hz, ← hk]; rfl
    have i3 := List.getElem?_eq_getElem i1
    obtain ⟨c, c1, c2⟩ := R.tb.before b2 i2 i3
    exact ⟨c, ⟨Nat.zero_le _, c1⟩, by rw [i3, c2]⟩
end
end NS

set_option Elab.async false
set_option linter.all false
set_option maxRecDepth 100000
set_option maxHeartbeats 4000000
namespace NS
open PySem PySem.Spec PyProof.Rows L2
theorem all_picked {α : Type} : ∀ L : List α, (List.range L.length).filterMap (fun i => L[i]?) = L
  | [] => rfl
  | x :: L => by
    rw [List.length_cons, List.range_succ_eq_map, List.filterMap_cons_some (f := fun i => (x :: L)[i]?) (b := x) rfl, List.filterMap_map]
    exact congrArg (x :: ·) (all_picked L)
theorem some_picked {α β : Type} (L : List α) (M : Nat → Option β) (f : α → β) (e : ∀ i z, L[i]? = some z → M i = some (f z)) : ∀ l : List Nat, (∀ i ∈ l, i < L.length) → l.filterMap M = (l.filterMap (fun i => L[i]?)).map f
  | [], _ => rfl
  | i :: l, h => by
    have hi := List.getElem?_eq_getElem (h i List.mem_cons_self)
    rw [List.filterMap_cons_some (e _ _ hi), List.filterMap_cons_some hi, List.map_cons, some_picked L M f e l fun j m => h j (List.mem_cons_of_mem _ m)]
theorem picked_map {α β : Type} (L : List α) (g : Nat → β) (f : α → β) (e : ∀ i z, L[i]? = some z → g i = f z) : ∀ l : List Nat, (∀ i ∈ l, i < L.length) → l.map g = (l.filterMap (fun i => L[i]?)).map f
  | [], _ => rfl
  | i :: l, h => by
    have hi := List.getElem?_eq_getElem (h i List.mem_cons_self)
    rw [List.filterMap_cons_some hi, List.map_cons, List.map_cons, e _ _ hi, picked_map L g f e l fun j m => h j (List.mem_cons_of_mem _ m)]
theorem rowN_len {w : World} {L : KL} {l : List (Int × Value)} (e : l = rowN w L) : l.length = L.length := by rw [e, rowN, List.length_map]
section
variable {P : Program} {w : World} {A : Around} {E : Value → Shared → Prop} {s : Shared} {h : Heap} {a : Addr} {L : KL} {es : Array (Int × Value)} {ep : Nat} {t : SetTable}
theorem KA.same {h h' : Heap} {k : NestedKey} {b : Addr} (x : KA h k b) (ho : SetObj h a es ep t) (d : Heap.SameBut a h h') : KA h' k b := ⟨NestedIs.at (fun c o vs n e1 e2 => by
  refine (d.2 c fun z => ?_).trans e1
  subst z
  have ⟨ob, g1, _, g3⟩ := ho
  rw [g1] at e1
  cases e1
  rw [g3] at e2
  cases e2) k _ x.1, x.2⟩
/-- what the table holds, laid anew and larger -/
theorem larger {ob : Obj} (g1 : s.heap.get? a = some ob) (g2 : ob.ExactSet) (g3 : ob.data = .set es ep t) (row : es.toList = rowN w L) (hp : t.place.size = L.length) (dm : t.dummies = #[]) (fl : L.length ≤ t.mask)
    (one : (L.map Prod.snd).Nodup) (key : ∀ z ∈ L, KA s.heap z.2 z.1) (ld : w.params.followText "set-order" = true ∨ t.led = true) (few : L.length < 64) {wanted M : Nat}
    (hM : MaskOk M) (hw : SetTable.sizeAbove wanted = M + 1) (fr : L.length * 5 < M * 3) {Q : Unit → Shared → Prop}
    (q : ∀ h' L' es' ep' t', Heap.SameBut a s.heap h' → NSt w h' a L' es' ep' t' → L'.Perm L → Q () { s with heap := h' }) : wpAny (model P w) A (setRelay a wanted) Q E s := by
  have el : es.size = L.length := by rw [← Array.length_toList]; exact rowN_len row
  have at' : ∀ (i : Nat) (z : Addr × NestedKey), L[i]? = some z → es[i]? = some (NestedKey.hash w z.2, Value.ref z.1) := fun i z e => by
    rw [← Array.getElem?_toList, row, rowN, List.getElem?_map, e]
    rfl
  have fit : t.fits es.size = true := by
    simp only [SetTable.fits, SetTable.fill, dm, Bool.and_eq_true, beq_iff_eq, decide_eq_true_eq]
    simp
    omega
  have hz : (es.map (·.1)).size = L.length := by rw [Array.size_map, el]
  have M128 : M + 1 ≤ 128 := by rcases hM with e | e | e <;> omega
  obtain ⟨t', order, r1, r2, r3, r4, r5, r6, r7⟩ := relaid_ok t (hs := es.map (·.1)) (wanted := wanted) (M := M) (by omega) hM (by omega)
  rw [hz] at r2
  have inb : ∀ i ∈ order.toList, i < L.length := fun i m => List.mem_range.mp (r2.mem_iff.mp m)
  obtain ⟨L2, eL⟩ : ∃ L2, L2 = order.toList.filterMap (fun i => L[i]?) := ⟨_, rfl⟩
  have p1 : (order.filterMap (es[·]?)).toList = rowN w L2 := by
    rw [Array.toList_filterMap, eL]
    exact some_picked L _ _ at' _ inb
  have p2 : (order.toList.map fun i => (es.map (·.1)).getD i 0) = hsN w L2 := by
    rw [eL]
    refine picked_map L _ _ (fun i z e => ?_) _ inb
    rw [Array.getD_eq_getD_getElem?, Array.getElem?_map, at' i z e]
    rfl
  have pm : L2.Perm L := by
    have := r2.filterMap (fun i => L[i]?)
    rw [all_picked, ← eL] at this
    exact this
  rw [p2] at r3
  have len2 : (order.filterMap (es[·]?)).size = es.size := by rw [← Array.length_toList, rowN_len p1, pm.length_eq, el]
  rw [setRelay_eq]
  refine wpAny_bind (wpAny_setState_of g1 g3 fit (wp_if_neg (by rw [hw, sizeLine_eq]; omega) ?_))
  try refine wpAny_bind (wpAny_pure ?_)
  rw [r1]
  refine wpAny_bind ?_
  refine wp_if_neg (by simp [len2]) ?_
  try refine wpAny_bind (wpAny_pure ?_)
  refine wpAny_pure ?_
  refine wpAny_storeSet_of g1 g3 ?_ (by rw [len2, el, sizeLine_eq]; omega)
  have d : Heap.SameBut a s.heap (s.heap.update a (Obj.putSet (order.filterMap (es[·]?)) t')) := Heap.SameBut.update ..
  exact q _ L2 _ _ t' d ⟨⟨_, store_at g1 g3, ⟨g2.1, g2.2.1, g2.2.2⟩, rfl⟩, p1, r3, (pm.map Prod.snd).nodup_iff.mpr one, fun z m => (key z (pm.mem_iff.mp m)).same ⟨ob, g1, g2, g3⟩ d, by rw [r5]; exact ld, by rw [pm.length_eq, r4]; exact fr, by rw [pm.length_eq]; exact few⟩ pm
/-- one key is put in, if it isn't there -/
theorem put_in (R : NSt w s.heap a L es ep t) {x : Addr} {k : NestedKey} (hx : KA s.heap k x) (hu : A.units + 8 < cLine) (hf : L.length + 1 < 64) {Q : Bool → Shared → Prop}
    (q : ∀ b h' L' es' ep' t', Heap.SameBut a s.heap h' → NSt w h' a L' es' ep' t' → (k ∈ L.map Prod.snd ∧ L' = L ∨ k ∉ L.map Prod.snd ∧ L'.Perm ((x, k) :: L)) → Q b { s with heap := h' }) :
    wpAny (model P w) A (setAddHashed a (.ref x) (k.hash w)) Q E s := by
  have ⟨ob, g1, g2, g3⟩ := R.obj
  have fr := R.free
  have el := R.len
  unfold setAddHashed
  refine wpAny_holding ?_
  show wpAny _ _ (setAddHashedIn a (.ref x) (k.hash w) (99999 + 1)) _ _ _
  rw [setAddHashedIn_succ]
  refine wpAny_bind (wpAny_setState_of g1 g3 R.ok (wp_if_neg (by simp [byScan, Value.scannable]) ?_))
  try refine wpAny_bind (wpAny_pure ?_)
  refine wpAny_bind (search R hx hu (fun m i _ => ?_) fun K m out inn => ?_)
  · exact wpAny_pure (q false s.heap L es ep t (Heap.SameBut.refl a s.heap) R (.inl ⟨m, rfl⟩))
  refine wpAny_bind (wpAny_setState_of g1 g3 R.ok ?_)
  dsimp only
  obtain ⟨q1, q2, q3, q4, q5, q6, q7, q8, q9⟩ := R.tb.put out inn
  generalize ept : t.put (way t.mask (k.hash w) K) = pt at q1 q3 q4 q5 q6 q7 q8 q9 ⊢
  obtain ⟨t1, pp⟩ := pt
  dsimp only at q1 q3 q4 q5 q6 q7 q8 q9 ⊢
  -- whatever is said of the hash, the table goes on
  have rest : ∀ t2 : SetTable, (t2 = t1 ∨ t2 = { t1 with plain := false }) → wpAny (model P w) A (do
      storeSet a (SetTable.insertAt es pp (k.hash w, .ref x)) t2
      if !false && t2.tooFull then setRelay a (SetTable.grown (es.size + 1))
      return true) Q E s := fun t2 e2 => by
    have f1 : t2.mask = t.mask := by rcases e2 with e | e <;> rw [e] <;> exact q4
    have f2 : t2.place = t1.place := by rcases e2 with e | e <;> rw [e]
    have f3 : t2.dummies = t1.dummies := by rcases e2 with e | e <;> rw [e]
    have f4 : t2.led = t.led := by rcases e2 with e | e <;> rw [e] <;> exact q5
    have f5 : t2.fill = L.length + 1 := by
      have : t2.fill = t1.fill := by unfold SetTable.fill; rw [f2, f3]
      rw [this, q9, List.length_map]
    subst q1
    have row1 : (SetTable.insertAt es (SetTable.below t.place (way t.mask (k.hash w) K)) (k.hash w, .ref x)).toList = rowN w (L.take (SetTable.below t.place (way t.mask (k.hash w) K)) ++ (x, k) :: L.drop (SetTable.below t.place (way t.mask (k.hash w) K))) := by
      rw [SetTable.toList_insertAt, R.row]
      simp [rowN, List.map_take, List.map_drop]
    have tb1 : TabOk t2 (hsN w (L.take (SetTable.below t.place (way t.mask (k.hash w) K)) ++ (x, k) :: L.drop (SetTable.below t.place (way t.mask (k.hash w) K)))) := by
      have e : hsN w (L.take (SetTable.below t.place (way t.mask (k.hash w) K)) ++ (x, k) :: L.drop (SetTable.below t.place (way t.mask (k.hash w) K))) = (hsN w L).take (SetTable.below t.place (way t.mask (k.hash w) K)) ++ k.hash w :: (hsN w L).drop (SetTable.below t.place (way t.mask (k.hash w) K)) := by
        simp [hsN, List.map_take, List.map_drop]
      rw [e]
      rcases e2 with e2 | e2 <;> rw [e2]
      · exact q3
      · exact ⟨q3.ris, q3.dm, q3.sz, q3.mok, q3.bd, q3.reach⟩
    generalize SetTable.below t.place (way t.mask (k.hash w) K) = b at row1 tb1 ⊢
    have pm := put_perm L b (x, k)
    generalize L.take b ++ (x, k) :: L.drop b = L1 at row1 tb1 pm
    have len1 : L1.length = L.length + 1 := by rw [pm.length_eq, List.length_cons]
    generalize SetTable.insertAt es b (k.hash w, .ref x) = es1 at row1 ⊢
    have sz1 : es1.size = L.length + 1 := by rw [← Array.length_toList, rowN_len row1, len1]
    refine wpAny_bind (wpAny_storeSet_of g1 g3 ?_ (by rw [sz1, sizeLine_eq]; omega))
    have d1 : Heap.SameBut a s.heap (s.heap.update a (Obj.putSet es1 t2)) := Heap.SameBut.update ..
    have o1 := store_at (es' := es1) (t' := t2) g1 g3
    generalize s.heap.update a (Obj.putSet es1 t2) = h1 at d1 o1 ⊢
    have key1 : ∀ z ∈ L1, KA h1 z.2 z.1 := fun z m => by
      rcases List.mem_cons.mp (pm.mem_iff.mp m) with e | m
      · rw [e]; exact hx.same R.obj d1
      · exact (R.key z m).same R.obj d1
    have one1 : (L1.map Prod.snd).Nodup := (pm.map Prod.snd).nodup_iff.mpr (by rw [List.map_cons]; exact List.nodup_cons.mpr ⟨m, R.one⟩)
    have ld1 : w.params.followText "set-order" = true ∨ t2.led = true := by rw [f4]; exact R.ld
    by_cases full : t2.tooFull = true
    · have big : (L.length + 1) * 5 ≥ t.mask * 3 := by
        have := full
        simp only [SetTable.tooFull, decide_eq_true_eq, f5, f1] at this
        exact this
      refine wp_if_pos (show (!false && t2.tooFull) = true by rw [full]; rfl) (wpAny_bind ?_)
      have grow : ∀ M, MaskOk M → SetTable.sizeAbove (SetTable.grown (es.size + 1)) = M + 1 → L.length + 1 ≤ t.mask → L1.length * 5 < M * 3 → wpAny (model P w) A (setRelay a (SetTable.grown (es.size + 1))) (fun _ s' => wpAny (model P w) A (pure true) Q E s') E { s with heap := h1 } := fun M hM e le hn => by
        refine larger (s := { s with heap := h1 }) o1 ⟨g2.1, g2.2.1, g2.2.2⟩ rfl row1 (by rw [tb1.sz, List.length_map]) tb1.dm (by rw [f1, len1]; exact le) one1 key1 ld1 (by omega) hM e hn fun h2 L2 es2 ep2 t3 d2 R2 pm2 => ?_
        exact wpAny_pure (q true h2 L2 es2 ep2 t3 (d1.trans d2) R2 (.inr ⟨m, pm2.trans pm⟩))
      rcases R.tb.mok with e | e | e <;> rw [e] at fr big
      · have : L.length = 4 := by omega
        exact grow 31 (.inr (.inl rfl)) (by rw [el, this]; exact size_20) (by omega) (by omega)
      · have : L.length = 18 := by omega
        exact grow 127 (.inr (.inr rfl)) (by rw [el, this]; exact size_76) (by omega) (by omega)
      · omega
    · refine wp_if_neg (show ¬ (!false && t2.tooFull) = true from full) ?_
      refine wpAny_pure (q true h1 L1 es1 (ep + 1) t2 d1 ⟨⟨_, o1, ⟨g2.1, g2.2.1, g2.2.2⟩, rfl⟩, row1, tb1, one1, key1, ld1, ?_, by omega⟩ (.inr ⟨m, pm⟩))
      have := full
      simp only [SetTable.tooFull, decide_eq_true_eq, f5] at this
      omega
  by_cases hp : t1.plain = true
  · first
      | (refine wp_if_pos hp (wpAny_bind (by_val k _ 8 _ s _ hx.1 fun b => ?_)))
      | (refine wpAny_bind (wp_if_pos hp (by_val k _ 8 _ s _ hx.1 fun b => ?_)))
    cases b
    · exact rest _ (.inr rfl)
    · exact rest _ (.inl rfl)
  · first
      | (refine wp_if_neg hp (wpAny_bind (wpAny_pure ?_)))
      | (refine wpAny_bind (wp_if_neg hp (wpAny_pure ?_)))
    exact rest _ (.inl rfl)
end
end NS

set_option Elab.async false
set_option linter.all false
set_option maxRecDepth 100000
set_option maxHeartbeats 4000000
namespace NS
open PySem PySem.Spec PyProof.Rows L2
def emptyObj (w : World) : Obj := { cls := .type "set", dict := none, data := .set #[] 0 (.fresh 0 0 (!w.params.followText "set-order")) }
section
variable {P : Program} {w : World} {A : Around} {E : Value → Shared → Prop} {s : Shared}
theorem set_from {T : String} (c1 : isSubtype (.type T) (.type "set") = pure false) (c2 : isSubtype (.type T) (.type "frozenset") = pure false) (c3 : (Value.type T == Value.type "dict") = false) {l : Addr} {ob : Obj} (g : s.heap.get? l = some ob) (gc : ob.cls = .type T)
    {Good : Shared → Prop} {Q : Value → Shared → Prop}
    (go : ∀ {B : Around} {q : Value → Shared → Prop}, B.handled = A.handled → B.units ≤ A.units + 3 → (∀ s', Good s' → q .none s') → wpAny (model P w) B (pyIter (.ref l)) (fun it s1 => wpAny (model P w) B (runValue (.builtin "set.update.loop" ⟨[.ref s.heap.objs.size, it], []⟩)) q E s1) E { s with heap := s.heap.push (emptyObj w) })
    (h : ∀ s', Good s' → Q (.ref s.heap.objs.size) s') :
    wpAny (model P w) A (call (.type "set") [.ref l]) Q E s := by
  obtain ⟨mc, mt, mro⟩ := F.called_set.mro
  have x1 := F.called_set.made
  have x2 := F.called_set.sub
  have x3 := F.called_set.notType
  have x4 := F.called_set.canCreate
  have x5 := F.typeCall_set_1 (.ref l)
  refine wpAny_call (codeAny_of_tree ?_)
  show wpAny _ _ (callAny (.type "set") _) _ _ _
  refine wpAny_pure ⟨Code.quiet_builtin _ (by decide +kernel), codeAny_builtin F.entry_type_call ?_⟩
  rw [Around.under_plain (weight_type_call_type "set" [.ref l] []) rfl]
  repeat (any_goals (first | assumption | wp_step))
  refine codeAny_mono (code_set_led1 (.ref l) (E := E) (Q₁ := fun v s1 => v = .ref s.heap.objs.size ∧ s1 = { s with heap := s.heap.push (emptyObj w) }) ⟨rfl, rfl⟩) fun r s1 hr => ?_
  match r, hr with
  | .error e, hr => exact hr
  | .ok (.ret v), hr =>
    obtain ⟨e1, e2⟩ := hr
    subst e1
    subst e2
    have gS : (s.heap.push (emptyObj w)).get? s.heap.objs.size = some (emptyObj w) := Heap.get?_push_size _ rfl
    have tS : Shared.TypeIs { s with heap := s.heap.push (emptyObj w) } (.ref s.heap.objs.size) "set" := ⟨_, gS, rfl⟩
    have x6 := F.called_set.init.lookup
    have x7 := F.called_set.init.bind (.ref s.heap.objs.size)
    repeat (any_goals (first | assumption | wp_step))
    refine codeAny_mono (codeAny_call_builtin (R := wants (fun v s2 => v = .none ∧ Good s2) E) F.called_set.init.plain F.entry_set_init (check_set_init_1 tS ?_)) fun r s2 hr => ?_
    · obtain ⟨a1, a2, a3, a4⟩ := ob
      dsimp only at gc
      subst gc
      have g' : (s.heap.push (emptyObj w)).get? l = some { cls := .type T, dict := a2, data := a3, slots := a4 } := Heap.get?_push_of_some _ g
      unfold Builtin.«set.__init__» noKeywords Builtin.Frozenset.updateFrom
      generalize hp : pyIter = pit at go ⊢
      generalize hr : runValue = rv at go ⊢
      wp_walk
      refine wpAny_mono (go (by simp) (by simp [Around.in1_units]) fun s2 z => ?_) (fun it s2 z => wpAny_bind z) fun _ _ z => z
      exact wpAny_pure (wpAny_pure ⟨rfl, z⟩)
    · match r, hr with
      | .error e, hr => exact hr
      | .ok (.ret v), hr =>
        obtain ⟨e1, z⟩ := hr
        subst e1
        repeat (any_goals (first | assumption | wp_step))
        exact h _ z
      | .ok .next, hr => exact hr.elim
      | .ok .brk, hr => exact hr.elim
      | .ok .cont, hr => exact hr.elim
  | .ok .next, hr => exact hr.elim
  | .ok .brk, hr => exact hr.elim
  | .ok .cont, hr => exact hr.elim
/-- what the first i keys of a list leave in a set -/
structure Fil (ks : KL) (i : Nat) (L : KL) : Prop where
  of : ∀ z ∈ L, z ∈ ks.take i
  to : ∀ z ∈ ks.take i, z.2 ∈ L.map Prod.snd
  le : L.length ≤ i
theorem Fil.step {ks L L' : KL} {i : Nat} {z : Addr × NestedKey} (g : Fil ks i L) (e : ks[i]? = some z) (c : z.2 ∈ L.map Prod.snd ∧ L' = L ∨ z.2 ∉ L.map Prod.snd ∧ L'.Perm ((z.1, z.2) :: L)) : Fil ks (i + 1) L' := by
  have tk : ks.take (i + 1) = ks.take i ++ [z] := by rw [List.take_succ, e]; rfl
  rcases c with ⟨m, rfl⟩ | ⟨_, pm⟩
  · refine ⟨fun y hy => by rw [tk]; exact List.mem_append_left _ (g.of y hy), fun y hy => ?_, Nat.le_succ_of_le g.le⟩
    rw [tk] at hy
    rcases List.mem_append.mp hy with hy | hy
    · exact g.to y hy
    · rw [List.mem_singleton.mp hy]; exact m
  · refine ⟨fun y hy => ?_, fun y hy => ?_, by rw [pm.length_eq, List.length_cons]; exact Nat.succ_le_succ g.le⟩
    · rw [tk]
      rcases List.mem_cons.mp (pm.mem_iff.mp hy) with hy | hy
      · rw [hy]; exact List.mem_append_right _ List.mem_cons_self
      · exact List.mem_append_left _ (g.of y hy)
    · rw [(pm.map Prod.snd).mem_iff, List.map_cons]
      rw [tk] at hy
      rcases List.mem_append.mp hy with hy | hy
      · exact List.mem_cons_of_mem _ (g.to y hy)
      · rw [List.mem_singleton.mp hy]; exact List.mem_cons_self
theorem KA.mono {h h' : Heap} {k : NestedKey} {b : Addr} (x : KA h k b) (d : ∀ c o, h.get? c = some o → h'.get? c = some o) : KA h' k b := ⟨NestedIs.at (fun c o _ _ e _ => d c o e) k _ x.1, x.2⟩
theorem NSt.mono {h h' : Heap} {a : Addr} {L : KL} {es : Array (Int × Value)} {ep : Nat} {t : SetTable} (R : NSt w h a L es ep t) (d : ∀ o, h.get? a = some o → h'.get? a = some o) (key : ∀ z ∈ L, KA h' z.2 z.1) : NSt w h' a L es ep t :=
  have ⟨ob, g1, g2⟩ := R.obj
  ⟨⟨ob, d _ g1, g2⟩, R.row, R.tb, R.one, key, R.ld, R.free, R.few⟩
theorem NSt.fresh {h : Heap} {a : Addr} (g : h.get? a = some (emptyObj w)) : NSt w h a [] #[] 0 (.fresh 0 0 (!w.params.followText "set-order")) where
  obj := ⟨_, g, ⟨rfl, rfl, rfl⟩, rfl⟩
  row := rfl
  tb := ⟨List.Pairwise.nil, rfl, rfl, .inl rfl, (fun _ m => nomatch m), fun i _ _ e => nomatch (show (none : Option Int) = _ from e)⟩
  one := List.nodup_nil
  key := fun _ m => nomatch m
  ld := by
    cases e : w.params.followText "set-order"
    · exact .inr rfl
    · exact .inl rfl
  free := by show 0 < 21; decide
  few := by show 0 < 64; decide
/-- the loop of set.update, over keys -/
theorem fill_loop {I S : Addr} {fp : List Addr} {ks : KL} {Pv : Nat → Value → Prop} {St : Nat → Heap → Prop} {R : Result → Shared → Prop} {h0 : Heap} (W : Walks P w A.in1 I fp [I] ks.length Pv St) (nS : S ∉ fp) (few : ks.length < 64)
    (val : ∀ i v, Pv i v → ∃ z, ks[i]? = some z ∧ v = .ref z.1) (keys : ∀ z ∈ ks, KA h0 z.2 z.1) (newS : h0.get? S = none) (newI : h0.get? I = none) (hu : A.in1.units + 8 < cLine) :
    ∀ (m i : Nat) (s : Shared), i + m = ks.length → St i s.heap → (∀ b o, h0.get? b = some o → s.heap.get? b = some o) → (∃ L es ep t, NSt w s.heap S L es ep t ∧ Fil ks i L) →
      (∀ h' tk L es ep t, NSt w h' S L es ep t → Fil ks ks.length L → (∀ b o, h0.get? b = some o → h'.get? b = some o) → R (.ok (.ret .none)) { s with heap := h', toks := tk }) →
      codeAny (model P w) A (.builtin "set.update.loop" ⟨[.ref S, .ref I], []⟩) R s := by
  have nI : S ≠ I := fun e => nS (by rw [e]; exact W.sub _ List.mem_cons_self)
  have kp : ∀ {h1 h2 : Heap}, (∀ b o, b ∉ [I] → h1.get? b = some o → h2.get? b = some o) → (∀ b o, h0.get? b = some o → h1.get? b = some o) → ∀ b o, h0.get? b = some o → h2.get? b = some o := fun mv k b o e =>
    mv b o (fun m => by rw [List.mem_singleton.mp m, newI] at e; cases e) (k b o e)
  have stay : ∀ {h1 h2 : Heap} {L : KL} {es : Array (Int × Value)} {ep : Nat} {t : SetTable} {i : Nat}, NSt w h1 S L es ep t → Fil ks i L → (∀ b o, b ∉ [I] → h1.get? b = some o → h2.get? b = some o) → (∀ b o, h0.get? b = some o → h2.get? b = some o) → NSt w h2 S L es ep t := fun R g mv k =>
    R.mono (fun o e => mv S o (fun m => nI (List.mem_singleton.mp m)) e) fun z m => (keys z (List.mem_of_mem_take (g.of z m))).mono k
  intro m
  induction m with
  | zero =>
    intro i s hi st k ⟨L, es, ep, t, R0, g⟩ q
    obtain rfl : i = ks.length := hi
    refine codeAny_builtin F.entry_set_update_loop ?_
    rw [Around.under_plainId F.plain_set_update_loop _]
    refine wpAny_bind (W.done s _ _ st fun h' tk mv => ?_)
    have k' := kp mv k
    exact wpAny_pure (q h' tk L es ep t (stay R0 g mv k') g k')
  | succ m ih =>
    intro i s hi st k ⟨L, es, ep, t, R0, g⟩ q
    refine codeAny_builtin F.entry_set_update_loop ?_
    rw [Around.under_plainId F.plain_set_update_loop _]
    refine wpAny_bind (W.item i s _ _ (by omega) st fun v h1 tk pv st1 mv => ?_)
    obtain ⟨z, hz, rfl⟩ := val i v pv
    have k1 := kp mv k
    have x : KA h1 z.2 z.1 := (keys z (List.mem_of_getElem? hz)).mono k1
    refine wpAny_bind (wpAny_holding ?_)
    unfold setAdd
    refine wpAny_holding (wpAny_bind (pyHash_key z.2 _ A.in1 { s with heap := h1, toks := tk } _ x.1 (by have := x.2; omega) ?_))
    have gl := g.le
    refine put_in (s := { s with heap := h1, toks := tk + z.2.draws }) (stay R0 g mv k1) x hu (by omega) fun b h2 L2 es2 ep2 t2 d R2 c => ?_
    have off : ∀ b o, b ≠ S → h1.get? b = some o → h2.get? b = some o := fun b o n e => (d.2 b n).trans e
    have k2 : ∀ b o, h0.get? b = some o → h2.get? b = some o := fun b o e => off b o (fun n => by rw [n, newS] at e; cases e) (k1 b o e)
    refine wpAny_pure ⟨plainId_quiet F.plain_set_update_loop _, ih (i + 1) _ (by omega) (W.frame _ h1 h2 st1 fun b m o e => off b o (fun n => nS (by rw [← n]; exact m)) e) k2 ⟨L2, es2, ep2, t2, R2, g.step hz c⟩ fun h' tk' => q h' tk'⟩
theorem fresh_none (h : Heap) {b : Addr} (e : h.objs.size ≤ b) : h.get? b = none := by
  cases g : h.get? b with
  | none => rfl
  | some o => exact absurd (Heap.lt_size g) (Nat.not_lt.mpr e)
/-- set(xs) of a list or a tuple of keys -/
theorem set_keys {l : Addr} {items : Array Value} (ks : KL) {Q : Value → Shared → Prop} (hh : A.handled = none) (hl : s.heap.IsList l items ∨ s.heap.IsTuple l items) (hit : items.toList = ks.map fun z => Value.ref z.1)
    (keys : ∀ z ∈ ks, KA s.heap z.2 z.1) (few : ks.length < 64) (hu : A.units + 12 < cLine)
    (q : ∀ (h' : Heap) (tk : Nat) L es ep t, NSt w h' s.heap.objs.size L es ep t → Fil ks ks.length L → (∀ b o, s.heap.get? b = some o → h'.get? b = some o) → Q (.ref s.heap.objs.size) { s with heap := h', toks := tk }) :
    wpAny (model P w) A (call (.type "set") [.ref l]) Q E s := by
  have len : items.size = ks.length := by rw [← Array.length_toList, hit, List.length_map]
  have val : ∀ (i : Nat) (v : Value), items[i]? = some v → ∃ z, ks[i]? = some z ∧ v = .ref z.1 := fun i v e => by
    rw [← Array.getElem?_toList, hit, List.getElem?_map] at e
    cases g : ks[i]? with
    | none => rw [g] at e; cases e
    | some z => rw [g] at e; exact ⟨z, rfl, (Option.some.inj e).symm⟩
  have sz : (s.heap.push (emptyObj w)).objs.size = s.heap.objs.size + 1 := size_push' _ _
  have gS : (s.heap.push (emptyObj w)).get? s.heap.objs.size = some (emptyObj w) := Heap.get?_push_size _ rfl
  have lt : l < s.heap.objs.size := by
    rcases hl with ⟨o, e, _⟩ | ⟨o, e, _⟩ <;> exact Heap.lt_size e
  have ne1 : l ≠ (s.heap.push (emptyObj w)).objs.size := by rw [sz]; exact Nat.ne_of_lt (Nat.lt_succ_of_lt lt)
  have ne2 : s.heap.objs.size ∉ [(s.heap.push (emptyObj w)).objs.size, l] := fun m => by
    rcases List.mem_cons.mp m with e | m
    · rw [sz] at e; exact absurd e (Nat.ne_of_lt (Nat.lt_succ_self _))
    · exact absurd (List.mem_singleton.mp m) (Nat.ne_of_gt lt)
  rcases hl with hl | hl
  · obtain ⟨o, g, gc, gr⟩ := id hl
    refine set_from F.sub_list_set F.sub_list_frozenset (by decide) g gc (Good := fun s' => ∃ h' tk L es ep t, s' = { s with heap := h', toks := tk } ∧ NSt w h' s.heap.objs.size L es ep t ∧ Fil ks ks.length L ∧ ∀ b o, s.heap.get? b = some o → h'.get? b = some o) (fun {B q'} b1 b2 b3 => ?_) fun s' ⟨h', tk, L, es, ep, t, e, z1, z2, z3⟩ => by rw [e]; exact q h' tk L es ep t z1 z2 z3
    have l1 : (s.heap.push (emptyObj w)).IsList l items := ⟨o, Heap.get?_push_of_some _ g, gc, gr⟩
    refine wpAny_pyIter_list l1 (wpAny_runValue ?_)
    refine fill_loop (ks := ks) (h0 := s.heap) (len ▸ Walks.list (A := B.in1) (by simp [b1, hh]) _ l ne1 items) ne2 few val keys (fresh_none _ (Nat.le_refl _)) (fresh_none _ (by rw [sz]; omega)) (by rw [Around.in1_units]; omega)
      ks.length 0 _ (Nat.zero_add _) ⟨⟨_, Heap.get?_push_size _ rfl, rfl, rfl⟩, l1.push _⟩ (fun b o e => Heap.get?_push_of_some _ (Heap.get?_push_of_some _ e)) ⟨[], #[], 0, _, NSt.fresh (Heap.get?_push_of_some _ gS), ⟨fun _ m => (nomatch m), fun _ m => (nomatch m), Nat.le_refl _⟩⟩
      fun h' tk L es ep t z1 z2 z3 => b3 _ ⟨h', tk, L, es, ep, t, rfl, z1, z2, z3⟩
  · obtain ⟨o, g, gc, gr⟩ := id hl
    refine set_from F.sub_tuple_set F.sub_tuple_frozenset (by decide) g gc (Good := fun s' => ∃ h' tk L es ep t, s' = { s with heap := h', toks := tk } ∧ NSt w h' s.heap.objs.size L es ep t ∧ Fil ks ks.length L ∧ ∀ b o, s.heap.get? b = some o → h'.get? b = some o) (fun {B q'} b1 b2 b3 => ?_) fun s' ⟨h', tk, L, es, ep, t, e, z1, z2, z3⟩ => by rw [e]; exact q h' tk L es ep t z1 z2 z3
    have l1 : (s.heap.push (emptyObj w)).IsTuple l items := ⟨o, Heap.get?_push_of_some _ g, gc, gr⟩
    refine wpAny_pyIter_tuple l1 (wpAny_runValue ?_)
    refine fill_loop (ks := ks) (h0 := s.heap) (len ▸ Walks.tuple (A := B.in1) (by simp [b1, hh]) _ l ne1 items) ne2 few val keys (fresh_none _ (Nat.le_refl _)) (fresh_none _ (by rw [sz]; omega)) (by rw [Around.in1_units]; omega)
      ks.length 0 _ (Nat.zero_add _) ⟨⟨_, Heap.get?_push_size _ rfl, rfl, rfl⟩, l1.push _⟩ (fun b o e => Heap.get?_push_of_some _ (Heap.get?_push_of_some _ e)) ⟨[], #[], 0, _, NSt.fresh (Heap.get?_push_of_some _ gS), ⟨fun _ m => (nomatch m), fun _ m => (nomatch m), Nat.le_refl _⟩⟩
      fun h' tk L es ep t z1 z2 z3 => b3 _ ⟨h', tk, L, es, ep, t, rfl, z1, z2, z3⟩
end
end NS

set_option Elab.async false
set_option linter.all false
set_option maxRecDepth 100000
set_option maxHeartbeats 4000000
namespace NS
open PySem PySem.Spec PyProof.Rows L2 PySem.W E
/-! ### data as keys -/
mutual
def kbl : PyData → Bool
  | .list _ | .dict _ => false
  | .tuple xs => kbls xs
  | .none | .bool _ | .int _ | .str _ => true
def kbls : List PyData → Bool
  | [] => true
  | x :: xs => kbl x && kbls xs
end
mutual
def nkd : PyData → NestedKey
  | .none => .none
  | .bool b => .num (if b = true then 1 else 0)
  | .int i => .num i
  | .str x => .text x
  | .tuple xs => .tup (nkds xs)
  | .list _ => .none
  | .dict _ => .none
def nkds : List PyData → List NestedKey
  | [] => []
  | x :: xs => nkd x :: nkds xs
end
mutual
theorem nkd_is {h : Heap} : ∀ (d : PyData) (v : Value) (as : List Addr), Reads h v d as → kbl d = true → NestedIs h (nkd d) v
  | .none, _, _, r, _ => by cases r; exact .none
  | .bool b, _, _, r, _ => by cases r; exact .bool rfl
  | .int i, _, _, r, _ => by cases r; exact .int _ _
  | .str x, _, _, r, _ => by cases r; exact .text _ _
  | .tuple xs, _, _, r, k => by
    cases r with
    | tuple h1 h2 h3 h4 => exact .tup h1 h2 h3 (nkds_is xs _ _ h4 k)
  | .list _, _, _, _, k => nomatch k
  | .dict _, _, _, _, k => nomatch k
theorem nkds_is {h : Heap} : ∀ (ds : List PyData) (vs : List Value) (as : List Addr), ReadsAll h vs ds as → kbls ds = true → NestedAll h (nkds ds) vs
  | [], _, _, r, _ => by cases r; exact .nil
  | d :: ds, _, _, r, k => by
    have k' : (kbl d && kbls ds) = true := k
    rw [Bool.and_eq_true] at k'
    cases r with
    | cons r1 r2 => exact .cons (nkd_is d _ _ r1 k'.1) (nkds_is ds _ _ r2 k'.2)
end
mutual
theorem nkd_depth : ∀ d : PyData, (nkd d).depth ≤ d.depth
  | .none => Nat.le_refl _
  | .bool b => Nat.le_refl _
  | .int i => Nat.le_refl _
  | .str x => Nat.le_refl _
  | .tuple xs => Nat.succ_le_succ (nkds_depth xs)
  | .list _ => Nat.zero_le _
  | .dict _ => Nat.zero_le _
theorem nkds_depth : ∀ ds : List PyData, NestedKey.depthAll (nkds ds) ≤ PyData.depthAll ds
  | [] => Nat.le_refl _
  | d :: ds => by
    have h1 := nkd_depth d
    have h2 := nkds_depth ds
    show max (nkd d).depth (NestedKey.depthAll (nkds ds)) ≤ max d.depth (PyData.depthAll ds)
    omega
end
/-! ### the set as a known thing -/
structure NS0 (w : World) (h : Heap) (a : Addr) (L : KL) : Prop where
  is : ∃ es ep t, SetObj h a es ep t ∧ es.toList = rowN w L ∧ TabOk t (hsN w L) ∧ (L.map Prod.snd).Nodup ∧ (w.params.followText "set-order" = true ∨ t.led = true) ∧ L.length * 5 < t.mask * 3 ∧ L.length < 64
def NSO (w : World) (a : Addr) (L : KL) : HO := .ext fun h => NS0 w h a L
theorem NSt.zero {w : World} {h : Heap} {a : Addr} {L : KL} {es : Array (Int × Value)} {ep : Nat} {t : SetTable} (R : NSt w h a L es ep t) : NS0 w h a L := ⟨es, ep, t, R.obj, R.row, R.tb, R.one, R.ld, R.free, R.few⟩
theorem NS0.nst {w : World} {h : Heap} {a : Addr} {L : KL} (R : NS0 w h a L) (key : ∀ z ∈ L, KA h z.2 z.1) : ∃ es ep t, NSt w h a L es ep t := by
  obtain ⟨es, ep, t, h1, h2, h3, h4, h5, h6, h7⟩ := R.is
  exact ⟨es, ep, t, h1, h2, h3, h4, key, h5, h6, h7⟩
theorem nso_new {P : Program} {w : World} {H : Hp} {h : Heap} {a : Addr} {L : KL} (R : NS0 w h a L) : ObjOk P w H h a (NSO w a L) := by
  have ⟨es, ep, t, ⟨o, g, r⟩, q⟩ := R.is
  refine ⟨R, ⟨o, g⟩, fun h1 h2 p k => ?_⟩
  have ⟨es', ep', t', ⟨o', g', r'⟩, q'⟩ := NS0.is p
  exact ⟨es', ep', t', ⟨o', k _ g', r'⟩, q'⟩
/-! ### set(xs) -/
section
variable {β : Type}
def keyT (enc : β → PyData) (T : List (Addr × β)) : KL := T.map fun x => (x.1, nkd (enc x.2))
theorem pick_of {α γ : Type} {P : α → Prop} {g : α → γ} : ∀ L : List γ, (∀ z ∈ L, ∃ x, P x ∧ z = g x) → ∃ T : List α, L = T.map g ∧ ∀ x ∈ T, P x
  | [], _ => ⟨[], rfl, fun _ m => nomatch m⟩
  | z :: L, h => by
    obtain ⟨x, hx, rfl⟩ := h z List.mem_cons_self
    obtain ⟨T, rfl, hT⟩ := pick_of L fun y m => h y (List.mem_cons_of_mem _ m)
    exact ⟨x :: T, rfl, fun y m => by
      rcases List.mem_cons.mp m with rfl | m
      · exact hx
      · exact hT y m⟩
/-- what is wanted of the data of a set -/
def Keyable (d : PyData) : Prop := kbl d = true ∧ d.depth ≤ 8 ∧ ∃ ds, d = .tuple ds
def rSetB (K : PySem.W.Frag) (w : World) (enc : β → PyData) : List V → Hp → VK → Prop := fun vs H Q => ∃ (l : Addr) (xs : List V) (bs : List β), vs = [.ref l] ∧ (SqL K H l xs ∨ SqT K H l xs) ∧ DpAll K H xs (bs.map enc) ∧ (∀ b ∈ bs, Keyable (enc b)) ∧ bs.length < 64 ∧
  ∀ (a : Addr) (T : List (Addr × β)), H a = none → (∀ x ∈ T, ∃ i : Nat, xs[i]? = some (.ref x.1) ∧ bs[i]? = some x.2) → (∀ b ∈ bs, nkd (enc b) ∈ (keyT enc T).map Prod.snd) → ((keyT enc T).map Prod.snd).Nodup → T.length < 64 → Q (.ref a) (upd H a (NSO w a (keyT enc T)))
theorem addrs_of {K : PySem.W.Frag} {H : Hp} {enc : β → PyData} : ∀ {xs : List V} {us : List Value} {bs : List β}, DpAll K H xs (bs.map enc) → (∀ b ∈ bs, Keyable (enc b)) → Vals xs us → ∃ ps : List (Addr × β), xs = ps.map (fun x => V.ref x.1) ∧ us = ps.map (fun x => Value.ref x.1) ∧ bs = ps.map Prod.snd
  | _, _, [], .nil, _, .nil => ⟨[], rfl, rfl, rfl⟩
  | _, _, b :: bs, h, k, r => by
    have h' : DpAll K H _ (enc b :: bs.map enc) := h
    cases h' with
    | cons h1 h2 =>
      cases r with
      | cons r1 r2 =>
        obtain ⟨ps, e1, e2, e3⟩ := addrs_of h2 (fun c m => k c (List.mem_cons_of_mem _ m)) r2
        obtain ⟨_, _, ds, ed⟩ := k b List.mem_cons_self
        rw [ed] at h1
        cases h1
        cases r1
        exact ⟨(_, b) :: ps, by rw [e1]; rfl, by rw [e2]; rfl, by rw [e3]; rfl⟩
theorem ka_of {X : Cx} {pins : List (Addr × Obj)} {σ : L2.St} {H : Hp} {s : Shared} {a : Addr} {d : PyData} (I : Inv X pins σ H s) (h : Dp X.K H (.ref a) d) (k : Keyable d) : KA s.heap (nkd d) a := by
  obtain ⟨as, r⟩ := Dp.reads I d _ (.ref a) h rfl
  exact ⟨nkd_is d _ as r k.1, Nat.le_trans (nkd_depth d) k.2.1⟩
theorem cr_setB {X : Cx} {enc : β → PyData} (hc : X.calm = true) (hu : X.A.units + 64 < cLine) : CallR X (.type "set") (rSetB X.K X.w enc) := by
  intro pins s σ H vs us Q I r h
  obtain ⟨l, xs, bs, rfl, hl, hd, hk, hb, q⟩ := h
  rw [Vals.ref1 r]
  have hi : ∃ its : List Value, Vals xs its ∧ (s.heap.IsList l its.toArray ∨ s.heap.IsTuple l its.toArray) := by
    rcases hl with hl | hl
    · obtain ⟨its, rv, p, _⟩ := I.list hl
      exact ⟨its, rv, .inl p.isList⟩
    · obtain ⟨its, rv, p, _⟩ := I.tuple hl
      exact ⟨its, rv, .inr p⟩
  obtain ⟨its, rv, hits⟩ := hi
  obtain ⟨ps, e1, e2, e3⟩ := addrs_of hd hk rv
  have dp : ∀ x ∈ ps, ∃ i : Nat, xs[i]? = some (.ref x.1) ∧ bs[i]? = some x.2 := fun x m => by
    obtain ⟨i, hi, e⟩ := List.getElem_of_mem m
    refine ⟨i, ?_, ?_⟩
    · rw [e1, List.getElem?_map, List.getElem?_eq_getElem hi, e]; rfl
    · rw [e3, List.getElem?_map, List.getElem?_eq_getElem hi, e]; rfl
  have ka : ∀ x ∈ ps, KA s.heap (nkd (enc x.2)) x.1 := fun x m => by
    obtain ⟨i, h1, h2⟩ := dp x m
    obtain ⟨v, h3, h4⟩ := dpAll_get hd (show (bs.map enc)[i]? = some (enc x.2) by rw [List.getElem?_map, h2]; rfl)
    rw [h1] at h3
    cases h3
    exact ka_of I h4 (hk _ (List.mem_of_getElem? h2))
  refine set_keys (P := X.prog) (w := X.w) (keyT enc ps) (I.ok.hd hc) hits (by rw [List.toList_toArray, e2, keyT, List.map_map]; rfl) (fun z m => ?_) (by rw [keyT, List.length_map]; rw [e3, List.length_map] at hb; exact hb) (by omega) fun h' tk L es ep t R g kp => ?_
  · obtain ⟨x, hx, rfl⟩ := List.mem_map.mp m
    exact ka x hx
  have gof : ∀ z ∈ L, z ∈ keyT enc ps := fun z m => List.mem_of_mem_take (g.of z m)
  obtain ⟨T, eT, hT⟩ := pick_of (P := fun x => x ∈ ps) (g := fun x : Addr × β => (x.1, nkd (enc x.2))) L fun z m => by
    obtain ⟨x, hx, e⟩ := List.mem_map.mp (gof z m)
    exact ⟨x, hx, e.symm⟩
  have eT' : L = keyT enc T := eT
  subst eT'
  refine ⟨.ref s.heap.objs.size, _, I.laid (t' := tk) kp (Nat.le_refl _) (nso_new R.zero), rfl, q _ T (I.hok.fresh (Nat.le_refl _)) (fun x m => dp x (hT x m)) (fun b m => ?_) R.one ?_⟩
  · rw [e3] at m
    obtain ⟨x, hx, rfl⟩ := List.mem_map.mp m
    exact g.to (x.1, nkd (enc x.2)) (by rw [List.take_length]; exact List.mem_map.mpr ⟨x, hx, rfl⟩)
  · have := R.few
    rw [keyT, List.length_map] at this
    exact this
/-! ### sorted(a set) -/
/-- a way to sort -/
structure Srt (enc : β → PyData) (ok : β → Prop) (le : β → β → Prop) : Prop where
  go : ∀ (P : Program) (w : World) (A : Around) (s : Shared) (vs : List Value) (bs : List β), EachIs (fun v b => ∃ as, Reads s.heap v (enc b) as) vs bs → (∀ b ∈ bs, ok b) → A.units + 110 < cLine →
    ∃ κ, SortsAt P w A s κ vs ∧ ∀ R : Value → β → Prop, EachIs R vs bs → ∃ cs : List β, cs.Perm bs ∧ cs.Pairwise le ∧ EachIs R (sortVals κ false vs vs) cs
theorem each_of_map' {α γ : Type} {R : α → γ → Prop} {δ : Type} {f : δ → α} {g : δ → γ} : ∀ l : List δ, (∀ x ∈ l, R (f x) (g x)) → EachIs R (l.map f) (l.map g)
  | [], _ => .nil
  | x :: l, h => .cons (h x List.mem_cons_self) (each_of_map' l fun y m => h y (List.mem_cons_of_mem _ m))
theorem perm_lift {α γ : Type} {f : α → γ} {l m : List γ} (p : l.Perm m) : ∀ {L : List α}, m = L.map f → ∃ M : List α, M.Perm L ∧ l = M.map f := by
  induction p with
  | nil =>
    intro L e
    exact ⟨[], by rw [List.map_eq_nil_iff.mp e.symm], rfl⟩
  | cons x _ ih =>
    intro L e
    cases L with
    | nil => cases e
    | cons z L =>
      obtain ⟨e1, e2⟩ := List.cons.inj e
      obtain ⟨M, pm, rfl⟩ := ih e2
      exact ⟨z :: M, pm.cons z, by rw [e1]; rfl⟩
  | swap x y l =>
    intro L e
    cases L with
    | nil => cases e
    | cons z L =>
      cases L with
      | nil => cases (List.cons.inj e).2
      | cons u L =>
        obtain ⟨e1, e2⟩ := List.cons.inj e
        obtain ⟨e2, e3⟩ := List.cons.inj e2
        exact ⟨u :: z :: L, List.Perm.swap z u L, by rw [e1, e2, e3]; rfl⟩
  | trans _ _ ih1 ih2 =>
    intro L e
    obtain ⟨M, pm, e1⟩ := ih2 e
    obtain ⟨N, pn, e2⟩ := ih1 e1
    exact ⟨N, pn.trans pm, e2⟩
theorem each_pairs {K : PySem.W.Frag} {T : List (Addr × β)} : ∀ {vs : List Value} {cs : List β}, EachIs (fun v b => ∃ x ∈ T, v = Value.ref x.1 ∧ x.2 = b) vs cs → ∃ M : List (Addr × β), vs = M.map (fun x => Value.ref x.1) ∧ cs = M.map Prod.snd ∧ ∀ x ∈ M, x ∈ T
  | _, _, .nil => ⟨[], rfl, rfl, fun _ m => nomatch m⟩
  | _, _, .cons ⟨x, hx, e1, e2⟩ t => by
    obtain ⟨M, h1, h2, h3⟩ := each_pairs (K := K) t
    exact ⟨x :: M, by rw [e1, h1]; rfl, by rw [← e2, h2]; rfl, fun y m => by
      rcases List.mem_cons.mp m with rfl | m
      · exact hx
      · exact h3 y m⟩
def rSortB (K : PySem.W.Frag) (w : World) (enc : β → PyData) (ok : β → Prop) (le : β → β → Prop) : List V → Hp → VK → Prop := fun vs H Q => ∃ (a : Addr) (T : List (Addr × β)), vs = [.ref a] ∧ H a = some (NSO w a (keyT enc T)) ∧ (∀ x ∈ T, Dp K H (.ref x.1) (enc x.2) ∧ Keyable (enc x.2) ∧ ok x.2) ∧
  ∀ (p : Addr) (M : List (Addr × β)), H p = none → (M.map Prod.snd).Perm (T.map Prod.snd) → (∀ x ∈ M, x ∈ T) → (M.map Prod.snd).Pairwise le → Q (.ref p) (upd H p (.lst (M.map fun x => V.ref x.1)))
theorem vals_refs : ∀ M : List (Addr × β), Vals (M.map fun x => V.ref x.1) (M.map fun x => Value.ref x.1)
  | [] => .nil
  | _ :: M => .cons rfl (vals_refs M)
theorem cr_sortB {X : Cx} {enc : β → PyData} {ok : β → Prop} {le : β → β → Prop} (so : Srt enc ok le) (hc : X.calm = true) (hu : X.A.units + 200 < cLine) : CallR X (.builtin "sorted") (rSortB X.K X.w enc ok le) := by
  intro pins s σ H vs us Q I r h
  obtain ⟨a, T, rfl, ha, hT, q⟩ := h
  rw [Vals.ref1 r]
  have R0 : NS0 X.w s.heap a (keyT enc T) := (I.hok a _ ha).1
  obtain ⟨es, ep, t, R⟩ := R0.nst fun z m => by
    obtain ⟨x, hx, rfl⟩ := List.mem_map.mp m
    exact ka_of I (hT x hx).1 (hT x hx).2.1
  have ⟨ob, g1, g2, g3⟩ := R.obj
  have el := R.len
  have few := R.few
  refine Calls.call_function_entry kind_sorted plain_sorted entry_sorted (args_sorted1 _) ?_
  unfold Builtin.«sorted»
  refine wpAny_bind (m := checkCount "sorted" 1 1 _) (wpAny_pure ?_)
  refine wpAny_bind (collect_set (A := X.A.in1) (I.ok.hd hc) ⟨ob, g1, g2.1, g3⟩ R.ok (by unfold scanBound; omega) R.tb.ris R.ld fun s1 vs kp hz ge os pm => ?_)
  have pm' : vs.Perm (T.map fun x => Value.ref x.1) := by
    have : es.toList.map (·.2) = T.map fun x => Value.ref x.1 := by rw [R.row, rowN, keyT, List.map_map, List.map_map]; rfl
    rw [this] at pm
    exact pm
  obtain ⟨T1, p1, rfl⟩ := perm_lift pm' rfl
  have len1 : (T1.map fun x => Value.ref x.1).length ≤ sizeLine := by
    rw [List.length_map, p1.length_eq]
    rw [keyT, List.length_map] at few
    rw [sizeLine_eq]
    omega
  refine wpAny_bind (wpAny_newList ?_ len1)
  have kp2 : ∀ b u, s.heap.get? b = some u → (s1.heap.push (seqObj "list" (T1.map fun x => Value.ref x.1).toArray 0)).get? b = some u := fun b u e => Heap.get?_push_of_some _ (kp b u e)
  have ne : ∀ b u, s.heap.get? b = some u → b ≠ s1.heap.objs.size := fun b u e => Nat.ne_of_lt (Heap.lt_size (kp b u e))
  have rd : EachIs (fun v b => ∃ as, Reads (sortingHeap (s1.heap.push (seqObj "list" (T1.map fun x => Value.ref x.1).toArray 0)) s1.heap.objs.size (T1.map fun x => Value.ref x.1)) v (enc b) as) (T1.map fun x => Value.ref x.1) (T1.map Prod.snd) :=
    each_of_map' T1 fun x m => by
      obtain ⟨as, r⟩ := Dp.reads I (enc x.2) _ (.ref x.1) (hT x (p1.mem_iff.mp m)).1 rfl
      exact ⟨as, PyProof.Rows.Reads.keeps (fun b u e => sortingHeap_old (ne b u e) (kp2 b u e)) r⟩
  obtain ⟨κ, S, out⟩ := so.go X.prog X.w X.A.in1.in1 { s1 with heap := sortingHeap (s1.heap.push (seqObj "list" (T1.map fun x => Value.ref x.1).toArray 0)) s1.heap.objs.size (T1.map fun x => Value.ref x.1) } _ _ rd
    (fun b m => by obtain ⟨x, hx, rfl⟩ := List.mem_map.mp m; exact (hT x (p1.mem_iff.mp hx)).2.2) (by show X.A.units + 1 + 1 + 110 < cLine; omega)
  have go : (s1.heap.push (seqObj "list" (T1.map fun x => Value.ref x.1).toArray 0)).get? s1.heap.objs.size = some (seqObj "list" (T1.map fun x => Value.ref x.1).toArray 0) := Heap.get?_push_size _ rfl
  refine wpAny_bind (wpAny_holding (wpAny_call_entry slot_list_sort ⟨_, go, rfl⟩ entry_list_sort ?_ (args_list_sort _)))
  refine list_sort_vals (s := { s1 with heap := s1.heap.push (seqObj "list" (T1.map fun x => Value.ref x.1).toArray 0) }) go S len1 ⟨.none, rfl, ?_⟩
  obtain ⟨cs, c1, c2, c3⟩ := out (fun v b => ∃ x ∈ T, v = Value.ref x.1 ∧ x.2 = b) (each_of_map' T1 fun x m => ⟨x, p1.mem_iff.mp m, rfl, rfl⟩)
  obtain ⟨M, m1, m2, m3⟩ := each_pairs (K := X.K) c3
  rw [m1]
  obtain ⟨c, hcq⟩ := sortedHeap_at (vs := T1.map fun x => Value.ref x.1) (out := (M.map fun x => Value.ref x.1).toArray) go
  have hp : s.heap.objs.size ≤ s1.heap.objs.size := hz
  have pM : (M.map Prod.snd).Perm (T.map Prod.snd) := by
    rw [← m2]
    exact c1.trans (p1.map Prod.snd)
  have lenM : (M.map fun x => V.ref x.1).length ≤ sizeLine := by
    have := pM.length_eq
    rw [List.length_map, List.length_map] at this
    rw [keyT, List.length_map] at few
    rw [List.length_map, sizeLine_eq]
    omega
  have hn : H s1.heap.objs.size = none := I.hok.fresh hp
  have old : ∀ b u, s.heap.get? b = some u → (sortedHeap (s1.heap.push (seqObj "list" (T1.map fun x => Value.ref x.1).toArray 0)) s1.heap.objs.size (T1.map fun x => Value.ref x.1) (M.map fun x => Value.ref x.1).toArray).get? b = some u := fun b u e => by
    rw [sortedHeap_old (ne b u e) (by rw [size_push']; exact Nat.lt_succ_of_lt (Heap.lt_size (kp b u e)))]
    exact kp2 b u e
  refine wpAny_pure ⟨_, rfl, .ref s1.heap.objs.size, _, ?_, rfl, q _ M hn pM m3 (by rw [← m2]; exact c2)⟩
  refine I.call' (ch := []) os (Un.laid old hp hn) (I.hok.laid old hp ⟨lenM, _, c, vals_refs M, hcq⟩) (by show AllBare s1.gens; rw [ge]; exact I.bare) (fun _ z => nomatch z)
end
/-- formulas -/
theorem srt_fm : Srt Fm.d (fun f => f.d.canLay0 = true ∧ f.ht ≤ 100) (fun a b => Fm.le a b = true) := ⟨fun P w A s vs fs e ok hu => by
  refine ⟨fmKind s.heap fs, sorts_fm e fun f hf => ⟨(ok f hf).1, by have := (ok f hf).2; omega⟩, fun R h => ⟨fs.mergeSort Fm.le, List.mergeSort_perm _ _, ms_sorted fs, ?_⟩⟩
  have ek : EachIs (fun v f => (fmKind s.heap fs).keyOf v = some (Fm.toks f)) vs fs := (each_mem e).mono fun v f ⟨⟨as, r⟩, hf⟩ => fmKind_some hf r
  exact sortVals_each (κ := fmKind s.heap fs) (rev := false) Fm.toks h ek⟩
/-- pairs of ints -/
def zle (p q : Int × Int) : Prop := p.1 < q.1 ∨ (p.1 = q.1 ∧ p.2 ≤ q.2)
theorem srt_zz : Srt zd (fun _ => True) zle := ⟨fun P w A s vs zs e _ hu => by
  have al : AllAlike (zs.map zd) := fun d hd d' hd' => by
    obtain ⟨b, _, rfl⟩ := List.mem_map.mp hd
    obtain ⟨b', _, rfl⟩ := List.mem_map.mp hd'
    exact PySem.W.DatumOrd.alike (α := Int × Int) b b'
  have so : Sortable (zs.map zd) := .inl fun d hd => by
    obtain ⟨b, _, rfl⟩ := List.mem_map.mp hd
    exact ⟨_, _, rfl⟩
  have em := each_map (R := fun v d => ∃ as, Reads s.heap v d as) zd e
  refine ⟨dataKind s.heap (zs.map zd), SortsAt.data em al so fun d hd => ?_, fun R h => ⟨zs.mergeSort (dataLe false zd), List.mergeSort_perm _ _, ?_, sortVals_data false h e al⟩⟩
  · obtain ⟨b, _, rfl⟩ := List.mem_map.mp hd
    have : (zd b).depth = 1 := rfl
    omega
  · have ele : dataLe false zd = fun p q : Int × Int => decide (p.1 < q.1 ∨ (p.1 = q.1 ∧ p.2 ≤ q.2)) := dataLe_ii (β := Int × Int) Prod.fst Prod.snd
    rw [ele]
    have key : (zs.mergeSort fun p q : Int × Int => decide (p.1 < q.1 ∨ (p.1 = q.1 ∧ p.2 ≤ q.2))).Pairwise fun p q => decide (p.1 < q.1 ∨ (p.1 = q.1 ∧ p.2 ≤ q.2)) = true :=
      List.pairwise_mergeSort (fun a b c h1 h2 => by rw [decide_eq_true_eq] at h1 h2 ⊢; omega) (fun a b => by rw [Bool.or_eq_true, decide_eq_true_eq, decide_eq_true_eq]; omega) zs
    exact key.imp fun h => of_decide_eq_true h⟩
end NS

set_option Elab.async false
set_option linter.all false
set_option maxRecDepth 100000
set_option maxHeartbeats 2000000
namespace DL
open E PySem PySem.Spec PyProof.Rows L2
/-! ### a pool that changes -/
section
variable {K : PySem.W.Frag} {κ : Ktx} {ρ ρ' : En} {σ σ' : L2.St} {H H' : Hp} {i j : Nat} {p : Addr} {v : V} {d : D} {s : Sl}
theorem Rep.pool (R : Rep K κ ρ σ H) (e : (ρ[i]? : Option Sl) = some s) (own : s.own = some p) (k : Kp p H H') (ok : SlOk K H' s (σ[i]?)) (hp : ∃ o, H' p = some o) : Rep K κ ρ σ H' ∧ Fr ρ H H' := by
  have ow : ownAt ρ i = some p := by rw [ownAt_of e, own]
  obtain ⟨u, hu, mu⟩ := R.own ⟨i, ow⟩
  have x : Ext H H' := fun b o h z => k b o h fun n => by
    rw [n, hu] at h
    cases h
    cases u <;> first | exact z.elim | exact mu.elim
  refine ⟨⟨R.len, fun j s2 e2 => ?_, R.nd, R.new, fun b o h0 n1 n2 => ?_, fun b o h0 => ?_, fun q hq => ?_, R.plx⟩, fun b o h n1 n2 => k b o h fun n => n2 ⟨i, by rw [ow, n]⟩, fun b o h => ?_⟩
  · by_cases ej : j = i
    · subst ej
      rw [e] at e2
      cases e2
      exact ok
    have ne : ∀ a, s2.own = some a → a ≠ p := fun a ea z => ej (R.nd j i p (by rw [ownAt_of e2, ea, z]) ow)
    have q := R.ok j s2 e2
    cases s2 with
    | no => trivial
    | val d => obtain ⟨v, e1, z⟩ := q; exact ⟨v, e1, z.mono x⟩
    | ls a ds => obtain ⟨e1, vs, h1, z⟩ := q; exact ⟨e1, vs, k _ _ h1 (ne a rfl), z.mono x⟩
    | dk a ds => obtain ⟨e1, vs, h1, z⟩ := q; exact ⟨e1, vs, k _ _ h1 (ne a rfl), z.mono x⟩
    | il a => obtain ⟨e1, ns, h1⟩ := q; exact ⟨e1, ns, k _ _ h1 (ne a rfl)⟩
    | pl a l =>
      obtain ⟨e1, h1⟩ := q
      refine ⟨e1, ?_⟩
      obtain ⟨i', r, c, t, h5, h6⟩ := h1.at5
      obtain ⟨cs, hs⟩ := h1.sq
      refine ⟨?_, h1.ne, i', r, c, t, k _ _ h5 (ne a rfl), h6⟩
      rcases R.plx j a l e2 with nl | ⟨cs2, nl⟩
      · refine ⟨cs, ?_⟩
        rcases hs with (hs | ⟨ob, hs⟩) | hs
        · exact .inl (.inl (k _ _ hs fun n => nl ⟨i, by rw [ow, n]⟩))
        · exact .inl (.inr ⟨ob, x _ _ hs trivial⟩)
        · exact .inr hs
      · exact ⟨cs2, nl _⟩
  · refine k _ _ (R.ctx b o h0 n1 n2) fun n => ?_
    subst n
    rcases R.new i b ow with r | r
    · rw [r] at h0; cases h0
    · exact n2 r
  · by_cases n : b = p
    · rw [n]; exact hp
    · obtain ⟨o', h'⟩ := R.dom b o h0
      exact ⟨o', k _ _ h' n⟩
  · obtain ⟨ps, h1, h2, h3⟩ := R.tab q hq
    refine ⟨ps, k _ _ h1 fun n => ?_, h2, fun pos cv hcv => ?_⟩
    · rw [n, hu] at h1
      cases h1
      exact mu
    · obtain ⟨c, e1, e2⟩ := h3 pos cv hcv
      refine ⟨c, e1, k _ _ e2 fun n => ?_⟩
      rw [n, hu] at e2
      cases e2
      exact mu
  · by_cases n : b = p
    · rw [n]; exact hp
    · exact ⟨o, k _ _ h n⟩
end
/-! ### what drawing from a pool gives -/
abbrev GO := List Rs → En → DQ → Prop
/-- a call whose first argument is a pool, in slot i: w says of the other arguments and of what is given -/
def gPool (isP : Sl → Prop) (w : List D → (D → Prop) → Prop) : GO := fun rs ρ Q => match rs with
  | .o p i :: rs => ∃ s, (ρ[i]? : Option Sl) = some s ∧ s.own = some p ∧ isP s ∧ valKs rs fun ds => w ds fun z => Q (.v z) ρ
  | _ => False
def isIl : Sl → Prop
  | .il _ => True
  | _ => False
def isPl : Sl → Prop
  | .pl _ _ => True
  | _ => False
section
variable {X : Cx} {κ : Ktx}
/-- a call that gives a new thing to be changed -/
def sSetO (i : Nat) (g : List Rs → En → (Sl → En → Prop) → Prop) (sA : DAa) : DSt := fun E ρ => sA ρ fun rs ρ1 => g rs ρ1 fun s ρ2 => E.nx (ρ2.set i s)
variable {CX : CXT} {k : Nat} {f : Addr} {fd : FuncData} {ps : List Str} {sp : Sp} {E : XK} {x y : Str} {e : Expr} {es : List Expr} {p pos py spos : Pos} {i : Nat} {sA : DAa}
theorem ds_setO {g : List Rs → En → (Sl → En → Prop) → Prop} (F : FnOk X.prog X.w X.K X.mg X.base CX k f fd ps sp) (c : ∀ σ H ρ vs rs (Q : Sl → En → Prop) (Q' : VK), Rep X.K κ ρ σ H → ZRA X.K H vs rs → g rs ρ Q →
      (∀ v H' s, Rep X.K κ (ρ.set i s) (σ.set i (some v)) H' → Ext H H' → Q s ρ → Q' v H') → sp vs H Q' E)
    (hr : Room k X.A) (hg : Gl X x) (hm : X.mg x = some (.ref f)) (hk : PySem.W.keepIn X.K (.ref f) = true) (hb : Binds X.K fd ps []) (hx : Passes CX X E) (ha : DA X κ (e :: es) sA)
    (hN : X.N.Nodup) (hi : X.N[i]? = some y) (hy : Loc X.env.scope y)
    (hdb : (x == ("__debug__" : Str)) = false := by decide) (he : starEach (e :: es) X.env = (false, eval e X.env) :: starEach es X.env := by rfl) (hpl : (backTo pos (starEach es X.env)).any (·.1) = false := by rfl)
    (hs : swapsWith (.Call (.Name x p) (e :: es) [] pos) (some (.Name y py)) spos.line X.env = pure false := by rfl) (hf : X.fn y = true ∨ X.env.scope.names.lookup y = some .local := by first | exact .inl rfl | exact .inr rfl | assumption) :
    DS X κ (.Assign [.Name y py] (.Call (.Name x p) (e :: es) [] pos) spos) (sSetO i g sA) :=
  DS.of (ps_set hN hi hy (pe_call F hr hg hm hk hb .nil hx ha hdb he hpl) hs hf) fun σ H ρ D R h => goA R h fun vs H1 rs ρ1 R1 z1 f1 s1 h1 => by
    show sp (vs ++ []) _ _ _
    rw [List.append_nil]
    exact c σ H1 ρ1 vs rs _ _ R1 z1 h1 fun v H' s R2 x2 q => ⟨_, R2, (R.ext f1).trans x2, q⟩
end
/-! ### xs[i] = e -/
def setK (i : Nat) (d : D) (E : DEnds) (ρ : En) (r : Rs) : Option Sl → Prop
  | some (.ls p xs) => ∃ k j, r = .v (.int k) ∧ ixN xs.length k = some j ∧ E.nx (ρ.set i (.ls p (xs.set j d)))
  | _ => False
def sSetIx (i : Nat) (sb sa : DE) : DSt := fun E ρ => sa ρ fun r ρ1 => valK r fun d => isLs (ρ1[i]? : Option Sl) ∧ sb ρ1 fun r2 ρ2 => setK i d E ρ2 r2 (ρ2[i]? : Option Sl)
section
variable {X : Cx} {κ : Ktx} {i : Nat} {x : Str} {p pos pos2 spos : Pos} {a b c e : Expr} {es : List Expr} {sa sb sc : DE} {sA : DAa}
theorem ds_setIx (hN : X.N[i]? = some x) (hv : Vis X.env.scope x) (hb : DX X κ b sb) (ha : DX X κ a sa) (hd : (x == ("__debug__" : Str)) = false := by decide) (hcd : (x == ("__classdict__" : Str)) = false := by decide)
    (hsub : ∀ v, assign (.Subscript (.Name x p) b pos2) X.env v = (do
      let ov ← holding [v] (eval (.Name x p) X.env)
      let iv ← holding [v, ov] (eval b X.env)
      standAt pos2
      holding [v, ov, iv] (setItem ov iv v)
      release [v, ov, iv] []) := by intro _; rfl)
    (hs : swapsWithSole [.Subscript (.Name x p) b pos2] a spos.line X.env = pure false := by rfl) (hw : swappedStores [.Subscript (.Name x p) b pos2] a X.env = pure none := by rfl)
    (h1 : (assignEach [.Subscript (.Name x p) b pos2] X.env).map (·.2) = [assign (.Subscript (.Name x p) b pos2) X.env] := by rfl) :
    DS X κ (.Assign [.Subscript (.Name x p) b pos2] a spos) (sSetIx i sb sa) :=
  DS.of (ps_asg ha (pg_sub (pe_var hN hv hd hcd) hb set_list hsub) hs hw h1) fun σ H ρ E R h => goD R h fun v H1 r ρ1 R1 z1 f1 s1 h1 => by
    obtain ⟨d, z, h0, h2⟩ := val_of z1 h1
    cases e : (ρ1[i]? : Option Sl) with
    | none => rw [e] at h0; exact h0.elim
    | some s =>
      rw [e] at h0
      cases s <;> first | exact (show False from h0).elim | skip
      rename_i q xs
      obtain ⟨es, us, hq, za⟩ := R1.ok i _ e
      refine ⟨.ref q, es, goD R1 h2 fun v2 H2 r2 ρ2 R2 z2 f2 s2 h3 => ?_⟩
      cases e1 : (ρ2[i]? : Option Sl) with
      | none => rw [e1] at h3; exact (show False from h3).elim
      | some s =>
        rw [e1] at h3
        cases s <;> first | exact (show False from h3).elim | skip
        rename_i q1 xs1
        obtain ⟨k, j, rfl, hj, hq2⟩ := h3
        obtain ⟨es1, us1, hq1, za1⟩ := R2.ok i _ e1
        rw [es] at es1
        cases es1
        cases (show Z X.K H2 v2 (.int k) from z2)
        have z' := z.mono (R1.ext f2)
        have zs := za1.set (i := j) z'
        have x3 := ext_mu (o := .lst (us1.set j v)) hq1 trivial
        obtain ⟨R3, f3, s3⟩ := R2.write e1 hq1 (zs.mono x3 |> fun _ => zs)
        exact ⟨q, us1, k, j, rfl, rfl, hq1, by rw [za1.length]; exact hj, _, R3, ((R.ext f1).trans (R1.ext f2)).trans x3, hq2⟩
/-! ### xs.insert(i, y) -/
abbrev rInsert : V → List V → Hp → VK → Prop := fun x vs H Q => ∃ (l : Addr) (xs : List V) (i : Int) (y : V), x = .ref l ∧ vs = [.int i, y] ∧ H l = some (.lst xs) ∧ xs.length < sizeLine ∧ 0 ≤ i ∧ i < 2 ^ 63 ∧ Q .non (upd H l (.lst (xs.take i.toNat ++ [y] ++ xs.drop i.toNat)))
def gInsert : List D → List D → (List D → D → Prop) → Prop := fun xs ds q => match ds with
  | [.int i, d] => xs.length < sizeLine ∧ 0 ≤ i ∧ i < 2 ^ 63 ∧ q (xs.take i.toNat ++ [d] ++ xs.drop i.toNat) .non
  | _ => False
theorem ma_insert {K : PySem.W.Frag} : MA K rInsert gInsert := ⟨fun H p us xs vs ds q Q h za zv g k => by
  match ds, zv, g with
  | [.int i, d], .cons (v := v0) z0 (.cons (v := v) z .nil), g =>
    obtain ⟨g1, g2, g3, g4⟩ := g
    cases z0
    exact ⟨p, us, i, v, rfl, rfl, h, by rw [za.length]; exact g1, g2, g3, k _ _ _ _ (((za.take _).append (.cons z .nil)).append (za.drop _)) .non g4⟩⟩
/-! ### lists joined into a new one -/
def sCat (sa sb : DE) : DF := fun ρ Q => sa ρ fun r ρ1 => sb ρ1 fun r2 ρ2 => resK ρ2 r fun d => resK ρ2 r2 fun d2 => ∃ xs ys, d = .lst xs ∧ d2 = .lst ys ∧ xs.length + ys.length ≤ sizeLine ∧ Q (xs ++ ys) ρ2
theorem fx_cat (ha : DX X κ a sa) (hb : DX X κ b sb) : FX X κ (.BinOp a .Add b pos) (sCat sa sb) :=
  FX.of (pe_op op_catF ha hb) fun σ H ρ Q R h => goD R h fun v H1 r ρ1 R1 z1 f1 s1 h1 => goD R1 h1 fun u H2 r2 ρ2 R2 z2 f2 s2 h2 => by
    obtain ⟨d, v1, h3⟩ := R2.res (z1.mono (R1.ext f2)) h2
    obtain ⟨d2, v2, xs, ys, rfl, rfl, hl, q⟩ := R2.res z2 h3
    obtain ⟨a1, us, rfl, s1', l1⟩ := v1
    obtain ⟨a2, ws, rfl, s2', l2⟩ := v2
    have ff := f1.trans s1 f2
    refine ⟨a1, a2, us, ws, rfl, rfl, s1', s2', by rw [l1.length, l2.length]; exact hl, fun p np => ?_⟩
    have sm := same_new (o := .lst (us ++ ws)) np
    exact ⟨p, _, _, ρ2, rfl, dom_none ff np, upd_same, (l1.append l2).mono (Ext.same sm), R2.step sm, ff.trans (s2.trans s1) (Fr.same sm), s2.trans s1, q⟩
/-! ### is, of truth values and None -/
abbrev rIsA : R2 := fun x y H Q => rIsN x y H Q ∨ rIsB x y H Q
abbrev rNotA : R2 := fun x y H Q => rNotN x y H Q ∨ rNotB x y H Q
theorem op_isA : OpR X (compareOp .Is) rIsA := OpR.or op_isN1 op_isBl
theorem op_notA : OpR X (compareOp .IsNot) rNotA := OpR.or op_notN1 op_notBl
def gIsA (f : Bool → Bool) : G2 := fun d e q => match e with
  | .bl b => ∃ a, d = .bl a ∧ q (.bl (f (decide (a = b))))
  | e => gIsN f d e q
theorem oa_isA {K : PySem.W.Frag} : OA K rIsA (gIsA id) := ⟨fun H x y d e q Q hx hy hg k => by
  cases e with
  | bl b =>
    obtain ⟨a, rfl, hq⟩ := hg
    cases (show Z K H x (.bl a) from hx)
    cases (show Z K H y (.bl b) from hy)
    exact .inr ⟨a, b, rfl, rfl, k _ H _ (L2.Same.refl _) (.inl (.bl _)) hq⟩
  | non => exact .inl (oa_isN.ok H x y d .non q Q hx hy hg k)
  | _ => exact (show False from hg).elim⟩
theorem oa_notA {K : PySem.W.Frag} : OA K rNotA (gIsA not) := ⟨fun H x y d e q Q hx hy hg k => by
  cases e with
  | bl b =>
    obtain ⟨a, rfl, hq⟩ := hg
    cases (show Z K H x (.bl a) from hx)
    cases (show Z K H y (.bl b) from hy)
    exact .inr ⟨a, b, rfl, rfl, k _ H _ (L2.Same.refl _) (.inl (.bl _)) hq⟩
  | non => exact .inl (oa_notN.ok H x y d .non q Q hx hy hg k)
  | _ => exact (show False from hg).elim⟩
/-! ### isinstance -/
def tyN : D → Option String
  | .non => some "NoneType"
  | .bl _ => some "bool"
  | .int _ => some "int"
  | .str _ => some "str"
  | .tup _ => some "tuple"
  | .lst _ => some "list"
  | _ => none
def gIsi : GL := fun ds q => match ds with
  | [d, .raw (.ty t)] => ∃ n b, tyN d = some n ∧ kitB n t = some b ∧ q (.bl b)
  | _ => False
theorem ca_isi {K : PySem.W.Frag} : CA K (rIsi K) gIsi := ⟨fun H xs ds q Q h g k => by
  match ds, h, g with
  | [d, .raw (.ty t)], h, g =>
    obtain ⟨v, u, rfl, h1, h2⟩ := h.two
    obtain ⟨n, b, hn, hb, hq⟩ := g
    cases (show Z K H u (.raw (.ty t)) from h2)
    refine ⟨v, .ty t, .type n, .type t, b, rfl, .ty t, ?_, kB b hb, k _ H _ (L2.Same.refl _) (.inl (.bl _)) hq⟩
    cases d <;> cases hn
    · cases (show Z K H v .non from h1); exact .base .non
    · cases (show Z K H v (.bl _) from h1); exact .base (.bl _)
    · cases (show Z K H v (.int _) from h1); exact .base (.int _)
    · cases (show Z K H v (.str _) from h1); exact .base (.str _)
    · obtain ⟨a, ys, rfl, s, l⟩ := h1.tup
      exact ty_tup s
    · obtain ⟨a, ys, rfl, s, l⟩ := h1
      exact ty_list s⟩
theorem dx_ty {n : String} (hg : Gl X x) (hm : X.mg x = none) (hv : bootBuiltins x = some (.type n)) (hn : x ≠ "__name__" := by decide) (hd : (x == ("__debug__" : Str)) = false := by decide) : DX X κ (.Name x pos) (sC (.raw (.ty n))) :=
  dx_c (pe_bltn (v := .ty n) hg hm hv rfl hn hd) fun _ => .raw _
end
/-! ### a law over data: its script is known from the first row on -/
theorem pss_fz0 {X : Cx} {sts : List Stmt} {T : TS → Prop} (h : ∀ t, T t → PSs X sts t) : PSs X sts (fun D σ H => ∃ a u, H a = some u ∧ Fz u ∧ ∀ o, ∃ t, T t ∧ t D σ (upd H a (.frz o u))) := ⟨fun pins s σ H D I ⟨a, u, h1, h2, k⟩ => by
  obtain ⟨o, I2⟩ := inv_frz I h1 h2
  obtain ⟨t, ht, q⟩ := k o
  exact (h t ht).run pins s σ _ D I2 q⟩
def spLaw (K : PySem.W.Frag) : Sp := fun vs H Q _ => ∃ (a : Addr) (ns : List Int), vs = [.ref a] ∧ SqL K H a (ns.map V.int) ∧ ns.length ≤ 63 ∧ ∀ H', Q (.bl true) H'
section
variable {P : Program} {w : World} {K : PySem.W.Frag} {mg : Str → Option Value} {base : Heap}
theorem okLaw {x qual : Str} {st : Stmt} {f : Addr} {fd : FuncData} {N : List Str} {k : Nat} (F : Fun K x qual st f fd) (S : FnScope N ["script"] (defScope st))
    (hbody : ∀ (cdv : Value) (A : Around) (outer : List PySem.Env) (s : Shared) (H : Hp) (E : XK) (κ : Ktx), Room k (A.deeper (envOfC qual (defScope st) s.heap.objs.size f cdv)) → κ.TT = [] → ∀ ns : List Int, ns.length ≤ 63 →
      ∃ t, DSs (cxOf CX0 P w K mg base N qual (defScope st) f cdv A outer s H E).nox κ (defBody st) t ∧ t { nx := fun _ => False, rt := fun d _ => d = .bl true } (startE N [.lst (ns.map D.int)])) : FnOk P w K mg base CX0 (k + 1) f fd ["script"] (spLaw K) := by
  refine F.ok S (fun vs H Q E ⟨a, ns, e, _⟩ => by rw [e]; rfl) fun cdv A outer s H vs Q E hr ⟨a, ns, e, hS, hn, kQ⟩ => ?_
  subst e
  have tb : ∀ H : Hp, NdefX.TabsN [] H := fun H q hq => nomatch hq
  have fin : ∀ (H1 : Hp), FzL K H1 a (ns.map V.int) → ∃ t, PSs (cxOf CX0 P w K mg base N qual (defScope st) f cdv A outer s H E).nox (defBody st) t ∧ t { nx := fun _ H2 => Q .non H2, rt := Q } (L2.start N [.ref a]) H1 := fun H1 hz => by
    obtain ⟨tm, hd, hs⟩ := hbody cdv A outer s H E ⟨H1, [], []⟩ hr rfl ns hn
    refine ⟨_, hd, startE N [.lst (ns.map D.int)], _, start_rep (.cons (.lst hz (ZA.ints ns)) .nil) (tb _), hs, ⟨fun σ H' ⟨_, _, _, hq⟩ => hq.elim, fun v H' ⟨d, ρ, σ, R, x, zv, hq⟩ => ?_, fun σ H' ⟨_, _, _, hq⟩ => hq, fun σ H' ⟨_, _, _, hq⟩ => hq⟩⟩
    subst hq
    cases zv
    exact kQ H'
  rcases hS with (hS | hS) | hS
  · refine ⟨_, pss_fz0 (T := fun t => PSs (cxOf CX0 P w K mg base N qual (defScope st) f cdv A outer s H E).nox (defBody st) t) fun t h => h, a, _, hS, trivial, fun o => ?_⟩
    exact fin _ (.inl ⟨o, upd_same⟩)
  · exact fin _ (.inl hS)
  · exact fin _ (.inr hS)
end
end DL

set_option Elab.async false
set_option linter.all false
set_option maxRecDepth 100000
set_option maxHeartbeats 2000000
namespace DL
open E PySem PySem.Spec PyProof.Rows L2 NS
/-! ### formulas as keys -/
theorem nk_inj : ∀ f g : Fm, nkd f.d = nkd g.d → f = g := by
  intro f
  induction f with
  | var n =>
    intro g h
    cases g <;> simp only [Fm.d, nkd, nkds, NestedKey.tup.injEq, List.cons.injEq, NestedKey.text.injEq, reduceCtorEq, and_false, and_true, false_and] at h
    · rw [h.2]
    · exact absurd h.1 (by decide +kernel)
  | fal =>
    intro g h
    cases g <;> simp only [Fm.d, nkd, nkds, NestedKey.tup.injEq, List.cons.injEq, NestedKey.text.injEq, reduceCtorEq, and_false, and_true, false_and] at h
    rfl
  | and a b iha ihb =>
    intro g h
    cases g <;> simp only [Fm.d, nkd, nkds, NestedKey.tup.injEq, List.cons.injEq, NestedKey.text.injEq, reduceCtorEq, and_false, and_true, false_and] at h
    · rw [iha _ h.2.1, ihb _ h.2.2]
    · exact absurd h.1 (by decide +kernel)
    · exact absurd h.1 (by decide +kernel)
  | or a b iha ihb =>
    intro g h
    cases g <;> simp only [Fm.d, nkd, nkds, NestedKey.tup.injEq, List.cons.injEq, NestedKey.text.injEq, reduceCtorEq, and_false, and_true, false_and] at h
    · exact absurd h.1 (by decide +kernel)
    · rw [iha _ h.2.1, ihb _ h.2.2]
    · exact absurd h.1 (by decide +kernel)
  | imp a b iha ihb =>
    intro g h
    cases g <;> simp only [Fm.d, nkd, nkds, NestedKey.tup.injEq, List.cons.injEq, NestedKey.text.injEq, reduceCtorEq, and_false, and_true, false_and] at h
    · exact absurd h.1 (by decide +kernel)
    · exact absurd h.1 (by decide +kernel)
    · rw [iha _ h.2.1, ihb _ h.2.2]
  | box a iha =>
    intro g h
    cases g <;> simp only [Fm.d, nkd, nkds, NestedKey.tup.injEq, List.cons.injEq, NestedKey.text.injEq, reduceCtorEq, and_false, and_true, false_and] at h
    · exact absurd h.1 (by decide +kernel)
    · rw [iha _ h.2]
theorem kbl_fm : ∀ f : Fm, kbl f.d = true
  | .var n => rfl
  | .fal => rfl
  | .and a b => by simp [Fm.d, kbl, kbls, kbl_fm a, kbl_fm b]
  | .or a b => by simp [Fm.d, kbl, kbls, kbl_fm a, kbl_fm b]
  | .imp a b => by simp [Fm.d, kbl, kbls, kbl_fm a, kbl_fm b]
  | .box a => by simp [Fm.d, kbl, kbls, kbl_fm a]
theorem keyable_fm {f : Fm} (h : f.ht ≤ 8) : Keyable f.d := ⟨kbl_fm f, by rw [Fm.depth]; exact h, by cases f <;> exact ⟨_, rfl⟩⟩
theorem pyAll_fm : ∀ fs : List Fm, pyAll (fs.map fD) = some (fs.map Fm.d)
  | [] => rfl
  | f :: fs => by simp [pyAll, fD_py f, pyAll_fm fs]
theorem asc_le {l : List Fm} (h : l.Pairwise fun a b => a.le b = true) (n : l.Nodup) : Asc l := by
  induction l with
  | nil => exact .nil
  | cons x l ih =>
    obtain ⟨a1, a2⟩ := List.pairwise_cons.mp h
    obtain ⟨b1, b2⟩ := List.nodup_cons.mp n
    exact List.pairwise_cons.mpr ⟨fun y hy => lt_of_le_ne (a1 y hy) fun e => b1 (by rw [e]; exact hy), ih a2 b2⟩
/-- what may stand in a set, and be sorted -/
def OkK (f : Fm) : Prop := f.d.canLay0 = true ∧ f.ht ≤ 8
/-! ### sorted(set(e)), formulas -/
def sSrtS (sA : DAa) : DF := fun ρ Q => sA ρ fun rs ρ1 => resKs ρ1 rs fun ds => ∃ fs : List Fm, (ds = [.lst (fs.map fD)] ∨ ds = [.tup (fs.map fD)]) ∧ fs.length < 64 ∧ (∀ f ∈ fs, OkK f) ∧ Q ((dist fs).map fD) ρ1
section
variable {X : Cx} {κ : Ktx} {x y : Str} {p p2 pos q : Pos} {e : Expr} {sA : DAa}
theorem fx_srtS (hc : X.calm = true) (hu : X.A.units + 200 < cLine) (hg : Gl X x) (hm : X.mg x = none) (hv : bootBuiltins x = some (.builtin "sorted")) (hg2 : Gl X y) (hm2 : X.mg y = none) (hv2 : bootBuiltins y = some (.type "set")) (ha : DA X κ [e] sA)
    (hn : x ≠ "__name__" := by decide) (hdb : (x == ("__debug__" : Str)) = false := by decide) (hn2 : y ≠ "__name__" := by decide) (hdb2 : (y == ("__debug__" : Str)) = false := by decide)
    (he2 : starEach [e] X.env = (false, eval e X.env) :: starEach [] X.env := by rfl) (hpl2 : (backTo q (starEach [] X.env)).any (·.1) = false := by rfl)
    (he : starEach [.Call (.Name y p2) [e] [] q] X.env = (false, eval (.Call (.Name y p2) [e] [] q) X.env) :: starEach [] X.env := by rfl) (hpl : (backTo pos (starEach [] X.env)).any (·.1) = false := by rfl) :
    FX X κ (.Call (.Name x p) [.Call (.Name y p2) [e] [] q] [] pos) (sSrtS sA) :=
  FX.of (pe_callB (cr_sortB srt_fm hc hu) hg hm hv (pa_cons (pe_callTy (cr_setB (enc := Fm.d) hc (by omega)) hg2 hm2 hv2 ha hn2 hdb2 he2 hpl2) pa_nil he) hn hdb he hpl) fun σ H ρ Q R h => by
    refine goA R h fun vs H1 rs ρ1 R1 z1 f1 s1 h1 => ?_
    obtain ⟨ds, v1, fs, hd, few, ok, hq⟩ := R1.ress z1 h1
    have key : ∃ (a : Addr) (xs : List V), vs = [.ref a] ∧ (SqL X.K H1 a xs ∨ SqT X.K H1 a xs) ∧ ZA X.K H1 xs (fs.map fD) := by
      rcases hd with rfl | rfl
      · obtain ⟨v, rfl, a, xs, rfl, s, l⟩ := v1.one
        exact ⟨a, xs, rfl, .inl s, l⟩
      · obtain ⟨v, rfl, hh⟩ := v1.one
        obtain ⟨a, xs, rfl, s, l⟩ := hh.tup
        exact ⟨a, xs, rfl, .inr s, l⟩
    obtain ⟨a, xs, rfl, sq, l⟩ := key
    have zat : ∀ {b : Addr} {f : Fm} {i : Nat}, xs[i]? = some (.ref b) → fs[i]? = some f → Z X.K H1 (.ref b) (fD f) := fun {b f i} e1 e2 => by
      obtain ⟨d, h3, h4⟩ := l.get2 e1
      rw [List.getElem?_map, e2] at h3
      cases h3
      exact h4
    refine ⟨a, xs, fs, rfl, sq, l.dp (pyAll_fm fs), fun f m => keyable_fm (ok f m).2, few, fun a' T na t1 t2 t3 t4 => ?_⟩
    have sm1 : Same H1 (upd H1 a' (NSO X.w a' (keyT Fm.d T))) := same_new na
    have zT : ∀ x ∈ T, Z X.K H1 (.ref x.1) (fD x.2) := fun x m => by
      obtain ⟨i, e1, e2⟩ := t1 x m
      exact zat e1 e2
    have inF : ∀ x ∈ T, x.2 ∈ fs := fun x m => by
      obtain ⟨i, e1, e2⟩ := t1 x m
      exact List.mem_of_getElem? e2
    refine ⟨a', T, rfl, upd_same, fun x m => ⟨((zT x m).mono (Ext.same sm1)).dp (fD_py _), keyable_fm (ok _ (inF x m)).2, (ok _ (inF x m)).1, Nat.le_trans (ok _ (inF x m)).2 (by decide)⟩, fun p M np pM mT pw => ?_⟩
    have sm2 : Same (upd H1 a' (NSO X.w a' (keyT Fm.d T))) (upd (upd H1 a' (NSO X.w a' (keyT Fm.d T))) p (.lst (M.map fun x => V.ref x.1))) := same_new np
    have sm := sm1.trans sm2
    have nT : (T.map Prod.snd).Nodup := by
      have h3 := t3
      rw [keyT, List.map_map] at h3
      have h4 : ((T.map Prod.snd).map fun f => nkd (Fm.d f)).Nodup := by
        rw [List.map_map]
        exact h3
      exact List.Pairwise.of_map _ (fun a b hne e => hne (congrArg (fun f => nkd (Fm.d f)) e)) h4
    have eM : M.map Prod.snd = dist fs := asc_one (asc_le pw (pM.nodup_iff.mpr nT)) (dist_asc fs) fun f => by
      rw [dist_mem, pM.mem_iff]
      constructor
      · intro m
        obtain ⟨x, hx, rfl⟩ := List.mem_map.mp m
        exact inF x hx
      · intro m
        have h3 := t2 f m
        rw [keyT, List.map_map] at h3
        obtain ⟨x, hx, e3⟩ := List.mem_map.mp h3
        rw [← nk_inj _ _ e3]
        exact List.mem_map.mpr ⟨x, hx, rfl⟩
    have zM : ∀ M' : List (Addr × Fm), (∀ x ∈ M', x ∈ T) → ZA X.K (upd (upd H1 a' (NSO X.w a' (keyT Fm.d T))) p (.lst (M.map fun x => V.ref x.1))) (M'.map fun x => V.ref x.1) ((M'.map Prod.snd).map fD) := by
      intro M'
      induction M' with
      | nil => exact fun _ => .nil
      | cons x M' ih => exact fun h => .cons ((zT x (h x List.mem_cons_self)).mono (Ext.same sm)) (ih fun y m => h y (List.mem_cons_of_mem _ m))
    refine ⟨p, _, (M.map Prod.snd).map fD, ρ1, rfl, dom_none f1 (dom_none (ρ := ρ1) (Fr.same sm1) np), upd_same, zM M mT, R1.step sm, f1.trans s1 (Fr.same sm), s1, ?_⟩
    rw [eM]
    exact hq
end
/-! ### sorted(xs), xs a list of formulas -/
def gSortF : List D → (List D → Prop) → Prop := fun ds q => ∃ fs : List Fm, ds = [.lst (fs.map fD)] ∧ (∀ f ∈ fs, f.d.canLay0 = true ∧ f.ht ≤ 100) ∧ q ((fs.mergeSort Fm.le).map fD)
theorem za_im {K : PySem.W.Frag} {H : Hp} : ∀ (fs : List Fm) {vs : List V}, ZA K H vs (fs.map fD) → ImAll K H vs (fs.map Fm.d)
  | [], _, .nil => .nil
  | f :: fs, _, h => by
    have h : ZA K H _ (fD f :: fs.map fD) := h
    cases h with
    | cons h1 h2 => exact .cons (im_z f h1) (za_im fs h2)
theorem im_za {K : PySem.W.Frag} {H : Hp} : ∀ (fs : List Fm) {vs : List V}, ImAll K H vs (fs.map Fm.d) → ZA K H vs (fs.map fD)
  | [], _, .nil => .nil
  | f :: fs, _, h => by
    have h : ImAll K H _ (f.d :: fs.map Fm.d) := h
    cases h with
    | cons h1 h2 => exact .cons (z_im f h1) (im_za fs h2)
theorem cf_sortedF {K : PySem.W.Frag} : CF K (rSortedF K) gSortF := ⟨fun H xs ds q Q h g k => by
  obtain ⟨fs, rfl, ok, hq⟩ := g
  obtain ⟨v, rfl, a, ys, rfl, s, l⟩ := h.one
  exact ⟨a, ys, fs, rfl, s, za_im fs l, ok, fun p zs np im => k p zs _ _ (same_new np) np upd_same (im_za _ (im.mono (Same.ts (same_new np)))) hq⟩⟩
/-! ### f < g -/
def gLtF : G2 := fun d e q => ∃ f g : Fm, d = fD f ∧ e = fD g ∧ f.d.canLay0 = true ∧ g.d.canLay0 = true ∧ f.ht ≤ 100 ∧ q (.bl (f.lt g))
theorem rv_fm {K : PySem.W.Frag} {H : Hp} {v : V} {f : Fm} (h : Rv K H v (fD f)) : Z K H v (fD f) := by
  cases f <;> exact h
theorem oa_ltF {K : PySem.W.Frag} : OA K (rLtF K) gLtF := ⟨fun H x y d e q Q hx hy hg k => by
  obtain ⟨f, g, rfl, rfl, h1, h2, h3, hq⟩ := hg
  exact ⟨f, g, im_z f (rv_fm hx), im_z g (rv_fm hy), h1, h2, h3, k _ H _ (L2.Same.refl _) (.inl (.bl _)) hq⟩⟩
end DL

set_option Elab.async false
set_option linter.all false
set_option maxRecDepth 100000
set_option maxHeartbeats 2000000
namespace DL
open E PySem PySem.Spec PyProof.Rows L2 NS
/-! ### a statement at a time, comprehensions with an invariant -/
theorem seq_step {s u : DSt} {E : DEnds} {ρ : En} (h : ∀ F : En → Prop, (∀ ρ', u E ρ' → F ρ') → s { E with nx := F } ρ) : sSeq s u E ρ := h (u E) (fun _ h => h)
/-- an if whose branches meet again in J -/
theorem if_join {c : DTt} {s u : DSt} {E : DEnds} {ρ : En} (J : En → Prop) (hJ : ∀ ρ', J ρ' → E.nx ρ') (h : ∀ F : En → Prop, (∀ ρ', J ρ' → F ρ') → sIfS c s u { E with nx := F } ρ) : sIfS c s u E ρ := h E.nx hJ
theorem compW_inv {gd : GT} {se : DE} {ρw : En} (I : Nat → List D → Prop) (xs : List D) (Q : List D → Prop) (h0 : I 0 [])
    (turn : ∀ i x acc, xs[i]? = some x → I i acc → ∀ k : D → Prop, (∀ d, I (i + 1) (acc ++ [d]) → k d) → gd x ρw fun ρ2 => se ρ2 fun r ρ4 => ρ4 = ρ2 ∧ valK r k) (fin : ∀ acc, I xs.length acc → Q acc) : compW gd sYes se ρw xs [] Q := by
  have key : ∀ (ys : List D) (i : Nat) (acc : List D), xs.drop i = ys → i ≤ xs.length → I i acc → compW gd sYes se ρw ys acc Q := by
    intro ys
    induction ys with
    | nil =>
      intro i acc e hi h
      have : xs.length ≤ i := List.drop_eq_nil_iff.mp e
      have ei : i = xs.length := by omega
      subst ei
      exact fin acc h
    | cons y ys ih =>
      intro i acc e hi h
      have hx : xs[i]? = some y := by
        have := congrArg (fun l => l[0]?) e
        simpa [List.getElem?_drop] using this
      have hi2 : i < xs.length := (List.getElem?_eq_some_iff.mp hx).1
      have e3 : xs.drop (i + 1) = ys := by
        have := congrArg (List.drop 1) e
        rw [List.drop_drop] at this
        exact this
      have key : (fun ρ2 => sYes ρ2 fun b ρ3 => ρ3 = ρ2 ∧ if b = true then se ρ2 fun r ρ4 => ρ4 = ρ2 ∧ valK r fun d => compW gd sYes se ρw ys (acc ++ [d]) Q else compW gd sYes se ρw ys acc Q) = fun ρ2 => se ρ2 fun r ρ4 => ρ4 = ρ2 ∧ valK r fun d => compW gd sYes se ρw ys (acc ++ [d]) Q := by
        funext ρ2
        unfold sYes
        simp
      show gd y ρw _
      rw [key]
      exact turn i y acc hx h _ fun d hd => ih (i + 1) _ e3 (by omega) hd
  exact key xs 0 [] rfl (Nat.zero_le _) h0
theorem own_of {ρ : En} {is : List Nat} (h : (is.all fun i => (ownAt ρ i).isNone) = true) : ∀ i, i ∈ is → ownAt ρ i = none := fun i hi => by
  have := List.all_eq_true.mp h i hi
  simpa using this
/-- formulas of a list -/
theorem fms_snoc {acc : List D} {fs : List Fm} {f : Fm} (e : acc = fs.map fD) : acc ++ [fD f] = (fs ++ [f]).map fD := by rw [e, List.map_append]; rfl
theorem rng_at' {n i : Nat} {lo : Int} {x : D} (h : (rngD lo n)[i]? = some x) : i < n ∧ x = .int (lo + (i : Int)) := by
  unfold rngD at h
  rw [List.getElem?_map] at h
  by_cases hi : i < n
  · rw [List.getElem?_range hi] at h
    exact ⟨hi, (Option.some.inj h).symm⟩
  · rw [List.getElem?_eq_none_iff.mpr (by rw [List.length_range]; omega)] at h
    cases h
theorem rng_len' (lo : Int) (n : Nat) : (rngD lo n).length = n := by
  unfold rngD
  rw [List.length_map, List.length_range]
/-! ### lists and tuples of formulas compared -/
theorem lay_fms : ∀ {l : List Fm}, (∀ f ∈ l, f.d.canLay0 = true) → PyData.canLayAll0 (l.map Fm.d) = true
  | [], _ => rfl
  | f :: l, h => by
    show (f.d.canLay0 && PyData.canLayAll0 (l.map Fm.d)) = true
    rw [h f List.mem_cons_self, lay_fms fun g m => h g (List.mem_cons_of_mem _ m)]
    rfl
theorem dep_fms {n : Nat} : ∀ {l : List Fm}, (∀ f ∈ l, f.ht ≤ n) → PyData.depthAll (l.map Fm.d) ≤ n
  | [], _ => Nat.zero_le _
  | f :: l, h => by
    have h1 := h f List.mem_cons_self
    have h2 := dep_fms fun g m => h g (List.mem_cons_of_mem f m)
    show max f.d.depth (PyData.depthAll (l.map Fm.d)) ≤ n
    rw [Fm.depth]
    omega
theorem eqvAll_fm : ∀ l r : List Fm, PyData.eqvAll (l.map Fm.d) (r.map Fm.d) = decide (l = r)
  | [], [] => rfl
  | [], _ :: _ => rfl
  | _ :: _, [] => rfl
  | f :: l, g :: r => by
    show (PyData.eqv f.d g.d && PyData.eqvAll (l.map Fm.d) (r.map Fm.d)) = _
    rw [Fm.eqv, eqvAll_fm l r, ← Bool.decide_and]
    exact decide_eq_decide.mpr (by rw [List.cons.injEq])
/-- what may be compared -/
def OkE (f : Fm) : Prop := f.d.canLay0 = true ∧ f.ht ≤ 60
theorem sh_tup {l : List Fm} (h : ∀ f ∈ l, OkE f) : SeqAt.shaped (.tuple (l.map Fm.d)) = true := by
  have h1 := lay_fms fun f m => (h f m).1
  have h2 := dep_fms fun f m => (h f m).2
  unfold SeqAt.shaped
  rw [show (PyData.tuple (l.map Fm.d)).canLay0 = PyData.canLayAll0 (l.map Fm.d) from rfl, h1, Bool.true_and, decide_eq_true_eq]
  show PyData.depthAll (l.map Fm.d) + 1 ≤ 64
  omega
theorem sh_lst {l : List Fm} (h : ∀ f ∈ l, OkE f) : SeqAt.shaped (.list (l.map Fm.d)) = true := by
  have h1 := lay_fms fun f m => (h f m).1
  have h2 := dep_fms fun f m => (h f m).2
  unfold SeqAt.shaped
  rw [show (PyData.list (l.map Fm.d)).canLay0 = PyData.canLayAll0 (l.map Fm.d) from rfl, h1, Bool.true_and, decide_eq_true_eq]
  show PyData.depthAll (l.map Fm.d) + 1 ≤ 64
  omega
theorem py_tup (l : List Fm) : (D.tup (l.map fD)).py = some (.tuple (l.map Fm.d)) := by
  show (pyAll (l.map fD)).map PyData.tuple = _
  rw [pyAll_fm]
  rfl
theorem py_lst (l : List Fm) : (D.lst (l.map fD)).py = some (.list (l.map Fm.d)) := by
  show (pyAll (l.map fD)).map PyData.list = _
  rw [pyAll_fm]
  rfl
theorem eq_tups {f : Bool → Bool} {l r : List Fm} {q : D → Prop} (hl : ∀ f ∈ l, OkE f) (hr : ∀ f ∈ r, OkE f) (h : q (.bl (f (decide (l = r))))) : gEqB f (.tup (l.map fD)) (.tup (r.map fD)) q :=
  ⟨_, _, py_tup l, py_tup r, sh_tup hl, sh_tup hr, by
    rw [show PyData.eqv (.tuple (l.map Fm.d)) (.tuple (r.map Fm.d)) = PyData.eqvAll (l.map Fm.d) (r.map Fm.d) from rfl, eqvAll_fm]
    exact h⟩
theorem eq_lsts {f : Bool → Bool} {l r : List Fm} {q : D → Prop} (hl : ∀ f ∈ l, OkE f) (hr : ∀ f ∈ r, OkE f) (h : q (.bl (f (decide (l = r))))) : gEqB f (.lst (l.map fD)) (.lst (r.map fD)) q :=
  ⟨_, _, py_lst l, py_lst r, sh_lst hl, sh_lst hr, by
    rw [show PyData.eqv (.list (l.map Fm.d)) (.list (r.map Fm.d)) = PyData.eqvAll (l.map Fm.d) (r.map Fm.d) from rfl, eqvAll_fm]
    exact h⟩
theorem pyAll2 {a b : D} {p r : PyData} (h1 : a.py = some p) (h2 : b.py = some r) : pyAll [a, b] = some [p, r] := by simp [pyAll, h1, h2]
/-- two pairs of lists of formulas: same is same -/
theorem eq_pair_same {f : Bool → Bool} {l r : List Fm} {q : D → Prop} (hl : ∀ f ∈ l, OkE f) (hr : ∀ f ∈ r, OkE f) (h : q (.bl (f true))) : gEqB f (.tup [.tup (l.map fD), .tup (r.map fD)]) (.tup [.tup (l.map fD), .tup (r.map fD)]) q := by
  have py : (D.tup [.tup (l.map fD), .tup (r.map fD)]).py = some (.tuple [.tuple (l.map Fm.d), .tuple (r.map Fm.d)]) := by
    show (pyAll _).map PyData.tuple = _
    rw [pyAll2 (py_tup l) (py_tup r)]
    rfl
  have sh : SeqAt.shaped (.tuple [.tuple (l.map Fm.d), .tuple (r.map Fm.d)]) = true := by
    have h1 := lay_fms fun f m => (hl f m).1
    have h2 := dep_fms fun f m => (hl f m).2
    have h3 := lay_fms fun f m => (hr f m).1
    have h4 := dep_fms fun f m => (hr f m).2
    unfold SeqAt.shaped
    rw [show (PyData.tuple [.tuple (l.map Fm.d), .tuple (r.map Fm.d)]).canLay0 = (PyData.canLayAll0 (l.map Fm.d) && (PyData.canLayAll0 (r.map Fm.d) && true)) from rfl, h1, h3, decide_eq_true]
    · rfl
    · show max (PyData.depthAll (l.map Fm.d) + 1) (max (PyData.depthAll (r.map Fm.d) + 1) 0) + 1 ≤ 64
      omega
  exact ⟨_, _, py, py, sh, sh, by rw [eqv_self sh]; exact h⟩
theorem eq_lpair_same {f : Bool → Bool} {l r : List Fm} {q : D → Prop} (hl : ∀ f ∈ l, OkE f) (hr : ∀ f ∈ r, OkE f) (h : q (.bl (f true))) : gEqB f (.lst [.lst (l.map fD), .lst (r.map fD)]) (.lst [.lst (l.map fD), .lst (r.map fD)]) q := by
  have py : (D.lst [.lst (l.map fD), .lst (r.map fD)]).py = some (.list [.list (l.map Fm.d), .list (r.map Fm.d)]) := by
    show (pyAll _).map PyData.list = _
    rw [pyAll2 (py_lst l) (py_lst r)]
    rfl
  have sh : SeqAt.shaped (.list [.list (l.map Fm.d), .list (r.map Fm.d)]) = true := by
    have h1 := lay_fms fun f m => (hl f m).1
    have h2 := dep_fms fun f m => (hl f m).2
    have h3 := lay_fms fun f m => (hr f m).1
    have h4 := dep_fms fun f m => (hr f m).2
    unfold SeqAt.shaped
    rw [show (PyData.list [.list (l.map Fm.d), .list (r.map Fm.d)]).canLay0 = (PyData.canLayAll0 (l.map Fm.d) && (PyData.canLayAll0 (r.map Fm.d) && true)) from rfl, h1, h3, decide_eq_true]
    · rfl
    · show max (PyData.depthAll (l.map Fm.d) + 1) (max (PyData.depthAll (r.map Fm.d) + 1) 0) + 1 ≤ 64
      omega
  exact ⟨_, _, py, py, sh, sh, by rw [eqv_self sh]; exact h⟩
end DL

set_option Elab.async false
set_option linter.all false
set_option maxRecDepth 100000
set_option maxHeartbeats 2000000
namespace DL
open E PySem PySem.Spec PyProof.Rows L2 NS
/-! ### exceptions: what is wished of the class that is raised, where the walk stands -/
abbrev XWi := Addr → En → Prop
def XL (K : PySem.W.Frag) (κ : Ktx) (W : WX) (xw : XWi) : Prop := ∀ C σ H ρ, Rep K κ ρ σ H → xw C ρ → W (.ref C) none σ H
section
variable {X : Cx} {κ : Ktx} {W : WX} {xw : XWi} {k : Nat} {f C : Addr} {fd : FuncData} {ps : List Str} {x m : Str} {j : Nat} {e : Expr} {es : List Expr} {p p2 pos pos' : Pos} {sA : DAa} {sa : DE}
def sCallX (xw : XWi) (φ : GX) (sA : DAa) : DE := fun ρ Q => sA ρ fun rs ρ1 => valKs rs fun ds => φ ds (fun z => Q (.v z) ρ1) (fun C => xw C ρ1)
theorem dx_callX {φ : GX} (F : FnOk X.prog X.w X.K X.mg X.base (L2.CX X.prog X.w) k f fd ps (spX X.K κ.TT φ)) (hr : Room k X.A) (hg : Gl X x) (hm : X.mg x = some (.ref f)) (hk : PySem.W.keepIn X.K (.ref f) = true) (hb : Binds X.K fd ps []) (tk : Takes X W) (hl : XL X.K κ W xw)
    (ha : DA X κ (e :: es) sA) (hdb : (x == ("__debug__" : Str)) = false := by decide) (he : starEach (e :: es) X.env = (false, eval e X.env) :: starEach es X.env := by rfl) (hpl : (backTo pos (starEach es X.env)).any (·.1) = false := by rfl) :
    DX X κ (.Call (.Name x p) (e :: es) [] pos) (sCallX xw φ sA) :=
  DX.of (pe_callSD F hr hg hm hk hb .nil (fun σ => passAt tk σ) ha hdb he hpl) fun σ H ρ Q R h => goA R h fun vs H1 rs ρ1 R1 z1 f1 s1 h1 => by
    obtain ⟨ds, z, h2⟩ := vals_of z1 h1
    show spX _ _ _ (vs ++ []) _ _ _
    rw [List.append_nil]
    exact ⟨ds, _, _, z, R1.tab, h2, fun v H' z kp tb zv q => ⟨.v z, ρ1, R1.stepK kp tb, zv, f1.trans s1 kp.fr, s1, q⟩, fun C H' kp tb hx => hl C σ H' ρ1 (R1.stepK kp tb) hx⟩
/-- raise C("..") -/
def sRaise (xw : XWi) (C : Addr) : DSt := fun _ ρ => xw C ρ
theorem ds_raiseX {bm : List Value} {B newId initId : String} (hc : X.calm = true) (tk : Takes X W) (hl : XL X.K κ W xw) (F : ExcBaseFacts B newId initId bm) (q : PySem.W.excIn X.K C bm newId = true) (gC : X.mg x = some (.ref C)) (kC : PySem.W.keepIn X.K (.ref C) = true) (r : Raises X (.ref C)) (hg : Gl X x)
    (hdb : (x == ("__debug__" : Str)) = false := by decide) : DS X κ (.Raise (some (.Call (.Name x p) [.Constant (.str m) j p2] [] pos)) none pos') (sRaise xw C) :=
  DS.of (ps_raise hc tk (pmk_own F q gC kC r hg hdb)) fun σ H ρ E R h => hl C σ H ρ R h
end
section
variable {X : Cx} {κ : Ktx} {W : WX} {xw : XWi} {C : Addr} {x : Str} {e : Expr} {p p2 pos pos' : Pos} {sa : DE}
/-- raise C(e) -/
def sRaise1 (xw : XWi) (C : Addr) (sa : DE) : DSt := fun _ ρ => sa ρ fun _ ρ1 => xw C ρ1
theorem ds_raiseX1 {bm : List Value} {B newId initId : String} (hc : X.calm = true) (tk : Takes X W) (hl : XL X.K κ W xw) (F : ExcBaseFacts B newId initId bm) (q : PySem.W.excIn X.K C bm newId = true) (gC : X.mg x = some (.ref C)) (kC : PySem.W.keepIn X.K (.ref C) = true) (r : Raises X (.ref C)) (hg : Gl X x)
    (he : DX X κ e sa) (hs : starEach [e] X.env = (false, eval e X.env) :: starEach [] X.env := by rfl) (hdb : (x == ("__debug__" : Str)) = false := by decide) : DS X κ (.Raise (some (.Call (.Name x p) [e] [] pos)) none pos') (sRaise1 xw C sa) :=
  DS.of (ps_raise hc tk (SkE.pmk_own1 F q gC kC r hg he hs hdb)) fun σ H ρ E R h => goD R h fun v H1 r1 ρ1 R1 z1 f1 s1 h1 => hl C σ H1 ρ1 R1 h1
end
/-! ### into a block and out of it: what stands is the new ground -/
section
variable {K : PySem.W.Frag} {κ : Ktx} {ρ ρ' : En} {σ σ' : L2.St} {H H' : Hp}
def ownL (ρ : En) : List Addr := ρ.filterMap Sl.own
theorem own_mem {i : Nat} {p : Addr} (h : ownAt ρ i = some p) : p ∈ ownL ρ := by
  obtain ⟨s, e, hs⟩ := ownAt_some h
  exact List.mem_filterMap.mpr ⟨s, List.mem_of_getElem? e, hs⟩
theorem mem_own {p : Addr} (h : p ∈ ownL ρ) : ∃ i, ownAt ρ i = some p := by
  obtain ⟨s, hs, e⟩ := List.mem_filterMap.mp h
  obtain ⟨i, hi, e2⟩ := List.getElem_of_mem hs
  exact ⟨i, by rw [ownAt_of (List.getElem?_eq_getElem hi), e2]; exact e⟩
theorem Rep.enter (R : Rep K κ ρ σ H) : Rep K ⟨H, ownL ρ, κ.TT⟩ ρ σ H := ⟨R.len, R.ok, R.nd, fun i p h => .inr (own_mem h), fun _ _ h _ _ => h, fun b o h => ⟨o, h⟩, R.tab, R.plx⟩
theorem Rep.leave (R0 : Rep K κ ρ σ H) (R : Rep K ⟨H, ownL ρ, κ.TT⟩ ρ' σ' H') : Rep K κ ρ' σ' H' ∧ Ext H H' := by
  refine ⟨⟨R.len, R.ok, R.nd, fun i p h => ?_, fun b o h n m => ?_, fun b o h => ?_, R.tab, R.plx⟩, fun b o h z => ?_⟩
  · rcases R.new i p h with q | q
    · left
      cases e : κ.H0 p with
      | none => rfl
      | some o =>
        obtain ⟨o', h'⟩ := R0.dom p o e
        rw [show H p = none from q] at h'
        cases h'
    · obtain ⟨i', h'⟩ := mem_own q
      exact R0.new i' p h'
  · refine R.ctx b o (R0.ctx b o h n m) n fun q => ?_
    obtain ⟨i', h'⟩ := mem_own q
    rcases R0.new i' b h' with r | r
    · rw [r] at h; cases h
    · exact m r
  · obtain ⟨o', h'⟩ := R0.dom b o h
    exact R.dom b o' h'
  · refine R.ctx b o h (fun ps e => by rw [e] at z; exact z) fun q => ?_
    obtain ⟨u, h', mu⟩ := R0.own (mem_own q)
    rw [h] at h'
    cases h'
    cases o <;> first | exact z.elim | exact mu.elim
end
/-! ### try .. except C as e -/
section
variable {X : Cx} {κ : Ktx} {x n : Str} {c : Addr} {i : Nat} {body suite other : List Stmt} {b₀ : Stmt} {np pos pos' : Pos} {Wout : WX} {xwo : XWi} {sb : XWi → DSt} {sh : Addr → Addr → DSt} {so : DSt}
/-- what the clause takes -/
def hndl (K : PySem.W.Frag) (c : Addr) (i : Nat) (sh : Addr → Addr → DSt) (xwo : XWi) (E : DEnds) : XWi := fun C ρ => ∃ b, PySem.W.exmOne K (.ref C) (.ref c) = some b ∧
  (b = true → ExcC K C ∧ ∀ a, sh a C { nx := fun ρ2 => E.nx (ρ2.set i .no), rt := E.rt, bk := fun ρ2 => E.bk (ρ2.set i .no), ct := fun ρ2 => E.ct (ρ2.set i .no) } (ρ.set i (.val (.raw (.ref a))))) ∧ (b = false → xwo C ρ)
def sTry (K : PySem.W.Frag) (c : Addr) (i : Nat) (sb : XWi → DSt) (sh : Addr → Addr → DSt) (so : DSt) (xwo : XWi) : DSt := fun E ρ => sb (hndl K c i sh xwo E) { E with nx := so E } ρ
/-- the body's judgement for whatever is wished -/
theorem body_all {X' : Cx} {κ : Ktx} {W : WX} (hb : ∀ (xw : XWi), XL X'.K κ W xw → DSs X' κ body (sb xw)) : PSs X' body (fun D σ H => ∃ xw, XL X'.K κ W xw ∧ tSs X'.K κ (sb xw) D σ H) := ⟨fun pins s σ H D I ⟨xw, hl, h⟩ => (hb xw hl).run pins s σ H D I h⟩
theorem LeE.leave {K : PySem.W.Frag} {ρ : En} {σ : L2.St} {H : Hp} {E : DEnds} (R : Rep K κ ρ σ H) : LeE (pS K ⟨H, ownL ρ, κ.TT⟩ H E) (pS K κ H E) :=
  ⟨fun σ' H' ⟨ρ', R', x, q⟩ => ⟨ρ', (R.leave R').1, x, q⟩, fun v H' ⟨d, ρ', σ', R', x, z, q⟩ => ⟨d, ρ', σ', (R.leave R').1, x, z, q⟩, fun σ' H' ⟨ρ', R', x, q⟩ => ⟨ρ', (R.leave R').1, x, q⟩, fun σ' H' ⟨ρ', R', x, q⟩ => ⟨ρ', (R.leave R').1, x, q⟩⟩
/-- the clause's wish, met -/
theorem hndl_ok {σ : L2.St} {H : Hp} {ρ : En} {E : DEnds} {D : Ends} {ts : Addr → Value → Option Addr → L2.TS} (R : Rep X.K κ ρ σ H) (hlo : XL X.K κ Wout xwo) (le : LeE (pS X.K κ H E) D)
    (tsd : ∀ a C D σ H (H0 : Hp) (io : List Addr), ExcC X.K C → tSs X.K ⟨H0, io, κ.TT⟩ (sh a C) D σ H → ts a (.ref C) none D σ H) :
    XL X.K ⟨H, ownL ρ, κ.TT⟩ (wAs X.K (.ref c) i ts Wout D) (hndl X.K c i sh xwo E) := fun C σ1 H1 ρ1 R1 ⟨b, e, yes, no⟩ => by
  obtain ⟨R1', x1⟩ := R.leave R1
  refine ⟨b, e, fun hb a na => ?_, fun hb => hlo C σ1 H1 ρ1 R1' (no hb)⟩
  obtain ⟨ec, hq⟩ := yes hb
  refine tsd a C _ _ _ H (ownL ρ) ec ⟨ρ1.set i (.val (.raw (.ref a))), _, R1.setv (.raw _), hq a, ⟨fun σ2 H2 ⟨ρ2, R2, x2, q⟩ => ?_, fun v H2 ⟨d, ρ2, σ2, R2, x2, z, q⟩ => ?_, fun σ2 H2 ⟨ρ2, R2, x2, q⟩ => ?_, fun σ2 H2 ⟨ρ2, R2, x2, q⟩ => ?_⟩⟩
  · exact le.nx _ _ ⟨ρ2.set i .no, ((R.leave R2).1).no none, x1.trans x2, q⟩
  · exact le.rt _ _ ⟨d, ρ2, σ2, (R.leave R2).1, x1.trans x2, z, q⟩
  · exact le.bk _ _ ⟨ρ2.set i .no, ((R.leave R2).1).no none, x1.trans x2, q⟩
  · exact le.ct _ _ ⟨ρ2.set i .no, ((R.leave R2).1).no none, x1.trans x2, q⟩
theorem suite_all {X' : Cx} {TT : List NdefX.NTab} {s : DSt} (hs : ∀ (H0 : Hp) (io : List Addr), DSs X' ⟨H0, io, TT⟩ suite s) : PSs X' suite (fun D σ H => ∃ H0 io, tSs X'.K ⟨H0, io, TT⟩ s D σ H) := ⟨fun pins s σ H D I ⟨H0, io, h⟩ => (hs H0 io).run pins s σ H D I h⟩
theorem pss_or {X' : Cx} {sts : List Stmt} {T : L2.TS → Prop} (h : ∀ t, T t → PSs X' sts t) : PSs X' sts (fun D σ H => ∃ t, T t ∧ t D σ H) := ⟨fun pins s σ H D I ⟨t, ht, q⟩ => (h t ht).run pins s σ H D I q⟩
theorem ds_try (top : X.stack = X.env :: X.outer) (fr : X.env.frame = some X.env.locals) (nd : X.N.Nodup) (at_ : X.N[i]? = some n) (loc : X.env.kindOf n = some .local) (names : Names X x (.ref c)) (tk : Takes X Wout) (hlo : XL X.K κ Wout xwo)
    (hb : ∀ (H0 : Hp) (io : List Addr) (W : WX) (pn : List (Addr × Obj)) (xe : Value → Shared → Prop) (xw : XWi), Takes (X.tr pn xe) W → PassesOwn (model X.prog X.w) X.A X.env xe → XL X.K ⟨H0, io, κ.TT⟩ W xw → DSs (X.tr pn xe) ⟨H0, io, κ.TT⟩ body (sb xw))
    (hs : ∀ (H0 : Hp) (io : List Addr) (a C : Addr) (oe : Obj) (pn : List (Addr × Obj)), ExcC X.K C → Zc (.ref C) none oe → (∃ vs, oe.data = .fields vs) → DSs (X.suite a ((a, oe) :: pn)) ⟨H0, io, κ.TT⟩ (b₀ :: suite) (sh a C)) :
    DS X κ (.Try body [.ExceptHandler (some (.Name x np)) (some n) (b₀ :: suite) pos'] [] [] pos) (sTry X.K c i sb sh sNext xwo) :=
  DS.of (ps_try_as (tb := fun W D σ H => ∃ H0 io xw, XL X.K ⟨H0, io, κ.TT⟩ W xw ∧ tSs X.K ⟨H0, io, κ.TT⟩ (sb xw) D σ H) (ts := fun a cls d D σ H => ∃ C H0 io, cls = .ref C ∧ d = none ∧ ExcC X.K C ∧ tSs X.K ⟨H0, io, κ.TT⟩ (sh a C) D σ H) top fr nd at_ loc names tk
    (fun W pn xe t p => ⟨fun pins s σ H D I ⟨H0, io, xw, hl, h⟩ => (hb H0 io W pn xe xw t p hl).run pins s σ H D I h⟩)
    (fun a oe cls d pn hz hf => ⟨fun pins s σ H D I ⟨C, H0, io, e1, e2, ec, h⟩ => by
      subst e1
      subst e2
      exact (hs H0 io a C oe pn ec hz hf).run pins s σ H D I h⟩))
    fun σ H ρ E R h => ⟨H, ownL ρ, _, hndl_ok (sh := sh) (xwo := xwo) (E := E) R hlo (LeE.refl) (fun a C D σ1 H1 H0 io ec q => ⟨C, H0, io, rfl, rfl, ec, q⟩), ρ, E, R.enter, h, LeE.leave R⟩
theorem ds_tryE (top : X.stack = X.env :: X.outer) (fr : X.env.frame = some X.env.locals) (nd : X.N.Nodup) (at_ : X.N[i]? = some n) (loc : X.env.kindOf n = some .local) (names : Names X x (.ref c)) (tk : Takes X Wout) (hlo : XL X.K κ Wout xwo) (ho : DSs X κ other so)
    (hb : ∀ (H0 : Hp) (io : List Addr) (W : WX) (pn : List (Addr × Obj)) (xe : Value → Shared → Prop) (xw : XWi), Takes (X.tr pn xe) W → PassesOwn (model X.prog X.w) X.A X.env xe → XL X.K ⟨H0, io, κ.TT⟩ W xw → DSs (X.tr pn xe) ⟨H0, io, κ.TT⟩ body (sb xw))
    (hs : ∀ (H0 : Hp) (io : List Addr) (a C : Addr) (oe : Obj) (pn : List (Addr × Obj)), ExcC X.K C → Zc (.ref C) none oe → (∃ vs, oe.data = .fields vs) → DSs (X.suite a ((a, oe) :: pn)) ⟨H0, io, κ.TT⟩ (b₀ :: suite) (sh a C)) :
    DS X κ (.Try body [.ExceptHandler (some (.Name x np)) (some n) (b₀ :: suite) pos'] other [] pos) (sTry X.K c i sb sh so xwo) :=
  DS.of (ps_try_asE (tb := fun W D σ H => ∃ H0 io xw, XL X.K ⟨H0, io, κ.TT⟩ W xw ∧ tSs X.K ⟨H0, io, κ.TT⟩ (sb xw) D σ H) (ts := fun a cls d D σ H => ∃ C H0 io, cls = .ref C ∧ d = none ∧ ExcC X.K C ∧ tSs X.K ⟨H0, io, κ.TT⟩ (sh a C) D σ H) ho top fr nd at_ loc names tk
    (fun W pn xe t p => ⟨fun pins s σ H D I ⟨H0, io, xw, hl, h⟩ => (hb H0 io W pn xe xw t p hl).run pins s σ H D I h⟩)
    (fun a oe cls d pn hz hf => ⟨fun pins s σ H D I ⟨C, H0, io, e1, e2, ec, h⟩ => by
      subst e1
      subst e2
      exact (hs H0 io a C oe pn ec hz hf).run pins s σ H D I h⟩))
    fun σ H ρ E R h => ⟨H, ownL ρ, _, hndl_ok (sh := sh) (xwo := xwo) (E := E) R hlo (LeE.refl) (fun a C D σ1 H1 H0 io ec q => ⟨C, H0, io, rfl, rfl, ec, q⟩), ρ, { E with nx := so E }, R.enter, h, ⟨fun σ' H' ⟨ρ', R', x, q⟩ => ⟨ρ', E, (R.leave R').1, q, LeE.mk' x⟩, fun v H' ⟨d, ρ', σ', R', x, z, q⟩ => ⟨d, ρ', σ', (R.leave R').1, x, z, q⟩, fun σ' H' ⟨ρ', R', x, q⟩ => ⟨ρ', (R.leave R').1, x, q⟩, fun σ' H' ⟨ρ', R', x, q⟩ => ⟨ρ', (R.leave R').1, x, q⟩⟩⟩
end
/-- isinstance(e, C) in the clause -/
def gIsE (K : PySem.W.Frag) (C a : Addr) : GL := fun ds q => ∃ c b, ds = [.raw (.ref a), .raw (.ref c)] ∧ PySem.W.kitOne K (.ref C) (.ref c) = some b ∧ q (.bl b)
theorem ca_isE {K : PySem.W.Frag} {C a : Addr} : CA K (rIsE K C a) (gIsE K C a) := ⟨fun H xs ds q Q h g k => by
  obtain ⟨c, b, rfl, hk, hq⟩ := g
  obtain ⟨v, u, rfl, h1, h2⟩ := h.two
  cases (show Z K H v (.raw (.ref a)) from h1)
  cases (show Z K H u (.raw (.ref c)) from h2)
  exact ⟨.ref c, .ref c, b, rfl, fun u e => e, hk, k _ H _ (L2.Same.refl _) (.inl (.bl _)) hq⟩⟩
/-! ### a def that may raise -/
section
variable {P : Program} {w : World} {K : PySem.W.Frag} {mg : Str → Option Value} {base : Heap}
theorem okX {x qual : Str} {st : Stmt} {f : Addr} {fd : FuncData} {N ps : List Str} {k : Nat} {φ : GX} (TT : List NdefX.NTab) (F : Fun K x qual st f fd) (S : FnScope N ps (defScope st)) (len : ∀ ds q x, φ ds q x → ds.length = ps.length)
    (hbody : ∀ (cdv : Value) (A : Around) (outer : List PySem.Env) (s : Shared) (H : Hp) (E : XK) (κ : Ktx), Room k (A.deeper (envOfC qual (defScope st) s.heap.objs.size f cdv)) → κ.TT = TT → ∀ ds q x, φ ds q x → XL K κ (fun cls d _ H => E cls d H) (fun C _ => x C) →
      ∃ t, DSs (cxOf (L2.CX P w) P w K mg base N qual (defScope st) f cdv A outer s H E) κ (defBody st) t ∧ t { nx := fun _ => q .non, rt := fun d _ => q d } (startE N ds)) : FnOk P w K mg base (L2.CX P w) (k + 1) f fd ps (spX K TT φ) := by
  refine F.okX S (fun vs H Q E ⟨ds, q, x, z, t, h, _⟩ => z.length.trans (len ds q x h)) fun cdv A outer s H vs Q E hr ⟨ds, q, x, z, t, h, kq, kx⟩ => ?_
  obtain ⟨tm, hd, hs⟩ := hbody cdv A outer s H E ⟨H, [], TT⟩ hr rfl ds q x h (fun C σ H' ρ R hx => kx C H' R.kpt R.tab hx)
  refine ⟨_, hd, startE N ds, _, start_rep z t, hs, ⟨fun σ H' ⟨ρ, R, x, hq⟩ => kq _ _ _ R.kpt R.tab .non hq, fun v H' ⟨d, ρ, σ, R, x, zv, hq⟩ => kq _ _ _ R.kpt R.tab zv hq, fun σ H' ⟨_, _, _, hq⟩ => hq, fun σ H' ⟨_, _, _, hq⟩ => hq⟩⟩
end
end DL

set_option Elab.async false
set_option linter.all false
set_option maxRecDepth 100000
set_option maxHeartbeats 2000000
namespace DL
open E PySem PySem.Spec PyProof.Rows L2
/-! ### a constant table of the module: keys are texts, values are data -/
def TVals (K : PySem.W.Frag) (a : Addr) : List (Str × D) → Prop
  | [] => True
  | (z, d) :: r => (∃ (u : Value) (v : V), PySem.W.nsIn K a z = some (some u) ∧ RelV v u ∧ ∀ H, Z K H v d) ∧ TVals K a r
structure TabAt (w : World) (K : PySem.W.Frag) (a : Addr) (kvs : List (Str × D)) : Prop where
  dict : ∃ es n, KDict K w a es n
  has : ∀ z, ∃ r, PySem.W.nsIn K a z = some r ∧ r.isSome = (kvs.map (·.1)).contains z
  vals : TVals K a kvs
theorem TVals.get {K : PySem.W.Frag} {a : Addr} {z : Str} {d : D} : ∀ {kvs : List (Str × D)}, TVals K a kvs → kvs.lookup z = some d → ∃ (u : Value) (v : V), PySem.W.nsIn K a z = some (some u) ∧ RelV v u ∧ ∀ H, Z K H v d
  | [], _, e => nomatch e
  | (y, c) :: r, h, e => by
    have e2 : (match z == y with | true => some c | false => r.lookup z) = some d := e
    cases q : z == y with
    | true =>
      rw [q] at e2
      have ec : c = d := Option.some.inj e2
      have ey : z = y := beq_iff_eq.mp q
      subst ec ey
      exact h.1
    | false =>
      rw [q] at e2
      exact TVals.get h.2 e2
theorem tab_of {w : World} {K : PySem.W.Frag} {a : Addr} {kvs : List (Str × D)} (h : He.dicW K a = some (He.keysIn w.params (kvs.map (·.1)))) (v : TVals K a kvs) : TabAt w K a kvs := ⟨He.dicW_ok h, EH.has_of h, v⟩
/-- a value that is flat -/
def flatB (K : PySem.W.Frag) (d : Addr) (k : Str) (dv : He.Dv) : Bool := match PySem.W.nsIn K d k with
  | some (some u) => He.relB (dv.v K) u
  | _ => false
theorem tv_flat {K : PySem.W.Frag} {a : Addr} {z : Str} {dv : He.Dv} {d : D} {r : List (Str × D)} (h : flatB K a z dv = true) (hz : ∀ H, Z K H (dv.v K) d) (t : TVals K a r) : TVals K a ((z, d) :: r) := by
  refine ⟨?_, t⟩
  unfold flatB at h
  split at h
  · rename_i u e
    exact ⟨u, _, e, He.relB_ok h, hz⟩
  · cases h
def headVar : List D → Bool
  | .str x :: _ => x == ("var" : Str)
  | _ => false
theorem tv_tup {K : PySem.W.Frag} {a : Addr} {z : Str} {vs : List He.Dv} {ds : List D} {r : List (Str × D)} (h : EH.tupInB K a z vs = true) (hz : ∀ H, ZA K H (vs.map (He.Dv.v K)) ds) (hn : headVar ds = false) (t : TVals K a r) : TVals K a ((z, .tup ds) :: r) := by
  obtain ⟨b, e, s⟩ := EH.tupInB_ok h
  refine ⟨⟨.ref b, .ref b, e, rfl, fun H => .tup (s H) (hz H) fun y ey => ?_⟩, t⟩
  subst ey
  cases hn
/-! ### rules -/
def gTin (a : Addr) (ks : List Str) : G2 := fun x y q => ∃ z, x = .str z ∧ y = .raw (.ref a) ∧ q (.bl (ks.contains z))
def gTnin (a : Addr) (ks : List Str) : G2 := fun x y q => ∃ z, x = .str z ∧ y = .raw (.ref a) ∧ q (.bl (!ks.contains z))
def gTix (a : Addr) (kvs : List (Str × D)) : G2 := fun x y q => ∃ z d, x = .raw (.ref a) ∧ y = .str z ∧ kvs.lookup z = some d ∧ q d
def rTin (K : PySem.W.Frag) (a : Addr) (f : Bool → Bool) : R2 := fun x y H Q => ∃ (z : Str) (r : Option Value), x = .str z ∧ y = .ref a ∧ PySem.W.nsIn K a z = some r ∧ Q (.bl (f r.isSome)) H
section
variable {X : Cx} {a : Addr} {kvs : List (Str × D)}
theorem op_tin (t : TabAt X.w X.K a kvs) : OpR X (compareOp .In) (rTin X.K a id) := by
  obtain ⟨es, n, d⟩ := t.dict
  exact op_in_kd d
theorem op_tnin (t : TabAt X.w X.K a kvs) : OpR X (compareOp .NotIn) (rTin X.K a not) := by
  obtain ⟨es, n, d⟩ := t.dict
  exact op_notIn_kd d
theorem oa_tin {w : World} {K : PySem.W.Frag} (t : TabAt w K a kvs) : OA K (rTin K a id) (gTin a (kvs.map (·.1))) := ⟨fun H x y d e q Q hx hy hg k => by
  obtain ⟨z, rfl, rfl, hq⟩ := hg
  obtain ⟨r, e1, e2⟩ := t.has z
  cases hx
  cases (show Z K H y (.raw (.ref a)) from hy)
  exact ⟨z, r, rfl, rfl, e1, k _ H _ (L2.Same.refl _) (.inl (.bl _)) (by rw [show id r.isSome = _ from e2]; exact hq)⟩⟩
theorem oa_tnin {w : World} {K : PySem.W.Frag} (t : TabAt w K a kvs) : OA K (rTin K a not) (gTnin a (kvs.map (·.1))) := ⟨fun H x y d e q Q hx hy hg k => by
  obtain ⟨z, rfl, rfl, hq⟩ := hg
  obtain ⟨r, e1, e2⟩ := t.has z
  cases hx
  cases (show Z K H y (.raw (.ref a)) from hy)
  exact ⟨z, r, rfl, rfl, e1, k _ H _ (L2.Same.refl _) (.inl (.bl _)) (by rw [e2]; exact hq)⟩⟩
theorem oa_tix {w : World} {K : PySem.W.Frag} (t : TabAt w K a kvs) : OA K (rIxD K w) (gTix a kvs) := ⟨fun H x y d e q Q hx hy hg k => by
  obtain ⟨z, dd, rfl, rfl, e1, hq⟩ := hg
  obtain ⟨u, v, e2, r, zz⟩ := t.vals.get e1
  obtain ⟨es, n, kd⟩ := t.dict
  cases (show Z K H x (.raw (.ref a)) from hx)
  cases hy
  exact ⟨a, z, v, rfl, rfl, ⟨es, n, u, kd.at_, kd.lit, e2, r⟩, k _ H _ (L2.Same.refl _) (.inl (zz H)) hq⟩⟩
end
/-! ### a call of a local that holds a def -/
/-- what may be called there -/
structure CalS (X : Cx) (f : Addr) (sp : Sp) : Prop where
  ex : ∃ (k : Nat) (fd : FuncData) (ps : List Str), FnOk X.prog X.w X.K X.mg X.base (L2.CX X.prog X.w) k f fd ps sp ∧ Room k X.A ∧ PySem.W.keepIn X.K (.ref f) = true ∧ Binds X.K fd ps []
def tCallVD (X : Cx) (i : Nat) (E : L2.St → XK) (t : TA) : TE := fun σ H Q => ∃ f sp, CalS X f sp ∧ σ[i]? = some (some (.ref f)) ∧ t σ H fun vs H1 => sp (vs ++ []) H1 Q (E σ)
section
variable {X : Cx} {κ : Ktx} {W : WX} {xw : XWi} {i : Nat} {E : L2.St → XK} {x : Str} {e : Expr} {es : List Expr} {t : TA} {sA : DAa} {p pos : Pos}
theorem pe_callVD (hx : ∀ σ, PassesAt (L2.CX X.prog X.w) X σ (E σ)) (hN : X.N[i]? = some x) (hv : Vis X.env.scope x) (ha : PA X (e :: es) t)
    (hd : (x == ("__debug__" : Str)) = false := by decide) (hcd : (x == ("__classdict__" : Str)) = false := by decide)
    (he : starEach (e :: es) X.env = (false, eval e X.env) :: starEach es X.env := by rfl) (hpl : (backTo pos (starEach es X.env)).any (·.1) = false := by rfl) : PE X (.Call (.Name x p) (e :: es) [] pos) (tCallVD X i E t) := by
  refine ⟨fun pins s σ H Q I h => ?_⟩
  obtain ⟨f, sp, ⟨k, fd, ps, F, hr, hk, hb⟩, hs, h⟩ := h
  refine wpAny_Call_Name_kw (thn ((pe_var (pos := p) (i := i) hN hv hd hcd).run pins s σ H (fun v H1 => v = .ref f ∧ H1 = H) I ⟨.ref f, hs, rfl, rfl⟩) fun u s1 ⟨v, H1, I1, r1, ev, eH⟩ => ?_)
  subst ev
  rw [eH] at I1
  cases r1
  refine PySem.W.callWith_K (h₀ := X.base) I.ok.mod.kin hk (thn (ha.run pos pins s1 σ H _ I1 h) fun us s2 ⟨vs, H2, I2, r, q⟩ => ⟨I2.kIn, ?_⟩) he hpl
  exact run_fnSD F hr hb .nil (hx σ) I2 r q
def sCallW (X : Cx) (κ : Ktx) (i : Nat) (xw : XWi) (sA : DAa) : DE := fun ρ Q => ∃ f φ, ρ[i]? = some (.val (.raw (.ref f))) ∧ CalS X f (spX X.K κ.TT φ) ∧ sA ρ fun rs ρ1 => valKs rs fun ds => φ ds (fun z => Q (.v z) ρ1) (fun C => xw C ρ1)
theorem dx_callW (hN : X.N[i]? = some x) (hv : Vis X.env.scope x) (tk : Takes X W) (hl : XL X.K κ W xw)
    (ha : DA X κ (e :: es) sA) (hd : (x == ("__debug__" : Str)) = false := by decide) (hcd : (x == ("__classdict__" : Str)) = false := by decide)
    (he : starEach (e :: es) X.env = (false, eval e X.env) :: starEach es X.env := by rfl) (hpl : (backTo pos (starEach es X.env)).any (·.1) = false := by rfl) :
    DX X κ (.Call (.Name x p) (e :: es) [] pos) (sCallW X κ i xw sA) :=
  DX.of (pe_callVD (fun σ => passAt tk σ) hN hv ha hd hcd he hpl) fun σ H ρ Q R ⟨f, φ, hi, hc, h⟩ => by
    have q := R.ok i _ hi
    obtain ⟨v, e1, z⟩ := q
    cases (show Z X.K H v (.raw (.ref f)) from z)
    refine ⟨f, _, hc, e1, ?_⟩
    exact goA R h fun vs H1 rs ρ1 R1 z1 f1 s1 h1 => by
      obtain ⟨ds, z, h2⟩ := vals_of z1 h1
      show spX _ _ _ (vs ++ []) _ _ _
      rw [List.append_nil]
      exact ⟨ds, _, _, z, R1.tab, h2, fun v H' z kp tb zv q => ⟨.v z, ρ1, R1.stepK kp tb, zv, f1.trans s1 kp.fr, s1, q⟩, fun C H' kp tb hx => hl C σ H' ρ1 (R1.stepK kp tb) hx⟩
end
/-! ### a star in a display -/
def sStarA (sa : DE) (sA : DAa) : DAa := fun ρ Q => sa ρ fun r ρ1 => resK ρ1 r fun d => ∃ xs, (d = .lst xs ∨ d = .tup xs) ∧ sA ρ1 fun rs ρ2 => Q (xs.map Rs.v ++ rs) ρ2
theorem zra_vals {K : PySem.W.Frag} {H : Hp} : ∀ {vs : List V} {ds : List D}, ZA K H vs ds → ZRA K H vs (ds.map Rs.v)
  | _, _, .nil => .nil
  | _, _, .cons h t => .cons h (zra_vals t)
theorem zra_app {K : PySem.W.Frag} {H : Hp} : ∀ {vs ws : List V} {ds es : List Rs}, ZRA K H vs ds → ZRA K H ws es → ZRA K H (vs ++ ws) (ds ++ es)
  | _, _, _, _, .nil, h => h
  | _, _, _, _, .cons h t, h2 => .cons h (zra_app t h2)
theorem zra_mono {K : PySem.W.Frag} {H H' : Hp} (k : Ext H H') : ∀ {vs : List V} {ds : List Rs}, ZRA K H vs ds → ZRA K H' vs ds
  | _, _, .nil => .nil
  | _, _, .cons h t => .cons (h.mono k) (zra_mono k t)
section
variable {X : Cx} {κ : Ktx} {e : Expr} {es : List Expr} {p : Pos} {sa : DE} {sA : DAa}
theorem da_star (ha : DX X κ e sa) (hr : DA X κ es sA) (hs : starEach (.Starred e p :: es) X.env = (true, eval e X.env) :: starEach es X.env := by rfl) : DA X κ (.Starred e p :: es) (sStarA sa sA) :=
  DA.of (StX.pa_star ha hr hs) fun σ H ρ Q R h => goD R h fun v H1 r ρ1 R1 z1 f1 s1 h1 => by
    obtain ⟨d, v1, xs, hd, h2⟩ := R1.res z1 h1
    have g : ∃ a us, v = V.ref a ∧ (SqT X.K H1 a us ∨ SqL X.K H1 a us) ∧ ZA X.K H1 us xs := by
      rcases hd with rfl | rfl
      · obtain ⟨a, us, rfl, s, l⟩ := v1
        exact ⟨a, us, rfl, .inr s, l⟩
      · cases (show Z X.K H1 v (.tup xs) from v1) with
        | tup h l _ => exact ⟨_, _, rfl, .inl h, l⟩
    obtain ⟨a, us, rfl, s, l⟩ := g
    refine ⟨a, us, rfl, s, ?_⟩
    exact goA R1 h2 fun vs H2 ds ρ2 R2 z2 f2 s2 h3 => ⟨_, ρ2, R2, zra_app (zra_mono (R1.ext f2) (zra_vals l)) z2, f1.trans s1 f2, s2.trans s1, h3⟩
end
end DL

set_option Elab.async false
set_option linter.all false
set_option maxRecDepth 100000
set_option maxHeartbeats 2000000
namespace DL
open E PySem PySem.Spec PyProof.Rows L2
/-! ### f in fs, fs a tuple or a list of formulas -/
def rInT (K : PySem.W.Frag) (g : Bool → Bool) : R2 := fun x y H Q => ∃ d ds, Dp K H x d ∧ (Dp K H y (.tuple ds) ∨ Dp K H y (.list ds)) ∧ SeqAt.shaped d = true ∧ SeqAt.shaped (.list ds) = true ∧ Q (.bl (g (ds.any fun z => PyData.eqv z d))) H
section
variable {X : Cx}
theorem sh_tl {ds : List PyData} : SeqAt.shaped (.tuple ds) = SeqAt.shaped (.list ds) := rfl
theorem op_inT (hu : X.A.units + 65 < cLine) : OpR X (compareOp .In) (rInT X.K id) := by
  intro pins s σ H x y v u Q I rx ry h
  obtain ⟨d, ds, hd, he, sd, se, q⟩ := h
  obtain ⟨as, r1⟩ := Dp.reads I d x v hd rx
  rcases he with he | he
  · obtain ⟨bs, r2⟩ := Dp.reads I (.tuple ds) y u he ry
    exact SeqAt.in_tuple_reads r2 r1 (SeqAt.canLay_of_shaped se) (SeqAt.canLay_of_shaped sd) (room_in_shaped sd hu) ⟨.bl _, H, I, rfl, q⟩
  · obtain ⟨bs, r2⟩ := Dp.reads I (.list ds) y u he ry
    exact SeqAt.in_list_reads r2 r1 (SeqAt.canLay_of_shaped se) (SeqAt.canLay_of_shaped sd) (room_in_shaped sd hu) ⟨.bl _, H, I, rfl, q⟩
theorem op_notInT (hu : X.A.units + 65 < cLine) : OpR X (compareOp .NotIn) (rInT X.K not) := by
  intro pins s σ H x y v u Q I rx ry h
  obtain ⟨d, ds, hd, he, sd, se, q⟩ := h
  obtain ⟨as, r1⟩ := Dp.reads I d x v hd rx
  rcases he with he | he
  · obtain ⟨bs, r2⟩ := Dp.reads I (.tuple ds) y u he ry
    exact SeqAt.notIn_tuple_reads r2 r1 (SeqAt.canLay_of_shaped se) (SeqAt.canLay_of_shaped sd) (room_in_shaped sd hu) ⟨.bl _, H, I, rfl, q⟩
  · obtain ⟨bs, r2⟩ := Dp.reads I (.list ds) y u he ry
    exact SeqAt.notIn_list_reads r2 r1 (SeqAt.canLay_of_shaped se) (SeqAt.canLay_of_shaped sd) (room_in_shaped sd hu) ⟨.bl _, H, I, rfl, q⟩
end
def gInT (g : Bool → Bool) : G2 := fun x y q => ∃ (f : Fm) (fs : List Fm), x = fD f ∧ (y = .tup (fs.map fD) ∨ y = .lst (fs.map fD)) ∧ OkE f ∧ (∀ g ∈ fs, OkE g) ∧ q (.bl (g (decide (f ∈ fs))))
theorem any_fm (f : Fm) : ∀ fs : List Fm, ((fs.map Fm.d).any fun z => PyData.eqv z f.d) = decide (f ∈ fs)
  | [] => by simp
  | g :: fs => by
    rw [List.map_cons, List.any_cons, Fm.eqv, any_fm f fs, ← Bool.decide_or]
    exact decide_eq_decide.mpr (by rw [List.mem_cons, eq_comm])
theorem OkE.sh {f : Fm} (h : OkE f) : SeqAt.shaped f.d = true := by
  unfold SeqAt.shaped
  rw [h.1, Fm.depth]
  exact decide_eq_true (Nat.le_trans h.2 (by decide))
theorem oa_inT {K : PySem.W.Frag} {b : Bool → Bool} : OA K (rInT K b) (gInT b) := ⟨fun H x y d e q Q hx hy hg k => by
  obtain ⟨f, fs, rfl, he, h1, h2, hq⟩ := hg
  refine ⟨f.d, fs.map Fm.d, Rv.dp hx (fD_py f), ?_, h1.sh, sh_lst h2, ?_⟩
  · rcases he with rfl | rfl
    · exact .inl (Rv.dp hy (py_tup fs))
    · exact .inr (Rv.dp hy (py_lst fs))
  · rw [any_fm]
    exact k _ H _ (L2.Same.refl _) (.inl (.bl _)) hq⟩
/-! ### same data are equal -/
theorem eq_same {f : Bool → Bool} {d : D} {p : PyData} {q : D → Prop} (hd : ∀ i, d ≠ .int i) (hp : d.py = some p) (hs : SeqAt.shaped p = true) (h : q (.bl (f true))) : gEqB f d d q := by
  have gen : ∃ p r, d.py = some p ∧ d.py = some r ∧ SeqAt.shaped p = true ∧ SeqAt.shaped r = true ∧ q (.bl (f (PyData.eqv p r))) := ⟨p, p, hp, hp, hs, hs, by rw [eqv_self hs]; exact h⟩
  cases d with
  | int i => exact absurd rfl (hd i)
  | str i => show q (.bl (f (decide (i = i)))); rw [decide_eq_true rfl]; exact h
  | bl i => show q (.bl (f (decide (i = i)))); rw [decide_eq_true rfl]; exact h
  | non => exact h
  | _ => exact gen
end DL

set_option Elab.async false
set_option linter.all false
set_option maxRecDepth 100000
set_option maxHeartbeats 2000000
namespace DL
open E PySem PySem.Spec PyProof.Rows L2
/-! ### a def whose first argument is a list of ints that it changes -/
section
variable {K : PySem.W.Frag} {κ : Ktx} {ρ ρ' : En} {σ σ' : L2.St} {H H' : Hp} {i j : Nat} {p : Addr} {v : V} {d : D} {s s' : Sl}
/-- all but p stays -/
def Kq (p : Addr) (H H' : Hp) : Prop := (∀ b o, H b = some o → (∀ ps, o ≠ .tbl ps) → b ≠ p → H' b = some o) ∧ ∀ b o, H b = some o → ∃ o', H' b = some o'
theorem Rep.poolW (R : Rep K κ ρ σ H) (e : (ρ[i]? : Option Sl) = some s) (own : s.own = some p) (k : Kq p H H') (tb : NdefX.TabsN κ.TT H') (ok : SlOk K H' s (σ[i]?)) : Rep K κ ρ σ H' ∧ Fr ρ H H' := by
  have ow : ownAt ρ i = some p := by rw [ownAt_of e, own]
  obtain ⟨u, hu, mu⟩ := R.own ⟨i, ow⟩
  have x : Ext H H' := fun b o h z => k.1 b o h (fun ps e => by rw [e] at z; exact z) fun n => by
    rw [n, hu] at h
    cases h
    cases u <;> first | exact z.elim | exact mu.elim
  refine ⟨⟨R.len, fun j s2 e2 => ?_, R.nd, R.new, fun b o h0 n1 n2 => ?_, fun b o h0 => ?_, tb, R.plx⟩, fun b o h n1 n2 => k.1 b o h n1 fun n => n2 ⟨i, by rw [ow, n]⟩, k.2⟩
  · by_cases ej : j = i
    · subst ej
      rw [e] at e2
      cases e2
      exact ok
    have ne : ∀ a, s2.own = some a → a ≠ p := fun a ea z => ej (R.nd j i p (by rw [ownAt_of e2, ea, z]) ow)
    have q := R.ok j s2 e2
    cases s2 with
    | no => trivial
    | val d => obtain ⟨v, e1, z⟩ := q; exact ⟨v, e1, z.mono x⟩
    | ls a ds => obtain ⟨e1, vs, h1, z⟩ := q; exact ⟨e1, vs, k.1 _ _ h1 (fun _ e => nomatch e) (ne a rfl), z.mono x⟩
    | dk a ds => obtain ⟨e1, vs, h1, z⟩ := q; exact ⟨e1, vs, k.1 _ _ h1 (fun _ e => nomatch e) (ne a rfl), z.mono x⟩
    | il a => obtain ⟨e1, ns, h1⟩ := q; exact ⟨e1, ns, k.1 _ _ h1 (fun _ e => nomatch e) (ne a rfl)⟩
    | pl a l =>
      obtain ⟨e1, h1⟩ := q
      refine ⟨e1, ?_⟩
      obtain ⟨i', r, c, t, h5, h6⟩ := h1.at5
      obtain ⟨cs, hs⟩ := h1.sq
      refine ⟨?_, h1.ne, i', r, c, t, k.1 _ _ h5 (fun _ e => nomatch e) (ne a rfl), h6⟩
      rcases R.plx j a l e2 with nl | ⟨cs2, nl⟩
      · refine ⟨cs, ?_⟩
        rcases hs with (hs | ⟨ob, hs⟩) | hs
        · exact .inl (.inl (k.1 _ _ hs (fun _ e => nomatch e) fun n => nl ⟨i, by rw [ow, n]⟩))
        · exact .inl (.inr ⟨ob, x _ _ hs trivial⟩)
        · exact .inr hs
      · exact ⟨cs2, nl _⟩
  · refine k.1 _ _ (R.ctx b o h0 n1 n2) n1 fun n => ?_
    subst n
    rcases R.new i b ow with r | r
    · rw [r] at h0; cases h0
    · exact n2 r
  · obtain ⟨o', h'⟩ := R.dom b o h0
    exact k.2 _ _ h'
theorem ownAt_same (h : s'.own = s.own) (e : (ρ[i]? : Option Sl) = some s) (j : Nat) : ownAt (ρ.set i s') j = ownAt ρ j := by
  unfold ownAt
  by_cases ej : i = j
  · subst ej
    have hl := (List.getElem?_eq_some_iff.mp e).1
    rw [List.getElem?_set_self hl, e]
    exact h
  · rw [List.getElem?_set_ne ej]
/-- the same list, seen another way -/
theorem Rep.reslot (R : Rep K κ ρ σ H) (e : (ρ[i]? : Option Sl) = some s) (h : s'.own = s.own) (np : ∀ q l, s' ≠ .pl q l) (ok : SlOk K H s' (σ[i]?)) : Rep K κ (ρ.set i s') σ H := by
  have ow := ownAt_same h e
  refine ⟨by rw [List.length_set]; exact R.len, fun j s2 e2 => ?_, fun a b p ha hb => ?_, fun a p ha => ?_, R.ctx, R.dom, R.tab, fun j q l e2 => ?_⟩
  · by_cases ej : i = j
    · subst ej
      rw [List.getElem?_set_self (List.getElem?_eq_some_iff.mp e).1] at e2
      cases e2
      exact ok
    · rw [List.getElem?_set_ne ej] at e2
      exact R.ok j s2 e2
  · rw [ow] at ha hb
    exact R.nd a b p ha hb
  · rw [ow] at ha
    exact R.new a p ha
  · by_cases ej : i = j
    · subst ej
      rw [List.getElem?_set_self (List.getElem?_eq_some_iff.mp e).1] at e2
      exact absurd (Option.some.inj e2) (np q l)
    · rw [List.getElem?_set_ne ej] at e2
      rcases R.plx j q l e2 with n | n
      · exact .inl fun ⟨j', h'⟩ => n ⟨j', by rw [← ow]; exact h'⟩
      · exact .inr n
theorem ints_za {vs : List V} {ns : List Int} (h : ZA K H vs (ns.map D.int)) : vs = ns.map V.int := ZA.ints_inv h
theorem za_ints : ∀ ns : List Int, ZA K H (ns.map V.int) (ns.map D.int)
  | [] => .nil
  | n :: ns => .cons (.int n) (za_ints ns)
end
/-! ### a statement over the list, its items forgotten -/
def sLend (i : Nat) (s : DSt) : DSt := fun E ρ => ∃ p ns, (ρ[i]? : Option Sl) = some (.ls p (List.map D.int ns)) ∧
  s { nx := fun ρ' => (ρ'[i]? : Option Sl) = some (.il p) ∧ ∀ ms : List Int, E.nx (ρ'.set i (.ls p (ms.map D.int))), rt := E.rt, bk := fun _ => False, ct := fun _ => False } (ρ.set i (.il p))
theorem ds_lend {X : Cx} {κ : Ktx} {st : Stmt} {s : DSt} (i : Nat) (h : DS X κ st s) : DS X κ st (sLend i s) :=
  ⟨fun pins t σ H D₁ I ⟨ρ, E, R, ⟨p, ns, e, hs⟩, le⟩ => by
    obtain ⟨e1, vs, hp, z⟩ := R.ok i _ e
    have ev := ints_za z
    subst ev
    refine h.run pins t σ H D₁ I ⟨_, _, R.reslot (s' := .il p) e rfl (fun _ _ h => nomatch h) ⟨e1, ns, hp⟩, hs, ?_⟩
    refine ⟨fun σ' H' ⟨ρ', R', x, e', q⟩ => ?_, fun v H' ⟨d, ρ', σ', R', x, z, q⟩ => ?_, fun σ' H' ⟨_, _, _, q⟩ => q.elim, fun σ' H' ⟨_, _, _, q⟩ => q.elim⟩
    · obtain ⟨e2, ms, hm⟩ := R'.ok i _ e'
      exact le.nx _ _ ⟨_, R'.reslot (s' := .ls p (ms.map D.int)) e' rfl (fun _ _ h => nomatch h) ⟨e2, _, hm, za_ints ms⟩, x, q ms⟩
    · exact le.rt _ _ ⟨d, ρ', σ', R', x, z, q⟩⟩
/-- return of a value that is no owned list: what stands is kept -/
def sRetV (sa : DE) : DSt := fun E ρ => sa ρ fun r ρ1 => valK r fun d => E.rt d ρ1
theorem ds_retV {X : Cx} {κ : Ktx} {e : Expr} {sa : DE} {pos : Pos} (he : DX X κ e sa) : DS X κ (.Return (some e) pos) (sRetV sa) :=
  DS.of (ps_ret (pe_fz he)) fun σ H ρ E R h => ⟨ρ, _, R, h, fun v H' ⟨r, ρ1, R1, z1, f1, s1, h1⟩ => by
    cases r with
    | v d => exact .inl ⟨d, ρ1, σ, R1, R.ext f1, z1, h1⟩
    | o p i => exact (show False from h1).elim⟩
theorem ints_py : ∀ ns : List Int, pyAll (ns.map D.int) = some (ns.map PyData.int)
  | [] => rfl
  | n :: ns => by
    show (match D.py (.int n), pyAll (ns.map D.int) with | some x, some xs => some (x :: xs) | _, _ => none) = _
    rw [ints_py ns]
    rfl
/-- is it empty? -/
theorem ints_ne {ns : List Int} {q : D → Prop} {k : Bool → Bool} (h : q (.bl (k ns.isEmpty))) : gEqB k (.lst (ns.map D.int)) (.lst []) q := by
  refine ⟨.list (ns.map PyData.int), .list [], by show (pyAll _).map PyData.list = _; rw [ints_py]; rfl, rfl, shaped_ints ns, rfl, ?_⟩
  rw [eqv_nil]
  cases ns <;> exact h
/-! ### the def -/
def spP (K : PySem.W.Frag) (TT : List NdefX.NTab) (φ : GL) : Sp := fun vs H Q _ => ∃ p vs' ds ns q, vs = .ref p :: vs' ∧ H p = some (.lst (List.map V.int ns)) ∧ ZA K H vs' ds ∧ NdefX.TabsN TT H ∧ φ ds q ∧
  ∀ v H' z ms, Kq p H H' → NdefX.TabsN TT H' → H' p = some (.lst (List.map V.int ms)) → Z K H' v z → q z → Q v H'
theorem start_repP {K : PySem.W.Frag} {N : List Str} {H : Hp} {TT : List NdefX.NTab} {p : Addr} {ns : List Int} {vs : List V} {ds : List D} (hp : H p = some (.lst (ns.map V.int))) (z : ZA K H vs ds) (t : NdefX.TabsN TT H) :
    Rep K ⟨H, [p], TT⟩ ((Sl.ls p (ns.map D.int)) :: (ds.map Sl.val ++ List.replicate (N.length - (ds.length + 1)) .no)) (L2.start N (.ref p :: vs)) H := by
  have l := z.length
  have own : ∀ i q, ownAt ((Sl.ls p (ns.map D.int)) :: (ds.map Sl.val ++ List.replicate (N.length - (ds.length + 1)) .no)) i = some q → i = 0 ∧ q = p := fun i q h => by
    cases i with
    | zero => exact ⟨rfl, (Option.some.inj h).symm⟩
    | succ i =>
      exfalso
      unfold ownAt at h
      rw [List.getElem?_cons_succ] at h
      by_cases hi : i < ds.length
      · rw [List.getElem?_append_left (by rw [List.length_map]; exact hi), List.getElem?_map, List.getElem?_eq_getElem hi] at h
        cases h
      · rw [List.getElem?_append_right (by rw [List.length_map]; omega), List.getElem?_replicate] at h
        split at h
        · cases h
        · cases h
  refine ⟨by unfold L2.start; simp [l], fun i s e => ?_, fun i j q h1 h2 => ?_, fun i q h => .inr ?_, fun b o h _ _ => h, fun b o h => ⟨o, h⟩, t, fun i q l e => ?_⟩
  · cases i with
    | zero =>
      cases e
      exact ⟨rfl, _, hp, za_ints ns⟩
    | succ i =>
      rw [List.getElem?_cons_succ] at e
      by_cases hi : i < ds.length
      · rw [List.getElem?_append_left (by rw [List.length_map]; exact hi), List.getElem?_map, List.getElem?_eq_getElem hi] at e
        cases e
        obtain ⟨v, h1, h2⟩ := z.get (List.getElem?_eq_getElem hi)
        refine ⟨v, ?_, h2⟩
        unfold L2.start
        rw [List.map_cons, List.cons_append, List.getElem?_cons_succ, List.getElem?_append_left (by rw [List.length_map, l]; exact hi), List.getElem?_map, h1]
        rfl
      · rw [List.getElem?_append_right (by rw [List.length_map]; omega), List.getElem?_replicate] at e
        split at e
        · cases e; trivial
        · cases e
  · rw [(own i q h1).1, (own j q h2).1]
  · rw [(own i q h).2]
    exact List.mem_singleton.mpr rfl
  · exfalso
    cases i with
    | zero => cases e
    | succ i =>
      have : ownAt _ (i + 1) = some q := ownAt_of e
      have := (own _ q this).1
      omega
section
variable {P : Program} {w : World} {K : PySem.W.Frag} {mg : Str → Option Value} {base : Heap}
theorem okP {x qual : Str} {st : Stmt} {f : Addr} {fd : FuncData} {N ps : List Str} {k : Nat} {φ : GL} (TT : List NdefX.NTab) (F : Fun K x qual st f fd) (S : FnScope N ps (defScope st)) (len : ∀ ds q, φ ds q → ds.length + 1 = ps.length)
    (hbody : ∀ (cdv : Value) (A : Around) (outer : List PySem.Env) (s : Shared) (H : Hp) (E : XK) (κ : Ktx), Room k (A.deeper (envOfC qual (defScope st) s.heap.objs.size f cdv)) → κ.TT = TT → ∀ p ns ds q, φ ds q →
      ∃ t, DSs (cxOf CX0 P w K mg base N qual (defScope st) f cdv A outer s H E).nox κ (defBody st) t ∧ t { nx := fun _ => False, rt := fun d ρ => q d ∧ ∃ ms : List Int, (ρ[0]? : Option Sl) = some (.ls p (ms.map D.int)) } ((Sl.ls p (List.map D.int ns)) :: (ds.map Sl.val ++ List.replicate (N.length - (ds.length + 1)) .no))) : FnOk P w K mg base CX0 (k + 1) f fd ps (spP K TT φ) := by
  refine F.ok S (fun vs H Q E ⟨p, vs', ds, ns, q, e, _, z, _, h, _⟩ => by rw [e, List.length_cons, z.length]; exact len ds q h) fun cdv A outer s H vs Q E hr ⟨p, vs', ds, ns, q, e, hp, z, t, h, kq⟩ => ?_
  subst e
  obtain ⟨tm, hd, hs⟩ := hbody cdv A outer s H E ⟨H, [p], TT⟩ hr rfl p ns ds q h
  refine ⟨_, hd, _, _, start_repP hp z t, hs, ⟨fun σ H' ⟨ρ, R, x, hq⟩ => hq.elim, fun v H' ⟨d, ρ, σ, R, x, zv, hq, ms, e⟩ => ?_, fun σ H' ⟨_, _, _, hq⟩ => hq, fun σ H' ⟨_, _, _, hq⟩ => hq⟩⟩
  obtain ⟨_, us, hu, zu⟩ := R.ok 0 _ e
  have ev := ints_za zu
  subst ev
  exact kq _ _ _ ms ⟨fun b o h n1 n2 => R.ctx b o h n1 fun m => n2 (List.mem_singleton.mp m), R.dom⟩ R.tab hu zv hq
theorem c_P {κ : Ktx} {φ : GL} {E : XK} : ∀ σ H ρ vs rs (Q : DQ) (Q' : VK), Rep K κ ρ σ H → ZRA K H vs rs → gPool isIl φ rs ρ Q → (∀ v H', pD K κ σ H ρ Q v H' → Q' v H') → spP K κ.TT φ vs H Q' E := by
  intro σ H ρ vs rs Q Q' R z h k
  match rs, z, h with
  | .o p i :: rs, .cons (v := v) z1 z2, ⟨s, e, own, is, h⟩ =>
    cases (show v = .ref p from z1)
    obtain ⟨ds, za, hq⟩ := vals_of z2 h
    cases s <;> first | exact (show False from is).elim | skip
    cases own
    obtain ⟨ev, ns, hp⟩ := R.ok i _ e
    refine ⟨p, _, ds, ns, _, rfl, hp, za, R.tab, hq, fun v H' z ms kp tb hp' zv hz => ?_⟩
    obtain ⟨R', f'⟩ := R.poolW e rfl kp tb ⟨ev, ms, hp'⟩
    exact k _ _ ⟨.v z, ρ, R', zv, f', Sub.refl _, hz⟩
end
end DL

set_option Elab.async false
set_option linter.all false
set_option maxRecDepth 100000
set_option maxHeartbeats 4000000
namespace E
open PySem PySem.Spec PyProof.Rows L2
abbrev topS (i : Nat) : Stmt := PySem.Challenge.pw_elsewhere_k29_premises_of_logical_rules.main.body.getD i (.Pass ⟨0, 0, 0, 0⟩)
abbrev s_parts_of : Stmt := topS 5
theorem sc_parts_of : FnScope ["a"] ["a"] (defScope s_parts_of) := ⟨rfl, rfl, rfl, by decide +kernel, rfl, by decide +kernel, by decide +kernel⟩
abbrev s_distinct : Stmt := topS 6
theorem sc_distinct : FnScope ["rows", "found", "row"] ["rows"] (defScope s_distinct) := ⟨rfl, rfl, rfl, by decide +kernel, rfl, by decide +kernel, by decide +kernel⟩
abbrev s_levels_from : Stmt := topS 7
theorem sc_levels_from : FnScope ["formulas", "levels", "level", "b", "part"] ["formulas"] (defScope s_levels_from) := ⟨rfl, rfl, rfl, by decide +kernel, rfl, by decide +kernel, by decide +kernel⟩
abbrev s_place_of : Stmt := topS 8
theorem sc_place_of : FnScope ["rows", "row", "low", "high", "middle"] ["rows", "row"] (defScope s_place_of) := ⟨rfl, rfl, rfl, by decide +kernel, rfl, by decide +kernel, by decide +kernel⟩
abbrev s_contains : Stmt := topS 9
theorem sc_contains : FnScope ["rows", "row"] ["rows", "row"] (defScope s_contains) := ⟨rfl, rfl, rfl, by decide +kernel, rfl, by decide +kernel, by decide +kernel⟩
abbrev s_is_plain : Stmt := topS 13
theorem sc_is_plain : FnScope ["a"] ["a"] (defScope s_is_plain) := ⟨rfl, rfl, rfl, by decide +kernel, rfl, by decide +kernel, by decide +kernel⟩
abbrev s_subformulas : Stmt := topS 14
theorem sc_subformulas : FnScope ["a"] ["a"] (defScope s_subformulas) := ⟨rfl, rfl, rfl, by decide +kernel, rfl, by decide +kernel, by decide +kernel⟩
abbrev s_subformulas_of : Stmt := topS 15
theorem sc_subformulas_of : FnScope ["formulas", "level", "b"] ["formulas"] (defScope s_subformulas_of) := ⟨rfl, rfl, rfl, by decide +kernel, rfl, by decide +kernel, by decide +kernel⟩
abbrev s_boxes : Stmt := topS 17
theorem sc_boxes : FnScope ["a", "b"] ["a"] (defScope s_boxes) := ⟨rfl, rfl, rfl, by decide +kernel, rfl, by decide +kernel, by decide +kernel⟩
abbrev s_check_logic : Stmt := topS 35
theorem sc_check_logic : FnScope ["logic"] ["logic"] (defScope s_check_logic) := ⟨rfl, rfl, rfl, by decide +kernel, rfl, by decide +kernel, by decide +kernel⟩
abbrev s_sequent : Stmt := topS 37
theorem sc_sequent : FnScope ["left", "right"] ["left", "right"] (defScope s_sequent) := ⟨rfl, rfl, rfl, by decide +kernel, rfl, by decide +kernel, by decide +kernel⟩
abbrev s_added : Stmt := topS 38
theorem sc_added : FnScope ["side", "formulas"] ["side", "formulas"] (defScope s_added) := ⟨rfl, rfl, rfl, by decide +kernel, rfl, by decide +kernel, by decide +kernel⟩
abbrev s_axiom : Stmt := topS 40
theorem sc_axiom : FnScope ["logic", "left", "right", "main"] ["logic", "left", "right", "main"] (defScope s_axiom) := ⟨rfl, rfl, rfl, by decide +kernel, rfl, by decide +kernel, by decide +kernel⟩
abbrev s_falsum : Stmt := topS 41
theorem sc_falsum : FnScope ["logic", "left", "right", "main"] ["logic", "left", "right", "main"] (defScope s_falsum) := ⟨rfl, rfl, rfl, by decide +kernel, rfl, by decide +kernel, by decide +kernel⟩
abbrev s_and_left : Stmt := topS 42
theorem sc_and_left : FnScope ["logic", "left", "right", "main"] ["logic", "left", "right", "main"] (defScope s_and_left) := ⟨rfl, rfl, rfl, by decide +kernel, rfl, by decide +kernel, by decide +kernel⟩
abbrev s_and_right : Stmt := topS 43
theorem sc_and_right : FnScope ["logic", "left", "right", "main", "a", "b"] ["logic", "left", "right", "main"] (defScope s_and_right) := ⟨rfl, rfl, rfl, by decide +kernel, rfl, by decide +kernel, by decide +kernel⟩
abbrev s_or_left : Stmt := topS 44
theorem sc_or_left : FnScope ["logic", "left", "right", "main", "a", "b"] ["logic", "left", "right", "main"] (defScope s_or_left) := ⟨rfl, rfl, rfl, by decide +kernel, rfl, by decide +kernel, by decide +kernel⟩
abbrev s_or_right : Stmt := topS 45
theorem sc_or_right : FnScope ["logic", "left", "right", "main"] ["logic", "left", "right", "main"] (defScope s_or_right) := ⟨rfl, rfl, rfl, by decide +kernel, rfl, by decide +kernel, by decide +kernel⟩
abbrev s_implies_left : Stmt := topS 46
theorem sc_implies_left : FnScope ["logic", "left", "right", "main", "a", "b"] ["logic", "left", "right", "main"] (defScope s_implies_left) := ⟨rfl, rfl, rfl, by decide +kernel, rfl, by decide +kernel, by decide +kernel⟩
abbrev s_implies_right : Stmt := topS 47
theorem sc_implies_right : FnScope ["logic", "left", "right", "main", "a", "b"] ["logic", "left", "right", "main"] (defScope s_implies_right) := ⟨rfl, rfl, rfl, by decide +kernel, rfl, by decide +kernel, by decide +kernel⟩
abbrev s_cut : Stmt := topS 48
theorem sc_cut : FnScope ["logic", "left", "right", "main"] ["logic", "left", "right", "main"] (defScope s_cut) := ⟨rfl, rfl, rfl, by decide +kernel, rfl, by decide +kernel, by decide +kernel⟩
abbrev s_check_no_main : Stmt := topS 58
theorem sc_check_no_main : FnScope ["main"] ["main"] (defScope s_check_no_main) := ⟨rfl, rfl, rfl, by decide +kernel, rfl, by decide +kernel, by decide +kernel⟩
abbrev s_parts : Stmt := topS 59
theorem sc_parts : FnScope ["sign", "main", "side"] ["sign", "main", "side"] (defScope s_parts) := ⟨rfl, rfl, rfl, by decide +kernel, rfl, by decide +kernel, by decide +kernel⟩
abbrev s_premises_of : Stmt := topS 66
theorem sc_premises_of : FnScope ["logic", "rule", "conclusion", "main", "left", "right", "premises"] ["logic", "rule", "conclusion", "main"] (defScope s_premises_of) := ⟨rfl, rfl, rfl, by decide +kernel, rfl, by decide +kernel, by decide +kernel⟩
abbrev s_law_cell : Stmt := topS 68
theorem sc_law_cell : FnScope ["script", "k"] ["script", "k"] (defScope s_law_cell) := ⟨rfl, rfl, rfl, by decide +kernel, rfl, by decide +kernel, by decide +kernel⟩
abbrev s_law_numbers : Stmt := topS 69
theorem sc_law_numbers : FnScope ["script", "first", "most", "found", "at", "cell", "k", "mixed"] ["script", "first", "most"] (defScope s_law_numbers) := ⟨rfl, rfl, rfl, by decide +kernel, rfl, by decide +kernel, by decide +kernel⟩
abbrev s_law_formula : Stmt := topS 70
theorem sc_law_formula : FnScope ["pool", "depth", "plain", "number", "kind", "first"] ["pool", "depth", "plain"] (defScope s_law_formula) := ⟨rfl, rfl, rfl, by decide +kernel, rfl, by decide +kernel, by decide +kernel⟩
abbrev s_law_goal : Stmt := topS 71
theorem sc_law_goal : FnScope ["pool", "most", "plain", "sides", "k", "many", "j"] ["pool", "most", "plain"] (defScope s_law_goal) := ⟨rfl, rfl, rfl, by decide +kernel, rfl, by decide +kernel, by decide +kernel⟩
abbrev s_law_logic : Stmt := topS 72
theorem sc_law_logic : FnScope ["number", "plain", "logics"] ["number", "plain"] (defScope s_law_logic) := ⟨rfl, rfl, rfl, by decide +kernel, rfl, by decide +kernel, by decide +kernel⟩
abbrev s_law_add : Stmt := topS 73
theorem sc_law_add : FnScope ["side", "formulas"] ["side", "formulas"] (defScope s_law_add) := ⟨rfl, rfl, rfl, by decide +kernel, rfl, by decide +kernel, by decide +kernel⟩
abbrev s_law_boxed : Stmt := topS 77
theorem sc_law_boxed : FnScope ["a", "part"] ["a"] (defScope s_law_boxed) := ⟨rfl, rfl, rfl, by decide +kernel, rfl, by decide +kernel, by decide +kernel⟩
abbrev s_law_logical : Stmt := topS 78
theorem sc_law_logical : FnScope ["logic", "rule", "goal", "m", "left", "right", "modal"] ["logic", "rule", "goal", "m"] (defScope s_law_logical) := ⟨rfl, rfl, rfl, by decide +kernel, rfl, by decide +kernel, by decide +kernel⟩
abbrev s_law_special : Stmt := topS 79
theorem sc_law_special : FnScope ["logic", "rule", "goal", "m", "left", "right", "listed", "kept_v", "here", "found", "a", "b"] ["logic", "rule", "goal", "m"] (defScope s_law_special) := ⟨rfl, rfl, rfl, by decide +kernel, rfl, by decide +kernel, by decide +kernel⟩
abbrev s_law_premises : Stmt := topS 80
theorem sc_law_premises : FnScope ["logic", "rule", "goal", "m"] ["logic", "rule", "goal", "m"] (defScope s_law_premises) := ⟨rfl, rfl, rfl, by decide +kernel, rfl, by decide +kernel, by decide +kernel⟩
abbrev s_law : Stmt := topS 81
theorem sc_law : FnScope ["script", "digit", "pool", "plain", "logic", "goal", "rules", "rule", "listed", "m", "part", "due", "actual", "e"] ["script"] (defScope s_law) := ⟨rfl, rfl, rfl, by decide +kernel, rfl, by decide +kernel, by decide +kernel⟩
structure Top (w : World) (K : PySem.W.Frag) (mg : Str → Option Value) where
  a_FALSUM : Addr
  m_FALSUM : mg "FALSUM" = some (.ref a_FALSUM)
  k_FALSUM : ∀ H, SqT K H a_FALSUM [.str "falsum"]
  a_INTERMEDIATE : Addr
  m_INTERMEDIATE : mg "INTERMEDIATE" = some (.ref a_INTERMEDIATE)
  k_INTERMEDIATE : ∀ H, SqT K H a_INTERMEDIATE [.str "Int", .str "KC", .str "LC", .str "BD2", .str "HT", .str "Cl"]
  c_ElsewhereError : Addr
  g_ElsewhereError : mg "ElsewhereError" = some (.ref c_ElsewhereError)
  x_ElsewhereError : PySem.W.excIn K c_ElsewhereError [.type "ValueError", .type "Exception", .type "BaseException", .type "object"] "ValueError.__new__" = true
  k_ElsewhereError : PySem.W.keepIn K (.ref c_ElsewhereError) = true
  b_ElsewhereError : PySem.W.subIn K (.ref c_ElsewhereError) (.type "BaseException") = some true
  t_ElsewhereError : PySem.W.typeIn K (.ref c_ElsewhereError) = some (.type "type")
  e_ElsewhereError : PySem.W.exmOne K (.ref c_ElsewhereError) (.ref c_ElsewhereError) = some true
  E_ElsewhereError : ExcC K c_ElsewhereError
  c_UnknownLogic : Addr
  g_UnknownLogic : mg "UnknownLogic" = some (.ref c_UnknownLogic)
  x_UnknownLogic : PySem.W.excIn K c_UnknownLogic [.type "ValueError", .type "Exception", .type "BaseException", .type "object"] "ValueError.__new__" = true
  k_UnknownLogic : PySem.W.keepIn K (.ref c_UnknownLogic) = true
  b_UnknownLogic : PySem.W.subIn K (.ref c_UnknownLogic) (.type "BaseException") = some true
  t_UnknownLogic : PySem.W.typeIn K (.ref c_UnknownLogic) = some (.type "type")
  e_UnknownLogic : PySem.W.exmOne K (.ref c_UnknownLogic) (.ref c_UnknownLogic) = some true
  E_UnknownLogic : ExcC K c_UnknownLogic
  c_NoFit : Addr
  g_NoFit : mg "NoFit" = some (.ref c_NoFit)
  x_NoFit : PySem.W.excIn K c_NoFit [.type "ValueError", .type "Exception", .type "BaseException", .type "object"] "ValueError.__new__" = true
  k_NoFit : PySem.W.keepIn K (.ref c_NoFit) = true
  b_NoFit : PySem.W.subIn K (.ref c_NoFit) (.type "BaseException") = some true
  t_NoFit : PySem.W.typeIn K (.ref c_NoFit) = some (.type "type")
  e_NoFit : PySem.W.exmOne K (.ref c_NoFit) (.ref c_NoFit) = some true
  E_NoFit : ExcC K c_NoFit
  i_ElsewhereError_NoFit : PySem.W.kitOne K (.ref c_ElsewhereError) (.ref c_NoFit) = some false
  i_NoFit_NoFit : PySem.W.kitOne K (.ref c_NoFit) (.ref c_NoFit) = some true
  i_UnknownLogic_NoFit : PySem.W.kitOne K (.ref c_UnknownLogic) (.ref c_NoFit) = some false
  X_NoFit_ElsewhereError : PySem.W.exmOne K (.ref c_NoFit) (.ref c_ElsewhereError) = some true
  X_UnknownLogic_ElsewhereError : PySem.W.exmOne K (.ref c_UnknownLogic) (.ref c_ElsewhereError) = some true
  f_parts_of : Addr
  d_parts_of : FuncData
  F_parts_of : Fun K "parts_of" "parts_of" s_parts_of f_parts_of d_parts_of
  b_parts_of : Binds K d_parts_of ["a"] []
  m_parts_of : mg "parts_of" = some (.ref f_parts_of)
  f_distinct : Addr
  d_distinct : FuncData
  F_distinct : Fun K "distinct" "distinct" s_distinct f_distinct d_distinct
  b_distinct : Binds K d_distinct ["rows"] []
  m_distinct : mg "distinct" = some (.ref f_distinct)
  f_levels_from : Addr
  d_levels_from : FuncData
  F_levels_from : Fun K "levels_from" "levels_from" s_levels_from f_levels_from d_levels_from
  b_levels_from : Binds K d_levels_from ["formulas"] []
  m_levels_from : mg "levels_from" = some (.ref f_levels_from)
  f_place_of : Addr
  d_place_of : FuncData
  F_place_of : Fun K "place_of" "place_of" s_place_of f_place_of d_place_of
  b_place_of : Binds K d_place_of ["rows", "row"] []
  m_place_of : mg "place_of" = some (.ref f_place_of)
  f_contains : Addr
  d_contains : FuncData
  F_contains : Fun K "contains" "contains" s_contains f_contains d_contains
  b_contains : Binds K d_contains ["rows", "row"] []
  m_contains : mg "contains" = some (.ref f_contains)
  f_is_plain : Addr
  d_is_plain : FuncData
  F_is_plain : Fun K "is_plain" "is_plain" s_is_plain f_is_plain d_is_plain
  b_is_plain : Binds K d_is_plain ["a"] []
  m_is_plain : mg "is_plain" = some (.ref f_is_plain)
  f_subformulas : Addr
  d_subformulas : FuncData
  F_subformulas : Fun K "subformulas" "subformulas" s_subformulas f_subformulas d_subformulas
  b_subformulas : Binds K d_subformulas ["a"] []
  m_subformulas : mg "subformulas" = some (.ref f_subformulas)
  f_subformulas_of : Addr
  d_subformulas_of : FuncData
  F_subformulas_of : Fun K "subformulas_of" "subformulas_of" s_subformulas_of f_subformulas_of d_subformulas_of
  b_subformulas_of : Binds K d_subformulas_of ["formulas"] []
  m_subformulas_of : mg "subformulas_of" = some (.ref f_subformulas_of)
  f_boxes : Addr
  d_boxes : FuncData
  F_boxes : Fun K "boxes" "boxes" s_boxes f_boxes d_boxes
  b_boxes : Binds K d_boxes ["a"] []
  m_boxes : mg "boxes" = some (.ref f_boxes)
  f_check_logic : Addr
  d_check_logic : FuncData
  F_check_logic : Fun K "check_logic" "check_logic" s_check_logic f_check_logic d_check_logic
  b_check_logic : Binds K d_check_logic ["logic"] []
  m_check_logic : mg "check_logic" = some (.ref f_check_logic)
  f_sequent : Addr
  d_sequent : FuncData
  F_sequent : Fun K "sequent" "sequent" s_sequent f_sequent d_sequent
  b_sequent : Binds K d_sequent ["left", "right"] []
  m_sequent : mg "sequent" = some (.ref f_sequent)
  f_added : Addr
  d_added : FuncData
  F_added : Fun K "added" "added" s_added f_added d_added
  b_added : Binds K d_added ["side", "formulas"] []
  m_added : mg "added" = some (.ref f_added)
  f_axiom : Addr
  d_axiom : FuncData
  F_axiom : Fun K "_axiom" "_axiom" s_axiom f_axiom d_axiom
  b_axiom : Binds K d_axiom ["logic", "left", "right", "main"] []
  m_axiom : mg "_axiom" = some (.ref f_axiom)
  f_falsum : Addr
  d_falsum : FuncData
  F_falsum : Fun K "_falsum" "_falsum" s_falsum f_falsum d_falsum
  b_falsum : Binds K d_falsum ["logic", "left", "right", "main"] []
  m_falsum : mg "_falsum" = some (.ref f_falsum)
  f_and_left : Addr
  d_and_left : FuncData
  F_and_left : Fun K "_and_left" "_and_left" s_and_left f_and_left d_and_left
  b_and_left : Binds K d_and_left ["logic", "left", "right", "main"] []
  m_and_left : mg "_and_left" = some (.ref f_and_left)
  f_and_right : Addr
  d_and_right : FuncData
  F_and_right : Fun K "_and_right" "_and_right" s_and_right f_and_right d_and_right
  b_and_right : Binds K d_and_right ["logic", "left", "right", "main"] []
  m_and_right : mg "_and_right" = some (.ref f_and_right)
  f_or_left : Addr
  d_or_left : FuncData
  F_or_left : Fun K "_or_left" "_or_left" s_or_left f_or_left d_or_left
  b_or_left : Binds K d_or_left ["logic", "left", "right", "main"] []
  m_or_left : mg "_or_left" = some (.ref f_or_left)
  f_or_right : Addr
  d_or_right : FuncData
  F_or_right : Fun K "_or_right" "_or_right" s_or_right f_or_right d_or_right
  b_or_right : Binds K d_or_right ["logic", "left", "right", "main"] []
  m_or_right : mg "_or_right" = some (.ref f_or_right)
  f_implies_left : Addr
  d_implies_left : FuncData
  F_implies_left : Fun K "_implies_left" "_implies_left" s_implies_left f_implies_left d_implies_left
  b_implies_left : Binds K d_implies_left ["logic", "left", "right", "main"] []
  m_implies_left : mg "_implies_left" = some (.ref f_implies_left)
  f_implies_right : Addr
  d_implies_right : FuncData
  F_implies_right : Fun K "_implies_right" "_implies_right" s_implies_right f_implies_right d_implies_right
  b_implies_right : Binds K d_implies_right ["logic", "left", "right", "main"] []
  m_implies_right : mg "_implies_right" = some (.ref f_implies_right)
  f_cut : Addr
  d_cut : FuncData
  F_cut : Fun K "_cut" "_cut" s_cut f_cut d_cut
  b_cut : Binds K d_cut ["logic", "left", "right", "main"] []
  m_cut : mg "_cut" = some (.ref f_cut)
  f_check_no_main : Addr
  d_check_no_main : FuncData
  F_check_no_main : Fun K "_check_no_main" "_check_no_main" s_check_no_main f_check_no_main d_check_no_main
  b_check_no_main : Binds K d_check_no_main ["main"] []
  m_check_no_main : mg "_check_no_main" = some (.ref f_check_no_main)
  f_parts : Addr
  d_parts : FuncData
  F_parts : Fun K "_parts" "_parts" s_parts f_parts d_parts
  b_parts : Binds K d_parts ["sign", "main", "side"] []
  m_parts : mg "_parts" = some (.ref f_parts)
  f_premises_of : Addr
  d_premises_of : FuncData
  F_premises_of : Fun K "premises_of" "premises_of" s_premises_of f_premises_of d_premises_of
  b_premises_of : Binds K d_premises_of ["logic", "rule", "conclusion", "main"] []
  m_premises_of : mg "premises_of" = some (.ref f_premises_of)
  f_law_cell : Addr
  d_law_cell : FuncData
  F_law_cell : Fun K "_law_cell" "_law_cell" s_law_cell f_law_cell d_law_cell
  b_law_cell : Binds K d_law_cell ["script", "k"] []
  m_law_cell : mg "_law_cell" = some (.ref f_law_cell)
  f_law_numbers : Addr
  d_law_numbers : FuncData
  F_law_numbers : Fun K "_law_numbers" "_law_numbers" s_law_numbers f_law_numbers d_law_numbers
  b_law_numbers : Binds K d_law_numbers ["script", "first", "most"] []
  m_law_numbers : mg "_law_numbers" = some (.ref f_law_numbers)
  f_law_formula : Addr
  d_law_formula : FuncData
  F_law_formula : Fun K "_law_formula" "_law_formula" s_law_formula f_law_formula d_law_formula
  b_law_formula : Binds K d_law_formula ["pool", "depth", "plain"] []
  m_law_formula : mg "_law_formula" = some (.ref f_law_formula)
  f_law_goal : Addr
  d_law_goal : FuncData
  F_law_goal : Fun K "_law_goal" "_law_goal" s_law_goal f_law_goal d_law_goal
  b_law_goal : Binds K d_law_goal ["pool", "most", "plain"] []
  m_law_goal : mg "_law_goal" = some (.ref f_law_goal)
  f_law_logic : Addr
  d_law_logic : FuncData
  F_law_logic : Fun K "_law_logic" "_law_logic" s_law_logic f_law_logic d_law_logic
  b_law_logic : Binds K d_law_logic ["number", "plain"] []
  m_law_logic : mg "_law_logic" = some (.ref f_law_logic)
  f_law_add : Addr
  d_law_add : FuncData
  F_law_add : Fun K "_law_add" "_law_add" s_law_add f_law_add d_law_add
  b_law_add : Binds K d_law_add ["side", "formulas"] []
  m_law_add : mg "_law_add" = some (.ref f_law_add)
  f_law_boxed : Addr
  d_law_boxed : FuncData
  F_law_boxed : Fun K "_law_boxed" "_law_boxed" s_law_boxed f_law_boxed d_law_boxed
  b_law_boxed : Binds K d_law_boxed ["a"] []
  m_law_boxed : mg "_law_boxed" = some (.ref f_law_boxed)
  f_law_logical : Addr
  d_law_logical : FuncData
  F_law_logical : Fun K "_law_logical" "_law_logical" s_law_logical f_law_logical d_law_logical
  b_law_logical : Binds K d_law_logical ["logic", "rule", "goal", "m"] []
  m_law_logical : mg "_law_logical" = some (.ref f_law_logical)
  f_law_special : Addr
  d_law_special : FuncData
  F_law_special : Fun K "_law_special" "_law_special" s_law_special f_law_special d_law_special
  b_law_special : Binds K d_law_special ["logic", "rule", "goal", "m"] []
  m_law_special : mg "_law_special" = some (.ref f_law_special)
  f_law_premises : Addr
  d_law_premises : FuncData
  F_law_premises : Fun K "_law_premises" "_law_premises" s_law_premises f_law_premises d_law_premises
  b_law_premises : Binds K d_law_premises ["logic", "rule", "goal", "m"] []
  m_law_premises : mg "_law_premises" = some (.ref f_law_premises)
  f_law : Addr
  d_law : FuncData
  F_law : Fun K "law" "law" s_law f_law d_law
  b_law : Binds K d_law ["script"] []
  m_law : mg "law" = some (.ref f_law)
  z_abs : mg "abs" = none
  z_int : mg "int" = none
  z_isinstance : mg "isinstance" = none
  z_len : mg "len" = none
  z_list : mg "list" = none
  z_range : mg "range" = none
  z_set : mg "set" = none
  z_sorted : mg "sorted" = none
  z_tuple : mg "tuple" = none
  a_CONDITIONS : Addr
  m_CONDITIONS : mg "CONDITIONS" = some (.ref a_CONDITIONS)
  k_CONDITIONS : DL.TabAt w K a_CONDITIONS [("K", .tup []), ("D", .tup [.raw (.ref 134)]), ("T", .tup [.raw (.ref 139)]), ("K4", .tup [.raw (.ref 151)]), ("D4", .tup [.raw (.ref 151), .raw (.ref 134)]), ("S4", .tup [.raw (.ref 151), .raw (.ref 139)]), ("S5", .tup [.raw (.ref 151), .raw (.ref 139), .raw (.ref 158)]), ("GL", .tup [.raw (.ref 151), .raw (.ref 144)]), ("Grz", .tup [.raw (.ref 151), .raw (.ref 139), .raw (.ref 165)]), ("Int", .tup [.raw (.ref 151), .raw (.ref 139), .raw (.ref 165)]), ("KC", .tup [.raw (.ref 151), .raw (.ref 139), .raw (.ref 165), .raw (.ref 170)]), ("LC", .tup [.raw (.ref 151), .raw (.ref 139), .raw (.ref 165), .raw (.ref 177)]), ("BD2", .tup [.raw (.ref 151), .raw (.ref 139), .raw (.ref 165), .raw (.ref 182)]), ("HT", .tup [.raw (.ref 151), .raw (.ref 139), .raw (.ref 165), .raw (.ref 177), .raw (.ref 182)]), ("Cl", .tup [.raw (.ref 151), .raw (.ref 139), .raw (.ref 165), .raw (.ref 187)])]
  a_RULES : Addr
  m_RULES : mg "RULES" = some (.ref a_RULES)
  k_RULES : DL.TabAt w K a_RULES [("axiom", .raw (.ref f_axiom)), ("falsum", .raw (.ref f_falsum)), ("and_left", .raw (.ref f_and_left)), ("and_right", .raw (.ref f_and_right)), ("or_left", .raw (.ref f_or_left)), ("or_right", .raw (.ref f_or_right)), ("implies_left", .raw (.ref f_implies_left)), ("implies_right", .raw (.ref f_implies_right)), ("cut", .raw (.ref f_cut)), ("reflexive", .raw (.ref 294)), ("modal", .raw (.ref 301)), ("serial", .raw (.ref 308)), ("weak_middle", .raw (.ref 315)), ("linear_right", .raw (.ref 320)), ("depth_right", .raw (.ref 327)), ("two_right", .raw (.ref 332))]
  a_LOGICS : Addr
  m_LOGICS : mg "LOGICS" = some (.ref a_LOGICS)
  k_LOGICS : DL.TabAt w K a_LOGICS [("reflexive", .tup [.str "T", .str "S4", .str "S5", .str "Grz"]), ("modal", .tup [.str "K", .str "D", .str "T", .str "K4", .str "D4", .str "S4", .str "S5", .str "GL", .str "Grz"]), ("serial", .tup [.str "D", .str "D4"]), ("weak_middle", .tup [.str "KC"]), ("linear_right", .tup [.str "LC"]), ("depth_right", .tup [.str "BD2"]), ("two_right", .tup [.str "HT"])]
abbrev Top.t_CONDITIONS {w : World} {K : PySem.W.Frag} {mg : Str → Option Value} (T : Top w K mg) : List (Str × DL.D) := [("K", .tup []), ("D", .tup [.raw (.ref 134)]), ("T", .tup [.raw (.ref 139)]), ("K4", .tup [.raw (.ref 151)]), ("D4", .tup [.raw (.ref 151), .raw (.ref 134)]), ("S4", .tup [.raw (.ref 151), .raw (.ref 139)]), ("S5", .tup [.raw (.ref 151), .raw (.ref 139), .raw (.ref 158)]), ("GL", .tup [.raw (.ref 151), .raw (.ref 144)]), ("Grz", .tup [.raw (.ref 151), .raw (.ref 139), .raw (.ref 165)]), ("Int", .tup [.raw (.ref 151), .raw (.ref 139), .raw (.ref 165)]), ("KC", .tup [.raw (.ref 151), .raw (.ref 139), .raw (.ref 165), .raw (.ref 170)]), ("LC", .tup [.raw (.ref 151), .raw (.ref 139), .raw (.ref 165), .raw (.ref 177)]), ("BD2", .tup [.raw (.ref 151), .raw (.ref 139), .raw (.ref 165), .raw (.ref 182)]), ("HT", .tup [.raw (.ref 151), .raw (.ref 139), .raw (.ref 165), .raw (.ref 177), .raw (.ref 182)]), ("Cl", .tup [.raw (.ref 151), .raw (.ref 139), .raw (.ref 165), .raw (.ref 187)])]
abbrev Top.t_RULES {w : World} {K : PySem.W.Frag} {mg : Str → Option Value} (T : Top w K mg) : List (Str × DL.D) := [("axiom", .raw (.ref T.f_axiom)), ("falsum", .raw (.ref T.f_falsum)), ("and_left", .raw (.ref T.f_and_left)), ("and_right", .raw (.ref T.f_and_right)), ("or_left", .raw (.ref T.f_or_left)), ("or_right", .raw (.ref T.f_or_right)), ("implies_left", .raw (.ref T.f_implies_left)), ("implies_right", .raw (.ref T.f_implies_right)), ("cut", .raw (.ref T.f_cut)), ("reflexive", .raw (.ref 294)), ("modal", .raw (.ref 301)), ("serial", .raw (.ref 308)), ("weak_middle", .raw (.ref 315)), ("linear_right", .raw (.ref 320)), ("depth_right", .raw (.ref 327)), ("two_right", .raw (.ref 332))]
abbrev Top.t_LOGICS {w : World} {K : PySem.W.Frag} {mg : Str → Option Value} (T : Top w K mg) : List (Str × DL.D) := [("reflexive", .tup [.str "T", .str "S4", .str "S5", .str "Grz"]), ("modal", .tup [.str "K", .str "D", .str "T", .str "K4", .str "D4", .str "S4", .str "S5", .str "GL", .str "Grz"]), ("serial", .tup [.str "D", .str "D4"]), ("weak_middle", .tup [.str "KC"]), ("linear_right", .tup [.str "LC"]), ("depth_right", .tup [.str "BD2"]), ("two_right", .tup [.str "HT"])]
section
variable {P : Program} {w : World} {K : PySem.W.Frag} {mg : Str → Option Value} {base : Heap}
/-! ### the numbers of a script -/
def spCell (K : PySem.W.Frag) : Sp := fun vs H Q _ => ∃ (a : Addr) (ns : List Int) (k : Int), vs = [.ref a, .int k] ∧ SqL K H a (ns.map V.int) ∧ 0 ≤ k ∧ ∀ z : Int, Q (.int z) H
theorem ok_law_cell (T : Top w K mg) : FnOk P w K mg base CX0 1 T.f_law_cell T.d_law_cell ["script", "k"] (spCell K) := by
  refine T.F_law_cell.ok sc_law_cell (fun vs H Q E h => ?_) (fun cdv A outer s H vs Q E hr h => ?_)
  · obtain ⟨a, ns, k, rfl, _⟩ := h
    rfl
  obtain ⟨a, ns, k, rfl, hS, k0, q⟩ := h
  refine ⟨_, (pss_cons (ps_if (pt_cmpR op_lt (pv 1) (pe_callB call_len_seq (by rfl) T.z_len PySem.boot_len (pa_cons (pv 0) pa_nil)) (nomark _))
      (pss_one (ps_ret (pe_ix ix_list (pv 0) (pv 1) (fun _ _ => rfl))))
      pss_nil)
    (pss_one (ps_ret pe_int))), ?_⟩
  refine ⟨_, rfl, _, rfl, a, _, rfl, .inl hS, _, _, rfl, rfl, _, rfl, ite2 (fun hc => ?_) (fun _ => q 0)⟩
  have hc := of_decide_eq_true hc
  rw [List.length_map] at hc
  obtain ⟨j, rfl⟩ : ∃ j : Nat, k = (j : Int) := ⟨k.toNat, by omega⟩
  have hj : j < ns.length := by omega
  exact ⟨_, rfl, _, rfl, a, _, (j : Int), .int ns[j], rfl, rfl, hS, atI_nat (by rw [List.getElem?_map, List.getElem?_eq_getElem hj]; rfl), q _⟩
def spNumbers (K : PySem.W.Frag) : Sp := fun vs H Q _ => ∃ (a : Addr) (ns : List Int) (f m : Int), vs = [.ref a, .int f, .int m] ∧ SqL K H a (ns.map V.int) ∧ ns.length ≤ 1000 ∧ 0 ≤ f ∧ f ≤ 1000 ∧ 0 ≤ m ∧ m ≤ 1000 ∧
  ∀ (q : Addr) (ms : List Int) (H' : Hp), H q = none → Same H H' → H' q = some (.lst (ms.map V.int)) → (ms.length : Int) ≤ m → (∀ z ∈ ms, 0 ≤ z ∧ z < 4096) → Q (.ref q) H'
theorem ok_law_numbers (T : Top w K mg) : FnOk P w K mg base CX0 1 T.f_law_numbers T.d_law_numbers ["script", "first", "most"] (spNumbers K) := by
  refine T.F_law_numbers.ok sc_law_numbers (fun vs H Q E h => ?_) (fun cdv A outer s H vs Q E hr h => ?_)
  · obtain ⟨a, ns, f, m, rfl, _⟩ := h
    rfl
  obtain ⟨a, ns, f, m, rfl, hS, hn, f0, f1, m0, m1, kQ⟩ := h
  have hu64 := hr.units
  refine ⟨_, (pss_cons (ps_set (i := 3) sc_law_numbers.nd rfl (.inl rfl) (pe_lst pa_nil))
    (pss_cons (ps_for PassesOwn.never rfl (pi_range2 (by rfl) T.z_range (pa_cons (pv 1) (pa_cons (pe_callB call_len_seq (by rfl) T.z_len PySem.boot_len (pa_cons (pv 0) pa_nil)) pa_nil))) (pg_name (i := 4) sc_law_numbers.nd rfl (.inl rfl))
      (pss_cons (ps_set (i := 5) sc_law_numbers.nd rfl (.inl rfl) (pe_callB call_abs (by rfl) T.z_abs (by decide +kernel) (pa_cons (pe_ix ix_list (pv 0) (pv 4) (fun _ _ => rfl)) pa_nil)))
    (pss_one (ps_if (pt_cmpR op_ge (pv 5) pe_int (nomark _))
      (pss_one (ps_for PassesOwn.never rfl (pi_range1 (by rfl) T.z_range (pa_cons pe_int pa_nil)) (pg_name (i := 6) sc_law_numbers.nd rfl (.inl rfl))
      (pss_one (ps_if (PW.pt (pw_and (pt_cmpR op_gt (pv 5) pe_int (nomark _)) (pw_and1 (pt_cmpR op_lt (pe_callB call_len_seq (by rfl) T.z_len PySem.boot_len (pa_cons (pv 3) pa_nil)) (pv 2) (nomark _)))))
      (pss_cons (ps_expr (pe_bm PySem.F.plainAttrs_list PySem.F.slot_list_append PySem.F.type_list_append mt_append (pv 3) (pa_cons (pe_op op_mod (pe_callTy call_int1 (by rfl) T.z_int (by decide +kernel) (pa_cons (pv 5) pa_nil)) pe_int) pa_nil)))
    (pss_one (ps_set (i := 5) sc_law_numbers.nd rfl (.inl rfl) (pe_op op_fdiv (pv 5) pe_int))))
      pss_nil))))
      (pss_one (ps_if (pt_cmpR op_lt (pe_callB call_len_seq (by rfl) T.z_len PySem.boot_len (pa_cons (pv 3) pa_nil)) (pv 2) (nomark _))
      (pss_cons (ps_set (i := 7) sc_law_numbers.nd rfl (.inl rfl) (pe_op op_mod (pe_callTy call_int1 (by rfl) T.z_int (by decide +kernel) (pa_cons (pe_op op_add (pe_op op_add (pe_op op_mul (pv 5) pe_int) (pe_op op_mul (pv 4) pe_int)) pe_int) pa_nil)) pe_int))
    (pss_cons (ps_set (i := 7) sc_law_numbers.nd rfl (.inl rfl) (pe_op op_mod (pe_callTy call_int1 (by rfl) T.z_int (by decide +kernel) (pa_cons (pe_op op_add (pe_op op_mul (pv 7) pe_int) (pe_op op_fdiv (pv 7) pe_int)) pa_nil)) pe_int))
    (pss_one (ps_expr (pe_bm PySem.F.plainAttrs_list PySem.F.slot_list_append PySem.F.type_list_append mt_append (pv 3) (pa_cons (pe_op op_mod (pe_callTy call_int1 (by rfl) T.z_int (by decide +kernel) (pa_cons (pv 7) pa_nil)) pe_int) pa_nil))))))
      pss_nil))))))
    (pss_one (ps_ret (pv 3))))), ?_⟩
  have hSs : ∀ {H' : Hp}, Same H H' → SqL K H' a (ns.map V.int) := fun {H'} s => by
    rcases hS with (h | ⟨o, h⟩) | h
    · exact .inl (.inl (s _ _ h))
    · exact .inl (.inr ⟨o, s _ _ h⟩)
    · exact .inr h
  refine ⟨(by show 0 ≤ sizeLine; decide), fun q nq => ?_⟩
  have s0 := same_new (o := .lst []) nq
  have ll : ((ns.map V.int).length : Int) = (ns.length : Int) := by rw [List.length_map]
  refine ⟨_, rfl, _, rfl, a, _, rfl, .inl (hSs s0), f, _, rfl, ⟨by omega, by omega, by omega, by omega⟩, ?_⟩
  rw [ll]
  refine for_range (lo := f) (n := ((ns.length : Int) - f).toNat) (fun i σ H' => ∃ (ms : List Int) (o4 o5 o6 o7 : Option V), σ = [some (.ref a), some (.int f), some (.int m), some (.ref q), o4, o5, o6, o7] ∧ Same H H' ∧ H' q = some (.lst (ms.map V.int)) ∧ (ms.length : Int) ≤ m ∧ ∀ z ∈ ms, 0 ≤ z ∧ z < 4096) ⟨[], none, none, none, none, rfl, s0, upd_same, m0, fun z h => (nomatch h)⟩ ?_ ?_
  · rintro i σ H1 hi ⟨ms, o4, o5, o6, o7, rfl, s1, hq, hl, hz⟩
    obtain ⟨j, hj⟩ : ∃ j : Nat, f + (i : Int) = (j : Int) := ⟨(f + (i : Int)).toNat, by omega⟩
    change gName 4 (V.int (f + (i : Int))) _ _ _
    rw [hj]
    have hjn : j < ns.length := by omega
    have app : ∀ {H2 : Hp} {ms : List Int} {x : Int}, Same H H2 → H2 q = some (.lst (ms.map V.int)) → (ms.length : Int) < m → (∀ z ∈ ms, 0 ≤ z ∧ z < 4096) → 0 ≤ x → x < 4096 → (ms.map V.int).length < sizeLine ∧ Same H (upd H2 q (.lst (ms.map V.int ++ [.int x]))) ∧ upd H2 q (.lst (ms.map V.int ++ [.int x])) q = some (.lst ((ms ++ [x]).map V.int)) ∧ ((ms ++ [x]).length : Int) ≤ m ∧ ∀ z ∈ ms ++ [x], 0 ≤ z ∧ z < 4096 := fun {H2 ms x} s h l hz x0 x1 => by
      refine ⟨by rw [List.length_map, sizeLine_eq]; omega, fun b o e => ?_, by rw [upd_same, List.map_append]; rfl, by rw [List.length_append, List.length_singleton]; omega, fun z hm => ?_⟩
      · rw [upd_ne (ne_of_none e nq)]
        exact s _ _ e
      · rcases List.mem_append.mp hm with hm | hm
        · exact hz z hm
        · rw [List.mem_singleton.mp hm]
          exact ⟨x0, x1⟩
    refine ⟨_, rfl, _, rfl, a, _, (j : Int), .int ns[j], rfl, rfl, hSs s1, atI_nat (by rw [List.getElem?_map, List.getElem?_eq_getElem hjn]; rfl), _, rfl, ?_⟩
    generalize (if ns[j] < 0 then -ns[j] else ns[j]) = c
    refine ⟨_, rfl, _, _, rfl, rfl, _, rfl, ite2 (fun _ => ?_) (fun _ => ?_)⟩
    · refine ⟨60, rfl, by decide, by decide, for_range (n := 60) (fun k σ H' => ∃ (ms : List Int) (c : Int) (o6 : Option V), σ = [some (.ref a), some (.int f), some (.int m), some (.ref q), some (.int (j : Int)), some (.int c), o6, o7] ∧ Same H H' ∧ H' q = some (.lst (ms.map V.int)) ∧ (ms.length : Int) ≤ m ∧ ∀ z ∈ ms, 0 ≤ z ∧ z < 4096) ⟨ms, c, o6, rfl, s1, hq, hl, hz⟩ ?_ (fun σ H' ⟨ms, c, o6, e, h⟩ => ⟨ms, _, _, _, _, e, h⟩)⟩
      rintro k σ H2 hk ⟨ms, c, o6, rfl, s2, hq2, hl2, hz2⟩
      refine ⟨_, rfl, _, _, rfl, rfl, _, rfl, ite2 (fun _ => ?_) (fun _ => iteF ⟨ms, c, _, rfl, s2, hq2, hl2, hz2⟩)⟩
      refine ⟨_, rfl, q, _, rfl, .inl (SqL.of hq2), _, rfl, _, _, rfl, rfl, _, rfl, ite2 (fun hc => ?_) (fun _ => ⟨ms, c, _, rfl, s2, hq2, hl2, hz2⟩)⟩
      have hc := of_decide_eq_true hc
      rw [List.length_map] at hc
      obtain ⟨a1, a2, a3, a4, a5⟩ := app (x := c % 4096) s2 hq2 hc hz2 (Int.emod_nonneg _ (by decide)) (Int.emod_lt_of_pos _ (by decide))
      refine ⟨_, rfl, .inl ⟨rfl, _, .inl (.inl hq2)⟩, _, rfl, .inl ⟨c, rfl, c, 4096, rfl, rfl, (show (0 : Int) < 4096 from by decide), ?_⟩⟩
      refine ⟨q, _, .int (c % 4096), rfl, rfl, hq2, a1, ?_⟩
      exact ⟨_, rfl, c, 4096, rfl, rfl, ⟨by decide, by decide⟩, ms ++ [c % 4096], c / 4096, _, rfl, a2, a3, a4, a5⟩
    · refine ⟨_, rfl, q, _, rfl, .inl (SqL.of hq), _, rfl, _, _, rfl, rfl, _, rfl, ite2 (fun hc => ?_) (fun _ => ⟨ms, _, _, _, _, rfl, s1, hq, hl, hz⟩)⟩
      have hc := of_decide_eq_true hc
      rw [List.length_map] at hc
      refine ⟨_, rfl, _, _, rfl, rfl, .inr ⟨by decide, by decide⟩, ?_⟩
      refine ⟨_, rfl, _, _, rfl, rfl, .inr ⟨by decide, by decide⟩, ?_⟩
      refine ⟨_, _, rfl, rfl, _, _, rfl, rfl, .inl ⟨_, rfl, _, _, rfl, rfl, (show (0 : Int) < 2147483647 from by decide), ?_⟩⟩
      refine ⟨_, rfl, _, _, rfl, rfl, .inr ⟨by decide, by decide⟩, _, rfl, _, _, rfl, rfl, ⟨by decide, by decide⟩, _, _, rfl, rfl, .inl ⟨_, rfl, _, _, rfl, rfl, (show (0 : Int) < 1000003 from by decide), ?_⟩⟩
      obtain ⟨e, he⟩ : ∃ e, e = ((c * 48271 + (j : Int) * 69621 + 12345) % 2147483647 * 69621 + (c * 48271 + (j : Int) * 69621 + 12345) % 2147483647 / 1009) % 1000003 := ⟨_, rfl⟩
      obtain ⟨a1, a2, a3, a4, a5⟩ := app (x := e % 4096) s1 hq hc hz (Int.emod_nonneg _ (by decide)) (Int.emod_lt_of_pos _ (by decide))
      refine ⟨_, rfl, .inl ⟨rfl, _, .inl (.inl hq)⟩, _, rfl, .inl ⟨e, by rw [he], e, 4096, rfl, rfl, (show (0 : Int) < 4096 from by decide), q, _, .int (e % 4096), rfl, rfl, hq, a1, ms ++ [e % 4096], _, _, _, _, rfl, a2, a3, a4, a5⟩⟩
  · rintro σ H1 ⟨ms, o4, o5, o6, o7, rfl, s1, hq, hl, hz⟩
    exact ⟨_, rfl, kQ q ms H1 nq s1 hq hl hz⟩

/-! ### drawn formulas -/
def spFormula (K : PySem.W.Frag) (n : Nat) : Sp := fun vs H Q _ => ∃ (q : Addr) (dep : Int) (pl : Bool) (ns : List Int), vs = [.ref q, .int dep, .bl pl] ∧ H q = some (.lst (ns.map V.int)) ∧ 0 ≤ dep ∧ dep < n ∧
  ∀ (v : V) (f : Fm) (H' : Hp) (ms : List Int), Kp q H H' → H' q = some (.lst (ms.map V.int)) → Im K H' v f.d → f.ht ≤ dep.toNat + 1 → f.over nms = true → (pl = true → f.plain = true) → Q v H'
theorem ok_law_formula (T : Top w K mg) : ∀ n : Nat, FnOk P w K mg base CX0 n T.f_law_formula T.d_law_formula ["pool", "depth", "plain"] (spFormula K n) := by
  intro n
  induction n with
  | zero =>
    refine fn_none fun vs H Q E h => ?_
    obtain ⟨q, dep, pl, ns, _, _, h0, h1, _⟩ := h
    exact absurd h1 (by omega)
  | succ n G_law_formula =>
    refine T.F_law_formula.ok sc_law_formula (fun vs H Q E h => ?_) (fun cdv A outer s H vs Q E hr h => ?_)
    · obtain ⟨q, dep, pl, ns, rfl, _⟩ := h
      rfl
    obtain ⟨q, dep, pl, ns, rfl, hq, h0, h1, k⟩ := h
    have hu64 := hr.units
    refine ⟨_, (pss_cons (ps_set (i := 3) sc_law_formula.nd rfl (.inl rfl) pe_int)
    (C8.pss_cut (ps_if (pt_cmpR (op_neD hu64) (pv 0) (pe_lst pa_nil) (nomark _))
      (pss_one (ps_set (i := 3) sc_law_formula.nd rfl (.inl rfl) (pe_callTy call_int1 (by rfl) T.z_int (by decide +kernel) (pa_cons (pe_bm PySem.F.plainAttrs_list PySem.F.slot_list_pop PySem.F.type_list_pop mt_popAt (pv 0) (pa_cons pe_int pa_nil)) pa_nil))))
      pss_nil)
    (pss_cons (ps_set (i := 4) sc_law_formula.nd rfl (.inl rfl) (pe_op op_mod (pe_callTy call_int1 (by rfl) T.z_int (by decide +kernel) (pa_cons (pv 3) pa_nil)) pe_int))
    (pss_cons (ps_if (PW.pt (pw_or (pt_cmpR op_eq (pv 1) pe_int (nomark _)) (pw_or1 (pt_cmpR op_lt (pv 4) pe_int (nomark _)))))
      (pss_cons (ps_if (pt_cmpR op_eq (pe_op op_mod (pe_op op_fdiv (pv 3) pe_int) pe_int) pe_int (nomark _))
      (pss_one (ps_ret (pe_tup (pa_cons pe_str pa_nil))))
      pss_nil)
    (pss_one (ps_ret (pe_tup (pa_cons pe_str (pa_cons (pe_ix ix_list (pe_lst (pa_cons pe_str (pa_cons pe_str (pa_cons pe_str (pa_cons pe_str (pa_cons pe_str pa_nil)))))) (pe_op op_mod (pe_op op_fdiv (pv 3) pe_int) pe_int) (fun _ _ => rfl)) pa_nil))))))
      pss_nil)
    (pss_cons (ps_if (PW.pt (pw_or (pt_cmpR op_eq (pv 4) pe_int (nomark _)) (pw_or1 (PW.pt (pw_and (pt_cmpR op_in_seq (pv 4) (pe_tup (pa_cons pe_int (pa_cons pe_int pa_nil))) rfl) (pw_and1 (pt_val (pv 2))))))))
      (pss_one (ps_ret (pe_tup (pa_cons pe_str (pa_cons (pe_call G_law_formula (hr.mono (by omega)) (by rfl) T.m_law_formula T.F_law_formula.kp T.b_law_formula .nil pass0 (pa_cons (pv 0) (pa_cons (pe_op op_sub (pv 1) pe_int) (pa_cons (pv 2) pa_nil)))) (pa_cons (pe_tup (pa_cons pe_str pa_nil)) pa_nil))))))
      pss_nil)
    (pss_cons (ps_if (pt_cmpR op_in_seq (pv 4) (pe_tup (pa_cons pe_int (pa_cons pe_int pa_nil))) rfl)
      (pss_one (ps_ret (pe_tup (pa_cons pe_str (pa_cons (pe_call G_law_formula (hr.mono (by omega)) (by rfl) T.m_law_formula T.F_law_formula.kp T.b_law_formula .nil pass0 (pa_cons (pv 0) (pa_cons (pe_op op_sub (pv 1) pe_int) (pa_cons (pv 2) pa_nil)))) pa_nil)))))
      pss_nil)
    (pss_cons (ps_set (i := 5) sc_law_formula.nd rfl (.inl rfl) (pe_call G_law_formula (hr.mono (by omega)) (by rfl) T.m_law_formula T.F_law_formula.kp T.b_law_formula .nil pass0 (pa_cons (pv 0) (pa_cons (pe_op op_sub (pv 1) pe_int) (pa_cons (pv 2) pa_nil)))))
    (pss_one (ps_ret (pe_tup (pa_cons (pe_ix ix_list (pe_lst (pa_cons pe_str (pa_cons pe_str (pa_cons pe_str (pa_cons pe_str (pa_cons pe_str pa_nil)))))) (pe_op op_sub (pv 4) pe_int) (fun _ _ => rfl)) (pa_cons (pv 5) (pa_cons (pe_call G_law_formula (hr.mono (by omega)) (by rfl) T.m_law_formula T.F_law_formula.kp T.b_law_formula .nil pass0 (pa_cons (pv 0) (pa_cons (pe_op op_sub (pv 1) pe_int) (pa_cons (pv 2) pa_nil)))) pa_nil))))))))))))), ?_⟩
    refine ⟨fun σ H1 => ∃ (z : Int) (ms : List Int), σ = [some (.ref q), some (.int dep), some (.bl pl), some (.int z), none, none] ∧ H1 q = some (.lst (ms.map V.int)) ∧ Kp q H H1, ?_, ?_⟩
    · refine ⟨_, rfl, (by show 0 ≤ sizeLine; decide), fun e ne => ?_⟩
      have s1 := same_new (o := .lst []) ne
      refine ⟨_, _, .lst (SqL.of (s1 _ _ hq)) (dp_ints ns), .lst (SqL.of upd_same) .nil, shaped_ints ns, rfl, _, rfl, ?_⟩
      rw [eqv_nil]
      cases ns with
      | nil => exact ⟨0, [], rfl, s1 _ _ hq, Same.kp s1⟩
      | cons z ns =>
        refine iteT ⟨_, rfl, .inl ⟨rfl, _, .inl (.inl (s1 _ _ hq))⟩, q, _, 0, 0, .int z, rfl, rfl, s1 _ _ hq, by decide, by decide, seqIndex_of (by decide) (by rw [List.map_cons, List.length_cons]; omega), rfl, .inl ⟨_, rfl, ?_⟩⟩
        exact ⟨z, ns, rfl, upd_same, Kp.trans (Same.kp s1) Kp.upd⟩
    · rintro σ H1 ⟨z, ms, rfl, hq1, k1⟩
      refine ⟨_, rfl, .inl ⟨z, rfl, _, _, rfl, rfl, (by show (0 : Int) < 10; decide), ?_⟩⟩
      have kd0 : 0 ≤ z % 10 := Int.emod_nonneg _ (by decide)
      have kd1 : z % 10 < 10 := Int.emod_lt_of_pos _ (by decide)
      dsimp only [gName, tSeq, tIfS, List.set]
      refine ans_or2 (b1 := decide (V.int dep = V.int 0)) (b2 := decide (z % 10 < 2)) (fun Q q => ⟨_, rfl, rfl, _, rfl, q⟩) (fun Q q => ⟨_, rfl, _, _, rfl, rfl, _, rfl, q⟩) _ ?_
      refine ite2 (fun c1 => ?_) (fun c1 => ?_)
      -- a leaf
      · refine ⟨_, rfl, _, _, rfl, rfl, ⟨by decide, by decide⟩, _, _, rfl, rfl, (by show (0 : Int) < 8; decide), rfl, _, rfl, ite2 (fun _ => ?_) (fun _ => ?_)⟩
        · refine ⟨(by show 1 ≤ sizeLine; decide), fun p np => ?_⟩
          have s2 := same_new (o := .tup [.str "falsum"]) np
          exact k _ .fal _ ms (k1.trans (Same.kp s2)) (s2 _ _ hq1) (im_fal upd_same) (Nat.le_add_left _ _) rfl fun _ => rfl
        · refine ⟨(by show 5 ≤ sizeLine; decide), fun a na => ?_⟩
          have s2 := same_new (o := .lst [.str "p", .str "q", .str "p", .str "q", .str "r"]) na
          obtain ⟨v, hv, hm⟩ := atI_mem (xs := [V.str "p", V.str "q", V.str "p", V.str "q", V.str "r"]) (i := z / 80 % 5) (Int.emod_nonneg _ (by decide)) (Int.emod_lt_of_pos _ (by decide))
          obtain ⟨y, rfl, hy⟩ : ∃ y : Str, v = .str y ∧ y ∈ nms := by
            simp only [List.mem_cons, List.not_mem_nil, or_false] at hm
            rcases hm with rfl | rfl | rfl | rfl | rfl
            all_goals exact ⟨_, rfl, by decide⟩
          refine ⟨_, rfl, _, _, rfl, rfl, ⟨by decide, by decide⟩, _, _, rfl, rfl, (by show (0 : Int) < 5; decide), a, _, _, _, rfl, rfl, SqL.of upd_same, hv, (by show 2 ≤ sizeLine; decide), fun p np => ?_⟩
          have s3 := s2.trans (same_new (o := .tup [.str "var", .str y]) np)
          exact k _ (.var y) _ ms (k1.trans (Same.kp s3)) (s3 _ _ hq1) (im_var upd_same) (Nat.le_add_left _ _) (decide_eq_true hy) fun _ => rfl
      · rw [Bool.or_eq_true, not_or] at c1
        have d0 : dep ≠ 0 := vintF c1.1
        have hk2 : 2 ≤ z % 10 := by
          have := of_decide_eq_false (Bool.eq_false_iff.mpr c1.2)
          omega
        have hd' : (dep - 1).toNat + 1 ≤ dep.toNat := by omega
        have negc : ∀ H2, Kp q H H2 → H2 q = some (.lst (ms.map V.int)) → True := fun _ _ _ => trivial
        by_cases e2 : z % 10 = 2
        -- a negation
        · refine ⟨_, rfl, rfl, _, rfl, iteD (congrArg V.int e2) (iteT ?_)⟩
          refine ⟨_, rfl, _, rfl, _, _, rfl, rfl, _, rfl, q, dep - 1, pl, ms, rfl, hq1, by omega, by omega, fun v f H3 ms3 k3 hq3 im3 hf3 ov3 pl3 => ?_⟩
          refine ⟨(by show 1 ≤ sizeLine; decide), fun a na => ⟨(by show 3 ≤ sizeLine; decide), fun p np => ?_⟩⟩
          have s4 := same_new (o := .tup [.str "falsum"]) na
          have s5 := same_new (o := .tup [.str "implies", v, .ref a]) np
          exact k _ (.imp f .fal) _ ms3 ((k1.trans k3).trans (Same.kp (s4.trans s5))) (s5 _ _ (s4 _ _ hq3)) (im_imp upd_same (im3.mono (Same.ts (s4.trans s5))) (im_fal (s5 _ _ upd_same)))
            (by show max f.ht 1 + 1 ≤ _; omega) (by show (f.over nms && true) = true; rw [ov3]; rfl) (fun e => by show (f.plain && true) = true; rw [pl3 e]; rfl)
        · refine ⟨_, rfl, rfl, _, rfl, iteDF (vne e2) ?_⟩
          by_cases e34 : z % 10 = 3 ∨ z % 10 = 4
          · refine ⟨_, rfl, (by show 2 ≤ sizeLine; decide), fun t nt => ⟨t, _, rfl, .inr (SqT.of upd_same), rfl, rfl, true, in34y e34, iteT ⟨_, rfl, _, rfl, ?_⟩⟩⟩
            have s2 := same_new (o := .tup [.int 3, .int 4]) nt
            cases pl with
            -- a negation in place of a box
            | true =>
              refine iteT ?_
              refine ⟨_, rfl, _, rfl, _, _, rfl, rfl, _, rfl, q, dep - 1, true, ms, rfl, s2 _ _ hq1, by omega, by omega, fun v f H3 ms3 k3 hq3 im3 hf3 ov3 pl3 => ?_⟩
              refine ⟨(by show 1 ≤ sizeLine; decide), fun a na => ⟨(by show 3 ≤ sizeLine; decide), fun p np => ?_⟩⟩
              have s4 := same_new (o := .tup [.str "falsum"]) na
              have s5 := same_new (o := .tup [.str "implies", v, .ref a]) np
              exact k _ (.imp f .fal) _ ms3 (((k1.trans (Same.kp s2)).trans k3).trans (Same.kp (s4.trans s5))) (s5 _ _ (s4 _ _ hq3)) (im_imp upd_same (im3.mono (Same.ts (s4.trans s5))) (im_fal (s5 _ _ upd_same)))
                (by show max f.ht 1 + 1 ≤ _; omega) (by show (f.over nms && true) = true; rw [ov3]; rfl) (fun e => by show (f.plain && true) = true; rw [pl3 e]; rfl)
            -- a box
            | false =>
              refine iteF ?_
              refine ⟨_, rfl, (by show 2 ≤ sizeLine; decide), fun t2 nt2 => ⟨t2, _, rfl, .inr (SqT.of upd_same), rfl, rfl, true, in34y e34, iteT ?_⟩⟩
              have s3 := s2.trans (same_new (o := .tup [.int 3, .int 4]) nt2)
              refine ⟨_, rfl, _, rfl, _, _, rfl, rfl, _, rfl, q, dep - 1, false, ms, rfl, s3 _ _ hq1, by omega, by omega, fun v f H3 ms3 k3 hq3 im3 hf3 ov3 pl3 => ?_⟩
              refine ⟨(by show 2 ≤ sizeLine; decide), fun p np => ?_⟩
              have s5 := same_new (o := .tup [.str "box", v]) np
              exact k _ (.box f) _ ms3 (((k1.trans (Same.kp s3)).trans k3).trans (Same.kp s5)) (s5 _ _ hq3) (im_box upd_same (im3.mono (Same.ts s5)))
                (by show f.ht + 1 ≤ _; omega) ov3 (fun e => nomatch e)
          -- two parts
          · refine ⟨_, rfl, (by show 2 ≤ sizeLine; decide), fun t nt => ⟨t, _, rfl, .inr (SqT.of upd_same), rfl, rfl, false, in34n e34, iteF (iteF ?_)⟩⟩
            have s2 := same_new (o := .tup [.int 3, .int 4]) nt
            refine ⟨_, rfl, (by show 2 ≤ sizeLine; decide), fun t2 nt2 => ⟨t2, _, rfl, .inr (SqT.of upd_same), rfl, rfl, false, in34n e34, iteF ?_⟩⟩
            have s3 := s2.trans (same_new (o := .tup [.int 3, .int 4]) nt2)
            refine ⟨_, rfl, _, rfl, _, _, rfl, rfl, _, rfl, q, dep - 1, pl, ms, rfl, s3 _ _ hq1, by omega, by omega, fun v f H3 ms3 k3 hq3 im3 hf3 ov3 pl3 => ?_⟩
            refine ⟨(by show 5 ≤ sizeLine; decide), fun a na => ?_⟩
            have s4 := same_new (o := .lst [.str "and", .str "or", .str "implies", .str "implies", .str "or"]) na
            obtain ⟨op, hv, hm⟩ := atI_mem (xs := [V.str "and", V.str "or", V.str "implies", V.str "implies", V.str "or"]) (i := z % 10 - 5) (by omega) (by show z % 10 - 5 < 5; omega)
            refine ⟨_, rfl, _, _, rfl, rfl, a, _, _, op, rfl, rfl, SqL.of upd_same, hv, _, rfl, ?_⟩
            refine ⟨_, rfl, _, rfl, _, _, rfl, rfl, _, rfl, q, dep - 1, pl, ms3, rfl, s4 _ _ hq3, by omega, by omega, fun u g H5 ms5 k5 hq5 im5 hf5 ov5 pl5 => ?_⟩
            refine ⟨(by show 3 ≤ sizeLine; decide), fun p np => ?_⟩
            have s6 := same_new (o := .tup [op, v, u]) np
            have kk := ((((k1.trans (Same.kp s3)).trans k3).trans (Same.kp s4)).trans k5).trans (Same.kp s6)
            have im3' := ((im3.mono (Same.ts s4)).mono (k5.ts (s4 _ _ hq3))).mono (Same.ts s6)
            have im5' := im5.mono (Same.ts s6)
            have hh : max f.ht g.ht + 1 ≤ dep.toNat + 1 := by omega
            have ho : (f.over nms && g.over nms) = true := by rw [ov3, ov5]; rfl
            have hp : pl = true → (f.plain && g.plain) = true := fun e => by rw [pl3 e, pl5 e]; rfl
            simp only [List.mem_cons, List.not_mem_nil, or_false] at hm
            rcases hm with rfl | rfl | rfl | rfl | rfl
            · exact k _ (.and f g) _ ms5 kk (s6 _ _ hq5) (im_and upd_same im3' im5') hh ho hp
            · exact k _ (.or f g) _ ms5 kk (s6 _ _ hq5) (im_or upd_same im3' im5') hh ho hp
            · exact k _ (.imp f g) _ ms5 kk (s6 _ _ hq5) (im_imp upd_same im3' im5') hh ho hp
            · exact k _ (.imp f g) _ ms5 kk (s6 _ _ hq5) (im_imp upd_same im3' im5') hh ho hp
            · exact k _ (.or f g) _ ms5 kk (s6 _ _ hq5) (im_or upd_same im3' im5') hh ho hp

/-! ### parts, distinct items, levels -/
def spParts (K : PySem.W.Frag) : Sp := fun vs H Q _ => ∃ (x : V) (f : Fm), vs = [x] ∧ Im K H x f.d ∧ ∀ (p : Addr) (ys : List V) (H' : Hp), Same H H' → SqT K H' p ys → ImAll K H' ys (f.kids.map Fm.d) → Q (.ref p) H'
theorem ok_parts_of (T : Top w K mg) : FnOk P w K mg base CX0 1 T.f_parts_of T.d_parts_of ["a"] (spParts K) := by
  refine T.F_parts_of.ok sc_parts_of (fun vs H Q E h => ?_) (fun cdv A outer s H vs Q E hr h => ?_)
  · obtain ⟨x, f, rfl, _⟩ := h
    rfl
  obtain ⟨x, f, rfl, hx, k⟩ := h
  refine ⟨_, (pss_cons (ps_if (pt_cmpR op_eq (pe_ix ix_tup (pv 0) pe_int (fun _ _ => rfl)) pe_str (nomark _))
      (pss_one (ps_ret (pe_tup pa_nil)))
      pss_nil)
    (pss_one (ps_ret (pe_slice sl_tupA (pv 0) (po_some pe_int) po_none)))), ?_⟩
  obtain ⟨a, ys, rfl, h1, h2⟩ := im_inv hx
  refine ⟨_, rfl, a, _, 0, _, rfl, rfl, h1, atI_nat (j := 0) rfl, rfl, _, rfl, ?_⟩
  rw [sg_var]
  cases hv : f.isVar with
  | true =>
    refine iteT ⟨(by show 0 ≤ sizeLine; decide), fun p np => ?_⟩
    obtain ⟨e, _⟩ := kids_var hv
    exact k p [] _ (same_new np) (SqT.of upd_same) (by rw [e]; exact .nil)
  | false =>
    refine iteF ⟨_, rfl, 1, rfl, a, _, rfl, h1, fun e => ?_, fun _ p np => ?_⟩
    · rw [sIx_1] at e
      exact absurd e.1 (by decide)
    · rw [cut_1]
      have s1 := same_new (o := .tup ys) np
      exact k p ys _ s1 (SqT.of upd_same) (by rw [← kids_pts hv]; exact h2.mono (Same.ts s1))
def Ok1 (f : Fm) : Prop := f.d.canLay0 = true ∧ f.ht ≤ 63
def spDistinct (K : PySem.W.Frag) : Sp := fun vs H Q _ => ∃ (a : Addr) (xs : List V) (fs : List Fm), vs = [.ref a] ∧ SqL K H a xs ∧ ImAll K H xs (fs.map Fm.d) ∧ (∀ f ∈ fs, Ok1 f) ∧ fs.length ≤ 1000000 ∧
  ∀ (p : Addr) (ys : List V) (H' : Hp), H p = none → Same H H' → H' p = some (.lst ys) → ImAll K H' ys ((dist fs).map Fm.d) → Q (.ref p) H'
theorem ok1_shaped {f : Fm} (h : Ok1 f) : SeqAt.shaped f.d = true := by
  unfold SeqAt.shaped
  rw [h.1, Fm.depth]
  exact decide_eq_true (Nat.le_trans h.2 (by decide))
theorem ok_distinct (T : Top w K mg) : FnOk P w K mg base CX0 1 T.f_distinct T.d_distinct ["rows"] (spDistinct K) := by
  refine T.F_distinct.ok sc_distinct (fun vs H Q E h => ?_) (fun cdv A outer s H vs Q E hr h => ?_)
  · obtain ⟨a, xs, fs, rfl, _⟩ := h
    rfl
  obtain ⟨a, xs, fs, rfl, hS, hI, hok, hlen, k⟩ := h
  have hu64 := hr.units
  have hu200 := hr.un
  refine ⟨_, (pss_cons (ps_set (i := 1) sc_distinct.nd rfl (.inl rfl) (pe_lst pa_nil))
    (pss_cons (ps_for PassesOwn.never rfl (pi_list (pe_callB (cr_sortedF hu200) (by rfl) T.z_sorted (by decide +kernel) (pa_cons (pv 0) pa_nil))) (pg_name (i := 2) sc_distinct.nd rfl (.inl rfl))
      (pss_one (ps_if (PW.pt (pw_or (pt_not (pt_truth (pv 1) (fun _ => rfl))) (pw_or1 (pt_cmpR (op_neD hu64) (pv 2) (pe_ix ix_list (pv 1) (pe_un un_neg pe_int) (fun _ _ => rfl)) (nomark _)))))
      (pss_one (ps_expr (pe_bm PySem.F.plainAttrs_list PySem.F.slot_list_append PySem.F.type_list_append mt_append (pv 1) (pa_cons (pv 2) pa_nil))))
      pss_nil)))
    (pss_one (ps_ret (pv 1))))), ?_⟩
  refine ⟨Nat.zero_le _, fun d nd => ?_⟩
  have s1 := same_new (o := .lst []) nd
  refine ⟨_, rfl, a, xs, fs, rfl, s1.seq hS, hI.mono (Same.ts s1), fun f hf => ⟨(hok f hf).1, Nat.le_trans (hok f hf).2 (by decide)⟩, fun p ys np iy => ?_⟩
  have s2 := same_new (o := .lst ys) np
  have hl := fms_len iy
  have hlm : (fs.mergeSort Fm.le).length = fs.length := List.length_mergeSort fs
  have dp : d ≠ p := ne_of_none upd_same np
  refine ⟨p, rfl, ⟨_, SqL.of upd_same⟩, for_list (K := K) (a := p) (xs := ys) (fun i σ H2 => ∃ (v : Option V) (zs : List V), σ = [some (.ref a), some (.ref d), v] ∧ Same H H2 ∧ H2 p = some (.lst ys) ∧ H2 d = some (.lst zs) ∧ ImAll K H2 ys ((fs.mergeSort Fm.le).map Fm.d) ∧ ImAll K H2 zs ((dd ((fs.mergeSort Fm.le).take i)).map Fm.d))
    ⟨none, [], rfl, s1.trans s2, upd_same, s2 _ _ upd_same, iy.mono (Same.ts s2), .nil⟩ (fun i σ H2 _ h => by
      obtain ⟨_, _, _, _, h, _⟩ := h
      exact SqL.of h) ?_ ?_⟩
  · rintro i x σ H2 hx ⟨v, zs, rfl, s3, hp, hd, iy2, iz⟩
    obtain ⟨f, hf, ix⟩ := imAll_of iy2 hx
    have hi : i < ys.length := (List.getElem?_eq_some_iff.mp hx).1
    have hfm : f ∈ fs := (List.mergeSort_perm fs Fm.le).mem_iff.mp (List.mem_of_getElem? hf)
    have hzl := fms_len iz
    have hzb : (dd ((fs.mergeSort Fm.le).take i)).length ≤ i := by
      have h1 : ((fs.mergeSort Fm.le).take i).Pairwise fun a b => a.le b = true := (ms_sorted fs).sublist (List.take_sublist _ _)
      have := (dd_spec _ h1).2.2.1.length_le
      rw [List.length_take] at this
      omega
    have sz : zs.length < sizeLine := Nat.lt_of_le_of_lt (show zs.length ≤ 1000000 by omega) (by decide)
    have app : ∀ H3, H3 = upd H2 d (.lst (zs ++ [x])) → dd ((fs.mergeSort Fm.le).take (i + 1)) = dd ((fs.mergeSort Fm.le).take i) ++ [f] → ∃ (v : Option V) (zs : List V), [some (V.ref a), some (V.ref d), some x] = [some (.ref a), some (.ref d), v] ∧ Same H H3 ∧ H3 p = some (.lst ys) ∧ H3 d = some (.lst zs) ∧ ImAll K H3 ys ((fs.mergeSort Fm.le).map Fm.d) ∧ ImAll K H3 zs ((dd ((fs.mergeSort Fm.le).take (i + 1))).map Fm.d) := by
      rintro _ rfl e
      have tt := Kp.upd.ts (H := H2) (p := d) (H' := upd H2 d (.lst (zs ++ [x]))) hd
      refine ⟨_, _, rfl, fun b o hb => ?_, ?_, upd_same, iy2.mono tt, ?_⟩
      · rw [upd_ne (ne_of_none hb nd)]
        exact s3 _ _ hb
      · rw [upd_ne dp.symm]
        exact hp
      · rw [e, fm_snoc]
        exact (iz.mono tt).snoc (ix.mono tt)
    have ed : dd ((fs.mergeSort Fm.le).take (i + 1)) = if (dd ((fs.mergeSort Fm.le).take i)).getLast? = some f then dd ((fs.mergeSort Fm.le).take i) else dd ((fs.mergeSort Fm.le).take i) ++ [f] := by
      rw [take_snoc hf, dd_snoc]
    rcases hz : zs with _ | ⟨z0, zr⟩
    · subst hz
      have e0 : dd ((fs.mergeSort Fm.le).take i) = [] := List.length_eq_zero_iff.mp hzl.symm
      refine ⟨_, rfl, _, .inl ⟨_, SqL.of hd, rfl⟩, iteT (iteT ?_)⟩
      refine ⟨_, rfl, .inl ⟨rfl, _, .inl (.inl hd)⟩, _, rfl, d, [], x, rfl, rfl, hd, sz, ?_⟩
      exact app _ rfl (by rw [ed, e0, if_neg (by simp)])
    · have hne : zs.isEmpty = false := by rw [hz]; rfl
      have hpos : 0 < zs.length := by rw [hz]; exact Nat.succ_pos _
      refine ⟨_, rfl, _, .inl ⟨_, SqL.of hd, rfl⟩, ?_⟩
      rw [hne]
      have gl := List.getElem?_eq_getElem (l := zs) (i := zs.length - 1) (by omega)
      obtain ⟨g, hg, ig⟩ := imAll_of iz gl
      have glast : (dd ((fs.mergeSort Fm.le).take i)).getLast? = some g := by
        rw [List.getLast?_eq_getElem?, ← hzl]
        exact hg
      have hgm : g ∈ fs := by
        have h1 : ((fs.mergeSort Fm.le).take i).Pairwise fun a b => a.le b = true := (ms_sorted fs).sublist (List.take_sublist _ _)
        have h2 := ((dd_spec _ h1).2.1 g).mp (List.mem_of_getLast? glast)
        exact (List.mergeSort_perm fs Fm.le).mem_iff.mp (List.mem_of_mem_take h2)
      refine iteF ⟨_, rfl, _, rfl, 1, rfl, d, zs, -1, _, rfl, rfl, SqL.of hd, atI_m1 gl, _, _, ix.dp, ig.dp, ok1_shaped (hok f hfm), ok1_shaped (hok g hgm), _, rfl, ?_⟩
      rw [Fm.eqv]
      by_cases e : f = g
      · rw [decide_eq_true e]
        refine iteF ?_
        refine ⟨_, _, rfl, s3, hp, hd, iy2, ?_⟩
        rw [ed, if_pos (by rw [glast, e])]
        exact iz
      · rw [decide_eq_false e]
        refine iteT ?_
        refine ⟨_, rfl, .inl ⟨rfl, _, .inl (.inl hd)⟩, _, rfl, d, zs, x, rfl, rfl, hd, sz, ?_⟩
        exact app _ rfl (by rw [ed, if_neg (by rw [glast]; exact fun q => e (Option.some.inj q).symm)])
  · rintro σ H2 ⟨v, zs, rfl, s3, hp, hd, _, iz⟩
    rw [hl, hlm, ← hlm, List.take_length] at iz
    exact ⟨_, rfl, k d zs H2 nd s3 hd iz⟩
/-- a list of levels, each a new list -/
def spLevelsF (K : PySem.W.Frag) : Sp := fun vs H Q _ => ∃ (q : Addr) (x : V) (f : Fm) (n : Nat), vs = [.ref q] ∧ SqL K H q [x] ∧ Im K H x f.d ∧ (∀ g ∈ f.subs, Ok1 g) ∧ f.ht ≤ n ∧ f.sz ≤ 100000 ∧
  ∀ (p : Addr) (vs : List V) (H' : Hp), H p = none → Same H H' → H' p = some (.lst vs) → LvAt K H' vs (levs n [f]) → Q (.ref p) H'
theorem dist_sing (f : Fm) : dist [f] = [f] := dist_self (List.pairwise_singleton _ _)
theorem ok_levels_from (T : Top w K mg) : FnOk P w K mg base CX0 2 T.f_levels_from T.d_levels_from ["formulas"] (spLevelsF K) := by
  have G_parts_of : FnOk P w K mg base CX0 1 T.f_parts_of T.d_parts_of ["a"] (spParts K) := ok_parts_of T
  have G_distinct : FnOk P w K mg base CX0 1 T.f_distinct T.d_distinct ["rows"] (spDistinct K) := ok_distinct T
  refine T.F_levels_from.ok sc_levels_from (fun vs H Q E h => ?_) (fun cdv A outer s H vs Q E hr h => ?_)
  · obtain ⟨q, x, f, n, rfl, _⟩ := h
    rfl
  obtain ⟨q, x, f, n, rfl, hq, hx, hok, hn, hsz, k⟩ := h
  refine ⟨_, (pss_cons (ps_set (i := 1) sc_levels_from.nd rfl (.inl rfl) (pe_lst pa_nil))
    (pss_cons (ps_set (i := 2) sc_levels_from.nd rfl (.inl rfl) (pe_call G_distinct (hr.mono (by omega)) (by rfl) T.m_distinct T.F_distinct.kp T.b_distinct .nil pass0 (pa_cons (pv 0) pa_nil)))
    (pss_cons (ps_while PassesOwn.never (pt_truth (pv 2) (fun _ => rfl))
      (pss_cons (ps_expr (pe_bm PySem.F.plainAttrs_list PySem.F.slot_list_append PySem.F.type_list_append mt_append (pv 1) (pa_cons (pv 2) pa_nil)))
    (pss_one (ps_set (i := 2) sc_levels_from.nd rfl (.inl rfl) (pe_call G_distinct (hr.mono (by omega)) (by rfl) T.m_distinct T.F_distinct.kp T.b_distinct .nil pass0 (pa_cons (pe_lc2 (own := [("b", 3), ("part", 4)]) (vs1 := [4]) (g := gName 3) (g1 := gName 4) (tt := tYes) (tt1 := tYes) (wi1 := iTup K _) rfl sc_levels_from.nd (pi_list (pv 2)) (blkOk_by (N := ["formulas", "levels", "level", "b", "part"]) (sc := defScope s_levels_from) (by decide +kernel)) (by decide) (fun _ _ _ _ _ => pg_name (i := 3) sc_levels_from.nd rfl (Or.inl rfl)) (fun _ _ _ _ _ => pts_nil) (fun _ _ _ _ _ => (pi_tup (pe_call G_parts_of (hr.mono (by omega)) (by rfl) T.m_parts_of T.F_parts_of.kp T.b_parts_of .nil pass0 (pa_cons (pv 3) pa_nil)))) (fun _ _ _ _ _ => pg_name (i := 4) sc_levels_from.nd rfl (Or.inl rfl)) (fun _ _ _ _ _ => pts_nil) (fun _ _ _ _ _ => (pv 4))) pa_nil))))))
    (pss_one (ps_ret (pv 1)))))), ?_⟩
  refine ⟨Nat.zero_le _, fun L nL => ?_⟩
  have s1 := same_new (o := .lst []) nL
  refine ⟨_, rfl, q, [x], [f], rfl, s1.seq hq, .cons (hx.mono (Same.ts s1)) .nil, fun g hg => hok g (by rw [List.mem_singleton.mp hg]; exact subs_kids.mpr (.inl rfl)), by show 1 ≤ 1000000; decide, fun c0 ys0 Hs nc0 ss hc0 hI0 => ?_⟩
  rw [dist_sing] at hI0
  have s2 := s1.trans ss
  have hLs := ss _ _ (@upd_same H L (.lst []))
  have nLc : L ≠ c0 := ne_of_none upd_same nc0
  refine ⟨fun m σ H2 => ∃ (vs : List V) (acc : List (List Fm)) (c : Addr) (ys : List V) (cur : List Fm) (v3 v4 : Option V), σ = [some (.ref q), some (.ref L), some (.ref c), v3, v4] ∧ Same H H2 ∧ H2 L = some (.lst vs) ∧ LvAt K H2 vs acc ∧ (∀ v ∈ vs, v ≠ .ref L) ∧ c ≠ L ∧ SqL K H2 c ys ∧ ImAll K H2 ys (cur.map Fm.d) ∧ (∀ g ∈ cur, g ∈ f.subs ∧ g.ht ≤ m) ∧ (cur.map Fm.sz).sum ≤ 100000 ∧ acc ++ levs m cur = levs n [f] ∧ acc.length + m ≤ n,
    ⟨n, [], [], c0, ys0, [f], none, none, rfl, s2, hLs, .nil, (fun v hv => nomatch hv), nLc.symm, SqL.of hc0, hI0, ?_, by simpa using hsz, rfl, by simp⟩, ?_⟩
  · intro g hg
    rw [List.mem_singleton.mp hg]
    exact ⟨subs_kids.mpr (.inl rfl), hn⟩
  rintro m σ H2 ⟨vs, acc, c, ys, cur, v3, v4, rfl, s3, hL, lv, nv, ncL, hc, iy, hcur, hsum, hlev, hlen⟩
  have hyl := fms_len iy
  refine ⟨_, rfl, _, .inl ⟨ys, hc, rfl⟩, ?_⟩
  cases hcu : cur with
  | nil =>
    have e : ys = [] := by
      rw [hcu] at hyl
      exact List.length_eq_zero_iff.mp hyl
    subst e
    rw [hcu, levs_nil, List.append_nil] at hlev
    exact iteF ⟨_, rfl, k L vs H2 nL s3 hL (by rw [← hlev]; exact lv)⟩
  | cons g0 gr =>
    have hne : ys.isEmpty = false := by
      rw [hcu] at hyl
      cases ys with
      | nil => cases hyl
      | cons _ _ => rfl
    rw [hne]
    have hm : 1 ≤ m := by
      have h1 := (hcur g0 (by rw [hcu]; exact List.mem_cons_self)).2
      have h2 := g0.ht_pos
      omega
    obtain ⟨m', rfl⟩ : ∃ m', m = m' + 1 := ⟨m - 1, by omega⟩
    have hl2 : levs (m' + 1) cur = cur :: levs m' (down cur) := by
      rw [levs, if_neg (by rw [hcu]; simp)]
    rw [hl2] at hlev
    refine iteT ⟨_, fun σ' H' h => ⟨m', Nat.lt_succ_self _, h⟩, ?_⟩
    -- levels.append(level)
    have hvl := lv.len
    have hn2 : acc.length ≤ 1000000 := by
      have h1 : acc.length ≤ (levs n [f]).length := by rw [← hlev, List.length_append]; exact Nat.le_add_right _ _
      have h2 : (levs n [f]).length ≤ ((levs n [f]).map List.length).sum := by
        have : ∀ (n : Nat) (l : List Fm), (levs n l).length ≤ ((levs n l).map List.length).sum := by
          intro n
          induction n with
          | zero => exact fun _ => Nat.le_refl _
          | succ n ih =>
            intro l
            rw [levs]
            split
            · exact Nat.le_refl _
            · rename_i hl
              rw [List.length_cons, List.map_cons, List.sum_cons]
              have := ih (down l)
              have : 0 < l.length := List.length_pos_iff.mpr hl
              omega
        exact this n [f]
      have h3 := levs_sum n [f]
      have h4 : ([f].map Fm.sz).sum = f.sz := by simp
      omega
    refine ⟨_, rfl, .inl ⟨rfl, _, .inl (.inl hL)⟩, _, rfl, L, vs, .ref c, rfl, rfl, hL, Nat.lt_of_le_of_lt (show vs.length ≤ 1000000 by omega) (by decide), ?_⟩
    have kL : Kp L H2 (upd H2 L (.lst (vs ++ [.ref c]))) := Kp.upd
    have s4 : Same H (upd H2 L (.lst (vs ++ [.ref c]))) := fun b o hb => by
      rw [upd_ne (ne_of_none hb nL)]
      exact s3 _ _ hb
    have hL4 : upd H2 L (.lst (vs ++ [.ref c])) L = some (.lst (vs ++ [.ref c])) := upd_same
    have hc4 := kL.sqL hc ncL
    have iy4 := iy.mono (kL.ts hL)
    have lv4 : LvAt K (upd H2 L (.lst (vs ++ [.ref c]))) (vs ++ [.ref c]) (acc ++ [cur]) := LvAt.snoc hc4 iy4 (LvAt.mut kL hL lv nv)
    have nv4 : ∀ v ∈ vs ++ [.ref c], v ≠ .ref L := fun v hv => by
      rcases List.mem_append.mp hv with q | q
      · exact nv v q
      · rw [List.mem_singleton.mp q]
        exact fun e => ncL (V.ref.inj e)
    generalize upd H2 L (.lst (vs ++ [.ref c])) = H4 at s4 hL4 hc4 iy4 lv4
    -- the parts of all
    refine ⟨_, rfl, c, rfl, ⟨_, hc4⟩, fun D nD => ?_⟩
    refine out_list (K := K) (a := c) (xs := ys) (fun i H5 => ∃ zs : List V, Same H4 H5 ∧ H5 D = some (.lst zs) ∧ ImAll K H5 zs (((cur.take i).flatMap Fm.kids).map Fm.d)) ⟨[], same_new nD, upd_same, .nil⟩ (fun i H5 _ h => by
      obtain ⟨zs, h, _⟩ := h
      exact h.seq hc4) ?_ ?_
    · rintro i y H5 hy ⟨zs, s5, hD, iz⟩
      obtain ⟨g, hg, ig⟩ := imAll_of iy4 hy
      refine ⟨rfl, _, rfl, y, g, rfl, ig.mono (Same.ts s5), fun p ps H6 s6 hp ip => ⟨p, rfl, ⟨_, hp⟩, ?_⟩⟩
      have hpl := fms_len ip
      have hgc : (cur.take (i + 1)).flatMap Fm.kids = (cur.take i).flatMap Fm.kids ++ g.kids := by
        rw [take_snoc hg, List.flatMap_append]
        simp
      have hbig : ((cur.take (i + 1)).flatMap Fm.kids).length ≤ 100000 := by
        refine Nat.le_trans (flat_len _) (Nat.le_trans (sub_sum Fm.sz (List.take_sublist _ _)) hsum)
      refine in_tup (K := K) (b := p) (ys := ps) (fun j H7 => ∃ zs : List V, Same H4 H7 ∧ SqT K H7 p ps ∧ H7 D = some (.lst zs) ∧ ImAll K H7 ps (g.kids.map Fm.d) ∧ ImAll K H7 zs (((cur.take i).flatMap Fm.kids ++ g.kids.take j).map Fm.d)) ⟨zs, s5.trans s6, hp, s6 _ _ hD, ip, by rw [List.take_zero, List.append_nil]; exact iz.mono (Same.ts s6)⟩ (fun j H7 _ h => by
        obtain ⟨_, _, h, _⟩ := h
        exact h) ?_ ?_
      · rintro j q H7 hq ⟨zs, s7, hp7, hD7, ip7, iz7⟩
        obtain ⟨r, hr7, ir⟩ := imAll_of ip7 hq
        have hzl := fms_len iz7
        have hj : j < g.kids.length := (List.getElem?_eq_some_iff.mp hr7).1
        have hzs : zs.length ≤ 100000 := by
          rw [hgc, List.length_append] at hbig
          rw [List.length_append, List.length_take] at hzl
          omega
        refine ⟨rfl, _, rfl, zs, hD7, Nat.lt_of_le_of_lt hzs (by decide), zs ++ [q], ?_, ?_, upd_same, ?_, ?_⟩
        · intro b o hb
          rw [upd_ne (ne_of_none hb nD)]
          exact s7 _ _ hb
        · exact (Kp.upd.ts hD7).sqT hp7
        · exact ip7.mono (Kp.upd.ts hD7)
        · rw [take_snoc hr7, ← List.append_assoc, fm_snoc]
          exact (iz7.mono (Kp.upd.ts hD7)).snoc (ir.mono (Kp.upd.ts hD7))
      · rintro H7 ⟨zs, s7, hp7, hD7, ip7, iz7⟩
        rw [hpl, List.take_length, ← hgc] at iz7
        exact ⟨zs, s7, hD7, iz7⟩
    · rintro H5 ⟨zs, s5, hD, iz⟩
      rw [hyl, List.take_length] at iz
      refine ⟨D, zs, _, rfl, SqL.of hD, iz, fun g hg => ?_, Nat.le_trans (flat_len cur) (Nat.le_trans hsum (by decide)), fun p ws H6 np s6 hp ip => ?_⟩
      · obtain ⟨h, hh, hk⟩ := List.mem_flatMap.mp hg
        exact hok g (kids_subs (hcur h hh).1 hk)
      · have sa := s5.trans s6
        refine ⟨_, _, p, ws, down cur, _, _, rfl, s4.trans sa, sa _ _ hL4, LvAt.same sa lv4, nv4, ?_, SqL.of hp, ip, fun g hg => ?_, ?_, ?_, ?_⟩
        · exact (ne_of_none (s5 _ _ hL4) np).symm
        · obtain ⟨h, hh, hk⟩ := down_mem.mp hg
          have := kids_ht hk
          have h2 := (hcur h hh).2
          exact ⟨kids_subs (hcur h hh).1 hk, by omega⟩
        · have := down_sum cur
          omega
        · rw [List.append_assoc]
          exact hlev
        · rw [List.length_append]
          show acc.length + 1 + m' ≤ n
          omega

/-! ### subformulas, variables, boxes -/
theorem flat_subs {f : Fm} {n : Nat} (h : f.ht ≤ n) : dist (levs n [f]).flatten = dist f.subs := dist_ext fun x => by
  rw [levs_mem n [f] (fun g hg => by rw [List.mem_singleton.mp hg]; exact h) x]
  constructor
  · rintro ⟨g, hg, hx⟩
    rw [List.mem_singleton.mp hg] at hx
    exact hx
  · intro hx
    exact ⟨f, List.mem_singleton.mpr rfl, hx⟩
def spSubs (K : PySem.W.Frag) : Sp := fun vs H Q _ => ∃ (x : V) (f : Fm), vs = [x] ∧ Im K H x f.d ∧ (∀ g ∈ f.subs, Ok1 g) ∧ f.sz ≤ 100000 ∧
  ∀ (p : Addr) (ys : List V) (H' : Hp), H p = none → Same H H' → H' p = some (.lst ys) → ImAll K H' ys ((dist f.subs).map Fm.d) → Q (.ref p) H'
def spSubsF (K : PySem.W.Frag) : Sp := fun vs H Q _ => ∃ (q : Addr) (x : V) (f : Fm), vs = [.ref q] ∧ SqL K H q [x] ∧ Im K H x f.d ∧ (∀ g ∈ f.subs, Ok1 g) ∧ f.sz ≤ 100000 ∧
  ∀ (p : Addr) (ys : List V) (H' : Hp), H p = none → Same H H' → H' p = some (.lst ys) → ImAll K H' ys ((dist f.subs).map Fm.d) → Q (.ref p) H'
theorem ok_subformulas_of (T : Top w K mg) : FnOk P w K mg base CX0 3 T.f_subformulas_of T.d_subformulas_of ["formulas"] (spSubsF K) := by
  have G_levels_from : FnOk P w K mg base CX0 2 T.f_levels_from T.d_levels_from ["formulas"] (spLevelsF K) := ok_levels_from T
  have G_distinct : FnOk P w K mg base CX0 1 T.f_distinct T.d_distinct ["rows"] (spDistinct K) := ok_distinct T
  refine T.F_subformulas_of.ok sc_subformulas_of (fun vs H Q E h => ?_) (fun cdv A outer s H vs Q E hr h => ?_)
  · obtain ⟨q, x, f, rfl, _⟩ := h
    rfl
  obtain ⟨q0, x, f, rfl, hq0, hx, hok, hsz, k⟩ := h
  refine ⟨_, (pss_one (ps_ret (pe_call G_distinct (hr.mono (by omega)) (by rfl) T.m_distinct T.F_distinct.kp T.b_distinct .nil pass0 (pa_cons (pe_lc2 (own := [("level", 1), ("b", 2)]) (vs1 := [2]) (g := gName 1) (g1 := gName 2) (tt := tYes) (tt1 := tYes) (wi1 := iList K _) rfl sc_subformulas_of.nd (pi_list (pe_call G_levels_from (hr.mono (by omega)) (by rfl) T.m_levels_from T.F_levels_from.kp T.b_levels_from .nil pass0 (pa_cons (pv 0) pa_nil))) (blkOk_by (N := ["formulas", "level", "b"]) (sc := defScope s_subformulas_of) (by decide +kernel)) (by decide) (fun _ _ _ _ _ => pg_name (i := 1) sc_subformulas_of.nd rfl (Or.inl rfl)) (fun _ _ _ _ _ => pts_nil) (fun _ _ _ _ _ => (pi_list (pv 1))) (fun _ _ _ _ _ => pg_name (i := 2) sc_subformulas_of.nd rfl (Or.inl rfl)) (fun _ _ _ _ _ => pts_nil) (fun _ _ _ _ _ => (pv 2))) pa_nil)))), ?_⟩
  refine ⟨_, rfl, q0, x, f, f.ht, rfl, hq0, hx, hok, Nat.le_refl _, hsz, fun p vs H1 np s1 hp lv => ?_⟩
  refine ⟨p, rfl, ⟨_, SqL.of hp⟩, fun D nD => ?_⟩
  have hvl := lv.len
  have htot : (levs f.ht [f]).flatten.length ≤ 100000 := by
    rw [List.length_flatten]
    have := levs_sum f.ht [f]
    have h4 : ([f].map Fm.sz).sum = f.sz := by simp
    omega
  refine out_list (K := K) (a := p) (xs := vs) (fun i H2 => ∃ zs : List V, Same H1 H2 ∧ H2 D = some (.lst zs) ∧ ImAll K H2 zs (((levs f.ht [f]).take i).flatten.map Fm.d)) ⟨[], same_new nD, upd_same, .nil⟩ (fun i H2 _ h => by
    obtain ⟨zs, h, _⟩ := h
    exact SqL.of (h _ _ hp)) ?_ ?_
  · rintro i v H2 hv ⟨zs, s2, hD, iz⟩
    obtain ⟨b, ys, fs, rfl, hfs, hb, iy⟩ := lv.get hv
    have hyl := fms_len iy
    have hcat : ((levs f.ht [f]).take (i + 1)).flatten = ((levs f.ht [f]).take i).flatten ++ fs := by
      rw [take_snoc hfs, List.flatten_append]
      simp
    have hpre : ((levs f.ht [f]).take (i + 1)).flatten.length ≤ 100000 := by
      have : ((levs f.ht [f]).take (i + 1)).flatten.length + ((levs f.ht [f]).drop (i + 1)).flatten.length = (levs f.ht [f]).flatten.length := by
        rw [← List.length_append, ← List.flatten_append, List.take_append_drop]
      omega
    refine ⟨rfl, _, rfl, b, rfl, ⟨_, s2.seq hb⟩, ?_⟩
    refine in_list (K := K) (b := b) (ys := ys) (fun j H3 => ∃ zs : List V, Same H1 H3 ∧ H3 D = some (.lst zs) ∧ ImAll K H3 zs ((((levs f.ht [f]).take i).flatten ++ fs.take j).map Fm.d)) ⟨zs, s2, hD, by rw [List.take_zero, List.append_nil]; exact iz⟩ (fun j H3 _ h => by
      obtain ⟨_, h, _⟩ := h
      exact h.seq hb) ?_ ?_
    · rintro j y H3 hy ⟨zs, s3, hD3, iz3⟩
      obtain ⟨g, hg, ig⟩ := imAll_of iy hy
      have hzl := fms_len iz3
      have hj : j < fs.length := (List.getElem?_eq_some_iff.mp hg).1
      have hzs : zs.length ≤ 100000 := by
        rw [hcat, List.length_append] at hpre
        rw [List.length_append, List.length_take] at hzl
        omega
      refine ⟨rfl, _, rfl, zs, hD3, Nat.lt_of_le_of_lt hzs (by decide), zs ++ [y], ?_, upd_same, ?_⟩
      · intro b o hb
        rw [upd_ne (ne_of_none hb nD)]
        exact s3 _ _ hb
      · rw [take_snoc hg, ← List.append_assoc, fm_snoc]
        exact (iz3.mono (Kp.upd.ts hD3)).snoc ((ig.mono (Same.ts s3)).mono (Kp.upd.ts hD3))
    · rintro H3 ⟨zs, s3, hD3, iz3⟩
      rw [hyl, List.take_length, ← hcat] at iz3
      exact ⟨zs, s3, hD3, iz3⟩
  · rintro H2 ⟨zs, s2, hD, iz⟩
    rw [hvl, List.take_length] at iz
    refine ⟨D, zs, _, rfl, SqL.of hD, iz, fun g hg => ?_, Nat.le_trans htot (by decide), fun q ws H3 nq s3 hq iq => ?_⟩
    · obtain ⟨h, hh, hx⟩ := (levs_mem f.ht [f] (fun g hg => by rw [List.mem_singleton.mp hg]; exact Nat.le_refl _) g).mp hg
      rw [List.mem_singleton.mp hh] at hx
      exact hok g hx
    · rw [flat_subs (Nat.le_refl _)] at iq
      exact k q ws H3 ((s1.trans s2).free nq) ((s1.trans s2).trans s3) hq iq
theorem ok_subformulas (T : Top w K mg) : FnOk P w K mg base CX0 4 T.f_subformulas T.d_subformulas ["a"] (spSubs K) := by
  have G_subformulas_of : FnOk P w K mg base CX0 3 T.f_subformulas_of T.d_subformulas_of ["formulas"] (spSubsF K) := ok_subformulas_of T
  refine T.F_subformulas.ok sc_subformulas (fun vs H Q E h => ?_) (fun cdv A outer s H vs Q E hr h => ?_)
  · obtain ⟨x, f, rfl, _⟩ := h
    rfl
  obtain ⟨x, f, rfl, hx, hok, hsz, k⟩ := h
  refine ⟨_, (pss_one (ps_ret (pe_call G_subformulas_of (hr.mono (by omega)) (by rfl) T.m_subformulas_of T.F_subformulas_of.kp T.b_subformulas_of .nil pass0 (pa_cons (pe_lst (pa_cons (pv 0) pa_nil)) pa_nil)))), ?_⟩
  refine ⟨_, rfl, (by show 1 ≤ sizeLine; decide), fun l nl => ?_⟩
  have s1 := same_new (o := .lst [x]) nl
  exact ⟨l, x, f, rfl, SqL.of upd_same, hx.mono (Same.ts s1), hok, hsz, fun p ys H' np s2 hp iy => k p ys H' (s1.free np) (s1.trans s2) hp iy⟩
def Fm.name? : Fm → Option Str
  | .var n => some n
  | _ => none
def spBoxes (K : PySem.W.Frag) : Sp := fun vs H Q _ => ∃ (x : V) (f : Fm), vs = [x] ∧ Im K H x f.d ∧ (∀ g ∈ f.subs, Ok1 g) ∧ f.sz ≤ 100000 ∧
  ∀ (p : Addr) (ys : List V) (H' : Hp), H p = none → Same H H' → H' p = some (.lst ys) → ImAll K H' ys (((dist f.subs).filter Fm.isBox).map Fm.d) → Q (.ref p) H'
theorem ok_boxes (T : Top w K mg) : FnOk P w K mg base CX0 5 T.f_boxes T.d_boxes ["a"] (spBoxes K) := by
  have G_subformulas : FnOk P w K mg base CX0 4 T.f_subformulas T.d_subformulas ["a"] (spSubs K) := ok_subformulas T
  refine T.F_boxes.ok sc_boxes (fun vs H Q E h => ?_) (fun cdv A outer s H vs Q E hr h => ?_)
  · obtain ⟨x, f, rfl, _⟩ := h
    rfl
  obtain ⟨x, f, rfl, hx, hok, hsz, k⟩ := h
  refine ⟨_, (pss_one (ps_ret (pe_lc (own := [("b", 1)]) (g := gName 1) (tt := (tTest (tOp _ (tOp (rIxT K) _ _) _))) rfl sc_boxes.nd (pi_list (pe_call G_subformulas (hr.mono (by omega)) (by rfl) T.m_subformulas T.F_subformulas.kp T.b_subformulas .nil pass0 (pa_cons (pv 0) pa_nil))) (blkOk_by (N := ["a", "b"]) (sc := defScope s_boxes) (by decide +kernel)) (fun _ _ _ _ _ => pg_name (i := 1) sc_boxes.nd rfl (Or.inl rfl)) (fun _ _ _ _ _ => pts_one (pt_cmpR op_eq (pe_ix ix_tup (pv 1) pe_int (fun _ _ => rfl)) pe_str (nomark _))) (fun _ _ _ _ _ => (pv 1))))), ?_⟩
  refine ⟨_, rfl, x, f, rfl, hx, hok, hsz, fun p ys H1 np s1 hp iy => ⟨p, rfl, ⟨_, SqL.of hp⟩, fun D nD => ?_⟩⟩
  have hyl := fms_len iy
  have hdl : (dist f.subs).length ≤ 100000 := by
    have h1 := dist_len f.subs
    rw [subs_len] at h1
    omega
  refine lc_list (K := K) (a := p) (xs := ys) (fun i H2 => ∃ zs : List V, Same H1 H2 ∧ H2 D = some (.lst zs) ∧ ImAll K H2 zs ((((dist f.subs).take i).filter Fm.isBox).map Fm.d)) ⟨[], same_new nD, upd_same, .nil⟩ (fun i H2 _ h => by
    obtain ⟨_, h, _⟩ := h
    exact SqL.of (h _ _ hp)) ?_ ?_
  · rintro i y H2 hy ⟨zs, s2, hD, iz⟩
    obtain ⟨g, hg, ig⟩ := imAll_of iy hy
    have ig2 := ig.mono (Same.ts s2)
    obtain ⟨a, ws, rfl, h1, h2⟩ := im_inv ig2
    refine ⟨rfl, _, rfl, a, _, 0, _, rfl, rfl, h1, atI_nat (j := 0) rfl, rfl, _, rfl, ?_⟩
    rw [sg_box, take_snoc hg, List.filter_append]
    cases hv : g.isBox with
    | true =>
      have hzl := fms_len iz
      refine iteT ⟨_, rfl, zs, hD, ?_, zs ++ [.ref a], ?_, upd_same, ?_⟩
      · refine Nat.lt_of_le_of_lt (show _ ≤ 100000 from ?_) (by decide)
        rw [hzl]
        refine Nat.le_trans (List.length_filter_le _ _) ?_
        rw [List.length_take]
        omega
      · intro b o hb
        rw [upd_ne (ne_of_none hb nD)]
        exact s2 _ _ hb
      · rw [show [g].filter Fm.isBox = [g] by rw [List.filter_cons, hv]; rfl, fm_snoc]
        exact (iz.mono (Kp.upd.ts hD)).snoc (ig2.mono (Kp.upd.ts hD))
    | false =>
      refine iteF ⟨zs, s2, hD, ?_⟩
      rw [show [g].filter Fm.isBox = [] by rw [List.filter_cons, hv]; rfl, List.append_nil]
      exact iz
  · rintro H2 ⟨zs, s2, hD, iz⟩
    rw [hyl, List.take_length] at iz
    exact k D zs H2 (s1.free nD) (s1.trans s2) hD iz

theorem plain_iff : ∀ f : Fm, f.plain = true ↔ ∀ g ∈ f.subs, g.isBox = false
  | .var _ => by simp [Fm.plain, Fm.subs, Fm.isBox]
  | .fal => by simp [Fm.plain, Fm.subs, Fm.isBox]
  | .and a b => by simp [Fm.plain, Fm.subs, Fm.isBox, plain_iff a, plain_iff b, or_imp, forall_and]
  | .or a b => by simp [Fm.plain, Fm.subs, Fm.isBox, plain_iff a, plain_iff b, or_imp, forall_and]
  | .imp a b => by simp [Fm.plain, Fm.subs, Fm.isBox, plain_iff a, plain_iff b, or_imp, forall_and]
  | .box a => by simp [Fm.plain, Fm.subs, Fm.isBox]
theorem plain_boxes (f : Fm) : (((dist f.subs).filter Fm.isBox).isEmpty) = f.plain := by
  rw [Bool.eq_iff_iff, plain_iff, List.isEmpty_iff, List.filter_eq_nil_iff]
  constructor
  · intro h g hg
    exact Bool.eq_false_iff.mpr (h g (dist_mem.mpr hg))
  · intro h g hg
    rw [h g (dist_mem.mp hg)]
    decide
theorem im_empty {H : Hp} {xs : List V} {fs : List Fm} (h : ImAll K H xs (fs.map Fm.d)) : xs.isEmpty = fs.isEmpty := by
  have := fms_len h
  cases xs <;> cases fs <;> first | rfl | cases this
def spPlain (K : PySem.W.Frag) : Sp := fun vs H Q _ => ∃ (x : V) (f : Fm), vs = [x] ∧ Im K H x f.d ∧ (∀ g ∈ f.subs, Ok1 g) ∧ f.sz ≤ 100000 ∧ ∀ H', Same H H' → Q (.bl f.plain) H'
theorem ok_is_plain (T : Top w K mg) : FnOk P w K mg base CX0 6 T.f_is_plain T.d_is_plain ["a"] (spPlain K) := by
  have G_boxes : FnOk P w K mg base CX0 5 T.f_boxes T.d_boxes ["a"] (spBoxes K) := ok_boxes T
  refine T.F_is_plain.ok sc_is_plain (fun vs H Q E h => ?_) (fun cdv A outer s H vs Q E hr h => ?_)
  · obtain ⟨x, f, rfl, _⟩ := h
    rfl
  obtain ⟨x, f, rfl, hx, hok, hsz, k⟩ := h
  refine ⟨_, (pss_one (ps_ret (pe_notT (pe_call G_boxes (hr.mono (by omega)) (by rfl) T.m_boxes T.F_boxes.kp T.b_boxes .nil pass0 (pa_cons (pv 0) pa_nil))))), ?_⟩
  refine ⟨_, rfl, x, f, rfl, hx, hok, hsz, fun p ys H' np s1 hp iy => ?_⟩
  refine ⟨!ys.isEmpty, .inl ⟨ys, SqL.of hp, rfl⟩, ?_⟩
  rw [Bool.not_not, im_empty iy, plain_boxes]
  exact k H' s1
theorem box_count {f : Fm} {n : Nat} (h : n = (f.subs.filter Fm.isBox).length) : decide (V.int ((n : Nat) : Int) = V.int 0) = f.plain := by
  rw [Bool.eq_iff_iff, plain_iff, decide_eq_true_eq, h]
  constructor
  · intro h g hg
    have h0 : (f.subs.filter Fm.isBox).length = 0 := Int.ofNat.inj (V.int.inj h)
    have := List.filter_eq_nil_iff.mp (List.length_eq_zero_iff.mp h0) g hg
    exact Bool.eq_false_iff.mpr this
  · intro h
    have h0 : f.subs.filter Fm.isBox = [] := List.filter_eq_nil_iff.mpr fun g hg => by rw [h g hg]; decide
    rw [h0]
    rfl

end
end E
namespace DL
open E PySem PySem.Spec PyProof.Rows L2
section
variable {P : Program} {w : World} {K : PySem.W.Frag} {mg : Str → Option Value} {base : Heap} {TT : List NdefX.NTab}
/-! ### pools, over data -/
def gNumbers : List Rs → En → (Sl → En → Prop) → Prop := fun rs ρ Q => ∃ (ns : List Int) (f m : Int), rs = [.v (.lst (ns.map D.int)), .v (.int f), .v (.int m)] ∧ ns.length ≤ 1000 ∧ 0 ≤ f ∧ f ≤ 1000 ∧ 0 ≤ m ∧ m ≤ 1000 ∧ ∀ p, Q (.il p) ρ
theorem c_numbers {κ : Ktx} {i : Nat} {E : XK} : ∀ σ H ρ vs rs (Q : Sl → En → Prop) (Q' : VK), Rep K κ ρ σ H → ZRA K H vs rs → gNumbers rs ρ Q → (∀ v H' s, Rep K κ (ρ.set i s) (σ.set i (some v)) H' → Ext H H' → Q s ρ → Q' v H') → spNumbers K vs H Q' E := by
  intro σ H ρ vs rs Q Q' R z ⟨ns, f, m, e, h1, h2, h3, h4, h5, h6⟩ k
  subst e
  cases z with
  | cons z1 z =>
    cases z with
    | cons z2 z =>
      cases z with
      | cons z3 z =>
        cases z
        cases (show Z K H _ (.int f) from z2)
        cases (show Z K H _ (.int m) from z3)
        cases (show Z K H _ (.lst (ns.map D.int)) from z1) with
        | @lst a xs _ s l =>
          have e := ZA.ints_inv l
          subst e
          refine ⟨a, ns, f, m, rfl, s.sq, h1, h2, h3, h4, h5, fun q ms H' nq sm hq hl hz => ?_⟩
          obtain ⟨n1, n2⟩ := new_own R (Sub.refl ρ) nq
          have R' := R.step sm
          exact k _ H' (.il q) (R'.setS (s := .il q) (some (.ref q)) ⟨rfl, ms, hq⟩ (fun p' e => by cases e; exact ⟨fun j _ => n1 j, .inl n2⟩) (plx_new R R' (Sub.refl ρ) nq n1 rfl (fun _ _ e => nomatch e) (pl_ne R R' (Sub.refl ρ) nq))) (Ext.same sm) (h6 q)

def gFormula (n : Nat) : List D → (D → Prop) → Prop := fun ds q => ∃ (dep : Int) (pl : Bool), ds = [.int dep, .bl pl] ∧ 0 ≤ dep ∧ dep < n ∧ ∀ f : Fm, f.ht ≤ dep.toNat + 1 → f.over nms = true → (pl = true → f.plain = true) → q (fD f)
theorem c_formula {κ : Ktx} {n : Nat} {E : XK} : ∀ σ H ρ vs rs (Q : DQ) (Q' : VK), Rep K κ ρ σ H → ZRA K H vs rs → gPool isIl (gFormula n) rs ρ Q → (∀ v H', pD K κ σ H ρ Q v H' → Q' v H') → spFormula K n vs H Q' E := by
  intro σ H ρ vs rs Q Q' R z h k
  match rs, z, h with
  | .o p i :: rs, .cons (v := v) z1 z2, ⟨s, e, own, is, h⟩ =>
    cases (show v = .ref p from z1)
    obtain ⟨ds, za, dep, pl, ed, d0, d1, hq⟩ := vals_of z2 h
    subst ed
    cases za with
    | cons y1 za =>
      cases za with
      | cons y2 za =>
        cases za
        cases y1
        cases y2
        cases s <;> first | exact (show False from is).elim | skip
        cases own
        obtain ⟨ev, ns, hp⟩ := R.ok i _ e
        refine ⟨p, dep, pl, ns, rfl, hp, d0, d1, fun v f H' ms kp hp' im h1 h2 h3 => ?_⟩
        obtain ⟨R', f'⟩ := R.pool e rfl kp ⟨ev, ms, hp'⟩ ⟨_, hp'⟩
        exact k _ _ ⟨.v (fD f), ρ, R', z_im f im, f', Sub.refl _, hq f h1 h2 h3⟩

/-! ### the place of a formula, is it there -/
def φPlace : GL := fun ds q => ∃ (fs : List Fm) (f : Fm), ds = [.tup (fs.map fD), fD f] ∧ fs ≠ [] ∧ fs.length ≤ 1000 ∧ Asc fs ∧ (∀ g ∈ fs, OkE g) ∧ OkE f ∧ ∀ i : Nat, i < fs.length → (f ∈ fs → fs[i]? = some f) → q (.int i)
theorem ok_place_of (T : Top w K mg) : FnOk P w K mg base CX0 1 T.f_place_of T.d_place_of ["rows", "row"] (spD K TT φPlace) := by
  refine okD TT T.F_place_of sc_place_of (fun ds q ⟨_, _, e, _⟩ => by rw [e]; rfl) fun cdv A outer s H E κ hr hT ds q ⟨fs, f, e, hne, hlen, hasc, hok, hf, hq⟩ => ?_
  subst e
  have hu200 := hr.un
  refine ⟨_, (dss_cons (ds_set (i := 2) sc_place_of.nd rfl (.inl rfl) dx_int)
    (dss_cons (ds_set (i := 3) sc_place_of.nd rfl (.inl rfl) (dx_op op_sub oa_int0 (dx_callB ca_len cr_len (by rfl) T.z_len PySem.boot_len (da_cons (dv 0) da_nil)) dx_int))
    (dss_cons (ds_while PassesOwn.never (dt_cmp op_lt oa_cmp0 (dv 2) (dv 3) (nomark _))
      (dss_cons (ds_set (i := 4) sc_place_of.nd rfl (.inl rfl) (dx_op op_fdiv oa_int (dx_op op_addA oa_add (dv 2) (dv 3)) dx_int))
    (dss_one (ds_if (dt_cmp (op_ltF hu200) oa_ltF (dx_ix ix_seq oa_ix (dv 0) (dv 4) (fun _ _ => rfl)) (dv 1) (nomark _))
      (dss_one (ds_set (i := 2) sc_place_of.nd rfl (.inl rfl) (dx_op op_addA oa_add (dv 4) dx_int)))
      (dss_one (ds_set (i := 3) sc_place_of.nd rfl (.inl rfl) (dv 4)))))))
    (dss_one (ds_ret (dv 2)))))), ?_⟩
  rw [show startE ["rows", "row", "low", "high", "middle"] [D.tup (fs.map fD), fD f] = [.val (.tup (fs.map fD)), .val (fD f), .no, .no, .no] from rfl]
  simp only [↓gTp, ↓gCn, ↓gN, ↓gNl, ↓sSeq, ↓sIf, ↓sDrop, ↓sMut, ↓isLs, ↓mutK, ↓gAppend, ↓sSetM, ↓sSet, ↓sC, ↓sVar, ↓sTup, ↓sLst, ↓sFx, ↓sCons, ↓sNil, ↓sOp, ↓sUn, ↓sTst, ↓sTru, ↓sAnd, ↓sOr, ↓sNot, ↓sIfS, ↓sAndV, ↓sOrV, ↓sCB, ↓gLen, ↓sGet1, ↓sGet2, ↓toKey, ↓sRet, ↓sRetN, ↓sCall, ↓sNext, ↓gInt, ↓gCmp, ↓gEqB, ↓gIsN, ↓isNonD, ↓truD, ↓gNegI, ↓sFor, ↓sLc, ↓sSlL, ↓sSlT, ↓sNoP, ↓sPart, ↓iRv, ↓lstK, ↓iA, ↓iE, ↓iZ, ↓iR1, ↓iR2, ↓valK, ↓valKs, ↓resK, ↓resKs, ↓slK, ↓List.getElem?_cons_succ, ↓List.getElem?_cons_zero, ↓List.set, ↓reduceIte, Bool.not_false, Bool.not_true, Bool.false_eq_true, id, Rs.v.injEq, D.bl.injEq, D.int.injEq, exists_eq_left', true_and, and_true, fD, str_dec, String.reduceEq, decide_false, decide_true, atI_0, atI_1, atI_2, Option.some.injEq, List.length_cons, List.length_nil, ↓sRetV, ↓gAdd, ↓sStarA, ↓gTin, ↓gTnin, ↓gTix, ↓sCallX, ↓sRaise, ↓sRaise1, ↓sTry, ↓gIsE, ↓sCallW, ↓sCF, ↓sCallO, ↓sSetO, ↓sSetIx, ↓setK, ↓sCat, ↓gIsi, ↓tyN, ↓gIsA, ↓gInsert, ↓gPool, ↓isIl, ↓isPl, ↓sSrtS, ↓gListF, ↓gTupA, ↓sNotV, ↓sLst, ↓sAsg, ↓wipeE, List.map_cons, List.map_nil, ↓g2I, keepAll, List.length_map, ↓gInt1, ↓gAbs, rng_len']
  have hpos := List.length_pos_iff.mpr hne
  refine ⟨fun m ρ => ∃ (lo hi : Nat) (s4 : Sl), ρ = [.val (.tup (fs.map fD)), .val (fD f), .val (.int lo), .val (.int hi), s4] ∧ (∀ i, fs[i]? = some f → lo ≤ i ∧ i ≤ hi) ∧ lo ≤ hi ∧ hi < fs.length ∧ m = hi - lo, ⟨fs.length - 1 - 0, 0, fs.length - 1, .no, ?_, fun i hi => ⟨Nat.zero_le _, ?_⟩, by omega, by omega, rfl⟩, ?_⟩
  · rw [show (fs.length : Int) - 1 = ((fs.length - 1 : Nat) : Int) by omega]
    rfl
  · have := (List.getElem?_eq_some_iff.mp hi).1
    omega
  rintro m ρ ⟨lo, hi, s4, rfl, hin, hle, hhi, rfl⟩
  simp only [↓gTp, ↓gCn, ↓gN, ↓gNl, ↓sSeq, ↓sIf, ↓sDrop, ↓sMut, ↓isLs, ↓mutK, ↓gAppend, ↓sSetM, ↓sSet, ↓sC, ↓sVar, ↓sTup, ↓sLst, ↓sFx, ↓sCons, ↓sNil, ↓sOp, ↓sUn, ↓sTst, ↓sTru, ↓sAnd, ↓sOr, ↓sNot, ↓sIfS, ↓sAndV, ↓sOrV, ↓sCB, ↓gLen, ↓sGet1, ↓sGet2, ↓toKey, ↓sRet, ↓sRetN, ↓sCall, ↓sNext, ↓gInt, ↓gCmp, ↓gEqB, ↓gIsN, ↓isNonD, ↓truD, ↓gNegI, ↓sFor, ↓sLc, ↓sSlL, ↓sSlT, ↓sNoP, ↓sPart, ↓iRv, ↓lstK, ↓iA, ↓iE, ↓iZ, ↓iR1, ↓iR2, ↓valK, ↓valKs, ↓resK, ↓resKs, ↓slK, ↓List.getElem?_cons_succ, ↓List.getElem?_cons_zero, ↓List.set, ↓reduceIte, Bool.not_false, Bool.not_true, Bool.false_eq_true, id, Rs.v.injEq, D.bl.injEq, D.int.injEq, exists_eq_left', true_and, and_true, fD, str_dec, String.reduceEq, decide_false, decide_true, atI_0, atI_1, atI_2, Option.some.injEq, List.length_cons, List.length_nil, ↓sRetV, ↓gAdd, ↓sStarA, ↓gTin, ↓gTnin, ↓gTix, ↓sCallX, ↓sRaise, ↓sRaise1, ↓sTry, ↓gIsE, ↓sCallW, ↓sCF, ↓sCallO, ↓sSetO, ↓sSetIx, ↓setK, ↓sCat, ↓gIsi, ↓tyN, ↓gIsA, ↓gInsert, ↓gPool, ↓isIl, ↓isPl, ↓sSrtS, ↓gListF, ↓gTupA, ↓sNotV, ↓sLst, ↓sAsg, ↓wipeE, List.map_cons, List.map_nil, ↓g2I, keepAll, List.length_map, ↓gInt1, ↓gAbs, rng_len']
  by_cases c : (lo : Int) < hi
  · rw [if_pos (decide_eq_true c)]
    obtain ⟨mid, hm⟩ : ∃ mid : Nat, ((lo : Int) + (hi : Int)) / 2 = (mid : Int) := ⟨(lo + hi) / 2, by omega⟩
    have hm1 : lo ≤ mid := by omega
    have hm2 : mid < hi := by omega
    rw [hm]
    have hml : mid < fs.length := by omega
    have og := hok _ (List.getElem_mem hml)
    refine ⟨⟨by decide, by decide⟩, fD fs[mid], atI_nat (by rw [List.getElem?_map, List.getElem?_eq_getElem hml]; rfl), fs[mid], f, rfl, rfl, og.1, hf.1, Nat.le_trans og.2 (by decide), ?_⟩
    cases hlt : fs[mid].lt f with
    | true =>
      refine ⟨true, rfl, iteT ⟨hi - (mid + 1), by omega, mid + 1, hi, .val (.int mid), rfl, fun i hi' => ⟨?_, (hin i hi').2⟩, by omega, hhi, rfl⟩⟩
      · obtain ⟨hi2, e2⟩ := List.getElem?_eq_some_iff.mp hi'
        rcases Nat.lt_or_ge mid i with h | h
        · exact h
        · exfalso
          by_cases e : i = mid
          · subst e
            rw [e2, Fm.lt_irrefl] at hlt
            cases hlt
          · have h6 := List.pairwise_iff_getElem.mp hasc i mid hi2 hml (by omega)
            rw [e2] at h6
            rw [Fm.lt_asymm h6] at hlt
            cases hlt
    | false =>
      refine ⟨false, rfl, iteF ⟨mid - lo, by omega, lo, mid, .val (.int mid), rfl, fun i hi' => ⟨(hin i hi').1, ?_⟩, by omega, by omega, rfl⟩⟩
      · obtain ⟨hi2, e2⟩ := List.getElem?_eq_some_iff.mp hi'
        rcases Nat.lt_or_ge mid i with h | h
        · exfalso
          have h6 := List.pairwise_iff_getElem.mp hasc mid i hml hi2 h
          rw [e2] at h6
          rw [h6] at hlt
          cases hlt
        · exact h
  · rw [if_neg (by rw [decide_eq_true_eq]; exact c)]
    have e : lo = hi := by omega
    subst e
    refine fun _ => hq lo hhi fun hm => ?_
    obtain ⟨i, hi', e2⟩ := List.getElem_of_mem hm
    have := hin i (by rw [List.getElem?_eq_getElem hi', e2])
    have e3 : i = lo := by omega
    subst e3
    rw [List.getElem?_eq_getElem hi', e2]
def φContains : GL := fun ds q => ∃ (fs : List Fm) (f : Fm), ds = [.tup (fs.map fD), fD f] ∧ fs.length ≤ 1000 ∧ Asc fs ∧ (∀ g ∈ fs, OkE g) ∧ OkE f ∧ q (.bl (decide (f ∈ fs)))
theorem ok_contains (T : Top w K mg) : FnOk P w K mg base CX0 2 T.f_contains T.d_contains ["rows", "row"] (spD K TT φContains) := by
  have G_place_of := ok_place_of (P := P) (w := w) (base := base) (TT := TT) T
  refine okD TT T.F_contains sc_contains (fun ds q ⟨_, _, e, _⟩ => by rw [e]; rfl) fun cdv A outer s H E κ hr hT ds q ⟨fs, f, e, hlen, hasc, hok, hf, hq⟩ => ?_
  subst e
  subst hT
  have hu64 := hr.units
  refine ⟨_, (dss_one (ds_ret (dx_and (dx_cmp op_gt oa_cmp0 (dx_callB ca_len cr_len (by rfl) T.z_len PySem.boot_len (da_cons (dv 0) da_nil)) dx_int (nomark _)) (dx_one (dx_cmp (op_eqA hu64) oa_eq (dx_ix ix_seq oa_ix (dv 0) (dx_call G_place_of (hr.mono (by omega)) (by rfl) T.m_place_of T.F_place_of.kp T.b_place_of pass0 (da_cons (dv 0) (da_cons (dv 1) da_nil))) (fun _ _ => rfl)) (dv 1) (nomark _)))))), ?_⟩
  rw [show startE ["rows", "row"] [D.tup (fs.map fD), fD f] = [.val (.tup (fs.map fD)), .val (fD f)] from rfl]
  simp only [↓gTp, ↓gCn, ↓gN, ↓gNl, ↓sSeq, ↓sIf, ↓sDrop, ↓sMut, ↓isLs, ↓mutK, ↓gAppend, ↓sSetM, ↓sSet, ↓sC, ↓sVar, ↓sTup, ↓sLst, ↓sFx, ↓sCons, ↓sNil, ↓sOp, ↓sUn, ↓sTst, ↓sTru, ↓sAnd, ↓sOr, ↓sNot, ↓sIfS, ↓sAndV, ↓sOrV, ↓sCB, ↓gLen, ↓sGet1, ↓sGet2, ↓toKey, ↓sRet, ↓sRetN, ↓sCall, ↓sNext, ↓gInt, ↓gCmp, ↓gIsN, ↓isNonD, ↓truD, ↓gNegI, ↓sFor, ↓sLc, ↓sSlL, ↓sSlT, ↓sNoP, ↓sPart, ↓iRv, ↓lstK, ↓iA, ↓iE, ↓iZ, ↓iR1, ↓iR2, ↓valK, ↓valKs, ↓resK, ↓resKs, ↓slK, ↓List.getElem?_cons_succ, ↓List.getElem?_cons_zero, ↓List.set, ↓reduceIte, Bool.not_false, Bool.not_true, Bool.false_eq_true, id, Rs.v.injEq, D.bl.injEq, D.int.injEq, exists_eq_left', true_and, and_true, fD, str_dec, String.reduceEq, decide_false, decide_true, atI_0, atI_1, atI_2, Option.some.injEq, List.length_cons, List.length_nil, ↓sRetV, ↓gAdd, ↓sStarA, ↓gTin, ↓gTnin, ↓gTix, ↓sCallX, ↓sRaise, ↓sRaise1, ↓sTry, ↓gIsE, ↓sCallW, ↓sCF, ↓sCallO, ↓sSetO, ↓sSetIx, ↓setK, ↓sCat, ↓gIsi, ↓tyN, ↓gIsA, ↓gInsert, ↓gPool, ↓isIl, ↓isPl, ↓sSrtS, ↓gListF, ↓gTupA, ↓sNotV, ↓sLst, ↓sAsg, ↓wipeE, List.map_cons, List.map_nil, ↓g2I, keepAll, List.length_map, ↓gInt1, ↓gAbs, rng_len']
  by_cases hne : fs = []
  · subst hne
    exact fun _ => hq
  have hpos := List.length_pos_iff.mpr hne
  rw [show decide ((0 : Int) < (fs.length : Int)) = true from decide_eq_true (by omega)]
  refine ⟨fs, f, rfl, hne, hlen, hasc, hok, hf, fun i hi h => ⟨fD fs[i], atI_nat (by rw [List.getElem?_map, List.getElem?_eq_getElem hi]; rfl), eq_fm (k := id) (hok _ (List.getElem_mem hi)).sh hf.sh ?_⟩⟩
  show _ → q (.bl (decide (fs[i] = f)))
  rw [show decide (fs[i] = f) = decide (f ∈ fs) by
    refine decide_eq_decide.mpr ⟨fun e => by rw [← e]; exact List.getElem_mem hi, fun m => ?_⟩
    have := h m
    rw [List.getElem?_eq_getElem hi] at this
    exact Option.some.inj this]
  exact fun _ => hq

/-! ### distinct, sequents -/
def Ok1 (f : Fm) : Prop := f.d.canLay0 = true ∧ f.ht ≤ 63
theorem Ok1.sh {f : Fm} (h : Ok1 f) : SeqAt.shaped f.d = true := by
  unfold SeqAt.shaped
  rw [h.1, Fm.depth]
  exact decide_eq_true (Nat.le_trans h.2 (by decide))
theorem dd_len (l : List Fm) (h : l.Pairwise fun a b => a.le b = true) : (dd l).length ≤ l.length := (dd_spec l h).2.2.1.length_le
theorem take_snoc' {α : Type} {l : List α} {i : Nat} {x : α} (h : l[i]? = some x) : l.take (i + 1) = l.take i ++ [x] := by
  rw [List.take_succ, h]
  rfl
theorem at_last {α : Type} (xs : List α) (y : α) : atI (xs ++ [y]) (-1) = some y := by
  have e : ixN (xs ++ [y]).length (-1) = some xs.length := by
    rw [List.length_append]
    show ixN (xs.length + 1) (-1) = _
    unfold ixN
    rw [if_neg (by decide), if_pos (by omega)]
    congr 1
    omega
  unfold atI
  rw [e]
  simp
def φDist : GL := fun ds q => ∃ fs : List Fm, ds = [.lst (fs.map fD)] ∧ (∀ f ∈ fs, Ok1 f) ∧ fs.length ≤ 100000 ∧ q (.lst ((dist fs).map fD))
theorem ok_distinct (T : Top w K mg) : FnOk P w K mg base CX0 1 T.f_distinct T.d_distinct ["rows"] (spD K TT φDist) := by
  refine okD TT T.F_distinct sc_distinct (fun ds q ⟨_, e, _⟩ => by rw [e]; rfl) fun cdv A outer s H E κ hr hT ds q ⟨fs, e, hok, hl, hq⟩ => ?_
  subst e
  have hu64 := hr.units
  have hu200 := hr.un
  refine ⟨_, (dss_cons (ds_setM (i := 1) sc_distinct.nd rfl (.inl rfl) (fx_lst da_nil))
    (dss_cons (ds_for (g := (gName 2)) PassesOwn.never rfl (pi_any (dx_fx (fx_callB cf_sortedF (cr_sortedF hu200) (by rfl) T.z_sorted (by decide +kernel) (da_cons (dv 0) da_nil)))) it_any (pg_name (i := 2) sc_distinct.nd rfl (.inl rfl)) tg_name
      (dss_one (ds_if (PW.pt (dw_or (dt_not (dt_truth (dv 1) (fun _ => rfl))) (dw_or1 (dt_cmp (op_neA hu64) oa_ne (dv 2) (dx_ix ix_seq oa_ix (dv 1) (dx_un un_neg ua_neg dx_int) (fun _ _ => rfl)) (nomark _)))))
      (dss_one (ds_expr (dx_mut (i := 1) ma_append rfl (by first | exact Or.inl rfl | exact Or.inr (Or.inl rfl) | exact Or.inr (Or.inr rfl)) PySem.F.plainAttrs_list PySem.F.slot_list_append PySem.F.type_list_append mt_append (da_cons (dv 2) da_nil))))
      dss_nil)))
    (dss_one (ds_ret (dv 1))))), ?_⟩
  rw [show startE ["rows", "found", "row"] [D.lst (fs.map fD)] = [.val (.lst (fs.map fD)), .no, .no] from rfl]
  simp only [↓gTp, ↓gCn, ↓gN, ↓gNl, ↓sSeq, ↓sIf, ↓sDrop, ↓sMut, ↓isLs, ↓mutK, ↓gAppend, ↓sSetM, ↓sSet, ↓sC, ↓sVar, ↓sTup, ↓sLst, ↓sFx, ↓sCons, ↓sNil, ↓sOp, ↓sUn, ↓sTst, ↓sTru, ↓sAnd, ↓sOr, ↓sNot, ↓sIfS, ↓sAndV, ↓sOrV, ↓sCB, ↓gLen, ↓sGet1, ↓sGet2, ↓toKey, ↓sRet, ↓sRetN, ↓sCall, ↓sNext, ↓gInt, ↓gCmp, ↓gIx, ↓gIsN, ↓isNonD, ↓truD, ↓gNegI, ↓sFor, ↓sLc, ↓sSlL, ↓sSlT, ↓sNoP, ↓sPart, ↓iRv, ↓lstK, ↓iA, ↓iE, ↓iZ, ↓iR1, ↓iR2, ↓valK, ↓valKs, ↓resK, ↓resKs, ↓slK, ↓List.getElem?_cons_succ, ↓List.getElem?_cons_zero, ↓List.set, ↓reduceIte, Bool.not_false, Bool.not_true, Bool.false_eq_true, id, Rs.v.injEq, D.bl.injEq, D.int.injEq, exists_eq_left', true_and, and_true, fD, str_dec, String.reduceEq, decide_false, decide_true, atI_0, atI_1, atI_2, Option.some.injEq, List.length_cons, List.length_nil, ↓sRetV, ↓gAdd, ↓sStarA, ↓gTin, ↓gTnin, ↓gTix, ↓sCallX, ↓sRaise, ↓sRaise1, ↓sTry, ↓gIsE, ↓sCallW, ↓sCF, ↓sCallO, ↓sSetO, ↓sSetIx, ↓setK, ↓sCat, ↓gIsi, ↓tyN, ↓gIsA, ↓gInsert, ↓gPool, ↓isIl, ↓isPl, ↓sSrtS, ↓gListF, ↓gTupA, ↓sNotV, ↓sLst, ↓sAsg, ↓wipeE, List.map_cons, List.map_nil, ↓g2I, keepAll, List.length_map, ↓gInt1, ↓gAbs, rng_len']
  refine ⟨(by show 0 ≤ sizeLine; decide), fun p => ⟨fs, rfl, fun f m => ⟨(hok f m).1, Nat.le_trans (hok f m).2 (by decide)⟩, ?_⟩⟩
  have ms := ms_sorted fs
  have hlm : (fs.mergeSort Fm.le).length = fs.length := List.length_mergeSort fs
  refine forW_inv (fun i ρ => ∃ s2, ρ = [.val (.lst (fs.map fD)), .ls p ((dd ((fs.mergeSort Fm.le).take i)).map fD), s2]) _ _ ⟨_, rfl⟩ ?_ (fun _ _ _ => trivial) ?_
  · rintro i x ρ E' hx ⟨s2, rfl⟩ hE hbk hrt
    rw [List.getElem?_map] at hx
    cases hf : (fs.mergeSort Fm.le)[i]? with
    | none => rw [hf] at hx; cases hx
    | some f =>
    rw [hf] at hx
    cases hx
    have hi := (List.getElem?_eq_some_iff.mp hf).1
    have hfm : f ∈ fs := (List.mergeSort_perm fs Fm.le).mem_iff.mp (List.mem_of_getElem? hf)
    have ht : ((fs.mergeSort Fm.le).take i).Pairwise fun a b => a.le b = true := ms.sublist (List.take_sublist _ _)
    have hlen : (dd ((fs.mergeSort Fm.le).take i)).length ≤ i := by
      have := dd_len _ ht
      rw [List.length_take] at this
      omega
    have ed : dd ((fs.mergeSort Fm.le).take (i + 1)) = if (dd ((fs.mergeSort Fm.le).take i)).getLast? = some f then dd ((fs.mergeSort Fm.le).take i) else dd ((fs.mergeSort Fm.le).take i) ++ [f] := by
      rw [take_snoc' hf, dd_snoc]
    have app : dd ((fs.mergeSort Fm.le).take (i + 1)) = dd ((fs.mergeSort Fm.le).take i) ++ [f] → (dd ((fs.mergeSort Fm.le).take i)).length < sizeLine ∧ E'.nx [.val (.lst (fs.map fD)), .ls p ((dd ((fs.mergeSort Fm.le).take i)).map fD ++ [fD f]), .val (fD f)] := fun e => by
      refine ⟨by rw [sizeLine_eq]; omega, (hE _ ⟨.val (fD f), ?_⟩ trivial).1⟩
      rw [e, List.map_append]
      rfl
    have mem : ∀ g ∈ dd ((fs.mergeSort Fm.le).take i), g ∈ fs := fun g m => (List.mergeSort_perm fs Fm.le).mem_iff.mp (List.mem_of_mem_take (((dd_spec _ ht).2.1 g).mp m))
    generalize dd ((fs.mergeSort Fm.le).take i) = l at ed app mem hlen ⊢
    rcases List.eq_nil_or_concat l with e | ⟨l0, g, e⟩
    · subst e
      simp only [↓gTp, ↓gCn, ↓gN, ↓gNl, ↓sSeq, ↓sIf, ↓sDrop, ↓sMut, ↓isLs, ↓mutK, ↓gAppend, ↓sSetM, ↓sSet, ↓sC, ↓sVar, ↓sTup, ↓sLst, ↓sFx, ↓sCons, ↓sNil, ↓sOp, ↓sUn, ↓sTst, ↓sTru, ↓sAnd, ↓sOr, ↓sNot, ↓sIfS, ↓sAndV, ↓sOrV, ↓sCB, ↓gLen, ↓sGet1, ↓sGet2, ↓toKey, ↓sRet, ↓sRetN, ↓sCall, ↓sNext, ↓gInt, ↓gCmp, ↓gEqB, ↓gIx, ↓gIsN, ↓isNonD, ↓truD, ↓gNegI, ↓sFor, ↓sLc, ↓sSlL, ↓sSlT, ↓sNoP, ↓sPart, ↓iRv, ↓lstK, ↓iA, ↓iE, ↓iZ, ↓iR1, ↓iR2, ↓valK, ↓valKs, ↓resK, ↓resKs, ↓slK, ↓List.getElem?_cons_succ, ↓List.getElem?_cons_zero, ↓List.set, ↓reduceIte, Bool.not_false, Bool.not_true, Bool.false_eq_true, id, Rs.v.injEq, D.bl.injEq, D.int.injEq, exists_eq_left', true_and, and_true, fD, str_dec, String.reduceEq, decide_false, decide_true, atI_0, atI_1, atI_2, Option.some.injEq, List.length_cons, List.length_nil, ↓sRetV, ↓gAdd, ↓sStarA, ↓gTin, ↓gTnin, ↓gTix, ↓sCallX, ↓sRaise, ↓sRaise1, ↓sTry, ↓gIsE, ↓sCallW, ↓sCF, ↓sCallO, ↓sSetO, ↓sSetIx, ↓setK, ↓sCat, ↓gIsi, ↓tyN, ↓gIsA, ↓gInsert, ↓gPool, ↓isIl, ↓isPl, ↓sSrtS, ↓gListF, ↓gTupA, ↓sNotV, ↓sLst, ↓sAsg, ↓wipeE, List.map_cons, List.map_nil, ↓g2I, keepAll, List.length_map, ↓gInt1, ↓gAbs, rng_len', List.map_nil, List.isEmpty_nil]
      exact app (by rw [ed]; rfl)
    · rw [List.concat_eq_append] at e
      subst e
      rw [List.getLast?_append] at ed
      have gm := mem g (by simp)
      have ie : (List.map fD (l0 ++ [g])).isEmpty = false := by simp
      simp only [↓gTp, ↓gCn, ↓gN, ↓gNl, ↓sSeq, ↓sIf, ↓sDrop, ↓sMut, ↓isLs, ↓mutK, ↓gAppend, ↓sSetM, ↓sSet, ↓sC, ↓sVar, ↓sTup, ↓sLst, ↓sFx, ↓sCons, ↓sNil, ↓sOp, ↓sUn, ↓sTst, ↓sTru, ↓sAnd, ↓sOr, ↓sNot, ↓sIfS, ↓sAndV, ↓sOrV, ↓sCB, ↓gLen, ↓sGet1, ↓sGet2, ↓toKey, ↓sRet, ↓sRetN, ↓sCall, ↓sNext, ↓gInt, ↓gCmp, ↓gIx, ↓gIsN, ↓isNonD, ↓truD, ↓gNegI, ↓sFor, ↓sLc, ↓sSlL, ↓sSlT, ↓sNoP, ↓sPart, ↓iRv, ↓lstK, ↓iA, ↓iE, ↓iZ, ↓iR1, ↓iR2, ↓valK, ↓valKs, ↓resK, ↓resKs, ↓slK, ↓List.getElem?_cons_succ, ↓List.getElem?_cons_zero, ↓List.set, ↓reduceIte, Bool.not_false, Bool.not_true, Bool.false_eq_true, id, Rs.v.injEq, D.bl.injEq, D.int.injEq, exists_eq_left', true_and, and_true, fD, str_dec, String.reduceEq, decide_false, decide_true, atI_0, atI_1, atI_2, Option.some.injEq, List.length_cons, List.length_nil, ↓sRetV, ↓gAdd, ↓sStarA, ↓gTin, ↓gTnin, ↓gTix, ↓sCallX, ↓sRaise, ↓sRaise1, ↓sTry, ↓gIsE, ↓sCallW, ↓sCF, ↓sCallO, ↓sSetO, ↓sSetIx, ↓setK, ↓sCat, ↓gIsi, ↓tyN, ↓gIsA, ↓gInsert, ↓gPool, ↓isIl, ↓isPl, ↓sSrtS, ↓gListF, ↓gTupA, ↓sNotV, ↓sLst, ↓sAsg, ↓wipeE, List.map_cons, List.map_nil, ↓g2I, keepAll, List.length_map, ↓gInt1, ↓gAbs, rng_len', ie]
      refine ⟨fD g, ?_, eq_fm (k := not) (hok f hfm).sh (hok g gm).sh ⟨_, rfl, ?_⟩⟩
      · show atI (List.map fD (l0 ++ [g])) (-1) = some (fD g)
        rw [List.map_append]
        exact at_last _ _
      by_cases eg : f = g
      · subst eg
        rw [if_pos (by simp)] at ed
        simp only [decide_true, Bool.not_true, Bool.false_eq_true, ↓reduceIte]
        exact (hE _ ⟨.val (fD f), by rw [ed]⟩ trivial).1
      · rw [if_neg (fun e => eg (Option.some.inj (show some g = some f by simpa using e)).symm)] at ed
        simp only [decide_eq_false eg, Bool.not_false, ↓reduceIte]
        exact app ed
  · rintro ρ ⟨s2, rfl⟩
    simp only [↓gTp, ↓gCn, ↓gN, ↓gNl, ↓sSeq, ↓sIf, ↓sDrop, ↓sMut, ↓isLs, ↓mutK, ↓gAppend, ↓sSetM, ↓sSet, ↓sC, ↓sVar, ↓sTup, ↓sLst, ↓sFx, ↓sCons, ↓sNil, ↓sOp, ↓sUn, ↓sTst, ↓sTru, ↓sAnd, ↓sOr, ↓sNot, ↓sIfS, ↓sAndV, ↓sOrV, ↓sCB, ↓gLen, ↓sGet1, ↓sGet2, ↓toKey, ↓sRet, ↓sRetN, ↓sCall, ↓sNext, ↓gInt, ↓gCmp, ↓gEqB, ↓gIx, ↓gIsN, ↓isNonD, ↓truD, ↓gNegI, ↓sFor, ↓sLc, ↓sSlL, ↓sSlT, ↓sNoP, ↓sPart, ↓iRv, ↓lstK, ↓iA, ↓iE, ↓iZ, ↓iR1, ↓iR2, ↓valK, ↓valKs, ↓resK, ↓resKs, ↓slK, ↓List.getElem?_cons_succ, ↓List.getElem?_cons_zero, ↓List.set, ↓reduceIte, Bool.not_false, Bool.not_true, Bool.false_eq_true, id, Rs.v.injEq, D.bl.injEq, D.int.injEq, exists_eq_left', true_and, and_true, fD, str_dec, String.reduceEq, decide_false, decide_true, atI_0, atI_1, atI_2, Option.some.injEq, List.length_cons, List.length_nil, ↓sRetV, ↓gAdd, ↓sStarA, ↓gTin, ↓gTnin, ↓gTix, ↓sCallX, ↓sRaise, ↓sRaise1, ↓sTry, ↓gIsE, ↓sCallW, ↓sCF, ↓sCallO, ↓sSetO, ↓sSetIx, ↓setK, ↓sCat, ↓gIsi, ↓tyN, ↓gIsA, ↓gInsert, ↓gPool, ↓isIl, ↓isPl, ↓sSrtS, ↓gListF, ↓gTupA, ↓sNotV, ↓sLst, ↓sAsg, ↓wipeE, List.map_cons, List.map_nil, ↓g2I, keepAll, List.length_map, ↓gInt1, ↓gAbs, rng_len']
    rw [List.take_length]
    exact fun _ => hq

def seqD (l r : List Fm) : D := .tup [.tup (l.map fD), .tup (r.map fD)]
def φSeq : GL := fun ds q => ∃ l r : List Fm, ds = [.lst (l.map fD), .lst (r.map fD)] ∧ (∀ f ∈ l, Ok1 f) ∧ (∀ f ∈ r, Ok1 f) ∧ l.length ≤ 100000 ∧ r.length ≤ 100000 ∧ q (seqD (dist l) (dist r))
theorem ok_sequent (T : Top w K mg) : FnOk P w K mg base CX0 2 T.f_sequent T.d_sequent ["left", "right"] (spD K TT φSeq) := by
  have G_distinct := ok_distinct (P := P) (w := w) (base := base) (TT := TT) T
  refine okD TT T.F_sequent sc_sequent (fun ds q ⟨_, _, e, _⟩ => by rw [e]; rfl) fun cdv A outer s H E κ hr hT ds q ⟨l, r, e, h1, h2, h3, h4, hq⟩ => ?_
  subst e
  subst hT
  refine ⟨_, (dss_one (ds_ret (dx_tup (da_cons (dx_callTy ca_tuple call_tuple_of (by rfl) T.z_tuple (by decide +kernel) (da_cons (dx_call G_distinct (hr.mono (by omega)) (by rfl) T.m_distinct T.F_distinct.kp T.b_distinct pass0 (da_cons (dv 0) da_nil)) da_nil)) (da_cons (dx_callTy ca_tuple call_tuple_of (by rfl) T.z_tuple (by decide +kernel) (da_cons (dx_call G_distinct (hr.mono (by omega)) (by rfl) T.m_distinct T.F_distinct.kp T.b_distinct pass0 (da_cons (dv 1) da_nil)) da_nil)) da_nil))))), ?_⟩
  rw [show startE ["left", "right"] [D.lst (l.map fD), D.lst (r.map fD)] = [.val (.lst (l.map fD)), .val (.lst (r.map fD))] from rfl]
  simp only [↓gTp, ↓gCn, ↓gN, ↓gNl, ↓sSeq, ↓sIf, ↓sDrop, ↓sMut, ↓isLs, ↓mutK, ↓gAppend, ↓sSetM, ↓sSet, ↓sC, ↓sVar, ↓sTup, ↓sLst, ↓sFx, ↓sCons, ↓sNil, ↓sOp, ↓sUn, ↓sTst, ↓sTru, ↓sAnd, ↓sOr, ↓sNot, ↓sIfS, ↓sAndV, ↓sOrV, ↓sCB, ↓gLen, ↓sGet1, ↓sGet2, ↓toKey, ↓sRet, ↓sRetN, ↓sCall, ↓sNext, ↓gInt, ↓gCmp, ↓gEqB, ↓gIx, ↓gIsN, ↓isNonD, ↓truD, ↓gNegI, ↓sFor, ↓sLc, ↓sSlL, ↓sSlT, ↓sNoP, ↓sPart, ↓iRv, ↓lstK, ↓iA, ↓iE, ↓iZ, ↓iR1, ↓iR2, ↓valK, ↓valKs, ↓resK, ↓resKs, ↓slK, ↓List.getElem?_cons_succ, ↓List.getElem?_cons_zero, ↓List.set, ↓reduceIte, Bool.not_false, Bool.not_true, Bool.false_eq_true, id, Rs.v.injEq, D.bl.injEq, D.int.injEq, exists_eq_left', true_and, and_true, fD, str_dec, String.reduceEq, decide_false, decide_true, atI_0, atI_1, atI_2, Option.some.injEq, List.length_cons, List.length_nil, ↓sRetV, ↓gAdd, ↓sStarA, ↓gTin, ↓gTnin, ↓gTix, ↓sCallX, ↓sRaise, ↓sRaise1, ↓sTry, ↓gIsE, ↓sCallW, ↓sCF, ↓sCallO, ↓sSetO, ↓sSetIx, ↓setK, ↓sCat, ↓gIsi, ↓tyN, ↓gIsA, ↓gInsert, ↓gPool, ↓isIl, ↓isPl, ↓sSrtS, ↓gListF, ↓gTupA, ↓sNotV, ↓sLst, ↓sAsg, ↓wipeE, List.map_cons, List.map_nil, ↓g2I, keepAll, List.length_map, ↓gInt1, ↓gAbs, rng_len']
  exact ⟨l, rfl, h1, h3, r, rfl, h2, h4, (by show 2 ≤ sizeLine; decide), fun _ => hq⟩

/-! ### what the rules work on -/
def Go (f : Fm) : Prop := f.over nms = true ∧ f.ht ≤ 8
theorem nms_ok : ∀ n ∈ nms, PyData.strOk n = true := by decide +kernel
theorem Go.lay {f : Fm} (h : Go f) : f.d.canLay0 = true := Fm.lay nms_ok f h.1
theorem Go.ok1 {f : Fm} (h : Go f) : Ok1 f := ⟨h.lay, Nat.le_trans h.2 (by decide)⟩
theorem Go.okE {f : Fm} (h : Go f) : OkE f := ⟨h.lay, Nat.le_trans h.2 (by decide)⟩
theorem Go.okK {f : Fm} (h : Go f) : OkK f := ⟨h.lay, h.2⟩
theorem Go.sh {f : Fm} (h : Go f) : SeqAt.shaped f.d = true := h.ok1.sh
def Fm.tg : Fm → Str
  | .var _ => "var"
  | .fal => "falsum"
  | .and _ _ => "and"
  | .or _ _ => "or"
  | .imp _ _ => "implies"
  | .box _ => "box"
def Fm.ps : Fm → List Fm
  | .and a b => [a, b]
  | .or a b => [a, b]
  | .imp a b => [a, b]
  | .box a => [a]
  | _ => []
theorem go_ps {f g : Fm} (h : Go f) (m : g ∈ Fm.ps f) : Go g := by
  obtain ⟨h1, h2⟩ := h
  cases f with
  | var n => cases m
  | fal => cases m
  | box a =>
    have h2 : a.ht + 1 ≤ 8 := h2
    rw [List.mem_singleton.mp m]
    exact ⟨h1, by omega⟩
  | and a b =>
    have h1 : (a.over nms && b.over nms) = true := h1
    have h2 : max a.ht b.ht + 1 ≤ 8 := h2
    rw [Bool.and_eq_true] at h1
    rcases List.mem_cons.mp m with e | m
    · rw [e]; exact ⟨h1.1, by omega⟩
    · rw [List.mem_singleton.mp m]; exact ⟨h1.2, by omega⟩
  | or a b =>
    have h1 : (a.over nms && b.over nms) = true := h1
    have h2 : max a.ht b.ht + 1 ≤ 8 := h2
    rw [Bool.and_eq_true] at h1
    rcases List.mem_cons.mp m with e | m
    · rw [e]; exact ⟨h1.1, by omega⟩
    · rw [List.mem_singleton.mp m]; exact ⟨h1.2, by omega⟩
  | imp a b =>
    have h1 : (a.over nms && b.over nms) = true := h1
    have h2 : max a.ht b.ht + 1 ≤ 8 := h2
    rw [Bool.and_eq_true] at h1
    rcases List.mem_cons.mp m with e | m
    · rw [e]; exact ⟨h1.1, by omega⟩
    · rw [List.mem_singleton.mp m]; exact ⟨h1.2, by omega⟩
theorem ps_len (f : Fm) : (Fm.ps f).length ≤ 2 := by
  cases f <;> first | exact Nat.zero_le _ | exact Nat.le_refl _ | exact Nat.le_succ _
/-- a side of a sequent -/
structure Sd (l : List Fm) : Prop where
  asc : Asc l
  go : ∀ f ∈ l, Go f
  len : l.length ≤ 200
def mD : Option Fm → D
  | none => .non
  | some f => fD f
abbrev Sq := List Fm × List Fm
def sqD (s : Sq) : D := .tup [.tup (s.1.map fD), .tup (s.2.map fD)]
def ad (l fs : List Fm) : List Fm := dist (l ++ fs)
def partsOf (sg : Str) (m : Option Fm) (side : List Fm) : Option (List Fm) := match m with
  | none => none
  | some f => if Fm.tg f = sg ∧ f ∈ side then some (Fm.ps f) else none
theorem valKs_app : ∀ (xs : List D) (rs : List Rs) (k : List D → Prop), valKs (xs.map Rs.v ++ rs) k = valKs rs fun ds => k (xs ++ ds)
  | [], _, _ => rfl
  | x :: xs, rs, k => valKs_app xs rs fun ds => k (x :: ds)
def φAdded : GL := fun ds q => ∃ l fs : List Fm, (ds = [.tup (l.map fD), .tup (fs.map fD)] ∨ ds = [.tup (l.map fD), .lst (fs.map fD)]) ∧ (∀ f ∈ l, Go f) ∧ (∀ f ∈ fs, Go f) ∧ l.length ≤ 200 ∧ fs.length ≤ 200 ∧ q (.tup ((ad l fs).map fD))
theorem ok_added (T : Top w K mg) : FnOk P w K mg base CX0 2 T.f_added T.d_added ["side", "formulas"] (spD K TT φAdded) := by
  have G_distinct := ok_distinct (P := P) (w := w) (base := base) (TT := TT) T
  refine okD TT T.F_added sc_added (fun ds q ⟨_, _, e, _⟩ => by rcases e with e | e <;> rw [e] <;> rfl) fun cdv A outer s H E κ hr hT ds q ⟨l, fs, e, h1, h2, h3, h4, hq⟩ => ?_
  subst hT
  refine ⟨_, (dss_one (ds_ret (dx_callTy ca_tuple call_tuple_of (by rfl) T.z_tuple (by decide +kernel) (da_cons (dx_call G_distinct (hr.mono (by omega)) (by rfl) T.m_distinct T.F_distinct.kp T.b_distinct pass0 (da_cons (dx_fx (fx_lst (da_star (dv 0) (da_star (dv 1) da_nil)))) da_nil)) da_nil)))), ?_⟩
  have ok : ∀ f ∈ l ++ fs, Ok1 f := fun f m => by
    rcases List.mem_append.mp m with m | m
    · exact (h1 f m).ok1
    · exact (h2 f m).ok1
  have hl : (l ++ fs).length ≤ 100000 := by rw [List.length_append]; omega
  rcases e with e | e <;> subst e
  · rw [show startE ["side", "formulas"] [D.tup (l.map fD), D.tup (fs.map fD)] = [.val (.tup (l.map fD)), .val (.tup (fs.map fD))] from rfl]
    simp only [↓gTp, ↓gCn, ↓gN, ↓gNl, ↓sSeq, ↓sIf, ↓sDrop, ↓sMut, ↓isLs, ↓mutK, ↓gAppend, ↓sSetM, ↓sSet, ↓sC, ↓sVar, ↓sTup, ↓sLst, ↓sFx, ↓sCons, ↓sNil, ↓sOp, ↓sUn, ↓sTst, ↓sTru, ↓sAnd, ↓sOr, ↓sNot, ↓sIfS, ↓sAndV, ↓sOrV, ↓sCB, ↓gLen, ↓sGet1, ↓sGet2, ↓toKey, ↓sRet, ↓sRetN, ↓sCall, ↓sNext, ↓gInt, ↓gCmp, ↓gEqB, ↓gIx, ↓gIsN, ↓isNonD, ↓truD, ↓gNegI, ↓sFor, ↓sLc, ↓sSlL, ↓sSlT, ↓sNoP, ↓sPart, ↓iRv, ↓lstK, ↓iA, ↓iE, ↓iZ, ↓iR1, ↓iR2, ↓valK, ↓valKs, ↓resK, ↓resKs, ↓slK, ↓List.getElem?_cons_succ, ↓List.getElem?_cons_zero, ↓List.set, ↓reduceIte, Bool.not_false, Bool.not_true, Bool.false_eq_true, id, Rs.v.injEq, D.bl.injEq, D.int.injEq, exists_eq_left', true_and, and_true, fD, str_dec, String.reduceEq, decide_false, decide_true, atI_0, atI_1, atI_2, Option.some.injEq, List.length_cons, List.length_nil, ↓sRetV, ↓gAdd, ↓sStarA, ↓gTin, ↓gTnin, ↓gTix, ↓sCallX, ↓sRaise, ↓sRaise1, ↓sTry, ↓gIsE, ↓sCallW, ↓sCF, ↓sCallO, ↓sSetO, ↓sSetIx, ↓setK, ↓sCat, ↓gIsi, ↓tyN, ↓gIsA, ↓gInsert, ↓gPool, ↓isIl, ↓isPl, ↓sSrtS, ↓gListF, ↓gTupA, ↓sNotV, ↓sLst, ↓sAsg, ↓wipeE, List.map_cons, List.map_nil, ↓g2I, keepAll, List.length_map, ↓gInt1, ↓gAbs, rng_len']
    exact ⟨_, .inr rfl, _, .inr rfl, by rw [valKs_app, valKs_app]; exact ⟨by rw [sizeLine_eq, List.length_append, List.length_append, List.length_map, List.length_map]; simp; omega, l ++ fs, by rw [List.append_nil, List.map_append], ok, hl, fun _ => hq⟩⟩
  · rw [show startE ["side", "formulas"] [D.tup (l.map fD), D.lst (fs.map fD)] = [.val (.tup (l.map fD)), .val (.lst (fs.map fD))] from rfl]
    simp only [↓gTp, ↓gCn, ↓gN, ↓gNl, ↓sSeq, ↓sIf, ↓sDrop, ↓sMut, ↓isLs, ↓mutK, ↓gAppend, ↓sSetM, ↓sSet, ↓sC, ↓sVar, ↓sTup, ↓sLst, ↓sFx, ↓sCons, ↓sNil, ↓sOp, ↓sUn, ↓sTst, ↓sTru, ↓sAnd, ↓sOr, ↓sNot, ↓sIfS, ↓sAndV, ↓sOrV, ↓sCB, ↓gLen, ↓sGet1, ↓sGet2, ↓toKey, ↓sRet, ↓sRetN, ↓sCall, ↓sNext, ↓gInt, ↓gCmp, ↓gEqB, ↓gIx, ↓gIsN, ↓isNonD, ↓truD, ↓gNegI, ↓sFor, ↓sLc, ↓sSlL, ↓sSlT, ↓sNoP, ↓sPart, ↓iRv, ↓lstK, ↓iA, ↓iE, ↓iZ, ↓iR1, ↓iR2, ↓valK, ↓valKs, ↓resK, ↓resKs, ↓slK, ↓List.getElem?_cons_succ, ↓List.getElem?_cons_zero, ↓List.set, ↓reduceIte, Bool.not_false, Bool.not_true, Bool.false_eq_true, id, Rs.v.injEq, D.bl.injEq, D.int.injEq, exists_eq_left', true_and, and_true, fD, str_dec, String.reduceEq, decide_false, decide_true, atI_0, atI_1, atI_2, Option.some.injEq, List.length_cons, List.length_nil, ↓sRetV, ↓gAdd, ↓sStarA, ↓gTin, ↓gTnin, ↓gTix, ↓sCallX, ↓sRaise, ↓sRaise1, ↓sTry, ↓gIsE, ↓sCallW, ↓sCF, ↓sCallO, ↓sSetO, ↓sSetIx, ↓setK, ↓sCat, ↓gIsi, ↓tyN, ↓gIsA, ↓gInsert, ↓gPool, ↓isIl, ↓isPl, ↓sSrtS, ↓gListF, ↓gTupA, ↓sNotV, ↓sLst, ↓sAsg, ↓wipeE, List.map_cons, List.map_nil, ↓g2I, keepAll, List.length_map, ↓gInt1, ↓gAbs, rng_len']
    exact ⟨_, .inr rfl, _, .inl rfl, by rw [valKs_app, valKs_app]; exact ⟨by rw [sizeLine_eq, List.length_append, List.length_append, List.length_map, List.length_map]; simp; omega, l ++ fs, by rw [List.append_nil, List.map_append], ok, hl, fun _ => hq⟩⟩
theorem iteD' {c : Bool} {A B : Prop} (h1 : c = true → A) (h2 : ¬ c = true → B) : if c = true then A else B := by
  by_cases h : c = true
  · rw [if_pos h]; exact h1 h
  · rw [if_neg h]; exact h2 h
/-! ### the main formula -/
theorem fD_tup (f : Fm) : ∃ t, fD f = .tup (.str (Fm.tg f) :: t) ∧ (Fm.tg f ∈ (["and", "or", "implies", "box"] : List Str) → t = (Fm.ps f).map fD) ∧ cutD (.str (Fm.tg f) :: t) (some 1) none = t ∧ t.length ≤ 2 := by
  cases f <;> refine ⟨_, rfl, fun h => ?_, rfl, by simp⟩ <;> first | rfl | exact absurd (show ("var" : Str) ∈ (["and", "or", "implies", "box"] : List Str) from h) (by decide +kernel) | exact absurd h (by decide +kernel)
def φNoMain (C : Addr) : GX := fun ds q x => ∃ m : Option Fm, ds = [mD m] ∧ (m = none → q .non) ∧ (∀ f, m = some f → x C)
theorem ok_check_no_main (T : Top w K mg) : FnOk P w K mg base (L2.CX P w) 1 T.f_check_no_main T.d_check_no_main ["main"] (spX K TT (φNoMain T.c_NoFit)) := by
  refine okX TT T.F_check_no_main sc_check_no_main (fun ds q x ⟨_, e, _⟩ => by rw [e]; rfl) fun cdv A outer s H E κ hr hT ds q x ⟨m, e, hq, hx⟩ hX => ?_
  subst e
  subst hT
  refine ⟨_, (dss_one (ds_if (dt_cmp op_notN1 oa_notN (dv 0) dx_non (nomark _))
      (dss_one (ds_raiseX rfl (takes_of rfl rfl rfl rfl) hX PySem.F.excBase_ValueError T.x_NoFit T.g_NoFit T.k_NoFit (raises_own T.b_NoFit T.t_NoFit) rfl))
      dss_nil)), ?_⟩
  rw [show startE ["main"] [mD m] = [.val (mD m)] from rfl]
  cases m with
  | none =>
    rw [show mD none = .non from rfl]
    simp only [↓gTp, ↓gCn, ↓gN, ↓gNl, ↓sSeq, ↓sIf, ↓sDrop, ↓sMut, ↓isLs, ↓mutK, ↓gAppend, ↓sSetM, ↓sSet, ↓sC, ↓sVar, ↓sTup, ↓sLst, ↓sFx, ↓sCons, ↓sNil, ↓sOp, ↓sUn, ↓sTst, ↓sTru, ↓sAnd, ↓sOr, ↓sNot, ↓sIfS, ↓sAndV, ↓sOrV, ↓sCB, ↓gLen, ↓sGet1, ↓sGet2, ↓toKey, ↓sRet, ↓sRetN, ↓sCall, ↓sNext, ↓gInt, ↓gCmp, ↓gEqB, ↓gIx, ↓gIsN, ↓isNonD, ↓truD, ↓gNegI, ↓sFor, ↓sLc, ↓sSlL, ↓sSlT, ↓sNoP, ↓sPart, ↓iRv, ↓lstK, ↓iA, ↓iE, ↓iZ, ↓iR1, ↓iR2, ↓valK, ↓valKs, ↓resK, ↓resKs, ↓slK, ↓List.getElem?_cons_succ, ↓List.getElem?_cons_zero, ↓List.set, ↓reduceIte, Bool.not_false, Bool.not_true, Bool.false_eq_true, id, Rs.v.injEq, D.bl.injEq, D.int.injEq, exists_eq_left', true_and, and_true, fD, str_dec, String.reduceEq, decide_false, decide_true, atI_0, atI_1, atI_2, Option.some.injEq, List.length_cons, List.length_nil, ↓sRetV, ↓gAdd, ↓sStarA, ↓gTin, ↓gTnin, ↓gTix, ↓sCallX, ↓sRaise, ↓sRaise1, ↓sTry, ↓gIsE, ↓sCallW, ↓sCF, ↓sCallO, ↓sSetO, ↓sSetIx, ↓setK, ↓sCat, ↓gIsi, ↓tyN, ↓gIsA, ↓gInsert, ↓gPool, ↓isIl, ↓isPl, ↓sSrtS, ↓gListF, ↓gTupA, ↓sNotV, ↓sLst, ↓sAsg, ↓wipeE, List.map_cons, List.map_nil, ↓g2I, keepAll, List.length_map, ↓gInt1, ↓gAbs, rng_len']
    exact hq rfl
  | some f =>
    obtain ⟨t, ht, _⟩ := fD_tup f
    rw [show mD (some f) = fD f from rfl, ht]
    simp only [↓gTp, ↓gCn, ↓gN, ↓gNl, ↓sSeq, ↓sIf, ↓sDrop, ↓sMut, ↓isLs, ↓mutK, ↓gAppend, ↓sSetM, ↓sSet, ↓sC, ↓sVar, ↓sTup, ↓sLst, ↓sFx, ↓sCons, ↓sNil, ↓sOp, ↓sUn, ↓sTst, ↓sTru, ↓sAnd, ↓sOr, ↓sNot, ↓sIfS, ↓sAndV, ↓sOrV, ↓sCB, ↓gLen, ↓sGet1, ↓sGet2, ↓toKey, ↓sRet, ↓sRetN, ↓sCall, ↓sNext, ↓gInt, ↓gCmp, ↓gEqB, ↓gIx, ↓gIsN, ↓isNonD, ↓truD, ↓gNegI, ↓sFor, ↓sLc, ↓sSlL, ↓sSlT, ↓sNoP, ↓sPart, ↓iRv, ↓lstK, ↓iA, ↓iE, ↓iZ, ↓iR1, ↓iR2, ↓valK, ↓valKs, ↓resK, ↓resKs, ↓slK, ↓List.getElem?_cons_succ, ↓List.getElem?_cons_zero, ↓List.set, ↓reduceIte, Bool.not_false, Bool.not_true, Bool.false_eq_true, id, Rs.v.injEq, D.bl.injEq, D.int.injEq, exists_eq_left', true_and, and_true, fD, str_dec, String.reduceEq, decide_false, decide_true, atI_0, atI_1, atI_2, Option.some.injEq, List.length_cons, List.length_nil, ↓sRetV, ↓gAdd, ↓sStarA, ↓gTin, ↓gTnin, ↓gTix, ↓sCallX, ↓sRaise, ↓sRaise1, ↓sTry, ↓gIsE, ↓sCallW, ↓sCF, ↓sCallO, ↓sSetO, ↓sSetIx, ↓setK, ↓sCat, ↓gIsi, ↓tyN, ↓gIsA, ↓gInsert, ↓gPool, ↓isIl, ↓isPl, ↓sSrtS, ↓gListF, ↓gTupA, ↓sNotV, ↓sLst, ↓sAsg, ↓wipeE, List.map_cons, List.map_nil, ↓g2I, keepAll, List.length_map, ↓gInt1, ↓gAbs, rng_len']
    exact hx f rfl
def φParts (C : Addr) : GX := fun ds q x => ∃ (sg : Str) (m : Option Fm) (l : List Fm), ds = [.str sg, mD m, .tup (l.map fD)] ∧ sg ∈ (["and", "or", "implies", "box"] : List Str) ∧ Sd l ∧ (∀ f, m = some f → Go f) ∧ (∀ ps, partsOf sg m l = some ps → q (.tup (ps.map fD))) ∧ (partsOf sg m l = none → x C)
theorem ok_parts (T : Top w K mg) : FnOk P w K mg base (L2.CX P w) 3 T.f_parts T.d_parts ["sign", "main", "side"] (spX K TT (φParts T.c_NoFit)) := by
  have G_contains := ok_contains (P := P) (w := w) (base := base) (TT := TT) T
  refine okX TT T.F_parts sc_parts (fun ds q x ⟨_, _, _, e, _⟩ => by rw [e]; rfl) fun cdv A outer s H E κ hr hT ds q x ⟨sg, m, l, e, hs, sl, hm, hq, hx⟩ hX => ?_
  subst e
  subst hT
  have hu64 := hr.units
  refine ⟨_, (dss_cons (ds_if (PW.pt (dw_or (dt_cmp op_isN1 oa_isN (dv 1) dx_non (nomark _)) (dw_or (dt_cmp (op_neA hu64) oa_ne (dx_ix ix_seq oa_ix (dv 1) dx_int (fun _ _ => rfl)) (dv 0) (nomark _)) (dw_or1 (dt_not (dt_truth (dx_call G_contains (hr.mono (by omega)) (by rfl) T.m_contains T.F_contains.kp T.b_contains pass0 (da_cons (dv 2) (da_cons (dv 1) da_nil))) (fun _ => rfl)))))))
      (dss_one (ds_raiseX rfl (takes_of rfl rfl rfl rfl) hX PySem.F.excBase_ValueError T.x_NoFit T.g_NoFit T.k_NoFit (raises_own T.b_NoFit T.t_NoFit) rfl))
      dss_nil)
    (dss_one (ds_ret (dx_slT (dv 1) (do_some dx_int) do_none)))), ?_⟩
  rw [show startE ["sign", "main", "side"] [D.str sg, mD m, D.tup (l.map fD)] = [.val (.str sg), .val (mD m), .val (.tup (l.map fD))] from rfl]
  cases m with
  | none =>
    rw [show mD none = .non from rfl]
    simp only [↓gTp, ↓gCn, ↓gN, ↓gNl, ↓sSeq, ↓sIf, ↓sDrop, ↓sMut, ↓isLs, ↓mutK, ↓gAppend, ↓sSetM, ↓sSet, ↓sC, ↓sVar, ↓sTup, ↓sLst, ↓sFx, ↓sCons, ↓sNil, ↓sOp, ↓sUn, ↓sTst, ↓sTru, ↓sAnd, ↓sOr, ↓sNot, ↓sIfS, ↓sAndV, ↓sOrV, ↓sCB, ↓gLen, ↓sGet1, ↓sGet2, ↓toKey, ↓sRet, ↓sRetN, ↓sCall, ↓sNext, ↓gInt, ↓gCmp, ↓gEqB, ↓gIx, ↓gIsN, ↓isNonD, ↓truD, ↓gNegI, ↓sFor, ↓sLc, ↓sSlL, ↓sSlT, ↓sNoP, ↓sPart, ↓iRv, ↓lstK, ↓iA, ↓iE, ↓iZ, ↓iR1, ↓iR2, ↓valK, ↓valKs, ↓resK, ↓resKs, ↓slK, ↓List.getElem?_cons_succ, ↓List.getElem?_cons_zero, ↓List.set, ↓reduceIte, Bool.not_false, Bool.not_true, Bool.false_eq_true, id, Rs.v.injEq, D.bl.injEq, D.int.injEq, exists_eq_left', true_and, and_true, fD, str_dec, String.reduceEq, decide_false, decide_true, atI_0, atI_1, atI_2, Option.some.injEq, List.length_cons, List.length_nil, ↓sRetV, ↓gAdd, ↓sStarA, ↓gTin, ↓gTnin, ↓gTix, ↓sCallX, ↓sRaise, ↓sRaise1, ↓sTry, ↓gIsE, ↓sCallW, ↓sCF, ↓sCallO, ↓sSetO, ↓sSetIx, ↓setK, ↓sCat, ↓gIsi, ↓tyN, ↓gIsA, ↓gInsert, ↓gPool, ↓isIl, ↓isPl, ↓sSrtS, ↓gListF, ↓gTupA, ↓sNotV, ↓sLst, ↓sAsg, ↓wipeE, List.map_cons, List.map_nil, ↓g2I, keepAll, List.length_map, ↓gInt1, ↓gAbs, rng_len']
    exact hx rfl
  | some f =>
    obtain ⟨t, ht, h1, h2, h3⟩ := fD_tup f
    have gf := hm f rfl
    rw [show mD (some f) = fD f from rfl, ht]
    simp only [↓gTp, ↓gCn, ↓gN, ↓gNl, ↓sSeq, ↓sIf, ↓sDrop, ↓sMut, ↓isLs, ↓mutK, ↓gAppend, ↓sSetM, ↓sSet, ↓sC, ↓sVar, ↓sTup, ↓sLst, ↓sFx, ↓sCons, ↓sNil, ↓sOp, ↓sUn, ↓sTst, ↓sTru, ↓sAnd, ↓sOr, ↓sNot, ↓sIfS, ↓sAndV, ↓sOrV, ↓sCB, ↓gLen, ↓sGet1, ↓sGet2, ↓toKey, ↓sRet, ↓sRetN, ↓sCall, ↓sNext, ↓gInt, ↓gCmp, ↓gEqB, ↓gIx, ↓gIsN, ↓isNonD, ↓truD, ↓gNegI, ↓sFor, ↓sLc, ↓sSlL, ↓sSlT, ↓sNoP, ↓sPart, ↓iRv, ↓lstK, ↓iA, ↓iE, ↓iZ, ↓iR1, ↓iR2, ↓valK, ↓valKs, ↓resK, ↓resKs, ↓slK, ↓List.getElem?_cons_succ, ↓List.getElem?_cons_zero, ↓List.set, ↓reduceIte, Bool.not_false, Bool.not_true, Bool.false_eq_true, id, Rs.v.injEq, D.bl.injEq, D.int.injEq, exists_eq_left', true_and, and_true, fD, str_dec, String.reduceEq, decide_false, decide_true, atI_0, atI_1, atI_2, Option.some.injEq, List.length_cons, List.length_nil, ↓sRetV, ↓gAdd, ↓sStarA, ↓gTin, ↓gTnin, ↓gTix, ↓sCallX, ↓sRaise, ↓sRaise1, ↓sTry, ↓gIsE, ↓sCallW, ↓sCF, ↓sCallO, ↓sSetO, ↓sSetIx, ↓setK, ↓sCat, ↓gIsi, ↓tyN, ↓gIsA, ↓gInsert, ↓gPool, ↓isIl, ↓isPl, ↓sSrtS, ↓gListF, ↓gTupA, ↓sNotV, ↓sLst, ↓sAsg, ↓wipeE, List.map_cons, List.map_nil, ↓g2I, keepAll, List.length_map, ↓gInt1, ↓gAbs, rng_len']
    refine iteD' (fun h => hx (if_neg fun h' => ?_)) (fun h => ?_)
    · rw [decide_eq_true h'.1] at h
      cases h
    have hsg : Fm.tg f = sg := by simpa using h
    refine ⟨l, f, by rw [ht], Nat.le_trans sl.len (by decide), sl.asc, fun g hg => (sl.go g hg).okE, gf.okE, iteD' (fun h => hx (if_neg fun h' => ?_)) (fun h => ?_)⟩
    · rw [decide_eq_true h'.2] at h
      cases h
    · have hin : f ∈ l := by simpa using h
      intro _
      rw [h2, h1 (by rw [hsg]; exact hs)]
      exact hq _ (if_pos ⟨hsg, hin⟩)

/-! ### is_plain, over data -/
theorem over_subs {N : List Str} : ∀ (f : Fm), f.over N = true → ∀ g ∈ f.subs, g.over N = true ∧ g.ht ≤ f.ht
  | .var n, h, g, m => by rw [List.mem_singleton.mp m]; exact ⟨h, Nat.le_refl _⟩
  | .fal, h, g, m => by rw [List.mem_singleton.mp m]; exact ⟨h, Nat.le_refl _⟩
  | .box a, h, g, m => by
    rcases List.mem_cons.mp m with e | m
    · rw [e]; exact ⟨h, Nat.le_refl _⟩
    · have := over_subs a h g m
      exact ⟨this.1, Nat.le_succ_of_le this.2⟩
  | .and a b, h, g, m => by
    have h' : (a.over N && b.over N) = true := h
    rw [Bool.and_eq_true] at h'
    rcases List.mem_cons.mp m with e | m
    · rw [e]; exact ⟨h, Nat.le_refl _⟩
    · show _ ∧ g.ht ≤ max a.ht b.ht + 1
      rcases List.mem_append.mp m with m | m
      · have := over_subs a h'.1 g m
        exact ⟨this.1, by omega⟩
      · have := over_subs b h'.2 g m
        exact ⟨this.1, by omega⟩
  | .or a b, h, g, m => by
    have h' : (a.over N && b.over N) = true := h
    rw [Bool.and_eq_true] at h'
    rcases List.mem_cons.mp m with e | m
    · rw [e]; exact ⟨h, Nat.le_refl _⟩
    · show _ ∧ g.ht ≤ max a.ht b.ht + 1
      rcases List.mem_append.mp m with m | m
      · have := over_subs a h'.1 g m
        exact ⟨this.1, by omega⟩
      · have := over_subs b h'.2 g m
        exact ⟨this.1, by omega⟩
  | .imp a b, h, g, m => by
    have h' : (a.over N && b.over N) = true := h
    rw [Bool.and_eq_true] at h'
    rcases List.mem_cons.mp m with e | m
    · rw [e]; exact ⟨h, Nat.le_refl _⟩
    · show _ ∧ g.ht ≤ max a.ht b.ht + 1
      rcases List.mem_append.mp m with m | m
      · have := over_subs a h'.1 g m
        exact ⟨this.1, by omega⟩
      · have := over_subs b h'.2 g m
        exact ⟨this.1, by omega⟩
theorem sz_le : ∀ f : Fm, f.sz + 1 ≤ 2 ^ f.ht
  | .var _ => Nat.le_refl _
  | .fal => Nat.le_refl _
  | .box a => by
    have h := sz_le a
    show a.sz + 1 + 1 ≤ 2 ^ (a.ht + 1)
    rw [Nat.pow_succ]
    have := a.ht_pos
    have : 2 ^ 1 ≤ 2 ^ a.ht := Nat.pow_le_pow_right (by decide) this
    omega
  | .and a b => by
    have h1 := sz_le a
    have h2 := sz_le b
    show a.sz + b.sz + 1 + 1 ≤ 2 ^ (max a.ht b.ht + 1)
    have h3 : 2 ^ a.ht ≤ 2 ^ max a.ht b.ht := Nat.pow_le_pow_right (by decide) (Nat.le_max_left _ _)
    have h4 : 2 ^ b.ht ≤ 2 ^ max a.ht b.ht := Nat.pow_le_pow_right (by decide) (Nat.le_max_right _ _)
    rw [Nat.pow_succ]
    omega
  | .or a b => by
    have h1 := sz_le a
    have h2 := sz_le b
    show a.sz + b.sz + 1 + 1 ≤ 2 ^ (max a.ht b.ht + 1)
    have h3 : 2 ^ a.ht ≤ 2 ^ max a.ht b.ht := Nat.pow_le_pow_right (by decide) (Nat.le_max_left _ _)
    have h4 : 2 ^ b.ht ≤ 2 ^ max a.ht b.ht := Nat.pow_le_pow_right (by decide) (Nat.le_max_right _ _)
    rw [Nat.pow_succ]
    omega
  | .imp a b => by
    have h1 := sz_le a
    have h2 := sz_le b
    show a.sz + b.sz + 1 + 1 ≤ 2 ^ (max a.ht b.ht + 1)
    have h3 : 2 ^ a.ht ≤ 2 ^ max a.ht b.ht := Nat.pow_le_pow_right (by decide) (Nat.le_max_left _ _)
    have h4 : 2 ^ b.ht ≤ 2 ^ max a.ht b.ht := Nat.pow_le_pow_right (by decide) (Nat.le_max_right _ _)
    rw [Nat.pow_succ]
    omega
def gPlain : List Rs → En → DQ → Prop := fun rs ρ Q => ∃ f : Fm, rs = [.v (fD f)] ∧ f.over nms = true ∧ f.ht ≤ 8 ∧ Q (.v (.bl f.plain)) ρ
theorem c_plain {κ : Ktx} {E : XK} : ∀ σ H ρ vs rs (Q : DQ) (Q' : VK), Rep K κ ρ σ H → ZRA K H vs rs → gPlain rs ρ Q → (∀ v H', pD K κ σ H ρ Q v H' → Q' v H') → spPlain K vs H Q' E := by
  intro σ H ρ vs rs Q Q' R z ⟨f, e, ho, hh, hq⟩ k
  subst e
  cases z with
  | cons z1 z =>
    cases z
    refine ⟨_, f, rfl, im_z f z1, fun g hg => ?_, ?_, fun H' sm => ?_⟩
    · have := over_subs f ho g hg
      exact ⟨Fm.lay nms_ok g this.1, Nat.le_trans this.2 (Nat.le_trans hh (by decide))⟩
    · have h := sz_le f
      have : 2 ^ f.ht ≤ 2 ^ 8 := Nat.pow_le_pow_right (by decide) hh
      omega
    · exact k _ _ ⟨.v (.bl f.plain), ρ, R.step sm, .bl _, Fr.same sm, Sub.refl _, hq⟩

/-! ### the logical rules -/
theorem parts_some {sg : Str} {m : Option Fm} {l ps : List Fm} (h : partsOf sg m l = some ps) : ∃ f, m = some f ∧ Fm.tg f = sg ∧ f ∈ l ∧ ps = Fm.ps f := by
  cases m with
  | none => cases h
  | some f =>
    have h : (if Fm.tg f = sg ∧ f ∈ l then some (Fm.ps f) else none) = some ps := h
    by_cases c : Fm.tg f = sg ∧ f ∈ l
    · rw [if_pos c] at h
      exact ⟨f, rfl, c.1, c.2, (Option.some.inj h).symm⟩
    · rw [if_neg c] at h
      cases h
theorem two_ps {f : Fm} (h : Fm.tg f = "and" ∨ Fm.tg f = "or" ∨ Fm.tg f = "implies") : ∃ a b, Fm.ps f = [a, b] := by
  cases f with
  | var n => exact absurd (show ("var" : Str) = "and" ∨ ("var" : Str) = "or" ∨ ("var" : Str) = "implies" from h) (by decide +kernel)
  | fal => exact absurd (show ("falsum" : Str) = "and" ∨ ("falsum" : Str) = "or" ∨ ("falsum" : Str) = "implies" from h) (by decide +kernel)
  | box a => exact absurd (show ("box" : Str) = "and" ∨ ("box" : Str) = "or" ∨ ("box" : Str) = "implies" from h) (by decide +kernel)
  | _ => exact ⟨_, _, rfl⟩
theorem one_ps {f : Fm} (h : Fm.tg f = "box") : ∃ a, f = .box a := by
  cases f with
  | box a => exact ⟨a, rfl⟩
  | var n => exact absurd (show ("var" : Str) = "box" from h) (by decide +kernel)
  | fal => exact absurd (show ("falsum" : Str) = "box" from h) (by decide +kernel)
  | and a b => exact absurd (show ("and" : Str) = "box" from h) (by decide +kernel)
  | or a b => exact absurd (show ("or" : Str) = "box" from h) (by decide +kernel)
  | imp a b => exact absurd (show ("implies" : Str) = "box" from h) (by decide +kernel)
theorem go_fal : Go .fal := ⟨rfl, by decide⟩
abbrev Pr := Str → List Fm → List Fm → Option Fm → Option (List Sq)
def φRule (C : Addr) (pr : Pr) : GX := fun ds q x => ∃ (lg : Str) (l r : List Fm) (m : Option Fm), ds = [.str lg, .tup (l.map fD), .tup (r.map fD), mD m] ∧ Sd l ∧ Sd r ∧ (∀ f, m = some f → Go f) ∧ (∀ ps, pr lg l r m = some ps → q (.lst (ps.map sqD))) ∧ (pr lg l r m = none → x C)
def prAx : Pr := fun _ l r m => match m with
  | none => none
  | some f => if f ∈ l ∧ f ∈ r then some [] else none
def prFa : Pr := fun _ l _ m => if m = none ∧ Fm.fal ∈ l then some [] else none
def prAndL : Pr := fun _ l r m => (partsOf "and" m l).map fun ps => [(ad l ps, r)]
def prAndR : Pr := fun _ l r m => (partsOf "and" m r).map fun ps => ps.map fun a => (l, ad r [a])
def prOrL : Pr := fun _ l r m => (partsOf "or" m l).map fun ps => ps.map fun a => (ad l [a], r)
def prOrR : Pr := fun _ l r m => (partsOf "or" m r).map fun ps => [(l, ad r ps)]
def prImpL : Pr := fun _ l r m => (partsOf "implies" m l).map fun ps => match ps with
  | [a, b] => [(l, ad r [a]), (ad l [b], r)]
  | _ => []
def intB (lg : Str) : Bool := ([D.str "Int", .str "KC", .str "LC", .str "BD2", .str "HT", .str "Cl"] : List D).any fun y => eqF y (.str lg)
def prImpR : Pr := fun lg l r m => (partsOf "implies" m r).map fun ps => match ps with
  | [a, b] => if intB lg = true ∧ lg ≠ "Cl" then [(ad l [a], [b])] else [(ad l [a], ad r [b])]
  | _ => []
def prCut : Pr := fun lg l r m => match m with
  | none => none
  | some f => if intB lg = true ∧ f.plain = false then none else some [(l, ad r [f]), (ad l [f], r)]
section
variable {lg : Str} {l r : List Fm} {m : Option Fm}
theorem ok_axiom (T : Top w K mg) : FnOk P w K mg base (L2.CX P w) 3 T.f_axiom T.d_axiom ["logic", "left", "right", "main"] (spX K TT (φRule T.c_NoFit prAx)) := by
  have G_contains := ok_contains (P := P) (w := w) (base := base) (TT := TT) T
  refine okX TT T.F_axiom sc_axiom (fun ds q x ⟨_, _, _, _, e, _⟩ => by rw [e]; rfl) fun cdv A outer s H E κ hr hT ds q x ⟨lg, l, r, m, e, sl, sr, hm, hq, hx⟩ hX => ?_
  subst e
  subst hT
  refine ⟨_, (dss_cons (ds_if (PW.pt (dw_or (dt_cmp op_isN1 oa_isN (dv 3) dx_non (nomark _)) (dw_or (dt_not (dt_truth (dx_call G_contains (hr.mono (by omega)) (by rfl) T.m_contains T.F_contains.kp T.b_contains pass0 (da_cons (dv 1) (da_cons (dv 3) da_nil))) (fun _ => rfl))) (dw_or1 (dt_not (dt_truth (dx_call G_contains (hr.mono (by omega)) (by rfl) T.m_contains T.F_contains.kp T.b_contains pass0 (da_cons (dv 2) (da_cons (dv 3) da_nil))) (fun _ => rfl)))))))
      (dss_one (ds_raiseX rfl (takes_of rfl rfl rfl rfl) hX PySem.F.excBase_ValueError T.x_NoFit T.g_NoFit T.k_NoFit (raises_own T.b_NoFit T.t_NoFit) rfl))
      dss_nil)
    (dss_one (ds_ret (dx_fx (fx_lst da_nil))))), ?_⟩
  rw [show startE ["logic", "left", "right", "main"] [D.str lg, D.tup (l.map fD), D.tup (r.map fD), mD m] = [.val (.str lg), .val (.tup (l.map fD)), .val (.tup (r.map fD)), .val (mD m)] from rfl]
  cases m with
  | none =>
    rw [show mD none = .non from rfl]
    simp only [↓gTp, ↓gCn, ↓gN, ↓gNl, ↓sSeq, ↓sIf, ↓sDrop, ↓sMut, ↓isLs, ↓mutK, ↓gAppend, ↓sSetM, ↓sSet, ↓sC, ↓sVar, ↓sTup, ↓sLst, ↓sFx, ↓sCons, ↓sNil, ↓sOp, ↓sUn, ↓sTst, ↓sTru, ↓sAnd, ↓sOr, ↓sNot, ↓sIfS, ↓sAndV, ↓sOrV, ↓sCB, ↓gLen, ↓sGet1, ↓sGet2, ↓toKey, ↓sRet, ↓sRetN, ↓sCall, ↓sNext, ↓gInt, ↓gCmp, ↓gEqB, ↓gIx, ↓gIsN, ↓isNonD, ↓truD, ↓gNegI, ↓sFor, ↓sLc, ↓sSlL, ↓sSlT, ↓sNoP, ↓sPart, ↓iRv, ↓lstK, ↓iA, ↓iE, ↓iZ, ↓iR1, ↓iR2, ↓valK, ↓valKs, ↓resK, ↓resKs, ↓slK, ↓List.getElem?_cons_succ, ↓List.getElem?_cons_zero, ↓List.set, ↓reduceIte, Bool.not_false, Bool.not_true, Bool.false_eq_true, id, Rs.v.injEq, D.bl.injEq, D.int.injEq, exists_eq_left', true_and, and_true, fD, str_dec, String.reduceEq, decide_false, decide_true, atI_0, atI_1, atI_2, Option.some.injEq, List.length_cons, List.length_nil, ↓sRetV, ↓gAdd, ↓sStarA, ↓gTin, ↓gTnin, ↓gTix, ↓sCallX, ↓sRaise, ↓sRaise1, ↓sTry, ↓gIsE, ↓sCallW, ↓sCF, ↓sCallO, ↓sSetO, ↓sSetIx, ↓setK, ↓sCat, ↓gIsi, ↓tyN, ↓gIsA, ↓gInsert, ↓gPool, ↓isIl, ↓isPl, ↓sSrtS, ↓gListF, ↓gTupA, ↓sNotV, ↓sLst, ↓sAsg, ↓wipeE, List.map_cons, List.map_nil, ↓g2I, keepAll, List.length_map, ↓gInt1, ↓gAbs, rng_len']
    exact hx rfl
  | some f =>
    obtain ⟨t, ht, _⟩ := fD_tup f
    have gf := hm f rfl
    rw [show mD (some f) = fD f from rfl, ht]
    simp only [↓gTp, ↓gCn, ↓gN, ↓gNl, ↓sSeq, ↓sIf, ↓sDrop, ↓sMut, ↓isLs, ↓mutK, ↓gAppend, ↓sSetM, ↓sSet, ↓sC, ↓sVar, ↓sTup, ↓sLst, ↓sFx, ↓sCons, ↓sNil, ↓sOp, ↓sUn, ↓sTst, ↓sTru, ↓sAnd, ↓sOr, ↓sNot, ↓sIfS, ↓sAndV, ↓sOrV, ↓sCB, ↓gLen, ↓sGet1, ↓sGet2, ↓toKey, ↓sRet, ↓sRetN, ↓sCall, ↓sNext, ↓gInt, ↓gCmp, ↓gEqB, ↓gIx, ↓gIsN, ↓isNonD, ↓truD, ↓gNegI, ↓sFor, ↓sLc, ↓sSlL, ↓sSlT, ↓sNoP, ↓sPart, ↓iRv, ↓lstK, ↓iA, ↓iE, ↓iZ, ↓iR1, ↓iR2, ↓valK, ↓valKs, ↓resK, ↓resKs, ↓slK, ↓List.getElem?_cons_succ, ↓List.getElem?_cons_zero, ↓List.set, ↓reduceIte, Bool.not_false, Bool.not_true, Bool.false_eq_true, id, Rs.v.injEq, D.bl.injEq, D.int.injEq, exists_eq_left', true_and, and_true, fD, str_dec, String.reduceEq, decide_false, decide_true, atI_0, atI_1, atI_2, Option.some.injEq, List.length_cons, List.length_nil, ↓sRetV, ↓gAdd, ↓sStarA, ↓gTin, ↓gTnin, ↓gTix, ↓sCallX, ↓sRaise, ↓sRaise1, ↓sTry, ↓gIsE, ↓sCallW, ↓sCF, ↓sCallO, ↓sSetO, ↓sSetIx, ↓setK, ↓sCat, ↓gIsi, ↓tyN, ↓gIsA, ↓gInsert, ↓gPool, ↓isIl, ↓isPl, ↓sSrtS, ↓gListF, ↓gTupA, ↓sNotV, ↓sLst, ↓sAsg, ↓wipeE, List.map_cons, List.map_nil, ↓g2I, keepAll, List.length_map, ↓gInt1, ↓gAbs, rng_len']
    refine ⟨l, f, by rw [ht], Nat.le_trans sl.len (by decide), sl.asc, fun g hg => (sl.go g hg).okE, gf.okE, iteD' (fun h => hx (if_neg fun h' => ?_)) (fun h => ?_)⟩
    · rw [decide_eq_true h'.1] at h
      cases h
    refine ⟨r, f, by rw [ht], Nat.le_trans sr.len (by decide), sr.asc, fun g hg => (sr.go g hg).okE, gf.okE, iteD' (fun h => hx (if_neg fun h' => ?_)) (fun h2 => ?_)⟩
    · rw [decide_eq_true h'.2] at h
      cases h
    · exact ⟨Nat.zero_le _, fun _ => hq [] (if_pos ⟨by simpa using h, by simpa using h2⟩)⟩
theorem ok_falsum (T : Top w K mg) : FnOk P w K mg base (L2.CX P w) 3 T.f_falsum T.d_falsum ["logic", "left", "right", "main"] (spX K TT (φRule T.c_NoFit prFa)) := by
  have G_contains := ok_contains (P := P) (w := w) (base := base) (TT := TT) T
  have G_check_no_main := ok_check_no_main (P := P) (w := w) (base := base) (TT := TT) T
  refine okX TT T.F_falsum sc_falsum (fun ds q x ⟨_, _, _, _, e, _⟩ => by rw [e]; rfl) fun cdv A outer s H E κ hr hT ds q x ⟨lg, l, r, m, e, sl, sr, hm, hq, hx⟩ hX => ?_
  subst e
  subst hT
  refine ⟨_, (dss_cons (ds_expr (dx_callX G_check_no_main (hr.mono (by omega)) (by rfl) T.m_check_no_main T.F_check_no_main.kp T.b_check_no_main (takes_of rfl rfl rfl rfl) hX (da_cons (dv 3) da_nil)))
    (dss_cons (ds_if (dt_not (dt_truth (dx_call G_contains (hr.mono (by omega)) (by rfl) T.m_contains T.F_contains.kp T.b_contains pass0 (da_cons (dv 1) (da_cons (dx_globD (v := .ref T.a_FALSUM) (d := .tup [.str "falsum"]) (fun H => .tup (T.k_FALSUM H) (.cons (.str _) .nil) (fun y e => by cases e)) rfl T.m_FALSUM rfl) da_nil))) (fun _ => rfl)))
      (dss_one (ds_raiseX rfl (takes_of rfl rfl rfl rfl) hX PySem.F.excBase_ValueError T.x_NoFit T.g_NoFit T.k_NoFit (raises_own T.b_NoFit T.t_NoFit) rfl))
      dss_nil)
    (dss_one (ds_ret (dx_fx (fx_lst da_nil)))))), ?_⟩
  rw [show startE ["logic", "left", "right", "main"] [D.str lg, D.tup (l.map fD), D.tup (r.map fD), mD m] = [.val (.str lg), .val (.tup (l.map fD)), .val (.tup (r.map fD)), .val (mD m)] from rfl]
  simp only [↓gTp, ↓gCn, ↓gN, ↓gNl, ↓sSeq, ↓sIf, ↓sDrop, ↓sMut, ↓isLs, ↓mutK, ↓gAppend, ↓sSetM, ↓sSet, ↓sC, ↓sVar, ↓sTup, ↓sLst, ↓sFx, ↓sCons, ↓sNil, ↓sOp, ↓sUn, ↓sTst, ↓sTru, ↓sAnd, ↓sOr, ↓sNot, ↓sIfS, ↓sAndV, ↓sOrV, ↓sCB, ↓gLen, ↓sGet1, ↓sGet2, ↓toKey, ↓sRet, ↓sRetN, ↓sCall, ↓sNext, ↓gInt, ↓gCmp, ↓gEqB, ↓gIx, ↓gIsN, ↓isNonD, ↓truD, ↓gNegI, ↓sFor, ↓sLc, ↓sSlL, ↓sSlT, ↓sNoP, ↓sPart, ↓iRv, ↓lstK, ↓iA, ↓iE, ↓iZ, ↓iR1, ↓iR2, ↓valK, ↓valKs, ↓resK, ↓resKs, ↓slK, ↓List.getElem?_cons_succ, ↓List.getElem?_cons_zero, ↓List.set, ↓reduceIte, Bool.not_false, Bool.not_true, Bool.false_eq_true, id, Rs.v.injEq, D.bl.injEq, D.int.injEq, exists_eq_left', true_and, and_true, fD, str_dec, String.reduceEq, decide_false, decide_true, atI_0, atI_1, atI_2, Option.some.injEq, List.length_cons, List.length_nil, ↓sRetV, ↓gAdd, ↓sStarA, ↓gTin, ↓gTnin, ↓gTix, ↓sCallX, ↓sRaise, ↓sRaise1, ↓sTry, ↓gIsE, ↓sCallW, ↓sCF, ↓sCallO, ↓sSetO, ↓sSetIx, ↓setK, ↓sCat, ↓gIsi, ↓tyN, ↓gIsA, ↓gInsert, ↓gPool, ↓isIl, ↓isPl, ↓sSrtS, ↓gListF, ↓gTupA, ↓sNotV, ↓sLst, ↓sAsg, ↓wipeE, List.map_cons, List.map_nil, ↓g2I, keepAll, List.length_map, ↓gInt1, ↓gAbs, rng_len']
  refine ⟨m, rfl, fun hn => ?_, fun f hf => hx (if_neg fun h' => by rw [h'.1] at hf; cases hf)⟩
  refine ⟨l, .fal, rfl, Nat.le_trans sl.len (by decide), sl.asc, fun g hg => (sl.go g hg).okE, go_fal.okE, iteD' (fun h => hx (if_neg fun h' => ?_)) (fun h => ?_)⟩
  · rw [decide_eq_true h'.2] at h
    cases h
  · exact ⟨Nat.zero_le _, fun _ => hq [] (if_pos ⟨hn, by simpa using h⟩)⟩
theorem ok_and_left (T : Top w K mg) : FnOk P w K mg base (L2.CX P w) 4 T.f_and_left T.d_and_left ["logic", "left", "right", "main"] (spX K TT (φRule T.c_NoFit prAndL)) := by
  have G_added := ok_added (P := P) (w := w) (base := base) (TT := TT) T
  have G_parts := ok_parts (P := P) (w := w) (base := base) (TT := TT) T
  refine okX TT T.F_and_left sc_and_left (fun ds q x ⟨_, _, _, _, e, _⟩ => by rw [e]; rfl) fun cdv A outer s H E κ hr hT ds q x ⟨lg, l, r, m, e, sl, sr, hm, hq, hx⟩ hX => ?_
  subst e
  subst hT
  have hu64 := hr.units
  have hu65 : (A.deeper (envOfC "_and_left" (defScope s_and_left) s.heap.objs.size T.f_and_left cdv)).units + 65 < cLine := by have := hr.un; omega
  refine ⟨_, (dss_one (ds_ret (dx_fx (fx_lst (da_cons (dx_tup (da_cons (dx_call G_added (hr.mono (by omega)) (by rfl) T.m_added T.F_added.kp T.b_added pass0 (da_cons (dv 1) (da_cons (dx_callX G_parts (hr.mono (by omega)) (by rfl) T.m_parts T.F_parts.kp T.b_parts (takes_of rfl rfl rfl rfl) hX (da_cons dx_str (da_cons (dv 3) (da_cons (dv 1) da_nil)))) da_nil))) (da_cons (dv 2) da_nil))) da_nil))))), ?_⟩
  rw [show startE ["logic", "left", "right", "main"] [D.str lg, D.tup (l.map fD), D.tup (r.map fD), mD m] = [.val (.str lg), .val (.tup (l.map fD)), .val (.tup (r.map fD)), .val (mD m)] from rfl]
  simp only [↓gTp, ↓gCn, ↓gN, ↓gNl, ↓sSeq, ↓sIf, ↓sDrop, ↓sMut, ↓isLs, ↓mutK, ↓gAppend, ↓sSetM, ↓sSet, ↓sC, ↓sVar, ↓sTup, ↓sLst, ↓sFx, ↓sCons, ↓sNil, ↓sOp, ↓sUn, ↓sTst, ↓sTru, ↓sAnd, ↓sOr, ↓sNot, ↓sIfS, ↓sAndV, ↓sOrV, ↓sCB, ↓gLen, ↓sGet1, ↓sGet2, ↓toKey, ↓sRet, ↓sRetN, ↓sCall, ↓sNext, ↓gInt, ↓gCmp, ↓gEqB, ↓gIx, ↓gIsN, ↓isNonD, ↓truD, ↓gNegI, ↓sFor, ↓sLc, ↓sSlL, ↓sSlT, ↓sNoP, ↓sPart, ↓iRv, ↓lstK, ↓iA, ↓iE, ↓iZ, ↓iR1, ↓iR2, ↓valK, ↓valKs, ↓resK, ↓resKs, ↓slK, ↓List.getElem?_cons_succ, ↓List.getElem?_cons_zero, ↓List.set, ↓reduceIte, Bool.not_false, Bool.not_true, Bool.false_eq_true, id, Rs.v.injEq, D.bl.injEq, D.int.injEq, exists_eq_left', true_and, and_true, fD, str_dec, String.reduceEq, decide_false, decide_true, atI_0, atI_1, atI_2, Option.some.injEq, List.length_cons, List.length_nil, ↓sRetV, ↓gAdd, ↓sStarA, ↓gTin, ↓gTnin, ↓gTix, ↓sCallX, ↓sRaise, ↓sRaise1, ↓sTry, ↓gIsE, ↓sCallW, ↓sCF, ↓sCallO, ↓sSetO, ↓sSetIx, ↓setK, ↓sCat, ↓gIsi, ↓tyN, ↓gIsA, ↓gInsert, ↓gPool, ↓isIl, ↓isPl, ↓sSrtS, ↓gListF, ↓gTupA, ↓sNotV, ↓sLst, ↓sAsg, ↓wipeE, List.map_cons, List.map_nil, ↓g2I, keepAll, List.length_map, ↓gInt1, ↓gAbs, rng_len']
  refine ⟨"and", m, l, rfl, by simp, sl, hm, fun ps hp => ?_, fun hn => hx (by rw [prAndL, hn]; rfl)⟩
  obtain ⟨f, rfl, e1, e2, rfl⟩ := parts_some hp
  exact ⟨l, _, .inl rfl, sl.go, fun g hg => go_ps (hm f rfl) hg, sl.len, Nat.le_trans (ps_len f) (by decide), by decide, by decide, fun _ => hq [(ad l (Fm.ps f), r)] (by rw [prAndL, hp]; rfl)⟩
theorem ok_and_right (T : Top w K mg) : FnOk P w K mg base (L2.CX P w) 4 T.f_and_right T.d_and_right ["logic", "left", "right", "main"] (spX K TT (φRule T.c_NoFit prAndR)) := by
  have G_added := ok_added (P := P) (w := w) (base := base) (TT := TT) T
  have G_parts := ok_parts (P := P) (w := w) (base := base) (TT := TT) T
  refine okX TT T.F_and_right sc_and_right (fun ds q x ⟨_, _, _, _, e, _⟩ => by rw [e]; rfl) fun cdv A outer s H E κ hr hT ds q x ⟨lg, l, r, m, e, sl, sr, hm, hq, hx⟩ hX => ?_
  subst e
  subst hT
  have hu64 := hr.units
  have hu65 : (A.deeper (envOfC "_and_right" (defScope s_and_right) s.heap.objs.size T.f_and_right cdv)).units + 65 < cLine := by have := hr.un; omega
  refine ⟨_, (dss_cons (ds_asg (dx_callX G_parts (hr.mono (by omega)) (by rfl) T.m_parts T.F_parts.kp T.b_parts (takes_of rfl rfl rfl rfl) hX (da_cons dx_str (da_cons (dv 3) (da_cons (dv 2) da_nil)))) (pg_tup rfl (pgs_cons (pg_name (i := 4) sc_and_right.nd rfl (.inl rfl)) (pgs_cons (pg_name (i := 5) sc_and_right.nd rfl (.inl rfl)) pgs_nil))) (tg_tup (tgs_cons tg_name (tgs_cons tg_name tgs_nil))))
    (dss_one (ds_ret (dx_fx (fx_lst (da_cons (dx_tup (da_cons (dv 1) (da_cons (dx_call G_added (hr.mono (by omega)) (by rfl) T.m_added T.F_added.kp T.b_added pass0 (da_cons (dv 2) (da_cons (dx_fx (fx_lst (da_cons (dv 4) da_nil))) da_nil))) da_nil))) (da_cons (dx_tup (da_cons (dv 1) (da_cons (dx_call G_added (hr.mono (by omega)) (by rfl) T.m_added T.F_added.kp T.b_added pass0 (da_cons (dv 2) (da_cons (dx_fx (fx_lst (da_cons (dv 5) da_nil))) da_nil))) da_nil))) da_nil))))))), ?_⟩
  rw [show startE ["logic", "left", "right", "main", "a", "b"] [D.str lg, D.tup (l.map fD), D.tup (r.map fD), mD m] = [.val (.str lg), .val (.tup (l.map fD)), .val (.tup (r.map fD)), .val (mD m), .no, .no] from rfl]
  simp only [↓gTp, ↓gCn, ↓gN, ↓gNl, ↓sSeq, ↓sIf, ↓sDrop, ↓sMut, ↓isLs, ↓mutK, ↓gAppend, ↓sSetM, ↓sSet, ↓sC, ↓sVar, ↓sTup, ↓sLst, ↓sFx, ↓sCons, ↓sNil, ↓sOp, ↓sUn, ↓sTst, ↓sTru, ↓sAnd, ↓sOr, ↓sNot, ↓sIfS, ↓sAndV, ↓sOrV, ↓sCB, ↓gLen, ↓sGet1, ↓sGet2, ↓toKey, ↓sRet, ↓sRetN, ↓sCall, ↓sNext, ↓gInt, ↓gCmp, ↓gEqB, ↓gIx, ↓gIsN, ↓isNonD, ↓truD, ↓gNegI, ↓sFor, ↓sLc, ↓sSlL, ↓sSlT, ↓sNoP, ↓sPart, ↓iRv, ↓lstK, ↓iA, ↓iE, ↓iZ, ↓iR1, ↓iR2, ↓valK, ↓valKs, ↓resK, ↓resKs, ↓slK, ↓List.getElem?_cons_succ, ↓List.getElem?_cons_zero, ↓List.set, ↓reduceIte, Bool.not_false, Bool.not_true, Bool.false_eq_true, id, Rs.v.injEq, D.bl.injEq, D.int.injEq, exists_eq_left', true_and, and_true, fD, str_dec, String.reduceEq, decide_false, decide_true, atI_0, atI_1, atI_2, Option.some.injEq, List.length_cons, List.length_nil, ↓sRetV, ↓gAdd, ↓sStarA, ↓gTin, ↓gTnin, ↓gTix, ↓sCallX, ↓sRaise, ↓sRaise1, ↓sTry, ↓gIsE, ↓sCallW, ↓sCF, ↓sCallO, ↓sSetO, ↓sSetIx, ↓setK, ↓sCat, ↓gIsi, ↓tyN, ↓gIsA, ↓gInsert, ↓gPool, ↓isIl, ↓isPl, ↓sSrtS, ↓gListF, ↓gTupA, ↓sNotV, ↓sLst, ↓sAsg, ↓wipeE, List.map_cons, List.map_nil, ↓g2I, keepAll, List.length_map, ↓gInt1, ↓gAbs, rng_len']
  refine ⟨"and", m, r, rfl, by simp, sr, hm, fun ps hp => ?_, fun hn => hx (by rw [prAndR, hn]; rfl)⟩
  obtain ⟨f, rfl, e1, e2, rfl⟩ := parts_some hp
  obtain ⟨a, b, eab⟩ := two_ps (f := f) (.inl e1)
  have ga : Go a := go_ps (hm f rfl) (by rw [eab]; simp)
  have gb : Go b := go_ps (hm f rfl) (by rw [eab]; simp)
  rw [eab] at hp ⊢
  simp only [↓gTp, ↓gCn, ↓gN, ↓gNl, ↓sSeq, ↓sIf, ↓sDrop, ↓sMut, ↓isLs, ↓mutK, ↓gAppend, ↓sSetM, ↓sSet, ↓sC, ↓sVar, ↓sTup, ↓sLst, ↓sFx, ↓sCons, ↓sNil, ↓sOp, ↓sUn, ↓sTst, ↓sTru, ↓sAnd, ↓sOr, ↓sNot, ↓sIfS, ↓sAndV, ↓sOrV, ↓sCB, ↓gLen, ↓sGet1, ↓sGet2, ↓toKey, ↓sRet, ↓sRetN, ↓sCall, ↓sNext, ↓gInt, ↓gCmp, ↓gEqB, ↓gIx, ↓gIsN, ↓isNonD, ↓truD, ↓gNegI, ↓sFor, ↓sLc, ↓sSlL, ↓sSlT, ↓sNoP, ↓sPart, ↓iRv, ↓lstK, ↓iA, ↓iE, ↓iZ, ↓iR1, ↓iR2, ↓valK, ↓valKs, ↓resK, ↓resKs, ↓slK, ↓List.getElem?_cons_succ, ↓List.getElem?_cons_zero, ↓List.set, ↓reduceIte, Bool.not_false, Bool.not_true, Bool.false_eq_true, id, Rs.v.injEq, D.bl.injEq, D.int.injEq, exists_eq_left', true_and, and_true, fD, str_dec, String.reduceEq, decide_false, decide_true, atI_0, atI_1, atI_2, Option.some.injEq, List.length_cons, List.length_nil, ↓sRetV, ↓gAdd, ↓sStarA, ↓gTin, ↓gTnin, ↓gTix, ↓sCallX, ↓sRaise, ↓sRaise1, ↓sTry, ↓gIsE, ↓sCallW, ↓sCF, ↓sCallO, ↓sSetO, ↓sSetIx, ↓setK, ↓sCat, ↓gIsi, ↓tyN, ↓gIsA, ↓gInsert, ↓gPool, ↓isIl, ↓isPl, ↓sSrtS, ↓gListF, ↓gTupA, ↓sNotV, ↓sLst, ↓sAsg, ↓wipeE, List.map_cons, List.map_nil, ↓g2I, keepAll, List.length_map, ↓gInt1, ↓gAbs, rng_len']
  exact ⟨rfl, by decide, r, [a], .inr rfl, sr.go, fun g hg => by rw [List.mem_singleton.mp hg]; exact ga, sr.len, (by show 1 ≤ 200; decide), by decide, by decide, r, [b], .inr rfl, sr.go, fun g hg => by rw [List.mem_singleton.mp hg]; exact gb, sr.len, (by show 1 ≤ 200; decide), by decide, by decide, fun _ => hq [(l, ad r [a]), (l, ad r [b])] (by rw [prAndR, hp]; rfl)⟩
theorem ok_or_left (T : Top w K mg) : FnOk P w K mg base (L2.CX P w) 4 T.f_or_left T.d_or_left ["logic", "left", "right", "main"] (spX K TT (φRule T.c_NoFit prOrL)) := by
  have G_added := ok_added (P := P) (w := w) (base := base) (TT := TT) T
  have G_parts := ok_parts (P := P) (w := w) (base := base) (TT := TT) T
  refine okX TT T.F_or_left sc_or_left (fun ds q x ⟨_, _, _, _, e, _⟩ => by rw [e]; rfl) fun cdv A outer s H E κ hr hT ds q x ⟨lg, l, r, m, e, sl, sr, hm, hq, hx⟩ hX => ?_
  subst e
  subst hT
  have hu64 := hr.units
  have hu65 : (A.deeper (envOfC "_or_left" (defScope s_or_left) s.heap.objs.size T.f_or_left cdv)).units + 65 < cLine := by have := hr.un; omega
  refine ⟨_, (dss_cons (ds_asg (dx_callX G_parts (hr.mono (by omega)) (by rfl) T.m_parts T.F_parts.kp T.b_parts (takes_of rfl rfl rfl rfl) hX (da_cons dx_str (da_cons (dv 3) (da_cons (dv 1) da_nil)))) (pg_tup rfl (pgs_cons (pg_name (i := 4) sc_or_left.nd rfl (.inl rfl)) (pgs_cons (pg_name (i := 5) sc_or_left.nd rfl (.inl rfl)) pgs_nil))) (tg_tup (tgs_cons tg_name (tgs_cons tg_name tgs_nil))))
    (dss_one (ds_ret (dx_fx (fx_lst (da_cons (dx_tup (da_cons (dx_call G_added (hr.mono (by omega)) (by rfl) T.m_added T.F_added.kp T.b_added pass0 (da_cons (dv 1) (da_cons (dx_fx (fx_lst (da_cons (dv 4) da_nil))) da_nil))) (da_cons (dv 2) da_nil))) (da_cons (dx_tup (da_cons (dx_call G_added (hr.mono (by omega)) (by rfl) T.m_added T.F_added.kp T.b_added pass0 (da_cons (dv 1) (da_cons (dx_fx (fx_lst (da_cons (dv 5) da_nil))) da_nil))) (da_cons (dv 2) da_nil))) da_nil))))))), ?_⟩
  rw [show startE ["logic", "left", "right", "main", "a", "b"] [D.str lg, D.tup (l.map fD), D.tup (r.map fD), mD m] = [.val (.str lg), .val (.tup (l.map fD)), .val (.tup (r.map fD)), .val (mD m), .no, .no] from rfl]
  simp only [↓gTp, ↓gCn, ↓gN, ↓gNl, ↓sSeq, ↓sIf, ↓sDrop, ↓sMut, ↓isLs, ↓mutK, ↓gAppend, ↓sSetM, ↓sSet, ↓sC, ↓sVar, ↓sTup, ↓sLst, ↓sFx, ↓sCons, ↓sNil, ↓sOp, ↓sUn, ↓sTst, ↓sTru, ↓sAnd, ↓sOr, ↓sNot, ↓sIfS, ↓sAndV, ↓sOrV, ↓sCB, ↓gLen, ↓sGet1, ↓sGet2, ↓toKey, ↓sRet, ↓sRetN, ↓sCall, ↓sNext, ↓gInt, ↓gCmp, ↓gEqB, ↓gIx, ↓gIsN, ↓isNonD, ↓truD, ↓gNegI, ↓sFor, ↓sLc, ↓sSlL, ↓sSlT, ↓sNoP, ↓sPart, ↓iRv, ↓lstK, ↓iA, ↓iE, ↓iZ, ↓iR1, ↓iR2, ↓valK, ↓valKs, ↓resK, ↓resKs, ↓slK, ↓List.getElem?_cons_succ, ↓List.getElem?_cons_zero, ↓List.set, ↓reduceIte, Bool.not_false, Bool.not_true, Bool.false_eq_true, id, Rs.v.injEq, D.bl.injEq, D.int.injEq, exists_eq_left', true_and, and_true, fD, str_dec, String.reduceEq, decide_false, decide_true, atI_0, atI_1, atI_2, Option.some.injEq, List.length_cons, List.length_nil, ↓sRetV, ↓gAdd, ↓sStarA, ↓gTin, ↓gTnin, ↓gTix, ↓sCallX, ↓sRaise, ↓sRaise1, ↓sTry, ↓gIsE, ↓sCallW, ↓sCF, ↓sCallO, ↓sSetO, ↓sSetIx, ↓setK, ↓sCat, ↓gIsi, ↓tyN, ↓gIsA, ↓gInsert, ↓gPool, ↓isIl, ↓isPl, ↓sSrtS, ↓gListF, ↓gTupA, ↓sNotV, ↓sLst, ↓sAsg, ↓wipeE, List.map_cons, List.map_nil, ↓g2I, keepAll, List.length_map, ↓gInt1, ↓gAbs, rng_len']
  refine ⟨"or", m, l, rfl, by simp, sl, hm, fun ps hp => ?_, fun hn => hx (by rw [prOrL, hn]; rfl)⟩
  obtain ⟨f, rfl, e1, e2, rfl⟩ := parts_some hp
  obtain ⟨a, b, eab⟩ := two_ps (f := f) (.inr (.inl e1))
  have ga : Go a := go_ps (hm f rfl) (by rw [eab]; simp)
  have gb : Go b := go_ps (hm f rfl) (by rw [eab]; simp)
  rw [eab] at hp ⊢
  simp only [↓gTp, ↓gCn, ↓gN, ↓gNl, ↓sSeq, ↓sIf, ↓sDrop, ↓sMut, ↓isLs, ↓mutK, ↓gAppend, ↓sSetM, ↓sSet, ↓sC, ↓sVar, ↓sTup, ↓sLst, ↓sFx, ↓sCons, ↓sNil, ↓sOp, ↓sUn, ↓sTst, ↓sTru, ↓sAnd, ↓sOr, ↓sNot, ↓sIfS, ↓sAndV, ↓sOrV, ↓sCB, ↓gLen, ↓sGet1, ↓sGet2, ↓toKey, ↓sRet, ↓sRetN, ↓sCall, ↓sNext, ↓gInt, ↓gCmp, ↓gEqB, ↓gIx, ↓gIsN, ↓isNonD, ↓truD, ↓gNegI, ↓sFor, ↓sLc, ↓sSlL, ↓sSlT, ↓sNoP, ↓sPart, ↓iRv, ↓lstK, ↓iA, ↓iE, ↓iZ, ↓iR1, ↓iR2, ↓valK, ↓valKs, ↓resK, ↓resKs, ↓slK, ↓List.getElem?_cons_succ, ↓List.getElem?_cons_zero, ↓List.set, ↓reduceIte, Bool.not_false, Bool.not_true, Bool.false_eq_true, id, Rs.v.injEq, D.bl.injEq, D.int.injEq, exists_eq_left', true_and, and_true, fD, str_dec, String.reduceEq, decide_false, decide_true, atI_0, atI_1, atI_2, Option.some.injEq, List.length_cons, List.length_nil, ↓sRetV, ↓gAdd, ↓sStarA, ↓gTin, ↓gTnin, ↓gTix, ↓sCallX, ↓sRaise, ↓sRaise1, ↓sTry, ↓gIsE, ↓sCallW, ↓sCF, ↓sCallO, ↓sSetO, ↓sSetIx, ↓setK, ↓sCat, ↓gIsi, ↓tyN, ↓gIsA, ↓gInsert, ↓gPool, ↓isIl, ↓isPl, ↓sSrtS, ↓gListF, ↓gTupA, ↓sNotV, ↓sLst, ↓sAsg, ↓wipeE, List.map_cons, List.map_nil, ↓g2I, keepAll, List.length_map, ↓gInt1, ↓gAbs, rng_len']
  exact ⟨rfl, by decide, l, [a], .inr rfl, sl.go, fun g hg => by rw [List.mem_singleton.mp hg]; exact ga, sl.len, (by show 1 ≤ 200; decide), by decide, by decide, l, [b], .inr rfl, sl.go, fun g hg => by rw [List.mem_singleton.mp hg]; exact gb, sl.len, (by show 1 ≤ 200; decide), by decide, by decide, fun _ => hq [(ad l [a], r), (ad l [b], r)] (by rw [prOrL, hp]; rfl)⟩
theorem ok_or_right (T : Top w K mg) : FnOk P w K mg base (L2.CX P w) 4 T.f_or_right T.d_or_right ["logic", "left", "right", "main"] (spX K TT (φRule T.c_NoFit prOrR)) := by
  have G_added := ok_added (P := P) (w := w) (base := base) (TT := TT) T
  have G_parts := ok_parts (P := P) (w := w) (base := base) (TT := TT) T
  refine okX TT T.F_or_right sc_or_right (fun ds q x ⟨_, _, _, _, e, _⟩ => by rw [e]; rfl) fun cdv A outer s H E κ hr hT ds q x ⟨lg, l, r, m, e, sl, sr, hm, hq, hx⟩ hX => ?_
  subst e
  subst hT
  have hu64 := hr.units
  have hu65 : (A.deeper (envOfC "_or_right" (defScope s_or_right) s.heap.objs.size T.f_or_right cdv)).units + 65 < cLine := by have := hr.un; omega
  refine ⟨_, (dss_one (ds_ret (dx_fx (fx_lst (da_cons (dx_tup (da_cons (dv 1) (da_cons (dx_call G_added (hr.mono (by omega)) (by rfl) T.m_added T.F_added.kp T.b_added pass0 (da_cons (dv 2) (da_cons (dx_callX G_parts (hr.mono (by omega)) (by rfl) T.m_parts T.F_parts.kp T.b_parts (takes_of rfl rfl rfl rfl) hX (da_cons dx_str (da_cons (dv 3) (da_cons (dv 2) da_nil)))) da_nil))) da_nil))) da_nil))))), ?_⟩
  rw [show startE ["logic", "left", "right", "main"] [D.str lg, D.tup (l.map fD), D.tup (r.map fD), mD m] = [.val (.str lg), .val (.tup (l.map fD)), .val (.tup (r.map fD)), .val (mD m)] from rfl]
  simp only [↓gTp, ↓gCn, ↓gN, ↓gNl, ↓sSeq, ↓sIf, ↓sDrop, ↓sMut, ↓isLs, ↓mutK, ↓gAppend, ↓sSetM, ↓sSet, ↓sC, ↓sVar, ↓sTup, ↓sLst, ↓sFx, ↓sCons, ↓sNil, ↓sOp, ↓sUn, ↓sTst, ↓sTru, ↓sAnd, ↓sOr, ↓sNot, ↓sIfS, ↓sAndV, ↓sOrV, ↓sCB, ↓gLen, ↓sGet1, ↓sGet2, ↓toKey, ↓sRet, ↓sRetN, ↓sCall, ↓sNext, ↓gInt, ↓gCmp, ↓gEqB, ↓gIx, ↓gIsN, ↓isNonD, ↓truD, ↓gNegI, ↓sFor, ↓sLc, ↓sSlL, ↓sSlT, ↓sNoP, ↓sPart, ↓iRv, ↓lstK, ↓iA, ↓iE, ↓iZ, ↓iR1, ↓iR2, ↓valK, ↓valKs, ↓resK, ↓resKs, ↓slK, ↓List.getElem?_cons_succ, ↓List.getElem?_cons_zero, ↓List.set, ↓reduceIte, Bool.not_false, Bool.not_true, Bool.false_eq_true, id, Rs.v.injEq, D.bl.injEq, D.int.injEq, exists_eq_left', true_and, and_true, fD, str_dec, String.reduceEq, decide_false, decide_true, atI_0, atI_1, atI_2, Option.some.injEq, List.length_cons, List.length_nil, ↓sRetV, ↓gAdd, ↓sStarA, ↓gTin, ↓gTnin, ↓gTix, ↓sCallX, ↓sRaise, ↓sRaise1, ↓sTry, ↓gIsE, ↓sCallW, ↓sCF, ↓sCallO, ↓sSetO, ↓sSetIx, ↓setK, ↓sCat, ↓gIsi, ↓tyN, ↓gIsA, ↓gInsert, ↓gPool, ↓isIl, ↓isPl, ↓sSrtS, ↓gListF, ↓gTupA, ↓sNotV, ↓sLst, ↓sAsg, ↓wipeE, List.map_cons, List.map_nil, ↓g2I, keepAll, List.length_map, ↓gInt1, ↓gAbs, rng_len']
  refine ⟨"or", m, r, rfl, by simp, sr, hm, fun ps hp => ?_, fun hn => hx (by rw [prOrR, hn]; rfl)⟩
  obtain ⟨f, rfl, e1, e2, rfl⟩ := parts_some hp
  exact ⟨r, _, .inl rfl, sr.go, fun g hg => go_ps (hm f rfl) hg, sr.len, Nat.le_trans (ps_len f) (by decide), by decide, by decide, fun _ => hq [(l, ad r (Fm.ps f))] (by rw [prOrR, hp]; rfl)⟩
theorem ok_implies_left (T : Top w K mg) : FnOk P w K mg base (L2.CX P w) 4 T.f_implies_left T.d_implies_left ["logic", "left", "right", "main"] (spX K TT (φRule T.c_NoFit prImpL)) := by
  have G_added := ok_added (P := P) (w := w) (base := base) (TT := TT) T
  have G_parts := ok_parts (P := P) (w := w) (base := base) (TT := TT) T
  refine okX TT T.F_implies_left sc_implies_left (fun ds q x ⟨_, _, _, _, e, _⟩ => by rw [e]; rfl) fun cdv A outer s H E κ hr hT ds q x ⟨lg, l, r, m, e, sl, sr, hm, hq, hx⟩ hX => ?_
  subst e
  subst hT
  have hu64 := hr.units
  have hu65 : (A.deeper (envOfC "_implies_left" (defScope s_implies_left) s.heap.objs.size T.f_implies_left cdv)).units + 65 < cLine := by have := hr.un; omega
  refine ⟨_, (dss_cons (ds_asg (dx_callX G_parts (hr.mono (by omega)) (by rfl) T.m_parts T.F_parts.kp T.b_parts (takes_of rfl rfl rfl rfl) hX (da_cons dx_str (da_cons (dv 3) (da_cons (dv 1) da_nil)))) (pg_tup rfl (pgs_cons (pg_name (i := 4) sc_implies_left.nd rfl (.inl rfl)) (pgs_cons (pg_name (i := 5) sc_implies_left.nd rfl (.inl rfl)) pgs_nil))) (tg_tup (tgs_cons tg_name (tgs_cons tg_name tgs_nil))))
    (dss_one (ds_ret (dx_fx (fx_lst (da_cons (dx_tup (da_cons (dv 1) (da_cons (dx_call G_added (hr.mono (by omega)) (by rfl) T.m_added T.F_added.kp T.b_added pass0 (da_cons (dv 2) (da_cons (dx_fx (fx_lst (da_cons (dv 4) da_nil))) da_nil))) da_nil))) (da_cons (dx_tup (da_cons (dx_call G_added (hr.mono (by omega)) (by rfl) T.m_added T.F_added.kp T.b_added pass0 (da_cons (dv 1) (da_cons (dx_fx (fx_lst (da_cons (dv 5) da_nil))) da_nil))) (da_cons (dv 2) da_nil))) da_nil))))))), ?_⟩
  rw [show startE ["logic", "left", "right", "main", "a", "b"] [D.str lg, D.tup (l.map fD), D.tup (r.map fD), mD m] = [.val (.str lg), .val (.tup (l.map fD)), .val (.tup (r.map fD)), .val (mD m), .no, .no] from rfl]
  simp only [↓gTp, ↓gCn, ↓gN, ↓gNl, ↓sSeq, ↓sIf, ↓sDrop, ↓sMut, ↓isLs, ↓mutK, ↓gAppend, ↓sSetM, ↓sSet, ↓sC, ↓sVar, ↓sTup, ↓sLst, ↓sFx, ↓sCons, ↓sNil, ↓sOp, ↓sUn, ↓sTst, ↓sTru, ↓sAnd, ↓sOr, ↓sNot, ↓sIfS, ↓sAndV, ↓sOrV, ↓sCB, ↓gLen, ↓sGet1, ↓sGet2, ↓toKey, ↓sRet, ↓sRetN, ↓sCall, ↓sNext, ↓gInt, ↓gCmp, ↓gEqB, ↓gIx, ↓gIsN, ↓isNonD, ↓truD, ↓gNegI, ↓sFor, ↓sLc, ↓sSlL, ↓sSlT, ↓sNoP, ↓sPart, ↓iRv, ↓lstK, ↓iA, ↓iE, ↓iZ, ↓iR1, ↓iR2, ↓valK, ↓valKs, ↓resK, ↓resKs, ↓slK, ↓List.getElem?_cons_succ, ↓List.getElem?_cons_zero, ↓List.set, ↓reduceIte, Bool.not_false, Bool.not_true, Bool.false_eq_true, id, Rs.v.injEq, D.bl.injEq, D.int.injEq, exists_eq_left', true_and, and_true, fD, str_dec, String.reduceEq, decide_false, decide_true, atI_0, atI_1, atI_2, Option.some.injEq, List.length_cons, List.length_nil, ↓sRetV, ↓gAdd, ↓sStarA, ↓gTin, ↓gTnin, ↓gTix, ↓sCallX, ↓sRaise, ↓sRaise1, ↓sTry, ↓gIsE, ↓sCallW, ↓sCF, ↓sCallO, ↓sSetO, ↓sSetIx, ↓setK, ↓sCat, ↓gIsi, ↓tyN, ↓gIsA, ↓gInsert, ↓gPool, ↓isIl, ↓isPl, ↓sSrtS, ↓gListF, ↓gTupA, ↓sNotV, ↓sLst, ↓sAsg, ↓wipeE, List.map_cons, List.map_nil, ↓g2I, keepAll, List.length_map, ↓gInt1, ↓gAbs, rng_len']
  refine ⟨"implies", m, l, rfl, by simp, sl, hm, fun ps hp => ?_, fun hn => hx (by rw [prImpL, hn]; rfl)⟩
  obtain ⟨f, rfl, e1, e2, rfl⟩ := parts_some hp
  obtain ⟨a, b, eab⟩ := two_ps (f := f) (.inr (.inr e1))
  have ga : Go a := go_ps (hm f rfl) (by rw [eab]; simp)
  have gb : Go b := go_ps (hm f rfl) (by rw [eab]; simp)
  rw [eab] at hp ⊢
  simp only [↓gTp, ↓gCn, ↓gN, ↓gNl, ↓sSeq, ↓sIf, ↓sDrop, ↓sMut, ↓isLs, ↓mutK, ↓gAppend, ↓sSetM, ↓sSet, ↓sC, ↓sVar, ↓sTup, ↓sLst, ↓sFx, ↓sCons, ↓sNil, ↓sOp, ↓sUn, ↓sTst, ↓sTru, ↓sAnd, ↓sOr, ↓sNot, ↓sIfS, ↓sAndV, ↓sOrV, ↓sCB, ↓gLen, ↓sGet1, ↓sGet2, ↓toKey, ↓sRet, ↓sRetN, ↓sCall, ↓sNext, ↓gInt, ↓gCmp, ↓gEqB, ↓gIx, ↓gIsN, ↓isNonD, ↓truD, ↓gNegI, ↓sFor, ↓sLc, ↓sSlL, ↓sSlT, ↓sNoP, ↓sPart, ↓iRv, ↓lstK, ↓iA, ↓iE, ↓iZ, ↓iR1, ↓iR2, ↓valK, ↓valKs, ↓resK, ↓resKs, ↓slK, ↓List.getElem?_cons_succ, ↓List.getElem?_cons_zero, ↓List.set, ↓reduceIte, Bool.not_false, Bool.not_true, Bool.false_eq_true, id, Rs.v.injEq, D.bl.injEq, D.int.injEq, exists_eq_left', true_and, and_true, fD, str_dec, String.reduceEq, decide_false, decide_true, atI_0, atI_1, atI_2, Option.some.injEq, List.length_cons, List.length_nil, ↓sRetV, ↓gAdd, ↓sStarA, ↓gTin, ↓gTnin, ↓gTix, ↓sCallX, ↓sRaise, ↓sRaise1, ↓sTry, ↓gIsE, ↓sCallW, ↓sCF, ↓sCallO, ↓sSetO, ↓sSetIx, ↓setK, ↓sCat, ↓gIsi, ↓tyN, ↓gIsA, ↓gInsert, ↓gPool, ↓isIl, ↓isPl, ↓sSrtS, ↓gListF, ↓gTupA, ↓sNotV, ↓sLst, ↓sAsg, ↓wipeE, List.map_cons, List.map_nil, ↓g2I, keepAll, List.length_map, ↓gInt1, ↓gAbs, rng_len']
  exact ⟨rfl, by decide, r, [a], .inr rfl, sr.go, fun g hg => by rw [List.mem_singleton.mp hg]; exact ga, sr.len, (by show 1 ≤ 200; decide), by decide, by decide, l, [b], .inr rfl, sl.go, fun g hg => by rw [List.mem_singleton.mp hg]; exact gb, sl.len, (by show 1 ≤ 200; decide), by decide, by decide, fun _ => hq [(l, ad r [a]), (ad l [b], r)] (by rw [prImpL, hp]; rfl)⟩
theorem ok_implies_right (T : Top w K mg) : FnOk P w K mg base (L2.CX P w) 4 T.f_implies_right T.d_implies_right ["logic", "left", "right", "main"] (spX K TT (φRule T.c_NoFit prImpR)) := by
  have G_added := ok_added (P := P) (w := w) (base := base) (TT := TT) T
  have G_parts := ok_parts (P := P) (w := w) (base := base) (TT := TT) T
  refine okX TT T.F_implies_right sc_implies_right (fun ds q x ⟨_, _, _, _, e, _⟩ => by rw [e]; rfl) fun cdv A outer s H E κ hr hT ds q x ⟨lg, l, r, m, e, sl, sr, hm, hq, hx⟩ hX => ?_
  subst e
  subst hT
  have hu64 := hr.units
  have hu65 : (A.deeper (envOfC "_implies_right" (defScope s_implies_right) s.heap.objs.size T.f_implies_right cdv)).units + 65 < cLine := by have := hr.un; omega
  refine ⟨_, (dss_cons (ds_asg (dx_callX G_parts (hr.mono (by omega)) (by rfl) T.m_parts T.F_parts.kp T.b_parts (takes_of rfl rfl rfl rfl) hX (da_cons dx_str (da_cons (dv 3) (da_cons (dv 2) da_nil)))) (pg_tup rfl (pgs_cons (pg_name (i := 4) sc_implies_right.nd rfl (.inl rfl)) (pgs_cons (pg_name (i := 5) sc_implies_right.nd rfl (.inl rfl)) pgs_nil))) (tg_tup (tgs_cons tg_name (tgs_cons tg_name tgs_nil))))
    (dss_cons (ds_if (PW.pt (dw_and (dt_cmp (op_inA hu65) oa_in (dv 0) (dx_globD (v := .ref T.a_INTERMEDIATE) (d := .tup [.str "Int", .str "KC", .str "LC", .str "BD2", .str "HT", .str "Cl"]) (fun H => .tup (T.k_INTERMEDIATE H) (.cons (.str _) (.cons (.str _) (.cons (.str _) (.cons (.str _) (.cons (.str _) (.cons (.str _) .nil)))))) (fun y e => by cases e)) rfl T.m_INTERMEDIATE rfl) rfl) (dw_and1 (dt_cmp (op_neA hu64) oa_ne (dv 0) dx_str (nomark _)))))
      (dss_one (ds_ret (dx_fx (fx_lst (da_cons (dx_tup (da_cons (dx_call G_added (hr.mono (by omega)) (by rfl) T.m_added T.F_added.kp T.b_added pass0 (da_cons (dv 1) (da_cons (dx_fx (fx_lst (da_cons (dv 4) da_nil))) da_nil))) (da_cons (dx_tup (da_cons (dv 5) da_nil)) da_nil))) da_nil)))))
      dss_nil)
    (dss_one (ds_ret (dx_fx (fx_lst (da_cons (dx_tup (da_cons (dx_call G_added (hr.mono (by omega)) (by rfl) T.m_added T.F_added.kp T.b_added pass0 (da_cons (dv 1) (da_cons (dx_fx (fx_lst (da_cons (dv 4) da_nil))) da_nil))) (da_cons (dx_call G_added (hr.mono (by omega)) (by rfl) T.m_added T.F_added.kp T.b_added pass0 (da_cons (dv 2) (da_cons (dx_fx (fx_lst (da_cons (dv 5) da_nil))) da_nil))) da_nil))) da_nil))))))), ?_⟩
  rw [show startE ["logic", "left", "right", "main", "a", "b"] [D.str lg, D.tup (l.map fD), D.tup (r.map fD), mD m] = [.val (.str lg), .val (.tup (l.map fD)), .val (.tup (r.map fD)), .val (mD m), .no, .no] from rfl]
  simp only [↓gTp, ↓gCn, ↓gN, ↓gNl, ↓sSeq, ↓sIf, ↓sDrop, ↓sMut, ↓isLs, ↓mutK, ↓gAppend, ↓sSetM, ↓sSet, ↓sC, ↓sVar, ↓sTup, ↓sLst, ↓sFx, ↓sCons, ↓sNil, ↓sOp, ↓sUn, ↓sTst, ↓sTru, ↓sAnd, ↓sOr, ↓sNot, ↓sIfS, ↓sAndV, ↓sOrV, ↓sCB, ↓gLen, ↓sGet1, ↓sGet2, ↓toKey, ↓sRet, ↓sRetN, ↓sCall, ↓sNext, ↓gInt, ↓gCmp, ↓gEqB, ↓gIx, ↓gIsN, ↓isNonD, ↓truD, ↓gNegI, ↓sFor, ↓sLc, ↓sSlL, ↓sSlT, ↓sNoP, ↓sPart, ↓iRv, ↓lstK, ↓iA, ↓iE, ↓iZ, ↓iR1, ↓iR2, ↓valK, ↓valKs, ↓resK, ↓resKs, ↓slK, ↓List.getElem?_cons_succ, ↓List.getElem?_cons_zero, ↓List.set, ↓reduceIte, Bool.not_false, Bool.not_true, Bool.false_eq_true, id, Rs.v.injEq, D.bl.injEq, D.int.injEq, exists_eq_left', true_and, and_true, fD, str_dec, String.reduceEq, decide_false, decide_true, atI_0, atI_1, atI_2, Option.some.injEq, List.length_cons, List.length_nil, ↓sRetV, ↓gAdd, ↓sStarA, ↓gTin, ↓gTnin, ↓gTix, ↓sCallX, ↓sRaise, ↓sRaise1, ↓sTry, ↓gIsE, ↓sCallW, ↓sCF, ↓sCallO, ↓sSetO, ↓sSetIx, ↓setK, ↓sCat, ↓gIsi, ↓tyN, ↓gIsA, ↓gInsert, ↓gPool, ↓isIl, ↓isPl, ↓sSrtS, ↓gListF, ↓gTupA, ↓sNotV, ↓sLst, ↓sAsg, ↓wipeE, List.map_cons, List.map_nil, ↓g2I, keepAll, List.length_map, ↓gInt1, ↓gAbs, rng_len']
  refine ⟨"implies", m, r, rfl, by simp, sr, hm, fun ps hp => ?_, fun hn => hx (by rw [prImpR, hn]; rfl)⟩
  obtain ⟨f, rfl, e1, e2, rfl⟩ := parts_some hp
  obtain ⟨a, b, eab⟩ := two_ps (f := f) (.inr (.inr e1))
  have ga : Go a := go_ps (hm f rfl) (by rw [eab]; simp)
  have gb : Go b := go_ps (hm f rfl) (by rw [eab]; simp)
  rw [eab] at hp ⊢
  simp only [↓gTp, ↓gCn, ↓gN, ↓gNl, ↓sSeq, ↓sIf, ↓sDrop, ↓sMut, ↓isLs, ↓mutK, ↓gAppend, ↓sSetM, ↓sSet, ↓sC, ↓sVar, ↓sTup, ↓sLst, ↓sFx, ↓sCons, ↓sNil, ↓sOp, ↓sUn, ↓sTst, ↓sTru, ↓sAnd, ↓sOr, ↓sNot, ↓sIfS, ↓sAndV, ↓sOrV, ↓sCB, ↓gLen, ↓sGet1, ↓sGet2, ↓toKey, ↓sRet, ↓sRetN, ↓sCall, ↓sNext, ↓gInt, ↓gCmp, ↓gEqB, ↓gIx, ↓gIsN, ↓isNonD, ↓truD, ↓gNegI, ↓sFor, ↓sLc, ↓sSlL, ↓sSlT, ↓sNoP, ↓sPart, ↓iRv, ↓lstK, ↓iA, ↓iE, ↓iZ, ↓iR1, ↓iR2, ↓valK, ↓valKs, ↓resK, ↓resKs, ↓slK, ↓List.getElem?_cons_succ, ↓List.getElem?_cons_zero, ↓List.set, ↓reduceIte, Bool.not_false, Bool.not_true, Bool.false_eq_true, id, Rs.v.injEq, D.bl.injEq, D.int.injEq, exists_eq_left', true_and, and_true, fD, str_dec, String.reduceEq, decide_false, decide_true, atI_0, atI_1, atI_2, Option.some.injEq, List.length_cons, List.length_nil, ↓sRetV, ↓gAdd, ↓sStarA, ↓gTin, ↓gTnin, ↓gTix, ↓sCallX, ↓sRaise, ↓sRaise1, ↓sTry, ↓gIsE, ↓sCallW, ↓sCF, ↓sCallO, ↓sSetO, ↓sSetIx, ↓setK, ↓sCat, ↓gIsi, ↓tyN, ↓gIsA, ↓gInsert, ↓gPool, ↓isIl, ↓isPl, ↓sSrtS, ↓gListF, ↓gTupA, ↓sNotV, ↓sLst, ↓sAsg, ↓wipeE, List.map_cons, List.map_nil, ↓g2I, keepAll, List.length_map, ↓gInt1, ↓gAbs, rng_len']
  have both : ¬ (intB lg = true ∧ lg ≠ "Cl") → 0 + 1 ≤ sizeLine ∧ φAdded [D.tup (List.map fD l), D.lst [fD a]] fun z => 0 + 1 ≤ sizeLine ∧ φAdded [D.tup (List.map fD r), D.lst [fD b]] fun z_1 => 0 + 1 + 1 ≤ sizeLine ∧ 0 + 1 ≤ sizeLine ∧ ∀ (ρ2 : En), q (D.lst [D.tup [z, z_1]]) := fun hn => ⟨by decide, l, [a], .inr rfl, sl.go, fun g hg => by rw [List.mem_singleton.mp hg]; exact ga, sl.len, (by show 1 ≤ 200; decide), by decide, r, [b], .inr rfl, sr.go, fun g hg => by rw [List.mem_singleton.mp hg]; exact gb, sr.len, (by show 1 ≤ 200; decide), by decide, by decide, fun _ => hq [(ad l [a], ad r [b])] (by rw [prImpR, hp]; show some (if _ then _ else _) = _; rw [if_neg hn])⟩
  refine ⟨rfl, rfl, rfl, intB lg, rfl, iteD' (fun h1 => iteD' (fun h2 => ?_) (fun h2 => both fun h => ?_)) (fun h1 => both fun h => h1 h.1)⟩
  · exact ⟨by decide, l, [a], .inr rfl, sl.go, fun g hg => by rw [List.mem_singleton.mp hg]; exact ga, sl.len, (by show 1 ≤ 200; decide), by decide, by decide, by decide, fun _ => hq [(ad l [a], [b])] (by rw [prImpR, hp]; show some (if _ then _ else _) = _; rw [if_pos ⟨h1, by simpa using h2⟩])⟩
  · exact h2 (by simpa using h.2)
theorem ok_cut (T : Top w K mg) : FnOk P w K mg base (L2.CX P w) 7 T.f_cut T.d_cut ["logic", "left", "right", "main"] (spX K TT (φRule T.c_NoFit prCut)) := by
  have G_added := ok_added (P := P) (w := w) (base := base) (TT := TT) T
  have G_is_plain : FnOk P w K mg base CX0 6 T.f_is_plain T.d_is_plain ["a"] (spPlain K) := ok_is_plain T
  refine okX TT T.F_cut sc_cut (fun ds q x ⟨_, _, _, _, e, _⟩ => by rw [e]; rfl) fun cdv A outer s H E κ hr hT ds q x ⟨lg, l, r, m, e, sl, sr, hm, hq, hx⟩ hX => ?_
  subst e
  subst hT
  have hu64 := hr.units
  have hu65 : (A.deeper (envOfC "_cut" (defScope s_cut) s.heap.objs.size T.f_cut cdv)).units + 65 < cLine := by have := hr.un; omega
  refine ⟨_, (dss_cons (ds_if (PW.pt (dw_or (dt_cmp op_isN1 oa_isN (dv 3) dx_non (nomark _)) (dw_or1 (PW.pt (dw_and (dt_cmp (op_inA hu65) oa_in (dv 0) (dx_globD (v := .ref T.a_INTERMEDIATE) (d := .tup [.str "Int", .str "KC", .str "LC", .str "BD2", .str "HT", .str "Cl"]) (fun H => .tup (T.k_INTERMEDIATE H) (.cons (.str _) (.cons (.str _) (.cons (.str _) (.cons (.str _) (.cons (.str _) (.cons (.str _) .nil)))))) (fun y e => by cases e)) rfl T.m_INTERMEDIATE rfl) rfl) (dw_and1 (dt_not (dt_truth (dx_callO G_is_plain (c_plain) (hr.mono (by omega)) (by rfl) T.m_is_plain T.F_is_plain.kp T.b_is_plain pass0 (da_cons (dv 3) da_nil)) (fun _ => rfl)))))))))
      (dss_one (ds_raiseX rfl (takes_of rfl rfl rfl rfl) hX PySem.F.excBase_ValueError T.x_NoFit T.g_NoFit T.k_NoFit (raises_own T.b_NoFit T.t_NoFit) rfl))
      dss_nil)
    (dss_one (ds_ret (dx_fx (fx_lst (da_cons (dx_tup (da_cons (dv 1) (da_cons (dx_call G_added (hr.mono (by omega)) (by rfl) T.m_added T.F_added.kp T.b_added pass0 (da_cons (dv 2) (da_cons (dx_fx (fx_lst (da_cons (dv 3) da_nil))) da_nil))) da_nil))) (da_cons (dx_tup (da_cons (dx_call G_added (hr.mono (by omega)) (by rfl) T.m_added T.F_added.kp T.b_added pass0 (da_cons (dv 1) (da_cons (dx_fx (fx_lst (da_cons (dv 3) da_nil))) da_nil))) (da_cons (dv 2) da_nil))) da_nil))))))), ?_⟩
  rw [show startE ["logic", "left", "right", "main"] [D.str lg, D.tup (l.map fD), D.tup (r.map fD), mD m] = [.val (.str lg), .val (.tup (l.map fD)), .val (.tup (r.map fD)), .val (mD m)] from rfl]
  cases m with
  | none =>
    rw [show mD none = .non from rfl]
    simp only [↓gTp, ↓gCn, ↓gN, ↓gNl, ↓sSeq, ↓sIf, ↓sDrop, ↓sMut, ↓isLs, ↓mutK, ↓gAppend, ↓sSetM, ↓sSet, ↓sC, ↓sVar, ↓sTup, ↓sLst, ↓sFx, ↓sCons, ↓sNil, ↓sOp, ↓sUn, ↓sTst, ↓sTru, ↓sAnd, ↓sOr, ↓sNot, ↓sIfS, ↓sAndV, ↓sOrV, ↓sCB, ↓gLen, ↓sGet1, ↓sGet2, ↓toKey, ↓sRet, ↓sRetN, ↓sCall, ↓sNext, ↓gInt, ↓gCmp, ↓gEqB, ↓gIx, ↓gIsN, ↓isNonD, ↓truD, ↓gNegI, ↓sFor, ↓sLc, ↓sSlL, ↓sSlT, ↓sNoP, ↓sPart, ↓iRv, ↓lstK, ↓iA, ↓iE, ↓iZ, ↓iR1, ↓iR2, ↓valK, ↓valKs, ↓resK, ↓resKs, ↓slK, ↓List.getElem?_cons_succ, ↓List.getElem?_cons_zero, ↓List.set, ↓reduceIte, Bool.not_false, Bool.not_true, Bool.false_eq_true, id, Rs.v.injEq, D.bl.injEq, D.int.injEq, exists_eq_left', true_and, and_true, fD, str_dec, String.reduceEq, decide_false, decide_true, atI_0, atI_1, atI_2, Option.some.injEq, List.length_cons, List.length_nil, ↓sRetV, ↓gAdd, ↓sStarA, ↓gTin, ↓gTnin, ↓gTix, ↓sCallX, ↓sRaise, ↓sRaise1, ↓sTry, ↓gIsE, ↓sCallW, ↓sCF, ↓sCallO, ↓sSetO, ↓sSetIx, ↓setK, ↓sCat, ↓gIsi, ↓tyN, ↓gIsA, ↓gInsert, ↓gPool, ↓isIl, ↓isPl, ↓sSrtS, ↓gListF, ↓gTupA, ↓sNotV, ↓sLst, ↓sAsg, ↓wipeE, List.map_cons, List.map_nil, ↓g2I, keepAll, List.length_map, ↓gInt1, ↓gAbs, rng_len']
    exact hx rfl
  | some f =>
    obtain ⟨t, ht, _⟩ := fD_tup f
    have gf := hm f rfl
    rw [show mD (some f) = fD f from rfl, ht]
    simp only [↓gTp, ↓gCn, ↓gN, ↓gNl, ↓sSeq, ↓sIf, ↓sDrop, ↓sMut, ↓isLs, ↓mutK, ↓gAppend, ↓sSetM, ↓sSet, ↓sC, ↓sVar, ↓sTup, ↓sLst, ↓sFx, ↓sCons, ↓sNil, ↓sOp, ↓sUn, ↓sTst, ↓sTru, ↓sAnd, ↓sOr, ↓sNot, ↓sIfS, ↓sAndV, ↓sOrV, ↓sCB, ↓gLen, ↓sGet1, ↓sGet2, ↓toKey, ↓sRet, ↓sRetN, ↓sCall, ↓sNext, ↓gInt, ↓gCmp, ↓gEqB, ↓gIx, ↓gIsN, ↓isNonD, ↓truD, ↓gNegI, ↓sFor, ↓sLc, ↓sSlL, ↓sSlT, ↓sNoP, ↓sPart, ↓iRv, ↓lstK, ↓iA, ↓iE, ↓iZ, ↓iR1, ↓iR2, ↓valK, ↓valKs, ↓resK, ↓resKs, ↓slK, ↓List.getElem?_cons_succ, ↓List.getElem?_cons_zero, ↓List.set, ↓reduceIte, Bool.not_false, Bool.not_true, Bool.false_eq_true, id, Rs.v.injEq, D.bl.injEq, D.int.injEq, exists_eq_left', true_and, and_true, fD, str_dec, String.reduceEq, decide_false, decide_true, atI_0, atI_1, atI_2, Option.some.injEq, List.length_cons, List.length_nil, ↓sRetV, ↓gAdd, ↓sStarA, ↓gTin, ↓gTnin, ↓gTix, ↓sCallX, ↓sRaise, ↓sRaise1, ↓sTry, ↓gIsE, ↓sCallW, ↓sCF, ↓sCallO, ↓sSetO, ↓sSetIx, ↓setK, ↓sCat, ↓gIsi, ↓tyN, ↓gIsA, ↓gInsert, ↓gPool, ↓isIl, ↓isPl, ↓sSrtS, ↓gListF, ↓gTupA, ↓sNotV, ↓sLst, ↓sAsg, ↓wipeE, List.map_cons, List.map_nil, ↓g2I, keepAll, List.length_map, ↓gInt1, ↓gAbs, rng_len']
    have go : (intB lg = true → f.plain = true) → 0 + 1 ≤ sizeLine ∧ φAdded [D.tup (r.map fD), D.lst [fD f]] fun z => 0 + 1 + 1 ≤ sizeLine ∧ 0 + 1 ≤ sizeLine ∧ φAdded [D.tup (l.map fD), D.lst [fD f]] fun z_1 => 0 + 1 + 1 ≤ sizeLine ∧ 0 + 1 + 1 ≤ sizeLine ∧ ∀ (ρ2 : En), q (D.lst [D.tup [.tup (l.map fD), z], D.tup [z_1, .tup (r.map fD)]]) := fun hn => ⟨by decide, r, [f], .inr rfl, sr.go, fun g hg => by rw [List.mem_singleton.mp hg]; exact gf, sr.len, (by show 1 ≤ 200; decide), by decide, by decide, l, [f], .inr rfl, sl.go, fun g hg => by rw [List.mem_singleton.mp hg]; exact gf, sl.len, (by show 1 ≤ 200; decide), by decide, by decide, fun _ => hq [(l, ad r [f]), (ad l [f], r)] (by show (if _ then _ else _) = _; rw [if_neg fun h => by rw [hn h.1] at h; cases h.2])⟩
    rw [ht] at go
    refine ⟨rfl, rfl, intB lg, rfl, iteD' (fun h1 => ⟨f, by rw [ht], gf.1, gf.2, ?_⟩) (fun h1 => go fun h => absurd h h1)⟩
    simp only [↓gTp, ↓gCn, ↓gN, ↓gNl, ↓sSeq, ↓sIf, ↓sDrop, ↓sMut, ↓isLs, ↓mutK, ↓gAppend, ↓sSetM, ↓sSet, ↓sC, ↓sVar, ↓sTup, ↓sLst, ↓sFx, ↓sCons, ↓sNil, ↓sOp, ↓sUn, ↓sTst, ↓sTru, ↓sAnd, ↓sOr, ↓sNot, ↓sIfS, ↓sAndV, ↓sOrV, ↓sCB, ↓gLen, ↓sGet1, ↓sGet2, ↓toKey, ↓sRet, ↓sRetN, ↓sCall, ↓sNext, ↓gInt, ↓gCmp, ↓gEqB, ↓gIx, ↓gIsN, ↓isNonD, ↓truD, ↓gNegI, ↓sFor, ↓sLc, ↓sSlL, ↓sSlT, ↓sNoP, ↓sPart, ↓iRv, ↓lstK, ↓iA, ↓iE, ↓iZ, ↓iR1, ↓iR2, ↓valK, ↓valKs, ↓resK, ↓resKs, ↓slK, ↓List.getElem?_cons_succ, ↓List.getElem?_cons_zero, ↓List.set, ↓reduceIte, Bool.not_false, Bool.not_true, Bool.false_eq_true, id, Rs.v.injEq, D.bl.injEq, D.int.injEq, exists_eq_left', true_and, and_true, fD, str_dec, String.reduceEq, decide_false, decide_true, atI_0, atI_1, atI_2, Option.some.injEq, List.length_cons, List.length_nil, ↓sRetV, ↓gAdd, ↓sStarA, ↓gTin, ↓gTnin, ↓gTix, ↓sCallX, ↓sRaise, ↓sRaise1, ↓sTry, ↓gIsE, ↓sCallW, ↓sCF, ↓sCallO, ↓sSetO, ↓sSetIx, ↓setK, ↓sCat, ↓gIsi, ↓tyN, ↓gIsA, ↓gInsert, ↓gPool, ↓isIl, ↓isPl, ↓sSrtS, ↓gListF, ↓gTupA, ↓sNotV, ↓sLst, ↓sAsg, ↓wipeE, List.map_cons, List.map_nil, ↓g2I, keepAll, List.length_map, ↓gInt1, ↓gAbs, rng_len']
    refine iteD' (fun h2 => hx (if_pos ⟨h1, by simpa using h2⟩)) (fun h2 => go fun _ => by simpa using h2)
end

/-! ### premises_of, for the logical rules -/
def lgs : List Str := ["K", "D", "T", "K4", "D4", "S4", "S5", "GL", "Grz", "Int", "KC", "LC", "BD2", "HT", "Cl"]
def tabL : List (Str × Pr) := [("axiom", prAx), ("falsum", prFa), ("cut", prCut), ("and_left", prAndL), ("and_right", prAndR), ("or_left", prOrL), ("or_right", prOrR), ("implies_left", prImpL), ("implies_right", prImpR)]
def premsL (ru : Str) : Pr := fun lg l r m => match tabL.lookup ru with
  | some pr => pr lg l r m
  | none => none
def φCheck (C : Addr) : GX := fun ds q x => ∃ lg : Str, ds = [.str lg] ∧ lg ∈ lgs ∧ q .non
theorem ok_check_logic (T : Top w K mg) : FnOk P w K mg base (L2.CX P w) 1 T.f_check_logic T.d_check_logic ["logic"] (spX K TT (φCheck T.c_UnknownLogic)) := by
  refine okX TT T.F_check_logic sc_check_logic (fun ds q x ⟨_, e, _⟩ => by rw [e]; rfl) fun cdv A outer s H E κ hr hT ds q x ⟨lg, e, hlg, hq⟩ hX => ?_
  subst e
  subst hT
  refine ⟨_, (dss_one (ds_if (dt_cmp (op_tnin T.k_CONDITIONS) (oa_tnin T.k_CONDITIONS) (dv 0) (dx_glob (v := .ref T.a_CONDITIONS) rfl T.m_CONDITIONS rfl) rfl)
      (dss_one (ds_raiseX rfl (takes_of rfl rfl rfl rfl) hX PySem.F.excBase_ValueError T.x_UnknownLogic T.g_UnknownLogic T.k_UnknownLogic (raises_own T.b_UnknownLogic T.t_UnknownLogic) rfl))
      dss_nil)), ?_⟩
  rw [show startE ["logic"] [D.str lg] = [.val (.str lg)] from rfl]
  simp only [↓gTp, ↓gCn, ↓gN, ↓gNl, ↓sSeq, ↓sIf, ↓sDrop, ↓sMut, ↓isLs, ↓mutK, ↓gAppend, ↓sSetM, ↓sSet, ↓sC, ↓sVar, ↓sTup, ↓sLst, ↓sFx, ↓sCons, ↓sNil, ↓sOp, ↓sUn, ↓sTst, ↓sTru, ↓sAnd, ↓sOr, ↓sNot, ↓sIfS, ↓sAndV, ↓sOrV, ↓sCB, ↓gLen, ↓sGet1, ↓sGet2, ↓toKey, ↓sRet, ↓sRetN, ↓sCall, ↓sNext, ↓gInt, ↓gCmp, ↓gEqB, ↓gIx, ↓gIsN, ↓isNonD, ↓truD, ↓gNegI, ↓sFor, ↓sLc, ↓sSlL, ↓sSlT, ↓sNoP, ↓sPart, ↓iRv, ↓lstK, ↓iA, ↓iE, ↓iZ, ↓iR1, ↓iR2, ↓valK, ↓valKs, ↓resK, ↓resKs, ↓slK, ↓List.getElem?_cons_succ, ↓List.getElem?_cons_zero, ↓List.set, ↓reduceIte, Bool.not_false, Bool.not_true, Bool.false_eq_true, id, Rs.v.injEq, D.bl.injEq, D.int.injEq, exists_eq_left', true_and, and_true, fD, str_dec, String.reduceEq, decide_false, decide_true, atI_0, atI_1, atI_2, Option.some.injEq, List.length_cons, List.length_nil, ↓sRetV, ↓gAdd, ↓sStarA, ↓gTin, ↓gTnin, ↓gTix, ↓sCallX, ↓sRaise, ↓sRaise1, ↓sTry, ↓gIsE, ↓sCallW, ↓sCF, ↓sCallO, ↓sSetO, ↓sSetIx, ↓setK, ↓sCat, ↓gIsi, ↓tyN, ↓gIsA, ↓gInsert, ↓gPool, ↓isIl, ↓isPl, ↓sSrtS, ↓gListF, ↓gTupA, ↓sNotV, ↓sLst, ↓sAsg, ↓wipeE, List.map_cons, List.map_nil, ↓g2I, keepAll, List.length_map, ↓gInt1, ↓gAbs, rng_len']
  refine ⟨lg, rfl, iteD' (fun h => ?_) fun _ => hq⟩
  have h3 : (lgs.contains lg) = true := by simpa using hlg
  have h : (!lgs.contains lg) = true := h
  rw [h3] at h
  cases h
theorem ok_premises_of (T : Top w K mg) : FnOk P w K mg base (L2.CX P w) 8 T.f_premises_of T.d_premises_of ["logic", "rule", "conclusion", "main"] (spX K TT (fun ds q x => ∃ (lg ru : Str) (l r : List Fm) (m : Option Fm), ds = [.str lg, .str ru, sqD (l, r), mD m] ∧ lg ∈ lgs ∧ (ru ∈ tabL.map (·.1) ∨ ru = "weaken" ∨ ru = "none") ∧ Sd l ∧ Sd r ∧ (∀ f, m = some f → Go f) ∧ (∀ ps, premsL ru lg l r m = some ps → q (.lst (ps.map sqD))) ∧ (premsL ru lg l r m = none → x T.c_NoFit))) := by
  have G_check_logic := ok_check_logic (P := P) (w := w) (base := base) (TT := TT) T
  refine okX TT T.F_premises_of sc_premises_of (fun ds q x ⟨_, _, _, _, _, e, _⟩ => by rw [e]; rfl) fun cdv A outer s H E κ hr hT ds q x ⟨lg, ru, l, r, m, e, hlg, hru, sl, sr, hm, hq, hx⟩ hX => ?_
  subst e
  subst hT
  have hu65 : (A.deeper (envOfC "premises_of" (defScope s_premises_of) s.heap.objs.size T.f_premises_of cdv)).units + 65 < cLine := by have := hr.un; omega
  refine ⟨_, (dss_cons (ds_expr (dx_callX G_check_logic (hr.mono (by omega)) (by rfl) T.m_check_logic T.F_check_logic.kp T.b_check_logic (takes_of rfl rfl rfl rfl) hX (da_cons (dv 0) da_nil)))
    (dss_cons (ds_if (PW.pt (dw_or (dt_cmp (op_tnin T.k_RULES) (oa_tnin T.k_RULES) (dv 1) (dx_glob (v := .ref T.a_RULES) rfl T.m_RULES rfl) rfl) (dw_or1 (PW.pt (dw_and (dt_cmp (op_tin T.k_LOGICS) (oa_tin T.k_LOGICS) (dv 1) (dx_glob (v := .ref T.a_LOGICS) rfl T.m_LOGICS rfl) rfl) (dw_and1 (dt_cmp (op_notInA hu65) oa_notIn (dv 0) (dx_ix ix_kdict (oa_tix T.k_LOGICS) (dx_glob (v := .ref T.a_LOGICS) rfl T.m_LOGICS rfl) (dv 1) (fun _ _ => rfl)) rfl)))))))
      (dss_one (ds_raiseX rfl (takes_of rfl rfl rfl rfl) hX PySem.F.excBase_ValueError T.x_NoFit T.g_NoFit T.k_NoFit (raises_own T.b_NoFit T.t_NoFit) rfl))
      dss_nil)
    (dss_cons (ds_asg (dv 2) (pg_tup rfl (pgs_cons (pg_name (i := 4) sc_premises_of.nd rfl (.inl rfl)) (pgs_cons (pg_name (i := 5) sc_premises_of.nd rfl (.inl rfl)) pgs_nil))) (tg_tup (tgs_cons tg_name (tgs_cons tg_name tgs_nil))))
    (dss_cons (ds_set (i := 6) sc_premises_of.nd rfl (.inl rfl) (dx_ix ix_kdict (oa_tix T.k_RULES) (dx_glob (v := .ref T.a_RULES) rfl T.m_RULES rfl) (dv 1) (fun _ _ => rfl)))
    (dss_one (ds_ret (dx_callW (i := 6) rfl (by first | exact Or.inl rfl | exact Or.inr (Or.inl rfl) | exact Or.inr (Or.inr rfl)) (takes_of rfl rfl rfl rfl) hX (da_cons (dv 0) (da_cons (dv 4) (da_cons (dv 5) (da_cons (dv 3) da_nil))))))))))), ?_⟩
  rw [show startE ["logic", "rule", "conclusion", "main", "left", "right", "premises"] [D.str lg, D.str ru, sqD (l, r), mD m] = [.val (.str lg), .val (.str ru), .val (.tup [.tup (l.map fD), .tup (r.map fD)]), .val (mD m), .no, .no, .no] from rfl]
  simp only [↓gTp, ↓gCn, ↓gN, ↓gNl, ↓sSeq, ↓sIf, ↓sDrop, ↓sMut, ↓isLs, ↓mutK, ↓gAppend, ↓sSetM, ↓sSet, ↓sC, ↓sVar, ↓sTup, ↓sLst, ↓sFx, ↓sCons, ↓sNil, ↓sOp, ↓sUn, ↓sTst, ↓sTru, ↓sAnd, ↓sOr, ↓sNot, ↓sIfS, ↓sAndV, ↓sOrV, ↓sCB, ↓gLen, ↓sGet1, ↓sGet2, ↓toKey, ↓sRet, ↓sRetN, ↓sCall, ↓sNext, ↓gInt, ↓gCmp, ↓gEqB, ↓gIx, ↓gIsN, ↓isNonD, ↓truD, ↓gNegI, ↓sFor, ↓sLc, ↓sSlL, ↓sSlT, ↓sNoP, ↓sPart, ↓iRv, ↓lstK, ↓iA, ↓iE, ↓iZ, ↓iR1, ↓iR2, ↓valK, ↓valKs, ↓resK, ↓resKs, ↓slK, ↓List.getElem?_cons_succ, ↓List.getElem?_cons_zero, ↓List.set, ↓reduceIte, Bool.not_false, Bool.not_true, Bool.false_eq_true, id, Rs.v.injEq, D.bl.injEq, D.int.injEq, exists_eq_left', true_and, and_true, fD, str_dec, String.reduceEq, decide_false, decide_true, atI_0, atI_1, atI_2, Option.some.injEq, List.length_cons, List.length_nil, ↓sRetV, ↓gAdd, ↓sStarA, ↓gTin, ↓gTnin, ↓gTix, ↓sCallX, ↓sRaise, ↓sRaise1, ↓sTry, ↓gIsE, ↓sCallW, ↓sCF, ↓sCallO, ↓sSetO, ↓sSetIx, ↓setK, ↓sCat, ↓gIsi, ↓tyN, ↓gIsA, ↓gInsert, ↓gPool, ↓isIl, ↓isPl, ↓sSrtS, ↓gListF, ↓gTupA, ↓sNotV, ↓sLst, ↓sAsg, ↓wipeE, List.map_cons, List.map_nil, ↓g2I, keepAll, List.length_map, ↓gInt1, ↓gAbs, rng_len']
  refine ⟨lg, rfl, hlg, ru, rfl, ?_⟩
  have fit : (∃ (pr : Pr) (f : Addr) (fd : FuncData), tabL.lookup ru = some pr ∧ (T.t_RULES.map (·.1)).contains ru = true ∧ (T.t_LOGICS.map (·.1)).contains ru = false ∧ T.t_RULES.lookup ru = some (.raw (.ref f)) ∧ FnOk P w K mg base (L2.CX P w) 7 f fd ["logic", "left", "right", "main"] (spX K κ.TT (φRule T.c_NoFit pr)) ∧ PySem.W.keepIn K (.ref f) = true ∧ Binds K fd ["logic", "left", "right", "main"] []) ∨ (tabL.lookup ru = none ∧ (T.t_RULES.map (·.1)).contains ru = false) := by
    simp only [tabL, List.map_cons, List.map_nil, List.mem_cons, List.not_mem_nil, or_false] at hru
    rcases hru with (e | e | e | e | e | e | e | e | e) | e | e <;> subst e
    · exact .inl ⟨_, _, _, rfl, rfl, rfl, rfl, (ok_axiom T).mono (by decide), T.F_axiom.kp, T.b_axiom⟩
    · exact .inl ⟨_, _, _, rfl, rfl, rfl, rfl, (ok_falsum T).mono (by decide), T.F_falsum.kp, T.b_falsum⟩
    · exact .inl ⟨_, _, _, rfl, rfl, rfl, rfl, (ok_cut T).mono (by decide), T.F_cut.kp, T.b_cut⟩
    · exact .inl ⟨_, _, _, rfl, rfl, rfl, rfl, (ok_and_left T).mono (by decide), T.F_and_left.kp, T.b_and_left⟩
    · exact .inl ⟨_, _, _, rfl, rfl, rfl, rfl, (ok_and_right T).mono (by decide), T.F_and_right.kp, T.b_and_right⟩
    · exact .inl ⟨_, _, _, rfl, rfl, rfl, rfl, (ok_or_left T).mono (by decide), T.F_or_left.kp, T.b_or_left⟩
    · exact .inl ⟨_, _, _, rfl, rfl, rfl, rfl, (ok_or_right T).mono (by decide), T.F_or_right.kp, T.b_or_right⟩
    · exact .inl ⟨_, _, _, rfl, rfl, rfl, rfl, (ok_implies_left T).mono (by decide), T.F_implies_left.kp, T.b_implies_left⟩
    · exact .inl ⟨_, _, _, rfl, rfl, rfl, rfl, (ok_implies_right T).mono (by decide), T.F_implies_right.kp, T.b_implies_right⟩
    · exact .inr ⟨rfl, rfl⟩
    · exact .inr ⟨rfl, rfl⟩
  rcases fit with ⟨pr, f, fd, e1, e2, e3, e4, F, kp, b⟩ | ⟨e1, e2⟩
  · refine iteD' (fun h => ?_) (fun h => ⟨ru, rfl, iteD' (fun h2 => ?_) (fun h2 => ?_)⟩)
    · have h : (!(T.t_RULES.map (·.1)).contains ru) = true := h
      rw [e2] at h
      cases h
    · have h2 : (T.t_LOGICS.map (·.1)).contains ru = true := h2
      rw [e3] at h2
      cases h2
    · refine ⟨rfl, ru, _, rfl, e4, ?_⟩
      exact ⟨f, φRule T.c_NoFit pr, rfl, ⟨7, fd, _, F, hr.mono (by omega), kp, b⟩, lg, l, r, m, rfl, sl, sr, hm, fun ps h _ => hq ps (by rw [premsL, e1]; exact h), fun h => hx (by rw [premsL, e1]; exact h)⟩
  · refine iteD' (fun h => hx (by rw [premsL, e1])) (fun h => ?_)
    exfalso
    refine h ?_
    show (!(T.t_RULES.map (·.1)).contains ru) = true
    rw [e2]
    rfl

def φCell : GL := fun ds q => ∃ (ns : List Int) (k : Nat), ds = [.lst (ns.map D.int), .int k] ∧ ∀ z : Int, q (.int z)
theorem ok_law_cell (T : Top w K mg) : FnOk P w K mg base CX0 1 T.f_law_cell T.d_law_cell ["script", "k"] (spD K TT φCell) := by
  refine okD TT T.F_law_cell sc_law_cell (fun ds q ⟨_, _, e, _⟩ => by rw [e]; rfl) fun cdv A outer s H E κ hr hT ds q ⟨ns, k, e, hq⟩ => ?_
  subst e
  refine ⟨_, (dss_cons (ds_if (dt_cmp op_lt oa_cmp0 (dv 1) (dx_callB ca_len cr_len (by rfl) T.z_len PySem.boot_len (da_cons (dv 0) da_nil)) (nomark _))
      (dss_one (ds_ret (dx_ix ix_seq oa_ix (dv 0) (dv 1) (fun _ _ => rfl))))
      dss_nil)
    (dss_one (ds_ret dx_int))), ?_⟩
  rw [show startE ["script", "k"] [D.lst (ns.map D.int), D.int (k : Int)] = [.val (.lst (ns.map D.int)), .val (.int k)] from rfl]
  simp only [↓gTp, ↓gCn, ↓gN, ↓gNl, ↓sSeq, ↓sIf, ↓sDrop, ↓sMut, ↓isLs, ↓mutK, ↓gAppend, ↓sSetM, ↓sSet, ↓sC, ↓sVar, ↓sTup, ↓sLst, ↓sFx, ↓sCons, ↓sNil, ↓sOp, ↓sUn, ↓sTst, ↓sTru, ↓sAnd, ↓sOr, ↓sNot, ↓sIfS, ↓sAndV, ↓sOrV, ↓sCB, ↓gLen, ↓sGet1, ↓sGet2, ↓toKey, ↓sRet, ↓sRetN, ↓sCall, ↓sNext, ↓gInt, ↓gCmp, ↓gEqB, ↓gIx, ↓gIsN, ↓isNonD, ↓truD, ↓gNegI, ↓sFor, ↓sLc, ↓sSlL, ↓sSlT, ↓sNoP, ↓sPart, ↓iRv, ↓lstK, ↓iA, ↓iE, ↓iZ, ↓iR1, ↓iR2, ↓valK, ↓valKs, ↓resK, ↓resKs, ↓slK, ↓List.getElem?_cons_succ, ↓List.getElem?_cons_zero, ↓List.set, ↓reduceIte, Bool.not_false, Bool.not_true, Bool.false_eq_true, id, Rs.v.injEq, D.bl.injEq, D.int.injEq, exists_eq_left', true_and, and_true, fD, str_dec, String.reduceEq, decide_false, decide_true, atI_0, atI_1, atI_2, Option.some.injEq, List.length_cons, List.length_nil, ↓sRetV, ↓gAdd, ↓sStarA, ↓gTin, ↓gTnin, ↓gTix, ↓sCallX, ↓sRaise, ↓sRaise1, ↓sTry, ↓gIsE, ↓sCallW, ↓sCF, ↓sCallO, ↓sSetO, ↓sSetIx, ↓setK, ↓sCat, ↓gIsi, ↓tyN, ↓gIsA, ↓gInsert, ↓gPool, ↓isIl, ↓isPl, ↓sSrtS, ↓gListF, ↓gTupA, ↓sNotV, ↓sLst, ↓sAsg, ↓wipeE, List.map_cons, List.map_nil, ↓g2I, keepAll, List.length_map, ↓gInt1, ↓gAbs, rng_len']
  by_cases hk : k < ns.length
  · rw [if_pos (decide_eq_true (by omega))]
    exact ⟨.int ns[k], atI_nat (by rw [List.getElem?_map, List.getElem?_eq_getElem hk]; rfl), fun _ => hq _⟩
  · rw [if_neg (by rw [decide_eq_true_eq]; omega)]
    exact fun _ => hq 0

/-! ### the law's own helpers -/
def φLogic : GL := fun ds q => ∃ (z : Int) (pl : Bool), ds = [.int z, .bl pl] ∧ 0 ≤ z ∧ ∀ lg ∈ lgs, (pl = false → intB lg = false) → q (.str lg)
theorem ok_law_logic (T : Top w K mg) : FnOk P w K mg base CX0 1 T.f_law_logic T.d_law_logic ["number", "plain"] (spD K TT φLogic) := by
  refine okD TT T.F_law_logic sc_law_logic (fun ds q ⟨_, _, e, _⟩ => by rw [e]; rfl) fun cdv A outer s H E κ hr hT ds q ⟨z, pl, e, hz, hq⟩ => ?_
  subst e
  refine ⟨_, (dss_cons (ds_set (i := 2) sc_law_logic.nd rfl (.inl rfl) (dx_fx (fx_lst (da_cons dx_str (da_cons dx_str (da_cons dx_str (da_cons dx_str (da_cons dx_str (da_cons dx_str (da_cons dx_str (da_cons dx_str (da_cons dx_str (da_cons dx_str (da_cons dx_str (da_cons dx_str (da_cons dx_str (da_cons dx_str (da_cons dx_str da_nil))))))))))))))))))
    (dss_cons (ds_if (dt_truth (dv 1) (fun _ => rfl))
      (dss_one (ds_ret (dx_ix ix_seq oa_ix (dv 2) (dx_op op_mod oa_int (dx_callTy ca_int1 call_int1 (by rfl) T.z_int (by decide +kernel) (da_cons (dv 0) da_nil)) dx_int) (fun _ _ => rfl))))
      dss_nil)
    (dss_one (ds_ret (dx_ix ix_seq oa_ix (dv 2) (dx_op op_mod oa_int (dx_callTy ca_int1 call_int1 (by rfl) T.z_int (by decide +kernel) (da_cons (dv 0) da_nil)) dx_int) (fun _ _ => rfl)))))), ?_⟩
  rw [show startE ["number", "plain", "logics"] [D.int z, D.bl pl] = [.val (.int z), .val (.bl pl), .no] from rfl]
  simp only [↓gTp, ↓gCn, ↓gN, ↓gNl, ↓sSeq, ↓sIf, ↓sDrop, ↓sMut, ↓isLs, ↓mutK, ↓gAppend, ↓sSetM, ↓sSet, ↓sC, ↓sVar, ↓sTup, ↓sLst, ↓sFx, ↓sCons, ↓sNil, ↓sOp, ↓sUn, ↓sTst, ↓sTru, ↓sAnd, ↓sOr, ↓sNot, ↓sIfS, ↓sAndV, ↓sOrV, ↓sCB, ↓gLen, ↓sGet1, ↓sGet2, ↓toKey, ↓sRet, ↓sRetN, ↓sCall, ↓sNext, ↓gInt, ↓gCmp, ↓gEqB, ↓gIsN, ↓isNonD, ↓truD, ↓gNegI, ↓sFor, ↓sLc, ↓sSlL, ↓sSlT, ↓sNoP, ↓sPart, ↓iRv, ↓lstK, ↓iA, ↓iE, ↓iZ, ↓iR1, ↓iR2, ↓valK, ↓valKs, ↓resK, ↓resKs, ↓slK, ↓List.getElem?_cons_succ, ↓List.getElem?_cons_zero, ↓List.set, ↓reduceIte, Bool.not_false, Bool.not_true, Bool.false_eq_true, id, Rs.v.injEq, D.bl.injEq, D.int.injEq, exists_eq_left', true_and, and_true, fD, str_dec, String.reduceEq, decide_false, decide_true, atI_0, atI_1, atI_2, Option.some.injEq, List.length_cons, List.length_nil, ↓sRetV, ↓gAdd, ↓sStarA, ↓gTin, ↓gTnin, ↓gTix, ↓sCallX, ↓sRaise, ↓sRaise1, ↓sTry, ↓gIsE, ↓sCallW, ↓sCF, ↓sCallO, ↓sSetO, ↓sSetIx, ↓setK, ↓sCat, ↓gIsi, ↓tyN, ↓gIsA, ↓gInsert, ↓gPool, ↓isIl, ↓isPl, ↓sSrtS, ↓gListF, ↓gTupA, ↓sNotV, ↓sLst, ↓sAsg, ↓wipeE, List.map_cons, List.map_nil, ↓g2I, keepAll, List.length_map, ↓gInt1, ↓gAbs, rng_len']
  have at_ : ∀ (n : Nat), n ≤ 15 → ∀ i : Nat, i < n → gIx (.lst (lgs.map D.str)) (.int (i : Int)) fun z => z = .str (lgs[i]?.getD "K") ∧ (lgs[i]?.getD "K") ∈ lgs := fun n hn i hi => by
    have hl : i < lgs.length := Nat.lt_of_lt_of_le hi hn
    exact ⟨_, atI_nat (by rw [List.getElem?_map, List.getElem?_eq_getElem hl]; rfl), by rw [List.getElem?_eq_getElem hl]; rfl, by rw [List.getElem?_eq_getElem hl]; exact List.getElem_mem hl⟩
  have nine : ∀ i : Fin 9, intB (lgs[i.val]?.getD "K") = false := by decide +kernel
  refine ⟨by decide, iteD' (fun hp => ?_) (fun hp => ?_)⟩
  · obtain ⟨i, hi⟩ : ∃ i : Nat, z % 15 = (i : Int) := ⟨(z % 15).toNat, by omega⟩
    rw [hi]
    obtain ⟨d, e1, e2, e3⟩ := at_ 15 (Nat.le_refl _) i (by omega)
    exact ⟨by decide, d, e1, fun _ => by rw [e2]; exact hq _ e3 fun h => by rw [h] at hp; cases hp⟩
  · obtain ⟨i, hi⟩ : ∃ i : Nat, z % 9 = (i : Int) := ⟨(z % 9).toNat, by omega⟩
    have hl : i < 9 := by omega
    rw [hi]
    obtain ⟨d, e1, e2, e3⟩ := at_ 9 (by decide) i hl
    exact ⟨by decide, d, e1, fun _ => by rw [e2]; exact hq _ e3 fun _ => nine ⟨i, hl⟩⟩
def φLadd : GL := fun ds q => ∃ l fs : List Fm, (ds = [.tup (l.map fD), .lst (fs.map fD)] ∨ ds = [.tup (l.map fD), .tup (fs.map fD)]) ∧ (∀ f ∈ l, Go f) ∧ (∀ f ∈ fs, Go f) ∧ l.length ≤ 30 ∧ fs.length ≤ 30 ∧ q (.tup ((ad l fs).map fD))
theorem ok_law_add (T : Top w K mg) : FnOk P w K mg base CX0 1 T.f_law_add T.d_law_add ["side", "formulas"] (spD K TT φLadd) := by
  refine okD TT T.F_law_add sc_law_add (fun ds q ⟨_, _, e, _⟩ => by rcases e with e | e <;> rw [e] <;> rfl) fun cdv A outer s H E κ hr hT ds q ⟨l, fs, e, h1, h2, h3, h4, hq⟩ => ?_
  have hu200 : (A.deeper (envOfC "_law_add" (defScope s_law_add) s.heap.objs.size T.f_law_add cdv)).units + 200 < cLine := by have := hr.un; omega
  refine ⟨_, (dss_one (ds_ret (dx_callTy ca_tuple call_tuple_of (by rfl) T.z_tuple (by decide +kernel) (da_cons (dx_fx (fx_srtS rfl hu200 (by rfl) T.z_sorted (by decide +kernel) (by rfl) T.z_set (by decide +kernel) (da_cons (dx_op op_addA oa_add (dv 0) (dx_callTy ca_tuple call_tuple_of (by rfl) T.z_tuple (by decide +kernel) (da_cons (dv 1) da_nil))) da_nil))) da_nil)))), ?_⟩
  rcases e with e | e <;> subst e
  · rw [show startE ["side", "formulas"] [D.tup (l.map fD), D.lst (fs.map fD)] = [.val (.tup (l.map fD)), .val (.lst (fs.map fD))] from rfl]
    simp only [↓gTp, ↓gCn, ↓gN, ↓gNl, ↓sSeq, ↓sIf, ↓sDrop, ↓sMut, ↓isLs, ↓mutK, ↓gAppend, ↓sSetM, ↓sSet, ↓sC, ↓sVar, ↓sTup, ↓sLst, ↓sFx, ↓sCons, ↓sNil, ↓sOp, ↓sUn, ↓sTst, ↓sTru, ↓sAnd, ↓sOr, ↓sNot, ↓sIfS, ↓sAndV, ↓sOrV, ↓sCB, ↓gLen, ↓sGet1, ↓sGet2, ↓toKey, ↓sRet, ↓sRetN, ↓sCall, ↓sNext, ↓gInt, ↓gCmp, ↓gEqB, ↓gIx, ↓gIsN, ↓isNonD, ↓truD, ↓gNegI, ↓sFor, ↓sLc, ↓sSlL, ↓sSlT, ↓sNoP, ↓sPart, ↓iRv, ↓lstK, ↓iA, ↓iE, ↓iZ, ↓iR1, ↓iR2, ↓valK, ↓valKs, ↓resK, ↓resKs, ↓slK, ↓List.getElem?_cons_succ, ↓List.getElem?_cons_zero, ↓List.set, ↓reduceIte, Bool.not_false, Bool.not_true, Bool.false_eq_true, id, Rs.v.injEq, D.bl.injEq, D.int.injEq, exists_eq_left', true_and, and_true, fD, str_dec, String.reduceEq, decide_false, decide_true, atI_0, atI_1, atI_2, Option.some.injEq, List.length_cons, List.length_nil, ↓sRetV, ↓gAdd, ↓sStarA, ↓gTin, ↓gTnin, ↓gTix, ↓sCallX, ↓sRaise, ↓sRaise1, ↓sTry, ↓gIsE, ↓sCallW, ↓sCF, ↓sCallO, ↓sSetO, ↓sSetIx, ↓setK, ↓sCat, ↓gIsi, ↓tyN, ↓gIsA, ↓gInsert, ↓gPool, ↓isIl, ↓isPl, ↓sSrtS, ↓gListF, ↓gTupA, ↓sNotV, ↓sLst, ↓sAsg, ↓wipeE, List.map_cons, List.map_nil, ↓g2I, keepAll, List.length_map, ↓gInt1, ↓gAbs, rng_len']
    exact ⟨by rw [sizeLine_eq]; omega, l ++ fs, .inr (by rw [List.map_append]), by rw [List.length_append]; omega, fun f m => by
      rcases List.mem_append.mp m with m | m
      · exact (h1 f m).okK
      · exact (h2 f m).okK, fun _ => hq⟩
  · rw [show startE ["side", "formulas"] [D.tup (l.map fD), D.tup (fs.map fD)] = [.val (.tup (l.map fD)), .val (.tup (fs.map fD))] from rfl]
    simp only [↓gTp, ↓gCn, ↓gN, ↓gNl, ↓sSeq, ↓sIf, ↓sDrop, ↓sMut, ↓isLs, ↓mutK, ↓gAppend, ↓sSetM, ↓sSet, ↓sC, ↓sVar, ↓sTup, ↓sLst, ↓sFx, ↓sCons, ↓sNil, ↓sOp, ↓sUn, ↓sTst, ↓sTru, ↓sAnd, ↓sOr, ↓sNot, ↓sIfS, ↓sAndV, ↓sOrV, ↓sCB, ↓gLen, ↓sGet1, ↓sGet2, ↓toKey, ↓sRet, ↓sRetN, ↓sCall, ↓sNext, ↓gInt, ↓gCmp, ↓gEqB, ↓gIx, ↓gIsN, ↓isNonD, ↓truD, ↓gNegI, ↓sFor, ↓sLc, ↓sSlL, ↓sSlT, ↓sNoP, ↓sPart, ↓iRv, ↓lstK, ↓iA, ↓iE, ↓iZ, ↓iR1, ↓iR2, ↓valK, ↓valKs, ↓resK, ↓resKs, ↓slK, ↓List.getElem?_cons_succ, ↓List.getElem?_cons_zero, ↓List.set, ↓reduceIte, Bool.not_false, Bool.not_true, Bool.false_eq_true, id, Rs.v.injEq, D.bl.injEq, D.int.injEq, exists_eq_left', true_and, and_true, fD, str_dec, String.reduceEq, decide_false, decide_true, atI_0, atI_1, atI_2, Option.some.injEq, List.length_cons, List.length_nil, ↓sRetV, ↓gAdd, ↓sStarA, ↓gTin, ↓gTnin, ↓gTix, ↓sCallX, ↓sRaise, ↓sRaise1, ↓sTry, ↓gIsE, ↓sCallW, ↓sCF, ↓sCallO, ↓sSetO, ↓sSetIx, ↓setK, ↓sCat, ↓gIsi, ↓tyN, ↓gIsA, ↓gInsert, ↓gPool, ↓isIl, ↓isPl, ↓sSrtS, ↓gListF, ↓gTupA, ↓sNotV, ↓sLst, ↓sAsg, ↓wipeE, List.map_cons, List.map_nil, ↓g2I, keepAll, List.length_map, ↓gInt1, ↓gAbs, rng_len']
    exact ⟨by rw [sizeLine_eq]; omega, l ++ fs, .inr (by rw [List.map_append]), by rw [List.length_append]; omega, fun f m => by
      rcases List.mem_append.mp m with m | m
      · exact (h1 f m).okK
      · exact (h2 f m).okK, fun _ => hq⟩
/-- a drawn side -/
structure Dr (pl : Bool) (n : Nat) (l : List Fm) : Prop where
  asc : Asc l
  go : ∀ f ∈ l, f.ht ≤ 3 ∧ f.over nms = true ∧ (pl = true → f.plain = true)
  len : l.length ≤ n
def φGoal : GL := fun ds q => ∃ (n : Nat) (pl : Bool), ds = [.int n, .bl pl] ∧ 1 ≤ n ∧ n ≤ 5 ∧ ∀ l r : List Fm, Dr pl n l → Dr pl n r → q (sqD (l, r))
theorem ok_law_goal (T : Top w K mg) : FnOk P w K mg base CX0 11 T.f_law_goal T.d_law_goal ["pool", "most", "plain"] (spP K [] φGoal) := by
  have G_law_formula : FnOk P w K mg base CX0 10 T.f_law_formula T.d_law_formula ["pool", "depth", "plain"] (spFormula K 10) := ok_law_formula T 10
  refine okP [] T.F_law_goal sc_law_goal (fun ds q ⟨_, _, e, _⟩ => by rw [e]; rfl) fun cdv A outer s H E κ hr hT p ns ds q ⟨n, pl, e, hn1, hn, hq⟩ => ?_
  subst e
  have hu64 := hr.units
  have hu200 : (A.deeper (envOfC "_law_goal" (defScope s_law_goal) s.heap.objs.size T.f_law_goal cdv)).units + 200 < cLine := by have := hr.un; omega
  refine ⟨_, (dss_cons (ds_setM (i := 3) sc_law_goal.nd rfl (.inl rfl) (fx_lst da_nil))
    (dss_cons (ds_for (g := (gName 4)) PassesOwn.never rfl (pi_range1 (by rfl) T.z_range (da_cons dx_int da_nil)) it_rng1 (pg_name (i := 4) sc_law_goal.nd rfl (.inl rfl)) tg_name
      (dss_cons (ds_set (i := 5) sc_law_goal.nd rfl (.inl rfl) dx_int)
    (dss_cons (ds_if (dt_cmp (op_neA hu64) oa_ne (dv 0) (dx_fx (fx_lst da_nil)) (nomark _))
      (dss_one (ds_set (i := 5) sc_law_goal.nd rfl (.inl rfl) (dx_op op_mod oa_int (dx_callTy ca_int1 call_int1 (by rfl) T.z_int (by decide +kernel) (da_cons (dx_mut (i := 0) ma_popAt rfl (by first | exact Or.inl rfl | exact Or.inr (Or.inl rfl) | exact Or.inr (Or.inr rfl)) PySem.F.plainAttrs_list PySem.F.slot_list_pop PySem.F.type_list_pop mt_popAt (da_cons dx_int da_nil)) da_nil)) (dx_op op_addA oa_add (dv 1) dx_int))))
      dss_nil)
    (dss_one (ds_lend 0 (ds_expr (dx_mut (i := 3) ma_append rfl (by first | exact Or.inl rfl | exact Or.inr (Or.inl rfl) | exact Or.inr (Or.inr rfl)) PySem.F.plainAttrs_list PySem.F.slot_list_append PySem.F.type_list_append mt_append (da_cons (dx_callTy ca_tuple call_tuple_of (by rfl) T.z_tuple (by decide +kernel) (da_cons (dx_fx (fx_srtS rfl hu200 (by rfl) T.z_sorted (by decide +kernel) (by rfl) T.z_set (by decide +kernel) (da_cons (dx_fx (fx_lc (own := [("j", 6)]) (g := (gName 6)) rfl sc_law_goal.nd (pi_range1 (by rfl) T.z_range (da_cons (dv 5) da_nil)) it_rng1 (blkOk_by (N := ["pool", "most", "plain", "sides", "k", "many", "j"]) (sc := defScope s_law_goal) (by decide +kernel)) (fun _ _ _ _ _ => (pg_name (i := 6) sc_law_goal.nd rfl (.inl rfl))) tg_name (by decide) (fun _ _ _ _ _ => dts_nil) (fun _ _ _ _ _ => (dx_callO G_law_formula (c_formula) (hr.mono (by omega)) (by rfl) T.m_law_formula T.F_law_formula.kp T.b_law_formula pass0 (da_cons (dv 0) (da_cons dx_int (da_cons (dv 2) da_nil))))))) da_nil))) da_nil)) da_nil))))))))
    (dss_one (ds_retV (dx_tup (da_cons (dx_ix ix_seq oa_ix (dv 3) dx_int (fun _ _ => rfl)) (da_cons (dx_ix ix_seq oa_ix (dv 3) dx_int (fun _ _ => rfl)) da_nil))))))), ?_⟩
  show sSeq _ _ _ [.ls p (ns.map D.int), .val (.int n), .val (.bl pl), .no, .no, .no, .no]
  refine seq_step fun F k => ?_
  simp only [↓gTp, ↓gCn, ↓gN, ↓gNl, ↓sSeq, ↓sIf, ↓sDrop, ↓sMut, ↓isLs, ↓mutK, ↓gAppend, ↓sSetM, ↓sSet, ↓sC, ↓sVar, ↓sTup, ↓sLst, ↓sFx, ↓sCons, ↓sNil, ↓sOp, ↓sUn, ↓sTst, ↓sTru, ↓sAnd, ↓sOr, ↓sNot, ↓sIfS, ↓sAndV, ↓sOrV, ↓sCB, ↓gLen, ↓sGet1, ↓sGet2, ↓toKey, ↓sRet, ↓sRetN, ↓sCall, ↓sNext, ↓gInt, ↓gCmp, ↓gEqB, ↓gIx, ↓gIsN, ↓isNonD, ↓truD, ↓gNegI, ↓sFor, ↓sLc, ↓sSlL, ↓sSlT, ↓sNoP, ↓sPart, ↓iRv, ↓lstK, ↓iA, ↓iE, ↓iZ, ↓iR1, ↓iR2, ↓valK, ↓valKs, ↓resK, ↓resKs, ↓slK, ↓List.getElem?_cons_succ, ↓List.getElem?_cons_zero, ↓List.set, ↓reduceIte, Bool.not_false, Bool.not_true, Bool.false_eq_true, id, Rs.v.injEq, D.bl.injEq, D.int.injEq, exists_eq_left', true_and, and_true, fD, str_dec, String.reduceEq, decide_false, decide_true, atI_0, atI_1, atI_2, Option.some.injEq, List.length_cons, List.length_nil, ↓sRetV, ↓gAdd, ↓sStarA, ↓gTin, ↓gTnin, ↓gTix, ↓sCallX, ↓sRaise, ↓sRaise1, ↓sTry, ↓gIsE, ↓sCallW, ↓sCF, ↓sCallO, ↓sSetO, ↓sSetIx, ↓setK, ↓sCat, ↓gIsi, ↓tyN, ↓gIsA, ↓gInsert, ↓gPool, ↓isIl, ↓isPl, ↓sSrtS, ↓gListF, ↓gTupA, ↓sNotV, ↓sLst, ↓sAsg, ↓wipeE, List.map_cons, List.map_nil, ↓g2I, keepAll, List.length_map, ↓gInt1, ↓gAbs, rng_len']
  refine ⟨Nat.zero_le _, fun p2 => k _ (seq_step fun F k => ?_)⟩
  simp only [↓gTp, ↓gCn, ↓gN, ↓gNl, ↓sSeq, ↓sIf, ↓sDrop, ↓sMut, ↓isLs, ↓mutK, ↓gAppend, ↓sSetM, ↓sSet, ↓sC, ↓sVar, ↓sTup, ↓sLst, ↓sFx, ↓sCons, ↓sNil, ↓sOp, ↓sUn, ↓sTst, ↓sTru, ↓sAnd, ↓sOr, ↓sNot, ↓sIfS, ↓sAndV, ↓sOrV, ↓sCB, ↓gLen, ↓sGet1, ↓sGet2, ↓toKey, ↓sRet, ↓sRetN, ↓sCall, ↓sNext, ↓gInt, ↓gCmp, ↓gEqB, ↓gIx, ↓gIsN, ↓isNonD, ↓truD, ↓gNegI, ↓sFor, ↓sLc, ↓sSlL, ↓sSlT, ↓sNoP, ↓sPart, ↓iRv, ↓lstK, ↓iA, ↓iE, ↓iZ, ↓iR1, ↓iR2, ↓valK, ↓valKs, ↓resK, ↓resKs, ↓slK, ↓List.getElem?_cons_succ, ↓List.getElem?_cons_zero, ↓List.set, ↓reduceIte, Bool.not_false, Bool.not_true, Bool.false_eq_true, id, Rs.v.injEq, D.bl.injEq, D.int.injEq, exists_eq_left', true_and, and_true, fD, str_dec, String.reduceEq, decide_false, decide_true, atI_0, atI_1, atI_2, Option.some.injEq, List.length_cons, List.length_nil, ↓sRetV, ↓gAdd, ↓sStarA, ↓gTin, ↓gTnin, ↓gTix, ↓sCallX, ↓sRaise, ↓sRaise1, ↓sTry, ↓gIsE, ↓sCallW, ↓sCF, ↓sCallO, ↓sSetO, ↓sSetIx, ↓setK, ↓sCat, ↓gIsi, ↓tyN, ↓gIsA, ↓gInsert, ↓gPool, ↓isIl, ↓isPl, ↓sSrtS, ↓gListF, ↓gTupA, ↓sNotV, ↓sLst, ↓sAsg, ↓wipeE, List.map_cons, List.map_nil, ↓g2I, keepAll, List.length_map, ↓gInt1, ↓gAbs, rng_len']
  refine ⟨by decide, by decide, forW_inv (fun i ρ => ∃ (ms : List Int) (ls : List (List Fm)) (s4 s5 : Sl), ρ = [.ls p (ms.map D.int), .val (.int n), .val (.bl pl), .ls p2 (ls.map fun l => .tup (l.map fD)), s4, s5, .no] ∧ ls.length = i ∧ ∀ l ∈ ls, Dr pl n l) _ _ ⟨ns, [], .no, .no, rfl, rfl, fun _ h => nomatch h⟩ ?_ (fun _ _ _ => trivial) ?_⟩
  · rintro i x ρ E' hx ⟨ms, ls, s4, s5, rfl, hl, hls⟩ hE hbk hrt
    obtain ⟨hi, rfl⟩ := rng_at' hx
    simp only [↓gN, ↓List.set]
    refine seq_step fun F2 k2 => ?_
    simp only [↓gTp, ↓gCn, ↓gN, ↓gNl, ↓sSeq, ↓sIf, ↓sDrop, ↓sMut, ↓isLs, ↓mutK, ↓gAppend, ↓sSetM, ↓sSet, ↓sC, ↓sVar, ↓sTup, ↓sLst, ↓sFx, ↓sCons, ↓sNil, ↓sOp, ↓sUn, ↓sTst, ↓sTru, ↓sAnd, ↓sOr, ↓sNot, ↓sIfS, ↓sAndV, ↓sOrV, ↓sCB, ↓gLen, ↓sGet1, ↓sGet2, ↓toKey, ↓sRet, ↓sRetN, ↓sCall, ↓sNext, ↓gInt, ↓gCmp, ↓gEqB, ↓gIx, ↓gIsN, ↓isNonD, ↓truD, ↓gNegI, ↓sFor, ↓sLc, ↓sSlL, ↓sSlT, ↓sNoP, ↓sPart, ↓iRv, ↓lstK, ↓iA, ↓iE, ↓iZ, ↓iR1, ↓iR2, ↓valK, ↓valKs, ↓resK, ↓resKs, ↓slK, ↓List.getElem?_cons_succ, ↓List.getElem?_cons_zero, ↓List.set, ↓reduceIte, Bool.not_false, Bool.not_true, Bool.false_eq_true, id, Rs.v.injEq, D.bl.injEq, D.int.injEq, exists_eq_left', true_and, and_true, fD, str_dec, String.reduceEq, decide_false, decide_true, atI_0, atI_1, atI_2, Option.some.injEq, List.length_cons, List.length_nil, ↓sRetV, ↓gAdd, ↓sStarA, ↓gTin, ↓gTnin, ↓gTix, ↓sCallX, ↓sRaise, ↓sRaise1, ↓sTry, ↓gIsE, ↓sCallW, ↓sCF, ↓sCallO, ↓sSetO, ↓sSetIx, ↓setK, ↓sCat, ↓gIsi, ↓tyN, ↓gIsA, ↓gInsert, ↓gPool, ↓isIl, ↓isPl, ↓sSrtS, ↓gListF, ↓gTupA, ↓sNotV, ↓sLst, ↓sAsg, ↓wipeE, List.map_cons, List.map_nil, ↓g2I, keepAll, List.length_map, ↓gInt1, ↓gAbs, rng_len']
    refine k2 _ (seq_step fun F3 k3 => ?_)
    refine if_join (fun ρ => ∃ (ms : List Int) (mm : Nat), (mm ≤ n ∨ mm = 1) ∧ ρ = [.ls p (ms.map D.int), .val (.int n), .val (.bl pl), .ls p2 (ls.map fun l => .tup (l.map fD)), .val (.int (0 + (i : Int))), .val (.int mm), .no]) (fun ρ h => k3 ρ ?_) fun F4 k4 => ?_
    · obtain ⟨ms, mm, hmm, rfl⟩ := h
      refine ⟨p, ms, rfl, ?_⟩
      simp only [↓gTp, ↓gCn, ↓gN, ↓gNl, ↓sSeq, ↓sIf, ↓sDrop, ↓sMut, ↓isLs, ↓mutK, ↓gAppend, ↓sSetM, ↓sSet, ↓sC, ↓sVar, ↓sTup, ↓sLst, ↓sFx, ↓sCons, ↓sNil, ↓sOp, ↓sUn, ↓sTst, ↓sTru, ↓sAnd, ↓sOr, ↓sNot, ↓sIfS, ↓sAndV, ↓sOrV, ↓sCB, ↓gLen, ↓sGet1, ↓sGet2, ↓toKey, ↓sRet, ↓sRetN, ↓sCall, ↓sNext, ↓gInt, ↓gCmp, ↓gEqB, ↓gIx, ↓gIsN, ↓isNonD, ↓truD, ↓gNegI, ↓sFor, ↓sLc, ↓sSlL, ↓sSlT, ↓sNoP, ↓sPart, ↓iRv, ↓lstK, ↓iA, ↓iE, ↓iZ, ↓iR1, ↓iR2, ↓valK, ↓valKs, ↓resK, ↓resKs, ↓slK, ↓List.getElem?_cons_succ, ↓List.getElem?_cons_zero, ↓List.set, ↓reduceIte, Bool.not_false, Bool.not_true, Bool.false_eq_true, id, Rs.v.injEq, D.bl.injEq, D.int.injEq, exists_eq_left', true_and, and_true, fD, str_dec, String.reduceEq, decide_false, decide_true, atI_0, atI_1, atI_2, Option.some.injEq, List.length_cons, List.length_nil, ↓sRetV, ↓gAdd, ↓sStarA, ↓gTin, ↓gTnin, ↓gTix, ↓sCallX, ↓sRaise, ↓sRaise1, ↓sTry, ↓gIsE, ↓sCallW, ↓sCF, ↓sCallO, ↓sSetO, ↓sSetIx, ↓setK, ↓sCat, ↓gIsi, ↓tyN, ↓gIsA, ↓gInsert, ↓gPool, ↓isIl, ↓isPl, ↓sSrtS, ↓gListF, ↓gTupA, ↓sNotV, ↓sLst, ↓sAsg, ↓wipeE, List.map_cons, List.map_nil, ↓g2I, keepAll, List.length_map, ↓gInt1, ↓gAbs, rng_len']
      refine ⟨by omega, by omega, own_of rfl, by rw [sizeLine_eq]; omega, compW_inv (fun j acc => ∃ fs : List Fm, acc = fs.map fD ∧ fs.length = j ∧ ∀ f ∈ fs, f.ht ≤ 3 ∧ f.over nms = true ∧ (pl = true → f.plain = true)) _ _ ⟨[], rfl, rfl, fun _ h => nomatch h⟩ ?_ ?_⟩
      · rintro j x acc hx ⟨fs, rfl, hl2, hfs⟩ kk hkk
        simp only [↓gTp, ↓gCn, ↓gN, ↓gNl, ↓sSeq, ↓sIf, ↓sDrop, ↓sMut, ↓isLs, ↓mutK, ↓gAppend, ↓sSetM, ↓sSet, ↓sC, ↓sVar, ↓sTup, ↓sLst, ↓sFx, ↓sCons, ↓sNil, ↓sOp, ↓sUn, ↓sTst, ↓sTru, ↓sAnd, ↓sOr, ↓sNot, ↓sIfS, ↓sAndV, ↓sOrV, ↓sCB, ↓gLen, ↓sGet1, ↓sGet2, ↓toKey, ↓sRet, ↓sRetN, ↓sCall, ↓sNext, ↓gInt, ↓gCmp, ↓gEqB, ↓gIx, ↓gIsN, ↓isNonD, ↓truD, ↓gNegI, ↓sFor, ↓sLc, ↓sSlL, ↓sSlT, ↓sNoP, ↓sPart, ↓iRv, ↓lstK, ↓iA, ↓iE, ↓iZ, ↓iR1, ↓iR2, ↓valK, ↓valKs, ↓resK, ↓resKs, ↓slK, ↓List.getElem?_cons_succ, ↓List.getElem?_cons_zero, ↓List.set, ↓reduceIte, Bool.not_false, Bool.not_true, Bool.false_eq_true, id, Rs.v.injEq, D.bl.injEq, D.int.injEq, exists_eq_left', true_and, and_true, fD, str_dec, String.reduceEq, decide_false, decide_true, atI_0, atI_1, atI_2, Option.some.injEq, List.length_cons, List.length_nil, ↓sRetV, ↓gAdd, ↓sStarA, ↓gTin, ↓gTnin, ↓gTix, ↓sCallX, ↓sRaise, ↓sRaise1, ↓sTry, ↓gIsE, ↓sCallW, ↓sCF, ↓sCallO, ↓sSetO, ↓sSetIx, ↓setK, ↓sCat, ↓gIsi, ↓tyN, ↓gIsA, ↓gInsert, ↓gPool, ↓isIl, ↓isPl, ↓sSrtS, ↓gListF, ↓gTupA, ↓sNotV, ↓sLst, ↓sAsg, ↓wipeE, List.map_cons, List.map_nil, ↓g2I, keepAll, List.length_map, ↓gInt1, ↓gAbs, rng_len']
        refine ⟨rfl, 2, pl, rfl, by decide, by decide, fun f h1 h2 h3 => hkk _ ⟨fs ++ [f], fms_snoc rfl, by rw [List.length_append, hl2]; rfl, fun g hg => ?_⟩⟩
        rcases List.mem_append.mp hg with hg | hg
        · exact hfs g hg
        · rw [List.mem_singleton.mp hg]
          exact ⟨h1, h2, h3⟩
      · rintro acc ⟨fs, rfl, hl2, hfs⟩
        rw [rng_len'] at hl2
        have gf : ∀ f ∈ fs, Go f := fun f m => ⟨(hfs f m).2.1, Nat.le_trans (hfs f m).1 (by decide)⟩
        refine ⟨fs, .inl rfl, by omega, fun f m => (gf f m).okK, by rw [sizeLine_eq]; omega, fun ms' => (hE _ ⟨ms', ls ++ [dist fs], .val (.int (0 + (i : Int))), .val (.int mm), by rw [List.map_append]; rfl, by rw [List.length_append, hl]; rfl, fun l m => ?_⟩ trivial).1⟩
        rcases List.mem_append.mp m with m | m
        · exact hls l m
        · rw [List.mem_singleton.mp m]
          exact ⟨dist_asc _, fun f m => hfs f (dist_mem.mp m), by have := dist_len fs; omega⟩
    · simp only [↓gTp, ↓gCn, ↓gN, ↓gNl, ↓sSeq, ↓sIf, ↓sDrop, ↓sMut, ↓isLs, ↓mutK, ↓gAppend, ↓sSetM, ↓sSet, ↓sC, ↓sVar, ↓sTup, ↓sLst, ↓sFx, ↓sCons, ↓sNil, ↓sOp, ↓sUn, ↓sTst, ↓sTru, ↓sAnd, ↓sOr, ↓sNot, ↓sIfS, ↓sAndV, ↓sOrV, ↓sCB, ↓gLen, ↓sGet1, ↓sGet2, ↓toKey, ↓sRet, ↓sRetN, ↓sCall, ↓sNext, ↓gInt, ↓gCmp, ↓gIx, ↓gIsN, ↓isNonD, ↓truD, ↓gNegI, ↓sFor, ↓sLc, ↓sSlL, ↓sSlT, ↓sNoP, ↓sPart, ↓iRv, ↓lstK, ↓iA, ↓iE, ↓iZ, ↓iR1, ↓iR2, ↓valK, ↓valKs, ↓resK, ↓resKs, ↓slK, ↓List.getElem?_cons_succ, ↓List.getElem?_cons_zero, ↓List.set, ↓reduceIte, Bool.not_false, Bool.not_true, Bool.false_eq_true, id, Rs.v.injEq, D.bl.injEq, D.int.injEq, exists_eq_left', true_and, and_true, fD, str_dec, String.reduceEq, decide_false, decide_true, atI_0, atI_1, atI_2, Option.some.injEq, List.length_cons, List.length_nil, ↓sRetV, ↓gAdd, ↓sStarA, ↓gTin, ↓gTnin, ↓gTix, ↓sCallX, ↓sRaise, ↓sRaise1, ↓sTry, ↓gIsE, ↓sCallW, ↓sCF, ↓sCallO, ↓sSetO, ↓sSetIx, ↓setK, ↓sCat, ↓gIsi, ↓tyN, ↓gIsA, ↓gInsert, ↓gPool, ↓isIl, ↓isPl, ↓sSrtS, ↓gListF, ↓gTupA, ↓sNotV, ↓sLst, ↓sAsg, ↓wipeE, List.map_cons, List.map_nil, ↓g2I, keepAll, List.length_map, ↓gInt1, ↓gAbs, rng_len']
      refine ⟨Nat.zero_le _, ints_ne ⟨_, rfl, ?_⟩⟩
      cases ms with
      | nil => exact k4 _ ⟨[], 1, by omega, rfl⟩
      | cons z ms =>
        obtain ⟨mm, hmm⟩ : ∃ mm : Nat, z % ((n : Int) + 1) = (mm : Int) := ⟨(z % ((n : Int) + 1)).toNat, by rw [Int.toNat_of_nonneg (Int.emod_nonneg _ (by omega))]⟩
        have hlt : z % ((n : Int) + 1) < (n : Int) + 1 := Int.emod_lt_of_pos _ (by omega)
        refine ⟨by decide, by decide, 0, .int z, seqIndex_of (by decide) (by rw [List.map_cons, List.length_cons]; omega), rfl, ?_⟩
        show 0 < (n : Int) + 1 ∧ F4 _
        refine ⟨by omega, k4 _ ⟨ms, mm, by omega, ?_⟩⟩
        rw [hmm]
        rfl
  · rintro ρ ⟨ms, ls, s4, s5, rfl, hl, hls⟩
    obtain ⟨l0, l1, rfl⟩ : ∃ l0 l1, ls = [l0, l1] := by
      match ls, hl with
      | [a, b], _ => exact ⟨a, b, rfl⟩
    refine k _ ?_
    simp only [↓gTp, ↓gCn, ↓gN, ↓gNl, ↓sSeq, ↓sIf, ↓sDrop, ↓sMut, ↓isLs, ↓mutK, ↓gAppend, ↓sSetM, ↓sSet, ↓sC, ↓sVar, ↓sTup, ↓sLst, ↓sFx, ↓sCons, ↓sNil, ↓sOp, ↓sUn, ↓sTst, ↓sTru, ↓sAnd, ↓sOr, ↓sNot, ↓sIfS, ↓sAndV, ↓sOrV, ↓sCB, ↓gLen, ↓sGet1, ↓sGet2, ↓toKey, ↓sRet, ↓sRetN, ↓sCall, ↓sNext, ↓gInt, ↓gCmp, ↓gEqB, ↓gIx, ↓gIsN, ↓isNonD, ↓truD, ↓gNegI, ↓sFor, ↓sLc, ↓sSlL, ↓sSlT, ↓sNoP, ↓sPart, ↓iRv, ↓lstK, ↓iA, ↓iE, ↓iZ, ↓iR1, ↓iR2, ↓valK, ↓valKs, ↓resK, ↓resKs, ↓slK, ↓List.getElem?_cons_succ, ↓List.getElem?_cons_zero, ↓List.set, ↓reduceIte, Bool.not_false, Bool.not_true, Bool.false_eq_true, id, Rs.v.injEq, D.bl.injEq, D.int.injEq, exists_eq_left', true_and, and_true, fD, str_dec, String.reduceEq, decide_false, decide_true, atI_0, atI_1, atI_2, Option.some.injEq, List.length_cons, List.length_nil, ↓sRetV, ↓gAdd, ↓sStarA, ↓gTin, ↓gTnin, ↓gTix, ↓sCallX, ↓sRaise, ↓sRaise1, ↓sTry, ↓gIsE, ↓sCallW, ↓sCF, ↓sCallO, ↓sSetO, ↓sSetIx, ↓setK, ↓sCat, ↓gIsi, ↓tyN, ↓gIsA, ↓gInsert, ↓gPool, ↓isIl, ↓isPl, ↓sSrtS, ↓gListF, ↓gTupA, ↓sNotV, ↓sLst, ↓sAsg, ↓wipeE, List.map_cons, List.map_nil, ↓g2I, keepAll, List.length_map, ↓gInt1, ↓gAbs, rng_len']
    exact ⟨by decide, hq l0 l1 (hls l0 (by simp)) (hls l1 (by simp)), ms, rfl⟩
def φBoxed (m : Nat) : GL := fun ds q => ∃ f : Fm, ds = [fD f] ∧ f.ht ≤ m ∧ q (.bl (!f.plain))
theorem ok_law_boxed (T : Top w K mg) : ∀ m : Nat, FnOk P w K mg base CX0 (m + 1) T.f_law_boxed T.d_law_boxed ["a"] (spD K TT (φBoxed m)) := by
  intro m
  induction m with
  | zero =>
    refine FnOk.mono (j := 0) (fn_none fun vs H Q E h => ?_) (Nat.zero_le _)
    obtain ⟨ds, q, _, _, ⟨f, _, h, _⟩, _⟩ := h
    exact absurd f.ht_pos (by omega)
  | succ m G_law_boxed =>
    refine okD TT T.F_law_boxed sc_law_boxed (fun ds q ⟨_, e, _⟩ => by rw [e]; rfl) fun cdv A outer s H E κ hr hT ds q ⟨f, e, hh, hq⟩ => ?_
    subst e
    subst hT
    have hu64 := hr.units
    have hu65 : (A.deeper (envOfC "_law_boxed" (defScope s_law_boxed) s.heap.objs.size T.f_law_boxed cdv)).units + 65 < cLine := by have := hr.un; omega
    refine ⟨_, (dss_cons (ds_if (dt_cmp (op_eqA hu64) oa_eq (dx_ix ix_seq oa_ix (dv 0) dx_int (fun _ _ => rfl)) dx_str (nomark _))
      (dss_one (ds_ret dx_bl))
      dss_nil)
    (dss_one (ds_ret (dx_and (dx_cmp (op_notInA hu65) oa_notIn (dx_ix ix_seq oa_ix (dv 0) dx_int (fun _ _ => rfl)) (dx_tup (da_cons dx_str (da_cons dx_str da_nil))) rfl) (dx_one (dx_cmp (op_inA hu65) oa_in dx_bl (dx_fx (fx_lc (own := [("part", 1)]) (g := (gName 1)) rfl sc_law_boxed.nd (pi_any (dx_slT (dv 0) (do_some dx_int) do_none)) it_any (blkOk_by (N := ["a", "part"]) (sc := defScope s_law_boxed) (by decide +kernel)) (fun _ _ _ _ _ => (pg_name (i := 1) sc_law_boxed.nd rfl (.inl rfl))) tg_name (by decide) (fun _ _ _ _ _ => dts_nil) (fun _ _ _ _ _ => (dx_call G_law_boxed (hr.mono (by omega)) (by rfl) T.m_law_boxed T.F_law_boxed.kp T.b_law_boxed pass0 (da_cons (dv 1) da_nil))))) rfl)))))), ?_⟩
    rw [show startE ["a", "part"] [fD f] = [.val (fD f), .no] from rfl]
    have L2 : 0 + 1 + 1 ≤ sizeLine := by show 2 ≤ sizeLine; decide
    cases f with
    | var n =>
      simp only [↓gTp, ↓gCn, ↓gN, ↓gNl, ↓sSeq, ↓sIf, ↓sDrop, ↓sMut, ↓isLs, ↓mutK, ↓gAppend, ↓sSetM, ↓sSet, ↓sC, ↓sVar, ↓sTup, ↓sLst, ↓sFx, ↓sCons, ↓sNil, ↓sOp, ↓sUn, ↓sTst, ↓sTru, ↓sAnd, ↓sOr, ↓sNot, ↓sIfS, ↓sAndV, ↓sOrV, ↓sCB, ↓gLen, ↓sGet1, ↓sGet2, ↓toKey, ↓sRet, ↓sRetN, ↓sCall, ↓sNext, ↓gInt, ↓gCmp, ↓gIx, ↓gIsN, ↓isNonD, ↓truD, ↓gNegI, ↓sFor, ↓sLc, ↓sSlL, ↓sSlT, ↓sNoP, ↓sPart, ↓iRv, ↓lstK, ↓iA, ↓iE, ↓iZ, ↓iR1, ↓iR2, ↓valK, ↓valKs, ↓resK, ↓resKs, ↓slK, ↓List.getElem?_cons_succ, ↓List.getElem?_cons_zero, ↓List.set, ↓reduceIte, Bool.not_false, Bool.not_true, Bool.false_eq_true, id, Rs.v.injEq, D.bl.injEq, D.int.injEq, exists_eq_left', true_and, and_true, fD, str_dec, String.reduceEq, decide_false, decide_true, atI_0, atI_1, atI_2, Option.some.injEq, List.length_cons, List.length_nil, ↓gEqB_str, ↓gInB, flatD, eqF, str_beq, List.all_cons, List.all_nil, Bool.or_true, Bool.true_or, Bool.and_true, Bool.or_false, Bool.false_or, ↓sDisp, ↓dpairs, mergeD, putD, findK, key_dec, List.foldl_cons, List.foldl_nil, List.any_cons, List.any_nil, List.nil_append, List.cons_append, List.find?_cons, List.find?_nil, Option.map_some, Option.map_none, Option.getD_some, Option.getD_none, D.dct.injEq]
      exact ⟨L2, fun _ => hq⟩
    | fal =>
      simp only [↓gTp, ↓gCn, ↓gN, ↓gNl, ↓sSeq, ↓sIf, ↓sDrop, ↓sMut, ↓isLs, ↓mutK, ↓gAppend, ↓sSetM, ↓sSet, ↓sC, ↓sVar, ↓sTup, ↓sLst, ↓sFx, ↓sCons, ↓sNil, ↓sOp, ↓sUn, ↓sTst, ↓sTru, ↓sAnd, ↓sOr, ↓sNot, ↓sIfS, ↓sAndV, ↓sOrV, ↓sCB, ↓gLen, ↓sGet1, ↓sGet2, ↓toKey, ↓sRet, ↓sRetN, ↓sCall, ↓sNext, ↓gInt, ↓gCmp, ↓gIx, ↓gIsN, ↓isNonD, ↓truD, ↓gNegI, ↓sFor, ↓sLc, ↓sSlL, ↓sSlT, ↓sNoP, ↓sPart, ↓iRv, ↓lstK, ↓iA, ↓iE, ↓iZ, ↓iR1, ↓iR2, ↓valK, ↓valKs, ↓resK, ↓resKs, ↓slK, ↓List.getElem?_cons_succ, ↓List.getElem?_cons_zero, ↓List.set, ↓reduceIte, Bool.not_false, Bool.not_true, Bool.false_eq_true, id, Rs.v.injEq, D.bl.injEq, D.int.injEq, exists_eq_left', true_and, and_true, fD, str_dec, String.reduceEq, decide_false, decide_true, atI_0, atI_1, atI_2, Option.some.injEq, List.length_cons, List.length_nil, ↓gEqB_str, ↓gInB, flatD, eqF, str_beq, List.all_cons, List.all_nil, Bool.or_true, Bool.true_or, Bool.and_true, Bool.or_false, Bool.false_or, ↓sDisp, ↓dpairs, mergeD, putD, findK, key_dec, List.foldl_cons, List.foldl_nil, List.any_cons, List.any_nil, List.nil_append, List.cons_append, List.find?_cons, List.find?_nil, Option.map_some, Option.map_none, Option.getD_some, Option.getD_none, D.dct.injEq]
      exact ⟨L2, fun _ => hq⟩
    | box a =>
      simp only [↓gTp, ↓gCn, ↓gN, ↓gNl, ↓sSeq, ↓sIf, ↓sDrop, ↓sMut, ↓isLs, ↓mutK, ↓gAppend, ↓sSetM, ↓sSet, ↓sC, ↓sVar, ↓sTup, ↓sLst, ↓sFx, ↓sCons, ↓sNil, ↓sOp, ↓sUn, ↓sTst, ↓sTru, ↓sAnd, ↓sOr, ↓sNot, ↓sIfS, ↓sAndV, ↓sOrV, ↓sCB, ↓gLen, ↓sGet1, ↓sGet2, ↓toKey, ↓sRet, ↓sRetN, ↓sCall, ↓sNext, ↓gInt, ↓gCmp, ↓gIx, ↓gIsN, ↓isNonD, ↓truD, ↓gNegI, ↓sFor, ↓sLc, ↓sSlL, ↓sSlT, ↓sNoP, ↓sPart, ↓iRv, ↓lstK, ↓iA, ↓iE, ↓iZ, ↓iR1, ↓iR2, ↓valK, ↓valKs, ↓resK, ↓resKs, ↓slK, ↓List.getElem?_cons_succ, ↓List.getElem?_cons_zero, ↓List.set, ↓reduceIte, Bool.not_false, Bool.not_true, Bool.false_eq_true, id, Rs.v.injEq, D.bl.injEq, D.int.injEq, exists_eq_left', true_and, and_true, fD, str_dec, String.reduceEq, decide_false, decide_true, atI_0, atI_1, atI_2, Option.some.injEq, List.length_cons, List.length_nil, ↓gEqB_str, ↓gInB, flatD, eqF, str_beq, List.all_cons, List.all_nil, Bool.or_true, Bool.true_or, Bool.and_true, Bool.or_false, Bool.false_or, ↓sDisp, ↓dpairs, mergeD, putD, findK, key_dec, List.foldl_cons, List.foldl_nil, List.any_cons, List.any_nil, List.nil_append, List.cons_append, List.find?_cons, List.find?_nil, Option.map_some, Option.map_none, Option.getD_some, Option.getD_none, D.dct.injEq]
      exact fun _ => hq
    | and a b =>
      have hh : max a.ht b.ht + 1 ≤ m + 1 := hh
      have hq : q (.bl (!(a.plain && b.plain))) := hq
      simp only [↓gTp, ↓gCn, ↓gN, ↓gNl, ↓sSeq, ↓sIf, ↓sDrop, ↓sMut, ↓isLs, ↓mutK, ↓gAppend, ↓sSetM, ↓sSet, ↓sC, ↓sVar, ↓sTup, ↓sLst, ↓sFx, ↓sCons, ↓sNil, ↓sOp, ↓sUn, ↓sTst, ↓sTru, ↓sAnd, ↓sOr, ↓sNot, ↓sIfS, ↓sAndV, ↓sOrV, ↓sCB, ↓gLen, ↓sGet1, ↓sGet2, ↓toKey, ↓sRet, ↓sRetN, ↓sCall, ↓sNext, ↓gInt, ↓gCmp, ↓gIx, ↓gIsN, ↓isNonD, ↓truD, ↓gNegI, ↓sFor, ↓sLc, ↓sSlL, ↓sSlT, ↓sNoP, ↓sPart, ↓iRv, ↓lstK, ↓iA, ↓iE, ↓iZ, ↓iR1, ↓iR2, ↓valK, ↓valKs, ↓resK, ↓resKs, ↓slK, ↓List.getElem?_cons_succ, ↓List.getElem?_cons_zero, ↓List.set, ↓reduceIte, Bool.not_false, Bool.not_true, Bool.false_eq_true, id, Rs.v.injEq, D.bl.injEq, D.int.injEq, exists_eq_left', true_and, and_true, fD, str_dec, String.reduceEq, decide_false, decide_true, atI_0, atI_1, atI_2, Option.some.injEq, List.length_cons, List.length_nil, ↓gEqB_str, ↓gInB, flatD, eqF, str_beq, List.all_cons, List.all_nil, Bool.or_true, Bool.true_or, Bool.and_true, Bool.or_false, Bool.false_or, ↓sDisp, ↓dpairs, mergeD, putD, findK, key_dec, List.foldl_cons, List.foldl_nil, List.any_cons, List.any_nil, List.nil_append, List.cons_append, List.find?_cons, List.find?_nil, Option.map_some, Option.map_none, Option.getD_some, Option.getD_none, D.dct.injEq]
      refine ⟨L2, trivial, fun i hi => by rw [List.mem_singleton.mp hi]; rfl, (by show 2 ≤ sizeLine; decide), ?_⟩
      rw [show wipeE [Sl.val (D.tup [D.str "and", fD a, fD b]), Sl.no] (List.map (fun x => x.snd) [(("part" : Str), 1)]) = [Sl.val (D.tup [D.str "and", fD a, fD b]), Sl.no] from rfl, show cutD [D.str "and", fD a, fD b] (some 1) none = [a, b].map fD from rfl]
      refine compW_map fD (fun g => D.bl (!g.plain)) [a, b] [] _ (fun x hx k hk => ⟨x, rfl, ?_, rfl, hk⟩) (.inl ⟨rfl, fun _ => ?_⟩)
      · rcases List.mem_cons.mp hx with e | hx
        · rw [e]; omega
        · rw [List.mem_singleton.mp hx]; omega
      · show q (.bl (((!a.plain) == true) || (((!b.plain) == true) || false)))
        cases ha : a.plain <;> cases hb : b.plain <;> rw [ha, hb] at hq <;> exact hq
    | or a b =>
      have hh : max a.ht b.ht + 1 ≤ m + 1 := hh
      have hq : q (.bl (!(a.plain && b.plain))) := hq
      simp only [↓gTp, ↓gCn, ↓gN, ↓gNl, ↓sSeq, ↓sIf, ↓sDrop, ↓sMut, ↓isLs, ↓mutK, ↓gAppend, ↓sSetM, ↓sSet, ↓sC, ↓sVar, ↓sTup, ↓sLst, ↓sFx, ↓sCons, ↓sNil, ↓sOp, ↓sUn, ↓sTst, ↓sTru, ↓sAnd, ↓sOr, ↓sNot, ↓sIfS, ↓sAndV, ↓sOrV, ↓sCB, ↓gLen, ↓sGet1, ↓sGet2, ↓toKey, ↓sRet, ↓sRetN, ↓sCall, ↓sNext, ↓gInt, ↓gCmp, ↓gIx, ↓gIsN, ↓isNonD, ↓truD, ↓gNegI, ↓sFor, ↓sLc, ↓sSlL, ↓sSlT, ↓sNoP, ↓sPart, ↓iRv, ↓lstK, ↓iA, ↓iE, ↓iZ, ↓iR1, ↓iR2, ↓valK, ↓valKs, ↓resK, ↓resKs, ↓slK, ↓List.getElem?_cons_succ, ↓List.getElem?_cons_zero, ↓List.set, ↓reduceIte, Bool.not_false, Bool.not_true, Bool.false_eq_true, id, Rs.v.injEq, D.bl.injEq, D.int.injEq, exists_eq_left', true_and, and_true, fD, str_dec, String.reduceEq, decide_false, decide_true, atI_0, atI_1, atI_2, Option.some.injEq, List.length_cons, List.length_nil, ↓gEqB_str, ↓gInB, flatD, eqF, str_beq, List.all_cons, List.all_nil, Bool.or_true, Bool.true_or, Bool.and_true, Bool.or_false, Bool.false_or, ↓sDisp, ↓dpairs, mergeD, putD, findK, key_dec, List.foldl_cons, List.foldl_nil, List.any_cons, List.any_nil, List.nil_append, List.cons_append, List.find?_cons, List.find?_nil, Option.map_some, Option.map_none, Option.getD_some, Option.getD_none, D.dct.injEq]
      refine ⟨L2, trivial, fun i hi => by rw [List.mem_singleton.mp hi]; rfl, (by show 2 ≤ sizeLine; decide), ?_⟩
      rw [show wipeE [Sl.val (D.tup [D.str "or", fD a, fD b]), Sl.no] (List.map (fun x => x.snd) [(("part" : Str), 1)]) = [Sl.val (D.tup [D.str "or", fD a, fD b]), Sl.no] from rfl, show cutD [D.str "or", fD a, fD b] (some 1) none = [a, b].map fD from rfl]
      refine compW_map fD (fun g => D.bl (!g.plain)) [a, b] [] _ (fun x hx k hk => ⟨x, rfl, ?_, rfl, hk⟩) (.inl ⟨rfl, fun _ => ?_⟩)
      · rcases List.mem_cons.mp hx with e | hx
        · rw [e]; omega
        · rw [List.mem_singleton.mp hx]; omega
      · show q (.bl (((!a.plain) == true) || (((!b.plain) == true) || false)))
        cases ha : a.plain <;> cases hb : b.plain <;> rw [ha, hb] at hq <;> exact hq
    | imp a b =>
      have hh : max a.ht b.ht + 1 ≤ m + 1 := hh
      have hq : q (.bl (!(a.plain && b.plain))) := hq
      simp only [↓gTp, ↓gCn, ↓gN, ↓gNl, ↓sSeq, ↓sIf, ↓sDrop, ↓sMut, ↓isLs, ↓mutK, ↓gAppend, ↓sSetM, ↓sSet, ↓sC, ↓sVar, ↓sTup, ↓sLst, ↓sFx, ↓sCons, ↓sNil, ↓sOp, ↓sUn, ↓sTst, ↓sTru, ↓sAnd, ↓sOr, ↓sNot, ↓sIfS, ↓sAndV, ↓sOrV, ↓sCB, ↓gLen, ↓sGet1, ↓sGet2, ↓toKey, ↓sRet, ↓sRetN, ↓sCall, ↓sNext, ↓gInt, ↓gCmp, ↓gIx, ↓gIsN, ↓isNonD, ↓truD, ↓gNegI, ↓sFor, ↓sLc, ↓sSlL, ↓sSlT, ↓sNoP, ↓sPart, ↓iRv, ↓lstK, ↓iA, ↓iE, ↓iZ, ↓iR1, ↓iR2, ↓valK, ↓valKs, ↓resK, ↓resKs, ↓slK, ↓List.getElem?_cons_succ, ↓List.getElem?_cons_zero, ↓List.set, ↓reduceIte, Bool.not_false, Bool.not_true, Bool.false_eq_true, id, Rs.v.injEq, D.bl.injEq, D.int.injEq, exists_eq_left', true_and, and_true, fD, str_dec, String.reduceEq, decide_false, decide_true, atI_0, atI_1, atI_2, Option.some.injEq, List.length_cons, List.length_nil, ↓gEqB_str, ↓gInB, flatD, eqF, str_beq, List.all_cons, List.all_nil, Bool.or_true, Bool.true_or, Bool.and_true, Bool.or_false, Bool.false_or, ↓sDisp, ↓dpairs, mergeD, putD, findK, key_dec, List.foldl_cons, List.foldl_nil, List.any_cons, List.any_nil, List.nil_append, List.cons_append, List.find?_cons, List.find?_nil, Option.map_some, Option.map_none, Option.getD_some, Option.getD_none, D.dct.injEq]
      refine ⟨L2, trivial, fun i hi => by rw [List.mem_singleton.mp hi]; rfl, (by show 2 ≤ sizeLine; decide), ?_⟩
      rw [show wipeE [Sl.val (D.tup [D.str "implies", fD a, fD b]), Sl.no] (List.map (fun x => x.snd) [(("part" : Str), 1)]) = [Sl.val (D.tup [D.str "implies", fD a, fD b]), Sl.no] from rfl, show cutD [D.str "implies", fD a, fD b] (some 1) none = [a, b].map fD from rfl]
      refine compW_map fD (fun g => D.bl (!g.plain)) [a, b] [] _ (fun x hx k hk => ⟨x, rfl, ?_, rfl, hk⟩) (.inl ⟨rfl, fun _ => ?_⟩)
      · rcases List.mem_cons.mp hx with e | hx
        · rw [e]; omega
        · rw [List.mem_singleton.mp hx]; omega
      · show q (.bl (((!a.plain) == true) || (((!b.plain) == true) || false)))
        cases ha : a.plain <;> cases hb : b.plain <;> rw [ha, hb] at hq <;> exact hq

/-! ### what is due -/
def resD : Option (List Sq) → D
  | none => .non
  | some ps => .lst (ps.map sqD)
def modB (lg : Str) : Bool := ([D.str "K", .str "D", .str "T", .str "K4", .str "D4", .str "S4", .str "S5", .str "GL", .str "Grz"] : List D).any fun y => eqF y (.str lg)
theorem mod_int : ∀ lg ∈ lgs, modB lg = !intB lg := by decide +kernel
def rus : List Str := ["axiom", "falsum", "cut", "and_left", "and_right", "or_left", "or_right", "implies_left", "implies_right", "weaken", "none"]
def φDue : GL := fun ds q => ∃ (lg ru : Str) (l r : List Fm) (m : Option Fm), ds = [.str lg, .str ru, sqD (l, r), mD m] ∧ lg ∈ lgs ∧ ru ∈ rus ∧ (∀ f ∈ l, Go f) ∧ l.length ≤ 20 ∧ (∀ f ∈ r, Go f) ∧ r.length ≤ 20 ∧ (∀ f, m = some f → Go f) ∧ q (resD (premsL ru lg l r m))
theorem in_if {f : Fm} {l : List Fm} {A B : Prop} (hf : Go f) (hl : ∀ g ∈ l, Go g) (h1 : f ∈ l → A) (h2 : f ∉ l → B) : gInT id (fD f) (.tup (l.map fD)) (fun z => ∃ b, z = D.bl b ∧ if b = true then A else B) :=
  ⟨f, l, rfl, .inl rfl, hf.okE, fun g m => (hl g m).okE, _, rfl, iteD' (fun h => h1 (of_decide_eq_true h)) (fun h => h2 fun m => h (decide_eq_true m))⟩
theorem one_len {a : Fm} : [a].length ≤ 30 := by show 1 ≤ 30; decide
theorem two_len {a b : Fm} : [a, b].length ≤ 30 := by show 2 ≤ 30; decide
theorem ok_law_logical (T : Top w K mg) : FnOk P w K mg base CX0 12 T.f_law_logical T.d_law_logical ["logic", "rule", "goal", "m"] (spD K TT φDue) := by
  have G_law_add := ok_law_add (P := P) (w := w) (base := base) (TT := TT) T
  have G_law_boxed := ok_law_boxed (P := P) (w := w) (base := base) (TT := TT) T 8
  refine okD TT T.F_law_logical sc_law_logical (fun ds q ⟨_, _, _, _, _, e, _⟩ => by rw [e]; rfl) fun cdv A outer s H E κ hr hT ds q ⟨lg, ru, l, r, m, e, hlg, hru, gl, nl, gr, nr, hm, hq⟩ => ?_
  subst e
  subst hT
  have hu64 := hr.units
  have hu65 : (A.deeper (envOfC "_law_logical" (defScope s_law_logical) s.heap.objs.size T.f_law_logical cdv)).units + 65 < cLine := by have := hr.un; omega
  refine ⟨_, (dss_cons (ds_set (i := 4) sc_law_logical.nd rfl (.inl rfl) (dx_ix ix_seq oa_ix (dv 2) dx_int (fun _ _ => rfl)))
    (dss_cons (ds_set (i := 5) sc_law_logical.nd rfl (.inl rfl) (dx_ix ix_seq oa_ix (dv 2) dx_int (fun _ _ => rfl)))
    (dss_cons (ds_set (i := 6) sc_law_logical.nd rfl (.inl rfl) (dx_cmp (op_inA hu65) oa_in (dv 0) (dx_tup (da_cons dx_str (da_cons dx_str (da_cons dx_str (da_cons dx_str (da_cons dx_str (da_cons dx_str (da_cons dx_str (da_cons dx_str (da_cons dx_str da_nil)))))))))) rfl))
    (dss_cons (ds_if (dt_cmp (op_eqA hu64) oa_eq (dv 1) dx_str (nomark _))
      (dss_cons (ds_if (PW.pt (dw_and (dt_cmp op_isN1 oa_isN (dv 3) dx_non (nomark _)) (dw_and1 (dt_cmp (op_inT hu65) oa_inT (dx_tup (da_cons dx_str da_nil)) (dv 4) rfl))))
      (dss_one (ds_ret (dx_fx (fx_lst da_nil))))
      dss_nil)
    (dss_one (ds_ret dx_non)))
      dss_nil)
    (dss_cons (ds_if (dt_cmp op_isN1 oa_isN (dv 3) dx_non (nomark _))
      (dss_one (ds_ret dx_non))
      dss_nil)
    (dss_cons (ds_if (PW.pt (dw_and (dt_cmp (op_eqA hu64) oa_eq (dv 1) dx_str (nomark _)) (dw_and (dt_cmp (op_inT hu65) oa_inT (dv 3) (dv 4) rfl) (dw_and1 (dt_cmp (op_inT hu65) oa_inT (dv 3) (dv 5) rfl)))))
      (dss_one (ds_ret (dx_fx (fx_lst da_nil))))
      dss_nil)
    (dss_cons (ds_if (PW.pt (dw_and (dt_cmp (op_eqA hu64) oa_eq (dv 1) dx_str (nomark _)) (dw_and1 (PW.pt (dw_or (dt_truth (dv 6) (fun _ => rfl)) (dw_or1 (dt_not (dt_truth (dx_call G_law_boxed (hr.mono (by omega)) (by rfl) T.m_law_boxed T.F_law_boxed.kp T.b_law_boxed pass0 (da_cons (dv 3) da_nil)) (fun _ => rfl)))))))))
      (dss_one (ds_ret (dx_fx (fx_lst (da_cons (dx_tup (da_cons (dv 4) (da_cons (dx_call G_law_add (hr.mono (by omega)) (by rfl) T.m_law_add T.F_law_add.kp T.b_law_add pass0 (da_cons (dv 5) (da_cons (dx_fx (fx_lst (da_cons (dv 3) da_nil))) da_nil))) da_nil))) (da_cons (dx_tup (da_cons (dx_call G_law_add (hr.mono (by omega)) (by rfl) T.m_law_add T.F_law_add.kp T.b_law_add pass0 (da_cons (dv 4) (da_cons (dx_fx (fx_lst (da_cons (dv 3) da_nil))) da_nil))) (da_cons (dv 5) da_nil))) da_nil))))))
      dss_nil)
    (dss_cons (ds_if (PW.pt (dw_and (dt_cmp (op_eqA hu64) oa_eq (dv 1) dx_str (nomark _)) (dw_and (dt_cmp (op_inT hu65) oa_inT (dv 3) (dv 4) rfl) (dw_and1 (dt_cmp (op_eqA hu64) oa_eq (dx_ix ix_seq oa_ix (dv 3) dx_int (fun _ _ => rfl)) dx_str (nomark _))))))
      (dss_one (ds_ret (dx_fx (fx_lst (da_cons (dx_tup (da_cons (dx_call G_law_add (hr.mono (by omega)) (by rfl) T.m_law_add T.F_law_add.kp T.b_law_add pass0 (da_cons (dv 4) (da_cons (dx_slT (dv 3) (do_some dx_int) do_none) da_nil))) (da_cons (dv 5) da_nil))) da_nil)))))
      dss_nil)
    (dss_cons (ds_if (PW.pt (dw_and (dt_cmp (op_eqA hu64) oa_eq (dv 1) dx_str (nomark _)) (dw_and (dt_cmp (op_inT hu65) oa_inT (dv 3) (dv 5) rfl) (dw_and1 (dt_cmp (op_eqA hu64) oa_eq (dx_ix ix_seq oa_ix (dv 3) dx_int (fun _ _ => rfl)) dx_str (nomark _))))))
      (dss_one (ds_ret (dx_fx (fx_lst (da_cons (dx_tup (da_cons (dv 4) (da_cons (dx_call G_law_add (hr.mono (by omega)) (by rfl) T.m_law_add T.F_law_add.kp T.b_law_add pass0 (da_cons (dv 5) (da_cons (dx_fx (fx_lst (da_cons (dx_ix ix_seq oa_ix (dv 3) dx_int (fun _ _ => rfl)) da_nil))) da_nil))) da_nil))) (da_cons (dx_tup (da_cons (dv 4) (da_cons (dx_call G_law_add (hr.mono (by omega)) (by rfl) T.m_law_add T.F_law_add.kp T.b_law_add pass0 (da_cons (dv 5) (da_cons (dx_fx (fx_lst (da_cons (dx_ix ix_seq oa_ix (dv 3) dx_int (fun _ _ => rfl)) da_nil))) da_nil))) da_nil))) da_nil))))))
      dss_nil)
    (dss_cons (ds_if (PW.pt (dw_and (dt_cmp (op_eqA hu64) oa_eq (dv 1) dx_str (nomark _)) (dw_and (dt_cmp (op_inT hu65) oa_inT (dv 3) (dv 4) rfl) (dw_and1 (dt_cmp (op_eqA hu64) oa_eq (dx_ix ix_seq oa_ix (dv 3) dx_int (fun _ _ => rfl)) dx_str (nomark _))))))
      (dss_one (ds_ret (dx_fx (fx_lst (da_cons (dx_tup (da_cons (dx_call G_law_add (hr.mono (by omega)) (by rfl) T.m_law_add T.F_law_add.kp T.b_law_add pass0 (da_cons (dv 4) (da_cons (dx_fx (fx_lst (da_cons (dx_ix ix_seq oa_ix (dv 3) dx_int (fun _ _ => rfl)) da_nil))) da_nil))) (da_cons (dv 5) da_nil))) (da_cons (dx_tup (da_cons (dx_call G_law_add (hr.mono (by omega)) (by rfl) T.m_law_add T.F_law_add.kp T.b_law_add pass0 (da_cons (dv 4) (da_cons (dx_fx (fx_lst (da_cons (dx_ix ix_seq oa_ix (dv 3) dx_int (fun _ _ => rfl)) da_nil))) da_nil))) (da_cons (dv 5) da_nil))) da_nil))))))
      dss_nil)
    (dss_cons (ds_if (PW.pt (dw_and (dt_cmp (op_eqA hu64) oa_eq (dv 1) dx_str (nomark _)) (dw_and (dt_cmp (op_inT hu65) oa_inT (dv 3) (dv 5) rfl) (dw_and1 (dt_cmp (op_eqA hu64) oa_eq (dx_ix ix_seq oa_ix (dv 3) dx_int (fun _ _ => rfl)) dx_str (nomark _))))))
      (dss_one (ds_ret (dx_fx (fx_lst (da_cons (dx_tup (da_cons (dv 4) (da_cons (dx_call G_law_add (hr.mono (by omega)) (by rfl) T.m_law_add T.F_law_add.kp T.b_law_add pass0 (da_cons (dv 5) (da_cons (dx_slT (dv 3) (do_some dx_int) do_none) da_nil))) da_nil))) da_nil)))))
      dss_nil)
    (dss_cons (ds_if (PW.pt (dw_and (dt_cmp (op_eqA hu64) oa_eq (dv 1) dx_str (nomark _)) (dw_and (dt_cmp (op_inT hu65) oa_inT (dv 3) (dv 4) rfl) (dw_and1 (dt_cmp (op_eqA hu64) oa_eq (dx_ix ix_seq oa_ix (dv 3) dx_int (fun _ _ => rfl)) dx_str (nomark _))))))
      (dss_one (ds_ret (dx_fx (fx_lst (da_cons (dx_tup (da_cons (dv 4) (da_cons (dx_call G_law_add (hr.mono (by omega)) (by rfl) T.m_law_add T.F_law_add.kp T.b_law_add pass0 (da_cons (dv 5) (da_cons (dx_fx (fx_lst (da_cons (dx_ix ix_seq oa_ix (dv 3) dx_int (fun _ _ => rfl)) da_nil))) da_nil))) da_nil))) (da_cons (dx_tup (da_cons (dx_call G_law_add (hr.mono (by omega)) (by rfl) T.m_law_add T.F_law_add.kp T.b_law_add pass0 (da_cons (dv 4) (da_cons (dx_fx (fx_lst (da_cons (dx_ix ix_seq oa_ix (dv 3) dx_int (fun _ _ => rfl)) da_nil))) da_nil))) (da_cons (dv 5) da_nil))) da_nil))))))
      dss_nil)
    (dss_cons (ds_if (PW.pt (dw_and (dt_cmp (op_eqA hu64) oa_eq (dv 1) dx_str (nomark _)) (dw_and (dt_cmp (op_inT hu65) oa_inT (dv 3) (dv 5) rfl) (dw_and1 (dt_cmp (op_eqA hu64) oa_eq (dx_ix ix_seq oa_ix (dv 3) dx_int (fun _ _ => rfl)) dx_str (nomark _))))))
      (dss_cons (ds_if (PW.pt (dw_or (dt_truth (dv 6) (fun _ => rfl)) (dw_or1 (dt_cmp (op_eqA hu64) oa_eq (dv 0) dx_str (nomark _)))))
      (dss_one (ds_ret (dx_fx (fx_lst (da_cons (dx_tup (da_cons (dx_call G_law_add (hr.mono (by omega)) (by rfl) T.m_law_add T.F_law_add.kp T.b_law_add pass0 (da_cons (dv 4) (da_cons (dx_fx (fx_lst (da_cons (dx_ix ix_seq oa_ix (dv 3) dx_int (fun _ _ => rfl)) da_nil))) da_nil))) (da_cons (dx_call G_law_add (hr.mono (by omega)) (by rfl) T.m_law_add T.F_law_add.kp T.b_law_add pass0 (da_cons (dv 5) (da_cons (dx_fx (fx_lst (da_cons (dx_ix ix_seq oa_ix (dv 3) dx_int (fun _ _ => rfl)) da_nil))) da_nil))) da_nil))) da_nil)))))
      dss_nil)
    (dss_one (ds_ret (dx_fx (fx_lst (da_cons (dx_tup (da_cons (dx_call G_law_add (hr.mono (by omega)) (by rfl) T.m_law_add T.F_law_add.kp T.b_law_add pass0 (da_cons (dv 4) (da_cons (dx_fx (fx_lst (da_cons (dx_ix ix_seq oa_ix (dv 3) dx_int (fun _ _ => rfl)) da_nil))) da_nil))) (da_cons (dx_tup (da_cons (dx_ix ix_seq oa_ix (dv 3) dx_int (fun _ _ => rfl)) da_nil)) da_nil))) da_nil))))))
      dss_nil)
    (dss_one (ds_ret dx_non))))))))))))))), ?_⟩
  rw [show startE ["logic", "rule", "goal", "m", "left", "right", "modal"] [D.str lg, D.str ru, sqD (l, r), mD m] = [.val (.str lg), .val (.str ru), .val (.tup [.tup (l.map fD), .tup (r.map fD)]), .val (mD m), .no, .no, .no] from rfl]
  refine seq_step fun F k => ?_
  simp only [↓gTp, ↓gCn, ↓gN, ↓gNl, ↓sSeq, ↓sIf, ↓sDrop, ↓sMut, ↓isLs, ↓mutK, ↓gAppend, ↓sSetM, ↓sSet, ↓sC, ↓sVar, ↓sTup, ↓sLst, ↓sFx, ↓sCons, ↓sNil, ↓sOp, ↓sUn, ↓sTst, ↓sTru, ↓sAnd, ↓sOr, ↓sNot, ↓sIfS, ↓sAndV, ↓sOrV, ↓sCB, ↓gLen, ↓sGet1, ↓sGet2, ↓toKey, ↓sRet, ↓sRetN, ↓sCall, ↓sNext, ↓gInt, ↓gCmp, ↓gEqB, ↓gIx, ↓gIsN, ↓isNonD, ↓truD, ↓gNegI, ↓sFor, ↓sLc, ↓sSlL, ↓sSlT, ↓sNoP, ↓sPart, ↓iRv, ↓lstK, ↓iA, ↓iE, ↓iZ, ↓iR1, ↓iR2, ↓valK, ↓valKs, ↓resK, ↓resKs, ↓slK, ↓List.getElem?_cons_succ, ↓List.getElem?_cons_zero, ↓List.set, ↓reduceIte, Bool.not_false, Bool.not_true, Bool.false_eq_true, id, Rs.v.injEq, D.bl.injEq, D.int.injEq, exists_eq_left', true_and, and_true, fD, str_dec, String.reduceEq, decide_false, decide_true, atI_0, atI_1, atI_2, Option.some.injEq, List.length_cons, List.length_nil, ↓sRetV, ↓gAdd, ↓sStarA, ↓gTin, ↓gTnin, ↓gTix, ↓sCallX, ↓sRaise, ↓sRaise1, ↓sTry, ↓gIsE, ↓sCallW, ↓sCF, ↓sCallO, ↓sSetO, ↓sSetIx, ↓setK, ↓sCat, ↓gIsi, ↓tyN, ↓gIsA, ↓gInsert, ↓gPool, ↓isIl, ↓isPl, ↓sSrtS, ↓gListF, ↓gTupA, ↓sNotV, ↓sLst, ↓sAsg, ↓wipeE, List.map_cons, List.map_nil, ↓g2I, keepAll, List.length_map, ↓gInt1, ↓gAbs, rng_len']
  refine k _ (seq_step fun F k => ?_)
  simp only [↓gTp, ↓gCn, ↓gN, ↓gNl, ↓sSeq, ↓sIf, ↓sDrop, ↓sMut, ↓isLs, ↓mutK, ↓gAppend, ↓sSetM, ↓sSet, ↓sC, ↓sVar, ↓sTup, ↓sLst, ↓sFx, ↓sCons, ↓sNil, ↓sOp, ↓sUn, ↓sTst, ↓sTru, ↓sAnd, ↓sOr, ↓sNot, ↓sIfS, ↓sAndV, ↓sOrV, ↓sCB, ↓gLen, ↓sGet1, ↓sGet2, ↓toKey, ↓sRet, ↓sRetN, ↓sCall, ↓sNext, ↓gInt, ↓gCmp, ↓gEqB, ↓gIx, ↓gIsN, ↓isNonD, ↓truD, ↓gNegI, ↓sFor, ↓sLc, ↓sSlL, ↓sSlT, ↓sNoP, ↓sPart, ↓iRv, ↓lstK, ↓iA, ↓iE, ↓iZ, ↓iR1, ↓iR2, ↓valK, ↓valKs, ↓resK, ↓resKs, ↓slK, ↓List.getElem?_cons_succ, ↓List.getElem?_cons_zero, ↓List.set, ↓reduceIte, Bool.not_false, Bool.not_true, Bool.false_eq_true, id, Rs.v.injEq, D.bl.injEq, D.int.injEq, exists_eq_left', true_and, and_true, fD, str_dec, String.reduceEq, decide_false, decide_true, atI_0, atI_1, atI_2, Option.some.injEq, List.length_cons, List.length_nil, ↓sRetV, ↓gAdd, ↓sStarA, ↓gTin, ↓gTnin, ↓gTix, ↓sCallX, ↓sRaise, ↓sRaise1, ↓sTry, ↓gIsE, ↓sCallW, ↓sCF, ↓sCallO, ↓sSetO, ↓sSetIx, ↓setK, ↓sCat, ↓gIsi, ↓tyN, ↓gIsA, ↓gInsert, ↓gPool, ↓isIl, ↓isPl, ↓sSrtS, ↓gListF, ↓gTupA, ↓sNotV, ↓sLst, ↓sAsg, ↓wipeE, List.map_cons, List.map_nil, ↓g2I, keepAll, List.length_map, ↓gInt1, ↓gAbs, rng_len']
  refine k _ (seq_step fun F k => ?_)
  simp only [↓gTp, ↓gCn, ↓gN, ↓gNl, ↓sSeq, ↓sIf, ↓sDrop, ↓sMut, ↓isLs, ↓mutK, ↓gAppend, ↓sSetM, ↓sSet, ↓sC, ↓sVar, ↓sTup, ↓sLst, ↓sFx, ↓sCons, ↓sNil, ↓sOp, ↓sUn, ↓sTst, ↓sTru, ↓sAnd, ↓sOr, ↓sNot, ↓sIfS, ↓sAndV, ↓sOrV, ↓sCB, ↓gLen, ↓sGet1, ↓sGet2, ↓toKey, ↓sRet, ↓sRetN, ↓sCall, ↓sNext, ↓gInt, ↓gCmp, ↓gEqB, ↓gIx, ↓gIsN, ↓isNonD, ↓truD, ↓gNegI, ↓sFor, ↓sLc, ↓sSlL, ↓sSlT, ↓sNoP, ↓sPart, ↓iRv, ↓lstK, ↓iA, ↓iE, ↓iZ, ↓iR1, ↓iR2, ↓valK, ↓valKs, ↓resK, ↓resKs, ↓slK, ↓List.getElem?_cons_succ, ↓List.getElem?_cons_zero, ↓List.set, ↓reduceIte, Bool.not_false, Bool.not_true, Bool.false_eq_true, id, Rs.v.injEq, D.bl.injEq, D.int.injEq, exists_eq_left', true_and, and_true, fD, str_dec, String.reduceEq, decide_false, decide_true, atI_0, atI_1, atI_2, Option.some.injEq, List.length_cons, List.length_nil, ↓sRetV, ↓gAdd, ↓sStarA, ↓gTin, ↓gTnin, ↓gTix, ↓sCallX, ↓sRaise, ↓sRaise1, ↓sTry, ↓gIsE, ↓sCallW, ↓sCF, ↓sCallO, ↓sSetO, ↓sSetIx, ↓setK, ↓sCat, ↓gIsi, ↓tyN, ↓gIsA, ↓gInsert, ↓gPool, ↓isIl, ↓isPl, ↓sSrtS, ↓gListF, ↓gTupA, ↓sNotV, ↓sLst, ↓sAsg, ↓wipeE, List.map_cons, List.map_nil, ↓g2I, keepAll, List.length_map, ↓gInt1, ↓gAbs, rng_len']
  refine ⟨by decide, rfl, rfl, k _ ?_⟩
  have hmod := mod_int lg hlg
  rw [show id (([D.str "K", .str "D", .str "T", .str "K4", .str "D4", .str "S4", .str "S5", .str "GL", .str "Grz"] : List D).any fun y => eqF y (.str lg)) = modB lg from rfl]
  generalize modB lg = mo at hmod
  simp only [rus, List.mem_cons, List.not_mem_nil, or_false] at hru
  rcases hru with e | e | e | e | e | e | e | e | e | e | e <;> subst e
  · cases m with
    | none =>
      rw [show mD none = .non from rfl]
      simp only [↓gTp, ↓gCn, ↓gN, ↓gNl, ↓sSeq, ↓sIf, ↓sDrop, ↓sMut, ↓isLs, ↓mutK, ↓gAppend, ↓sSetM, ↓sSet, ↓sC, ↓sVar, ↓sTup, ↓sLst, ↓sFx, ↓sCons, ↓sNil, ↓sOp, ↓sUn, ↓sTst, ↓sTru, ↓sAnd, ↓sOr, ↓sNot, ↓sIfS, ↓sAndV, ↓sOrV, ↓sCB, ↓gLen, ↓sGet1, ↓sGet2, ↓toKey, ↓sRet, ↓sRetN, ↓sCall, ↓sNext, ↓gInt, ↓gCmp, ↓gEqB, ↓gIx, ↓gIsN, ↓isNonD, ↓truD, ↓gNegI, ↓sFor, ↓sLc, ↓sSlL, ↓sSlT, ↓sNoP, ↓sPart, ↓iRv, ↓lstK, ↓iA, ↓iE, ↓iZ, ↓iR1, ↓iR2, ↓valK, ↓valKs, ↓resK, ↓resKs, ↓slK, ↓List.getElem?_cons_succ, ↓List.getElem?_cons_zero, ↓List.set, ↓reduceIte, Bool.not_false, Bool.not_true, Bool.false_eq_true, id, Rs.v.injEq, D.bl.injEq, D.int.injEq, exists_eq_left', true_and, and_true, fD, str_dec, String.reduceEq, decide_false, decide_true, atI_0, atI_1, atI_2, Option.some.injEq, List.length_cons, List.length_nil, ↓sRetV, ↓gAdd, ↓sStarA, ↓gTin, ↓gTnin, ↓gTix, ↓sCallX, ↓sRaise, ↓sRaise1, ↓sTry, ↓gIsE, ↓sCallW, ↓sCF, ↓sCallO, ↓sSetO, ↓sSetIx, ↓setK, ↓sCat, ↓gIsi, ↓tyN, ↓gIsA, ↓gInsert, ↓gPool, ↓isIl, ↓isPl, ↓sSrtS, ↓gListF, ↓gTupA, ↓sNotV, ↓sLst, ↓sAsg, ↓wipeE, List.map_cons, List.map_nil, ↓g2I, keepAll, List.length_map, ↓gInt1, ↓gAbs, rng_len']
      have hq : q .non := hq
      exact fun _ => hq
    | some f =>
      obtain ⟨t, ht, _⟩ := fD_tup f
      have gf := hm f rfl
      have ev : premsL "axiom" lg l r (some f) = if f ∈ l ∧ f ∈ r then some [] else none := rfl
      rw [ev] at hq
      rw [show mD (some f) = fD f from rfl, ht]
      simp only [↓gTp, ↓gCn, ↓gN, ↓gNl, ↓sSeq, ↓sIf, ↓sDrop, ↓sMut, ↓isLs, ↓mutK, ↓gAppend, ↓sSetM, ↓sSet, ↓sC, ↓sVar, ↓sTup, ↓sLst, ↓sFx, ↓sCons, ↓sNil, ↓sOp, ↓sUn, ↓sTst, ↓sTru, ↓sAnd, ↓sOr, ↓sNot, ↓sIfS, ↓sAndV, ↓sOrV, ↓sCB, ↓gLen, ↓sGet1, ↓sGet2, ↓toKey, ↓sRet, ↓sRetN, ↓sCall, ↓sNext, ↓gInt, ↓gCmp, ↓gEqB, ↓gIx, ↓gIsN, ↓isNonD, ↓truD, ↓gNegI, ↓sFor, ↓sLc, ↓sSlL, ↓sSlT, ↓sNoP, ↓sPart, ↓iRv, ↓lstK, ↓iA, ↓iE, ↓iZ, ↓iR1, ↓iR2, ↓valK, ↓valKs, ↓resK, ↓resKs, ↓slK, ↓List.getElem?_cons_succ, ↓List.getElem?_cons_zero, ↓List.set, ↓reduceIte, Bool.not_false, Bool.not_true, Bool.false_eq_true, id, Rs.v.injEq, D.bl.injEq, D.int.injEq, exists_eq_left', true_and, and_true, fD, str_dec, String.reduceEq, decide_false, decide_true, atI_0, atI_1, atI_2, Option.some.injEq, List.length_cons, List.length_nil, ↓sRetV, ↓gAdd, ↓sStarA, ↓gTin, ↓gTnin, ↓gTix, ↓sCallX, ↓sRaise, ↓sRaise1, ↓sTry, ↓gIsE, ↓sCallW, ↓sCF, ↓sCallO, ↓sSetO, ↓sSetIx, ↓setK, ↓sCat, ↓gIsi, ↓tyN, ↓gIsA, ↓gInsert, ↓gPool, ↓isIl, ↓isPl, ↓sSrtS, ↓gListF, ↓gTupA, ↓sNotV, ↓sLst, ↓sAsg, ↓wipeE, List.map_cons, List.map_nil, ↓g2I, keepAll, List.length_map, ↓gInt1, ↓gAbs, rng_len']
      rw [← ht]
      refine in_if gf gl (fun h1 => in_if gf gr (fun h2 => ?_) (fun h2 => ?_)) (fun h1 => ?_)
      · rw [if_pos ⟨h1, h2⟩] at hq
        exact ⟨Nat.zero_le _, fun _ => hq⟩
      · rw [if_neg fun h => h2 h.2] at hq
        exact fun _ => hq
      · rw [if_neg fun h => h1 h.1] at hq
        exact fun _ => hq
  · have ev : premsL "falsum" lg l r m = if m = none ∧ Fm.fal ∈ l then some [] else none := rfl
    rw [ev] at hq
    cases m with
    | none =>
      rw [show mD none = .non from rfl]
      simp only [↓gTp, ↓gCn, ↓gN, ↓gNl, ↓sSeq, ↓sIf, ↓sDrop, ↓sMut, ↓isLs, ↓mutK, ↓gAppend, ↓sSetM, ↓sSet, ↓sC, ↓sVar, ↓sTup, ↓sLst, ↓sFx, ↓sCons, ↓sNil, ↓sOp, ↓sUn, ↓sTst, ↓sTru, ↓sAnd, ↓sOr, ↓sNot, ↓sIfS, ↓sAndV, ↓sOrV, ↓sCB, ↓gLen, ↓sGet1, ↓sGet2, ↓toKey, ↓sRet, ↓sRetN, ↓sCall, ↓sNext, ↓gInt, ↓gCmp, ↓gEqB, ↓gIx, ↓gIsN, ↓isNonD, ↓truD, ↓gNegI, ↓sFor, ↓sLc, ↓sSlL, ↓sSlT, ↓sNoP, ↓sPart, ↓iRv, ↓lstK, ↓iA, ↓iE, ↓iZ, ↓iR1, ↓iR2, ↓valK, ↓valKs, ↓resK, ↓resKs, ↓slK, ↓List.getElem?_cons_succ, ↓List.getElem?_cons_zero, ↓List.set, ↓reduceIte, Bool.not_false, Bool.not_true, Bool.false_eq_true, id, Rs.v.injEq, D.bl.injEq, D.int.injEq, exists_eq_left', true_and, and_true, fD, str_dec, String.reduceEq, decide_false, decide_true, atI_0, atI_1, atI_2, Option.some.injEq, List.length_cons, List.length_nil, ↓sRetV, ↓gAdd, ↓sStarA, ↓gTin, ↓gTnin, ↓gTix, ↓sCallX, ↓sRaise, ↓sRaise1, ↓sTry, ↓gIsE, ↓sCallW, ↓sCF, ↓sCallO, ↓sSetO, ↓sSetIx, ↓setK, ↓sCat, ↓gIsi, ↓tyN, ↓gIsA, ↓gInsert, ↓gPool, ↓isIl, ↓isPl, ↓sSrtS, ↓gListF, ↓gTupA, ↓sNotV, ↓sLst, ↓sAsg, ↓wipeE, List.map_cons, List.map_nil, ↓g2I, keepAll, List.length_map, ↓gInt1, ↓gAbs, rng_len']
      refine ⟨by decide, in_if (f := .fal) go_fal gl (fun h => ?_) (fun h => ?_)⟩
      · rw [if_pos ⟨rfl, h⟩] at hq
        exact ⟨Nat.zero_le _, fun _ => hq⟩
      · rw [if_neg fun h' => h h'.2] at hq
        exact fun _ => hq
    | some f =>
      obtain ⟨t, ht, _⟩ := fD_tup f
      rw [if_neg fun h' => by cases h'.1] at hq
      rw [show mD (some f) = fD f from rfl, ht]
      simp only [↓gTp, ↓gCn, ↓gN, ↓gNl, ↓sSeq, ↓sIf, ↓sDrop, ↓sMut, ↓isLs, ↓mutK, ↓gAppend, ↓sSetM, ↓sSet, ↓sC, ↓sVar, ↓sTup, ↓sLst, ↓sFx, ↓sCons, ↓sNil, ↓sOp, ↓sUn, ↓sTst, ↓sTru, ↓sAnd, ↓sOr, ↓sNot, ↓sIfS, ↓sAndV, ↓sOrV, ↓sCB, ↓gLen, ↓sGet1, ↓sGet2, ↓toKey, ↓sRet, ↓sRetN, ↓sCall, ↓sNext, ↓gInt, ↓gCmp, ↓gEqB, ↓gIx, ↓gIsN, ↓isNonD, ↓truD, ↓gNegI, ↓sFor, ↓sLc, ↓sSlL, ↓sSlT, ↓sNoP, ↓sPart, ↓iRv, ↓lstK, ↓iA, ↓iE, ↓iZ, ↓iR1, ↓iR2, ↓valK, ↓valKs, ↓resK, ↓resKs, ↓slK, ↓List.getElem?_cons_succ, ↓List.getElem?_cons_zero, ↓List.set, ↓reduceIte, Bool.not_false, Bool.not_true, Bool.false_eq_true, id, Rs.v.injEq, D.bl.injEq, D.int.injEq, exists_eq_left', true_and, and_true, fD, str_dec, String.reduceEq, decide_false, decide_true, atI_0, atI_1, atI_2, Option.some.injEq, List.length_cons, List.length_nil, ↓sRetV, ↓gAdd, ↓sStarA, ↓gTin, ↓gTnin, ↓gTix, ↓sCallX, ↓sRaise, ↓sRaise1, ↓sTry, ↓gIsE, ↓sCallW, ↓sCF, ↓sCallO, ↓sSetO, ↓sSetIx, ↓setK, ↓sCat, ↓gIsi, ↓tyN, ↓gIsA, ↓gInsert, ↓gPool, ↓isIl, ↓isPl, ↓sSrtS, ↓gListF, ↓gTupA, ↓sNotV, ↓sLst, ↓sAsg, ↓wipeE, List.map_cons, List.map_nil, ↓g2I, keepAll, List.length_map, ↓gInt1, ↓gAbs, rng_len']
      exact fun _ => hq
  · cases m with
    | none =>
      rw [show mD none = .non from rfl]
      simp only [↓gTp, ↓gCn, ↓gN, ↓gNl, ↓sSeq, ↓sIf, ↓sDrop, ↓sMut, ↓isLs, ↓mutK, ↓gAppend, ↓sSetM, ↓sSet, ↓sC, ↓sVar, ↓sTup, ↓sLst, ↓sFx, ↓sCons, ↓sNil, ↓sOp, ↓sUn, ↓sTst, ↓sTru, ↓sAnd, ↓sOr, ↓sNot, ↓sIfS, ↓sAndV, ↓sOrV, ↓sCB, ↓gLen, ↓sGet1, ↓sGet2, ↓toKey, ↓sRet, ↓sRetN, ↓sCall, ↓sNext, ↓gInt, ↓gCmp, ↓gEqB, ↓gIx, ↓gIsN, ↓isNonD, ↓truD, ↓gNegI, ↓sFor, ↓sLc, ↓sSlL, ↓sSlT, ↓sNoP, ↓sPart, ↓iRv, ↓lstK, ↓iA, ↓iE, ↓iZ, ↓iR1, ↓iR2, ↓valK, ↓valKs, ↓resK, ↓resKs, ↓slK, ↓List.getElem?_cons_succ, ↓List.getElem?_cons_zero, ↓List.set, ↓reduceIte, Bool.not_false, Bool.not_true, Bool.false_eq_true, id, Rs.v.injEq, D.bl.injEq, D.int.injEq, exists_eq_left', true_and, and_true, fD, str_dec, String.reduceEq, decide_false, decide_true, atI_0, atI_1, atI_2, Option.some.injEq, List.length_cons, List.length_nil, ↓sRetV, ↓gAdd, ↓sStarA, ↓gTin, ↓gTnin, ↓gTix, ↓sCallX, ↓sRaise, ↓sRaise1, ↓sTry, ↓gIsE, ↓sCallW, ↓sCF, ↓sCallO, ↓sSetO, ↓sSetIx, ↓setK, ↓sCat, ↓gIsi, ↓tyN, ↓gIsA, ↓gInsert, ↓gPool, ↓isIl, ↓isPl, ↓sSrtS, ↓gListF, ↓gTupA, ↓sNotV, ↓sLst, ↓sAsg, ↓wipeE, List.map_cons, List.map_nil, ↓g2I, keepAll, List.length_map, ↓gInt1, ↓gAbs, rng_len']
      have hq : q .non := hq
      exact fun _ => hq
    | some f =>
      obtain ⟨t, ht, _⟩ := fD_tup f
      have gf := hm f rfl
      have ev : premsL "cut" lg l r (some f) = if intB lg = true ∧ f.plain = false then none else some [(l, ad r [f]), (ad l [f], r)] := rfl
      rw [ev] at hq
      rw [show mD (some f) = fD f from rfl, ht]
      simp only [↓gTp, ↓gCn, ↓gN, ↓gNl, ↓sSeq, ↓sIf, ↓sDrop, ↓sMut, ↓isLs, ↓mutK, ↓gAppend, ↓sSetM, ↓sSet, ↓sC, ↓sVar, ↓sTup, ↓sLst, ↓sFx, ↓sCons, ↓sNil, ↓sOp, ↓sUn, ↓sTst, ↓sTru, ↓sAnd, ↓sOr, ↓sNot, ↓sIfS, ↓sAndV, ↓sOrV, ↓sCB, ↓gLen, ↓sGet1, ↓sGet2, ↓toKey, ↓sRet, ↓sRetN, ↓sCall, ↓sNext, ↓gInt, ↓gCmp, ↓gEqB, ↓gIx, ↓gIsN, ↓isNonD, ↓truD, ↓gNegI, ↓sFor, ↓sLc, ↓sSlL, ↓sSlT, ↓sNoP, ↓sPart, ↓iRv, ↓lstK, ↓iA, ↓iE, ↓iZ, ↓iR1, ↓iR2, ↓valK, ↓valKs, ↓resK, ↓resKs, ↓slK, ↓List.getElem?_cons_succ, ↓List.getElem?_cons_zero, ↓List.set, ↓reduceIte, Bool.not_false, Bool.not_true, Bool.false_eq_true, id, Rs.v.injEq, D.bl.injEq, D.int.injEq, exists_eq_left', true_and, and_true, fD, str_dec, String.reduceEq, decide_false, decide_true, atI_0, atI_1, atI_2, Option.some.injEq, List.length_cons, List.length_nil, ↓sRetV, ↓gAdd, ↓sStarA, ↓gTin, ↓gTnin, ↓gTix, ↓sCallX, ↓sRaise, ↓sRaise1, ↓sTry, ↓gIsE, ↓sCallW, ↓sCF, ↓sCallO, ↓sSetO, ↓sSetIx, ↓setK, ↓sCat, ↓gIsi, ↓tyN, ↓gIsA, ↓gInsert, ↓gPool, ↓isIl, ↓isPl, ↓sSrtS, ↓gListF, ↓gTupA, ↓sNotV, ↓sLst, ↓sAsg, ↓wipeE, List.map_cons, List.map_nil, ↓g2I, keepAll, List.length_map, ↓gInt1, ↓gAbs, rng_len']
      rw [← ht]
      have go : ¬ (intB lg = true ∧ f.plain = false) → 0 + 1 ≤ sizeLine ∧ φLadd [D.tup (r.map fD), D.lst [fD f]] fun z => 0 + 1 + 1 ≤ sizeLine ∧ 0 + 1 ≤ sizeLine ∧ φLadd [D.tup (l.map fD), D.lst [fD f]] fun z_1 => 0 + 1 + 1 ≤ sizeLine ∧ 0 + 1 + 1 ≤ sizeLine ∧ ∀ (ρ2 : En), q (D.lst [D.tup [.tup (l.map fD), z], D.tup [z_1, .tup (r.map fD)]]) := fun hn => by
        rw [if_neg hn] at hq
        exact ⟨by decide, r, [f], .inl rfl, gr, fun g hg => by rw [List.mem_singleton.mp hg]; exact gf, by omega, one_len, by decide, by decide, l, [f], .inl rfl, gl, fun g hg => by rw [List.mem_singleton.mp hg]; exact gf, by omega, one_len, by decide, by decide, fun _ => hq⟩
      refine iteD' (fun h1 => go fun h => ?_) (fun h1 => ⟨f, rfl, gf.2, iteD' (fun h2 => go fun h => ?_) (fun h2 => ?_)⟩)
      · rw [hmod, h.1] at h1
        cases h1
      · rw [h.2] at h2
        cases h2
      · have hi : intB lg = true := by
          cases hb : intB lg with
          | true => rfl
          | false => exact absurd (by rw [hmod, hb]; rfl) h1
        have hp : f.plain = false := by
          cases hb : f.plain with
          | false => rfl
          | true => exact absurd (by rw [hb]; rfl) h2
        rw [if_pos ⟨hi, hp⟩] at hq
        exact fun _ => hq
  · cases m with
    | none =>
      rw [show mD none = .non from rfl]
      simp only [↓gTp, ↓gCn, ↓gN, ↓gNl, ↓sSeq, ↓sIf, ↓sDrop, ↓sMut, ↓isLs, ↓mutK, ↓gAppend, ↓sSetM, ↓sSet, ↓sC, ↓sVar, ↓sTup, ↓sLst, ↓sFx, ↓sCons, ↓sNil, ↓sOp, ↓sUn, ↓sTst, ↓sTru, ↓sAnd, ↓sOr, ↓sNot, ↓sIfS, ↓sAndV, ↓sOrV, ↓sCB, ↓gLen, ↓sGet1, ↓sGet2, ↓toKey, ↓sRet, ↓sRetN, ↓sCall, ↓sNext, ↓gInt, ↓gCmp, ↓gEqB, ↓gIx, ↓gIsN, ↓isNonD, ↓truD, ↓gNegI, ↓sFor, ↓sLc, ↓sSlL, ↓sSlT, ↓sNoP, ↓sPart, ↓iRv, ↓lstK, ↓iA, ↓iE, ↓iZ, ↓iR1, ↓iR2, ↓valK, ↓valKs, ↓resK, ↓resKs, ↓slK, ↓List.getElem?_cons_succ, ↓List.getElem?_cons_zero, ↓List.set, ↓reduceIte, Bool.not_false, Bool.not_true, Bool.false_eq_true, id, Rs.v.injEq, D.bl.injEq, D.int.injEq, exists_eq_left', true_and, and_true, fD, str_dec, String.reduceEq, decide_false, decide_true, atI_0, atI_1, atI_2, Option.some.injEq, List.length_cons, List.length_nil, ↓sRetV, ↓gAdd, ↓sStarA, ↓gTin, ↓gTnin, ↓gTix, ↓sCallX, ↓sRaise, ↓sRaise1, ↓sTry, ↓gIsE, ↓sCallW, ↓sCF, ↓sCallO, ↓sSetO, ↓sSetIx, ↓setK, ↓sCat, ↓gIsi, ↓tyN, ↓gIsA, ↓gInsert, ↓gPool, ↓isIl, ↓isPl, ↓sSrtS, ↓gListF, ↓gTupA, ↓sNotV, ↓sLst, ↓sAsg, ↓wipeE, List.map_cons, List.map_nil, ↓g2I, keepAll, List.length_map, ↓gInt1, ↓gAbs, rng_len']
      have hq : q .non := hq
      exact fun _ => hq
    | some f =>
      have gf := hm f rfl
      rw [show mD (some f) = fD f from rfl]
      have no : (Fm.tg f ≠ "and" ∨ f ∉ l) → q .non := fun h => by
        have e : partsOf "and" (some f) l = none := if_neg fun h' => h.elim (fun n => n h'.1) fun n => n h'.2
        have e2 : premsL "and_left" lg l r (some f) = none := by show (partsOf "and" (some f) l).map _ = none; rw [e]; rfl
        rw [e2] at hq
        exact hq
      cases f with
      | var n =>
        simp only [↓gTp, ↓gCn, ↓gN, ↓gNl, ↓sSeq, ↓sIf, ↓sDrop, ↓sMut, ↓isLs, ↓mutK, ↓gAppend, ↓sSetM, ↓sSet, ↓sC, ↓sVar, ↓sTup, ↓sLst, ↓sFx, ↓sCons, ↓sNil, ↓sOp, ↓sUn, ↓sTst, ↓sTru, ↓sAnd, ↓sOr, ↓sNot, ↓sIfS, ↓sAndV, ↓sOrV, ↓sCB, ↓gLen, ↓sGet1, ↓sGet2, ↓toKey, ↓sRet, ↓sRetN, ↓sCall, ↓sNext, ↓gInt, ↓gCmp, ↓gEqB, ↓gIx, ↓gIsN, ↓isNonD, ↓truD, ↓gNegI, ↓sFor, ↓sLc, ↓sSlL, ↓sSlT, ↓sNoP, ↓sPart, ↓iRv, ↓lstK, ↓iA, ↓iE, ↓iZ, ↓iR1, ↓iR2, ↓valK, ↓valKs, ↓resK, ↓resKs, ↓slK, ↓List.getElem?_cons_succ, ↓List.getElem?_cons_zero, ↓List.set, ↓reduceIte, Bool.not_false, Bool.not_true, Bool.false_eq_true, id, Rs.v.injEq, D.bl.injEq, D.int.injEq, exists_eq_left', true_and, and_true, fD, str_dec, String.reduceEq, decide_false, decide_true, atI_0, atI_1, atI_2, Option.some.injEq, List.length_cons, List.length_nil, ↓sRetV, ↓gAdd, ↓sStarA, ↓gTin, ↓gTnin, ↓gTix, ↓sCallX, ↓sRaise, ↓sRaise1, ↓sTry, ↓gIsE, ↓sCallW, ↓sCF, ↓sCallO, ↓sSetO, ↓sSetIx, ↓setK, ↓sCat, ↓gIsi, ↓tyN, ↓gIsA, ↓gInsert, ↓gPool, ↓isIl, ↓isPl, ↓sSrtS, ↓gListF, ↓gTupA, ↓sNotV, ↓sLst, ↓sAsg, ↓wipeE, List.map_cons, List.map_nil, ↓g2I, keepAll, List.length_map, ↓gInt1, ↓gAbs, rng_len']
        have ne : Fm.tg (Fm.var n) ≠ "and" := show ("var" : Str) ≠ "and" by decide +kernel
        exact in_if (f := .var n) gf gl (fun _ _ => no (.inl ne)) (fun _ _ => no (.inl ne))
      | fal  =>
        simp only [↓gTp, ↓gCn, ↓gN, ↓gNl, ↓sSeq, ↓sIf, ↓sDrop, ↓sMut, ↓isLs, ↓mutK, ↓gAppend, ↓sSetM, ↓sSet, ↓sC, ↓sVar, ↓sTup, ↓sLst, ↓sFx, ↓sCons, ↓sNil, ↓sOp, ↓sUn, ↓sTst, ↓sTru, ↓sAnd, ↓sOr, ↓sNot, ↓sIfS, ↓sAndV, ↓sOrV, ↓sCB, ↓gLen, ↓sGet1, ↓sGet2, ↓toKey, ↓sRet, ↓sRetN, ↓sCall, ↓sNext, ↓gInt, ↓gCmp, ↓gEqB, ↓gIx, ↓gIsN, ↓isNonD, ↓truD, ↓gNegI, ↓sFor, ↓sLc, ↓sSlL, ↓sSlT, ↓sNoP, ↓sPart, ↓iRv, ↓lstK, ↓iA, ↓iE, ↓iZ, ↓iR1, ↓iR2, ↓valK, ↓valKs, ↓resK, ↓resKs, ↓slK, ↓List.getElem?_cons_succ, ↓List.getElem?_cons_zero, ↓List.set, ↓reduceIte, Bool.not_false, Bool.not_true, Bool.false_eq_true, id, Rs.v.injEq, D.bl.injEq, D.int.injEq, exists_eq_left', true_and, and_true, fD, str_dec, String.reduceEq, decide_false, decide_true, atI_0, atI_1, atI_2, Option.some.injEq, List.length_cons, List.length_nil, ↓sRetV, ↓gAdd, ↓sStarA, ↓gTin, ↓gTnin, ↓gTix, ↓sCallX, ↓sRaise, ↓sRaise1, ↓sTry, ↓gIsE, ↓sCallW, ↓sCF, ↓sCallO, ↓sSetO, ↓sSetIx, ↓setK, ↓sCat, ↓gIsi, ↓tyN, ↓gIsA, ↓gInsert, ↓gPool, ↓isIl, ↓isPl, ↓sSrtS, ↓gListF, ↓gTupA, ↓sNotV, ↓sLst, ↓sAsg, ↓wipeE, List.map_cons, List.map_nil, ↓g2I, keepAll, List.length_map, ↓gInt1, ↓gAbs, rng_len']
        have ne : Fm.tg (Fm.fal ) ≠ "and" := show ("falsum" : Str) ≠ "and" by decide +kernel
        exact in_if (f := .fal ) gf gl (fun _ _ => no (.inl ne)) (fun _ _ => no (.inl ne))
      | and a b =>
        simp only [↓gTp, ↓gCn, ↓gN, ↓gNl, ↓sSeq, ↓sIf, ↓sDrop, ↓sMut, ↓isLs, ↓mutK, ↓gAppend, ↓sSetM, ↓sSet, ↓sC, ↓sVar, ↓sTup, ↓sLst, ↓sFx, ↓sCons, ↓sNil, ↓sOp, ↓sUn, ↓sTst, ↓sTru, ↓sAnd, ↓sOr, ↓sNot, ↓sIfS, ↓sAndV, ↓sOrV, ↓sCB, ↓gLen, ↓sGet1, ↓sGet2, ↓toKey, ↓sRet, ↓sRetN, ↓sCall, ↓sNext, ↓gInt, ↓gCmp, ↓gEqB, ↓gIx, ↓gIsN, ↓isNonD, ↓truD, ↓gNegI, ↓sFor, ↓sLc, ↓sSlL, ↓sSlT, ↓sNoP, ↓sPart, ↓iRv, ↓lstK, ↓iA, ↓iE, ↓iZ, ↓iR1, ↓iR2, ↓valK, ↓valKs, ↓resK, ↓resKs, ↓slK, ↓List.getElem?_cons_succ, ↓List.getElem?_cons_zero, ↓List.set, ↓reduceIte, Bool.not_false, Bool.not_true, Bool.false_eq_true, id, Rs.v.injEq, D.bl.injEq, D.int.injEq, exists_eq_left', true_and, and_true, fD, str_dec, String.reduceEq, decide_false, decide_true, atI_0, atI_1, atI_2, Option.some.injEq, List.length_cons, List.length_nil, ↓sRetV, ↓gAdd, ↓sStarA, ↓gTin, ↓gTnin, ↓gTix, ↓sCallX, ↓sRaise, ↓sRaise1, ↓sTry, ↓gIsE, ↓sCallW, ↓sCF, ↓sCallO, ↓sSetO, ↓sSetIx, ↓setK, ↓sCat, ↓gIsi, ↓tyN, ↓gIsA, ↓gInsert, ↓gPool, ↓isIl, ↓isPl, ↓sSrtS, ↓gListF, ↓gTupA, ↓sNotV, ↓sLst, ↓sAsg, ↓wipeE, List.map_cons, List.map_nil, ↓g2I, keepAll, List.length_map, ↓gInt1, ↓gAbs, rng_len']
        have ga : Go a := go_ps gf (by simp [Fm.ps])
        have gb : Go b := go_ps gf (by simp [Fm.ps])
        refine in_if (f := .and a b) gf gl (fun hin => ?_) (fun hin _ => no (.inr hin))
        have e : partsOf "and" (some (.and a b)) l = some [a, b] := if_pos ⟨rfl, hin⟩
        have e2 : premsL "and_left" lg l r (some (.and a b)) = some [(ad l [a, b], r)] := by show (partsOf "and" (some (.and a b)) l).map _ = _; rw [e]; rfl
        rw [e2] at hq
        have gab : ∀ g ∈ [a, b], Go g := fun g hg => by
          rcases List.mem_cons.mp hg with e | hg
          · rw [e]; exact ga
          · rw [List.mem_singleton.mp hg]; exact gb
        exact ⟨l, [a, b], .inr rfl, gl, gab, by omega, two_len, by decide, by decide, fun _ => hq⟩
      | or a b =>
        simp only [↓gTp, ↓gCn, ↓gN, ↓gNl, ↓sSeq, ↓sIf, ↓sDrop, ↓sMut, ↓isLs, ↓mutK, ↓gAppend, ↓sSetM, ↓sSet, ↓sC, ↓sVar, ↓sTup, ↓sLst, ↓sFx, ↓sCons, ↓sNil, ↓sOp, ↓sUn, ↓sTst, ↓sTru, ↓sAnd, ↓sOr, ↓sNot, ↓sIfS, ↓sAndV, ↓sOrV, ↓sCB, ↓gLen, ↓sGet1, ↓sGet2, ↓toKey, ↓sRet, ↓sRetN, ↓sCall, ↓sNext, ↓gInt, ↓gCmp, ↓gEqB, ↓gIx, ↓gIsN, ↓isNonD, ↓truD, ↓gNegI, ↓sFor, ↓sLc, ↓sSlL, ↓sSlT, ↓sNoP, ↓sPart, ↓iRv, ↓lstK, ↓iA, ↓iE, ↓iZ, ↓iR1, ↓iR2, ↓valK, ↓valKs, ↓resK, ↓resKs, ↓slK, ↓List.getElem?_cons_succ, ↓List.getElem?_cons_zero, ↓List.set, ↓reduceIte, Bool.not_false, Bool.not_true, Bool.false_eq_true, id, Rs.v.injEq, D.bl.injEq, D.int.injEq, exists_eq_left', true_and, and_true, fD, str_dec, String.reduceEq, decide_false, decide_true, atI_0, atI_1, atI_2, Option.some.injEq, List.length_cons, List.length_nil, ↓sRetV, ↓gAdd, ↓sStarA, ↓gTin, ↓gTnin, ↓gTix, ↓sCallX, ↓sRaise, ↓sRaise1, ↓sTry, ↓gIsE, ↓sCallW, ↓sCF, ↓sCallO, ↓sSetO, ↓sSetIx, ↓setK, ↓sCat, ↓gIsi, ↓tyN, ↓gIsA, ↓gInsert, ↓gPool, ↓isIl, ↓isPl, ↓sSrtS, ↓gListF, ↓gTupA, ↓sNotV, ↓sLst, ↓sAsg, ↓wipeE, List.map_cons, List.map_nil, ↓g2I, keepAll, List.length_map, ↓gInt1, ↓gAbs, rng_len']
        have ne : Fm.tg (Fm.or a b) ≠ "and" := show ("or" : Str) ≠ "and" by decide +kernel
        exact in_if (f := .or a b) gf gl (fun _ _ => no (.inl ne)) (fun _ _ => no (.inl ne))
      | imp a b =>
        simp only [↓gTp, ↓gCn, ↓gN, ↓gNl, ↓sSeq, ↓sIf, ↓sDrop, ↓sMut, ↓isLs, ↓mutK, ↓gAppend, ↓sSetM, ↓sSet, ↓sC, ↓sVar, ↓sTup, ↓sLst, ↓sFx, ↓sCons, ↓sNil, ↓sOp, ↓sUn, ↓sTst, ↓sTru, ↓sAnd, ↓sOr, ↓sNot, ↓sIfS, ↓sAndV, ↓sOrV, ↓sCB, ↓gLen, ↓sGet1, ↓sGet2, ↓toKey, ↓sRet, ↓sRetN, ↓sCall, ↓sNext, ↓gInt, ↓gCmp, ↓gEqB, ↓gIx, ↓gIsN, ↓isNonD, ↓truD, ↓gNegI, ↓sFor, ↓sLc, ↓sSlL, ↓sSlT, ↓sNoP, ↓sPart, ↓iRv, ↓lstK, ↓iA, ↓iE, ↓iZ, ↓iR1, ↓iR2, ↓valK, ↓valKs, ↓resK, ↓resKs, ↓slK, ↓List.getElem?_cons_succ, ↓List.getElem?_cons_zero, ↓List.set, ↓reduceIte, Bool.not_false, Bool.not_true, Bool.false_eq_true, id, Rs.v.injEq, D.bl.injEq, D.int.injEq, exists_eq_left', true_and, and_true, fD, str_dec, String.reduceEq, decide_false, decide_true, atI_0, atI_1, atI_2, Option.some.injEq, List.length_cons, List.length_nil, ↓sRetV, ↓gAdd, ↓sStarA, ↓gTin, ↓gTnin, ↓gTix, ↓sCallX, ↓sRaise, ↓sRaise1, ↓sTry, ↓gIsE, ↓sCallW, ↓sCF, ↓sCallO, ↓sSetO, ↓sSetIx, ↓setK, ↓sCat, ↓gIsi, ↓tyN, ↓gIsA, ↓gInsert, ↓gPool, ↓isIl, ↓isPl, ↓sSrtS, ↓gListF, ↓gTupA, ↓sNotV, ↓sLst, ↓sAsg, ↓wipeE, List.map_cons, List.map_nil, ↓g2I, keepAll, List.length_map, ↓gInt1, ↓gAbs, rng_len']
        have ne : Fm.tg (Fm.imp a b) ≠ "and" := show ("implies" : Str) ≠ "and" by decide +kernel
        exact in_if (f := .imp a b) gf gl (fun _ _ => no (.inl ne)) (fun _ _ => no (.inl ne))
      | box a =>
        simp only [↓gTp, ↓gCn, ↓gN, ↓gNl, ↓sSeq, ↓sIf, ↓sDrop, ↓sMut, ↓isLs, ↓mutK, ↓gAppend, ↓sSetM, ↓sSet, ↓sC, ↓sVar, ↓sTup, ↓sLst, ↓sFx, ↓sCons, ↓sNil, ↓sOp, ↓sUn, ↓sTst, ↓sTru, ↓sAnd, ↓sOr, ↓sNot, ↓sIfS, ↓sAndV, ↓sOrV, ↓sCB, ↓gLen, ↓sGet1, ↓sGet2, ↓toKey, ↓sRet, ↓sRetN, ↓sCall, ↓sNext, ↓gInt, ↓gCmp, ↓gEqB, ↓gIx, ↓gIsN, ↓isNonD, ↓truD, ↓gNegI, ↓sFor, ↓sLc, ↓sSlL, ↓sSlT, ↓sNoP, ↓sPart, ↓iRv, ↓lstK, ↓iA, ↓iE, ↓iZ, ↓iR1, ↓iR2, ↓valK, ↓valKs, ↓resK, ↓resKs, ↓slK, ↓List.getElem?_cons_succ, ↓List.getElem?_cons_zero, ↓List.set, ↓reduceIte, Bool.not_false, Bool.not_true, Bool.false_eq_true, id, Rs.v.injEq, D.bl.injEq, D.int.injEq, exists_eq_left', true_and, and_true, fD, str_dec, String.reduceEq, decide_false, decide_true, atI_0, atI_1, atI_2, Option.some.injEq, List.length_cons, List.length_nil, ↓sRetV, ↓gAdd, ↓sStarA, ↓gTin, ↓gTnin, ↓gTix, ↓sCallX, ↓sRaise, ↓sRaise1, ↓sTry, ↓gIsE, ↓sCallW, ↓sCF, ↓sCallO, ↓sSetO, ↓sSetIx, ↓setK, ↓sCat, ↓gIsi, ↓tyN, ↓gIsA, ↓gInsert, ↓gPool, ↓isIl, ↓isPl, ↓sSrtS, ↓gListF, ↓gTupA, ↓sNotV, ↓sLst, ↓sAsg, ↓wipeE, List.map_cons, List.map_nil, ↓g2I, keepAll, List.length_map, ↓gInt1, ↓gAbs, rng_len']
        have ne : Fm.tg (Fm.box a) ≠ "and" := show ("box" : Str) ≠ "and" by decide +kernel
        exact in_if (f := .box a) gf gl (fun _ _ => no (.inl ne)) (fun _ _ => no (.inl ne))
  · cases m with
    | none =>
      rw [show mD none = .non from rfl]
      simp only [↓gTp, ↓gCn, ↓gN, ↓gNl, ↓sSeq, ↓sIf, ↓sDrop, ↓sMut, ↓isLs, ↓mutK, ↓gAppend, ↓sSetM, ↓sSet, ↓sC, ↓sVar, ↓sTup, ↓sLst, ↓sFx, ↓sCons, ↓sNil, ↓sOp, ↓sUn, ↓sTst, ↓sTru, ↓sAnd, ↓sOr, ↓sNot, ↓sIfS, ↓sAndV, ↓sOrV, ↓sCB, ↓gLen, ↓sGet1, ↓sGet2, ↓toKey, ↓sRet, ↓sRetN, ↓sCall, ↓sNext, ↓gInt, ↓gCmp, ↓gEqB, ↓gIx, ↓gIsN, ↓isNonD, ↓truD, ↓gNegI, ↓sFor, ↓sLc, ↓sSlL, ↓sSlT, ↓sNoP, ↓sPart, ↓iRv, ↓lstK, ↓iA, ↓iE, ↓iZ, ↓iR1, ↓iR2, ↓valK, ↓valKs, ↓resK, ↓resKs, ↓slK, ↓List.getElem?_cons_succ, ↓List.getElem?_cons_zero, ↓List.set, ↓reduceIte, Bool.not_false, Bool.not_true, Bool.false_eq_true, id, Rs.v.injEq, D.bl.injEq, D.int.injEq, exists_eq_left', true_and, and_true, fD, str_dec, String.reduceEq, decide_false, decide_true, atI_0, atI_1, atI_2, Option.some.injEq, List.length_cons, List.length_nil, ↓sRetV, ↓gAdd, ↓sStarA, ↓gTin, ↓gTnin, ↓gTix, ↓sCallX, ↓sRaise, ↓sRaise1, ↓sTry, ↓gIsE, ↓sCallW, ↓sCF, ↓sCallO, ↓sSetO, ↓sSetIx, ↓setK, ↓sCat, ↓gIsi, ↓tyN, ↓gIsA, ↓gInsert, ↓gPool, ↓isIl, ↓isPl, ↓sSrtS, ↓gListF, ↓gTupA, ↓sNotV, ↓sLst, ↓sAsg, ↓wipeE, List.map_cons, List.map_nil, ↓g2I, keepAll, List.length_map, ↓gInt1, ↓gAbs, rng_len']
      have hq : q .non := hq
      exact fun _ => hq
    | some f =>
      have gf := hm f rfl
      rw [show mD (some f) = fD f from rfl]
      have no : (Fm.tg f ≠ "and" ∨ f ∉ r) → q .non := fun h => by
        have e : partsOf "and" (some f) r = none := if_neg fun h' => h.elim (fun n => n h'.1) fun n => n h'.2
        have e2 : premsL "and_right" lg l r (some f) = none := by show (partsOf "and" (some f) r).map _ = none; rw [e]; rfl
        rw [e2] at hq
        exact hq
      cases f with
      | var n =>
        simp only [↓gTp, ↓gCn, ↓gN, ↓gNl, ↓sSeq, ↓sIf, ↓sDrop, ↓sMut, ↓isLs, ↓mutK, ↓gAppend, ↓sSetM, ↓sSet, ↓sC, ↓sVar, ↓sTup, ↓sLst, ↓sFx, ↓sCons, ↓sNil, ↓sOp, ↓sUn, ↓sTst, ↓sTru, ↓sAnd, ↓sOr, ↓sNot, ↓sIfS, ↓sAndV, ↓sOrV, ↓sCB, ↓gLen, ↓sGet1, ↓sGet2, ↓toKey, ↓sRet, ↓sRetN, ↓sCall, ↓sNext, ↓gInt, ↓gCmp, ↓gEqB, ↓gIx, ↓gIsN, ↓isNonD, ↓truD, ↓gNegI, ↓sFor, ↓sLc, ↓sSlL, ↓sSlT, ↓sNoP, ↓sPart, ↓iRv, ↓lstK, ↓iA, ↓iE, ↓iZ, ↓iR1, ↓iR2, ↓valK, ↓valKs, ↓resK, ↓resKs, ↓slK, ↓List.getElem?_cons_succ, ↓List.getElem?_cons_zero, ↓List.set, ↓reduceIte, Bool.not_false, Bool.not_true, Bool.false_eq_true, id, Rs.v.injEq, D.bl.injEq, D.int.injEq, exists_eq_left', true_and, and_true, fD, str_dec, String.reduceEq, decide_false, decide_true, atI_0, atI_1, atI_2, Option.some.injEq, List.length_cons, List.length_nil, ↓sRetV, ↓gAdd, ↓sStarA, ↓gTin, ↓gTnin, ↓gTix, ↓sCallX, ↓sRaise, ↓sRaise1, ↓sTry, ↓gIsE, ↓sCallW, ↓sCF, ↓sCallO, ↓sSetO, ↓sSetIx, ↓setK, ↓sCat, ↓gIsi, ↓tyN, ↓gIsA, ↓gInsert, ↓gPool, ↓isIl, ↓isPl, ↓sSrtS, ↓gListF, ↓gTupA, ↓sNotV, ↓sLst, ↓sAsg, ↓wipeE, List.map_cons, List.map_nil, ↓g2I, keepAll, List.length_map, ↓gInt1, ↓gAbs, rng_len']
        have ne : Fm.tg (Fm.var n) ≠ "and" := show ("var" : Str) ≠ "and" by decide +kernel
        exact in_if (f := .var n) gf gr (fun _ _ => no (.inl ne)) (fun _ _ => no (.inl ne))
      | fal  =>
        simp only [↓gTp, ↓gCn, ↓gN, ↓gNl, ↓sSeq, ↓sIf, ↓sDrop, ↓sMut, ↓isLs, ↓mutK, ↓gAppend, ↓sSetM, ↓sSet, ↓sC, ↓sVar, ↓sTup, ↓sLst, ↓sFx, ↓sCons, ↓sNil, ↓sOp, ↓sUn, ↓sTst, ↓sTru, ↓sAnd, ↓sOr, ↓sNot, ↓sIfS, ↓sAndV, ↓sOrV, ↓sCB, ↓gLen, ↓sGet1, ↓sGet2, ↓toKey, ↓sRet, ↓sRetN, ↓sCall, ↓sNext, ↓gInt, ↓gCmp, ↓gEqB, ↓gIx, ↓gIsN, ↓isNonD, ↓truD, ↓gNegI, ↓sFor, ↓sLc, ↓sSlL, ↓sSlT, ↓sNoP, ↓sPart, ↓iRv, ↓lstK, ↓iA, ↓iE, ↓iZ, ↓iR1, ↓iR2, ↓valK, ↓valKs, ↓resK, ↓resKs, ↓slK, ↓List.getElem?_cons_succ, ↓List.getElem?_cons_zero, ↓List.set, ↓reduceIte, Bool.not_false, Bool.not_true, Bool.false_eq_true, id, Rs.v.injEq, D.bl.injEq, D.int.injEq, exists_eq_left', true_and, and_true, fD, str_dec, String.reduceEq, decide_false, decide_true, atI_0, atI_1, atI_2, Option.some.injEq, List.length_cons, List.length_nil, ↓sRetV, ↓gAdd, ↓sStarA, ↓gTin, ↓gTnin, ↓gTix, ↓sCallX, ↓sRaise, ↓sRaise1, ↓sTry, ↓gIsE, ↓sCallW, ↓sCF, ↓sCallO, ↓sSetO, ↓sSetIx, ↓setK, ↓sCat, ↓gIsi, ↓tyN, ↓gIsA, ↓gInsert, ↓gPool, ↓isIl, ↓isPl, ↓sSrtS, ↓gListF, ↓gTupA, ↓sNotV, ↓sLst, ↓sAsg, ↓wipeE, List.map_cons, List.map_nil, ↓g2I, keepAll, List.length_map, ↓gInt1, ↓gAbs, rng_len']
        have ne : Fm.tg (Fm.fal ) ≠ "and" := show ("falsum" : Str) ≠ "and" by decide +kernel
        exact in_if (f := .fal ) gf gr (fun _ _ => no (.inl ne)) (fun _ _ => no (.inl ne))
      | and a b =>
        simp only [↓gTp, ↓gCn, ↓gN, ↓gNl, ↓sSeq, ↓sIf, ↓sDrop, ↓sMut, ↓isLs, ↓mutK, ↓gAppend, ↓sSetM, ↓sSet, ↓sC, ↓sVar, ↓sTup, ↓sLst, ↓sFx, ↓sCons, ↓sNil, ↓sOp, ↓sUn, ↓sTst, ↓sTru, ↓sAnd, ↓sOr, ↓sNot, ↓sIfS, ↓sAndV, ↓sOrV, ↓sCB, ↓gLen, ↓sGet1, ↓sGet2, ↓toKey, ↓sRet, ↓sRetN, ↓sCall, ↓sNext, ↓gInt, ↓gCmp, ↓gEqB, ↓gIx, ↓gIsN, ↓isNonD, ↓truD, ↓gNegI, ↓sFor, ↓sLc, ↓sSlL, ↓sSlT, ↓sNoP, ↓sPart, ↓iRv, ↓lstK, ↓iA, ↓iE, ↓iZ, ↓iR1, ↓iR2, ↓valK, ↓valKs, ↓resK, ↓resKs, ↓slK, ↓List.getElem?_cons_succ, ↓List.getElem?_cons_zero, ↓List.set, ↓reduceIte, Bool.not_false, Bool.not_true, Bool.false_eq_true, id, Rs.v.injEq, D.bl.injEq, D.int.injEq, exists_eq_left', true_and, and_true, fD, str_dec, String.reduceEq, decide_false, decide_true, atI_0, atI_1, atI_2, Option.some.injEq, List.length_cons, List.length_nil, ↓sRetV, ↓gAdd, ↓sStarA, ↓gTin, ↓gTnin, ↓gTix, ↓sCallX, ↓sRaise, ↓sRaise1, ↓sTry, ↓gIsE, ↓sCallW, ↓sCF, ↓sCallO, ↓sSetO, ↓sSetIx, ↓setK, ↓sCat, ↓gIsi, ↓tyN, ↓gIsA, ↓gInsert, ↓gPool, ↓isIl, ↓isPl, ↓sSrtS, ↓gListF, ↓gTupA, ↓sNotV, ↓sLst, ↓sAsg, ↓wipeE, List.map_cons, List.map_nil, ↓g2I, keepAll, List.length_map, ↓gInt1, ↓gAbs, rng_len']
        have ga : Go a := go_ps gf (by simp [Fm.ps])
        have gb : Go b := go_ps gf (by simp [Fm.ps])
        refine in_if (f := .and a b) gf gr (fun hin => ?_) (fun hin _ => no (.inr hin))
        have e : partsOf "and" (some (.and a b)) r = some [a, b] := if_pos ⟨rfl, hin⟩
        have e2 : premsL "and_right" lg l r (some (.and a b)) = some [(l, ad r [a]), (l, ad r [b])] := by show (partsOf "and" (some (.and a b)) r).map _ = _; rw [e]; rfl
        rw [e2] at hq
        exact ⟨by decide, r, [a], .inl rfl, gr, fun g hg => by rw [List.mem_singleton.mp hg]; exact ga, by omega, one_len, by decide, by decide, r, [b], .inl rfl, gr, fun g hg => by rw [List.mem_singleton.mp hg]; exact gb, by omega, one_len, by decide, by decide, fun _ => hq⟩
      | or a b =>
        simp only [↓gTp, ↓gCn, ↓gN, ↓gNl, ↓sSeq, ↓sIf, ↓sDrop, ↓sMut, ↓isLs, ↓mutK, ↓gAppend, ↓sSetM, ↓sSet, ↓sC, ↓sVar, ↓sTup, ↓sLst, ↓sFx, ↓sCons, ↓sNil, ↓sOp, ↓sUn, ↓sTst, ↓sTru, ↓sAnd, ↓sOr, ↓sNot, ↓sIfS, ↓sAndV, ↓sOrV, ↓sCB, ↓gLen, ↓sGet1, ↓sGet2, ↓toKey, ↓sRet, ↓sRetN, ↓sCall, ↓sNext, ↓gInt, ↓gCmp, ↓gEqB, ↓gIx, ↓gIsN, ↓isNonD, ↓truD, ↓gNegI, ↓sFor, ↓sLc, ↓sSlL, ↓sSlT, ↓sNoP, ↓sPart, ↓iRv, ↓lstK, ↓iA, ↓iE, ↓iZ, ↓iR1, ↓iR2, ↓valK, ↓valKs, ↓resK, ↓resKs, ↓slK, ↓List.getElem?_cons_succ, ↓List.getElem?_cons_zero, ↓List.set, ↓reduceIte, Bool.not_false, Bool.not_true, Bool.false_eq_true, id, Rs.v.injEq, D.bl.injEq, D.int.injEq, exists_eq_left', true_and, and_true, fD, str_dec, String.reduceEq, decide_false, decide_true, atI_0, atI_1, atI_2, Option.some.injEq, List.length_cons, List.length_nil, ↓sRetV, ↓gAdd, ↓sStarA, ↓gTin, ↓gTnin, ↓gTix, ↓sCallX, ↓sRaise, ↓sRaise1, ↓sTry, ↓gIsE, ↓sCallW, ↓sCF, ↓sCallO, ↓sSetO, ↓sSetIx, ↓setK, ↓sCat, ↓gIsi, ↓tyN, ↓gIsA, ↓gInsert, ↓gPool, ↓isIl, ↓isPl, ↓sSrtS, ↓gListF, ↓gTupA, ↓sNotV, ↓sLst, ↓sAsg, ↓wipeE, List.map_cons, List.map_nil, ↓g2I, keepAll, List.length_map, ↓gInt1, ↓gAbs, rng_len']
        have ne : Fm.tg (Fm.or a b) ≠ "and" := show ("or" : Str) ≠ "and" by decide +kernel
        exact in_if (f := .or a b) gf gr (fun _ _ => no (.inl ne)) (fun _ _ => no (.inl ne))
      | imp a b =>
        simp only [↓gTp, ↓gCn, ↓gN, ↓gNl, ↓sSeq, ↓sIf, ↓sDrop, ↓sMut, ↓isLs, ↓mutK, ↓gAppend, ↓sSetM, ↓sSet, ↓sC, ↓sVar, ↓sTup, ↓sLst, ↓sFx, ↓sCons, ↓sNil, ↓sOp, ↓sUn, ↓sTst, ↓sTru, ↓sAnd, ↓sOr, ↓sNot, ↓sIfS, ↓sAndV, ↓sOrV, ↓sCB, ↓gLen, ↓sGet1, ↓sGet2, ↓toKey, ↓sRet, ↓sRetN, ↓sCall, ↓sNext, ↓gInt, ↓gCmp, ↓gEqB, ↓gIx, ↓gIsN, ↓isNonD, ↓truD, ↓gNegI, ↓sFor, ↓sLc, ↓sSlL, ↓sSlT, ↓sNoP, ↓sPart, ↓iRv, ↓lstK, ↓iA, ↓iE, ↓iZ, ↓iR1, ↓iR2, ↓valK, ↓valKs, ↓resK, ↓resKs, ↓slK, ↓List.getElem?_cons_succ, ↓List.getElem?_cons_zero, ↓List.set, ↓reduceIte, Bool.not_false, Bool.not_true, Bool.false_eq_true, id, Rs.v.injEq, D.bl.injEq, D.int.injEq, exists_eq_left', true_and, and_true, fD, str_dec, String.reduceEq, decide_false, decide_true, atI_0, atI_1, atI_2, Option.some.injEq, List.length_cons, List.length_nil, ↓sRetV, ↓gAdd, ↓sStarA, ↓gTin, ↓gTnin, ↓gTix, ↓sCallX, ↓sRaise, ↓sRaise1, ↓sTry, ↓gIsE, ↓sCallW, ↓sCF, ↓sCallO, ↓sSetO, ↓sSetIx, ↓setK, ↓sCat, ↓gIsi, ↓tyN, ↓gIsA, ↓gInsert, ↓gPool, ↓isIl, ↓isPl, ↓sSrtS, ↓gListF, ↓gTupA, ↓sNotV, ↓sLst, ↓sAsg, ↓wipeE, List.map_cons, List.map_nil, ↓g2I, keepAll, List.length_map, ↓gInt1, ↓gAbs, rng_len']
        have ne : Fm.tg (Fm.imp a b) ≠ "and" := show ("implies" : Str) ≠ "and" by decide +kernel
        exact in_if (f := .imp a b) gf gr (fun _ _ => no (.inl ne)) (fun _ _ => no (.inl ne))
      | box a =>
        simp only [↓gTp, ↓gCn, ↓gN, ↓gNl, ↓sSeq, ↓sIf, ↓sDrop, ↓sMut, ↓isLs, ↓mutK, ↓gAppend, ↓sSetM, ↓sSet, ↓sC, ↓sVar, ↓sTup, ↓sLst, ↓sFx, ↓sCons, ↓sNil, ↓sOp, ↓sUn, ↓sTst, ↓sTru, ↓sAnd, ↓sOr, ↓sNot, ↓sIfS, ↓sAndV, ↓sOrV, ↓sCB, ↓gLen, ↓sGet1, ↓sGet2, ↓toKey, ↓sRet, ↓sRetN, ↓sCall, ↓sNext, ↓gInt, ↓gCmp, ↓gEqB, ↓gIx, ↓gIsN, ↓isNonD, ↓truD, ↓gNegI, ↓sFor, ↓sLc, ↓sSlL, ↓sSlT, ↓sNoP, ↓sPart, ↓iRv, ↓lstK, ↓iA, ↓iE, ↓iZ, ↓iR1, ↓iR2, ↓valK, ↓valKs, ↓resK, ↓resKs, ↓slK, ↓List.getElem?_cons_succ, ↓List.getElem?_cons_zero, ↓List.set, ↓reduceIte, Bool.not_false, Bool.not_true, Bool.false_eq_true, id, Rs.v.injEq, D.bl.injEq, D.int.injEq, exists_eq_left', true_and, and_true, fD, str_dec, String.reduceEq, decide_false, decide_true, atI_0, atI_1, atI_2, Option.some.injEq, List.length_cons, List.length_nil, ↓sRetV, ↓gAdd, ↓sStarA, ↓gTin, ↓gTnin, ↓gTix, ↓sCallX, ↓sRaise, ↓sRaise1, ↓sTry, ↓gIsE, ↓sCallW, ↓sCF, ↓sCallO, ↓sSetO, ↓sSetIx, ↓setK, ↓sCat, ↓gIsi, ↓tyN, ↓gIsA, ↓gInsert, ↓gPool, ↓isIl, ↓isPl, ↓sSrtS, ↓gListF, ↓gTupA, ↓sNotV, ↓sLst, ↓sAsg, ↓wipeE, List.map_cons, List.map_nil, ↓g2I, keepAll, List.length_map, ↓gInt1, ↓gAbs, rng_len']
        have ne : Fm.tg (Fm.box a) ≠ "and" := show ("box" : Str) ≠ "and" by decide +kernel
        exact in_if (f := .box a) gf gr (fun _ _ => no (.inl ne)) (fun _ _ => no (.inl ne))
  · cases m with
    | none =>
      rw [show mD none = .non from rfl]
      simp only [↓gTp, ↓gCn, ↓gN, ↓gNl, ↓sSeq, ↓sIf, ↓sDrop, ↓sMut, ↓isLs, ↓mutK, ↓gAppend, ↓sSetM, ↓sSet, ↓sC, ↓sVar, ↓sTup, ↓sLst, ↓sFx, ↓sCons, ↓sNil, ↓sOp, ↓sUn, ↓sTst, ↓sTru, ↓sAnd, ↓sOr, ↓sNot, ↓sIfS, ↓sAndV, ↓sOrV, ↓sCB, ↓gLen, ↓sGet1, ↓sGet2, ↓toKey, ↓sRet, ↓sRetN, ↓sCall, ↓sNext, ↓gInt, ↓gCmp, ↓gEqB, ↓gIx, ↓gIsN, ↓isNonD, ↓truD, ↓gNegI, ↓sFor, ↓sLc, ↓sSlL, ↓sSlT, ↓sNoP, ↓sPart, ↓iRv, ↓lstK, ↓iA, ↓iE, ↓iZ, ↓iR1, ↓iR2, ↓valK, ↓valKs, ↓resK, ↓resKs, ↓slK, ↓List.getElem?_cons_succ, ↓List.getElem?_cons_zero, ↓List.set, ↓reduceIte, Bool.not_false, Bool.not_true, Bool.false_eq_true, id, Rs.v.injEq, D.bl.injEq, D.int.injEq, exists_eq_left', true_and, and_true, fD, str_dec, String.reduceEq, decide_false, decide_true, atI_0, atI_1, atI_2, Option.some.injEq, List.length_cons, List.length_nil, ↓sRetV, ↓gAdd, ↓sStarA, ↓gTin, ↓gTnin, ↓gTix, ↓sCallX, ↓sRaise, ↓sRaise1, ↓sTry, ↓gIsE, ↓sCallW, ↓sCF, ↓sCallO, ↓sSetO, ↓sSetIx, ↓setK, ↓sCat, ↓gIsi, ↓tyN, ↓gIsA, ↓gInsert, ↓gPool, ↓isIl, ↓isPl, ↓sSrtS, ↓gListF, ↓gTupA, ↓sNotV, ↓sLst, ↓sAsg, ↓wipeE, List.map_cons, List.map_nil, ↓g2I, keepAll, List.length_map, ↓gInt1, ↓gAbs, rng_len']
      have hq : q .non := hq
      exact fun _ => hq
    | some f =>
      have gf := hm f rfl
      rw [show mD (some f) = fD f from rfl]
      have no : (Fm.tg f ≠ "or" ∨ f ∉ l) → q .non := fun h => by
        have e : partsOf "or" (some f) l = none := if_neg fun h' => h.elim (fun n => n h'.1) fun n => n h'.2
        have e2 : premsL "or_left" lg l r (some f) = none := by show (partsOf "or" (some f) l).map _ = none; rw [e]; rfl
        rw [e2] at hq
        exact hq
      cases f with
      | var n =>
        simp only [↓gTp, ↓gCn, ↓gN, ↓gNl, ↓sSeq, ↓sIf, ↓sDrop, ↓sMut, ↓isLs, ↓mutK, ↓gAppend, ↓sSetM, ↓sSet, ↓sC, ↓sVar, ↓sTup, ↓sLst, ↓sFx, ↓sCons, ↓sNil, ↓sOp, ↓sUn, ↓sTst, ↓sTru, ↓sAnd, ↓sOr, ↓sNot, ↓sIfS, ↓sAndV, ↓sOrV, ↓sCB, ↓gLen, ↓sGet1, ↓sGet2, ↓toKey, ↓sRet, ↓sRetN, ↓sCall, ↓sNext, ↓gInt, ↓gCmp, ↓gEqB, ↓gIx, ↓gIsN, ↓isNonD, ↓truD, ↓gNegI, ↓sFor, ↓sLc, ↓sSlL, ↓sSlT, ↓sNoP, ↓sPart, ↓iRv, ↓lstK, ↓iA, ↓iE, ↓iZ, ↓iR1, ↓iR2, ↓valK, ↓valKs, ↓resK, ↓resKs, ↓slK, ↓List.getElem?_cons_succ, ↓List.getElem?_cons_zero, ↓List.set, ↓reduceIte, Bool.not_false, Bool.not_true, Bool.false_eq_true, id, Rs.v.injEq, D.bl.injEq, D.int.injEq, exists_eq_left', true_and, and_true, fD, str_dec, String.reduceEq, decide_false, decide_true, atI_0, atI_1, atI_2, Option.some.injEq, List.length_cons, List.length_nil, ↓sRetV, ↓gAdd, ↓sStarA, ↓gTin, ↓gTnin, ↓gTix, ↓sCallX, ↓sRaise, ↓sRaise1, ↓sTry, ↓gIsE, ↓sCallW, ↓sCF, ↓sCallO, ↓sSetO, ↓sSetIx, ↓setK, ↓sCat, ↓gIsi, ↓tyN, ↓gIsA, ↓gInsert, ↓gPool, ↓isIl, ↓isPl, ↓sSrtS, ↓gListF, ↓gTupA, ↓sNotV, ↓sLst, ↓sAsg, ↓wipeE, List.map_cons, List.map_nil, ↓g2I, keepAll, List.length_map, ↓gInt1, ↓gAbs, rng_len']
        have ne : Fm.tg (Fm.var n) ≠ "or" := show ("var" : Str) ≠ "or" by decide +kernel
        exact in_if (f := .var n) gf gl (fun _ _ => no (.inl ne)) (fun _ _ => no (.inl ne))
      | fal  =>
        simp only [↓gTp, ↓gCn, ↓gN, ↓gNl, ↓sSeq, ↓sIf, ↓sDrop, ↓sMut, ↓isLs, ↓mutK, ↓gAppend, ↓sSetM, ↓sSet, ↓sC, ↓sVar, ↓sTup, ↓sLst, ↓sFx, ↓sCons, ↓sNil, ↓sOp, ↓sUn, ↓sTst, ↓sTru, ↓sAnd, ↓sOr, ↓sNot, ↓sIfS, ↓sAndV, ↓sOrV, ↓sCB, ↓gLen, ↓sGet1, ↓sGet2, ↓toKey, ↓sRet, ↓sRetN, ↓sCall, ↓sNext, ↓gInt, ↓gCmp, ↓gEqB, ↓gIx, ↓gIsN, ↓isNonD, ↓truD, ↓gNegI, ↓sFor, ↓sLc, ↓sSlL, ↓sSlT, ↓sNoP, ↓sPart, ↓iRv, ↓lstK, ↓iA, ↓iE, ↓iZ, ↓iR1, ↓iR2, ↓valK, ↓valKs, ↓resK, ↓resKs, ↓slK, ↓List.getElem?_cons_succ, ↓List.getElem?_cons_zero, ↓List.set, ↓reduceIte, Bool.not_false, Bool.not_true, Bool.false_eq_true, id, Rs.v.injEq, D.bl.injEq, D.int.injEq, exists_eq_left', true_and, and_true, fD, str_dec, String.reduceEq, decide_false, decide_true, atI_0, atI_1, atI_2, Option.some.injEq, List.length_cons, List.length_nil, ↓sRetV, ↓gAdd, ↓sStarA, ↓gTin, ↓gTnin, ↓gTix, ↓sCallX, ↓sRaise, ↓sRaise1, ↓sTry, ↓gIsE, ↓sCallW, ↓sCF, ↓sCallO, ↓sSetO, ↓sSetIx, ↓setK, ↓sCat, ↓gIsi, ↓tyN, ↓gIsA, ↓gInsert, ↓gPool, ↓isIl, ↓isPl, ↓sSrtS, ↓gListF, ↓gTupA, ↓sNotV, ↓sLst, ↓sAsg, ↓wipeE, List.map_cons, List.map_nil, ↓g2I, keepAll, List.length_map, ↓gInt1, ↓gAbs, rng_len']
        have ne : Fm.tg (Fm.fal ) ≠ "or" := show ("falsum" : Str) ≠ "or" by decide +kernel
        exact in_if (f := .fal ) gf gl (fun _ _ => no (.inl ne)) (fun _ _ => no (.inl ne))
      | and a b =>
        simp only [↓gTp, ↓gCn, ↓gN, ↓gNl, ↓sSeq, ↓sIf, ↓sDrop, ↓sMut, ↓isLs, ↓mutK, ↓gAppend, ↓sSetM, ↓sSet, ↓sC, ↓sVar, ↓sTup, ↓sLst, ↓sFx, ↓sCons, ↓sNil, ↓sOp, ↓sUn, ↓sTst, ↓sTru, ↓sAnd, ↓sOr, ↓sNot, ↓sIfS, ↓sAndV, ↓sOrV, ↓sCB, ↓gLen, ↓sGet1, ↓sGet2, ↓toKey, ↓sRet, ↓sRetN, ↓sCall, ↓sNext, ↓gInt, ↓gCmp, ↓gEqB, ↓gIx, ↓gIsN, ↓isNonD, ↓truD, ↓gNegI, ↓sFor, ↓sLc, ↓sSlL, ↓sSlT, ↓sNoP, ↓sPart, ↓iRv, ↓lstK, ↓iA, ↓iE, ↓iZ, ↓iR1, ↓iR2, ↓valK, ↓valKs, ↓resK, ↓resKs, ↓slK, ↓List.getElem?_cons_succ, ↓List.getElem?_cons_zero, ↓List.set, ↓reduceIte, Bool.not_false, Bool.not_true, Bool.false_eq_true, id, Rs.v.injEq, D.bl.injEq, D.int.injEq, exists_eq_left', true_and, and_true, fD, str_dec, String.reduceEq, decide_false, decide_true, atI_0, atI_1, atI_2, Option.some.injEq, List.length_cons, List.length_nil, ↓sRetV, ↓gAdd, ↓sStarA, ↓gTin, ↓gTnin, ↓gTix, ↓sCallX, ↓sRaise, ↓sRaise1, ↓sTry, ↓gIsE, ↓sCallW, ↓sCF, ↓sCallO, ↓sSetO, ↓sSetIx, ↓setK, ↓sCat, ↓gIsi, ↓tyN, ↓gIsA, ↓gInsert, ↓gPool, ↓isIl, ↓isPl, ↓sSrtS, ↓gListF, ↓gTupA, ↓sNotV, ↓sLst, ↓sAsg, ↓wipeE, List.map_cons, List.map_nil, ↓g2I, keepAll, List.length_map, ↓gInt1, ↓gAbs, rng_len']
        have ne : Fm.tg (Fm.and a b) ≠ "or" := show ("and" : Str) ≠ "or" by decide +kernel
        exact in_if (f := .and a b) gf gl (fun _ _ => no (.inl ne)) (fun _ _ => no (.inl ne))
      | or a b =>
        simp only [↓gTp, ↓gCn, ↓gN, ↓gNl, ↓sSeq, ↓sIf, ↓sDrop, ↓sMut, ↓isLs, ↓mutK, ↓gAppend, ↓sSetM, ↓sSet, ↓sC, ↓sVar, ↓sTup, ↓sLst, ↓sFx, ↓sCons, ↓sNil, ↓sOp, ↓sUn, ↓sTst, ↓sTru, ↓sAnd, ↓sOr, ↓sNot, ↓sIfS, ↓sAndV, ↓sOrV, ↓sCB, ↓gLen, ↓sGet1, ↓sGet2, ↓toKey, ↓sRet, ↓sRetN, ↓sCall, ↓sNext, ↓gInt, ↓gCmp, ↓gEqB, ↓gIx, ↓gIsN, ↓isNonD, ↓truD, ↓gNegI, ↓sFor, ↓sLc, ↓sSlL, ↓sSlT, ↓sNoP, ↓sPart, ↓iRv, ↓lstK, ↓iA, ↓iE, ↓iZ, ↓iR1, ↓iR2, ↓valK, ↓valKs, ↓resK, ↓resKs, ↓slK, ↓List.getElem?_cons_succ, ↓List.getElem?_cons_zero, ↓List.set, ↓reduceIte, Bool.not_false, Bool.not_true, Bool.false_eq_true, id, Rs.v.injEq, D.bl.injEq, D.int.injEq, exists_eq_left', true_and, and_true, fD, str_dec, String.reduceEq, decide_false, decide_true, atI_0, atI_1, atI_2, Option.some.injEq, List.length_cons, List.length_nil, ↓sRetV, ↓gAdd, ↓sStarA, ↓gTin, ↓gTnin, ↓gTix, ↓sCallX, ↓sRaise, ↓sRaise1, ↓sTry, ↓gIsE, ↓sCallW, ↓sCF, ↓sCallO, ↓sSetO, ↓sSetIx, ↓setK, ↓sCat, ↓gIsi, ↓tyN, ↓gIsA, ↓gInsert, ↓gPool, ↓isIl, ↓isPl, ↓sSrtS, ↓gListF, ↓gTupA, ↓sNotV, ↓sLst, ↓sAsg, ↓wipeE, List.map_cons, List.map_nil, ↓g2I, keepAll, List.length_map, ↓gInt1, ↓gAbs, rng_len']
        have ga : Go a := go_ps gf (by simp [Fm.ps])
        have gb : Go b := go_ps gf (by simp [Fm.ps])
        refine in_if (f := .or a b) gf gl (fun hin => ?_) (fun hin _ => no (.inr hin))
        have e : partsOf "or" (some (.or a b)) l = some [a, b] := if_pos ⟨rfl, hin⟩
        have e2 : premsL "or_left" lg l r (some (.or a b)) = some [(ad l [a], r), (ad l [b], r)] := by show (partsOf "or" (some (.or a b)) l).map _ = _; rw [e]; rfl
        rw [e2] at hq
        exact ⟨by decide, l, [a], .inl rfl, gl, fun g hg => by rw [List.mem_singleton.mp hg]; exact ga, by omega, one_len, by decide, by decide, l, [b], .inl rfl, gl, fun g hg => by rw [List.mem_singleton.mp hg]; exact gb, by omega, one_len, by decide, by decide, fun _ => hq⟩
      | imp a b =>
        simp only [↓gTp, ↓gCn, ↓gN, ↓gNl, ↓sSeq, ↓sIf, ↓sDrop, ↓sMut, ↓isLs, ↓mutK, ↓gAppend, ↓sSetM, ↓sSet, ↓sC, ↓sVar, ↓sTup, ↓sLst, ↓sFx, ↓sCons, ↓sNil, ↓sOp, ↓sUn, ↓sTst, ↓sTru, ↓sAnd, ↓sOr, ↓sNot, ↓sIfS, ↓sAndV, ↓sOrV, ↓sCB, ↓gLen, ↓sGet1, ↓sGet2, ↓toKey, ↓sRet, ↓sRetN, ↓sCall, ↓sNext, ↓gInt, ↓gCmp, ↓gEqB, ↓gIx, ↓gIsN, ↓isNonD, ↓truD, ↓gNegI, ↓sFor, ↓sLc, ↓sSlL, ↓sSlT, ↓sNoP, ↓sPart, ↓iRv, ↓lstK, ↓iA, ↓iE, ↓iZ, ↓iR1, ↓iR2, ↓valK, ↓valKs, ↓resK, ↓resKs, ↓slK, ↓List.getElem?_cons_succ, ↓List.getElem?_cons_zero, ↓List.set, ↓reduceIte, Bool.not_false, Bool.not_true, Bool.false_eq_true, id, Rs.v.injEq, D.bl.injEq, D.int.injEq, exists_eq_left', true_and, and_true, fD, str_dec, String.reduceEq, decide_false, decide_true, atI_0, atI_1, atI_2, Option.some.injEq, List.length_cons, List.length_nil, ↓sRetV, ↓gAdd, ↓sStarA, ↓gTin, ↓gTnin, ↓gTix, ↓sCallX, ↓sRaise, ↓sRaise1, ↓sTry, ↓gIsE, ↓sCallW, ↓sCF, ↓sCallO, ↓sSetO, ↓sSetIx, ↓setK, ↓sCat, ↓gIsi, ↓tyN, ↓gIsA, ↓gInsert, ↓gPool, ↓isIl, ↓isPl, ↓sSrtS, ↓gListF, ↓gTupA, ↓sNotV, ↓sLst, ↓sAsg, ↓wipeE, List.map_cons, List.map_nil, ↓g2I, keepAll, List.length_map, ↓gInt1, ↓gAbs, rng_len']
        have ne : Fm.tg (Fm.imp a b) ≠ "or" := show ("implies" : Str) ≠ "or" by decide +kernel
        exact in_if (f := .imp a b) gf gl (fun _ _ => no (.inl ne)) (fun _ _ => no (.inl ne))
      | box a =>
        simp only [↓gTp, ↓gCn, ↓gN, ↓gNl, ↓sSeq, ↓sIf, ↓sDrop, ↓sMut, ↓isLs, ↓mutK, ↓gAppend, ↓sSetM, ↓sSet, ↓sC, ↓sVar, ↓sTup, ↓sLst, ↓sFx, ↓sCons, ↓sNil, ↓sOp, ↓sUn, ↓sTst, ↓sTru, ↓sAnd, ↓sOr, ↓sNot, ↓sIfS, ↓sAndV, ↓sOrV, ↓sCB, ↓gLen, ↓sGet1, ↓sGet2, ↓toKey, ↓sRet, ↓sRetN, ↓sCall, ↓sNext, ↓gInt, ↓gCmp, ↓gEqB, ↓gIx, ↓gIsN, ↓isNonD, ↓truD, ↓gNegI, ↓sFor, ↓sLc, ↓sSlL, ↓sSlT, ↓sNoP, ↓sPart, ↓iRv, ↓lstK, ↓iA, ↓iE, ↓iZ, ↓iR1, ↓iR2, ↓valK, ↓valKs, ↓resK, ↓resKs, ↓slK, ↓List.getElem?_cons_succ, ↓List.getElem?_cons_zero, ↓List.set, ↓reduceIte, Bool.not_false, Bool.not_true, Bool.false_eq_true, id, Rs.v.injEq, D.bl.injEq, D.int.injEq, exists_eq_left', true_and, and_true, fD, str_dec, String.reduceEq, decide_false, decide_true, atI_0, atI_1, atI_2, Option.some.injEq, List.length_cons, List.length_nil, ↓sRetV, ↓gAdd, ↓sStarA, ↓gTin, ↓gTnin, ↓gTix, ↓sCallX, ↓sRaise, ↓sRaise1, ↓sTry, ↓gIsE, ↓sCallW, ↓sCF, ↓sCallO, ↓sSetO, ↓sSetIx, ↓setK, ↓sCat, ↓gIsi, ↓tyN, ↓gIsA, ↓gInsert, ↓gPool, ↓isIl, ↓isPl, ↓sSrtS, ↓gListF, ↓gTupA, ↓sNotV, ↓sLst, ↓sAsg, ↓wipeE, List.map_cons, List.map_nil, ↓g2I, keepAll, List.length_map, ↓gInt1, ↓gAbs, rng_len']
        have ne : Fm.tg (Fm.box a) ≠ "or" := show ("box" : Str) ≠ "or" by decide +kernel
        exact in_if (f := .box a) gf gl (fun _ _ => no (.inl ne)) (fun _ _ => no (.inl ne))
  · cases m with
    | none =>
      rw [show mD none = .non from rfl]
      simp only [↓gTp, ↓gCn, ↓gN, ↓gNl, ↓sSeq, ↓sIf, ↓sDrop, ↓sMut, ↓isLs, ↓mutK, ↓gAppend, ↓sSetM, ↓sSet, ↓sC, ↓sVar, ↓sTup, ↓sLst, ↓sFx, ↓sCons, ↓sNil, ↓sOp, ↓sUn, ↓sTst, ↓sTru, ↓sAnd, ↓sOr, ↓sNot, ↓sIfS, ↓sAndV, ↓sOrV, ↓sCB, ↓gLen, ↓sGet1, ↓sGet2, ↓toKey, ↓sRet, ↓sRetN, ↓sCall, ↓sNext, ↓gInt, ↓gCmp, ↓gEqB, ↓gIx, ↓gIsN, ↓isNonD, ↓truD, ↓gNegI, ↓sFor, ↓sLc, ↓sSlL, ↓sSlT, ↓sNoP, ↓sPart, ↓iRv, ↓lstK, ↓iA, ↓iE, ↓iZ, ↓iR1, ↓iR2, ↓valK, ↓valKs, ↓resK, ↓resKs, ↓slK, ↓List.getElem?_cons_succ, ↓List.getElem?_cons_zero, ↓List.set, ↓reduceIte, Bool.not_false, Bool.not_true, Bool.false_eq_true, id, Rs.v.injEq, D.bl.injEq, D.int.injEq, exists_eq_left', true_and, and_true, fD, str_dec, String.reduceEq, decide_false, decide_true, atI_0, atI_1, atI_2, Option.some.injEq, List.length_cons, List.length_nil, ↓sRetV, ↓gAdd, ↓sStarA, ↓gTin, ↓gTnin, ↓gTix, ↓sCallX, ↓sRaise, ↓sRaise1, ↓sTry, ↓gIsE, ↓sCallW, ↓sCF, ↓sCallO, ↓sSetO, ↓sSetIx, ↓setK, ↓sCat, ↓gIsi, ↓tyN, ↓gIsA, ↓gInsert, ↓gPool, ↓isIl, ↓isPl, ↓sSrtS, ↓gListF, ↓gTupA, ↓sNotV, ↓sLst, ↓sAsg, ↓wipeE, List.map_cons, List.map_nil, ↓g2I, keepAll, List.length_map, ↓gInt1, ↓gAbs, rng_len']
      have hq : q .non := hq
      exact fun _ => hq
    | some f =>
      have gf := hm f rfl
      rw [show mD (some f) = fD f from rfl]
      have no : (Fm.tg f ≠ "or" ∨ f ∉ r) → q .non := fun h => by
        have e : partsOf "or" (some f) r = none := if_neg fun h' => h.elim (fun n => n h'.1) fun n => n h'.2
        have e2 : premsL "or_right" lg l r (some f) = none := by show (partsOf "or" (some f) r).map _ = none; rw [e]; rfl
        rw [e2] at hq
        exact hq
      cases f with
      | var n =>
        simp only [↓gTp, ↓gCn, ↓gN, ↓gNl, ↓sSeq, ↓sIf, ↓sDrop, ↓sMut, ↓isLs, ↓mutK, ↓gAppend, ↓sSetM, ↓sSet, ↓sC, ↓sVar, ↓sTup, ↓sLst, ↓sFx, ↓sCons, ↓sNil, ↓sOp, ↓sUn, ↓sTst, ↓sTru, ↓sAnd, ↓sOr, ↓sNot, ↓sIfS, ↓sAndV, ↓sOrV, ↓sCB, ↓gLen, ↓sGet1, ↓sGet2, ↓toKey, ↓sRet, ↓sRetN, ↓sCall, ↓sNext, ↓gInt, ↓gCmp, ↓gEqB, ↓gIx, ↓gIsN, ↓isNonD, ↓truD, ↓gNegI, ↓sFor, ↓sLc, ↓sSlL, ↓sSlT, ↓sNoP, ↓sPart, ↓iRv, ↓lstK, ↓iA, ↓iE, ↓iZ, ↓iR1, ↓iR2, ↓valK, ↓valKs, ↓resK, ↓resKs, ↓slK, ↓List.getElem?_cons_succ, ↓List.getElem?_cons_zero, ↓List.set, ↓reduceIte, Bool.not_false, Bool.not_true, Bool.false_eq_true, id, Rs.v.injEq, D.bl.injEq, D.int.injEq, exists_eq_left', true_and, and_true, fD, str_dec, String.reduceEq, decide_false, decide_true, atI_0, atI_1, atI_2, Option.some.injEq, List.length_cons, List.length_nil, ↓sRetV, ↓gAdd, ↓sStarA, ↓gTin, ↓gTnin, ↓gTix, ↓sCallX, ↓sRaise, ↓sRaise1, ↓sTry, ↓gIsE, ↓sCallW, ↓sCF, ↓sCallO, ↓sSetO, ↓sSetIx, ↓setK, ↓sCat, ↓gIsi, ↓tyN, ↓gIsA, ↓gInsert, ↓gPool, ↓isIl, ↓isPl, ↓sSrtS, ↓gListF, ↓gTupA, ↓sNotV, ↓sLst, ↓sAsg, ↓wipeE, List.map_cons, List.map_nil, ↓g2I, keepAll, List.length_map, ↓gInt1, ↓gAbs, rng_len']
        have ne : Fm.tg (Fm.var n) ≠ "or" := show ("var" : Str) ≠ "or" by decide +kernel
        exact in_if (f := .var n) gf gr (fun _ _ => no (.inl ne)) (fun _ _ => no (.inl ne))
      | fal  =>
        simp only [↓gTp, ↓gCn, ↓gN, ↓gNl, ↓sSeq, ↓sIf, ↓sDrop, ↓sMut, ↓isLs, ↓mutK, ↓gAppend, ↓sSetM, ↓sSet, ↓sC, ↓sVar, ↓sTup, ↓sLst, ↓sFx, ↓sCons, ↓sNil, ↓sOp, ↓sUn, ↓sTst, ↓sTru, ↓sAnd, ↓sOr, ↓sNot, ↓sIfS, ↓sAndV, ↓sOrV, ↓sCB, ↓gLen, ↓sGet1, ↓sGet2, ↓toKey, ↓sRet, ↓sRetN, ↓sCall, ↓sNext, ↓gInt, ↓gCmp, ↓gEqB, ↓gIx, ↓gIsN, ↓isNonD, ↓truD, ↓gNegI, ↓sFor, ↓sLc, ↓sSlL, ↓sSlT, ↓sNoP, ↓sPart, ↓iRv, ↓lstK, ↓iA, ↓iE, ↓iZ, ↓iR1, ↓iR2, ↓valK, ↓valKs, ↓resK, ↓resKs, ↓slK, ↓List.getElem?_cons_succ, ↓List.getElem?_cons_zero, ↓List.set, ↓reduceIte, Bool.not_false, Bool.not_true, Bool.false_eq_true, id, Rs.v.injEq, D.bl.injEq, D.int.injEq, exists_eq_left', true_and, and_true, fD, str_dec, String.reduceEq, decide_false, decide_true, atI_0, atI_1, atI_2, Option.some.injEq, List.length_cons, List.length_nil, ↓sRetV, ↓gAdd, ↓sStarA, ↓gTin, ↓gTnin, ↓gTix, ↓sCallX, ↓sRaise, ↓sRaise1, ↓sTry, ↓gIsE, ↓sCallW, ↓sCF, ↓sCallO, ↓sSetO, ↓sSetIx, ↓setK, ↓sCat, ↓gIsi, ↓tyN, ↓gIsA, ↓gInsert, ↓gPool, ↓isIl, ↓isPl, ↓sSrtS, ↓gListF, ↓gTupA, ↓sNotV, ↓sLst, ↓sAsg, ↓wipeE, List.map_cons, List.map_nil, ↓g2I, keepAll, List.length_map, ↓gInt1, ↓gAbs, rng_len']
        have ne : Fm.tg (Fm.fal ) ≠ "or" := show ("falsum" : Str) ≠ "or" by decide +kernel
        exact in_if (f := .fal ) gf gr (fun _ _ => no (.inl ne)) (fun _ _ => no (.inl ne))
      | and a b =>
        simp only [↓gTp, ↓gCn, ↓gN, ↓gNl, ↓sSeq, ↓sIf, ↓sDrop, ↓sMut, ↓isLs, ↓mutK, ↓gAppend, ↓sSetM, ↓sSet, ↓sC, ↓sVar, ↓sTup, ↓sLst, ↓sFx, ↓sCons, ↓sNil, ↓sOp, ↓sUn, ↓sTst, ↓sTru, ↓sAnd, ↓sOr, ↓sNot, ↓sIfS, ↓sAndV, ↓sOrV, ↓sCB, ↓gLen, ↓sGet1, ↓sGet2, ↓toKey, ↓sRet, ↓sRetN, ↓sCall, ↓sNext, ↓gInt, ↓gCmp, ↓gEqB, ↓gIx, ↓gIsN, ↓isNonD, ↓truD, ↓gNegI, ↓sFor, ↓sLc, ↓sSlL, ↓sSlT, ↓sNoP, ↓sPart, ↓iRv, ↓lstK, ↓iA, ↓iE, ↓iZ, ↓iR1, ↓iR2, ↓valK, ↓valKs, ↓resK, ↓resKs, ↓slK, ↓List.getElem?_cons_succ, ↓List.getElem?_cons_zero, ↓List.set, ↓reduceIte, Bool.not_false, Bool.not_true, Bool.false_eq_true, id, Rs.v.injEq, D.bl.injEq, D.int.injEq, exists_eq_left', true_and, and_true, fD, str_dec, String.reduceEq, decide_false, decide_true, atI_0, atI_1, atI_2, Option.some.injEq, List.length_cons, List.length_nil, ↓sRetV, ↓gAdd, ↓sStarA, ↓gTin, ↓gTnin, ↓gTix, ↓sCallX, ↓sRaise, ↓sRaise1, ↓sTry, ↓gIsE, ↓sCallW, ↓sCF, ↓sCallO, ↓sSetO, ↓sSetIx, ↓setK, ↓sCat, ↓gIsi, ↓tyN, ↓gIsA, ↓gInsert, ↓gPool, ↓isIl, ↓isPl, ↓sSrtS, ↓gListF, ↓gTupA, ↓sNotV, ↓sLst, ↓sAsg, ↓wipeE, List.map_cons, List.map_nil, ↓g2I, keepAll, List.length_map, ↓gInt1, ↓gAbs, rng_len']
        have ne : Fm.tg (Fm.and a b) ≠ "or" := show ("and" : Str) ≠ "or" by decide +kernel
        exact in_if (f := .and a b) gf gr (fun _ _ => no (.inl ne)) (fun _ _ => no (.inl ne))
      | or a b =>
        simp only [↓gTp, ↓gCn, ↓gN, ↓gNl, ↓sSeq, ↓sIf, ↓sDrop, ↓sMut, ↓isLs, ↓mutK, ↓gAppend, ↓sSetM, ↓sSet, ↓sC, ↓sVar, ↓sTup, ↓sLst, ↓sFx, ↓sCons, ↓sNil, ↓sOp, ↓sUn, ↓sTst, ↓sTru, ↓sAnd, ↓sOr, ↓sNot, ↓sIfS, ↓sAndV, ↓sOrV, ↓sCB, ↓gLen, ↓sGet1, ↓sGet2, ↓toKey, ↓sRet, ↓sRetN, ↓sCall, ↓sNext, ↓gInt, ↓gCmp, ↓gEqB, ↓gIx, ↓gIsN, ↓isNonD, ↓truD, ↓gNegI, ↓sFor, ↓sLc, ↓sSlL, ↓sSlT, ↓sNoP, ↓sPart, ↓iRv, ↓lstK, ↓iA, ↓iE, ↓iZ, ↓iR1, ↓iR2, ↓valK, ↓valKs, ↓resK, ↓resKs, ↓slK, ↓List.getElem?_cons_succ, ↓List.getElem?_cons_zero, ↓List.set, ↓reduceIte, Bool.not_false, Bool.not_true, Bool.false_eq_true, id, Rs.v.injEq, D.bl.injEq, D.int.injEq, exists_eq_left', true_and, and_true, fD, str_dec, String.reduceEq, decide_false, decide_true, atI_0, atI_1, atI_2, Option.some.injEq, List.length_cons, List.length_nil, ↓sRetV, ↓gAdd, ↓sStarA, ↓gTin, ↓gTnin, ↓gTix, ↓sCallX, ↓sRaise, ↓sRaise1, ↓sTry, ↓gIsE, ↓sCallW, ↓sCF, ↓sCallO, ↓sSetO, ↓sSetIx, ↓setK, ↓sCat, ↓gIsi, ↓tyN, ↓gIsA, ↓gInsert, ↓gPool, ↓isIl, ↓isPl, ↓sSrtS, ↓gListF, ↓gTupA, ↓sNotV, ↓sLst, ↓sAsg, ↓wipeE, List.map_cons, List.map_nil, ↓g2I, keepAll, List.length_map, ↓gInt1, ↓gAbs, rng_len']
        have ga : Go a := go_ps gf (by simp [Fm.ps])
        have gb : Go b := go_ps gf (by simp [Fm.ps])
        refine in_if (f := .or a b) gf gr (fun hin => ?_) (fun hin _ => no (.inr hin))
        have e : partsOf "or" (some (.or a b)) r = some [a, b] := if_pos ⟨rfl, hin⟩
        have e2 : premsL "or_right" lg l r (some (.or a b)) = some [(l, ad r [a, b])] := by show (partsOf "or" (some (.or a b)) r).map _ = _; rw [e]; rfl
        rw [e2] at hq
        have gab : ∀ g ∈ [a, b], Go g := fun g hg => by
          rcases List.mem_cons.mp hg with e | hg
          · rw [e]; exact ga
          · rw [List.mem_singleton.mp hg]; exact gb
        exact ⟨r, [a, b], .inr rfl, gr, gab, by omega, two_len, by decide, by decide, fun _ => hq⟩
      | imp a b =>
        simp only [↓gTp, ↓gCn, ↓gN, ↓gNl, ↓sSeq, ↓sIf, ↓sDrop, ↓sMut, ↓isLs, ↓mutK, ↓gAppend, ↓sSetM, ↓sSet, ↓sC, ↓sVar, ↓sTup, ↓sLst, ↓sFx, ↓sCons, ↓sNil, ↓sOp, ↓sUn, ↓sTst, ↓sTru, ↓sAnd, ↓sOr, ↓sNot, ↓sIfS, ↓sAndV, ↓sOrV, ↓sCB, ↓gLen, ↓sGet1, ↓sGet2, ↓toKey, ↓sRet, ↓sRetN, ↓sCall, ↓sNext, ↓gInt, ↓gCmp, ↓gEqB, ↓gIx, ↓gIsN, ↓isNonD, ↓truD, ↓gNegI, ↓sFor, ↓sLc, ↓sSlL, ↓sSlT, ↓sNoP, ↓sPart, ↓iRv, ↓lstK, ↓iA, ↓iE, ↓iZ, ↓iR1, ↓iR2, ↓valK, ↓valKs, ↓resK, ↓resKs, ↓slK, ↓List.getElem?_cons_succ, ↓List.getElem?_cons_zero, ↓List.set, ↓reduceIte, Bool.not_false, Bool.not_true, Bool.false_eq_true, id, Rs.v.injEq, D.bl.injEq, D.int.injEq, exists_eq_left', true_and, and_true, fD, str_dec, String.reduceEq, decide_false, decide_true, atI_0, atI_1, atI_2, Option.some.injEq, List.length_cons, List.length_nil, ↓sRetV, ↓gAdd, ↓sStarA, ↓gTin, ↓gTnin, ↓gTix, ↓sCallX, ↓sRaise, ↓sRaise1, ↓sTry, ↓gIsE, ↓sCallW, ↓sCF, ↓sCallO, ↓sSetO, ↓sSetIx, ↓setK, ↓sCat, ↓gIsi, ↓tyN, ↓gIsA, ↓gInsert, ↓gPool, ↓isIl, ↓isPl, ↓sSrtS, ↓gListF, ↓gTupA, ↓sNotV, ↓sLst, ↓sAsg, ↓wipeE, List.map_cons, List.map_nil, ↓g2I, keepAll, List.length_map, ↓gInt1, ↓gAbs, rng_len']
        have ne : Fm.tg (Fm.imp a b) ≠ "or" := show ("implies" : Str) ≠ "or" by decide +kernel
        exact in_if (f := .imp a b) gf gr (fun _ _ => no (.inl ne)) (fun _ _ => no (.inl ne))
      | box a =>
        simp only [↓gTp, ↓gCn, ↓gN, ↓gNl, ↓sSeq, ↓sIf, ↓sDrop, ↓sMut, ↓isLs, ↓mutK, ↓gAppend, ↓sSetM, ↓sSet, ↓sC, ↓sVar, ↓sTup, ↓sLst, ↓sFx, ↓sCons, ↓sNil, ↓sOp, ↓sUn, ↓sTst, ↓sTru, ↓sAnd, ↓sOr, ↓sNot, ↓sIfS, ↓sAndV, ↓sOrV, ↓sCB, ↓gLen, ↓sGet1, ↓sGet2, ↓toKey, ↓sRet, ↓sRetN, ↓sCall, ↓sNext, ↓gInt, ↓gCmp, ↓gEqB, ↓gIx, ↓gIsN, ↓isNonD, ↓truD, ↓gNegI, ↓sFor, ↓sLc, ↓sSlL, ↓sSlT, ↓sNoP, ↓sPart, ↓iRv, ↓lstK, ↓iA, ↓iE, ↓iZ, ↓iR1, ↓iR2, ↓valK, ↓valKs, ↓resK, ↓resKs, ↓slK, ↓List.getElem?_cons_succ, ↓List.getElem?_cons_zero, ↓List.set, ↓reduceIte, Bool.not_false, Bool.not_true, Bool.false_eq_true, id, Rs.v.injEq, D.bl.injEq, D.int.injEq, exists_eq_left', true_and, and_true, fD, str_dec, String.reduceEq, decide_false, decide_true, atI_0, atI_1, atI_2, Option.some.injEq, List.length_cons, List.length_nil, ↓sRetV, ↓gAdd, ↓sStarA, ↓gTin, ↓gTnin, ↓gTix, ↓sCallX, ↓sRaise, ↓sRaise1, ↓sTry, ↓gIsE, ↓sCallW, ↓sCF, ↓sCallO, ↓sSetO, ↓sSetIx, ↓setK, ↓sCat, ↓gIsi, ↓tyN, ↓gIsA, ↓gInsert, ↓gPool, ↓isIl, ↓isPl, ↓sSrtS, ↓gListF, ↓gTupA, ↓sNotV, ↓sLst, ↓sAsg, ↓wipeE, List.map_cons, List.map_nil, ↓g2I, keepAll, List.length_map, ↓gInt1, ↓gAbs, rng_len']
        have ne : Fm.tg (Fm.box a) ≠ "or" := show ("box" : Str) ≠ "or" by decide +kernel
        exact in_if (f := .box a) gf gr (fun _ _ => no (.inl ne)) (fun _ _ => no (.inl ne))
  · cases m with
    | none =>
      rw [show mD none = .non from rfl]
      simp only [↓gTp, ↓gCn, ↓gN, ↓gNl, ↓sSeq, ↓sIf, ↓sDrop, ↓sMut, ↓isLs, ↓mutK, ↓gAppend, ↓sSetM, ↓sSet, ↓sC, ↓sVar, ↓sTup, ↓sLst, ↓sFx, ↓sCons, ↓sNil, ↓sOp, ↓sUn, ↓sTst, ↓sTru, ↓sAnd, ↓sOr, ↓sNot, ↓sIfS, ↓sAndV, ↓sOrV, ↓sCB, ↓gLen, ↓sGet1, ↓sGet2, ↓toKey, ↓sRet, ↓sRetN, ↓sCall, ↓sNext, ↓gInt, ↓gCmp, ↓gEqB, ↓gIx, ↓gIsN, ↓isNonD, ↓truD, ↓gNegI, ↓sFor, ↓sLc, ↓sSlL, ↓sSlT, ↓sNoP, ↓sPart, ↓iRv, ↓lstK, ↓iA, ↓iE, ↓iZ, ↓iR1, ↓iR2, ↓valK, ↓valKs, ↓resK, ↓resKs, ↓slK, ↓List.getElem?_cons_succ, ↓List.getElem?_cons_zero, ↓List.set, ↓reduceIte, Bool.not_false, Bool.not_true, Bool.false_eq_true, id, Rs.v.injEq, D.bl.injEq, D.int.injEq, exists_eq_left', true_and, and_true, fD, str_dec, String.reduceEq, decide_false, decide_true, atI_0, atI_1, atI_2, Option.some.injEq, List.length_cons, List.length_nil, ↓sRetV, ↓gAdd, ↓sStarA, ↓gTin, ↓gTnin, ↓gTix, ↓sCallX, ↓sRaise, ↓sRaise1, ↓sTry, ↓gIsE, ↓sCallW, ↓sCF, ↓sCallO, ↓sSetO, ↓sSetIx, ↓setK, ↓sCat, ↓gIsi, ↓tyN, ↓gIsA, ↓gInsert, ↓gPool, ↓isIl, ↓isPl, ↓sSrtS, ↓gListF, ↓gTupA, ↓sNotV, ↓sLst, ↓sAsg, ↓wipeE, List.map_cons, List.map_nil, ↓g2I, keepAll, List.length_map, ↓gInt1, ↓gAbs, rng_len']
      have hq : q .non := hq
      exact fun _ => hq
    | some f =>
      have gf := hm f rfl
      rw [show mD (some f) = fD f from rfl]
      have no : (Fm.tg f ≠ "implies" ∨ f ∉ l) → q .non := fun h => by
        have e : partsOf "implies" (some f) l = none := if_neg fun h' => h.elim (fun n => n h'.1) fun n => n h'.2
        have e2 : premsL "implies_left" lg l r (some f) = none := by show (partsOf "implies" (some f) l).map _ = none; rw [e]; rfl
        rw [e2] at hq
        exact hq
      cases f with
      | var n =>
        simp only [↓gTp, ↓gCn, ↓gN, ↓gNl, ↓sSeq, ↓sIf, ↓sDrop, ↓sMut, ↓isLs, ↓mutK, ↓gAppend, ↓sSetM, ↓sSet, ↓sC, ↓sVar, ↓sTup, ↓sLst, ↓sFx, ↓sCons, ↓sNil, ↓sOp, ↓sUn, ↓sTst, ↓sTru, ↓sAnd, ↓sOr, ↓sNot, ↓sIfS, ↓sAndV, ↓sOrV, ↓sCB, ↓gLen, ↓sGet1, ↓sGet2, ↓toKey, ↓sRet, ↓sRetN, ↓sCall, ↓sNext, ↓gInt, ↓gCmp, ↓gEqB, ↓gIx, ↓gIsN, ↓isNonD, ↓truD, ↓gNegI, ↓sFor, ↓sLc, ↓sSlL, ↓sSlT, ↓sNoP, ↓sPart, ↓iRv, ↓lstK, ↓iA, ↓iE, ↓iZ, ↓iR1, ↓iR2, ↓valK, ↓valKs, ↓resK, ↓resKs, ↓slK, ↓List.getElem?_cons_succ, ↓List.getElem?_cons_zero, ↓List.set, ↓reduceIte, Bool.not_false, Bool.not_true, Bool.false_eq_true, id, Rs.v.injEq, D.bl.injEq, D.int.injEq, exists_eq_left', true_and, and_true, fD, str_dec, String.reduceEq, decide_false, decide_true, atI_0, atI_1, atI_2, Option.some.injEq, List.length_cons, List.length_nil, ↓sRetV, ↓gAdd, ↓sStarA, ↓gTin, ↓gTnin, ↓gTix, ↓sCallX, ↓sRaise, ↓sRaise1, ↓sTry, ↓gIsE, ↓sCallW, ↓sCF, ↓sCallO, ↓sSetO, ↓sSetIx, ↓setK, ↓sCat, ↓gIsi, ↓tyN, ↓gIsA, ↓gInsert, ↓gPool, ↓isIl, ↓isPl, ↓sSrtS, ↓gListF, ↓gTupA, ↓sNotV, ↓sLst, ↓sAsg, ↓wipeE, List.map_cons, List.map_nil, ↓g2I, keepAll, List.length_map, ↓gInt1, ↓gAbs, rng_len']
        have ne : Fm.tg (Fm.var n) ≠ "implies" := show ("var" : Str) ≠ "implies" by decide +kernel
        exact in_if (f := .var n) gf gl (fun _ _ => no (.inl ne)) (fun _ _ => no (.inl ne))
      | fal  =>
        simp only [↓gTp, ↓gCn, ↓gN, ↓gNl, ↓sSeq, ↓sIf, ↓sDrop, ↓sMut, ↓isLs, ↓mutK, ↓gAppend, ↓sSetM, ↓sSet, ↓sC, ↓sVar, ↓sTup, ↓sLst, ↓sFx, ↓sCons, ↓sNil, ↓sOp, ↓sUn, ↓sTst, ↓sTru, ↓sAnd, ↓sOr, ↓sNot, ↓sIfS, ↓sAndV, ↓sOrV, ↓sCB, ↓gLen, ↓sGet1, ↓sGet2, ↓toKey, ↓sRet, ↓sRetN, ↓sCall, ↓sNext, ↓gInt, ↓gCmp, ↓gEqB, ↓gIx, ↓gIsN, ↓isNonD, ↓truD, ↓gNegI, ↓sFor, ↓sLc, ↓sSlL, ↓sSlT, ↓sNoP, ↓sPart, ↓iRv, ↓lstK, ↓iA, ↓iE, ↓iZ, ↓iR1, ↓iR2, ↓valK, ↓valKs, ↓resK, ↓resKs, ↓slK, ↓List.getElem?_cons_succ, ↓List.getElem?_cons_zero, ↓List.set, ↓reduceIte, Bool.not_false, Bool.not_true, Bool.false_eq_true, id, Rs.v.injEq, D.bl.injEq, D.int.injEq, exists_eq_left', true_and, and_true, fD, str_dec, String.reduceEq, decide_false, decide_true, atI_0, atI_1, atI_2, Option.some.injEq, List.length_cons, List.length_nil, ↓sRetV, ↓gAdd, ↓sStarA, ↓gTin, ↓gTnin, ↓gTix, ↓sCallX, ↓sRaise, ↓sRaise1, ↓sTry, ↓gIsE, ↓sCallW, ↓sCF, ↓sCallO, ↓sSetO, ↓sSetIx, ↓setK, ↓sCat, ↓gIsi, ↓tyN, ↓gIsA, ↓gInsert, ↓gPool, ↓isIl, ↓isPl, ↓sSrtS, ↓gListF, ↓gTupA, ↓sNotV, ↓sLst, ↓sAsg, ↓wipeE, List.map_cons, List.map_nil, ↓g2I, keepAll, List.length_map, ↓gInt1, ↓gAbs, rng_len']
        have ne : Fm.tg (Fm.fal ) ≠ "implies" := show ("falsum" : Str) ≠ "implies" by decide +kernel
        exact in_if (f := .fal ) gf gl (fun _ _ => no (.inl ne)) (fun _ _ => no (.inl ne))
      | and a b =>
        simp only [↓gTp, ↓gCn, ↓gN, ↓gNl, ↓sSeq, ↓sIf, ↓sDrop, ↓sMut, ↓isLs, ↓mutK, ↓gAppend, ↓sSetM, ↓sSet, ↓sC, ↓sVar, ↓sTup, ↓sLst, ↓sFx, ↓sCons, ↓sNil, ↓sOp, ↓sUn, ↓sTst, ↓sTru, ↓sAnd, ↓sOr, ↓sNot, ↓sIfS, ↓sAndV, ↓sOrV, ↓sCB, ↓gLen, ↓sGet1, ↓sGet2, ↓toKey, ↓sRet, ↓sRetN, ↓sCall, ↓sNext, ↓gInt, ↓gCmp, ↓gEqB, ↓gIx, ↓gIsN, ↓isNonD, ↓truD, ↓gNegI, ↓sFor, ↓sLc, ↓sSlL, ↓sSlT, ↓sNoP, ↓sPart, ↓iRv, ↓lstK, ↓iA, ↓iE, ↓iZ, ↓iR1, ↓iR2, ↓valK, ↓valKs, ↓resK, ↓resKs, ↓slK, ↓List.getElem?_cons_succ, ↓List.getElem?_cons_zero, ↓List.set, ↓reduceIte, Bool.not_false, Bool.not_true, Bool.false_eq_true, id, Rs.v.injEq, D.bl.injEq, D.int.injEq, exists_eq_left', true_and, and_true, fD, str_dec, String.reduceEq, decide_false, decide_true, atI_0, atI_1, atI_2, Option.some.injEq, List.length_cons, List.length_nil, ↓sRetV, ↓gAdd, ↓sStarA, ↓gTin, ↓gTnin, ↓gTix, ↓sCallX, ↓sRaise, ↓sRaise1, ↓sTry, ↓gIsE, ↓sCallW, ↓sCF, ↓sCallO, ↓sSetO, ↓sSetIx, ↓setK, ↓sCat, ↓gIsi, ↓tyN, ↓gIsA, ↓gInsert, ↓gPool, ↓isIl, ↓isPl, ↓sSrtS, ↓gListF, ↓gTupA, ↓sNotV, ↓sLst, ↓sAsg, ↓wipeE, List.map_cons, List.map_nil, ↓g2I, keepAll, List.length_map, ↓gInt1, ↓gAbs, rng_len']
        have ne : Fm.tg (Fm.and a b) ≠ "implies" := show ("and" : Str) ≠ "implies" by decide +kernel
        exact in_if (f := .and a b) gf gl (fun _ _ => no (.inl ne)) (fun _ _ => no (.inl ne))
      | or a b =>
        simp only [↓gTp, ↓gCn, ↓gN, ↓gNl, ↓sSeq, ↓sIf, ↓sDrop, ↓sMut, ↓isLs, ↓mutK, ↓gAppend, ↓sSetM, ↓sSet, ↓sC, ↓sVar, ↓sTup, ↓sLst, ↓sFx, ↓sCons, ↓sNil, ↓sOp, ↓sUn, ↓sTst, ↓sTru, ↓sAnd, ↓sOr, ↓sNot, ↓sIfS, ↓sAndV, ↓sOrV, ↓sCB, ↓gLen, ↓sGet1, ↓sGet2, ↓toKey, ↓sRet, ↓sRetN, ↓sCall, ↓sNext, ↓gInt, ↓gCmp, ↓gEqB, ↓gIx, ↓gIsN, ↓isNonD, ↓truD, ↓gNegI, ↓sFor, ↓sLc, ↓sSlL, ↓sSlT, ↓sNoP, ↓sPart, ↓iRv, ↓lstK, ↓iA, ↓iE, ↓iZ, ↓iR1, ↓iR2, ↓valK, ↓valKs, ↓resK, ↓resKs, ↓slK, ↓List.getElem?_cons_succ, ↓List.getElem?_cons_zero, ↓List.set, ↓reduceIte, Bool.not_false, Bool.not_true, Bool.false_eq_true, id, Rs.v.injEq, D.bl.injEq, D.int.injEq, exists_eq_left', true_and, and_true, fD, str_dec, String.reduceEq, decide_false, decide_true, atI_0, atI_1, atI_2, Option.some.injEq, List.length_cons, List.length_nil, ↓sRetV, ↓gAdd, ↓sStarA, ↓gTin, ↓gTnin, ↓gTix, ↓sCallX, ↓sRaise, ↓sRaise1, ↓sTry, ↓gIsE, ↓sCallW, ↓sCF, ↓sCallO, ↓sSetO, ↓sSetIx, ↓setK, ↓sCat, ↓gIsi, ↓tyN, ↓gIsA, ↓gInsert, ↓gPool, ↓isIl, ↓isPl, ↓sSrtS, ↓gListF, ↓gTupA, ↓sNotV, ↓sLst, ↓sAsg, ↓wipeE, List.map_cons, List.map_nil, ↓g2I, keepAll, List.length_map, ↓gInt1, ↓gAbs, rng_len']
        have ne : Fm.tg (Fm.or a b) ≠ "implies" := show ("or" : Str) ≠ "implies" by decide +kernel
        exact in_if (f := .or a b) gf gl (fun _ _ => no (.inl ne)) (fun _ _ => no (.inl ne))
      | imp a b =>
        simp only [↓gTp, ↓gCn, ↓gN, ↓gNl, ↓sSeq, ↓sIf, ↓sDrop, ↓sMut, ↓isLs, ↓mutK, ↓gAppend, ↓sSetM, ↓sSet, ↓sC, ↓sVar, ↓sTup, ↓sLst, ↓sFx, ↓sCons, ↓sNil, ↓sOp, ↓sUn, ↓sTst, ↓sTru, ↓sAnd, ↓sOr, ↓sNot, ↓sIfS, ↓sAndV, ↓sOrV, ↓sCB, ↓gLen, ↓sGet1, ↓sGet2, ↓toKey, ↓sRet, ↓sRetN, ↓sCall, ↓sNext, ↓gInt, ↓gCmp, ↓gEqB, ↓gIx, ↓gIsN, ↓isNonD, ↓truD, ↓gNegI, ↓sFor, ↓sLc, ↓sSlL, ↓sSlT, ↓sNoP, ↓sPart, ↓iRv, ↓lstK, ↓iA, ↓iE, ↓iZ, ↓iR1, ↓iR2, ↓valK, ↓valKs, ↓resK, ↓resKs, ↓slK, ↓List.getElem?_cons_succ, ↓List.getElem?_cons_zero, ↓List.set, ↓reduceIte, Bool.not_false, Bool.not_true, Bool.false_eq_true, id, Rs.v.injEq, D.bl.injEq, D.int.injEq, exists_eq_left', true_and, and_true, fD, str_dec, String.reduceEq, decide_false, decide_true, atI_0, atI_1, atI_2, Option.some.injEq, List.length_cons, List.length_nil, ↓sRetV, ↓gAdd, ↓sStarA, ↓gTin, ↓gTnin, ↓gTix, ↓sCallX, ↓sRaise, ↓sRaise1, ↓sTry, ↓gIsE, ↓sCallW, ↓sCF, ↓sCallO, ↓sSetO, ↓sSetIx, ↓setK, ↓sCat, ↓gIsi, ↓tyN, ↓gIsA, ↓gInsert, ↓gPool, ↓isIl, ↓isPl, ↓sSrtS, ↓gListF, ↓gTupA, ↓sNotV, ↓sLst, ↓sAsg, ↓wipeE, List.map_cons, List.map_nil, ↓g2I, keepAll, List.length_map, ↓gInt1, ↓gAbs, rng_len']
        have ga : Go a := go_ps gf (by simp [Fm.ps])
        have gb : Go b := go_ps gf (by simp [Fm.ps])
        refine in_if (f := .imp a b) gf gl (fun hin => ?_) (fun hin _ => no (.inr hin))
        have e : partsOf "implies" (some (.imp a b)) l = some [a, b] := if_pos ⟨rfl, hin⟩
        have e2 : premsL "implies_left" lg l r (some (.imp a b)) = some [(l, ad r [a]), (ad l [b], r)] := by show (partsOf "implies" (some (.imp a b)) l).map _ = _; rw [e]; rfl
        rw [e2] at hq
        exact ⟨by decide, r, [a], .inl rfl, gr, fun g hg => by rw [List.mem_singleton.mp hg]; exact ga, by omega, one_len, by decide, by decide, l, [b], .inl rfl, gl, fun g hg => by rw [List.mem_singleton.mp hg]; exact gb, by omega, one_len, by decide, by decide, fun _ => hq⟩
      | box a =>
        simp only [↓gTp, ↓gCn, ↓gN, ↓gNl, ↓sSeq, ↓sIf, ↓sDrop, ↓sMut, ↓isLs, ↓mutK, ↓gAppend, ↓sSetM, ↓sSet, ↓sC, ↓sVar, ↓sTup, ↓sLst, ↓sFx, ↓sCons, ↓sNil, ↓sOp, ↓sUn, ↓sTst, ↓sTru, ↓sAnd, ↓sOr, ↓sNot, ↓sIfS, ↓sAndV, ↓sOrV, ↓sCB, ↓gLen, ↓sGet1, ↓sGet2, ↓toKey, ↓sRet, ↓sRetN, ↓sCall, ↓sNext, ↓gInt, ↓gCmp, ↓gEqB, ↓gIx, ↓gIsN, ↓isNonD, ↓truD, ↓gNegI, ↓sFor, ↓sLc, ↓sSlL, ↓sSlT, ↓sNoP, ↓sPart, ↓iRv, ↓lstK, ↓iA, ↓iE, ↓iZ, ↓iR1, ↓iR2, ↓valK, ↓valKs, ↓resK, ↓resKs, ↓slK, ↓List.getElem?_cons_succ, ↓List.getElem?_cons_zero, ↓List.set, ↓reduceIte, Bool.not_false, Bool.not_true, Bool.false_eq_true, id, Rs.v.injEq, D.bl.injEq, D.int.injEq, exists_eq_left', true_and, and_true, fD, str_dec, String.reduceEq, decide_false, decide_true, atI_0, atI_1, atI_2, Option.some.injEq, List.length_cons, List.length_nil, ↓sRetV, ↓gAdd, ↓sStarA, ↓gTin, ↓gTnin, ↓gTix, ↓sCallX, ↓sRaise, ↓sRaise1, ↓sTry, ↓gIsE, ↓sCallW, ↓sCF, ↓sCallO, ↓sSetO, ↓sSetIx, ↓setK, ↓sCat, ↓gIsi, ↓tyN, ↓gIsA, ↓gInsert, ↓gPool, ↓isIl, ↓isPl, ↓sSrtS, ↓gListF, ↓gTupA, ↓sNotV, ↓sLst, ↓sAsg, ↓wipeE, List.map_cons, List.map_nil, ↓g2I, keepAll, List.length_map, ↓gInt1, ↓gAbs, rng_len']
        have ne : Fm.tg (Fm.box a) ≠ "implies" := show ("box" : Str) ≠ "implies" by decide +kernel
        exact in_if (f := .box a) gf gl (fun _ _ => no (.inl ne)) (fun _ _ => no (.inl ne))
  · cases m with
    | none =>
      rw [show mD none = .non from rfl]
      simp only [↓gTp, ↓gCn, ↓gN, ↓gNl, ↓sSeq, ↓sIf, ↓sDrop, ↓sMut, ↓isLs, ↓mutK, ↓gAppend, ↓sSetM, ↓sSet, ↓sC, ↓sVar, ↓sTup, ↓sLst, ↓sFx, ↓sCons, ↓sNil, ↓sOp, ↓sUn, ↓sTst, ↓sTru, ↓sAnd, ↓sOr, ↓sNot, ↓sIfS, ↓sAndV, ↓sOrV, ↓sCB, ↓gLen, ↓sGet1, ↓sGet2, ↓toKey, ↓sRet, ↓sRetN, ↓sCall, ↓sNext, ↓gInt, ↓gCmp, ↓gEqB, ↓gIx, ↓gIsN, ↓isNonD, ↓truD, ↓gNegI, ↓sFor, ↓sLc, ↓sSlL, ↓sSlT, ↓sNoP, ↓sPart, ↓iRv, ↓lstK, ↓iA, ↓iE, ↓iZ, ↓iR1, ↓iR2, ↓valK, ↓valKs, ↓resK, ↓resKs, ↓slK, ↓List.getElem?_cons_succ, ↓List.getElem?_cons_zero, ↓List.set, ↓reduceIte, Bool.not_false, Bool.not_true, Bool.false_eq_true, id, Rs.v.injEq, D.bl.injEq, D.int.injEq, exists_eq_left', true_and, and_true, fD, str_dec, String.reduceEq, decide_false, decide_true, atI_0, atI_1, atI_2, Option.some.injEq, List.length_cons, List.length_nil, ↓sRetV, ↓gAdd, ↓sStarA, ↓gTin, ↓gTnin, ↓gTix, ↓sCallX, ↓sRaise, ↓sRaise1, ↓sTry, ↓gIsE, ↓sCallW, ↓sCF, ↓sCallO, ↓sSetO, ↓sSetIx, ↓setK, ↓sCat, ↓gIsi, ↓tyN, ↓gIsA, ↓gInsert, ↓gPool, ↓isIl, ↓isPl, ↓sSrtS, ↓gListF, ↓gTupA, ↓sNotV, ↓sLst, ↓sAsg, ↓wipeE, List.map_cons, List.map_nil, ↓g2I, keepAll, List.length_map, ↓gInt1, ↓gAbs, rng_len']
      have hq : q .non := hq
      exact fun _ => hq
    | some f =>
      have gf := hm f rfl
      rw [show mD (some f) = fD f from rfl]
      have no : (Fm.tg f ≠ "implies" ∨ f ∉ r) → q .non := fun h => by
        have e : partsOf "implies" (some f) r = none := if_neg fun h' => h.elim (fun n => n h'.1) fun n => n h'.2
        have e2 : premsL "implies_right" lg l r (some f) = none := by show (partsOf "implies" (some f) r).map _ = none; rw [e]; rfl
        rw [e2] at hq
        exact hq
      cases f with
      | var n =>
        simp only [↓gTp, ↓gCn, ↓gN, ↓gNl, ↓sSeq, ↓sIf, ↓sDrop, ↓sMut, ↓isLs, ↓mutK, ↓gAppend, ↓sSetM, ↓sSet, ↓sC, ↓sVar, ↓sTup, ↓sLst, ↓sFx, ↓sCons, ↓sNil, ↓sOp, ↓sUn, ↓sTst, ↓sTru, ↓sAnd, ↓sOr, ↓sNot, ↓sIfS, ↓sAndV, ↓sOrV, ↓sCB, ↓gLen, ↓sGet1, ↓sGet2, ↓toKey, ↓sRet, ↓sRetN, ↓sCall, ↓sNext, ↓gInt, ↓gCmp, ↓gEqB, ↓gIx, ↓gIsN, ↓isNonD, ↓truD, ↓gNegI, ↓sFor, ↓sLc, ↓sSlL, ↓sSlT, ↓sNoP, ↓sPart, ↓iRv, ↓lstK, ↓iA, ↓iE, ↓iZ, ↓iR1, ↓iR2, ↓valK, ↓valKs, ↓resK, ↓resKs, ↓slK, ↓List.getElem?_cons_succ, ↓List.getElem?_cons_zero, ↓List.set, ↓reduceIte, Bool.not_false, Bool.not_true, Bool.false_eq_true, id, Rs.v.injEq, D.bl.injEq, D.int.injEq, exists_eq_left', true_and, and_true, fD, str_dec, String.reduceEq, decide_false, decide_true, atI_0, atI_1, atI_2, Option.some.injEq, List.length_cons, List.length_nil, ↓sRetV, ↓gAdd, ↓sStarA, ↓gTin, ↓gTnin, ↓gTix, ↓sCallX, ↓sRaise, ↓sRaise1, ↓sTry, ↓gIsE, ↓sCallW, ↓sCF, ↓sCallO, ↓sSetO, ↓sSetIx, ↓setK, ↓sCat, ↓gIsi, ↓tyN, ↓gIsA, ↓gInsert, ↓gPool, ↓isIl, ↓isPl, ↓sSrtS, ↓gListF, ↓gTupA, ↓sNotV, ↓sLst, ↓sAsg, ↓wipeE, List.map_cons, List.map_nil, ↓g2I, keepAll, List.length_map, ↓gInt1, ↓gAbs, rng_len']
        have ne : Fm.tg (Fm.var n) ≠ "implies" := show ("var" : Str) ≠ "implies" by decide +kernel
        exact in_if (f := .var n) gf gr (fun _ _ => no (.inl ne)) (fun _ _ => no (.inl ne))
      | fal  =>
        simp only [↓gTp, ↓gCn, ↓gN, ↓gNl, ↓sSeq, ↓sIf, ↓sDrop, ↓sMut, ↓isLs, ↓mutK, ↓gAppend, ↓sSetM, ↓sSet, ↓sC, ↓sVar, ↓sTup, ↓sLst, ↓sFx, ↓sCons, ↓sNil, ↓sOp, ↓sUn, ↓sTst, ↓sTru, ↓sAnd, ↓sOr, ↓sNot, ↓sIfS, ↓sAndV, ↓sOrV, ↓sCB, ↓gLen, ↓sGet1, ↓sGet2, ↓toKey, ↓sRet, ↓sRetN, ↓sCall, ↓sNext, ↓gInt, ↓gCmp, ↓gEqB, ↓gIx, ↓gIsN, ↓isNonD, ↓truD, ↓gNegI, ↓sFor, ↓sLc, ↓sSlL, ↓sSlT, ↓sNoP, ↓sPart, ↓iRv, ↓lstK, ↓iA, ↓iE, ↓iZ, ↓iR1, ↓iR2, ↓valK, ↓valKs, ↓resK, ↓resKs, ↓slK, ↓List.getElem?_cons_succ, ↓List.getElem?_cons_zero, ↓List.set, ↓reduceIte, Bool.not_false, Bool.not_true, Bool.false_eq_true, id, Rs.v.injEq, D.bl.injEq, D.int.injEq, exists_eq_left', true_and, and_true, fD, str_dec, String.reduceEq, decide_false, decide_true, atI_0, atI_1, atI_2, Option.some.injEq, List.length_cons, List.length_nil, ↓sRetV, ↓gAdd, ↓sStarA, ↓gTin, ↓gTnin, ↓gTix, ↓sCallX, ↓sRaise, ↓sRaise1, ↓sTry, ↓gIsE, ↓sCallW, ↓sCF, ↓sCallO, ↓sSetO, ↓sSetIx, ↓setK, ↓sCat, ↓gIsi, ↓tyN, ↓gIsA, ↓gInsert, ↓gPool, ↓isIl, ↓isPl, ↓sSrtS, ↓gListF, ↓gTupA, ↓sNotV, ↓sLst, ↓sAsg, ↓wipeE, List.map_cons, List.map_nil, ↓g2I, keepAll, List.length_map, ↓gInt1, ↓gAbs, rng_len']
        have ne : Fm.tg (Fm.fal ) ≠ "implies" := show ("falsum" : Str) ≠ "implies" by decide +kernel
        exact in_if (f := .fal ) gf gr (fun _ _ => no (.inl ne)) (fun _ _ => no (.inl ne))
      | and a b =>
        simp only [↓gTp, ↓gCn, ↓gN, ↓gNl, ↓sSeq, ↓sIf, ↓sDrop, ↓sMut, ↓isLs, ↓mutK, ↓gAppend, ↓sSetM, ↓sSet, ↓sC, ↓sVar, ↓sTup, ↓sLst, ↓sFx, ↓sCons, ↓sNil, ↓sOp, ↓sUn, ↓sTst, ↓sTru, ↓sAnd, ↓sOr, ↓sNot, ↓sIfS, ↓sAndV, ↓sOrV, ↓sCB, ↓gLen, ↓sGet1, ↓sGet2, ↓toKey, ↓sRet, ↓sRetN, ↓sCall, ↓sNext, ↓gInt, ↓gCmp, ↓gEqB, ↓gIx, ↓gIsN, ↓isNonD, ↓truD, ↓gNegI, ↓sFor, ↓sLc, ↓sSlL, ↓sSlT, ↓sNoP, ↓sPart, ↓iRv, ↓lstK, ↓iA, ↓iE, ↓iZ, ↓iR1, ↓iR2, ↓valK, ↓valKs, ↓resK, ↓resKs, ↓slK, ↓List.getElem?_cons_succ, ↓List.getElem?_cons_zero, ↓List.set, ↓reduceIte, Bool.not_false, Bool.not_true, Bool.false_eq_true, id, Rs.v.injEq, D.bl.injEq, D.int.injEq, exists_eq_left', true_and, and_true, fD, str_dec, String.reduceEq, decide_false, decide_true, atI_0, atI_1, atI_2, Option.some.injEq, List.length_cons, List.length_nil, ↓sRetV, ↓gAdd, ↓sStarA, ↓gTin, ↓gTnin, ↓gTix, ↓sCallX, ↓sRaise, ↓sRaise1, ↓sTry, ↓gIsE, ↓sCallW, ↓sCF, ↓sCallO, ↓sSetO, ↓sSetIx, ↓setK, ↓sCat, ↓gIsi, ↓tyN, ↓gIsA, ↓gInsert, ↓gPool, ↓isIl, ↓isPl, ↓sSrtS, ↓gListF, ↓gTupA, ↓sNotV, ↓sLst, ↓sAsg, ↓wipeE, List.map_cons, List.map_nil, ↓g2I, keepAll, List.length_map, ↓gInt1, ↓gAbs, rng_len']
        have ne : Fm.tg (Fm.and a b) ≠ "implies" := show ("and" : Str) ≠ "implies" by decide +kernel
        exact in_if (f := .and a b) gf gr (fun _ _ => no (.inl ne)) (fun _ _ => no (.inl ne))
      | or a b =>
        simp only [↓gTp, ↓gCn, ↓gN, ↓gNl, ↓sSeq, ↓sIf, ↓sDrop, ↓sMut, ↓isLs, ↓mutK, ↓gAppend, ↓sSetM, ↓sSet, ↓sC, ↓sVar, ↓sTup, ↓sLst, ↓sFx, ↓sCons, ↓sNil, ↓sOp, ↓sUn, ↓sTst, ↓sTru, ↓sAnd, ↓sOr, ↓sNot, ↓sIfS, ↓sAndV, ↓sOrV, ↓sCB, ↓gLen, ↓sGet1, ↓sGet2, ↓toKey, ↓sRet, ↓sRetN, ↓sCall, ↓sNext, ↓gInt, ↓gCmp, ↓gEqB, ↓gIx, ↓gIsN, ↓isNonD, ↓truD, ↓gNegI, ↓sFor, ↓sLc, ↓sSlL, ↓sSlT, ↓sNoP, ↓sPart, ↓iRv, ↓lstK, ↓iA, ↓iE, ↓iZ, ↓iR1, ↓iR2, ↓valK, ↓valKs, ↓resK, ↓resKs, ↓slK, ↓List.getElem?_cons_succ, ↓List.getElem?_cons_zero, ↓List.set, ↓reduceIte, Bool.not_false, Bool.not_true, Bool.false_eq_true, id, Rs.v.injEq, D.bl.injEq, D.int.injEq, exists_eq_left', true_and, and_true, fD, str_dec, String.reduceEq, decide_false, decide_true, atI_0, atI_1, atI_2, Option.some.injEq, List.length_cons, List.length_nil, ↓sRetV, ↓gAdd, ↓sStarA, ↓gTin, ↓gTnin, ↓gTix, ↓sCallX, ↓sRaise, ↓sRaise1, ↓sTry, ↓gIsE, ↓sCallW, ↓sCF, ↓sCallO, ↓sSetO, ↓sSetIx, ↓setK, ↓sCat, ↓gIsi, ↓tyN, ↓gIsA, ↓gInsert, ↓gPool, ↓isIl, ↓isPl, ↓sSrtS, ↓gListF, ↓gTupA, ↓sNotV, ↓sLst, ↓sAsg, ↓wipeE, List.map_cons, List.map_nil, ↓g2I, keepAll, List.length_map, ↓gInt1, ↓gAbs, rng_len']
        have ne : Fm.tg (Fm.or a b) ≠ "implies" := show ("or" : Str) ≠ "implies" by decide +kernel
        exact in_if (f := .or a b) gf gr (fun _ _ => no (.inl ne)) (fun _ _ => no (.inl ne))
      | imp a b =>
        simp only [↓gTp, ↓gCn, ↓gN, ↓gNl, ↓sSeq, ↓sIf, ↓sDrop, ↓sMut, ↓isLs, ↓mutK, ↓gAppend, ↓sSetM, ↓sSet, ↓sC, ↓sVar, ↓sTup, ↓sLst, ↓sFx, ↓sCons, ↓sNil, ↓sOp, ↓sUn, ↓sTst, ↓sTru, ↓sAnd, ↓sOr, ↓sNot, ↓sIfS, ↓sAndV, ↓sOrV, ↓sCB, ↓gLen, ↓sGet1, ↓sGet2, ↓toKey, ↓sRet, ↓sRetN, ↓sCall, ↓sNext, ↓gInt, ↓gCmp, ↓gEqB, ↓gIx, ↓gIsN, ↓isNonD, ↓truD, ↓gNegI, ↓sFor, ↓sLc, ↓sSlL, ↓sSlT, ↓sNoP, ↓sPart, ↓iRv, ↓lstK, ↓iA, ↓iE, ↓iZ, ↓iR1, ↓iR2, ↓valK, ↓valKs, ↓resK, ↓resKs, ↓slK, ↓List.getElem?_cons_succ, ↓List.getElem?_cons_zero, ↓List.set, ↓reduceIte, Bool.not_false, Bool.not_true, Bool.false_eq_true, id, Rs.v.injEq, D.bl.injEq, D.int.injEq, exists_eq_left', true_and, and_true, fD, str_dec, String.reduceEq, decide_false, decide_true, atI_0, atI_1, atI_2, Option.some.injEq, List.length_cons, List.length_nil, ↓sRetV, ↓gAdd, ↓sStarA, ↓gTin, ↓gTnin, ↓gTix, ↓sCallX, ↓sRaise, ↓sRaise1, ↓sTry, ↓gIsE, ↓sCallW, ↓sCF, ↓sCallO, ↓sSetO, ↓sSetIx, ↓setK, ↓sCat, ↓gIsi, ↓tyN, ↓gIsA, ↓gInsert, ↓gPool, ↓isIl, ↓isPl, ↓sSrtS, ↓gListF, ↓gTupA, ↓sNotV, ↓sLst, ↓sAsg, ↓wipeE, List.map_cons, List.map_nil, ↓g2I, keepAll, List.length_map, ↓gInt1, ↓gAbs, rng_len']
        have ga : Go a := go_ps gf (by simp [Fm.ps])
        have gb : Go b := go_ps gf (by simp [Fm.ps])
        refine in_if (f := .imp a b) gf gr (fun hin => ?_) (fun hin _ => no (.inr hin))
        have e : partsOf "implies" (some (.imp a b)) r = some [a, b] := if_pos ⟨rfl, hin⟩
        have e2 : premsL "implies_right" lg l r (some (.imp a b)) = some (if intB lg = true ∧ lg ≠ "Cl" then [(ad l [a], [b])] else [(ad l [a], ad r [b])]) := by show (partsOf "implies" (some (.imp a b)) r).map _ = _; rw [e]; rfl
        rw [e2] at hq
        have both : ¬ (intB lg = true ∧ lg ≠ "Cl") → 0 + 1 ≤ sizeLine ∧ φLadd [D.tup (List.map fD l), D.lst [fD a]] fun z => 0 + 1 ≤ sizeLine ∧ φLadd [D.tup (List.map fD r), D.lst [fD b]] fun z_1 => 0 + 1 + 1 ≤ sizeLine ∧ 0 + 1 ≤ sizeLine ∧ ∀ (ρ2 : En), q (D.lst [D.tup [z, z_1]]) := fun hn => by
          rw [if_neg hn] at hq
          exact ⟨by decide, l, [a], .inl rfl, gl, fun g hg => by rw [List.mem_singleton.mp hg]; exact ga, by omega, one_len, by decide, r, [b], .inl rfl, gr, fun g hg => by rw [List.mem_singleton.mp hg]; exact gb, by omega, one_len, by decide, by decide, fun _ => hq⟩
        refine iteD' (fun h1 => both fun h => ?_) (fun h1 => iteD' (fun h2 => both fun h => h.2 (of_decide_eq_true h2)) (fun h2 => ?_))
        · rw [hmod, h.1] at h1
          cases h1
        · have hi : intB lg = true := by
            cases hb : intB lg with
            | true => rfl
            | false => exact absurd (by rw [hmod, hb]; rfl) h1
          rw [if_pos ⟨hi, fun h => h2 (decide_eq_true h)⟩] at hq
          exact ⟨by decide, l, [a], .inl rfl, gl, fun g hg => by rw [List.mem_singleton.mp hg]; exact ga, by omega, one_len, by decide, by decide, by decide, fun _ => hq⟩
      | box a =>
        simp only [↓gTp, ↓gCn, ↓gN, ↓gNl, ↓sSeq, ↓sIf, ↓sDrop, ↓sMut, ↓isLs, ↓mutK, ↓gAppend, ↓sSetM, ↓sSet, ↓sC, ↓sVar, ↓sTup, ↓sLst, ↓sFx, ↓sCons, ↓sNil, ↓sOp, ↓sUn, ↓sTst, ↓sTru, ↓sAnd, ↓sOr, ↓sNot, ↓sIfS, ↓sAndV, ↓sOrV, ↓sCB, ↓gLen, ↓sGet1, ↓sGet2, ↓toKey, ↓sRet, ↓sRetN, ↓sCall, ↓sNext, ↓gInt, ↓gCmp, ↓gEqB, ↓gIx, ↓gIsN, ↓isNonD, ↓truD, ↓gNegI, ↓sFor, ↓sLc, ↓sSlL, ↓sSlT, ↓sNoP, ↓sPart, ↓iRv, ↓lstK, ↓iA, ↓iE, ↓iZ, ↓iR1, ↓iR2, ↓valK, ↓valKs, ↓resK, ↓resKs, ↓slK, ↓List.getElem?_cons_succ, ↓List.getElem?_cons_zero, ↓List.set, ↓reduceIte, Bool.not_false, Bool.not_true, Bool.false_eq_true, id, Rs.v.injEq, D.bl.injEq, D.int.injEq, exists_eq_left', true_and, and_true, fD, str_dec, String.reduceEq, decide_false, decide_true, atI_0, atI_1, atI_2, Option.some.injEq, List.length_cons, List.length_nil, ↓sRetV, ↓gAdd, ↓sStarA, ↓gTin, ↓gTnin, ↓gTix, ↓sCallX, ↓sRaise, ↓sRaise1, ↓sTry, ↓gIsE, ↓sCallW, ↓sCF, ↓sCallO, ↓sSetO, ↓sSetIx, ↓setK, ↓sCat, ↓gIsi, ↓tyN, ↓gIsA, ↓gInsert, ↓gPool, ↓isIl, ↓isPl, ↓sSrtS, ↓gListF, ↓gTupA, ↓sNotV, ↓sLst, ↓sAsg, ↓wipeE, List.map_cons, List.map_nil, ↓g2I, keepAll, List.length_map, ↓gInt1, ↓gAbs, rng_len']
        have ne : Fm.tg (Fm.box a) ≠ "implies" := show ("box" : Str) ≠ "implies" by decide +kernel
        exact in_if (f := .box a) gf gr (fun _ _ => no (.inl ne)) (fun _ _ => no (.inl ne))
  · have hq : q .non := hq
    cases m with
    | none =>
      rw [show mD none = .non from rfl]
      simp only [↓gTp, ↓gCn, ↓gN, ↓gNl, ↓sSeq, ↓sIf, ↓sDrop, ↓sMut, ↓isLs, ↓mutK, ↓gAppend, ↓sSetM, ↓sSet, ↓sC, ↓sVar, ↓sTup, ↓sLst, ↓sFx, ↓sCons, ↓sNil, ↓sOp, ↓sUn, ↓sTst, ↓sTru, ↓sAnd, ↓sOr, ↓sNot, ↓sIfS, ↓sAndV, ↓sOrV, ↓sCB, ↓gLen, ↓sGet1, ↓sGet2, ↓toKey, ↓sRet, ↓sRetN, ↓sCall, ↓sNext, ↓gInt, ↓gCmp, ↓gEqB, ↓gIx, ↓gIsN, ↓isNonD, ↓truD, ↓gNegI, ↓sFor, ↓sLc, ↓sSlL, ↓sSlT, ↓sNoP, ↓sPart, ↓iRv, ↓lstK, ↓iA, ↓iE, ↓iZ, ↓iR1, ↓iR2, ↓valK, ↓valKs, ↓resK, ↓resKs, ↓slK, ↓List.getElem?_cons_succ, ↓List.getElem?_cons_zero, ↓List.set, ↓reduceIte, Bool.not_false, Bool.not_true, Bool.false_eq_true, id, Rs.v.injEq, D.bl.injEq, D.int.injEq, exists_eq_left', true_and, and_true, fD, str_dec, String.reduceEq, decide_false, decide_true, atI_0, atI_1, atI_2, Option.some.injEq, List.length_cons, List.length_nil, ↓sRetV, ↓gAdd, ↓sStarA, ↓gTin, ↓gTnin, ↓gTix, ↓sCallX, ↓sRaise, ↓sRaise1, ↓sTry, ↓gIsE, ↓sCallW, ↓sCF, ↓sCallO, ↓sSetO, ↓sSetIx, ↓setK, ↓sCat, ↓gIsi, ↓tyN, ↓gIsA, ↓gInsert, ↓gPool, ↓isIl, ↓isPl, ↓sSrtS, ↓gListF, ↓gTupA, ↓sNotV, ↓sLst, ↓sAsg, ↓wipeE, List.map_cons, List.map_nil, ↓g2I, keepAll, List.length_map, ↓gInt1, ↓gAbs, rng_len']
      exact fun _ => hq
    | some f =>
      obtain ⟨t, ht, _⟩ := fD_tup f
      rw [show mD (some f) = fD f from rfl, ht]
      simp only [↓gTp, ↓gCn, ↓gN, ↓gNl, ↓sSeq, ↓sIf, ↓sDrop, ↓sMut, ↓isLs, ↓mutK, ↓gAppend, ↓sSetM, ↓sSet, ↓sC, ↓sVar, ↓sTup, ↓sLst, ↓sFx, ↓sCons, ↓sNil, ↓sOp, ↓sUn, ↓sTst, ↓sTru, ↓sAnd, ↓sOr, ↓sNot, ↓sIfS, ↓sAndV, ↓sOrV, ↓sCB, ↓gLen, ↓sGet1, ↓sGet2, ↓toKey, ↓sRet, ↓sRetN, ↓sCall, ↓sNext, ↓gInt, ↓gCmp, ↓gEqB, ↓gIx, ↓gIsN, ↓isNonD, ↓truD, ↓gNegI, ↓sFor, ↓sLc, ↓sSlL, ↓sSlT, ↓sNoP, ↓sPart, ↓iRv, ↓lstK, ↓iA, ↓iE, ↓iZ, ↓iR1, ↓iR2, ↓valK, ↓valKs, ↓resK, ↓resKs, ↓slK, ↓List.getElem?_cons_succ, ↓List.getElem?_cons_zero, ↓List.set, ↓reduceIte, Bool.not_false, Bool.not_true, Bool.false_eq_true, id, Rs.v.injEq, D.bl.injEq, D.int.injEq, exists_eq_left', true_and, and_true, fD, str_dec, String.reduceEq, decide_false, decide_true, atI_0, atI_1, atI_2, Option.some.injEq, List.length_cons, List.length_nil, ↓sRetV, ↓gAdd, ↓sStarA, ↓gTin, ↓gTnin, ↓gTix, ↓sCallX, ↓sRaise, ↓sRaise1, ↓sTry, ↓gIsE, ↓sCallW, ↓sCF, ↓sCallO, ↓sSetO, ↓sSetIx, ↓setK, ↓sCat, ↓gIsi, ↓tyN, ↓gIsA, ↓gInsert, ↓gPool, ↓isIl, ↓isPl, ↓sSrtS, ↓gListF, ↓gTupA, ↓sNotV, ↓sLst, ↓sAsg, ↓wipeE, List.map_cons, List.map_nil, ↓g2I, keepAll, List.length_map, ↓gInt1, ↓gAbs, rng_len']
      exact fun _ => hq
  · have hq : q .non := hq
    cases m with
    | none =>
      rw [show mD none = .non from rfl]
      simp only [↓gTp, ↓gCn, ↓gN, ↓gNl, ↓sSeq, ↓sIf, ↓sDrop, ↓sMut, ↓isLs, ↓mutK, ↓gAppend, ↓sSetM, ↓sSet, ↓sC, ↓sVar, ↓sTup, ↓sLst, ↓sFx, ↓sCons, ↓sNil, ↓sOp, ↓sUn, ↓sTst, ↓sTru, ↓sAnd, ↓sOr, ↓sNot, ↓sIfS, ↓sAndV, ↓sOrV, ↓sCB, ↓gLen, ↓sGet1, ↓sGet2, ↓toKey, ↓sRet, ↓sRetN, ↓sCall, ↓sNext, ↓gInt, ↓gCmp, ↓gEqB, ↓gIx, ↓gIsN, ↓isNonD, ↓truD, ↓gNegI, ↓sFor, ↓sLc, ↓sSlL, ↓sSlT, ↓sNoP, ↓sPart, ↓iRv, ↓lstK, ↓iA, ↓iE, ↓iZ, ↓iR1, ↓iR2, ↓valK, ↓valKs, ↓resK, ↓resKs, ↓slK, ↓List.getElem?_cons_succ, ↓List.getElem?_cons_zero, ↓List.set, ↓reduceIte, Bool.not_false, Bool.not_true, Bool.false_eq_true, id, Rs.v.injEq, D.bl.injEq, D.int.injEq, exists_eq_left', true_and, and_true, fD, str_dec, String.reduceEq, decide_false, decide_true, atI_0, atI_1, atI_2, Option.some.injEq, List.length_cons, List.length_nil, ↓sRetV, ↓gAdd, ↓sStarA, ↓gTin, ↓gTnin, ↓gTix, ↓sCallX, ↓sRaise, ↓sRaise1, ↓sTry, ↓gIsE, ↓sCallW, ↓sCF, ↓sCallO, ↓sSetO, ↓sSetIx, ↓setK, ↓sCat, ↓gIsi, ↓tyN, ↓gIsA, ↓gInsert, ↓gPool, ↓isIl, ↓isPl, ↓sSrtS, ↓gListF, ↓gTupA, ↓sNotV, ↓sLst, ↓sAsg, ↓wipeE, List.map_cons, List.map_nil, ↓g2I, keepAll, List.length_map, ↓gInt1, ↓gAbs, rng_len']
      exact fun _ => hq
    | some f =>
      obtain ⟨t, ht, _⟩ := fD_tup f
      rw [show mD (some f) = fD f from rfl, ht]
      simp only [↓gTp, ↓gCn, ↓gN, ↓gNl, ↓sSeq, ↓sIf, ↓sDrop, ↓sMut, ↓isLs, ↓mutK, ↓gAppend, ↓sSetM, ↓sSet, ↓sC, ↓sVar, ↓sTup, ↓sLst, ↓sFx, ↓sCons, ↓sNil, ↓sOp, ↓sUn, ↓sTst, ↓sTru, ↓sAnd, ↓sOr, ↓sNot, ↓sIfS, ↓sAndV, ↓sOrV, ↓sCB, ↓gLen, ↓sGet1, ↓sGet2, ↓toKey, ↓sRet, ↓sRetN, ↓sCall, ↓sNext, ↓gInt, ↓gCmp, ↓gEqB, ↓gIx, ↓gIsN, ↓isNonD, ↓truD, ↓gNegI, ↓sFor, ↓sLc, ↓sSlL, ↓sSlT, ↓sNoP, ↓sPart, ↓iRv, ↓lstK, ↓iA, ↓iE, ↓iZ, ↓iR1, ↓iR2, ↓valK, ↓valKs, ↓resK, ↓resKs, ↓slK, ↓List.getElem?_cons_succ, ↓List.getElem?_cons_zero, ↓List.set, ↓reduceIte, Bool.not_false, Bool.not_true, Bool.false_eq_true, id, Rs.v.injEq, D.bl.injEq, D.int.injEq, exists_eq_left', true_and, and_true, fD, str_dec, String.reduceEq, decide_false, decide_true, atI_0, atI_1, atI_2, Option.some.injEq, List.length_cons, List.length_nil, ↓sRetV, ↓gAdd, ↓sStarA, ↓gTin, ↓gTnin, ↓gTix, ↓sCallX, ↓sRaise, ↓sRaise1, ↓sTry, ↓gIsE, ↓sCallW, ↓sCF, ↓sCallO, ↓sSetO, ↓sSetIx, ↓setK, ↓sCat, ↓gIsi, ↓tyN, ↓gIsA, ↓gInsert, ↓gPool, ↓isIl, ↓isPl, ↓sSrtS, ↓gListF, ↓gTupA, ↓sNotV, ↓sLst, ↓sAsg, ↓wipeE, List.map_cons, List.map_nil, ↓g2I, keepAll, List.length_map, ↓gInt1, ↓gAbs, rng_len']
      exact fun _ => hq
theorem ok_law_premises (T : Top w K mg) : FnOk P w K mg base CX0 13 T.f_law_premises T.d_law_premises ["logic", "rule", "goal", "m"] (spD K TT φDue) := by
  have G_law_logical := ok_law_logical (P := P) (w := w) (base := base) (TT := TT) T
  have G_law_special : FnOk P w K mg base CX0 12 T.f_law_special T.d_law_special ["logic", "rule", "goal", "m"] (spD K TT fun _ _ => False) := FnOk.mono (j := 0) (fn_none fun vs H Q E ⟨_, _, _, _, h, _⟩ => h.elim) (Nat.zero_le _)
  refine okD TT T.F_law_premises sc_law_premises (fun ds q ⟨_, _, _, _, _, e, _⟩ => by rw [e]; rfl) fun cdv A outer s H E κ hr hT ds q ⟨lg, ru, l, r, m, e, hlg, hru, gl, nl, gr, nr, hm, hq⟩ => ?_
  subst e
  subst hT
  have hu64 := hr.units
  have hu65 : (A.deeper (envOfC "_law_premises" (defScope s_law_premises) s.heap.objs.size T.f_law_premises cdv)).units + 65 < cLine := by have := hr.un; omega
  refine ⟨_, (dss_cons (ds_if (PW.pt (dw_and (dt_cmp (op_inA hu65) oa_in (dv 1) (dx_tup (da_cons dx_str (da_cons dx_str (da_cons dx_str da_nil)))) rfl) (dw_and1 (dt_cmp (op_inA hu65) oa_in (dv 0) (dx_tup (da_cons dx_str (da_cons dx_str (da_cons dx_str (da_cons dx_str (da_cons dx_str (da_cons dx_str da_nil))))))) rfl))))
      (dss_one (ds_ret dx_non))
      dss_nil)
    (dss_cons (ds_if (dt_cmp (op_inA hu65) oa_in (dv 1) (dx_tup (da_cons dx_str (da_cons dx_str (da_cons dx_str (da_cons dx_str (da_cons dx_str (da_cons dx_str (da_cons dx_str da_nil)))))))) rfl)
      (dss_one (ds_ret (dx_call G_law_special (hr.mono (by omega)) (by rfl) T.m_law_special T.F_law_special.kp T.b_law_special pass0 (da_cons (dv 0) (da_cons (dv 1) (da_cons (dv 2) (da_cons (dv 3) da_nil)))))))
      dss_nil)
    (dss_one (ds_ret (dx_call G_law_logical (hr.mono (by omega)) (by rfl) T.m_law_logical T.F_law_logical.kp T.b_law_logical pass0 (da_cons (dv 0) (da_cons (dv 1) (da_cons (dv 2) (da_cons (dv 3) da_nil))))))))), ?_⟩
  rw [show startE ["logic", "rule", "goal", "m"] [D.str lg, D.str ru, sqD (l, r), mD m] = [.val (.str lg), .val (.str ru), .val (.tup [.tup (l.map fD), .tup (r.map fD)]), .val (mD m)] from rfl]
  simp only [↓gTp, ↓gCn, ↓gN, ↓gNl, ↓sSeq, ↓sIf, ↓sDrop, ↓sMut, ↓isLs, ↓mutK, ↓gAppend, ↓sSetM, ↓sSet, ↓sC, ↓sVar, ↓sTup, ↓sLst, ↓sFx, ↓sCons, ↓sNil, ↓sOp, ↓sUn, ↓sTst, ↓sTru, ↓sAnd, ↓sOr, ↓sNot, ↓sIfS, ↓sAndV, ↓sOrV, ↓sCB, ↓gLen, ↓sGet1, ↓sGet2, ↓toKey, ↓sRet, ↓sRetN, ↓sCall, ↓sNext, ↓gInt, ↓gCmp, ↓gEqB, ↓gIx, ↓gIsN, ↓isNonD, ↓truD, ↓gNegI, ↓sFor, ↓sLc, ↓sSlL, ↓sSlT, ↓sNoP, ↓sPart, ↓iRv, ↓lstK, ↓iA, ↓iE, ↓iZ, ↓iR1, ↓iR2, ↓valK, ↓valKs, ↓resK, ↓resKs, ↓slK, ↓List.getElem?_cons_succ, ↓List.getElem?_cons_zero, ↓List.set, ↓reduceIte, Bool.not_false, Bool.not_true, Bool.false_eq_true, id, Rs.v.injEq, D.bl.injEq, D.int.injEq, exists_eq_left', true_and, and_true, fD, str_dec, String.reduceEq, decide_false, decide_true, atI_0, atI_1, atI_2, Option.some.injEq, List.length_cons, List.length_nil, ↓sRetV, ↓gAdd, ↓sStarA, ↓gTin, ↓gTnin, ↓gTix, ↓sCallX, ↓sRaise, ↓sRaise1, ↓sTry, ↓gIsE, ↓sCallW, ↓sCF, ↓sCallO, ↓sSetO, ↓sSetIx, ↓setK, ↓sCat, ↓gIsi, ↓tyN, ↓gIsA, ↓gInsert, ↓gPool, ↓isIl, ↓isPl, ↓sSrtS, ↓gListF, ↓gTupA, ↓sNotV, ↓sLst, ↓sAsg, ↓wipeE, List.map_cons, List.map_nil, ↓g2I, keepAll, List.length_map, ↓gInt1, ↓gAbs, rng_len']
  have hru' := hru
  have step : (([D.str "reflexive", .str "modal", .str "serial"] : List D).any fun y => eqF y (.str ru)) = false ∧ (([D.str "reflexive", .str "modal", .str "serial", .str "weak_middle", .str "linear_right", .str "depth_right", .str "two_right"] : List D).any fun y => eqF y (.str ru)) = false := by
    simp only [rus, List.mem_cons, List.not_mem_nil, or_false] at hru
    rcases hru with e | e | e | e | e | e | e | e | e | e | e <;> subst e <;> decide +kernel
  refine ⟨by decide, rfl, rfl, _, rfl, iteD' (fun h => ?_) (fun _ => ⟨by decide, rfl, rfl, _, rfl, iteD' (fun h => ?_) fun _ => ⟨lg, ru, l, r, m, rfl, hlg, hru', gl, nl, gr, nr, hm, fun _ => hq⟩⟩)⟩
  · have h : (([D.str "reflexive", .str "modal", .str "serial"] : List D).any fun y => eqF y (.str ru)) = true := h
    rw [step.1] at h
    cases h
  · have h : (([D.str "reflexive", .str "modal", .str "serial", .str "weak_middle", .str "linear_right", .str "depth_right", .str "two_right"] : List D).any fun y => eqF y (.str ru)) = true := h
    rw [step.2] at h
    cases h

theorem rus_tab : ∀ ru ∈ rus, ru ∈ tabL.map (·.1) ∨ ru = "weaken" ∨ ru = "none" := by
  show ∀ ru ∈ rus, ru ∈ (["axiom", "falsum", "cut", "and_left", "and_right", "or_left", "or_right", "implies_left", "implies_right"] : List Str) ∨ ru = "weaken" ∨ ru = "none"
  decide +kernel
/-! ### lists of sequents as data -/
def sqP (s : Sq) : PyData := .tuple [.tuple (s.1.map Fm.d), .tuple (s.2.map Fm.d)]
def GoS (s : Sq) : Prop := (∀ f ∈ s.1, Go f) ∧ ∀ f ∈ s.2, Go f
theorem sqs_py : ∀ ps : List Sq, pyAll (ps.map sqD) = some (ps.map sqP)
  | [] => rfl
  | s :: ps => by
    have h : (sqD s).py = some (sqP s) := by
      show (pyAll _).map PyData.tuple = _
      rw [pyAll2 (py_tup s.1) (py_tup s.2)]
      rfl
    show (match (sqD s).py, pyAll (ps.map sqD) with | some x, some xs => some (x :: xs) | _, _ => none) = _
    rw [h, sqs_py ps]
    rfl
theorem sqs_lay : ∀ ps : List Sq, (∀ s ∈ ps, GoS s) → PyData.canLayAll0 (ps.map sqP) = true ∧ PyData.depthAll (ps.map sqP) ≤ 60
  | [], _ => ⟨rfl, Nat.zero_le _⟩
  | s :: ps, h => by
    obtain ⟨i1, i2⟩ := sqs_lay ps fun t m => h t (List.mem_cons_of_mem _ m)
    obtain ⟨g1, g2⟩ := h s List.mem_cons_self
    have h1 := lay_fms fun f m => (g1 f m).lay
    have h2 := dep_fms fun f m => (g1 f m).2
    have h3 := lay_fms fun f m => (g2 f m).lay
    have h4 := dep_fms fun f m => (g2 f m).2
    constructor
    · show ((PyData.canLayAll0 (s.1.map Fm.d) && (PyData.canLayAll0 (s.2.map Fm.d) && true)) && PyData.canLayAll0 (ps.map sqP)) = true
      rw [h1, h3, i1]
      rfl
    · show max (max (PyData.depthAll (s.1.map Fm.d) + 1) (max (PyData.depthAll (s.2.map Fm.d) + 1) 0) + 1) (PyData.depthAll (ps.map sqP)) ≤ 60
      omega
theorem sqs_eq {f : Bool → Bool} {ps : List Sq} {q : D → Prop} (h : ∀ s ∈ ps, GoS s) (hq : q (.bl (f true))) : gEqB f (.lst (ps.map sqD)) (.lst (ps.map sqD)) q := by
  obtain ⟨h1, h2⟩ := sqs_lay ps h
  refine eq_same (p := .list (ps.map sqP)) (fun _ e => nomatch e) (by show (pyAll _).map PyData.list = _; rw [sqs_py]; rfl) ?_ hq
  unfold SeqAt.shaped
  rw [show (PyData.list (ps.map sqP)).canLay0 = PyData.canLayAll0 (ps.map sqP) from rfl, h1, Bool.true_and, decide_eq_true_eq]
  show PyData.depthAll (ps.map sqP) + 1 ≤ 64
  omega
theorem ad_go {l fs : List Fm} (h1 : ∀ f ∈ l, Go f) (h2 : ∀ f ∈ fs, Go f) : ∀ f ∈ ad l fs, Go f := fun f m => by
  rcases List.mem_append.mp (dist_mem.mp m) with m | m
  · exact h1 f m
  · exact h2 f m
theorem go_one {a : Fm} (h : Go a) : ∀ f ∈ [a], Go f := fun f m => by rw [List.mem_singleton.mp m]; exact h
theorem gos_one {s : Sq} (h : GoS s) : ∀ t ∈ [s], GoS t := fun t m => by rw [List.mem_singleton.mp m]; exact h
theorem gos_two {s t : Sq} (h : GoS s) (h2 : GoS t) : ∀ u ∈ [s, t], GoS u := fun u m => by
  rcases List.mem_cons.mp m with e | m
  · rw [e]; exact h
  · rw [List.mem_singleton.mp m]; exact h2
theorem parts_go {sg : Str} {m : Option Fm} {l ps : List Fm} (hm : ∀ f, m = some f → Go f) (h : partsOf sg m l = some ps) : ∀ f ∈ ps, Go f := by
  obtain ⟨f, rfl, _, _, rfl⟩ := parts_some h
  exact fun g hg => go_ps (hm f rfl) hg
theorem map_some {α β : Type} {o : Option α} {f : α → β} {b : β} (h : o.map f = some b) : ∃ a, o = some a ∧ f a = b := by
  cases o with
  | none => cases h
  | some a => exact ⟨a, rfl, Option.some.inj h⟩
theorem tab_go {lg : Str} {l r : List Fm} {m : Option Fm} {ps : List Sq} (hl : ∀ f ∈ l, Go f) (hr : ∀ f ∈ r, Go f) (hm : ∀ f, m = some f → Go f) : ∀ p ∈ tabL, p.2 lg l r m = some ps → ∀ s ∈ ps, GoS s := by
  intro p hp h
  simp only [tabL, List.mem_cons, List.not_mem_nil, or_false] at hp
  rcases hp with e | e | e | e | e | e | e | e | e <;> subst e
  · cases m with
    | none => cases h
    | some f =>
      have h : (if f ∈ l ∧ f ∈ r then some [] else none) = some ps := h
      split at h
      · cases h; exact fun _ m => nomatch m
      · cases h
  · have h : (if m = none ∧ Fm.fal ∈ l then some [] else none) = some ps := h
    split at h
    · cases h; exact fun _ m => nomatch m
    · cases h
  · cases m with
    | none => cases h
    | some f =>
      have h : (if intB lg = true ∧ f.plain = false then none else some [(l, ad r [f]), (ad l [f], r)]) = some ps := h
      split at h
      · cases h
      · cases h
        exact gos_two ⟨hl, ad_go hr (go_one (hm f rfl))⟩ ⟨ad_go hl (go_one (hm f rfl)), hr⟩
  · obtain ⟨xs, hx, rfl⟩ := map_some h
    exact gos_one ⟨ad_go hl (parts_go hm hx), hr⟩
  · obtain ⟨xs, hx, rfl⟩ := map_some h
    intro s ms
    obtain ⟨a, ha, rfl⟩ := List.mem_map.mp ms
    exact ⟨hl, ad_go hr (go_one (parts_go hm hx a ha))⟩
  · obtain ⟨xs, hx, rfl⟩ := map_some h
    intro s ms
    obtain ⟨a, ha, rfl⟩ := List.mem_map.mp ms
    exact ⟨ad_go hl (go_one (parts_go hm hx a ha)), hr⟩
  · obtain ⟨xs, hx, rfl⟩ := map_some h
    exact gos_one ⟨hl, ad_go hr (parts_go hm hx)⟩
  · obtain ⟨xs, hx, e⟩ := map_some h
    have gx := parts_go hm hx
    match xs, e with
    | [a, b], e =>
      subst e
      exact gos_two ⟨hl, ad_go hr (go_one (gx a (by simp)))⟩ ⟨ad_go hl (go_one (gx b (by simp))), hr⟩
    | [], e => subst e; exact fun _ m => nomatch m
    | [_], e => subst e; exact fun _ m => nomatch m
    | _ :: _ :: _ :: _, e => subst e; exact fun _ m => nomatch m
  · obtain ⟨xs, hx, e⟩ := map_some h
    have gx := parts_go hm hx
    match xs, e with
    | [a, b], e =>
      have e : (if intB lg = true ∧ lg ≠ "Cl" then [(ad l [a], [b])] else [(ad l [a], ad r [b])]) = ps := e
      subst e
      split
      · exact gos_one ⟨ad_go hl (go_one (gx a (by simp))), go_one (gx b (by simp))⟩
      · exact gos_one ⟨ad_go hl (go_one (gx a (by simp))), ad_go hr (go_one (gx b (by simp)))⟩
    | [], e => subst e; exact fun _ m => nomatch m
    | [_], e => subst e; exact fun _ m => nomatch m
    | _ :: _ :: _ :: _, e => subst e; exact fun _ m => nomatch m
theorem lookup_mem {ru : Str} {pr : Pr} : ∀ {t : List (Str × Pr)}, t.lookup ru = some pr → ∃ k, (k, pr) ∈ t
  | [], h => by cases h
  | (k, p) :: t, h => by
    rw [List.lookup_cons] at h
    split at h
    · cases h
      exact ⟨k, List.mem_cons_self⟩
    · obtain ⟨k', m⟩ := lookup_mem h
      exact ⟨k', List.mem_cons_of_mem _ m⟩
theorem prems_go {ru lg : Str} {l r : List Fm} {m : Option Fm} {ps : List Sq} (hl : ∀ f ∈ l, Go f) (hr : ∀ f ∈ r, Go f) (hm : ∀ f, m = some f → Go f) (h : premsL ru lg l r m = some ps) : ∀ s ∈ ps, GoS s := by
  unfold premsL at h
  split at h
  · rename_i pr e
    obtain ⟨k, mk⟩ := lookup_mem e
    exact tab_go hl hr hm (k, pr) mk h
  · cases h
theorem ok_law (T : Top w K mg) : FnOk P w K mg base CX0 66 T.f_law T.d_law ["script"] (spLaw K) := by
  have G_law_cell := ok_law_cell (P := P) (w := w) (base := base) (TT := []) T
  have G_law_numbers : FnOk P w K mg base CX0 1 T.f_law_numbers T.d_law_numbers ["script", "first", "most"] (spNumbers K) := ok_law_numbers T
  have G_law_formula : FnOk P w K mg base CX0 10 T.f_law_formula T.d_law_formula ["pool", "depth", "plain"] (spFormula K 10) := ok_law_formula T 10
  have G_law_goal := ok_law_goal (P := P) (w := w) (base := base) T
  have G_law_logic := ok_law_logic (P := P) (w := w) (base := base) (TT := []) T
  have G_law_premises := ok_law_premises (P := P) (w := w) (base := base) (TT := []) T
  have G_premises_of := ok_premises_of (P := P) (w := w) (base := base) (TT := []) T
  refine okLaw T.F_law sc_law fun cdv A outer s H E κ hr hT ns hn => ?_
  rw [← hT] at G_law_cell G_law_goal G_law_logic G_law_premises G_premises_of
  have hl0 : XL K κ (fun _ _ _ _ => False) (fun _ _ => False) := fun _ _ _ _ _ h => h
  have hu64 := hr.units
  have hu65 : (A.deeper (envOfC "law" (defScope s_law) s.heap.objs.size T.f_law cdv)).units + 65 < cLine := by have := hr.un; omega
  have hu200 : (A.deeper (envOfC "law" (defScope s_law) s.heap.objs.size T.f_law cdv)).units + 200 < cLine := by have := hr.un; omega
  refine ⟨_, (dss_cons (ds_set (i := 1) sc_law.nd rfl (.inl rfl) (dx_callB ca_abs call_abs (by rfl) T.z_abs (by decide +kernel) (da_cons (dx_call G_law_cell (hr.mono (by omega)) (by rfl) T.m_law_cell T.F_law_cell.kp T.b_law_cell pass0 (da_cons (dv 0) (da_cons dx_int da_nil))) da_nil)))
    (dss_cons (ds_setO (i := 2) G_law_numbers (c_numbers) (hr.mono (by omega)) (by rfl) T.m_law_numbers T.F_law_numbers.kp T.b_law_numbers pass0 (da_cons (dv 0) (da_cons dx_int (da_cons dx_int da_nil))) sc_law.nd rfl (.inl rfl))
    (dss_cons (ds_set (i := 3) sc_law.nd rfl (.inl rfl) (dx_cmp (op_eqA hu64) oa_eq (dx_op op_mod oa_int (dx_callTy ca_int1 call_int1 (by rfl) T.z_int (by decide +kernel) (da_cons (dv 1) da_nil)) dx_int) dx_int (nomark _)))
    (dss_cons (ds_set (i := 4) sc_law.nd rfl (.inl rfl) (dx_call G_law_logic (hr.mono (by omega)) (by rfl) T.m_law_logic T.F_law_logic.kp T.b_law_logic pass0 (da_cons (dx_callB ca_abs call_abs (by rfl) T.z_abs (by decide +kernel) (da_cons (dx_call G_law_cell (hr.mono (by omega)) (by rfl) T.m_law_cell T.F_law_cell.kp T.b_law_cell pass0 (da_cons (dv 0) (da_cons dx_int da_nil))) da_nil)) (da_cons (dv 3) da_nil))))
    (dss_cons (ds_set (i := 5) sc_law.nd rfl (.inl rfl) (dx_callO G_law_goal (c_P) (hr.mono (by omega)) (by rfl) T.m_law_goal T.F_law_goal.kp T.b_law_goal pass0 (da_cons (dv 2) (da_cons dx_int (da_cons (dv 3) da_nil)))))
    (dss_cons (ds_set (i := 6) sc_law.nd rfl (.inl rfl) (dx_fx (fx_lst (da_cons dx_str (da_cons dx_str (da_cons dx_str (da_cons dx_str (da_cons dx_str (da_cons dx_str (da_cons dx_str (da_cons dx_str (da_cons dx_str (da_cons dx_str (da_cons dx_str da_nil))))))))))))))
    (dss_cons (ds_set (i := 7) sc_law.nd rfl (.inl rfl) (dx_ix ix_seq oa_ix (dv 6) (dx_op op_mod oa_int (dx_op op_fdiv oa_int (dv 1) dx_int) (dx_callB ca_len cr_len (by rfl) T.z_len PySem.boot_len (da_cons (dv 6) da_nil))) (fun _ _ => rfl)))
    (dss_cons (ds_set (i := 8) sc_law.nd rfl (.inl rfl) (dx_op op_addA oa_add (dx_op op_addA oa_add (dx_op op_addA oa_add (dx_op op_addA oa_add (dx_op op_addA oa_add (dx_fx (fx_lst (da_cons dx_non da_nil))) (dx_fx (fx_callTy cf_list call_list_of (by rfl) T.z_list (by decide +kernel) (da_cons (dx_ix ix_seq oa_ix (dv 5) dx_int (fun _ _ => rfl)) da_nil)))) (dx_fx (fx_callTy cf_list call_list_of (by rfl) T.z_list (by decide +kernel) (da_cons (dx_ix ix_seq oa_ix (dv 5) dx_int (fun _ _ => rfl)) da_nil)))) (dx_fx (fx_callTy cf_list call_list_of (by rfl) T.z_list (by decide +kernel) (da_cons (dx_ix ix_seq oa_ix (dv 5) dx_int (fun _ _ => rfl)) da_nil)))) (dx_fx (fx_callTy cf_list call_list_of (by rfl) T.z_list (by decide +kernel) (da_cons (dx_ix ix_seq oa_ix (dv 5) dx_int (fun _ _ => rfl)) da_nil)))) (dx_fx (fx_lst (da_cons (dx_callO G_law_formula (c_formula) (hr.mono (by omega)) (by rfl) T.m_law_formula T.F_law_formula.kp T.b_law_formula pass0 (da_cons (dv 2) (da_cons dx_int (da_cons (dx_cmp op_gt oa_cmp0 (dx_op op_mod oa_int (dx_callTy ca_int1 call_int1 (by rfl) T.z_int (by decide +kernel) (da_cons (dv 1) da_nil)) dx_int) dx_int (nomark _)) da_nil)))) da_nil)))))
    (dss_cons (ds_set (i := 9) sc_law.nd rfl (.inl rfl) (dx_ix ix_seq oa_ix (dv 8) (dx_op op_mod oa_int (dx_op op_fdiv oa_int (dv 1) dx_int) (dx_callB ca_len cr_len (by rfl) T.z_len PySem.boot_len (da_cons (dv 8) da_nil))) (fun _ _ => rfl)))
    (dss_cons (ds_if (PW.pt (dw_and (dt_cmp (op_inA hu65) oa_in (dv 7) (dx_tup (da_cons dx_str (da_cons dx_str (da_cons dx_str (da_cons dx_str da_nil))))) rfl) (dw_and1 (dt_cmp op_gt oa_cmp0 (dx_op op_mod oa_int (dx_op op_fdiv oa_int (dv 1) dx_int) dx_int) dx_int (nomark _)))))
      (dss_one (ds_set (i := 9) sc_law.nd rfl (.inl rfl) dx_non))
      dss_nil)
    (dss_cons (ds_if (PW.pt (dw_and (dt_cmp (op_eqA hu64) oa_eq (dv 7) dx_str (nomark _)) (dw_and1 (dt_cmp op_gt oa_cmp0 (dx_op op_mod oa_int (dx_op op_fdiv oa_int (dv 1) dx_int) dx_int) dx_int (nomark _)))))
      (dss_cons (ds_set (i := 10) sc_law.nd rfl (.inl rfl) (dx_tup (da_cons dx_str (da_cons (dx_callO G_law_formula (c_formula) (hr.mono (by omega)) (by rfl) T.m_law_formula T.F_law_formula.kp T.b_law_formula pass0 (da_cons (dv 2) (da_cons dx_int (da_cons dx_bl da_nil)))) (da_cons (dx_tup (da_cons dx_str da_nil)) da_nil)))))
    (dss_one (ds_set (i := 9) sc_law.nd rfl (.inl rfl) (dx_tup (da_cons dx_str (da_cons (dv 10) (da_cons (dx_tup (da_cons dx_str (da_cons (dv 10) (da_cons (dx_tup (da_cons dx_str da_nil)) da_nil)))) da_nil)))))))
      dss_nil)
    (dss_cons (ds_set (i := 11) sc_law.nd rfl (.inl rfl) (dx_call G_law_premises (hr.mono (by omega)) (by rfl) T.m_law_premises T.F_law_premises.kp T.b_law_premises pass0 (da_cons (dv 4) (da_cons (dv 7) (da_cons (dv 5) (da_cons (dv 9) da_nil))))))
    (dss_cons (ds_try (i := 13) rfl rfl sc_law.nd rfl rfl ⟨rfl, by decide, .inl T.g_ElsewhereError⟩ takes0 hl0 (fun H0 io W pn xe xw tk1 pw1 hl1 => (dss_one (ds_set (i := 12) sc_law.nd rfl (.inl rfl) (dx_callX G_premises_of (hr.mono (by omega)) (by rfl) T.m_premises_of T.F_premises_of.kp T.b_premises_of tk1 hl1 (da_cons (dv 4) (da_cons (dv 7) (da_cons (dv 5) (da_cons (dv 9) da_nil)))))))) (fun H0 io a C oe pn ec hz hf => (dss_one (ds_ret (dx_and (dx_callB (g := gIsE K C a) ca_isE (call_isE ec hz hf) (by rfl) T.z_isinstance (by decide +kernel) (da_cons (dv 13) (da_cons (dx_glob (v := .ref T.c_NoFit) rfl T.g_NoFit rfl) da_nil))) (dx_one (dx_cmp op_isN1 oa_isN (dv 11) dx_non (nomark _))))))))
    (dss_one (ds_ret (dx_and (dx_cmp op_notN1 oa_notN (dv 11) dx_non (nomark _)) (dx_and (dx_callB ca_isi call_isi (by rfl) T.z_isinstance (by decide +kernel) (da_cons (dv 12) (da_cons (dx_ty (n := "list") (by rfl) T.z_list (by decide +kernel)) da_nil))) (dx_one (dx_cmp (op_eqA hu64) oa_eq (dv 12) (dv 11) (nomark _)))))))))))))))))))), ?_⟩
  rw [show startE ["script", "digit", "pool", "plain", "logic", "goal", "rules", "rule", "listed", "m", "part", "due", "actual", "e"] [D.lst (ns.map D.int)] = [.val (.lst (ns.map D.int)), .no, .no, .no, .no, .no, .no, .no, .no, .no, .no, .no, .no, .no] from rfl]
  refine seq_step fun F k => ?_
  simp only [↓gTp, ↓gCn, ↓gN, ↓gNl, ↓sSeq, ↓sIf, ↓sDrop, ↓sMut, ↓isLs, ↓mutK, ↓gAppend, ↓sSetM, ↓sSet, ↓sC, ↓sVar, ↓sTup, ↓sLst, ↓sFx, ↓sCons, ↓sNil, ↓sOp, ↓sUn, ↓sTst, ↓sTru, ↓sAnd, ↓sOr, ↓sNot, ↓sIfS, ↓sAndV, ↓sOrV, ↓sCB, ↓gLen, ↓sGet1, ↓sGet2, ↓toKey, ↓sRet, ↓sRetN, ↓sCall, ↓sNext, ↓gInt, ↓gCmp, ↓gEqB, ↓gIx, ↓gIsN, ↓isNonD, ↓truD, ↓gNegI, ↓sFor, ↓sLc, ↓sSlL, ↓sSlT, ↓sNoP, ↓sPart, ↓iRv, ↓lstK, ↓iA, ↓iE, ↓iZ, ↓iR1, ↓iR2, ↓valK, ↓valKs, ↓resK, ↓resKs, ↓slK, ↓List.getElem?_cons_succ, ↓List.getElem?_cons_zero, ↓List.set, ↓reduceIte, Bool.not_false, Bool.not_true, Bool.false_eq_true, id, Rs.v.injEq, D.bl.injEq, D.int.injEq, exists_eq_left', true_and, and_true, fD, str_dec, String.reduceEq, decide_false, decide_true, atI_0, atI_1, atI_2, Option.some.injEq, List.length_cons, List.length_nil, ↓sRetV, ↓gAdd, ↓sStarA, ↓gTin, ↓gTnin, ↓gTix, ↓sCallX, ↓sRaise, ↓sRaise1, ↓sTry, ↓gIsE, ↓sCallW, ↓sCF, ↓sCallO, ↓sSetO, ↓sSetIx, ↓setK, ↓sCat, ↓gIsi, ↓tyN, ↓gIsA, ↓gInsert, ↓gPool, ↓isIl, ↓isPl, ↓sSrtS, ↓gListF, ↓gTupA, ↓sNotV, ↓sLst, ↓sAsg, ↓wipeE, List.map_cons, List.map_nil, ↓g2I, keepAll, List.length_map, ↓gInt1, ↓gAbs, rng_len']
  refine ⟨ns, 0, rfl, fun z => ?_⟩
  simp only [↓gTp, ↓gCn, ↓gN, ↓gNl, ↓sSeq, ↓sIf, ↓sDrop, ↓sMut, ↓isLs, ↓mutK, ↓gAppend, ↓sSetM, ↓sSet, ↓sC, ↓sVar, ↓sTup, ↓sLst, ↓sFx, ↓sCons, ↓sNil, ↓sOp, ↓sUn, ↓sTst, ↓sTru, ↓sAnd, ↓sOr, ↓sNot, ↓sIfS, ↓sAndV, ↓sOrV, ↓sCB, ↓gLen, ↓sGet1, ↓sGet2, ↓toKey, ↓sRet, ↓sRetN, ↓sCall, ↓sNext, ↓gInt, ↓gCmp, ↓gEqB, ↓gIx, ↓gIsN, ↓isNonD, ↓truD, ↓gNegI, ↓sFor, ↓sLc, ↓sSlL, ↓sSlT, ↓sNoP, ↓sPart, ↓iRv, ↓lstK, ↓iA, ↓iE, ↓iZ, ↓iR1, ↓iR2, ↓valK, ↓valKs, ↓resK, ↓resKs, ↓slK, ↓List.getElem?_cons_succ, ↓List.getElem?_cons_zero, ↓List.set, ↓reduceIte, Bool.not_false, Bool.not_true, Bool.false_eq_true, id, Rs.v.injEq, D.bl.injEq, D.int.injEq, exists_eq_left', true_and, and_true, fD, str_dec, String.reduceEq, decide_false, decide_true, atI_0, atI_1, atI_2, Option.some.injEq, List.length_cons, List.length_nil, ↓sRetV, ↓gAdd, ↓sStarA, ↓gTin, ↓gTnin, ↓gTix, ↓sCallX, ↓sRaise, ↓sRaise1, ↓sTry, ↓gIsE, ↓sCallW, ↓sCF, ↓sCallO, ↓sSetO, ↓sSetIx, ↓setK, ↓sCat, ↓gIsi, ↓tyN, ↓gIsA, ↓gInsert, ↓gPool, ↓isIl, ↓isPl, ↓sSrtS, ↓gListF, ↓gTupA, ↓sNotV, ↓sLst, ↓sAsg, ↓wipeE, List.map_cons, List.map_nil, ↓g2I, keepAll, List.length_map, ↓gInt1, ↓gAbs, rng_len']
  have hdg : 0 ≤ (if z < 0 then -z else z) := by split <;> omega
  generalize (if z < 0 then -z else z) = dg at hdg
  refine k _ (seq_step fun F k => ?_)
  simp only [↓gTp, ↓gCn, ↓gN, ↓gNl, ↓sSeq, ↓sIf, ↓sDrop, ↓sMut, ↓isLs, ↓mutK, ↓gAppend, ↓sSetM, ↓sSet, ↓sC, ↓sVar, ↓sTup, ↓sLst, ↓sFx, ↓sCons, ↓sNil, ↓sOp, ↓sUn, ↓sTst, ↓sTru, ↓sAnd, ↓sOr, ↓sNot, ↓sIfS, ↓sAndV, ↓sOrV, ↓sCB, ↓gLen, ↓sGet1, ↓sGet2, ↓toKey, ↓sRet, ↓sRetN, ↓sCall, ↓sNext, ↓gInt, ↓gCmp, ↓gEqB, ↓gIx, ↓gIsN, ↓isNonD, ↓truD, ↓gNegI, ↓sFor, ↓sLc, ↓sSlL, ↓sSlT, ↓sNoP, ↓sPart, ↓iRv, ↓lstK, ↓iA, ↓iE, ↓iZ, ↓iR1, ↓iR2, ↓valK, ↓valKs, ↓resK, ↓resKs, ↓slK, ↓List.getElem?_cons_succ, ↓List.getElem?_cons_zero, ↓List.set, ↓reduceIte, Bool.not_false, Bool.not_true, Bool.false_eq_true, id, Rs.v.injEq, D.bl.injEq, D.int.injEq, exists_eq_left', true_and, and_true, fD, str_dec, String.reduceEq, decide_false, decide_true, atI_0, atI_1, atI_2, Option.some.injEq, List.length_cons, List.length_nil, ↓sRetV, ↓gAdd, ↓sStarA, ↓gTin, ↓gTnin, ↓gTix, ↓sCallX, ↓sRaise, ↓sRaise1, ↓sTry, ↓gIsE, ↓sCallW, ↓sCF, ↓sCallO, ↓sSetO, ↓sSetIx, ↓setK, ↓sCat, ↓gIsi, ↓tyN, ↓gIsA, ↓gInsert, ↓gPool, ↓isIl, ↓isPl, ↓sSrtS, ↓gListF, ↓gTupA, ↓sNotV, ↓sLst, ↓sAsg, ↓wipeE, List.map_cons, List.map_nil, ↓g2I, keepAll, List.length_map, ↓gInt1, ↓gAbs, rng_len']
  refine ⟨ns, 2, 40, rfl, by omega, by decide, by decide, by decide, by decide, fun pa => k _ (seq_step fun F k => ?_)⟩
  simp only [↓gTp, ↓gCn, ↓gN, ↓gNl, ↓sSeq, ↓sIf, ↓sDrop, ↓sMut, ↓isLs, ↓mutK, ↓gAppend, ↓sSetM, ↓sSet, ↓sC, ↓sVar, ↓sTup, ↓sLst, ↓sFx, ↓sCons, ↓sNil, ↓sOp, ↓sUn, ↓sTst, ↓sTru, ↓sAnd, ↓sOr, ↓sNot, ↓sIfS, ↓sAndV, ↓sOrV, ↓sCB, ↓gLen, ↓sGet1, ↓sGet2, ↓toKey, ↓sRet, ↓sRetN, ↓sCall, ↓sNext, ↓gInt, ↓gCmp, ↓gEqB, ↓gIx, ↓gIsN, ↓isNonD, ↓truD, ↓gNegI, ↓sFor, ↓sLc, ↓sSlL, ↓sSlT, ↓sNoP, ↓sPart, ↓iRv, ↓lstK, ↓iA, ↓iE, ↓iZ, ↓iR1, ↓iR2, ↓valK, ↓valKs, ↓resK, ↓resKs, ↓slK, ↓List.getElem?_cons_succ, ↓List.getElem?_cons_zero, ↓List.set, ↓reduceIte, Bool.not_false, Bool.not_true, Bool.false_eq_true, id, Rs.v.injEq, D.bl.injEq, D.int.injEq, exists_eq_left', true_and, and_true, fD, str_dec, String.reduceEq, decide_false, decide_true, atI_0, atI_1, atI_2, Option.some.injEq, List.length_cons, List.length_nil, ↓sRetV, ↓gAdd, ↓sStarA, ↓gTin, ↓gTnin, ↓gTix, ↓sCallX, ↓sRaise, ↓sRaise1, ↓sTry, ↓gIsE, ↓sCallW, ↓sCF, ↓sCallO, ↓sSetO, ↓sSetIx, ↓setK, ↓sCat, ↓gIsi, ↓tyN, ↓gIsA, ↓gInsert, ↓gPool, ↓isIl, ↓isPl, ↓sSrtS, ↓gListF, ↓gTupA, ↓sNotV, ↓sLst, ↓sAsg, ↓wipeE, List.map_cons, List.map_nil, ↓g2I, keepAll, List.length_map, ↓gInt1, ↓gAbs, rng_len']
  refine ⟨by decide, k _ (seq_step fun F k => ?_)⟩
  simp only [↓gTp, ↓gCn, ↓gN, ↓gNl, ↓sSeq, ↓sIf, ↓sDrop, ↓sMut, ↓isLs, ↓mutK, ↓gAppend, ↓sSetM, ↓sSet, ↓sC, ↓sVar, ↓sTup, ↓sLst, ↓sFx, ↓sCons, ↓sNil, ↓sOp, ↓sUn, ↓sTst, ↓sTru, ↓sAnd, ↓sOr, ↓sNot, ↓sIfS, ↓sAndV, ↓sOrV, ↓sCB, ↓gLen, ↓sGet1, ↓sGet2, ↓toKey, ↓sRet, ↓sRetN, ↓sCall, ↓sNext, ↓gInt, ↓gCmp, ↓gEqB, ↓gIx, ↓gIsN, ↓isNonD, ↓truD, ↓gNegI, ↓sFor, ↓sLc, ↓sSlL, ↓sSlT, ↓sNoP, ↓sPart, ↓iRv, ↓lstK, ↓iA, ↓iE, ↓iZ, ↓iR1, ↓iR2, ↓valK, ↓valKs, ↓resK, ↓resKs, ↓slK, ↓List.getElem?_cons_succ, ↓List.getElem?_cons_zero, ↓List.set, ↓reduceIte, Bool.not_false, Bool.not_true, Bool.false_eq_true, id, Rs.v.injEq, D.bl.injEq, D.int.injEq, exists_eq_left', true_and, and_true, fD, str_dec, String.reduceEq, decide_false, decide_true, atI_0, atI_1, atI_2, Option.some.injEq, List.length_cons, List.length_nil, ↓sRetV, ↓gAdd, ↓sStarA, ↓gTin, ↓gTnin, ↓gTix, ↓sCallX, ↓sRaise, ↓sRaise1, ↓sTry, ↓gIsE, ↓sCallW, ↓sCF, ↓sCallO, ↓sSetO, ↓sSetIx, ↓setK, ↓sCat, ↓gIsi, ↓tyN, ↓gIsA, ↓gInsert, ↓gPool, ↓isIl, ↓isPl, ↓sSrtS, ↓gListF, ↓gTupA, ↓sNotV, ↓sLst, ↓sAsg, ↓wipeE, List.map_cons, List.map_nil, ↓g2I, keepAll, List.length_map, ↓gInt1, ↓gAbs, rng_len']
  refine ⟨ns, 1, rfl, fun z2 => ?_⟩
  simp only [↓gTp, ↓gCn, ↓gN, ↓gNl, ↓sSeq, ↓sIf, ↓sDrop, ↓sMut, ↓isLs, ↓mutK, ↓gAppend, ↓sSetM, ↓sSet, ↓sC, ↓sVar, ↓sTup, ↓sLst, ↓sFx, ↓sCons, ↓sNil, ↓sOp, ↓sUn, ↓sTst, ↓sTru, ↓sAnd, ↓sOr, ↓sNot, ↓sIfS, ↓sAndV, ↓sOrV, ↓sCB, ↓gLen, ↓sGet1, ↓sGet2, ↓toKey, ↓sRet, ↓sRetN, ↓sCall, ↓sNext, ↓gInt, ↓gCmp, ↓gEqB, ↓gIx, ↓gIsN, ↓isNonD, ↓truD, ↓gNegI, ↓sFor, ↓sLc, ↓sSlL, ↓sSlT, ↓sNoP, ↓sPart, ↓iRv, ↓lstK, ↓iA, ↓iE, ↓iZ, ↓iR1, ↓iR2, ↓valK, ↓valKs, ↓resK, ↓resKs, ↓slK, ↓List.getElem?_cons_succ, ↓List.getElem?_cons_zero, ↓List.set, ↓reduceIte, Bool.not_false, Bool.not_true, Bool.false_eq_true, id, Rs.v.injEq, D.bl.injEq, D.int.injEq, exists_eq_left', true_and, and_true, fD, str_dec, String.reduceEq, decide_false, decide_true, atI_0, atI_1, atI_2, Option.some.injEq, List.length_cons, List.length_nil, ↓sRetV, ↓gAdd, ↓sStarA, ↓gTin, ↓gTnin, ↓gTix, ↓sCallX, ↓sRaise, ↓sRaise1, ↓sTry, ↓gIsE, ↓sCallW, ↓sCF, ↓sCallO, ↓sSetO, ↓sSetIx, ↓setK, ↓sCat, ↓gIsi, ↓tyN, ↓gIsA, ↓gInsert, ↓gPool, ↓isIl, ↓isPl, ↓sSrtS, ↓gListF, ↓gTupA, ↓sNotV, ↓sLst, ↓sAsg, ↓wipeE, List.map_cons, List.map_nil, ↓g2I, keepAll, List.length_map, ↓gInt1, ↓gAbs, rng_len']
  refine ⟨_, _, rfl, by split <;> omega, fun lg hlg _ => k _ (seq_step fun F k => ?_)⟩
  simp only [↓gTp, ↓gCn, ↓gN, ↓gNl, ↓sSeq, ↓sIf, ↓sDrop, ↓sMut, ↓isLs, ↓mutK, ↓gAppend, ↓sSetM, ↓sSet, ↓sC, ↓sVar, ↓sTup, ↓sLst, ↓sFx, ↓sCons, ↓sNil, ↓sOp, ↓sUn, ↓sTst, ↓sTru, ↓sAnd, ↓sOr, ↓sNot, ↓sIfS, ↓sAndV, ↓sOrV, ↓sCB, ↓gLen, ↓sGet1, ↓sGet2, ↓toKey, ↓sRet, ↓sRetN, ↓sCall, ↓sNext, ↓gInt, ↓gCmp, ↓gEqB, ↓gIx, ↓gIsN, ↓isNonD, ↓truD, ↓gNegI, ↓sFor, ↓sLc, ↓sSlL, ↓sSlT, ↓sNoP, ↓sPart, ↓iRv, ↓lstK, ↓iA, ↓iE, ↓iZ, ↓iR1, ↓iR2, ↓valK, ↓valKs, ↓resK, ↓resKs, ↓slK, ↓List.getElem?_cons_succ, ↓List.getElem?_cons_zero, ↓List.set, ↓reduceIte, Bool.not_false, Bool.not_true, Bool.false_eq_true, id, Rs.v.injEq, D.bl.injEq, D.int.injEq, exists_eq_left', true_and, and_true, fD, str_dec, String.reduceEq, decide_false, decide_true, atI_0, atI_1, atI_2, Option.some.injEq, List.length_cons, List.length_nil, ↓sRetV, ↓gAdd, ↓sStarA, ↓gTin, ↓gTnin, ↓gTix, ↓sCallX, ↓sRaise, ↓sRaise1, ↓sTry, ↓gIsE, ↓sCallW, ↓sCF, ↓sCallO, ↓sSetO, ↓sSetIx, ↓setK, ↓sCat, ↓gIsi, ↓tyN, ↓gIsA, ↓gInsert, ↓gPool, ↓isIl, ↓isPl, ↓sSrtS, ↓gListF, ↓gTupA, ↓sNotV, ↓sLst, ↓sAsg, ↓wipeE, List.map_cons, List.map_nil, ↓g2I, keepAll, List.length_map, ↓gInt1, ↓gAbs, rng_len']
  generalize decide (dg % 3 = 0) = pl
  refine ⟨rfl, 3, pl, rfl, by decide, by decide, fun l r dl dr => k _ (seq_step fun F k => ?_)⟩
  simp only [↓gTp, ↓gCn, ↓gN, ↓gNl, ↓sSeq, ↓sIf, ↓sDrop, ↓sMut, ↓isLs, ↓mutK, ↓gAppend, ↓sSetM, ↓sSet, ↓sC, ↓sVar, ↓sTup, ↓sLst, ↓sFx, ↓sCons, ↓sNil, ↓sOp, ↓sUn, ↓sTst, ↓sTru, ↓sAnd, ↓sOr, ↓sNot, ↓sIfS, ↓sAndV, ↓sOrV, ↓sCB, ↓gLen, ↓sGet1, ↓sGet2, ↓toKey, ↓sRet, ↓sRetN, ↓sCall, ↓sNext, ↓gInt, ↓gCmp, ↓gEqB, ↓gIx, ↓gIsN, ↓isNonD, ↓truD, ↓gNegI, ↓sFor, ↓sLc, ↓sSlL, ↓sSlT, ↓sNoP, ↓sPart, ↓iRv, ↓lstK, ↓iA, ↓iE, ↓iZ, ↓iR1, ↓iR2, ↓valK, ↓valKs, ↓resK, ↓resKs, ↓slK, ↓List.getElem?_cons_succ, ↓List.getElem?_cons_zero, ↓List.set, ↓reduceIte, Bool.not_false, Bool.not_true, Bool.false_eq_true, id, Rs.v.injEq, D.bl.injEq, D.int.injEq, exists_eq_left', true_and, and_true, fD, str_dec, String.reduceEq, decide_false, decide_true, atI_0, atI_1, atI_2, Option.some.injEq, List.length_cons, List.length_nil, ↓sRetV, ↓gAdd, ↓sStarA, ↓gTin, ↓gTnin, ↓gTix, ↓sCallX, ↓sRaise, ↓sRaise1, ↓sTry, ↓gIsE, ↓sCallW, ↓sCF, ↓sCallO, ↓sSetO, ↓sSetIx, ↓setK, ↓sCat, ↓gIsi, ↓tyN, ↓gIsA, ↓gInsert, ↓gPool, ↓isIl, ↓isPl, ↓sSrtS, ↓gListF, ↓gTupA, ↓sNotV, ↓sLst, ↓sAsg, ↓wipeE, List.map_cons, List.map_nil, ↓g2I, keepAll, List.length_map, ↓gInt1, ↓gAbs, rng_len']
  refine ⟨by decide, k _ (seq_step fun F k => ?_)⟩
  simp only [↓gTp, ↓gCn, ↓gN, ↓gNl, ↓sSeq, ↓sIf, ↓sDrop, ↓sMut, ↓isLs, ↓mutK, ↓gAppend, ↓sSetM, ↓sSet, ↓sC, ↓sVar, ↓sTup, ↓sLst, ↓sFx, ↓sCons, ↓sNil, ↓sOp, ↓sUn, ↓sTst, ↓sTru, ↓sAnd, ↓sOr, ↓sNot, ↓sIfS, ↓sAndV, ↓sOrV, ↓sCB, ↓gLen, ↓sGet1, ↓sGet2, ↓toKey, ↓sRet, ↓sRetN, ↓sCall, ↓sNext, ↓gInt, ↓gCmp, ↓gEqB, ↓gIsN, ↓isNonD, ↓truD, ↓gNegI, ↓sFor, ↓sLc, ↓sSlL, ↓sSlT, ↓sNoP, ↓sPart, ↓iRv, ↓lstK, ↓iA, ↓iE, ↓iZ, ↓iR1, ↓iR2, ↓valK, ↓valKs, ↓resK, ↓resKs, ↓slK, ↓List.getElem?_cons_succ, ↓List.getElem?_cons_zero, ↓List.set, ↓reduceIte, Bool.not_false, Bool.not_true, Bool.false_eq_true, id, Rs.v.injEq, D.bl.injEq, D.int.injEq, exists_eq_left', true_and, and_true, fD, str_dec, String.reduceEq, decide_false, decide_true, atI_0, atI_1, atI_2, Option.some.injEq, List.length_cons, List.length_nil, ↓sRetV, ↓gAdd, ↓sStarA, ↓gTin, ↓gTnin, ↓gTix, ↓sCallX, ↓sRaise, ↓sRaise1, ↓sTry, ↓gIsE, ↓sCallW, ↓sCF, ↓sCallO, ↓sSetO, ↓sSetIx, ↓setK, ↓sCat, ↓gIsi, ↓tyN, ↓gIsA, ↓gInsert, ↓gPool, ↓isIl, ↓isPl, ↓sSrtS, ↓gListF, ↓gTupA, ↓sNotV, ↓sLst, ↓sAsg, ↓wipeE, List.map_cons, List.map_nil, ↓g2I, keepAll, List.length_map, ↓gInt1, ↓gAbs, rng_len']
  obtain ⟨j, hj⟩ : ∃ j : Nat, dg / 3 % 11 = (j : Int) := ⟨(dg / 3 % 11).toNat, by omega⟩
  have hjl : j < rus.length := by show j < 11; omega
  refine ⟨⟨by decide, by decide⟩, by decide, ?_⟩
  rw [show dg / 3 % ((0 + 1 + 1 + 1 + 1 + 1 + 1 + 1 + 1 + 1 + 1 + 1 : Nat) : Int) = (j : Int) from hj]
  refine ⟨.str rus[j], atI_nat (by show (rus.map D.str)[j]? = _; rw [List.getElem?_map, List.getElem?_eq_getElem hjl]; rfl), ?_⟩
  have hru : rus[j] ∈ rus := List.getElem_mem hjl
  generalize rus[j] = ru at hru
  rw [show sqD (l, r) = .tup [.tup (l.map fD), .tup (r.map fD)] from rfl]
  refine k _ (seq_step fun F k => ?_)
  simp only [↓gTp, ↓gCn, ↓gN, ↓gNl, ↓sSeq, ↓sIf, ↓sDrop, ↓sMut, ↓isLs, ↓mutK, ↓gAppend, ↓sSetM, ↓sSet, ↓sC, ↓sVar, ↓sTup, ↓sLst, ↓sFx, ↓sCons, ↓sNil, ↓sOp, ↓sUn, ↓sTst, ↓sTru, ↓sAnd, ↓sOr, ↓sNot, ↓sIfS, ↓sAndV, ↓sOrV, ↓sCB, ↓gLen, ↓sGet1, ↓sGet2, ↓toKey, ↓sRet, ↓sRetN, ↓sCall, ↓sNext, ↓gInt, ↓gCmp, ↓gEqB, ↓gIx, ↓gIsN, ↓isNonD, ↓truD, ↓gNegI, ↓sFor, ↓sLc, ↓sSlL, ↓sSlT, ↓sNoP, ↓sPart, ↓iRv, ↓lstK, ↓iA, ↓iE, ↓iZ, ↓iR1, ↓iR2, ↓valK, ↓valKs, ↓resK, ↓resKs, ↓slK, ↓List.getElem?_cons_succ, ↓List.getElem?_cons_zero, ↓List.set, ↓reduceIte, Bool.not_false, Bool.not_true, Bool.false_eq_true, id, Rs.v.injEq, D.bl.injEq, D.int.injEq, exists_eq_left', true_and, and_true, fD, str_dec, String.reduceEq, decide_false, decide_true, atI_0, atI_1, atI_2, Option.some.injEq, List.length_cons, List.length_nil, ↓sRetV, ↓gAdd, ↓sStarA, ↓gTin, ↓gTnin, ↓gTix, ↓sCallX, ↓sRaise, ↓sRaise1, ↓sTry, ↓gIsE, ↓sCallW, ↓sCF, ↓sCallO, ↓sSetO, ↓sSetIx, ↓setK, ↓sCat, ↓gIsi, ↓tyN, ↓gIsA, ↓gInsert, ↓gPool, ↓isIl, ↓isPl, ↓sSrtS, ↓gListF, ↓gTupA, ↓sNotV, ↓sLst, ↓sAsg, ↓wipeE, List.map_cons, List.map_nil, ↓g2I, keepAll, List.length_map, ↓gInt1, ↓gAbs, rng_len']
  have n1 := dl.len
  have n2 := dr.len
  refine ⟨by decide, by rw [sizeLine_eq]; omega, by simp only [List.length_append, List.length_map, List.length_cons, List.length_nil]; rw [sizeLine_eq]; omega, by simp only [List.length_append, List.length_map, List.length_cons, List.length_nil]; rw [sizeLine_eq]; omega, by simp only [List.length_append, List.length_map, List.length_cons, List.length_nil]; rw [sizeLine_eq]; omega, by decide, rfl, 2, _, rfl, by decide, by decide, fun fx hx1 hx2 _ => ⟨by decide, by simp only [List.length_append, List.length_map, List.length_cons, List.length_nil]; rw [sizeLine_eq]; omega, ?_⟩⟩
  have gl : ∀ f ∈ l, Go f := fun f m => ⟨(dl.go f m).2.1, Nat.le_trans (dl.go f m).1 (by decide)⟩
  have gr : ∀ f ∈ r, Go f := fun f m => ⟨(dr.go f m).2.1, Nat.le_trans (dr.go f m).1 (by decide)⟩
  obtain ⟨os, hos, gos, los, pos_⟩ : ∃ os : List (Option Fm), [D.non] ++ List.map fD l ++ List.map fD r ++ List.map fD l ++ List.map fD r ++ [fD fx] = os.map mD ∧ (∀ o ∈ os, ∀ f, o = some f → Go f) ∧ os.length ≤ 100 ∧ 0 < os.length := by
    refine ⟨[none] ++ l.map some ++ r.map some ++ l.map some ++ r.map some ++ [some fx], ?_, fun o m f e => ?_, ?_, ?_⟩
    · simp only [List.map_append, List.map_map, List.map_cons, List.map_nil]
      rfl
    · subst e
      simp only [List.mem_append, List.mem_map, List.mem_cons, List.not_mem_nil, or_false, Option.some.injEq, exists_eq_right, reduceCtorEq, false_or] at m
      rcases m with (((m | m) | m) | m) | m
      · exact gl f m
      · exact gr f m
      · exact gl f m
      · exact gr f m
      · rw [m]
        exact ⟨hx2, Nat.le_trans hx1 (by decide)⟩
    · simp only [List.length_append, List.length_map, List.length_cons, List.length_nil]
      omega
    · simp
  rw [hos]
  refine k _ (seq_step fun F k => ?_)
  simp only [↓gTp, ↓gCn, ↓gN, ↓gNl, ↓sSeq, ↓sIf, ↓sDrop, ↓sMut, ↓isLs, ↓mutK, ↓gAppend, ↓sSetM, ↓sSet, ↓sC, ↓sVar, ↓sTup, ↓sLst, ↓sFx, ↓sCons, ↓sNil, ↓sOp, ↓sUn, ↓sTst, ↓sTru, ↓sAnd, ↓sOr, ↓sNot, ↓sIfS, ↓sAndV, ↓sOrV, ↓sCB, ↓gLen, ↓sGet1, ↓sGet2, ↓toKey, ↓sRet, ↓sRetN, ↓sCall, ↓sNext, ↓gInt, ↓gCmp, ↓gEqB, ↓gIsN, ↓isNonD, ↓truD, ↓gNegI, ↓sFor, ↓sLc, ↓sSlL, ↓sSlT, ↓sNoP, ↓sPart, ↓iRv, ↓lstK, ↓iA, ↓iE, ↓iZ, ↓iR1, ↓iR2, ↓valK, ↓valKs, ↓resK, ↓resKs, ↓slK, ↓List.getElem?_cons_succ, ↓List.getElem?_cons_zero, ↓List.set, ↓reduceIte, Bool.not_false, Bool.not_true, Bool.false_eq_true, id, Rs.v.injEq, D.bl.injEq, D.int.injEq, exists_eq_left', true_and, and_true, fD, str_dec, String.reduceEq, decide_false, decide_true, atI_0, atI_1, atI_2, Option.some.injEq, List.length_cons, List.length_nil, ↓sRetV, ↓gAdd, ↓sStarA, ↓gTin, ↓gTnin, ↓gTix, ↓sCallX, ↓sRaise, ↓sRaise1, ↓sTry, ↓gIsE, ↓sCallW, ↓sCF, ↓sCallO, ↓sSetO, ↓sSetIx, ↓setK, ↓sCat, ↓gIsi, ↓tyN, ↓gIsA, ↓gInsert, ↓gPool, ↓isIl, ↓isPl, ↓sSrtS, ↓gListF, ↓gTupA, ↓sNotV, ↓sLst, ↓sAsg, ↓wipeE, List.map_cons, List.map_nil, ↓g2I, keepAll, List.length_map, ↓gInt1, ↓gAbs, rng_len']
  have c0 : 0 ≤ dg / 60 % (os.length : Int) := Int.emod_nonneg _ (by omega)
  have c1 : dg / 60 % (os.length : Int) < os.length := Int.emod_lt_of_pos _ (by omega)
  obtain ⟨i, hi⟩ : ∃ i : Nat, dg / 60 % (os.length : Int) = (i : Int) := ⟨(dg / 60 % (os.length : Int)).toNat, by omega⟩
  have hil : i < os.length := by omega
  rw [hi]
  refine ⟨⟨by decide, by decide⟩, by omega, mD os[i], atI_nat (by rw [List.getElem?_map, List.getElem?_eq_getElem hil]; rfl), ?_⟩
  have gm := gos _ (List.getElem_mem hil)
  generalize os[i] = m at gm
  generalize hlist : D.lst (List.map mD os) = dl8
  refine k _ (seq_step fun F k => ?_)
  have rest : ∀ m : Option Fm, (∀ f, m = some f → Go f) → F [Sl.val (D.lst (List.map D.int ns)), Sl.val (D.int dg), Sl.il pa, Sl.val (D.bl pl), Sl.val (D.str lg), Sl.val (D.tup [D.tup (List.map fD l), D.tup (List.map fD r)]), Sl.val (D.lst [D.str "axiom", D.str "falsum", D.str "cut", D.str "and_left", D.str "and_right", D.str "or_left", D.str "or_right", D.str "implies_left", D.str "implies_right", D.str "weaken", D.str "none"]), Sl.val (D.str ru), Sl.val dl8, Sl.val (mD m), Sl.no, Sl.no, Sl.no, Sl.no] := fun m gm => by
    refine k _ (seq_step fun F k => ?_)
    simp only [↓gTp, ↓gCn, ↓gN, ↓gNl, ↓sSeq, ↓sIf, ↓sDrop, ↓sMut, ↓isLs, ↓mutK, ↓gAppend, ↓sSetM, ↓sSet, ↓sC, ↓sVar, ↓sTup, ↓sLst, ↓sFx, ↓sCons, ↓sNil, ↓sOp, ↓sUn, ↓sTst, ↓sTru, ↓sAnd, ↓sOr, ↓sNot, ↓sIfS, ↓sAndV, ↓sOrV, ↓sCB, ↓gLen, ↓sGet1, ↓sGet2, ↓toKey, ↓sRet, ↓sRetN, ↓sCall, ↓sNext, ↓gInt, ↓gCmp, ↓gEqB, ↓gIx, ↓gIsN, ↓isNonD, ↓truD, ↓gNegI, ↓sFor, ↓sLc, ↓sSlL, ↓sSlT, ↓sNoP, ↓sPart, ↓iRv, ↓lstK, ↓iA, ↓iE, ↓iZ, ↓iR1, ↓iR2, ↓valK, ↓valKs, ↓resK, ↓resKs, ↓slK, ↓List.getElem?_cons_succ, ↓List.getElem?_cons_zero, ↓List.set, ↓reduceIte, Bool.not_false, Bool.not_true, Bool.false_eq_true, id, Rs.v.injEq, D.bl.injEq, D.int.injEq, exists_eq_left', true_and, and_true, fD, str_dec, String.reduceEq, decide_false, decide_true, atI_0, atI_1, atI_2, Option.some.injEq, List.length_cons, List.length_nil, ↓sRetV, ↓gAdd, ↓sStarA, ↓gTin, ↓gTnin, ↓gTix, ↓sCallX, ↓sRaise, ↓sRaise1, ↓sTry, ↓gIsE, ↓sCallW, ↓sCF, ↓sCallO, ↓sSetO, ↓sSetIx, ↓setK, ↓sCat, ↓gIsi, ↓tyN, ↓gIsA, ↓gInsert, ↓gPool, ↓isIl, ↓isPl, ↓sSrtS, ↓gListF, ↓gTupA, ↓sNotV, ↓sLst, ↓sAsg, ↓wipeE, List.map_cons, List.map_nil, ↓g2I, keepAll, List.length_map, ↓gInt1, ↓gAbs, rng_len']
    have nw : decide (ru = ("weak_middle" : Str)) = false := by
      have : ∀ ru ∈ rus, decide (ru = ("weak_middle" : Str)) = false := by decide +kernel
      exact this ru hru
    rw [nw]
    refine iteF (k _ (seq_step fun F k => ?_))
    simp only [↓gTp, ↓gCn, ↓gN, ↓gNl, ↓sSeq, ↓sIf, ↓sDrop, ↓sMut, ↓isLs, ↓mutK, ↓gAppend, ↓sSetM, ↓sSet, ↓sC, ↓sVar, ↓sTup, ↓sLst, ↓sFx, ↓sCons, ↓sNil, ↓sOp, ↓sUn, ↓sTst, ↓sTru, ↓sAnd, ↓sOr, ↓sNot, ↓sIfS, ↓sAndV, ↓sOrV, ↓sCB, ↓gLen, ↓sGet1, ↓sGet2, ↓toKey, ↓sRet, ↓sRetN, ↓sCall, ↓sNext, ↓gInt, ↓gCmp, ↓gEqB, ↓gIx, ↓gIsN, ↓isNonD, ↓truD, ↓gNegI, ↓sFor, ↓sLc, ↓sSlL, ↓sSlT, ↓sNoP, ↓sPart, ↓iRv, ↓lstK, ↓iA, ↓iE, ↓iZ, ↓iR1, ↓iR2, ↓valK, ↓valKs, ↓resK, ↓resKs, ↓slK, ↓List.getElem?_cons_succ, ↓List.getElem?_cons_zero, ↓List.set, ↓reduceIte, Bool.not_false, Bool.not_true, Bool.false_eq_true, id, Rs.v.injEq, D.bl.injEq, D.int.injEq, exists_eq_left', true_and, and_true, fD, str_dec, String.reduceEq, decide_false, decide_true, atI_0, atI_1, atI_2, Option.some.injEq, List.length_cons, List.length_nil, ↓sRetV, ↓gAdd, ↓sStarA, ↓gTin, ↓gTnin, ↓gTix, ↓sCallX, ↓sRaise, ↓sRaise1, ↓sTry, ↓gIsE, ↓sCallW, ↓sCF, ↓sCallO, ↓sSetO, ↓sSetIx, ↓setK, ↓sCat, ↓gIsi, ↓tyN, ↓gIsA, ↓gInsert, ↓gPool, ↓isIl, ↓isPl, ↓sSrtS, ↓gListF, ↓gTupA, ↓sNotV, ↓sLst, ↓sAsg, ↓wipeE, List.map_cons, List.map_nil, ↓g2I, keepAll, List.length_map, ↓gInt1, ↓gAbs, rng_len']
    refine ⟨lg, ru, l, r, m, rfl, hlg, hru, gl, by omega, gr, by omega, gm, k _ (seq_step fun F k => ?_)⟩
    simp only [↓gTp, ↓gCn, ↓gN, ↓gNl, ↓sSeq, ↓sIf, ↓sDrop, ↓sMut, ↓isLs, ↓mutK, ↓gAppend, ↓sSetM, ↓sSet, ↓sC, ↓sVar, ↓sTup, ↓sLst, ↓sFx, ↓sCons, ↓sNil, ↓sOp, ↓sUn, ↓sTst, ↓sTru, ↓sAnd, ↓sOr, ↓sNot, ↓sIfS, ↓sAndV, ↓sOrV, ↓sCB, ↓gLen, ↓sGet1, ↓sGet2, ↓toKey, ↓sRet, ↓sRetN, ↓sCall, ↓sNext, ↓gInt, ↓gCmp, ↓gEqB, ↓gIx, ↓gIsN, ↓isNonD, ↓truD, ↓gNegI, ↓sFor, ↓sLc, ↓sSlL, ↓sSlT, ↓sNoP, ↓sPart, ↓iRv, ↓lstK, ↓iA, ↓iE, ↓iZ, ↓iR1, ↓iR2, ↓valK, ↓valKs, ↓resK, ↓resKs, ↓slK, ↓List.getElem?_cons_succ, ↓List.getElem?_cons_zero, ↓List.set, ↓sRetV, ↓gAdd, ↓sStarA, ↓gTin, ↓gTnin, ↓gTix, ↓sCallX, ↓sRaise, ↓sRaise1, ↓sTry, ↓gIsE, ↓sCallW, ↓sCF, ↓sCallO, ↓sSetO, ↓sSetIx, ↓setK, ↓sCat, ↓gIsi, ↓tyN, ↓gIsA, ↓gInsert, ↓gPool, ↓isIl, ↓isPl, ↓sSrtS, ↓gListF, ↓gTupA, ↓sNotV, ↓sLst, ↓sAsg, ↓wipeE, List.map_cons, List.map_nil, ↓g2I, keepAll, List.length_map, ↓gInt1, ↓gAbs, rng_len']
    refine ⟨lg, ru, l, r, m, rfl, hlg, rus_tab ru hru, ⟨dl.asc, gl, by omega⟩, ⟨dr.asc, gr, by omega⟩, gm, fun ps hp => ?_, fun hp => ⟨true, T.X_NoFit_ElsewhereError, fun _ => ⟨T.E_NoFit, fun a => ?_⟩, fun h => nomatch h⟩⟩
    · refine k _ ?_
      rw [hp, show resD (some ps) = .lst (ps.map sqD) from rfl]
      simp only [↓gTp, ↓gCn, ↓gN, ↓gNl, ↓sSeq, ↓sIf, ↓sDrop, ↓sMut, ↓isLs, ↓mutK, ↓gAppend, ↓sSetM, ↓sSet, ↓sC, ↓sVar, ↓sTup, ↓sLst, ↓sFx, ↓sCons, ↓sNil, ↓sOp, ↓sUn, ↓sTst, ↓sTru, ↓sAnd, ↓sOr, ↓sNot, ↓sIfS, ↓sAndV, ↓sOrV, ↓sCB, ↓gLen, ↓sGet1, ↓sGet2, ↓toKey, ↓sRet, ↓sRetN, ↓sCall, ↓sNext, ↓gInt, ↓gCmp, ↓gIx, ↓gIsN, ↓isNonD, ↓truD, ↓gNegI, ↓sFor, ↓sLc, ↓sSlL, ↓sSlT, ↓sNoP, ↓sPart, ↓iRv, ↓lstK, ↓iA, ↓iE, ↓iZ, ↓iR1, ↓iR2, ↓valK, ↓valKs, ↓resK, ↓resKs, ↓slK, ↓List.getElem?_cons_succ, ↓List.getElem?_cons_zero, ↓List.set, ↓reduceIte, Bool.not_false, Bool.not_true, Bool.false_eq_true, id, Rs.v.injEq, D.bl.injEq, D.int.injEq, exists_eq_left', true_and, and_true, fD, str_dec, String.reduceEq, decide_false, decide_true, atI_0, atI_1, atI_2, Option.some.injEq, List.length_cons, List.length_nil, ↓sRetV, ↓gAdd, ↓sStarA, ↓gTin, ↓gTnin, ↓gTix, ↓sCallX, ↓sRaise, ↓sRaise1, ↓sTry, ↓gIsE, ↓sCallW, ↓sCF, ↓sCallO, ↓sSetO, ↓sSetIx, ↓setK, ↓sCat, ↓gIsi, ↓tyN, ↓gIsA, ↓gInsert, ↓gPool, ↓isIl, ↓isPl, ↓sSrtS, ↓gListF, ↓gTupA, ↓sNotV, ↓sLst, ↓sAsg, ↓wipeE, List.map_cons, List.map_nil, ↓g2I, keepAll, List.length_map, ↓gInt1, ↓gAbs, rng_len']
      exact ⟨"list", true, rfl, rfl, iteT (sqs_eq (prems_go gl gr gm hp) fun _ => rfl)⟩
    · rw [hp, show resD none = .non from rfl]
      simp only [↓gTp, ↓gCn, ↓gN, ↓gNl, ↓sSeq, ↓sIf, ↓sDrop, ↓sMut, ↓isLs, ↓mutK, ↓gAppend, ↓sSetM, ↓sSet, ↓sC, ↓sVar, ↓sTup, ↓sLst, ↓sFx, ↓sCons, ↓sNil, ↓sOp, ↓sUn, ↓sTst, ↓sTru, ↓sAnd, ↓sOr, ↓sNot, ↓sIfS, ↓sAndV, ↓sOrV, ↓sCB, ↓gLen, ↓sGet1, ↓sGet2, ↓toKey, ↓sRet, ↓sRetN, ↓sCall, ↓sNext, ↓gInt, ↓gCmp, ↓gEqB, ↓gIx, ↓gIsN, ↓isNonD, ↓truD, ↓gNegI, ↓sFor, ↓sLc, ↓sSlL, ↓sSlT, ↓sNoP, ↓sPart, ↓iRv, ↓lstK, ↓iA, ↓iE, ↓iZ, ↓iR1, ↓iR2, ↓valK, ↓valKs, ↓resK, ↓resKs, ↓slK, ↓List.getElem?_cons_succ, ↓List.getElem?_cons_zero, ↓List.set, ↓reduceIte, Bool.not_false, Bool.not_true, Bool.false_eq_true, id, Rs.v.injEq, D.bl.injEq, D.int.injEq, exists_eq_left', true_and, and_true, fD, str_dec, String.reduceEq, decide_false, decide_true, atI_0, atI_1, atI_2, Option.some.injEq, List.length_cons, List.length_nil, ↓sRetV, ↓gAdd, ↓sStarA, ↓gTin, ↓gTnin, ↓gTix, ↓sCallX, ↓sRaise, ↓sRaise1, ↓sTry, ↓gIsE, ↓sCallW, ↓sCF, ↓sCallO, ↓sSetO, ↓sSetIx, ↓setK, ↓sCat, ↓gIsi, ↓tyN, ↓gIsA, ↓gInsert, ↓gPool, ↓isIl, ↓isPl, ↓sSrtS, ↓gListF, ↓gTupA, ↓sNotV, ↓sLst, ↓sAsg, ↓wipeE, List.map_cons, List.map_nil, ↓g2I, keepAll, List.length_map, ↓gInt1, ↓gAbs, rng_len']
      exact ⟨T.c_NoFit, true, rfl, T.i_NoFit_NoFit, iteT fun _ => trivial⟩
  simp only [↓gTp, ↓gCn, ↓gN, ↓gNl, ↓sSeq, ↓sIf, ↓sDrop, ↓sMut, ↓isLs, ↓mutK, ↓gAppend, ↓sSetM, ↓sSet, ↓sC, ↓sVar, ↓sTup, ↓sLst, ↓sFx, ↓sCons, ↓sNil, ↓sOp, ↓sUn, ↓sTst, ↓sTru, ↓sAnd, ↓sOr, ↓sNot, ↓sIfS, ↓sAndV, ↓sOrV, ↓sCB, ↓gLen, ↓sGet1, ↓sGet2, ↓toKey, ↓sRet, ↓sRetN, ↓sCall, ↓sNext, ↓gInt, ↓gCmp, ↓gEqB, ↓gIx, ↓gIsN, ↓isNonD, ↓truD, ↓gNegI, ↓sFor, ↓sLc, ↓sSlL, ↓sSlT, ↓sNoP, ↓sPart, ↓iRv, ↓lstK, ↓iA, ↓iE, ↓iZ, ↓iR1, ↓iR2, ↓valK, ↓valKs, ↓resK, ↓resKs, ↓slK, ↓List.getElem?_cons_succ, ↓List.getElem?_cons_zero, ↓List.set, ↓reduceIte, Bool.not_false, Bool.not_true, Bool.false_eq_true, id, Rs.v.injEq, D.bl.injEq, D.int.injEq, exists_eq_left', true_and, and_true, fD, str_dec, String.reduceEq, decide_false, decide_true, atI_0, atI_1, atI_2, Option.some.injEq, List.length_cons, List.length_nil, ↓sRetV, ↓gAdd, ↓sStarA, ↓gTin, ↓gTnin, ↓gTix, ↓sCallX, ↓sRaise, ↓sRaise1, ↓sTry, ↓gIsE, ↓sCallW, ↓sCF, ↓sCallO, ↓sSetO, ↓sSetIx, ↓setK, ↓sCat, ↓gIsi, ↓tyN, ↓gIsA, ↓gInsert, ↓gPool, ↓isIl, ↓isPl, ↓sSrtS, ↓gListF, ↓gTupA, ↓sNotV, ↓sLst, ↓sAsg, ↓wipeE, List.map_cons, List.map_nil, ↓g2I, keepAll, List.length_map, ↓gInt1, ↓gAbs, rng_len']
  exact ⟨by decide, rfl, rfl, _, rfl, iteD' (fun _ => ⟨⟨by decide, by decide⟩, by decide, iteD' (fun _ => rest none (fun _ h => nomatch h)) (fun _ => rest m gm)⟩) (fun _ => rest m gm)⟩

end
end DL
namespace E
open PySem PySem.Spec PyProof.Rows L2
abbrev spLaw (K : PySem.W.Frag) : Sp := DL.spLaw K
theorem ok_law {P : Program} {w : World} {K : PySem.W.Frag} {mg : Str → Option Value} {base : Heap} (T : Top w K mg) : FnOk P w K mg base CX0 66 T.f_law T.d_law ["script"] (spLaw K) := DL.ok_law T
def q0 (K : PySem.W.Frag) : Bool := EH.gloB "FALSUM" 85 K
def q1 (K : PySem.W.Frag) : Bool := EH.tupB 85 [.str "falsum"] K
def q2 (K : PySem.W.Frag) : Bool := EH.gloB "INTERMEDIATE" 129 K
def q3 (K : PySem.W.Frag) : Bool := EH.tupB 129 [.str "Int", .str "KC", .str "LC", .str "BD2", .str "HT", .str "Cl"] K
def q4 (K : PySem.W.Frag) : Bool := EH.gloB "ElsewhereError" 24 K
def q5 (K : PySem.W.Frag) : Bool := decide (PySem.W.subIn K (.ref 24) (.type "BaseException") = some true)
def q6 (K : PySem.W.Frag) : Bool := decide (PySem.W.typeIn K (.ref 24) = some (.type "type"))
def q7 (K : PySem.W.Frag) : Bool := PySem.W.excIn K 24 [.type "ValueError", .type "Exception", .type "BaseException", .type "object"] "ValueError.__new__"
def q8 (K : PySem.W.Frag) : Bool := PySem.W.keepIn K (.ref 24)
def q9 (K : PySem.W.Frag) : Bool := PySem.W.isClsIn K 24
def q10 (K : PySem.W.Frag) : Bool := decide (PySem.W.subIn K (.ref 24) (.ref 24) = some true)
def q11 (K : PySem.W.Frag) : Bool := decide (PySem.W.findIn K (.ref 24) "__getattribute__" = some (some (.builtin "BaseException.__getattribute__")))
def q12 (K : PySem.W.Frag) : Bool := decide (PySem.W.findIn K (.ref 24) "__getattr__" = some none)
def q13 (K : PySem.W.Frag) : Bool := PySem.W.hasDictIn K 24
def q14 (K : PySem.W.Frag) : Bool := decide (PySem.W.findIn K (.ref 24) "__class__" = some (some (.builtin "object.__class__")))
def q15 (K : PySem.W.Frag) : Bool := decide (PySem.W.specialIn K (.builtin "object.__class__") "__get__" = some (some (.builtin "getset_descriptor.__get__")))
def q16 (K : PySem.W.Frag) : Bool := decide (PySem.W.takesIn K (.builtin "object.__class__") = some true)
def q17 (K : PySem.W.Frag) : Bool := decide (PySem.W.mroIn K 24 (.type "object") = some true)
def q18 (K : PySem.W.Frag) : Bool := EH.gloB "UnknownLogic" 37 K
def q19 (K : PySem.W.Frag) : Bool := decide (PySem.W.subIn K (.ref 37) (.type "BaseException") = some true)
def q20 (K : PySem.W.Frag) : Bool := decide (PySem.W.typeIn K (.ref 37) = some (.type "type"))
def q21 (K : PySem.W.Frag) : Bool := PySem.W.excIn K 37 [.type "ValueError", .type "Exception", .type "BaseException", .type "object"] "ValueError.__new__"
def q22 (K : PySem.W.Frag) : Bool := PySem.W.keepIn K (.ref 37)
def q23 (K : PySem.W.Frag) : Bool := PySem.W.isClsIn K 37
def q24 (K : PySem.W.Frag) : Bool := decide (PySem.W.subIn K (.ref 37) (.ref 37) = some true)
def q25 (K : PySem.W.Frag) : Bool := decide (PySem.W.findIn K (.ref 37) "__getattribute__" = some (some (.builtin "BaseException.__getattribute__")))
def q26 (K : PySem.W.Frag) : Bool := decide (PySem.W.findIn K (.ref 37) "__getattr__" = some none)
def q27 (K : PySem.W.Frag) : Bool := PySem.W.hasDictIn K 37
def q28 (K : PySem.W.Frag) : Bool := decide (PySem.W.findIn K (.ref 37) "__class__" = some (some (.builtin "object.__class__")))
def q29 (K : PySem.W.Frag) : Bool := decide (PySem.W.specialIn K (.builtin "object.__class__") "__get__" = some (some (.builtin "getset_descriptor.__get__")))
def q30 (K : PySem.W.Frag) : Bool := decide (PySem.W.takesIn K (.builtin "object.__class__") = some true)
def q31 (K : PySem.W.Frag) : Bool := decide (PySem.W.mroIn K 37 (.type "object") = some true)
def q32 (K : PySem.W.Frag) : Bool := EH.gloB "NoFit" 49 K
def q33 (K : PySem.W.Frag) : Bool := decide (PySem.W.subIn K (.ref 49) (.type "BaseException") = some true)
def q34 (K : PySem.W.Frag) : Bool := decide (PySem.W.typeIn K (.ref 49) = some (.type "type"))
def q35 (K : PySem.W.Frag) : Bool := PySem.W.excIn K 49 [.type "ValueError", .type "Exception", .type "BaseException", .type "object"] "ValueError.__new__"
def q36 (K : PySem.W.Frag) : Bool := PySem.W.keepIn K (.ref 49)
def q37 (K : PySem.W.Frag) : Bool := PySem.W.isClsIn K 49
def q38 (K : PySem.W.Frag) : Bool := decide (PySem.W.subIn K (.ref 49) (.ref 49) = some true)
def q39 (K : PySem.W.Frag) : Bool := decide (PySem.W.findIn K (.ref 49) "__getattribute__" = some (some (.builtin "BaseException.__getattribute__")))
def q40 (K : PySem.W.Frag) : Bool := decide (PySem.W.findIn K (.ref 49) "__getattr__" = some none)
def q41 (K : PySem.W.Frag) : Bool := PySem.W.hasDictIn K 49
def q42 (K : PySem.W.Frag) : Bool := decide (PySem.W.findIn K (.ref 49) "__class__" = some (some (.builtin "object.__class__")))
def q43 (K : PySem.W.Frag) : Bool := decide (PySem.W.specialIn K (.builtin "object.__class__") "__get__" = some (some (.builtin "getset_descriptor.__get__")))
def q44 (K : PySem.W.Frag) : Bool := decide (PySem.W.takesIn K (.builtin "object.__class__") = some true)
def q45 (K : PySem.W.Frag) : Bool := decide (PySem.W.mroIn K 49 (.type "object") = some true)
def q46 (K : PySem.W.Frag) : Bool := decide (PySem.W.kitOne K (.ref 24) (.ref 49) = some false)
def q47 (K : PySem.W.Frag) : Bool := decide (PySem.W.kitOne K (.ref 49) (.ref 49) = some true)
def q48 (K : PySem.W.Frag) : Bool := decide (PySem.W.kitOne K (.ref 37) (.ref 49) = some false)
def q49 (K : PySem.W.Frag) : Bool := decide (PySem.W.exmOne K (.ref 49) (.ref 24) = some true)
def q50 (K : PySem.W.Frag) : Bool := decide (PySem.W.exmOne K (.ref 37) (.ref 24) = some true)
def q51 (K : PySem.W.Frag) : Bool := EH.gloB "parts_of" 58 K
def q52 (K : PySem.W.Frag) : Bool := EH.gloB "distinct" 65 K
def q53 (K : PySem.W.Frag) : Bool := EH.gloB "levels_from" 70 K
def q54 (K : PySem.W.Frag) : Bool := EH.gloB "place_of" 77 K
def q55 (K : PySem.W.Frag) : Bool := EH.gloB "contains" 84 K
def q56 (K : PySem.W.Frag) : Bool := EH.gloB "is_plain" 99 K
def q57 (K : PySem.W.Frag) : Bool := EH.gloB "subformulas" 106 K
def q58 (K : PySem.W.Frag) : Bool := EH.gloB "subformulas_of" 111 K
def q59 (K : PySem.W.Frag) : Bool := EH.gloB "boxes" 121 K
def q60 (K : PySem.W.Frag) : Bool := EH.gloB "check_logic" 210 K
def q61 (K : PySem.W.Frag) : Bool := EH.gloB "sequent" 217 K
def q62 (K : PySem.W.Frag) : Bool := EH.gloB "added" 224 K
def q63 (K : PySem.W.Frag) : Bool := EH.gloB "_axiom" 231 K
def q64 (K : PySem.W.Frag) : Bool := EH.gloB "_falsum" 238 K
def q65 (K : PySem.W.Frag) : Bool := EH.gloB "_and_left" 245 K
def q66 (K : PySem.W.Frag) : Bool := EH.gloB "_and_right" 252 K
def q67 (K : PySem.W.Frag) : Bool := EH.gloB "_or_left" 259 K
def q68 (K : PySem.W.Frag) : Bool := EH.gloB "_or_right" 266 K
def q69 (K : PySem.W.Frag) : Bool := EH.gloB "_implies_left" 273 K
def q70 (K : PySem.W.Frag) : Bool := EH.gloB "_implies_right" 280 K
def q71 (K : PySem.W.Frag) : Bool := EH.gloB "_cut" 287 K
def q72 (K : PySem.W.Frag) : Bool := EH.gloB "_check_no_main" 339 K
def q73 (K : PySem.W.Frag) : Bool := EH.gloB "_parts" 346 K
def q74 (K : PySem.W.Frag) : Bool := EH.gloB "premises_of" 384 K
def q75 (K : PySem.W.Frag) : Bool := EH.gloB "_law_cell" 391 K
def q76 (K : PySem.W.Frag) : Bool := EH.gloB "_law_numbers" 398 K
def q77 (K : PySem.W.Frag) : Bool := EH.gloB "_law_formula" 405 K
def q78 (K : PySem.W.Frag) : Bool := EH.gloB "_law_goal" 410 K
def q79 (K : PySem.W.Frag) : Bool := EH.gloB "_law_logic" 417 K
def q80 (K : PySem.W.Frag) : Bool := EH.gloB "_law_add" 424 K
def q81 (K : PySem.W.Frag) : Bool := EH.gloB "_law_boxed" 448 K
def q82 (K : PySem.W.Frag) : Bool := EH.gloB "_law_logical" 455 K
def q83 (K : PySem.W.Frag) : Bool := EH.gloB "_law_special" 460 K
def q84 (K : PySem.W.Frag) : Bool := EH.gloB "_law_premises" 467 K
def q85 (K : PySem.W.Frag) : Bool := EH.gloB "law" 474 K
def q86 (K : PySem.W.Frag) : Bool := He.Fa.ok K (.free "abs")
def q87 (K : PySem.W.Frag) : Bool := He.Fa.ok K (.free "int")
def q88 (K : PySem.W.Frag) : Bool := He.Fa.ok K (.free "isinstance")
def q89 (K : PySem.W.Frag) : Bool := He.Fa.ok K (.free "len")
def q90 (K : PySem.W.Frag) : Bool := He.Fa.ok K (.free "list")
def q91 (K : PySem.W.Frag) : Bool := He.Fa.ok K (.free "range")
def q92 (K : PySem.W.Frag) : Bool := He.Fa.ok K (.free "set")
def q93 (K : PySem.W.Frag) : Bool := He.Fa.ok K (.free "sorted")
def q94 (K : PySem.W.Frag) : Bool := He.Fa.ok K (.free "tuple")
def q95 (K : PySem.W.Frag) : Bool := EH.gloB "CONDITIONS" 188 K
def q96 (K : PySem.W.Frag) : Bool := EH.tupInB K 188 "Cl" [.adr fun _ => 151, .adr fun _ => 139, .adr fun _ => 165, .adr fun _ => 187]
def q97 (K : PySem.W.Frag) : Bool := EH.tupInB K 188 "HT" [.adr fun _ => 151, .adr fun _ => 139, .adr fun _ => 165, .adr fun _ => 177, .adr fun _ => 182]
def q98 (K : PySem.W.Frag) : Bool := EH.tupInB K 188 "BD2" [.adr fun _ => 151, .adr fun _ => 139, .adr fun _ => 165, .adr fun _ => 182]
def q99 (K : PySem.W.Frag) : Bool := EH.tupInB K 188 "LC" [.adr fun _ => 151, .adr fun _ => 139, .adr fun _ => 165, .adr fun _ => 177]
def q100 (K : PySem.W.Frag) : Bool := EH.tupInB K 188 "KC" [.adr fun _ => 151, .adr fun _ => 139, .adr fun _ => 165, .adr fun _ => 170]
def q101 (K : PySem.W.Frag) : Bool := EH.tupInB K 188 "Int" [.adr fun _ => 151, .adr fun _ => 139, .adr fun _ => 165]
def q102 (K : PySem.W.Frag) : Bool := EH.tupInB K 188 "Grz" [.adr fun _ => 151, .adr fun _ => 139, .adr fun _ => 165]
def q103 (K : PySem.W.Frag) : Bool := EH.tupInB K 188 "GL" [.adr fun _ => 151, .adr fun _ => 144]
def q104 (K : PySem.W.Frag) : Bool := EH.tupInB K 188 "S5" [.adr fun _ => 151, .adr fun _ => 139, .adr fun _ => 158]
def q105 (K : PySem.W.Frag) : Bool := EH.tupInB K 188 "S4" [.adr fun _ => 151, .adr fun _ => 139]
def q106 (K : PySem.W.Frag) : Bool := EH.tupInB K 188 "D4" [.adr fun _ => 151, .adr fun _ => 134]
def q107 (K : PySem.W.Frag) : Bool := EH.tupInB K 188 "K4" [.adr fun _ => 151]
def q108 (K : PySem.W.Frag) : Bool := EH.tupInB K 188 "T" [.adr fun _ => 139]
def q109 (K : PySem.W.Frag) : Bool := EH.tupInB K 188 "D" [.adr fun _ => 134]
def q110 (K : PySem.W.Frag) : Bool := EH.tupInB K 188 "K" []
def q111 (K : PySem.W.Frag) : Bool := EH.gloB "RULES" 369 K
def q112 (K : PySem.W.Frag) : Bool := DL.flatB K 369 "two_right" (.adr fun _ => 332)
def q113 (K : PySem.W.Frag) : Bool := DL.flatB K 369 "depth_right" (.adr fun _ => 327)
def q114 (K : PySem.W.Frag) : Bool := DL.flatB K 369 "linear_right" (.adr fun _ => 320)
def q115 (K : PySem.W.Frag) : Bool := DL.flatB K 369 "weak_middle" (.adr fun _ => 315)
def q116 (K : PySem.W.Frag) : Bool := DL.flatB K 369 "serial" (.adr fun _ => 308)
def q117 (K : PySem.W.Frag) : Bool := DL.flatB K 369 "modal" (.adr fun _ => 301)
def q118 (K : PySem.W.Frag) : Bool := DL.flatB K 369 "reflexive" (.adr fun _ => 294)
def q119 (K : PySem.W.Frag) : Bool := DL.flatB K 369 "cut" (.adr fun _ => 287)
def q120 (K : PySem.W.Frag) : Bool := DL.flatB K 369 "implies_right" (.adr fun _ => 280)
def q121 (K : PySem.W.Frag) : Bool := DL.flatB K 369 "implies_left" (.adr fun _ => 273)
def q122 (K : PySem.W.Frag) : Bool := DL.flatB K 369 "or_right" (.adr fun _ => 266)
def q123 (K : PySem.W.Frag) : Bool := DL.flatB K 369 "or_left" (.adr fun _ => 259)
def q124 (K : PySem.W.Frag) : Bool := DL.flatB K 369 "and_right" (.adr fun _ => 252)
def q125 (K : PySem.W.Frag) : Bool := DL.flatB K 369 "and_left" (.adr fun _ => 245)
def q126 (K : PySem.W.Frag) : Bool := DL.flatB K 369 "falsum" (.adr fun _ => 238)
def q127 (K : PySem.W.Frag) : Bool := DL.flatB K 369 "axiom" (.adr fun _ => 231)
def q128 (K : PySem.W.Frag) : Bool := EH.gloB "LOGICS" 370 K
def q129 (K : PySem.W.Frag) : Bool := EH.tupInB K 370 "two_right" [.str "HT"]
def q130 (K : PySem.W.Frag) : Bool := EH.tupInB K 370 "depth_right" [.str "BD2"]
def q131 (K : PySem.W.Frag) : Bool := EH.tupInB K 370 "linear_right" [.str "LC"]
def q132 (K : PySem.W.Frag) : Bool := EH.tupInB K 370 "weak_middle" [.str "KC"]
def q133 (K : PySem.W.Frag) : Bool := EH.tupInB K 370 "serial" [.str "D", .str "D4"]
def q134 (K : PySem.W.Frag) : Bool := EH.tupInB K 370 "modal" [.str "K", .str "D", .str "T", .str "K4", .str "D4", .str "S4", .str "S5", .str "GL", .str "Grz"]
def q135 (K : PySem.W.Frag) : Bool := EH.tupInB K 370 "reflexive" [.str "T", .str "S4", .str "S5", .str "Grz"]
def q136 (K : PySem.W.Frag) : Bool := EH.gloB "law" 474 K
abbrev D0 : EH.Da := ⟨58, "parts_of", "parts_of", s_parts_of⟩
abbrev D1 : EH.Da := ⟨65, "distinct", "distinct", s_distinct⟩
abbrev D2 : EH.Da := ⟨70, "levels_from", "levels_from", s_levels_from⟩
abbrev D3 : EH.Da := ⟨77, "place_of", "place_of", s_place_of⟩
abbrev D4 : EH.Da := ⟨84, "contains", "contains", s_contains⟩
abbrev D5 : EH.Da := ⟨99, "is_plain", "is_plain", s_is_plain⟩
abbrev D6 : EH.Da := ⟨106, "subformulas", "subformulas", s_subformulas⟩
abbrev D7 : EH.Da := ⟨111, "subformulas_of", "subformulas_of", s_subformulas_of⟩
abbrev D8 : EH.Da := ⟨121, "boxes", "boxes", s_boxes⟩
abbrev D9 : EH.Da := ⟨210, "check_logic", "check_logic", s_check_logic⟩
abbrev D10 : EH.Da := ⟨217, "sequent", "sequent", s_sequent⟩
abbrev D11 : EH.Da := ⟨224, "added", "added", s_added⟩
abbrev D12 : EH.Da := ⟨231, "_axiom", "_axiom", s_axiom⟩
abbrev D13 : EH.Da := ⟨238, "_falsum", "_falsum", s_falsum⟩
abbrev D14 : EH.Da := ⟨245, "_and_left", "_and_left", s_and_left⟩
abbrev D15 : EH.Da := ⟨252, "_and_right", "_and_right", s_and_right⟩
abbrev D16 : EH.Da := ⟨259, "_or_left", "_or_left", s_or_left⟩
abbrev D17 : EH.Da := ⟨266, "_or_right", "_or_right", s_or_right⟩
abbrev D18 : EH.Da := ⟨273, "_implies_left", "_implies_left", s_implies_left⟩
abbrev D19 : EH.Da := ⟨280, "_implies_right", "_implies_right", s_implies_right⟩
abbrev D20 : EH.Da := ⟨287, "_cut", "_cut", s_cut⟩
abbrev D21 : EH.Da := ⟨339, "_check_no_main", "_check_no_main", s_check_no_main⟩
abbrev D22 : EH.Da := ⟨346, "_parts", "_parts", s_parts⟩
abbrev D23 : EH.Da := ⟨384, "premises_of", "premises_of", s_premises_of⟩
abbrev D24 : EH.Da := ⟨391, "_law_cell", "_law_cell", s_law_cell⟩
abbrev D25 : EH.Da := ⟨398, "_law_numbers", "_law_numbers", s_law_numbers⟩
abbrev D26 : EH.Da := ⟨405, "_law_formula", "_law_formula", s_law_formula⟩
abbrev D27 : EH.Da := ⟨410, "_law_goal", "_law_goal", s_law_goal⟩
abbrev D28 : EH.Da := ⟨417, "_law_logic", "_law_logic", s_law_logic⟩
abbrev D29 : EH.Da := ⟨424, "_law_add", "_law_add", s_law_add⟩
abbrev D30 : EH.Da := ⟨448, "_law_boxed", "_law_boxed", s_law_boxed⟩
abbrev D31 : EH.Da := ⟨455, "_law_logical", "_law_logical", s_law_logical⟩
abbrev D32 : EH.Da := ⟨460, "_law_special", "_law_special", s_law_special⟩
abbrev D33 : EH.Da := ⟨467, "_law_premises", "_law_premises", s_law_premises⟩
abbrev D34 : EH.Da := ⟨474, "law", "law", s_law⟩
def hB0 : List (PySem.W.Frag → Bool) := [q0, q1, q2, q3, q4, q5, q6, q7, q8, q9, q10, q11, q12, q13, q14, q15, q16, q17, q18, q19]
def hB1 : List (PySem.W.Frag → Bool) := [q20, q21, q22, q23, q24, q25, q26, q27, q28, q29, q30, q31, q32, q33, q34, q35, q36, q37, q38, q39]
def hB2 : List (PySem.W.Frag → Bool) := [q40, q41, q42, q43, q44, q45, q46, q47, q48, q49, q50, q51, q52, q53, q54, q55, q56, q57, q58, q59]
def hB3 : List (PySem.W.Frag → Bool) := [q60, q61, q62, q63, q64, q65, q66, q67, q68, q69, q70, q71, q72, q73, q74, q75, q76, q77, q78, q79]
def hB4 : List (PySem.W.Frag → Bool) := [q80, q81, q82, q83, q84, q85, q86, q87, q88, q89, q90, q91, q92, q93, q94, q95, q96, q97, q98, q99]
def hB5 : List (PySem.W.Frag → Bool) := [q100, q101, q102, q103, q104, q105, q106, q107, q108, q109, q110, q111, q112, q113, q114, q115, q116, q117, q118, q119]
def hB6 : List (PySem.W.Frag → Bool) := [q120, q121, q122, q123, q124, q125, q126, q127, q128, q129, q130, q131, q132, q133, q134, q135, q136]
def hB : List (PySem.W.Frag → Bool) := hB0 ++ hB1 ++ hB2 ++ hB3 ++ hB4 ++ hB5 ++ hB6
def hD0 : List EH.Da := [D0, D1, D2, D3, D4, D5, D6, D7, D8, D9, D10, D11, D12, D13, D14, D15, D16, D17, D18, D19]
def hD1 : List EH.Da := [D20, D21, D22, D23, D24, D25, D26, D27, D28, D29, D30, D31, D32, D33, D34]
def hD : List EH.Da := hD0 ++ hD1
def hT0 : List EH.TabA := [(188, ["K", "D", "T", "K4", "D4", "S4", "S5", "GL", "Grz", "Int", "KC", "LC", "BD2", "HT", "Cl"]), (369, ["axiom", "falsum", "and_left", "and_right", "or_left", "or_right", "implies_left", "implies_right", "cut", "reflexive", "modal", "serial", "weak_middle", "linear_right", "depth_right", "two_right"]), (370, ["reflexive", "modal", "serial", "weak_middle", "linear_right", "depth_right", "two_right"])]
def hT : List EH.TabA := hT0
def hA0 : List Addr := [mainGlobals, 24, 23, 22, 25, 37, 36, 35, 49, 48, 47, 58, 57, 65, 64, 70, 69, 77, 76, 84]
def hA1 : List Addr := [83, 85, 99, 98, 106, 105, 111, 110, 121, 120, 129, 188, 189, 190, 191, 192, 193, 194, 195, 196]
def hA2 : List Addr := [197, 198, 199, 200, 201, 202, 203, 134, 139, 151, 158, 144, 165, 170, 177, 182, 187, 210, 209, 217]
def hA3 : List Addr := [216, 224, 223, 231, 230, 238, 237, 245, 244, 252, 251, 259, 258, 266, 265, 273, 272, 280, 279, 287]
def hA4 : List Addr := [286, 339, 338, 346, 345, 369, 294, 301, 308, 315, 320, 327, 332, 293, 300, 307, 314, 319, 326, 331]
def hA5 : List Addr := [370, 371, 372, 373, 374, 375, 376, 377, 384, 383, 391, 390, 398, 397, 405, 404, 410, 409, 417, 416]
def hA6 : List Addr := [424, 423, 448, 447, 455, 454, 460, 459, 467, 466, 474, 473]
def hA : List Addr := hA0 ++ hA1 ++ hA2 ++ hA3 ++ hA4 ++ hA5 ++ hA6
def hN0 : List PySem.Str := ["ElsewhereError", "UnknownLogic", "NoFit", "parts_of", "distinct", "levels_from", "place_of", "contains", "FALSUM", "neg", "is_plain", "subformulas", "subformulas_of", "variables_of", "boxes", "rows_of", "INTERMEDIATE", "_serial", "serial_logics", "_reflexive"]
def hN1 : List PySem.Str := ["reflexive_logics", "_irreflexive", "_transitive", "_symmetric", "_antisymmetric", "_directed", "_linear", "_shallow", "_flat", "CONDITIONS", "check_logic", "sequent", "added", "_axiom", "_falsum", "_and_left", "_and_right", "_or_left", "_or_right", "_implies_left"]
def hN2 : List PySem.Str := ["_implies_right", "_cut", "reflexive_rules", "_modal", "serial_rules", "_weak_middle", "_linear_right", "_depth_right", "_two_right", "_check_no_main", "_parts", "_signed", "_implications", "kept", "_middles", "RULES", "LOGICS", "premises_of", "_law_cell", "_law_numbers"]
def hN3 : List PySem.Str := ["_law_formula", "_law_goal", "_law_logic", "_law_add", "_law_kept", "_law_names", "_law_middles", "_law_boxed", "_law_logical", "_law_special", "_law_premises"]
def hN : List PySem.Str := hN0 ++ hN1 ++ hN2 ++ hN3
theorem all_mk {l : PySem.W.OpenLaw} {w : World} {K : PySem.W.Frag} {h : Heap} {mg : Str → Option Value} {fa : Addr} (X : K.In h) (G : h.Ns mainGlobals mg) (hfa : mg "law" = some (.ref fa)) (c : EH.SaysA hB hD hT w K)
    : ∃ fd : FuncData, (∀ (s : Shared) (v : Value), BindsTo s fd ⟨[v], []⟩ [("script", v)]) ∧ ∀ base : Heap, K.In base → base.Ns mainGlobals mg → FnOk l.prog w K mg base CX0 66 fa fd ["script"] (spLaw K) := by
  have e := hfa.symm.trans (EH.gloB_ok X G (c.fact 136 (f := q136) rfl))
  cases e
  obtain ⟨d0, F0⟩ := c.dfn 0 (d := D0) rfl
  have F0 : Fun K "parts_of" "parts_of" s_parts_of 58 d0 := F0
  have b0 := F0.binds (ps := ["a"]) fun _ _ _ _ _ _ us hl => match us, hl with | [_], _ => rfl
  obtain ⟨d1, F1⟩ := c.dfn 1 (d := D1) rfl
  have F1 : Fun K "distinct" "distinct" s_distinct 65 d1 := F1
  have b1 := F1.binds (ps := ["rows"]) fun _ _ _ _ _ _ us hl => match us, hl with | [_], _ => rfl
  obtain ⟨d2, F2⟩ := c.dfn 2 (d := D2) rfl
  have F2 : Fun K "levels_from" "levels_from" s_levels_from 70 d2 := F2
  have b2 := F2.binds (ps := ["formulas"]) fun _ _ _ _ _ _ us hl => match us, hl with | [_], _ => rfl
  obtain ⟨d3, F3⟩ := c.dfn 3 (d := D3) rfl
  have F3 : Fun K "place_of" "place_of" s_place_of 77 d3 := F3
  have b3 := F3.binds (ps := ["rows", "row"]) fun _ _ _ _ _ _ us hl => match us, hl with | [_, _], _ => rfl
  obtain ⟨d4, F4⟩ := c.dfn 4 (d := D4) rfl
  have F4 : Fun K "contains" "contains" s_contains 84 d4 := F4
  have b4 := F4.binds (ps := ["rows", "row"]) fun _ _ _ _ _ _ us hl => match us, hl with | [_, _], _ => rfl
  obtain ⟨d5, F5⟩ := c.dfn 5 (d := D5) rfl
  have F5 : Fun K "is_plain" "is_plain" s_is_plain 99 d5 := F5
  have b5 := F5.binds (ps := ["a"]) fun _ _ _ _ _ _ us hl => match us, hl with | [_], _ => rfl
  obtain ⟨d6, F6⟩ := c.dfn 6 (d := D6) rfl
  have F6 : Fun K "subformulas" "subformulas" s_subformulas 106 d6 := F6
  have b6 := F6.binds (ps := ["a"]) fun _ _ _ _ _ _ us hl => match us, hl with | [_], _ => rfl
  obtain ⟨d7, F7⟩ := c.dfn 7 (d := D7) rfl
  have F7 : Fun K "subformulas_of" "subformulas_of" s_subformulas_of 111 d7 := F7
  have b7 := F7.binds (ps := ["formulas"]) fun _ _ _ _ _ _ us hl => match us, hl with | [_], _ => rfl
  obtain ⟨d8, F8⟩ := c.dfn 8 (d := D8) rfl
  have F8 : Fun K "boxes" "boxes" s_boxes 121 d8 := F8
  have b8 := F8.binds (ps := ["a"]) fun _ _ _ _ _ _ us hl => match us, hl with | [_], _ => rfl
  obtain ⟨d9, F9⟩ := c.dfn 9 (d := D9) rfl
  have F9 : Fun K "check_logic" "check_logic" s_check_logic 210 d9 := F9
  have b9 := F9.binds (ps := ["logic"]) fun _ _ _ _ _ _ us hl => match us, hl with | [_], _ => rfl
  obtain ⟨d10, F10⟩ := c.dfn 10 (d := D10) rfl
  have F10 : Fun K "sequent" "sequent" s_sequent 217 d10 := F10
  have b10 := F10.binds (ps := ["left", "right"]) fun _ _ _ _ _ _ us hl => match us, hl with | [_, _], _ => rfl
  obtain ⟨d11, F11⟩ := c.dfn 11 (d := D11) rfl
  have F11 : Fun K "added" "added" s_added 224 d11 := F11
  have b11 := F11.binds (ps := ["side", "formulas"]) fun _ _ _ _ _ _ us hl => match us, hl with | [_, _], _ => rfl
  obtain ⟨d12, F12⟩ := c.dfn 12 (d := D12) rfl
  have F12 : Fun K "_axiom" "_axiom" s_axiom 231 d12 := F12
  have b12 := F12.binds (ps := ["logic", "left", "right", "main"]) fun _ _ _ _ _ _ us hl => match us, hl with | [_, _, _, _], _ => rfl
  obtain ⟨d13, F13⟩ := c.dfn 13 (d := D13) rfl
  have F13 : Fun K "_falsum" "_falsum" s_falsum 238 d13 := F13
  have b13 := F13.binds (ps := ["logic", "left", "right", "main"]) fun _ _ _ _ _ _ us hl => match us, hl with | [_, _, _, _], _ => rfl
  obtain ⟨d14, F14⟩ := c.dfn 14 (d := D14) rfl
  have F14 : Fun K "_and_left" "_and_left" s_and_left 245 d14 := F14
  have b14 := F14.binds (ps := ["logic", "left", "right", "main"]) fun _ _ _ _ _ _ us hl => match us, hl with | [_, _, _, _], _ => rfl
  obtain ⟨d15, F15⟩ := c.dfn 15 (d := D15) rfl
  have F15 : Fun K "_and_right" "_and_right" s_and_right 252 d15 := F15
  have b15 := F15.binds (ps := ["logic", "left", "right", "main"]) fun _ _ _ _ _ _ us hl => match us, hl with | [_, _, _, _], _ => rfl
  obtain ⟨d16, F16⟩ := c.dfn 16 (d := D16) rfl
  have F16 : Fun K "_or_left" "_or_left" s_or_left 259 d16 := F16
  have b16 := F16.binds (ps := ["logic", "left", "right", "main"]) fun _ _ _ _ _ _ us hl => match us, hl with | [_, _, _, _], _ => rfl
  obtain ⟨d17, F17⟩ := c.dfn 17 (d := D17) rfl
  have F17 : Fun K "_or_right" "_or_right" s_or_right 266 d17 := F17
  have b17 := F17.binds (ps := ["logic", "left", "right", "main"]) fun _ _ _ _ _ _ us hl => match us, hl with | [_, _, _, _], _ => rfl
  obtain ⟨d18, F18⟩ := c.dfn 18 (d := D18) rfl
  have F18 : Fun K "_implies_left" "_implies_left" s_implies_left 273 d18 := F18
  have b18 := F18.binds (ps := ["logic", "left", "right", "main"]) fun _ _ _ _ _ _ us hl => match us, hl with | [_, _, _, _], _ => rfl
  obtain ⟨d19, F19⟩ := c.dfn 19 (d := D19) rfl
  have F19 : Fun K "_implies_right" "_implies_right" s_implies_right 280 d19 := F19
  have b19 := F19.binds (ps := ["logic", "left", "right", "main"]) fun _ _ _ _ _ _ us hl => match us, hl with | [_, _, _, _], _ => rfl
  obtain ⟨d20, F20⟩ := c.dfn 20 (d := D20) rfl
  have F20 : Fun K "_cut" "_cut" s_cut 287 d20 := F20
  have b20 := F20.binds (ps := ["logic", "left", "right", "main"]) fun _ _ _ _ _ _ us hl => match us, hl with | [_, _, _, _], _ => rfl
  obtain ⟨d21, F21⟩ := c.dfn 21 (d := D21) rfl
  have F21 : Fun K "_check_no_main" "_check_no_main" s_check_no_main 339 d21 := F21
  have b21 := F21.binds (ps := ["main"]) fun _ _ _ _ _ _ us hl => match us, hl with | [_], _ => rfl
  obtain ⟨d22, F22⟩ := c.dfn 22 (d := D22) rfl
  have F22 : Fun K "_parts" "_parts" s_parts 346 d22 := F22
  have b22 := F22.binds (ps := ["sign", "main", "side"]) fun _ _ _ _ _ _ us hl => match us, hl with | [_, _, _], _ => rfl
  obtain ⟨d23, F23⟩ := c.dfn 23 (d := D23) rfl
  have F23 : Fun K "premises_of" "premises_of" s_premises_of 384 d23 := F23
  have b23 := F23.binds (ps := ["logic", "rule", "conclusion", "main"]) fun _ _ _ _ _ _ us hl => match us, hl with | [_, _, _, _], _ => rfl
  obtain ⟨d24, F24⟩ := c.dfn 24 (d := D24) rfl
  have F24 : Fun K "_law_cell" "_law_cell" s_law_cell 391 d24 := F24
  have b24 := F24.binds (ps := ["script", "k"]) fun _ _ _ _ _ _ us hl => match us, hl with | [_, _], _ => rfl
  obtain ⟨d25, F25⟩ := c.dfn 25 (d := D25) rfl
  have F25 : Fun K "_law_numbers" "_law_numbers" s_law_numbers 398 d25 := F25
  have b25 := F25.binds (ps := ["script", "first", "most"]) fun _ _ _ _ _ _ us hl => match us, hl with | [_, _, _], _ => rfl
  obtain ⟨d26, F26⟩ := c.dfn 26 (d := D26) rfl
  have F26 : Fun K "_law_formula" "_law_formula" s_law_formula 405 d26 := F26
  have b26 := F26.binds (ps := ["pool", "depth", "plain"]) fun _ _ _ _ _ _ us hl => match us, hl with | [_, _, _], _ => rfl
  obtain ⟨d27, F27⟩ := c.dfn 27 (d := D27) rfl
  have F27 : Fun K "_law_goal" "_law_goal" s_law_goal 410 d27 := F27
  have b27 := F27.binds (ps := ["pool", "most", "plain"]) fun _ _ _ _ _ _ us hl => match us, hl with | [_, _, _], _ => rfl
  obtain ⟨d28, F28⟩ := c.dfn 28 (d := D28) rfl
  have F28 : Fun K "_law_logic" "_law_logic" s_law_logic 417 d28 := F28
  have b28 := F28.binds (ps := ["number", "plain"]) fun _ _ _ _ _ _ us hl => match us, hl with | [_, _], _ => rfl
  obtain ⟨d29, F29⟩ := c.dfn 29 (d := D29) rfl
  have F29 : Fun K "_law_add" "_law_add" s_law_add 424 d29 := F29
  have b29 := F29.binds (ps := ["side", "formulas"]) fun _ _ _ _ _ _ us hl => match us, hl with | [_, _], _ => rfl
  obtain ⟨d30, F30⟩ := c.dfn 30 (d := D30) rfl
  have F30 : Fun K "_law_boxed" "_law_boxed" s_law_boxed 448 d30 := F30
  have b30 := F30.binds (ps := ["a"]) fun _ _ _ _ _ _ us hl => match us, hl with | [_], _ => rfl
  obtain ⟨d31, F31⟩ := c.dfn 31 (d := D31) rfl
  have F31 : Fun K "_law_logical" "_law_logical" s_law_logical 455 d31 := F31
  have b31 := F31.binds (ps := ["logic", "rule", "goal", "m"]) fun _ _ _ _ _ _ us hl => match us, hl with | [_, _, _, _], _ => rfl
  obtain ⟨d32, F32⟩ := c.dfn 32 (d := D32) rfl
  have F32 : Fun K "_law_special" "_law_special" s_law_special 460 d32 := F32
  have b32 := F32.binds (ps := ["logic", "rule", "goal", "m"]) fun _ _ _ _ _ _ us hl => match us, hl with | [_, _, _, _], _ => rfl
  obtain ⟨d33, F33⟩ := c.dfn 33 (d := D33) rfl
  have F33 : Fun K "_law_premises" "_law_premises" s_law_premises 467 d33 := F33
  have b33 := F33.binds (ps := ["logic", "rule", "goal", "m"]) fun _ _ _ _ _ _ us hl => match us, hl with | [_, _, _, _], _ => rfl
  obtain ⟨d34, F34⟩ := c.dfn 34 (d := D34) rfl
  have F34 : Fun K "law" "law" s_law 474 d34 := F34
  have b34 := F34.binds (ps := ["script"]) fun _ _ _ _ _ _ us hl => match us, hl with | [_], _ => rfl
  let T : Top w K mg := ⟨85, EH.gloB_ok X G (c.fact 0 (f := q0) rfl), fun H => EH.tupB_ok (c.fact 1 (f := q1) rfl) H, 129, EH.gloB_ok X G (c.fact 2 (f := q2) rfl), fun H => EH.tupB_ok (c.fact 3 (f := q3) rfl) H, 24, EH.gloB_ok X G (c.fact 4 (f := q4) rfl), (c.fact 7 (f := q7) rfl), (c.fact 8 (f := q8) rfl), of_decide_eq_true (c.fact 5 (f := q5) rfl), of_decide_eq_true (c.fact 6 (f := q6) rfl), exm_self (of_decide_eq_true (c.fact 5 (f := q5) rfl)) (c.fact 9 (f := q9) rfl) (of_decide_eq_true (c.fact 6 (f := q6) rfl)) (of_decide_eq_true (c.fact 10 (f := q10) rfl)), ⟨of_decide_eq_true (c.fact 11 (f := q11) rfl), of_decide_eq_true (c.fact 12 (f := q12) rfl), of_decide_eq_true (c.fact 5 (f := q5) rfl), (c.fact 13 (f := q13) rfl), of_decide_eq_true (c.fact 14 (f := q14) rfl), of_decide_eq_true (c.fact 15 (f := q15) rfl), of_decide_eq_true (c.fact 16 (f := q16) rfl), of_decide_eq_true (c.fact 17 (f := q17) rfl)⟩, 37, EH.gloB_ok X G (c.fact 18 (f := q18) rfl), (c.fact 21 (f := q21) rfl), (c.fact 22 (f := q22) rfl), of_decide_eq_true (c.fact 19 (f := q19) rfl), of_decide_eq_true (c.fact 20 (f := q20) rfl), exm_self (of_decide_eq_true (c.fact 19 (f := q19) rfl)) (c.fact 23 (f := q23) rfl) (of_decide_eq_true (c.fact 20 (f := q20) rfl)) (of_decide_eq_true (c.fact 24 (f := q24) rfl)), ⟨of_decide_eq_true (c.fact 25 (f := q25) rfl), of_decide_eq_true (c.fact 26 (f := q26) rfl), of_decide_eq_true (c.fact 19 (f := q19) rfl), (c.fact 27 (f := q27) rfl), of_decide_eq_true (c.fact 28 (f := q28) rfl), of_decide_eq_true (c.fact 29 (f := q29) rfl), of_decide_eq_true (c.fact 30 (f := q30) rfl), of_decide_eq_true (c.fact 31 (f := q31) rfl)⟩, 49, EH.gloB_ok X G (c.fact 32 (f := q32) rfl), (c.fact 35 (f := q35) rfl), (c.fact 36 (f := q36) rfl), of_decide_eq_true (c.fact 33 (f := q33) rfl), of_decide_eq_true (c.fact 34 (f := q34) rfl), exm_self (of_decide_eq_true (c.fact 33 (f := q33) rfl)) (c.fact 37 (f := q37) rfl) (of_decide_eq_true (c.fact 34 (f := q34) rfl)) (of_decide_eq_true (c.fact 38 (f := q38) rfl)), ⟨of_decide_eq_true (c.fact 39 (f := q39) rfl), of_decide_eq_true (c.fact 40 (f := q40) rfl), of_decide_eq_true (c.fact 33 (f := q33) rfl), (c.fact 41 (f := q41) rfl), of_decide_eq_true (c.fact 42 (f := q42) rfl), of_decide_eq_true (c.fact 43 (f := q43) rfl), of_decide_eq_true (c.fact 44 (f := q44) rfl), of_decide_eq_true (c.fact 45 (f := q45) rfl)⟩, of_decide_eq_true (c.fact 46 (f := q46) rfl), of_decide_eq_true (c.fact 47 (f := q47) rfl), of_decide_eq_true (c.fact 48 (f := q48) rfl), of_decide_eq_true (c.fact 49 (f := q49) rfl), of_decide_eq_true (c.fact 50 (f := q50) rfl), 58, d0, F0, b0, EH.gloB_ok X G (c.fact 51 (f := q51) rfl), 65, d1, F1, b1, EH.gloB_ok X G (c.fact 52 (f := q52) rfl), 70, d2, F2, b2, EH.gloB_ok X G (c.fact 53 (f := q53) rfl), 77, d3, F3, b3, EH.gloB_ok X G (c.fact 54 (f := q54) rfl), 84, d4, F4, b4, EH.gloB_ok X G (c.fact 55 (f := q55) rfl), 99, d5, F5, b5, EH.gloB_ok X G (c.fact 56 (f := q56) rfl), 106, d6, F6, b6, EH.gloB_ok X G (c.fact 57 (f := q57) rfl), 111, d7, F7, b7, EH.gloB_ok X G (c.fact 58 (f := q58) rfl), 121, d8, F8, b8, EH.gloB_ok X G (c.fact 59 (f := q59) rfl), 210, d9, F9, b9, EH.gloB_ok X G (c.fact 60 (f := q60) rfl), 217, d10, F10, b10, EH.gloB_ok X G (c.fact 61 (f := q61) rfl), 224, d11, F11, b11, EH.gloB_ok X G (c.fact 62 (f := q62) rfl), 231, d12, F12, b12, EH.gloB_ok X G (c.fact 63 (f := q63) rfl), 238, d13, F13, b13, EH.gloB_ok X G (c.fact 64 (f := q64) rfl), 245, d14, F14, b14, EH.gloB_ok X G (c.fact 65 (f := q65) rfl), 252, d15, F15, b15, EH.gloB_ok X G (c.fact 66 (f := q66) rfl), 259, d16, F16, b16, EH.gloB_ok X G (c.fact 67 (f := q67) rfl), 266, d17, F17, b17, EH.gloB_ok X G (c.fact 68 (f := q68) rfl), 273, d18, F18, b18, EH.gloB_ok X G (c.fact 69 (f := q69) rfl), 280, d19, F19, b19, EH.gloB_ok X G (c.fact 70 (f := q70) rfl), 287, d20, F20, b20, EH.gloB_ok X G (c.fact 71 (f := q71) rfl), 339, d21, F21, b21, EH.gloB_ok X G (c.fact 72 (f := q72) rfl), 346, d22, F22, b22, EH.gloB_ok X G (c.fact 73 (f := q73) rfl), 384, d23, F23, b23, EH.gloB_ok X G (c.fact 74 (f := q74) rfl), 391, d24, F24, b24, EH.gloB_ok X G (c.fact 75 (f := q75) rfl), 398, d25, F25, b25, EH.gloB_ok X G (c.fact 76 (f := q76) rfl), 405, d26, F26, b26, EH.gloB_ok X G (c.fact 77 (f := q77) rfl), 410, d27, F27, b27, EH.gloB_ok X G (c.fact 78 (f := q78) rfl), 417, d28, F28, b28, EH.gloB_ok X G (c.fact 79 (f := q79) rfl), 424, d29, F29, b29, EH.gloB_ok X G (c.fact 80 (f := q80) rfl), 448, d30, F30, b30, EH.gloB_ok X G (c.fact 81 (f := q81) rfl), 455, d31, F31, b31, EH.gloB_ok X G (c.fact 82 (f := q82) rfl), 460, d32, F32, b32, EH.gloB_ok X G (c.fact 83 (f := q83) rfl), 467, d33, F33, b33, EH.gloB_ok X G (c.fact 84 (f := q84) rfl), 474, d34, F34, b34, EH.gloB_ok X G (c.fact 85 (f := q85) rfl), He.free_ok X G (c.fact 86 (f := q86) rfl), He.free_ok X G (c.fact 87 (f := q87) rfl), He.free_ok X G (c.fact 88 (f := q88) rfl), He.free_ok X G (c.fact 89 (f := q89) rfl), He.free_ok X G (c.fact 90 (f := q90) rfl), He.free_ok X G (c.fact 91 (f := q91) rfl), He.free_ok X G (c.fact 92 (f := q92) rfl), He.free_ok X G (c.fact 93 (f := q93) rfl), He.free_ok X G (c.fact 94 (f := q94) rfl), 188, EH.gloB_ok X G (c.fact 95 (f := q95) rfl), DL.tab_of (c.tab 0 rfl) (DL.tv_tup (vs := []) (c.fact 110 (f := q110) rfl) (fun _ => .nil) (by first | rfl | decide +kernel) (DL.tv_tup (vs := [.adr fun _ => 134]) (c.fact 109 (f := q109) rfl) (fun _ => (.cons (.raw _) .nil)) (by first | rfl | decide +kernel) (DL.tv_tup (vs := [.adr fun _ => 139]) (c.fact 108 (f := q108) rfl) (fun _ => (.cons (.raw _) .nil)) (by first | rfl | decide +kernel) (DL.tv_tup (vs := [.adr fun _ => 151]) (c.fact 107 (f := q107) rfl) (fun _ => (.cons (.raw _) .nil)) (by first | rfl | decide +kernel) (DL.tv_tup (vs := [.adr fun _ => 151, .adr fun _ => 134]) (c.fact 106 (f := q106) rfl) (fun _ => (.cons (.raw _) (.cons (.raw _) .nil))) (by first | rfl | decide +kernel) (DL.tv_tup (vs := [.adr fun _ => 151, .adr fun _ => 139]) (c.fact 105 (f := q105) rfl) (fun _ => (.cons (.raw _) (.cons (.raw _) .nil))) (by first | rfl | decide +kernel) (DL.tv_tup (vs := [.adr fun _ => 151, .adr fun _ => 139, .adr fun _ => 158]) (c.fact 104 (f := q104) rfl) (fun _ => (.cons (.raw _) (.cons (.raw _) (.cons (.raw _) .nil)))) (by first | rfl | decide +kernel) (DL.tv_tup (vs := [.adr fun _ => 151, .adr fun _ => 144]) (c.fact 103 (f := q103) rfl) (fun _ => (.cons (.raw _) (.cons (.raw _) .nil))) (by first | rfl | decide +kernel) (DL.tv_tup (vs := [.adr fun _ => 151, .adr fun _ => 139, .adr fun _ => 165]) (c.fact 102 (f := q102) rfl) (fun _ => (.cons (.raw _) (.cons (.raw _) (.cons (.raw _) .nil)))) (by first | rfl | decide +kernel) (DL.tv_tup (vs := [.adr fun _ => 151, .adr fun _ => 139, .adr fun _ => 165]) (c.fact 101 (f := q101) rfl) (fun _ => (.cons (.raw _) (.cons (.raw _) (.cons (.raw _) .nil)))) (by first | rfl | decide +kernel) (DL.tv_tup (vs := [.adr fun _ => 151, .adr fun _ => 139, .adr fun _ => 165, .adr fun _ => 170]) (c.fact 100 (f := q100) rfl) (fun _ => (.cons (.raw _) (.cons (.raw _) (.cons (.raw _) (.cons (.raw _) .nil))))) (by first | rfl | decide +kernel) (DL.tv_tup (vs := [.adr fun _ => 151, .adr fun _ => 139, .adr fun _ => 165, .adr fun _ => 177]) (c.fact 99 (f := q99) rfl) (fun _ => (.cons (.raw _) (.cons (.raw _) (.cons (.raw _) (.cons (.raw _) .nil))))) (by first | rfl | decide +kernel) (DL.tv_tup (vs := [.adr fun _ => 151, .adr fun _ => 139, .adr fun _ => 165, .adr fun _ => 182]) (c.fact 98 (f := q98) rfl) (fun _ => (.cons (.raw _) (.cons (.raw _) (.cons (.raw _) (.cons (.raw _) .nil))))) (by first | rfl | decide +kernel) (DL.tv_tup (vs := [.adr fun _ => 151, .adr fun _ => 139, .adr fun _ => 165, .adr fun _ => 177, .adr fun _ => 182]) (c.fact 97 (f := q97) rfl) (fun _ => (.cons (.raw _) (.cons (.raw _) (.cons (.raw _) (.cons (.raw _) (.cons (.raw _) .nil)))))) (by first | rfl | decide +kernel) (DL.tv_tup (vs := [.adr fun _ => 151, .adr fun _ => 139, .adr fun _ => 165, .adr fun _ => 187]) (c.fact 96 (f := q96) rfl) (fun _ => (.cons (.raw _) (.cons (.raw _) (.cons (.raw _) (.cons (.raw _) .nil))))) (by first | rfl | decide +kernel) (trivial)))))))))))))))), 369, EH.gloB_ok X G (c.fact 111 (f := q111) rfl), DL.tab_of (c.tab 1 rfl) (DL.tv_flat (dv := .adr fun _ => 231) (c.fact 127 (f := q127) rfl) (fun _ => .raw _) (DL.tv_flat (dv := .adr fun _ => 238) (c.fact 126 (f := q126) rfl) (fun _ => .raw _) (DL.tv_flat (dv := .adr fun _ => 245) (c.fact 125 (f := q125) rfl) (fun _ => .raw _) (DL.tv_flat (dv := .adr fun _ => 252) (c.fact 124 (f := q124) rfl) (fun _ => .raw _) (DL.tv_flat (dv := .adr fun _ => 259) (c.fact 123 (f := q123) rfl) (fun _ => .raw _) (DL.tv_flat (dv := .adr fun _ => 266) (c.fact 122 (f := q122) rfl) (fun _ => .raw _) (DL.tv_flat (dv := .adr fun _ => 273) (c.fact 121 (f := q121) rfl) (fun _ => .raw _) (DL.tv_flat (dv := .adr fun _ => 280) (c.fact 120 (f := q120) rfl) (fun _ => .raw _) (DL.tv_flat (dv := .adr fun _ => 287) (c.fact 119 (f := q119) rfl) (fun _ => .raw _) (DL.tv_flat (dv := .adr fun _ => 294) (c.fact 118 (f := q118) rfl) (fun _ => .raw _) (DL.tv_flat (dv := .adr fun _ => 301) (c.fact 117 (f := q117) rfl) (fun _ => .raw _) (DL.tv_flat (dv := .adr fun _ => 308) (c.fact 116 (f := q116) rfl) (fun _ => .raw _) (DL.tv_flat (dv := .adr fun _ => 315) (c.fact 115 (f := q115) rfl) (fun _ => .raw _) (DL.tv_flat (dv := .adr fun _ => 320) (c.fact 114 (f := q114) rfl) (fun _ => .raw _) (DL.tv_flat (dv := .adr fun _ => 327) (c.fact 113 (f := q113) rfl) (fun _ => .raw _) (DL.tv_flat (dv := .adr fun _ => 332) (c.fact 112 (f := q112) rfl) (fun _ => .raw _) (trivial))))))))))))))))), 370, EH.gloB_ok X G (c.fact 128 (f := q128) rfl), DL.tab_of (c.tab 2 rfl) (DL.tv_tup (vs := [.str "T", .str "S4", .str "S5", .str "Grz"]) (c.fact 135 (f := q135) rfl) (fun _ => (.cons (.str _) (.cons (.str _) (.cons (.str _) (.cons (.str _) .nil))))) (by first | rfl | decide +kernel) (DL.tv_tup (vs := [.str "K", .str "D", .str "T", .str "K4", .str "D4", .str "S4", .str "S5", .str "GL", .str "Grz"]) (c.fact 134 (f := q134) rfl) (fun _ => (.cons (.str _) (.cons (.str _) (.cons (.str _) (.cons (.str _) (.cons (.str _) (.cons (.str _) (.cons (.str _) (.cons (.str _) (.cons (.str _) .nil)))))))))) (by first | rfl | decide +kernel) (DL.tv_tup (vs := [.str "D", .str "D4"]) (c.fact 133 (f := q133) rfl) (fun _ => (.cons (.str _) (.cons (.str _) .nil))) (by first | rfl | decide +kernel) (DL.tv_tup (vs := [.str "KC"]) (c.fact 132 (f := q132) rfl) (fun _ => (.cons (.str _) .nil)) (by first | rfl | decide +kernel) (DL.tv_tup (vs := [.str "LC"]) (c.fact 131 (f := q131) rfl) (fun _ => (.cons (.str _) .nil)) (by first | rfl | decide +kernel) (DL.tv_tup (vs := [.str "BD2"]) (c.fact 130 (f := q130) rfl) (fun _ => (.cons (.str _) .nil)) (by first | rfl | decide +kernel) (DL.tv_tup (vs := [.str "HT"]) (c.fact 129 (f := q129) rfl) (fun _ => (.cons (.str _) .nil)) (by first | rfl | decide +kernel) (trivial))))))))⟩
  have bb := EH.bindsA (ps := ["script"]) F34 fun _ _ _ _ _ _ us hl => match us, hl with | [_], _ => rfl
  exact ⟨_, fun s v => bb s [v] rfl, fun base _ _ => ok_law T⟩
abbrev hR : PySem.W.OpenRow := PySem.W.OpenLaw.row PySem.Challenge.rw_elsewhere_k29_premises_of_logical_rules
abbrev hH : PySem.W.Hook := EH.hookA hA hB hD hT
def hO (s : PySem.W.SharedT) : EH.Al := EH.obsAG hA hB hD hT (HandSHeadRun.getT s)
theorem hO_eq (s : PySem.W.SharedT) : hO s = hH.obs s.abs := EH.obsAG_eq (HandSHeadRun.getT_eq s)
theorem hrunF (w : World) : HandSHeadRun.RunEq hR (PySem.W.view hR.prog [81]) hH hO 20000 hN (w.withFollow "special-get-raises" false) := by
  intro os
  kernel_rfl
theorem hrunT (w : World) : HandSHeadRun.RunEq hR (PySem.W.view hR.prog [81]) hH hO 20000 hN (w.withFollow "special-get-raises" true) := by
  intro os
  kernel_rfl
theorem hrun (w : World) : HandSHeadRun.RunEq hR (PySem.W.view hR.prog [81]) hH hO 20000 hN w := PySem.W.byRow2 "special-get-raises" (P := fun w => HandSHeadRun.RunEq hR (PySem.W.view hR.prog [81]) hH hO 20000 hN w) hrunF hrunT w
end E
open PySem PySem.W PySem.Calls PyProof.Rows
set_option maxRecDepth 100000 in
set_option maxHeartbeats 0 in
theorem PySem.Challenge.cw_elsewhere_k29_premises_of_logical_rules_holds : PySem.Challenge.rw_elsewhere_k29_premises_of_logical_rules.Holds := by
  w_on; o_law
  refine HandSHeadRun.head_any (r := OpenLaw.row PySem.Challenge.rw_elsewhere_k29_premises_of_logical_rules) (q := view (OpenLaw.row PySem.Challenge.rw_elsewhere_k29_premises_of_logical_rules).prog [81]) (H := E.hH) (ob := E.hO) (M := 20000) (loose := E.hN) (d := HandSHeadRun.topDef (OpenLaw.row PySem.Challenge.rw_elsewhere_k29_premises_of_logical_rules).prog 81) (kwd := []) E.hO_eq
    (by kernel_rfl) (fun s => by kernel_rfl) E.hrun (by kernel_rfl) (by kernel_rfl) (by kernel_rfl) (by rfl) (by first | assumption | decide +kernel) (by decide +kernel) ⟨rfl, rfl, rfl, rfl, rfl, by decide +kernel⟩ ?hw ?hc
  case hw => w_witness2
  case hc =>
    refine L2.walk_ofE (l := PySem.Challenge.rw_elsewhere_k29_premises_of_logical_rules) (n := 63) (k := 66) (x := "script") (CX := L2.CX0) rfl (by decide) (by kernel_rfl) ⟨rfl, by decide, by decide⟩ ?F (fun _ _ _ _ z => z)
    intro w mg fa h Y G hmg0
    obtain ⟨K, KX, c⟩ := Y
    have hmg : mg ("law" : PySem.Str) = some (.ref fa) := by
      have e : (HandSHeadRun.topDef (OpenLaw.row PySem.Challenge.rw_elsewhere_k29_premises_of_logical_rules).prog 81).name = ("law" : PySem.Str) := by kernel_rfl
      rw [← e]
      exact hmg0
    obtain ⟨fd, hb, hF⟩ := E.all_mk (l := PySem.Challenge.rw_elsewhere_k29_premises_of_logical_rules) KX G hmg c
    exact ⟨K, fd, E.spLaw K, KX, hb, fun H a ns hl _ hS => ⟨a, ns, rfl, hS, hl, fun _ => rfl⟩, hF⟩

