import PyProof.Rows.All
import Wide.All
import OpenK.AllK
import Wide.FinOn
import HandS.ForMost
import HandS.IsInst
import HandS.Steps
import HandS.TupAny
import HandS.Codes
import KE.LtData
import KE.SortData
import KE.SortLaws
import PyProof.StrOps
import KE.SortCalls
import KE.DatumOrd
import HandS.DeepEq
import HandS.SetFor
import HandS.Strs
import HandS.ExcOwn
import HandS.ExcIs
import HandS.RaiseMore
import HandS.FStr
import HandS.CallLocal
import HandS.Nested
import HandS.WordsExc
import HandS.NestedK
import HandS.HeadHook4
import HandS.EndTab
import HandS.TryElse
import HandS.TupSets
import HandS.SetKeys
import HandS.DictComp
import HandS.Conv
import HandS.Walk
import HandS.Star
import HandS.Rev
import HandS.Flow
import HandS.CallSlots
import HandS.TupLen
import PySem.Challenge.RW_elsewhere_k62_forcing_is_truth_of_transl
set_option Elab.async false
set_option linter.all false
set_option maxRecDepth 100000
namespace E
open PySem PySem.Spec PyProof.Rows L2
/-! ### heaps: what a step keeps -/
/-- tuples stay -/
def TS (H H' : Hp) : Prop := (∀ b xs, Rd H b (.tup xs) → Rd H' b (.tup xs)) ∧ ∀ b xs, H b = some (.tup xs) → H' b = some (.tup xs)
theorem TS.refl (H : Hp) : TS H H := ⟨fun _ _ h => h, fun _ _ h => h⟩
/-- one object, no tuple, is changed -/
theorem TS.but {H H' : Hp} {d : Addr} {u : HO} (hd : H d = some u) (h1 : ∀ xs, u ≠ .tup xs) (h2 : ∀ o xs, u ≠ .frz o (.tup xs)) (k : ∀ c o, H c = some o → c ≠ d → H' c = some o) : TS H H' := by
  have n1 : ∀ c xs, H c = some (.tup xs) → c ≠ d := fun c xs r e => by
    rw [e, hd] at r
    exact h1 xs (Option.some.inj r)
  have n2 : ∀ c o xs, H c = some (.frz o (.tup xs)) → c ≠ d := fun c o xs r e => by
    rw [e, hd] at r
    exact h2 o xs (Option.some.inj r)
  refine ⟨fun c xs r => ?_, fun c xs r => k _ _ r (n1 _ _ r)⟩
  rcases r with r | ⟨o, r⟩
  · exact .inl (k _ _ r (n1 _ _ r))
  · exact .inr ⟨o, k _ _ r (n2 _ _ _ r)⟩
theorem TS.trans {H H1 H2 : Hp} (a : TS H H1) (b : TS H1 H2) : TS H H2 := ⟨fun c xs h => b.1 c xs (a.1 c xs h), fun c xs h => b.2 c xs (a.2 c xs h)⟩
/-- all but the object at p stays -/
def Kp (p : Addr) (H H' : Hp) : Prop := ∀ b o, H b = some o → b ≠ p → H' b = some o
theorem Kp.refl (p : Addr) (H : Hp) : Kp p H H := fun _ _ h _ => h
theorem Kp.trans {p : Addr} {H H1 H2 : Hp} (a : Kp p H H1) (b : Kp p H1 H2) : Kp p H H2 := fun c o h n => b c o (a c o h n) n
theorem Kp.upd {p : Addr} {H : Hp} {o : HO} : Kp p H (upd H p o) := fun b u h n => by rw [upd_ne n]; exact h
theorem Kp.new {p q : Addr} {H : Hp} {o : HO} (h : H q = none) : Kp p H (L2.upd H q o) := fun b u e _ => by rw [upd_ne (ne_of_none e h)]; exact e
theorem same_new {q : Addr} {H : Hp} {o : HO} (h : H q = none) : Same H (upd H q o) := fun b u e => by rw [upd_ne (ne_of_none e h)]; exact e
theorem Same.kp {p : Addr} {H H' : Hp} (s : Same H H') : Kp p H H' := fun b o h _ => s b o h
theorem Same.ts {H H' : Hp} (s : Same H H') : TS H H' := ⟨fun b xs h => by
  rcases h with h | ⟨o, h⟩
  · exact .inl (s _ _ h)
  · exact .inr ⟨o, s _ _ h⟩, fun b xs h => s _ _ h⟩
theorem Kp.rd {p a : Addr} {H H' : Hp} {u : HO} (k : Kp p H H') (h : Rd H a u) (n : a ≠ p) : Rd H' a u := by
  rcases h with h | ⟨o, h⟩
  · exact .inl (k _ _ h n)
  · exact .inr ⟨o, k _ _ h n⟩
theorem Kp.sqL {K : PySem.W.Frag} {p a : Addr} {H H' : Hp} {xs : List V} (k : Kp p H H') (h : SqL K H a xs) (n : a ≠ p) : SqL K H' a xs := by
  rcases h with h | h
  · exact .inl (k.rd h n)
  · exact .inr h
/-- p holds a list: tuples stay -/
theorem Kp.ts {p : Addr} {H H' : Hp} {xs : List V} (k : Kp p H H') (h : H p = some (.lst xs)) : TS H H' := TS.but h (fun _ e => nomatch e) (fun _ _ e => nomatch e) k
/-- what is new for H' was new for H -/
theorem Kp.free {p q : Addr} {H H' : Hp} {o : HO} (k : Kp p H H') (hp : H p = some o) (hp' : ∃ o, H' p = some o) (h : H' q = none) : H q = none := by
  cases e : H q with
  | none => rfl
  | some u =>
    have n : q ≠ p := fun z => by
      subst z
      obtain ⟨o', h'⟩ := hp'
      rw [h] at h'; cases h'
    rw [k q u e n] at h; cases h
theorem TS.sqT {K : PySem.W.Frag} {a : Addr} {H H' : Hp} {xs : List V} (k : TS H H') (h : SqT K H a xs) : SqT K H' a xs := by
  rcases h with h | h
  · exact .inl (k.1 _ _ h)
  · exact .inr h
/-! ### data without lists -/
mutual
inductive Im (K : PySem.W.Frag) (H : Hp) : V → PyData → Prop
  | non : Im K H .non .none
  | bl (b : Bool) : Im K H (.bl b) (.bool b)
  | int (i : Int) : Im K H (.int i) (.int i)
  | str (x : Str) : Im K H (.str x) (.str x)
  | tup {a : Addr} {xs : List V} {ds : List PyData} (h : SqT K H a xs) (l : ImAll K H xs ds) (tr : ∀ y : Str, ds = [.str "var", .str y] → H a = some (.tup xs) := by first | (intro y e; cases e; done) | (intro y e; exact absurd (PyData.str.inj (List.cons.inj e).1) (by decide +kernel))) : Im K H (.ref a) (.tuple ds)
inductive ImAll (K : PySem.W.Frag) (H : Hp) : List V → List PyData → Prop
  | nil : ImAll K H [] []
  | cons {v : V} {vs : List V} {d : PyData} {ds : List PyData} : Im K H v d → ImAll K H vs ds → ImAll K H (v :: vs) (d :: ds)
end
section
variable {K : PySem.W.Frag} {H H' : Hp}
mutual
theorem Im.mono (k : TS H H') : ∀ {v : V} {d : PyData}, Im K H v d → Im K H' v d
  | _, _, .non => .non
  | _, _, .bl b => .bl b
  | _, _, .int i => .int i
  | _, _, .str x => .str x
  | _, _, .tup h a t => .tup (k.sqT h) (ImAll.mono k a) fun y e => k.2 _ _ (t y e)
theorem ImAll.mono (k : TS H H') : ∀ {vs : List V} {ds : List PyData}, ImAll K H vs ds → ImAll K H' vs ds
  | _, _, .nil => .nil
  | _, _, .cons h t => .cons (Im.mono k h) (ImAll.mono k t)
end
mutual
theorem Im.dp : ∀ {v : V} {d : PyData}, Im K H v d → Dp K H v d
  | _, _, .non => .non
  | _, _, .bl b => .bl b
  | _, _, .int i => .int i
  | _, _, .str x => .str x
  | _, _, .tup h a _ => .tup h (ImAll.dp a)
theorem ImAll.dp : ∀ {vs : List V} {ds : List PyData}, ImAll K H vs ds → DpAll K H vs ds
  | _, _, .nil => .nil
  | _, _, .cons h t => .cons (Im.dp h) (ImAll.dp t)
end
theorem ImAll.get : ∀ {vs : List V} {ds : List PyData} {i : Nat} {v : V}, ImAll K H vs ds → vs[i]? = some v → ∃ d, ds[i]? = some d ∧ Im K H v d
  | _, _, _, _, .nil, e => by simp at e
  | _, _, 0, _, .cons h _, e => by simp at e; subst e; exact ⟨_, rfl, h⟩
  | _, _, i + 1, v, .cons _ t, e => by
    obtain ⟨d, h1, h2⟩ := ImAll.get (i := i) (v := v) t (by simpa using e)
    exact ⟨d, by simpa using h1, h2⟩
theorem ImAll.length : ∀ {vs : List V} {ds : List PyData}, ImAll K H vs ds → vs.length = ds.length
  | _, _, .nil => rfl
  | _, _, .cons _ t => by rw [List.length_cons, List.length_cons, ImAll.length t]
theorem ImAll.snoc : ∀ {vs : List V} {ds : List PyData} {v : V} {d : PyData}, ImAll K H vs ds → Im K H v d → ImAll K H (vs ++ [v]) (ds ++ [d])
  | _, _, _, _, .nil, h => .cons h .nil
  | _, _, _, _, .cons h t, h' => .cons h (ImAll.snoc t h')
theorem dpAll_get : ∀ {vs : List V} {ds : List PyData} {i : Nat} {d : PyData}, DpAll K H vs ds → ds[i]? = some d → ∃ v, vs[i]? = some v ∧ Dp K H v d
  | _, _, _, _, .nil, e => by simp at e
  | _, _, 0, _, .cons h _, e => by simp at e; subst e; exact ⟨_, rfl, h⟩
  | _, _, i + 1, d, .cons _ t, e => by
    obtain ⟨v, h1, h2⟩ := dpAll_get (i := i) (d := d) t (by simpa using e)
    exact ⟨v, by simpa using h1, h2⟩
theorem dpAll_len : ∀ {vs : List V} {ds : List PyData}, DpAll K H vs ds → vs.length = ds.length
  | _, _, .nil => rfl
  | _, _, .cons _ t => by rw [List.length_cons, List.length_cons, dpAll_len t]
/-! ### types, for isinstance -/
theorem ty_list {a : Addr} {xs : List V} (h : SqL K H a xs) : TyX K H (.ref a) (.type "list") := by
  rcases h with (h | ⟨o, h⟩) | ⟨o, its, n, h1, h2, _⟩
  · exact .base (.lst h)
  · exact .base (.frz h)
  · exact .kList h1 h2
theorem ty_tup {a : Addr} {xs : List V} (h : SqT K H a xs) : TyX K H (.ref a) (.type "tuple") := by
  rcases h with (h | ⟨o, h⟩) | ⟨o, its, n, h1, h2, _⟩
  · exact .base (.tup h)
  · exact .fTuple h
  · exact .kTuple h1 h2
def tyD : PyData → String
  | .none => "NoneType"
  | .bool _ => "bool"
  | .int _ => "int"
  | .str _ => "str"
  | .list _ => "list"
  | .tuple _ => "tuple"
  | .dict _ => "dict"
theorem Dp.ty {v : V} {d : PyData} (h : Dp K H v d) : TyX K H v (.type (tyD d)) := by
  cases h with
  | non => exact .base .non
  | bl b => exact .base (.bl b)
  | int i => exact .base (.int i)
  | str x => exact .base (.str x)
  | lst h _ => exact ty_list h
  | tup h _ => exact ty_tup h
end
/-! ### the law's pool of numbers -/
structure Pl (K : PySem.W.Frag) (H : Hp) (p l : Addr) : Prop where
  sq : ∃ cs : List Int, SqL K H l (cs.map V.int)
  ne : l ≠ p
  at5 : ∃ i r c s : Int, H p = some (.lst [.ref l, .int i, .int r, .int c, .int s]) ∧ 0 ≤ i
section
variable {K : PySem.W.Frag} {H H' H0 H1 H2 : Hp} {p q l : Addr}
theorem Pl.lst (h : Pl K H p l) : ∃ xs, H p = some (.lst xs) := by
  obtain ⟨i, r, c, s, h, _⟩ := h.at5
  exact ⟨_, h⟩
theorem Pl.same (k : Same H H') (h : Pl K H p l) : Pl K H' p l := by
  obtain ⟨i, r, c, s, h1, h2⟩ := h.at5
  obtain ⟨cs, hs⟩ := h.sq
  exact ⟨⟨cs, k.seq hs⟩, h.ne, i, r, c, s, k _ _ h1, h2⟩
/-- the pool's own turn -/
theorem Pl.turn {i r c s : Int} (h : Pl K H p l) (h0 : 0 ≤ i) : Pl K (upd H p (.lst [.ref l, .int i, .int r, .int c, .int s])) p l := by
  obtain ⟨cs, hs⟩ := h.sq
  exact ⟨⟨cs, Kp.upd.sqL hs h.ne⟩, h.ne, i, r, c, s, upd_same, h0⟩
theorem Pl.ts (h : Pl K H p l) (k : Kp p H H') : TS H H' := by
  obtain ⟨xs, e⟩ := h.lst
  exact k.ts e
/-- another list, younger than the pool, is changed -/
theorem Pl.other (h0 : Pl K H0 p l) (hq : H0 q = none) (h1 : Pl K H1 p l) (k : Kp q H1 H2) : Pl K H2 p l := by
  obtain ⟨i, r, c, s, e1, e2⟩ := h1.at5
  obtain ⟨cs, hs⟩ := h1.sq
  obtain ⟨xs, hl⟩ := h0.lst
  have np : p ≠ q := ne_of_none hl hq
  refine ⟨?_, h1.ne, i, r, c, s, k _ _ e1 np, e2⟩
  rcases hs with hs | hs
  · obtain ⟨cs0, h0s⟩ := h0.sq
    rcases h0s with h0s | h0s
    · have nl : l ≠ q := by
        rcases h0s with z | ⟨o, z⟩
        · exact ne_of_none z hq
        · exact ne_of_none z hq
      exact ⟨cs, .inl (k.rd hs nl)⟩
    · exact ⟨cs0, .inr h0s⟩
  · exact ⟨cs, .inr hs⟩
/-- p's change and that of a younger q together are p's change -/
theorem Kp.under (hq : H0 q = none) (k1 : Kp p H0 H1) (k2 : Kp q H1 H2) : Kp p H0 H2 := fun b o e n => k2 b o (k1 b o e n) (ne_of_none e hq)
end
theorem kB {K : PySem.W.Frag} {a b : String} (r : Bool) (h : L2.kitB a b = some r) : PySem.W.kitOne K (.type a) (.type b) = some r := kit_ty h
/-- a promise that nothing can ask for -/
theorem fn_none {P : Program} {w : World} {K : PySem.W.Frag} {mg : Str → Option Value} {base : Heap} {f : Addr} {fd : FuncData} {ps : List Str} {sp : Sp} (no : ∀ vs H Q E, ¬ sp vs H Q E) : FnOk P w K mg base CX0 0 f fd ps sp :=
  ⟨fun vs H Q E h => absurd h (no vs H Q E), fun A outer s H args us vs Q E _ _ _ _ h => absurd h (no vs H Q E)⟩
mutual
/-- no list or tuple in it is too long -/
def sml : PyData → Prop
  | .list ds => ds.length ≤ 1000000 ∧ smlAll ds
  | .tuple ds => ds.length ≤ 1000000 ∧ smlAll ds
  | _ => True
def smlAll : List PyData → Prop
  | [] => True
  | d :: ds => sml d ∧ smlAll ds
end
theorem sml_mem : ∀ {ds : List PyData} {i : Nat} {d : PyData}, smlAll ds → ds[i]? = some d → sml d
  | [], _, _, _, h => by simp at h
  | e :: ds, 0, d, h1, h => by
    simp at h; subst h
    rw [smlAll] at h1; exact h1.1
  | e :: ds, i + 1, d, h1, h => by
    rw [smlAll] at h1
    exact sml_mem (ds := ds) (i := i) h1.2 (by simpa using h)
theorem depth_mem : ∀ {ds : List PyData} {i : Nat} {d : PyData}, ds[i]? = some d → d.depth ≤ PyData.depthAll ds
  | [], _, _, h => by simp at h
  | e :: ds, 0, d, h => by
    simp at h; subst h
    rw [PyData.depthAll]; exact Nat.le_max_left _ _
  | e :: ds, i + 1, d, h => by
    have := depth_mem (ds := ds) (i := i) (d := d) (by simpa using h)
    rw [PyData.depthAll]; exact Nat.le_trans this (Nat.le_max_right _ _)
theorem sizeU {n : Nat} (h : n ≤ 1000) : n ≤ sizeLine := Nat.le_of_lt (small1000 h)
/-! ### formulas -/
inductive Fm where
  | var (n : Str) | fal | and (a b : Fm) | or (a b : Fm) | imp (a b : Fm) | box (a : Fm)
  deriving DecidableEq
def Fm.d : Fm → PyData
  | .var n => .tuple [.str "var", .str n]
  | .fal => .tuple [.str "falsum"]
  | .and a b => .tuple [.str "and", a.d, b.d]
  | .or a b => .tuple [.str "or", a.d, b.d]
  | .imp a b => .tuple [.str "implies", a.d, b.d]
  | .box a => .tuple [.str "box", a.d]
def Fm.ht : Fm → Nat
  | .var _ => 1
  | .fal => 1
  | .and a b => max a.ht b.ht + 1
  | .or a b => max a.ht b.ht + 1
  | .imp a b => max a.ht b.ht + 1
  | .box a => a.ht + 1
def Fm.plain : Fm → Bool
  | .var _ => true
  | .fal => true
  | .and a b => a.plain && b.plain
  | .or a b => a.plain && b.plain
  | .imp a b => a.plain && b.plain
  | .box _ => false
/-- all names of variables are in N -/
def Fm.over (N : List Str) : Fm → Bool
  | .var n => decide (n ∈ N)
  | .fal => true
  | .and a b => a.over N && b.over N
  | .or a b => a.over N && b.over N
  | .imp a b => a.over N && b.over N
  | .box a => a.over N
theorem Fm.depth : ∀ f : Fm, f.d.depth = f.ht
  | .var _ => by simp [Fm.d, PyData.depth, PyData.depthAll, Fm.ht]
  | .fal => by simp [Fm.d, PyData.depth, PyData.depthAll, Fm.ht]
  | .and a b => by simp [Fm.d, PyData.depth, PyData.depthAll, Fm.ht, Fm.depth a, Fm.depth b]
  | .or a b => by simp [Fm.d, PyData.depth, PyData.depthAll, Fm.ht, Fm.depth a, Fm.depth b]
  | .imp a b => by simp [Fm.d, PyData.depth, PyData.depthAll, Fm.ht, Fm.depth a, Fm.depth b]
  | .box a => by simp [Fm.d, PyData.depth, PyData.depthAll, Fm.ht, Fm.depth a]
theorem Fm.sml : ∀ f : Fm, E.sml f.d
  | .var _ => by simp [Fm.d, E.sml, smlAll]
  | .fal => by simp [Fm.d, E.sml, smlAll]
  | .and a b => by simp [Fm.d, E.sml, smlAll, Fm.sml a, Fm.sml b]
  | .or a b => by simp [Fm.d, E.sml, smlAll, Fm.sml a, Fm.sml b]
  | .imp a b => by simp [Fm.d, E.sml, smlAll, Fm.sml a, Fm.sml b]
  | .box a => by simp [Fm.d, E.sml, smlAll, Fm.sml a]
theorem Fm.ht_pos : ∀ f : Fm, 1 ≤ f.ht
  | .var _ => Nat.le_refl _
  | .fal => Nat.le_refl _
  | .and _ _ => Nat.le_add_left _ _
  | .or _ _ => Nat.le_add_left _ _
  | .imp _ _ => Nat.le_add_left _ _
  | .box _ => Nat.le_add_left _ _
section
variable {K : PySem.W.Frag} {H : Hp} {p : Addr} {v u : V} {f g : Fm}
theorem im_fal (h : H p = some (.tup [.str "falsum"])) : Im K H (.ref p) Fm.fal.d := .tup (SqT.of h) (.cons (.str _) .nil)
theorem im_var {n : Str} (h : H p = some (.tup [.str "var", .str n])) : Im K H (.ref p) (Fm.var n).d := .tup (SqT.of h) (.cons (.str _) (.cons (.str _) .nil)) fun _ _ => h
theorem im_box (h : H p = some (.tup [.str "box", v])) (a : Im K H v f.d) : Im K H (.ref p) (Fm.box f).d := .tup (SqT.of h) (.cons (.str _) (.cons a .nil))
theorem im_and (h : H p = some (.tup [.str "and", v, u])) (a : Im K H v f.d) (b : Im K H u g.d) : Im K H (.ref p) (Fm.and f g).d := .tup (SqT.of h) (.cons (.str _) (.cons a (.cons b .nil)))
theorem im_or (h : H p = some (.tup [.str "or", v, u])) (a : Im K H v f.d) (b : Im K H u g.d) : Im K H (.ref p) (Fm.or f g).d := .tup (SqT.of h) (.cons (.str _) (.cons a (.cons b .nil)))
theorem im_imp (h : H p = some (.tup [.str "implies", v, u])) (a : Im K H v f.d) (b : Im K H u g.d) : Im K H (.ref p) (Fm.imp f g).d := .tup (SqT.of h) (.cons (.str _) (.cons a (.cons b .nil)))
end
/-! ### lists of ints as data -/
theorem dp_ints {K : PySem.W.Frag} {H : Hp} : ∀ ns : List Int, DpAll K H (ns.map V.int) (ns.map PyData.int)
  | [] => .nil
  | n :: ns => .cons (.int n) (dp_ints ns)
theorem lay_ints : ∀ ns : List Int, PyData.canLayAll0 (ns.map PyData.int) = true
  | [] => rfl
  | n :: ns => by
    rw [List.map_cons, PyData.canLayAll0, lay_ints ns]
    rfl
theorem dep_ints : ∀ ns : List Int, PyData.depthAll (ns.map PyData.int) = 0
  | [] => rfl
  | n :: ns => by
    rw [List.map_cons, PyData.depthAll, dep_ints ns]
    rfl
theorem shaped_ints (ns : List Int) : SeqAt.shaped (.list (ns.map PyData.int)) = true := by
  unfold SeqAt.shaped
  rw [PyData.canLay0, lay_ints, PyData.depth, dep_ints]
  rfl
theorem eqv_nil (ds : List PyData) : PyData.eqv (.list ds) (.list []) = ds.isEmpty := by
  cases ds with
  | nil => rfl
  | cons d ds => rfl
theorem atI_mem {α : Type} {xs : List α} {i : Int} (h0 : 0 ≤ i) (h1 : i < xs.length) : ∃ v, atI xs i = some v ∧ v ∈ xs := by
  have hn : i.toNat < xs.length := by omega
  refine ⟨xs[i.toNat], ?_, List.getElem_mem hn⟩
  have e := atI_nat (xs := xs) (j := i.toNat) (List.getElem?_eq_getElem hn)
  rw [show ((i.toNat : Nat) : Int) = i by omega] at e
  exact e
def nms : List Str := ["p", "q", "r"]
section
variable {t u : TT} {σ : L2.St} {H : Hp} {b1 b2 : Bool}
theorem ans_or2 (h1 : Ans t σ H b1) (h2 : Ans u σ H b2) : Ans (tOr t u) σ H (b1 || b2) := by
  cases b1 with
  | true => exact ans_or1 h1
  | false => exact ans_or h1 h2
end
theorem vint {i j : Int} (h : decide (V.int i = V.int j) = true) : i = j := V.int.inj (of_decide_eq_true h)
theorem vintF {i j : Int} (h : ¬ decide (V.int i = V.int j) = true) : i ≠ j := fun e => h (decide_eq_true (congrArg V.int e))
theorem in34 {k : Int} : inV (.int k) [.int 3, .int 4] = decide (k = 3 ∨ k = 4) := by
  unfold inV
  simp only [List.any_cons, List.any_nil, Bool.or_false]
  show ((3 == k) || (4 == k)) = _
  rw [Bool.eq_iff_iff]
  simp only [Bool.or_eq_true, beq_iff_eq, decide_eq_true_eq]
  omega
theorem iteD {c A B : Prop} [Decidable c] (h : c) (a : A) : if decide c = true then A else B := by
  rw [if_pos (decide_eq_true h)]
  exact a
theorem iteDF {c A B : Prop} [Decidable c] (h : ¬ c) (b : B) : if decide c = true then A else B := by
  rw [if_neg (by rw [decide_eq_true_eq]; exact h)]
  exact b
theorem in34y {k : Int} (h : k = 3 ∨ k = 4) : V.bl (if false = true then !inV (.int k) [.int 3, .int 4] else inV (.int k) [.int 3, .int 4]) = V.bl true := by
  rw [if_neg Bool.false_ne_true, in34, decide_eq_true h]
theorem in34n {k : Int} (h : ¬ (k = 3 ∨ k = 4)) : V.bl (if false = true then !inV (.int k) [.int 3, .int 4] else inV (.int k) [.int 3, .int 4]) = V.bl false := by
  rw [if_neg Bool.false_ne_true, in34, decide_eq_false h]
theorem vne {i j : Int} (h : i ≠ j) : ¬ V.int i = V.int j := fun e => h (V.int.inj e)
/-! ### joined formulas -/
def grp (op : Fm → Fm → Fm) (z : Fm) : List Fm → Fm
  | [] => z
  | [a] => a
  | a :: b :: r => op a (grp op z (b :: r))
theorem grp_step {op : Fm → Fm → Fm} {z f : Fm} {fs : List Fm} {j : Nat} (h : fs[j]? = some f) (h2 : j + 1 < fs.length) : grp op z (fs.drop j) = op f (grp op z (fs.drop (j + 1))) := by
  obtain ⟨hj, e⟩ := List.getElem?_eq_some_iff.mp h
  rw [List.drop_eq_getElem_cons hj, e, List.drop_eq_getElem_cons h2]
  rfl
theorem grp_last {op : Fm → Fm → Fm} {z f : Fm} {fs : List Fm} (h : fs[fs.length - 1]? = some f) : grp op z (fs.drop (fs.length - 1)) = f := by
  obtain ⟨hj, e⟩ := List.getElem?_eq_some_iff.mp h
  rw [List.drop_eq_getElem_cons hj, e, List.drop_eq_nil_of_le (by omega)]
  rfl
inductive SgOp : Str → (Fm → Fm → Fm) → Prop
  | and : SgOp "and" Fm.and
  | or : SgOp "or" Fm.or
theorem im_op {K : PySem.W.Frag} {H : Hp} {p : Addr} {v u : V} {f g : Fm} {sg : Str} {op : Fm → Fm → Fm} (o : SgOp sg op) (h : H p = some (.tup [.str sg, v, u])) (a : Im K H v f.d) (b : Im K H u g.d) : Im K H (.ref p) (op f g).d := by
  cases o with
  | and => exact im_and h a b
  | or => exact im_or h a b
theorem atI_m1 {α : Type} {xs : List α} {v : α} (h : xs[xs.length - 1]? = some v) : atI xs (-1) = some v := by
  have hl : 0 < xs.length := by
    have := (List.getElem?_eq_some_iff.mp h).1
    omega
  have e : ixN xs.length (-1) = some (xs.length - 1) := by
    unfold ixN
    rw [if_neg (by decide), if_pos (by omega)]
    congr 1
    omega
  unfold atI
  rw [e]
  exact h
theorem cut_m1 (xs : List V) : cutV xs none (some (-1)) = xs.take (xs.length - 1) := by
  unfold cutV
  have e : HT.sIx xs.length xs.length (some (-1)) = xs.length - 1 := by
    show (if (-1 : Int) < 0 then ((-1 : Int) + (xs.length : Int)).toNat else min (-1 : Int).toNat xs.length) = _
    rw [if_pos (by decide)]
    omega
  rw [e, HT.sIx_none, List.drop_zero, Nat.sub_zero]
/-- for x in reversed(list) -/
theorem for_rev {K : PySem.W.Frag} {a : Addr} {xs : List V} {g : TG} {tb : L2.TS} {D : Ends} {σ : L2.St} {H : Hp} (Pv : Nat → L2.St → Hp → Prop) (h0 : Pv 0 σ H) (hl : ∀ i σ H, i ≤ xs.length → Pv i σ H → SqL K H a xs)
    (hs : ∀ i x σ H, i < xs.length → xs[xs.length - 1 - i]? = some x → Pv i σ H → g x σ H fun σ2 H2 => tb { D with nx := Pv (i + 1), ct := Pv (i + 1), bk := D.nx } σ2 H2) (hd : ∀ σ H, Pv xs.length σ H → D.nx σ H) :
    ∃ W : Nat → Nat → L2.St → Hp → Prop, (∃ m, W 0 m σ H) ∧ ∀ i m σ H, W i m σ H →
      ((Itv K a xs.length).stop i H ∧ D.nx σ H) ∨ ((Itv K a xs.length).go i H ∧ ∃ N : L2.St → Hp → Prop, (∀ σ' H', N σ' H' → ∃ m', m' < m ∧ W (i + 1) m' σ' H') ∧ ∀ x H', (Itv K a xs.length).yld i H x H' → g x σ H' fun σ2 H2 => tb { D with nx := N, ct := N, bk := D.nx } σ2 H2) := by
  refine ⟨fun i m σ H => m = xs.length - i ∧ i ≤ xs.length ∧ Pv i σ H, ⟨xs.length, by simp, Nat.zero_le _, h0⟩, ?_⟩
  rintro i m σ H ⟨rfl, hi, p⟩
  have q := hl i σ H hi p
  by_cases hlt : i < xs.length
  · have g0 : xs[xs.length - 1 - i]? = some xs[xs.length - 1 - i] := List.getElem?_eq_getElem (by omega)
    refine .inr ⟨⟨hlt, xs, _, q, g0⟩, Pv (i + 1), fun σ' H' p' => ⟨xs.length - (i + 1), by omega, rfl, hlt, p'⟩, fun x H' y => ?_⟩
    obtain ⟨e, y⟩ := y
    subst e
    exact hs i x σ _ hlt (y xs q) p
  · have e : i = xs.length := by omega
    subst e
    exact .inl ⟨Nat.le_refl _, hd σ H p⟩
/-! ### what may be compared -/
theorem strOk_lit {x : Str} (h : PyData.strOk x = true) : PyData.canLay0 (.str x) = true := h
theorem Fm.lay {N : List Str} (hN : ∀ n ∈ N, PyData.strOk n = true) : ∀ f : Fm, f.over N = true → f.d.canLay0 = true
  | .var n, h => by
    have h1 := hN n (of_decide_eq_true h)
    simp only [Fm.d, PyData.canLay0, PyData.canLayAll0, h1, Bool.and_true]
    decide +kernel
  | .fal, _ => by decide +kernel
  | .and a b, h => by
    have h' : (a.over N && b.over N) = true := h
    rw [Bool.and_eq_true] at h'
    simp only [Fm.d, PyData.canLay0, PyData.canLayAll0, Fm.lay hN a h'.1, Fm.lay hN b h'.2, Bool.and_true]
    decide +kernel
  | .or a b, h => by
    have h' : (a.over N && b.over N) = true := h
    rw [Bool.and_eq_true] at h'
    simp only [Fm.d, PyData.canLay0, PyData.canLayAll0, Fm.lay hN a h'.1, Fm.lay hN b h'.2, Bool.and_true]
    decide +kernel
  | .imp a b, h => by
    have h' : (a.over N && b.over N) = true := h
    rw [Bool.and_eq_true] at h'
    simp only [Fm.d, PyData.canLay0, PyData.canLayAll0, Fm.lay hN a h'.1, Fm.lay hN b h'.2, Bool.and_true]
    decide +kernel
  | .box a, h => by
    simp only [Fm.d, PyData.canLay0, PyData.canLayAll0, Fm.lay hN a h, Bool.and_true]
    decide +kernel
theorem nms_ok : ∀ n ∈ nms, PyData.strOk n = true := by decide +kernel
/-- a list of formulas, none too high -/
theorem fms_shaped {N : List Str} (hN : ∀ n ∈ N, PyData.strOk n = true) : ∀ {fs : List Fm}, (∀ f ∈ fs, f.over N = true ∧ f.ht ≤ 63) → PyData.canLayAll0 (fs.map Fm.d) = true ∧ PyData.depthAll (fs.map Fm.d) ≤ 63
  | [], _ => ⟨rfl, Nat.zero_le _⟩
  | f :: fs, h => by
    have h1 := h f List.mem_cons_self
    have h2 := fms_shaped hN (fs := fs) fun g hg => h g (List.mem_cons_of_mem _ hg)
    rw [List.map_cons, PyData.canLayAll0, PyData.depthAll, Fm.lay hN f h1.1, h2.1, Fm.depth]
    exact ⟨rfl, Nat.max_le.mpr ⟨h1.2, h2.2⟩⟩
theorem list_shaped {ds : List PyData} (h : PyData.canLayAll0 ds = true ∧ PyData.depthAll ds ≤ 63) : SeqAt.shaped (.list ds) = true := by
  unfold SeqAt.shaped
  rw [PyData.canLay0, PyData.depth, h.1]
  exact decide_eq_true (by omega)
theorem eqv_self {d : PyData} (h : SeqAt.shaped d = true) : PyData.eqv d d = true := SeqAt.eqv_refl d (SeqAt.canLay_of_shaped h)
inductive TagZ : Str → (Fm → Fm → Fm) → Fm → Prop
  | and : TagZ "and" Fm.and (.imp .fal .fal)
  | or : TagZ "or" Fm.or .fal
theorem TagZ.op {sg : Str} {op : Fm → Fm → Fm} {z : Fm} (h : TagZ sg op z) : SgOp sg op := by
  cases h with
  | and => exact .and
  | or => exact .or
theorem SgOp.ht {sg : Str} {op : Fm → Fm → Fm} (h : SgOp sg op) (f g : Fm) : (op f g).ht = max f.ht g.ht + 1 := by
  cases h with
  | and => rfl
  | or => rfl
theorem grp_ht {sg : Str} {op : Fm → Fm → Fm} {z : Fm} {m : Nat} (o : SgOp sg op) (hz : z.ht ≤ m) : ∀ {fs : List Fm}, (∀ f ∈ fs, f.ht ≤ m) → (grp op z fs).ht ≤ m + fs.length
  | [], _ => hz
  | [a], h => Nat.le_trans (h a List.mem_cons_self) (Nat.le_add_right _ _)
  | a :: b :: r, h => by
    have h1 := h a List.mem_cons_self
    have h2 := grp_ht o hz (fs := b :: r) fun f hf => h f (List.mem_cons_of_mem _ hf)
    show (op a (grp op z (b :: r))).ht ≤ _
    rw [o.ht]
    simp only [List.length_cons] at h2 ⊢
    omega
theorem ImAll.fm {K : PySem.W.Frag} {H : Hp} {xs : List V} {fs : List Fm} (hI : ImAll K H xs (fs.map Fm.d)) {j : Nat} (hj : j < xs.length) : ∃ v f, xs[j]? = some v ∧ fs[j]? = some f ∧ Im K H v f.d := by
  have g := List.getElem?_eq_getElem hj
  obtain ⟨d, e, i⟩ := hI.get g
  rw [List.getElem?_map] at e
  cases e2 : fs[j]? with
  | none => rw [e2] at e; cases e
  | some f =>
    rw [e2] at e
    have : f.d = d := Option.some.inj e
    subst this
    exact ⟨_, f, g, rfl, i⟩
theorem fm_snoc {fs : List Fm} {f : Fm} : (fs ++ [f]).map Fm.d = fs.map Fm.d ++ [f.d] := by rw [List.map_append]; rfl
end E

set_option Elab.async false
set_option linter.all false
set_option maxRecDepth 100000
set_option maxHeartbeats 4000000
namespace E
open PySem PySem.Spec PyProof.Rows L2
/-! ### the order of formulas -/
abbrev Tk := List (Int ⊕ List Nat)
def Fm.toks : Fm → Tk
  | .and a b => .inl 0 :: (a.toks ++ b.toks)
  | .box a => .inl 1 :: a.toks
  | .fal => [.inl 2]
  | .imp a b => .inl 3 :: (a.toks ++ b.toks)
  | .or a b => .inl 4 :: (a.toks ++ b.toks)
  | .var n => [.inl 5, .inr n.cps.toList]
def Fm.lt (a b : Fm) : Bool := PyProof.Rows.lexLt itemOrd a.toks b.toks
theorem lex_ii {i j : Int} {l m : Tk} (h : i ≠ j) : PyProof.Rows.lexLt itemOrd (.inl i :: l) (.inl j :: m) = decide (i < j) := lex_diff (O := itemOrd) (fun e => h (Sum.inl.inj e))
theorem lex_same (x : Int ⊕ List Nat) (l m : Tk) : PyProof.Rows.lexLt itemOrd (x :: l) (x :: m) = PyProof.Rows.lexLt itemOrd l m := lex_self (O := itemOrd) x l m
theorem lex_ss {x y : List Nat} (h : x ≠ y) (l m : Tk) : PyProof.Rows.lexLt itemOrd (.inr x :: l) (.inr y :: m) = PyProof.Rows.lexLt itemOrd [.inr x] [.inr y] :=
  (lex_diff (O := itemOrd) (fun e => h (Sum.inr.inj e))).trans (lex_diff (O := itemOrd) (fun e => h (Sum.inr.inj e))).symm
theorem toks_app : ∀ (a b : Fm) (l m : Tk), PyProof.Rows.lexLt itemOrd (a.toks ++ l) (b.toks ++ m) = if a = b then PyProof.Rows.lexLt itemOrd l m else a.lt b := by
  intro a
  induction a with
  | and a1 a2 ih1 ih2 =>
    intro b l m
    cases b with
    | and b1 b2 =>
      show PyProof.Rows.lexLt itemOrd (.inl 0 :: ((a1.toks ++ a2.toks) ++ l)) (.inl 0 :: ((b1.toks ++ b2.toks) ++ m)) = _
      have e2 : Fm.lt (.and a1 a2) (.and b1 b2) = if a1 = b1 then a2.lt b2 else a1.lt b1 := (lex_same _ _ _).trans (ih1 b1 a2.toks b2.toks)
      rw [lex_same, List.append_assoc, List.append_assoc, ih1, ih2, e2]
      by_cases h1 : a1 = b1
      · by_cases h2 : a2 = b2
        · subst h1 h2; simp
        · subst h1; simp [h2]
      · simp [h1]
    | box b1 => exact (lex_ii (by decide)).trans (by rw [if_neg (by simp)]; exact (lex_ii (by decide)).symm)
    | fal => exact (lex_ii (by decide)).trans (by rw [if_neg (by simp)]; exact (lex_ii (by decide)).symm)
    | imp b1 b2 => exact (lex_ii (by decide)).trans (by rw [if_neg (by simp)]; exact (lex_ii (by decide)).symm)
    | or b1 b2 => exact (lex_ii (by decide)).trans (by rw [if_neg (by simp)]; exact (lex_ii (by decide)).symm)
    | var n => exact (lex_ii (by decide)).trans (by rw [if_neg (by simp)]; exact (lex_ii (by decide)).symm)
  | or a1 a2 ih1 ih2 =>
    intro b l m
    cases b with
    | or b1 b2 =>
      show PyProof.Rows.lexLt itemOrd (.inl 4 :: ((a1.toks ++ a2.toks) ++ l)) (.inl 4 :: ((b1.toks ++ b2.toks) ++ m)) = _
      have e2 : Fm.lt (.or a1 a2) (.or b1 b2) = if a1 = b1 then a2.lt b2 else a1.lt b1 := (lex_same _ _ _).trans (ih1 b1 a2.toks b2.toks)
      rw [lex_same, List.append_assoc, List.append_assoc, ih1, ih2, e2]
      by_cases h1 : a1 = b1
      · by_cases h2 : a2 = b2
        · subst h1 h2; simp
        · subst h1; simp [h2]
      · simp [h1]
    | box b1 => exact (lex_ii (by decide)).trans (by rw [if_neg (by simp)]; exact (lex_ii (by decide)).symm)
    | fal => exact (lex_ii (by decide)).trans (by rw [if_neg (by simp)]; exact (lex_ii (by decide)).symm)
    | imp b1 b2 => exact (lex_ii (by decide)).trans (by rw [if_neg (by simp)]; exact (lex_ii (by decide)).symm)
    | and b1 b2 => exact (lex_ii (by decide)).trans (by rw [if_neg (by simp)]; exact (lex_ii (by decide)).symm)
    | var n => exact (lex_ii (by decide)).trans (by rw [if_neg (by simp)]; exact (lex_ii (by decide)).symm)
  | imp a1 a2 ih1 ih2 =>
    intro b l m
    cases b with
    | imp b1 b2 =>
      show PyProof.Rows.lexLt itemOrd (.inl 3 :: ((a1.toks ++ a2.toks) ++ l)) (.inl 3 :: ((b1.toks ++ b2.toks) ++ m)) = _
      have e2 : Fm.lt (.imp a1 a2) (.imp b1 b2) = if a1 = b1 then a2.lt b2 else a1.lt b1 := (lex_same _ _ _).trans (ih1 b1 a2.toks b2.toks)
      rw [lex_same, List.append_assoc, List.append_assoc, ih1, ih2, e2]
      by_cases h1 : a1 = b1
      · by_cases h2 : a2 = b2
        · subst h1 h2; simp
        · subst h1; simp [h2]
      · simp [h1]
    | box b1 => exact (lex_ii (by decide)).trans (by rw [if_neg (by simp)]; exact (lex_ii (by decide)).symm)
    | fal => exact (lex_ii (by decide)).trans (by rw [if_neg (by simp)]; exact (lex_ii (by decide)).symm)
    | or b1 b2 => exact (lex_ii (by decide)).trans (by rw [if_neg (by simp)]; exact (lex_ii (by decide)).symm)
    | and b1 b2 => exact (lex_ii (by decide)).trans (by rw [if_neg (by simp)]; exact (lex_ii (by decide)).symm)
    | var n => exact (lex_ii (by decide)).trans (by rw [if_neg (by simp)]; exact (lex_ii (by decide)).symm)
  | box a1 ih1 =>
    intro b l m
    cases b with
    | box b1 =>
      show PyProof.Rows.lexLt itemOrd (.inl 1 :: (a1.toks ++ l)) (.inl 1 :: (b1.toks ++ m)) = _
      have e2 : Fm.lt (.box a1) (.box b1) = a1.lt b1 := lex_same _ _ _
      rw [lex_same, ih1, e2]
      by_cases h1 : a1 = b1
      · subst h1; simp
      · simp [h1]
    | and b1 b2 => exact (lex_ii (by decide)).trans (by rw [if_neg (by simp)]; exact (lex_ii (by decide)).symm)
    | fal => exact (lex_ii (by decide)).trans (by rw [if_neg (by simp)]; exact (lex_ii (by decide)).symm)
    | imp b1 b2 => exact (lex_ii (by decide)).trans (by rw [if_neg (by simp)]; exact (lex_ii (by decide)).symm)
    | or b1 b2 => exact (lex_ii (by decide)).trans (by rw [if_neg (by simp)]; exact (lex_ii (by decide)).symm)
    | var n => exact (lex_ii (by decide)).trans (by rw [if_neg (by simp)]; exact (lex_ii (by decide)).symm)
  | fal =>
    intro b l m
    cases b with
    | fal => rw [if_pos rfl]; exact lex_same _ _ _
    | and b1 b2 => exact (lex_ii (by decide)).trans (by rw [if_neg (by simp)]; exact (lex_ii (by decide)).symm)
    | box b1 => exact (lex_ii (by decide)).trans (by rw [if_neg (by simp)]; exact (lex_ii (by decide)).symm)
    | imp b1 b2 => exact (lex_ii (by decide)).trans (by rw [if_neg (by simp)]; exact (lex_ii (by decide)).symm)
    | or b1 b2 => exact (lex_ii (by decide)).trans (by rw [if_neg (by simp)]; exact (lex_ii (by decide)).symm)
    | var n => exact (lex_ii (by decide)).trans (by rw [if_neg (by simp)]; exact (lex_ii (by decide)).symm)
  | var n =>
    intro b l m
    cases b with
    | var k =>
      show PyProof.Rows.lexLt itemOrd (.inl 5 :: .inr n.cps.toList :: l) (.inl 5 :: .inr k.cps.toList :: m) = _
      rw [lex_same]
      by_cases h1 : n = k
      · subst h1
        rw [lex_same, if_pos rfl]
      · have hn : n.cps.toList ≠ k.cps.toList := fun e => h1 (PySem.W.str_of_cps e)
        rw [lex_ss hn, if_neg (by simp [h1])]
        exact (lex_same _ _ _).symm
    | and b1 b2 => exact (lex_ii (by decide)).trans (by rw [if_neg (by simp)]; exact (lex_ii (by decide)).symm)
    | box b1 => exact (lex_ii (by decide)).trans (by rw [if_neg (by simp)]; exact (lex_ii (by decide)).symm)
    | fal => exact (lex_ii (by decide)).trans (by rw [if_neg (by simp)]; exact (lex_ii (by decide)).symm)
    | imp b1 b2 => exact (lex_ii (by decide)).trans (by rw [if_neg (by simp)]; exact (lex_ii (by decide)).symm)
    | or b1 b2 => exact (lex_ii (by decide)).trans (by rw [if_neg (by simp)]; exact (lex_ii (by decide)).symm)
theorem toks_inj {a b : Fm} (h : a.toks = b.toks) : a = b := by
  have e := toks_app a b [] [.inl 0]
  rw [List.append_nil] at e
  by_cases hab : a = b
  · exact hab
  · have e2 := toks_app a b [] []
    rw [List.append_nil, List.append_nil, if_neg hab] at e2
    rw [if_neg hab, ← e2, h, lex_irrefl] at e
    have : PyProof.Rows.lexLt itemOrd b.toks (b.toks ++ [.inl 0]) = true := by
      have e3 := PySem.W.lex_pre b.toks [] [.inl 0]
      rw [List.append_nil] at e3
      rw [e3]
      rfl
    rw [this] at e
    cases e
theorem Fm.lt_irrefl (a : Fm) : a.lt a = false := lex_irrefl _
theorem Fm.lt_trans {a b c : Fm} (h1 : a.lt b = true) (h2 : b.lt c = true) : a.lt c = true := lex_trans _ _ _ h1 h2
theorem Fm.lt_total {a b : Fm} (h1 : a.lt b = false) (h2 : b.lt a = false) : a = b := toks_inj (lex_total _ _ h1 h2)
theorem Fm.lt_asymm {a b : Fm} (h : a.lt b = true) : b.lt a = false := by
  cases e : b.lt a with
  | false => rfl
  | true =>
    have := Fm.lt_trans h e
    rw [Fm.lt_irrefl] at this
    cases this
end E

set_option Elab.async false
set_option linter.all false
set_option maxRecDepth 100000
set_option maxHeartbeats 4000000
namespace ELt
open PySem PySem.SeqAt
open PySem.AutoSeq1 (wpAny_loadPart')
open PySem.MeetsSeq PySem.MeetsSeq2 PySem.MeetsSeq3 PySem.SeqRoads2
/-- item by item: where two items differ for the first time, their own < gives k; where none do, the lengths -/
inductive TupLt (A : Around) (s : Shared) (fin k : Bool) : List (Value × Value) → Prop
  | nil : fin = k → TupLt A s fin k []
  | yes {p q : Value} {r : List (Value × Value)} : EqAt A s p q true → TupLt A s fin k r → TupLt A s fin k ((p, q) :: r)
  | no {p q : Value} {r : List (Value × Value)} : EqAt A s p q false → RcLt A s p q k → TupLt A s fin k ((p, q) :: r)
theorem tup_seq (l b : Addr) (xs ys : Array Value) (n m : Nat) (dd de : Option Addr) (sl sm : Array (Option Value)) (k : Bool) :
    Meets (Builtin.«tuple.__lt__» ⟨[.ref l, .ref b], []⟩)
      (fun A R s => s.heap.get? l = some ⟨.type "tuple", dd, .seq xs n, sl⟩ ∧ s.heap.get? b = some ⟨.type "tuple", de, .seq ys m, sm⟩ ∧
        TupLt A.in1 s (decide (xs.size < ys.size)) k (xs.toList.zip ys.toList) ∧ R (.ok (.ret (.bool k))) s) :=
  .of_wp fun prog w A R s h => by
    obtain ⟨hp, g, d, tk, os⟩ := s
    obtain ⟨hl, hb, ht, hR⟩ := h
    have sub := AutoSeq1.sub_tuple_tuple
    wp_walk using wpAny_loadPart' hl, wpAny_loadPart' hb, wpAny_forIn_list _ (fun rest c t => c.1 = none ∧ t = ⟨hp, g, d, tk, os⟩ ∧ TupLt A.in1 ⟨hp, g, d, tk, os⟩ (decide (xs.size < ys.size)) k rest) _
    case turn =>
      rintro ⟨y, x⟩ rest c t ⟨_, rfl, tl⟩
      cases tl with
      | yes e tl =>
        refine wpAny_bind (e prog w _ _ ?_)
        wp_walk
        exact ⟨rfl, rfl, tl⟩
      | no e lt =>
        refine wpAny_bind (e prog w _ _ ?_)
        simp only [Bool.not_false, if_true]
        refine wpAny_bind (wpAny_rule (wpAny_bind (lt prog w _ _ ?_)))
        wp_walk
        exact ⟨_, rfl, hR⟩
    case fin =>
      rintro ⟨c1, c2⟩ t ⟨hc, rfl, tl⟩
      simp only at hc
      subst hc
      cases tl with
      | nil e =>
        wp_walk
        exact ⟨_, rfl, by rw [← e] at hR; simpa [Builtin.Tuple.tupleCompareSizes] using hR⟩
    case h => exact ⟨rfl, rfl, ht⟩
theorem rc_tups {A : Around} {s : Shared} {l b : Addr} {xs ys : Array Value} {k : Bool} (hl : s.heap.IsTuple l xs) (hb : s.heap.IsTuple b ys) (hu : A.units < cLine) (ht : TupLt A.in1 s (decide (xs.size < ys.size)) k (xs.toList.zip ys.toList)) : RcLt A s (.ref l) (.ref b) k := fun prog w E Q h => by
  obtain ⟨⟨c1, dd, d1, sl⟩, ho, hc, n, hd⟩ := id hl
  obtain ⟨⟨c2, de, d2, sm⟩, ho2, hc2, m, hd2⟩ := id hb
  simp only at hc hd hc2 hd2
  subst hc hd hc2 hd2
  exact richCompare_meets_room (op := .Lt) ⟨_, ho, rfl⟩ ⟨_, ho2, rfl⟩ F.slot_tuple_lt F.entry_tuple_lt (F.args_tuple_lt_2 _ _) (tup_seq l b xs ys n m dd de sl sm k)
    ⟨ho, ho2, ht, show Value.bool k ≠ Value.notImplemented ∧ Q (.bool k) s from ⟨(fun x => nomatch x), h⟩⟩ hu
end ELt

set_option Elab.async false
set_option linter.all false
set_option maxRecDepth 100000
set_option maxHeartbeats 4000000
namespace E
open PySem PySem.Spec PyProof.Rows L2
/-! ### the signs -/
def Fm.rk : Fm → Fin 6
  | .and _ _ => 0
  | .box _ => 1
  | .fal => 2
  | .imp _ _ => 3
  | .or _ _ => 4
  | .var _ => 5
def sgT : Fin 6 → Str
  | 0 => "and"
  | 1 => "box"
  | 2 => "falsum"
  | 3 => "implies"
  | 4 => "or"
  | 5 => "var"
def Fm.sg (f : Fm) : Str := sgT f.rk
theorem sgT_ne : ∀ i j : Fin 6, i ≠ j → (sgT i == sgT j) = false := by decide +kernel
theorem sgT_lt : ∀ i j : Fin 6, decide ((sgT i).cps.toList < (sgT j).cps.toList) = decide ((i.val : Int) < (j.val : Int)) := by decide +kernel
def Fm.pts : Fm → List PyData
  | .and a b => [a.d, b.d]
  | .box a => [a.d]
  | .fal => []
  | .imp a b => [a.d, b.d]
  | .or a b => [a.d, b.d]
  | .var n => [.str n]
theorem Fm.d_eq (f : Fm) : f.d = .tuple (.str f.sg :: f.pts) := by cases f <;> rfl
theorem toks_head (f : Fm) : ∃ r, f.toks = .inl (f.rk.val : Int) :: r := by cases f <;> exact ⟨_, rfl⟩
theorem lt_rk {f g : Fm} (h : f.rk ≠ g.rk) : f.lt g = decide ((f.rk.val : Int) < (g.rk.val : Int)) := by
  obtain ⟨r, e⟩ := toks_head f
  obtain ⟨t, e2⟩ := toks_head g
  unfold Fm.lt
  rw [e, e2]
  exact lex_ii fun e => h (Fin.ext (Int.ofNat.inj e))
theorem lt_and (a b c d : Fm) : Fm.lt (.and a b) (.and c d) = if a = c then b.lt d else a.lt c := (lex_same _ _ _).trans (toks_app a c b.toks d.toks)
theorem lt_or (a b c d : Fm) : Fm.lt (.or a b) (.or c d) = if a = c then b.lt d else a.lt c := (lex_same _ _ _).trans (toks_app a c b.toks d.toks)
theorem lt_imp (a b c d : Fm) : Fm.lt (.imp a b) (.imp c d) = if a = c then b.lt d else a.lt c := (lex_same _ _ _).trans (toks_app a c b.toks d.toks)
theorem lt_box (a c : Fm) : Fm.lt (.box a) (.box c) = a.lt c := lex_same _ _ _
theorem lt_var (n m : Str) : Fm.lt (.var n) (.var m) = decide (n.cps.toList < m.cps.toList) := (lex_same _ _ _).trans (PySem.W.lex_one _ _)
theorem streq {x y : Str} : (x == y) = decide (x = y) := by
  rw [Bool.eq_iff_iff, decide_eq_true_iff]
  exact beq_iff_eq
theorem eqv_tup (x y : Str) (ds es : List PyData) : PyData.eqv (.tuple (.str x :: ds)) (.tuple (.str y :: es)) = ((x == y) && PyData.eqvAll ds es) := by
  rw [PyData.eqv, PyData.eqvAll, PyData.eqv]
theorem eqvAll2 (a b c d : PyData) : PyData.eqvAll [a, b] [c, d] = (PyData.eqv a c && PyData.eqv b d) := by
  rw [PyData.eqvAll, PyData.eqvAll, PyData.eqvAll, Bool.and_true]
theorem eqvAll1 (a c : PyData) : PyData.eqvAll [a] [c] = PyData.eqv a c := by
  rw [PyData.eqvAll, PyData.eqvAll, Bool.and_true]
/-- == of formulas as data -/
theorem Fm.eqv : ∀ f g : Fm, PyData.eqv f.d g.d = decide (f = g) := by
  intro f
  induction f with
  | and a b iha ihb =>
    intro g
    cases g with
    | and c d =>
      rw [Fm.d_eq, Fm.d_eq, eqv_tup, show ((Fm.and a b).sg == (Fm.and c d).sg) = true from beq_self_eq_true _, Bool.true_and]
      show PyData.eqvAll [a.d, b.d] [c.d, d.d] = _
      rw [eqvAll2, iha, ihb, ← Bool.decide_and]
      exact decide_eq_decide.mpr (by rw [Fm.and.injEq])
    | _ => rw [Fm.d_eq, Fm.d_eq, eqv_tup, show ∀ x y : Fm, x.rk ≠ y.rk → (x.sg == y.sg) = false from fun x y h => sgT_ne _ _ h, Bool.false_and, decide_eq_false (by simp)]; intro e; simp [Fm.rk] at e
  | or a b iha ihb =>
    intro g
    cases g with
    | or c d =>
      rw [Fm.d_eq, Fm.d_eq, eqv_tup, show ((Fm.or a b).sg == (Fm.or c d).sg) = true from beq_self_eq_true _, Bool.true_and]
      show PyData.eqvAll [a.d, b.d] [c.d, d.d] = _
      rw [eqvAll2, iha, ihb, ← Bool.decide_and]
      exact decide_eq_decide.mpr (by rw [Fm.or.injEq])
    | _ => rw [Fm.d_eq, Fm.d_eq, eqv_tup, show ∀ x y : Fm, x.rk ≠ y.rk → (x.sg == y.sg) = false from fun x y h => sgT_ne _ _ h, Bool.false_and, decide_eq_false (by simp)]; intro e; simp [Fm.rk] at e
  | imp a b iha ihb =>
    intro g
    cases g with
    | imp c d =>
      rw [Fm.d_eq, Fm.d_eq, eqv_tup, show ((Fm.imp a b).sg == (Fm.imp c d).sg) = true from beq_self_eq_true _, Bool.true_and]
      show PyData.eqvAll [a.d, b.d] [c.d, d.d] = _
      rw [eqvAll2, iha, ihb, ← Bool.decide_and]
      exact decide_eq_decide.mpr (by rw [Fm.imp.injEq])
    | _ => rw [Fm.d_eq, Fm.d_eq, eqv_tup, show ∀ x y : Fm, x.rk ≠ y.rk → (x.sg == y.sg) = false from fun x y h => sgT_ne _ _ h, Bool.false_and, decide_eq_false (by simp)]; intro e; simp [Fm.rk] at e
  | box a iha =>
    intro g
    cases g with
    | box c =>
      rw [Fm.d_eq, Fm.d_eq, eqv_tup, show ((Fm.box a).sg == (Fm.box c).sg) = true from beq_self_eq_true _, Bool.true_and]
      show PyData.eqvAll [a.d] [c.d] = _
      rw [eqvAll1, iha]
      exact decide_eq_decide.mpr (by rw [Fm.box.injEq])
    | _ => rw [Fm.d_eq, Fm.d_eq, eqv_tup, show ∀ x y : Fm, x.rk ≠ y.rk → (x.sg == y.sg) = false from fun x y h => sgT_ne _ _ h, Bool.false_and, decide_eq_false (by simp)]; intro e; simp [Fm.rk] at e
  | fal =>
    intro g
    cases g with
    | fal => rw [decide_eq_true rfl]; rfl
    | _ => rw [Fm.d_eq, Fm.d_eq, eqv_tup, show ∀ x y : Fm, x.rk ≠ y.rk → (x.sg == y.sg) = false from fun x y h => sgT_ne _ _ h, Bool.false_and, decide_eq_false (by simp)]; intro e; simp [Fm.rk] at e
  | var n =>
    intro g
    cases g with
    | var m =>
      rw [Fm.d_eq, Fm.d_eq, eqv_tup, show ((Fm.var n).sg == (Fm.var m).sg) = true from beq_self_eq_true _, Bool.true_and]
      show PyData.eqvAll [.str n] [.str m] = _
      rw [eqvAll1, PyData.eqv, streq]
      exact decide_eq_decide.mpr (by rw [Fm.var.injEq])
    | _ => rw [Fm.d_eq, Fm.d_eq, eqv_tup, show ∀ x y : Fm, x.rk ≠ y.rk → (x.sg == y.sg) = false from fun x y h => sgT_ne _ _ h, Bool.false_and, decide_eq_false (by simp)]; intro e; simp [Fm.rk] at e
end E

set_option Elab.async false
set_option linter.all false
set_option maxRecDepth 100000
set_option maxHeartbeats 4000000
namespace E
open PySem PySem.Spec PyProof.Rows L2 PySem.SeqAt ELt
/-! ### the model's own < of formulas -/
theorem rd_items {h : Heap} {v : Value} {f : Fm} {as : List Addr} (r : Reads h v f.d as) : ∃ (l : Addr) (o : Obj) (vs : Array Value) (n : Nat) (t : Tok) (ws : List Value) (bs : List Addr), v = .ref l ∧ h.get? l = some o ∧ o.cls = .type "tuple" ∧ o.data = .seq vs n ∧ vs.toList = .str f.sg t :: ws ∧ ReadsAll h ws f.pts bs := by
  rw [Fm.d_eq] at r
  generalize f.sg = sg at r
  cases r with
  | @tuple l o vs n _ _ h1 h2 h3 h4 =>
    generalize hv : vs.toList = vl at h4
    cases h4 with
    | @cons w ws _ _ as bs r1 r2 =>
      cases r1 with
      | str _ t => exact ⟨l, o, vs, n, t, ws, bs, rfl, h1, h2, h3, hv, r2⟩
theorem eq_fm {h : Heap} {A : Around} {s : Shared} (hs : s.heap = h) {f g : Fm} {v u : Value} {as bs : List Addr} (rv : Reads h v f.d as) (ru : Reads h u g.d bs) (lf : f.d.canLay0 = true) (lg : g.d.canLay0 = true) (hu : A.units + min f.ht g.ht < cLine) : EqAt A s v u (decide (f = g)) := by
  subst hs
  rw [← Fm.eqv]
  exact eqAt_reads f.d g.d A s v u as bs rv ru lf lg (by rw [Fm.depth, Fm.depth]; exact hu)
theorem size_of {vs : Array Value} {l : List Value} (h : vs.toList = l) : vs.size = l.length := by rw [← h, Array.length_toList]
/-- the items behind the signs, in order -/
theorem seq_pts : ∀ (f g : Fm), f.rk = g.rk → ∀ (A : Around) (s : Shared) (ws us : List Value) (as bs : List Addr), ReadsAll s.heap ws f.pts as → ReadsAll s.heap us g.pts bs → f.d.canLay0 = true → g.d.canLay0 = true → A.units + min f.ht g.ht < cLine + 1 →
    (∀ (f' g' : Fm) (v u : Value) (cs ds : List Addr), f'.ht < f.ht → Reads s.heap v f'.d cs → Reads s.heap u g'.d ds → f'.d.canLay0 = true → g'.d.canLay0 = true → A.units + min f'.ht g'.ht < cLine → RcLt A s v u (f'.lt g')) →
    TupLt A s false (f.lt g) (ws.zip us) := by
  intro f g hk A s ws us as bs rw_ ru lf lg hu ih
  have two : ∀ (a b c d : Fm) (k : Bool), k = (if a = c then b.lt d else a.lt c) → a.ht < f.ht → b.ht < f.ht → a.d.canLay0 = true → b.d.canLay0 = true → c.d.canLay0 = true → d.d.canLay0 = true → A.units + min a.ht c.ht < cLine → A.units + min b.ht d.ht < cLine →
      ReadsAll s.heap ws [a.d, b.d] as → ReadsAll s.heap us [c.d, d.d] bs → TupLt A s false k (ws.zip us) := by
    intro a b c d k ek ha hb la lb lc ld h1 h2 r1 r2
    cases r1 with
    | cons p1 q1 =>
      cases q1 with
      | cons p2 q2 =>
        cases q2
        cases r2 with
        | cons p3 q3 =>
          cases q3 with
          | cons p4 q4 =>
            cases q4
            by_cases e1 : a = c
            · rw [if_pos e1] at ek
              have t1 := eq_fm (A := A) (s := s) rfl p1 p3 la lc h1
              rw [decide_eq_true e1] at t1
              refine .yes t1 ?_
              have t2 := eq_fm (A := A) (s := s) rfl p2 p4 lb ld h2
              by_cases e2 : b = d
              · rw [decide_eq_true e2] at t2
                subst e2
                rw [Fm.lt_irrefl] at ek
                exact .yes t2 (.nil ek.symm)
              · rw [decide_eq_false e2] at t2
                rw [ek]
                exact .no t2 (ih b d _ _ _ _ hb p2 p4 lb ld h2)
            · rw [if_neg e1] at ek
              have t1 := eq_fm (A := A) (s := s) rfl p1 p3 la lc h1
              rw [decide_eq_false e1] at t1
              rw [ek]
              exact .no t1 (ih a c _ _ _ _ ha p1 p3 la lc h1)
  have lay2 : ∀ {sg : Str} {a b : Fm}, PyData.canLay0 (.tuple [.str sg, a.d, b.d]) = true → a.d.canLay0 = true ∧ b.d.canLay0 = true := by
    intro sg a b h
    simp only [PyData.canLay0, PyData.canLayAll0, Bool.and_eq_true] at h
    exact ⟨h.2.1, h.2.2.1⟩
  cases f with
  | and a b =>
    cases g with
    | and c d =>
      have hu' : A.units + min (max a.ht b.ht + 1) (max c.ht d.ht + 1) < cLine + 1 := hu
      exact two a b c d _ (lt_and a b c d) (by show _ < max a.ht b.ht + 1; omega) (by show _ < max a.ht b.ht + 1; omega) (lay2 lf).1 (lay2 lf).2 (lay2 lg).1 (lay2 lg).2 (by omega) (by omega) rw_ ru
    | _ => exact absurd hk (by simp [Fm.rk])
  | or a b =>
    cases g with
    | or c d =>
      have hu' : A.units + min (max a.ht b.ht + 1) (max c.ht d.ht + 1) < cLine + 1 := hu
      exact two a b c d _ (lt_or a b c d) (by show _ < max a.ht b.ht + 1; omega) (by show _ < max a.ht b.ht + 1; omega) (lay2 lf).1 (lay2 lf).2 (lay2 lg).1 (lay2 lg).2 (by omega) (by omega) rw_ ru
    | _ => exact absurd hk (by simp [Fm.rk])
  | imp a b =>
    cases g with
    | imp c d =>
      have hu' : A.units + min (max a.ht b.ht + 1) (max c.ht d.ht + 1) < cLine + 1 := hu
      exact two a b c d _ (lt_imp a b c d) (by show _ < max a.ht b.ht + 1; omega) (by show _ < max a.ht b.ht + 1; omega) (lay2 lf).1 (lay2 lf).2 (lay2 lg).1 (lay2 lg).2 (by omega) (by omega) rw_ ru
    | _ => exact absurd hk (by simp [Fm.rk])
  | box a =>
    cases g with
    | box c =>
      have hu' : A.units + min (a.ht + 1) (c.ht + 1) < cLine + 1 := hu
      have la : a.d.canLay0 = true := by
        have h : PyData.canLay0 (.tuple [.str "box", a.d]) = true := lf
        simp only [PyData.canLay0, PyData.canLayAll0, Bool.and_eq_true] at h
        exact h.2.1
      have lc : c.d.canLay0 = true := by
        have h : PyData.canLay0 (.tuple [.str "box", c.d]) = true := lg
        simp only [PyData.canLay0, PyData.canLayAll0, Bool.and_eq_true] at h
        exact h.2.1
      rw [lt_box]
      cases rw_ with
      | cons p1 q1 =>
        cases q1
        cases ru with
        | cons p3 q3 =>
          cases q3
          have t1 := eq_fm (A := A) (s := s) rfl p1 p3 la lc (by omega)
          by_cases e1 : a = c
          · rw [decide_eq_true e1] at t1
            subst e1
            exact .yes t1 (.nil (Fm.lt_irrefl a).symm)
          · rw [decide_eq_false e1] at t1
            exact .no t1 (ih a c _ _ _ _ (Nat.lt_succ_self _) p1 p3 la lc (by omega))
    | _ => exact absurd hk (by simp [Fm.rk])
  | fal =>
    cases g with
    | fal =>
      cases rw_
      cases ru
      exact .nil (Fm.lt_irrefl _).symm
    | _ => exact absurd hk (by simp [Fm.rk])
  | var n =>
    cases g with
    | var m =>
      rw [lt_var]
      cases rw_ with
      | cons p1 q1 =>
        cases q1
        cases ru with
        | cons p3 q3 =>
          cases q3
          cases p1 with
          | str _ t =>
            cases p3 with
            | str _ t2 =>
              have t1 := EqAt.str_str (A := A) (s := s) n t m t2
              by_cases e1 : n = m
              · subst e1
                rw [beq_self_eq_true] at t1
                exact .yes t1 (.nil (decide_eq_false (List.lt_irrefl _)).symm)
              · rw [streq, decide_eq_false e1] at t1
                exact .no t1 fun prog w E Q hq => P.lt_str hq
    | _ => exact absurd hk (by simp [Fm.rk])
theorem rc_fm : ∀ (n : Nat) (f g : Fm) (A : Around) (s : Shared) (v u : Value) (as bs : List Addr), f.ht ≤ n → Reads s.heap v f.d as → Reads s.heap u g.d bs → f.d.canLay0 = true → g.d.canLay0 = true → A.units + min f.ht g.ht < cLine → RcLt A s v u (f.lt g)
  | 0, f, _, _, _, _, _, _, _, h, _, _, _, _, _ => absurd (Fm.ht_pos f) (by omega)
  | n + 1, f, g, A, s, v, u, as, bs, hn, rv, ru, lf, lg, hu => by
    obtain ⟨l, o, vs, k, t, ws, cs, rfl, h1, h2, h3, h4, h5⟩ := rd_items rv
    obtain ⟨l', o', vs', k', t', ws', cs', rfl, k1, k2, k3, k4, k5⟩ := rd_items ru
    refine rc_tups ⟨o, h1, h2, k, h3⟩ ⟨o', k1, k2, k', k3⟩ (Nat.lt_of_le_of_lt (Nat.le_add_right _ _) hu) ?_
    rw [h4, k4, List.zip_cons_cons]
    have t1 := EqAt.str_str (A := A.in1) (s := s) f.sg t g.sg t'
    by_cases hk : f.rk = g.rk
    · rw [show f.sg = g.sg from congrArg sgT hk] at t1 ⊢
      rw [beq_self_eq_true] at t1
      refine .yes t1 ?_
      have hsz : decide (vs.size < vs'.size) = false := by
        rw [size_of h4, size_of k4, List.length_cons, List.length_cons, SeqAt.ReadsAll.length _ _ _ h5, SeqAt.ReadsAll.length _ _ _ k5]
        have : f.pts.length = g.pts.length := by
          cases f <;> cases g <;> first | rfl | exact absurd hk (by simp [Fm.rk])
        rw [this]
        exact decide_eq_false (Nat.lt_irrefl _)
      rw [hsz]
      exact seq_pts f g hk A.in1 s ws ws' cs cs' h5 k5 lf lg (by show A.units + 1 + _ < _; omega) fun f' g' v u cs ds hf r1 r2 l1 l2 hu' => rc_fm n f' g' A.in1 s v u cs ds (by omega) r1 r2 l1 l2 hu'
    · rw [show (f.sg == g.sg) = false from sgT_ne _ _ hk] at t1
      refine .no t1 fun prog w E Q hq => ?_
      rw [lt_rk hk, ← sgT_lt] at hq
      exact P.lt_str hq
end E

set_option Elab.async false
set_option linter.all false
set_option maxRecDepth 100000
set_option maxHeartbeats 4000000
namespace E
open PySem PySem.Spec PyProof.Rows L2 PySem.SeqAt ELt PySem.W PySem.Calls
/-! ### sorting formulas -/
theorem sgT_inj {i j : Fin 6} (h : sgT i = sgT j) : i = j := by
  by_cases e : i = j
  · exact e
  · have := sgT_ne i j e
    rw [h, beq_self_eq_true] at this
    cases this
theorem rd_head {h : Heap} {f g : Fm} {v : Value} {as bs : List Addr} (r1 : Reads h v f.d as) (r2 : Reads h v g.d bs) : f.rk = g.rk ∧ ∃ (ws : List Value) (cs ds : List Addr), ReadsAll h ws f.pts cs ∧ ReadsAll h ws g.pts ds := by
  obtain ⟨l, o, vs, k, t, ws, cs, rfl, h1, h2, h3, h4, h5⟩ := rd_items r1
  obtain ⟨l', o', vs', k', t', ws', cs', e, k1, k2, k3, k4, k5⟩ := rd_items r2
  cases e
  rw [h1] at k1
  cases k1
  rw [h3] at k3
  cases k3
  rw [h4] at k4
  obtain ⟨e1, e2⟩ := List.cons.inj k4
  have e3 : f.sg = g.sg := by injection e1
  subst e2
  exact ⟨sgT_inj e3, ws, cs, cs', h5, k5⟩
theorem rd_two {h : Heap} {ws : List Value} {a b c d : PyData} {as bs : List Addr} (r1 : ReadsAll h ws [a, b] as) (r2 : ReadsAll h ws [c, d] bs) : ∃ (v u : Value) (x y z w : List Addr), Reads h v a x ∧ Reads h v c y ∧ Reads h u b z ∧ Reads h u d w := by
  cases r1 with
  | cons p1 q1 =>
    cases q1 with
    | cons p2 q1 =>
      cases r2 with
      | cons p3 q2 =>
        cases q2 with
        | cons p4 q2 => exact ⟨_, _, _, _, _, _, p1, p3, p2, p4⟩
theorem rd_one {h : Heap} {ws : List Value} {a c : PyData} {as bs : List Addr} (r1 : ReadsAll h ws [a] as) (r2 : ReadsAll h ws [c] bs) : ∃ (v : Value) (x y : List Addr), Reads h v a x ∧ Reads h v c y := by
  cases r1 with
  | cons p1 q1 =>
    cases r2 with
    | cons p3 q2 => exact ⟨_, _, _, p1, p3⟩
theorem rd_uniq {h : Heap} : ∀ (f g : Fm) (v : Value) (as bs : List Addr), Reads h v f.d as → Reads h v g.d bs → f = g := by
  intro f
  induction f with
  | and a b iha ihb =>
    intro g v as bs r1 r2
    obtain ⟨hk, ws, cs, ds, q1, q2⟩ := rd_head r1 r2
    cases g with
    | and c d =>
      obtain ⟨_, _, _, _, _, _, p1, p2, p3, p4⟩ := rd_two q1 q2
      rw [iha c _ _ _ p1 p2, ihb d _ _ _ p3 p4]
    | _ => exact absurd hk (by simp [Fm.rk])
  | or a b iha ihb =>
    intro g v as bs r1 r2
    obtain ⟨hk, ws, cs, ds, q1, q2⟩ := rd_head r1 r2
    cases g with
    | or c d =>
      obtain ⟨_, _, _, _, _, _, p1, p2, p3, p4⟩ := rd_two q1 q2
      rw [iha c _ _ _ p1 p2, ihb d _ _ _ p3 p4]
    | _ => exact absurd hk (by simp [Fm.rk])
  | imp a b iha ihb =>
    intro g v as bs r1 r2
    obtain ⟨hk, ws, cs, ds, q1, q2⟩ := rd_head r1 r2
    cases g with
    | imp c d =>
      obtain ⟨_, _, _, _, _, _, p1, p2, p3, p4⟩ := rd_two q1 q2
      rw [iha c _ _ _ p1 p2, ihb d _ _ _ p3 p4]
    | _ => exact absurd hk (by simp [Fm.rk])
  | box a iha =>
    intro g v as bs r1 r2
    obtain ⟨hk, ws, cs, ds, q1, q2⟩ := rd_head r1 r2
    cases g with
    | box c =>
      obtain ⟨_, _, _, p1, p2⟩ := rd_one q1 q2
      rw [iha c _ _ _ p1 p2]
    | _ => exact absurd hk (by simp [Fm.rk])
  | fal =>
    intro g v as bs r1 r2
    obtain ⟨hk, ws, cs, ds, q1, q2⟩ := rd_head r1 r2
    cases g with
    | fal => rfl
    | _ => exact absurd hk (by simp [Fm.rk])
  | var n =>
    intro g v as bs r1 r2
    obtain ⟨hk, ws, cs, ds, q1, q2⟩ := rd_head r1 r2
    cases g with
    | var m =>
      obtain ⟨_, _, _, p1, p2⟩ := rd_one q1 q2
      cases p1
      cases p2
      rfl
    | _ => exact absurd hk (by simp [Fm.rk])
/-- formulas as keys, read off a heap -/
noncomputable def fmKind (h : Heap) (fs : List Fm) : PyProof.Rows.KeyKind where
  toKeyOrd := listOrd itemOrd
  keyOf v := open Classical in if q : ∃ f, f ∈ fs ∧ ∃ as, Reads h v f.d as then some q.choose.toks else none
  dflt := ([] : Tk)
theorem fmKind_some {h : Heap} {fs : List Fm} {v : Value} {f : Fm} {as : List Addr} (hf : f ∈ fs) (r : Reads h v f.d as) : (fmKind h fs).keyOf v = some f.toks := by
  have q : ∃ f, f ∈ fs ∧ ∃ as, Reads h v f.d as := ⟨f, hf, as, r⟩
  obtain ⟨_, as', h2⟩ := q.choose_spec
  have e : q.choose = f := rd_uniq _ _ _ _ _ h2 r
  show (open Classical in if q : ∃ f, f ∈ fs ∧ ∃ as, Reads h v f.d as then some q.choose.toks else none) = _
  rw [dif_pos q, e]
theorem fmKind_inv {h : Heap} {fs : List Fm} {v : Value} {k : Tk} (e : (fmKind h fs).keyOf v = some k) : ∃ f as, f ∈ fs ∧ Reads h v f.d as ∧ k = f.toks := by
  have e' : (open Classical in if q : ∃ f, f ∈ fs ∧ ∃ as, Reads h v f.d as then some q.choose.toks else none) = some k := e
  by_cases q : ∃ f, f ∈ fs ∧ ∃ as, Reads h v f.d as
  · obtain ⟨h1, as', h2⟩ := q.choose_spec
    rw [dif_pos q] at e'
    exact ⟨_, as', h1, h2, (Option.some.inj e').symm⟩
  · rw [dif_neg q] at e'
    cases e'
section
variable {prog : Program} {w : World} {A : Around} {E : Value → Shared → Prop} {s : Shared}
theorem lex_tail {fin k : Bool} {Q : Bool → Shared → Prop} (hq : Q k s) : ∀ (l : List (Value × Value)) (i : Nat), TupLt A s fin k l → KatLex prog w A true fin Q l (i + 1) s
  | _, _, .nil e => kat_nil (by rw [e]; exact hq)
  | _, i, .yes (r := r) e t => kat_cons (e prog w _ _ (kat_yes (lex_tail hq r (i + 1) t)))
  | _, i, .no e lt => kat_cons (e prog w _ _ (kat_no (by
      show wpAny (model prog w) A (oneLt' (true && (i + 1 == 0)) _ _) Q _ s
      rw [show (true && (i + 1 == 0)) = false from rfl]
      exact kat_one _ _ (lt prog w _ _ hq))))
theorem sorts_fm {vs : List Value} {fs : List Fm} (e : EachIs (fun v f => ∃ as, Reads s.heap v f.d as) vs fs) (hl : ∀ f, f ∈ fs → f.d.canLay0 = true ∧ A.units + f.ht < cLine) : SortsAt prog w A s (fmKind s.heap fs) vs := by
  refine ⟨fun v hv => ?_, tuples' (Value.type "str" != Value.type "tuple"), ?_, fun h2 E Q hq => ?_⟩
  · obtain ⟨f, hf, as, r⟩ := e.left v hv
    exact ⟨_, fmKind_some hf r⟩
  · intro E x y a b Q ha hb hq
    obtain ⟨f, as, hf, rf, rfl⟩ := fmKind_inv ha
    obtain ⟨g, bs, hg, rg, rfl⟩ := fmKind_inv hb
    have hq' : Q (f.lt g) s := hq
    obtain ⟨l, o, vs, k, t, ws, cs, rfl, h1, h2, h3, h4, h5⟩ := rd_items rf
    obtain ⟨l', o', vs', k', t', ws', cs', rfl, k1, k2, k3, k4, k5⟩ := rd_items rg
    have room : A.units + min f.ht g.ht < cLine := by
      have := (hl f hf).2
      omega
    refine kat_lt h1 h3 k1 k3 ?_
    rw [h4, k4, List.zip_cons_cons, show (Value.type "str" != Value.type "tuple") = true by decide]
    have t1 := EqAt.str_str (A := A) (s := s) f.sg t g.sg t'
    by_cases hk : f.rk = g.rk
    · rw [show f.sg = g.sg from congrArg sgT hk] at t1 ⊢
      rw [beq_self_eq_true] at t1
      have hsz : decide (vs.size < vs'.size) = false := by
        rw [size_of h4, size_of k4, List.length_cons, List.length_cons, SeqAt.ReadsAll.length _ _ _ h5, SeqAt.ReadsAll.length _ _ _ k5]
        have : f.pts.length = g.pts.length := by
          cases f <;> cases g <;> first | rfl | exact absurd hk (by simp [Fm.rk])
        rw [this]
        exact decide_eq_false (Nat.lt_irrefl _)
      rw [hsz]
      refine kat_cons (t1 prog w _ _ (kat_yes (lex_tail hq' _ 0 ?_)))
      exact seq_pts f g hk A s ws ws' cs cs' h5 k5 (hl f hf).1 (hl g hg).1 (by omega) fun f' g' v u cs ds hf' r1 r2 l1 l2 hu' => rc_fm f'.ht f' g' A s v u cs ds (Nat.le_refl _) r1 r2 l1 l2 hu'
    · rw [show (f.sg == g.sg) = false from sgT_ne _ _ hk] at t1
      refine kat_cons (t1 prog w _ _ (kat_no ?_))
      rw [lt_rk hk, ← sgT_lt] at hq'
      exact oneLt_str hq'
  · have firsts : ∀ {vs : List Value} {fs : List Fm}, EachIs (fun v f => ∃ as, Reads s.heap v f.d as) vs fs → ∃ us, KatTups s.heap vs us ∧ us.length = vs.length ∧ ∀ u ∈ us, ∃ x t, u = Value.str x t := by
      intro vs fs e
      induction e with
      | nil => exact ⟨[], KatTups.nil, rfl, fun u hu => nomatch hu⟩
      | cons h _ ih =>
        obtain ⟨as, r⟩ := h
        obtain ⟨us, a1, a2, a3⟩ := ih
        obtain ⟨l, o, vs, k, t, ws, cs, rfl, h1, h2, h3, h4, h5⟩ := rd_items r
        refine ⟨.str _ t :: us, KatTups.cons h1 h2 h3 (by rw [← Array.getElem?_toList, h4]; rfl) a1, by rw [List.length_cons, List.length_cons, a2], fun u hu => ?_⟩
        rcases List.mem_cons.mp hu with rfl | hu
        · exact ⟨_, _, rfl⟩
        · exact a3 u hu
    obtain ⟨us, a1, a2, a3⟩ := firsts e
    refine kat_kind (T := .type "str") a1 (by omega) (fun u hu => ?_) (beq_self_eq_true _) hq
    obtain ⟨x, t, rfl⟩ := a3 u hu
    exact Looks.of_pure rfl
end
def Fm.le (f g : Fm) : Bool := !g.lt f
/-- sorted(xs), xs a list of formulas -/
def rSortedF (K : PySem.W.Frag) : List V → Hp → VK → Prop := fun vs H Q => ∃ (a : Addr) (xs : List V) (fs : List Fm), vs = [V.ref a] ∧ SqL K H a xs ∧ ImAll K H xs (fs.map Fm.d) ∧ (∀ f ∈ fs, f.d.canLay0 = true ∧ f.ht ≤ 100) ∧
  ∀ (p : Addr) (ys : List V), H p = none → ImAll K H ys ((fs.mergeSort Fm.le).map Fm.d) → Q (.ref p) (upd H p (.lst ys))
theorem each_of {X : Cx} {pins : List (Addr × Obj)} {σ : L2.St} {H : Hp} {s : Shared} (I : Inv X pins σ H s) : ∀ {xs : List V} {us : List Value} {fs : List Fm}, Vals xs us → ImAll X.K H xs (fs.map Fm.d) →
    EachIs (fun v f => ∃ x : V, RelV x v ∧ Im X.K H x (Fm.d f)) us fs ∧ EachIs (fun v f => ∃ as, Reads s.heap v (Fm.d f) as) us fs
  | _, _, [], .nil, _ => ⟨.nil, .nil⟩
  | _, _, f :: fs, .cons r t, i => by
    have i' : ImAll X.K H _ (f.d :: fs.map Fm.d) := i
    cases i' with
    | cons i1 i2 =>
      obtain ⟨a1, a2⟩ := each_of I t i2
      exact ⟨.cons ⟨_, r, i1⟩ a1, .cons (Dp.reads I _ _ _ i1.dp r) a2⟩
theorem each_back {K : PySem.W.Frag} {H : Hp} : ∀ {us : List Value} {fs : List Fm}, EachIs (fun v f => ∃ x : V, RelV x v ∧ Im K H x (Fm.d f)) us fs → ∃ ys : List V, Vals ys us ∧ ImAll K H ys (fs.map Fm.d)
  | _, _, .nil => ⟨[], .nil, .nil⟩
  | _, _, .cons ⟨x, r, i⟩ t => by
    obtain ⟨ys, h1, h2⟩ := each_back t
    exact ⟨x :: ys, .cons r h1, .cons i h2⟩
section
variable {X : Cx}
theorem cr_sortedF (hu64 : X.A.units + 200 < cLine) : CallR X (.builtin "sorted") (rSortedF X.K) := by
  intro pins s σ H vs us Q I r h
  obtain ⟨a, xs, fs, rfl, hs, hi, hb, q⟩ := h
  obtain ⟨its, rv, hl, hz⟩ := I.list hs
  obtain ⟨u, rfl, ru⟩ := vals1 r
  obtain rfl : u = Value.ref a := ru
  obtain ⟨e1, e2⟩ := each_of I rv hi
  have e3 : EachIs (fun v f => ∃ as, Reads (sortingHeap (copyHeap s.heap its) (s.heap.objs.size + 1) its) v (Fm.d f) as) its fs := e2.mono fun v f ⟨as, r⟩ => ⟨as, PyProof.Rows.Reads.keeps (fun _ _ => sorting_copy_old) r⟩
  refine sorted_vals (κ := fmKind (sortingHeap (copyHeap s.heap its) (s.heap.objs.size + 1) its) fs) hl.isList (sorts_fm (s := { s with heap := sortingHeap (copyHeap s.heap its) (s.heap.objs.size + 1) its }) e3 fun f hf => ⟨(hb f hf).1, ?_⟩) (by rw [← rv.length]; exact hz) ?_
  · have := (hb f hf).2
    show X.A.units + 1 + 1 + f.ht < cLine
    omega
  · have ek : EachIs (fun v f => (fmKind (sortingHeap (copyHeap s.heap its) (s.heap.objs.size + 1) its) fs).keyOf v = some (Fm.toks f)) its fs := (each_mem e3).mono fun v f ⟨⟨as, r⟩, hf⟩ => fmKind_some hf r
    have es := sortVals_each (κ := fmKind (sortingHeap (copyHeap s.heap its) (s.heap.objs.size + 1) its) fs) (rev := false) Fm.toks e1 ek
    obtain ⟨ys, y1, y2⟩ := each_back es
    obtain ⟨n, hn⟩ := sortedAll_at s.heap its (sortVals (fmKind (sortingHeap (copyHeap s.heap its) (s.heap.objs.size + 1) its) fs) false its its).toArray
    have hf : s.heap.objs.size ≤ s.heap.objs.size + 1 := Nat.le_succ _
    refine ⟨.ref (s.heap.objs.size + 1), upd H _ (.lst ys), I.laid (t' := s.toks) (fun _ _ => sortedAll_old) hf ⟨?_, _, n, y1, hn⟩, rfl, q _ ys (I.hok.fresh hf) y2⟩
    have hl2 := y1.length
    rw [sortVals_length false rfl] at hl2
    have := rv.length
    omega
end
end E
namespace E
open PySem PySem.Spec PyProof.Rows L2 PySem.SeqAt ELt PySem.W PySem.Calls
def rLtF (K : PySem.W.Frag) : R2 := fun x y H Q => ∃ f g : Fm, Im K H x f.d ∧ Im K H y g.d ∧ f.d.canLay0 = true ∧ g.d.canLay0 = true ∧ f.ht ≤ 100 ∧ Q (.bl (f.lt g)) H
theorem op_ltF {X : Cx} (hu : X.A.units + 200 < cLine) : OpR X (compareOp .Lt) (rLtF X.K) := by
  intro pins s σ H x y v u Q I rx ry h
  obtain ⟨f, g, hf, hg, lf, lg, hh, q⟩ := h
  obtain ⟨as, r1⟩ := Dp.reads I _ x v hf.dp rx
  obtain ⟨bs, r2⟩ := Dp.reads I _ y u hg.dp ry
  exact rc_fm f.ht f g X.A s v u as bs (Nat.le_refl _) r1 r2 lf lg (by omega) X.prog X.w _ _ ⟨.bl _, H, I, rfl, q⟩
end E
#print axioms E.op_ltF
#print axioms E.cr_sortedF

set_option Elab.async false
set_option linter.all false
set_option maxRecDepth 100000
set_option maxHeartbeats 4000000
namespace E
open PySem PySem.Spec PyProof.Rows L2
/-! ### ascending lists of formulas -/
def dd (l : List Fm) : List Fm := l.foldl (fun acc x => if acc.getLast? = some x then acc else acc ++ [x]) []
def dist (l : List Fm) : List Fm := dd (l.mergeSort Fm.le)
theorem dd_snoc (l : List Fm) (x : Fm) : dd (l ++ [x]) = if (dd l).getLast? = some x then dd l else dd l ++ [x] := by
  unfold dd
  rw [List.foldl_append]
  rfl
def Asc (l : List Fm) : Prop := l.Pairwise fun a b => a.lt b = true
theorem le_total (a b : Fm) : a.le b = true ∨ b.le a = true := by
  unfold Fm.le
  cases e : b.lt a with
  | false => exact .inl rfl
  | true => exact .inr (by rw [Fm.lt_asymm e]; rfl)
theorem lt_of_le_ne {a b : Fm} (h : a.le b = true) (n : a ≠ b) : a.lt b = true := by
  unfold Fm.le at h
  rw [Bool.not_eq_true'] at h
  cases e : a.lt b with
  | true => rfl
  | false => exact absurd (Fm.lt_total e h) n
theorem le_of_lt {a b : Fm} (h : a.lt b = true) : a.le b = true := by
  unfold Fm.le
  rw [Fm.lt_asymm h]
  rfl
theorem le_trans' {a b c : Fm} (h1 : a.le b = true) (h2 : b.le c = true) : a.le c = true := by
  by_cases e : a = b
  · rw [e]; exact h2
  · by_cases e2 : b = c
    · rw [← e2]; exact h1
    · exact le_of_lt (Fm.lt_trans (lt_of_le_ne h1 e) (lt_of_le_ne h2 e2))
theorem ms_sorted (l : List Fm) : (l.mergeSort Fm.le).Pairwise fun a b => a.le b = true :=
  List.pairwise_mergeSort (le := Fm.le) (fun a b c h1 h2 => le_trans' (a := a) (b := b) (c := c) h1 h2) (fun a b => Bool.or_eq_true_iff.mpr (le_total a b)) l
theorem getLast?_of_pairwise {l : List Fm} {x y : Fm} (h : l.getLast? = some y) (p : Asc l) (hx : x ∈ l) : x = y ∨ x.lt y = true := by
  obtain ⟨l', rfl⟩ := List.getLast?_eq_some_iff.mp h
  rcases List.mem_append.mp hx with q | q
  · exact .inr ((List.pairwise_append.mp p).2.2 x q y (List.mem_singleton.mpr rfl))
  · exact .inl (List.mem_singleton.mp q)
theorem snoc_ind {α : Type} {P : List α → Prop} (h0 : P []) (hs : ∀ l x, P l → P (l ++ [x])) (l : List α) : P l := by
  have : ∀ r : List α, P r.reverse := by
    intro r
    induction r with
    | nil => exact h0
    | cons x r ih =>
      rw [List.reverse_cons]
      exact hs _ _ ih
  have e := this l.reverse
  rw [List.reverse_reverse] at e
  exact e
/-- the walk over a sorted list: strictly ascending, the same members, a part of it -/
theorem dd_spec (l : List Fm) : (l.Pairwise fun a b => a.le b = true) → Asc (dd l) ∧ (∀ x, x ∈ dd l ↔ x ∈ l) ∧ (dd l).Sublist l ∧ (dd l).getLast? = l.getLast? := by
  induction l using snoc_ind with
  | h0 => exact fun _ => ⟨.nil, fun x => Iff.rfl, List.Sublist.refl _, rfl⟩
  | hs l x ih =>
    intro p
    obtain ⟨p1, _, p2⟩ := List.pairwise_append.mp p
    obtain ⟨a1, a2, a3, a4⟩ := ih p1
    rw [dd_snoc]
    by_cases e : (dd l).getLast? = some x
    · rw [if_pos e]
      refine ⟨a1, fun y => ?_, a3.trans (List.sublist_append_left _ _), by rw [e, List.getLast?_append]; rfl⟩
      rw [a2, List.mem_append, List.mem_singleton]
      constructor
      · exact .inl
      · rintro (q | rfl)
        · exact q
        · exact (a2 y).mp (List.mem_of_getLast? e)
    · rw [if_neg e]
      refine ⟨List.pairwise_append.mpr ⟨a1, List.pairwise_singleton _ _, fun y hy z hz => ?_⟩, fun y => ?_, List.Sublist.append a3 (List.Sublist.refl _), by rw [List.getLast?_append, List.getLast?_append]; rfl⟩
      · rw [List.mem_singleton] at hz
        subst hz
        refine lt_of_le_ne (p2 y ((a2 y).mp hy) z (List.mem_singleton.mpr rfl)) fun q => ?_
        subst q
        cases g : (dd l).getLast? with
        | none =>
          rw [List.getLast?_eq_none_iff] at g
          rw [g] at hy
          cases hy
        | some m =>
          have hm : m ∈ dd l := List.mem_of_getLast? g
          rcases getLast?_of_pairwise g a1 hy with q | q
          · rw [q] at e; exact e g
          · have := p2 m ((a2 m).mp hm) y (List.mem_singleton.mpr rfl)
            unfold Fm.le at this
            rw [q] at this
            cases this
      · rw [List.mem_append, List.mem_append, a2]
theorem dist_asc (l : List Fm) : Asc (dist l) := (dd_spec _ (ms_sorted l)).1
theorem dist_mem {l : List Fm} {x : Fm} : x ∈ dist l ↔ x ∈ l := ((dd_spec _ (ms_sorted l)).2.1 x).trans ((List.mergeSort_perm l Fm.le).mem_iff)
theorem asc_one : ∀ {l m : List Fm}, Asc l → Asc m → (∀ x, x ∈ l ↔ x ∈ m) → l = m
  | [], [], _, _, _ => rfl
  | [], y :: m, _, _, h => absurd ((h y).mpr List.mem_cons_self) (by simp)
  | x :: l, [], _, _, h => absurd ((h x).mp List.mem_cons_self) (by simp)
  | x :: l, y :: m, hl, hm, h => by
    have hl' := List.pairwise_cons.mp hl
    have hm' := List.pairwise_cons.mp hm
    have e : x = y := by
      rcases List.mem_cons.mp ((h x).mp List.mem_cons_self) with q | q
      · exact q
      · rcases List.mem_cons.mp ((h y).mpr List.mem_cons_self) with r | r
        · exact r.symm
        · have h1 := hm'.1 x q
          have h2 := hl'.1 y r
          rw [Fm.lt_asymm h1] at h2
          cases h2
    subst e
    have : l = m := asc_one hl'.2 hm'.2 fun z => by
      constructor
      · intro q
        rcases List.mem_cons.mp ((h z).mp (List.mem_cons_of_mem _ q)) with r | r
        · subst r
          have := hl'.1 z q
          rw [Fm.lt_irrefl] at this
          cases this
        · exact r
      · intro q
        rcases List.mem_cons.mp ((h z).mpr (List.mem_cons_of_mem _ q)) with r | r
        · subst r
          have := hm'.1 z q
          rw [Fm.lt_irrefl] at this
          cases this
        · exact r
    rw [this]
theorem dist_ext {l m : List Fm} (h : ∀ x, x ∈ l ↔ x ∈ m) : dist l = dist m := asc_one (dist_asc l) (dist_asc m) fun x => by rw [dist_mem, dist_mem, h]
theorem dist_self {l : List Fm} (h : Asc l) : dist l = l := asc_one (dist_asc l) h fun x => dist_mem
theorem dist_len (l : List Fm) : (dist l).length ≤ l.length := by
  have := (dd_spec _ (ms_sorted l)).2.2.1.length_le
  rw [List.length_mergeSort] at this
  exact this
theorem sub_sum (k : Fm → Nat) : ∀ {l m : List Fm}, l.Sublist m → (l.map k).sum ≤ (m.map k).sum
  | _, _, .slnil => Nat.le_refl _
  | _, _, .cons x h => by
    rw [List.map_cons, List.sum_cons]
    exact Nat.le_trans (sub_sum k h) (Nat.le_add_left _ _)
  | _, _, .cons₂ x h => by
    rw [List.map_cons, List.sum_cons, List.map_cons, List.sum_cons]
    exact Nat.add_le_add_left (sub_sum k h) _
theorem dist_sum (k : Fm → Nat) (l : List Fm) : ((dist l).map k).sum ≤ (l.map k).sum := by
  refine Nat.le_trans (sub_sum k (dd_spec _ (ms_sorted l)).2.2.1) ?_
  rw [((List.mergeSort_perm l Fm.le).map k).sum_nat]
  exact Nat.le_refl _
/-! ### parts, levels -/
def Fm.kids : Fm → List Fm
  | .and a b => [a, b]
  | .or a b => [a, b]
  | .imp a b => [a, b]
  | .box a => [a]
  | .fal => []
  | .var _ => []
def Fm.sz : Fm → Nat
  | .and a b => a.sz + b.sz + 1
  | .or a b => a.sz + b.sz + 1
  | .imp a b => a.sz + b.sz + 1
  | .box a => a.sz + 1
  | .fal => 1
  | .var _ => 1
theorem Fm.sz_pos (f : Fm) : 1 ≤ f.sz := by cases f <;> exact Nat.le_add_left _ _
theorem kids_sz (f : Fm) : (f.kids.map Fm.sz).sum + 1 = f.sz := by cases f <;> simp [Fm.kids, Fm.sz]
theorem kids_ht {f g : Fm} (h : g ∈ f.kids) : g.ht < f.ht := by
  cases f with
  | and a b =>
    have q : g = a ∨ g = b := by simpa [Fm.kids] using h
    show _ < max a.ht b.ht + 1
    rcases q with rfl | rfl <;> omega
  | or a b =>
    have q : g = a ∨ g = b := by simpa [Fm.kids] using h
    show _ < max a.ht b.ht + 1
    rcases q with rfl | rfl <;> omega
  | imp a b =>
    have q : g = a ∨ g = b := by simpa [Fm.kids] using h
    show _ < max a.ht b.ht + 1
    rcases q with rfl | rfl <;> omega
  | box a =>
    have q : g = a := by simpa [Fm.kids] using h
    subst q
    exact Nat.lt_succ_self _
  | fal => cases h
  | var n => cases h
/-- one more level down -/
def down (l : List Fm) : List Fm := dist (l.flatMap Fm.kids)
def levs : Nat → List Fm → List (List Fm)
  | 0, _ => []
  | n + 1, l => if l = [] then [] else l :: levs n (down l)
theorem down_sum (l : List Fm) : ((down l).map Fm.sz).sum + l.length ≤ (l.map Fm.sz).sum := by
  have h1 := dist_sum Fm.sz (l.flatMap Fm.kids)
  have h2 : ((l.flatMap Fm.kids).map Fm.sz).sum + l.length = (l.map Fm.sz).sum := by
    induction l with
    | nil => rfl
    | cons f l ih =>
      have ih' := ih (dist_sum Fm.sz (l.flatMap Fm.kids))
      rw [List.flatMap_cons, List.map_append, List.sum_append_nat, List.map_cons, List.sum_cons, List.length_cons, ← kids_sz f]
      omega
  unfold down
  omega
theorem sum_len (l : List Fm) : l.length ≤ (l.map Fm.sz).sum := by
  induction l with
  | nil => exact Nat.le_refl _
  | cons f l ih =>
    rw [List.map_cons, List.sum_cons, List.length_cons]
    have := f.sz_pos
    omega
theorem down_mem {l : List Fm} {x : Fm} : x ∈ down l ↔ ∃ f ∈ l, x ∈ f.kids := by
  unfold down
  rw [dist_mem, List.mem_flatMap]
/-- all that occurs in a formula -/
def Fm.subs : Fm → List Fm
  | .and a b => .and a b :: (a.subs ++ b.subs)
  | .or a b => .or a b :: (a.subs ++ b.subs)
  | .imp a b => .imp a b :: (a.subs ++ b.subs)
  | .box a => .box a :: a.subs
  | .fal => [.fal]
  | .var n => [.var n]
theorem subs_kids {f x : Fm} : x ∈ f.subs ↔ x = f ∨ ∃ g ∈ f.kids, x ∈ g.subs := by
  cases f <;> simp [Fm.subs, Fm.kids]
/-- what stands on the levels: all that occurs in the first one -/
theorem levs_mem : ∀ (n : Nat) (l : List Fm), (∀ f ∈ l, f.ht ≤ n) → ∀ x, x ∈ (levs n l).flatten ↔ ∃ f ∈ l, x ∈ f.subs
  | 0, l, h, x => by
    constructor
    · intro q
      cases q
    · rintro ⟨f, hf, _⟩
      exact absurd (h f hf) (by have := f.ht_pos; omega)
  | n + 1, l, h, x => by
    rw [levs]
    by_cases e : l = []
    · rw [if_pos e, e]
      simp
    · rw [if_neg e, List.flatten_cons, List.mem_append, levs_mem n (down l) (fun f hf => by
        obtain ⟨g, hg, hk⟩ := down_mem.mp hf
        have h1 := kids_ht hk
        have h2 := h g hg
        omega) x]
      constructor
      · rintro (q | ⟨f, hf, hx⟩)
        · exact ⟨x, q, subs_kids.mpr (.inl rfl)⟩
        · obtain ⟨g, hg, hk⟩ := down_mem.mp hf
          exact ⟨g, hg, subs_kids.mpr (.inr ⟨f, hk, hx⟩)⟩
      · rintro ⟨f, hf, hx⟩
        rcases subs_kids.mp hx with rfl | ⟨g, hg, hx⟩
        · exact .inl hf
        · exact .inr ⟨g, down_mem.mpr ⟨f, hf, hg⟩, hx⟩
theorem levs_len : ∀ (n : Nat) (l : List Fm), (levs n l).length ≤ n
  | 0, _ => Nat.le_refl _
  | n + 1, l => by
    rw [levs]
    split
    · exact Nat.zero_le _
    · rw [List.length_cons]
      have := levs_len n (down l)
      omega
theorem levs_sum : ∀ (n : Nat) (l : List Fm), ((levs n l).map List.length).sum ≤ (l.map Fm.sz).sum
  | 0, _ => Nat.zero_le _
  | n + 1, l => by
    rw [levs]
    split
    · exact Nat.zero_le _
    · rw [List.map_cons, List.sum_cons]
      have h1 := levs_sum n (down l)
      have h2 := down_sum l
      omega
end E

set_option Elab.async false
set_option linter.all false
set_option maxRecDepth 100000
set_option maxHeartbeats 4000000
namespace E
open PySem PySem.Spec PyProof.Rows L2
/-! ### comprehensions of two loops -/
section
variable {K : PySem.W.Frag}
/-- the outer loop, over a list -/
theorem out_list {a : Addr} {xs : List V} {g g1 : TG} {tt tt1 : TT} {wi1 : TI} {te : TE} {vs vs1 : List Nat} {σ : L2.St} {H1 : Hp} {D : Addr} {Qd : Hp → Prop} (Pv : Nat → Hp → Prop) (start : Pv 0 (upd H1 D (.lst []))) (at_ : ∀ i H, i ≤ xs.length → Pv i H → SqL K H a xs)
    (turn : ∀ i x H, xs[i]? = some x → Pv i H → g x (wipe σ vs) H fun σ2 H2 => wipe σ2 vs = wipe σ vs ∧ tt σ2 H2 fun b H3 => if b = true then wi1 σ2 H3 fun J1 H4 => ∃ W1 : Nat → Nat → Hp → Prop, (∃ m, W1 0 m H4) ∧ ∀ j k H, W1 j k H →
      (J1.stop j H ∧ Pv (i + 1) H) ∨ (J1.go j H ∧ ∃ N1 : Hp → Prop, (∀ H', N1 H' → ∃ k', k' < k ∧ W1 (j + 1) k' H') ∧ ∀ x H', J1.yld j H x H' → g1 x (wipe σ2 vs1) H' fun σ3 H5 => wipe σ3 vs1 = wipe σ2 vs1 ∧ tt1 σ3 H5 fun b H6 =>
        if b = true then te σ3 H6 fun y H7 => ∃ acc, H7 D = some (.lst acc) ∧ acc.length < sizeLine ∧ N1 (upd H7 D (.lst (acc ++ [y]))) else N1 H6) else Pv (i + 1) H3) (fin : ∀ H, Pv xs.length H → Qd H) :
    ∃ W : Nat → Nat → Hp → Prop, (∃ m, W 0 m (upd H1 D (.lst []))) ∧ ∀ i m H, W i m H →
      ((Itl K a).stop i H ∧ Qd H) ∨ ((Itl K a).go i H ∧ ∃ Nx : Hp → Prop, (∀ H', Nx H' → ∃ m', m' < m ∧ W (i + 1) m' H') ∧ ∀ x H', (Itl K a).yld i H x H' → g x (wipe σ vs) H' fun σ2 H2 => wipe σ2 vs = wipe σ vs ∧ tt σ2 H2 fun b H3 =>
        if b = true then wi1 σ2 H3 fun J1 H4 => ∃ W1 : Nat → Nat → Hp → Prop, (∃ m, W1 0 m H4) ∧ ∀ j k H, W1 j k H →
          (J1.stop j H ∧ Nx H) ∨ (J1.go j H ∧ ∃ Nx1 : Hp → Prop, (∀ H', Nx1 H' → ∃ k', k' < k ∧ W1 (j + 1) k' H') ∧ ∀ x H', J1.yld j H x H' → g1 x (wipe σ2 vs1) H' fun σ3 H5 => wipe σ3 vs1 = wipe σ2 vs1 ∧ tt1 σ3 H5 fun b H6 =>
            if b = true then te σ3 H6 fun y H7 => ∃ acc, H7 D = some (.lst acc) ∧ acc.length < sizeLine ∧ Nx1 (upd H7 D (.lst (acc ++ [y]))) else Nx1 H6)
        else Nx H3) := by
  refine ⟨fun i m H => m + i = xs.length ∧ Pv i H, ⟨xs.length, rfl, start⟩, fun i m H h => ?_⟩
  obtain ⟨hm, p⟩ := h
  have q := at_ i H (by omega) p
  by_cases hi : i < xs.length
  · refine Or.inr ⟨⟨xs, xs[i], q, List.getElem?_eq_getElem hi⟩, Pv (i + 1), fun H' p' => ⟨m - 1, by omega, by omega, p'⟩, fun x H' y => ?_⟩
    obtain ⟨rfl, y⟩ := y
    exact turn i x _ (y xs q) p
  · refine Or.inl ⟨⟨xs, q, by omega⟩, fin H ?_⟩
    rw [show xs.length = i by omega]
    exact p
/-- the inner loop, over a tuple -/
theorem in_tup {b : Addr} {ys : List V} {g1 : TG} {tt1 : TT} {te : TE} {vs1 : List Nat} {σ2 : L2.St} {H4 : Hp} {D : Addr} {Nx : Hp → Prop} (Pv : Nat → Hp → Prop) (start : Pv 0 H4) (at_ : ∀ j H, j ≤ ys.length → Pv j H → SqT K H b ys)
    (turn : ∀ j y H, ys[j]? = some y → Pv j H → g1 y (wipe σ2 vs1) H fun σ3 H5 => wipe σ3 vs1 = wipe σ2 vs1 ∧ tt1 σ3 H5 fun b H6 => if b = true then te σ3 H6 fun y H7 => ∃ acc, H7 D = some (.lst acc) ∧ acc.length < sizeLine ∧ Pv (j + 1) (upd H7 D (.lst (acc ++ [y]))) else Pv (j + 1) H6)
    (fin : ∀ H, Pv ys.length H → Nx H) :
    ∃ W1 : Nat → Nat → Hp → Prop, (∃ m, W1 0 m H4) ∧ ∀ j k H, W1 j k H →
      ((Itt K b).stop j H ∧ Nx H) ∨ ((Itt K b).go j H ∧ ∃ Nx1 : Hp → Prop, (∀ H', Nx1 H' → ∃ k', k' < k ∧ W1 (j + 1) k' H') ∧ ∀ x H', (Itt K b).yld j H x H' → g1 x (wipe σ2 vs1) H' fun σ3 H5 => wipe σ3 vs1 = wipe σ2 vs1 ∧ tt1 σ3 H5 fun b H6 =>
        if b = true then te σ3 H6 fun y H7 => ∃ acc, H7 D = some (.lst acc) ∧ acc.length < sizeLine ∧ Nx1 (upd H7 D (.lst (acc ++ [y]))) else Nx1 H6) := by
  refine ⟨fun i m H => m + i = ys.length ∧ Pv i H, ⟨ys.length, rfl, start⟩, fun i m H h => ?_⟩
  obtain ⟨hm, p⟩ := h
  have q := at_ i H (by omega) p
  by_cases hi : i < ys.length
  · refine Or.inr ⟨⟨ys, ys[i], q, List.getElem?_eq_getElem hi⟩, Pv (i + 1), fun H' p' => ⟨m - 1, by omega, by omega, p'⟩, fun x H' y => ?_⟩
    obtain ⟨rfl, y⟩ := y
    exact turn i x _ (y ys q) p
  · refine Or.inl ⟨⟨ys, q, by omega⟩, fin H ?_⟩
    rw [show ys.length = i by omega]
    exact p
/-- the inner loop, over a list -/
theorem in_list {b : Addr} {ys : List V} {g1 : TG} {tt1 : TT} {te : TE} {vs1 : List Nat} {σ2 : L2.St} {H4 : Hp} {D : Addr} {Nx : Hp → Prop} (Pv : Nat → Hp → Prop) (start : Pv 0 H4) (at_ : ∀ j H, j ≤ ys.length → Pv j H → SqL K H b ys)
    (turn : ∀ j y H, ys[j]? = some y → Pv j H → g1 y (wipe σ2 vs1) H fun σ3 H5 => wipe σ3 vs1 = wipe σ2 vs1 ∧ tt1 σ3 H5 fun b H6 => if b = true then te σ3 H6 fun y H7 => ∃ acc, H7 D = some (.lst acc) ∧ acc.length < sizeLine ∧ Pv (j + 1) (upd H7 D (.lst (acc ++ [y]))) else Pv (j + 1) H6)
    (fin : ∀ H, Pv ys.length H → Nx H) :
    ∃ W1 : Nat → Nat → Hp → Prop, (∃ m, W1 0 m H4) ∧ ∀ j k H, W1 j k H →
      ((Itl K b).stop j H ∧ Nx H) ∨ ((Itl K b).go j H ∧ ∃ Nx1 : Hp → Prop, (∀ H', Nx1 H' → ∃ k', k' < k ∧ W1 (j + 1) k' H') ∧ ∀ x H', (Itl K b).yld j H x H' → g1 x (wipe σ2 vs1) H' fun σ3 H5 => wipe σ3 vs1 = wipe σ2 vs1 ∧ tt1 σ3 H5 fun b H6 =>
        if b = true then te σ3 H6 fun y H7 => ∃ acc, H7 D = some (.lst acc) ∧ acc.length < sizeLine ∧ Nx1 (upd H7 D (.lst (acc ++ [y]))) else Nx1 H6) := by
  refine ⟨fun i m H => m + i = ys.length ∧ Pv i H, ⟨ys.length, rfl, start⟩, fun i m H h => ?_⟩
  obtain ⟨hm, p⟩ := h
  have q := at_ i H (by omega) p
  by_cases hi : i < ys.length
  · refine Or.inr ⟨⟨ys, ys[i], q, List.getElem?_eq_getElem hi⟩, Pv (i + 1), fun H' p' => ⟨m - 1, by omega, by omega, p'⟩, fun x H' y => ?_⟩
    obtain ⟨rfl, y⟩ := y
    exact turn i x _ (y ys q) p
  · refine Or.inl ⟨⟨ys, q, by omega⟩, fin H ?_⟩
    rw [show ys.length = i by omega]
    exact p
end
/-! ### a formula's tuple -/
theorem im_inv {K : PySem.W.Frag} {H : Hp} {x : V} {f : Fm} (h : Im K H x f.d) : ∃ (a : Addr) (ys : List V), x = .ref a ∧ SqT K H a (.str f.sg :: ys) ∧ ImAll K H ys f.pts := by
  rw [Fm.d_eq] at h
  generalize f.sg = sg at h ⊢
  cases h with
  | tup h1 h2 =>
    cases h2 with
    | cons h3 h4 =>
      cases h3
      exact ⟨_, _, rfl, h1, h4⟩
def Fm.isVar : Fm → Bool
  | .var _ => true
  | _ => false
def Fm.isBox : Fm → Bool
  | .box _ => true
  | _ => false
theorem vsg : ∀ i j : Fin 6, decide (V.str (sgT i) = V.str (sgT j)) = decide (i = j) := by decide +kernel
theorem sg_var (f : Fm) : decide (V.str f.sg = V.str "var") = f.isVar := by
  show decide (V.str (sgT f.rk) = V.str (sgT 5)) = _
  rw [vsg]
  cases f <;> rfl
theorem sg_box (f : Fm) : decide (V.str f.sg = V.str "box") = f.isBox := by
  show decide (V.str (sgT f.rk) = V.str (sgT 1)) = _
  rw [vsg]
  cases f <;> rfl
theorem kids_pts {f : Fm} (h : f.isVar = false) : f.pts = f.kids.map Fm.d := by
  cases f <;> first | rfl | cases h
theorem kids_var {f : Fm} (h : f.isVar = true) : f.kids = [] ∧ ∃ n, f = .var n := by
  cases f <;> first | exact ⟨rfl, _, rfl⟩ | cases h
theorem cut_1 (xs : List V) (x : V) : cutV (x :: xs) (some 1) none = xs := by
  unfold cutV
  rw [show HT.sIx (x :: xs).length 0 (some 1) = 1 from by
    show (if (1 : Int) < 0 then ((1 : Int) + ((x :: xs).length : Int)).toNat else min (1 : Int).toNat (x :: xs).length) = 1
    rw [if_neg (by decide), List.length_cons]
    omega, HT.sIx_none]
  show List.take _ xs = xs
  exact List.take_of_length_le (by rw [List.length_cons]; omega)
theorem sIx_1 (xs : List V) (x : V) : HT.sIx (x :: xs).length 0 (some 1) = 1 := by
  show (if (1 : Int) < 0 then ((1 : Int) + ((x :: xs).length : Int)).toNat else min (1 : Int).toNat (x :: xs).length) = 1
  rw [if_neg (by decide), List.length_cons]
  omega
theorem imAll_of {K : PySem.W.Frag} {H : Hp} {xs : List V} {fs : List Fm} {x : V} {i : Nat} (hI : ImAll K H xs (fs.map Fm.d)) (h : xs[i]? = some x) : ∃ f, fs[i]? = some f ∧ Im K H x f.d := by
  obtain ⟨d, e, j⟩ := hI.get h
  rw [List.getElem?_map] at e
  cases e2 : fs[i]? with
  | none => rw [e2] at e; cases e
  | some f =>
    rw [e2] at e
    have : f.d = d := Option.some.inj e
    subst this
    exact ⟨f, rfl, j⟩
theorem take_snoc {α : Type} {l : List α} {i : Nat} {x : α} (h : l[i]? = some x) : l.take (i + 1) = l.take i ++ [x] := by
  rw [List.take_add_one, h]
  rfl
theorem fms_len {K : PySem.W.Frag} {H : Hp} {xs : List V} {fs : List Fm} (h : ImAll K H xs (fs.map Fm.d)) : xs.length = fs.length := by
  have := h.length
  rw [List.length_map] at this
  exact this
theorem imAll_append {K : PySem.W.Frag} {H : Hp} : ∀ {xs ys : List V} {ds es : List PyData}, ImAll K H xs ds → ImAll K H ys es → ImAll K H (xs ++ ys) (ds ++ es)
  | _, _, _, _, .nil, h => h
  | _, _, _, _, .cons a t, h => .cons a (imAll_append t h)
/-- a list of lists of formulas -/
inductive LvAt (K : PySem.W.Frag) (H : Hp) : List V → List (List Fm) → Prop
  | nil : LvAt K H [] []
  | cons {b : Addr} {ys : List V} {fs : List Fm} {vs : List V} {ls : List (List Fm)} : SqL K H b ys → ImAll K H ys (fs.map Fm.d) → LvAt K H vs ls → LvAt K H (.ref b :: vs) (fs :: ls)
theorem LvAt.same {K : PySem.W.Frag} {H H' : Hp} (s : Same H H') : ∀ {vs : List V} {ls : List (List Fm)}, LvAt K H vs ls → LvAt K H' vs ls
  | _, _, .nil => .nil
  | _, _, .cons h1 h2 t => .cons (s.seq h1) (h2.mono (Same.ts s)) (LvAt.same s t)
theorem LvAt.snoc {K : PySem.W.Frag} {H : Hp} {b : Addr} {ys : List V} {fs : List Fm} (h1 : SqL K H b ys) (h2 : ImAll K H ys (fs.map Fm.d)) : ∀ {vs : List V} {ls : List (List Fm)}, LvAt K H vs ls → LvAt K H (vs ++ [.ref b]) (ls ++ [fs])
  | _, _, .nil => .cons h1 h2 .nil
  | _, _, .cons a1 a2 t => .cons a1 a2 (LvAt.snoc h1 h2 t)
theorem LvAt.len {K : PySem.W.Frag} {H : Hp} : ∀ {vs : List V} {ls : List (List Fm)}, LvAt K H vs ls → vs.length = ls.length
  | _, _, .nil => rfl
  | _, _, .cons _ _ t => by rw [List.length_cons, List.length_cons, LvAt.len t]
theorem LvAt.get {K : PySem.W.Frag} {H : Hp} : ∀ {vs : List V} {ls : List (List Fm)} {i : Nat} {v : V}, LvAt K H vs ls → vs[i]? = some v → ∃ b ys fs, v = .ref b ∧ ls[i]? = some fs ∧ SqL K H b ys ∧ ImAll K H ys (fs.map Fm.d)
  | _, _, _, _, .nil, e => by simp at e
  | _, _, 0, _, .cons h1 h2 _, e => by simp at e; subst e; exact ⟨_, _, _, rfl, rfl, h1, h2⟩
  | _, _, i + 1, v, .cons _ _ t, e => by
    obtain ⟨b, ys, fs, q1, q2, q3⟩ := LvAt.get (i := i) (v := v) t (by simpa using e)
    exact ⟨b, ys, fs, q1, by simpa using q2, q3⟩
/-- the list that holds the levels grows -/
theorem LvAt.mut {K : PySem.W.Frag} {H H' : Hp} {L : Addr} {ws : List V} (k : Kp L H H') (hL : H L = some (.lst ws)) : ∀ {vs : List V} {ls : List (List Fm)}, LvAt K H vs ls → (∀ v ∈ vs, v ≠ .ref L) → LvAt K H' vs ls
  | _, _, .nil, _ => .nil
  | _, _, .cons h1 h2 t, n => .cons (k.sqL h1 fun e => n _ List.mem_cons_self (by rw [e])) (h2.mono (k.ts hL)) (LvAt.mut k hL t fun v hv => n v (List.mem_cons_of_mem _ hv))
theorem levs_nil (n : Nat) : levs n [] = [] := by cases n <;> rfl
theorem kids_subs {f g h : Fm} (h1 : g ∈ f.subs) (h2 : h ∈ g.kids) : h ∈ f.subs := by
  induction f with
  | and a b iha ihb =>
    rcases subs_kids.mp h1 with rfl | ⟨k, hk, hg⟩
    · exact subs_kids.mpr (.inr ⟨h, h2, subs_kids.mpr (.inl rfl)⟩)
    · have q : k = a ∨ k = b := by simpa [Fm.kids] using hk
      rcases q with rfl | rfl
      · exact subs_kids.mpr (.inr ⟨k, hk, iha hg⟩)
      · exact subs_kids.mpr (.inr ⟨k, hk, ihb hg⟩)
  | or a b iha ihb =>
    rcases subs_kids.mp h1 with rfl | ⟨k, hk, hg⟩
    · exact subs_kids.mpr (.inr ⟨h, h2, subs_kids.mpr (.inl rfl)⟩)
    · have q : k = a ∨ k = b := by simpa [Fm.kids] using hk
      rcases q with rfl | rfl
      · exact subs_kids.mpr (.inr ⟨k, hk, iha hg⟩)
      · exact subs_kids.mpr (.inr ⟨k, hk, ihb hg⟩)
  | imp a b iha ihb =>
    rcases subs_kids.mp h1 with rfl | ⟨k, hk, hg⟩
    · exact subs_kids.mpr (.inr ⟨h, h2, subs_kids.mpr (.inl rfl)⟩)
    · have q : k = a ∨ k = b := by simpa [Fm.kids] using hk
      rcases q with rfl | rfl
      · exact subs_kids.mpr (.inr ⟨k, hk, iha hg⟩)
      · exact subs_kids.mpr (.inr ⟨k, hk, ihb hg⟩)
  | box a iha =>
    rcases subs_kids.mp h1 with rfl | ⟨k, hk, hg⟩
    · exact subs_kids.mpr (.inr ⟨h, h2, subs_kids.mpr (.inl rfl)⟩)
    · have q : k = a := by simpa [Fm.kids] using hk
      subst q
      exact subs_kids.mpr (.inr ⟨k, hk, iha hg⟩)
  | fal =>
    have e : g = .fal := by simpa [Fm.subs] using h1
    subst e
    cases h2
  | var n =>
    have e : g = .var n := by simpa [Fm.subs] using h1
    subst e
    cases h2
theorem flat_len (l : List Fm) : (l.flatMap Fm.kids).length ≤ (l.map Fm.sz).sum := by
  induction l with
  | nil => exact Nat.le_refl _
  | cons f l ih =>
    rw [List.flatMap_cons, List.length_append, List.map_cons, List.sum_cons, ← kids_sz f]
    have := sum_len f.kids
    omega
end E

set_option Elab.async false
set_option linter.all false
set_option maxRecDepth 100000
set_option maxHeartbeats 4000000
namespace E
open PySem PySem.Spec PyProof.Rows L2 PySem.SeqAt ELt PySem.W PySem.Calls
/-! ### pairs of ints: >= and sorted -/
def zd (z : Int × Int) : PyData := .tuple [.int z.1, .int z.2]
def zlt (z u : Int × Int) : Bool := if z.1 = u.1 then decide (z.2 < u.2) else decide (z.1 < u.1)
def rGeZ (K : PySem.W.Frag) : R2 := fun x y H Q => ∃ z u : Int × Int, Im K H x (zd z) ∧ Im K H y (zd u) ∧ Q (.bl (!zlt z u)) H
theorem op_geZ {X : Cx} (hu : X.A.units + 64 < cLine) : OpR X (compareOp .GtE) (rGeZ X.K) := by
  intro pins s σ H x y v u Q I rx ry h
  obtain ⟨z, t, hz, ht, q⟩ := h
  obtain ⟨as, r1⟩ := Dp.reads I _ x v hz.dp rx
  obtain ⟨bs, r2⟩ := Dp.reads I _ y u ht.dp ry
  refine PySem.W.ge_datum (α := Int × Int) (x := z) (y := t) ⟨as, r1⟩ ⟨bs, r2⟩ (Nat.lt_of_le_of_lt (Nat.add_le_add_left (show PySem.W.Datum.depth (Int × Int) ≤ 64 by decide) _) hu) ⟨.bl _, H, I, rfl, ?_⟩
  exact q
theorem each_ofZ {X : Cx} {pins : List (Addr × Obj)} {σ : L2.St} {H : Hp} {s : Shared} (I : Inv X pins σ H s) : ∀ {xs : List V} {us : List Value} {fs : List (Int × Int)}, Vals xs us → ImAll X.K H xs (fs.map zd) →
    EachIs (fun v f => ∃ x : V, RelV x v ∧ Im X.K H x (zd f)) us fs ∧ EachIs (fun v f => ∃ as, Reads s.heap v (zd f) as) us fs
  | _, _, [], .nil, _ => ⟨.nil, .nil⟩
  | _, _, f :: fs, .cons r t, i => by
    have i' : ImAll X.K H _ (zd f :: fs.map zd) := i
    cases i' with
    | cons i1 i2 =>
      obtain ⟨a1, a2⟩ := each_ofZ I t i2
      exact ⟨.cons ⟨_, r, i1⟩ a1, .cons (Dp.reads I _ _ _ i1.dp r) a2⟩
theorem each_backZ {K : PySem.W.Frag} {H : Hp} : ∀ {us : List Value} {fs : List (Int × Int)}, EachIs (fun v f => ∃ x : V, RelV x v ∧ Im K H x (zd f)) us fs → ∃ ys : List V, Vals ys us ∧ ImAll K H ys (fs.map zd)
  | _, _, .nil => ⟨[], .nil, .nil⟩
  | _, _, .cons ⟨x, r, i⟩ t => by
    obtain ⟨ys, h1, h2⟩ := each_backZ t
    exact ⟨x :: ys, .cons r h1, .cons i h2⟩
def rSortedZ (K : PySem.W.Frag) : List V → Hp → VK → Prop := fun vs H Q => ∃ (a : Addr) (xs : List V) (zs : List (Int × Int)), vs = [V.ref a] ∧ SqL K H a xs ∧ ImAll K H xs (zs.map zd) ∧
  ∀ (p : Addr) (ys : List V) (us : List (Int × Int)), H p = none → us.Perm zs → ImAll K H ys (us.map zd) → Q (.ref p) (upd H p (.lst ys))
theorem cr_sortedZ {X : Cx} (hu64 : X.A.units + 64 < cLine) : CallR X (.builtin "sorted") (rSortedZ X.K) := by
  intro pins s σ H vs us Q I r h
  obtain ⟨a, xs, fs, rfl, hs, hi, q⟩ := h
  obtain ⟨its, rv, hl, hz⟩ := I.list hs
  obtain ⟨u, rfl, ru⟩ := vals1 r
  obtain rfl : u = Value.ref a := ru
  obtain ⟨e1, e2⟩ := each_ofZ I rv hi
  have e9 : fs.map zd = fs.map (PySem.W.Datum.toD (α := Int × Int)) := rfl
  refine PySem.W.sorted_data (enc := zd) hl.isList e1 e2 ?_ ?_ (by rw [← e1.length, ← rv.length]; exact hz) (fun b hb => ?_) fun out ho eo => ?_
  · intro d hd d' hd'
    obtain ⟨b, _, rfl⟩ := List.mem_map.mp hd
    obtain ⟨b', _, rfl⟩ := List.mem_map.mp hd'
    exact PySem.W.DatumOrd.alike (α := Int × Int) b b'
  · exact .inl fun d hd => by
      obtain ⟨b, _, rfl⟩ := List.mem_map.mp hd
      exact ⟨_, _, rfl⟩
  · show X.A.units + 2 + (zd b).depth < cLine
    have : (zd b).depth = 1 := rfl
    omega
  · obtain ⟨ys, y1, y2⟩ := each_backZ eo
    obtain ⟨n, hn⟩ := sortedAll_at s.heap its out.toArray
    have hf : s.heap.objs.size ≤ s.heap.objs.size + 1 := Nat.le_succ _
    refine ⟨.ref (s.heap.objs.size + 1), upd H _ (.lst ys), I.laid (t' := s.toks) (fun _ _ => sortedAll_old) hf ⟨?_, _, n, y1, hn⟩, rfl, q _ ys _ (I.hok.fresh hf) (List.mergeSort_perm _ _) y2⟩
    have hl2 := y1.length
    have := rv.length
    have := e1.length
    omega
end E

set_option Elab.async false
set_option linter.all false
set_option maxRecDepth 100000
set_option maxHeartbeats 4000000
namespace E
open PySem PySem.Spec PyProof.Rows L2
/-! ### own classes made within a try; sets of a list's ints; dicts that do not differ -/
section
variable {X : Cx} {CX : CXT} {k : Nat} {f C : Addr} {fd : FuncData} {ps : List Str} {sp : Sp} {Wi : L2.St → XK} {x : Str} {p pos : Pos} {e : Expr} {es : List Expr} {t : TA}
/-- C(..) whose maker may raise: the wish is told at the slots as they stand -/
def tMakeAt (C : Addr) (sp : Sp) (Wi : L2.St → XK) (t : TA) : TE := fun σ H Q => t σ H fun vs H1 => ∀ x dx, H1 x = none → H1 dx = none → dx ≠ x →
  sp (.ref x :: vs) (upd (upd H1 dx (.own x)) x (.ins C dx [])) (fun v H2 => v = .non ∧ Q (.ref x) H2) (Wi σ)
theorem pe_makeAt (M : Mk X.K C f) (F : FnOk X.prog X.w X.K X.mg X.base CX k f fd ps sp) (hr : Room (k + 1) X.A) (hg : Gl X x) (hm : X.mg x = some (.ref C)) (hb : Binds X.K fd ps []) (hx : ∀ σ, PassesAt CX X σ (Wi σ)) (ha : PA X (e :: es) t)
    (hdb : (x == ("__debug__" : Str)) = false := by decide) (he : starEach (e :: es) X.env = (false, eval e X.env) :: starEach es X.env := by rfl) (hpl : (backTo pos (starEach es X.env)).any (·.1) = false := by rfl) :
    PE X (.Call (.Name x p) (e :: es) [] pos) (tMakeAt C sp Wi t) := by
  refine ⟨fun pins s σ H Q I h => wpAny_Call_Name_kw (ld_glob I hg hm (PySem.W.callWith_K (h₀ := X.base) I.ok.mod.kin M.kp (thn (ha.run pos pins s σ H _ I h) fun us s1 ⟨vs, H1, I1, r, q⟩ => ⟨I1.kIn, ?_⟩) he hpl) hdb)⟩
  have n1 := I1.hok.fresh (Nat.le_succ s1.heap.objs.size)
  have n0 := I1.hok.fresh (Nat.le_refl s1.heap.objs.size)
  have hq := q (s1.heap.objs.size + 1) s1.heap.objs.size n1 n0 (Nat.ne_of_lt (Nat.lt_succ_self _))
  have J := Inv.made (C := C) I1
  have rv : Vals (V.ref (s1.heap.objs.size + 1) :: vs) (Value.ref (s1.heap.objs.size + 1) :: us) := .cons rfl r
  have len : (Value.ref (s1.heap.objs.size + 1) :: us).length = ps.length := rv.length.symm.trans (F.len _ _ _ _ hq)
  have bd := hb _ (Value.ref (s1.heap.objs.size + 1) :: us) J.kIn (by rw [List.append_nil]; exact len)
  rw [List.append_nil] at bd
  show wpAny _ _ (call (.ref C) us) _ _ _
  refine wpAny_call (make_map (f := f) I1.kIn M.makes M.init (beq_iff_eq.mp M.fn) (codeAny_mono (F.run _ X.stack _ _ ⟨_, []⟩ _ _ _ (Wi σ) (hr.make C us []) (J.env0.make C us []) bd rv hq) fun res s' done => ?_))
  rcases res with er | fl
  · exact hx σ pins _ _ er s' J done
  · rcases fl with _ | _ | _ | u
    case ret =>
      obtain ⟨v, H', J', r', ev, q'⟩ := J.after done
      subst ev
      exact ⟨r', ⟨V.ref (s1.heap.objs.size + 1), H', J', rfl, q'⟩⟩
    all_goals exact done.elim
/-- the reading of a suite that is entered for errors of one class alone -/
def tOnly (cls : Value) (d : Option Addr) (D : Addr) (t : L2.TS) : L2.TS := fun En σ H => (cls = .ref D ∧ d = none) ∧ t En σ H
theorem pss_only {cls : Value} {d : Option Addr} {D : Addr} {b : List Stmt} {t : L2.TS} (h : cls = .ref D → d = none → PSs X b t) : PSs X b (tOnly cls d D t) :=
  ⟨fun pins s σ H En I q => (h q.1.1 q.1.2).run pins s σ H En I q.2⟩
theorem pss_only2 {cls : Value} {d : Option Addr} {D : Addr} {b : List Stmt} {t : L2.TS} {oe : Obj} (hz : Zc cls d oe) (h : Zc (.ref D) none oe → PSs X b t) : PSs X b (tOnly cls d D t) :=
  ⟨fun pins s σ H En I q => (h (by rw [← q.1.1, ← q.1.2]; exact hz)).run pins s σ H En I q.2⟩
/-- d != e of two dicts with the same keys, whose values are equal lists of ints -/
def rNeV (K : PySem.W.Frag) : R2 := fun x y H Q => ∃ a b ks ls, x = .ref a ∧ y = .ref b ∧ H a = some (.dK ks) ∧ H b = some (.dK ls) ∧ ks.length = ls.length ∧
  (∀ p ∈ ks, ∃ (u : V) (ns : List Int), valV ls p.1 = some u ∧ Dp K H p.2 (.list (ns.map PyData.int)) ∧ Dp K H u (.list (ns.map PyData.int))) ∧ Q (.bl false) H
theorem eqv_intsL (ns : List Int) : PyData.eqv (.list (ns.map PyData.int)) (.list (ns.map PyData.int)) = true := by
  have e : PySem.Spec.same (.list (ns.map PyData.int)) (.list (ns.map PyData.int)) = true := by
    simp only [PySem.Spec.same]
    rw [PySem.W.same_ints]
    exact decide_eq_true rfl
  rw [← e]
  exact (SeqAt.same_eq_eqv _ _ (by simp only [SeqAt.noMix]; exact PySem.W.noMix_ints ns ns)).symm
theorem hits_ints {H : Hp} {s : Shared} {A : Around} {pins : List (Addr × Obj)} {σ : L2.St} (I : Inv X pins σ H s) (hu : A.in1.units + 64 < cLine) {ls : List (Key × V)} {vb : List (Key × Value)} (rb : KV ls vb) {ks : List (Key × V)} {va : List (Key × Value)} (ra : KV ks va) :
    (∀ p ∈ ks, ∃ (u : V) (ns : List Int), valV ls p.1 = some u ∧ Dp X.K H p.2 (.list (ns.map PyData.int)) ∧ Dp X.K H u (.list (ns.map PyData.int))) → PySem.W.KeqHits A.in1 s vb va true := by
  unfold KV at ra
  induction ra with
  | nil => exact fun _ => .nil
  | @cons g q gs qs hgq _ more =>
    intro all
    obtain ⟨key, val⟩ := q
    obtain ⟨e1, e2⟩ := hgq
    obtain ⟨u, ns, hv, d1, d2⟩ := all g List.mem_cons_self
    obtain ⟨y, hy, ry⟩ := (show RelO (some u) (valueAt vb g.1) by rw [← hv]; exact rb.val g.1).some_of
    have e1 : g.1 = key := e1
    rw [e1] at hy
    obtain ⟨as, r1⟩ := Dp.reads I _ _ val d1 e2
    obtain ⟨bs, r2⟩ := Dp.reads I _ _ y d2 ry
    have one := PySem.W.keq_at (A := A) r1 r2 (shaped_ints ns) (shaped_ints ns) hu
    rw [eqv_intsL] at one
    exact PySem.W.KeqHits.hit hy one (more fun p' m => all p' (List.mem_cons_of_mem _ m))
theorem op_neV (hu : X.A.units + 66 < cLine) : OpR X (compareOp .NotEq) (rNeV X.K) := by
  intro pins s σ H x y v u Q I rx ry ⟨a, b, ks, ls, ex, ey, ha, hb, hl, hp, q⟩
  subst ex ey
  cases rx; cases ry
  obtain ⟨_, ya, va, ra, da⟩ := (show ObjOk X.prog X.w H s.heap a (.dK ks) from I.hok a _ ha)
  obtain ⟨_, yb, vb, rb, db⟩ := (show ObjOk X.prog X.w H s.heap b (.dK ls) from I.hok b _ hb)
  have e : va.length = vb.length := ra.length.symm.trans (hl.trans rb.length)
  refine PySem.W.keq_ne (knd := mixKind X.prog X.w) (r := true) ya yb da db (by omega) (fun _ => hits_ints (A := X.A) I (by show X.A.units + 1 + 64 < cLine; omega) rb ra hp) ⟨.bl false, H, I, ?_, q⟩
  simp [e, L2.RelV]
end
/-- an error of the class at S is what «except S» names -/
theorem exm_self {K : PySem.W.Frag} {S : Addr} (h1 : PySem.W.subIn K (.ref S) (.type "BaseException") = some true) (h2 : PySem.W.isClsIn K S = true) (h3 : PySem.W.typeIn K (.ref S) = some (.type "type")) (h4 : PySem.W.subIn K (.ref S) (.ref S) = some true) :
    PySem.W.exmOne K (.ref S) (.ref S) = some true := by
  have h2' : (PySem.W.clsIn K S).isSome = true := h2
  unfold PySem.W.exmOne PySem.W.kitCls
  simp [h1, h2', h3, h4]
end E

set_option Elab.async false
set_option linter.all false
set_option maxRecDepth 100000
set_option maxHeartbeats 4000000
namespace E
open PySem PySem.Spec PyProof.Rows L2
/-- an empty set as the model lays it -/
abbrev so0 (w : World) : Obj := { cls := .type "set", dict := none, data := .set #[] 0 (.fresh 0 0 (!w.params.followText "set-order")) }
/-- what set(xs) leaves: the members, in a heap that keeps all -/
def SetDone (w : World) (ns : List Int) (s : Shared) (h' : Heap) (c : Nat) : Prop := SetR w h' s.heap.objs.size (fun j => decide (j ∈ ns)) c ∧ c ≤ ns.length ∧ ∀ b o, s.heap.get? b = some o → h'.get? b = some o
section
variable {P : Program} {w : World} {A : Around} {Er : Value → Shared → Prop} {s : Shared}
theorem vals_at {items : Array Value} {ns : List Int} (hit : IntsAre items.toList ns) (hn : items.size = ns.length) (i : Nat) (v : Value) (hv : items[i]? = some v) : ∃ k t, ns[i]? = some k ∧ v = .int k t := by
  have hi : i < ns.length := hn ▸ (Array.getElem?_eq_some_iff.mp hv).1
  obtain ⟨t, e⟩ := IntsAre.int_at hit i v (by rw [Array.getElem?_toList, hv])
  exact ⟨ns[i], t, List.getElem?_eq_getElem hi, by rw [e, List.getD_eq_getElem?_getD, List.getElem?_eq_getElem hi, Option.getD_some]⟩
/-- the filling of the new set from the list at l -/
theorem fill_list {l : Addr} {items : Array Value} (ns : List Int) (hh : A.handled = none) (hl : s.heap.IsList l items) (hit : IntsAre items.toList ns) (hb : ns.length + 1 < scanBound) {R : Result → Shared → Prop}
    (hR : ∀ (h' : Heap) (tk c : Nat), SetDone w ns s h' c → R (.ok (.ret .none)) { s with heap := h', toks := tk }) :
    codeAny (model P w) A.in1.in1 (.builtin "set.update.loop" ⟨[.ref s.heap.objs.size, .ref (s.heap.push (so0 w)).objs.size], []⟩) R
      { s with heap := (s.heap.push (so0 w)).push { cls := .type "list_iterator", data := .fields #[.ref l, .int 0 0] } } := by
  have hn : items.size = ns.length := by
    rw [← Array.length_toList]
    exact IntsAre.length hit
  have low : l < s.heap.objs.size := let ⟨_, e, _⟩ := hl; Heap.lt_size e
  have sz : (s.heap.push (so0 w)).objs.size = s.heap.objs.size + 1 := Heap.size_push ..
  have nl : l ≠ (s.heap.push (so0 w)).objs.size := sz ▸ Nat.ne_of_lt (Nat.lt_succ_of_lt low)
  have out : s.heap.objs.size ∉ [(s.heap.push (so0 w)).objs.size, l] := by
    rw [sz]
    simp only [List.mem_cons, List.not_mem_nil, or_false, not_or]
    exact ⟨Nat.ne_of_lt (Nat.lt_succ_self _), (Nat.ne_of_lt low).symm⟩
  have at0 : ((s.heap.push (so0 w)).push { cls := .type "list_iterator", data := .fields #[.ref l, .int 0 0] }).get? s.heap.objs.size = some (so0 w) := Heap.get?_push_of_some _ (Heap.get?_push_size _ rfl)
  have W := Walks.list (prog := P) (w := w) (A := A.in1.in1.in1) (by simp [hh]) (s.heap.push (so0 w)).objs.size l nl items
  refine set_update_ints W.toS s.heap.objs.size out ns hn hb (vals_at hit hn) items.size 0 _ (Nat.sub_zero _) (Nat.zero_le _) ⟨⟨_, Heap.get?_push_size _ rfl, rfl, rfl⟩, (hl.push _).push _⟩ ⟨0, Nat.le_refl 0, setR_new_at at0⟩ fun s' c mv hc hS => ?_
  rcases s' with ⟨h', gg, dd, tt, oo⟩
  obtain rfl : gg = s.gens := mv.gens
  obtain rfl : dd = s.drawn := mv.drawn
  obtain rfl : oo = s.os := mv.os
  refine hR h' tt c ⟨hS, hn ▸ hc, fun b o e => mv.heap b o ?_ (Heap.get?_push_of_some _ (Heap.get?_push_of_some _ e))⟩
  have lt := Heap.lt_size e
  rw [sz]
  simp only [List.mem_cons, List.not_mem_nil, or_false, not_or]
  exact ⟨Nat.ne_of_lt lt, Nat.ne_of_lt (Nat.lt_succ_of_lt lt)⟩
/-- set(xs) of a list of ints -/
theorem call_set_ints {l : Addr} {items : Array Value} (ns : List Int) {Q : Value → Shared → Prop} (hh : A.handled = none) (hl : s.heap.IsList l items) (hit : IntsAre items.toList ns) (hb : ns.length + 1 < scanBound)
    (done : ∀ (h' : Heap) (tk c : Nat), SetDone w ns s h' c → Q (.ref s.heap.objs.size) { s with heap := h', toks := tk }) : wpAny (model P w) A (call (.type "set") [.ref l]) Q Er s := by
  obtain ⟨c0, t0, mro⟩ := F.called_set.mro
  have m1 := F.called_set.made
  have m2 := F.called_set.sub
  have m3 := F.called_set.notType
  have m4 := F.called_set.canCreate
  have m5 := F.typeCall_set_1 (.ref l)
  refine wpAny_call (codeAny_of_tree (show wpAny _ _ (callAny (.type "set") _) _ _ _ from wpAny_pure ⟨Code.quiet_builtin _ (by decide +kernel), codeAny_builtin F.entry_type_call ?_⟩))
  rw [Around.under_plain (weight_type_call_type "set" [.ref l] []) rfl]
  repeat (any_goals (first | assumption | wp_step))
  refine codeAny_mono (code_set_led1 (.ref l) (E := Er) (Q₁ := fun u s1 => u = .ref s.heap.objs.size ∧ s1 = { s with heap := s.heap.push (so0 w) }) ⟨rfl, rfl⟩) fun r s1 q => ?_
  rcases r with er | fl
  · exact q
  rcases fl with _ | _ | _ | u
  case ret =>
    obtain ⟨rfl, rfl⟩ := q
    have at0 : (s.heap.push (so0 w)).get? s.heap.objs.size = some (so0 w) := Heap.get?_push_size _ rfl
    have isSet : Shared.TypeIs { s with heap := s.heap.push (so0 w) } (.ref s.heap.objs.size) "set" := ⟨_, at0, rfl⟩
    have i1 := F.called_set.init.lookup
    have i2 := F.called_set.init.bind (.ref s.heap.objs.size)
    repeat (any_goals (first | assumption | wp_step))
    refine codeAny_mono (codeAny_call_builtin (R := wants (fun r s2 => r = .none ∧ ∃ h' tk c, s2 = { s with heap := h', toks := tk } ∧ SetDone w ns s h' c) Er) F.called_set.init.plain F.entry_set_init (check_set_init_1 isSet ?_)) fun r2 s2 q2 => ?_
    · have hl1 : (s.heap.push (so0 w)).IsList l items := hl.push _
      obtain ⟨ol, e0, hcl, nl, hdl⟩ := hl1
      obtain ⟨ocls, odict, odata, oslots⟩ := ol
      obtain rfl : ocls = _ := hcl
      obtain rfl : odata = _ := hdl
      have z1 := F.sub_list_set
      have z2 := F.sub_list_frozenset
      have z3 : (Value.type "list" == Value.type "dict") = false := by decide
      unfold Builtin.«set.__init__» noKeywords Builtin.Frozenset.updateFrom
      generalize hPI : pyIter = PI
      wp_walk
      subst hPI
      refine wpAny_pyIter_list (hl.push _) (wpAny_bind (wpAny_runValue (fill_list ns hh hl hit hb fun h' tk c d => ?_)))
      refine wpAny_pure (show wpAny _ _ (ret Value.none) _ _ _ from wpAny_pure ⟨rfl, h', tk, c, rfl, d⟩)
    · rcases r2 with er | fl2
      · exact q2
      rcases fl2 with _ | _ | _ | u2
      case ret =>
        obtain ⟨rfl, h', tk, c, rfl, d⟩ := q2
        repeat (any_goals (first | assumption | wp_step))
        exact done _ _ _ d
      all_goals exact q2.elim
  all_goals exact q.elim
end
section
variable {X : Cx}
def rSetLI (w : World) (K : PySem.W.Frag) : List V → Hp → VK → Prop := fun xs H Q => ∃ (l : Addr) (ns : List Int), xs = [V.ref l] ∧ SqL K H l (ns.map V.int) ∧ ns.length ≤ 1000 ∧
  ∀ (a : Addr) (c : Nat), H a = none → c ≤ ns.length → Q (.ref a) (upd H a (SetO w a (fun j => decide (j ∈ ns)) c))
theorem cr_setLI (hc : X.calm = true) : CallR X (.type "set") (rSetLI X.w X.K) := by
  intro pins s σ H xs us Q I r ⟨l, ns, ex, hl, hn, q⟩
  subst ex
  rw [Vals.ref1 r]
  obtain ⟨its, rv, pl, _⟩ := I.list hl
  refine call_set_ints ns (I.ok.hd hc) pl.isList (by simpa using rv.ints) (by unfold scanBound; omega) fun h' tk c d => ?_
  exact ⟨.ref _, _, I.laid (t' := tk) d.2.2 (Nat.le_refl _) (setO_new d.1), rfl, q _ c (I.hok.fresh (Nat.le_refl _)) d.2.1⟩
theorem cr_setLI2 (hc : X.calm = true) (_ : X.A.units + 64 < cLine) : CallR X (.type "set") (rSetLI X.w X.K) := cr_setLI hc
end
end E

set_option Elab.async false
set_option linter.all false
set_option maxRecDepth 100000
set_option maxHeartbeats 4000000
namespace E
open PySem PySem.Spec PyProof.Rows L2 LamX NdefX
/-! ### lambdas with parameters that capture nothing -/
/-- a lambda's words, its code object -/
structure LF where
  qual : Str
  params : Arguments
  body : Expr
  scope : Scope
  c : Addr
abbrev LF.nf (F : LF) : NF := ⟨"<lambda>", F.qual, F.params, [], F.scope, [], F.c⟩
/-- the object at f is the lambda F -/
def LamO (f : Addr) (F : LF) : HO := .ext fun h => ∃ (pm ctv : Value), h.get? f = some (PySem.W.kla_obj "<lambda>" F.qual F.params F.body F.scope [] pm F.c ctv)
theorem lamO_at {P : Program} {w : World} {H : Hp} {h : Heap} {f : Addr} {F : LF} (hok : HOk P w H h) (e : H f = some (LamO f F)) : ∃ (pm ctv : Value), h.get? f = some (PySem.W.kla_obj "<lambda>" F.qual F.params F.body F.scope [] pm F.c ctv) := by
  obtain ⟨z, _, _⟩ := hok f _ e
  exact z
theorem inv_lam {X : Cx} {pins : List (Addr × Obj)} {σ : L2.St} {H : Hp} {s : Shared} {F : LF} {o : Obj} {t' : Nat} {pm ctv : Value} (I : Inv X pins σ H s) (ho : o = PySem.W.kla_obj "<lambda>" F.qual F.params F.body F.scope [] pm F.c ctv) :
    Inv X pins σ (upd H s.heap.objs.size (LamO s.heap.objs.size F)) { s with heap := s.heap.push o, toks := t' } := by
  subst ho
  refine I.laid (a := s.heap.objs.size) (fun b u e => Heap.get?_push_of_some _ e) (Nat.le_refl _) ?_
  have e : (s.heap.push (PySem.W.kla_obj "<lambda>" F.qual F.params F.body F.scope [] pm F.c ctv)).get? s.heap.objs.size = some (PySem.W.kla_obj "<lambda>" F.qual F.params F.body F.scope [] pm F.c ctv) := Heap.get?_push_size _ rfl
  exact ⟨⟨pm, ctv, e⟩, ⟨_, e⟩, fun h1 h2 ⟨p, t, z⟩ st => ⟨p, t, st _ z⟩⟩
/-- the reading of «lambda ..: ..»: the new function -/
def tLam (T : List NTab) (mk : Addr → LF) : TE := fun σ H Q => TabsN T H ∧ ∀ (f c' : Addr) (H1 : Hp), ExtN H H1 → TabsN T H1 → H f = none → H1 f = some (LamO f (mk c')) → H1 c' = some (CodeO c' (mk c').qual) → Q (.ref f) H1
theorem clo_none {cells : List (Str × Addr)} {names : List (Str × NameKind)} (h : (names.all fun y => !decide (y.2 = .free)) = true) : cloFrom cells names [] = [] := by
  have key : ∀ (l : List (Str × NameKind)), (∀ y ∈ l, y.2 ≠ .free) → ∀ acc, cloFrom cells l acc = acc := by
    intro l
    induction l with
    | nil => exact fun _ _ => rfl
    | cons y l ih =>
      intro hy acc
      have h1 := hy y List.mem_cons_self
      have h2 := ih (fun z hz => hy z (List.mem_cons_of_mem _ hz))
      obtain ⟨n, k⟩ := y
      cases k <;> first | exact absurd rfl h1 | exact h2 acc
  refine key names (fun y hy e => ?_) []
  have := List.all_eq_true.mp h y hy
  rw [e] at this
  exact absurd this (by decide)
/-- one more code object in the table at P: the tables go on telling what they told -/
theorem tabs_put {T : List NTab} {nm : Nat → Nat → Str} {H H' : Hp} {P d : Addr} {rows : Array Value} {at_ : Pos} {q : Str} (tT : TabsN T H) (mem : (P, nm) ∈ T) (one : ∀ p ∈ T, p.1 = P → p.2 = nm) (tP : H P = some (.tbl rows)) (eq : nm at_.line at_.col = q)
    (keep : ∀ b o, H b = some o → b ≠ P → H' b = some o) (newP : H' P = some (.tbl (rows ++ #[rawInt at_.line, rawInt at_.col, .ref d]))) (newC : H' d = some (CodeO d q)) : TabsN T H' := by
  rintro ⟨P', nm'⟩ hp
  by_cases here : P' = P
  · have same := one _ hp here
    subst here
    obtain rfl : nm' = nm := same
    obtain ⟨rows', r1, r2, r3⟩ := tT _ mem
    rw [tP] at r1
    cases r1
    have split : (rows ++ #[rawInt at_.line, rawInt at_.col, .ref d]).toList = rows.toList ++ [rawInt at_.line, rawInt at_.col, .ref d] := Array.toList_append ..
    refine ⟨_, newP, split ▸ PySem.TriplesOk_snoc _ _ _ _ r2, fun at2 u hu => ?_⟩
    rcases among_app2 _ r2 (split ▸ hu) with old | ⟨new, l1, l2⟩
    · obtain ⟨x, x1, x2⟩ := r3 at2 u old
      exact ⟨x, x1, keep _ _ x2 fun z => by rw [z, tP] at x2; cases x2⟩
    · exact ⟨d, new, by rw [← l1, ← l2]; show H' d = some (CodeO d (nm' at_.line at_.col)); rw [eq]; exact newC⟩
  · obtain ⟨rows', r1, r2, r3⟩ := tT _ hp
    refine ⟨rows', keep _ _ r1 here, r2, fun at2 u hu => ?_⟩
    obtain ⟨x, x1, x2⟩ := r3 at2 u hu
    exact ⟨x, x1, keep _ _ x2 fun z => by rw [z, tP] at x2; cases x2⟩
section
variable {X : Cx}
/-- what is new above all that is known changes nothing of it -/
theorem above {H H' : Hp} {a : Addr} {o : HO} (n : H' a = none) (k : ∀ b u, H b = some u → H' b = some u) : ∀ b u, H b = some u → upd H' a o b = some u := fun b u e => (upd_ne (ne_of_none (k b u e) n)).trans (k b u e)
theorem pe_lam {T : List NTab} {nm : Nat → Nat → Str} {c P : Addr} {params : Arguments} {body : Expr} {scope : Scope} {pos : Pos} (TB : TabB X.base X.mg c P) (code : X.env.code = .ref c) (mem : (P, nm) ∈ T) (name : nm pos.line pos.col = X.env.qual ++ "<lambda>") (one : ∀ p ∈ T, p.1 = P → p.2 = nm)
    (nofree : (scope.names.all fun y => !decide (y.2 = .free)) = true) (dflt : defaultsOf params X.env = ([], [])) :
    PE X (.Lambda params body scope pos) (tLam T fun c' => ⟨X.env.qual ++ "<lambda>", params, body, scope, c'⟩) := by
  refine ⟨fun pins s σ H Q I ⟨tT, q⟩ => PySem.W.kla_eval dflt ?_⟩
  have shut : cloFrom X.env.cells scope.names [] = [] := clo_none nofree
  have caught : ∀ y ∈ scope.names, y.2 = .free → ∃ a, X.env.cells.lookup y.1 = some a := fun y hy e => absurd (List.all_eq_true.mp nofree y hy) (by rw [e]; decide)
  obtain ⟨rows, tP, tok, told⟩ := (show TabN H P nm from tT _ mem)
  have ask : ∀ (d : Addr) (h' : Heap) (tk : Nat) (ctv : Value) (H1 : Hp), Inv X pins σ H1 { s with heap := h', toks := tk } → ExtN H H1 → TabsN T H1 → (∀ b, H1 b = none → H b = none) → H1 d = some (CodeO d (X.env.qual ++ "<lambda>")) →
      EP X pins σ Q (.ref h'.objs.size) { s with heap := h'.push (PySem.W.kla_obj "<lambda>" (X.env.qual ++ "<lambda>") params body scope [] ((X.mg "__name__").getD .none) d ctv), toks := tk } := fun d h' tk ctv H1 I1 e1 t1 back hd => by
    have free : H1 h'.objs.size = none := I1.hok.fresh (Nat.le_refl _)
    have up := above (o := LamO h'.objs.size ⟨X.env.qual ++ "<lambda>", params, body, scope, d⟩) free fun _ _ e => e
    exact ⟨.ref h'.objs.size, _, inv_lam (F := ⟨X.env.qual ++ "<lambda>", params, body, scope, d⟩) (t' := tk) (ctv := ctv) I1 rfl, rfl, q _ d _ (e1.trans (ExtN.of up)) (t1.ext up) (back _ free) upd_same (up _ _ hd)⟩
  have glob := I.mod.glob.keeps I.bk
  have atP : s.heap.get? P = some { cls := .none, data := .fields rows } := I.hok P _ tP
  have bt : s.heap.BuiltinsAt X.mg P := TB.bm.keeps I.bk
  cases found : codeAmong pos rows.toList with
  | some u =>
    obtain ⟨d, rfl, hd⟩ := told pos u found
    refine PySem.W.kla_makeFunctionHit (mg := X.mg) (c := c) (P := P) (ps := rows) (closure_ok caught) I.ok.glob glob code (TB.code.keeps I.bk) atP tok found bt fun ctv h' tk more _ => ?_
    rw [shut]
    exact ask d h' tk ctv H (I.kept more) (ExtN.refl H) tT (fun _ e => e) (name ▸ hd)
  | none =>
    refine PySem.W.kla_makeFunction (mg := X.mg) (c := c) (P := P) (ps := rows) (closure_ok caught) I.ok.glob glob code (TB.code.keeps I.bk) atP tok found TB.gP bt fun d ctv h' tk more ge lt rec_ tab => ?_
    obtain ⟨d', oc, vs, t, same, r⟩ := rec_
    obtain rfl : d = d' := Value.ref.inj same
    rw [shut]
    have nd : H d = none := I.hok.fresh ge
    have dP : d ≠ P := (ne_of_none tP nd).symm
    have keep : ∀ b o, H b = some o → b ≠ P → upd (upd H P (.tbl (rows ++ #[rawInt pos.line, rawInt pos.col, .ref d]))) d (CodeO d (X.env.qual ++ "<lambda>")) b = some o := fun b o e n => by
      rw [upd_ne (ne_of_none e nd), upd_ne n, e]
    refine ask d h' tk ctv _ (inv_table I tP more tab ge ⟨oc, vs, t, r⟩) (fun b o e n => keep b o e fun z => n rows (Option.some.inj (e.symm.trans (z ▸ tP)))) (tabs_put tT mem one tP name keep (by rw [upd_ne dP.symm, upd_same]) upd_same) (fun b e => ?_) upd_same
    cases eb : H b with
    | none => rfl
    | some o =>
      by_cases z : b = P
      · subst z
        rw [upd_ne dP.symm, upd_same] at e
        cases e
      · rw [keep b o eb z] at e
        cases e
end
/-- the promise of the lambda F at f -/
structure LOk (P : Program) (w : World) (K : PySem.W.Frag) (mg : Str → Option Value) (base : Heap) (CX : CXT) (k : Nat) (f : Addr) (F : LF) (ps : List Str) (sp : Sp) : Prop where
  len : ∀ vs H Q E, sp vs H Q E → vs.length = ps.length
  run : ∀ (A : Around) (outer : List Env) (s : Shared) (H : Hp) (us : List Value) (vs : List V) (Q : VK) (E : XK), Room k A → Env0 P w K mg base A outer s H → H f = some (LamO f F) → H F.c = some (CodeO F.c F.qual) →
    Vals vs us → sp vs H Q E → codeAny (model P w) A (.call (.ref f) ⟨us, []⟩) (CR CX outer P w H s Q E) s
section
variable {CX : CXT} {P : Program} {w : World} {K : PySem.W.Frag} {mg : Str → Option Value} {base : Heap} {N ps : List Str} {F : LF} {f : Addr} {k j : Nat} {sp : Sp}
theorem cells_nil (h : Heap) (H : Hp) : CellsAt [] [] [] h H := ⟨rfl, fun y c z => (nomatch z), fun x y c z => (nomatch z), fun i y z => (nomatch z)⟩
theorem LOk.mono (o : LOk P w K mg base CX j f F ps sp) (h : j ≤ k) : LOk P w K mg base CX k f F ps sp := ⟨o.len, fun A outer s H us vs Q E hr => o.run A outer s H us vs Q E (hr.mono h)⟩
/-- THE RULE: a lambda by its body -/
theorem lok_of (S : NScope N ps [] F.scope) (hb : ∀ (pm ctv : Value) (us : List Value), us.length = ps.length → bindArgs (PySem.W.kla_fn "<lambda>" F.qual F.params F.body F.scope [] pm (.ref F.c) ctv) ⟨us, []⟩ = pure (ps.zip us)) (len : ∀ vs H Q E, sp vs H Q E → vs.length = ps.length)
    (hbody : ∀ (A : Around) (outer : List Env) (s : Shared) (H : Hp) (vs : List V) (Q : VK) (E : XK), Room k (A.deeper (envF F.nf f s.heap.objs.size)) → sp vs H Q E →
      ∃ t, PE (ncx CX P w K mg base N F.nf f A outer s H E) F.body t ∧ t (startF N vs []) H Q) :
    LOk P w K mg base CX (k + 1) f F ps sp := by
  refine ⟨len, fun A outer s H us vs Q E room e0 at_ code r q => ?_⟩
  obtain ⟨pm, ctv, ho⟩ := lamO_at e0.hok at_
  have many : us.length = ps.length := r.length ▸ len _ _ _ _ q
  refine PySem.W.kla_callFunE room.depth ho rfl S.co S.gen rfl (codeO_at e0.hok code) ?_
  rw [hb pm ctv us many]
  have free : s.heap.NoLimit := e0.mod.nolimit.keeps fun b o z => (e0.bs b o z).1
  refine wpAny_pure (wpAny_newFunctionEnv S.nocell (fun y hy => S.par y.1 (List.of_mem_zip hy).1) (fun h₁ own grown => ⟨free.fresh _ grown, PySem.W.kla_codeExpr ?_⟩) S.kind)
  obtain ⟨t, term, reading⟩ := hbody A outer s H vs Q E (room.deeper _) q
  have I := inv_startN (E := E) (CX := CX) (f := f) (F := F.nf) (N := N) (tk := s.toks + (ps.zip us).length) S room.hd e0 (len _ _ _ _ q) r (cells_nil _ _) own fun b o z => grown.extBut b o (Nat.ne_of_lt (Heap.lt_size z)) (Heap.get?_push_of_some _ z)
  exact wpAny_mono (term.run [] _ _ H Q I reading) (fun v s' ⟨u, H', J, rv, done⟩ => ⟨u, H', J.os, J.bare, J.base, J.hok, rv, done⟩) fun e s' z => z
end
/-! ### a call of a parameter that holds a def of the top, or a def or lambda made at run time that captures nothing -/
/-- the def at f, made or of the top, keeps the promise sp -/
inductive Cal (P : Program) (w : World) (K : PySem.W.Frag) (mg : Str → Option Value) (base : Heap) (k : Nat) (f : Addr) (sp : Sp) (H : Hp) : Prop
  | top {fd : FuncData} {ps : List Str} (o : FnOk P w K mg base CX0 k f fd ps sp) (kp : PySem.W.keepIn K (.ref f) = true) (b : L2.Binds K fd ps [])
  | made {F : NF} {ps : List Str} (o : NOk P w K mg base CX0 k f F ps [] (fun _ => sp)) (cl : F.cl = []) (h : H f = some (FnO f F)) (hc : H F.c = some (CodeO F.c F.qual))
  | lam {F : LF} {ps : List Str} (o : LOk P w K mg base CX0 k f F ps sp) (h : H f = some (LamO f F)) (hc : H F.c = some (CodeO F.c F.qual))
theorem Cal.same {P : Program} {w : World} {K : PySem.W.Frag} {mg : Str → Option Value} {base : Heap} {k : Nat} {f : Addr} {sp : Sp} {H H' : Hp} (c : Cal P w K mg base k f sp H) (s : ∀ b F, H b = some (.ext F) → H' b = some (.ext F)) : Cal P w K mg base k f sp H' := by
  cases c with
  | top o kp b => exact .top o kp b
  | made o cl h hc => exact .made o cl (s _ _ h) (s _ _ hc)
  | lam o h hc => exact .lam o (s _ _ h) (s _ _ hc)
theorem cells_none {cl : List (Str × Addr)} (e : cl = []) (h : Heap) (H : Hp) : CellsAt cl [] [] h H := by
  subst e
  exact ⟨rfl, fun y c z => (nomatch z), fun x y c z => (nomatch z), fun i y z => (nomatch z)⟩
def tCallV (P : Program) (w : World) (K : PySem.W.Frag) (mg : Str → Option Value) (base : Heap) (k i : Nat) (t : TA) : TE := fun σ H Q => ∃ (f : Addr) (sp : Sp), σ[i]? = some (some (.ref f)) ∧ Cal P w K mg base k f sp H ∧
  t σ H fun vs H1 => Cal P w K mg base k f sp H1 ∧ (∀ b F, H b = some (.ext F) → H1 b = some (.ext F)) ∧ sp vs H1 Q (fun _ _ _ => False)
section
variable {X : Cx} {i j k : Nat} {x : Str} {p pos : Pos} {e : Expr} {es : List Expr} {t : TA}
theorem pe_callV (hr : Room j X.A) (hk : k ≤ j) (hN : X.N[i]? = some x) (hv : Vis X.env.scope x) (ha : PA X (e :: es) t)
    (hdb : (x == ("__debug__" : Str)) = false := by decide) (hcd : (x == ("__classdict__" : Str)) = false := by decide)
    (he : starEach (e :: es) X.env = (false, eval e X.env) :: starEach es X.env := by rfl) (hpl : (backTo pos (starEach es X.env)).any (·.1) = false := by rfl) :
    PE X (.Call (.Name x p) (e :: es) [] pos) (tCallV X.prog X.w X.K X.mg X.base k i t) := by
  refine ⟨fun pins s σ H Q I ⟨f, sp, hs, hc, ht⟩ => ?_⟩
  refine wpAny_Call_Name_kw (thn ((pe_var (pos := p) hN hv hdb hcd).run pins s σ H (fun v H1 => v = .ref f ∧ H1 = H) I ⟨.ref f, hs, rfl, rfl⟩) fun u s1 ⟨v, H1, I1, r1, q1, q2⟩ => ?_)
  subst q1 q2
  obtain rfl : u = Value.ref f := r1
  cases hc with
  | @top fd ps o kp b =>
    refine PySem.W.callWith_K (h₀ := X.base) I.ok.mod.kin kp (thn (ha.run pos pins s1 σ _ _ I1 ht) fun us s2 ⟨vs, H2, I2, r, _, _, q⟩ => ⟨I2.kIn, ?_⟩) he hpl
    refine run_fn (dvs := []) (E := fun _ _ _ => False) o (hr.mono hk) b .nil pass0 I2 r ?_
    rw [List.append_nil]
    exact q
  | @made F ps o cl h hcode =>
    refine PySem.W.callWith_F (first := []) (fnAt_of I1 h) (thn (ha.run pos pins s1 σ _ _ I1 ht) fun us s2 ⟨vs, H2, I2, r, _, keep, q⟩ => ⟨fnAt_of I2 (keep _ _ h), ?_⟩) he hpl
    show wpAny _ _ (call (.ref f) us) _ _ _
    exact run_n (mk := fun _ => F) (js := []) (fr := []) (c' := f) (sp := fun _ _ _ => sp) o hr hk (E := fun _ _ _ => False) pass0 I2 (keep _ _ h) (keep _ _ hcode) (cells_none cl _ _) r q
  | @lam F ps o h hcode =>
    have fa : ∀ {s' : Shared} {H' : Hp}, Inv X pins σ H' s' → H' f = some (LamO f F) → PySem.W.FnAt f s'.heap := fun I' h' => by
      obtain ⟨pm, ctv, ho⟩ := lamO_at I'.hok h'
      exact ⟨_, _, _, _, ho⟩
    refine PySem.W.callWith_F (first := []) (fa I1 h) (thn (ha.run pos pins s1 σ _ _ I1 ht) fun us s2 ⟨vs, H2, I2, r, _, keep, q⟩ => ⟨fa I2 (keep _ _ h), ?_⟩) he hpl
    show wpAny _ _ (call (.ref f) us) _ _ _
    refine wpAny_call (codeAny_mono (o.run X.A X.stack s2 H2 us vs _ _ (hr.mono hk) I2.env0 (keep _ _ h) (keep _ _ hcode) r q) fun r s' hq => ?_)
    cases r with
    | error e => exact (show False from hq).elim
    | ok fl =>
      cases fl with
      | ret u => exact I2.after hq
      | next => exact False.elim hq
      | brk => exact False.elim hq
      | cont => exact False.elim hq
end
end E

set_option Elab.async false
set_option linter.all false
set_option maxRecDepth 100000
namespace E
open PySem PySem.Spec PyProof.Rows L2
/-! ### the numbers of formulas, by their sign and the numbers of their parts -/
/-- what a formula is looked up by, N the numbers of its parts -/
def keyF (N : Fm → Nat) (f : Fm) : List Key := match f with
  | .var y => [.inr "var", .inr y]
  | g => .inr g.sg :: g.kids.map fun c => (.inl ((N c : Nat) : Int) : Key)
theorem keyF_var (N : Fm → Nat) (y : Str) : keyF N (.var y) = [.inr "var", .inr y] := rfl
theorem keyF_not {N : Fm → Nat} {f : Fm} (h : f.isVar = false) : keyF N f = .inr f.sg :: f.kids.map fun c => (.inl ((N c : Nat) : Int) : Key) := by
  cases f <;> first | rfl | cases h
theorem keyF_congr {N M : Fm → Nat} {f : Fm} (h : ∀ c ∈ f.kids, N c = M c) : keyF N f = keyF M f := by
  by_cases hv : f.isVar = true
  · obtain ⟨_, n, rfl⟩ := kids_var hv
    rfl
  · have hv := Bool.eq_false_iff.mpr hv
    rw [keyF_not hv, keyF_not hv]
    exact congrArg _ (List.map_congr_left fun c hc => by rw [h c hc])
/-- two formulas of one key, their parts numbered apart, are one -/
theorem keyF_inj {N : Fm → Nat} {gs : List Fm} (inj : ∀ a ∈ gs, ∀ b ∈ gs, N a = N b → a = b) {f g : Fm} (hf : ∀ c ∈ f.kids, c ∈ gs) (hg : ∀ c ∈ g.kids, c ∈ gs) (e : keyF N f = keyF N g) : f = g := by
  have i2 : ∀ {a b : Fm}, a ∈ gs → b ∈ gs → (Sum.inl ((N a : Nat) : Int) : Key) = Sum.inl ((N b : Nat) : Int) → a = b := fun ha hb q => inj _ ha _ hb (Int.ofNat.inj (Sum.inl.inj q))
  have sgs : ∀ {a b : Str} {r s : List Key}, (Sum.inr a : Key) :: r = Sum.inr b :: s → a = b := fun q => Sum.inr.inj (List.cons.inj q).1
  cases f <;> cases g
  case var.var a b => 
    have := (List.cons.inj (List.cons.inj e).2).1
    rw [Sum.inr.inj this]
  case fal.fal => rfl
  case and.and a b c d =>
    obtain ⟨h1, h2⟩ := List.cons.inj (List.cons.inj e).2
    rw [i2 (hf _ (by simp [Fm.kids])) (hg _ (by simp [Fm.kids])) h1, i2 (hf _ (by simp [Fm.kids])) (hg _ (by simp [Fm.kids])) (List.cons.inj h2).1]
  case or.or a b c d =>
    obtain ⟨h1, h2⟩ := List.cons.inj (List.cons.inj e).2
    rw [i2 (hf _ (by simp [Fm.kids])) (hg _ (by simp [Fm.kids])) h1, i2 (hf _ (by simp [Fm.kids])) (hg _ (by simp [Fm.kids])) (List.cons.inj h2).1]
  case imp.imp a b c d =>
    obtain ⟨h1, h2⟩ := List.cons.inj (List.cons.inj e).2
    rw [i2 (hf _ (by simp [Fm.kids])) (hg _ (by simp [Fm.kids])) h1, i2 (hf _ (by simp [Fm.kids])) (hg _ (by simp [Fm.kids])) (List.cons.inj h2).1]
  case box.box a b =>
    obtain ⟨h1, _⟩ := List.cons.inj (List.cons.inj e).2
    rw [i2 (hf _ (by simp [Fm.kids])) (hg _ (by simp [Fm.kids])) h1]
  all_goals exact absurd (sgs e) (by first | decide +kernel | (simp only [Fm.sg, Fm.rk]; decide +kernel))
/-- the table of numbers -/
def tabF (gs : List Fm) : List (List Key × V) := gs.map fun g => (keyF (fun c => gs.idxOf c) g, V.int ((gs.idxOf g : Nat) : Int))
theorem idx_inj {gs : List Fm} : ∀ a ∈ gs, ∀ b ∈ gs, gs.idxOf a = gs.idxOf b → a = b := fun a ha b hb e => by
  have h1 := List.getElem_idxOf (List.idxOf_lt_length_of_mem ha)
  have h2 := List.getElem_idxOf (List.idxOf_lt_length_of_mem hb)
  rw [← h1, ← h2]
  congr 1
theorem tab_get {gs : List Fm} (cl : ∀ g ∈ gs, ∀ c ∈ g.kids, c ∈ gs) {b : Fm} (hb : ∀ c ∈ b.kids, c ∈ gs) :
    valV (tabF gs) (keyF (fun c => gs.idxOf c) b) = if b ∈ gs then some (V.int ((gs.idxOf b : Nat) : Int)) else none := by
  have key : ∀ l : List Fm, (∀ g ∈ l, g ∈ gs) → valV (l.map fun g => (keyF (fun c => gs.idxOf c) g, V.int ((gs.idxOf g : Nat) : Int))) (keyF (fun c => gs.idxOf c) b) = if b ∈ l then some (V.int ((gs.idxOf b : Nat) : Int)) else none := by
    intro l
    induction l with
    | nil => exact fun _ => rfl
    | cons g l ih =>
      intro h
      rw [List.map_cons]
      by_cases e : g = b
      · subst e
        rw [valV_pos rfl, if_pos List.mem_cons_self]
      · have ne : ¬ keyF (fun c => gs.idxOf c) g = keyF (fun c => gs.idxOf c) b := fun q => e (keyF_inj idx_inj (cl g (h g List.mem_cons_self)) hb q)
        rw [valV_neg ne, ih fun x hx => h x (List.mem_cons_of_mem _ hx)]
        by_cases m : b ∈ l
        · rw [if_pos m, if_pos (List.mem_cons_of_mem _ m)]
        · rw [if_neg m, if_neg fun q => (List.mem_cons.mp q).elim (fun z => e z.symm) m]
  exact key gs fun g hg => hg
theorem tab_put {gs : List Fm} (cl : ∀ g ∈ gs, ∀ c ∈ g.kids, c ∈ gs) {b : Fm} (hb : ∀ c ∈ b.kids, c ∈ gs) (nb : b ∉ gs) :
    putK (tabF gs) (keyF (fun c => gs.idxOf c) b) (V.int ((gs.length : Nat) : Int)) = tabF (gs ++ [b]) := by
  rw [putK_new _ (by rw [tab_get cl hb, if_neg nb])]
  unfold tabF
  have old : ∀ c ∈ gs, (gs ++ [b]).idxOf c = gs.idxOf c := fun c hc => by rw [List.idxOf_append, if_pos hc]
  rw [List.map_append]
  congr 1
  · refine List.map_congr_left fun g hg => ?_
    rw [old g hg, keyF_congr fun c hc => (old c (cl g hg c hc)).symm]
  · have e : (gs ++ [b]).idxOf b = gs.length := by rw [List.idxOf_append, if_neg nb]; simp
    show [_] = [(keyF (fun c => (gs ++ [b]).idxOf c) b, V.int (((gs ++ [b]).idxOf b : Nat) : Int))]
    rw [e, keyF_congr fun c hc => (old c (hb c hc)).symm]
/-- from one level to the next -/
theorem lev_next : ∀ (n : Nat) (cur : List Fm) (j : Nat) (l : List Fm), (∀ g ∈ cur, g.ht ≤ n) → (levs n cur)[j]? = some l → (levs n cur)[j + 1]? = some (down l) ∨ ((levs n cur)[j + 1]? = none ∧ down l = [])
  | 0, cur, j, l, _, h => by
    have e : levs 0 cur = [] := rfl
    rw [e] at h
    cases h
  | n + 1, cur, j, l, hh, h => by
    by_cases hc : cur = []
    · rw [hc, levs_nil] at h
      cases h
    · have e : levs (n + 1) cur = cur :: levs n (down cur) := by
        rw [levs, if_neg hc]
      rw [e] at h ⊢
      have hd : ∀ g ∈ down cur, g.ht ≤ n := fun g hg => by
        obtain ⟨k, hk, hm⟩ := down_mem.mp hg
        have h1 := kids_ht hm
        have h2 := hh k hk
        omega
      cases j with
      | zero =>
        have e2 : cur = l := Option.some.inj h
        subst e2
        rw [List.getElem?_cons_succ]
        by_cases hz : down cur = []
        · rw [hz, levs_nil]
          exact .inr ⟨rfl, rfl⟩
        · left
          cases n with
          | zero =>
            obtain ⟨g, hg⟩ := List.exists_mem_of_ne_nil _ hz
            have := hd g hg
            have := g.ht_pos
            omega
          | succ n =>
            rw [levs, if_neg hz]
            rfl
      | succ j =>
        rw [List.getElem?_cons_succ] at h ⊢
        exact lev_next n (down cur) j l hd h
theorem lev_head {n : Nat} {f : Fm} (h : f.ht ≤ n) : (levs n [f])[0]? = some [f] := by
  cases n with
  | zero =>
    have := f.ht_pos
    omega
  | succ n =>
    rw [levs, if_neg (by simp)]
    rfl
theorem lev_asc : ∀ (n : Nat) (cur : List Fm) (j : Nat) (l : List Fm), Asc cur → (levs n cur)[j]? = some l → Asc l
  | 0, cur, j, l, _, h => by
    have e : levs 0 cur = [] := rfl
    rw [e] at h
    cases h
  | n + 1, cur, j, l, ha, h => by
    by_cases hc : cur = []
    · rw [hc, levs_nil] at h
      cases h
    · have e : levs (n + 1) cur = cur :: levs n (down cur) := by
        rw [levs, if_neg hc]
      rw [e] at h
      cases j with
      | zero =>
        have e2 : cur = l := Option.some.inj h
        subst e2
        exact ha
      | succ j =>
        rw [List.getElem?_cons_succ] at h
        exact lev_asc n (down cur) j l (dist_asc _) h
theorem lev_ne : ∀ (n : Nat) (cur : List Fm) (j : Nat) (l : List Fm), (levs n cur)[j]? = some l → l ≠ []
  | 0, cur, j, l, h => by
    have e : levs 0 cur = [] := rfl
    rw [e] at h
    cases h
  | n + 1, cur, j, l, h => by
    by_cases hc : cur = []
    · rw [hc, levs_nil] at h
      cases h
    · have e : levs (n + 1) cur = cur :: levs n (down cur) := by
        rw [levs, if_neg hc]
      rw [e] at h
      cases j with
      | zero =>
        have e2 : cur = l := Option.some.inj h
        subst e2
        exact hc
      | succ j =>
        rw [List.getElem?_cons_succ] at h
        exact lev_ne n (down cur) j l h
theorem idx_get {gs : List Fm} {c : Fm} (h : c ∈ gs) : gs[gs.idxOf c]? = some c := by
  have := List.idxOf_lt_length_of_mem h
  rw [List.getElem?_eq_getElem this, List.getElem_idxOf]
/-- the numbers stay when the table grows -/
theorem idx_app {gs : List Fm} {b c : Fm} (h : c ∈ gs) : (gs ++ [b]).idxOf c = gs.idxOf c := by rw [List.idxOf_append, if_pos h]
theorem idx_new {gs : List Fm} {b : Fm} (h : b ∉ gs) : (gs ++ [b]).idxOf b = gs.length := by rw [List.idxOf_append, if_neg h]; simp
theorem nodup_few {α : Type} [DecidableEq α] : ∀ (l D : List α), l.Nodup → (∀ x ∈ l, x ∈ D) → l.length ≤ D.length
  | [], _, _, _ => Nat.zero_le _
  | x :: l, D, nd, sub => by
    rw [List.nodup_cons] at nd
    have hx := sub x List.mem_cons_self
    have ih := nodup_few l (D.erase x) nd.2 fun y hy => (List.mem_erase_of_ne fun e : y = x => nd.1 (by rw [← e]; exact hy)).mpr (sub y (List.mem_cons_of_mem _ hy))
    rw [List.length_erase_of_mem hx] at ih
    have := List.length_pos_of_mem hx
    rw [List.length_cons]
    omega
/-- a tuple with a formula's sign in front, no variable's -/
theorem im_sg {K : PySem.W.Frag} {H : Hp} {f : Fm} {a : Addr} {xs : List V} {ds : List PyData} (hv : f.isVar = false) (h : SqT K H a (.str f.sg :: xs)) (i : ImAll K H xs ds) : Im K H (.ref a) (.tuple (.str f.sg :: ds)) :=
  .tup h (.cons (.str _) i) fun y e => by
    have e2 := sg_var f
    rw [PyData.str.inj (List.cons.inj e).1, hv] at e2
    exact absurd e2 (by decide +kernel)
theorem kids_le2 (f : Fm) : f.kids.length ≤ 2 := by cases f <;> simp [Fm.kids]
theorem subs_len : ∀ f : Fm, f.subs.length = f.sz := by
  intro f
  induction f with
  | var n => rfl
  | fal => rfl
  | and a b h1 h2 => simp [Fm.subs, Fm.sz, h1, h2]; try omega
  | or a b h1 h2 => simp [Fm.subs, Fm.sz, h1, h2]; try omega
  | imp a b h1 h2 => simp [Fm.subs, Fm.sz, h1, h2]; try omega
  | box a h1 => simp [Fm.subs, Fm.sz, h1]; try omega
end E

set_option Elab.async false
set_option linter.all false
set_option maxRecDepth 100000
set_option maxHeartbeats 4000000
namespace E
open PySem PySem.Spec PyProof.Rows L2 LamX NdefX
/-! ### a def of the text that makes functions: its code object is known -/
structure FunC (K : PySem.W.Frag) (x qual : Str) (st : Stmt) (f : Addr) (fd : FuncData) (c : Addr) : Prop where
  ex : ∃ (oc : Value) (od : Option Addr) (kV doc pm : Value) (an : Option Addr) (ct : Value) (osl : Array (Option Value)),
    fd = PySem.W.fnOf x qual (defArgs st) (defBody st) (defScope st) .none kV doc pm an (.ref c) ct ∧ K.lookup f = some ⟨oc, od, .func fd, osl⟩ ∧ PySem.W.codeIn K (.ref c) qual = true
section
variable {P : Program} {w : World} {K : PySem.W.Frag} {mg : Str → Option Value} {base : Heap}
theorem FunC.ok {x qual : Str} {st : Stmt} {f c : Addr} {fd : FuncData} {N ps : List Str} {k : Nat} {sp : Sp} (F : FunC K x qual st f fd c) (S : FnScope N ps (defScope st)) (len : ∀ vs H Q E, sp vs H Q E → vs.length = ps.length)
    (hbody : ∀ (A : Around) (outer : List Env) (s : Shared) (H : Hp) (vs : List V) (Q : VK) (E : XK), Room k (A.deeper (envOfC qual (defScope st) s.heap.objs.size f (.ref c))) → sp vs H Q E →
      ∃ t, PSs (cxOf CX0 P w K mg base N qual (defScope st) f (.ref c) A outer s H E).nox (defBody st) t ∧ t { nx := fun _ H' => Q .non H', rt := Q } (start N vs) H) : FnOk P w K mg base CX0 (k + 1) f fd ps sp := by
  obtain ⟨oc, od, kV, doc, pm, an, ct, osl, rfl, lk, hcd⟩ := F.ex
  refine fn_of lk hcd S len fun A outer s H vs Q E hr hsp => ?_
  obtain ⟨t, h, q⟩ := hbody A outer s H vs Q E hr hsp
  exact ⟨t, h.nox, q⟩
/-- .. that may raise -/
theorem FunC.okX {x qual : Str} {st : Stmt} {f c : Addr} {fd : FuncData} {N ps : List Str} {k : Nat} {sp : Sp} (F : FunC K x qual st f fd c) (S : FnScope N ps (defScope st)) (len : ∀ vs H Q E, sp vs H Q E → vs.length = ps.length)
    (hbody : ∀ (A : Around) (outer : List Env) (s : Shared) (H : Hp) (vs : List V) (Q : VK) (E : XK), Room k (A.deeper (envOfC qual (defScope st) s.heap.objs.size f (.ref c))) → sp vs H Q E →
      ∃ t, PSs (cxOf (L2.CX P w) P w K mg base N qual (defScope st) f (.ref c) A outer s H E) (defBody st) t ∧ t { nx := fun _ H' => Q .non H', rt := Q } (start N vs) H) : FnOk P w K mg base (L2.CX P w) (k + 1) f fd ps sp := by
  obtain ⟨oc, od, kV, doc, pm, an, ct, osl, rfl, lk, hcd⟩ := F.ex
  exact fn_of lk hcd S len hbody
theorem func_mk {x qual : Str} {st : Stmt} {f : Addr} {oc : Value} {od an : Option Addr} {osl : Array (Option Value)} {kV doc pm ct : Value} {cd : Addr} (l : K.lookup f = some ⟨oc, od, .func (PySem.W.fnOf x qual (defArgs st) (defBody st) (defScope st) .none kV doc pm an (.ref cd) ct), osl⟩)
    (c : PySem.W.codeIn K (.ref cd) qual = true) : FunC K x qual st f (PySem.W.fnOf x qual (defArgs st) (defBody st) (defScope st) .none kV doc pm an (.ref cd) ct) cd := ⟨⟨oc, od, kV, doc, pm, an, ct, osl, rfl, l, c⟩⟩
end
/-- all but the tables stay: tuples, lists, what else is told -/
theorem extn_ts {H H' : Hp} (e : ExtN H H') : TS H H' := ⟨fun b xs r => by
  rcases r with r | ⟨o, r⟩
  · exact .inl (e _ _ r fun _ z => nomatch z)
  · exact .inr ⟨o, e _ _ r fun _ z => nomatch z⟩, fun b xs r => e _ _ r fun _ z => nomatch z⟩
theorem extn_sqL {K : PySem.W.Frag} {H H' : Hp} {a : Addr} {xs : List V} (e : ExtN H H') (h : SqL K H a xs) : SqL K H' a xs := by
  rcases h with (r | ⟨o, r⟩) | r
  · exact .inl (.inl (e _ _ r fun _ z => nomatch z))
  · exact .inl (.inr ⟨o, e _ _ r fun _ z => nomatch z⟩)
  · exact .inr r
theorem extn_pl {K : PySem.W.Frag} {H H' : Hp} {p l : Addr} (e : ExtN H H') (h : Pl K H p l) : Pl K H' p l := by
  obtain ⟨i, r, c, s, h1, h2⟩ := h.at5
  obtain ⟨cs, hs⟩ := h.sq
  exact ⟨⟨cs, extn_sqL e hs⟩, h.ne, i, r, c, s, (e _ _ h1 fun _ z => nomatch z), h2⟩
/-- one object, no table, is changed: the tables stay -/
theorem tabs_kp {T : List NTab} {H H' : Hp} {p : Addr} {u : HO} (t : TabsN T H) (k : Kp p H H') (hp : H p = some u) (hu : ∀ ps, u ≠ .tbl ps) (hc : ∀ f, u ≠ .ext f) : TabsN T H' := fun q hq => by
  obtain ⟨ps, h1, h2, h3⟩ := t q hq
  refine ⟨ps, k _ _ h1 (fun z => by rw [z, hp] at h1; exact hu _ (Option.some.inj h1)), h2, fun pos cv hcv => ?_⟩
  obtain ⟨c, e1, e2⟩ := h3 pos cv hcv
  exact ⟨c, e1, k _ _ e2 (fun z => by rw [z, hp] at e2; exact hc _ (Option.some.inj e2))⟩
theorem tabs_kpl {T : List NTab} {H H' : Hp} {p : Addr} {xs : List V} (t : TabsN T H) (k : Kp p H H') (hp : H p = some (.lst xs)) : TabsN T H' := tabs_kp t k hp (fun _ z => nomatch z) fun _ z => nomatch z
/-- all tables are empty -/
theorem tabs_start {T : List NTab} {cs : List (Addr × Addr)} {H : Hp} (e : T.map (·.1) = cs.map (·.2)) (h : ∀ p ∈ cs, H p.2 = some (.tbl #[])) : TabsN T H := fun q hq => by
  have hm : q.1 ∈ cs.map (·.2) := by rw [← e]; exact List.mem_map.mpr ⟨q, hq, rfl⟩
  obtain ⟨p, hp, ep⟩ := List.mem_map.mp hm
  exact TabN.nil (by rw [← ep]; exact h p hp)
theorem tab_uniq : ∀ {T : List NTab}, (T.map (·.1)).Nodup → ∀ {P : Addr} {nm : Nat → Nat → Str}, (P, nm) ∈ T → ∀ p ∈ T, p.1 = P → p.2 = nm
  | [], _, _, _, h => nomatch h
  | t :: T, nd, P, nm, h => fun p hp e => by
    rw [List.map_cons, List.nodup_cons] at nd
    rcases List.mem_cons.mp h with h1 | h1
    · subst h1
      rcases List.mem_cons.mp hp with h2 | h2
      · rw [h2]
      · exact absurd (List.mem_map.mpr ⟨p, h2, e⟩) nd.1
    · rcases List.mem_cons.mp hp with h2 | h2
      · subst h2
        exact absurd (List.mem_map.mpr ⟨_, h1, e.symm⟩) nd.1
      · exact tab_uniq nd.2 h1 p h2 e
end E

set_option Elab.async false
set_option linter.all false
set_option maxRecDepth 100000
set_option maxHeartbeats 4000000
namespace E
open PySem PySem.Spec PyProof.Rows L2 LamX NdefX
/-! ### tuples and known things stay -/
def TZ (H H' : Hp) : Prop := TS H H' ∧ ∀ b o u, H b = some (.frz o u) → H' b = some (.frz o u)
theorem TZ.refl (H : Hp) : TZ H H := ⟨TS.refl H, fun _ _ _ h => h⟩
theorem TZ.trans {H H1 H2 : Hp} (a : TZ H H1) (b : TZ H1 H2) : TZ H H2 := ⟨a.1.trans b.1, fun c o u h => b.2 _ _ _ (a.2 _ _ _ h)⟩
theorem TZ.but {H H' : Hp} {d : Addr} {u : HO} (hd : H d = some u) (h1 : ∀ xs, u ≠ .tup xs) (h2 : ∀ o v, u ≠ .frz o v) (k : ∀ c o, H c = some o → c ≠ d → H' c = some o) : TZ H H' :=
  ⟨TS.but hd h1 (fun o xs => h2 o (.tup xs)) k, fun c o v r => k _ _ r fun e => by
    rw [e, hd] at r
    exact h2 o v (Option.some.inj r)⟩
theorem Same.tz {H H' : Hp} (s : Same H H') : TZ H H' := ⟨Same.ts s, fun _ _ _ h => s _ _ h⟩
theorem Kp.tz {p : Addr} {H H' : Hp} {xs : List V} (k : Kp p H H') (h : H p = some (.lst xs)) : TZ H H' := TZ.but h (fun _ e => nomatch e) (fun _ _ e => nomatch e) k
/-! ### cells that are known while other defs run -/
/-- the cells of cl, each known to its object; ws: what the captured names hold (some v) or may hold (none) -/
structure WithC (cl : List (Str × Addr)) (fr : List Str) (ws : List (Option V)) (H : Hp) : Prop where
  len : ws.length = fr.length
  inj : ∀ x y c, cl.lookup x = some c → cl.lookup y = some c → x = y
  all : ∀ p ∈ cl, ∃ o v, H p.2 = some (.frz o (.own p.2)) ∧ o.data = .cell v
  has : ∀ (i : Nat) (y : Str), fr[i]? = some y → ∃ c, cl.lookup y = some c ∧ ∀ v, ws[i]? = some (some v) → ∃ u o, L2.RelV v u ∧ H c = some (.frz o (.own c)) ∧ o.data = .cell (some u)
theorem WithC.same {cl : List (Str × Addr)} {fr : List Str} {ws : List (Option V)} {H H' : Hp} (W : WithC cl fr ws H) (s : ∀ b o u, H b = some (.frz o u) → H' b = some (.frz o u)) : WithC cl fr ws H' := by
  refine ⟨W.len, W.inj, fun p hp => ?_, fun i y e => ?_⟩
  · obtain ⟨o, v, h1, h2⟩ := W.all p hp
    exact ⟨o, v, s _ _ _ h1, h2⟩
  · obtain ⟨c, h1, h2⟩ := W.has i y e
    refine ⟨c, h1, fun v hv => ?_⟩
    obtain ⟨u, o, r, h3, h4⟩ := h2 v hv
    exact ⟨u, o, r, s _ _ _ h3, h4⟩
/-- the addresses of the cells -/
def AtC (cl : List (Str × Addr)) (b : Addr) : Prop := ∃ p ∈ cl, p.2 = b
open Classical in
/-- without the cells -/
noncomputable def offC (cl : List (Str × Addr)) (H : Hp) : Hp := fun b => if AtC cl b then none else H b
open Classical in
/-- the cells back -/
noncomputable def onC (cl : List (Str × Addr)) (H H' : Hp) : Hp := fun b => if AtC cl b then H b else H' b
section
variable {cl : List (Str × Addr)} {fr : List Str} {ws : List (Option V)} {H H' H1 : Hp} {b : Addr} {o : HO}
theorem offC_at (h : AtC cl b) : offC cl H b = none := by unfold offC; rw [if_pos h]
theorem offC_ne (h : ¬ AtC cl b) : offC cl H b = H b := by unfold offC; rw [if_neg h]
theorem onC_at (h : AtC cl b) : onC cl H H' b = H b := by unfold onC; rw [if_pos h]
theorem onC_ne (h : ¬ AtC cl b) : onC cl H H' b = H' b := by unfold onC; rw [if_neg h]
theorem offC_some (h : offC cl H b = some o) : ¬ AtC cl b ∧ H b = some o := by
  by_cases c : AtC cl b
  · rw [offC_at c] at h; cases h
  · rw [offC_ne c] at h; exact ⟨c, h⟩
theorem offC_none (h : H b = none) : offC cl H b = none := by
  by_cases c : AtC cl b
  · exact offC_at c
  · rw [offC_ne c]; exact h
theorem WithC.at_ (W : WithC cl fr ws H) (h : AtC cl b) : ∃ o v, H b = some (.frz o (.own b)) ∧ o.data = .cell v := by
  obtain ⟨p, hp, rfl⟩ := h
  exact W.all p hp
/-- what is no cell's record is none of the cells -/
theorem WithC.off (W : WithC cl fr ws H) (h : H b = some o) (n : ∀ ob, o ≠ .frz ob (.own b)) : offC cl H b = some o := by
  have c : ¬ AtC cl b := fun z => by
    obtain ⟨ob, v, h1, _⟩ := W.at_ z
    rw [h] at h1
    exact n ob (Option.some.inj h1)
  rw [offC_ne c]; exact h
theorem WithC.offRd (W : WithC cl fr ws H) {u : HO} (h : Rd H b u) (n1 : ∀ ob x, u ≠ .frz ob x) (n2 : ∀ x, u ≠ .own x) : Rd (offC cl H) b u := by
  rcases h with h | ⟨ob, h⟩
  · exact .inl (W.off h fun ob z => n1 _ _ z)
  · refine .inr ⟨ob, W.off h fun ob' z => ?_⟩
    injection z with _ z2
    exact n2 _ z2
theorem WithC.ts (W : WithC cl fr ws H) : TS H (offC cl H) := ⟨fun b xs h => W.offRd h (fun _ _ e => nomatch e) (fun _ e => nomatch e), fun b xs h => W.off h fun _ e => nomatch e⟩
theorem WithC.sqL {K : PySem.W.Frag} {xs : List V} (W : WithC cl fr ws H) (h : SqL K H b xs) : SqL K (offC cl H) b xs := by
  rcases h with h | h
  · exact .inl (W.offRd h (fun _ _ e => nomatch e) (fun _ e => nomatch e))
  · exact .inr h
theorem WithC.frz (W : WithC cl fr ws H) {ob : Obj} {u : HO} (h : H b = some (.frz ob u)) (n : ∀ x, u ≠ .own x) : offC cl H b = some (.frz ob u) := W.off h fun ob' z => by
  injection z with _ z2
  exact n _ z2
theorem WithC.tab {T : List NTab} (W : WithC cl fr ws H) (t : TabsN T H) : TabsN T (offC cl H) := fun p hp => by
  obtain ⟨ps, h1, h2, h3⟩ := t p hp
  refine ⟨ps, W.off h1 (fun _ e => nomatch e), h2, fun pos cv hcv => ?_⟩
  obtain ⟨c, e1, e2⟩ := h3 pos cv hcv
  exact ⟨c, e1, W.off e2 (fun _ e => nomatch e)⟩
/-- what is kept without the cells is kept with them -/
theorem on_same (h : L2.Same (offC cl H) H') : L2.Same H (onC cl H H') := fun b o e => by
  by_cases c : AtC cl b
  · rw [onC_at c]; exact e
  · rw [onC_ne c]
    exact h _ _ (by rw [offC_ne c]; exact e)
theorem on_new (n : ∀ b, AtC cl b → H' b = none) (h : H' b = some o) : onC cl H H' b = some o := by
  rw [onC_ne fun c => by rw [n b c] at h; cases h]; exact h
/-- what the cells hold, to their objects -/
theorem WithC.cells {P : Program} {w : World} {h : Heap} (W : WithC cl fr ws H) (ok : HOk P w H h) : CellsAt cl fr ws h (offC cl H) := by
  have lk : ∀ y c, cl.lookup y = some c → AtC cl c := fun y c e => ⟨_, PySem.mem_of_lookup e, rfl⟩
  refine ⟨W.len, fun y c e => ?_, W.inj, fun i y e => ?_⟩
  · obtain ⟨o, v, h1, h2⟩ := W.at_ (lk y c e)
    obtain ⟨z, _⟩ := ok _ _ h1
    exact ⟨offC_at (lk y c e), v, o, z, h2⟩
  · obtain ⟨c, h1, h2⟩ := W.has i y e
    refine ⟨c, h1, fun v hv => ?_⟩
    obtain ⟨u, o, r, h3, h4⟩ := h2 v hv
    obtain ⟨z, _⟩ := ok _ _ h3
    exact ⟨u, r, o, z, h4⟩
theorem WithC.hok {P : Program} {w : World} {h : Heap} (W : WithC cl fr ws H) (ok : HOk P w H h) : HOk P w (offC cl H) h := fun a o e => by
  obtain ⟨_, e'⟩ := offC_some e
  exact (ok a o e').stay (fun _ _ _ q => q) (fun b q => W.off q fun _ z => nomatch z) fun b xs q => W.off q fun _ z => nomatch z
theorem WithC.env0 {P : Program} {w : World} {K : PySem.W.Frag} {mg : Str → Option Value} {base : Heap} {A : Around} {outer : List Env} {s : Shared} (W : WithC cl fr ws H) (e : Env0 P w K mg base A outer s H) : Env0 P w K mg base A outer s (offC cl H) :=
  ⟨e.frames, e.mod, fun b o q => ⟨(e.bs b o q).1, offC_none (e.bs b o q).2⟩, e.bsz, e.funs, fun b hb => offC_none (e.frf b hb), W.hok e.hok, e.bare⟩
/-- behind the captured function's run: the cells are known again -/
theorem WithC.back {P : Program} {w : World} {outer : List Env} {s s' : Shared} {u : Value} {Q : VK} (W : WithC cl fr ws H) (ok : HOk P w H s.heap) (frf : ∀ b ∈ frs outer, H b = none)
    (h : CE outer P w (offC cl H) s (fun v H' => (∀ b, AtC cl b → H' b = none) → Q v (onC cl H H')) u s') : CE outer P w H s Q u s' := by
  obtain ⟨v, H', os, bare, un, hok, r, q⟩ := h
  have cg : ∀ {b}, AtC cl b → ∃ o, H b = some (.frz o (.own b)) ∧ s.heap.get? b = some o := fun {b} c => by
    obtain ⟨o, v, h1, _⟩ := W.at_ c
    obtain ⟨z, _⟩ := ok _ _ h1
    exact ⟨o, h1, z⟩
  have cn : ∀ {b}, AtC cl b → H' b = none := fun {b} c => by
    obtain ⟨o, _, h2⟩ := cg c
    exact un.free b o h2 (offC_at c) (by simp)
  have nof : ∀ {b}, AtC cl b → b ∉ frs outer := fun {b} c z => by
    obtain ⟨o, h1, _⟩ := cg c
    rw [frf b z] at h1; cases h1
  have nn : ∀ {b}, H b = none → ¬ AtC cl b := fun {b} n c => by
    obtain ⟨o, h1, _⟩ := cg c
    rw [n] at h1; cases h1
  refine ⟨v, onC cl H H', os, bare, ⟨fun b o e n hb hx => un.keep b o e (offC_none n) hb hx, fun b o e n hb hx => un.slot b o e (offC_none n) hb hx, fun b o e n hx => ?_, un.there, fun b xs e => ?_, fun b o x e => ?_, fun b ps e => ?_⟩, fun a o e => ?_, r, q fun b c => cn c⟩
  · rw [onC_ne (nn n)]
    exact un.free b o e (offC_none n) hx
  · by_cases c : AtC cl b
    · rw [onC_at c]; exact e
    · rw [onC_ne c]; exact un.tups b xs (by rw [offC_ne c]; exact e)
  · by_cases c : AtC cl b
    · rw [onC_at c]; exact e
    · rw [onC_ne c]; exact un.frzs b o x (by rw [offC_ne c]; exact e)
  · by_cases c : AtC cl b
    · exact ⟨#[], by rw [onC_at c, e]; simp⟩
    · obtain ⟨m, z⟩ := un.tbls b ps (by rw [offC_ne c]; exact e)
      exact ⟨m, by rw [onC_ne c]; exact z⟩
  · by_cases c : AtC cl a
    · rw [onC_at c] at e
      obtain ⟨o', h1, h2⟩ := cg c
      rw [h1] at e
      cases e
      have k := un.keep a o' h2 (offC_at c) (nof c) (by simp)
      exact ⟨k, o', k⟩
    · rw [onC_ne c] at e
      refine (hok a o e).stay (fun _ _ _ z => z) (fun b z => ?_) fun b xs z => ?_
      · rw [onC_ne fun k => by rw [cn k] at z; cases z]; exact z
      · rw [onC_ne fun k => by rw [cn k] at z; cases z]; exact z
end
/-- the promise of a function with captured cells, where these are known -/
noncomputable def capSp (cl : List (Str × Addr)) (ws : List (Option V)) (sp : List (Option V) → Sp) : Sp := fun vs H Q E => sp ws vs (offC cl H) (fun v H' => (∀ b, AtC cl b → H' b = none) → Q v (onC cl H H')) E
/-! ### what is returned new is known from now on -/
def Fzb : HO → Prop
  | .lst _ => True
  | .dK _ => True
  | _ => False
def frzSp (sp : Sp) : Sp := fun vs H Q E => sp vs H (fun v H' => ∃ a u, v = .ref a ∧ H a = none ∧ H' a = some u ∧ Fzb u ∧ ∀ o, Q v (upd H' a (.frz o u))) E
theorem ce_frz {outer : List Env} {P : Program} {w : World} {H : Hp} {s s' : Shared} {u : Value} {Q : VK} (h : CE outer P w H s (fun v H' => ∃ a u, v = .ref a ∧ H a = none ∧ H' a = some u ∧ Fzb u ∧ ∀ o, Q v (upd H' a (.frz o u))) u s') : CE outer P w H s Q u s' := by
  obtain ⟨v, H', os, bare, un, hok, r, a, x, rfl, h1, h2, hz, q⟩ := h
  have old : s.heap.get? a = none := by
    cases e : s.heap.get? a with
    | none => rfl
    | some o => rw [un.free a o e h1 (by simp)] at h2; cases h2
  obtain ⟨o, ho⟩ : ∃ o, s'.heap.get? a = some o := by
    have := hok a x h2
    cases x with
    | lst xs => obtain ⟨_, its, n, _, e⟩ := this; exact ⟨_, e⟩
    | dK kvs => obtain ⟨_, _, vs, _, ob, es, ep, e, _⟩ := this; exact ⟨_, e⟩
    | _ => exact hz.elim
  have ne : ∀ b y, H b = some y → b ≠ a := fun b y e z => by rw [z, h1] at e; cases e
  have nt : ∀ xs, x ≠ .tup xs := fun xs e => by rw [e] at hz; exact hz
  have no : ∀ y, x ≠ .own y := fun y e => by rw [e] at hz; exact hz
  refine ⟨.ref a, upd H' a (.frz o x), os, bare, ⟨un.keep, un.slot, fun b ob e n hx => ?_, un.there, fun b xs e => ?_, fun b ob y e => ?_, fun b ps e => ?_⟩, fun b y e => ?_, r, q o⟩
  · rw [upd_ne fun z => by rw [z, old] at e; cases e]
    exact un.free b ob e n hx
  · rw [upd_ne (ne _ _ e)]; exact un.tups b xs e
  · rw [upd_ne (ne _ _ e)]; exact un.frzs b ob y e
  · obtain ⟨m, z⟩ := un.tbls b ps e
    exact ⟨m, by rw [upd_ne (ne _ _ e)]; exact z⟩
  · have key : ∀ b y, H' b = some y → ObjOk P w (upd H' a (.frz o x)) s'.heap b y := fun b y e => (hok b y e).stay (fun _ _ _ z => z)
      (fun c z => by rw [upd_ne fun k => by rw [k, h2] at z; exact no _ (Option.some.inj z)]; exact z) fun c xs z => by rw [upd_ne fun k => by rw [k, h2] at z; exact nt _ (Option.some.inj z)]; exact z
    by_cases c : b = a
    · subst c
      rw [upd_same] at e
      cases e
      exact ⟨ho, key b x h2⟩
    · rw [upd_ne c] at e
      exact key b y e
section
variable {P : Program} {w : World} {K : PySem.W.Frag} {mg : Str → Option Value} {base : Heap} {k : Nat} {f : Addr} {ps fr : List Str}
theorem cr_frz {outer : List Env} {H : Hp} {s : Shared} {Q : VK} {E E' : XK} {r : Result} {s' : Shared} (h : CR CX0 outer P w H s (fun v H' => ∃ a u, v = .ref a ∧ H a = none ∧ H' a = some u ∧ Fzb u ∧ ∀ o, Q v (upd H' a (.frz o u))) E r s') : CR CX0 outer P w H s Q E' r s' := by
  cases r with
  | error e => exact h
  | ok fl =>
    cases fl with
    | ret u => exact ce_frz h
    | next => exact h
    | brk => exact h
    | cont => exact h
theorem nok_frz {F : NF} {sp : List (Option V) → Sp} (o : NOk P w K mg base CX0 k f F ps fr sp) : NOk P w K mg base CX0 k f F ps fr (fun ws => frzSp (sp ws)) :=
  ⟨fun ws vs H Q E q => o.len _ _ _ _ _ q, fun A outer s H us vs ws Q E hr e0 hf hc C r q => codeAny_mono (o.run A outer s H us vs ws _ E hr e0 hf hc C r q) fun r s' z => cr_frz z⟩
theorem fn_frz {fd : FuncData} {sp : Sp} (o : FnOk P w K mg base CX0 k f fd ps sp) : FnOk P w K mg base CX0 k f fd ps (frzSp sp) :=
  ⟨fun vs H Q E q => o.len _ _ _ _ q, fun A outer s H args us vs Q E hr e0 hb r q => codeAny_mono (o.run A outer s H args us vs _ E hr e0 hb r q) fun r s' z => cr_frz z⟩
end
/-! ### a call of a parameter that holds a function with captured cells -/
inductive CalC (P : Program) (w : World) (K : PySem.W.Frag) (mg : Str → Option Value) (base : Heap) (k : Nat) (f : Addr) (sp : Sp) (H : Hp) : Prop
  | pl (c : Cal P w K mg base k f sp H)
  | cap {F : NF} {ps fr : List Str} {ws : List (Option V)} {sp' : List (Option V) → Sp} (o : NOk P w K mg base CX0 k f F ps fr sp') (h : H f = some (FnO f F)) (hc : H F.c = some (CodeO F.c F.qual)) (W : WithC F.cl fr ws H) (e : ∀ vs H Q E, sp vs H Q E → capSp F.cl ws sp' vs H Q E)
theorem CalC.same {P : Program} {w : World} {K : PySem.W.Frag} {mg : Str → Option Value} {base : Heap} {k : Nat} {f : Addr} {sp : Sp} {H H' : Hp} (c : CalC P w K mg base k f sp H) (s : ∀ b F, H b = some (.ext F) → H' b = some (.ext F)) (z : ∀ b o u, H b = some (.frz o u) → H' b = some (.frz o u)) : CalC P w K mg base k f sp H' := by
  cases c with
  | pl c => exact .pl (c.same s)
  | cap o h hc W e => exact .cap o (s _ _ h) (s _ _ hc) (W.same z) e
def tCallZ (P : Program) (w : World) (K : PySem.W.Frag) (mg : Str → Option Value) (base : Heap) (k i : Nat) (t : TA) : TE := fun σ H Q => ∃ (f : Addr) (sp : Sp), σ[i]? = some (some (.ref f)) ∧ CalC P w K mg base k f sp H ∧
  t σ H fun vs H1 => CalC P w K mg base k f sp H1 ∧ (∀ b F, H b = some (.ext F) → H1 b = some (.ext F)) ∧ (∀ b o u, H b = some (.frz o u) → H1 b = some (.frz o u)) ∧ sp vs H1 Q (fun _ _ _ => False)
section
variable {X : Cx} {i j k : Nat} {x : Str} {p pos : Pos} {e : Expr} {es : List Expr} {t : TA}
theorem run_cap {pins : List (Addr × Obj)} {σ : L2.St} {H : Hp} {s : Shared} {Q : VK} {f : Addr} {F : NF} {ps fr : List Str} {ws : List (Option V)} {us : List Value} {vs : List V} {sp : List (Option V) → Sp} (o : NOk X.prog X.w X.K X.mg X.base CX0 k f F ps fr sp) (hr : Room j X.A) (hk : k ≤ j) (I : Inv X pins σ H s)
    (hf : H f = some (FnO f F)) (hc : H F.c = some (CodeO F.c F.qual)) (W : WithC F.cl fr ws H) (r : Vals vs us) (q : capSp F.cl ws sp vs H Q (fun _ _ _ => False)) :
    wpAny (model X.prog X.w) X.A (call (.ref f) us) (EP X pins σ Q) X.xe s := by
  refine wpAny_call (codeAny_mono (o.run X.A X.stack s (offC F.cl H) us vs ws _ _ (hr.mono hk) (W.env0 I.env0) (W.off hf fun _ e => nomatch e) (W.off hc fun _ e => nomatch e) (W.cells I.hok) r q) fun r s' hq => ?_)
  cases r with
  | error e => exact (show False from hq).elim
  | ok fl =>
    cases fl with
    | ret u => exact I.after (W.back I.hok I.stkFree hq)
    | next => exact False.elim hq
    | brk => exact False.elim hq
    | cont => exact False.elim hq
theorem pe_callZ (hr : Room j X.A) (hk : k ≤ j) (hN : X.N[i]? = some x) (hv : Vis X.env.scope x) (ha : PA X (e :: es) t)
    (hdb : (x == ("__debug__" : Str)) = false := by decide) (hcd : (x == ("__classdict__" : Str)) = false := by decide)
    (he : starEach (e :: es) X.env = (false, eval e X.env) :: starEach es X.env := by rfl) (hpl : (backTo pos (starEach es X.env)).any (·.1) = false := by rfl) :
    PE X (.Call (.Name x p) (e :: es) [] pos) (tCallZ X.prog X.w X.K X.mg X.base k i t) := by
  refine ⟨fun pins s σ H Q I ⟨f, sp, hs, hc, ht⟩ => ?_⟩
  cases hc with
  | pl c =>
    refine wpAny_Call_Name_kw (thn ((pe_var (pos := p) hN hv hdb hcd).run pins s σ H (fun v H1 => v = .ref f ∧ H1 = H) I ⟨.ref f, hs, rfl, rfl⟩) fun u s1 ⟨v, H1, I1, r1, q1, q2⟩ => ?_)
    subst q1 q2
    obtain rfl : u = Value.ref f := r1
    cases c with
    | @top fd ps o kp b =>
      refine PySem.W.callWith_K (h₀ := X.base) I.ok.mod.kin kp (thn (ha.run pos pins s1 σ _ _ I1 ht) fun us s2 ⟨vs, H2, I2, r, _, _, _, q⟩ => ⟨I2.kIn, ?_⟩) he hpl
      refine run_fn (dvs := []) (E := fun _ _ _ => False) o (hr.mono hk) b .nil pass0 I2 r ?_
      rw [List.append_nil]
      exact q
    | @made F ps o cl h hcode =>
      refine PySem.W.callWith_F (first := []) (fnAt_of I1 h) (thn (ha.run pos pins s1 σ _ _ I1 ht) fun us s2 ⟨vs, H2, I2, r, _, keep, _, q⟩ => ⟨fnAt_of I2 (keep _ _ h), ?_⟩) he hpl
      show wpAny _ _ (call (.ref f) us) _ _ _
      exact run_n (mk := fun _ => F) (js := []) (fr := []) (c' := f) (sp := fun _ _ _ => sp) o hr hk (E := fun _ _ _ => False) pass0 I2 (keep _ _ h) (keep _ _ hcode) (cells_none cl _ _) r q
    | @lam F ps o h hcode =>
      have fa : ∀ {s' : Shared} {H' : Hp}, Inv X pins σ H' s' → H' f = some (LamO f F) → PySem.W.FnAt f s'.heap := fun I' h' => by
        obtain ⟨pm, ctv, ho⟩ := lamO_at I'.hok h'
        exact ⟨_, _, _, _, ho⟩
      refine PySem.W.callWith_F (first := []) (fa I1 h) (thn (ha.run pos pins s1 σ _ _ I1 ht) fun us s2 ⟨vs, H2, I2, r, _, keep, _, q⟩ => ⟨fa I2 (keep _ _ h), ?_⟩) he hpl
      show wpAny _ _ (call (.ref f) us) _ _ _
      refine wpAny_call (codeAny_mono (o.run X.A X.stack s2 H2 us vs _ _ (hr.mono hk) I2.env0 (keep _ _ h) (keep _ _ hcode) r q) fun r s' hq => ?_)
      cases r with
      | error e => exact (show False from hq).elim
      | ok fl =>
        cases fl with
        | ret u => exact I2.after hq
        | next => exact False.elim hq
        | brk => exact False.elim hq
        | cont => exact False.elim hq
  | @cap F ps fr ws sp' o h hcode W hsp =>
    refine wpAny_Call_Name_kw (thn ((pe_var (pos := p) hN hv hdb hcd).run pins s σ H (fun v H1 => v = .ref f ∧ H1 = H) I ⟨.ref f, hs, rfl, rfl⟩) fun u s1 ⟨v, H1, I1, r1, q1, q2⟩ => ?_)
    subst q1 q2
    obtain rfl : u = Value.ref f := r1
    refine PySem.W.callWith_F (first := []) (fnAt_of I1 h) (thn (ha.run pos pins s1 σ _ _ I1 ht) fun us s2 ⟨vs, H2, I2, r, _, k1, k2, q⟩ => ⟨fnAt_of I2 (k1 _ _ h), ?_⟩) he hpl
    show wpAny _ _ (call (.ref f) us) _ _ _
    exact run_cap o hr hk I2 (k1 _ _ h) (k1 _ _ hcode) (W.same k2) r (hsp _ _ _ _ q)
end
/-! ### a call of a def of the top that is handed a function with captured cells -/
/-- H2 is H with the cells of cl known -/
structure Plus (cl : List (Str × Addr)) (fr : List Str) (ws : List (Option V)) (H H2 : Hp) : Prop where
  w : WithC cl fr ws H2
  no : ∀ b, AtC cl b → H b = none
  eq : ∀ b, ¬ AtC cl b → H2 b = H b
theorem Plus.same {cl : List (Str × Addr)} {fr : List Str} {ws : List (Option V)} {H H2 : Hp} (p : Plus cl fr ws H H2) : L2.Same H H2 := fun b o e => by
  rw [p.eq b fun c => by rw [p.no b c] at e; cases e]; exact e
theorem Plus.off {cl : List (Str × Addr)} {fr : List Str} {ws : List (Option V)} {H H2 H3 : Hp} (p : Plus cl fr ws H H2) (s : L2.Same H2 H3) : L2.Same H (offC cl H3) := fun b o e => by
  have n : ¬ AtC cl b := fun c => by rw [p.no b c] at e; cases e
  rw [offC_ne n]; exact s _ _ (p.same _ _ e)
theorem Plus.free {cl : List (Str × Addr)} {fr : List Str} {ws : List (Option V)} {H H2 H3 : Hp} (p : Plus cl fr ws H H2) (n : ∀ b, H3 b = none → H2 b = none) : ∀ b, offC cl H3 b = none → H b = none := fun b e => by
  by_cases c : AtC cl b
  · exact p.no b c
  · rw [offC_ne c] at e
    rw [← p.eq b c]; exact n b e
def tCallW (cl : List (Str × Addr)) (fr : List Str) (js : List Nat) (sp : Sp) (t : TA) : TE := fun σ H Q => t σ H fun vs H1 => ∀ H2, Plus cl fr (js.map (slotAt σ)) H1 H2 → sp vs H2 (fun v H3 => WithC cl fr (js.map (slotAt σ)) H3 → Q v (offC cl H3)) (fun _ _ _ => False)
section
variable {X : Cx} {pins : List (Addr × Obj)} {σ : L2.St} {H : Hp} {s : Shared} {cl : List (Str × Addr)} {fr : List Str} {js : List Nat}
open Classical in
/-- the running frame's cells, known -/
theorem plus_of (I : Inv X pins σ H s) (c : Caps X cl fr js) (mem : ∀ p ∈ cl, X.env.cells.lookup p.1 = some p.2) (hfn : ∀ p ∈ cl, X.fn p.1 = true) :
    ∃ H2, Plus cl fr (js.map (slotAt σ)) H H2 ∧ Env0 X.prog X.w X.K X.mg X.base X.A X.stack s H2 := by
  have C := cells_of I c
  have cg : ∀ b, AtC cl b → ∃ o v, s.heap.get? b = some o ∧ o.data = .cell v ∧ H b = none := fun b ⟨p, hp, e⟩ => by
    subst e
    obtain ⟨v, o, h1, h2⟩ := I.cell _ _ (mem p hp)
    exact ⟨o, v, h1, h2, I.freeC _ _ (mem p hp)⟩
  refine ⟨fun b => if AtC cl b then (s.heap.get? b).map fun o => .frz o (.own b) else H b, ⟨⟨C.len, C.inj, fun p hp => ?_, fun i y e => ?_⟩, fun b h => ?_, fun b h => if_neg h⟩, ?_⟩
  · obtain ⟨o, v, h1, h2, _⟩ := cg p.2 ⟨p, hp, rfl⟩
    exact ⟨o, v, (if_pos (⟨p, hp, rfl⟩ : AtC cl p.2)).trans (by rw [h1]; rfl), h2⟩
  · obtain ⟨a, h1, h2⟩ := C.has i y e
    refine ⟨a, h1, fun v hv => ?_⟩
    obtain ⟨u, r, o, h3, h4⟩ := h2 v hv
    have at_ : AtC cl a := ⟨_, PySem.mem_of_lookup h1, rfl⟩
    exact ⟨u, o, r, (if_pos at_).trans (by rw [h3]; rfl), h4⟩
  · obtain ⟨_, _, _, _, n⟩ := cg b h
    exact n
  · have e := I.env0
    have nc : ∀ b, AtC cl b → X.s_0.heap.objs.size ≤ b ∧ b ≠ X.env.locals := fun b ⟨p, hp, z⟩ => by
      subst z
      exact ⟨I.ok.cab _ _ (hfn p hp) (mem p hp), I.cne _ _ (mem p hp)⟩
    refine ⟨e.frames, e.mod, fun b o q => ⟨(e.bs b o q).1, ?_⟩, e.bsz, e.funs, fun b hb => ?_, fun a o q => ?_, e.bare⟩
    · refine (if_neg fun z => ?_).trans (e.bs b o q).2
      have h1 := (nc b z).1
      have h2 := Heap.lt_size (I.ok.bs b o q).1
      exact absurd (Nat.lt_of_lt_of_le h2 h1) (Nat.lt_irrefl _)
    · refine (if_neg fun z => ?_).trans (e.frf b hb)
      rcases List.mem_cons.mp (I.stkSub b hb) with k | k
      · exact (nc b z).2 k
      · obtain ⟨_, o, ho, _⟩ := I.ok.funs.mem k
        exact absurd (Nat.lt_of_lt_of_le (Heap.lt_size ho) (nc b z).1) (Nat.lt_irrefl _)
    · by_cases z : AtC cl a
      · obtain ⟨o', v, h1, h2, h3⟩ := cg a z
        have q' : (s.heap.get? a).map (fun o => HO.frz o (.own a)) = some o := (if_pos z).symm.trans q
        rw [h1] at q'
        cases q'
        exact ⟨h1, o', h1⟩
      · have q' : H a = some o := (if_neg z).symm.trans q
        refine (I.hok a o q').stay (fun _ _ _ k => k) (fun b k => ?_) fun b xs k => ?_
        · refine (if_neg fun z2 => ?_).trans k
          obtain ⟨_, _, _, _, n⟩ := cg b z2
          rw [n] at k; cases k
        · refine (if_neg fun z2 => ?_).trans k
          obtain ⟨_, _, _, _, n⟩ := cg b z2
          rw [n] at k; cases k
/-- behind the call the cells are the frame's again -/
theorem plus_back {P : Program} {w : World} {outer : List Env} {H2 : Hp} {s' : Shared} {u : Value} {Q : VK} {ws : List (Option V)} (p : Plus cl fr ws H H2) (ok : HOk P w H2 s.heap) (frf : ∀ b ∈ frs outer, H2 b = none)
    (h : CE outer P w H2 s (fun v H3 => WithC cl fr ws H3 → Q v (offC cl H3)) u s') : CE outer P w H s Q u s' := by
  obtain ⟨v, H3, os, bare, un, hok, r, q⟩ := h
  have W3 := p.w.same un.frzs
  have cg : ∀ {b}, AtC cl b → ∃ o, H2 b = some (.frz o (.own b)) ∧ s.heap.get? b = some o := fun {b} c => by
    obtain ⟨o, v, h1, _⟩ := p.w.at_ c
    obtain ⟨z, _⟩ := ok _ _ h1
    exact ⟨o, h1, z⟩
  have ks : ∀ b o, s.heap.get? b = some o → AtC cl b → s'.heap.get? b = some o := fun b o e c => by
    obtain ⟨o', h1, h2⟩ := cg c
    rw [h2] at e
    cases e
    obtain ⟨z, _⟩ := hok _ _ (un.frzs _ _ _ h1)
    exact z
  have nn : ∀ {b y}, H b = some y → ¬ AtC cl b := fun {b y} e c => by rw [p.no b c] at e; cases e
  refine ⟨v, offC cl H3, os, bare, ⟨fun b o e n hb hx => ?_, fun b o e n hb hx => ?_, fun b o e n hx => ?_, un.there, fun b xs e => ?_, fun b o x e => ?_, fun b ps e => ?_⟩, W3.hok hok, r, q W3⟩
  · by_cases c : AtC cl b
    · exact ks b o e c
    · exact un.keep b o e ((p.eq b c).trans n) hb hx
  · by_cases c : AtC cl b
    · exact ⟨o.slots, ks b o e c⟩
    · exact un.slot b o e ((p.eq b c).trans n) hb hx
  · by_cases c : AtC cl b
    · exact offC_at c
    · exact offC_none (un.free b o e ((p.eq b c).trans n) hx)
  · rw [offC_ne (nn e)]
    exact un.tups b xs ((p.eq b (nn e)).trans e)
  · rw [offC_ne (nn e)]
    exact un.frzs b o x ((p.eq b (nn e)).trans e)
  · rw [offC_ne (nn e)]
    exact un.tbls b ps ((p.eq b (nn e)).trans e)
variable {k : Nat} {f : Addr} {fd : FuncData} {ps : List Str} {sp : Sp} {x : Str} {p pos : Pos} {e : Expr} {es : List Expr} {t : TA}
theorem pe_callW (F : FnOk X.prog X.w X.K X.mg X.base CX0 k f fd ps sp) (hr : Room k X.A) (hg : Gl X x) (hm : X.mg x = some (.ref f)) (hk : PySem.W.keepIn X.K (.ref f) = true) (hb : Binds X.K fd ps [])
    (cp : X.Ok → Caps X cl fr js) (mem : X.Ok → ∀ p ∈ cl, X.env.cells.lookup p.1 = some p.2) (hfn : ∀ p ∈ cl, X.fn p.1 = true)
    (ha : PA X (e :: es) t) (hdb : (x == ("__debug__" : Str)) = false := by decide) (he : starEach (e :: es) X.env = (false, eval e X.env) :: starEach es X.env := by rfl) (hpl : (backTo pos (starEach es X.env)).any (·.1) = false := by rfl) :
    PE X (.Call (.Name x p) (e :: es) [] pos) (tCallW cl fr js sp t) := by
  refine ⟨fun pins s σ H Q I h => ?_⟩
  refine wpAny_Call_Name_kw (ld_glob I hg hm ?_ hdb)
  refine PySem.W.callWith_K (h₀ := X.base) I.ok.mod.kin hk (thn (ha.run pos pins s σ H _ I h) fun us s1 ⟨vs, H1, I1, r, q⟩ => ⟨I1.kIn, ?_⟩) he hpl
  obtain ⟨H2, pl, e2⟩ := plus_of I1 (cp I1.ok) (mem I1.ok) hfn
  have q2 := q H2 pl
  have hl : us.length = ps.length := by rw [← r.length]; exact F.len _ _ _ _ q2
  have hb' := hb s1 us I1.kIn (by rw [List.append_nil]; exact hl)
  rw [List.append_nil] at hb'
  show wpAny _ _ (call (.ref f) us) _ _ _
  refine wpAny_call (codeAny_mono (F.run X.A X.stack s1 H2 ⟨us, []⟩ us vs _ _ hr e2 hb' r q2) fun r s' hq => ?_)
  cases r with
  | error e => exact (show False from hq).elim
  | ok fl =>
    cases fl with
    | ret u => exact I1.after (plus_back pl e2.hok e2.frf hq)
    | next => exact False.elim hq
    | brk => exact False.elim hq
    | cont => exact False.elim hq
/-- the members of a made function's cells -/
theorem clo_mem {cells : List (Str × Addr)} {names : List (Str × NameKind)} (hfree : ∀ y ∈ names, y.2 = .free → ∃ c, cells.lookup y.1 = some c) : ∀ p ∈ cloFrom cells names [], cells.lookup p.1 = some p.2 := fun p hp => by
  rcases cloFrom_mem (show (p.1, p.2) ∈ _ from hp) with hm | ⟨h1, h2⟩
  · cases hm
  · obtain ⟨c1, hc⟩ := hfree _ h1 rfl
    have hc : cells.lookup p.1 = some c1 := hc
    have e2 : p.2 = c1 := by
      rw [h2, hc] <;> rfl
    rw [e2]
    exact hc
theorem caps_mem {scope : Scope} (ok : X.Ok) (hfree : ∀ y ∈ scope.names, y.2 = .free → X.env.scope.names.lookup y.1 = some .cell ∨ X.env.scope.names.lookup y.1 = some .free) : ∀ p ∈ cloFrom X.env.cells scope.names [], X.env.cells.lookup p.1 = some p.2 :=
  clo_mem fun y hy e => (hfree y hy e).elim (fun z => ok.has _ (.inl z)) fun z => ok.has _ (.inr z)
end
end E

set_option Elab.async false
set_option linter.all false
set_option maxRecDepth 100000
set_option maxHeartbeats 4000000
/-! try .. except C as e .. else .. -/
namespace E
open PySem PySem.Spec PyProof.Rows L2
/-- the reading of try .. except C as e .. else .. -/
def tTryE (K : PySem.W.Frag) (c : Value) (i : Nat) (ts : Addr → Value → Option Addr → L2.TS) (tb : WX → L2.TS) (u : L2.TS) (Wout : WX) : L2.TS := fun D σ H => tb (wAs K c i ts Wout D) { D with nx := u D } σ H
section
variable {X : Cx} {x n : Str} {c : Value} {i : Nat} {body suite : List Stmt} {b₀ : Stmt} {np pos pos' : Pos} {tb : WX → L2.TS} {ts : Addr → Value → Option Addr → L2.TS} {Wout : WX}
theorem ps_try_asE {other : List Stmt} {u : L2.TS} (els : PSs X other u) (top : X.stack = X.env :: X.outer) (fr : X.env.frame = some X.env.locals) (nd : X.N.Nodup) (at_ : X.N[i]? = some n) (loc : X.env.kindOf n = some .local) (names : Names X x c) (tk : Takes X Wout)
    (tried : ∀ (W : WX) (pn : List (Addr × Obj)) (xe : Value → Shared → Prop), Takes (X.tr pn xe) W → PassesOwn (model X.prog X.w) X.A X.env xe → PSs (X.tr pn xe) body (tb W))
    (caught : ∀ (a : Addr) (oe : Obj) (cls : Value) (d : Option Addr) (pn : List (Addr × Obj)), Zc cls d oe → (∃ vs, oe.data = .fields vs) → PSs (X.suite a ((a, oe) :: pn)) (b₀ :: suite) (ts a cls d)) :
    PS X (.Try body [.ExceptHandler (some (.Name x np)) (some n) (b₀ :: suite) pos'] other [] pos) (tTryE X.K c i ts tb u Wout) := by
  refine ⟨fun pins s σ H D I h => wpAny_Try_except ?_⟩
  have ok := I.ok
  have frames : X.A.frames = some (X.env :: X.outer) := ok.frames.trans (by rw [top])
  refine wpAny_mono ((tried (wAs X.K c i ts Wout D) (X.pn ++ pins) _ (fun e s' flies => ?_) PassesOwn.looking).run [] s σ H { D with nx := u D } (I.toTry _) h) (fun f s1 r => ?_) fun e s1 z => z
  · obtain ⟨a, B, sI, pins', σ', H', cls, d, rfl, J', nb, up, sky, na, os, ag, b, test, yes, no⟩ := flies
    have J : Inv X pins σ' H' sI := J'.ofTry ok
    show wpAny (model X.prog X.w) X.A (noteFrame (.ref a) X.env) _ _ _
    refine Sky.land (Z := Zc cls d) Zc.steady frames fr (by rw [← top]; exact sky) fun h3 fl3 up3 => ?_
    have J3 : Inv X pins σ' H' { s' with heap := h3 } := J.landed nb fl3.1 (up.trans up3) os ag
    obtain ⟨oe, vs, at3, z3, data3⟩ := fl3.there
    have alone : a ∉ frs (X.env :: X.outer) := fun m => by
      obtain ⟨_, o', e', notFrame⟩ := fl3.2.2.1.mem m
      rw [at3] at e'
      cases e'
      exact notFrame _ data3
    have nL : a ≠ X.env.locals := fun z => alone (List.mem_filterMap.mpr ⟨X.env, List.mem_cons_self, by rw [fr, z]⟩)
    have nF : a ∉ X.fs := fun m => by
      obtain ⟨e, he, q⟩ := List.mem_filterMap.mp m
      exact alone (List.mem_filterMap.mpr ⟨e, List.mem_cons_of_mem _ he, q⟩)
    have S3 := J3.suite at3 data3 na nL nF
    refine wpAny_handleBy_cons (codeAny_handlers_test ?_) (by intro q; cases q)
    have kind := PySem.W.exm_one (M := model X.prog X.w) J3.kIn (fun A Q E s k q => wpAny_typeOf_ref (k _ _ at3) (by rw [z3.1]; exact q)) test
    have look : wpAny (model X.prog X.w) (X.A.mark (some (.ref a))) (eval (.Name x np) X.env) (fun v s4 => v = c ∧ s4 = { s' with heap := h3 }) (fun _ _ => False) { s' with heap := h3 } := by
      obtain ⟨gl, dbg, m | ⟨m, bv, nn⟩⟩ := names
      · exact ld_glob (X := X.suite a ((a, oe) :: (X.pn ++ pins))) S3 gl m ⟨rfl, rfl⟩ dbg
      · exact ld_blt (X := X.suite a ((a, oe) :: (X.pn ++ pins))) S3 gl m bv ⟨rfl, rfl⟩ nn dbg
    refine wpAny_mono look (fun v s4 ⟨ev, es⟩ => ?_) fun _ _ z => z.elim
    subst ev es
    refine kind.here ?_
    cases b with
    | true =>
      refine codeAny_handlers_suite_as (HandSPX.lands_againZ fl3 fun h4 fl4 up4 => ?_)
      obtain ⟨oe4, vs4, at4, z4, data4⟩ := fl4.there
      have J4 : Inv X pins σ' H' { s' with heap := h4 } := J.landed nb fl4.1 ((up.trans up3).trans up4) os ag
      have S4 := J4.suite at4 data4 na nL nF
      refine store_ok (X := X.suite a ((a, oe4) :: (X.pn ++ pins))) (v := .ref a) S4 nd at_ (.inl loc) rfl (fun s5 S5 => ?_) (.inr loc)
      refine wpAny_mono ((caught a oe4 cls d (X.pn ++ pins) z4 ⟨_, data4⟩).run [] s5 _ H' _ S5 (yes rfl a na)) (fun f s6 r6 => ?_) fun _ _ z => z.elim
      cases f with
      | ret w =>
        obtain ⟨v6, σ6, H6, S6, rel6, q6⟩ := r6
        exact gone_ok (S6.unsuite ok) nd at_ loc fun s7 J7 => ⟨_, _, _, J7, rel6, q6⟩
      | next =>
        obtain ⟨σ6, H6, S6, q6⟩ := r6
        exact gone_ok (S6.unsuite ok) nd at_ loc fun s7 J7 => ⟨_, _, J7, q6⟩
      | brk =>
        obtain ⟨σ6, H6, S6, q6⟩ := r6
        exact gone_ok (S6.unsuite ok) nd at_ loc fun s7 J7 => ⟨_, _, J7, q6⟩
      | cont =>
        obtain ⟨σ6, H6, S6, q6⟩ := r6
        exact gone_ok (S6.unsuite ok) nd at_ loc fun s7 J7 => ⟨_, _, J7, q6⟩
    | false =>
      show wpAny _ X.A (handleBy (.ref a) X.env []) _ _ _
      obtain ⟨_, _, _, oe5, vs5, T, oT, ts5, at5, z5, data5, tr5, hr5⟩ := id fl3
      refine wpAny_handleBy_nil ?_
      unfold PySem.passOn
      refine wpAny_bind (wpAny_field at5 data5 tr5 ?_)
      rw [if_neg (show ¬ ((Value.ref T == Value.none) = true) from by simp)]
      have on : wpAny (model X.prog X.w) X.A (setFlight (.ref a) X.env.frame) (fun _ s4 => wpAny (model X.prog X.w) X.A (throw (.ref a) : Sem Flow) (SP X pins D) X.xe s4) X.xe { s' with heap := h3 } := by
        rw [fr]
        exact HandSPX.setFlight_upZ fl3 fun h4 hh4 up4 => wpAny_throw (tk _ _ ⟨a, B, sI, pins, σ', H', cls, d, rfl, J, nb, (up.trans up3).trans up4, .inr (.inr (by rw [top]; exact hh4)), na, os, ag, no rfl⟩)
      first
        | exact wpAny_bind (wpAny_pure (wpAny_bind on))
        | exact wpAny_bind on
  · cases f with
    | ret w =>
      obtain ⟨v, σ', H', J', rel, q⟩ := r
      exact ⟨v, σ', H', J'.ofTry ok, rel, q⟩
    | next =>
      obtain ⟨σ', H', J', q⟩ := r
      exact els.run pins s1 σ' H' D (J'.ofTry ok) q
    | brk =>
      obtain ⟨σ', H', J', q⟩ := r
      exact ⟨σ', H', J'.ofTry ok, q⟩
    | cont =>
      obtain ⟨σ', H', J', q⟩ := r
      exact ⟨σ', H', J'.ofTry ok, q⟩
end
end E

set_option Elab.async false
set_option linter.all false
set_option maxRecDepth 100000
set_option maxHeartbeats 4000000
namespace E
open PySem PySem.Spec PyProof.Rows L2
abbrev topS (i : Nat) : Stmt := PySem.Challenge.pw_elsewhere_k62_forcing_is_truth_of_transl.main.body.getD i (.Pass ⟨0, 0, 0, 0⟩)
abbrev s_parts_of : Stmt := topS 5
theorem sc_parts_of : FnScope ["a"] ["a"] (defScope s_parts_of) := ⟨rfl, rfl, rfl, by decide +kernel, rfl, by decide +kernel, by decide +kernel⟩
abbrev s_distinct : Stmt := topS 6
theorem sc_distinct : FnScope ["rows", "found", "row"] ["rows"] (defScope s_distinct) := ⟨rfl, rfl, rfl, by decide +kernel, rfl, by decide +kernel, by decide +kernel⟩
abbrev s_levels_of : Stmt := topS 7
theorem sc_levels_of : FnScope ["a"] ["a"] (defScope s_levels_of) := ⟨rfl, rfl, rfl, by decide +kernel, rfl, by decide +kernel, by decide +kernel⟩
abbrev s_levels_from : Stmt := topS 8
theorem sc_levels_from : FnScope ["formulas", "levels", "level", "b", "part"] ["formulas"] (defScope s_levels_from) := ⟨rfl, rfl, rfl, by decide +kernel, rfl, by decide +kernel, by decide +kernel⟩
abbrev s_place_of : Stmt := topS 9
theorem sc_place_of : FnScope ["rows", "row", "low", "high", "middle"] ["rows", "row"] (defScope s_place_of) := ⟨rfl, rfl, rfl, by decide +kernel, rfl, by decide +kernel, by decide +kernel⟩
abbrev s_folded : Stmt := topS 10
theorem sc_folded : FnScope ["a", "value_of", "numbers", "values", "below", "numbers_below", "level", "numbers_here", "b", "parts", "key", "part", "k"] ["a", "value_of"] (defScope s_folded) := ⟨rfl, rfl, rfl, by decide +kernel, rfl, by decide +kernel, by decide +kernel⟩
abbrev s_is_plain : Stmt := topS 12
theorem sc_is_plain : FnScope ["a"] ["a"] (defScope s_is_plain) := ⟨rfl, rfl, rfl, by decide +kernel, rfl, by decide +kernel, by decide +kernel⟩
abbrev s_subformulas : Stmt := topS 13
theorem sc_subformulas : FnScope ["a"] ["a"] (defScope s_subformulas) := ⟨rfl, rfl, rfl, by decide +kernel, rfl, by decide +kernel, by decide +kernel⟩
abbrev s_subformulas_of : Stmt := topS 14
theorem sc_subformulas_of : FnScope ["formulas", "level", "b"] ["formulas"] (defScope s_subformulas_of) := ⟨rfl, rfl, rfl, by decide +kernel, rfl, by decide +kernel, by decide +kernel⟩
abbrev s_boxes : Stmt := topS 15
theorem sc_boxes : FnScope ["a", "b"] ["a"] (defScope s_boxes) := ⟨rfl, rfl, rfl, by decide +kernel, rfl, by decide +kernel, by decide +kernel⟩
abbrev s_is_frame : Stmt := topS 17
theorem sc_is_frame : FnScope ["frame", "worlds", "pairs", "pair", "k"] ["frame"] (defScope s_is_frame) := ⟨rfl, rfl, rfl, by decide +kernel, rfl, by decide +kernel, by decide +kernel⟩
abbrev s_is_pair : Stmt := topS 18
theorem sc_is_pair : FnScope ["pair", "worlds", "v", "w"] ["pair", "worlds"] (defScope s_is_pair) := ⟨rfl, rfl, rfl, by decide +kernel, rfl, by decide +kernel, by decide +kernel⟩
abbrev s_is_integer : Stmt := topS 19
theorem sc_is_integer : FnScope ["value"] ["value"] (defScope s_is_integer) := ⟨rfl, rfl, rfl, by decide +kernel, rfl, by decide +kernel, by decide +kernel⟩
abbrev s_rows_of : Stmt := topS 20
theorem sc_rows_of : FnScope ["frame", "rows", "v", "w"] ["frame"] (defScope s_rows_of) := ⟨rfl, rfl, rfl, by decide +kernel, rfl, by decide +kernel, by decide +kernel⟩
abbrev s_Model_init : Stmt := inClass (topS 22) 0
theorem sc_Model_init : FnScope ["self", "frame", "values", "name", "v"] ["self", "frame", "values"] (defScope s_Model_init) := ⟨rfl, rfl, rfl, by decide +kernel, rfl, by decide +kernel, by decide +kernel⟩
abbrev s_Model_frame : Stmt := inClass (topS 22) 1
theorem sc_Model_frame : FnScope ["self"] ["self"] (defScope s_Model_frame) := ⟨rfl, rfl, rfl, by decide +kernel, rfl, by decide +kernel, by decide +kernel⟩
abbrev s_Model_true_worlds : Stmt := inClass (topS 22) 2
theorem sc_Model_true_worlds : FnScope ["self", "name", "worlds"] ["self"] (defScope s_Model_true_worlds) := ⟨rfl, rfl, rfl, by decide +kernel, rfl, by decide +kernel, by decide +kernel⟩
abbrev s_Model_seen : Stmt := inClass (topS 22) 3
theorem sc_Model_seen : FnScope ["self", "v"] ["self", "v"] (defScope s_Model_seen) := ⟨rfl, rfl, rfl, by decide +kernel, rfl, by decide +kernel, by decide +kernel⟩
abbrev s_truth : Stmt := topS 23
theorem sc_truth : FnScope ["model", "a"] ["model", "a"] (defScope s_truth) := ⟨rfl, rfl, rfl, by decide +kernel, rfl, by decide +kernel, by decide +kernel⟩
abbrev s_forcing : Stmt := topS 24
theorem sc_forcing : FnScope ["model", "a"] ["model", "a"] (defScope s_forcing) := ⟨rfl, rfl, rfl, by decide +kernel, rfl, by decide +kernel, by decide +kernel⟩
abbrev s_worlds_of : Stmt := topS 25
theorem sc_worlds_of : FnScope ["model", "a", "forced", "worlds", "_", "rows", "true", "value_of", "v", "marked"] ["model", "a", "forced"] (defScope s_worlds_of) := ⟨rfl, rfl, rfl, by decide +kernel, rfl, by decide +kernel, by decide +kernel⟩
abbrev s_worlds_of_value_of : Stmt := (defBody s_worlds_of).getD 3 (.Pass ⟨0, 0, 0, 0⟩)
theorem nsc_worlds_of_value_of : NdefX.NScope ["b", "parts", "forced", "rows", "true", "worlds", "left", "right", "here", "x", "y"] ["b", "parts"] ["forced", "rows", "true", "worlds"] (C8.fnScope s_worlds_of_value_of) := NdefX.nscope_by (by decide +kernel)
theorem fsc_worlds_of_value_of : NdefX.ndefB (defScope s_worlds_of) (C8.fnScope s_worlds_of_value_of) ["forced", "rows", "true", "worlds"] = true := by decide +kernel
abbrev s_marks : Stmt := topS 26
theorem sc_marks : FnScope ["worlds", "places", "marks", "v"] ["worlds", "places"] (defScope s_marks) := ⟨rfl, rfl, rfl, by decide +kernel, rfl, by decide +kernel, by decide +kernel⟩
abbrev s_everywhere : Stmt := topS 27
theorem sc_everywhere : FnScope ["rows", "marks", "row", "w"] ["rows", "marks"] (defScope s_everywhere) := ⟨rfl, rfl, rfl, by decide +kernel, rfl, by decide +kernel, by decide +kernel⟩
abbrev s_check_plain : Stmt := topS 29
theorem sc_check_plain : FnScope ["a"] ["a"] (defScope s_check_plain) := ⟨rfl, rfl, rfl, by decide +kernel, rfl, by decide +kernel, by decide +kernel⟩
abbrev s_box_translation : Stmt := topS 30
theorem sc_box_translation : FnScope ["a", "value_of"] ["a"] (defScope s_box_translation) := ⟨rfl, rfl, rfl, by decide +kernel, rfl, by decide +kernel, by decide +kernel⟩
abbrev s_box_translation_value_of : Stmt := (defBody s_box_translation).getD 1 (.Pass ⟨0, 0, 0, 0⟩)
theorem nsc_box_translation_value_of : NdefX.NScope ["b", "parts"] ["b", "parts"] [] (C8.fnScope s_box_translation_value_of) := NdefX.nscope_by (by decide +kernel)
theorem fsc_box_translation_value_of : NdefX.ndefB (defScope s_box_translation) (C8.fnScope s_box_translation_value_of) [] = true := by decide +kernel
abbrev s_law_pool : Stmt := topS 32
theorem sc_law_pool : FnScope ["script", "salt", "cell"] ["script"] (defScope s_law_pool) := ⟨rfl, rfl, rfl, by decide +kernel, rfl, by decide +kernel, by decide +kernel⟩
abbrev s_law_spread : Stmt := topS 33
theorem sc_law_spread : FnScope ["cell", "mixed", "total", "k"] ["cell"] (defScope s_law_spread) := ⟨rfl, rfl, rfl, by decide +kernel, rfl, by decide +kernel, by decide +kernel⟩
abbrev s_law_draw : Stmt := topS 34
theorem sc_law_draw : FnScope ["pool", "many", "cell", "mixed", "value"] ["pool", "many"] (defScope s_law_draw) := ⟨rfl, rfl, rfl, by decide +kernel, rfl, by decide +kernel, by decide +kernel⟩
abbrev s_law_same : Stmt := topS 35
theorem sc_law_same : FnScope ["actual", "due", "k"] ["actual", "due"] (defScope s_law_same) := ⟨rfl, rfl, rfl, by decide +kernel, rfl, by decide +kernel, by decide +kernel⟩
abbrev s_law_formula : Stmt := topS 36
theorem sc_law_formula : FnScope ["pool", "depth", "plain", "number", "kind", "first"] ["pool", "depth", "plain"] (defScope s_law_formula) := ⟨rfl, rfl, rfl, by decide +kernel, rfl, by decide +kernel, by decide +kernel⟩
abbrev s_law_closed : Stmt := topS 37
theorem sc_law_closed : FnScope ["seen", "logic", "worlds", "pairs", "v", "w", "u", "row"] ["seen", "logic"] (defScope s_law_closed) := ⟨rfl, rfl, rfl, by decide +kernel, rfl, by decide +kernel, by decide +kernel⟩
abbrev s_law_model : Stmt := topS 38
theorem sc_law_model : FnScope ["numbers", "logic", "most", "first", "worlds", "bits", "number", "seen", "v", "row", "values", "k", "name", "mask", "here", "w"] ["numbers", "logic", "most"] (defScope s_law_model) := ⟨rfl, rfl, rfl, by decide +kernel, rfl, by decide +kernel, by decide +kernel⟩
abbrev s_law_true : Stmt := topS 39
theorem sc_law_true : FnScope ["model", "a", "w", "forced", "seen", "u"] ["model", "a", "w", "forced"] (defScope s_law_true) := ⟨rfl, rfl, rfl, by decide +kernel, rfl, by decide +kernel, by decide +kernel⟩
abbrev s_law_list : Stmt := topS 40
theorem sc_law_list : FnScope ["pool", "many", "k"] ["pool", "many"] (defScope s_law_list) := ⟨rfl, rfl, rfl, by decide +kernel, rfl, by decide +kernel, by decide +kernel⟩
abbrev s_law_some : Stmt := topS 41
theorem sc_law_some : FnScope ["pool", "depth", "plain"] ["pool", "depth", "plain"] (defScope s_law_some) := ⟨rfl, rfl, rfl, by decide +kernel, rfl, by decide +kernel, by decide +kernel⟩
abbrev s_law_where : Stmt := topS 42
theorem sc_law_where : FnScope ["model", "a", "forced", "w"] ["model", "a", "forced"] (defScope s_law_where) := ⟨rfl, rfl, rfl, by decide +kernel, rfl, by decide +kernel, by decide +kernel⟩
abbrev s_law_drawn_model : Stmt := topS 43
theorem sc_law_drawn_model : FnScope ["pool", "logic", "most"] ["pool", "logic", "most"] (defScope s_law_drawn_model) := ⟨rfl, rfl, rfl, by decide +kernel, rfl, by decide +kernel, by decide +kernel⟩
abbrev s_law_program_model : Stmt := topS 44
theorem sc_law_program_model : FnScope ["model", "values", "name"] ["model"] (defScope s_law_program_model) := ⟨rfl, rfl, rfl, by decide +kernel, rfl, by decide +kernel, by decide +kernel⟩
abbrev s_law_names : Stmt := topS 45
theorem sc_law_names : FnScope [] [] (defScope s_law_names) := ⟨rfl, rfl, rfl, by decide +kernel, rfl, by decide +kernel, by decide +kernel⟩
abbrev s_law_grid : Stmt := topS 46
theorem sc_law_grid : FnScope ["first", "second", "found", "v", "w"] ["first", "second"] (defScope s_law_grid) := ⟨rfl, rfl, rfl, by decide +kernel, rfl, by decide +kernel, by decide +kernel⟩
abbrev s_law_framed : Stmt := topS 47
theorem sc_law_framed : FnScope ["seen", "pairs", "pair"] ["seen"] (defScope s_law_framed) := ⟨rfl, rfl, rfl, by decide +kernel, rfl, by decide +kernel, by decide +kernel⟩
abbrev s_law : Stmt := topS 48
theorem sc_law : FnScope ["script", "pool", "logic", "model", "made", "k", "a", "due"] ["script"] (defScope s_law) := ⟨rfl, rfl, rfl, by decide +kernel, rfl, by decide +kernel, by decide +kernel⟩
structure Top (K : PySem.W.Frag) (mg : Str → Option Value) where
  c_InvalidModel : Addr
  g_InvalidModel : mg "InvalidModel" = some (.ref c_InvalidModel)
  x_InvalidModel : PySem.W.excIn K c_InvalidModel [.type "ValueError", .type "Exception", .type "BaseException", .type "object"] "ValueError.__new__" = true
  k_InvalidModel : PySem.W.keepIn K (.ref c_InvalidModel) = true
  b_InvalidModel : PySem.W.subIn K (.ref c_InvalidModel) (.type "BaseException") = some true
  t_InvalidModel : PySem.W.typeIn K (.ref c_InvalidModel) = some (.type "type")
  e_InvalidModel : PySem.W.exmOne K (.ref c_InvalidModel) (.ref c_InvalidModel) = some true
  c_NotPlain : Addr
  g_NotPlain : mg "NotPlain" = some (.ref c_NotPlain)
  x_NotPlain : PySem.W.excIn K c_NotPlain [.type "ValueError", .type "Exception", .type "BaseException", .type "object"] "ValueError.__new__" = true
  k_NotPlain : PySem.W.keepIn K (.ref c_NotPlain) = true
  b_NotPlain : PySem.W.subIn K (.ref c_NotPlain) (.type "BaseException") = some true
  t_NotPlain : PySem.W.typeIn K (.ref c_NotPlain) = some (.type "type")
  e_NotPlain : PySem.W.exmOne K (.ref c_NotPlain) (.ref c_NotPlain) = some true
  c_Model : Addr
  g_Model : mg "Model" = some (.ref c_Model)
  cl_Model : Cls K c_Model
  n_Model_frame : NoAttr K c_Model "_frame"
  n_Model_rows : NoAttr K c_Model "_rows"
  n_Model_true : NoAttr K c_Model "_true"
  f_parts_of : Addr
  d_parts_of : FuncData
  F_parts_of : Fun K "parts_of" "parts_of" s_parts_of f_parts_of d_parts_of
  b_parts_of : Binds K d_parts_of ["a"] []
  m_parts_of : mg "parts_of" = some (.ref f_parts_of)
  f_distinct : Addr
  d_distinct : FuncData
  F_distinct : Fun K "distinct" "distinct" s_distinct f_distinct d_distinct
  b_distinct : Binds K d_distinct ["rows"] []
  m_distinct : mg "distinct" = some (.ref f_distinct)
  f_levels_of : Addr
  d_levels_of : FuncData
  F_levels_of : Fun K "levels_of" "levels_of" s_levels_of f_levels_of d_levels_of
  b_levels_of : Binds K d_levels_of ["a"] []
  m_levels_of : mg "levels_of" = some (.ref f_levels_of)
  f_levels_from : Addr
  d_levels_from : FuncData
  F_levels_from : Fun K "levels_from" "levels_from" s_levels_from f_levels_from d_levels_from
  b_levels_from : Binds K d_levels_from ["formulas"] []
  m_levels_from : mg "levels_from" = some (.ref f_levels_from)
  f_place_of : Addr
  d_place_of : FuncData
  F_place_of : Fun K "place_of" "place_of" s_place_of f_place_of d_place_of
  b_place_of : Binds K d_place_of ["rows", "row"] []
  m_place_of : mg "place_of" = some (.ref f_place_of)
  f_folded : Addr
  d_folded : FuncData
  F_folded : Fun K "folded" "folded" s_folded f_folded d_folded
  b_folded : Binds K d_folded ["a", "value_of"] []
  m_folded : mg "folded" = some (.ref f_folded)
  f_is_plain : Addr
  d_is_plain : FuncData
  F_is_plain : Fun K "is_plain" "is_plain" s_is_plain f_is_plain d_is_plain
  b_is_plain : Binds K d_is_plain ["a"] []
  m_is_plain : mg "is_plain" = some (.ref f_is_plain)
  f_subformulas : Addr
  d_subformulas : FuncData
  F_subformulas : Fun K "subformulas" "subformulas" s_subformulas f_subformulas d_subformulas
  b_subformulas : Binds K d_subformulas ["a"] []
  m_subformulas : mg "subformulas" = some (.ref f_subformulas)
  f_subformulas_of : Addr
  d_subformulas_of : FuncData
  F_subformulas_of : Fun K "subformulas_of" "subformulas_of" s_subformulas_of f_subformulas_of d_subformulas_of
  b_subformulas_of : Binds K d_subformulas_of ["formulas"] []
  m_subformulas_of : mg "subformulas_of" = some (.ref f_subformulas_of)
  f_boxes : Addr
  d_boxes : FuncData
  F_boxes : Fun K "boxes" "boxes" s_boxes f_boxes d_boxes
  b_boxes : Binds K d_boxes ["a"] []
  m_boxes : mg "boxes" = some (.ref f_boxes)
  f_is_frame : Addr
  d_is_frame : FuncData
  F_is_frame : Fun K "is_frame" "is_frame" s_is_frame f_is_frame d_is_frame
  b_is_frame : Binds K d_is_frame ["frame"] []
  m_is_frame : mg "is_frame" = some (.ref f_is_frame)
  f_is_pair : Addr
  d_is_pair : FuncData
  F_is_pair : Fun K "_is_pair" "_is_pair" s_is_pair f_is_pair d_is_pair
  b_is_pair : Binds K d_is_pair ["pair", "worlds"] []
  m_is_pair : mg "_is_pair" = some (.ref f_is_pair)
  f_is_integer : Addr
  d_is_integer : FuncData
  F_is_integer : Fun K "_is_integer" "_is_integer" s_is_integer f_is_integer d_is_integer
  b_is_integer : Binds K d_is_integer ["value"] []
  m_is_integer : mg "_is_integer" = some (.ref f_is_integer)
  f_rows_of : Addr
  d_rows_of : FuncData
  F_rows_of : Fun K "rows_of" "rows_of" s_rows_of f_rows_of d_rows_of
  b_rows_of : Binds K d_rows_of ["frame"] []
  m_rows_of : mg "rows_of" = some (.ref f_rows_of)
  f_Model_init : Addr
  d_Model_init : FuncData
  F_Model_init : Fun K "__init__" "Model.__init__" s_Model_init f_Model_init d_Model_init
  b_Model_init : Binds K d_Model_init ["self", "frame", "values"] []
  mk_Model : Mk K c_Model f_Model_init
  f_Model_frame : Addr
  d_Model_frame : FuncData
  F_Model_frame : Fun K "frame" "Model.frame" s_Model_frame f_Model_frame d_Model_frame
  b_Model_frame : Binds K d_Model_frame ["self"] []
  M_Model_frame : Meth K c_Model "frame" f_Model_frame
  f_Model_true_worlds : Addr
  d_Model_true_worlds : FuncData
  F_Model_true_worlds : Fun K "true_worlds" "Model.true_worlds" s_Model_true_worlds f_Model_true_worlds d_Model_true_worlds
  b_Model_true_worlds : Binds K d_Model_true_worlds ["self"] []
  M_Model_true_worlds : Meth K c_Model "true_worlds" f_Model_true_worlds
  f_Model_seen : Addr
  d_Model_seen : FuncData
  F_Model_seen : Fun K "seen" "Model.seen" s_Model_seen f_Model_seen d_Model_seen
  b_Model_seen : Binds K d_Model_seen ["self", "v"] []
  M_Model_seen : Meth K c_Model "seen" f_Model_seen
  f_truth : Addr
  d_truth : FuncData
  F_truth : Fun K "truth" "truth" s_truth f_truth d_truth
  b_truth : Binds K d_truth ["model", "a"] []
  m_truth : mg "truth" = some (.ref f_truth)
  f_forcing : Addr
  d_forcing : FuncData
  F_forcing : Fun K "forcing" "forcing" s_forcing f_forcing d_forcing
  b_forcing : Binds K d_forcing ["model", "a"] []
  m_forcing : mg "forcing" = some (.ref f_forcing)
  f_worlds_of : Addr
  d_worlds_of : FuncData
  F_worlds_of : Fun K "_worlds_of" "_worlds_of" s_worlds_of f_worlds_of d_worlds_of
  b_worlds_of : Binds K d_worlds_of ["model", "a", "forced"] []
  m_worlds_of : mg "_worlds_of" = some (.ref f_worlds_of)
  f_marks : Addr
  d_marks : FuncData
  F_marks : Fun K "_marks" "_marks" s_marks f_marks d_marks
  b_marks : Binds K d_marks ["worlds", "places"] []
  m_marks : mg "_marks" = some (.ref f_marks)
  f_everywhere : Addr
  d_everywhere : FuncData
  F_everywhere : Fun K "_everywhere" "_everywhere" s_everywhere f_everywhere d_everywhere
  b_everywhere : Binds K d_everywhere ["rows", "marks"] []
  m_everywhere : mg "_everywhere" = some (.ref f_everywhere)
  f_check_plain : Addr
  d_check_plain : FuncData
  F_check_plain : Fun K "_check_plain" "_check_plain" s_check_plain f_check_plain d_check_plain
  b_check_plain : Binds K d_check_plain ["a"] []
  m_check_plain : mg "_check_plain" = some (.ref f_check_plain)
  f_box_translation : Addr
  d_box_translation : FuncData
  F_box_translation : Fun K "box_translation" "box_translation" s_box_translation f_box_translation d_box_translation
  b_box_translation : Binds K d_box_translation ["a"] []
  m_box_translation : mg "box_translation" = some (.ref f_box_translation)
  f_law_pool : Addr
  d_law_pool : FuncData
  F_law_pool : Fun K "_law_pool" "_law_pool" s_law_pool f_law_pool d_law_pool
  b_law_pool : Binds K d_law_pool ["script"] []
  m_law_pool : mg "_law_pool" = some (.ref f_law_pool)
  f_law_spread : Addr
  d_law_spread : FuncData
  F_law_spread : Fun K "_law_spread" "_law_spread" s_law_spread f_law_spread d_law_spread
  b_law_spread : Binds K d_law_spread ["cell"] []
  m_law_spread : mg "_law_spread" = some (.ref f_law_spread)
  f_law_draw : Addr
  d_law_draw : FuncData
  F_law_draw : Fun K "_law_draw" "_law_draw" s_law_draw f_law_draw d_law_draw
  b_law_draw : Binds K d_law_draw ["pool", "many"] []
  m_law_draw : mg "_law_draw" = some (.ref f_law_draw)
  f_law_same : Addr
  d_law_same : FuncData
  F_law_same : Fun K "_law_same" "_law_same" s_law_same f_law_same d_law_same
  b_law_same : Binds K d_law_same ["actual", "due"] []
  m_law_same : mg "_law_same" = some (.ref f_law_same)
  f_law_formula : Addr
  d_law_formula : FuncData
  F_law_formula : Fun K "_law_formula" "_law_formula" s_law_formula f_law_formula d_law_formula
  b_law_formula : Binds K d_law_formula ["pool", "depth", "plain"] []
  m_law_formula : mg "_law_formula" = some (.ref f_law_formula)
  f_law_closed : Addr
  d_law_closed : FuncData
  F_law_closed : Fun K "_law_closed" "_law_closed" s_law_closed f_law_closed d_law_closed
  b_law_closed : Binds K d_law_closed ["seen", "logic"] []
  m_law_closed : mg "_law_closed" = some (.ref f_law_closed)
  f_law_model : Addr
  d_law_model : FuncData
  F_law_model : Fun K "_law_model" "_law_model" s_law_model f_law_model d_law_model
  b_law_model : Binds K d_law_model ["numbers", "logic", "most"] []
  m_law_model : mg "_law_model" = some (.ref f_law_model)
  f_law_true : Addr
  d_law_true : FuncData
  F_law_true : Fun K "_law_true" "_law_true" s_law_true f_law_true d_law_true
  b_law_true : Binds K d_law_true ["model", "a", "w", "forced"] []
  m_law_true : mg "_law_true" = some (.ref f_law_true)
  f_law_list : Addr
  d_law_list : FuncData
  F_law_list : Fun K "_law_list" "_law_list" s_law_list f_law_list d_law_list
  b_law_list : Binds K d_law_list ["pool", "many"] []
  m_law_list : mg "_law_list" = some (.ref f_law_list)
  f_law_some : Addr
  d_law_some : FuncData
  F_law_some : Fun K "_law_some" "_law_some" s_law_some f_law_some d_law_some
  b_law_some : Binds K d_law_some ["pool", "depth", "plain"] []
  m_law_some : mg "_law_some" = some (.ref f_law_some)
  f_law_where : Addr
  d_law_where : FuncData
  F_law_where : Fun K "_law_where" "_law_where" s_law_where f_law_where d_law_where
  b_law_where : Binds K d_law_where ["model", "a", "forced"] []
  m_law_where : mg "_law_where" = some (.ref f_law_where)
  f_law_drawn_model : Addr
  d_law_drawn_model : FuncData
  F_law_drawn_model : Fun K "_law_drawn_model" "_law_drawn_model" s_law_drawn_model f_law_drawn_model d_law_drawn_model
  b_law_drawn_model : Binds K d_law_drawn_model ["pool", "logic", "most"] []
  m_law_drawn_model : mg "_law_drawn_model" = some (.ref f_law_drawn_model)
  f_law_program_model : Addr
  d_law_program_model : FuncData
  F_law_program_model : Fun K "_law_program_model" "_law_program_model" s_law_program_model f_law_program_model d_law_program_model
  b_law_program_model : Binds K d_law_program_model ["model"] []
  m_law_program_model : mg "_law_program_model" = some (.ref f_law_program_model)
  f_law_names : Addr
  d_law_names : FuncData
  F_law_names : Fun K "_law_names" "_law_names" s_law_names f_law_names d_law_names
  b_law_names : Binds K d_law_names [] []
  m_law_names : mg "_law_names" = some (.ref f_law_names)
  f_law_grid : Addr
  d_law_grid : FuncData
  F_law_grid : Fun K "_law_grid" "_law_grid" s_law_grid f_law_grid d_law_grid
  b_law_grid : Binds K d_law_grid ["first", "second"] []
  m_law_grid : mg "_law_grid" = some (.ref f_law_grid)
  f_law_framed : Addr
  d_law_framed : FuncData
  F_law_framed : Fun K "_law_framed" "_law_framed" s_law_framed f_law_framed d_law_framed
  b_law_framed : Binds K d_law_framed ["seen"] []
  m_law_framed : mg "_law_framed" = some (.ref f_law_framed)
  f_law : Addr
  d_law : FuncData
  F_law : Fun K "law" "law" s_law f_law d_law
  b_law : Binds K d_law ["script"] []
  m_law : mg "law" = some (.ref f_law)
  z_all : mg "all" = none
  z_bool : mg "bool" = none
  z_enumerate : mg "enumerate" = none
  z_int : mg "int" = none
  z_isinstance : mg "isinstance" = none
  z_len : mg "len" = none
  z_list : mg "list" = none
  z_range : mg "range" = none
  z_reversed : mg "reversed" = none
  z_set : mg "set" = none
  z_sorted : mg "sorted" = none
  z_str : mg "str" = none
  z_tuple : mg "tuple" = none
  z_zip : mg "zip" = none
  c_worlds_of : Addr
  P_worlds_of : Addr
  C_worlds_of : FunC K "_worlds_of" "_worlds_of" s_worlds_of f_worlds_of d_worlds_of c_worlds_of
  c_box_translation : Addr
  P_box_translation : Addr
  C_box_translation : FunC K "box_translation" "box_translation" s_box_translation f_box_translation d_box_translation c_box_translation
  dT : [P_worlds_of, P_box_translation].Nodup
abbrev Top.tabs {K : PySem.W.Frag} {mg : Str → Option Value} (T : Top K mg) : List NdefX.NTab := [(T.P_worlds_of, fun _ _ => "_worlds_of.<locals>.value_of"), (T.P_box_translation, fun _ _ => "box_translation.<locals>.value_of")]
abbrev Top.cs {K : PySem.W.Frag} {mg : Str → Option Value} (T : Top K mg) : List (Addr × Addr) := [(T.c_worlds_of, T.P_worlds_of), (T.c_box_translation, T.P_box_translation)]
section
variable {P : Program} {w : World} {K : PySem.W.Frag} {mg : Str → Option Value} {base : Heap}

/-! ### parts, distinct items, levels -/
def spParts (K : PySem.W.Frag) : Sp := fun vs H Q _ => ∃ (x : V) (f : Fm), vs = [x] ∧ Im K H x f.d ∧ ∀ (p : Addr) (ys : List V) (H' : Hp), Same H H' → SqT K H' p ys → ImAll K H' ys (f.kids.map Fm.d) → Q (.ref p) H'
theorem ok_parts_of (T : Top K mg) : FnOk P w K mg base CX0 1 T.f_parts_of T.d_parts_of ["a"] (spParts K) := by
  refine T.F_parts_of.ok sc_parts_of (fun vs H Q E h => ?_) (fun cdv A outer s H vs Q E hr h => ?_)
  · obtain ⟨x, f, rfl, _⟩ := h
    rfl
  obtain ⟨x, f, rfl, hx, k⟩ := h
  refine ⟨_, (pss_cons (ps_if (pt_cmpR op_eq (pe_ix ix_tup (pv 0) pe_int (fun _ _ => rfl)) pe_str (nomark _))
      (pss_one (ps_ret (pe_tup pa_nil)))
      pss_nil)
    (pss_one (ps_ret (pe_slice sl_tupA (pv 0) (po_some pe_int) po_none)))), ?_⟩
  obtain ⟨a, ys, rfl, h1, h2⟩ := im_inv hx
  refine ⟨_, rfl, a, _, 0, _, rfl, rfl, h1, atI_nat (j := 0) rfl, rfl, _, rfl, ?_⟩
  rw [sg_var]
  cases hv : f.isVar with
  | true =>
    refine iteT ⟨(by show 0 ≤ sizeLine; decide), fun p np => ?_⟩
    obtain ⟨e, _⟩ := kids_var hv
    exact k p [] _ (same_new np) (SqT.of upd_same) (by rw [e]; exact .nil)
  | false =>
    refine iteF ⟨_, rfl, 1, rfl, a, _, rfl, h1, fun e => ?_, fun _ p np => ?_⟩
    · rw [sIx_1] at e
      exact absurd e.1 (by decide)
    · rw [cut_1]
      have s1 := same_new (o := .tup ys) np
      exact k p ys _ s1 (SqT.of upd_same) (by rw [← kids_pts hv]; exact h2.mono (Same.ts s1))
def Ok1 (f : Fm) : Prop := f.d.canLay0 = true ∧ f.ht ≤ 63
def spDistinct (K : PySem.W.Frag) : Sp := fun vs H Q _ => ∃ (a : Addr) (xs : List V) (fs : List Fm), vs = [.ref a] ∧ SqL K H a xs ∧ ImAll K H xs (fs.map Fm.d) ∧ (∀ f ∈ fs, Ok1 f) ∧ fs.length ≤ 1000000 ∧
  ∀ (p : Addr) (ys : List V) (H' : Hp), H p = none → Same H H' → H' p = some (.lst ys) → ImAll K H' ys ((dist fs).map Fm.d) → Q (.ref p) H'
theorem ok1_shaped {f : Fm} (h : Ok1 f) : SeqAt.shaped f.d = true := by
  unfold SeqAt.shaped
  rw [h.1, Fm.depth]
  exact decide_eq_true (Nat.le_trans h.2 (by decide))
theorem ok_distinct (T : Top K mg) : FnOk P w K mg base CX0 1 T.f_distinct T.d_distinct ["rows"] (spDistinct K) := by
  refine T.F_distinct.ok sc_distinct (fun vs H Q E h => ?_) (fun cdv A outer s H vs Q E hr h => ?_)
  · obtain ⟨a, xs, fs, rfl, _⟩ := h
    rfl
  obtain ⟨a, xs, fs, rfl, hS, hI, hok, hlen, k⟩ := h
  have hu64 := hr.units
  have hu200 := hr.un
  refine ⟨_, (pss_cons (ps_set (i := 1) sc_distinct.nd rfl (.inl rfl) (pe_lst pa_nil))
    (pss_cons (ps_for PassesOwn.never rfl (pi_list (pe_callB (cr_sortedF hu200) (by rfl) T.z_sorted (by decide +kernel) (pa_cons (pv 0) pa_nil))) (pg_name (i := 2) sc_distinct.nd rfl (.inl rfl))
      (pss_one (ps_if (PW.pt (pw_or (pt_not (pt_truth (pv 1) (fun _ => rfl))) (pw_or1 (pt_cmpR (op_neD hu64) (pv 2) (pe_ix ix_list (pv 1) (pe_un un_neg pe_int) (fun _ _ => rfl)) (nomark _)))))
      (pss_one (ps_expr (pe_bm PySem.F.plainAttrs_list PySem.F.slot_list_append PySem.F.type_list_append mt_append (pv 1) (pa_cons (pv 2) pa_nil))))
      pss_nil)))
    (pss_one (ps_ret (pv 1))))), ?_⟩
  refine ⟨Nat.zero_le _, fun d nd => ?_⟩
  have s1 := same_new (o := .lst []) nd
  refine ⟨_, rfl, a, xs, fs, rfl, s1.seq hS, hI.mono (Same.ts s1), fun f hf => ⟨(hok f hf).1, Nat.le_trans (hok f hf).2 (by decide)⟩, fun p ys np iy => ?_⟩
  have s2 := same_new (o := .lst ys) np
  have hl := fms_len iy
  have hlm : (fs.mergeSort Fm.le).length = fs.length := List.length_mergeSort fs
  have dp : d ≠ p := ne_of_none upd_same np
  refine ⟨p, rfl, ⟨_, SqL.of upd_same⟩, for_list (K := K) (a := p) (xs := ys) (fun i σ H2 => ∃ (v : Option V) (zs : List V), σ = [some (.ref a), some (.ref d), v] ∧ Same H H2 ∧ H2 p = some (.lst ys) ∧ H2 d = some (.lst zs) ∧ ImAll K H2 ys ((fs.mergeSort Fm.le).map Fm.d) ∧ ImAll K H2 zs ((dd ((fs.mergeSort Fm.le).take i)).map Fm.d))
    ⟨none, [], rfl, s1.trans s2, upd_same, s2 _ _ upd_same, iy.mono (Same.ts s2), .nil⟩ (fun i σ H2 _ h => by
      obtain ⟨_, _, _, _, h, _⟩ := h
      exact SqL.of h) ?_ ?_⟩
  · rintro i x σ H2 hx ⟨v, zs, rfl, s3, hp, hd, iy2, iz⟩
    obtain ⟨f, hf, ix⟩ := imAll_of iy2 hx
    have hi : i < ys.length := (List.getElem?_eq_some_iff.mp hx).1
    have hfm : f ∈ fs := (List.mergeSort_perm fs Fm.le).mem_iff.mp (List.mem_of_getElem? hf)
    have hzl := fms_len iz
    have hzb : (dd ((fs.mergeSort Fm.le).take i)).length ≤ i := by
      have h1 : ((fs.mergeSort Fm.le).take i).Pairwise fun a b => a.le b = true := (ms_sorted fs).sublist (List.take_sublist _ _)
      have := (dd_spec _ h1).2.2.1.length_le
      rw [List.length_take] at this
      omega
    have sz : zs.length < sizeLine := Nat.lt_of_le_of_lt (show zs.length ≤ 1000000 by omega) (by decide)
    have app : ∀ H3, H3 = upd H2 d (.lst (zs ++ [x])) → dd ((fs.mergeSort Fm.le).take (i + 1)) = dd ((fs.mergeSort Fm.le).take i) ++ [f] → ∃ (v : Option V) (zs : List V), [some (V.ref a), some (V.ref d), some x] = [some (.ref a), some (.ref d), v] ∧ Same H H3 ∧ H3 p = some (.lst ys) ∧ H3 d = some (.lst zs) ∧ ImAll K H3 ys ((fs.mergeSort Fm.le).map Fm.d) ∧ ImAll K H3 zs ((dd ((fs.mergeSort Fm.le).take (i + 1))).map Fm.d) := by
      rintro _ rfl e
      have tt := Kp.upd.ts (H := H2) (p := d) (H' := upd H2 d (.lst (zs ++ [x]))) hd
      refine ⟨_, _, rfl, fun b o hb => ?_, ?_, upd_same, iy2.mono tt, ?_⟩
      · rw [upd_ne (ne_of_none hb nd)]
        exact s3 _ _ hb
      · rw [upd_ne dp.symm]
        exact hp
      · rw [e, fm_snoc]
        exact (iz.mono tt).snoc (ix.mono tt)
    have ed : dd ((fs.mergeSort Fm.le).take (i + 1)) = if (dd ((fs.mergeSort Fm.le).take i)).getLast? = some f then dd ((fs.mergeSort Fm.le).take i) else dd ((fs.mergeSort Fm.le).take i) ++ [f] := by
      rw [take_snoc hf, dd_snoc]
    rcases hz : zs with _ | ⟨z0, zr⟩
    · subst hz
      have e0 : dd ((fs.mergeSort Fm.le).take i) = [] := List.length_eq_zero_iff.mp hzl.symm
      refine ⟨_, rfl, _, .inl ⟨_, SqL.of hd, rfl⟩, iteT (iteT ?_)⟩
      refine ⟨_, rfl, .inl ⟨rfl, _, .inl (.inl hd)⟩, _, rfl, d, [], x, rfl, rfl, hd, sz, ?_⟩
      exact app _ rfl (by rw [ed, e0, if_neg (by simp)])
    · have hne : zs.isEmpty = false := by rw [hz]; rfl
      have hpos : 0 < zs.length := by rw [hz]; exact Nat.succ_pos _
      refine ⟨_, rfl, _, .inl ⟨_, SqL.of hd, rfl⟩, ?_⟩
      rw [hne]
      have gl := List.getElem?_eq_getElem (l := zs) (i := zs.length - 1) (by omega)
      obtain ⟨g, hg, ig⟩ := imAll_of iz gl
      have glast : (dd ((fs.mergeSort Fm.le).take i)).getLast? = some g := by
        rw [List.getLast?_eq_getElem?, ← hzl]
        exact hg
      have hgm : g ∈ fs := by
        have h1 : ((fs.mergeSort Fm.le).take i).Pairwise fun a b => a.le b = true := (ms_sorted fs).sublist (List.take_sublist _ _)
        have h2 := ((dd_spec _ h1).2.1 g).mp (List.mem_of_getLast? glast)
        exact (List.mergeSort_perm fs Fm.le).mem_iff.mp (List.mem_of_mem_take h2)
      refine iteF ⟨_, rfl, _, rfl, 1, rfl, d, zs, -1, _, rfl, rfl, SqL.of hd, atI_m1 gl, _, _, ix.dp, ig.dp, ok1_shaped (hok f hfm), ok1_shaped (hok g hgm), _, rfl, ?_⟩
      rw [Fm.eqv]
      by_cases e : f = g
      · rw [decide_eq_true e]
        refine iteF ?_
        refine ⟨_, _, rfl, s3, hp, hd, iy2, ?_⟩
        rw [ed, if_pos (by rw [glast, e])]
        exact iz
      · rw [decide_eq_false e]
        refine iteT ?_
        refine ⟨_, rfl, .inl ⟨rfl, _, .inl (.inl hd)⟩, _, rfl, d, zs, x, rfl, rfl, hd, sz, ?_⟩
        exact app _ rfl (by rw [ed, if_neg (by rw [glast]; exact fun q => e (Option.some.inj q).symm)])
  · rintro σ H2 ⟨v, zs, rfl, s3, hp, hd, _, iz⟩
    rw [hl, hlm, ← hlm, List.take_length] at iz
    exact ⟨_, rfl, k d zs H2 nd s3 hd iz⟩
/-- a list of levels, each a new list -/
def spLevelsF (K : PySem.W.Frag) : Sp := fun vs H Q _ => ∃ (q : Addr) (x : V) (f : Fm) (n : Nat), vs = [.ref q] ∧ SqL K H q [x] ∧ Im K H x f.d ∧ (∀ g ∈ f.subs, Ok1 g) ∧ f.ht ≤ n ∧ f.sz ≤ 100000 ∧
  ∀ (p : Addr) (vs : List V) (H' : Hp), H p = none → Same H H' → H' p = some (.lst vs) → LvAt K H' vs (levs n [f]) → Q (.ref p) H'
theorem dist_sing (f : Fm) : dist [f] = [f] := dist_self (List.pairwise_singleton _ _)
theorem ok_levels_from (T : Top K mg) : FnOk P w K mg base CX0 2 T.f_levels_from T.d_levels_from ["formulas"] (spLevelsF K) := by
  have G_parts_of : FnOk P w K mg base CX0 1 T.f_parts_of T.d_parts_of ["a"] (spParts K) := ok_parts_of T
  have G_distinct : FnOk P w K mg base CX0 1 T.f_distinct T.d_distinct ["rows"] (spDistinct K) := ok_distinct T
  refine T.F_levels_from.ok sc_levels_from (fun vs H Q E h => ?_) (fun cdv A outer s H vs Q E hr h => ?_)
  · obtain ⟨q, x, f, n, rfl, _⟩ := h
    rfl
  obtain ⟨q, x, f, n, rfl, hq, hx, hok, hn, hsz, k⟩ := h
  refine ⟨_, (pss_cons (ps_set (i := 1) sc_levels_from.nd rfl (.inl rfl) (pe_lst pa_nil))
    (pss_cons (ps_set (i := 2) sc_levels_from.nd rfl (.inl rfl) (pe_call G_distinct (hr.mono (by omega)) (by rfl) T.m_distinct T.F_distinct.kp T.b_distinct .nil pass0 (pa_cons (pv 0) pa_nil)))
    (pss_cons (ps_while PassesOwn.never (pt_truth (pv 2) (fun _ => rfl))
      (pss_cons (ps_expr (pe_bm PySem.F.plainAttrs_list PySem.F.slot_list_append PySem.F.type_list_append mt_append (pv 1) (pa_cons (pv 2) pa_nil)))
    (pss_one (ps_set (i := 2) sc_levels_from.nd rfl (.inl rfl) (pe_call G_distinct (hr.mono (by omega)) (by rfl) T.m_distinct T.F_distinct.kp T.b_distinct .nil pass0 (pa_cons (pe_lc2 (own := [("b", 3), ("part", 4)]) (vs1 := [4]) (g := gName 3) (g1 := gName 4) (tt := tYes) (tt1 := tYes) (wi1 := iTup K _) rfl sc_levels_from.nd (pi_list (pv 2)) (blkOk_by (N := ["formulas", "levels", "level", "b", "part"]) (sc := defScope s_levels_from) (by decide +kernel)) (by decide) (fun _ _ _ _ _ => pg_name (i := 3) sc_levels_from.nd rfl (Or.inl rfl)) (fun _ _ _ _ _ => pts_nil) (fun _ _ _ _ _ => (pi_tup (pe_call G_parts_of (hr.mono (by omega)) (by rfl) T.m_parts_of T.F_parts_of.kp T.b_parts_of .nil pass0 (pa_cons (pv 3) pa_nil)))) (fun _ _ _ _ _ => pg_name (i := 4) sc_levels_from.nd rfl (Or.inl rfl)) (fun _ _ _ _ _ => pts_nil) (fun _ _ _ _ _ => (pv 4))) pa_nil))))))
    (pss_one (ps_ret (pv 1)))))), ?_⟩
  refine ⟨Nat.zero_le _, fun L nL => ?_⟩
  have s1 := same_new (o := .lst []) nL
  refine ⟨_, rfl, q, [x], [f], rfl, s1.seq hq, .cons (hx.mono (Same.ts s1)) .nil, fun g hg => hok g (by rw [List.mem_singleton.mp hg]; exact subs_kids.mpr (.inl rfl)), by show 1 ≤ 1000000; decide, fun c0 ys0 Hs nc0 ss hc0 hI0 => ?_⟩
  rw [dist_sing] at hI0
  have s2 := s1.trans ss
  have hLs := ss _ _ (@upd_same H L (.lst []))
  have nLc : L ≠ c0 := ne_of_none upd_same nc0
  refine ⟨fun m σ H2 => ∃ (vs : List V) (acc : List (List Fm)) (c : Addr) (ys : List V) (cur : List Fm) (v3 v4 : Option V), σ = [some (.ref q), some (.ref L), some (.ref c), v3, v4] ∧ Same H H2 ∧ H2 L = some (.lst vs) ∧ LvAt K H2 vs acc ∧ (∀ v ∈ vs, v ≠ .ref L) ∧ c ≠ L ∧ SqL K H2 c ys ∧ ImAll K H2 ys (cur.map Fm.d) ∧ (∀ g ∈ cur, g ∈ f.subs ∧ g.ht ≤ m) ∧ (cur.map Fm.sz).sum ≤ 100000 ∧ acc ++ levs m cur = levs n [f] ∧ acc.length + m ≤ n,
    ⟨n, [], [], c0, ys0, [f], none, none, rfl, s2, hLs, .nil, (fun v hv => nomatch hv), nLc.symm, SqL.of hc0, hI0, ?_, by simpa using hsz, rfl, by simp⟩, ?_⟩
  · intro g hg
    rw [List.mem_singleton.mp hg]
    exact ⟨subs_kids.mpr (.inl rfl), hn⟩
  rintro m σ H2 ⟨vs, acc, c, ys, cur, v3, v4, rfl, s3, hL, lv, nv, ncL, hc, iy, hcur, hsum, hlev, hlen⟩
  have hyl := fms_len iy
  refine ⟨_, rfl, _, .inl ⟨ys, hc, rfl⟩, ?_⟩
  cases hcu : cur with
  | nil =>
    have e : ys = [] := by
      rw [hcu] at hyl
      exact List.length_eq_zero_iff.mp hyl
    subst e
    rw [hcu, levs_nil, List.append_nil] at hlev
    exact iteF ⟨_, rfl, k L vs H2 nL s3 hL (by rw [← hlev]; exact lv)⟩
  | cons g0 gr =>
    have hne : ys.isEmpty = false := by
      rw [hcu] at hyl
      cases ys with
      | nil => cases hyl
      | cons _ _ => rfl
    rw [hne]
    have hm : 1 ≤ m := by
      have h1 := (hcur g0 (by rw [hcu]; exact List.mem_cons_self)).2
      have h2 := g0.ht_pos
      omega
    obtain ⟨m', rfl⟩ : ∃ m', m = m' + 1 := ⟨m - 1, by omega⟩
    have hl2 : levs (m' + 1) cur = cur :: levs m' (down cur) := by
      rw [levs, if_neg (by rw [hcu]; simp)]
    rw [hl2] at hlev
    refine iteT ⟨_, fun σ' H' h => ⟨m', Nat.lt_succ_self _, h⟩, ?_⟩
    -- levels.append(level)
    have hvl := lv.len
    have hn2 : acc.length ≤ 1000000 := by
      have h1 : acc.length ≤ (levs n [f]).length := by rw [← hlev, List.length_append]; exact Nat.le_add_right _ _
      have h2 : (levs n [f]).length ≤ ((levs n [f]).map List.length).sum := by
        have : ∀ (n : Nat) (l : List Fm), (levs n l).length ≤ ((levs n l).map List.length).sum := by
          intro n
          induction n with
          | zero => exact fun _ => Nat.le_refl _
          | succ n ih =>
            intro l
            rw [levs]
            split
            · exact Nat.le_refl _
            · rename_i hl
              rw [List.length_cons, List.map_cons, List.sum_cons]
              have := ih (down l)
              have : 0 < l.length := List.length_pos_iff.mpr hl
              omega
        exact this n [f]
      have h3 := levs_sum n [f]
      have h4 : ([f].map Fm.sz).sum = f.sz := by simp
      omega
    refine ⟨_, rfl, .inl ⟨rfl, _, .inl (.inl hL)⟩, _, rfl, L, vs, .ref c, rfl, rfl, hL, Nat.lt_of_le_of_lt (show vs.length ≤ 1000000 by omega) (by decide), ?_⟩
    have kL : Kp L H2 (upd H2 L (.lst (vs ++ [.ref c]))) := Kp.upd
    have s4 : Same H (upd H2 L (.lst (vs ++ [.ref c]))) := fun b o hb => by
      rw [upd_ne (ne_of_none hb nL)]
      exact s3 _ _ hb
    have hL4 : upd H2 L (.lst (vs ++ [.ref c])) L = some (.lst (vs ++ [.ref c])) := upd_same
    have hc4 := kL.sqL hc ncL
    have iy4 := iy.mono (kL.ts hL)
    have lv4 : LvAt K (upd H2 L (.lst (vs ++ [.ref c]))) (vs ++ [.ref c]) (acc ++ [cur]) := LvAt.snoc hc4 iy4 (LvAt.mut kL hL lv nv)
    have nv4 : ∀ v ∈ vs ++ [.ref c], v ≠ .ref L := fun v hv => by
      rcases List.mem_append.mp hv with q | q
      · exact nv v q
      · rw [List.mem_singleton.mp q]
        exact fun e => ncL (V.ref.inj e)
    generalize upd H2 L (.lst (vs ++ [.ref c])) = H4 at s4 hL4 hc4 iy4 lv4
    -- the parts of all
    refine ⟨_, rfl, c, rfl, ⟨_, hc4⟩, fun D nD => ?_⟩
    refine out_list (K := K) (a := c) (xs := ys) (fun i H5 => ∃ zs : List V, Same H4 H5 ∧ H5 D = some (.lst zs) ∧ ImAll K H5 zs (((cur.take i).flatMap Fm.kids).map Fm.d)) ⟨[], same_new nD, upd_same, .nil⟩ (fun i H5 _ h => by
      obtain ⟨zs, h, _⟩ := h
      exact h.seq hc4) ?_ ?_
    · rintro i y H5 hy ⟨zs, s5, hD, iz⟩
      obtain ⟨g, hg, ig⟩ := imAll_of iy4 hy
      refine ⟨rfl, _, rfl, y, g, rfl, ig.mono (Same.ts s5), fun p ps H6 s6 hp ip => ⟨p, rfl, ⟨_, hp⟩, ?_⟩⟩
      have hpl := fms_len ip
      have hgc : (cur.take (i + 1)).flatMap Fm.kids = (cur.take i).flatMap Fm.kids ++ g.kids := by
        rw [take_snoc hg, List.flatMap_append]
        simp
      have hbig : ((cur.take (i + 1)).flatMap Fm.kids).length ≤ 100000 := by
        refine Nat.le_trans (flat_len _) (Nat.le_trans (sub_sum Fm.sz (List.take_sublist _ _)) hsum)
      refine in_tup (K := K) (b := p) (ys := ps) (fun j H7 => ∃ zs : List V, Same H4 H7 ∧ SqT K H7 p ps ∧ H7 D = some (.lst zs) ∧ ImAll K H7 ps (g.kids.map Fm.d) ∧ ImAll K H7 zs (((cur.take i).flatMap Fm.kids ++ g.kids.take j).map Fm.d)) ⟨zs, s5.trans s6, hp, s6 _ _ hD, ip, by rw [List.take_zero, List.append_nil]; exact iz.mono (Same.ts s6)⟩ (fun j H7 _ h => by
        obtain ⟨_, _, h, _⟩ := h
        exact h) ?_ ?_
      · rintro j q H7 hq ⟨zs, s7, hp7, hD7, ip7, iz7⟩
        obtain ⟨r, hr7, ir⟩ := imAll_of ip7 hq
        have hzl := fms_len iz7
        have hj : j < g.kids.length := (List.getElem?_eq_some_iff.mp hr7).1
        have hzs : zs.length ≤ 100000 := by
          rw [hgc, List.length_append] at hbig
          rw [List.length_append, List.length_take] at hzl
          omega
        refine ⟨rfl, _, rfl, zs, hD7, Nat.lt_of_le_of_lt hzs (by decide), zs ++ [q], ?_, ?_, upd_same, ?_, ?_⟩
        · intro b o hb
          rw [upd_ne (ne_of_none hb nD)]
          exact s7 _ _ hb
        · exact (Kp.upd.ts hD7).sqT hp7
        · exact ip7.mono (Kp.upd.ts hD7)
        · rw [take_snoc hr7, ← List.append_assoc, fm_snoc]
          exact (iz7.mono (Kp.upd.ts hD7)).snoc (ir.mono (Kp.upd.ts hD7))
      · rintro H7 ⟨zs, s7, hp7, hD7, ip7, iz7⟩
        rw [hpl, List.take_length, ← hgc] at iz7
        exact ⟨zs, s7, hD7, iz7⟩
    · rintro H5 ⟨zs, s5, hD, iz⟩
      rw [hyl, List.take_length] at iz
      refine ⟨D, zs, _, rfl, SqL.of hD, iz, fun g hg => ?_, Nat.le_trans (flat_len cur) (Nat.le_trans hsum (by decide)), fun p ws H6 np s6 hp ip => ?_⟩
      · obtain ⟨h, hh, hk⟩ := List.mem_flatMap.mp hg
        exact hok g (kids_subs (hcur h hh).1 hk)
      · have sa := s5.trans s6
        refine ⟨_, _, p, ws, down cur, _, _, rfl, s4.trans sa, sa _ _ hL4, LvAt.same sa lv4, nv4, ?_, SqL.of hp, ip, fun g hg => ?_, ?_, ?_, ?_⟩
        · exact (ne_of_none (s5 _ _ hL4) np).symm
        · obtain ⟨h, hh, hk⟩ := down_mem.mp hg
          have := kids_ht hk
          have h2 := (hcur h hh).2
          exact ⟨kids_subs (hcur h hh).1 hk, by omega⟩
        · have := down_sum cur
          omega
        · rw [List.append_assoc]
          exact hlev
        · rw [List.length_append]
          show acc.length + 1 + m' ≤ n
          omega

/-- the levels of one formula -/
def spLevels (K : PySem.W.Frag) : Sp := fun vs H Q _ => ∃ (x : V) (f : Fm) (n : Nat), vs = [x] ∧ Im K H x f.d ∧ (∀ g ∈ f.subs, Ok1 g) ∧ f.ht ≤ n ∧ f.sz ≤ 100000 ∧
  ∀ (p : Addr) (vs : List V) (H' : Hp), H p = none → Same H H' → H' p = some (.lst vs) → LvAt K H' vs (levs n [f]) → Q (.ref p) H'
theorem ok_levels_of (T : Top K mg) : FnOk P w K mg base CX0 3 T.f_levels_of T.d_levels_of ["a"] (spLevels K) := by
  have G_levels_from : FnOk P w K mg base CX0 2 T.f_levels_from T.d_levels_from ["formulas"] (spLevelsF K) := ok_levels_from T
  refine T.F_levels_of.ok sc_levels_of (fun vs H Q E h => ?_) (fun cdv A outer s H vs Q E hr h => ?_)
  · obtain ⟨x, f, n, rfl, _⟩ := h
    rfl
  obtain ⟨x, f, n, rfl, hx, hok, hn, hsz, k⟩ := h
  refine ⟨_, (pss_one (ps_ret (pe_call G_levels_from (hr.mono (by omega)) (by rfl) T.m_levels_from T.F_levels_from.kp T.b_levels_from .nil pass0 (pa_cons (pe_lst (pa_cons (pv 0) pa_nil)) pa_nil)))), ?_⟩
  refine ⟨_, rfl, (by show 1 ≤ sizeLine; decide), fun q nq => ?_⟩
  have s1 := same_new (o := .lst [x]) nq
  refine ⟨q, x, f, n, rfl, SqL.of upd_same, hx.mono (Same.ts s1), hok, hn, hsz, fun p vs H' np s2 hp hl => ?_⟩
  have npH : H p = none := by
    cases e : H p with
    | none => rfl
    | some o => rw [s1 _ _ e] at np; cases np
  exact k p vs H' npH (s1.trans s2) hp hl

/-! ### subformulas, variables, boxes -/
theorem flat_subs {f : Fm} {n : Nat} (h : f.ht ≤ n) : dist (levs n [f]).flatten = dist f.subs := dist_ext fun x => by
  rw [levs_mem n [f] (fun g hg => by rw [List.mem_singleton.mp hg]; exact h) x]
  constructor
  · rintro ⟨g, hg, hx⟩
    rw [List.mem_singleton.mp hg] at hx
    exact hx
  · intro hx
    exact ⟨f, List.mem_singleton.mpr rfl, hx⟩
def spSubs (K : PySem.W.Frag) : Sp := fun vs H Q _ => ∃ (x : V) (f : Fm), vs = [x] ∧ Im K H x f.d ∧ (∀ g ∈ f.subs, Ok1 g) ∧ f.sz ≤ 100000 ∧
  ∀ (p : Addr) (ys : List V) (H' : Hp), H p = none → Same H H' → H' p = some (.lst ys) → ImAll K H' ys ((dist f.subs).map Fm.d) → Q (.ref p) H'
def spSubsF (K : PySem.W.Frag) : Sp := fun vs H Q _ => ∃ (q : Addr) (x : V) (f : Fm), vs = [.ref q] ∧ SqL K H q [x] ∧ Im K H x f.d ∧ (∀ g ∈ f.subs, Ok1 g) ∧ f.sz ≤ 100000 ∧
  ∀ (p : Addr) (ys : List V) (H' : Hp), H p = none → Same H H' → H' p = some (.lst ys) → ImAll K H' ys ((dist f.subs).map Fm.d) → Q (.ref p) H'
theorem ok_subformulas_of (T : Top K mg) : FnOk P w K mg base CX0 3 T.f_subformulas_of T.d_subformulas_of ["formulas"] (spSubsF K) := by
  have G_levels_from : FnOk P w K mg base CX0 2 T.f_levels_from T.d_levels_from ["formulas"] (spLevelsF K) := ok_levels_from T
  have G_distinct : FnOk P w K mg base CX0 1 T.f_distinct T.d_distinct ["rows"] (spDistinct K) := ok_distinct T
  refine T.F_subformulas_of.ok sc_subformulas_of (fun vs H Q E h => ?_) (fun cdv A outer s H vs Q E hr h => ?_)
  · obtain ⟨q, x, f, rfl, _⟩ := h
    rfl
  obtain ⟨q0, x, f, rfl, hq0, hx, hok, hsz, k⟩ := h
  refine ⟨_, (pss_one (ps_ret (pe_call G_distinct (hr.mono (by omega)) (by rfl) T.m_distinct T.F_distinct.kp T.b_distinct .nil pass0 (pa_cons (pe_lc2 (own := [("level", 1), ("b", 2)]) (vs1 := [2]) (g := gName 1) (g1 := gName 2) (tt := tYes) (tt1 := tYes) (wi1 := iList K _) rfl sc_subformulas_of.nd (pi_list (pe_call G_levels_from (hr.mono (by omega)) (by rfl) T.m_levels_from T.F_levels_from.kp T.b_levels_from .nil pass0 (pa_cons (pv 0) pa_nil))) (blkOk_by (N := ["formulas", "level", "b"]) (sc := defScope s_subformulas_of) (by decide +kernel)) (by decide) (fun _ _ _ _ _ => pg_name (i := 1) sc_subformulas_of.nd rfl (Or.inl rfl)) (fun _ _ _ _ _ => pts_nil) (fun _ _ _ _ _ => (pi_list (pv 1))) (fun _ _ _ _ _ => pg_name (i := 2) sc_subformulas_of.nd rfl (Or.inl rfl)) (fun _ _ _ _ _ => pts_nil) (fun _ _ _ _ _ => (pv 2))) pa_nil)))), ?_⟩
  refine ⟨_, rfl, q0, x, f, f.ht, rfl, hq0, hx, hok, Nat.le_refl _, hsz, fun p vs H1 np s1 hp lv => ?_⟩
  refine ⟨p, rfl, ⟨_, SqL.of hp⟩, fun D nD => ?_⟩
  have hvl := lv.len
  have htot : (levs f.ht [f]).flatten.length ≤ 100000 := by
    rw [List.length_flatten]
    have := levs_sum f.ht [f]
    have h4 : ([f].map Fm.sz).sum = f.sz := by simp
    omega
  refine out_list (K := K) (a := p) (xs := vs) (fun i H2 => ∃ zs : List V, Same H1 H2 ∧ H2 D = some (.lst zs) ∧ ImAll K H2 zs (((levs f.ht [f]).take i).flatten.map Fm.d)) ⟨[], same_new nD, upd_same, .nil⟩ (fun i H2 _ h => by
    obtain ⟨zs, h, _⟩ := h
    exact SqL.of (h _ _ hp)) ?_ ?_
  · rintro i v H2 hv ⟨zs, s2, hD, iz⟩
    obtain ⟨b, ys, fs, rfl, hfs, hb, iy⟩ := lv.get hv
    have hyl := fms_len iy
    have hcat : ((levs f.ht [f]).take (i + 1)).flatten = ((levs f.ht [f]).take i).flatten ++ fs := by
      rw [take_snoc hfs, List.flatten_append]
      simp
    have hpre : ((levs f.ht [f]).take (i + 1)).flatten.length ≤ 100000 := by
      have : ((levs f.ht [f]).take (i + 1)).flatten.length + ((levs f.ht [f]).drop (i + 1)).flatten.length = (levs f.ht [f]).flatten.length := by
        rw [← List.length_append, ← List.flatten_append, List.take_append_drop]
      omega
    refine ⟨rfl, _, rfl, b, rfl, ⟨_, s2.seq hb⟩, ?_⟩
    refine in_list (K := K) (b := b) (ys := ys) (fun j H3 => ∃ zs : List V, Same H1 H3 ∧ H3 D = some (.lst zs) ∧ ImAll K H3 zs ((((levs f.ht [f]).take i).flatten ++ fs.take j).map Fm.d)) ⟨zs, s2, hD, by rw [List.take_zero, List.append_nil]; exact iz⟩ (fun j H3 _ h => by
      obtain ⟨_, h, _⟩ := h
      exact h.seq hb) ?_ ?_
    · rintro j y H3 hy ⟨zs, s3, hD3, iz3⟩
      obtain ⟨g, hg, ig⟩ := imAll_of iy hy
      have hzl := fms_len iz3
      have hj : j < fs.length := (List.getElem?_eq_some_iff.mp hg).1
      have hzs : zs.length ≤ 100000 := by
        rw [hcat, List.length_append] at hpre
        rw [List.length_append, List.length_take] at hzl
        omega
      refine ⟨rfl, _, rfl, zs, hD3, Nat.lt_of_le_of_lt hzs (by decide), zs ++ [y], ?_, upd_same, ?_⟩
      · intro b o hb
        rw [upd_ne (ne_of_none hb nD)]
        exact s3 _ _ hb
      · rw [take_snoc hg, ← List.append_assoc, fm_snoc]
        exact (iz3.mono (Kp.upd.ts hD3)).snoc ((ig.mono (Same.ts s3)).mono (Kp.upd.ts hD3))
    · rintro H3 ⟨zs, s3, hD3, iz3⟩
      rw [hyl, List.take_length, ← hcat] at iz3
      exact ⟨zs, s3, hD3, iz3⟩
  · rintro H2 ⟨zs, s2, hD, iz⟩
    rw [hvl, List.take_length] at iz
    refine ⟨D, zs, _, rfl, SqL.of hD, iz, fun g hg => ?_, Nat.le_trans htot (by decide), fun q ws H3 nq s3 hq iq => ?_⟩
    · obtain ⟨h, hh, hx⟩ := (levs_mem f.ht [f] (fun g hg => by rw [List.mem_singleton.mp hg]; exact Nat.le_refl _) g).mp hg
      rw [List.mem_singleton.mp hh] at hx
      exact hok g hx
    · rw [flat_subs (Nat.le_refl _)] at iq
      exact k q ws H3 ((s1.trans s2).free nq) ((s1.trans s2).trans s3) hq iq
theorem ok_subformulas (T : Top K mg) : FnOk P w K mg base CX0 4 T.f_subformulas T.d_subformulas ["a"] (spSubs K) := by
  have G_subformulas_of : FnOk P w K mg base CX0 3 T.f_subformulas_of T.d_subformulas_of ["formulas"] (spSubsF K) := ok_subformulas_of T
  refine T.F_subformulas.ok sc_subformulas (fun vs H Q E h => ?_) (fun cdv A outer s H vs Q E hr h => ?_)
  · obtain ⟨x, f, rfl, _⟩ := h
    rfl
  obtain ⟨x, f, rfl, hx, hok, hsz, k⟩ := h
  refine ⟨_, (pss_one (ps_ret (pe_call G_subformulas_of (hr.mono (by omega)) (by rfl) T.m_subformulas_of T.F_subformulas_of.kp T.b_subformulas_of .nil pass0 (pa_cons (pe_lst (pa_cons (pv 0) pa_nil)) pa_nil)))), ?_⟩
  refine ⟨_, rfl, (by show 1 ≤ sizeLine; decide), fun l nl => ?_⟩
  have s1 := same_new (o := .lst [x]) nl
  exact ⟨l, x, f, rfl, SqL.of upd_same, hx.mono (Same.ts s1), hok, hsz, fun p ys H' np s2 hp iy => k p ys H' (s1.free np) (s1.trans s2) hp iy⟩
def Fm.name? : Fm → Option Str
  | .var n => some n
  | _ => none
def spBoxes (K : PySem.W.Frag) : Sp := fun vs H Q _ => ∃ (x : V) (f : Fm), vs = [x] ∧ Im K H x f.d ∧ (∀ g ∈ f.subs, Ok1 g) ∧ f.sz ≤ 100000 ∧
  ∀ (p : Addr) (ys : List V) (H' : Hp), H p = none → Same H H' → H' p = some (.lst ys) → ImAll K H' ys (((dist f.subs).filter Fm.isBox).map Fm.d) → Q (.ref p) H'
theorem ok_boxes (T : Top K mg) : FnOk P w K mg base CX0 5 T.f_boxes T.d_boxes ["a"] (spBoxes K) := by
  have G_subformulas : FnOk P w K mg base CX0 4 T.f_subformulas T.d_subformulas ["a"] (spSubs K) := ok_subformulas T
  refine T.F_boxes.ok sc_boxes (fun vs H Q E h => ?_) (fun cdv A outer s H vs Q E hr h => ?_)
  · obtain ⟨x, f, rfl, _⟩ := h
    rfl
  obtain ⟨x, f, rfl, hx, hok, hsz, k⟩ := h
  refine ⟨_, (pss_one (ps_ret (pe_lc (own := [("b", 1)]) (g := gName 1) (tt := (tTest (tOp _ (tOp (rIxT K) _ _) _))) rfl sc_boxes.nd (pi_list (pe_call G_subformulas (hr.mono (by omega)) (by rfl) T.m_subformulas T.F_subformulas.kp T.b_subformulas .nil pass0 (pa_cons (pv 0) pa_nil))) (blkOk_by (N := ["a", "b"]) (sc := defScope s_boxes) (by decide +kernel)) (fun _ _ _ _ _ => pg_name (i := 1) sc_boxes.nd rfl (Or.inl rfl)) (fun _ _ _ _ _ => pts_one (pt_cmpR op_eq (pe_ix ix_tup (pv 1) pe_int (fun _ _ => rfl)) pe_str (nomark _))) (fun _ _ _ _ _ => (pv 1))))), ?_⟩
  refine ⟨_, rfl, x, f, rfl, hx, hok, hsz, fun p ys H1 np s1 hp iy => ⟨p, rfl, ⟨_, SqL.of hp⟩, fun D nD => ?_⟩⟩
  have hyl := fms_len iy
  have hdl : (dist f.subs).length ≤ 100000 := by
    have h1 := dist_len f.subs
    rw [subs_len] at h1
    omega
  refine lc_list (K := K) (a := p) (xs := ys) (fun i H2 => ∃ zs : List V, Same H1 H2 ∧ H2 D = some (.lst zs) ∧ ImAll K H2 zs ((((dist f.subs).take i).filter Fm.isBox).map Fm.d)) ⟨[], same_new nD, upd_same, .nil⟩ (fun i H2 _ h => by
    obtain ⟨_, h, _⟩ := h
    exact SqL.of (h _ _ hp)) ?_ ?_
  · rintro i y H2 hy ⟨zs, s2, hD, iz⟩
    obtain ⟨g, hg, ig⟩ := imAll_of iy hy
    have ig2 := ig.mono (Same.ts s2)
    obtain ⟨a, ws, rfl, h1, h2⟩ := im_inv ig2
    refine ⟨rfl, _, rfl, a, _, 0, _, rfl, rfl, h1, atI_nat (j := 0) rfl, rfl, _, rfl, ?_⟩
    rw [sg_box, take_snoc hg, List.filter_append]
    cases hv : g.isBox with
    | true =>
      have hzl := fms_len iz
      refine iteT ⟨_, rfl, zs, hD, ?_, zs ++ [.ref a], ?_, upd_same, ?_⟩
      · refine Nat.lt_of_le_of_lt (show _ ≤ 100000 from ?_) (by decide)
        rw [hzl]
        refine Nat.le_trans (List.length_filter_le _ _) ?_
        rw [List.length_take]
        omega
      · intro b o hb
        rw [upd_ne (ne_of_none hb nD)]
        exact s2 _ _ hb
      · rw [show [g].filter Fm.isBox = [g] by rw [List.filter_cons, hv]; rfl, fm_snoc]
        exact (iz.mono (Kp.upd.ts hD)).snoc (ig2.mono (Kp.upd.ts hD))
    | false =>
      refine iteF ⟨zs, s2, hD, ?_⟩
      rw [show [g].filter Fm.isBox = [] by rw [List.filter_cons, hv]; rfl, List.append_nil]
      exact iz
  · rintro H2 ⟨zs, s2, hD, iz⟩
    rw [hyl, List.take_length] at iz
    exact k D zs H2 (s1.free nD) (s1.trans s2) hD iz

theorem plain_iff : ∀ f : Fm, f.plain = true ↔ ∀ g ∈ f.subs, g.isBox = false
  | .var _ => by simp [Fm.plain, Fm.subs, Fm.isBox]
  | .fal => by simp [Fm.plain, Fm.subs, Fm.isBox]
  | .and a b => by simp [Fm.plain, Fm.subs, Fm.isBox, plain_iff a, plain_iff b, or_imp, forall_and]
  | .or a b => by simp [Fm.plain, Fm.subs, Fm.isBox, plain_iff a, plain_iff b, or_imp, forall_and]
  | .imp a b => by simp [Fm.plain, Fm.subs, Fm.isBox, plain_iff a, plain_iff b, or_imp, forall_and]
  | .box a => by simp [Fm.plain, Fm.subs, Fm.isBox]
theorem plain_boxes (f : Fm) : (((dist f.subs).filter Fm.isBox).isEmpty) = f.plain := by
  rw [Bool.eq_iff_iff, plain_iff, List.isEmpty_iff, List.filter_eq_nil_iff]
  constructor
  · intro h g hg
    exact Bool.eq_false_iff.mpr (h g (dist_mem.mpr hg))
  · intro h g hg
    rw [h g (dist_mem.mp hg)]
    decide
theorem im_empty {H : Hp} {xs : List V} {fs : List Fm} (h : ImAll K H xs (fs.map Fm.d)) : xs.isEmpty = fs.isEmpty := by
  have := fms_len h
  cases xs <;> cases fs <;> first | rfl | cases this
def spPlain (K : PySem.W.Frag) : Sp := fun vs H Q _ => ∃ (x : V) (f : Fm), vs = [x] ∧ Im K H x f.d ∧ (∀ g ∈ f.subs, Ok1 g) ∧ f.sz ≤ 100000 ∧ ∀ H', Same H H' → Q (.bl f.plain) H'
theorem ok_is_plain (T : Top K mg) : FnOk P w K mg base CX0 6 T.f_is_plain T.d_is_plain ["a"] (spPlain K) := by
  have G_boxes : FnOk P w K mg base CX0 5 T.f_boxes T.d_boxes ["a"] (spBoxes K) := ok_boxes T
  refine T.F_is_plain.ok sc_is_plain (fun vs H Q E h => ?_) (fun cdv A outer s H vs Q E hr h => ?_)
  · obtain ⟨x, f, rfl, _⟩ := h
    rfl
  obtain ⟨x, f, rfl, hx, hok, hsz, k⟩ := h
  refine ⟨_, (pss_one (ps_ret (pe_notT (pe_call G_boxes (hr.mono (by omega)) (by rfl) T.m_boxes T.F_boxes.kp T.b_boxes .nil pass0 (pa_cons (pv 0) pa_nil))))), ?_⟩
  refine ⟨_, rfl, x, f, rfl, hx, hok, hsz, fun p ys H' np s1 hp iy => ?_⟩
  refine ⟨!ys.isEmpty, .inl ⟨ys, SqL.of hp, rfl⟩, ?_⟩
  rw [Bool.not_not, im_empty iy, plain_boxes]
  exact k H' s1
theorem box_count {f : Fm} {n : Nat} (h : n = (f.subs.filter Fm.isBox).length) : decide (V.int ((n : Nat) : Int) = V.int 0) = f.plain := by
  rw [Bool.eq_iff_iff, plain_iff, decide_eq_true_eq, h]
  constructor
  · intro h g hg
    have h0 : (f.subs.filter Fm.isBox).length = 0 := Int.ofNat.inj (V.int.inj h)
    have := List.filter_eq_nil_iff.mp (List.length_eq_zero_iff.mp h0) g hg
    exact Bool.eq_false_iff.mpr this
  · intro h
    have h0 : f.subs.filter Fm.isBox = [] := List.filter_eq_nil_iff.mpr fun g hg => by rw [h g hg]; decide
    rw [h0]
    rfl

/-! ### the place of a formula in an ascending row -/
def spPlace (K : PySem.W.Frag) : Sp := fun vs H Q _ => ∃ (a : Addr) (xs : List V) (fs : List Fm) (x : V) (f : Fm) (i : Nat), vs = [.ref a, x] ∧ SqL K H a xs ∧ ImAll K H xs (fs.map Fm.d) ∧ Asc fs ∧ fs[i]? = some f ∧ Im K H x f.d ∧ (∀ g ∈ fs, Ok1 g) ∧ fs.length ≤ 100000 ∧ Q (.int (i : Int)) H
theorem ok_place_of (T : Top K mg) : FnOk P w K mg base CX0 1 T.f_place_of T.d_place_of ["rows", "row"] (spPlace K) := by
  refine T.F_place_of.ok sc_place_of (fun vs H Q E h => ?_) (fun cdv A outer s H vs Q E hr h => ?_)
  · obtain ⟨a, xs, fs, x, f, i, rfl, _⟩ := h
    rfl
  obtain ⟨a, xs, fs, x, f, i, rfl, hS, hI, hasc, hi, hx, hok, hlen, k⟩ := h
  have hu64 := hr.units
  have hu200 := hr.un
  refine ⟨_, (pss_cons (ps_set (i := 2) sc_place_of.nd rfl (.inl rfl) pe_int)
    (pss_cons (ps_set (i := 3) sc_place_of.nd rfl (.inl rfl) (pe_op op_sub (pe_callB call_len_seq (by rfl) T.z_len PySem.boot_len (pa_cons (pv 0) pa_nil)) pe_int))
    (pss_cons (ps_while PassesOwn.never (pt_cmpR op_lt (pv 2) (pv 3) (nomark _))
      (pss_cons (ps_set (i := 4) sc_place_of.nd rfl (.inl rfl) (pe_op op_fdiv (pe_op op_add (pv 2) (pv 3)) pe_int))
    (pss_one (ps_if (pt_cmpR (op_ltF hu200) (pe_ix ix_list (pv 0) (pv 4) (fun _ _ => rfl)) (pv 1) (nomark _))
      (pss_one (ps_set (i := 2) sc_place_of.nd rfl (.inl rfl) (pe_op op_add (pv 4) pe_int)))
      (pss_one (ps_set (i := 3) sc_place_of.nd rfl (.inl rfl) (pv 4)))))))
    (pss_one (ps_ret (pv 2)))))), ?_⟩
  have hxl := fms_len hI
  have hif : i < fs.length := (List.getElem?_eq_some_iff.mp hi).1
  refine ⟨_, rfl, a, xs, rfl, .inl hS, _, _, rfl, rfl, ?_⟩
  refine ⟨fun m σ H2 => ∃ (lo hi : Nat) (v4 : Option V), σ = [some (.ref a), some x, some (.int (lo : Int)), some (.int (hi : Int)), v4] ∧ H2 = H ∧ lo ≤ i ∧ i ≤ hi ∧ hi < fs.length ∧ m = hi - lo, ⟨fs.length - 1, 0, fs.length - 1, none, ?_, rfl, Nat.zero_le _, by omega, by omega, by omega⟩, ?_⟩
  · show [some (V.ref a), some x, some (V.int 0), some (V.int ((xs.length : Int) - 1)), none] = _
    rw [show (xs.length : Int) - 1 = ((fs.length - 1 : Nat) : Int) by omega]
    rfl
  rintro m σ H2 ⟨lo, hi', v4, rfl, rfl, h1, h2, h3, rfl⟩
  refine ⟨_, rfl, _, rfl, _, _, rfl, rfl, _, rfl, ite2 (fun c => ?_) (fun c => ?_)⟩
  · have hlt : lo < hi' := by
      have := of_decide_eq_true c
      omega
    refine ⟨fun σ' H' => ∃ m', m' < hi' - lo ∧ ∃ (lo hi : Nat) (v4 : Option V), σ' = [some (.ref a), some x, some (.int (lo : Int)), some (.int (hi : Int)), v4] ∧ H' = H2 ∧ lo ≤ i ∧ i ≤ hi ∧ hi < fs.length ∧ m' = hi - lo, fun σ' H' h => h, ?_⟩
    refine ⟨_, rfl, _, rfl, _, _, rfl, rfl, _, _, rfl, rfl, ⟨by decide, by decide⟩, ?_⟩
    obtain ⟨mid, hm⟩ : ∃ mid : Nat, ((lo : Int) + (hi' : Int)) / 2 = (mid : Int) := ⟨(lo + hi') / 2, by omega⟩
    have hm1 : lo ≤ mid := by omega
    have hm2 : mid < hi' := by omega
    change gName 4 (V.int (((lo : Int) + (hi' : Int)) / 2)) _ _ _
    rw [hm]
    obtain ⟨y, gy⟩ : ∃ y, xs[mid]? = some y := ⟨_, List.getElem?_eq_getElem (by omega)⟩
    obtain ⟨g, gg, ig⟩ := imAll_of hI gy
    have og := hok g (List.mem_of_getElem? gg)
    have of_ := hok f (List.mem_of_getElem? hi)
    refine ⟨_, rfl, _, rfl, a, xs, _, _, rfl, rfl, hS, atI_nat gy, _, rfl, g, f, ig, hx, og.1, of_.1, Nat.le_trans og.2 (by decide), _, rfl, ?_⟩
    obtain ⟨m1, e1⟩ := List.getElem?_eq_some_iff.mp gg
    obtain ⟨m2, e2⟩ := List.getElem?_eq_some_iff.mp hi
    by_cases c1 : mid < i
    · have h5 := List.pairwise_iff_getElem.mp hasc mid i m1 m2 c1
      rw [e1, e2] at h5
      rw [h5]
      exact iteT ⟨_, rfl, _, _, rfl, rfl, hi' - (mid + 1), by omega, mid + 1, hi', some (V.int (mid : Int)), rfl, rfl, by omega, h2, h3, rfl⟩
    · have h5 : g.lt f = false := by
        by_cases c3 : mid = i
        · subst c3
          rw [gg] at hi
          cases hi
          exact Fm.lt_irrefl _
        · have h6 := List.pairwise_iff_getElem.mp hasc i mid m2 m1 (by omega)
          rw [e1, e2] at h6
          exact Fm.lt_asymm h6
      rw [h5]
      exact iteF ⟨_, rfl, mid - lo, by omega, lo, mid, _, rfl, rfl, h1, by omega, by omega, rfl⟩
  · have e : lo = i := by
      have := of_decide_eq_false (Bool.eq_false_iff.mpr c)
      omega
    subst e
    exact ⟨_, rfl, k⟩

/-! ### the pool -/
def spPool (K : PySem.W.Frag) : Sp := fun vs H Q _ => ∃ (a : Addr) (ns : List Int), vs = [.ref a] ∧ SqL K H a (ns.map V.int) ∧
  ∀ (p l : Addr) (H' : Hp), H p = none → Same H H' → Pl K H' p l → Q (.ref p) H'
theorem ok_law_pool (T : Top K mg) : FnOk P w K mg base CX0 1 T.f_law_pool T.d_law_pool ["script"] (spPool K) := by
  refine T.F_law_pool.ok sc_law_pool (fun vs H Q E h => ?_) (fun cdv A outer s H vs Q E hr h => ?_)
  · obtain ⟨a, ns, rfl, _⟩ := h
    rfl
  obtain ⟨a, ns, rfl, hS, q⟩ := h
  refine ⟨_, (pss_cons (ps_set (i := 1) sc_law_pool.nd rfl (.inl rfl) pe_int)
    (pss_cons (ps_for PassesOwn.never rfl (pi_list (pe_slice sl_list (pv 0) po_none (po_some pe_int))) (pg_name (i := 2) sc_law_pool.nd rfl (.inl rfl))
      (pss_one (ps_set (i := 1) sc_law_pool.nd rfl (.inl rfl) (pe_op op_mod (pe_callTy call_int1 (by rfl) T.z_int (by decide +kernel) (pa_cons (pe_op op_add (pe_op op_mul (pv 1) pe_int) (pv 2)) pa_nil)) pe_int))))
    (pss_one (ps_ret (pe_lst (pa_cons (pe_callTy call_list_of (by rfl) T.z_list (by decide +kernel) (pa_cons (pv 0) pa_nil)) (pa_cons pe_int (pa_cons pe_int (pa_cons pe_int (pa_cons (pv 1) pa_nil)))))))))), ?_⟩
  refine ⟨_, rfl, 63, rfl, a, ns.map V.int, rfl, hS, fun c nc => ?_⟩
  have s1 : Same H (upd H c (.lst (cutV (ns.map V.int) none (some 63)))) := same_new nc
  obtain ⟨ms, hms⟩ : ∃ ms : List Int, cutV (ns.map V.int) none (some 63) = ms.map V.int := ⟨_, by unfold cutV; rw [← List.map_drop, ← List.map_take]⟩
  rw [hms] at s1 ⊢
  refine ⟨c, rfl, ⟨_, SqL.of upd_same⟩, for_list (K := K) (a := c) (xs := ms.map V.int) (fun i σ H2 => ∃ (z : Int) (v : Option V), σ = [some (.ref a), some (.int z), v] ∧ H2 = upd H c (.lst (ms.map V.int))) ⟨7, none, rfl, rfl⟩ (fun i σ H2 _ h => by
    obtain ⟨_, _, _, rfl⟩ := h
    exact SqL.of upd_same) ?_ ?_⟩
  · rintro i x σ H2 hx ⟨z, v, rfl, rfl⟩
    obtain ⟨y, rfl⟩ : ∃ y, x = V.int y := by
      rw [List.getElem?_map] at hx
      cases e : ms[i]? with
      | none => rw [e] at hx; cases hx
      | some y => rw [e] at hx; exact ⟨y, (Option.some.inj hx).symm⟩
    refine ⟨_, rfl, _, _, rfl, rfl, .inr ⟨by decide, by decide⟩, _, rfl, _, _, rfl, rfl, .inl ⟨_, rfl, _, _, rfl, rfl, (by show (0 : Int) < 1000003; decide), _, _, rfl, rfl⟩⟩
  · rintro σ H2 ⟨z, v, rfl, rfl⟩
    refine ⟨_, rfl, a, _, rfl, .inl (s1.seq hS), fun l nl => ?_⟩
    refine ⟨_, rfl, (by show 5 ≤ sizeLine; decide), fun p np => ?_⟩
    have s2 := s1.trans (same_new (o := .lst (ns.map V.int)) nl)
    have s3 := s2.trans (same_new (o := .lst [.ref l, .int 0, .int 0, .int 0, .int z]) np)
    have hl : (upd (upd H c (.lst (ms.map V.int))) l (.lst (ns.map V.int))) l = some (.lst (ns.map V.int)) := upd_same
    have nlp : l ≠ p := ne_of_none hl np
    exact q p l _ (s2.free np) s3 ⟨⟨ns, SqL.of (by rw [upd_ne nlp]; exact hl)⟩, nlp, 0, 0, 0, z, upd_same, Int.le_refl 0⟩
/-! ### numbers out of the pool -/
def spSpread (K : PySem.W.Frag) : Sp := fun vs H Q _ => ∃ (c : Int), vs = [.int c] ∧ ∀ n : Int, Q (.int n) H
theorem ok_law_spread (T : Top K mg) : FnOk P w K mg base CX0 1 T.f_law_spread T.d_law_spread ["cell"] (spSpread K) := by
  refine T.F_law_spread.ok sc_law_spread (fun vs H Q E h => ?_) (fun cdv A outer s H vs Q E hr h => ?_)
  · obtain ⟨c, rfl, _⟩ := h
    rfl
  obtain ⟨c, rfl, q⟩ := h
  refine ⟨_, (pss_cons (ps_set (i := 1) sc_law_spread.nd rfl (.inl rfl) (pe_op op_mod (pe_callTy call_int1 (by rfl) T.z_int (by decide +kernel) (pa_cons (pv 0) pa_nil)) pe_int))
    (pss_cons (ps_set (i := 2) sc_law_spread.nd rfl (.inl rfl) pe_int)
    (pss_cons (ps_for PassesOwn.never rfl (pi_range1 (by rfl) T.z_range (pa_cons pe_int pa_nil)) (pg_name (i := 3) sc_law_spread.nd rfl (.inl rfl))
      (pss_cons (ps_set (i := 1) sc_law_spread.nd rfl (.inl rfl) (pe_op op_mod (pe_callTy call_int1 (by rfl) T.z_int (by decide +kernel) (pa_cons (pe_op op_add (pe_op op_add (pe_op op_mul (pv 1) pe_int) pe_int) (pv 3)) pa_nil)) pe_int))
    (pss_one (ps_set (i := 2) sc_law_spread.nd rfl (.inl rfl) (pe_op op_add (pe_op op_mul (pv 2) pe_int) (pv 1))))))
    (pss_one (ps_ret (pv 2)))))), ?_⟩
  refine ⟨_, rfl, .inl ⟨_, rfl, _, _, rfl, rfl, (by show (0 : Int) < 2147483647; decide), ?_⟩⟩
  refine ⟨4, rfl, by decide, by decide, for_range (n := 4) (fun i σ H2 => ∃ (m t : Int) (v : Option V), σ = [some (.int c), some (.int m), some (.int t), v] ∧ H2 = H) ⟨_, _, none, rfl, rfl⟩ ?_ ?_⟩
  · rintro i σ H2 hi ⟨m, t, v, rfl, rfl⟩
    refine ⟨_, rfl, _, _, rfl, rfl, .inr ⟨by decide, by decide⟩, _, _, rfl, rfl, _, rfl, _, _, rfl, rfl, .inl ⟨_, rfl, _, _, rfl, rfl, (by show (0 : Int) < 2147483647; decide), ?_⟩⟩
    exact ⟨_, rfl, _, _, rfl, rfl, .inr ⟨by decide, by decide⟩, _, rfl, _, _, rfl, rfl, _, _, _, rfl, rfl⟩
  · rintro σ H2 ⟨m, t, v, rfl, rfl⟩
    exact ⟨_, rfl, q _⟩
def spDraw (K : PySem.W.Frag) : Sp := fun vs H Q _ => ∃ (p l : Addr) (m : Int), vs = [.ref p, .int m] ∧ Pl K H p l ∧ 0 < m ∧ m < 1073741824 ∧
  ∀ (r : Int) (H' : Hp), 0 ≤ r → r < m → Kp p H H' → Pl K H' p l → Q (.int r) H'
theorem ok_law_draw (T : Top K mg) : FnOk P w K mg base CX0 2 T.f_law_draw T.d_law_draw ["pool", "many"] (spDraw K) := by
  have G_law_spread : FnOk P w K mg base CX0 1 T.f_law_spread T.d_law_spread ["cell"] (spSpread K) := ok_law_spread T
  refine T.F_law_draw.ok sc_law_draw (fun vs H Q E h => ?_) (fun cdv A outer s H vs Q E hr h => ?_)
  · obtain ⟨p, l, m, rfl, _⟩ := h
    rfl
  obtain ⟨p, l, m, rfl, hP, m0, m1, q⟩ := h
  refine ⟨_, (C8.pss_cut (ps_if (PW.pt (pw_and (pt_cmpR op_le (pe_ix ix_list (pv 0) pe_int (fun _ _ => rfl)) pe_int (nomark _)) (pw_and1 (pt_cmpR op_lt (pe_ix ix_list (pv 0) pe_int (fun _ _ => rfl)) (pe_callB call_len_seq (by rfl) T.z_len PySem.boot_len (pa_cons (pe_ix ix_list (pv 0) pe_int (fun _ _ => rfl)) pa_nil)) (nomark _)))))
      (pss_cons (ps_set (i := 2) sc_law_draw.nd rfl (.inl rfl) (pe_ix ix_list (pe_ix ix_list (pv 0) pe_int (fun _ _ => rfl)) (pe_ix ix_list (pv 0) pe_int (fun _ _ => rfl)) (fun _ _ => rfl)))
    (pss_cons (ps_asg (pe_op op_add (pe_ix ix_list (pv 0) pe_int (fun _ _ => rfl)) pe_int) (pg_sub (pv 0) pe_int set_list))
    (pss_cons (ps_asg (pv 2) (pg_sub (pv 0) pe_int set_list))
    (pss_one (ps_if (pt_cmpR op_lt (pv 2) pe_int (nomark _))
      (pss_one (ps_asg (pe_call G_law_spread (hr.mono (by omega)) (by rfl) T.m_law_spread T.F_law_spread.kp T.b_law_spread .nil pass0 (pa_cons (pv 2) pa_nil)) (pg_sub (pv 0) pe_int set_list)))
      pss_nil)))))
      pss_nil)
    (pss_cons (ps_asg (pe_op op_add (pe_ix ix_list (pv 0) pe_int (fun _ _ => rfl)) pe_int) (pg_sub (pv 0) pe_int set_list))
    (pss_cons (ps_if (pt_cmpR op_le (pe_ix ix_list (pv 0) pe_int (fun _ _ => rfl)) pe_int (nomark _))
      (pss_cons (ps_set (i := 3) sc_law_draw.nd rfl (.inl rfl) (pe_op op_mod (pe_callTy call_int1 (by rfl) T.z_int (by decide +kernel) (pa_cons (pe_op op_add (pe_op op_add (pe_op op_mul (pe_ix ix_list (pv 0) pe_int (fun _ _ => rfl)) pe_int) (pe_op op_mul (pe_ix ix_list (pv 0) pe_int (fun _ _ => rfl)) pe_int)) pe_int) pa_nil)) pe_int))
    (pss_cons (ps_set (i := 3) sc_law_draw.nd rfl (.inl rfl) (pe_op op_mod (pe_callTy call_int1 (by rfl) T.z_int (by decide +kernel) (pa_cons (pe_op op_add (pe_op op_mul (pv 3) pe_int) (pe_ix ix_list (pv 0) pe_int (fun _ _ => rfl))) pa_nil)) pe_int))
    (pss_one (ps_ret (pe_op op_mod (pe_op op_fdiv (pv 3) pe_int) (pv 1))))))
      pss_nil)
    (pss_cons (ps_set (i := 4) sc_law_draw.nd rfl (.inl rfl) (pe_op op_mod (pe_callTy call_int1 (by rfl) T.z_int (by decide +kernel) (pa_cons (pe_ix ix_list (pv 0) pe_int (fun _ _ => rfl)) pa_nil)) (pv 1)))
    (pss_cons (ps_asg (pe_op op_fdiv (pe_ix ix_list (pv 0) pe_int (fun _ _ => rfl)) (pv 1)) (pg_sub (pv 0) pe_int set_list))
    (pss_one (ps_ret (pv 4)))))))), ?_⟩
  obtain ⟨i, r, c, s, hp, hi⟩ := hP.at5
  obtain ⟨cs, hl⟩ := hP.sq
  -- the first if: a new number may be taken
  refine ⟨fun σ H1 => ∃ (i r : Int) (v2 v3 v4 : Option V), σ = [some (.ref p), some (.int m), v2, v3, v4] ∧ H1 = upd H p (.lst [.ref l, .int i, .int r, .int c, .int s]) ∧ 0 ≤ i, ?_, ?_⟩
  · have upd0 : upd H p (.lst [.ref l, .int i, .int r, .int c, .int s]) = H := by
      funext b
      by_cases e : b = p
      · rw [e, upd_same, hp]
      · rw [upd_ne e]
    refine ⟨_, rfl, p, _, 2, _, rfl, rfl, SqL.of hp, atI_nat (j := 2) rfl, _, _, rfl, rfl, _, rfl, ite2 (fun c1 => ?_) (fun c1 => iteF ?_)⟩
    · refine ⟨_, rfl, p, _, 1, _, rfl, rfl, SqL.of hp, atI_nat (j := 1) rfl, _, rfl, p, _, 0, _, rfl, rfl, SqL.of hp, atI_nat (j := 0) rfl, l, _, rfl, .inl hl, _, _, rfl, rfl, _, rfl, ite2 (fun c2 => ?_) (fun c2 => ?_)⟩
      · have c2' : i < ((cs.map V.int).length : Int) := of_decide_eq_true c2
        rw [List.length_map] at c2'
        have g : atI (cs.map V.int) i = some (.int cs[i.toNat]) := by
          have e := atI_nat (xs := cs.map V.int) (j := i.toNat) (v := .int cs[i.toNat]) (by rw [List.getElem?_map, List.getElem?_eq_getElem (by omega)]; rfl)
          rw [show ((i.toNat : Nat) : Int) = i by omega] at e
          exact e
        generalize cs[i.toNat] = z at g
        refine ⟨_, rfl, p, _, 0, _, rfl, rfl, SqL.of hp, atI_nat (j := 0) rfl, _, rfl, p, _, 1, _, rfl, rfl, SqL.of hp, atI_nat (j := 1) rfl, l, _, i, .int z, rfl, rfl, hl, g, ?_⟩
        refine ⟨_, rfl, p, _, 1, _, rfl, rfl, SqL.of hp, atI_nat (j := 1) rfl, _, _, rfl, rfl, _, rfl, p, _, 1, 1, rfl, rfl, hp, rfl, ?_⟩
        refine ⟨_, rfl, _, rfl, p, _, 2, 2, rfl, rfl, upd_same, rfl, ?_⟩
        rw [upd_upd]
        refine ⟨_, rfl, _, _, rfl, rfl, _, rfl, ite2 (fun c3 => ?_) (fun c3 => ?_)⟩
        · refine ⟨_, rfl, z, rfl, fun n => ⟨_, rfl, p, _, 2, 2, rfl, rfl, upd_same, rfl, ?_⟩⟩
          rw [upd_upd]
          exact ⟨i + 1, n, some (.int z), none, none, rfl, rfl, by omega⟩
        · exact ⟨i + 1, z, some (.int z), none, none, rfl, rfl, by omega⟩
      · exact ⟨i, r, none, none, none, rfl, upd0.symm, hi⟩
    · exact ⟨i, r, none, none, none, rfl, upd0.symm, hi⟩
  · rintro σ H1 ⟨i, r, v2, v3, v4, rfl, rfl, hi⟩
    refine ⟨_, rfl, p, _, 3, _, rfl, rfl, SqL.of upd_same, atI_nat (j := 3) rfl, _, _, rfl, rfl, _, rfl, p, _, 3, 3, rfl, rfl, upd_same, rfl, ?_⟩
    rw [upd_upd]
    refine ⟨_, rfl, p, _, 2, _, rfl, rfl, SqL.of upd_same, atI_nat (j := 2) rfl, _, _, rfl, rfl, _, rfl, ite2 (fun c1 => ?_) (fun c1 => ?_)⟩
    · refine ⟨_, rfl, p, _, 4, _, rfl, rfl, SqL.of upd_same, atI_nat (j := 4) rfl, _, _, rfl, rfl, .inr ⟨by decide, by decide⟩, _, rfl, p, _, 3, _, rfl, rfl, SqL.of upd_same, atI_nat (j := 3) rfl, _, _, rfl, rfl, .inr ⟨by decide, by decide⟩, _, _, rfl, rfl, _, _, rfl, rfl, .inl ⟨_, rfl, _, _, rfl, rfl, (by show (0 : Int) < 2147483647; decide), ?_⟩⟩
      refine ⟨_, rfl, _, _, rfl, rfl, .inr ⟨by decide, by decide⟩, _, rfl, p, _, 3, _, rfl, rfl, SqL.of upd_same, atI_nat (j := 3) rfl, _, _, rfl, rfl, .inl ⟨_, rfl, _, _, rfl, rfl, (by show (0 : Int) < 2147483629; decide), ?_⟩⟩
      refine ⟨_, rfl, _, _, rfl, rfl, ⟨by decide, by decide⟩, _, rfl, _, _, rfl, rfl, m0, ?_⟩
      exact q _ _ (Int.emod_nonneg _ (by omega)) (Int.emod_lt_of_pos _ m0) Kp.upd (hP.turn hi)
    · refine ⟨_, rfl, p, _, 2, _, rfl, rfl, SqL.of upd_same, atI_nat (j := 2) rfl, .inl ⟨_, rfl, _, rfl, _, _, rfl, rfl, m0, ?_⟩⟩
      refine ⟨_, rfl, p, _, 2, _, rfl, rfl, SqL.of upd_same, atI_nat (j := 2) rfl, _, rfl, _, _, rfl, rfl, ⟨m0, m1⟩, _, rfl, p, _, 2, 2, rfl, rfl, upd_same, rfl, _, rfl, ?_⟩
      rw [upd_upd]
      exact q _ _ (Int.emod_nonneg _ (by omega)) (Int.emod_lt_of_pos _ m0) Kp.upd (hP.turn hi)

/-! ### the law's own comparison: of a thing with itself it says True -/
def spSame (K : PySem.W.Frag) (n : Nat) : Sp := fun vs H Q _ => ∃ (x y : V) (d : PyData), vs = [x, y] ∧ Dp K H x d ∧ Dp K H y d ∧ d.depth < n ∧ sml d ∧ Q (.bl true) H
theorem ok_law_same (T : Top K mg) : ∀ n : Nat, FnOk P w K mg base CX0 n T.f_law_same T.d_law_same ["actual", "due"] (spSame K n) := by
  intro n
  induction n with
  | zero =>
    refine fn_none fun vs H Q E h => ?_
    obtain ⟨x, y, d, _, _, _, h, _⟩ := h
    exact absurd h (Nat.not_lt_zero _)
  | succ n G_law_same =>
    refine T.F_law_same.ok sc_law_same (fun vs H Q E h => ?_) (fun cdv A outer s H vs Q E hr h => ?_)
    · obtain ⟨x, y, d, rfl, _⟩ := h
      rfl
    obtain ⟨x, y, d, rfl, hx, hy, hd, hm, q⟩ := h
    refine ⟨_, (pss_cons (ps_if (PW.pt (pw_or (pt_val (pe_callB call_isi (by rfl) T.z_isinstance (by decide +kernel) (pa_cons (pv 1) (pa_cons (pe_bltn (v := .ty "tuple") (by rfl) T.z_tuple (by decide +kernel) rfl) pa_nil)))) (pw_or1 (pt_val (pe_callB call_isi (by rfl) T.z_isinstance (by decide +kernel) (pa_cons (pv 1) (pa_cons (pe_bltn (v := .ty "list") (by rfl) T.z_list (by decide +kernel) rfl) pa_nil)))))))
      (pss_cons (ps_if (PW.pt (pw_or (pt_cmpR op_ne (pe_callB call_isi (by rfl) T.z_isinstance (by decide +kernel) (pa_cons (pv 1) (pa_cons (pe_bltn (v := .ty "tuple") (by rfl) T.z_tuple (by decide +kernel) rfl) pa_nil))) (pe_callB call_isi (by rfl) T.z_isinstance (by decide +kernel) (pa_cons (pv 0) (pa_cons (pe_bltn (v := .ty "tuple") (by rfl) T.z_tuple (by decide +kernel) rfl) pa_nil))) (nomark _)) (pw_or1 (pt_cmpR op_ne (pe_callB call_isi (by rfl) T.z_isinstance (by decide +kernel) (pa_cons (pv 1) (pa_cons (pe_bltn (v := .ty "list") (by rfl) T.z_list (by decide +kernel) rfl) pa_nil))) (pe_callB call_isi (by rfl) T.z_isinstance (by decide +kernel) (pa_cons (pv 0) (pa_cons (pe_bltn (v := .ty "list") (by rfl) T.z_list (by decide +kernel) rfl) pa_nil))) (nomark _)))))
      (pss_one (ps_ret pe_bl))
      pss_nil)
    (pss_cons (ps_if (pt_cmpR op_ne (pe_callB call_len_seq (by rfl) T.z_len PySem.boot_len (pa_cons (pv 0) pa_nil)) (pe_callB call_len_seq (by rfl) T.z_len PySem.boot_len (pa_cons (pv 1) pa_nil)) (nomark _))
      (pss_one (ps_ret pe_bl))
      pss_nil)
    (pss_cons (ps_for PassesOwn.never rfl (pi_range1 (by rfl) T.z_range (pa_cons (pe_callB call_len_seq (by rfl) T.z_len PySem.boot_len (pa_cons (pv 1) pa_nil)) pa_nil)) (pg_name (i := 2) sc_law_same.nd rfl (.inl rfl))
      (pss_one (ps_if (pt_not (pt_val (pe_call G_law_same (hr.mono (by omega)) (by rfl) T.m_law_same T.F_law_same.kp T.b_law_same .nil pass0 (pa_cons (pe_ix ix_seq (pv 0) (pv 2) (fun _ _ => rfl)) (pa_cons (pe_ix ix_seq (pv 1) (pv 2) (fun _ _ => rfl)) pa_nil)))))
      (pss_one (ps_ret pe_bl))
      pss_nil)))
    (pss_one (ps_ret pe_bl)))))
      pss_nil)
    (pss_cons (ps_if (pt_cmpR op_isN1 (pv 1) pe_non (nomark _))
      (pss_one (ps_ret (pe_cmpR op_isN1 (pv 0) pe_non (nomark _))))
      pss_nil)
    (pss_cons (ps_if (pt_val (pe_callB call_isi (by rfl) T.z_isinstance (by decide +kernel) (pa_cons (pv 1) (pa_cons (pe_bltn (v := .ty "bool") (by rfl) T.z_bool (by decide +kernel) rfl) pa_nil))))
      (pss_one (ps_ret (pe_and (pe_callB call_isi (by rfl) T.z_isinstance (by decide +kernel) (pa_cons (pv 0) (pa_cons (pe_bltn (v := .ty "bool") (by rfl) T.z_bool (by decide +kernel) rfl) pa_nil))) (pe_one (pe_cmpR op_eq (pv 0) (pv 1) (nomark _))))))
      pss_nil)
    (pss_cons (ps_if (pt_val (pe_callB call_isi (by rfl) T.z_isinstance (by decide +kernel) (pa_cons (pv 1) (pa_cons (pe_bltn (v := .ty "int") (by rfl) T.z_int (by decide +kernel) rfl) pa_nil))))
      (pss_one (ps_ret (pe_and (pe_callB call_isi (by rfl) T.z_isinstance (by decide +kernel) (pa_cons (pv 0) (pa_cons (pe_bltn (v := .ty "int") (by rfl) T.z_int (by decide +kernel) rfl) pa_nil))) (pe_and (pe_not (pe_callB call_isi (by rfl) T.z_isinstance (by decide +kernel) (pa_cons (pv 0) (pa_cons (pe_bltn (v := .ty "bool") (by rfl) T.z_bool (by decide +kernel) rfl) pa_nil)))) (pe_one (pe_cmpR op_eq (pv 0) (pv 1) (nomark _)))))))
      pss_nil)
    (pss_one (ps_ret (pe_and (pe_callB call_isi (by rfl) T.z_isinstance (by decide +kernel) (pa_cons (pv 0) (pa_cons (pe_bltn (v := .ty "str") (by rfl) T.z_str (by decide +kernel) rfl) pa_nil))) (pe_one (pe_cmpR op_eq (pv 0) (pv 1) (nomark _)))))))))), ?_⟩
    cases d with
    | none =>
      cases hx; cases hy
      have t : TyX K H .non (.type "NoneType") := .base .non
      refine ⟨_, rfl, _, _, _, _, _, rfl, .ty _, t, kB false (by decide +kernel), _, rfl, iteF ⟨_, rfl, _, _, _, _, _, rfl, .ty _, t, kB false (by decide +kernel), _, rfl, iteF ?_⟩⟩
      exact ⟨_, rfl, rfl, _, rfl, iteT ⟨_, rfl, rfl, q⟩⟩
    | bool b =>
      cases hx; cases hy
      have t : TyX K H (.bl b) (.type "bool") := .base (.bl b)
      refine ⟨_, rfl, _, _, _, _, _, rfl, .ty _, t, kB false (by decide +kernel), _, rfl, iteF ⟨_, rfl, _, _, _, _, _, rfl, .ty _, t, kB false (by decide +kernel), _, rfl, iteF ?_⟩⟩
      refine ⟨_, rfl, rfl, _, rfl, iteF ⟨_, rfl, _, _, _, _, _, rfl, .ty _, t, kB true (by decide +kernel), _, rfl, iteT ⟨_, rfl, _, _, _, _, _, rfl, .ty _, t, kB true (by decide +kernel), _, rfl, iteT ⟨_, rfl, _, rfl, rfl, ?_⟩⟩⟩⟩
      rw [decide_eq_true rfl]
      exact q
    | int i =>
      cases hx; cases hy
      have t : TyX K H (.int i) (.type "int") := .base (.int i)
      refine ⟨_, rfl, _, _, _, _, _, rfl, .ty _, t, kB false (by decide +kernel), _, rfl, iteF ⟨_, rfl, _, _, _, _, _, rfl, .ty _, t, kB false (by decide +kernel), _, rfl, iteF ?_⟩⟩
      refine ⟨_, rfl, rfl, _, rfl, iteF ⟨_, rfl, _, _, _, _, _, rfl, .ty _, t, kB false (by decide +kernel), _, rfl, iteF ⟨_, rfl, _, _, _, _, _, rfl, .ty _, t, kB true (by decide +kernel), _, rfl, iteT ?_⟩⟩⟩
      refine ⟨_, rfl, _, _, _, _, _, rfl, .ty _, t, kB true (by decide +kernel), _, rfl, iteT ⟨_, rfl, _, _, _, _, _, rfl, .ty _, t, kB false (by decide +kernel), _, rfl, _, rfl, iteT ⟨_, rfl, _, rfl, rfl, ?_⟩⟩⟩
      rw [decide_eq_true rfl]
      exact q
    | str z =>
      cases hx; cases hy
      have t : TyX K H (.str z) (.type "str") := .base (.str z)
      refine ⟨_, rfl, _, _, _, _, _, rfl, .ty _, t, kB false (by decide +kernel), _, rfl, iteF ⟨_, rfl, _, _, _, _, _, rfl, .ty _, t, kB false (by decide +kernel), _, rfl, iteF ?_⟩⟩
      refine ⟨_, rfl, rfl, _, rfl, iteF ⟨_, rfl, _, _, _, _, _, rfl, .ty _, t, kB false (by decide +kernel), _, rfl, iteF ⟨_, rfl, _, _, _, _, _, rfl, .ty _, t, kB false (by decide +kernel), _, rfl, iteF ?_⟩⟩⟩
      refine ⟨_, rfl, _, _, _, _, _, rfl, .ty _, t, kB true (by decide +kernel), _, rfl, iteT ⟨_, rfl, _, rfl, rfl, ?_⟩⟩
      rw [decide_eq_true rfl]
      exact q
    | dict kvs => cases hx
    | list ds =>
      cases hx with
      | @lst a xs _ h1 h2 =>
      cases hy with
      | @lst b ys _ h3 h4 =>
      have t1 := ty_list h1
      have t2 := ty_list h3
      have e1 := dpAll_len h2
      have e2 := dpAll_len h4
      have hd' : PyData.depthAll ds < n := by
        rw [PyData.depth] at hd
        omega
      rw [sml] at hm
      have hz : (ys.length : Int) < 2 ^ 62 := by
        have := hm.1
        omega
      refine ⟨_, rfl, _, _, _, _, _, rfl, .ty _, t2, kB false (by decide +kernel), _, rfl, iteF ⟨_, rfl, _, _, _, _, _, rfl, .ty _, t2, kB true (by decide +kernel), _, rfl, iteT ?_⟩⟩
      refine ⟨_, rfl, _, _, _, _, _, rfl, .ty _, t2, kB false (by decide +kernel), _, rfl, _, _, _, _, _, rfl, .ty _, t1, kB false (by decide +kernel), rfl, _, rfl, iteF ?_⟩
      refine ⟨_, rfl, _, _, _, _, _, rfl, .ty _, t2, kB true (by decide +kernel), _, rfl, _, _, _, _, _, rfl, .ty _, t1, kB true (by decide +kernel), rfl, _, rfl, iteF ?_⟩
      refine ⟨_, rfl, a, xs, rfl, .inl h1, _, rfl, b, ys, rfl, .inl h3, rfl, _, rfl, iteNS (by rw [e1, e2]) ?_⟩
      refine ⟨_, rfl, b, ys, rfl, .inl h3, _, rfl, (by omega), hz, for_range (n := (ys.length : Int).toNat) (fun i σ H2 => ∃ v : Option V, σ = [some (.ref a), some (.ref b), v] ∧ H2 = H) ⟨none, rfl, rfl⟩ ?_ ?_⟩
      · rintro i σ H2 hi ⟨v, rfl, rfl⟩
        have hi' : i < ds.length := by omega
        have g := List.getElem?_eq_getElem hi'
        generalize ds[i] = d at g
        obtain ⟨v1, g1, p1⟩ := dpAll_get h2 g
        obtain ⟨v2, g2, p2⟩ := dpAll_get h4 g
        have ei : (0 : Int) + (i : Nat) = ((i : Nat) : Int) := by omega
        have a1 : atI xs (0 + (i : Int)) = some v1 := by rw [ei]; exact atI_nat g1
        have a2 : atI ys (0 + (i : Int)) = some v2 := by rw [ei]; exact atI_nat g2
        refine ⟨_, rfl, _, rfl, .inl ⟨a, xs, _, v1, rfl, rfl, h1, a1, _, rfl, _, rfl, .inl ⟨b, ys, _, v2, rfl, rfl, h3, a2, v1, v2, d, rfl, p1, p2, Nat.lt_of_le_of_lt (depth_mem g) hd', sml_mem hm.2 g, ?_⟩⟩⟩
        exact ⟨_, rfl, iteF ⟨_, rfl, rfl⟩⟩
      · rintro σ H2 ⟨v, rfl, rfl⟩
        exact q
    | tuple ds =>
      cases hx with
      | @tup a xs _ h1 h2 =>
      cases hy with
      | @tup b ys _ h3 h4 =>
      have t1 := ty_tup h1
      have t2 := ty_tup h3
      have e1 := dpAll_len h2
      have e2 := dpAll_len h4
      have hd' : PyData.depthAll ds < n := by
        rw [PyData.depth] at hd
        omega
      rw [sml] at hm
      have hz : (ys.length : Int) < 2 ^ 62 := by
        have := hm.1
        omega
      refine ⟨_, rfl, _, _, _, _, _, rfl, .ty _, t2, kB true (by decide +kernel), _, rfl, iteT (iteT ?_)⟩
      refine ⟨_, rfl, _, _, _, _, _, rfl, .ty _, t2, kB true (by decide +kernel), _, rfl, _, _, _, _, _, rfl, .ty _, t1, kB true (by decide +kernel), rfl, _, rfl, iteF ?_⟩
      refine ⟨_, rfl, _, _, _, _, _, rfl, .ty _, t2, kB false (by decide +kernel), _, rfl, _, _, _, _, _, rfl, .ty _, t1, kB false (by decide +kernel), rfl, _, rfl, iteF ?_⟩
      refine ⟨_, rfl, a, xs, rfl, .inr h1, _, rfl, b, ys, rfl, .inr h3, rfl, _, rfl, iteNS (by rw [e1, e2]) ?_⟩
      refine ⟨_, rfl, b, ys, rfl, .inr h3, _, rfl, (by omega), hz, for_range (n := (ys.length : Int).toNat) (fun i σ H2 => ∃ v : Option V, σ = [some (.ref a), some (.ref b), v] ∧ H2 = H) ⟨none, rfl, rfl⟩ ?_ ?_⟩
      · rintro i σ H2 hi ⟨v, rfl, rfl⟩
        have hi' : i < ds.length := by omega
        have g := List.getElem?_eq_getElem hi'
        generalize ds[i] = d at g
        obtain ⟨v1, g1, p1⟩ := dpAll_get h2 g
        obtain ⟨v2, g2, p2⟩ := dpAll_get h4 g
        have ei : (0 : Int) + (i : Nat) = ((i : Nat) : Int) := by omega
        have a1 : atI xs (0 + (i : Int)) = some v1 := by rw [ei]; exact atI_nat g1
        have a2 : atI ys (0 + (i : Int)) = some v2 := by rw [ei]; exact atI_nat g2
        refine ⟨_, rfl, _, rfl, .inr (.inl ⟨a, xs, _, v1, rfl, rfl, h1, a1, _, rfl, _, rfl, .inr (.inl ⟨b, ys, _, v2, rfl, rfl, h3, a2, v1, v2, d, rfl, p1, p2, Nat.lt_of_le_of_lt (depth_mem g) hd', sml_mem hm.2 g, ?_⟩)⟩)⟩
        exact ⟨_, rfl, iteF ⟨_, rfl, rfl⟩⟩
      · rintro σ H2 ⟨v, rfl, rfl⟩
        exact q

/-! ### drawn formulas -/
def spFormula (K : PySem.W.Frag) (n : Nat) : Sp := fun vs H Q _ => ∃ (q : Addr) (dep : Int) (pl : Bool) (ns : List Int), vs = [.ref q, .int dep, .bl pl] ∧ H q = some (.lst (ns.map V.int)) ∧ 0 ≤ dep ∧ dep < n ∧
  ∀ (v : V) (f : Fm) (H' : Hp) (ms : List Int), Kp q H H' → H' q = some (.lst (ms.map V.int)) → Im K H' v f.d → f.ht ≤ dep.toNat + 1 → f.over nms = true → (pl = true → f.plain = true) → Q v H'
theorem ok_law_formula (T : Top K mg) : ∀ n : Nat, FnOk P w K mg base CX0 n T.f_law_formula T.d_law_formula ["pool", "depth", "plain"] (spFormula K n) := by
  intro n
  induction n with
  | zero =>
    refine fn_none fun vs H Q E h => ?_
    obtain ⟨q, dep, pl, ns, _, _, h0, h1, _⟩ := h
    exact absurd h1 (by omega)
  | succ n G_law_formula =>
    refine T.F_law_formula.ok sc_law_formula (fun vs H Q E h => ?_) (fun cdv A outer s H vs Q E hr h => ?_)
    · obtain ⟨q, dep, pl, ns, rfl, _⟩ := h
      rfl
    obtain ⟨q, dep, pl, ns, rfl, hq, h0, h1, k⟩ := h
    have hu64 := hr.units
    refine ⟨_, (pss_cons (ps_set (i := 3) sc_law_formula.nd rfl (.inl rfl) pe_int)
    (C8.pss_cut (ps_if (pt_cmpR (op_neD hu64) (pv 0) (pe_lst pa_nil) (nomark _))
      (pss_one (ps_set (i := 3) sc_law_formula.nd rfl (.inl rfl) (pe_callTy call_int1 (by rfl) T.z_int (by decide +kernel) (pa_cons (pe_bm PySem.F.plainAttrs_list PySem.F.slot_list_pop PySem.F.type_list_pop mt_popAt (pv 0) (pa_cons pe_int pa_nil)) pa_nil))))
      pss_nil)
    (pss_cons (ps_set (i := 4) sc_law_formula.nd rfl (.inl rfl) (pe_op op_mod (pv 3) pe_int))
    (pss_cons (ps_if (PW.pt (pw_or (pt_cmpR op_eq (pv 1) pe_int (nomark _)) (pw_or1 (pt_cmpR op_lt (pv 4) pe_int (nomark _)))))
      (pss_cons (ps_if (pt_cmpR op_eq (pe_op op_mod (pe_op op_fdiv (pv 3) pe_int) pe_int) pe_int (nomark _))
      (pss_one (ps_ret (pe_tup (pa_cons pe_str pa_nil))))
      pss_nil)
    (pss_one (ps_ret (pe_tup (pa_cons pe_str (pa_cons (pe_ix ix_list (pe_lst (pa_cons pe_str (pa_cons pe_str (pa_cons pe_str (pa_cons pe_str (pa_cons pe_str pa_nil)))))) (pe_op op_mod (pe_op op_fdiv (pv 3) pe_int) pe_int) (fun _ _ => rfl)) pa_nil))))))
      pss_nil)
    (pss_cons (ps_if (PW.pt (pw_or (pt_cmpR op_eq (pv 4) pe_int (nomark _)) (pw_or1 (PW.pt (pw_and (pt_cmpR op_in_seq (pv 4) (pe_tup (pa_cons pe_int (pa_cons pe_int pa_nil))) rfl) (pw_and1 (pt_val (pv 2))))))))
      (pss_one (ps_ret (pe_tup (pa_cons pe_str (pa_cons (pe_call G_law_formula (hr.mono (by omega)) (by rfl) T.m_law_formula T.F_law_formula.kp T.b_law_formula .nil pass0 (pa_cons (pv 0) (pa_cons (pe_op op_sub (pv 1) pe_int) (pa_cons (pv 2) pa_nil)))) (pa_cons (pe_tup (pa_cons pe_str pa_nil)) pa_nil))))))
      pss_nil)
    (pss_cons (ps_if (pt_cmpR op_in_seq (pv 4) (pe_tup (pa_cons pe_int (pa_cons pe_int pa_nil))) rfl)
      (pss_one (ps_ret (pe_tup (pa_cons pe_str (pa_cons (pe_call G_law_formula (hr.mono (by omega)) (by rfl) T.m_law_formula T.F_law_formula.kp T.b_law_formula .nil pass0 (pa_cons (pv 0) (pa_cons (pe_op op_sub (pv 1) pe_int) (pa_cons (pv 2) pa_nil)))) pa_nil)))))
      pss_nil)
    (pss_cons (ps_set (i := 5) sc_law_formula.nd rfl (.inl rfl) (pe_call G_law_formula (hr.mono (by omega)) (by rfl) T.m_law_formula T.F_law_formula.kp T.b_law_formula .nil pass0 (pa_cons (pv 0) (pa_cons (pe_op op_sub (pv 1) pe_int) (pa_cons (pv 2) pa_nil)))))
    (pss_one (ps_ret (pe_tup (pa_cons (pe_ix ix_list (pe_lst (pa_cons pe_str (pa_cons pe_str (pa_cons pe_str (pa_cons pe_str (pa_cons pe_str pa_nil)))))) (pe_op op_sub (pv 4) pe_int) (fun _ _ => rfl)) (pa_cons (pv 5) (pa_cons (pe_call G_law_formula (hr.mono (by omega)) (by rfl) T.m_law_formula T.F_law_formula.kp T.b_law_formula .nil pass0 (pa_cons (pv 0) (pa_cons (pe_op op_sub (pv 1) pe_int) (pa_cons (pv 2) pa_nil)))) pa_nil))))))))))))), ?_⟩
    refine ⟨fun σ H1 => ∃ (z : Int) (ms : List Int), σ = [some (.ref q), some (.int dep), some (.bl pl), some (.int z), none, none] ∧ H1 q = some (.lst (ms.map V.int)) ∧ Kp q H H1, ?_, ?_⟩
    · refine ⟨_, rfl, (by show 0 ≤ sizeLine; decide), fun e ne => ?_⟩
      have s1 := same_new (o := .lst []) ne
      refine ⟨_, _, .lst (SqL.of (s1 _ _ hq)) (dp_ints ns), .lst (SqL.of upd_same) .nil, shaped_ints ns, rfl, _, rfl, ?_⟩
      rw [eqv_nil]
      cases ns with
      | nil => exact ⟨0, [], rfl, s1 _ _ hq, Same.kp s1⟩
      | cons z ns =>
        refine iteT ⟨_, rfl, .inl ⟨rfl, _, .inl (.inl (s1 _ _ hq))⟩, q, _, 0, 0, .int z, rfl, rfl, s1 _ _ hq, by decide, by decide, seqIndex_of (by decide) (by rw [List.map_cons, List.length_cons]; omega), rfl, .inl ⟨_, rfl, ?_⟩⟩
        exact ⟨z, ns, rfl, upd_same, Kp.trans (Same.kp s1) Kp.upd⟩
    · rintro σ H1 ⟨z, ms, rfl, hq1, k1⟩
      refine ⟨_, rfl, _, _, rfl, rfl, (by show (0 : Int) < 10; decide), ?_⟩
      have kd0 : 0 ≤ z % 10 := Int.emod_nonneg _ (by decide)
      have kd1 : z % 10 < 10 := Int.emod_lt_of_pos _ (by decide)
      dsimp only [gName, tSeq, tIfS, List.set]
      refine ans_or2 (b1 := decide (V.int dep = V.int 0)) (b2 := decide (z % 10 < 2)) (fun Q q => ⟨_, rfl, rfl, _, rfl, q⟩) (fun Q q => ⟨_, rfl, _, _, rfl, rfl, _, rfl, q⟩) _ ?_
      refine ite2 (fun c1 => ?_) (fun c1 => ?_)
      -- a leaf
      · refine ⟨_, rfl, _, _, rfl, rfl, ⟨by decide, by decide⟩, _, _, rfl, rfl, (by show (0 : Int) < 8; decide), rfl, _, rfl, ite2 (fun _ => ?_) (fun _ => ?_)⟩
        · refine ⟨(by show 1 ≤ sizeLine; decide), fun p np => ?_⟩
          have s2 := same_new (o := .tup [.str "falsum"]) np
          exact k _ .fal _ ms (k1.trans (Same.kp s2)) (s2 _ _ hq1) (im_fal upd_same) (Nat.le_add_left _ _) rfl fun _ => rfl
        · refine ⟨(by show 5 ≤ sizeLine; decide), fun a na => ?_⟩
          have s2 := same_new (o := .lst [.str "p", .str "q", .str "p", .str "q", .str "r"]) na
          obtain ⟨v, hv, hm⟩ := atI_mem (xs := [V.str "p", V.str "q", V.str "p", V.str "q", V.str "r"]) (i := z / 80 % 5) (Int.emod_nonneg _ (by decide)) (Int.emod_lt_of_pos _ (by decide))
          obtain ⟨y, rfl, hy⟩ : ∃ y : Str, v = .str y ∧ y ∈ nms := by
            simp only [List.mem_cons, List.not_mem_nil, or_false] at hm
            rcases hm with rfl | rfl | rfl | rfl | rfl
            all_goals exact ⟨_, rfl, by decide⟩
          refine ⟨_, rfl, _, _, rfl, rfl, ⟨by decide, by decide⟩, _, _, rfl, rfl, (by show (0 : Int) < 5; decide), a, _, _, _, rfl, rfl, SqL.of upd_same, hv, (by show 2 ≤ sizeLine; decide), fun p np => ?_⟩
          have s3 := s2.trans (same_new (o := .tup [.str "var", .str y]) np)
          exact k _ (.var y) _ ms (k1.trans (Same.kp s3)) (s3 _ _ hq1) (im_var upd_same) (Nat.le_add_left _ _) (decide_eq_true hy) fun _ => rfl
      · rw [Bool.or_eq_true, not_or] at c1
        have d0 : dep ≠ 0 := vintF c1.1
        have hk2 : 2 ≤ z % 10 := by
          have := of_decide_eq_false (Bool.eq_false_iff.mpr c1.2)
          omega
        have hd' : (dep - 1).toNat + 1 ≤ dep.toNat := by omega
        have negc : ∀ H2, Kp q H H2 → H2 q = some (.lst (ms.map V.int)) → True := fun _ _ _ => trivial
        by_cases e2 : z % 10 = 2
        -- a negation
        · refine ⟨_, rfl, rfl, _, rfl, iteD (congrArg V.int e2) (iteT ?_)⟩
          refine ⟨_, rfl, _, rfl, _, _, rfl, rfl, _, rfl, q, dep - 1, pl, ms, rfl, hq1, by omega, by omega, fun v f H3 ms3 k3 hq3 im3 hf3 ov3 pl3 => ?_⟩
          refine ⟨(by show 1 ≤ sizeLine; decide), fun a na => ⟨(by show 3 ≤ sizeLine; decide), fun p np => ?_⟩⟩
          have s4 := same_new (o := .tup [.str "falsum"]) na
          have s5 := same_new (o := .tup [.str "implies", v, .ref a]) np
          exact k _ (.imp f .fal) _ ms3 ((k1.trans k3).trans (Same.kp (s4.trans s5))) (s5 _ _ (s4 _ _ hq3)) (im_imp upd_same (im3.mono (Same.ts (s4.trans s5))) (im_fal (s5 _ _ upd_same)))
            (by show max f.ht 1 + 1 ≤ _; omega) (by show (f.over nms && true) = true; rw [ov3]; rfl) (fun e => by show (f.plain && true) = true; rw [pl3 e]; rfl)
        · refine ⟨_, rfl, rfl, _, rfl, iteDF (vne e2) ?_⟩
          by_cases e34 : z % 10 = 3 ∨ z % 10 = 4
          · refine ⟨_, rfl, (by show 2 ≤ sizeLine; decide), fun t nt => ⟨t, _, rfl, .inr (SqT.of upd_same), rfl, rfl, true, in34y e34, iteT ⟨_, rfl, _, rfl, ?_⟩⟩⟩
            have s2 := same_new (o := .tup [.int 3, .int 4]) nt
            cases pl with
            -- a negation in place of a box
            | true =>
              refine iteT ?_
              refine ⟨_, rfl, _, rfl, _, _, rfl, rfl, _, rfl, q, dep - 1, true, ms, rfl, s2 _ _ hq1, by omega, by omega, fun v f H3 ms3 k3 hq3 im3 hf3 ov3 pl3 => ?_⟩
              refine ⟨(by show 1 ≤ sizeLine; decide), fun a na => ⟨(by show 3 ≤ sizeLine; decide), fun p np => ?_⟩⟩
              have s4 := same_new (o := .tup [.str "falsum"]) na
              have s5 := same_new (o := .tup [.str "implies", v, .ref a]) np
              exact k _ (.imp f .fal) _ ms3 (((k1.trans (Same.kp s2)).trans k3).trans (Same.kp (s4.trans s5))) (s5 _ _ (s4 _ _ hq3)) (im_imp upd_same (im3.mono (Same.ts (s4.trans s5))) (im_fal (s5 _ _ upd_same)))
                (by show max f.ht 1 + 1 ≤ _; omega) (by show (f.over nms && true) = true; rw [ov3]; rfl) (fun e => by show (f.plain && true) = true; rw [pl3 e]; rfl)
            -- a box
            | false =>
              refine iteF ?_
              refine ⟨_, rfl, (by show 2 ≤ sizeLine; decide), fun t2 nt2 => ⟨t2, _, rfl, .inr (SqT.of upd_same), rfl, rfl, true, in34y e34, iteT ?_⟩⟩
              have s3 := s2.trans (same_new (o := .tup [.int 3, .int 4]) nt2)
              refine ⟨_, rfl, _, rfl, _, _, rfl, rfl, _, rfl, q, dep - 1, false, ms, rfl, s3 _ _ hq1, by omega, by omega, fun v f H3 ms3 k3 hq3 im3 hf3 ov3 pl3 => ?_⟩
              refine ⟨(by show 2 ≤ sizeLine; decide), fun p np => ?_⟩
              have s5 := same_new (o := .tup [.str "box", v]) np
              exact k _ (.box f) _ ms3 (((k1.trans (Same.kp s3)).trans k3).trans (Same.kp s5)) (s5 _ _ hq3) (im_box upd_same (im3.mono (Same.ts s5)))
                (by show f.ht + 1 ≤ _; omega) ov3 (fun e => nomatch e)
          -- two parts
          · refine ⟨_, rfl, (by show 2 ≤ sizeLine; decide), fun t nt => ⟨t, _, rfl, .inr (SqT.of upd_same), rfl, rfl, false, in34n e34, iteF (iteF ?_)⟩⟩
            have s2 := same_new (o := .tup [.int 3, .int 4]) nt
            refine ⟨_, rfl, (by show 2 ≤ sizeLine; decide), fun t2 nt2 => ⟨t2, _, rfl, .inr (SqT.of upd_same), rfl, rfl, false, in34n e34, iteF ?_⟩⟩
            have s3 := s2.trans (same_new (o := .tup [.int 3, .int 4]) nt2)
            refine ⟨_, rfl, _, rfl, _, _, rfl, rfl, _, rfl, q, dep - 1, pl, ms, rfl, s3 _ _ hq1, by omega, by omega, fun v f H3 ms3 k3 hq3 im3 hf3 ov3 pl3 => ?_⟩
            refine ⟨(by show 5 ≤ sizeLine; decide), fun a na => ?_⟩
            have s4 := same_new (o := .lst [.str "and", .str "or", .str "implies", .str "implies", .str "or"]) na
            obtain ⟨op, hv, hm⟩ := atI_mem (xs := [V.str "and", V.str "or", V.str "implies", V.str "implies", V.str "or"]) (i := z % 10 - 5) (by omega) (by show z % 10 - 5 < 5; omega)
            refine ⟨_, rfl, _, _, rfl, rfl, a, _, _, op, rfl, rfl, SqL.of upd_same, hv, _, rfl, ?_⟩
            refine ⟨_, rfl, _, rfl, _, _, rfl, rfl, _, rfl, q, dep - 1, pl, ms3, rfl, s4 _ _ hq3, by omega, by omega, fun u g H5 ms5 k5 hq5 im5 hf5 ov5 pl5 => ?_⟩
            refine ⟨(by show 3 ≤ sizeLine; decide), fun p np => ?_⟩
            have s6 := same_new (o := .tup [op, v, u]) np
            have kk := ((((k1.trans (Same.kp s3)).trans k3).trans (Same.kp s4)).trans k5).trans (Same.kp s6)
            have im3' := ((im3.mono (Same.ts s4)).mono (k5.ts (s4 _ _ hq3))).mono (Same.ts s6)
            have im5' := im5.mono (Same.ts s6)
            have hh : max f.ht g.ht + 1 ≤ dep.toNat + 1 := by omega
            have ho : (f.over nms && g.over nms) = true := by rw [ov3, ov5]; rfl
            have hp : pl = true → (f.plain && g.plain) = true := fun e => by rw [pl3 e, pl5 e]; rfl
            simp only [List.mem_cons, List.not_mem_nil, or_false] at hm
            rcases hm with rfl | rfl | rfl | rfl | rfl
            · exact k _ (.and f g) _ ms5 kk (s6 _ _ hq5) (im_and upd_same im3' im5') hh ho hp
            · exact k _ (.or f g) _ ms5 kk (s6 _ _ hq5) (im_or upd_same im3' im5') hh ho hp
            · exact k _ (.imp f g) _ ms5 kk (s6 _ _ hq5) (im_imp upd_same im3' im5') hh ho hp
            · exact k _ (.imp f g) _ ms5 kk (s6 _ _ hq5) (im_imp upd_same im3' im5') hh ho hp
            · exact k _ (.or f g) _ ms5 kk (s6 _ _ hq5) (im_or upd_same im3' im5') hh ho hp
def spList (K : PySem.W.Frag) : Sp := fun vs H Q _ => ∃ (p l : Addr) (m : Int), vs = [.ref p, .int m] ∧ Pl K H p l ∧ 0 ≤ m ∧ m ≤ 1000 ∧
  ∀ (q : Addr) (ns : List Int) (H' : Hp), H q = none → Kp p H H' → Pl K H' p l → H' q = some (.lst (ns.map V.int)) → (ns.length : Int) = m → Q (.ref q) H'
theorem ok_law_list (T : Top K mg) : FnOk P w K mg base CX0 3 T.f_law_list T.d_law_list ["pool", "many"] (spList K) := by
  have G_law_draw : FnOk P w K mg base CX0 2 T.f_law_draw T.d_law_draw ["pool", "many"] (spDraw K) := ok_law_draw T
  refine T.F_law_list.ok sc_law_list (fun vs H Q E h => ?_) (fun cdv A outer s H vs Q E hr h => ?_)
  · obtain ⟨p, l, m, rfl, _⟩ := h
    rfl
  obtain ⟨p, l, m, rfl, hP, m0, m1, k⟩ := h
  refine ⟨_, (pss_one (ps_ret (pe_lc (own := [("k", 2)]) (g := gName 2) (tt := tYes) rfl sc_law_list.nd (pi_range1 (by rfl) T.z_range (pa_cons (pv 1) pa_nil)) (blkOk_by (N := ["pool", "many", "k"]) (sc := defScope s_law_list) (by decide +kernel)) (fun _ _ _ _ _ => pg_name (i := 2) sc_law_list.nd rfl (Or.inl rfl)) (fun _ _ _ _ _ => pts_nil) (fun _ _ _ _ _ => (pe_call G_law_draw (hr.mono (by omega)) (by rfl) T.m_law_draw T.F_law_draw.kp T.b_law_draw .nil pass0 (pa_cons (pv 0) (pa_cons pe_int pa_nil))))))), ?_⟩
  refine ⟨_, rfl, m, rfl, by omega, by omega, fun D nD => ?_⟩
  obtain ⟨xs0, hp0⟩ := hP.lst
  have nDp : D ≠ p := (ne_of_none hp0 nD).symm
  refine lc_range (n := m.toNat) (fun i H2 => ∃ ns : List Int, Kp p H H2 ∧ Pl K H2 p l ∧ H2 D = some (.lst (ns.map V.int)) ∧ ns.length = i) ⟨[], Same.kp (same_new nD), hP.same (same_new nD), upd_same, rfl⟩ ?_ ?_
  · rintro i H2 hi ⟨ns, k2, hP2, hD2, hl⟩
    refine ⟨rfl, _, rfl, p, l, 4096, rfl, hP2, by decide, by decide, fun r H3 r0 r1 k3 hP3 => ?_⟩
    have hD3 := k3 _ _ hD2 nDp
    refine ⟨_, hD3, (by rw [List.length_map]; exact small1000 (by omega)), ns ++ [r], (k2.trans k3).under nD Kp.upd, hP.other nD hP3 Kp.upd, ?_, by rw [List.length_append, hl]; rfl⟩
    rw [upd_same, List.map_append]
    rfl
  · rintro H2 ⟨ns, k2, hP2, hD2, hl⟩
    exact k D ns H2 nD k2 hP2 hD2 (by omega)
/-- a formula that the pool gives -/
def spSome (K : PySem.W.Frag) (n : Nat) : Sp := fun vs H Q _ => ∃ (p l : Addr) (dep : Int) (pl : Bool), vs = [.ref p, .int dep, .bl pl] ∧ Pl K H p l ∧ 0 ≤ dep ∧ dep < n ∧
  ∀ (v : V) (f : Fm) (H' : Hp), Kp p H H' → Pl K H' p l → Im K H' v f.d → f.ht ≤ dep.toNat + 1 → f.over nms = true → (pl = true → f.plain = true) → Q v H'
theorem ok_law_some (T : Top K mg) (n : Nat) (hn : 3 ≤ n) : FnOk P w K mg base CX0 (n + 1) T.f_law_some T.d_law_some ["pool", "depth", "plain"] (spSome K n) := by
  have G_law_list : FnOk P w K mg base CX0 3 T.f_law_list T.d_law_list ["pool", "many"] (spList K) := ok_law_list T
  have G_law_formula : FnOk P w K mg base CX0 n T.f_law_formula T.d_law_formula ["pool", "depth", "plain"] (spFormula K n) := ok_law_formula T n
  refine T.F_law_some.ok sc_law_some (fun vs H Q E h => ?_) (fun cdv A outer s H vs Q E hr h => ?_)
  · obtain ⟨p, l, dep, pl, rfl, _⟩ := h
    rfl
  obtain ⟨p, l, dep, pl, rfl, hP, d0, d1, k⟩ := h
  refine ⟨_, (pss_one (ps_ret (pe_call G_law_formula (hr.mono (by omega)) (by rfl) T.m_law_formula T.F_law_formula.kp T.b_law_formula .nil pass0 (pa_cons (pe_call G_law_list (hr.mono (by omega)) (by rfl) T.m_law_list T.F_law_list.kp T.b_law_list .nil pass0 (pa_cons (pv 0) (pa_cons pe_int pa_nil))) (pa_cons (pv 1) (pa_cons (pv 2) pa_nil)))))), ?_⟩
  refine ⟨_, rfl, p, l, 40, rfl, hP, by decide, by decide, fun q ns H2 nq k2 hP2 hq2 hl => ?_⟩
  refine ⟨_, rfl, _, rfl, q, dep, pl, ns, rfl, hq2, d0, d1, fun v f H3 ms k3 hq3 im hf ov pn => ?_⟩
  exact k v f H3 (k2.under nq k3) (hP.other nq hP2 k3) im hf ov pn

/-- us are the values of bs, one by one -/
def Rs (R : Hp → V → Fm → Prop) (H : Hp) (us : List V) (bs : List Fm) : Prop := us.length = bs.length ∧ ∀ (i : Nat) (v : V) (b : Fm), us[i]? = some v → bs[i]? = some b → R H v b
theorem Rs.mono {R : Hp → V → Fm → Prop} (m : ∀ H H' v b, TZ H H' → R H v b → R H' v b) {H H' : Hp} {us : List V} {bs : List Fm} (h : Rs R H us bs) (t : TZ H H') : Rs R H' us bs := ⟨h.1, fun i v b h1 h2 => m _ _ _ _ t (h.2 i v b h1 h2)⟩
theorem Rs.snoc {R : Hp → V → Fm → Prop} {H : Hp} {us : List V} {bs : List Fm} {v : V} {b : Fm} (h : Rs R H us bs) (r : R H v b) : Rs R H (us ++ [v]) (bs ++ [b]) := by
  refine ⟨by rw [List.length_append, List.length_append, h.1]; rfl, fun i x c h1 h2 => ?_⟩
  by_cases hi : i < us.length
  · rw [List.getElem?_append_left hi] at h1
    rw [List.getElem?_append_left (by rw [← h.1]; exact hi)] at h2
    exact h.2 i x c h1 h2
  · rw [List.getElem?_append_right (by omega)] at h1
    rw [List.getElem?_append_right (by rw [← h.1]; omega)] at h2
    rw [← h.1] at h2
    have e : i - us.length = 0 := by
      have := (List.getElem?_eq_some_iff.mp h1).1
      simp at this
      omega
    rw [e] at h1 h2
    cases h1
    cases h2
    exact r
theorem im_var_at {K : PySem.W.Frag} {H : Hp} {a : Addr} {n : Str} (h : Im K H (.ref a) (Fm.var n).d) : H a = some (.tup [.str "var", .str n]) := by
  cases h with
  | tup h1 h2 tr =>
    have t := tr n rfl
    cases h2 with
    | cons h3 h4 =>
      cases h3
      cases h4 with
      | cons h5 h6 =>
        cases h5
        cases h6
        exact t
theorem sum_one : ∀ (ls : List (List Fm)) (l : List Fm), l ∈ ls → l.length ≤ (ls.map List.length).sum
  | x :: ls, l, h => by
    rw [List.map_cons, List.sum_cons]
    rcases List.mem_cons.mp h with e | h
    · rw [e]
      omega
    · have := sum_one ls l h
      omega
theorem sql_keep {K : PySem.W.Frag} {H H' : Hp} {B vl dn : Addr} {ys : List V} (h : SqL K H B ys) (hy : ys ≠ []) (hv : H vl = some (.lst [])) (hd : ∃ kvs, H dn = some (.dT kvs)) (k : ∀ b o, H b = some o → b ≠ dn → b ≠ vl → H' b = some o) : SqL K H' B ys := by
  obtain ⟨kvs, hd⟩ := hd
  rcases h with h | h
  · have n1 : B ≠ dn := fun e => by
      subst e
      rcases h with r | ⟨o, r⟩
      · rw [hd] at r; cases r
      · rw [hd] at r; cases r
    have n2 : B ≠ vl := fun e => by
      subst e
      rcases h with r | ⟨o, r⟩
      · rw [hv] at r
        cases r
        exact hy rfl
      · rw [hv] at r; cases r
    rcases h with r | ⟨o, r⟩
    · exact .inl (.inl (k _ _ r n1 n2))
    · exact .inl (.inr ⟨o, k _ _ r n1 n2⟩)
  · exact .inr h
theorem sql_ne {K : PySem.W.Frag} {H H' : Hp} {B vl dn : Addr} {ys : List V} (h : SqL K H B ys) (hn : B ≠ vl) (hd : ∃ kvs, H dn = some (.dT kvs)) (k : ∀ b o, H b = some o → b ≠ dn → b ≠ vl → H' b = some o) : SqL K H' B ys := by
  obtain ⟨kvs, hd⟩ := hd
  rcases h with h | h
  · have n1 : B ≠ dn := fun e => by
      subst e
      rcases h with r | ⟨o, r⟩
      · rw [hd] at r; cases r
      · rw [hd] at r; cases r
    rcases h with r | ⟨o, r⟩
    · exact .inl (.inl (k _ _ r n1 hn))
    · exact .inl (.inr ⟨o, k _ _ r n1 hn⟩)
  · exact .inr h
theorem tz_two {H H' : Hp} {dn vl : Addr} {kvs : List (List Key × V)} {us : List V} (hd : H dn = some (.dT kvs)) (hv : H vl = some (.lst us)) (k : ∀ b o, H b = some o → b ≠ dn → b ≠ vl → H' b = some o) : TZ H H' := by
  have n : ∀ b o, H b = some o → (∀ kvs, o ≠ .dT kvs) → (∀ us, o ≠ .lst us) → H' b = some o := fun b o e n1 n2 => k _ _ e (fun z => by rw [z, hd] at e; exact n1 _ (Option.some.inj e).symm) (fun z => by rw [z, hv] at e; exact n2 _ (Option.some.inj e).symm)
  refine ⟨⟨fun b xs r => ?_, fun b xs r => n _ _ r (fun _ z => nomatch z) (fun _ z => nomatch z)⟩, fun b o u r => n _ _ r (fun _ z => nomatch z) (fun _ z => nomatch z)⟩
  rcases r with r | ⟨o, r⟩
  · exact .inl (n _ _ r (fun _ z => nomatch z) (fun _ z => nomatch z))
  · exact .inr ⟨o, n _ _ r (fun _ z => nomatch z) (fun _ z => nomatch z)⟩
/-- what folded asks of its two arguments: a formula, and what tells the value of a formula from those of its parts -/
def spFolded (P : Program) (w : World) (K : PySem.W.Frag) (mg : Str → Option Value) (base : Heap) : Sp := fun vs H Q _ => ∃ (x : V) (g : Addr) (f : Fm) (sp : Sp) (R : Hp → V → Fm → Prop) (n : Nat), vs = [x, .ref g] ∧ Im K H x f.d ∧ (∀ b ∈ f.subs, Ok1 b) ∧ f.ht ≤ n ∧ f.sz ≤ 100000 ∧ CalC P w K mg base 4 g sp H ∧
  (∀ H H' v b, TZ H H' → R H v b → R H' v b) ∧
  (∀ (b : Fm) (H1 : Hp) (y : V) (l : Addr) (us : List V) (Q1 : VK), b ∈ f.subs → L2.Same H H1 → Im K H1 y b.d → H1 l = some (.lst us) → Rs R H1 us b.kids → (∀ v H2, Same H1 H2 → R H2 v b → Q1 v H2) → sp [y, .ref l] H1 Q1 (fun _ _ _ => False)) ∧
  ∀ v H', Same H H' → R H' v f → Q v H'
/-- what stands while the table grows: the formulas numbered so far, their values, the table -/
structure FoldAt (K : PySem.W.Frag) (R : Hp → V → Fm → Prop) (H : Hp) (dn vl : Addr) (f : Fm) (gs : List Fm) : Prop where
  tab : H dn = some (.dT (tabF gs))
  vals : ∃ us, H vl = some (.lst us) ∧ Rs R H us gs
  nd : gs.Nodup
  cl : ∀ g ∈ gs, ∀ c ∈ g.kids, c ∈ gs
  sub : ∀ g ∈ gs, g ∈ f.subs
theorem ok_folded (T : Top K mg) : FnOk P w K mg base CX0 5 T.f_folded T.d_folded ["a", "value_of"] (spFolded P w K mg base) := by
  have G_levels_of : FnOk P w K mg base CX0 3 T.f_levels_of T.d_levels_of ["a"] (spLevels K) := ok_levels_of T
  have G_parts_of : FnOk P w K mg base CX0 1 T.f_parts_of T.d_parts_of ["a"] (spParts K) := ok_parts_of T
  have G_place_of : FnOk P w K mg base CX0 1 T.f_place_of T.d_place_of ["rows", "row"] (spPlace K) := ok_place_of T
  refine T.F_folded.ok sc_folded (fun vs H Q E h => ?_) (fun cdv A outer s H vs Q E hr h => ?_)
  · obtain ⟨x, g, f, sp, R, n, rfl, _⟩ := h
    rfl
  obtain ⟨x, g, f, sp, R, n, rfl, hx, hok, hn, hsz, hC, hmono, hval, kQ⟩ := h
  have hu64 := hr.units
  have hu := Nat.lt_of_le_of_lt (Nat.add_le_add_left (by decide : 1 ≤ 64) _) hu64
  refine ⟨_, (pss_cons (ps_set (i := 2) sc_folded.nd rfl (.inl rfl) pe_dnewT)
    (pss_cons (ps_set (i := 3) sc_folded.nd rfl (.inr rfl) (pe_lst pa_nil))
    (pss_cons (ps_set (i := 4) sc_folded.nd rfl (.inr rfl) (pe_lst pa_nil))
    (pss_cons (ps_set (i := 5) sc_folded.nd rfl (.inr rfl) (pe_lst pa_nil))
    (pss_cons (ps_for PassesOwn.never rfl (RT.pi_revA (by rfl) T.z_reversed (pe_call G_levels_of (hr.mono (by omega)) (by rfl) T.m_levels_of T.F_levels_of.kp T.b_levels_of .nil pass0 (pa_cons (pv 0) pa_nil))) (pg_name (i := 6) sc_folded.nd rfl (.inl rfl))
      (pss_cons (ps_set (i := 7) sc_folded.nd rfl (.inl rfl) (pe_lst pa_nil))
    (pss_cons (ps_for PassesOwn.never rfl (pi_list (pv 6)) (pg_name (i := 8) sc_folded.nd rfl (.inl rfl))
      (pss_cons (ps_setLc (own := [("part", 11)]) (g := gName 11) (tt := tYes) (te := (tOp (rIxL K) _ _)) (i := 9) rfl sc_folded.nd rfl rfl (sw_true rfl rfl rfl (by decide +kernel)) (pi_tup (pe_call G_parts_of (hr.mono (by omega)) (by rfl) T.m_parts_of T.F_parts_of.kp T.b_parts_of .nil pass0 (pa_cons (pv 8) pa_nil))) (blkOk_by (N := ["a", "value_of", "numbers", "values", "below", "numbers_below", "level", "numbers_here", "b", "parts", "key", "part", "k"]) (sc := defScope s_folded) (by decide +kernel)) (fun _ _ _ _ _ => pg_name (i := 11) sc_folded.nd rfl (Or.inl rfl)) (fun _ _ _ _ _ => pts_nil) (fun _ _ _ _ _ => (pe_ix ix_list (pv 5) (pe_call G_place_of (hr.mono (by omega)) (by rfl) T.m_place_of T.F_place_of.kp T.b_place_of .nil pass0 (pa_cons (pv 4) (pa_cons (pv 11) pa_nil))) (fun _ _ => rfl))))
    (C8.pss_cut (ps_set (i := 10) sc_folded.nd rfl (.inl rfl) (pe_ifExp (pt_cmpR op_eq (pe_ix ix_tup (pv 8) pe_int (fun _ _ => rfl)) pe_str (nomark _)) (pv 8) (pe_tup (pa_cons (pe_ix ix_tup (pv 8) pe_int (fun _ _ => rfl)) (StX.pa_star (pv 9) pa_nil)))))
    (C8.pss_cut (ps_if (pt_cmp (pc_dnotin hu (pv 10) (pv 2)))
      (pss_cons (ps_dput hu (pv 2) (pv 10) (pe_callB call_len_seq (by rfl) T.z_len PySem.boot_len (pa_cons (pv 3) pa_nil)) rfl)
    (pss_one (ps_expr (pe_bm PySem.F.plainAttrs_list PySem.F.slot_list_append PySem.F.type_list_append mt_append (pv 3) (pa_cons (pe_callZ (i := 1) (k := 4) hr (by omega) rfl (by first | exact .inl rfl | exact .inr (.inl rfl) | exact .inr rfl) (pa_cons (pv 8) (pa_cons (pe_lc (own := [("k", 12)]) (g := gName 12) (tt := tYes) (te := (tOp (rIxL K) _ _)) rfl sc_folded.nd (pi_list (pv 9)) (blkOk_by (N := ["a", "value_of", "numbers", "values", "below", "numbers_below", "level", "numbers_here", "b", "parts", "key", "part", "k"]) (sc := defScope s_folded) (by decide +kernel)) (fun _ _ _ _ _ => pg_name (i := 12) sc_folded.nd rfl (Or.inl rfl)) (fun _ _ _ _ _ => pts_nil) (fun _ _ _ _ _ => (pe_ix ix_list (pv 3) (pv 12) (fun _ _ => rfl)))) pa_nil))) pa_nil)))))
      pss_nil)
    (pss_one (ps_expr (pe_bm PySem.F.plainAttrs_list PySem.F.slot_list_append PySem.F.type_list_append mt_append (pv 7) (pa_cons (pe_dget hu (pv 2) (pv 10) (fun _ _ => rfl)) pa_nil))))))))
    (pss_cons (ps_set (i := 4) sc_folded.nd rfl (.inr rfl) (pv 6))
    (pss_one (ps_set (i := 5) sc_folded.nd rfl (.inr rfl) (pv 7)))))))
    (pss_one (ps_ret (pe_ix ix_list (pv 3) (pe_ix ix_list (pv 5) pe_int (fun _ _ => rfl)) (fun _ _ => rfl))))))))), ?_⟩
  intro dn ndn
  refine ⟨Nat.zero_le _, fun vl nvl => ⟨Nat.zero_le _, fun bl nbl => ⟨Nat.zero_le _, fun nb nnb => ?_⟩⟩⟩
  have t1 := same_new (o := .dT []) ndn
  have t2 := same_new (o := .lst []) nvl
  have t3 := same_new (o := .lst []) nbl
  have t4 := same_new (o := .lst []) nnb
  have t14 := ((t1.trans t2).trans t3).trans t4
  have hdn := t4 _ _ (t3 _ _ (t2 _ _ (@upd_same H dn (.dT []))))
  have hvl := t4 _ _ (t3 _ _ (@upd_same _ vl (.lst [])))
  have hbl := t4 _ _ (@upd_same _ bl (.lst []))
  have ndv : dn ≠ vl := ne_of_none upd_same nvl
  have ndb : dn ≠ bl := ne_of_none (t2 _ _ upd_same) nbl
  have nvb : vl ≠ bl := ne_of_none upd_same nbl
  have ndnb : dn ≠ nb := ne_of_none (t3 _ _ (t2 _ _ upd_same)) nnb
  have nvnb : vl ≠ nb := ne_of_none (t3 _ _ upd_same) nnb
  have hnb := @upd_same (upd (upd (upd H dn (.dT [])) vl (.lst [])) bl (.lst [])) nb (.lst [])
  generalize upd (upd (upd (upd H dn (.dT [])) vl (.lst [])) bl (.lst [])) nb (.lst []) = H4 at t14 hdn hvl hbl hnb
  refine ⟨_, rfl, x, f, n, rfl, hx.mono (Same.ts t14), hok, hn, hsz, fun lv vs H5 nlv s5 hlv hLv => ⟨lv, vs, rfl, .inl ⟨SqL.of hlv, ?_⟩⟩⟩
  have hd5 := s5 _ _ hdn
  have hv5 := s5 _ _ hvl
  have hm := hLv.len
  have hC5 := hC.same (H' := H5) (fun b F e => s5 _ _ (t14 _ _ e)) fun b o u e => s5 _ _ (t14 _ _ e)
  have hx5 := hx.mono (Same.ts (t14.trans s5))
  have nlvd : lv ≠ dn := fun e => by rw [e, hd5] at hlv; cases hlv
  have nlvv : lv ≠ vl := fun e => by
    rw [e] at nlv
    rw [hvl] at nlv
    cases nlv
  refine RT.for_Itv (K := K) (a := lv) (xs := vs) (fun i σ H6 => ∃ (gs L : List Fm) (B NB : Addr) (ys : List V) (v6 v7 v8 v9 v10 : Option V), σ = [some x, some (.ref g), some (.ref dn), some (.ref vl), some (.ref B), some (.ref NB), v6, v7, v8, v9, v10, none, none] ∧
      (∀ b o, H5 b = some o → b ≠ dn → b ≠ vl → H6 b = some o) ∧ FoldAt K R H6 dn vl f gs ∧ SqL K H6 B ys ∧ ImAll K H6 ys (L.map Fm.d) ∧ (∀ H' : Hp, (∀ b o, H6 b = some o → b ≠ dn → b ≠ vl → H' b = some o) → SqL K H' B ys) ∧ NB ≠ vl ∧ H6 NB = some (.lst (L.map fun c => V.int ((gs.idxOf c : Nat) : Int))) ∧
      Asc L ∧ (∀ c ∈ L, c ∈ gs) ∧ L.length ≤ 100000 ∧ ((i = 0 ∧ L = []) ∨ (0 < i ∧ (levs n [f])[vs.length - i]? = some L)))
    ⟨[], [], bl, nb, [], none, none, none, none, none, rfl, fun _ _ h _ _ => h, ⟨hd5, ⟨[], hv5, rfl, fun i v b h => (nomatch h)⟩, .nil, fun g h => (nomatch h), fun g h => (nomatch h)⟩, SqL.of (s5 _ _ hbl), .nil, fun H' k => SqL.of (k _ _ (s5 _ _ hbl) ndb.symm nvb.symm), nvnb.symm, s5 _ _ hnb, .nil, fun c h => (nomatch h), Nat.zero_le _, .inl ⟨rfl, rfl⟩⟩
    (fun i σ H6 h => by
      obtain ⟨_, _, _, _, _, _, _, _, _, _, _, k, _⟩ := h
      exact SqL.of (k _ _ hlv nlvd nlvv)) ?_ ?_
  · rintro i y σ H6 hi hy ⟨gs, L, B, NB, ys, v6, v7, v8, v9, v10, rfl, k6, fa, hB, hBI, nBv, nNv, hNB, hLa, hLg, hLl, hLi⟩
    obtain ⟨lb, lys, l, rfl, hl, hlS, hlI⟩ := hLv.get hy
    have hlj : vs.length - 1 - i < (levs n [f]).length := (List.getElem?_eq_some_iff.mp hl).1
    have hlne := lev_ne _ _ _ _ hl
    have hlys : lys ≠ [] := fun e => by
      have := fms_len hlI
      rw [e] at this
      exact hlne (List.length_eq_zero_iff.mp this.symm)
    have hlasc := lev_asc n [f] _ l (List.pairwise_singleton _ _) hl
    have hht : ∀ g ∈ [f], g.ht ≤ n := fun g hg => by rw [List.mem_singleton.mp hg]; exact hn
    have hlsub : ∀ b ∈ l, b ∈ f.subs := fun b hb => by
      obtain ⟨g, hg, hm⟩ := (levs_mem n [f] hht b).mp (List.mem_flatten.mpr ⟨l, List.mem_of_getElem? hl, hb⟩)
      rwa [List.mem_singleton.mp hg] at hm
    have hkid : ∀ b ∈ l, ∀ c ∈ b.kids, c ∈ L := fun b hb c hc => by
      have hm1 : c ∈ down l := down_mem.mpr ⟨b, hb, hc⟩
      rcases lev_next n [f] _ l hht hl with h | ⟨_, h⟩
      · rcases hLi with ⟨h0, _⟩ | ⟨h0, h1⟩
        · have := (List.getElem?_eq_some_iff.mp h).1
          omega
        · rw [show vs.length - 1 - i + 1 = vs.length - i by omega, h1] at h
          rw [Option.some.inj h]
          exact hm1
      · rw [h] at hm1
        cases hm1
    have hll : l.length ≤ 100000 := by
      have h1 := levs_sum n [f]
      have h2 : l.length ≤ ((levs n [f]).map List.length).sum := by
        have := sum_one (levs n [f]) l (List.mem_of_getElem? hl)
        exact this
      simp at h1
      omega
    refine ⟨Nat.zero_le _, fun nh nnh => ?_⟩
    have hvl6 := fa.vals
    obtain ⟨us6, hus6, _⟩ := hvl6
    have t56 := (tz_two hd5 hv5 k6).1
    have hlS6 := sql_keep hlS hlys hv5 ⟨_, hd5⟩ k6
    have sn := same_new (o := .lst []) nnh
    have hnh := @upd_same H6 nh (.lst [])
    have nhv : nh ≠ vl := fun e => by rw [e, hus6] at nnh; cases nnh
    have nhd : nh ≠ dn := fun e => by rw [e, fa.tab] at nnh; cases nnh
    have nhN : NB ≠ nh := ne_of_none hNB nnh
    have fa' : FoldAt K R (upd H6 nh (.lst [])) dn vl f gs := by
      obtain ⟨us, h1, h2⟩ := fa.vals
      exact ⟨sn _ _ fa.tab, ⟨us, sn _ _ h1, h2.mono hmono (Same.tz sn)⟩, fa.nd, fa.cl, fa.sub⟩
    have lbn : ∀ {A : Addr} {zs : List V}, SqL K H6 A zs → SqL K (upd H6 nh (.lst [])) A zs := fun h => sn.seq h
    refine ⟨_, rfl, lb, rfl, ⟨_, sn.seq hlS6⟩, for_list (K := K) (a := lb) (xs := lys) (fun j σ H7 => ∃ (gs' : List Fm) (v8 v9 v10 : Option V), σ = [some x, some (.ref g), some (.ref dn), some (.ref vl), some (.ref B), some (.ref NB), some (.ref lb), some (.ref nh), v8, v9, v10, none, none] ∧
        (∀ b o, H6 b = some o → b ≠ dn → b ≠ vl → H7 b = some o) ∧ FoldAt K R H7 dn vl f gs' ∧ (∀ c ∈ gs, c ∈ gs' ∧ gs'.idxOf c = gs.idxOf c) ∧ H7 nh = some (.lst ((l.take j).map fun c => V.int ((gs'.idxOf c : Nat) : Int))) ∧ ∀ c ∈ l.take j, c ∈ gs')
      ⟨gs, v8, v9, v10, rfl, fun b o e _ _ => sn _ _ e, fa', fun c hc => ⟨hc, rfl⟩, hnh, fun c h => (nomatch h)⟩ (fun j σ H7 _ h => by
        obtain ⟨_, _, _, _, _, k7, _⟩ := h
        exact sql_keep hlS hlys hv5 ⟨_, hd5⟩ fun b o e n1 n2 => k7 _ _ (k6 _ _ e n1 n2) n1 n2) ?_ ?_⟩
    · rintro j y σ H7 hy ⟨gs', w8, w9, w10, rfl, k7, fb, hold, hnh7, hmem⟩
      have k57 : ∀ b o, H5 b = some o → b ≠ dn → b ≠ vl → H7 b = some o := fun b o e n1 n2 => k7 _ _ (k6 _ _ e n1 n2) n1 n2
      have t57 := (tz_two hd5 hv5 k57).1
      have t67 := (tz_two fa.tab hus6 k7).1
      obtain ⟨b, hbj, hbI⟩ := imAll_of (hlI.mono t57) hy
      have hbm : b ∈ l := List.mem_of_getElem? hbj
      have hjl : j < l.length := (List.getElem?_eq_some_iff.mp hbj).1
      have hB7 := nBv H7 k7
      have hBI7 := hBI.mono t67
      have nNd : NB ≠ dn := fun e => by rw [e, fa.tab] at hNB; cases hNB
      have hNB7 := k7 _ _ hNB nNd nNv
      have hNBe : (L.map fun c => V.int ((gs.idxOf c : Nat) : Int)) = L.map fun c => V.int ((gs'.idxOf c : Nat) : Int) := List.map_congr_left fun c hc => by rw [(hold c (hLg c hc)).2]
      rw [hNBe] at hNB7
      have hkg : ∀ c ∈ b.kids, c ∈ gs' := fun c hc => (hold c (hLg c (hkid b hbm c hc))).1
      -- the numbers of the parts
      refine ⟨_, rfl, y, b, rfl, hbI, fun pt yk H8 s8 hpt hkI => ⟨pt, rfl, ⟨_, hpt⟩, fun D nD => ?_⟩⟩
      have hkl := fms_len hkI
      have hk2 : b.kids.length ≤ 2 := by cases b <;> simp [Fm.kids]
      refine lc_tup (K := K) (a := pt) (xs := yk) (fun m H9 => Same H8 H9 ∧ H9 D = some (.lst ((b.kids.take m).map fun c => V.int ((gs'.idxOf c : Nat) : Int)))) ⟨same_new nD, upd_same⟩ (fun m H9 _ h => (Same.ts h.1).sqT hpt) ?_ ?_
      · rintro m u H9 hu0 ⟨s9, hD9⟩
        obtain ⟨c, hc, cI⟩ := imAll_of (hkI.mono (Same.ts s9)) hu0
        have hcm : c ∈ b.kids := List.mem_of_getElem? hc
        have hcL := hkid b hbm c hcm
        obtain ⟨ic, hic⟩ := List.getElem?_of_mem hcL
        refine ⟨rfl, _, rfl, _, rfl, _, rfl, B, ys, L, u, c, ic, rfl, s9.seq (s8.seq hB7), hBI7.mono (Same.ts (s8.trans s9)), hLa, hic, cI, fun g hg => ?_, hLl, ?_⟩
        · exact hok g (fb.sub g ((hold g (hLg g hg)).1))
        refine ⟨NB, _, _, .int ((gs'.idxOf c : Nat) : Int), rfl, rfl, SqL.of (s9 _ _ (s8 _ _ hNB7)), atI_nat (by rw [List.getElem?_map, hic]; rfl), _, hD9, ?_, fun a o e => ?_, ?_⟩
        · rw [List.length_map, List.length_take]
          exact small1000 (by omega)
        · rw [upd_ne (ne_of_none e nD)]
          exact s9 _ _ e
        · rw [upd_same, take_snoc hc, List.map_append]
          rfl
      · rintro H9 ⟨s9, hD9⟩
        rw [hkl, List.take_length] at hD9
        have s79 := s8.trans s9
        have hy9 := hbI.mono (Same.ts s79)
        have fb9 : FoldAt K R H9 dn vl f gs' := by
          obtain ⟨us, h1, h2⟩ := fb.vals
          exact ⟨s79 _ _ fb.tab, ⟨us, s79 _ _ h1, h2.mono hmono (Same.tz s79)⟩, fb.nd, fb.cl, fb.sub⟩
        have hkN : (b.kids.map fun c => V.int ((gs'.idxOf c : Nat) : Int)).length ≤ 2 := by rw [List.length_map]; exact hk2
        obtain ⟨ba, bys, rfl, hb1, hb2⟩ := im_inv hy9
        -- the key
        refine ⟨fun σ H10 => ∃ ka : Addr, σ = [some x, some (.ref g), some (.ref dn), some (.ref vl), some (.ref B), some (.ref NB), some (.ref lb), some (.ref nh), some (.ref ba), some (.ref D), some (.ref ka), none, none] ∧ Same H9 H10 ∧ H10 ka = some (.tup ((keyF (fun c => gs'.idxOf c) b).map kV)), ?_, ?_⟩
        · refine ⟨_, rfl, ba, _, 0, _, rfl, rfl, hb1, atI_nat (j := 0) rfl, rfl, _, rfl, ?_⟩
          rw [sg_var]
          cases hv : b.isVar with
          | true =>
            obtain ⟨_, vn, rfl⟩ := kids_var hv
            exact iteT ⟨_, rfl, ba, rfl, fun _ _ e => e, im_var_at hy9⟩
          | false =>
            refine iteF ⟨_, rfl, ba, _, 0, _, rfl, rfl, hb1, atI_nat (j := 0) rfl, _, rfl, D, _, rfl, .inr (SqL.of hD9), ?_⟩
            have eK : V.str b.sg :: ((b.kids.map fun c => V.int ((gs'.idxOf c : Nat) : Int)) ++ []) = (keyF (fun c => gs'.idxOf c) b).map kV := by
              rw [keyF_not hv, List.append_nil, List.map_cons, List.map_map]
              rfl
            refine ⟨?_, fun ka nka => ⟨ka, rfl, same_new nka, ?_⟩⟩
            · rw [List.length_cons, List.length_append, List.length_nil]
              exact Nat.le_of_lt (small1000 (by omega))
            · rw [upd_same, ← eK]
        · rintro σ H10 ⟨ka, rfl, s10, hka⟩
          have s710 := s79.trans s10
          have fb10 : FoldAt K R H10 dn vl f gs' := by
            obtain ⟨us, h1, h2⟩ := fb9.vals
            exact ⟨s10 _ _ fb9.tab, ⟨us, s10 _ _ h1, h2.mono hmono (Same.tz s10)⟩, fb.nd, fb.cl, fb.sub⟩
          have k710 : ∀ a o, H7 a = some o → a ≠ dn → a ≠ vl → H10 a = some o := fun a o e _ _ => s710 _ _ e
          have hget := tab_get fb.cl hkg
          have hD10 := s10 _ _ hD9
          have hgsl : gs'.length ≤ 100000 := by
            have := nodup_few gs' f.subs fb.nd fb.sub
            rw [subs_len] at this
            omega
          refine ⟨fun σ H11 => ∃ gs2 : List Fm, σ = [some x, some (.ref g), some (.ref dn), some (.ref vl), some (.ref B), some (.ref NB), some (.ref lb), some (.ref nh), some (.ref ba), some (.ref D), some (.ref ka), none, none] ∧
              (∀ a o, H10 a = some o → a ≠ dn → a ≠ vl → H11 a = some o) ∧ FoldAt K R H11 dn vl f gs2 ∧ (∀ c ∈ gs', c ∈ gs2 ∧ gs2.idxOf c = gs'.idxOf c) ∧ b ∈ gs2 ∧ keyF (fun c => gs2.idxOf c) b = keyF (fun c => gs'.idxOf c) b, ?_, ?_⟩
          · refine ⟨_, rfl, _, rfl, dn, _, rfl, .t fb10.tab hka, _, rfl, ?_⟩
            rw [hget]
            by_cases hbg : b ∈ gs'
            · rw [if_pos hbg]
              exact iteF ⟨gs', rfl, fun _ _ e _ _ => e, fb10, fun c hc => ⟨hc, rfl⟩, hbg, rfl⟩
            · rw [if_neg hbg]
              obtain ⟨us, hus, hR⟩ := fb10.vals
              refine iteT ⟨_, rfl, vl, us, rfl, .inl (SqL.of hus), _, rfl, _, rfl, dn, _, rfl, .t fb10.tab hka ?_, ?_⟩
              · unfold tabF
                rw [List.length_map]
                exact Nat.lt_of_le_of_lt hgsl (by decide)
              rw [hR.1, tab_put fb.cl hkg hbg]
              have k1011 : ∀ a o, H10 a = some o → a ≠ dn → upd H10 dn (.dT (tabF (gs' ++ [b]))) a = some o := fun a o e n => by
                rw [upd_ne n]
                exact e
              have hd11 : upd H10 dn (.dT (tabF (gs' ++ [b]))) dn = some (.dT (tabF (gs' ++ [b]))) := upd_same
              generalize upd H10 dn (.dT (tabF (gs' ++ [b]))) = H11 at k1011 hd11
              have hus11 := k1011 _ _ hus ndv.symm
              have t1011 : TZ H10 H11 := TZ.but fb10.tab (fun _ e => nomatch e) (fun _ _ e => nomatch e) k1011
              have k511 : ∀ a o, H5 a = some o → a ≠ dn → a ≠ vl → H11 a = some o := fun a o e n1 n2 => k1011 _ _ (s710 _ _ (k57 _ _ e n1 n2)) n1
              have kext : ∀ a F, H5 a = some (.ext F) → H11 a = some (.ext F) := fun a F e => k511 _ _ e (fun z => by rw [z, hd5] at e; cases e) (fun z => by rw [z, hv5] at e; cases e)
              have kfrz : ∀ a o u, H5 a = some (.frz o u) → H11 a = some (.frz o u) := fun a o u e => k511 _ _ e (fun z => by rw [z, hd5] at e; cases e) (fun z => by rw [z, hv5] at e; cases e)
              have hC11 := hC5.same kext kfrz
              have sH11 : L2.Same H H11 := fun a o e => k511 _ _ (s5 _ _ (t14 _ _ e)) (ne_of_none e ndn) (fun z => by
                have := t1 _ _ e
                rw [z, nvl] at this
                cases this)
              have nDd : D ≠ dn := fun e => by rw [e, fb10.tab] at hD10; cases hD10
              have hD11 := k1011 _ _ hD10 nDd
              refine ⟨_, rfl, .inl ⟨rfl, _, .inl (.inl hus11)⟩, g, sp, rfl, hC11, _, rfl, _, rfl, D, rfl, ⟨_, SqL.of hD11⟩, fun W nW => ?_⟩
              have nWv : vl ≠ W := ne_of_none hus11 nW
              refine lc_list (K := K) (a := D) (xs := b.kids.map fun c => V.int ((gs'.idxOf c : Nat) : Int)) (fun m H12 => ∃ acc, Same H11 H12 ∧ H12 W = some (.lst acc) ∧ Rs R H12 acc (b.kids.take m)) ⟨[], same_new nW, upd_same, rfl, fun i v b h => (nomatch h)⟩ (fun m H12 _ h => by
                obtain ⟨_, s, _⟩ := h
                exact SqL.of (s _ _ hD11)) ?_ ?_
              · rintro m u H12 hu0 ⟨acc, s12, hW, hRs⟩
                rw [List.getElem?_map] at hu0
                cases hc : b.kids[m]? with
                | none => rw [hc] at hu0; cases hu0
                | some c =>
                rw [hc] at hu0
                have eu : u = .int ((gs'.idxOf c : Nat) : Int) := (Option.some.inj hu0).symm
                subst eu
                have hcg := hkg c (List.mem_of_getElem? hc)
                have hi1 := List.idxOf_lt_length_of_mem hcg
                have hv1 : us[gs'.idxOf c]? = some (us[gs'.idxOf c]'(by rw [hR.1]; exact hi1)) := List.getElem?_eq_getElem _
                have hRc := hR.2 _ _ _ hv1 (idx_get hcg)
                have hal : acc.length ≤ 2 := by
                  rw [hRs.1, List.length_take]
                  omega
                refine ⟨rfl, _, rfl, _, rfl, vl, _, _, _, rfl, rfl, SqL.of (s12 _ _ hus11), atI_nat hv1, acc, hW, small1000 (by omega), acc ++ [_], fun a o e => ?_, upd_same, ?_⟩
                · rw [upd_ne (ne_of_none e nW)]
                  exact s12 _ _ e
                · rw [take_snoc hc]
                  have tt := (Kp.upd (H := H12) (p := W) (o := .lst (acc ++ [us[gs'.idxOf c]'(by rw [hR.1]; exact hi1)]))).tz hW
                  exact (hRs.mono hmono tt).snoc (hmono _ _ _ _ ((t1011.trans (Same.tz s12)).trans tt) hRc)
              · rintro H12 ⟨acc, s12, hW, hRs⟩
                rw [List.length_map, List.take_length] at hRs
                have s1112 : ∀ a F, H11 a = some (.ext F) → H12 a = some (.ext F) := fun a F e => s12 _ _ e
                have z1112 : ∀ a o u, H11 a = some (.frz o u) → H12 a = some (.frz o u) := fun a o u e => s12 _ _ e
                refine ⟨hC11.same s1112 z1112, s1112, z1112, hval b H12 (.ref ba) W acc _ (hlsub b hbm) (sH11.trans s12) (((hy9.mono (Same.ts s10)).mono t1011.1).mono (Same.ts s12)) hW hRs fun v H13 s13 hv13 => ?_⟩
                have s1113 := s12.trans s13
                have hus13 := s1113 _ _ hus11
                refine ⟨vl, us, v, rfl, rfl, hus13, Nat.lt_of_le_of_lt (by rw [hR.1]; exact hgsl) (by decide), ?_⟩
                have tt := (Kp.upd (H := H13) (p := vl) (o := .lst (us ++ [v]))).tz hus13
                have t1014 := (t1011.trans (Same.tz s1113)).trans tt
                refine ⟨gs' ++ [b], rfl, fun a o e n1 n2 => ?_, ⟨?_, ⟨us ++ [v], upd_same, (hR.mono hmono t1014).snoc (hmono _ _ _ _ tt hv13)⟩, ?_, fun h hh c hc => ?_, fun h hh => ?_⟩, fun c hc => ⟨List.mem_append_left _ hc, idx_app hc⟩, List.mem_append_right _ List.mem_cons_self, keyF_congr fun c hc => idx_app (hkg c hc)⟩
                · rw [upd_ne n2]
                  exact s1113 _ _ (k1011 _ _ e n1)
                · rw [upd_ne ndv]
                  exact s1113 _ _ hd11
                · exact List.nodup_append.mpr ⟨fb.nd, List.nodup_cons.mpr ⟨fun h => (nomatch h), .nil⟩, fun c hc u hu e => hbg (by rw [← List.mem_singleton.mp hu, ← e]; exact hc)⟩
                · rcases List.mem_append.mp hh with hh | hh
                  · exact List.mem_append_left _ (fb.cl h hh c hc)
                  · rw [List.mem_singleton.mp hh] at hc
                    exact List.mem_append_left _ (hkg c hc)
                · rcases List.mem_append.mp hh with hh | hh
                  · exact fb.sub h hh
                  · rw [List.mem_singleton.mp hh]
                    exact hlsub b hbm
          · rintro σ H11 ⟨gs2, rfl, k11, fc, hold2, hb2g, hkey2⟩
            have hkg2 : ∀ c ∈ b.kids, c ∈ gs2 := fun c hc => (hold2 c (hkg c hc)).1
            have hgt : valV (tabF gs2) (keyF (fun c => gs'.idxOf c) b) = some (V.int ((gs2.idxOf b : Nat) : Int)) := by
              rw [← hkey2, tab_get fc.cl hkg2, if_pos hb2g]
            have hnh10 := s710 _ _ hnh7
            have hnh11 := k11 _ _ hnh10 nhd nhv
            obtain ⟨us10, hus10, _⟩ := fb10.vals
            have nkd : ka ≠ dn := fun e => by rw [e, fb10.tab] at hka; cases hka
            have nkv : ka ≠ vl := fun e => by rw [e, hus10] at hka; cases hka
            refine ⟨_, rfl, .inl ⟨rfl, _, .inl (.inl hnh11)⟩, _, rfl, _, rfl, dn, _, rfl, .inr ⟨_, _, ka, .inl fc.tab, rfl, k11 _ _ hka nkd nkv, hgt.symm⟩, nh, _, _, rfl, rfl, hnh11, ?_, ?_⟩
            · rw [List.length_map, List.length_take]
              exact Nat.lt_of_le_of_lt (Nat.le_trans (Nat.min_le_right _ _) hll) (by decide)
            have tt := (Kp.upd (H := H11) (p := nh) (o := .lst (((l.take j).map fun c => V.int ((gs'.idxOf c : Nat) : Int)) ++ [V.int ((gs2.idxOf b : Nat) : Int)]))).tz hnh11
            refine ⟨gs2, _, _, _, rfl, fun a o e n1 n2 => ?_, ?_, fun c hc => ?_, ?_, fun c hc => ?_⟩
            · rw [upd_ne (ne_of_none e nnh)]
              exact k11 _ _ (s710 _ _ (k7 _ _ e n1 n2)) n1 n2
            · obtain ⟨us, h1, h2⟩ := fc.vals
              exact ⟨by rw [upd_ne nhd.symm]; exact fc.tab, ⟨us, by rw [upd_ne nhv.symm]; exact h1, h2.mono hmono tt⟩, fc.nd, fc.cl, fc.sub⟩
            · obtain ⟨h1, h2⟩ := hold c hc
              obtain ⟨h3, h4⟩ := hold2 c h1
              exact ⟨h3, h4.trans h2⟩
            · rw [upd_same, take_snoc hbj, List.map_append]
              rw [show ((l.take j).map fun c => V.int ((gs2.idxOf c : Nat) : Int)) = (l.take j).map fun c => V.int ((gs'.idxOf c : Nat) : Int) from List.map_congr_left fun c hc => by rw [(hold2 c (hmem c hc)).2]]
              rfl
            · rw [take_snoc hbj] at hc
              rcases List.mem_append.mp hc with h | h
              · exact (hold2 c (hmem c h)).1
              · rw [List.mem_singleton.mp h]
                exact hb2g
    · rintro σ H7 ⟨gs', w8, w9, w10, rfl, k7, fb, hold, hnh7, hmem⟩
      have hlen7 := fms_len hlI
      rw [hlen7, List.take_length] at hnh7 hmem
      have k57 : ∀ b o, H5 b = some o → b ≠ dn → b ≠ vl → H7 b = some o := fun b o e n1 n2 => k7 _ _ (k6 _ _ e n1 n2) n1 n2
      have hlS7 := sql_keep hlS hlys hv5 ⟨_, hd5⟩ k57
      refine ⟨_, rfl, _, rfl, gs', l, lb, nh, lys, _, _, _, _, _, rfl, k57, fb, hlS7, hlI.mono (tz_two hd5 hv5 k57).1, fun H' k => sql_keep hlS hlys hv5 ⟨_, hd5⟩ fun b o e n1 n2 => k _ _ (k57 _ _ e n1 n2) n1 n2, nhv, hnh7, hlasc, hmem, hll, .inr ⟨Nat.succ_pos _, ?_⟩⟩
      rw [show vs.length - (i + 1) = vs.length - 1 - i by omega]
      exact hl
  · rintro σ H6 ⟨gs, L, B, NB, ys, v6, v7, v8, v9, v10, rfl, k6, fa, hB, hBI, nBv, nNv, hNB, hLa, hLg, hLl, hLi⟩
    have hL : L = [f] := by
      rcases hLi with ⟨h0, _⟩ | ⟨_, h1⟩
      · have := lev_head hn
        have := (List.getElem?_eq_some_iff.mp this).1
        omega
      · rw [Nat.sub_self, lev_head hn] at h1
        exact (Option.some.inj h1).symm
    subst hL
    have hfg := hLg f List.mem_cons_self
    obtain ⟨us, hus, hR⟩ := fa.vals
    have hi1 := List.idxOf_lt_length_of_mem hfg
    have hv1 : us[gs.idxOf f]? = some (us[gs.idxOf f]'(by rw [hR.1]; exact hi1)) := List.getElem?_eq_getElem _
    have hRf := hR.2 _ _ _ hv1 (idx_get hfg)
    refine ⟨_, rfl, _, rfl, NB, _, 0, _, rfl, rfl, SqL.of hNB, atI_nat (j := 0) rfl, vl, us, _, _, rfl, rfl, SqL.of hus, atI_nat hv1, kQ _ H6 (fun b o e => ?_) hRf⟩
    have h4 := t14 _ _ e
    have n1 : b ≠ dn := ne_of_none e ndn
    have n2 : b ≠ vl := fun z => by
      have := t1 _ _ e
      rw [z, nvl] at this
      cases this
    exact k6 _ _ (s5 _ _ h4) n1 n2

/-! ### drawn frames and values -/
def rListOf (K : PySem.W.Frag) : List V → Hp → VK → Prop := fun xs H Q => ∃ p ys, xs = [V.ref p] ∧ (SqL K H p ys ∨ SqT K H p ys) ∧ ∀ (l : Addr), H l = none → Q (V.ref l) (upd H l (HO.lst ys))
theorem call_list_ofK {X : Cx} : CallR X (Value.type "list") (rListOf X.K) := call_list_of
def relab (sc scope : Scope) : Scope := { scope with names := scope.names.map fun (n, k) => if (k == .free && sc.kind == .function && sc.names.lookup n == some .cell) then (n, .cell) else (n, k) }
theorem relab_eq {scope sc : Scope} {x : Str} {L a : Addr} {cd : Value} : PySem.relabel scope (PyProof.Rows.envOfC x sc L a cd) = relab sc scope := rfl
def bg (R : Nat → Nat → Bool) (n i : Nat) : List V := (List.range n).map fun j => V.bl (R i j)
/-- the rows of a frame of n worlds, as lists of Bools -/
def GridAt (H : Hp) (s : Addr) (n : Nat) (R : Nat → Nat → Bool) : Prop := ∃ rs : List Addr, H s = some (.lst (rs.map V.ref)) ∧ rs.length = n ∧ rs.Nodup ∧ s ∉ rs ∧ ∀ i r, rs[i]? = some r → H r = some (.lst (bg R n i))
def sel (n : Nat) (f : Nat → Bool) : List V := ((List.range n).filter f).map fun w : Nat => V.int (w : Int)
/-- the values of the variables, as a dict of ascending lists -/
def ValAt (H : Hp) (d : Addr) (n : Nat) (names : List Str) (W : Str → Nat → Bool) : Prop := ∃ as : List (Str × Addr), as.map (·.1) = names ∧ H d = some (.dK (as.map fun x => (.inr x.1, .ref x.2))) ∧ (as.map (·.2)).Nodup ∧ d ∉ as.map (·.2) ∧ ∀ x ∈ as, H x.2 = some (.lst (sel n (W x.1)))
theorem rng_snoc {β : Type} (g : Bool → β) (f : Nat → Bool) (j : Nat) (b : Bool) : ((List.range (j + 1)).map fun x => g (if x = j then b else f x)) = ((List.range j).map fun x => g (f x)) ++ [g b] := by
  rw [List.range_succ, List.map_append, List.map_singleton, if_pos rfl]
  refine congrArg (· ++ [g b]) (List.map_congr_left fun x hx => ?_)
  rw [if_neg (Nat.ne_of_lt (List.mem_range.mp hx))]
theorem sel_snoc (f : Nat → Bool) (j : Nat) (b : Bool) : sel (j + 1) (fun x => if x = j then b else f x) = sel j f ++ if b = true then [V.int (j : Int)] else [] := by
  unfold sel
  rw [List.range_succ, List.filter_append, List.map_append]
  refine congr (congrArg _ (congrArg _ (List.filter_congr fun x hx => ?_))) ?_
  · rw [if_neg (Nat.ne_of_lt (List.mem_range.mp hx))]
  · rw [List.filter_cons, if_pos rfl]
    cases b <;> rfl
theorem valV_none {kvs : List (Key × V)} {k : Key} (h : ∀ kv ∈ kvs, kv.1 ≠ k) : valV kvs k = none := by
  unfold valV
  rw [List.find?_eq_none.mpr fun kv hk q => h kv hk (of_decide_eq_true q)]
  rfl
theorem sel_len (n : Nat) (f : Nat → Bool) : (sel n f).length ≤ n := by
  unfold sel
  rw [List.length_map]
  exact Nat.le_trans (List.length_filter_le _ _) (by rw [List.length_range]; exact Nat.le_refl _)
theorem GridAt.same {H H' : Hp} {s : Addr} {n : Nat} {R : Nat → Nat → Bool} (k : Same H H') (h : GridAt H s n R) : GridAt H' s n R := by
  obtain ⟨rs, h1, h2, h3, h4, h5⟩ := h
  exact ⟨rs, k _ _ h1, h2, h3, h4, fun i r hr => k _ _ (h5 i r hr)⟩
theorem GridAt.kp {H0 H H' : Hp} {p s : Addr} {n : Nat} {R : Nat → Nat → Bool} (k : Kp p H H') (h : GridAt H s n R) (hp : ∃ q xs, H p = some (.lst (.ref q :: .int xs :: []))) : True := trivial

/-! ### frames made of rows -/
def pd (x : Nat × Nat) : PyData := .tuple [.int x.1, .int x.2]
def grid (a b : Nat) : List (Nat × Nat) := (List.range a).flatMap fun v => (List.range b).map fun w => (v, w)
theorem grid_succ (a b : Nat) : grid (a + 1) b = grid a b ++ (List.range b).map fun w => (a, w) := by
  unfold grid
  rw [List.range_succ, List.flatMap_append]
  simp
theorem grid_len (a b : Nat) : (grid a b).length = a * b := by
  induction a with
  | zero => simp [grid]
  | succ a ih => rw [grid_succ, List.length_append, ih, List.length_map, List.length_range, Nat.succ_mul]
theorem grid_mem {a b : Nat} {x : Nat × Nat} : x ∈ grid a b ↔ x.1 < a ∧ x.2 < b := by
  unfold grid
  simp only [List.mem_flatMap, List.mem_map, List.mem_range]
  constructor
  · rintro ⟨v, hv, w, hw, rfl⟩
    exact ⟨hv, hw⟩
  · rintro ⟨h1, h2⟩
    exact ⟨x.1, h1, x.2, h2, rfl⟩
theorem pd_novar {l : List (Nat × Nat)} {y : Str} (e : l.map pd = [.str "var", .str y]) : False := by
  cases l with
  | nil => cases e
  | cons x r => exact nomatch (List.cons.inj e).1
theorem im_pd {K : PySem.W.Frag} {H : Hp} {p : Addr} {x : Nat × Nat} (h : H p = some (.tup [.int x.1, .int x.2])) : Im K H (.ref p) (pd x) := .tup (SqT.of h) (.cons (.int _) (.cons (.int _) .nil))
theorem pd_inv {K : PySem.W.Frag} {H : Hp} {v : V} {x : Nat × Nat} (h : Im K H v (pd x)) : ∃ a, v = .ref a ∧ SqT K H a [.int x.1, .int x.2] := by
  unfold pd at h
  cases h with
  | tup h1 h2 =>
    cases h2 with
    | cons h3 h4 =>
      cases h3
      cases h4 with
      | cons h5 h6 =>
        cases h5
        cases h6
        exact ⟨_, rfl, h1⟩
def spGrid (K : PySem.W.Frag) : Sp := fun vs H Q _ => ∃ (a b : Nat), vs = [.int a, .int b] ∧ a ≤ 100 ∧ b ≤ 100 ∧ ∀ (p : Addr) (ys : List V) (H' : Hp), H p = none → Same H H' → H' p = some (.lst ys) → ImAll K H' ys ((grid a b).map pd) → Q (.ref p) H'
theorem ok_law_grid (T : Top K mg) : FnOk P w K mg base CX0 1 T.f_law_grid T.d_law_grid ["first", "second"] (spGrid K) := by
  refine T.F_law_grid.ok sc_law_grid (fun vs H Q E h => ?_) (fun cdv A outer s H vs Q E hr h => ?_)
  · obtain ⟨a, b, rfl, _⟩ := h
    rfl
  obtain ⟨a, b, rfl, ha, hb, k⟩ := h
  refine ⟨_, (pss_cons (ps_set (i := 2) sc_law_grid.nd rfl (.inl rfl) (pe_lst pa_nil))
    (pss_cons (ps_for PassesOwn.never rfl (pi_range1 (by rfl) T.z_range (pa_cons (pv 0) pa_nil)) (pg_name (i := 3) sc_law_grid.nd rfl (.inl rfl))
      (pss_one (ps_for PassesOwn.never rfl (pi_range1 (by rfl) T.z_range (pa_cons (pv 1) pa_nil)) (pg_name (i := 4) sc_law_grid.nd rfl (.inl rfl))
      (pss_one (ps_expr (pe_bm PySem.F.plainAttrs_list PySem.F.slot_list_append PySem.F.type_list_append mt_append (pv 2) (pa_cons (pe_tup (pa_cons (pv 3) (pa_cons (pv 4) pa_nil))) pa_nil)))))))
    (pss_one (ps_ret (pv 2))))), ?_⟩
  refine ⟨Nat.zero_le _, fun d nd => ?_⟩
  refine ⟨_, rfl, a, rfl, by omega, by omega, for_range (n := (a : Int).toNat) (fun i σ H2 => ∃ (v w : Option V) (ys : List V), σ = [some (.int a), some (.int b), some (.ref d), v, w] ∧ Same H H2 ∧ H2 d = some (.lst ys) ∧ ImAll K H2 ys ((grid i b).map pd)) ⟨none, none, [], rfl, same_new nd, upd_same, .nil⟩ ?_ ?_⟩
  · rintro i σ H2 hi ⟨v, w, ys, rfl, s2, hd, iy⟩
    refine ⟨_, rfl, b, rfl, by omega, by omega, for_range (n := (b : Int).toNat) (fun j σ H3 => ∃ (w : Option V) (ys : List V), σ = [some (.int a), some (.int b), some (.ref d), some (.int (0 + (i : Int))), w] ∧ Same H H3 ∧ H3 d = some (.lst ys) ∧ ImAll K H3 ys ((grid i b ++ (List.range j).map fun w => (i, w)).map pd)) ⟨w, ys, rfl, s2, hd, by rw [List.range_zero, List.map_nil, List.append_nil]; exact iy⟩ ?_ ?_⟩
    · rintro j σ H3 hj ⟨w, ys, rfl, s3, hd, iy⟩
      have hl := iy.length
      have hgl := grid_len i b
      have hib : i * b ≤ 100 * 100 := Nat.mul_le_mul (by omega) hb
      rw [List.length_map, List.length_append, List.length_map, List.length_range, hgl] at hl
      refine ⟨_, rfl, .inl ⟨rfl, _, .inl (.inl hd)⟩, _, rfl, _, rfl, (by show 2 ≤ sizeLine; decide), fun q nq => ?_⟩
      have s4 := same_new (o := .tup [.int (0 + (i : Int)), .int (0 + (j : Int))]) nq
      have hd4 := s4 _ _ hd
      refine ⟨d, ys, .ref q, rfl, rfl, hd4, Nat.lt_of_le_of_lt (show ys.length ≤ 20000 by omega) (by decide), _, _, rfl, fun c o hc => ?_, upd_same, ?_⟩
      · rw [upd_ne (ne_of_none hc nd)]
        exact s4 _ _ (s3 _ _ hc)
      · have t : TS (upd H3 q (.tup [.int (0 + (i : Int)), .int (0 + (j : Int))])) (upd (upd H3 q (.tup [.int (0 + (i : Int)), .int (0 + (j : Int))])) d (.lst (ys ++ [.ref q]))) := Kp.ts Kp.upd hd4
        have e9 : (grid i b ++ (List.range (j + 1)).map fun w => (i, w)).map pd = (grid i b ++ (List.range j).map fun w => (i, w)).map pd ++ [pd (i, j)] := by
          rw [List.range_succ]
          simp
        rw [e9]
        refine ((iy.mono (Same.ts s4)).mono t).snoc ((im_pd (x := (i, j)) ?_).mono t)
        show upd H3 q (.tup [.int (0 + (i : Int)), .int (0 + (j : Int))]) q = some (.tup [.int (i : Int), .int (j : Int)])
        rw [upd_same, Int.zero_add, Int.zero_add]
    · rintro σ H3 ⟨w, ys, rfl, s3, hd, iy⟩
      rw [Int.toNat_natCast, ← grid_succ] at iy
      exact ⟨_, _, ys, rfl, s3, hd, iy⟩
  · rintro σ H2 ⟨v, w, ys, rfl, s2, hd, iy⟩
    rw [Int.toNat_natCast] at iy
    exact ⟨_, rfl, k d ys H2 nd s2 hd iy⟩
/-- the pairs of a frame, and the frame -/
def frP (n : Nat) (R : Nat → Nat → Bool) : List (Nat × Nat) := (grid n n).filter fun x => R x.1 x.2
def frD (n : Nat) (ps : List (Nat × Nat)) : PyData := .tuple [.int n, .tuple (ps.map pd)]
theorem atI_i {α : Type} {xs : List α} {j : Nat} {v : α} (h : xs[j]? = some v) : atI xs (j : Int) = some v := atI_nat h
def spFramed (K : PySem.W.Frag) : Sp := fun vs H Q _ => ∃ (s : Addr) (n : Nat) (R : Nat → Nat → Bool), vs = [.ref s] ∧ GridAt H s n R ∧ n ≤ 100 ∧ ∀ (v : V) (H' : Hp), Same H H' → Im K H' v (frD n (frP n R)) → Q v H'
theorem ok_law_framed (T : Top K mg) : FnOk P w K mg base CX0 2 T.f_law_framed T.d_law_framed ["seen"] (spFramed K) := by
  have G_law_grid : FnOk P w K mg base CX0 1 T.f_law_grid T.d_law_grid ["first", "second"] (spGrid K) := ok_law_grid T
  refine T.F_law_framed.ok sc_law_framed (fun vs H Q E h => ?_) (fun cdv A outer s H vs Q E hr h => ?_)
  · obtain ⟨a, n, R, rfl, _⟩ := h
    rfl
  obtain ⟨a, n, R, rfl, hg, hn, k⟩ := h
  refine ⟨_, (pss_cons (ps_set (i := 1) sc_law_framed.nd rfl (.inl rfl) (pe_call G_law_grid (hr.mono (by omega)) (by rfl) T.m_law_grid T.F_law_grid.kp T.b_law_grid .nil pass0 (pa_cons (pe_callB call_len_seq (by rfl) T.z_len PySem.boot_len (pa_cons (pv 0) pa_nil)) (pa_cons (pe_callB call_len_seq (by rfl) T.z_len PySem.boot_len (pa_cons (pv 0) pa_nil)) pa_nil))))
    (pss_one (ps_ret (pe_tup (pa_cons (pe_callB call_len_seq (by rfl) T.z_len PySem.boot_len (pa_cons (pv 0) pa_nil)) (pa_cons (pe_callTy call_tuple_of (by rfl) T.z_tuple (by decide +kernel) (pa_cons (pe_lc (own := [("pair", 2)]) (g := gName 2) (tt := (tB (tOp (rIxL K) (tOp (rIxL K) _ (tOp (rIxT K) _ _)) (tOp (rIxT K) _ _)))) rfl sc_law_framed.nd (pi_list (pv 1)) (blkOk_by (N := ["seen", "pairs", "pair"]) (sc := defScope s_law_framed) (by decide +kernel)) (fun _ _ _ _ _ => pg_name (i := 2) sc_law_framed.nd rfl (Or.inl rfl)) (fun _ _ _ _ _ => pts_one (pt_val (pe_ix ix_list (pe_ix ix_list (pv 0) (pe_ix ix_tup (pv 2) pe_int (fun _ _ => rfl)) (fun _ _ => rfl)) (pe_ix ix_tup (pv 2) pe_int (fun _ _ => rfl)) (fun _ _ => rfl)))) (fun _ _ _ _ _ => (pv 2))) pa_nil)) pa_nil)))))), ?_⟩
  obtain ⟨rs, h1, h2, h3, h4, h5⟩ := hg
  have el : ((rs.map V.ref).length : Int) = (n : Int) := by rw [List.length_map, h2]
  refine ⟨_, rfl, a, _, rfl, .inl (SqL.of h1), _, rfl, a, _, rfl, .inl (SqL.of h1), ?_⟩
  rw [el]
  refine ⟨n, n, rfl, hn, hn, fun p ys H1 np s1 hp iy => ?_⟩
  refine ⟨_, rfl, a, _, rfl, .inl (SqL.of (s1 _ _ h1)), _, rfl, p, rfl, ⟨_, SqL.of hp⟩, fun D nD => ?_⟩
  rw [el]
  have hyl := iy.length
  rw [List.length_map] at hyl
  refine lc_list (K := K) (a := p) (xs := ys) (fun i H2 => ∃ us : List V, Same H1 H2 ∧ H2 D = some (.lst us) ∧ ImAll K H2 us ((((grid n n).take i).filter fun x => R x.1 x.2).map pd)) ⟨[], same_new nD, upd_same, .nil⟩ (fun i H2 _ h => by
    obtain ⟨_, s2, _⟩ := h
    exact SqL.of (s2 _ _ hp)) ?_ ?_
  · rintro i y H2 hy ⟨us, s2, hD, iu⟩
    obtain ⟨d, gd, idd⟩ := iy.get hy
    rw [List.getElem?_map] at gd
    cases hx : (grid n n)[i]? with
    | none => rw [hx] at gd; cases gd
    | some x =>
      rw [hx] at gd
      have ed : d = pd x := (Option.some.inj gd).symm
      subst ed
      have idd2 := idd.mono (Same.ts s2)
      obtain ⟨q, rfl, hq⟩ := pd_inv idd2
      have hxm := grid_mem.mp (List.mem_of_getElem? hx)
      have s12 := s1.trans s2
      obtain ⟨r, hr1⟩ : ∃ r, rs[x.1]? = some r := ⟨_, List.getElem?_eq_getElem (by omega)⟩
      have hrow := s12 _ _ (h5 x.1 r hr1)
      refine ⟨rfl, _, rfl, _, rfl, q, _, 0, _, rfl, rfl, hq, atI_nat (j := 0) rfl, a, _, x.1, .ref r, rfl, rfl, SqL.of (s12 _ _ h1), atI_nat (by rw [List.getElem?_map, hr1]; rfl), _, rfl, q, _, 1, _, rfl, rfl, hq, atI_nat (j := 1) rfl, ?_⟩
      refine ⟨r, _, x.2, .bl (R x.1 x.2), rfl, rfl, SqL.of hrow, atI_nat (by unfold bg; rw [List.getElem?_map, List.getElem?_range hxm.2]; rfl), _, rfl, ?_⟩
      rw [take_snoc hx, List.filter_append, List.map_append]
      have hul := iu.length
      rw [List.length_map] at hul
      have hgl := grid_len n n
      have hnn : n * n ≤ 100 * 100 := Nat.mul_le_mul hn hn
      cases hR : R x.1 x.2 with
      | true =>
        refine iteT ⟨_, rfl, us, hD, Nat.lt_of_le_of_lt (show us.length ≤ 10000 from ?_) (by decide), us ++ [.ref q], fun c o hc => ?_, upd_same, ?_⟩
        · rw [hul]
          refine Nat.le_trans (List.length_filter_le _ _) ?_
          rw [List.length_take]
          omega
        · rw [upd_ne (ne_of_none hc nD)]
          exact s2 _ _ hc
        · rw [show [x].filter (fun x => R x.1 x.2) = [x] by rw [List.filter_cons, if_pos hR]; rfl]
          exact (iu.mono (Kp.upd.ts hD)).snoc (idd2.mono (Kp.upd.ts hD))
      | false =>
        refine iteF ⟨us, s2, hD, ?_⟩
        rw [show [x].filter (fun x => R x.1 x.2) = [] by rw [List.filter_cons, if_neg (by rw [hR]; decide)]; rfl, List.map_nil, List.append_nil]
        exact iu
  · rintro H2 ⟨us, s2, hD, iu⟩
    rw [hyl, List.take_length] at iu
    refine ⟨D, us, rfl, .inl ⟨SqL.of hD, fun q nq => ⟨(by show 2 ≤ sizeLine; decide), fun t nt => ?_⟩⟩⟩
    have s3 := same_new (o := .tup us) nq
    have s4 := same_new (o := .tup [.int n, .ref q]) nt
    exact k _ _ (((s1.trans s2).trans s3).trans s4) (.tup (SqT.of upd_same) (.cons (.int _) (.cons (.tup (SqT.of (s4 _ _ upd_same)) (iu.mono (Same.ts (s3.trans s4))) (fun y e => (pd_novar e).elim)) .nil)))

/-! ### rows of a frame -/
/-- a dict of lists of worlds -/
def RowsAt (H : Hp) (D : Addr) (as : List (Nat × Addr)) (succ : Nat → List Nat) : Prop :=
  H D = some (.dK (as.map fun x => (.inl (x.1 : Int), .ref x.2))) ∧ (as.map (·.1)).Nodup ∧ (as.map (·.2)).Nodup ∧ D ∉ as.map (·.2) ∧ ∀ x ∈ as, H x.2 = some (.lst ((succ x.1).map fun w : Nat => V.int w))
def sucs (ps : List (Nat × Nat)) (v : Nat) : List Nat := (ps.filter fun x => decide (x.1 = v)).map (·.2)
theorem im_fr {K : PySem.W.Frag} {H : Hp} {x : V} {n : Nat} {ps : List (Nat × Nat)} (h : Im K H x (frD n ps)) : ∃ (a b : Addr) (ys : List V), x = .ref a ∧ SqT K H a [.int n, .ref b] ∧ SqT K H b ys ∧ ImAll K H ys (ps.map pd) := by
  unfold frD at h
  cases h with
  | tup h1 h2 =>
    cases h2 with
    | cons h3 h4 =>
      cases h3
      cases h4 with
      | cons h5 h6 =>
        cases h6
        cases h5 with
        | tup h7 h8 => exact ⟨_, _, _, rfl, h1, h7, h8⟩
theorem sucs_snoc (ps : List (Nat × Nat)) (x : Nat × Nat) (v : Nat) : sucs (ps ++ [x]) v = sucs ps v ++ if x.1 = v then [x.2] else [] := by
  unfold sucs
  rw [List.filter_append, List.map_append, List.filter_cons]
  by_cases e : x.1 = v
  · rw [if_pos (decide_eq_true e), if_pos e]
    rfl
  · rw [if_neg (by rw [decide_eq_true_eq]; exact e), if_neg e]
    rfl
theorem valV_at {as : List (Nat × Addr)} (nd : (as.map (·.1)).Nodup) {x : Nat × Addr} (hx : x ∈ as) : valV (as.map fun x => ((.inl (x.1 : Int) : Key), V.ref x.2)) (.inl (x.1 : Int)) = some (.ref x.2) := by
  unfold valV
  induction as with
  | nil => cases hx
  | cons y as ih =>
    rw [List.map_cons, List.find?_cons]
    by_cases e : y.1 = x.1
    · have : y = x := by
        rcases List.mem_cons.mp hx with rfl | hx
        · rfl
        · exact absurd (List.mem_map.mpr ⟨x, hx, e.symm⟩) (List.nodup_cons.mp nd).1
      subst this
      rw [show decide (((Sum.inl (y.1 : Int) : Key), V.ref y.2).1 = (.inl (y.1 : Int) : Key)) = true from decide_eq_true rfl]
      rfl
    · rw [show decide (((Sum.inl (y.1 : Int) : Key), V.ref y.2).1 = (.inl (x.1 : Int) : Key)) = false from decide_eq_false (fun q => e (Int.ofNat.inj (Sum.inl.inj q)))]
      rcases List.mem_cons.mp hx with rfl | hx
      · exact absurd rfl e
      · exact ih (List.nodup_cons.mp nd).2 hx
theorem valV_off {as : List (Nat × Addr)} {v : Nat} (h : v ∉ as.map (·.1)) : valV (as.map fun x => ((.inl (x.1 : Int) : Key), V.ref x.2)) (.inl (v : Int)) = none := valV_none (by
  intro kv hk e
  obtain ⟨x, hx, rfl⟩ := List.mem_map.mp hk
  exact h (List.mem_map.mpr ⟨x, hx, Int.ofNat.inj (Sum.inl.inj e)⟩))
def spRows (K : PySem.W.Frag) : Sp := fun vs H Q _ => ∃ (x : V) (n : Nat) (ps : List (Nat × Nat)), vs = [x] ∧ Im K H x (frD n ps) ∧ ps.length ≤ 10000 ∧
  ∀ (D : Addr) (as : List (Nat × Addr)) (H' : Hp), H D = none → Same H H' → RowsAt H' D as (sucs ps) → (∀ v, v ∈ as.map (·.1) ↔ ∃ w, (v, w) ∈ ps) → (∀ x ∈ as, H x.2 = none) → Q (.ref D) H'
theorem ok_rows_of (T : Top K mg) : FnOk P w K mg base CX0 1 T.f_rows_of T.d_rows_of ["frame"] (spRows K) := by
  refine T.F_rows_of.ok sc_rows_of (fun vs H Q E h => ?_) (fun cdv A outer s H vs Q E hr h => ?_)
  · obtain ⟨x, n, ps, rfl, _⟩ := h
    rfl
  obtain ⟨x, n, ps, rfl, hx, hps, k⟩ := h
  have hu64 := hr.units
  have hu := Nat.lt_of_le_of_lt (Nat.add_le_add_left (by decide : 1 ≤ 64) _) hu64
  refine ⟨_, (pss_cons (ps_set (i := 1) sc_rows_of.nd rfl (.inl rfl) pe_dnewK)
    (pss_cons (ps_for PassesOwn.never rfl (pi_tup (pe_ix ix_tup (pv 0) pe_int (fun _ _ => rfl))) (pg_tup rfl (pgs_cons (pg_name (i := 2) sc_rows_of.nd rfl (.inl rfl)) (pgs_cons (pg_name (i := 3) sc_rows_of.nd rfl (.inl rfl)) pgs_nil)))
      (pss_one (ps_expr (pe_bm PySem.F.plainAttrs_list PySem.F.slot_list_append PySem.F.type_list_append mt_append (pe_dsetd (pv 1) (pv 2) (pe_lst pa_nil) ⟨rfl, rfl, rfl, rfl⟩) (pa_cons (pv 3) pa_nil)))))
    (pss_one (ps_ret (pv 1))))), ?_⟩
  obtain ⟨a, b, ys, rfl, h1, h2, h3⟩ := im_fr hx
  intro D nD
  have s1 := same_new (o := .dK []) nD
  have hyl := h3.length
  rw [List.length_map] at hyl
  refine ⟨_, rfl, a, _, 1, .ref b, rfl, rfl, (Same.ts s1).sqT h1, atI_nat (j := 1) rfl, b, rfl, ⟨ys, (Same.ts s1).sqT h2⟩, for_tup (K := K) (a := b) (xs := ys) (fun i σ H2 => ∃ (as : List (Nat × Addr)) (v w : Option V), σ = [some (.ref a), some (.ref D), v, w] ∧ Same H H2 ∧ RowsAt H2 D as (sucs (ps.take i)) ∧ (∀ v, v ∈ as.map (·.1) ↔ ∃ w, (v, w) ∈ ps.take i) ∧ (∀ x ∈ as, H x.2 = none) ∧ as.length ≤ i)
    ⟨[], none, none, rfl, s1, ⟨upd_same, .nil, .nil, fun h => (nomatch h), fun x h => (nomatch h)⟩, fun v => ⟨fun h => (nomatch h), fun ⟨w, h⟩ => (nomatch h)⟩, fun x h => (nomatch h), Nat.le_refl _⟩ (fun i σ H2 _ h => by
      obtain ⟨_, _, _, _, h, _⟩ := h
      exact (Same.ts h).sqT h2) ?_ ?_⟩
  · rintro i y σ H2 hy ⟨as, ov, ow, rfl, s2, hR, hks, hfr, hal⟩
    obtain ⟨d, gd, idd⟩ := h3.get hy
    rw [List.getElem?_map] at gd
    cases hz : ps[i]? with
    | none => rw [hz] at gd; cases gd
    | some z =>
      rw [hz] at gd
      have ed : d = pd z := (Option.some.inj gd).symm
      subst ed
      obtain ⟨q, rfl, hq⟩ := pd_inv (idd.mono (Same.ts s2))
      obtain ⟨g1, g2, g3, g4, g5⟩ := hR
      have hi : i < ps.length := (List.getElem?_eq_some_iff.mp hz).1
      refine ⟨q, _, rfl, hq, rfl, _, _, rfl, _, _, rfl, rfl, ?_⟩
      refine ⟨_, rfl, D, rfl, .inl ⟨_, .inl g1⟩, _, rfl, (by show 0 ≤ sizeLine; decide), fun L nL => ?_⟩
      have s3 := same_new (o := .lst []) nL
      have nDL : D ≠ L := ne_of_none g1 nL
      have g1' := s3 _ _ g1
      have hsn : ∀ v, sucs (ps.take (i + 1)) v = sucs (ps.take i) v ++ if z.1 = v then [z.2] else [] := fun v => by rw [take_snoc hz, sucs_snoc]
      have hmem : ∀ v w, (v, w) ∈ ps.take (i + 1) ↔ (v, w) ∈ ps.take i ∨ (v, w) = z := fun v w => by
        rw [take_snoc hz, List.mem_append, List.mem_singleton]
      have sl : ∀ v, (sucs (ps.take i) v).length ≤ 10000 := fun v => by
        unfold sucs
        rw [List.length_map]
        refine Nat.le_trans (List.length_filter_le _ _) ?_
        rw [List.length_take]
        omega
      refine ⟨_, .inl (z.1 : Int), g1', rfl, (by rw [List.length_map]; exact Nat.lt_of_le_of_lt (show as.length ≤ 10000 by omega) (by decide)), fun u hu2 => ?_, fun hn => ?_⟩
      -- there is a row
      · obtain ⟨x, hx, hx1⟩ : ∃ x ∈ as, x.1 = z.1 := by
          refine Classical.byContradiction fun hno => ?_
          rw [valV_off (fun hm => hno (by
            obtain ⟨x, hx, e⟩ := List.mem_map.mp hm
            exact ⟨x, hx, e⟩))] at hu2
          cases hu2
        have hv := valV_at g2 hx
        rw [hx1] at hv
        have eu : u = .ref x.2 := Option.some.inj (hu2.symm.trans hv)
        subst eu
        have hrow := s3 _ _ (g5 x hx)
        refine ⟨.inl ⟨rfl, _, .inl (.inl hrow)⟩, _, rfl, x.2, _, _, rfl, rfl, hrow, Nat.lt_of_le_of_lt (show _ ≤ 10000 by rw [List.length_map]; exact sl _) (by decide), ?_⟩
        have nx : ∀ y ∈ as, y ≠ x → y.2 ≠ x.2 := fun y hy hne e => hne (by
          obtain ⟨j, hj⟩ := List.getElem?_of_mem hy
          obtain ⟨l, hl⟩ := List.getElem?_of_mem hx
          have := (List.getElem?_inj (i := j) (j := l) (by rw [List.length_map]; exact (List.getElem?_eq_some_iff.mp hj).1) g3).mp (by rw [List.getElem?_map, List.getElem?_map, hj, hl]; exact congrArg some e)
          subst this
          exact Option.some.inj (hj.symm.trans hl))
        refine ⟨as, _, _, rfl, fun c o hc => ?_, ⟨?_, g2, g3, g4, fun y hy => ?_⟩, fun v => ?_, hfr, by omega⟩
        · have : c ≠ x.2 := ne_of_none hc (hfr x hx)
          rw [upd_ne this]
          exact s3 _ _ (s2 _ _ hc)
        · rw [upd_ne (show D ≠ x.2 from fun e => g4 (by rw [e]; exact List.mem_map.mpr ⟨x, hx, rfl⟩))]
          exact g1'
        · by_cases e : y = x
          · subst e
            rw [upd_same, hsn, if_pos hx1.symm, List.map_append]
            rfl
          · have ne1 : z.1 ≠ y.1 := fun q => e (by
              obtain ⟨j, hj⟩ := List.getElem?_of_mem hy
              obtain ⟨l, hl⟩ := List.getElem?_of_mem hx
              have := (List.getElem?_inj (i := j) (j := l) (by rw [List.length_map]; exact (List.getElem?_eq_some_iff.mp hj).1) g2).mp (by rw [List.getElem?_map, List.getElem?_map, hj, hl]; exact congrArg some (q.symm.trans hx1.symm))
              subst this
              exact Option.some.inj (hj.symm.trans hl))
            rw [upd_ne (nx y hy e), hsn, if_neg ne1, List.append_nil]
            exact s3 _ _ (g5 y hy)
        · rw [hks]
          constructor
          · rintro ⟨w, hw⟩
            exact ⟨w, (hmem v w).mpr (.inl hw)⟩
          · rintro ⟨w, hw⟩
            rcases (hmem v w).mp hw with hw | hw
            · exact ⟨w, hw⟩
            · have : v = x.1 := by rw [hx1, ← hw]
              rw [this]
              exact (hks x.1).mp (List.mem_map.mpr ⟨x, hx, rfl⟩)
      -- a new row
      · have hoff : z.1 ∉ as.map (·.1) := fun hm => by
          obtain ⟨x, hx, e⟩ := List.mem_map.mp hm
          have := valV_at g2 hx
          rw [e, hn] at this
          cases this
        have nLa : L ∉ as.map (·.2) := fun hm => by
          obtain ⟨x, hx, e⟩ := List.mem_map.mp hm
          have := g5 x hx
          rw [e, nL] at this
          cases this
        have hL4 : (upd (upd H2 L (.lst [])) D (.dK (putK (as.map fun x => ((.inl (x.1 : Int) : Key), V.ref x.2)) (.inl (z.1 : Int)) (.ref L)))) L = some (.lst []) := by
          rw [upd_ne nDL.symm]
          exact upd_same
        refine ⟨.inl ⟨rfl, _, .inl (.inl hL4)⟩, _, rfl, L, _, _, rfl, rfl, hL4, by show 0 < sizeLine; decide, ?_⟩
        have e0 : sucs (ps.take i) z.1 = [] := by
          unfold sucs
          rw [List.map_eq_nil_iff, List.filter_eq_nil_iff]
          intro x hx q
          exact hoff ((hks z.1).mpr ⟨x.2, by
            have : x.1 = z.1 := of_decide_eq_true q
            rw [← this]
            exact hx⟩)
        refine ⟨as ++ [(z.1, L)], _, _, rfl, fun c o hc => ?_, ⟨?_, ?_, ?_, ?_, fun y hy => ?_⟩, fun v => ?_, fun y hy => ?_, by rw [List.length_append, List.length_singleton]; omega⟩
        · have c2 := s2 _ _ hc
          rw [upd_ne (ne_of_none c2 nL), upd_ne (ne_of_none hc nD)]
          exact s3 _ _ c2
        · rw [upd_ne nDL, upd_same, putK_new _ hn, List.map_append]
          rfl
        · rw [List.map_append]
          refine List.nodup_append.mpr ⟨g2, List.nodup_cons.mpr ⟨fun h => (nomatch h), .nil⟩, fun c hc u hu e => hoff ?_⟩
          have e2 : c = z.1 := e.trans (List.mem_singleton.mp hu)
          exact e2 ▸ hc
        · rw [List.map_append]
          refine List.nodup_append.mpr ⟨g3, List.nodup_cons.mpr ⟨fun h => (nomatch h), .nil⟩, fun c hc u hu e => nLa ?_⟩
          have e2 : c = L := e.trans (List.mem_singleton.mp hu)
          exact e2 ▸ hc
        · rw [List.map_append]
          intro hm
          rcases List.mem_append.mp hm with hm | hm
          · exact g4 hm
          · exact nDL (List.mem_singleton.mp hm)
        · rcases List.mem_append.mp hy with hy | hy
          · have n1 : y.2 ≠ L := fun e => nLa (e ▸ List.mem_map.mpr ⟨y, hy, rfl⟩)
            have n2 : y.2 ≠ D := fun e => g4 (e ▸ List.mem_map.mpr ⟨y, hy, rfl⟩)
            have n3 : z.1 ≠ y.1 := fun e => hoff (e ▸ List.mem_map.mpr ⟨y, hy, rfl⟩)
            rw [upd_ne n1, upd_ne n2, hsn, if_neg n3, List.append_nil]
            exact s3 _ _ (g5 y hy)
          · rw [List.mem_singleton.mp hy]
            show upd _ L _ L = _
            rw [upd_same, hsn, e0, if_pos rfl]
            rfl
        · rw [List.map_append, List.mem_append, hks]
          constructor
          · rintro (⟨w, hw⟩ | hw)
            · exact ⟨w, (hmem v w).mpr (.inl hw)⟩
            · have : v = z.1 := List.mem_singleton.mp hw
              exact ⟨z.2, (hmem v z.2).mpr (.inr (by rw [this]))⟩
          · rintro ⟨w, hw⟩
            rcases (hmem v w).mp hw with hw | hw
            · exact .inl ⟨w, hw⟩
            · refine .inr (List.mem_singleton.mpr ?_)
              show v = z.1
              rw [← hw]
        · rcases List.mem_append.mp hy with hy | hy
          · exact hfr y hy
          · rw [List.mem_singleton.mp hy]
            exact s2.free nL
  · rintro σ H2 ⟨as, ov, ow, rfl, s2, hR, hks, hfr, _⟩
    rw [hyl, List.take_length] at hR hks
    exact ⟨_, rfl, k D as H2 nD s2 hR hks hfr⟩

section
variable {K : PySem.W.Frag} {σ : L2.St} {H : Hp}
theorem or_bl {ta tb : TE} {c d : Bool} {Q : VK} (ha : ∀ Q : VK, Q (.bl c) H → ta σ H Q) (hb : ∀ Q : VK, Q (.bl d) H → tb σ H Q) (q : Q (.bl (c || d)) H) : tOrV ta tb σ H Q := by
  refine ha _ ⟨c, rfl, ?_⟩
  cases c with
  | true => exact iteT q
  | false => exact iteF (hb _ q)
theorem and_bl {ta tb : TE} {c d : Bool} {Q : VK} (ha : ∀ Q : VK, Q (.bl c) H → ta σ H Q) (hb : ∀ Q : VK, Q (.bl d) H → tb σ H Q) (q : Q (.bl (c && d)) H) : tAndV ta tb σ H Q := by
  refine ha _ ⟨c, rfl, ?_⟩
  cases c with
  | true => exact iteT (hb _ q)
  | false => exact iteF q
end

/-! ### what a frame is -/
theorem zd_inv {K : PySem.W.Frag} {H : Hp} {v : V} {x : Int × Int} (h : Im K H v (zd x)) : ∃ a, v = .ref a ∧ SqT K H a [.int x.1, .int x.2] := by
  unfold zd at h
  cases h with
  | tup h1 h2 =>
    cases h2 with
    | cons h3 h4 =>
      cases h3
      cases h4 with
      | cons h5 h6 =>
        cases h5
        cases h6
        exact ⟨_, rfl, h1⟩
def spInt (K : PySem.W.Frag) : Sp := fun vs H Q _ => ∃ i : Int, vs = [.int i] ∧ Q (.bl true) H
theorem ok_is_integer (T : Top K mg) : FnOk P w K mg base CX0 1 T.f_is_integer T.d_is_integer ["value"] (spInt K) := by
  refine T.F_is_integer.ok sc_is_integer (fun vs H Q E h => ?_) (fun cdv A outer s H vs Q E hr h => ?_)
  · obtain ⟨i, rfl, _⟩ := h
    rfl
  obtain ⟨i, rfl, k⟩ := h
  refine ⟨_, (pss_one (ps_ret (pe_and (pe_callB call_isi (by rfl) T.z_isinstance (by decide +kernel) (pa_cons (pv 0) (pa_cons (pe_bltn (v := .ty "int") (by rfl) T.z_int (by decide +kernel) rfl) pa_nil))) (pe_one (pe_not (pe_callB call_isi (by rfl) T.z_isinstance (by decide +kernel) (pa_cons (pv 0) (pa_cons (pe_bltn (v := .ty "bool") (by rfl) T.z_bool (by decide +kernel) rfl) pa_nil)))))))), ?_⟩
  have t : TyX K H (.int i) (.type "int") := .base (.int i)
  refine ⟨_, rfl, _, _, _, _, _, rfl, .ty _, t, kB true (by decide +kernel), true, rfl, iteT ⟨_, rfl, _, _, _, _, _, rfl, .ty _, t, kB false (by decide +kernel), _, rfl, k⟩⟩
theorem st_chain {σ : L2.St} {H : Hp} {Q : VK} {i j : Nat} {v wn : Int} (h1 : σ[i]? = some (some (.int v))) (h2 : σ[j]? = some (some (.int wn))) (q : Q (.bl (decide (0 ≤ v) && decide (v < wn))) H) :
    tChain (rI0 fun i j => .bl (decide (i ≤ j))) (rI0 fun i j => .bl (decide (i < j))) (tC (.int 0)) (tVar i) (tVar j) σ H Q := by
  refine ⟨_, h1, 0, v, rfl, rfl, _, rfl, ?_⟩
  cases hd : decide (0 ≤ v) with
  | true =>
    rw [hd] at q
    exact iteT ⟨_, h2, v, wn, rfl, rfl, q⟩
  | false =>
    rw [hd] at q
    exact iteF q
def okP (wn : Int) (z : Int × Int) : Bool := (decide (0 ≤ z.1) && decide (z.1 < wn)) && (decide (0 ≤ z.2) && decide (z.2 < wn))
def spPair (K : PySem.W.Frag) : Sp := fun vs H Q _ => ∃ (x : V) (z : Int × Int) (wn : Int), vs = [x, .int wn] ∧ Im K H x (zd z) ∧ Q (.bl (okP wn z)) H
theorem ok_is_pair (T : Top K mg) : FnOk P w K mg base CX0 2 T.f_is_pair T.d_is_pair ["pair", "worlds"] (spPair K) := by
  have G_is_integer : FnOk P w K mg base CX0 1 T.f_is_integer T.d_is_integer ["value"] (spInt K) := ok_is_integer T
  refine T.F_is_pair.ok sc_is_pair (fun vs H Q E h => ?_) (fun cdv A outer s H vs Q E hr h => ?_)
  · obtain ⟨x, z, wn, rfl, _⟩ := h
    rfl
  obtain ⟨x, z, wn, rfl, hx, k⟩ := h
  refine ⟨_, (pss_cons (ps_if (PW.pt (pw_or (pt_not (pt_val (pe_callB call_isi (by rfl) T.z_isinstance (by decide +kernel) (pa_cons (pv 0) (pa_cons (pe_bltn (v := .ty "tuple") (by rfl) T.z_tuple (by decide +kernel) rfl) pa_nil))))) (pw_or1 (pt_cmpR op_ne (pe_callB call_len_seq (by rfl) T.z_len PySem.boot_len (pa_cons (pv 0) pa_nil)) pe_int (nomark _)))))
      (pss_one (ps_ret pe_bl))
      pss_nil)
    (pss_cons (ps_asg (pv 0) (pg_tup rfl (pgs_cons (pg_name (i := 2) sc_is_pair.nd rfl (.inl rfl)) (pgs_cons (pg_name (i := 3) sc_is_pair.nd rfl (.inl rfl)) pgs_nil))))
    (pss_one (ps_ret (pe_and (pe_call G_is_integer (hr.mono (by omega)) (by rfl) T.m_is_integer T.F_is_integer.kp T.b_is_integer .nil pass0 (pa_cons (pv 2) pa_nil)) (pe_and (pe_call G_is_integer (hr.mono (by omega)) (by rfl) T.m_is_integer T.F_is_integer.kp T.b_is_integer .nil pass0 (pa_cons (pv 3) pa_nil)) (pe_and (pe_chain op_le op_lt pe_int (pv 2) (pv 1)) (pe_one (pe_chain op_le op_lt pe_int (pv 3) (pv 1)))))))))), ?_⟩
  obtain ⟨a, rfl, ha⟩ := zd_inv hx
  have t := ty_tup ha
  refine ⟨_, rfl, _, _, _, _, _, rfl, .ty _, t, kB true (by decide +kernel), _, rfl, iteF ?_⟩
  refine ⟨_, rfl, a, _, rfl, .inr ha, rfl, _, rfl, iteNS rfl ?_⟩
  refine ⟨_, rfl, a, _, rfl, ha, rfl, _, _, rfl, _, _, rfl, rfl, ?_⟩
  dsimp only [tRet]
  refine and_bl (c := true) (d := okP wn z) (fun Q q => ⟨_, rfl, _, rfl, q⟩) (fun Q q => and_bl (c := true) (d := okP wn z) (fun Q q => ⟨_, rfl, _, rfl, q⟩) (fun Q q => and_bl (fun Q q => st_chain rfl rfl q) (fun Q q => st_chain rfl rfl q) q) q) ?_
  exact k
def FrOk (wn : Int) (zs : List (Int × Int)) : Prop := 1 ≤ wn ∧ (∀ z ∈ zs, okP wn z = true) ∧ ∀ k z u, zs[k]? = some z → zs[k + 1]? = some u → zlt z u = true
def frZ (wn : Int) (zs : List (Int × Int)) : PyData := .tuple [.int wn, .tuple (zs.map zd)]
theorem im_frZ {K : PySem.W.Frag} {H : Hp} {x : V} {n : Int} {ps : List (Int × Int)} (h : Im K H x (frZ n ps)) : ∃ (a b : Addr) (ys : List V), x = .ref a ∧ SqT K H a [.int n, .ref b] ∧ SqT K H b ys ∧ ImAll K H ys (ps.map zd) := by
  unfold frZ at h
  cases h with
  | tup h1 h2 =>
    cases h2 with
    | cons h3 h4 =>
      cases h3
      cases h4 with
      | cons h5 h6 =>
        cases h6
        cases h5 with
        | tup h7 h8 => exact ⟨_, _, _, rfl, h1, h7, h8⟩
def spIsFrame (K : PySem.W.Frag) : Sp := fun vs H Q _ => ∃ (x : V) (wn : Int) (zs : List (Int × Int)), vs = [x] ∧ Im K H x (frZ wn zs) ∧ zs.length ≤ 1000 ∧ ∀ b : Bool, (b = true ↔ FrOk wn zs) → Q (.bl b) H
theorem ok_is_frame (T : Top K mg) : FnOk P w K mg base CX0 3 T.f_is_frame T.d_is_frame ["frame"] (spIsFrame K) := by
  have G_is_integer : FnOk P w K mg base CX0 1 T.f_is_integer T.d_is_integer ["value"] (spInt K) := ok_is_integer T
  have G_is_pair : FnOk P w K mg base CX0 2 T.f_is_pair T.d_is_pair ["pair", "worlds"] (spPair K) := ok_is_pair T
  refine T.F_is_frame.ok sc_is_frame (fun vs H Q E h => ?_) (fun cdv A outer s H vs Q E hr h => ?_)
  · obtain ⟨x, n, ps, rfl, _⟩ := h
    rfl
  obtain ⟨x, wn, zs, rfl, hx, hl, k⟩ := h
  have hu64 := hr.units
  refine ⟨_, (pss_cons (ps_if (PW.pt (pw_or (pt_not (pt_val (pe_callB call_isi (by rfl) T.z_isinstance (by decide +kernel) (pa_cons (pv 0) (pa_cons (pe_bltn (v := .ty "tuple") (by rfl) T.z_tuple (by decide +kernel) rfl) pa_nil))))) (pw_or1 (pt_cmpR op_ne (pe_callB call_len_seq (by rfl) T.z_len PySem.boot_len (pa_cons (pv 0) pa_nil)) pe_int (nomark _)))))
      (pss_one (ps_ret pe_bl))
      pss_nil)
    (pss_cons (ps_asg (pv 0) (pg_tup rfl (pgs_cons (pg_name (i := 1) sc_is_frame.nd rfl (.inl rfl)) (pgs_cons (pg_name (i := 2) sc_is_frame.nd rfl (.inl rfl)) pgs_nil))))
    (pss_cons (ps_if (PW.pt (pw_or (pt_not (pt_val (pe_call G_is_integer (hr.mono (by omega)) (by rfl) T.m_is_integer T.F_is_integer.kp T.b_is_integer .nil pass0 (pa_cons (pv 1) pa_nil)))) (pw_or (pt_cmpR op_lt (pv 1) pe_int (nomark _)) (pw_or1 (pt_not (pt_val (pe_callB call_isi (by rfl) T.z_isinstance (by decide +kernel) (pa_cons (pv 2) (pa_cons (pe_bltn (v := .ty "tuple") (by rfl) T.z_tuple (by decide +kernel) rfl) pa_nil)))))))))
      (pss_one (ps_ret pe_bl))
      pss_nil)
    (pss_cons (ps_for PassesOwn.never rfl (pi_tup (pv 2)) (pg_name (i := 3) sc_is_frame.nd rfl (.inl rfl))
      (pss_one (ps_if (pt_not (pt_val (pe_call G_is_pair (hr.mono (by omega)) (by rfl) T.m_is_pair T.F_is_pair.kp T.b_is_pair .nil pass0 (pa_cons (pv 3) (pa_cons (pv 1) pa_nil)))))
      (pss_one (ps_ret pe_bl))
      pss_nil)))
    (pss_cons (ps_for PassesOwn.never rfl (pi_range2 (by rfl) T.z_range (pa_cons pe_int (pa_cons (pe_callB call_len_seq (by rfl) T.z_len PySem.boot_len (pa_cons (pv 2) pa_nil)) pa_nil))) (pg_name (i := 4) sc_is_frame.nd rfl (.inl rfl))
      (pss_one (ps_if (pt_cmpR (op_geZ hu64) (pe_ix ix_tup (pv 2) (pe_op op_sub (pv 4) pe_int) (fun _ _ => rfl)) (pe_ix ix_tup (pv 2) (pv 4) (fun _ _ => rfl)) (nomark _))
      (pss_one (ps_ret pe_bl))
      pss_nil)))
    (pss_one (ps_ret pe_bl))))))), ?_⟩
  obtain ⟨a, b, ys, rfl, h1, h2, h3⟩ := im_frZ hx
  have t := ty_tup h1
  have t2 := ty_tup h2
  have hyl := h3.length
  rw [List.length_map] at hyl
  refine ⟨_, rfl, _, _, _, _, _, rfl, .ty _, t, kB true (by decide +kernel), _, rfl, iteF ?_⟩
  refine ⟨_, rfl, a, _, rfl, .inr h1, rfl, _, rfl, iteNS rfl ?_⟩
  refine ⟨_, rfl, a, _, rfl, h1, rfl, _, _, rfl, _, _, rfl, rfl, ?_⟩
  refine ⟨_, rfl, _, rfl, _, rfl, iteF ⟨_, rfl, _, _, rfl, rfl, _, rfl, ite2 (fun c => ?_) (fun c => ?_)⟩⟩
  · refine iteT (k false ⟨fun h => (nomatch h), fun h => ?_⟩)
    have := of_decide_eq_true c
    have := h.1
    omega
  have hw : 1 ≤ wn := by
    have := of_decide_eq_false (Bool.eq_false_iff.mpr c)
    omega
  refine ⟨_, rfl, _, _, _, _, _, rfl, .ty _, t2, kB true (by decide +kernel), _, rfl, iteF ?_⟩
  -- each pair
  refine ⟨_, rfl, b, rfl, ⟨_, h2⟩, for_tup (K := K) (a := b) (xs := ys) (fun i σ H2 => ∃ v3 : Option V, σ = [some (.ref a), some (.int wn), some (.ref b), v3, none] ∧ H2 = H ∧ ∀ z ∈ zs.take i, okP wn z = true)
    ⟨none, rfl, rfl, fun z hz => (nomatch hz)⟩ (fun i σ H2 _ h => by
      obtain ⟨_, _, rfl, _⟩ := h
      exact h2) ?_ ?_⟩
  · rintro i y σ H2 hy ⟨v3, rfl, rfl, hok⟩
    obtain ⟨d, gd, idd⟩ := h3.get hy
    rw [List.getElem?_map] at gd
    cases hz : zs[i]? with
    | none => rw [hz] at gd; cases gd
    | some z =>
      rw [hz] at gd
      have ed : d = zd z := (Option.some.inj gd).symm
      subst ed
      refine ⟨_, rfl, _, rfl, y, z, wn, rfl, idd, _, rfl, ?_⟩
      cases ho : okP wn z with
      | true =>
        refine iteF ⟨_, rfl, rfl, fun u hu => ?_⟩
        rw [take_snoc hz] at hu
        rcases List.mem_append.mp hu with hu | hu
        · exact hok u hu
        · rw [List.mem_singleton.mp hu]
          exact ho
      | false =>
        refine iteT (k false ⟨fun h => (nomatch h), fun h => ?_⟩)
        rw [h.2.1 z (List.mem_of_getElem? hz)] at ho
        cases ho
  rintro σ H2 ⟨v3, rfl, rfl, hok⟩
  rw [hyl, List.take_length] at hok
  -- neighbours
  refine ⟨_, rfl, b, ys, rfl, .inr h2, 1, (ys.length : Int), rfl, ⟨by decide, by decide, by omega, by omega⟩, for_range (lo := 1) (n := ((ys.length : Int) - 1).toNat) (fun i σ H3 => ∃ v3 v4 : Option V, σ = [some (.ref a), some (.int wn), some (.ref b), v3, v4] ∧ H3 = H2 ∧ ∀ k z u, k < i → zs[k]? = some z → zs[k + 1]? = some u → zlt z u = true)
    ⟨v3, none, rfl, rfl, fun k z u hk => absurd hk (Nat.not_lt_zero _)⟩ ?_ ?_⟩
  · rintro i σ H3 hi ⟨v3, v4, rfl, rfl, hlt⟩
    have hi2 : i + 1 < zs.length := by omega
    obtain ⟨y1, gy1⟩ : ∃ y, ys[i]? = some y := ⟨_, List.getElem?_eq_getElem (by omega)⟩
    obtain ⟨y2, gy2⟩ : ∃ y, ys[i + 1]? = some y := ⟨_, List.getElem?_eq_getElem (by omega)⟩
    obtain ⟨d1, gd1, i1⟩ := h3.get gy1
    obtain ⟨d2, gd2, i2⟩ := h3.get gy2
    have hz1 := List.getElem?_eq_getElem (l := zs) (i := i) (by omega)
    have hz2 := List.getElem?_eq_getElem (l := zs) (i := i + 1) hi2
    rw [List.getElem?_map, hz1] at gd1
    rw [List.getElem?_map, hz2] at gd2
    generalize zs[i] = z1 at hz1 gd1
    generalize zs[i + 1] = z2 at hz2 gd2
    have ed1 : d1 = zd z1 := (Option.some.inj gd1).symm
    have ed2 : d2 = zd z2 := (Option.some.inj gd2).symm
    subst ed1
    subst ed2
    have a1 : atI ys ((1 : Int) + (i : Nat) - 1) = some y1 := by
      rw [show (1 : Int) + (i : Nat) - 1 = ((i : Nat) : Int) by omega]
      exact atI_nat gy1
    have a2 : atI ys ((1 : Int) + (i : Nat)) = some y2 := by
      rw [show (1 : Int) + (i : Nat) = ((i + 1 : Nat) : Int) by omega]
      exact atI_nat gy2
    refine ⟨_, rfl, _, rfl, _, _, rfl, rfl, b, _, _, y1, rfl, rfl, h2, a1, _, rfl, _, rfl, b, _, _, y2, rfl, rfl, h2, a2, z1, z2, i1, i2, _, rfl, ?_⟩
    cases hz : zlt z1 z2 with
    | true =>
      refine iteF ⟨_, _, rfl, rfl, fun k z u hk e1 e2 => ?_⟩
      by_cases e : k < i
      · exact hlt k z u e e1 e2
      · have : k = i := by omega
        subst this
        rw [hz1] at e1
        rw [hz2] at e2
        cases e1
        cases e2
        exact hz
    | false =>
      refine iteT (k false ⟨fun h => (nomatch h), fun h => ?_⟩)
      rw [h.2.2 i z1 z2 hz1 hz2] at hz
      cases hz
  · rintro σ H3 ⟨v3, v4, rfl, rfl, hlt⟩
    refine k true ⟨fun _ => ⟨hw, hok, fun k z u e1 e2 => hlt k z u ?_ e1 e2⟩, fun _ => rfl⟩
    have := (List.getElem?_eq_some_iff.mp e2).1
    omega

theorem dc_it {J : It} {n : Nat} {G : Hp → Prop} {Y : Nat → Hp → V → Hp → Prop} (w : Walk J n G Y) {g : TG} {tt : TT} {tk tv : TE} {vs : List Nat} {σ : L2.St} {H1 : Hp} {D : Addr} {Qd : Hp → Prop} (Pv : Nat → Hp → Prop) (h0 : Pv 0 (upd H1 D (.dK []))) (hG : ∀ i H, i ≤ n → Pv i H → G H)
    (hs : ∀ i x H H', i < n → Pv i H → Y i H x H' → g x (wipe σ vs) H' fun σ2 H2 => wipe σ2 vs = wipe σ vs ∧ tt σ2 H2 fun b H3 => if b = true then tk σ2 H3 fun y H4 => tv σ2 H4 fun z H5 => ∃ kvs k, y = kV k ∧ H5 D = some (.dK kvs) ∧ kvs.length < sizeLine ∧ Pv (i + 1) (upd H5 D (.dK (putK kvs k z))) else Pv (i + 1) H3)
    (hd : ∀ H, Pv n H → Qd H) :
    ∃ W : Nat → Nat → Hp → Prop, (∃ m, W 0 m (upd H1 D (.dK []))) ∧ ∀ i m H, W i m H → (J.stop i H ∧ Qd H) ∨ (J.go i H ∧ ∃ Nx : Hp → Prop, (∀ H', Nx H' → ∃ m', m' < m ∧ W (i + 1) m' H') ∧ ∀ x H', J.yld i H x H' → g x (wipe σ vs) H' fun σ2 H2 => wipe σ2 vs = wipe σ vs ∧ tt σ2 H2 fun b H3 =>
      if b = true then tk σ2 H3 fun y H4 => tv σ2 H4 fun z H5 => ∃ kvs k, y = kV k ∧ H5 D = some (.dK kvs) ∧ kvs.length < sizeLine ∧ Nx (upd H5 D (.dK (putK kvs k z))) else Nx H3) := by
  refine ⟨fun i m H => m = n - i ∧ i ≤ n ∧ Pv i H, ⟨n, by simp, Nat.zero_le _, h0⟩, ?_⟩
  rintro i m H ⟨rfl, hi, p⟩
  have q := hG i H hi p
  by_cases hlt : i < n
  · exact .inr ⟨w.goes i H hlt q, Pv (i + 1), fun H' p' => ⟨n - (i + 1), by omega, rfl, hlt, p'⟩, fun x H' y => hs i x H H' hlt p (w.yields i H x H' hlt q y)⟩
  · have e : i = n := by omega
    subst e
    exact .inl ⟨w.stops H q, hd H p⟩
theorem TS.of_other {H : Hp} {d : Addr} {o : Obj} {kvs kvs' : List (Key × V)} (h : H d = some (.frz o (.dK kvs))) : TS H (upd H d (.dK kvs')) := TS.but h (fun _ e => nomatch e) (fun _ _ e => nomatch e) fun c o' r n => by
  rw [upd_ne n]
  exact r
def PAsc (ps : List (Nat × Nat)) : Prop := ps.Pairwise fun x y => x.1 < y.1 ∨ (x.1 = y.1 ∧ x.2 < y.2)
theorem grid_asc (a b : Nat) : PAsc (grid a b) := by
  induction a with
  | zero => exact .nil
  | succ a ih =>
    rw [grid_succ]
    refine List.pairwise_append.mpr ⟨ih, ?_, fun x hx y hy => .inl ?_⟩
    · rw [List.pairwise_map]
      exact List.pairwise_lt_range.imp fun q => .inr ⟨rfl, q⟩
    · obtain ⟨w, _, rfl⟩ := List.mem_map.mp hy
      exact (grid_mem.mp hx).1
theorem frP_asc (n : Nat) (R : Nat → Nat → Bool) : PAsc (frP n R) := (grid_asc n n).filter _
theorem frP_mem {n : Nat} {R : Nat → Nat → Bool} {a b : Nat} : (a, b) ∈ frP n R ↔ a < n ∧ b < n ∧ R a b = true := by
  unfold frP
  rw [List.mem_filter, grid_mem, and_assoc]
theorem pasc_nodup {l : List (Nat × Nat)} (h : PAsc l) : l.Nodup := h.imp fun {x y} q e => by
  subst e
  omega
theorem frP_len (n : Nat) (R : Nat → Nat → Bool) : (frP n R).length ≤ n * n := by
  have := List.length_filter_le (fun x : Nat × Nat => R x.1 x.2) (grid n n)
  rw [grid_len] at this
  exact this
def toZ (x : Nat × Nat) : Int × Int := ((x.1 : Int), (x.2 : Int))
theorem pd_toZ (l : List (Nat × Nat)) : l.map pd = (l.map toZ).map zd := by
  rw [List.map_map]
  rfl
def ZAsc (zs : List (Int × Int)) : Prop := zs.Pairwise fun z u => zlt z u = true
theorem zasc_of {l : List (Nat × Nat)} (h : PAsc l) : ZAsc (l.map toZ) := by
  unfold ZAsc
  rw [List.pairwise_map]
  refine h.imp fun {x y} q => ?_
  unfold zlt toZ
  rcases q with q | ⟨q1, q2⟩
  · rw [if_neg (by show (x.1 : Int) ≠ (y.1 : Int); omega)]
    exact decide_eq_true (by show (x.1 : Int) < (y.1 : Int); omega)
  · rw [if_pos (by show (x.1 : Int) = (y.1 : Int); omega)]
    exact decide_eq_true (by show (x.2 : Int) < (y.2 : Int); omega)
theorem zlt_irrefl (z : Int × Int) : zlt z z = false := by
  unfold zlt
  rw [if_pos rfl]
  exact decide_eq_false (by omega)
theorem zlt_asymm {z u : Int × Int} (h : zlt z u = true) : zlt u z = false := by
  unfold zlt at h ⊢
  by_cases e : z.1 = u.1
  · rw [if_pos e] at h
    rw [if_pos e.symm]
    have := of_decide_eq_true h
    exact decide_eq_false (by omega)
  · rw [if_neg e] at h
    rw [if_neg (fun q => e q.symm)]
    have := of_decide_eq_true h
    exact decide_eq_false (by omega)
theorem zasc_get {zs : List (Int × Int)} (h : ZAsc zs) {i j : Nat} {z u : Int × Int} (hij : i < j) (h1 : zs[i]? = some z) (h2 : zs[j]? = some u) : zlt z u = true := by
  obtain ⟨i1, e1⟩ := List.getElem?_eq_some_iff.mp h1
  obtain ⟨i2, e2⟩ := List.getElem?_eq_some_iff.mp h2
  have := List.pairwise_iff_getElem.mp h i j i1 i2 hij
  rw [e1, e2] at this
  exact this
theorem frok_P {n : Nat} {R : Nat → Nat → Bool} (hn : 1 ≤ n) : FrOk (n : Int) ((frP n R).map toZ) := by
  refine ⟨by omega, fun z hz => ?_, fun k z u h1 h2 => zasc_get (zasc_of (frP_asc n R)) (Nat.lt_succ_self k) h1 h2⟩
  obtain ⟨x, hx, rfl⟩ := List.mem_map.mp hz
  have := frP_mem.mp (show (x.1, x.2) ∈ frP n R from hx)
  unfold okP toZ
  rw [decide_eq_true (by show (0 : Int) ≤ (x.1 : Int); omega), decide_eq_true (by show (x.1 : Int) < (n : Int); omega), decide_eq_true (by show (0 : Int) ≤ (x.2 : Int); omega), decide_eq_true (by show (x.2 : Int) < (n : Int); omega)]
  rfl
theorem im_zd {K : PySem.W.Frag} {H : Hp} {p : Addr} {x : Int × Int} (h : H p = some (.tup [.int x.1, .int x.2])) : Im K H (.ref p) (zd x) := .tup (SqT.of h) (.cons (.int _) (.cons (.int _) .nil))
theorem okP_no {wn : Int} {z : Int × Int} (h : ¬ (((0 ≤ z.1) ∧ z.1 < wn) ∧ (0 ≤ z.2) ∧ z.2 < wn)) : okP wn z = false := by
  refine Bool.eq_false_iff.mpr fun e => h ?_
  unfold okP at e
  simpa only [Bool.and_eq_true, decide_eq_true_eq] using e
theorem frok_no {wn : Int} {zs : List (Int × Int)} {k : Nat} {z u : Int × Int} (h1 : zs[k]? = some z) (h2 : zs[k + 1]? = some u) (h3 : zlt z u = false) : false = true ↔ FrOk wn zs :=
  ⟨fun h => (nomatch h), fun h => by
    rw [h.2.2 k z u h1 h2] at h3
    cases h3⟩

/-! ### small things for the law -/
theorem asc_uniq {α : Type} {lt : α → α → Prop} (irr : ∀ x, ¬ lt x x) (asy : ∀ x y, lt x y → ¬ lt y x) : ∀ {l m : List α}, l.Pairwise lt → m.Pairwise lt → (∀ x, x ∈ l ↔ x ∈ m) → l = m
  | [], [], _, _, _ => rfl
  | [], y :: m, _, _, h => absurd ((h y).mpr List.mem_cons_self) (by simp)
  | x :: l, [], _, _, h => absurd ((h x).mp List.mem_cons_self) (by simp)
  | x :: l, y :: m, h1, h2, h => by
    obtain ⟨a1, a2⟩ := List.pairwise_cons.mp h1
    obtain ⟨b1, b2⟩ := List.pairwise_cons.mp h2
    have e : x = y := by
      rcases List.mem_cons.mp ((h x).mp List.mem_cons_self) with e | hx
      · exact e
      · rcases List.mem_cons.mp ((h y).mpr List.mem_cons_self) with e | hy
        · exact e.symm
        · exact absurd (a1 y hy) (asy _ _ (b1 x hx))
    subst e
    rw [asc_uniq irr asy a2 b2 fun z => ?_]
    constructor
    · intro hz
      rcases List.mem_cons.mp ((h z).mp (List.mem_cons_of_mem _ hz)) with e | q
      · subst e
        exact absurd (a1 z hz) (irr z)
      · exact q
    · intro hz
      rcases List.mem_cons.mp ((h z).mpr (List.mem_cons_of_mem _ hz)) with e | q
      · subst e
        exact absurd (b1 z hz) (irr z)
      · exact q
theorem sucs_frP {n : Nat} {R : Nat → Nat → Bool} {v : Nat} (hv : v < n) : sucs (frP n R) v = (List.range n).filter (R v) := by
  refine asc_uniq (lt := (· < ·)) (fun x => Nat.lt_irrefl x) (fun x y h => Nat.not_lt.mpr (Nat.le_of_lt h)) ?_ (List.pairwise_lt_range.filter _) fun w => ?_
  · unfold sucs
    rw [List.pairwise_map]
    refine List.Pairwise.imp_of_mem (fun {x y} hx hy h => ?_) ((frP_asc n R).filter _)
    have e1 : x.1 = v := of_decide_eq_true (List.mem_filter.mp hx).2
    have e2 : y.1 = v := of_decide_eq_true (List.mem_filter.mp hy).2
    rcases h with h | h
    · omega
    · exact h.2
  · unfold sucs
    rw [List.mem_map, List.mem_filter, List.mem_range]
    constructor
    · rintro ⟨x, hx, rfl⟩
      obtain ⟨h1, h2⟩ := List.mem_filter.mp hx
      have e1 : x.1 = v := of_decide_eq_true h2
      have := frP_mem.mp (show (x.1, x.2) ∈ frP n R from h1)
      rw [e1] at this
      exact ⟨this.2.1, this.2.2⟩
    · rintro ⟨h1, h2⟩
      exact ⟨(v, w), List.mem_filter.mpr ⟨frP_mem.mpr ⟨hv, h1, h2⟩, decide_eq_true rfl⟩, rfl⟩
theorem ints_sm (ns : List Int) (h : ns.length ≤ 1000000) : (PyData.list (ns.map PyData.int)).depth < 20 ∧ sml (.list (ns.map PyData.int)) := by
  have h1 : PyData.depthAll (ns.map PyData.int) = 0 := by
    clear h
    induction ns with
    | nil => rfl
    | cons x ns ih =>
      rw [List.map_cons, PyData.depthAll, ih]
      rfl
  have h2 : smlAll (ns.map PyData.int) := by
    clear h h1
    induction ns with
    | nil => exact True.intro
    | cons x ns ih => exact ⟨True.intro, ih⟩
  refine ⟨?_, by rw [List.length_map]; exact h, h2⟩
  rw [PyData.depth, h1]
  decide
theorem frD_small (n : Nat) {qs : List (Nat × Nat)} (h : qs.length ≤ 1000000) : (frD n qs).depth < 20 ∧ sml (frD n qs) := by
  have h1 : PyData.depthAll (qs.map pd) ≤ 1 := by
    clear h
    induction qs with
    | nil => exact Nat.zero_le _
    | cons x qs ih =>
      rw [List.map_cons, PyData.depthAll]
      exact Nat.max_le.mpr ⟨Nat.le_refl _, ih⟩
  have h2 : smlAll (qs.map pd) := by
    clear h h1
    induction qs with
    | nil => exact True.intro
    | cons x qs ih => exact ⟨⟨by show 2 ≤ 1000000; decide, True.intro, True.intro, True.intro⟩, ih⟩
  refine ⟨?_, by show 2 ≤ 1000000; decide, True.intro, ⟨by rw [List.length_map]; exact h, h2⟩, True.intro⟩
  show max 0 (max (PyData.depthAll (qs.map pd) + 1) 0) + 1 < 20
  omega

/-! ### models -/
abbrev tTru (K : PySem.W.Frag) (ta : TE) : TT := fun σ H Q => ta σ H fun x H' => ∃ k, TruV K x H' k ∧ Q k H'
/-- a dict of names to lists of numbers, each list an object of its own -/
def VdAt (H : Hp) (d : Addr) (as : List (Str × Addr × List Int)) : Prop := H d = some (.dK (as.map fun x => ((.inr x.1 : Key), V.ref x.2.1))) ∧ (as.map (·.1)).Nodup ∧ (as.map (·.2.1)).Nodup ∧ d ∉ as.map (·.2.1) ∧ ∀ x ∈ as, H x.2.1 = some (.lst (x.2.2.map V.int))
def OkV (wn : Int) (as : List (Str × Addr × List Int)) : Prop := ∀ x ∈ as, ∀ z ∈ x.2.2, 0 ≤ z ∧ z < wn
theorem vd_val {as : List (Str × Addr × List Int)} (nd : (as.map (·.1)).Nodup) {x : Str × Addr × List Int} (hx : x ∈ as) : valV (as.map fun x => ((.inr x.1 : Key), V.ref x.2.1)) (.inr x.1) = some (.ref x.2.1) := by
  induction as with
  | nil => cases hx
  | cons y r ih =>
    rw [List.map_cons, List.nodup_cons] at nd
    rcases List.mem_cons.mp hx with e | h
    · subst e
      exact valV_pos rfl
    · have ne : ¬ y.1 = x.1 := fun e => nd.1 (e ▸ List.mem_map.mpr ⟨x, h, rfl⟩)
      refine (valV_neg (fun e => ne (Sum.inr.inj e))).trans (ih nd.2 h)
theorem nm_inj {as : List (Str × Addr × List Int)} (nd : (as.map (·.1)).Nodup) {x y : Str × Addr × List Int} (hx : x ∈ as) (hy : y ∈ as) (e : x.1 = y.1) : x = y := by
  induction as with
  | nil => cases hx
  | cons z r ih =>
    rw [List.map_cons, List.nodup_cons] at nd
    rcases List.mem_cons.mp hx with ex | hx
    · rcases List.mem_cons.mp hy with ey | hy
      · rw [ex, ey]
      · exact absurd (List.mem_map.mpr ⟨y, hy, by rw [← e, ex]⟩) nd.1
    · rcases List.mem_cons.mp hy with ey | hy
      · exact absurd (List.mem_map.mpr ⟨x, hx, by rw [e, ey]⟩) nd.1
      · exact ih nd.2 hx hy
theorem vd_off {as : List (Str × Addr × List Int)} {n : Str} (h : n ∉ as.map (·.1)) : valV (as.map fun x => ((.inr x.1 : Key), V.ref x.2.1)) (.inr n) = none := valV_none (by
  intro kv hk e
  obtain ⟨x, hx, rfl⟩ := List.mem_map.mp hk
  exact h (List.mem_map.mpr ⟨x, hx, Sum.inr.inj e⟩))
theorem pf_past {f g : Str} {v x : V} {r : List (Str × V)} (h : ¬ g = f) : putF f v ((g, x) :: r) = (g, x) :: putF f v r := if_neg h
theorem pf_new {f : Str} {v : V} : putF f v [] = [(f, v)] := rfl
theorem vd_snoc (as : List (Str × Addr × List Int)) (n : Str) (p : Addr) (l : List Int) : (as ++ [(n, p, l)]).map (fun x => ((.inr x.1 : Key), V.ref x.2.1)) = as.map (fun x => ((.inr x.1 : Key), V.ref x.2.1)) ++ [(.inr n, .ref p)] := by rw [List.map_append]; rfl
theorem VdAt.put {H : Hp} {d : Addr} {as : List (Str × Addr × List Int)} {n : Str} {p : Addr} {l : List Int} (v : VdAt H d as) (hn : n ∉ as.map (·.1)) (hp : H p = some (.lst (l.map V.int))) (hm : p ∉ as.map (·.2.1)) :
    VdAt (upd H d (.dK (putK (as.map fun x => ((.inr x.1 : Key), V.ref x.2.1)) (.inr n) (.ref p)))) d (as ++ [(n, p, l)]) := by
  obtain ⟨v1, v2, v3, v4, v5⟩ := v
  have hpd : p ≠ d := fun e => by rw [e, v1] at hp; cases hp
  refine ⟨by rw [upd_same, putK_new _ (vd_off hn), vd_snoc], ?_, ?_, ?_, fun y hy => ?_⟩
  · rw [List.map_append]
    refine List.nodup_append.mpr ⟨v2, List.nodup_cons.mpr ⟨fun h => (nomatch h), .nil⟩, fun c hc u hu e => hn ?_⟩
    exact (show c = n from e.trans (List.mem_singleton.mp hu)) ▸ hc
  · rw [List.map_append]
    refine List.nodup_append.mpr ⟨v3, List.nodup_cons.mpr ⟨fun h => (nomatch h), .nil⟩, fun c hc u hu e => hm ?_⟩
    exact (show c = p from e.trans (List.mem_singleton.mp hu)) ▸ hc
  · rw [List.map_append]
    intro h
    rcases List.mem_append.mp h with h | h
    · exact v4 h
    · exact hpd (List.mem_singleton.mp h).symm
  · rcases List.mem_append.mp hy with hy | hy
    · have ny : y.2.1 ≠ d := fun e => v4 (by rw [← e]; exact List.mem_map.mpr ⟨y, hy, rfl⟩)
      rw [upd_ne ny]
      exact v5 y hy
    · rw [List.mem_singleton.mp hy]
      show upd H d _ p = _
      rw [upd_ne hpd]
      exact hp
theorem VdAt.nil {H : Hp} {d : Addr} (h : H d = some (.dK [])) : VdAt H d [] := ⟨h, .nil, .nil, fun h => (nomatch h), fun _ h => (nomatch h)⟩
theorem VdAt.keep {H H' : Hp} {d : Addr} {as : List (Str × Addr × List Int)} (v : VdAt H d as) (k : ∀ q, q = d ∨ q ∈ as.map (·.2.1) → ∀ o, H q = some o → H' q = some o) : VdAt H' d as := by
  obtain ⟨v1, v2, v3, v4, v5⟩ := v
  exact ⟨k _ (.inl rfl) _ v1, v2, v3, v4, fun y hy => k _ (.inr (List.mem_map.mpr ⟨y, hy, rfl⟩)) _ (v5 y hy)⟩
theorem VdAt.get {H : Hp} {d : Addr} {as : List (Str × Addr × List Int)} (v : VdAt H d as) {x : Str × Addr × List Int} (hx : x ∈ as) : DGet H d (.str x.1) (some (.ref x.2.1)) := .inl ⟨_, .inr x.1, .inl v.1, rfl, (vd_val v.2.1 hx).symm⟩
/-- bs: the names of as that have worlds, each with its worlds ascending -/
def TrueOf (as bs : List (Str × Addr × List Int)) : Prop := (∀ y ∈ bs, y.2.2.Pairwise (· < ·) ∧ ∃ x ∈ as, x.1 = y.1 ∧ x.2.2 ≠ [] ∧ ∀ k, k ∈ y.2.2 ↔ k ∈ x.2.2) ∧ ∀ x ∈ as, x.2.2 ≠ [] → x.1 ∈ bs.map (·.1)
/-- the model at p: its frame x, its rows, its true worlds; ad: the objects that are its own -/
def ModAt (K : PySem.W.Frag) (C : Addr) (H : Hp) (p : Addr) (x : V) (n : Nat) (ps : List (Nat × Nat)) (as : List (Str × Addr × List Int)) (ad : List Addr) : Prop :=
  ∃ (dx rp tp : Addr) (rs : List (Nat × Addr)) (bs : List (Str × Addr × List Int)), ad = p :: rp :: tp :: (rs.map (·.2) ++ bs.map (·.2.1)) ∧ H p = some (.ins C dx [("_frame", x), ("_rows", .ref rp), ("_true", .ref tp)]) ∧
    Im K H x (frD n ps) ∧ RowsAt H rp rs (sucs ps) ∧ (∀ v, v ∈ rs.map (·.1) ↔ ∃ w, (v, w) ∈ ps) ∧ VdAt H tp bs ∧ TrueOf as bs
theorem ModAt.keep {K : PySem.W.Frag} {C : Addr} {H H' : Hp} {p : Addr} {x : V} {n : Nat} {ps : List (Nat × Nat)} {as : List (Str × Addr × List Int)} {ad : List Addr} (m : ModAt K C H p x n ps as ad) (t : TS H H') (k : ∀ q ∈ ad, ∀ o, H q = some o → H' q = some o) : ModAt K C H' p x n ps as ad := by
  obtain ⟨dx, rp, tp, rs, bs, rfl, h1, h2, ⟨r1, r2, r3, r4, r5⟩, h4, ⟨v1, v2, v3, v4, v5⟩, h6⟩ := m
  refine ⟨dx, rp, tp, rs, bs, rfl, k _ (by simp) _ h1, h2.mono t, ⟨k _ (by simp) _ r1, r2, r3, r4, fun y hy => k _ ?_ _ (r5 y hy)⟩, h4, ⟨k _ (by simp) _ v1, v2, v3, v4, fun y hy => k _ ?_ _ (v5 y hy)⟩, h6⟩
  · have : y.2 ∈ rs.map (·.2) := List.mem_map.mpr ⟨y, hy, rfl⟩
    simp only [List.mem_cons, List.mem_append]
    exact .inr (.inr (.inr (.inl this)))
  · have : y.2.1 ∈ bs.map (·.2.1) := List.mem_map.mpr ⟨y, hy, rfl⟩
    simp only [List.mem_cons, List.mem_append]
    exact .inr (.inr (.inr (.inr this)))
theorem im_frz {K : PySem.W.Frag} {H : Hp} {x : V} {wn : Int} {zs : List (Int × Int)} (h : Im K H x (frZ wn zs)) : ∃ (a b : Addr) (ys : List V), x = .ref a ∧ SqT K H a [.int wn, .ref b] ∧ SqT K H b ys ∧ ImAll K H ys (zs.map zd) := by
  unfold frZ at h
  cases h with
  | tup h1 h2 =>
    cases h2 with
    | cons h3 h4 =>
      cases h3
      cases h4 with
      | cons h5 h6 =>
        cases h6
        cases h5 with
        | tup h7 h8 => exact ⟨_, _, _, rfl, h1, h7, h8⟩
def spInit (K : PySem.W.Frag) (C CI : Addr) : Sp := fun vs H Q E => ∃ (p dx : Addr) (x : V) (d : Addr) (wn : Int) (zs : List (Int × Int)) (as : List (Str × Addr × List Int)), vs = [.ref p, x, .ref d] ∧ H p = some (.ins C dx []) ∧ Im K H x (frZ wn zs) ∧ zs.length ≤ 1000 ∧
  VdAt H d as ∧ as.length < 60 ∧ (∀ a ∈ as, a.2.2.length < 60 ∧ ∀ z ∈ a.2.2, -1000 ≤ z ∧ z ≤ 1000) ∧ (¬ (FrOk wn zs ∧ OkV wn as) → ∀ H', E (.ref CI) none H') ∧
  (FrOk wn zs ∧ OkV wn as → ∃ (n : Nat) (ps : List (Nat × Nat)), frZ wn zs = frD n ps ∧ ∀ (ad : List Addr) (H' : Hp), ModAt K C H' p x n ps as (p :: ad) → (∀ q ∈ ad, H q = none) → (∀ b o, H b = some o → b ≠ p → H' b = some o) → Q .non H')
theorem ok_Model_init (T : Top K mg) : FnOk P w K mg base (L2.CX P w) 4 T.f_Model_init T.d_Model_init ["self", "frame", "values"] (spInit K T.c_Model T.c_InvalidModel) := by
  have G_is_frame : FnOk P w K mg base CX0 3 T.f_is_frame T.d_is_frame ["frame"] (spIsFrame K) := ok_is_frame T
  have G_rows_of : FnOk P w K mg base CX0 1 T.f_rows_of T.d_rows_of ["frame"] (spRows K) := ok_rows_of T
  refine T.F_Model_init.okX sc_Model_init (fun vs H Q E h => ?_) (fun cdv A outer s H vs Q E hr h => ?_)
  · obtain ⟨p, dx, x, d, wn, zs, as, rfl, _⟩ := h
    rfl
  obtain ⟨p, dx, x, d, wn, zs, as, rfl, hp, hx, hzl, hV, hal, has, kE, kQ⟩ := h
  have hu64 := hr.units
  have hu := Nat.lt_of_le_of_lt (Nat.add_le_add_left (by decide : 1 ≤ 64) _) hu64
  refine ⟨_, (pss_cons (ps_if (pt_not (pt_val (pe_call G_is_frame (hr.mono (by omega)) (by rfl) T.m_is_frame T.F_is_frame.kp T.b_is_frame .nil pass0 (pa_cons (pv 1) pa_nil))))
      (pss_one (ps_raise rfl (takes_of rfl rfl rfl rfl) (pmk_own PySem.F.excBase_ValueError T.x_InvalidModel T.g_InvalidModel T.k_InvalidModel (raises_own T.b_InvalidModel T.t_InvalidModel) rfl)))
      pss_nil)
    (pss_cons (ps_lock (ps_for (passes_of rfl) rfl (pi_keys (pv 2)) (pg_name (i := 3) sc_Model_init.nd rfl (.inl rfl))
      (pss_one (ps_for (passes_of rfl) rfl (pi_list (pe_dget hu (pv 2) (pv 3) (fun _ _ => rfl))) (pg_name (i := 4) sc_Model_init.nd rfl (.inl rfl))
      (pss_one (ps_if (pt_not (pt_chain op_le op_lt pe_int (pv 4) (pe_ix ix_tup (pv 1) pe_int (fun _ _ => rfl))))
      (pss_one (ps_raise rfl (takes_of rfl rfl rfl rfl) (SkE.pmk_own1 PySem.F.excBase_ValueError T.x_InvalidModel T.g_InvalidModel T.k_InvalidModel (raises_own T.b_InvalidModel T.t_InvalidModel) rfl (pe_joined (.cons pe_str (.cons (pe_fmt (pv 4)) .nil))))))
      pss_nil))))))
    (pss_cons (ps_fld (pv 0) (pv 1) rfl)
    (pss_cons (ps_fld (pv 0) (pe_call G_rows_of (hr.mono (by omega)) (by rfl) T.m_rows_of T.F_rows_of.kp T.b_rows_of .nil pass0 (pa_cons (pv 1) pa_nil)) rfl)
    (pss_one (ps_fld (pv 0) (pe_dc (own := [("name", 3)]) (g := gName 3) (tv := (tCB (rSortedSet w) (tCons (tCB (rSetLI w K) (tCons (tDGet (tVar 2) (tVar 3)) tNil)) tNil))) (tt := (tTru K (tDGet (tVar 2) (tVar 3)))) rfl sc_Model_init.nd (pi_list (pe_callB (call_sortedD rfl) (by rfl) T.z_sorted (by decide +kernel) (pa_cons (pv 2) pa_nil))) (blkOk_by (N := ["self", "frame", "values", "name", "v"]) (sc := defScope s_Model_init) (by decide +kernel)) (fun _ _ _ _ _ => pg_name (i := 3) sc_Model_init.nd rfl (Or.inl rfl)) (fun _ _ _ _ _ => pts_one (pt_truth (pe_dget hu (pv 2) (pv 3) (fun _ _ => rfl)) (fun _ => rfl))) (fun _ _ _ _ _ => (pv 3)) (fun _ _ _ _ _ => (pe_callB (cr_sortedSet rfl) (by rfl) T.z_sorted (by decide +kernel) (pa_cons (pe_callTy (cr_setLI2 rfl hu64) (by rfl) T.z_set (by decide +kernel) (pa_cons (pe_dget hu (pv 2) (pv 3) (fun _ _ => rfl)) pa_nil)) pa_nil)))) rfl)))))), ?_⟩
  refine ⟨_, rfl, x, wn, zs, rfl, hx, hzl, fun b hb => ⟨b, rfl, ?_⟩⟩
  cases b with
  | false => exact iteT (kE (fun q => nomatch hb.mpr q.1) _)
  | true =>
  have hF := hb.mp rfl
  refine iteF ?_
  obtain ⟨v1, v2, v3, v4, v5⟩ := hV
  have hpd : p ≠ d := fun e => by rw [e, v1] at hp; cases hp
  have hpm : ∀ y ∈ as, y.2.1 ≠ p := fun y hy e => by
    have := v5 y hy
    rw [e, hp] at this
    cases this
  obtain ⟨fa, fb, fys, rfl, i1, i2, i3⟩ := im_frz hx
  -- the values are looked at
  refine ⟨d, _, v1, trivial, fun od => ?_⟩
  have kF : ∀ c o, H c = some o → c ≠ d → upd H d (.frz od (.dK (as.map fun x => ((.inr x.1 : Key), V.ref x.2.1)))) c = some o := fun c o e n => by
    rw [upd_ne n]
    exact e
  have back : upd (upd H d (.frz od (.dK (as.map fun x => ((.inr x.1 : Key), V.ref x.2.1))))) d (.dK (as.map fun x => ((.inr x.1 : Key), V.ref x.2.1))) = H := by
    rw [upd_upd]
    funext c
    by_cases e : c = d
    · rw [e, upd_same, v1]
    · rw [upd_ne e]
  have hD : upd H d (.frz od (.dK (as.map fun x => ((.inr x.1 : Key), V.ref x.2.1)))) d = some (.frz od (.dK (as.map fun x => ((.inr x.1 : Key), V.ref x.2.1)))) := upd_same
  generalize upd H d (.frz od (.dK (as.map fun x => ((.inr x.1 : Key), V.ref x.2.1)))) = HF at kF back hD
  have tF : TS H HF := TS.but v1 (fun _ e => nomatch e) (fun _ _ e => nomatch e) kF
  refine ⟨_, rfl, d, od, rfl, .inl ⟨_, hD, ?_⟩⟩
  refine for_it walk_keys (fun i σ H2 => ∃ (u v : Option V), σ = [some (.ref p), some (.ref fa), some (.ref d), u, v] ∧ HF = H2 ∧ ∀ y ∈ as.take i, ∀ z ∈ y.2.2, 0 ≤ z ∧ z < wn)
    ⟨none, none, rfl, rfl, fun y h => (nomatch h)⟩ (fun i σ H2 _ h => by
      obtain ⟨_, _, _, rfl, _⟩ := h
      exact hD) ?_ ?_
  · rintro i y σ H2 H3 hi ⟨u, v, rfl, rfl, hdone⟩ ⟨e3, kk, vv, hkv, rfl⟩
    replace e3 := e3.symm
    subst e3
    rw [List.getElem?_map] at hkv
    cases hz : as[i]? with
    | none => rw [hz] at hkv; cases hkv
    | some z =>
    rw [hz] at hkv
    have e1 : kk = .inr z.1 := (congrArg Prod.fst (Option.some.inj hkv)).symm
    subst e1
    have hzm : z ∈ as := List.mem_of_getElem? hz
    have hzd : z.2.1 ≠ d := fun e => v4 (e ▸ List.mem_map.mpr ⟨z, hzm, rfl⟩)
    have hzF := kF _ _ (v5 z hzm) hzd
    refine ⟨_, rfl, _, rfl, d, .ref z.2.1, rfl, .inl ⟨_, .inr z.1, .inr ⟨od, hD⟩, rfl, (vd_val v2 hzm).symm⟩, z.2.1, rfl, ⟨_, SqL.of hzF⟩, ?_⟩
    refine for_list (K := K) (a := z.2.1) (xs := z.2.2.map V.int) (fun j σ H4 => ∃ (v : Option V), σ = [some (.ref p), some (.ref fa), some (.ref d), some (.str z.1), v] ∧ HF = H4 ∧ ∀ u ∈ z.2.2.take j, 0 ≤ u ∧ u < wn)
      ⟨v, rfl, rfl, fun u h => (nomatch h)⟩ (fun j σ H4 _ h => by
        obtain ⟨_, _, rfl, _⟩ := h
        exact SqL.of hzF) ?_ ?_
    · rintro j y σ H4 hy ⟨v, rfl, rfl, hd2⟩
      rw [List.getElem?_map] at hy
      cases hu0 : z.2.2[j]? with
      | none => rw [hu0] at hy; cases hy
      | some u =>
      rw [hu0] at hy
      have ey : y = .int u := (Option.some.inj hy).symm
      subst ey
      have hum : u ∈ z.2.2 := List.mem_of_getElem? hu0
      have hub := (has z hzm).2 u hum
      refine ⟨_, rfl, _, _, rfl, rfl, _, rfl, ?_⟩
      have raiseOk : ¬ (0 ≤ u ∧ u < wn) → ∀ H' : Hp, E (.ref T.c_InvalidModel) none H' := fun q => kE fun r => q (r.2 z hzm u hum)
      have lenU : (Str.ofString (toString u)).length ≤ 1002 := by
        have := PyProof.Rows.len_str_of_int u
        omega
      have hlog : u.natAbs.log2 < 1920 := Nat.lt_of_le_of_lt (Nat.log2_le_self _) (by omega)
      have hlen : (Str.empty ++ Str.ofString "there is no world " ++ Str.ofString (toString u)).length ≤ sizeLine := by
        rw [Str.length_append, sizeLine_eq]
        have : (Str.empty ++ Str.ofString "there is no world ").length = 18 := by decide +kernel
        omega
      by_cases c0 : 0 ≤ u
      · refine iteD c0 ⟨_, rfl, fa, _, 0, _, rfl, rfl, tF.sqT i1, atI_nat (j := 0) rfl, _, _, rfl, rfl, _, rfl, ?_⟩
        by_cases c1 : u < wn
        · rw [decide_eq_true c1]
          refine iteF ⟨some (.int u), rfl, rfl, fun y hy => ?_⟩
          rw [take_snoc hu0, List.mem_append] at hy
          rcases hy with h | h
          · exact hd2 y h
          · rw [List.mem_singleton.mp h]
            exact ⟨c0, c1⟩
        · rw [decide_eq_false c1]
          exact iteT ⟨_, rfl, (by decide), _, rfl, .inr ⟨u, rfl, hlog, _, rfl, hlen, raiseOk (fun q => c1 q.2) _⟩⟩
      · exact iteDF c0 ⟨_, rfl, iteT ⟨_, rfl, (by decide), _, rfl, .inr ⟨u, rfl, hlog, _, rfl, hlen, raiseOk (fun q => c0 q.1) _⟩⟩⟩
    · rintro σ H4 ⟨v, rfl, rfl, hd2⟩
      rw [List.length_map, List.take_length] at hd2
      refine ⟨_, _, rfl, rfl, fun y hy => ?_⟩
      rw [take_snoc hz, List.mem_append] at hy
      rcases hy with h | h
      · exact hdone y h
      · rw [List.mem_singleton.mp h]
        exact hd2
  · rintro σ H2 ⟨u, v, rfl, rfl, hdone⟩
    rw [List.length_map, List.take_length] at hdone
    refine ⟨hD, ?_⟩
    rw [back]
    obtain ⟨n, ps, hfr, kQ⟩ := kQ ⟨hF, hdone⟩
    rw [hfr] at hx
    -- the frame, the rows
    refine ⟨_, rfl, _, rfl, p, _, dx, [], rfl, hp, T.cl_Model, T.n_Model_frame, (by decide), ?_⟩
    rw [pf_new]
    have tsP : ∀ (H1 : Hp) fs fs', H1 p = some (.ins T.c_Model dx fs) → TS H1 (upd H1 p (.ins T.c_Model dx fs')) := fun H1 fs fs' e => TS.but e (fun _ e => nomatch e) (fun _ _ e => nomatch e) fun c o h n => by
      rw [upd_ne n]
      exact h
    have hx1 := hx.mono (tsP H [] [("_frame", .ref fa)] hp)
    have k1 : ∀ b o, H b = some o → b ≠ p → upd H p (.ins T.c_Model dx [("_frame", .ref fa)]) b = some o := fun b o e n => by
      rw [upd_ne n]
      exact e
    have hp1 : upd H p (.ins T.c_Model dx [("_frame", .ref fa)]) p = some (.ins T.c_Model dx [("_frame", .ref fa)]) := upd_same
    have free1 : ∀ q, upd H p (.ins T.c_Model dx [("_frame", .ref fa)]) q = none → H q = none := fun q e => by
      cases h : H q with
      | none => rfl
      | some o =>
        have n : q ≠ p := fun z => by rw [z, hp1] at e; cases e
        rw [k1 q o h n] at e
        cases e
    generalize upd H p (.ins T.c_Model dx [("_frame", .ref fa)]) = H1 at hx1 k1 hp1 free1
    have hpl : ps.length ≤ 1000 := by
      unfold frZ frD at hfr
      injection hfr with e1
      injection e1 with _ e2
      injection e2 with e3 _
      injection e3 with e4
      have := congrArg List.length e4
      rw [List.length_map, List.length_map] at this
      omega
    refine ⟨_, rfl, _, n, ps, rfl, hx1, (by omega), fun rp rs H2 n2 s2 hR hRm hRf => ?_⟩
    have hp2 := s2 _ _ hp1
    refine ⟨_, rfl, p, _, dx, _, rfl, hp2, T.cl_Model, T.n_Model_rows, (by show 1 < 1000; decide), ?_⟩
    rw [pf_past (by decide +kernel), pf_new]
    have k3 : ∀ b o, H2 b = some o → b ≠ p → upd H2 p (.ins T.c_Model dx [("_frame", .ref fa), ("_rows", .ref rp)]) b = some o := fun b o e n => by
      rw [upd_ne n]
      exact e
    have hp3 : upd H2 p (.ins T.c_Model dx [("_frame", .ref fa), ("_rows", .ref rp)]) p = some (.ins T.c_Model dx [("_frame", .ref fa), ("_rows", .ref rp)]) := upd_same
    have t3 := tsP H2 _ [("_frame", .ref fa), ("_rows", .ref rp)] hp2
    have free3 : ∀ q, upd H2 p (.ins T.c_Model dx [("_frame", .ref fa), ("_rows", .ref rp)]) q = none → H2 q = none := fun q e => by
      by_cases z : q = p
      · rw [z, hp3] at e; cases e
      · rwa [upd_ne z] at e
    generalize upd H2 p (.ins T.c_Model dx [("_frame", .ref fa), ("_rows", .ref rp)]) = H3 at k3 hp3 t3 free3
    have k13 : ∀ b o, H b = some o → b ≠ p → H3 b = some o := fun b o e n => k3 _ _ (s2 _ _ (k1 _ _ e n)) n
    have hV3 : VdAt H3 d as := VdAt.keep ⟨v1, v2, v3, v4, v5⟩ fun q hq o e => k13 _ _ e (by
      rintro rfl
      rw [hp] at e
      rcases hq with h | h
      · exact hpd h
      · obtain ⟨y, hy, e2⟩ := List.mem_map.mp h
        exact hpm y hy e2)
    refine ⟨_, rfl, d, _, as.map (·.1), rfl, .inl hV3.1, by rw [List.map_map, List.map_map]; rfl, by rw [List.length_map]; omega, fun ys q hperm hsort nq => ?_⟩
    have s4 := same_new (o := .lst (ys.map V.str)) nq
    have hq4 : upd H3 q (.lst (ys.map V.str)) q = some (.lst (ys.map V.str)) := upd_same
    have hys : ys.Nodup := hperm.nodup_iff.mpr v2
    have hyl : ys.length < 60 := by rw [hperm.length_eq, List.length_map]; exact hal
    generalize upd H3 q (.lst (ys.map V.str)) = H4 at s4 hq4
    refine ⟨q, rfl, ⟨_, SqL.of hq4⟩, fun D nD => ?_⟩
    have nqD : q ≠ D := ne_of_none hq4 nD
    have hV4 : VdAt H4 d as := hV3.keep fun _ _ o e => s4 _ _ e
    refine dc_it (walk_list (a := q) (xs := ys.map V.str)) (fun i H5 => ∃ bs : List (Str × Addr × List Int), Same H4 H5 ∧ VdAt H5 D bs ∧ bs.length ≤ i ∧ (∀ y ∈ bs, H4 y.2.1 = none ∧ y.1 ∈ ys.take i) ∧
      (∀ y ∈ bs, y.2.2.Pairwise (· < ·) ∧ ∃ x ∈ as, x.1 = y.1 ∧ x.2.2 ≠ [] ∧ ∀ k, k ∈ y.2.2 ↔ k ∈ x.2.2) ∧ ∀ x ∈ as, x.1 ∈ ys.take i → x.2.2 ≠ [] → x.1 ∈ bs.map (·.1))
      ⟨[], same_new nD, VdAt.nil upd_same, Nat.zero_le _, fun y h => (nomatch h), fun y h => (nomatch h), fun x _ h => (nomatch h)⟩ (fun i H5 _ h => by
        obtain ⟨_, h, _⟩ := h
        exact SqL.of (h _ _ hq4)) ?_ ?_
    · rintro i y H5 H6 hi ⟨bs, s5, hB, hbl, hbf, hb1, hb2⟩ ⟨rfl, hy⟩
      rw [List.getElem?_map] at hy
      cases hn : ys[i]? with
      | none => rw [hn] at hy; cases hy
      | some nm =>
      rw [hn] at hy
      have ey : y = .str nm := (Option.some.inj hy).symm
      subst ey
      obtain ⟨z, hzm, hz1⟩ := List.mem_map.mp (hperm.mem_iff.mp (List.mem_of_getElem? hn))
      subst hz1
      have hV6 : VdAt H6 d as := hV4.keep fun _ _ o e => s5 _ _ e
      refine ⟨rfl, _, rfl, _, rfl, d, _, rfl, hV6.get hzm, _, .inl ⟨_, SqL.of (hV6.2.2.2.2 z hzm), rfl⟩, ?_⟩
      have stay : ∀ H7, Same H4 H7 → ∀ cs : List (Str × Addr × List Int), True := fun _ _ _ => trivial
      have off : z.1 ∉ bs.map (·.1) := fun h => by
        obtain ⟨y, hy, e⟩ := List.mem_map.mp h
        have m := (hbf y hy).2
        have e : y.1 = z.1 := e
        rw [e] at m
        obtain ⟨j, hj⟩ := List.getElem?_of_mem m
        rw [List.getElem?_take] at hj
        split at hj
        · rename_i hlt
          have h1 := (List.getElem?_eq_some_iff.mp hj)
          have h2 := (List.getElem?_eq_some_iff.mp hn)
          exact List.pairwise_iff_getElem.mp hys j i h1.1 h2.1 hlt (h1.2.trans h2.2.symm)
        · cases hj
      by_cases hz0 : z.2.2 = []
      · rw [hz0]
        refine iteF ⟨bs, s5, hB, by omega, fun y hy => ⟨(hbf y hy).1, ?_⟩, hb1, fun x hx hxt hx0 => ?_⟩
        · rw [take_snoc hn]
          exact List.mem_append_left _ (hbf y hy).2
        · rw [take_snoc hn, List.mem_append] at hxt
          rcases hxt with h | h
          · exact hb2 x hx h hx0
          · have e : x.1 = z.1 := List.mem_singleton.mp h
            have exz : x = z := nm_inj v2 hx hzm e
            rw [exz] at hx0
            exact absurd hz0 hx0
      · have hne : (z.2.2.map V.int).isEmpty = false := by
          cases h : z.2.2 with
          | nil => exact absurd h hz0
          | cons _ _ => rfl
        rw [hne]
        refine iteT ⟨_, rfl, _, rfl, _, rfl, d, _, rfl, hV6.get hzm, z.2.1, z.2.2, rfl, SqL.of (hV6.2.2.2.2 z hzm), (by have := (has z hzm).1; omega), fun sa c nsa hc => ?_⟩
        refine ⟨sa, _, c, rfl, upd_same, (by have := (has z hzm).1; omega), fun ms p2 hms hmem hml np2 => ?_⟩
        have s7 := same_new (o := SetO w sa (fun j => decide (j ∈ z.2.2)) c) nsa
        have s8 := s7.trans (same_new (o := .lst (ms.map V.int)) np2)
        have hp8 : upd (upd H6 sa (SetO w sa (fun j => decide (j ∈ z.2.2)) c)) p2 (.lst (ms.map V.int)) p2 = some (.lst (ms.map V.int)) := upd_same
        generalize upd (upd H6 sa (SetO w sa (fun j => decide (j ∈ z.2.2)) c)) p2 (.lst (ms.map V.int)) = H8 at s8 hp8
        have hB8 : VdAt H8 D bs := hB.keep fun _ _ o e => s8 _ _ e
        have np2H : H6 p2 = none := by
          cases e : H6 p2 with
          | none => rfl
          | some o =>
            rw [s7 _ _ e] at np2
            cases np2
        have np2B : p2 ∉ bs.map (·.2.1) := fun h => by
          obtain ⟨y, hy, e⟩ := List.mem_map.mp h
          have := hB.2.2.2.2 y hy
          rw [e, np2H] at this
          cases this
        have np24 : H4 p2 = none := by
          cases e : H4 p2 with
          | none => rfl
          | some o =>
            rw [s5 _ _ e] at np2H
            cases np2H
        refine ⟨_, .inr z.1, rfl, hB8.1, by rw [List.length_map]; rw [List.length_map] at hi; exact small1000 (by omega), bs ++ [(z.1, p2, ms)], fun b o e => ?_, hB8.put off hp8 np2B, by rw [List.length_append]; simp; omega, fun y hy => ?_, fun y hy => ?_, fun x hx hxt hx0 => ?_⟩
        · have nbD : b ≠ D := ne_of_none e nD
          rw [upd_ne nbD]
          exact s8 _ _ (s5 _ _ e)
        · rw [take_snoc hn]
          rcases List.mem_append.mp hy with hy | hy
          · exact ⟨(hbf y hy).1, List.mem_append_left _ (hbf y hy).2⟩
          · rw [List.mem_singleton.mp hy]
            exact ⟨np24, List.mem_append_right _ List.mem_cons_self⟩
        · rcases List.mem_append.mp hy with hy | hy
          · exact hb1 y hy
          · rw [List.mem_singleton.mp hy]
            exact ⟨hms, z, hzm, rfl, hz0, fun k => by rw [hmem k]; exact decide_eq_true_iff⟩
        · rw [List.map_append]
          rw [take_snoc hn, List.mem_append] at hxt
          rcases hxt with h | h
          · exact List.mem_append_left _ (hb2 x hx h hx0)
          · have e : x.1 = z.1 := List.mem_singleton.mp h
            rw [e]
            exact List.mem_append_right _ List.mem_cons_self
    · rintro H5 ⟨bs, s5, hB, hbl, hbf, hb1, hb2⟩
      have hp5 := s5 _ _ (s4 _ _ hp3)
      refine ⟨_, rfl, p, _, dx, _, rfl, hp5, T.cl_Model, T.n_Model_true, (by show 2 < 1000; decide), ?_⟩
      rw [pf_past (by decide +kernel), pf_past (by decide +kernel), pf_new]
      have tsE := tsP H5 _ [("_frame", .ref fa), ("_rows", .ref rp), ("_true", .ref D)] hp5
      have kE5 : ∀ b o, H5 b = some o → b ≠ p → upd H5 p (.ins T.c_Model dx [("_frame", .ref fa), ("_rows", .ref rp), ("_true", .ref D)]) b = some o := fun b o e n => by
        rw [upd_ne n]
        exact e
      have k25 : ∀ b o, H2 b = some o → b ≠ p → H5 b = some o := fun b o e n => s5 _ _ (s4 _ _ (k3 _ _ e n))
      have nrp : rp ≠ p := fun e => by rw [e, hp1] at n2; cases n2
      have nrs : ∀ y ∈ rs, y.2 ≠ p := fun y hy e => by
        have := hRf y hy
        rw [e, hp1] at this
        cases this
      have pB : ∀ q, q = D ∨ q ∈ bs.map (·.2.1) → q ≠ p := fun q hq e => by
        subst e
        rcases hq with h | h
        · rw [h] at hp5
          rw [hB.1] at hp5
          cases hp5
        · obtain ⟨y, hy, e2⟩ := List.mem_map.mp h
          have := (hbf y hy).1
          have e2 : y.2.1 = q := e2
          rw [e2, s4 _ _ hp3] at this
          cases this
      refine kQ (rp :: D :: (rs.map (·.2) ++ bs.map (·.2.1))) _ ⟨dx, rp, D, rs, bs, rfl, upd_same, ?_, ?_, hRm, ?_, hb1, fun x hx hx0 => ?_⟩ (fun q hq => ?_) fun b o e n => ?_
      · exact ((((hx1.mono (Same.ts s2)).mono t3).mono (Same.ts s4)).mono (Same.ts s5)).mono tsE
      · obtain ⟨r1, r2, r3, r4, r5⟩ := hR
        exact ⟨kE5 _ _ (k25 _ _ r1 nrp) nrp, r2, r3, r4, fun y hy => kE5 _ _ (k25 _ _ (r5 y hy) (nrs y hy)) (nrs y hy)⟩
      · exact hB.keep fun q hq o e => kE5 _ _ e (pB q hq)
      · refine hb2 x hx ?_ hx0
        rw [List.length_map, List.take_length]
        exact hperm.mem_iff.mpr (List.mem_map.mpr ⟨x, hx, rfl⟩)
      · have f4 : ∀ q, H4 q = none → H q = none := fun q e => by
          refine free1 q ?_
          cases h : H1 q with
          | none => rfl
          | some o =>
            by_cases z : q = p
            · rw [z, s4 _ _ hp3] at e; cases e
            · rw [s4 _ _ (k3 _ _ (s2 _ _ h) z)] at e; cases e
        rcases List.mem_cons.mp hq with e | hq
        · rw [e]
          exact free1 _ n2
        rcases List.mem_cons.mp hq with e | hq
        · rw [e]
          exact f4 _ nD
        rcases List.mem_append.mp hq with hq | hq
        · obtain ⟨y, hy, e⟩ := List.mem_map.mp hq
          rw [← e]
          exact free1 _ (hRf y hy)
        · obtain ⟨y, hy, e⟩ := List.mem_map.mp hq
          rw [← e]
          exact f4 _ (hbf y hy).1
      · exact kE5 _ _ (s5 _ _ (s4 _ _ (k13 _ _ e n))) n
theorem lk_here {k : Str} {v : V} {r : List (Str × V)} : List.lookup k ((k, v) :: r) = some v := by
  have e : (k == k) = true := beq_self_eq_true k
  simp only [List.lookup, e]
theorem lk_past {k g : Str} {v : V} {r : List (Str × V)} (h : (k == g) = false) : List.lookup k ((g, v) :: r) = List.lookup k r := by
  simp only [List.lookup, h]
def spMFrame (K : PySem.W.Frag) (C : Addr) : Sp := fun vs H Q _ => ∃ (p : Addr) (x : V) (n : Nat) (ps : List (Nat × Nat)) (as : List (Str × Addr × List Int)) (ad : List Addr), vs = [.ref p] ∧ ModAt K C H p x n ps as ad ∧ Q x H
theorem ok_Model_frame (T : Top K mg) : FnOk P w K mg base CX0 1 T.f_Model_frame T.d_Model_frame ["self"] (spMFrame K T.c_Model) := by
  refine T.F_Model_frame.ok sc_Model_frame (fun vs H Q E h => ?_) (fun cdv A outer s H vs Q E hr h => ?_)
  · obtain ⟨p, x, n, ps, as, ad, rfl, _⟩ := h
    rfl
  obtain ⟨p, x, n, ps, as, ad, rfl, ⟨dx, rp, tp, rs, bs, _, hp, _⟩, q⟩ := h
  refine ⟨_, (pss_one (ps_ret (pe_fld (pv 0) rfl))), ?_⟩
  exact ⟨_, rfl, p, _, dx, _, x, rfl, hp, T.cl_Model, T.n_Model_frame, lk_here, q⟩
def spMSeen (K : PySem.W.Frag) (C : Addr) : Sp := fun vs H Q _ => ∃ (p : Addr) (v : Nat) (x : V) (n : Nat) (ps : List (Nat × Nat)) (as : List (Str × Addr × List Int)) (ad : List Addr), vs = [.ref p, .int (v : Int)] ∧ ModAt K C H p x n ps as ad ∧ ps.length ≤ 10000 ∧
  ∀ (q : Addr) (H' : Hp), H q = none → Same H H' → H' q = some (.lst ((sucs ps v).map fun w : Nat => V.int w)) → Q (.ref q) H'
theorem ok_Model_seen (T : Top K mg) : FnOk P w K mg base CX0 1 T.f_Model_seen T.d_Model_seen ["self", "v"] (spMSeen K T.c_Model) := by
  refine T.F_Model_seen.ok sc_Model_seen (fun vs H Q E h => ?_) (fun cdv A outer s H vs Q E hr h => ?_)
  · obtain ⟨p, v, x, n, ps, as, ad, rfl, _⟩ := h
    rfl
  obtain ⟨p, v, x, n, ps, as, ad, rfl, ⟨dx, rp, tp, rs, bs, _, hp, _, ⟨r1, r2, r3, r4, r5⟩, hm, _⟩, hpl, k⟩ := h
  have hu64 := hr.units
  have hu := Nat.lt_of_le_of_lt (Nat.add_le_add_left (by decide : 1 ≤ 64) _) hu64
  refine ⟨_, (pss_one (ps_ret (pe_callTy call_list_of (by rfl) T.z_list (by decide +kernel) (pa_cons (pe_dget2 hu (pe_fld (pv 0) rfl) (pv 1) (pe_lst pa_nil) ⟨rfl, rfl, rfl, rfl⟩) pa_nil)))), ?_⟩
  refine ⟨_, rfl, p, _, dx, _, .ref rp, rfl, hp, T.cl_Model, T.n_Model_rows, ?_, ?_⟩
  · exact (lk_past (by decide +kernel)).trans lk_here
  refine ⟨rp, rfl, .inl ⟨_, .inl r1⟩, _, rfl, (by show 0 ≤ sizeLine; decide), fun l nl => ?_⟩
  have s1 := same_new (o := .lst []) nl
  by_cases hv : v ∈ rs.map (·.1)
  · obtain ⟨y, hy, e⟩ := List.mem_map.mp hv
    subst e
    refine ⟨_, .inl ⟨_, .inl (y.1 : Int), .inl (s1 _ _ r1), rfl, (valV_at r2 hy).symm⟩, y.2, _, rfl, .inl (SqL.of (s1 _ _ (r5 y hy))), fun q nq => ?_⟩
    have nqH : H q = none := by
      cases e : H q with
      | none => rfl
      | some o => rw [s1 _ _ e] at nq; cases nq
    exact k q _ nqH (s1.trans (same_new nq)) upd_same
  · refine ⟨none, .inl ⟨_, .inl (v : Int), .inl (s1 _ _ r1), rfl, (valV_off hv).symm⟩, l, [], rfl, .inl (SqL.of upd_same), fun q nq => ?_⟩
    have nqH : H q = none := by
      cases e : H q with
      | none => rfl
      | some o => rw [s1 _ _ e] at nq; cases nq
    refine k q _ nqH (s1.trans (same_new nq)) ?_
    have e0 : sucs ps v = [] := by
      cases e : sucs ps v with
      | nil => rfl
      | cons u r =>
        have hu2 : u ∈ sucs ps v := by rw [e]; exact List.mem_cons_self
        unfold sucs at hu2
        obtain ⟨z, hz, e2⟩ := List.mem_map.mp hu2
        obtain ⟨h1, h2⟩ := List.mem_filter.mp hz
        have h2 : z.1 = v := of_decide_eq_true h2
        exact absurd ((hm v).mpr ⟨z.2, by rw [← h2]; exact h1⟩) hv
    rw [e0, upd_same]
    rfl
theorem nodup_le {α : Type} [DecidableEq α] : ∀ (l D : List α), l.Nodup → (∀ x ∈ l, x ∈ D) → l.length ≤ D.length
  | [], _, _, _ => Nat.zero_le _
  | x :: l, D, nd, sub => by
    rw [List.nodup_cons] at nd
    have hx := sub x List.mem_cons_self
    have ih := nodup_le l (D.erase x) nd.2 fun y hy => (List.mem_erase_of_ne fun e : y = x => nd.1 (by rw [← e]; exact hy)).mpr (sub y (List.mem_cons_of_mem _ hy))
    rw [List.length_erase_of_mem hx] at ih
    have := List.length_pos_of_mem hx
    rw [List.length_cons]
    omega
theorem TrueOf.len {as bs : List (Str × Addr × List Int)} (h : TrueOf as bs) (nd : (bs.map (·.1)).Nodup) : bs.length ≤ as.length := by
  have := nodup_le (bs.map (·.1)) (as.map (·.1)) nd fun n hn => by
    obtain ⟨y, hy, rfl⟩ := List.mem_map.mp hn
    obtain ⟨x, hx, e, _⟩ := (h.1 y hy).2
    exact List.mem_map.mpr ⟨x, hx, e⟩
  rwa [List.length_map, List.length_map] at this
theorem TrueOf.of {as bs cs : List (Str × Addr × List Int)} (h : TrueOf as bs) (e : cs.map (fun y => (y.1, y.2.2)) = bs.map (fun y => (y.1, y.2.2))) : TrueOf as cs := by
  have e1 : cs.map (·.1) = bs.map (·.1) := by
    have := congrArg (List.map Prod.fst) e
    rw [List.map_map, List.map_map] at this
    exact this
  refine ⟨fun y hy => ?_, fun x hx h0 => e1 ▸ h.2 x hx h0⟩
  have hm : (y.1, y.2.2) ∈ bs.map (fun y => (y.1, y.2.2)) := e ▸ List.mem_map.mpr ⟨y, hy, rfl⟩
  obtain ⟨z, hz, ez⟩ := List.mem_map.mp hm
  obtain ⟨h1, h2⟩ := Prod.mk.inj ez
  have := h.1 z hz
  rw [h1, h2] at this
  exact this
def spMTrue (K : PySem.W.Frag) (C : Addr) : Sp := fun vs H Q _ => ∃ (p : Addr) (x : V) (n : Nat) (ps : List (Nat × Nat)) (as : List (Str × Addr × List Int)) (ad : List Addr), vs = [.ref p] ∧ ModAt K C H p x n ps as ad ∧ as.length < 60 ∧
  ∀ (D : Addr) (cs : List (Str × Addr × List Int)) (H' : Hp), H D = none → Same H H' → VdAt H' D cs → TrueOf as cs → (∀ y ∈ cs, H y.2.1 = none) → Q (.ref D) H'
theorem ok_Model_true_worlds (T : Top K mg) : FnOk P w K mg base CX0 1 T.f_Model_true_worlds T.d_Model_true_worlds ["self"] (spMTrue K T.c_Model) := by
  refine T.F_Model_true_worlds.ok sc_Model_true_worlds (fun vs H Q E h => ?_) (fun cdv A outer s H vs Q E hr h => ?_)
  · obtain ⟨p, x, n, ps, as, ad, rfl, _⟩ := h
    rfl
  obtain ⟨p, x, n, ps, as, ad, rfl, ⟨dx, rp, tp, rs, bs, _, hp, _, _, _, hV, hT⟩, hbl, k⟩ := h
  refine ⟨_, (pss_one (ps_ret (pe_lock (pe_dc (own := [("name", 1), ("worlds", 2)]) (g := gTup K 2 (gCons (gName 1) (gCons (gName 2) gNil))) (tt := tYes) (tv := (tCB (rListOf K) (tCons (tVar 2) tNil))) rfl sc_Model_true_worlds.nd (pi_items (pe_fld (pv 0) rfl)) (blkOk_by (N := ["self", "name", "worlds"]) (sc := defScope s_Model_true_worlds) (by decide +kernel)) (fun _ _ _ _ _ => (pg_tup rfl (pgs_cons (pg_name (i := 1) sc_Model_true_worlds.nd rfl (.inl rfl)) (pgs_cons (pg_name (i := 2) sc_Model_true_worlds.nd rfl (.inl rfl)) pgs_nil)))) (fun _ _ _ _ _ => pts_nil) (fun _ _ _ _ _ => (pv 1)) (fun _ _ _ _ _ => (pe_callTy (T := "list") call_list_ofK (by rfl) T.z_list (by decide +kernel) (pa_cons (pv 2) pa_nil))))))), ?_⟩
  obtain ⟨v1, v2, v3, v4, v5⟩ := id hV
  refine ⟨tp, _, v1, trivial, fun od => ?_⟩
  have nptp : p ≠ tp := fun e => by rw [e, v1] at hp; cases hp
  have kF : ∀ c o, H c = some o → c ≠ tp → upd H tp (.frz od (.dK (bs.map fun x => ((.inr x.1 : Key), V.ref x.2.1)))) c = some o := fun c o e n => by
    rw [upd_ne n]
    exact e
  have hD : upd H tp (.frz od (.dK (bs.map fun x => ((.inr x.1 : Key), V.ref x.2.1)))) tp = some (.frz od (.dK (bs.map fun x => ((.inr x.1 : Key), V.ref x.2.1)))) := upd_same
  have freeF : ∀ q, upd H tp (.frz od (.dK (bs.map fun x => ((.inr x.1 : Key), V.ref x.2.1)))) q = none → H q = none := fun q e => by
    by_cases z : q = tp
    · rw [z, upd_same] at e; cases e
    · rwa [upd_ne z] at e
  generalize upd H tp (.frz od (.dK (bs.map fun x => ((.inr x.1 : Key), V.ref x.2.1)))) = HF at kF hD freeF
  refine ⟨_, rfl, p, _, dx, _, .ref tp, rfl, kF _ _ hp nptp, T.cl_Model, T.n_Model_true, (lk_past (by decide +kernel)).trans ((lk_past (by decide +kernel)).trans lk_here), ?_⟩
  refine ⟨tp, od, _, rfl, hD, fun D nD => ?_⟩
  have nDt : tp ≠ D := ne_of_none hD nD
  have kFs : ∀ c o, H c = some o → HF c = some o ∨ c = tp := fun c o e => by
    by_cases z : c = tp
    · exact .inr z
    · exact .inl (kF _ _ e z)
  refine dc_it walk_items (fun i H5 => ∃ cs : List (Str × Addr × List Int), Same HF H5 ∧ VdAt H5 D cs ∧ cs.map (fun y => (y.1, y.2.2)) = (bs.take i).map (fun y => (y.1, y.2.2)) ∧ ∀ y ∈ cs, HF y.2.1 = none)
    ⟨[], same_new nD, VdAt.nil upd_same, rfl, fun y h => (nomatch h)⟩ (fun i H5 _ h => by
      obtain ⟨_, h, _⟩ := h
      exact h _ _ hD) ?_ ?_
  · rintro i y H5 H6 hi ⟨cs, s5, hC, hcs, hcf⟩ ⟨tt, k1, k2, rfl, ntt, rfl, hk1, hk2⟩
    simp only [List.getElem?_map] at hk1 hk2
    cases hz : bs[i]? with
    | none => rw [hz] at hk1; cases hk1
    | some z =>
    rw [hz] at hk1 hk2
    have e1 : k1 = .str z.1 := (Option.some.inj hk1).symm
    have e2 : k2 = .ref z.2.1 := (Option.some.inj hk2).symm
    subst e1 e2
    have hzm : z ∈ bs := List.mem_of_getElem? hz
    have hzt : z.2.1 ≠ tp := fun e => v4 (e ▸ List.mem_map.mpr ⟨z, hzm, rfl⟩)
    have hz5 := s5 _ _ (kF _ _ (v5 z hzm) hzt)
    have s6 := s5.trans (same_new (o := .tup [.str z.1, .ref z.2.1]) ntt)
    have s56 := same_new (o := .tup [.str z.1, .ref z.2.1]) ntt
    refine ⟨tt, _, rfl, SqT.of upd_same, rfl, _, _, rfl, _, _, rfl, rfl, rfl, _, rfl, _, rfl, z.2.1, _, rfl, .inl (SqL.of (s56 _ _ hz5)), fun l nl => ?_⟩
    have s7 := s56.trans (same_new (o := .lst (z.2.2.map V.int)) nl)
    have hl7 : upd (upd H5 tt (.tup [.str z.1, .ref z.2.1])) l (.lst (z.2.2.map V.int)) l = some (.lst (z.2.2.map V.int)) := upd_same
    have nl5 : H5 l = none := by
      cases e : H5 l with
      | none => rfl
      | some o => rw [s56 _ _ e] at nl; cases nl
    generalize upd (upd H5 tt (.tup [.str z.1, .ref z.2.1])) l (.lst (z.2.2.map V.int)) = H7 at s7 hl7
    have hC7 : VdAt H7 D cs := hC.keep fun _ _ o e => s7 _ _ e
    have hlen : cs.length = i := by
      have := congrArg List.length hcs
      rw [List.length_map, List.length_map, List.length_take, Nat.min_eq_left] at this
      · exact this
      · have := (List.getElem?_eq_some_iff.mp hz).1
        omega
    have off : z.1 ∉ cs.map (·.1) := fun h => by
      have e3 : cs.map (·.1) = (bs.take i).map (·.1) := by
        have := congrArg (List.map Prod.fst) hcs
        rw [List.map_map, List.map_map] at this
        exact this
      rw [e3] at h
      obtain ⟨u, hu, e⟩ := List.mem_map.mp h
      obtain ⟨j, hj⟩ := List.getElem?_of_mem hu
      rw [List.getElem?_take] at hj
      split at hj
      · rename_i hlt
        have h1 := List.getElem?_eq_some_iff.mp hj
        have h2 := List.getElem?_eq_some_iff.mp hz
        have := List.pairwise_iff_getElem.mp v2 j i (by rw [List.length_map]; exact h1.1) (by rw [List.length_map]; exact h2.1) hlt
        rw [List.getElem_map, List.getElem_map, h1.2, h2.2] at this
        exact this e
      · cases hj
    have nlC : l ∉ cs.map (·.2.1) := fun h => by
      obtain ⟨u, hu, e⟩ := List.mem_map.mp h
      have := hC.2.2.2.2 u hu
      rw [e, nl5] at this
      cases this
    have nlF : HF l = none := by
      cases e : HF l with
      | none => rfl
      | some o => rw [s5 _ _ e] at nl5; cases nl5
    rw [List.length_map] at hi
    have := hT.len v2
    refine ⟨_, .inr z.1, rfl, hC7.1, by rw [List.length_map]; exact small1000 (by omega), cs ++ [(z.1, l, z.2.2)], fun b o e => ?_, hC7.put off hl7 nlC, ?_, fun u hu => ?_⟩
    · rw [upd_ne (ne_of_none e nD)]
      exact s7 _ _ (s5 _ _ e)
    · rw [take_snoc hz, List.map_append, List.map_append, hcs]
      rfl
    · rcases List.mem_append.mp hu with hu | hu
      · exact hcf u hu
      · rw [List.mem_singleton.mp hu]
        exact nlF
  · rintro H5 ⟨cs, s5, hC, hcs, hcf⟩
    rw [List.length_map, List.take_length] at hcs
    refine ⟨s5 _ _ hD, ?_⟩
    have ntD : D ≠ tp := nDt.symm
    refine k D cs _ (freeF _ nD) (fun b o e => ?_) (hC.keep fun q hq o e => ?_) (hT.of hcs) fun y hy => freeF _ (hcf y hy)
    · by_cases z : b = tp
      · rw [z] at e ⊢
        rw [upd_same, ← e, v1]
      · rw [upd_ne z]
        exact s5 _ _ (kF _ _ e z)
    · have n : q ≠ tp := fun z => by
        rcases hq with h | h
        · exact ntD (h.symm.trans z)
        · obtain ⟨y, hy, e2⟩ := List.mem_map.mp h
          have := hcf y hy
          have e2 : y.2.1 = q := e2
          rw [e2, z, hD] at this
          cases this
      rw [upd_ne n]
      exact e

/-! ### truth in a model -/
/-- truth (fo = false) or forcing (fo = true) at the worlds below n -/
def Fm.at (n : Nat) (R : Nat → Nat → Bool) (W : Str → Nat → Bool) (fo : Bool) : Fm → Nat → Bool
  | .var m, v => W m v
  | .fal, _ => false
  | .and a b, v => a.at n R W fo v && b.at n R W fo v
  | .or a b, v => a.at n R W fo v || b.at n R W fo v
  | .imp a b, v => if fo = true then (List.range n).all fun u => !R v u || (b.at n R W fo u || !a.at n R W fo u) else (b.at n R W fo v || !a.at n R W fo v)
  | .box a, v => (List.range n).all fun u => !R v u || a.at n R W fo u
/-- marks at the worlds below n -/
def mk (n : Nat) (φ : Nat → Bool) : List V := (List.range n).map fun v => V.bl (φ v)
theorem mk_len (n : Nat) (φ : Nat → Bool) : (mk n φ).length = n := by unfold mk; rw [List.length_map, List.length_range]
theorem mk_get {n : Nat} {φ : Nat → Bool} {v : Nat} (h : v < n) : (mk n φ)[v]? = some (.bl (φ v)) := by
  unfold mk
  rw [List.getElem?_map, List.getElem?_range h]
  rfl
theorem mk_congr {n : Nat} {φ ψ : Nat → Bool} (h : ∀ v, v < n → φ v = ψ v) : mk n φ = mk n ψ := List.map_congr_left fun v hv => by rw [h v (List.mem_range.mp hv)]
theorem mk_set {n v : Nat} {φ : Nat → Bool} {b : Bool} (h : v < n) : (mk n φ).set v (.bl b) = mk n fun u => if u = v then b else φ u := by
  refine List.ext_getElem? fun i => ?_
  rw [List.getElem?_set]
  by_cases hi : i < n
  · rw [mk_get hi, mk_get hi, mk_len]
    by_cases e : v = i
    · subst e
      rw [if_pos rfl, if_pos h, if_pos rfl]
    · rw [if_neg e, if_neg (fun q => e q.symm)]
  · have h1 : (mk n fun u => if u = v then b else φ u)[i]? = none := List.getElem?_eq_none_iff.mpr (by rw [mk_len]; omega)
    have h2 : (mk n φ)[i]? = none := List.getElem?_eq_none_iff.mpr (by rw [mk_len]; omega)
    rw [h1, h2, if_neg (by omega)]
theorem mk_snoc (φ : Nat → Bool) (j : Nat) : mk (j + 1) φ = mk j φ ++ [.bl (φ j)] := by
  unfold mk
  rw [List.range_succ, List.map_append]
  rfl
def spMarks (K : PySem.W.Frag) : Sp := fun vs H Q _ => ∃ (n : Nat) (l : Addr) (zs : List Int), vs = [.int (n : Int), .ref l] ∧ n ≤ 1000 ∧ H l = some (.lst (zs.map V.int)) ∧ (∀ z ∈ zs, 0 ≤ z ∧ z < (n : Int)) ∧
  ∀ (q : Addr) (H' : Hp), H q = none → Same H H' → H' q = some (.lst (mk n fun v => decide ((v : Int) ∈ zs))) → Q (.ref q) H'
theorem ok_marks (T : Top K mg) : FnOk P w K mg base CX0 1 T.f_marks T.d_marks ["worlds", "places"] (spMarks K) := by
  refine T.F_marks.ok sc_marks (fun vs H Q E h => ?_) (fun cdv A outer s H vs Q E hr h => ?_)
  · obtain ⟨n, l, zs, rfl, _⟩ := h
    rfl
  obtain ⟨n, l, zs, rfl, hn, hl, hz, k⟩ := h
  refine ⟨_, (pss_cons (ps_set (i := 2) sc_marks.nd rfl (.inl rfl) (pe_op op_rep (pe_lst (pa_cons pe_bl pa_nil)) (pv 0)))
    (pss_cons (ps_for PassesOwn.never rfl (pi_list (pv 1)) (pg_name (i := 3) sc_marks.nd rfl (.inl rfl))
      (pss_one (ps_asg pe_bl (pg_sub (pv 2) (pv 3) set_list))))
    (pss_one (ps_ret (pv 2))))), ?_⟩
  refine ⟨(by show 1 ≤ sizeLine; decide), fun p np => ⟨_, rfl, p, (n : Int), _, rfl, rfl, upd_same, (by omega), (by omega), (by show 1 * (n : Int).toNat ≤ sizeLine; rw [sizeLine_eq]; omega), fun q nq => ?_⟩⟩
  have s1 := same_new (o := .lst [.bl false]) np
  have s2 := s1.trans (same_new (o := .lst (List.replicate (n : Int).toNat [V.bl false]).flatten) nq)
  have e0 : (List.replicate (n : Int).toNat [V.bl false]).flatten = mk n fun v => decide ((v : Int) ∈ zs.take 0) := by
    rw [Int.toNat_natCast]
    unfold mk
    refine List.ext_getElem? fun i => ?_
    by_cases hi : i < n
    · rw [List.getElem?_map, List.getElem?_range hi]
      simp [hi]
    · rw [List.getElem?_eq_none_iff.mpr (by simp; omega), List.getElem?_eq_none_iff.mpr (by simp; omega)]
  have hq2 : upd (upd H p (.lst [.bl false])) q (.lst (List.replicate (n : Int).toNat [V.bl false]).flatten) q = some (.lst (mk n fun v => decide ((v : Int) ∈ zs.take 0))) := by rw [upd_same, e0]
  have nqH : H q = none := by
    cases e : H q with
    | none => rfl
    | some o => rw [s1 _ _ e] at nq; cases nq
  generalize upd (upd H p (.lst [.bl false])) q (.lst (List.replicate (n : Int).toNat [V.bl false]).flatten) = H2 at s2 hq2
  have hl2 := s2 _ _ hl
  refine ⟨_, rfl, l, rfl, ⟨_, SqL.of hl2⟩, ?_⟩
  refine for_list (K := K) (a := l) (xs := zs.map V.int) (fun i σ H3 => ∃ v3 : Option V, σ = [some (.int (n : Int)), some (.ref l), some (.ref q), v3] ∧ Same H H3 ∧ H3 q = some (.lst (mk n fun v => decide ((v : Int) ∈ zs.take i)))) ⟨none, rfl, s2, hq2⟩ (fun i σ H3 _ h => by
    obtain ⟨_, _, s3, _⟩ := h
    exact SqL.of (s3 _ _ hl)) ?_ ?_
  · rintro i y σ H3 hy ⟨v3, rfl, s3, hq3⟩
    rw [List.getElem?_map] at hy
    cases hz0 : zs[i]? with
    | none => rw [hz0] at hy; cases hy
    | some z =>
    rw [hz0] at hy
    have ey : y = .int z := (Option.some.inj hy).symm
    subst ey
    obtain ⟨z0, z1⟩ := hz z (List.mem_of_getElem? hz0)
    obtain ⟨m, rfl⟩ : ∃ m : Nat, z = (m : Int) := ⟨z.toNat, by omega⟩
    have hm : m < n := by omega
    refine ⟨_, rfl, _, rfl, q, _, (m : Int), m, rfl, rfl, hq3, ?_, _, rfl, fun b o e => ?_, ?_⟩
    · rw [mk_len]
      unfold ixN
      rw [if_pos (by omega), if_pos (by omega)]
      simp
    · rw [upd_ne (ne_of_none e nqH)]
      exact s3 _ _ e
    · rw [upd_same, mk_set hm, take_snoc hz0]
      refine congrArg (fun xs => some (HO.lst xs)) (mk_congr fun u _ => ?_)
      by_cases hu : u = m
      · subst hu
        simp
      · have : ¬ (u : Int) = (m : Int) := fun e => hu (Int.ofNat.inj e)
        simp [hu, this]
  · rintro σ H3 ⟨v3, rfl, s3, hq3⟩
    rw [List.length_map, List.take_length] at hq3
    exact ⟨_, rfl, k q H3 nqH s3 hq3⟩
/-- the rows at rp: for each world below n the list of those that it sees -/
def RowsL (H : Hp) (rp : Addr) (n : Nat) (succ : Nat → List Nat) : Prop := ∃ rs : List Addr, H rp = some (.lst (rs.map V.ref)) ∧ rs.length = n ∧ ∀ i r, rs[i]? = some r → H r = some (.lst ((succ i).map fun w : Nat => V.int w))
theorem RowsL.same {H H' : Hp} {rp : Addr} {n : Nat} {succ : Nat → List Nat} (h : RowsL H rp n succ) (s : Same H H') : RowsL H' rp n succ := by
  obtain ⟨rs, h1, h2, h3⟩ := h
  exact ⟨rs, s _ _ h1, h2, fun i r e => s _ _ (h3 i r e)⟩
def spEvery (K : PySem.W.Frag) : Sp := fun vs H Q _ => ∃ (rp mp : Addr) (n : Nat) (succ : Nat → List Nat) (φ : Nat → Bool), vs = [.ref rp, .ref mp] ∧ n ≤ 1000 ∧ RowsL H rp n succ ∧ SqL K H mp (mk n φ) ∧ (∀ v, v < n → (succ v).length ≤ 10000 ∧ ∀ w ∈ succ v, w < n) ∧
  ∀ (q : Addr) (H' : Hp), H q = none → Same H H' → H' q = some (.lst (mk n fun v => (succ v).all φ)) → Q (.ref q) H'
theorem ok_everywhere (T : Top K mg) : FnOk P w K mg base CX0 1 T.f_everywhere T.d_everywhere ["rows", "marks"] (spEvery K) := by
  refine T.F_everywhere.ok sc_everywhere (fun vs H Q E h => ?_) (fun cdv A outer s H vs Q E hr h => ?_)
  · obtain ⟨rp, mp, n, succ, φ, rfl, _⟩ := h
    rfl
  obtain ⟨rp, mp, n, succ, φ, rfl, hn, ⟨rs, hrp, hrl, hrs⟩, hm, hsu, k⟩ := h
  refine ⟨_, (pss_one (ps_ret (pe_lc (own := [("row", 2)]) (g := gName 2) (tt := tYes) (te := (tCB (rAll K) (tCons (tLc (iList K _) (gName 3) tYes (tOp (rIxL K) _ _) [3]) tNil))) rfl sc_everywhere.nd (pi_list (pv 0)) (blkOk_by (N := ["rows", "marks", "row", "w"]) (sc := defScope s_everywhere) (by decide +kernel)) (fun _ _ _ _ _ => pg_name (i := 2) sc_everywhere.nd rfl (Or.inl rfl)) (fun _ _ _ _ _ => pts_nil) (fun _ _ _ _ _ => (pe_callB (id := "all") (cr_all rfl) (by rfl) T.z_all (by decide +kernel) (pa_cons (pe_lc (own := [("w", 3)]) (g := gName 3) (tt := tYes) (te := (tOp (rIxL K) _ _)) rfl sc_everywhere.nd (pi_list (pv 2)) (by dsimp only [L2.cxOf, L2.Cx.blk, L2.Cx.nox, PySem.compEnvC]; rw [relab_eq]; exact blkOk_by (by decide +kernel)) (fun _ _ _ _ _ => pg_name (i := 3) sc_everywhere.nd rfl (Or.inl rfl)) (fun _ _ _ _ _ => pts_nil) (fun _ _ _ _ _ => (pe_ix ix_list (pv 1) (pv 3) (fun _ _ => rfl)))) pa_nil)))))), ?_⟩
  refine ⟨_, rfl, rp, rfl, ⟨_, SqL.of hrp⟩, fun D nD => ?_⟩
  refine lc_list (K := K) (a := rp) (xs := rs.map V.ref) (fun i H2 => Same H H2 ∧ H2 D = some (.lst (mk i fun v => (succ v).all φ))) ⟨same_new nD, upd_same⟩ (fun i H2 _ h => SqL.of (h.1 _ _ hrp)) ?_ ?_
  · rintro i y H2 hy ⟨s2, hD⟩
    rw [List.getElem?_map] at hy
    cases hr0 : rs[i]? with
    | none => rw [hr0] at hy; cases hy
    | some r =>
    rw [hr0] at hy
    have ey : y = .ref r := (Option.some.inj hy).symm
    subst ey
    have hin : i < n := by rw [← hrl]; exact (List.getElem?_eq_some_iff.mp hr0).1
    obtain ⟨hsl, hsw⟩ := hsu i hin
    have hr2 := s2 _ _ (hrs i r hr0)
    refine ⟨rfl, _, rfl, r, rfl, ⟨_, SqL.of hr2⟩, fun D2 nD2 => ?_⟩
    refine lc_list (K := K) (a := r) (xs := (succ i).map fun w : Nat => V.int w) (fun j H3 => Same H2 H3 ∧ H3 D2 = some (.lst (((succ i).take j).map fun u => V.bl (φ u)))) ⟨same_new nD2, upd_same⟩ (fun j H3 _ h => SqL.of (h.1 _ _ hr2)) ?_ ?_
    · rintro j y H3 hy ⟨s3, hD2⟩
      rw [List.getElem?_map] at hy
      cases hu0 : (succ i)[j]? with
      | none => rw [hu0] at hy; cases hy
      | some u =>
      rw [hu0] at hy
      have ey : y = .int (u : Int) := (Option.some.inj hy).symm
      subst ey
      have hun := hsw u (List.mem_of_getElem? hu0)
      have hj : j < (succ i).length := (List.getElem?_eq_some_iff.mp hu0).1
      refine ⟨rfl, _, rfl, _, rfl, mp, _, _, _, rfl, rfl, (s2.trans s3).seq hm, atI_nat (mk_get hun), _, hD2, ?_, fun b o e => ?_, ?_⟩
      · rw [List.length_map, List.length_take, sizeLine_eq]
        omega
      · rw [upd_ne (ne_of_none e nD2)]
        exact s3 _ _ e
      · rw [upd_same, take_snoc hu0, List.map_append]
        rfl
    · rintro H3 ⟨s3, hD2⟩
      rw [List.length_map, List.take_length] at hD2
      have e1 : ((succ i).map fun u => V.bl (φ u)) = ((succ i).map φ).map V.bl := by rw [List.map_map]; rfl
      rw [e1] at hD2
      refine ⟨D2, _, rfl, SqL.of hD2, _, s3 _ _ hD, ?_, fun b o e => ?_, ?_⟩
      · rw [mk_len, sizeLine_eq]
        omega
      · rw [upd_ne (ne_of_none e nD)]
        exact s3 _ _ (s2 _ _ e)
      · rw [upd_same, mk_snoc, List.all_map]
        rfl
  · rintro H2 ⟨s2, hD⟩
    rw [List.length_map, hrl] at hD
    exact k D H2 nD s2 hD
/-- where a name is true, by a list of names and worlds -/
def wOf (cs : List (Str × Addr × List Int)) (nm : Str) (v : Nat) : Bool := cs.any fun x => decide (x.1 = nm) && decide ((v : Int) ∈ x.2.2)
theorem wOf_in {cs : List (Str × Addr × List Int)} (nd : (cs.map (·.1)).Nodup) {x : Str × Addr × List Int} (hx : x ∈ cs) (v : Nat) : wOf cs x.1 v = decide ((v : Int) ∈ x.2.2) := by
  unfold wOf
  cases h : decide ((v : Int) ∈ x.2.2) with
  | true =>
    refine List.any_eq_true.mpr ⟨x, hx, ?_⟩
    rw [h, decide_eq_true rfl]
    rfl
  | false =>
    refine List.any_eq_false.mpr fun y hy => ?_
    by_cases e : y.1 = x.1
    · rw [nm_inj nd hy hx e, h]
      simp
    · rw [decide_eq_false e]
      simp
theorem wOf_off {cs : List (Str × Addr × List Int)} {nm : Str} (h : nm ∉ cs.map (·.1)) (v : Nat) : wOf cs nm v = false := List.any_eq_false.mpr fun y hy => by
  rw [decide_eq_false fun e => h (List.mem_map.mpr ⟨y, hy, e⟩)]
  simp
theorem wOf_true {as bs : List (Str × Addr × List Int)} (t : TrueOf as bs) (nd : (as.map (·.1)).Nodup) (nm : Str) (v : Nat) : wOf bs nm v = wOf as nm v := by
  have key : wOf bs nm v = true ↔ wOf as nm v = true := by
    unfold wOf
    rw [List.any_eq_true, List.any_eq_true]
    constructor
    · rintro ⟨y, hy, h⟩
      rw [Bool.and_eq_true, decide_eq_true_iff, decide_eq_true_iff] at h
      obtain ⟨_, x, hx, e, _, hm⟩ := t.1 y hy
      exact ⟨x, hx, by rw [Bool.and_eq_true, decide_eq_true_iff, decide_eq_true_iff]; exact ⟨e.trans h.1, (hm _).mp h.2⟩⟩
    · rintro ⟨x, hx, h⟩
      rw [Bool.and_eq_true, decide_eq_true_iff, decide_eq_true_iff] at h
      have h0 : x.2.2 ≠ [] := fun e => by rw [e] at h; cases h.2
      obtain ⟨y, hy, e⟩ := List.mem_map.mp (t.2 x hx h0)
      obtain ⟨_, x', hx', e', _, hm⟩ := t.1 y hy
      have : x' = x := nm_inj nd hx' hx (e'.trans e)
      subst this
      exact ⟨y, hy, by rw [Bool.and_eq_true, decide_eq_true_iff, decide_eq_true_iff]; exact ⟨e.trans h.1, (hm _).mpr h.2⟩⟩
  cases h1 : wOf bs nm v <;> cases h2 : wOf as nm v <;> simp_all
/-- the value of a formula, one object that is known -/
def MkZ (n : Nat) (R : Nat → Nat → Bool) (W : Str → Nat → Bool) (fo : Bool) (H : Hp) (v : V) (f : Fm) : Prop := ∃ a o, v = .ref a ∧ H a = some (.frz o (.lst (mk n (f.at n R W fo))))
theorem MkZ.tz {n : Nat} {R : Nat → Nat → Bool} {W : Str → Nat → Bool} {fo : Bool} (H H' : Hp) (v : V) (f : Fm) (t : TZ H H') (h : MkZ n R W fo H v f) : MkZ n R W fo H' v f := by
  obtain ⟨a, o, e, h⟩ := h
  exact ⟨a, o, e, t.2 _ _ _ h⟩
/-- the rows and the values that the frame of _worlds_of holds -/
structure MdIn (H : Hp) (rp tp : Addr) (n : Nat) (R : Nat → Nat → Bool) (W : Str → Nat → Bool) : Prop where
  rows : ∃ succ : Nat → List Nat, RowsL H rp n succ ∧ (∀ v, v < n → (succ v).length ≤ 10000 ∧ ∀ w ∈ succ v, w < n) ∧ ∀ v, v < n → ∀ w, R v w = decide (w ∈ succ v)
  vals : ∃ cs : List (Str × Addr × List Int), VdAt H tp cs ∧ (∀ y ∈ cs, ∀ z ∈ y.2.2, 0 ≤ z ∧ z < (n : Int)) ∧ ∀ nm v, W nm v = wOf cs nm v
theorem MdIn.keep {H H' : Hp} {rp tp : Addr} {n : Nat} {R : Nat → Nat → Bool} {W : Str → Nat → Bool} (m : MdIn H rp tp n R W) (s : ∀ a o, H a = some o → (∀ ob u, o ≠ .frz ob u) → (∀ ps, o ≠ .tbl ps) → H' a = some o) : MdIn H' rp tp n R W := by
  obtain ⟨⟨succ, ⟨rs, h1, h2, h3⟩, h4⟩, cs, ⟨v1, v2, v3, v4, v5⟩, h6⟩ := m
  exact ⟨⟨succ, ⟨rs, s _ _ h1 (fun _ _ z => nomatch z) (fun _ z => nomatch z), h2, fun i r e => s _ _ (h3 i r e) (fun _ _ z => nomatch z) (fun _ z => nomatch z)⟩, h4⟩, cs, ⟨s _ _ v1 (fun _ _ z => nomatch z) (fun _ z => nomatch z), v2, v3, v4, fun x hx => s _ _ (v5 x hx) (fun _ _ z => nomatch z) (fun _ z => nomatch z)⟩, h6⟩
theorem MdIn.same {H H' : Hp} {rp tp : Addr} {n : Nat} {R : Nat → Nat → Bool} {W : Str → Nat → Bool} (m : MdIn H rp tp n R W) (s : Same H H') : MdIn H' rp tp n R W := by
  obtain ⟨⟨succ, h1, h2⟩, cs, h3, h4⟩ := m
  exact ⟨⟨succ, h1.same s, h2⟩, cs, h3.keep fun _ _ o e => s _ _ e, h4⟩
def spTv (K : PySem.W.Frag) (n : Nat) (R : Nat → Nat → Bool) (W : Str → Nat → Bool) (fo : Bool) : List (Option V) → Sp := fun ws vs H Q _ => ∃ (rp tp : Addr) (y : V) (l : Addr) (b : Fm) (us : List V), ws = [some (.bl fo), some (.ref rp), some (.ref tp), some (.int (n : Int))] ∧ vs = [y, .ref l] ∧ n ≤ 1000 ∧ MdIn H rp tp n R W ∧
  Im K H y b.d ∧ H l = some (.lst us) ∧ Rs (MkZ n R W fo) H us b.kids ∧ ∀ (q : Addr) (H' : Hp), H q = none → Same H H' → H' q = some (.lst (mk n (b.at n R W fo))) → Q (.ref q) H'
theorem rs_two2 {R : Hp → V → Fm → Prop} {H : Hp} {us : List V} {a b : Fm} (h : Rs R H us [a, b]) : ∃ u v, us = [u, v] ∧ R H u a ∧ R H v b := by
  obtain ⟨h1, h2⟩ := h
  match us, h1 with
  | [u, v], _ => exact ⟨u, v, rfl, h2 0 u a rfl rfl, h2 1 v b rfl rfl⟩
theorem rs_one2 {R : Hp → V → Fm → Prop} {H : Hp} {us : List V} {a : Fm} (h : Rs R H us [a]) : ∃ u, us = [u] ∧ R H u a := by
  obtain ⟨h1, h2⟩ := h
  match us, h1 with
  | [u], _ => exact ⟨u, rfl, h2 0 u a rfl rfl⟩
def Fm.isFal : Fm → Bool
  | .fal => true
  | _ => false
def Fm.isAnd : Fm → Bool
  | .and _ _ => true
  | _ => false
def Fm.isOr2 : Fm → Bool
  | .or _ _ => true
  | _ => false
theorem box_ofT {b : Fm} (h : b.isBox = true) : ∃ x, b = .box x := by
  cases b <;> first | exact ⟨_, rfl⟩ | cases h
theorem sg_fal (f : Fm) : decide (V.str f.sg = V.str "falsum") = f.isFal := by
  show decide (V.str (sgT f.rk) = V.str (sgT 2)) = _
  rw [vsg]
  cases f <;> rfl
theorem sg_and2 (f : Fm) : decide (V.str f.sg = V.str "and") = f.isAnd := by
  show decide (V.str (sgT f.rk) = V.str (sgT 0)) = _
  rw [vsg]
  cases f <;> rfl
theorem sg_or2 (f : Fm) : decide (V.str f.sg = V.str "or") = f.isOr2 := by
  show decide (V.str (sgT f.rk) = V.str (sgT 4)) = _
  rw [vsg]
  cases f <;> rfl
theorem nok_truth (T : Top K mg) {f c' : Addr} {q : Str} {cl : List (Str × Addr)} {n : Nat} {R : Nat → Nat → Bool} {W : Str → Nat → Bool} {fo : Bool} : NdefX.NOk P w K mg base CX0 2 f (NdefX.NF.of s_worlds_of_value_of "value_of" q cl c') ["b", "parts"] ["forced", "rows", "true", "worlds"] (spTv K n R W fo) := by
  refine NdefX.nok_of nsc_worlds_of_value_of (fun doc pm ctv us hl => match us, hl with | [_, _], _ => rfl) (fun ws vs H Q E h => ?_) (fun A outer s H vs ws Q E hr hf hc hw h => ?_)
  · obtain ⟨rp, tp, y, l, b, us, _, rfl, _⟩ := h
    rfl
  obtain ⟨rp, tp, y, l, b, us, rfl, rfl, hn, hM, hy, hl, hR, kQ⟩ := h
  have G_marks : FnOk P w K mg base CX0 1 T.f_marks T.d_marks ["worlds", "places"] (spMarks K) := ok_marks T
  have G_everywhere : FnOk P w K mg base CX0 1 T.f_everywhere T.d_everywhere ["rows", "marks"] (spEvery K) := ok_everywhere T
  have hu64 := hr.units
  have hu := Nat.lt_of_le_of_lt (Nat.add_le_add_left (by decide : 1 ≤ 64) _) hu64
  obtain ⟨⟨succ, hrows, hsu, hRs⟩, cs, hV, hcs, hW⟩ := id hM
  obtain ⟨ba, ys, rfl, h1, h2⟩ := im_inv hy
  refine ⟨_, (pss_cons (ps_if (pt_cmpR op_eq (pe_ix ix_tup (pv 0) pe_int (fun _ _ => rfl)) pe_str (nomark _))
      (pss_one (ps_ret (pe_call G_marks (hr.mono (by omega)) (by rfl) T.m_marks T.F_marks.kp T.b_marks .nil pass0 (pa_cons (pv 5) (pa_cons (pe_dget2 hu (pv 4) (pe_ix ix_tup (pv 0) pe_int (fun _ _ => rfl)) (pe_lst pa_nil) ⟨rfl, rfl, rfl, rfl⟩) pa_nil)))))
      pss_nil)
    (pss_cons (ps_if (pt_cmpR op_eq (pe_ix ix_tup (pv 0) pe_int (fun _ _ => rfl)) pe_str (nomark _))
      (pss_one (ps_ret (pe_op op_rep (pe_lst (pa_cons pe_bl pa_nil)) (pv 5))))
      pss_nil)
    (pss_cons (ps_if (pt_cmpR op_eq (pe_ix ix_tup (pv 0) pe_int (fun _ _ => rfl)) pe_str (nomark _))
      (pss_one (ps_ret (pe_call G_everywhere (hr.mono (by omega)) (by rfl) T.m_everywhere T.F_everywhere.kp T.b_everywhere .nil pass0 (pa_cons (pv 3) (pa_cons (pe_ix ix_list (pv 1) pe_int (fun _ _ => rfl)) pa_nil)))))
      pss_nil)
    (pss_cons (ps_asg (pv 1) (pg_lst rfl (pgs_cons (pg_name (i := 6) nsc_worlds_of_value_of.nd rfl (.inl rfl)) (pgs_cons (pg_name (i := 7) nsc_worlds_of_value_of.nd rfl (.inl rfl)) pgs_nil))))
    (pss_cons (ps_if (pt_cmpR op_eq (pe_ix ix_tup (pv 0) pe_int (fun _ _ => rfl)) pe_str (nomark _))
      (pss_one (ps_ret (pe_lc (own := [("x", 9), ("y", 10)]) (g := (gTup K 2 (gCons (gName 9) (gCons (gName 10) gNil)))) (tt := tYes) rfl nsc_worlds_of_value_of.nd (pi_zip (by rfl) T.z_zip (pa_cons (pv 6) (pa_cons (pv 7) pa_nil))) (blkOk_by (N := ["b", "parts", "forced", "rows", "true", "worlds", "left", "right", "here", "x", "y"]) (sc := C8.fnScope s_worlds_of_value_of) (by decide +kernel)) (fun _ _ _ _ _ => (pg_tup rfl (pgs_cons (pg_name (i := 9) nsc_worlds_of_value_of.nd rfl (.inl rfl)) (pgs_cons (pg_name (i := 10) nsc_worlds_of_value_of.nd rfl (.inl rfl)) pgs_nil)))) (fun _ _ _ _ _ => pts_nil) (fun _ _ _ _ _ => (pe_and (pv 9) (pe_one (pv 10)))))))
      pss_nil)
    (pss_cons (ps_if (pt_cmpR op_eq (pe_ix ix_tup (pv 0) pe_int (fun _ _ => rfl)) pe_str (nomark _))
      (pss_one (ps_ret (pe_lc (own := [("x", 9), ("y", 10)]) (g := (gTup K 2 (gCons (gName 9) (gCons (gName 10) gNil)))) (tt := tYes) rfl nsc_worlds_of_value_of.nd (pi_zip (by rfl) T.z_zip (pa_cons (pv 6) (pa_cons (pv 7) pa_nil))) (blkOk_by (N := ["b", "parts", "forced", "rows", "true", "worlds", "left", "right", "here", "x", "y"]) (sc := C8.fnScope s_worlds_of_value_of) (by decide +kernel)) (fun _ _ _ _ _ => (pg_tup rfl (pgs_cons (pg_name (i := 9) nsc_worlds_of_value_of.nd rfl (.inl rfl)) (pgs_cons (pg_name (i := 10) nsc_worlds_of_value_of.nd rfl (.inl rfl)) pgs_nil)))) (fun _ _ _ _ _ => pts_nil) (fun _ _ _ _ _ => (pe_or (pv 9) (pe_one (pv 10)))))))
      pss_nil)
    (pss_cons (ps_setLc (own := [("x", 9), ("y", 10)]) (g := (gTup K 2 (gCons (gName 9) (gCons (gName 10) gNil)))) (tt := tYes) (i := 8) rfl nsc_worlds_of_value_of.nd rfl rfl (sw_true rfl rfl rfl (by decide +kernel)) (pi_zip (by rfl) T.z_zip (pa_cons (pv 6) (pa_cons (pv 7) pa_nil))) (blkOk_by (N := ["b", "parts", "forced", "rows", "true", "worlds", "left", "right", "here", "x", "y"]) (sc := C8.fnScope s_worlds_of_value_of) (by decide +kernel)) (fun _ _ _ _ _ => (pg_tup rfl (pgs_cons (pg_name (i := 9) nsc_worlds_of_value_of.nd rfl (.inl rfl)) (pgs_cons (pg_name (i := 10) nsc_worlds_of_value_of.nd rfl (.inl rfl)) pgs_nil)))) (fun _ _ _ _ _ => pts_nil) (fun _ _ _ _ _ => (pe_or (pv 10) (pe_one (pe_not (pv 9))))))
    (pss_one (ps_ret (pe_ifExp (pt_val (pv 2)) (pe_call G_everywhere (hr.mono (by omega)) (by rfl) T.m_everywhere T.F_everywhere.kp T.b_everywhere .nil pass0 (pa_cons (pv 3) (pa_cons (pv 8) pa_nil))) (pv 8))))))))))), ?_⟩
  refine ⟨_, rfl, ba, _, 0, _, rfl, rfl, h1, atI_nat (j := 0) rfl, rfl, _, rfl, ?_⟩
  rw [sg_var]
  cases hv : b.isVar with
  | true =>
    obtain ⟨_, vn, rfl⟩ := kids_var hv
    have hva := im_var_at hy
    refine iteT ⟨_, rfl, _, rfl, tp, rfl, .inl ⟨_, .inl hV.1⟩, _, rfl, ba, _, 1, _, rfl, rfl, SqT.of hva, atI_nat (j := 1) rfl, (by show 0 ≤ sizeLine; decide), fun z nz => ?_⟩
    have s1 := same_new (o := .lst []) nz
    have hV1 : VdAt (upd H z (.lst [])) tp cs := hV.keep fun _ _ o e => s1 _ _ e
    have old : ∀ {a : Addr}, upd H z (.lst []) a = none → H a = none := fun {a} e => by
      cases h : H a with
      | none => rfl
      | some o => rw [s1 _ _ h] at e; cases e
    by_cases hnm : vn ∈ cs.map (·.1)
    · obtain ⟨x, hx, rfl⟩ := List.mem_map.mp hnm
      refine ⟨_, hV1.get hx, n, x.2.1, x.2.2, rfl, hn, hV1.2.2.2.2 x hx, hcs x hx, fun q H' nq s2 hq => kQ q H' (old nq) (s1.trans s2) ?_⟩
      rw [hq]
      refine congrArg (fun xs => some (HO.lst xs)) (mk_congr fun u _ => ?_)
      show _ = W x.1 u
      rw [hW, wOf_in hV.2.1 hx]
    · refine ⟨none, .inl ⟨_, .inr vn, .inl hV1.1, rfl, (vd_off hnm).symm⟩, n, z, [], rfl, hn, upd_same, fun z h => (nomatch h), fun q H' nq s2 hq => kQ q H' (old nq) (s1.trans s2) ?_⟩
      rw [hq]
      refine congrArg (fun xs => some (HO.lst xs)) (mk_congr fun u _ => ?_)
      show _ = W vn u
      rw [hW, wOf_off hnm]
      rfl
  | false =>
  refine iteF ⟨_, rfl, ba, _, 0, _, rfl, rfl, h1, atI_nat (j := 0) rfl, rfl, _, rfl, ?_⟩
  rw [sg_fal]
  cases hfal : b.isFal with
  | true =>
    have eb : b = .fal := by cases b <;> first | rfl | cases hfal
    subst eb
    refine iteT ⟨(by show 1 ≤ sizeLine; decide), fun p np => ⟨_, rfl, p, (n : Int), _, rfl, rfl, upd_same, (by omega), (by omega), (by show 1 * (n : Int).toNat ≤ sizeLine; rw [sizeLine_eq]; omega), fun q nq => ?_⟩⟩
    have s1 := same_new (o := .lst [.bl false]) np
    have s2 := s1.trans (same_new (o := .lst (List.replicate (n : Int).toNat [V.bl false]).flatten) nq)
    refine kQ q _ ?_ s2 ?_
    · cases e : H q with
      | none => rfl
      | some o => rw [s1 _ _ e] at nq; cases nq
    · rw [upd_same, Int.toNat_natCast]
      refine congrArg (fun xs => some (HO.lst xs)) ?_
      unfold mk
      refine List.ext_getElem? fun i => ?_
      by_cases hi : i < n
      · rw [List.getElem?_map, List.getElem?_range hi]
        simp [hi, Fm.at]
      · rw [List.getElem?_eq_none_iff.mpr (by simp; omega), List.getElem?_eq_none_iff.mpr (by simp; omega)]
  | false =>
  refine iteF ⟨_, rfl, ba, _, 0, _, rfl, rfl, h1, atI_nat (j := 0) rfl, rfl, _, rfl, ?_⟩
  rw [sg_box]
  have allS : ∀ (φ : Nat → Bool) (v : Nat), v < n → (succ v).all φ = (List.range n).all fun u => !R v u || φ u := fun φ v hv => by
    cases e : (List.range n).all fun u => !R v u || φ u with
    | true =>
      refine List.all_eq_true.mpr fun u hu => ?_
      have := List.all_eq_true.mp e u (List.mem_range.mpr ((hsu v hv).2 u hu))
      rw [hRs v hv u, decide_eq_true hu] at this
      simpa using this
    | false =>
      cases e2 : (succ v).all φ with
      | false => rfl
      | true =>
        have : ((List.range n).all fun u => !R v u || φ u) = true := List.all_eq_true.mpr fun u _ => by
          rw [hRs v hv u]
          by_cases hu : u ∈ succ v
          · rw [decide_eq_true hu, List.all_eq_true.mp e2 u hu]
            rfl
          · rw [decide_eq_false hu]
            rfl
        rw [e] at this
        cases this
  cases hbox : b.isBox with
  | true =>
    obtain ⟨a, rfl⟩ := box_ofT hbox
    obtain ⟨u, rfl, ma, mo, rfl, hma⟩ := rs_one2 hR
    refine iteT ⟨_, rfl, _, rfl, l, _, 0, _, rfl, rfl, SqL.of hl, atI_nat (j := 0) rfl, rp, ma, n, succ, a.at n R W fo, rfl, hn, hrows, .inl (.inr ⟨mo, hma⟩), hsu, fun q H' nq s' hq => kQ q H' nq s' ?_⟩
    rw [hq]
    exact congrArg (fun xs => some (HO.lst xs)) (mk_congr fun v hv => allS _ v hv)
  | false =>
  refine iteF ?_
  have two : ∃ c d, b.kids = [c, d] ∧ (b = .and c d ∨ b = .or c d ∨ b = .imp c d) := by
    cases b with
    | var _ => cases hv
    | fal => cases hfal
    | box _ => cases hbox
    | and c d => exact ⟨c, d, rfl, .inl rfl⟩
    | or c d => exact ⟨c, d, rfl, .inr (.inl rfl)⟩
    | imp c d => exact ⟨c, d, rfl, .inr (.inr rfl)⟩
  obtain ⟨c, d, hk, hcd⟩ := two
  rw [hk] at hR
  obtain ⟨u1, u2, rfl, ⟨m1, o1, rfl, hm1⟩, m2, o2, rfl, hm2⟩ := rs_two2 hR
  refine ⟨_, rfl, l, _, rfl, SqL.of hl, rfl, ?_⟩
  have hs1 : SqL K H m1 (mk n (c.at n R W fo)) := .inl (.inr ⟨o1, hm1⟩)
  have hs2 : SqL K H m2 (mk n (d.at n R W fo)) := .inl (.inr ⟨o2, hm2⟩)
  have hzip : n = min (mk n (c.at n R W fo)).length (mk n (d.at n R W fo)).length := by rw [mk_len, mk_len]; omega
  refine ⟨_, _, rfl, _, _, rfl, rfl, ?_⟩
  refine ⟨_, rfl, ba, _, 0, _, rfl, rfl, h1, atI_nat (j := 0) rfl, rfl, _, rfl, ?_⟩
  rw [sg_and2]
  cases hand : b.isAnd with
  | true =>
    have eb : b = .and c d := by
      rcases hcd with e | e | e
      · exact e
      · rw [e] at hand; cases hand
      · rw [e] at hand; cases hand
    subst eb
    refine iteT ⟨_, rfl, _, rfl, m1, m2, _, _, rfl, hs1, hs2, fun D nD => ?_⟩
    refine lc_it (walk_zip hzip) (fun i H2 => Same H H2 ∧ H2 D = some (.lst (mk i fun v => c.at n R W fo v && d.at n R W fo v))) ⟨same_new nD, upd_same⟩ (fun i H2 _ h => ⟨h.1.seq hs1, h.1.seq hs2⟩) ?_ ?_
    · rintro i y H2 H3 hi ⟨s2, hD⟩ ⟨tt, k1, k2, rfl, ntt, rfl, hk1, hk2⟩
      replace hk1 := (mk_get hi).symm.trans hk1
      replace hk2 := (mk_get hi).symm.trans hk2
      cases hk1
      cases hk2
      have s3 := same_new (o := .tup [.bl (c.at n R W fo i), .bl (d.at n R W fo i)]) ntt
      have hD3 := s3 _ _ hD
      have fin : ∀ x : Bool, x = (c.at n R W fo i && d.at n R W fo i) → ∃ acc, upd H2 tt (.tup [.bl (c.at n R W fo i), .bl (d.at n R W fo i)]) D = some (.lst acc) ∧ acc.length < sizeLine ∧ Same H (upd (upd H2 tt (.tup [.bl (c.at n R W fo i), .bl (d.at n R W fo i)])) D (.lst (acc ++ [.bl x]))) ∧ upd (upd H2 tt (.tup [.bl (c.at n R W fo i), .bl (d.at n R W fo i)])) D (.lst (acc ++ [.bl x])) D = some (.lst (mk (i + 1) fun v => c.at n R W fo v && d.at n R W fo v)) := fun x e => by
        refine ⟨_, hD3, by rw [mk_len, sizeLine_eq]; omega, fun b o h => ?_, ?_⟩
        · rw [upd_ne (ne_of_none h nD)]
          exact s3 _ _ (s2 _ _ h)
        · rw [upd_same, mk_snoc, e]
      refine ⟨tt, _, rfl, SqT.of upd_same, rfl, _, _, rfl, _, _, rfl, rfl, rfl, _, rfl, _, rfl, ?_⟩
      rcases Bool.eq_false_or_eq_true (c.at n R W fo i) with hb | hb
      · rw [if_pos hb]
        exact ⟨_, rfl, fin _ (by rw [hb]; rfl)⟩
      · rw [if_neg (by rw [hb]; exact Bool.false_ne_true)]
        exact fin false (by rw [hb]; rfl)
    · rintro H2 ⟨s2, hD⟩
      exact kQ D H2 nD s2 hD
  | false =>
  refine iteF ⟨_, rfl, ba, _, 0, _, rfl, rfl, h1, atI_nat (j := 0) rfl, rfl, _, rfl, ?_⟩
  rw [sg_or2]
  cases hor : b.isOr2 with
  | true =>
    have eb : b = .or c d := by
      rcases hcd with e | e | e
      · rw [e] at hor; cases hor
      · exact e
      · rw [e] at hor; cases hor
    subst eb
    refine iteT ⟨_, rfl, _, rfl, m1, m2, _, _, rfl, hs1, hs2, fun D nD => ?_⟩
    refine lc_it (walk_zip hzip) (fun i H2 => Same H H2 ∧ H2 D = some (.lst (mk i fun v => c.at n R W fo v || d.at n R W fo v))) ⟨same_new nD, upd_same⟩ (fun i H2 _ h => ⟨h.1.seq hs1, h.1.seq hs2⟩) ?_ ?_
    · rintro i y H2 H3 hi ⟨s2, hD⟩ ⟨tt, k1, k2, rfl, ntt, rfl, hk1, hk2⟩
      replace hk1 := (mk_get hi).symm.trans hk1
      replace hk2 := (mk_get hi).symm.trans hk2
      cases hk1
      cases hk2
      have s3 := same_new (o := .tup [.bl (c.at n R W fo i), .bl (d.at n R W fo i)]) ntt
      have hD3 := s3 _ _ hD
      have fin : ∀ x : Bool, x = (c.at n R W fo i || d.at n R W fo i) → ∃ acc, upd H2 tt (.tup [.bl (c.at n R W fo i), .bl (d.at n R W fo i)]) D = some (.lst acc) ∧ acc.length < sizeLine ∧ Same H (upd (upd H2 tt (.tup [.bl (c.at n R W fo i), .bl (d.at n R W fo i)])) D (.lst (acc ++ [.bl x]))) ∧ upd (upd H2 tt (.tup [.bl (c.at n R W fo i), .bl (d.at n R W fo i)])) D (.lst (acc ++ [.bl x])) D = some (.lst (mk (i + 1) fun v => c.at n R W fo v || d.at n R W fo v)) := fun x e => by
        refine ⟨_, hD3, by rw [mk_len, sizeLine_eq]; omega, fun b o h => ?_, ?_⟩
        · rw [upd_ne (ne_of_none h nD)]
          exact s3 _ _ (s2 _ _ h)
        · rw [upd_same, mk_snoc, e]
      refine ⟨tt, _, rfl, SqT.of upd_same, rfl, _, _, rfl, _, _, rfl, rfl, rfl, _, rfl, _, rfl, ?_⟩
      rcases Bool.eq_false_or_eq_true (c.at n R W fo i) with hb | hb
      · rw [if_pos hb]
        exact fin true (by rw [hb]; rfl)
      · rw [if_neg (by rw [hb]; exact Bool.false_ne_true)]
        exact ⟨_, rfl, fin _ (by rw [hb]; rfl)⟩
    · rintro H2 ⟨s2, hD⟩
      exact kQ D H2 nD s2 hD
  | false =>
  have eb : b = .imp c d := by
    rcases hcd with e | e | e
    · rw [e] at hand; cases hand
    · rw [e] at hor; cases hor
    · exact e
  subst eb
  refine iteF ⟨_, rfl, _, rfl, m1, m2, _, _, rfl, hs1, hs2, fun D nD => ?_⟩
  refine lc_it (walk_zip hzip) (fun i H2 => Same H H2 ∧ H2 D = some (.lst (mk i fun v => d.at n R W fo v || !c.at n R W fo v))) ⟨same_new nD, upd_same⟩ (fun i H2 _ h => ⟨h.1.seq hs1, h.1.seq hs2⟩) ?_ ?_
  · rintro i y H2 H3 hi ⟨s2, hD⟩ ⟨tt, k1, k2, rfl, ntt, rfl, hk1, hk2⟩
    replace hk1 := (mk_get hi).symm.trans hk1
    replace hk2 := (mk_get hi).symm.trans hk2
    cases hk1
    cases hk2
    have s3 := same_new (o := .tup [.bl (c.at n R W fo i), .bl (d.at n R W fo i)]) ntt
    have hD3 := s3 _ _ hD
    have fin : ∀ x : Bool, x = (d.at n R W fo i || !c.at n R W fo i) → ∃ acc, upd H2 tt (.tup [.bl (c.at n R W fo i), .bl (d.at n R W fo i)]) D = some (.lst acc) ∧ acc.length < sizeLine ∧ Same H (upd (upd H2 tt (.tup [.bl (c.at n R W fo i), .bl (d.at n R W fo i)])) D (.lst (acc ++ [.bl x]))) ∧ upd (upd H2 tt (.tup [.bl (c.at n R W fo i), .bl (d.at n R W fo i)])) D (.lst (acc ++ [.bl x])) D = some (.lst (mk (i + 1) fun v => d.at n R W fo v || !c.at n R W fo v)) := fun x e => by
      refine ⟨_, hD3, by rw [mk_len, sizeLine_eq]; omega, fun b o h => ?_, ?_⟩
      · rw [upd_ne (ne_of_none h nD)]
        exact s3 _ _ (s2 _ _ h)
      · rw [upd_same, mk_snoc, e]
    refine ⟨tt, _, rfl, SqT.of upd_same, rfl, _, _, rfl, _, _, rfl, rfl, rfl, _, rfl, _, rfl, ?_⟩
    rcases Bool.eq_false_or_eq_true (d.at n R W fo i) with hb | hb
    · rw [if_pos hb]
      exact fin true (by rw [hb]; rfl)
    · rw [if_neg (by rw [hb]; exact Bool.false_ne_true)]
      exact ⟨_, rfl, _, rfl, fin _ (by rw [hb]; rfl)⟩
  · rintro H2 ⟨s2, hD⟩
    refine ⟨_, rfl, fo, rfl, ?_⟩
    rcases Bool.eq_false_or_eq_true fo with hfo | hfo
    · rw [if_pos hfo]
      refine ⟨_, rfl, _, rfl, rp, D, n, succ, _, rfl, hn, hrows.same s2, SqL.of hD, hsu, fun q H' nq s' hq => kQ q H' ?_ (s2.trans s') ?_⟩
      · cases e : H q with
        | none => rfl
        | some o => rw [s2 _ _ e] at nq; cases nq
      · rw [hq]
        refine congrArg (fun xs => some (HO.lst xs)) (mk_congr fun v hv => (allS _ v hv).trans ?_)
        show _ = Fm.at n R W fo (.imp c d) v
        rw [Fm.at, if_pos hfo]
    · rw [if_neg (by rw [hfo]; exact Bool.false_ne_true)]
      refine ⟨_, rfl, kQ D H2 nD s2 ?_⟩
      rw [hD]
      refine congrArg (fun xs => some (HO.lst xs)) (mk_congr fun v hv => ?_)
      show _ = Fm.at n R W fo (.imp c d) v
      rw [Fm.at, if_neg (by rw [hfo]; exact Bool.false_ne_true)]
theorem ModAt.ins {K : PySem.W.Frag} {C : Addr} {H : Hp} {p : Addr} {x : V} {n : Nat} {ps : List (Nat × Nat)} {as : List (Str × Addr × List Int)} {ad : List Addr} (m : ModAt K C H p x n ps as ad) : ∃ dx rp tp, H p = some (.ins C dx [("_frame", x), ("_rows", .ref rp), ("_true", .ref tp)]) := by
  obtain ⟨dx, rp, tp, _, _, _, h, _⟩ := m
  exact ⟨dx, rp, tp, h⟩
theorem fl_none {x y z : V} {m : Str} (h1 : (m == ("_frame" : Str)) = false) (h2 : (m == ("_rows" : Str)) = false) (h3 : (m == ("_true" : Str)) = false) : List.lookup m [(("_frame" : Str), x), ("_rows", y), ("_true", z)] = none :=
  (lk_past h1).trans ((lk_past h2).trans ((lk_past h3).trans rfl))
theorem sel_step (j : Nat) (f : Nat → Bool) : sel (j + 1) f = sel j f ++ if f j = true then [V.int (j : Int)] else [] := by
  unfold sel
  rw [List.range_succ, List.filter_append, List.map_append, List.filter_cons]
  split <;> rfl
theorem sel_ints (n : Nat) (f : Nat → Bool) : sel n f = (((List.range n).filter f).map fun w : Nat => (w : Int)).map V.int := by
  unfold sel
  rw [List.map_map]
  rfl
theorem cap_truth {K : PySem.W.Frag} {cl : List (Str × Addr)} {rp tp : Addr} {n : Nat} {R : Nat → Nat → Bool} {W : Str → Nat → Bool} {fo : Bool} {H6 : Hp} {y : V} {l : Addr} {us : List V} {b : Fm} {Q1 : VK} {E : XK} (W6 : WithC cl ["forced", "rows", "true", "worlds"] [some (.bl fo), some (.ref rp), some (.ref tp), some (.int (n : Int))] H6) (hn : n ≤ 1000) (MD : MdIn H6 rp tp n R W)
    (hy : Im K H6 y b.d) (hl : H6 l = some (.lst us)) (hR : Rs (MkZ n R W fo) H6 us b.kids) (k1 : ∀ v H2, Same H6 H2 → MkZ n R W fo H2 v b → Q1 v H2) : capSp cl [some (.bl fo), some (.ref rp), some (.ref tp), some (.int (n : Int))] (fun ws => frzSp (spTv K n R W fo ws)) [y, .ref l] H6 Q1 E := by
  refine ⟨rp, tp, y, l, b, us, rfl, rfl, hn, MD.keep fun a o e hz _ => W6.off e fun ob z => hz _ _ z, hy.mono W6.ts, W6.off hl (fun _ z => nomatch z), ⟨hR.1, fun i v c h1 h2 => ?_⟩, fun q H' nq s' hq => ⟨q, _, rfl, nq, hq, trivial, fun o noC => k1 _ _ (on_same fun b u e => ?_) ⟨q, o, rfl, on_new noC upd_same⟩⟩⟩
  · obtain ⟨a, o, e, h⟩ := hR.2 i v c h1 h2
    exact ⟨a, o, e, W6.frz h fun _ z => nomatch z⟩
  · rw [upd_ne (ne_of_none e nq)]
    exact s' _ _ e

def spTruth (K : PySem.W.Frag) (TT : List NdefX.NTab) (C : Addr) (hasFo : Option Bool) : Sp := fun vs H Q _ => ∃ (p : Addr) (x : V) (fv : V) (n : Nat) (ps : List (Nat × Nat)) (as : List (Str × Addr × List Int)) (ad : List Addr) (f : Fm) (fo : Bool), vs = (match hasFo with | none => [.ref p, fv, .bl fo] | some _ => [.ref p, fv]) ∧ (∀ b, hasFo = some b → b = fo) ∧
  ModAt K C H p x n ps as ad ∧ n ≤ 1000 ∧ ps.length ≤ 10000 ∧ (∀ z ∈ ps, z.1 < n ∧ z.2 < n) ∧ as.length < 60 ∧ (as.map (·.1)).Nodup ∧ OkV (n : Int) as ∧ Im K H fv f.d ∧ (∀ g ∈ f.subs, Ok1 g) ∧ f.sz ≤ 100000 ∧ NdefX.TabsN TT H ∧
  ∀ (q : Addr) (H' : Hp), H q = none → LamX.ExtN H H' → NdefX.TabsN TT H' → H' q = some (.lst (sel n (f.at n (fun v w => decide ((v, w) ∈ ps)) (wOf as) fo))) → Q (.ref q) H'
theorem ok_worlds_of (T : Top K mg) (TBs : ∀ p ∈ T.cs, LamX.TabB base mg p.1 p.2) : FnOk P w K mg base CX0 6 T.f_worlds_of T.d_worlds_of ["model", "a", "forced"] (spTruth K T.tabs T.c_Model none) := by
  have G_folded : FnOk P w K mg base CX0 5 T.f_folded T.d_folded ["a", "value_of"] (spFolded P w K mg base) := ok_folded T
  have G_Model_frame : FnOk P w K mg base CX0 1 T.f_Model_frame T.d_Model_frame ["self"] (spMFrame K T.c_Model) := ok_Model_frame T
  have G_Model_seen : FnOk P w K mg base CX0 1 T.f_Model_seen T.d_Model_seen ["self", "v"] (spMSeen K T.c_Model) := ok_Model_seen T
  have G_Model_true_worlds : FnOk P w K mg base CX0 1 T.f_Model_true_worlds T.d_Model_true_worlds ["self"] (spMTrue K T.c_Model) := ok_Model_true_worlds T
  have hm : (T.P_worlds_of, fun (_ _ : Nat) => (("_worlds_of.<locals>.value_of" : String) : Str)) ∈ T.tabs := by simp [Top.tabs]
  have hun := tab_uniq (T := T.tabs) T.dT hm
  have TB := TBs (T.c_worlds_of, T.P_worlds_of) (by simp [Top.cs])
  refine T.C_worlds_of.ok sc_worlds_of (fun vs H Q E h => ?_) (fun A outer s H vs Q E hr h => ?_)
  · obtain ⟨p, x, fv, n, ps, as, ad, f, fo, rfl, _⟩ := h
    rfl
  obtain ⟨p, x, fv, n, ps, as, ad, f, fo, rfl, _, hM, hn, hpl, hps, hal, hnd, hO, hx, hok, hsz, hT, kQ⟩ := h
  have hu64 := hr.units
  have hu := Nat.lt_of_le_of_lt (Nat.add_le_add_left (by decide : 1 ≤ 64) _) hu64
  refine ⟨_, (pss_cons (ps_asg (pe_meth0 (pv 0) T.cl_Model T.M_Model_frame G_Model_frame (hr.mono (by omega)) T.b_Model_frame .nil pass0) (pg_tup rfl (pgs_cons (pg_name (i := 3) sc_worlds_of.nd rfl (.inr rfl)) (pgs_cons (pg_name (i := 4) sc_worlds_of.nd rfl (.inl rfl)) pgs_nil))))
    (pss_cons (ps_set (i := 5) sc_worlds_of.nd rfl (.inr rfl) (pe_lc (own := [("v", 8)]) (g := gName 8) (tt := tYes) rfl sc_worlds_of.nd (pi_range1 (by rfl) T.z_range (pa_cons (pv 3) pa_nil)) (blkOk_by (N := ["model", "a", "forced", "worlds", "_", "rows", "true", "value_of", "v", "marked"]) (sc := defScope s_worlds_of) (by decide +kernel)) (fun _ _ _ _ _ => pg_name (i := 8) sc_worlds_of.nd rfl (Or.inl rfl)) (fun _ _ _ _ _ => pts_nil) (fun _ _ _ _ _ => (pe_meth (pv 0) T.cl_Model T.M_Model_seen G_Model_seen (hr.mono (by omega)) T.b_Model_seen .nil pass0 (pa_cons (pv 8) pa_nil)))))
    (pss_cons (ps_set (i := 6) sc_worlds_of.nd rfl (.inr rfl) (pe_meth0 (pv 0) T.cl_Model T.M_Model_true_worlds G_Model_true_worlds (hr.mono (by omega)) T.b_Model_true_worlds .nil pass0))
    (pss_cons (NdefX.ps_ndefMS (i := 7) rfl TB rfl hm rfl hun (NdefX.ndef_free fsc_worlds_of_value_of) rfl rfl rfl sc_worlds_of.nd rfl (.inl rfl) (.inl rfl))
    (pss_one (ps_ret (pe_lc (own := [("v", 8), ("marked", 9)]) (g := (gTup K 2 (gCons (gName 8) (gCons (gName 9) gNil)))) rfl sc_worlds_of.nd (pi_enum (by rfl) T.z_enumerate (pa_cons (pe_callW (fr := ["forced", "rows", "true", "worlds"]) (js := [2, 5, 6, 3]) G_folded (hr.mono (by omega)) (by rfl) T.m_folded T.F_folded.kp T.b_folded (fun ok => NdefX.Caps.made (scope := C8.fnScope s_worlds_of_value_of) ok (NdefX.ndef_free fsc_worlds_of_value_of) (NdefX.ndef_fr fsc_worlds_of_value_of) rfl) (fun ok => caps_mem (scope := C8.fnScope s_worlds_of_value_of) ok (NdefX.ndef_free fsc_worlds_of_value_of)) (fun _ _ => rfl) (pa_cons (pv 1) (pa_cons (pv 7) pa_nil))) pa_nil)) (blkOk_by (N := ["model", "a", "forced", "worlds", "_", "rows", "true", "value_of", "v", "marked"]) (sc := defScope s_worlds_of) (by decide +kernel)) (fun _ _ _ _ _ => (pg_tup rfl (pgs_cons (pg_name (i := 8) sc_worlds_of.nd rfl (.inl rfl)) (pgs_cons (pg_name (i := 9) sc_worlds_of.nd rfl (.inl rfl)) pgs_nil)))) (fun _ _ _ _ _ => pts_one (pt_val (pv 9))) (fun _ _ _ _ _ => (pv 8))))))))), ?_⟩
  obtain ⟨dx, rp0, tp0, hp⟩ := hM.ins
  have nl : ∀ {m : Str}, (m == ("_frame" : Str)) = false → (m == ("_rows" : Str)) = false → (m == ("_true" : Str)) = false → List.lookup m [(("_frame" : Str), x), ("_rows", .ref rp0), ("_true", .ref tp0)] = none := fun h1 h2 h3 => fl_none h1 h2 h3
  obtain ⟨_, _, _, _, _, _, _, hfr, _⟩ := id hM
  obtain ⟨xa, xb, xys, rfl, f1, f2, f3⟩ := im_fr hfr
  refine ⟨_, rfl, p, dx, _, rfl, hp, nl (by decide) (by decide) (by decide), p, _, n, ps, as, ad, rfl, hM, xa, _, rfl, f1, rfl, _, _, rfl, _, _, rfl, rfl, ?_⟩
  refine ⟨_, rfl, (n : Int), rfl, by omega, by omega, fun D nD => ?_⟩
  refine lc_range (n := (n : Int).toNat) (fun i H2 => ∃ rs : List Addr, Same H H2 ∧ H2 D = some (.lst (rs.map V.ref)) ∧ rs.length = i ∧ D ∉ rs ∧ ∀ j r, rs[j]? = some r → H2 r = some (.lst ((sucs ps j).map fun w : Nat => V.int w))) ⟨[], same_new nD, upd_same, rfl, fun h => (nomatch h), fun j r h => (nomatch h)⟩ ?_ ?_
  · rintro i H2 hi ⟨rs, s2, hD, hl, nDr, hrs⟩
    have hM2 := hM.keep (Same.ts s2) fun q _ o e => s2 _ _ e
    refine ⟨rfl, _, rfl, p, dx, _, rfl, s2 _ _ hp, nl (by decide) (by decide) (by decide), _, rfl, p, i, _, n, ps, as, ad, ?_, hM2, hpl, fun q H3 nq s3 hq => ?_⟩
    · show [V.ref p, V.int (0 + (i : Int))] = _
      rw [Int.zero_add]
    have hD3 := s3 _ _ hD
    have nqD : q ≠ D := fun e => by rw [e, hD] at nq; cases nq
    refine ⟨_, hD3, by rw [List.length_map, hl, sizeLine_eq]; omega, rs ++ [q], fun b o e => ?_, ?_, by rw [List.length_append, hl]; rfl, ?_, fun j r hr => ?_⟩
    · rw [upd_ne (ne_of_none e nD)]
      exact s3 _ _ (s2 _ _ e)
    · rw [upd_same, List.map_append]
      rfl
    · intro hm
      rcases List.mem_append.mp hm with hm | hm
      · exact nDr hm
      · exact nqD (List.mem_singleton.mp hm).symm
    · have hrD : r ≠ D := by
        intro e
        rcases List.mem_append.mp (List.mem_of_getElem? hr) with hm | hm
        · exact nDr (e ▸ hm)
        · exact nqD ((List.mem_singleton.mp hm).symm.trans e)
      rw [upd_ne hrD]
      by_cases hj : j < rs.length
      · rw [List.getElem?_append_left hj] at hr
        exact s3 _ _ (hrs j r hr)
      · have e : j = i := by
          have := (List.getElem?_eq_some_iff.mp hr).1
          rw [List.length_append, List.length_singleton] at this
          omega
        subst e
        rw [← hl, List.getElem?_concat_length] at hr
        cases hr
        exact hq
  rintro H2 ⟨rs, s2, hD, hl, nDr, hrs⟩
  rw [Int.toNat_natCast] at hl
  have hM2 := hM.keep (Same.ts s2) fun q _ o e => s2 _ _ e
  refine ⟨_, rfl, p, dx, _, rfl, s2 _ _ hp, nl (by decide) (by decide) (by decide), p, _, n, ps, as, ad, rfl, hM2, hal, fun tp cs H3 ntp s3 hV hTr hcf => ?_⟩
  have s23 := s2.trans s3
  have MD : MdIn H3 D tp n (fun v w => decide ((v, w) ∈ ps)) (wOf as) := by
    refine ⟨⟨sucs ps, ⟨rs, s3 _ _ hD, hl, fun j r h => s3 _ _ (hrs j r h)⟩, fun v _ => ⟨?_, fun w hw => ?_⟩, fun v _ w => ?_⟩, cs, hV, fun y hy z hz => ?_, fun nm v => (wOf_true hTr hnd nm v).symm⟩
    · unfold sucs
      rw [List.length_map]
      exact Nat.le_trans (List.length_filter_le _ _) hpl
    · unfold sucs at hw
      obtain ⟨z, hz, rfl⟩ := List.mem_map.mp hw
      exact (hps z (List.mem_filter.mp hz).1).2
    · refine decide_eq_decide.mpr ⟨fun h => List.mem_map.mpr ⟨(v, w), List.mem_filter.mpr ⟨h, decide_eq_true rfl⟩, rfl⟩, fun h => ?_⟩
      unfold sucs at h
      obtain ⟨z, hz, e⟩ := List.mem_map.mp h
      obtain ⟨h1, h2⟩ := List.mem_filter.mp hz
      have h2 : z.1 = v := of_decide_eq_true h2
      rw [← h2, ← e]
      exact h1
    · obtain ⟨_, x, hx, _, _, hm⟩ := hTr.1 y hy
      exact hO x hx z ((hm z).mp hz)
  refine ⟨hT.ext s23, fun g c' H4 eN nn T4 hg0 hg hc => ?_⟩
  have MD4 := MD.keep (H' := H4) fun a o e _ ht => eN _ _ e ht
  have hx4 := (hx.mono (Same.ts s23)).mono (extn_ts eN)
  refine ⟨_, rfl, _, rfl, fun H5 pl => ?_⟩
  have MD5 := MD4.keep (H' := H5) fun a o e _ _ => pl.same _ _ e
  refine ⟨_, g, f, _, MkZ n (fun v w => decide ((v, w) ∈ ps)) (wOf as) fo, f.ht, rfl, hx4.mono (Same.ts pl.same), hok, Nat.le_refl _, hsz, .cap (nok_frz ((nok_truth T (n := n) (R := fun v w => decide ((v, w) ∈ ps)) (W := wOf as) (fo := fo)).mono (by decide))) (pl.same _ _ hg) (pl.same _ _ hc) pl.w (fun _ _ _ _ h => h), MkZ.tz, fun b H6 y l us Q1 hb s6 hy hl hR k1 => ?_, fun v H6 s6 hv W6 => ?_⟩
  · have W6 := pl.w.same (H' := H6) fun b o u e => s6 _ _ e
    exact cap_truth W6 hn (MD5.same s6) hy hl hR k1
  · obtain ⟨ma, mo, rfl, hma⟩ := hv
    have hma6 := W6.frz hma fun _ z => nomatch z
    have s46 := pl.off s6
    have T6 := T4.ext s46
    have e46 : LamX.ExtN H (offC _ H6) := ((LamX.ExtN.of s23).trans eN).trans (LamX.ExtN.of s46)
    refine ⟨ma, _, rfl, .inl (.inr ⟨mo, hma6⟩), fun D2 nD2 => ?_⟩
    generalize offC _ H6 = H7 at hma6 s46 T6 e46 nD2
    refine lc_it walk_enum (fun i H8 => Same H7 H8 ∧ H8 D2 = some (.lst (sel i (f.at n (fun v w => decide ((v, w) ∈ ps)) (wOf as) fo)))) ⟨same_new nD2, upd_same⟩ (fun i H8 _ h => h.1.seq (.inl (.inr ⟨mo, hma6⟩))) ?_ ?_
    · rintro i y H8 H9 hi ⟨s8, hD8⟩ ⟨tt, k1, k2, rfl, ntt, rfl, hk1, hk2⟩
      have hi2 : i < n := by rw [mk_len] at hi; exact hi
      replace hk2 := (mk_get hi2).symm.trans hk2
      cases hk1
      cases hk2
      have s9 := same_new (o := .tup [.int (i : Int), .bl (f.at n (fun v w => decide ((v, w) ∈ ps)) (wOf as) fo i)]) ntt
      refine ⟨tt, _, rfl, SqT.of upd_same, rfl, _, _, rfl, _, _, rfl, rfl, rfl, _, rfl, _, rfl, ?_⟩
      have hD9 := s9 _ _ hD8
      have base9 : ∀ b o, H7 b = some o → upd H8 tt (.tup [.int (i : Int), .bl (f.at n (fun v w => decide ((v, w) ∈ ps)) (wOf as) fo i)]) b = some o := fun b o e => s9 _ _ (s8 _ _ e)
      rcases Bool.eq_false_or_eq_true (f.at n (fun v w => decide ((v, w) ∈ ps)) (wOf as) fo i) with hb | hb
      · refine (if_pos hb).mpr ⟨_, rfl, _, hD9, ?_, fun b o e => ?_, ?_⟩
        · have := sel_len i (f.at n (fun v w => decide ((v, w) ∈ ps)) (wOf as) fo)
          rw [sizeLine_eq]
          omega
        · rw [upd_ne (ne_of_none e nD2)]
          exact base9 _ _ e
        · rw [upd_same, sel_step, if_pos hb]
      · refine (if_neg (by rw [hb]; exact Bool.false_ne_true)).mpr ⟨base9, ?_⟩
        rw [hD9, sel_step, if_neg (by rw [hb]; exact Bool.false_ne_true), List.append_nil]
    · rintro H8 ⟨s8, hD8⟩
      rw [mk_len] at hD8
      refine kQ D2 H8 ?_ (e46.trans (LamX.ExtN.of s8)) (T6.ext s8) hD8
      have h4 : H4 D2 = none := by
        cases e : H4 D2 with
        | none => rfl
        | some o => rw [s46 _ _ e] at nD2; cases nD2
      have h3 := nn _ h4
      cases e : H D2 with
      | none => rfl
      | some o => rw [s23 _ _ e] at h3; cases h3

def spForc (K : PySem.W.Frag) (TT : List NdefX.NTab) (C CN : Addr) : Sp := fun vs H Q E => ∃ (p : Addr) (x : V) (fv : V) (n : Nat) (ps : List (Nat × Nat)) (as : List (Str × Addr × List Int)) (ad : List Addr) (f : Fm), vs = [.ref p, fv] ∧
  ModAt K C H p x n ps as ad ∧ n ≤ 1000 ∧ ps.length ≤ 10000 ∧ (∀ z ∈ ps, z.1 < n ∧ z.2 < n) ∧ as.length < 60 ∧ (as.map (·.1)).Nodup ∧ OkV (n : Int) as ∧ Im K H fv f.d ∧ (∀ g ∈ f.subs, Ok1 g) ∧ f.sz ≤ 100000 ∧ NdefX.TabsN TT H ∧
  (f.plain = false → ∀ H', Same H H' → E (.ref CN) none H') ∧
  (f.plain = true → ∀ (q : Addr) (H' : Hp), H q = none → LamX.ExtN H H' → NdefX.TabsN TT H' → H' q = some (.lst (sel n (f.at n (fun v w => decide ((v, w) ∈ ps)) (wOf as) true))) → Q (.ref q) H')
theorem ok_forcing (T : Top K mg) (TBs : ∀ p ∈ T.cs, LamX.TabB base mg p.1 p.2) : FnOk P w K mg base (L2.CX P w) 7 T.f_forcing T.d_forcing ["model", "a"] (spForc K T.tabs T.c_Model T.c_NotPlain) := by
  have G_worlds_of := ok_worlds_of (P := P) (w := w) (base := base) T TBs
  have G_is_plain : FnOk P w K mg base CX0 6 T.f_is_plain T.d_is_plain ["a"] (spPlain K) := ok_is_plain T
  refine T.F_forcing.okX sc_forcing (fun vs H Q E h => ?_) (fun cdv A outer s H vs Q E hr h => ?_)
  · obtain ⟨p, x, fv, n, ps, as, ad, f, rfl, _⟩ := h
    rfl
  obtain ⟨p, x, fv, n, ps, as, ad, f, rfl, hM, hn, hpl, hps, hal, hnd, hO, hx, hok, hsz, hT, kE, kQ⟩ := h
  refine ⟨_, (pss_cons (ps_if (pt_not (pt_val (pe_call G_is_plain (hr.mono (by omega)) (by rfl) T.m_is_plain T.F_is_plain.kp T.b_is_plain .nil pass0 (pa_cons (pv 1) pa_nil))))
      (pss_one (ps_raise rfl (takes_of rfl rfl rfl rfl) (pmk_own PySem.F.excBase_ValueError T.x_NotPlain T.g_NotPlain T.k_NotPlain (raises_own T.b_NotPlain T.t_NotPlain) rfl)))
      pss_nil)
    (pss_one (ps_ret (pe_call G_worlds_of (hr.mono (by omega)) (by rfl) T.m_worlds_of T.F_worlds_of.kp T.b_worlds_of .nil pass0 (pa_cons (pv 0) (pa_cons (pv 1) (pa_cons pe_bl pa_nil))))))), ?_⟩
  refine ⟨_, rfl, fv, f, rfl, hx, hok, hsz, fun H1 s1 => ⟨_, rfl, ?_⟩⟩
  rcases Bool.eq_false_or_eq_true f.plain with hp | hp
  · rw [hp]
    refine iteF ⟨_, rfl, _, rfl, p, x, fv, n, ps, as, ad, f, true, rfl, fun _ h => (nomatch h), hM.keep (Same.ts s1) (fun q _ o e => s1 _ _ e), hn, hpl, hps, hal, hnd, hO, hx.mono (Same.ts s1), hok, hsz, hT.ext s1, fun q H' nq e' T' hq => kQ hp q H' ?_ ((LamX.ExtN.of s1).trans e') T' hq⟩
    cases e : H q with
    | none => rfl
    | some o => rw [s1 _ _ e] at nq; cases nq
  · rw [hp]
    exact iteT (kE hp H1 s1)

/-! ### the law's own evaluation -/
/-- the law's model: its grid, its values -/
def LmAt (K : PySem.W.Frag) (H : Hp) (t : Addr) (n : Nat) (R : Nat → Nat → Bool) (W : Str → Nat → Bool) : Prop := ∃ s d : Addr, SqT K H t [.ref s, .ref d] ∧ GridAt H s n R ∧ ValAt H d n nms W
theorem ValAt.same {H H' : Hp} {d : Addr} {n : Nat} {names : List Str} {W : Str → Nat → Bool} (v : ValAt H d n names W) (s : Same H H') : ValAt H' d n names W := by
  obtain ⟨as, h1, h2, h3, h4, h5⟩ := v
  exact ⟨as, h1, s _ _ h2, h3, h4, fun x hx => s _ _ (h5 x hx)⟩
theorem LmAt.same {K : PySem.W.Frag} {H H' : Hp} {t : Addr} {n : Nat} {R : Nat → Nat → Bool} {W : Str → Nat → Bool} (m : LmAt K H t n R W) (s : Same H H') : LmAt K H' t n R W := by
  obtain ⟨a, d, h1, h2, h3⟩ := m
  exact ⟨a, d, (Same.ts s).sqT h1, h2.same s, h3.same s⟩
theorem im_two {K : PySem.W.Frag} {H : Hp} {ys : List V} {d1 d2 : PyData} (h : ImAll K H ys [d1, d2]) : ∃ a b, ys = [a, b] ∧ Im K H a d1 ∧ Im K H b d2 := by
  cases h with
  | cons h1 h2 =>
    cases h2 with
    | cons h3 h4 =>
      cases h4
      exact ⟨_, _, rfl, h1, h3⟩
theorem im_one {K : PySem.W.Frag} {H : Hp} {ys : List V} {d1 : PyData} (h : ImAll K H ys [d1]) : ∃ a, ys = [a] ∧ Im K H a d1 := by
  cases h with
  | cons h1 h2 =>
    cases h2
    exact ⟨_, rfl, h1⟩
theorem in_sel {n v : Nat} {φ : Nat → Bool} (h : v < n) : inV (.int (v : Int)) (sel n φ) = φ v := by
  have key : inV (.int (v : Int)) (sel n φ) = true ↔ φ v = true := by
    unfold inV
    rw [List.any_eq_true]
    constructor
    · rintro ⟨x, hx, he⟩
      unfold sel at hx
      obtain ⟨u, hu, rfl⟩ := List.mem_map.mp hx
      have e : ((u : Nat) : Int) = (v : Int) := by simpa [eqV] using he
      have e2 : u = v := Int.ofNat.inj e
      rw [← e2]
      exact (List.mem_filter.mp hu).2
    · intro h2
      exact ⟨.int (v : Int), List.mem_map.mpr ⟨v, List.mem_filter.mpr ⟨List.mem_range.mpr h, h2⟩, rfl⟩, by simp [eqV]⟩
  cases h1 : inV (.int (v : Int)) (sel n φ) <;> cases h2 : φ v <;> simp_all
theorem sel_flat (n : Nat) (φ : Nat → Bool) : (sel n φ).all flatV = true := by
  refine List.all_eq_true.mpr fun x hx => ?_
  unfold sel at hx
  obtain ⟨u, _, rfl⟩ := List.mem_map.mp hx
  rfl
theorem bgL_at (R : Nat → Nat → Bool) {n i j : Nat} (h : j < n) : (bg R n i)[j]? = some (.bl (R i j)) := by
  unfold bg
  rw [List.getElem?_map, List.getElem?_range h]
  rfl
theorem valA_at {as : List (Str × Addr)} (nd : (as.map (·.1)).Nodup) {x : Str × Addr} (hx : x ∈ as) : valV (as.map fun x => ((.inr x.1 : Key), V.ref x.2)) (.inr x.1) = some (.ref x.2) := by
  induction as with
  | nil => cases hx
  | cons y r ih =>
    rw [List.map_cons, List.nodup_cons] at nd
    rcases List.mem_cons.mp hx with e | h
    · subst e
      exact valV_pos rfl
    · have ne : ¬ y.1 = x.1 := fun e => nd.1 (e ▸ List.mem_map.mpr ⟨x, h, rfl⟩)
      refine (valV_neg (fun e => ne (Sum.inr.inj e))).trans (ih nd.2 h)
def spLTrue (K : PySem.W.Frag) (k : Nat) : Sp := fun vs H Q _ => ∃ (t : Addr) (x : V) (v n : Nat) (fo : Bool) (R : Nat → Nat → Bool) (W : Str → Nat → Bool) (f : Fm), vs = [.ref t, x, .int (v : Int), .bl fo] ∧ LmAt K H t n R W ∧ n ≤ 100 ∧ v < n ∧ Im K H x f.d ∧ f.over nms = true ∧ f.ht < k ∧
  ∀ H', Same H H' → Q (.bl (f.at n R W fo v)) H'
theorem ok_law_true (T : Top K mg) : ∀ k : Nat, FnOk P w K mg base CX0 k T.f_law_true T.d_law_true ["model", "a", "w", "forced"] (spLTrue K k) := by
  intro k
  induction k with
  | zero =>
    refine fn_none fun vs H Q E h => ?_
    obtain ⟨t, x, v, n, fo, R, W, f, _, _, _, _, _, _, h, _⟩ := h
    exact absurd h (Nat.not_lt_zero _)
  | succ k G_law_true =>
    refine T.F_law_true.ok sc_law_true (fun vs H Q E h => ?_) (fun cdv A outer s H vs Q E hr h => ?_)
    · obtain ⟨t, x, v, n, fo, R, W, f, rfl, _⟩ := h
      rfl
    obtain ⟨t, x, v, n, fo, R, W, f, rfl, hM, hn, hv, hx, ho, hh, kQ⟩ := h
    have hu64 := hr.units
    have hu := Nat.lt_of_le_of_lt (Nat.add_le_add_left (by decide : 1 ≤ 64) _) hu64
    obtain ⟨sg, sd, hT, hG, hV⟩ := id hM
    obtain ⟨ba, ys, rfl, h1, h2⟩ := im_inv hx
    refine ⟨_, (pss_cons (ps_set (i := 4) sc_law_true.nd rfl (.inl rfl) (pe_ix ix_tup (pv 0) pe_int (fun _ _ => rfl)))
    (pss_cons (ps_if (pt_cmpR op_eq (pe_ix ix_tup (pv 1) pe_int (fun _ _ => rfl)) pe_str (nomark _))
      (pss_one (ps_ret pe_bl))
      pss_nil)
    (pss_cons (ps_if (pt_cmpR op_eq (pe_ix ix_tup (pv 1) pe_int (fun _ _ => rfl)) pe_str (nomark _))
      (pss_one (ps_ret (pe_cmpR op_in_seq (pv 2) (pe_dget2 hu (pe_ix ix_tup (pv 0) pe_int (fun _ _ => rfl)) (pe_ix ix_tup (pv 1) pe_int (fun _ _ => rfl)) (pe_lst pa_nil) ⟨rfl, rfl, rfl, rfl⟩) rfl)))
      pss_nil)
    (pss_cons (ps_if (pt_cmpR op_eq (pe_ix ix_tup (pv 1) pe_int (fun _ _ => rfl)) pe_str (nomark _))
      (pss_one (ps_ret (pe_and (pe_call G_law_true (hr.mono (by omega)) (by rfl) T.m_law_true T.F_law_true.kp T.b_law_true .nil pass0 (pa_cons (pv 0) (pa_cons (pe_ix ix_tup (pv 1) pe_int (fun _ _ => rfl)) (pa_cons (pv 2) (pa_cons (pv 3) pa_nil))))) (pe_one (pe_call G_law_true (hr.mono (by omega)) (by rfl) T.m_law_true T.F_law_true.kp T.b_law_true .nil pass0 (pa_cons (pv 0) (pa_cons (pe_ix ix_tup (pv 1) pe_int (fun _ _ => rfl)) (pa_cons (pv 2) (pa_cons (pv 3) pa_nil)))))))))
      pss_nil)
    (pss_cons (ps_if (pt_cmpR op_eq (pe_ix ix_tup (pv 1) pe_int (fun _ _ => rfl)) pe_str (nomark _))
      (pss_one (ps_ret (pe_or (pe_call G_law_true (hr.mono (by omega)) (by rfl) T.m_law_true T.F_law_true.kp T.b_law_true .nil pass0 (pa_cons (pv 0) (pa_cons (pe_ix ix_tup (pv 1) pe_int (fun _ _ => rfl)) (pa_cons (pv 2) (pa_cons (pv 3) pa_nil))))) (pe_one (pe_call G_law_true (hr.mono (by omega)) (by rfl) T.m_law_true T.F_law_true.kp T.b_law_true .nil pass0 (pa_cons (pv 0) (pa_cons (pe_ix ix_tup (pv 1) pe_int (fun _ _ => rfl)) (pa_cons (pv 2) (pa_cons (pv 3) pa_nil)))))))))
      pss_nil)
    (pss_cons (ps_if (pt_cmpR op_eq (pe_ix ix_tup (pv 1) pe_int (fun _ _ => rfl)) pe_str (nomark _))
      (pss_cons (ps_for PassesOwn.never rfl (pi_range1 (by rfl) T.z_range (pa_cons (pe_callB call_len_seq (by rfl) T.z_len PySem.boot_len (pa_cons (pv 4) pa_nil)) pa_nil)) (pg_name (i := 5) sc_law_true.nd rfl (.inl rfl))
      (pss_one (ps_if (PW.pt (pw_and (pt_val (pe_ix ix_list (pe_ix ix_list (pv 4) (pv 2) (fun _ _ => rfl)) (pv 5) (fun _ _ => rfl))) (pw_and1 (pt_not (pt_val (pe_call G_law_true (hr.mono (by omega)) (by rfl) T.m_law_true T.F_law_true.kp T.b_law_true .nil pass0 (pa_cons (pv 0) (pa_cons (pe_ix ix_tup (pv 1) pe_int (fun _ _ => rfl)) (pa_cons (pv 5) (pa_cons (pv 3) pa_nil))))))))))
      (pss_one (ps_ret pe_bl))
      pss_nil)))
    (pss_one (ps_ret pe_bl)))
      pss_nil)
    (pss_cons (ps_for PassesOwn.never rfl (pi_range1 (by rfl) T.z_range (pa_cons (pe_callB call_len_seq (by rfl) T.z_len PySem.boot_len (pa_cons (pv 4) pa_nil)) pa_nil)) (pg_name (i := 5) sc_law_true.nd rfl (.inl rfl))
      (pss_one (ps_if (PW.pt (pw_or (PW.pt (pw_and (pt_cmpR op_eq (pv 5) (pv 2) (nomark _)) (pw_and1 (pt_not (pt_val (pv 3)))))) (pw_or1 (PW.pt (pw_and (pt_val (pv 3)) (pw_and1 (pt_val (pe_ix ix_list (pe_ix ix_list (pv 4) (pv 2) (fun _ _ => rfl)) (pv 5) (fun _ _ => rfl)))))))))
      (pss_one (ps_if (PW.pt (pw_and (pt_val (pe_call G_law_true (hr.mono (by omega)) (by rfl) T.m_law_true T.F_law_true.kp T.b_law_true .nil pass0 (pa_cons (pv 0) (pa_cons (pe_ix ix_tup (pv 1) pe_int (fun _ _ => rfl)) (pa_cons (pv 5) (pa_cons (pv 3) pa_nil)))))) (pw_and1 (pt_not (pt_val (pe_call G_law_true (hr.mono (by omega)) (by rfl) T.m_law_true T.F_law_true.kp T.b_law_true .nil pass0 (pa_cons (pv 0) (pa_cons (pe_ix ix_tup (pv 1) pe_int (fun _ _ => rfl)) (pa_cons (pv 5) (pa_cons (pv 3) pa_nil))))))))))
      (pss_one (ps_ret pe_bl))
      pss_nil))
      pss_nil)))
    (pss_one (ps_ret pe_bl))))))))), ?_⟩
    refine ⟨_, rfl, t, _, 0, _, rfl, rfl, hT, atI_nat (j := 0) rfl, ?_⟩
    refine ⟨_, rfl, ba, _, 0, _, rfl, rfl, h1, atI_nat (j := 0) rfl, rfl, _, rfl, ?_⟩
    rw [sg_fal]
    cases hfal : f.isFal with
    | true =>
      have eb : f = .fal := by cases f <;> first | rfl | cases hfal
      subst eb
      exact iteT (kQ _ (L2.Same.refl _))
    | false =>
    refine iteF ⟨_, rfl, ba, _, 0, _, rfl, rfl, h1, atI_nat (j := 0) rfl, rfl, _, rfl, ?_⟩
    rw [sg_var]
    cases hvar : f.isVar with
    | true =>
      obtain ⟨_, vn, rfl⟩ := kids_var hvar
      have hva := im_var_at hx
      have hnm : vn ∈ nms := of_decide_eq_true ho
      obtain ⟨as, a1, a2, a3, a4, a5⟩ := hV
      refine iteT ⟨_, rfl, _, rfl, t, _, 1, _, rfl, rfl, hT, atI_nat (j := 1) rfl, sd, rfl, .inl ⟨_, .inl a2⟩, _, rfl, ba, _, 1, _, rfl, rfl, SqT.of hva, atI_nat (j := 1) rfl, (by show 0 ≤ sizeLine; decide), fun z nz => ?_⟩
      have s1 := same_new (o := .lst []) nz
      rw [← a1] at hnm
      obtain ⟨y, hy, rfl⟩ := List.mem_map.mp hnm
      have nd : (as.map (·.1)).Nodup := by rw [a1]; decide +kernel
      refine ⟨some (.ref y.2), .inl ⟨_, .inr y.1, .inl (s1 _ _ a2), rfl, ?_⟩, y.2, _, rfl, .inl (SqL.of (s1 _ _ (a5 y hy))), rfl, sel_flat _ _, ?_⟩
      · exact (valA_at nd hy).symm
      · show Q (.bl (inV (.int (v : Int)) (sel n (W y.1)))) _
        rw [in_sel hv]
        exact kQ _ s1
    | false =>
    refine iteF ⟨_, rfl, ba, _, 0, _, rfl, rfl, h1, atI_nat (j := 0) rfl, rfl, _, rfl, ?_⟩
    rw [sg_and2]
    cases hand : f.isAnd with
    | true =>
      obtain ⟨c, d, rfl⟩ : ∃ c d, f = .and c d := by cases f <;> first | exact ⟨_, _, rfl⟩ | cases hand
      obtain ⟨y1, y2, rfl, i1, i2⟩ := im_two h2
      have ho2 : c.over nms = true ∧ d.over nms = true := by
        have : (c.over nms && d.over nms) = true := ho
        exact ⟨(Bool.and_eq_true _ _ ▸ this).1, (Bool.and_eq_true _ _ ▸ this).2⟩
      have hc : c.ht < k ∧ d.ht < k := by
        have : max c.ht d.ht + 1 < k + 1 := hh
        omega
      refine iteT ⟨_, rfl, _, rfl, ba, _, 1, _, rfl, rfl, h1, atI_nat (j := 1) rfl, _, rfl, _, rfl, t, y1, v, n, fo, R, W, c, rfl, hM, hn, hv, i1, ho2.1, hc.1, fun H2 s2 => ⟨_, rfl, ?_⟩⟩
      rcases Bool.eq_false_or_eq_true (c.at n R W fo v) with hb | hb
      · rw [if_pos hb]
        refine ⟨_, rfl, _, rfl, ba, _, 2, _, rfl, rfl, (Same.ts s2).sqT h1, atI_nat (j := 2) rfl, _, rfl, _, rfl, t, y2, v, n, fo, R, W, d, rfl, hM.same s2, hn, hv, i2.mono (Same.ts s2), ho2.2, hc.2, fun H3 s3 => ?_⟩
        have q := kQ H3 (s2.trans s3)
        rw [Fm.at, hb] at q
        exact q
      · rw [if_neg (by rw [hb]; exact Bool.false_ne_true)]
        have q := kQ H2 s2
        rw [Fm.at, hb] at q
        exact q
    | false =>
    refine iteF ⟨_, rfl, ba, _, 0, _, rfl, rfl, h1, atI_nat (j := 0) rfl, rfl, _, rfl, ?_⟩
    rw [sg_or2]
    cases hor : f.isOr2 with
    | true =>
      obtain ⟨c, d, rfl⟩ : ∃ c d, f = .or c d := by cases f <;> first | exact ⟨_, _, rfl⟩ | cases hor
      obtain ⟨y1, y2, rfl, i1, i2⟩ := im_two h2
      have ho2 : c.over nms = true ∧ d.over nms = true := by
        have : (c.over nms && d.over nms) = true := ho
        exact ⟨(Bool.and_eq_true _ _ ▸ this).1, (Bool.and_eq_true _ _ ▸ this).2⟩
      have hc : c.ht < k ∧ d.ht < k := by
        have : max c.ht d.ht + 1 < k + 1 := hh
        omega
      refine iteT ⟨_, rfl, _, rfl, ba, _, 1, _, rfl, rfl, h1, atI_nat (j := 1) rfl, _, rfl, _, rfl, t, y1, v, n, fo, R, W, c, rfl, hM, hn, hv, i1, ho2.1, hc.1, fun H2 s2 => ⟨_, rfl, ?_⟩⟩
      rcases Bool.eq_false_or_eq_true (c.at n R W fo v) with hb | hb
      · rw [if_pos hb]
        have q := kQ H2 s2
        rw [Fm.at, hb] at q
        exact q
      · rw [if_neg (by rw [hb]; exact Bool.false_ne_true)]
        refine ⟨_, rfl, _, rfl, ba, _, 2, _, rfl, rfl, (Same.ts s2).sqT h1, atI_nat (j := 2) rfl, _, rfl, _, rfl, t, y2, v, n, fo, R, W, d, rfl, hM.same s2, hn, hv, i2.mono (Same.ts s2), ho2.2, hc.2, fun H3 s3 => ?_⟩
        have q := kQ H3 (s2.trans s3)
        rw [Fm.at, hb] at q
        exact q
    | false =>
    obtain ⟨rs, g1, g2, g3, g4, g5⟩ := id hG
    have el : ((rs.map V.ref).length : Int) = (n : Int) := by rw [List.length_map, g2]
    have hrow : ∀ {u : Nat}, u < n → ∃ r, rs[u]? = some r := fun {u} hu => ⟨_, List.getElem?_eq_getElem (by rw [g2]; exact hu)⟩
    obtain ⟨rv, hrv⟩ := hrow hv
    have hrvV : (rs.map V.ref)[v]? = some (.ref rv) := by rw [List.getElem?_map, hrv]; rfl
    have hrow2 := g5 v rv hrv
    refine iteF ⟨_, rfl, ba, _, 0, _, rfl, rfl, h1, atI_nat (j := 0) rfl, rfl, _, rfl, ?_⟩
    rw [sg_box]
    cases hbox : f.isBox with
    | true =>
      obtain ⟨c, rfl⟩ := box_ofT hbox
      obtain ⟨y1, rfl, i1⟩ := im_one h2
      have hc : c.ht < k := by
        have : c.ht + 1 < k + 1 := hh
        omega
      refine iteT ⟨_, rfl, sg, _, rfl, .inl (SqL.of g1), ?_⟩
      rw [el]
      refine ⟨(n : Int), rfl, by omega, by omega, for_range (n := (n : Int).toNat) (fun i σ H2 => ∃ u0 : Option V, σ = [some (.ref t), some (.ref ba), some (.int (v : Int)), some (.bl fo), some (.ref sg), u0] ∧ Same H H2 ∧ ∀ u, u < i → (!R v u || c.at n R W fo u) = true) ⟨none, rfl, L2.Same.refl _, fun u h => absurd h (Nat.not_lt_zero _)⟩ ?_ ?_⟩
      · rintro i σ H2 hi ⟨u0, rfl, s2, hall⟩
        have hin : i < n := by omega
        change gName 5 (V.int (0 + (i : Int))) _ _ _
        rw [Int.zero_add]
        have nxt : (!R v i || c.at n R W fo i) = true → ∀ u, u < i + 1 → (!R v u || c.at n R W fo u) = true := fun e u hu2 => by
          by_cases hui : u = i
          · rw [hui]; exact e
          · exact hall u (by omega)
        refine ⟨_, rfl, _, rfl, sg, _, (v : Int), .ref rv, rfl, rfl, SqL.of (s2 _ _ g1), atI_nat hrvV, _, rfl, rv, _, (i : Int), .bl (R v i), rfl, rfl, SqL.of (s2 _ _ hrow2), atI_nat (bgL_at R hin), R v i, rfl, ?_⟩
        rcases Bool.eq_false_or_eq_true (R v i) with hR | hR
        · rw [if_pos hR]
          refine ⟨_, rfl, _, rfl, ba, _, 1, _, rfl, rfl, (Same.ts s2).sqT h1, atI_nat (j := 1) rfl, _, rfl, _, rfl, t, y1, i, n, fo, R, W, c, rfl, hM.same s2, hn, hin, i1.mono (Same.ts s2), ho, hc, fun H3 s3 => ⟨_, rfl, ?_⟩⟩
          rcases Bool.eq_false_or_eq_true (c.at n R W fo i) with hb | hb
          · rw [hb]
            exact iteF ⟨_, rfl, s2.trans s3, nxt (by rw [hb]; simp)⟩
          · rw [hb]
            have q := kQ H3 (s2.trans s3)
            rw [Fm.at, show ((List.range n).all fun u => !R v u || c.at n R W fo u) = false from List.all_eq_false.mpr ⟨i, List.mem_range.mpr hin, by rw [hR, hb]; simp⟩] at q
            exact iteT q
        · rw [if_neg (by rw [hR]; exact Bool.false_ne_true)]
          exact iteF ⟨_, rfl, s2, nxt (by rw [hR]; rfl)⟩
      · rintro σ H2 ⟨u0, rfl, s2, hall⟩
        have q := kQ H2 s2
        rw [Fm.at, show ((List.range n).all fun u => !R v u || c.at n R W fo u) = true from List.all_eq_true.mpr fun u hu => hall u (by rw [Int.toNat_natCast]; exact List.mem_range.mp hu)] at q
        exact q
    | false =>
    have himp : ∃ c d, f = .imp c d := by
      cases f with
      | imp c d => exact ⟨_, _, rfl⟩
      | var _ => cases hvar
      | fal => cases hfal
      | and _ _ => cases hand
      | or _ _ => cases hor
      | box _ => cases hbox
    obtain ⟨c, d, rfl⟩ := himp
    obtain ⟨y1, y2, rfl, i1, i2⟩ := im_two h2
    have ho2 : c.over nms = true ∧ d.over nms = true := by
      have : (c.over nms && d.over nms) = true := ho
      exact ⟨(Bool.and_eq_true _ _ ▸ this).1, (Bool.and_eq_true _ _ ▸ this).2⟩
    have hc : c.ht < k ∧ d.ht < k := by
      have : max c.ht d.ht + 1 < k + 1 := hh
      omega
    refine iteF ⟨_, rfl, sg, _, rfl, .inl (SqL.of g1), ?_⟩
    rw [el]
    cases fo with
    | false =>
      have eat : (Fm.imp c d).at n R W false v = (d.at n R W false v || !c.at n R W false v) := by
        rw [Fm.at, if_neg Bool.false_ne_true]
      refine ⟨(n : Int), rfl, by omega, by omega, for_range (n := (n : Int).toNat) (fun i σ H2 => ∃ u0 : Option V, σ = [some (.ref t), some (.ref ba), some (.int (v : Int)), some (.bl false), some (.ref sg), u0] ∧ Same H H2 ∧ (v < i → (d.at n R W false v || !c.at n R W false v) = true)) ⟨none, rfl, L2.Same.refl _, fun h => absurd h (Nat.not_lt_zero _)⟩ ?_ ?_⟩
      · rintro i σ H2 hi ⟨u0, rfl, s2, hall⟩
        have hin : i < n := by omega
        change gName 5 (V.int (0 + (i : Int))) _ _ _
        rw [Int.zero_add]
        refine ⟨_, rfl, _, rfl, rfl, _, rfl, ?_⟩
        by_cases hiv : i = v
        · subst hiv
          rw [decide_eq_true rfl]
          refine iteT ⟨_, rfl, _, rfl, iteT ?_⟩
          have nxt : (d.at n R W false i || !c.at n R W false i) = true → i < i + 1 → (d.at n R W false i || !c.at n R W false i) = true := fun e _ => e
          refine ⟨_, rfl, _, rfl, ba, _, 1, _, rfl, rfl, (Same.ts s2).sqT h1, atI_nat (j := 1) rfl, _, rfl, _, rfl, t, y1, i, n, _, R, W, c, rfl, hM.same s2, hn, hin, i1.mono (Same.ts s2), ho2.1, hc.1, fun H3 s3 => ⟨_, rfl, ?_⟩⟩
          rcases Bool.eq_false_or_eq_true (c.at n R W false i) with hb | hb
          · rw [if_pos hb]
            refine ⟨_, rfl, _, rfl, ba, _, 2, _, rfl, rfl, (Same.ts (s2.trans s3)).sqT h1, atI_nat (j := 2) rfl, _, rfl, _, rfl, t, y2, i, n, _, R, W, d, rfl, hM.same (s2.trans s3), hn, hin, i2.mono (Same.ts (s2.trans s3)), ho2.2, hc.2, fun H4 s4 => ⟨_, rfl, ?_⟩⟩
            rcases Bool.eq_false_or_eq_true (d.at n R W false i) with hd | hd
            · exact (if_neg (by rw [hd]; decide)).mpr ⟨_, rfl, (s2.trans s3).trans s4, nxt (by rw [hd]; simp)⟩
            · have q := kQ H4 ((s2.trans s3).trans s4)
              rw [eat, hb, hd] at q
              exact (if_pos (by rw [hd]; decide)).mpr q
          · rw [if_neg (by rw [hb]; exact Bool.false_ne_true)]
            exact iteF ⟨_, rfl, s2.trans s3, nxt (by rw [hb]; simp)⟩
        · rw [decide_eq_false (show ¬ (V.int (i : Int) = V.int (v : Int)) from fun e => hiv (Int.ofNat.inj (V.int.inj e)))]
          exact iteF (iteF ⟨_, rfl, _, rfl, iteF ⟨_, rfl, s2, fun h => hall (by omega)⟩⟩)
      · rintro σ H2 ⟨u0, rfl, s2, hall⟩
        have q := kQ H2 s2
        rw [eat, hall (by rw [Int.toNat_natCast]; exact hv)] at q
        exact q
    | true =>
      have eat : (Fm.imp c d).at n R W true v = (List.range n).all fun u => !R v u || (d.at n R W true u || !c.at n R W true u) := by
        rw [Fm.at, if_pos rfl]
      refine ⟨(n : Int), rfl, by omega, by omega, for_range (n := (n : Int).toNat) (fun i σ H2 => ∃ u0 : Option V, σ = [some (.ref t), some (.ref ba), some (.int (v : Int)), some (.bl true), some (.ref sg), u0] ∧ Same H H2 ∧ ∀ u, u < i → (!R v u || (d.at n R W true u || !c.at n R W true u)) = true) ⟨none, rfl, L2.Same.refl _, fun u h => absurd h (Nat.not_lt_zero _)⟩ ?_ ?_⟩
      · rintro i σ H2 hi ⟨u0, rfl, s2, hall⟩
        have hin : i < n := by omega
        change gName 5 (V.int (0 + (i : Int))) _ _ _
        rw [Int.zero_add]
        have nxt0 : (!R v i || (d.at n R W true i || !c.at n R W true i)) = true → ∀ u, u < i + 1 → (!R v u || (d.at n R W true u || !c.at n R W true u)) = true := fun e u hu2 => by
          by_cases hui : u = i
          · rw [hui]; exact e
          · exact hall u (by omega)
        refine ⟨_, rfl, _, rfl, rfl, _, rfl, ?_⟩
        by_cases hiv : i = v
        · rw [decide_eq_true (show V.int (i : Int) = V.int (v : Int) by rw [hiv])]
          refine iteT ⟨_, rfl, _, rfl, iteF ⟨_, rfl, _, rfl, iteT ⟨_, rfl, _, rfl, sg, _, (v : Int), .ref rv, rfl, rfl, SqL.of (s2 _ _ g1), atI_nat hrvV, _, rfl, rv, _, (i : Int), .bl (R v i), rfl, rfl, SqL.of (s2 _ _ hrow2), atI_nat (bgL_at R hin), R v i, rfl, ?_⟩⟩⟩
          rcases Bool.eq_false_or_eq_true (R v i) with hR | hR
          · refine (if_pos hR).mpr ?_
            have nxt : (d.at n R W true i || !c.at n R W true i) = true → ∀ u, u < i + 1 → (!R v u || (d.at n R W true u || !c.at n R W true u)) = true := fun e => nxt0 (by rw [e]; simp)
            refine ⟨_, rfl, _, rfl, ba, _, 1, _, rfl, rfl, (Same.ts s2).sqT h1, atI_nat (j := 1) rfl, _, rfl, _, rfl, t, y1, i, n, _, R, W, c, rfl, hM.same s2, hn, hin, i1.mono (Same.ts s2), ho2.1, hc.1, fun H3 s3 => ⟨_, rfl, ?_⟩⟩
            rcases Bool.eq_false_or_eq_true (c.at n R W true i) with hb | hb
            · rw [if_pos hb]
              refine ⟨_, rfl, _, rfl, ba, _, 2, _, rfl, rfl, (Same.ts (s2.trans s3)).sqT h1, atI_nat (j := 2) rfl, _, rfl, _, rfl, t, y2, i, n, _, R, W, d, rfl, hM.same (s2.trans s3), hn, hin, i2.mono (Same.ts (s2.trans s3)), ho2.2, hc.2, fun H4 s4 => ⟨_, rfl, ?_⟩⟩
              rcases Bool.eq_false_or_eq_true (d.at n R W true i) with hd | hd
              · exact (if_neg (by rw [hd]; decide)).mpr ⟨_, rfl, (s2.trans s3).trans s4, nxt (by rw [hd]; simp)⟩
              · have q := kQ H4 ((s2.trans s3).trans s4)
                rw [eat, show ((List.range n).all fun u => !R v u || (d.at n R W true u || !c.at n R W true u)) = false from List.all_eq_false.mpr ⟨i, List.mem_range.mpr hin, by rw [hR, hb, hd]; simp⟩] at q
                exact (if_pos (by rw [hd]; decide)).mpr q
            · rw [if_neg (by rw [hb]; exact Bool.false_ne_true)]
              exact iteF ⟨_, rfl, s2.trans s3, nxt (by rw [hb]; simp)⟩
          · exact (if_neg (by rw [hR]; decide)).mpr ⟨_, rfl, s2, nxt0 (by rw [hR]; rfl)⟩
        · rw [decide_eq_false (show ¬ (V.int (i : Int) = V.int (v : Int)) from fun e => hiv (Int.ofNat.inj (V.int.inj e)))]
          refine iteF (iteF ⟨_, rfl, _, rfl, iteT ⟨_, rfl, _, rfl, sg, _, (v : Int), .ref rv, rfl, rfl, SqL.of (s2 _ _ g1), atI_nat hrvV, _, rfl, rv, _, (i : Int), .bl (R v i), rfl, rfl, SqL.of (s2 _ _ hrow2), atI_nat (bgL_at R hin), R v i, rfl, ?_⟩⟩)
          rcases Bool.eq_false_or_eq_true (R v i) with hR | hR
          · refine (if_pos hR).mpr ?_
            have nxt : (d.at n R W true i || !c.at n R W true i) = true → ∀ u, u < i + 1 → (!R v u || (d.at n R W true u || !c.at n R W true u)) = true := fun e => nxt0 (by rw [e]; simp)
            refine ⟨_, rfl, _, rfl, ba, _, 1, _, rfl, rfl, (Same.ts s2).sqT h1, atI_nat (j := 1) rfl, _, rfl, _, rfl, t, y1, i, n, _, R, W, c, rfl, hM.same s2, hn, hin, i1.mono (Same.ts s2), ho2.1, hc.1, fun H3 s3 => ⟨_, rfl, ?_⟩⟩
            rcases Bool.eq_false_or_eq_true (c.at n R W true i) with hb | hb
            · rw [if_pos hb]
              refine ⟨_, rfl, _, rfl, ba, _, 2, _, rfl, rfl, (Same.ts (s2.trans s3)).sqT h1, atI_nat (j := 2) rfl, _, rfl, _, rfl, t, y2, i, n, _, R, W, d, rfl, hM.same (s2.trans s3), hn, hin, i2.mono (Same.ts (s2.trans s3)), ho2.2, hc.2, fun H4 s4 => ⟨_, rfl, ?_⟩⟩
              rcases Bool.eq_false_or_eq_true (d.at n R W true i) with hd | hd
              · exact (if_neg (by rw [hd]; decide)).mpr ⟨_, rfl, (s2.trans s3).trans s4, nxt (by rw [hd]; simp)⟩
              · have q := kQ H4 ((s2.trans s3).trans s4)
                rw [eat, show ((List.range n).all fun u => !R v u || (d.at n R W true u || !c.at n R W true u)) = false from List.all_eq_false.mpr ⟨i, List.mem_range.mpr hin, by rw [hR, hb, hd]; simp⟩] at q
                exact (if_pos (by rw [hd]; decide)).mpr q
            · rw [if_neg (by rw [hb]; exact Bool.false_ne_true)]
              exact iteF ⟨_, rfl, s2.trans s3, nxt (by rw [hb]; simp)⟩
          · exact (if_neg (by rw [hR]; decide)).mpr ⟨_, rfl, s2, nxt0 (by rw [hR]; rfl)⟩
      · rintro σ H2 ⟨u0, rfl, s2, hall⟩
        have q := kQ H2 s2
        rw [eat, List.all_eq_true.mpr fun u hu => hall u (by rw [Int.toNat_natCast]; exact List.mem_range.mp hu)] at q
        exact q

/-! ### the law's drawn models -/
theorem mk_flat (n : Nat) (φ : Nat → Bool) : (mk n φ).all flatV = true := by
  refine List.all_eq_true.mpr fun x hx => ?_
  unfold mk at hx
  obtain ⟨u, _, rfl⟩ := List.mem_map.mp hx
  rfl
structure Rws (H0 : Hp) (q : Addr) (rs : List Addr) (n : Nat) : Prop where
  hl : rs.length = n
  nd : rs.Nodup
  nq : q ∉ rs
  f0 : H0 q = none
  fr : ∀ r ∈ rs, H0 r = none
/-- new rows of bools that may change -/
def GrN (H0 H : Hp) (q : Addr) (rs : List Addr) (n : Nat) (R : Nat → Nat → Bool) : Prop := Same H0 H ∧ H q = some (.lst (rs.map V.ref)) ∧ ∀ i r, rs[i]? = some r → H r = some (.lst (bg R n i))
theorem GrN.same {H0 H H' : Hp} {q : Addr} {rs : List Addr} {n : Nat} {R : Nat → Nat → Bool} (g : GrN H0 H q rs n R) (s : Same H H') : GrN H0 H' q rs n R := by
  obtain ⟨h1, h2, h3⟩ := g
  exact ⟨h1.trans s, s _ _ h2, fun i r e => s _ _ (h3 i r e)⟩
theorem bg_set {R : Nat → Nat → Bool} {n v j : Nat} {b : Bool} (h : j < n) : (bg R n v).set j (.bl b) = bg (fun a w => if a = v ∧ w = j then b else R a w) n v := by
  have e : bg R n v = mk n (R v) := rfl
  rw [e, mk_set h]
  exact mk_congr fun u _ => by
    by_cases hu : u = j
    · simp [hu]
    · simp [hu]
theorem bg_congr {R R' : Nat → Nat → Bool} {n v : Nat} (h : ∀ w, w < n → R v w = R' v w) : bg R n v = bg R' n v := mk_congr fun u hu => h u hu
theorem GrN.congr {H0 H : Hp} {q : Addr} {rs : List Addr} {n : Nat} {R R' : Nat → Nat → Bool} (c : Rws H0 q rs n) (g : GrN H0 H q rs n R) (h : ∀ v w, v < n → w < n → R v w = R' v w) : GrN H0 H q rs n R' := by
  obtain ⟨h1, h2, h3⟩ := g
  refine ⟨h1, h2, fun i r e => ?_⟩
  have hi := (List.getElem?_eq_some_iff.mp e).1
  rw [c.hl] at hi
  rw [← bg_congr (R := R) (R' := R') fun w hw => h i w hi hw]
  exact h3 i r e
theorem GrN.put {H0 H : Hp} {q r : Addr} {rs : List Addr} {n v j : Nat} {b : Bool} {xs : List V} {R R' : Nat → Nat → Bool} (c : Rws H0 q rs n) (g : GrN H0 H q rs n R) (hr : rs[v]? = some r) (hx : H r = some (.lst xs)) (hj : j < n) (hb : b = R' v j) (hR : ∀ a w, a < n → w < n → ¬ (a = v ∧ w = j) → R' a w = R a w) : GrN H0 (upd H r (.lst (xs.set j (.bl b)))) q rs n R' := by
  obtain ⟨h1, h2, h3⟩ := g
  have e := h3 v r hr
  rw [hx] at e
  cases e
  have hm := List.mem_of_getElem? hr
  refine ⟨fun a o e => ?_, ?_, fun i r' hr' => ?_⟩
  · rw [upd_ne (ne_of_none e (c.fr r hm))]
    exact h1 _ _ e
  · rw [upd_ne fun z => c.nq (by rw [z]; exact hm)]
    exact h2
  · have hin := (List.getElem?_eq_some_iff.mp hr').1
    rw [c.hl] at hin
    by_cases hrr : r' = r
    · have hvi : i = v := by
        have h1 := List.getElem?_eq_some_iff.mp hr
        have h2 := List.getElem?_eq_some_iff.mp hr'
        rcases Nat.lt_trichotomy i v with q | q | q
        · exact absurd (h2.2.trans (hrr.trans h1.2.symm)) (List.pairwise_iff_getElem.mp c.nd i v h2.1 h1.1 q)
        · exact q
        · exact absurd (h1.2.trans (hrr.symm.trans h2.2.symm)) (List.pairwise_iff_getElem.mp c.nd v i h1.1 h2.1 q)
      subst hvi
      rw [hrr, upd_same, bg_set hj]
      refine congrArg (fun xs => some (HO.lst xs)) (bg_congr fun w hw => ?_)
      by_cases hwj : w = j
      · subst hwj
        simp [hb]
      · simp only [hwj, and_false, if_false]
        exact (hR i w hin hw fun z => hwj z.2).symm
    · rw [upd_ne hrr, h3 i r' hr']
      refine congrArg (fun xs => some (HO.lst xs)) ?_
      have hiv : ¬ i = v := fun e => hrr (by
        rw [e, hr] at hr'
        exact (Option.some.inj hr').symm)
      exact bg_congr fun w hw => (hR i w hin hw fun z => hiv z.1).symm
theorem GrN.row {H0 H : Hp} {q : Addr} {rs : List Addr} {n v : Nat} {R : Nat → Nat → Bool} (c : Rws H0 q rs n) (g : GrN H0 H q rs n R) (hv : v < n) : ∃ (r : Addr), rs[v]? = some r ∧ (rs.map V.ref)[v]? = some (.ref r) ∧ H r = some (.lst (mk n (R v))) := by
  obtain ⟨_, _, h3⟩ := g
  have h : rs[v]? = some (rs[v]'(by rw [c.hl]; exact hv)) := List.getElem?_eq_getElem _
  exact ⟨_, h, by rw [List.getElem?_map, h]; rfl, h3 v _ h⟩
theorem GrN.lst {H0 H : Hp} {q : Addr} {rs : List Addr} {n : Nat} {R : Nat → Nat → Bool} (g : GrN H0 H q rs n R) : H q = some (.lst (rs.map V.ref)) := g.2.1
theorem GrN.grid {H0 H : Hp} {q : Addr} {rs : List Addr} {n : Nat} {R : Nat → Nat → Bool} (c : Rws H0 q rs n) (g : GrN H0 H q rs n R) : GridAt H q n R := by
  obtain ⟨_, h2, h3⟩ := g
  exact ⟨rs, h2, c.hl, c.nd, c.nq, h3⟩
def inL (lg : Str) (xs : List Str) : Bool := inV (.str lg) (xs.map V.str)
def clA (lg : Str) (R : Nat → Nat → Bool) : Nat → Nat → Bool := if inL lg ["K", "D", "K4", "D4", "GL"] = true then R else fun v w => if v = w then true else R v w
def clB (lg : Str) (R : Nat → Nat → Bool) : Nat → Nat → Bool := if lg = "S5" then fun v w => R v w || R w v else R
def clC (lg : Str) (n : Nat) (R : Nat → Nat → Bool) : Nat → Nat → Bool := if inL lg ["D", "D4"] = true then fun v w => if v = w ∧ (List.range n).all (fun u => !R v u) = true then true else R v w else R
def warS (R : Nat → Nat → Bool) (u : Nat) : Nat → Nat → Bool := fun v w => R v w || (R v u && R u w)
def warN (R : Nat → Nat → Bool) : Nat → Nat → Nat → Bool
  | 0 => R
  | m + 1 => warS (warN R m) m
def clD (lg : Str) (n : Nat) (R : Nat → Nat → Bool) : Nat → Nat → Bool := if inL lg ["K", "D", "T"] = true then R else warN R n
/-- what the law's closing makes of pairs -/
def clF (lg : Str) (n : Nat) (R : Nat → Nat → Bool) : Nat → Nat → Bool := clD lg n (clC lg n (clB lg (clA lg R)))
def lexR (R F : Nat → Nat → Bool) (i j : Nat) : Nat → Nat → Bool := fun v w => if v < i ∨ (v = i ∧ w < j) then F v w else R v w
theorem lex_at {R F : Nat → Nat → Bool} {i j : Nat} : lexR R F i j i j = R i j := if_neg (by omega)
theorem lex_put {R F : Nat → Nat → Bool} {i j : Nat} : lexR R F i (j + 1) i j = F i j := if_pos (by omega)
theorem lex_ne {R F : Nat → Nat → Bool} {i j a w : Nat} (h : ¬ (a = i ∧ w = j)) : lexR R F i (j + 1) a w = lexR R F i j a w := by
  unfold lexR
  have : (a < i ∨ (a = i ∧ w < j + 1)) ↔ (a < i ∨ (a = i ∧ w < j)) := by omega
  simp only [this]
theorem lex_next {R F : Nat → Nat → Bool} {i n a w : Nat} (h : w < n) : lexR R F i n a w = lexR R F (i + 1) 0 a w := by
  unfold lexR
  have : (a < i ∨ (a = i ∧ w < n)) ↔ (a < i + 1 ∨ (a = i + 1 ∧ w < 0)) := by omega
  simp only [this]
theorem lex_zero {R F : Nat → Nat → Bool} {a w : Nat} : lexR R F 0 0 a w = R a w := if_neg (by omega)
theorem lex_end {R F : Nat → Nat → Bool} {n a w : Nat} (h : a < n) : lexR R F n 0 a w = F a w := if_pos (by omega)
theorem war_col {R : Nat → Nat → Bool} {m v : Nat} : warS R m v m = R v m := by
  unfold warS
  cases R v m <;> simp
theorem war_row {R : Nat → Nat → Bool} {m w : Nat} : warS R m m w = R m w := by
  unfold warS
  cases R m w <;> simp
theorem inV_mk {n : Nat} {f : Nat → Bool} : inV (.bl true) (mk n f) = !(List.range n).all (fun u => !f u) := by
  unfold inV mk
  rw [List.any_map]
  rw [List.not_all_eq_any_not]
  refine congrArg (fun g => (List.range n).any g) (funext fun u => ?_)
  show eqV (.bl (f u)) (.bl true) = !!f u
  cases f u <;> rfl
theorem nin_t {lg : Str} {xs : List V} (h : (!inV (.str lg) xs) = true) : ¬ inV (.str lg) xs = true := by
  intro e
  rw [e] at h
  cases h
theorem nin_f {lg : Str} {xs : List V} (h : ¬ (!inV (.str lg) xs) = true) : inV (.str lg) xs = true := by
  cases e : inV (.str lg) xs with
  | true => rfl
  | false =>
    rw [e] at h
    exact absurd rfl h
theorem str_t {lg x : Str} (h : decide (V.str lg = V.str x) = true) : lg = x := V.str.inj (of_decide_eq_true h)
theorem str_f {lg x : Str} (h : ¬ decide (V.str lg = V.str x) = true) : ¬ lg = x := fun e => h (decide_eq_true (congrArg V.str e))
theorem in_t {lg : Str} {xs : List V} (h : inV (.str lg) xs = true) : inV (.str lg) xs = true := h
theorem in_f {lg : Str} {xs : List V} (h : ¬ inV (.str lg) xs = true) : ¬ inV (.str lg) xs = true := h
def spClosed2 (K : PySem.W.Frag) : Sp := fun vs H Q _ => ∃ (s : Addr) (lg : Str) (n : Nat) (R : Nat → Nat → Bool), vs = [.ref s, .str lg] ∧ GridAt H s n R ∧ n ≤ 100 ∧ ∀ (q : Addr) (H' : Hp), H q = none → Same H H' → GridAt H' q n (clF lg n R) → Q (.ref q) H'
theorem ok_law_closed (T : Top K mg) : FnOk P w K mg base CX0 1 T.f_law_closed T.d_law_closed ["seen", "logic"] (spClosed2 K) := by
  refine T.F_law_closed.ok sc_law_closed (fun vs H Q E h => ?_) (fun cdv A outer s H vs Q E hr h => ?_)
  · obtain ⟨s, lg, n, R, rfl, _⟩ := h
    rfl
  obtain ⟨sa, lg, n, R, rfl, ⟨rs, g1, g2, g3, g4, g5⟩, hn, k⟩ := h
  have el : ((rs.map V.ref).length : Int) = (n : Int) := by rw [List.length_map, g2]
  refine ⟨_, (pss_cons (ps_set (i := 2) sc_law_closed.nd rfl (.inl rfl) (pe_callB call_len_seq (by rfl) T.z_len PySem.boot_len (pa_cons (pv 0) pa_nil)))
    (pss_cons (ps_setLc (own := [("row", 7)]) (g := gName 7) (tt := tYes) (te := (tCB (rListOf K) (tCons _ tNil))) (i := 3) rfl sc_law_closed.nd rfl rfl (sw_true rfl rfl rfl (by decide +kernel)) (pi_list (pv 0)) (blkOk_by (N := ["seen", "logic", "worlds", "pairs", "v", "w", "u", "row"]) (sc := defScope s_law_closed) (by decide +kernel)) (fun _ _ _ _ _ => pg_name (i := 7) sc_law_closed.nd rfl (Or.inl rfl)) (fun _ _ _ _ _ => pts_nil) (fun _ _ _ _ _ => (pe_callTy (T := "list") call_list_ofK (by rfl) T.z_list (by decide +kernel) (pa_cons (pv 7) pa_nil))))
    (C8.pss_cut (ps_if (pt_cmpR op_notIn_seq (pv 1) (pe_tup (pa_cons pe_str (pa_cons pe_str (pa_cons pe_str (pa_cons pe_str (pa_cons pe_str pa_nil)))))) rfl)
      (pss_one (ps_for PassesOwn.never rfl (pi_range1 (by rfl) T.z_range (pa_cons (pv 2) pa_nil)) (pg_name (i := 4) sc_law_closed.nd rfl (.inl rfl))
      (pss_one (ps_asg pe_bl (pg_sub (pe_ix ix_list (pv 3) (pv 4) (fun _ _ => rfl)) (pv 4) set_list)))))
      pss_nil)
    (C8.pss_cut (ps_if (pt_cmpR op_eq (pv 1) pe_str (nomark _))
      (pss_one (ps_for PassesOwn.never rfl (pi_range1 (by rfl) T.z_range (pa_cons (pv 2) pa_nil)) (pg_name (i := 4) sc_law_closed.nd rfl (.inl rfl))
      (pss_one (ps_for PassesOwn.never rfl (pi_range1 (by rfl) T.z_range (pa_cons (pv 2) pa_nil)) (pg_name (i := 5) sc_law_closed.nd rfl (.inl rfl))
      (pss_one (ps_asg (pe_or (pe_ix ix_list (pe_ix ix_list (pv 3) (pv 4) (fun _ _ => rfl)) (pv 5) (fun _ _ => rfl)) (pe_one (pe_ix ix_list (pe_ix ix_list (pv 3) (pv 5) (fun _ _ => rfl)) (pv 4) (fun _ _ => rfl)))) (pg_sub (pe_ix ix_list (pv 3) (pv 4) (fun _ _ => rfl)) (pv 5) set_list)))))))
      pss_nil)
    (C8.pss_cut (ps_if (pt_cmpR op_in_seq (pv 1) (pe_tup (pa_cons pe_str (pa_cons pe_str pa_nil))) rfl)
      (pss_one (ps_for PassesOwn.never rfl (pi_range1 (by rfl) T.z_range (pa_cons (pv 2) pa_nil)) (pg_name (i := 4) sc_law_closed.nd rfl (.inl rfl))
      (pss_one (ps_if (pt_cmpR op_notIn_seq pe_bl (pe_ix ix_list (pv 3) (pv 4) (fun _ _ => rfl)) rfl)
      (pss_one (ps_asg pe_bl (pg_sub (pe_ix ix_list (pv 3) (pv 4) (fun _ _ => rfl)) (pv 4) set_list)))
      pss_nil))))
      pss_nil)
    (C8.pss_cut (ps_if (pt_cmpR op_notIn_seq (pv 1) (pe_tup (pa_cons pe_str (pa_cons pe_str (pa_cons pe_str pa_nil)))) rfl)
      (pss_one (ps_for PassesOwn.never rfl (pi_range1 (by rfl) T.z_range (pa_cons (pv 2) pa_nil)) (pg_name (i := 6) sc_law_closed.nd rfl (.inl rfl))
      (pss_one (ps_for PassesOwn.never rfl (pi_range1 (by rfl) T.z_range (pa_cons (pv 2) pa_nil)) (pg_name (i := 4) sc_law_closed.nd rfl (.inl rfl))
      (pss_one (ps_for PassesOwn.never rfl (pi_range1 (by rfl) T.z_range (pa_cons (pv 2) pa_nil)) (pg_name (i := 5) sc_law_closed.nd rfl (.inl rfl))
      (pss_one (ps_asg (pe_or (pe_ix ix_list (pe_ix ix_list (pv 3) (pv 4) (fun _ _ => rfl)) (pv 5) (fun _ _ => rfl)) (pe_one (pe_and (pe_ix ix_list (pe_ix ix_list (pv 3) (pv 4) (fun _ _ => rfl)) (pv 6) (fun _ _ => rfl)) (pe_one (pe_ix ix_list (pe_ix ix_list (pv 3) (pv 6) (fun _ _ => rfl)) (pv 5) (fun _ _ => rfl)))))) (pg_sub (pe_ix ix_list (pv 3) (pv 4) (fun _ _ => rfl)) (pv 5) set_list)))))))))
      pss_nil)
    (pss_one (ps_ret (pv 3))))))))), ?_⟩
  refine ⟨_, rfl, sa, _, rfl, .inl (SqL.of g1), ?_⟩
  rw [el]
  refine ⟨_, rfl, sa, rfl, ⟨_, SqL.of g1⟩, fun q nq => ?_⟩
  refine lc_list (K := K) (a := sa) (xs := rs.map V.ref) (fun i H2 => ∃ qs : List Addr, Same H H2 ∧ H2 q = some (.lst (qs.map V.ref)) ∧ qs.length = i ∧ qs.Nodup ∧ q ∉ qs ∧ (∀ r ∈ qs, H r = none) ∧ ∀ j r, qs[j]? = some r → H2 r = some (.lst (bg R n j))) ⟨[], same_new nq, upd_same, rfl, .nil, fun h => (nomatch h), fun r h => (nomatch h), fun j r h => (nomatch h)⟩ (fun i H2 _ h => by
    obtain ⟨_, h, _⟩ := h
    exact SqL.of (h _ _ g1)) ?_ ?_
  · rintro i y H2 hy ⟨qs, s2, hq, hl, hnd, hqn, hf, hrows⟩
    rw [List.getElem?_map] at hy
    cases hr0 : rs[i]? with
    | none => rw [hr0] at hy; cases hy
    | some r =>
    rw [hr0] at hy
    have ey : y = .ref r := (Option.some.inj hy).symm
    subst ey
    refine ⟨rfl, _, rfl, r, _, rfl, .inl (SqL.of (s2 _ _ (g5 i r hr0))), fun l nl => ?_⟩
    have s3 := same_new (o := .lst (bg R n i)) nl
    have nlq : l ≠ q := fun e => by rw [e, hq] at nl; cases nl
    have hil : i < n := by rw [← g2]; exact (List.getElem?_eq_some_iff.mp hr0).1
    have nlqs : l ∉ qs := fun hm => by
      obtain ⟨j, hj⟩ := List.getElem?_of_mem hm
      rw [hrows j l hj] at nl
      cases nl
    refine ⟨_, s3 _ _ hq, by rw [List.length_map, hl, sizeLine_eq]; omega, qs ++ [l], fun b o e => ?_, ?_, by rw [List.length_append, hl]; rfl, ?_, ?_, fun r' hm => ?_, fun j r' hr' => ?_⟩
    · rw [upd_ne (ne_of_none e nq)]
      exact s3 _ _ (s2 _ _ e)
    · rw [upd_same, List.map_append]
      rfl
    · refine List.nodup_append.mpr ⟨hnd, List.nodup_cons.mpr ⟨fun h => (nomatch h), .nil⟩, fun x hx y hy e => nlqs ?_⟩
      rw [← List.mem_singleton.mp hy, ← e]
      exact hx
    · intro hm
      rcases List.mem_append.mp hm with hm | hm
      · exact hqn hm
      · exact nlq (List.mem_singleton.mp hm).symm
    · rcases List.mem_append.mp hm with hm | hm
      · exact hf r' hm
      · rw [List.mem_singleton.mp hm]
        cases e : H l with
        | none => rfl
        | some o => rw [s2 _ _ e] at nl; cases nl
    · have hrq : r' ≠ q := by
        intro e
        rcases List.mem_append.mp (List.mem_of_getElem? hr') with hm | hm
        · exact hqn (e ▸ hm)
        · exact nlq ((List.mem_singleton.mp hm).symm.trans e)
      rw [upd_ne hrq]
      by_cases hj : j < qs.length
      · rw [List.getElem?_append_left hj] at hr'
        exact s3 _ _ (hrows j r' hr')
      · have e : j = i := by
          have := (List.getElem?_eq_some_iff.mp hr').1
          rw [List.length_append, List.length_singleton] at this
          omega
        subst e
        rw [← hl, List.getElem?_concat_length] at hr'
        cases hr'
        exact upd_same
  rintro H2 ⟨qs, s2, hq, hl, hnd, hqn, hf, hrows⟩
  rw [List.length_map, g2] at hl
  have cR : Rws H q qs n := ⟨hl, hnd, hqn, nq, hf⟩
  have ix : ∀ {f : Nat → Bool} {j : Nat}, j < n → ixN (mk n f).length (j : Int) = some j := fun {f j} hj => by
    rw [mk_len]
    unfold ixN
    rw [if_pos (by omega), if_pos (by omega)]
    simp
  have C0g : GrN H H2 q qs n R := ⟨s2, hq, hrows⟩
  refine ⟨fun σ H' => ∃ v4 v5 v6 : Option V, σ = [some (.ref sa), some (.str lg), some (.int (n : Int)), some (.ref q), v4, v5, v6, none] ∧ GrN H H' q qs n (clA lg R), ?_, ?_⟩
  · refine ⟨_, rfl, (by show 5 ≤ sizeLine; decide), fun t nt => ⟨t, _, rfl, .inr (SqT.of upd_same), rfl, rfl, _, rfl, ?_⟩⟩
    have gg := C0g.same (same_new (o := .tup [.str "K", .str "D", .str "K4", .str "D4", .str "GL"]) nt)
    refine ite2 (fun hc => ?_) (fun hc => ⟨none, none, none, rfl, ?_⟩)
    · have eA : clA lg R = fun v w => if v = w then true else R v w := if_neg (nin_t hc)
      rw [eA]
      refine ⟨_, rfl, (n : Int), rfl, by omega, by omega, for_range (n := (n : Int).toNat) (fun i σ H' => (fun σ H' => ∃ v4 v5 v6 : Option V, σ = [some (.ref sa), some (.str lg), some (.int (n : Int)), some (.ref q), v4, v5, v6, none] ∧ GrN H H' q qs n (fun v w => if v = w ∧ v < i then true else R v w)) σ H') ⟨none, none, none, rfl, gg.congr cR fun v w _ _ => (if_neg (by omega)).symm⟩ ?_ (fun σ H' ⟨v4, v5, v6, e, g⟩ => ⟨v4, v5, v6, e, g.congr cR fun v w hv hw => ?_⟩)⟩
      · rintro i σ H3 hi ⟨v4, v5, v6, rfl, gg⟩
        have hin : i < n := by omega
        obtain ⟨r, hr0, hVr, hr⟩ := gg.row cR hin
        change gName 4 (V.int (0 + (i : Int))) _ _ _
        rw [Int.zero_add]
        refine ⟨_, rfl, _, rfl, q, _, (i : Int), .ref r, rfl, rfl, SqL.of gg.lst, atI_nat hVr, _, rfl, r, _, (i : Int), i, rfl, rfl, hr, ix hin, _, _, _, rfl, gg.put cR hr0 hr hin (if_pos ⟨rfl, Nat.lt_succ_self i⟩).symm fun a w _ _ hne => ?_⟩
        have : (a = w ∧ a < i + 1) ↔ (a = w ∧ a < i) := by omega
        simp only [this]
      · have : (v = w ∧ v < (n : Int).toNat) ↔ v = w := by omega
        simp only [this]
    · have eA : clA lg R = R := if_pos (nin_f hc)
      rw [eA]
      exact gg
  · generalize eRA : clA lg R = RA
    rintro σ H3 ⟨v4, v5, v6, rfl, gg3⟩
    refine ⟨fun σ H' => ∃ v4 v5 v6 : Option V, σ = [some (.ref sa), some (.str lg), some (.int (n : Int)), some (.ref q), v4, v5, v6, none] ∧ GrN H H' q qs n (clB lg RA), ?_, ?_⟩
    · refine ⟨_, rfl, rfl, _, rfl, ite2 (fun hc => ?_) (fun hc => ⟨v4, v5, v6, rfl, ?_⟩)⟩
      · have eB : clB lg RA = fun v w => RA v w || RA w v := if_pos (str_t hc)
        rw [eB]
        refine ⟨_, rfl, (n : Int), rfl, by omega, by omega, for_range (n := (n : Int).toNat) (fun i σ H' => (fun σ H' => ∃ v4 v5 v6 : Option V, σ = [some (.ref sa), some (.str lg), some (.int (n : Int)), some (.ref q), v4, v5, v6, none] ∧ GrN H H' q qs n (lexR RA (fun v w => RA v w || RA w v) i 0)) σ H') ⟨v4, v5, v6, rfl, gg3.congr cR fun v w _ _ => lex_zero.symm⟩ ?_ (fun σ H' ⟨v4, v5, v6, e, g⟩ => ⟨v4, v5, v6, e, g.congr cR fun v w hv hw => lex_end (by omega)⟩)⟩
        rintro i σ H4 hi ⟨v4, v5, v6, rfl, gg⟩
        have hin : i < n := by omega
        change gName 4 (V.int (0 + (i : Int))) _ _ _
        rw [Int.zero_add]
        refine ⟨_, rfl, (n : Int), rfl, by omega, by omega, for_range (n := (n : Int).toNat) (fun j σ H' => ∃ v5 : Option V, σ = [some (.ref sa), some (.str lg), some (.int (n : Int)), some (.ref q), some (.int (i : Int)), v5, v6, none] ∧ GrN H H' q qs n (lexR RA (fun v w => RA v w || RA w v) i j)) ⟨v5, rfl, gg⟩ ?_ (fun σ H' ⟨v5, e, g⟩ => ⟨_, v5, v6, e, g.congr cR fun v w hv hw => lex_next (by omega)⟩)⟩
        rintro j σ H5 hj ⟨v5, rfl, gg⟩
        have hjn : j < n := by omega
        obtain ⟨r, hr0, hVr, hr⟩ := gg.row cR hin
        obtain ⟨t, ht0, hVt, ht⟩ := gg.row cR hjn
        change gName 5 (V.int (0 + (j : Int))) _ _ _
        rw [Int.zero_add]
        refine ⟨_, rfl, _, rfl, q, _, (i : Int), .ref r, rfl, rfl, SqL.of gg.lst, atI_nat hVr, _, rfl, r, _, (j : Int), .bl (lexR RA (fun v w => RA v w || RA w v) i j i j), rfl, rfl, SqL.of hr, atI_nat (mk_get hjn), lexR RA (fun v w => RA v w || RA w v) i j i j, rfl, ?_⟩
        rcases Bool.eq_false_or_eq_true (lexR RA (fun v w => RA v w || RA w v) i j i j) with hb | hb
        · refine (if_pos hb).mpr ⟨_, rfl, _, rfl, q, _, (i : Int), .ref r, rfl, rfl, SqL.of gg.lst, atI_nat hVr, _, rfl, r, _, (j : Int), j, rfl, rfl, hr, ix hjn, _, rfl, gg.put cR hr0 hr hjn ?_ fun a w _ _ hne => lex_ne hne⟩
          rw [lex_put]
          rw [lex_at] at hb
          show true = (RA i j || RA j i)
          rw [hb]
          rfl
        · refine (if_neg (by rw [hb]; exact Bool.false_ne_true)).mpr ⟨_, rfl, _, rfl, q, _, (j : Int), .ref t, rfl, rfl, SqL.of gg.lst, atI_nat hVt, _, rfl, t, _, (i : Int), .bl (lexR RA (fun v w => RA v w || RA w v) i j j i), rfl, rfl, SqL.of ht, atI_nat (mk_get hin), _, rfl, _, rfl, q, _, (i : Int), .ref r, rfl, rfl, SqL.of gg.lst, atI_nat hVr, _, rfl, r, _, (j : Int), j, rfl, rfl, hr, ix hjn, _, rfl, gg.put cR hr0 hr hjn ?_ fun a w _ _ hne => lex_ne hne⟩
          rw [lex_at] at hb
          rw [lex_put]
          unfold lexR
          split
          · show (RA j i || RA i j) = (RA i j || RA j i)
            rw [hb]
            simp
          · show RA j i = (RA i j || RA j i)
            rw [hb]
            rfl
      · have eB : clB lg RA = RA := if_neg (str_f hc)
        rw [eB]
        exact gg3
    · generalize eRB : clB lg RA = RB
      rintro σ H4 ⟨v4, v5, v6, rfl, gg4⟩
      refine ⟨fun σ H' => ∃ v4 v5 v6 : Option V, σ = [some (.ref sa), some (.str lg), some (.int (n : Int)), some (.ref q), v4, v5, v6, none] ∧ GrN H H' q qs n (clC lg n RB), ?_, ?_⟩
      · refine ⟨_, rfl, (by show 2 ≤ sizeLine; decide), fun t nt => ⟨t, _, rfl, .inr (SqT.of upd_same), rfl, rfl, _, rfl, ?_⟩⟩
        have gg5 := gg4.same (same_new (o := .tup [.str "D", .str "D4"]) nt)
        refine ite2 (fun hc => ?_) (fun hc => ⟨_, _, _, rfl, ?_⟩)
        · have eC : clC lg n RB = fun v w => if v = w ∧ (List.range n).all (fun u => !RB v u) = true then true else RB v w := if_pos (in_t hc)
          rw [eC]
          refine ⟨_, rfl, (n : Int), rfl, by omega, by omega, for_range (n := (n : Int).toNat) (fun i σ H' => (fun σ H' => ∃ v4 v5 v6 : Option V, σ = [some (.ref sa), some (.str lg), some (.int (n : Int)), some (.ref q), v4, v5, v6, none] ∧ GrN H H' q qs n (fun v w => if (v = w ∧ (List.range n).all (fun u => !RB v u) = true) ∧ v < i then true else RB v w)) σ H') ⟨v4, v5, v6, rfl, gg5.congr cR fun v w _ _ => (if_neg (by omega)).symm⟩ ?_ (fun σ H' ⟨v4, v5, v6, e, g⟩ => ⟨v4, v5, v6, e, g.congr cR fun v w hv hw => ?_⟩)⟩
          · rintro i σ H6 hi ⟨v4, v5, v6, rfl, gg⟩
            have hin : i < n := by omega
            obtain ⟨r, hr0, hVr, hr⟩ := gg.row cR hin
            change gName 4 (V.int (0 + (i : Int))) _ _ _
            rw [Int.zero_add]
            have er : mk n ((fun v w => if (v = w ∧ (List.range n).all (fun u => !RB v u) = true) ∧ v < i then true else RB v w) i) = mk n (RB i) := mk_congr fun u _ => if_neg (by omega)
            rw [er] at hr
            refine ⟨_, rfl, _, rfl, q, _, (i : Int), .ref r, rfl, rfl, SqL.of gg.lst, atI_nat hVr, r, _, rfl, .inl (SqL.of hr), rfl, mk_flat _ _, _, rfl, ite2 (fun hc => ?_) (fun hc => ⟨_, _, _, rfl, gg.congr cR fun v w hv hw => ?_⟩)⟩
            · rw [inV_mk, Bool.not_not] at hc
              refine ⟨_, rfl, _, rfl, q, _, (i : Int), .ref r, rfl, rfl, SqL.of gg.lst, atI_nat hVr, _, rfl, r, _, (i : Int), i, rfl, rfl, hr, ix hin, _, _, _, rfl, gg.put cR hr0 hr hin (if_pos ⟨⟨rfl, hc⟩, Nat.lt_succ_self i⟩).symm fun a w _ _ hne => ?_⟩
              have : ((a = w ∧ (List.range n).all (fun u => !RB a u) = true) ∧ a < i + 1) ↔ ((a = w ∧ (List.range n).all (fun u => !RB a u) = true) ∧ a < i) := ⟨fun ⟨h1, h2⟩ => ⟨h1, by
                have := h1.1
                omega⟩, fun ⟨h1, h2⟩ => ⟨h1, by omega⟩⟩
              simp only [this]
            · rw [inV_mk, Bool.not_not] at hc
              have : ((v = w ∧ (List.range n).all (fun u => !RB v u) = true) ∧ v < i + 1) ↔ ((v = w ∧ (List.range n).all (fun u => !RB v u) = true) ∧ v < i) := by
                refine ⟨fun ⟨h1, h2⟩ => ⟨h1, ?_⟩, fun ⟨h1, h2⟩ => ⟨h1, by omega⟩⟩
                rcases Nat.lt_or_ge v i with h3 | h3
                · exact h3
                · have : v = i := by omega
                  subst this
                  exact absurd h1.2 hc
              simp only [this]
          · have : ((v = w ∧ (List.range n).all (fun u => !RB v u) = true) ∧ v < (n : Int).toNat) ↔ (v = w ∧ (List.range n).all (fun u => !RB v u) = true) := ⟨fun h => h.1, fun h => ⟨h, by omega⟩⟩
            simp only [this]
        · have eC : clC lg n RB = RB := if_neg (in_f hc)
          rw [eC]
          exact gg5
      · generalize eRC : clC lg n RB = RC
        rintro σ H5 ⟨v4, v5, v6, rfl, gg5⟩
        refine ⟨fun σ H' => ∃ v4 v5 v6 : Option V, σ = [some (.ref sa), some (.str lg), some (.int (n : Int)), some (.ref q), v4, v5, v6, none] ∧ GrN H H' q qs n (clD lg n RC), ?_, ?_⟩
        · refine ⟨_, rfl, (by show 3 ≤ sizeLine; decide), fun t nt => ⟨t, _, rfl, .inr (SqT.of upd_same), rfl, rfl, _, rfl, ?_⟩⟩
          have gg6 := gg5.same (same_new (o := .tup [.str "K", .str "D", .str "T"]) nt)
          refine ite2 (fun hc => ?_) (fun hc => ⟨_, _, _, rfl, ?_⟩)
          · have eD : clD lg n RC = warN RC n := if_neg (nin_t hc)
            rw [eD]
            refine ⟨_, rfl, (n : Int), rfl, by omega, by omega, for_range (n := (n : Int).toNat) (fun m σ H' => (fun σ H' => ∃ v4 v5 v6 : Option V, σ = [some (.ref sa), some (.str lg), some (.int (n : Int)), some (.ref q), v4, v5, v6, none] ∧ GrN H H' q qs n (warN RC m)) σ H') ⟨v4, v5, v6, rfl, gg6⟩ ?_ (fun σ H' h => h)⟩
            rintro m σ H7 hm ⟨v4, v5, v6, rfl, gg⟩
            have hmn : m < n := by omega
            change gName 6 (V.int (0 + (m : Int))) _ _ _
            rw [Int.zero_add]
            show _
            rw [show warN RC (m + 1) = warS (warN RC m) m from rfl]
            generalize warN RC m = W at gg
            refine ⟨_, rfl, (n : Int), rfl, by omega, by omega, for_range (n := (n : Int).toNat) (fun i σ H' => ∃ v4 v5 : Option V, σ = [some (.ref sa), some (.str lg), some (.int (n : Int)), some (.ref q), v4, v5, some (.int (m : Int)), none] ∧ GrN H H' q qs n (lexR W (warS W m) i 0)) ⟨v4, v5, rfl, gg.congr cR fun v w _ _ => lex_zero.symm⟩ ?_ (fun σ H' ⟨v4, v5, e, g⟩ => ⟨v4, v5, _, e, g.congr cR fun v w hv hw => lex_end (by omega)⟩)⟩
            rintro i σ H8 hi ⟨v4, v5, rfl, gg⟩
            have hin : i < n := by omega
            change gName 4 (V.int (0 + (i : Int))) _ _ _
            rw [Int.zero_add]
            refine ⟨_, rfl, (n : Int), rfl, by omega, by omega, for_range (n := (n : Int).toNat) (fun j σ H' => ∃ v5 : Option V, σ = [some (.ref sa), some (.str lg), some (.int (n : Int)), some (.ref q), some (.int (i : Int)), v5, some (.int (m : Int)), none] ∧ GrN H H' q qs n (lexR W (warS W m) i j)) ⟨v5, rfl, gg⟩ ?_ (fun σ H' ⟨v5, e, g⟩ => ⟨_, v5, e, g.congr cR fun v w hv hw => lex_next (by omega)⟩)⟩
            rintro j σ H9 hj ⟨v5, rfl, gg⟩
            have hjn : j < n := by omega
            obtain ⟨r, hr0, hVr, hr⟩ := gg.row cR hin
            obtain ⟨t, ht0, hVt, ht⟩ := gg.row cR hmn
            have ef : lexR W (warS W m) i j i m = W i m := by
              unfold lexR
              split
              · exact war_col
              · rfl
            have eg : lexR W (warS W m) i j m j = W m j := by
              unfold lexR
              split
              · exact war_row
              · rfl
            change gName 5 (V.int (0 + (j : Int))) _ _ _
            rw [Int.zero_add]
            refine ⟨_, rfl, _, rfl, q, _, (i : Int), .ref r, rfl, rfl, SqL.of gg.lst, atI_nat hVr, _, rfl, r, _, (j : Int), .bl (lexR W (warS W m) i j i j), rfl, rfl, SqL.of hr, atI_nat (mk_get hjn), lexR W (warS W m) i j i j, rfl, ?_⟩
            rcases Bool.eq_false_or_eq_true (lexR W (warS W m) i j i j) with hb | hb
            · refine (if_pos hb).mpr ⟨_, rfl, _, rfl, q, _, (i : Int), .ref r, rfl, rfl, SqL.of gg.lst, atI_nat hVr, _, rfl, r, _, (j : Int), j, rfl, rfl, hr, ix hjn, _, rfl, gg.put cR hr0 hr hjn ?_ fun a w _ _ hne => lex_ne hne⟩
              rw [lex_put]
              rw [lex_at] at hb
              unfold warS
              rw [hb]
              rfl
            · refine (if_neg (by rw [hb]; exact Bool.false_ne_true)).mpr ⟨_, rfl, _, rfl, q, _, (i : Int), .ref r, rfl, rfl, SqL.of gg.lst, atI_nat hVr, _, rfl, r, _, (m : Int), .bl (lexR W (warS W m) i j i m), rfl, rfl, SqL.of hr, atI_nat (mk_get hmn), lexR W (warS W m) i j i m, rfl, ?_⟩
              rw [lex_at] at hb
              rcases Bool.eq_false_or_eq_true (lexR W (warS W m) i j i m) with hc | hc
              · refine (if_pos hc).mpr ⟨_, rfl, _, rfl, q, _, (m : Int), .ref t, rfl, rfl, SqL.of gg.lst, atI_nat hVt, _, rfl, t, _, (j : Int), .bl (lexR W (warS W m) i j m j), rfl, rfl, SqL.of ht, atI_nat (mk_get hjn), _, rfl, _, rfl, q, _, (i : Int), .ref r, rfl, rfl, SqL.of gg.lst, atI_nat hVr, _, rfl, r, _, (j : Int), j, rfl, rfl, hr, ix hjn, _, rfl, gg.put cR hr0 hr hjn ?_ fun a w _ _ hne => lex_ne hne⟩
                rw [lex_put, eg]
                rw [ef] at hc
                unfold warS
                rw [hb, hc]
                rfl
              · refine (if_neg (by rw [hc]; exact Bool.false_ne_true)).mpr ⟨_, rfl, _, rfl, q, _, (i : Int), .ref r, rfl, rfl, SqL.of gg.lst, atI_nat hVr, _, rfl, r, _, (j : Int), j, rfl, rfl, hr, ix hjn, _, rfl, gg.put cR hr0 hr hjn ?_ fun a w _ _ hne => lex_ne hne⟩
                rw [lex_put]
                rw [ef] at hc
                unfold warS
                rw [hb, hc]
                rfl
          · have eD : clD lg n RC = RC := if_pos (nin_f hc)
            rw [eD]
            exact gg6
        · rintro σ H6 ⟨v4, v5, v6, rfl, gg⟩
          have eF : clF lg n R = clD lg n RC := by
            unfold clF
            rw [eRA, eRB, eRC]
          refine ⟨_, rfl, k q H6 nq gg.1 ?_⟩
          rw [eF]
          exact gg.grid cR

/-- a new list of bools, one for each number below n -/
theorem row_lc {H : Hp} {n : Nat} {σ : L2.St} {ta : TA} {sl : Nat} {te : TE} {vs : List Nat} {Q : VK} (hn : n ≤ 1000) (hta : ∀ R : List V → Hp → Prop, R [.int (n : Int)] H → ta σ H R) (hw : ∀ x, wipe ((wipe σ vs).set sl x) vs = wipe σ vs)
    (he : ∀ (i : Nat) (H2 : Hp) (Q2 : VK), i < n → Same H H2 → (∀ b H3, Same H2 H3 → Q2 (.bl b) H3) → te ((wipe σ vs).set sl (some (.int (i : Int)))) H2 Q2)
    (k : ∀ D H' f, H D = none → Same H H' → H' D = some (.lst (mk n f)) → Q (.ref D) H') : tLc (iRng1 ta) (gName sl) tYes te vs σ H Q := by
  refine hta _ ⟨(n : Int), rfl, by omega, by omega, fun D nD => ?_⟩
  refine lc_range (n := (n : Int).toNat) (fun i H2 => ∃ f : Nat → Bool, Same H H2 ∧ H2 D = some (.lst (mk i f))) ⟨fun _ => false, same_new nD, upd_same⟩ ?_ ?_
  · rintro i H2 hi ⟨f, s2, hD⟩
    have hin : i < n := by omega
    change gName sl (V.int (0 + (i : Int))) _ _ _
    rw [Int.zero_add]
    refine ⟨hw _, he i H2 _ hin s2 fun b H3 s3 => ⟨_, s3 _ _ hD, ?_, fun u => if u = i then b else f u, fun a o e => ?_, ?_⟩⟩
    · rw [mk_len, sizeLine_eq]
      omega
    · rw [upd_ne (ne_of_none e nD)]
      exact s3 _ _ (s2 _ _ e)
    · rw [upd_same]
      exact congrArg (fun xs => some (HO.lst xs)) (rng_snoc V.bl f i b).symm
  · rintro H2 ⟨f, s2, hD⟩
    rw [Int.toNat_natCast] at hD
    exact k D H2 f nD s2 hD
/-- a new list of the numbers below n that a test takes -/
theorem sel_lc {H : Hp} {n : Nat} {σ : L2.St} {ta : TA} {sl : Nat} {tt : TT} {vs : List Nat} {Q : VK} (hn : n ≤ 1000) (hta : ∀ R : List V → Hp → Prop, R [.int (n : Int)] H → ta σ H R) (hw : ∀ x, wipe ((wipe σ vs).set sl x) vs = wipe σ vs) (hg : ∀ x, ((wipe σ vs).set sl x)[sl]? = some x)
    (he : ∀ (i : Nat) (H2 : Hp) (Q2 : Bool → Hp → Prop), i < n → Same H H2 → (∀ b H3, Same H2 H3 → Q2 b H3) → tt ((wipe σ vs).set sl (some (.int (i : Int)))) H2 Q2)
    (k : ∀ D H' f, H D = none → Same H H' → H' D = some (.lst (sel n f)) → Q (.ref D) H') : tLc (iRng1 ta) (gName sl) tt (tVar sl) vs σ H Q := by
  refine hta _ ⟨(n : Int), rfl, by omega, by omega, fun D nD => ?_⟩
  refine lc_range (n := (n : Int).toNat) (fun i H2 => ∃ f : Nat → Bool, Same H H2 ∧ H2 D = some (.lst (sel i f))) ⟨fun _ => false, same_new nD, upd_same⟩ ?_ ?_
  · rintro i H2 hi ⟨f, s2, hD⟩
    have hin : i < n := by omega
    change gName sl (V.int (0 + (i : Int))) _ _ _
    rw [Int.zero_add]
    refine ⟨hw _, he i H2 _ hin s2 fun b H3 s3 => ?_⟩
    have hD3 := s3 _ _ hD
    cases b with
    | true =>
      refine iteT ⟨_, hg _, _, hD3, ?_, fun u => if u = i then true else f u, fun a o e => ?_, ?_⟩
      · have := sel_len i f
        rw [sizeLine_eq]
        omega
      · rw [upd_ne (ne_of_none e nD)]
        exact s3 _ _ (s2 _ _ e)
      · rw [upd_same, sel_snoc, if_pos rfl]
    | false =>
      refine iteF ⟨fun u => if u = i then false else f u, s2.trans s3, ?_⟩
      rw [hD3, sel_snoc, if_neg (by decide), List.append_nil]
  · rintro H2 ⟨f, s2, hD⟩
    rw [Int.toNat_natCast] at hD
    exact k D H2 f nD s2 hD
/-- a new list of bools, one for each number below n, exactly -/
theorem row_lcF {H : Hp} {n : Nat} {σ : L2.St} {ta : TA} {sl : Nat} {te : TE} {vs : List Nat} {Q : VK} (φ : Nat → Bool) (hn : n ≤ 1000) (hta : ∀ R : List V → Hp → Prop, R [.int (n : Int)] H → ta σ H R) (hw : ∀ x, wipe ((wipe σ vs).set sl x) vs = wipe σ vs)
    (he : ∀ (i : Nat) (H2 : Hp) (Q2 : VK), i < n → Same H H2 → (∀ H3, Same H2 H3 → Q2 (.bl (φ i)) H3) → te ((wipe σ vs).set sl (some (.int (i : Int)))) H2 Q2)
    (k : ∀ D H', H D = none → Same H H' → H' D = some (.lst (mk n φ)) → Q (.ref D) H') : tLc (iRng1 ta) (gName sl) tYes te vs σ H Q := by
  refine hta _ ⟨(n : Int), rfl, by omega, by omega, fun D nD => ?_⟩
  refine lc_range (n := (n : Int).toNat) (fun i H2 => Same H H2 ∧ H2 D = some (.lst (mk i φ))) ⟨same_new nD, upd_same⟩ ?_ ?_
  · rintro i H2 hi ⟨s2, hD⟩
    have hin : i < n := by omega
    change gName sl (V.int (0 + (i : Int))) _ _ _
    rw [Int.zero_add]
    refine ⟨hw _, he i H2 _ hin s2 fun H3 s3 => ⟨_, s3 _ _ hD, ?_, fun a o e => ?_, ?_⟩⟩
    · rw [mk_len, sizeLine_eq]
      omega
    · rw [upd_ne (ne_of_none e nD)]
      exact s3 _ _ (s2 _ _ e)
    · rw [upd_same]
      refine congrArg (fun xs => some (HO.lst xs)) ?_
      unfold mk
      rw [List.range_succ, List.map_append]
      rfl
  · rintro H2 ⟨s2, hD⟩
    rw [Int.toNat_natCast] at hD
    exact k D H2 nD s2 hD
theorem sel_lcF {H : Hp} {n : Nat} {σ : L2.St} {ta : TA} {sl : Nat} {tt : TT} {vs : List Nat} {Q : VK} (φ : Nat → Bool) (hn : n ≤ 1000) (hta : ∀ R : List V → Hp → Prop, R [.int (n : Int)] H → ta σ H R) (hw : ∀ x, wipe ((wipe σ vs).set sl x) vs = wipe σ vs) (hg : ∀ x, ((wipe σ vs).set sl x)[sl]? = some x)
    (he : ∀ (i : Nat) (H2 : Hp) (Q2 : Bool → Hp → Prop), i < n → Same H H2 → (∀ H3, Same H2 H3 → Q2 (φ i) H3) → tt ((wipe σ vs).set sl (some (.int (i : Int)))) H2 Q2)
    (k : ∀ D H', H D = none → Same H H' → H' D = some (.lst (sel n φ)) → Q (.ref D) H') : tLc (iRng1 ta) (gName sl) tt (tVar sl) vs σ H Q := by
  refine hta _ ⟨(n : Int), rfl, by omega, by omega, fun D nD => ?_⟩
  refine lc_range (n := (n : Int).toNat) (fun i H2 => Same H H2 ∧ H2 D = some (.lst (sel i φ))) ⟨same_new nD, upd_same⟩ ?_ ?_
  · rintro i H2 hi ⟨s2, hD⟩
    have hin : i < n := by omega
    change gName sl (V.int (0 + (i : Int))) _ _ _
    rw [Int.zero_add]
    refine ⟨hw _, he i H2 _ hin s2 fun H3 s3 => ?_⟩
    have hD3 := s3 _ _ hD
    rcases Bool.eq_false_or_eq_true (φ i) with hb | hb
    · refine (if_pos hb).mpr ⟨_, hg _, _, hD3, ?_, fun a o e => ?_, ?_⟩
      · have := sel_len i φ
        rw [sizeLine_eq]
        omega
      · rw [upd_ne (ne_of_none e nD)]
        exact s3 _ _ (s2 _ _ e)
      · rw [upd_same, sel_step, if_pos hb]
    · refine (if_neg (by rw [hb]; exact Bool.false_ne_true)).mpr ⟨s2.trans s3, ?_⟩
      rw [hD3, sel_step, if_neg (by rw [hb]; exact Bool.false_ne_true), List.append_nil]
  · rintro H2 ⟨s2, hD⟩
    rw [Int.toNat_natCast] at hD
    exact k D H2 nD s2 hD
/-- the first i rows -/
def PGr (H : Hp) (q : Addr) (n : Nat) (R : Nat → Nat → Bool) (i : Nat) : Prop := ∃ rs : List Addr, H q = some (.lst (rs.map V.ref)) ∧ rs.length = i ∧ rs.Nodup ∧ q ∉ rs ∧ ∀ j r, rs[j]? = some r → H r = some (.lst (bg R n j))
theorem PGr.same {H H' : Hp} {q : Addr} {n i : Nat} {R : Nat → Nat → Bool} (g : PGr H q n R i) (s : Same H H') : PGr H' q n R i := by
  obtain ⟨rs, h1, h2, h3, h4, h5⟩ := g
  exact ⟨rs, s _ _ h1, h2, h3, h4, fun j r e => s _ _ (h5 j r e)⟩
theorem PGr.grid {H : Hp} {q : Addr} {n : Nat} {R : Nat → Nat → Bool} (g : PGr H q n R n) : GridAt H q n R := by
  obtain ⟨rs, h1, h2, h3, h4, h5⟩ := g
  exact ⟨rs, h1, h2, h3, h4, h5⟩
theorem PGr.snoc {H0 H : Hp} {q l : Addr} {n i : Nat} {f : Nat → Bool} {R R' : Nat → Nat → Bool} (g : PGr H0 q n R i) (s : Same H0 H) (nl : H0 l = none) (hl : H l = some (.lst (mk n f))) (hf : ∀ w, w < n → f w = R' i w) (hR : ∀ v w, v < i → w < n → R' v w = R v w) : ∃ xs, H q = some (.lst xs) ∧ xs.length = i ∧ PGr (upd H q (.lst (xs ++ [.ref l]))) q n R' (i + 1) := by
  obtain ⟨rs, h1, h2, h3, h4, h5⟩ := g
  have nlq : l ≠ q := fun e => by rw [e, h1] at nl; cases nl
  have nlr : l ∉ rs := fun hm => by
    obtain ⟨j, hj⟩ := List.getElem?_of_mem hm
    rw [h5 j l hj] at nl
    cases nl
  refine ⟨_, s _ _ h1, by rw [List.length_map, h2], rs ++ [l], by rw [upd_same, List.map_append]; rfl, by rw [List.length_append, h2]; rfl, ?_, ?_, fun j r hr => ?_⟩
  · refine List.nodup_append.mpr ⟨h3, List.nodup_cons.mpr ⟨fun h => (nomatch h), .nil⟩, fun x hx y hy e => nlr ?_⟩
    rw [← List.mem_singleton.mp hy, ← e]
    exact hx
  · intro hm
    rcases List.mem_append.mp hm with hm | hm
    · exact h4 hm
    · exact nlq (List.mem_singleton.mp hm).symm
  · have hrq : r ≠ q := by
      intro e
      rcases List.mem_append.mp (List.mem_of_getElem? hr) with hm | hm
      · exact h4 (e ▸ hm)
      · exact nlq ((List.mem_singleton.mp hm).symm.trans e)
    rw [upd_ne hrq]
    by_cases hj : j < rs.length
    · rw [List.getElem?_append_left hj] at hr
      rw [s _ _ (h5 j r hr)]
      refine congrArg (fun xs => some (HO.lst xs)) ?_
      exact bg_congr fun w hw => (hR j w (by omega) hw).symm
    · have e : j = i := by
        have := (List.getElem?_eq_some_iff.mp hr).1
        rw [List.length_append, List.length_singleton] at this
        omega
      subst e
      rw [← h2, List.getElem?_concat_length] at hr
      cases hr
      rw [hl]
      exact congrArg (fun xs => some (HO.lst xs)) (mk_congr fun w hw => hf w hw)
def roA (lg : Str) (i : Nat) (f : Nat → Bool) : Nat → Bool := if inL lg ["GL", "Grz", "Int", "KC", "LC", "BD2", "HT", "Cl"] = true then fun w => f w && decide (i < w) else f
def roB (lg : Str) (i : Nat) (f : Nat → Bool) : Nat → Bool := if inL lg ["LC", "HT"] = true then fun w => decide (i < w) else f
def roC (lg : Str) (n i : Nat) (f : Nat → Bool) : Nat → Bool := if inL lg ["KC"] = true then fun w => f w || (decide (w + 1 = n) && decide (i < w)) else f
def roD (lg : Str) (n i : Nat) (f : Nat → Bool) : Nat → Bool := if inL lg ["BD2"] = true then fun w => f w && (decide (i < n / 2) && decide (n / 2 ≤ w)) else f
def roE (lg : Str) (f : Nat → Bool) : Nat → Bool := if lg = "Cl" then fun _ => false else f
/-- a row of the law's drawn pairs -/
def roF (lg : Str) (n i : Nat) (f : Nat → Bool) : Nat → Bool := roE lg (roD lg n i (roC lg n i (roB lg i (roA lg i f))))
/-- the law's drawn pairs, not yet closed -/
def baF (lg : Str) (n : Nat) (B : Nat → Nat → Bool) : Nat → Nat → Bool := if lg = "HT" ∧ 2 < n then fun v w => decide (v < w) && decide (v / 2 = w / 2) else fun v w => roF lg n v (B v) w
/-- where a letter is true in the law's drawn models -/
def vaF (lg : Str) (n : Nat) (R : Nat → Nat → Bool) (M : Nat → Bool) : Nat → Bool := if inL lg ["Int", "KC", "LC", "BD2", "HT", "Cl"] = true then fun w => (List.range n).any (fun v => M v && R v w) else M
theorem q_to {H2 : Hp} {Q2 : VK} {b c : Bool} (q2 : ∀ H3, Same H2 H3 → Q2 (.bl b) H3) (e : c = b) : Q2 (.bl c) H2 := e ▸ q2 _ (L2.Same.refl _)
theorem q_toB {H2 : Hp} {Q2 : Bool → Hp → Prop} {b c : Bool} (q2 : ∀ H3, Same H2 H3 → Q2 b H3) (e : c = b) : Q2 c H2 := e ▸ q2 _ (L2.Same.refl _)
theorem kc_t {g : Nat → Bool} {i j n : Nat} {c : Bool} (hb : g j = false) (hd : decide (V.int (j : Int) = V.int ((n : Int) - 1)) = true) (hc : c = decide ((i : Int) < (j : Int)) := by rfl) : c = (g j || (decide (j + 1 = n) && decide (i < j))) := by
  have h : (j : Int) = (n : Int) - 1 := V.int.inj (of_decide_eq_true hd)
  rw [hc, hb, decide_eq_true (show j + 1 = n by omega)]
  simp
theorem kc_f {g : Nat → Bool} {i j n : Nat} (hb : g j = false) (hd : ¬ decide (V.int (j : Int) = V.int ((n : Int) - 1)) = true) : false = (g j || (decide (j + 1 = n) && decide (i < j))) := by
  have h : ¬ j + 1 = n := fun e => hd (decide_eq_true (congrArg V.int (by omega)))
  rw [hb, decide_eq_false h]
  rfl
theorem bd_t {g : Nat → Bool} {i j n : Nat} (hb : g j = true) (hd : decide ((i : Int) < (n : Int) / 2) = true) : decide ((n : Int) / 2 ≤ (j : Int)) = (g j && (decide (i < n / 2) && decide (n / 2 ≤ j))) := by
  have h : (i : Int) < (n : Int) / 2 := of_decide_eq_true hd
  rw [hb, decide_eq_true (show i < n / 2 by omega)]
  simp only [Bool.true_and]
  exact decide_eq_decide.mpr (by omega)
theorem bd_f {g : Nat → Bool} {i j n : Nat} (hb : g j = true) (hd : ¬ decide ((i : Int) < (n : Int) / 2) = true) : false = (g j && (decide (i < n / 2) && decide (n / 2 ≤ j))) := by
  have h : ¬ (i : Int) < (n : Int) / 2 := fun e => hd (decide_eq_true e)
  rw [hb, decide_eq_false (show ¬ i < n / 2 by omega)]
  rfl
theorem hp_t {i j : Nat} (hd : decide ((i : Int) < (j : Int)) = true) : decide (V.int ((i : Int) / 2) = V.int ((j : Int) / 2)) = (decide (i < j) && decide (i / 2 = j / 2)) := by
  have h : (i : Int) < (j : Int) := of_decide_eq_true hd
  rw [decide_eq_true (show i < j by omega), Bool.true_and]
  exact decide_eq_decide.mpr ⟨fun e => by have := V.int.inj e; omega, fun e => congrArg V.int (by omega)⟩
theorem hp_f {i j : Nat} (hd : ¬ decide ((i : Int) < (j : Int)) = true) : false = (decide (i < j) && decide (i / 2 = j / 2)) := by
  have h : ¬ (i : Int) < (j : Int) := fun e => hd (decide_eq_true e)
  rw [decide_eq_false (show ¬ i < j by omega)]
  rfl
theorem ht_t {n : Nat} (hd : decide ((2 : Int) < (n : Int)) = true) : 2 < n := by
  have := of_decide_eq_true hd
  omega
theorem ht_f {n : Nat} {lg : Str} (hd : ¬ decide ((2 : Int) < (n : Int)) = true) : ¬ (lg = "HT" ∧ 2 < n) := fun e => hd (decide_eq_true (by omega))
theorem sel_any (n j : Nat) (f : Nat → Bool) (R : Nat → Nat → Bool) : inV (.bl true) (((List.range n).filter f).map fun v => V.bl (R v j)) = (List.range n).any (fun v => f v && R v j) := by
  unfold inV
  rw [List.any_map, List.any_filter]
  refine congrArg (fun g => (List.range n).any g) (funext fun u => ?_)
  show (f u && eqV (.bl (R u j)) (.bl true)) = (f u && R u j)
  cases R u j <;> rfl
def spLModel (K : PySem.W.Frag) : Sp := fun vs H Q _ => ∃ (a : Addr) (lg : Str) (m : Int) (ns : List Int), vs = [.ref a, .str lg, .int m] ∧ H a = some (.lst (ns.map V.int)) ∧ ns.length ≤ 100 ∧ 0 < m ∧ m ≤ 8 ∧
  ∀ (t s d : Addr) (n : Nat) (B : Nat → Nat → Bool) (M : Str → Nat → Bool) (H' : Hp), 1 ≤ n → (n : Int) ≤ m → Same H H' → H s = none → H d = none → SqT K H' t [.ref s, .ref d] → GridAt H' s n (clF lg n (baF lg n B)) → ValAt H' d n nms (fun y => vaF lg n (clF lg n (baF lg n B)) (M y)) → Q (.ref t) H'
theorem ok_law_model (T : Top K mg) : FnOk P w K mg base CX0 2 T.f_law_model T.d_law_model ["numbers", "logic", "most"] (spLModel K) := by
  have G_law_closed : FnOk P w K mg base CX0 1 T.f_law_closed T.d_law_closed ["seen", "logic"] (spClosed2 K) := ok_law_closed T
  refine T.F_law_model.ok sc_law_model (fun vs H Q E h => ?_) (fun cdv A outer s H vs Q E hr h => ?_)
  · obtain ⟨a, lg, m, ns, rfl, _⟩ := h
    rfl
  obtain ⟨a, lg, m, ns, rfl, ha, hl, m0, m1, kQ⟩ := h
  have hu64 := hr.units
  have hu := Nat.lt_of_le_of_lt (Nat.add_le_add_left (by decide : 1 ≤ 64) _) hu64
  refine ⟨_, (pss_cons (ps_set (i := 3) sc_law_model.nd rfl (.inl rfl) pe_int)
    (C8.pss_cut (ps_if (pt_cmpR (op_neD hu64) (pv 0) (pe_lst pa_nil) (nomark _))
      (pss_one (ps_set (i := 3) sc_law_model.nd rfl (.inl rfl) (pe_callTy call_int1 (by rfl) T.z_int (by decide +kernel) (pa_cons (pe_ix ix_list (pv 0) pe_int (fun _ _ => rfl)) pa_nil))))
      pss_nil)
    (pss_cons (ps_set (i := 4) sc_law_model.nd rfl (.inr rfl) (pe_op op_add pe_int (pe_op op_mod (pv 3) (pv 2))))
    (pss_cons (ps_set (i := 5) sc_law_model.nd rfl (.inr rfl) (pe_op op_fdiv (pv 3) pe_int))
    (pss_cons (ps_for PassesOwn.never rfl (pi_list (pe_slice sl_list (pv 0) (po_some pe_int) (po_some pe_int))) (pg_name (i := 6) sc_law_model.nd rfl (.inl rfl))
      (pss_one (ps_set (i := 5) sc_law_model.nd rfl (.inr rfl) (pe_op op_add (pe_op op_mul (pv 5) pe_int) (pe_callTy call_int1 (by rfl) T.z_int (by decide +kernel) (pa_cons (pv 6) pa_nil))))))
    (pss_cons (ps_set (i := 7) sc_law_model.nd rfl (.inr rfl) (pe_lst pa_nil))
    (pss_cons (ps_for PassesOwn.never rfl (pi_range1 (by rfl) T.z_range (pa_cons (pv 4) pa_nil)) (pg_name (i := 8) sc_law_model.nd rfl (.inr rfl))
      (pss_cons (ps_set (i := 9) sc_law_model.nd rfl (.inr rfl) (pe_lc (own := [("w", 15)]) (g := gName 15) (tt := tYes) rfl sc_law_model.nd (pi_range1 (by rfl) T.z_range (pa_cons (pv 4) pa_nil)) (blkOk_by (N := ["numbers", "logic", "most", "first", "worlds", "bits", "number", "seen", "v", "row", "values", "k", "name", "mask", "here", "w"]) (sc := defScope s_law_model) (by decide +kernel)) (fun _ _ _ _ _ => pg_name (i := 15) sc_law_model.nd rfl (Or.inl rfl)) (fun _ _ _ _ _ => pts_nil) (fun _ _ _ _ _ => (pe_cmpR op_eq (pe_op op_and (pe_op op_shr (pv 5) (pe_op op_add (pe_op op_mul (pv 8) (pv 4)) (pv 15))) pe_int) pe_int (nomark _)))))
    (C8.pss_cut (ps_if (pt_cmpR op_in_seq (pv 1) (pe_tup (pa_cons pe_str (pa_cons pe_str (pa_cons pe_str (pa_cons pe_str (pa_cons pe_str (pa_cons pe_str (pa_cons pe_str (pa_cons pe_str pa_nil))))))))) rfl)
      (pss_one (ps_set (i := 9) sc_law_model.nd rfl (.inr rfl) (pe_lc (own := [("w", 15)]) (g := gName 15) (tt := tYes) (te := (tAndV (tOp (rIxL K) _ _) _)) rfl sc_law_model.nd (pi_range1 (by rfl) T.z_range (pa_cons (pv 4) pa_nil)) (blkOk_by (N := ["numbers", "logic", "most", "first", "worlds", "bits", "number", "seen", "v", "row", "values", "k", "name", "mask", "here", "w"]) (sc := defScope s_law_model) (by decide +kernel)) (fun _ _ _ _ _ => pg_name (i := 15) sc_law_model.nd rfl (Or.inl rfl)) (fun _ _ _ _ _ => pts_nil) (fun _ _ _ _ _ => (pe_and (pe_ix ix_list (pv 9) (pv 15) (fun _ _ => rfl)) (pe_one (pe_cmpR op_lt (pv 8) (pv 15) (nomark _))))))))
      pss_nil)
    (C8.pss_cut (ps_if (pt_cmpR op_in_seq (pv 1) (pe_tup (pa_cons pe_str (pa_cons pe_str pa_nil))) rfl)
      (pss_one (ps_set (i := 9) sc_law_model.nd rfl (.inr rfl) (pe_lc (own := [("w", 15)]) (g := gName 15) (tt := tYes) rfl sc_law_model.nd (pi_range1 (by rfl) T.z_range (pa_cons (pv 4) pa_nil)) (blkOk_by (N := ["numbers", "logic", "most", "first", "worlds", "bits", "number", "seen", "v", "row", "values", "k", "name", "mask", "here", "w"]) (sc := defScope s_law_model) (by decide +kernel)) (fun _ _ _ _ _ => pg_name (i := 15) sc_law_model.nd rfl (Or.inl rfl)) (fun _ _ _ _ _ => pts_nil) (fun _ _ _ _ _ => (pe_cmpR op_lt (pv 8) (pv 15) (nomark _))))))
      pss_nil)
    (C8.pss_cut (ps_if (pt_cmpR op_in_seq (pv 1) (pe_tup (pa_cons pe_str pa_nil)) rfl)
      (pss_one (ps_set (i := 9) sc_law_model.nd rfl (.inr rfl) (pe_lc (own := [("w", 15)]) (g := gName 15) (tt := tYes) (te := (tOrV (tOp (rIxL K) _ _) _)) rfl sc_law_model.nd (pi_range1 (by rfl) T.z_range (pa_cons (pv 4) pa_nil)) (blkOk_by (N := ["numbers", "logic", "most", "first", "worlds", "bits", "number", "seen", "v", "row", "values", "k", "name", "mask", "here", "w"]) (sc := defScope s_law_model) (by decide +kernel)) (fun _ _ _ _ _ => pg_name (i := 15) sc_law_model.nd rfl (Or.inl rfl)) (fun _ _ _ _ _ => pts_nil) (fun _ _ _ _ _ => (pe_or (pe_ix ix_list (pv 9) (pv 15) (fun _ _ => rfl)) (pe_one (pe_and (pe_cmpR op_eq (pv 15) (pe_op op_sub (pv 4) pe_int) (nomark _)) (pe_one (pe_cmpR op_lt (pv 8) (pv 15) (nomark _))))))))))
      pss_nil)
    (C8.pss_cut (ps_if (pt_cmpR op_in_seq (pv 1) (pe_tup (pa_cons pe_str pa_nil)) rfl)
      (pss_one (ps_set (i := 9) sc_law_model.nd rfl (.inr rfl) (pe_lc (own := [("w", 15)]) (g := gName 15) (tt := tYes) (te := (tAndV (tOp (rIxL K) _ _) _)) rfl sc_law_model.nd (pi_range1 (by rfl) T.z_range (pa_cons (pv 4) pa_nil)) (blkOk_by (N := ["numbers", "logic", "most", "first", "worlds", "bits", "number", "seen", "v", "row", "values", "k", "name", "mask", "here", "w"]) (sc := defScope s_law_model) (by decide +kernel)) (fun _ _ _ _ _ => pg_name (i := 15) sc_law_model.nd rfl (Or.inl rfl)) (fun _ _ _ _ _ => pts_nil) (fun _ _ _ _ _ => (pe_and (pe_ix ix_list (pv 9) (pv 15) (fun _ _ => rfl)) (pe_one (pe_chain op_lt op_le (pv 8) (pe_op op_fdiv (pv 4) pe_int) (pv 15))))))))
      pss_nil)
    (C8.pss_cut (ps_if (pt_cmpR op_eq (pv 1) pe_str (nomark _))
      (pss_one (ps_set (i := 9) sc_law_model.nd rfl (.inr rfl) (pe_op op_rep (pe_lst (pa_cons pe_bl pa_nil)) (pv 4))))
      pss_nil)
    (pss_one (ps_expr (pe_bm PySem.F.plainAttrs_list PySem.F.slot_list_append PySem.F.type_list_append mt_append (pv 7) (pa_cons (pv 9) pa_nil)))))))))))
    (C8.pss_cut (ps_if (PW.pt (pw_and (pt_cmpR op_eq (pv 1) pe_str (nomark _)) (pw_and1 (pt_cmpR op_gt (pv 4) pe_int (nomark _)))))
      (pss_one (ps_set (i := 7) sc_law_model.nd rfl (.inr rfl) (pe_lc (own := [("v", 8)]) (g := gName 8) (tt := tYes) (te := (tLc (iRng1 (tCons _ tNil)) (gName 15) tYes _ [15])) rfl sc_law_model.nd (pi_range1 (by rfl) T.z_range (pa_cons (pv 4) pa_nil)) (blkOk_by (N := ["numbers", "logic", "most", "first", "worlds", "bits", "number", "seen", "v", "row", "values", "k", "name", "mask", "here", "w"]) (sc := defScope s_law_model) (by decide +kernel)) (fun _ _ _ _ _ => pg_name (i := 8) sc_law_model.nd rfl (Or.inr rfl)) (fun _ _ _ _ _ => pts_nil) (fun _ _ _ _ _ => (pe_lc (own := [("w", 15)]) (g := gName 15) (tt := tYes) rfl sc_law_model.nd (pi_range1 (by rfl) T.z_range (pa_cons (pv 4) pa_nil)) (by dsimp only [L2.cxOf, L2.Cx.blk, L2.Cx.nox, PySem.compEnvC]; rw [relab_eq]; exact blkOk_by (by decide +kernel)) (fun _ _ _ _ _ => pg_name (i := 15) sc_law_model.nd rfl (Or.inl rfl)) (fun _ _ _ _ _ => pts_nil) (fun _ _ _ _ _ => (pe_and (pe_cmpR op_lt (pv 8) (pv 15) (nomark _)) (pe_one (pe_cmpR op_eq (pe_op op_fdiv (pv 8) pe_int) (pe_op op_fdiv (pv 15) pe_int) (nomark _))))))))))
      pss_nil)
    (pss_cons (ps_set (i := 7) sc_law_model.nd rfl (.inr rfl) (pe_call G_law_closed (hr.mono (by omega)) (by rfl) T.m_law_closed T.F_law_closed.kp T.b_law_closed .nil pass0 (pa_cons (pv 7) (pa_cons (pv 1) pa_nil))))
    (pss_cons (ps_set (i := 10) sc_law_model.nd rfl (.inl rfl) pe_dnewK)
    (pss_cons (ps_for PassesOwn.never rfl (pi_range1 (by rfl) T.z_range (pa_cons pe_int pa_nil)) (pg_name (i := 11) sc_law_model.nd rfl (.inl rfl))
      (pss_cons (ps_set (i := 12) sc_law_model.nd rfl (.inl rfl) (pe_ix ix_str pe_str (pv 11) (fun _ _ => rfl)))
    (pss_cons (ps_set (i := 13) sc_law_model.nd rfl (.inr rfl) pe_int)
    (C8.pss_cut (ps_if (pt_cmpR op_gt (pe_callB call_len_seq (by rfl) T.z_len PySem.boot_len (pa_cons (pv 0) pa_nil)) (pe_op op_add pe_int (pv 11)) (nomark _))
      (pss_one (ps_set (i := 13) sc_law_model.nd rfl (.inr rfl) (pe_op op_mod (pe_callTy call_int1 (by rfl) T.z_int (by decide +kernel) (pa_cons (pe_ix ix_list (pv 0) (pe_op op_add pe_int (pv 11)) (fun _ _ => rfl)) pa_nil)) (pe_op op_shl pe_int (pv 4)))))
      pss_nil)
    (pss_cons (ps_set (i := 14) sc_law_model.nd rfl (.inr rfl) (pe_lc (own := [("w", 15)]) (g := gName 15) rfl sc_law_model.nd (pi_range1 (by rfl) T.z_range (pa_cons (pv 4) pa_nil)) (blkOk_by (N := ["numbers", "logic", "most", "first", "worlds", "bits", "number", "seen", "v", "row", "values", "k", "name", "mask", "here", "w"]) (sc := defScope s_law_model) (by decide +kernel)) (fun _ _ _ _ _ => pg_name (i := 15) sc_law_model.nd rfl (Or.inl rfl)) (fun _ _ _ _ _ => pts_one (pt_cmpR op_eq (pe_op op_and (pe_op op_shr (pv 13) (pv 15)) pe_int) pe_int (nomark _))) (fun _ _ _ _ _ => (pv 15))))
    (C8.pss_cut (ps_if (pt_cmpR op_in_seq (pv 1) (pe_tup (pa_cons pe_str (pa_cons pe_str (pa_cons pe_str (pa_cons pe_str (pa_cons pe_str (pa_cons pe_str pa_nil))))))) rfl)
      (pss_one (ps_set (i := 14) sc_law_model.nd rfl (.inr rfl) (pe_lc (own := [("w", 15)]) (g := gName 15) (tt := (tTest (tOp (rIn K false) _ (tLc (iList K _) (gName 8) tYes (tOp (rIxL K) (tOp (rIxL K) _ _) _) [8])))) rfl sc_law_model.nd (pi_range1 (by rfl) T.z_range (pa_cons (pv 4) pa_nil)) (blkOk_by (N := ["numbers", "logic", "most", "first", "worlds", "bits", "number", "seen", "v", "row", "values", "k", "name", "mask", "here", "w"]) (sc := defScope s_law_model) (by decide +kernel)) (fun _ _ _ _ _ => pg_name (i := 15) sc_law_model.nd rfl (Or.inr rfl)) (fun _ _ _ _ _ => pts_one (pt_cmpR op_in_seq pe_bl (pe_lc (own := [("v", 8)]) (g := gName 8) (tt := tYes) (te := (tOp (rIxL K) (tOp (rIxL K) _ _) _)) rfl sc_law_model.nd (pi_list (pv 14)) (by dsimp only [L2.cxOf, L2.Cx.blk, L2.Cx.nox, PySem.compEnvC]; rw [relab_eq]; exact blkOk_by (by decide +kernel)) (fun _ _ _ _ _ => pg_name (i := 8) sc_law_model.nd rfl (Or.inl rfl)) (fun _ _ _ _ _ => pts_nil) (fun _ _ _ _ _ => (pe_ix ix_list (pe_ix ix_list (pv 7) (pv 8) (fun _ _ => rfl)) (pv 15) (fun _ _ => rfl)))) rfl)) (fun _ _ _ _ _ => (pv 15)))))
      pss_nil)
    (pss_one (ps_dput hu (pv 10) (pv 12) (pv 14) rfl))))))))
    (pss_one (ps_ret (pe_tup (pa_cons (pv 7) (pa_cons (pv 10) pa_nil)))))))))))))))), ?_⟩
  refine ⟨fun σ H1 => ∃ z : Int, σ = [some (.ref a), some (.str lg), some (.int m), some (.int z), none, none, none, none, none, none, none, none, none, none, none, none] ∧ Same H H1, ?_, ?_⟩
  · refine ⟨_, rfl, (by show 0 ≤ sizeLine; decide), fun e ne => ?_⟩
    have s1 := same_new (o := .lst []) ne
    refine ⟨_, _, .lst (SqL.of (s1 _ _ ha)) (dp_ints ns), .lst (SqL.of upd_same) .nil, shaped_ints ns, rfl, _, rfl, ?_⟩
    rw [eqv_nil]
    cases ns with
    | nil => exact ⟨0, rfl, s1⟩
    | cons z ns => exact iteT ⟨_, rfl, a, _, 0, _, rfl, rfl, SqL.of (s1 _ _ ha), atI_nat (j := 0) rfl, .inl ⟨z, rfl, z, rfl, s1⟩⟩
  rintro σ H1 ⟨z, rfl, s1⟩
  refine ⟨_, rfl, _, rfl, _, _, rfl, rfl, m0, _, _, rfl, rfl, ?_⟩
  have z0 := Int.emod_nonneg z (show m ≠ 0 by omega)
  have z1 := Int.emod_lt_of_pos z m0
  obtain ⟨n, hn⟩ : ∃ n : Nat, 1 + z % m = (n : Int) := ⟨(1 + z % m).toNat, by omega⟩
  change gName 4 (V.int (1 + z % m)) _ _ _
  rw [hn]
  refine ⟨_, rfl, _, _, rfl, rfl, ⟨by decide, by decide⟩, ?_⟩
  have ha1 := s1 _ _ ha
  refine ⟨_, rfl, _, rfl, _, rfl, a, _, rfl, SqL.of ha1, fun p np => ⟨p, rfl, ⟨_, SqL.of upd_same⟩, ?_⟩⟩
  have s2 := same_new (o := .lst (cutV (ns.map V.int) (some 1) (some 3))) np
  have hp2 : upd H1 p (.lst (cutV (ns.map V.int) (some 1) (some 3))) p = some (.lst (cutV (ns.map V.int) (some 1) (some 3))) := upd_same
  have cutI : ∀ {y : V} {i : Nat}, (cutV (ns.map V.int) (some 1) (some 3))[i]? = some y → ∃ j : Int, y = .int j := fun {y i} e => by
    have hm : y ∈ ns.map V.int := List.mem_of_mem_drop (List.mem_of_mem_take (by
      have := List.mem_of_getElem? e
      unfold cutV at this
      exact this))
    obtain ⟨j, _, e⟩ := List.mem_map.mp hm
    exact ⟨j, e.symm⟩
  generalize upd H1 p (.lst (cutV (ns.map V.int) (some 1) (some 3))) = H2 at s2 hp2
  have s12 := s1.trans s2
  refine for_list (K := K) (a := p) (xs := cutV (ns.map V.int) (some 1) (some 3)) (fun i σ H3 => ∃ (b : Int) (o6 : Option V), σ = [some (.ref a), some (.str lg), some (.int m), some (.int z), some (.int (n : Int)), some (.int b), o6, none, none, none, none, none, none, none, none, none] ∧ H3 = H2) ⟨_, none, rfl, rfl⟩ (fun i σ H3 _ h => by
    obtain ⟨_, _, _, rfl⟩ := h
    exact SqL.of hp2) ?_ ?_
  · rintro i y σ H3 hy ⟨b, o6, rfl, rfl⟩
    obtain ⟨j, rfl⟩ := cutI hy
    exact ⟨_, rfl, _, _, rfl, rfl, .inr ⟨by decide, by decide⟩, _, rfl, .inl ⟨j, rfl, _, _, rfl, rfl, _, _, rfl, rfl⟩⟩
  rintro σ H3 ⟨b, o6, rfl, rfl⟩
  refine ⟨(by show 0 ≤ sizeLine; decide), fun q nq => ?_⟩
  have s4 := same_new (o := .lst []) nq
  have g4 : PGr (upd H3 q (.lst [])) q n (fun v w => roF lg n v ((fun _ _ => false : Nat → Nat → Bool) v) w) 0 := ⟨[], upd_same, rfl, .nil, fun h => (nomatch h), fun j r h => (nomatch h)⟩
  have s14 := s12.trans s4
  have nqH : H q = none := by
    cases e : H q with
    | none => rfl
    | some o => rw [s12 _ _ e] at nq; cases nq
  generalize upd H3 q (.lst []) = H4 at s4 g4 s14
  have n8 : n ≤ 8 := by omega
  have old : ∀ {Ha Hb : Hp} {c : Addr}, Same Ha Hb → Hb c = none → Ha c = none := fun {Ha Hb c} s e => by
    cases h : Ha c with
    | none => rfl
    | some o => rw [s _ _ h] at e; cases e
  refine ⟨_, rfl, (n : Int), rfl, by omega, by omega, for_range (n := (n : Int).toNat) (fun i σ H5 => ∃ (o8 o9 : Option V), σ = [some (.ref a), some (.str lg), some (.int m), some (.int z), some (.int (n : Int)), some (.int b), o6, some (.ref q), o8, o9, none, none, none, none, none, none] ∧ Same H H5 ∧ ∃ B : Nat → Nat → Bool, PGr H5 q n (fun v w => roF lg n v (B v) w) i) ⟨none, none, rfl, s14, _, g4⟩ ?_ ?_⟩
  · rintro i σ H5 hi ⟨o8, o9, rfl, s5, B, g5⟩
    have hin : i < n := by omega
    change gName 8 (V.int (0 + (i : Int))) _ _ _
    rw [Int.zero_add]
    dsimp only [gName, tSeq, tAsg, List.set]
    refine row_lc (n := n) (by omega) (fun R r => ⟨_, rfl, r⟩) (fun _ => rfl) (fun j H6 Q2 hj s6 q2 => ?_) (fun rw H6 f nrw s6 hD => ?_)
    · exact ⟨_, rfl, _, rfl, _, rfl, _, _, rfl, rfl, .inr ⟨by omega, by omega⟩, _, rfl, _, _, rfl, rfl, _, _, rfl, rfl, Int.add_nonneg (Int.mul_nonneg (Int.natCast_nonneg _) (Int.natCast_nonneg _)) (Int.natCast_nonneg _), _, _, rfl, rfl, rfl, q2 _ _ (L2.Same.refl _)⟩
    refine ⟨fun σ H' => ∃ (rw : Addr), σ = [some (.ref a), some (.str lg), some (.int m), some (.int z), some (.int (n : Int)), some (.int b), o6, some (.ref q), some (.int (i : Int)), some (.ref rw), none, none, none, none, none, none] ∧ Same H5 H' ∧ H5 rw = none ∧ H' rw = some (.lst (mk n (roA lg i f))), ?_, ?_⟩
    · refine ⟨_, rfl, (by show 8 ≤ sizeLine; decide), fun t nt => ⟨t, _, rfl, .inr (SqT.of upd_same), rfl, rfl, _, rfl, ?_⟩⟩
      have st := same_new (o := .tup [.str "GL", .str "Grz", .str "Int", .str "KC", .str "LC", .str "BD2", .str "HT", .str "Cl"]) nt
      have s6t := s6.trans st
      have hDt := st _ _ hD
      refine ite2 (fun hc => ?_) (fun hc => ⟨rw, rfl, s6t, nrw, by rw [show roA lg i f = f from if_neg hc]; exact hDt⟩)
      rw [show roA lg i f = fun w => f w && decide (i < w) from if_pos hc]
      dsimp only [gName, tSeq, tAsg, List.set]
      refine row_lcF (n := n) (fun w => f w && decide (i < w)) (by omega) (fun R r => ⟨_, rfl, r⟩) (fun _ => rfl) (fun j H7 Q2 hj s7 q2 => ?_) (fun D H7 nD s7 hD2 => ⟨D, rfl, s6t.trans s7, old s6t nD, hD2⟩)
      refine ⟨_, rfl, _, rfl, rw, _, (j : Int), .bl (f j), rfl, rfl, SqL.of (s7 _ _ hDt), atI_nat (mk_get hj), f j, rfl, ?_⟩
      rcases Bool.eq_false_or_eq_true (f j) with hb | hb
      · exact (if_pos hb).mpr ⟨_, rfl, _, rfl, _, _, rfl, rfl, q_to q2 (by simp [hb])⟩
      · exact (if_neg (by rw [hb]; exact Bool.false_ne_true)).mpr (q_to q2 (by simp [hb]))
    · rintro σ H6 ⟨rw, rfl, s6, nrw, hD⟩
      refine ⟨fun σ H' => ∃ (rw : Addr), σ = [some (.ref a), some (.str lg), some (.int m), some (.int z), some (.int (n : Int)), some (.int b), o6, some (.ref q), some (.int (i : Int)), some (.ref rw), none, none, none, none, none, none] ∧ Same H5 H' ∧ H5 rw = none ∧ H' rw = some (.lst (mk n (roB lg i (roA lg i f)))), ?_, ?_⟩
      · refine ⟨_, rfl, (by show 2 ≤ sizeLine; decide), fun t nt => ⟨t, _, rfl, .inr (SqT.of upd_same), rfl, rfl, _, rfl, ?_⟩⟩
        have st := same_new (o := .tup [.str "LC", .str "HT"]) nt
        have s6t := s6.trans st
        have hDt := st _ _ hD
        refine ite2 (fun hc => ?_) (fun hc => ⟨rw, rfl, s6t, nrw, by rw [show roB lg i (roA lg i f) = (roA lg i f) from if_neg hc]; exact hDt⟩)
        rw [show roB lg i (roA lg i f) = fun w => decide (i < w) from if_pos hc]
        dsimp only [gName, tSeq, tAsg, List.set]
        refine row_lcF (n := n) (fun w => decide (i < w)) (by omega) (fun R r => ⟨_, rfl, r⟩) (fun _ => rfl) (fun j H7 Q2 hj s7 q2 => ?_) (fun D H7 nD s7 hD2 => ⟨D, rfl, s6t.trans s7, old s6t nD, hD2⟩)
        exact ⟨_, rfl, _, rfl, _, _, rfl, rfl, q_to q2 (by simp)⟩
      · rintro σ H6 ⟨rw, rfl, s6, nrw, hD⟩
        refine ⟨fun σ H' => ∃ (rw : Addr), σ = [some (.ref a), some (.str lg), some (.int m), some (.int z), some (.int (n : Int)), some (.int b), o6, some (.ref q), some (.int (i : Int)), some (.ref rw), none, none, none, none, none, none] ∧ Same H5 H' ∧ H5 rw = none ∧ H' rw = some (.lst (mk n (roC lg n i (roB lg i (roA lg i f))))), ?_, ?_⟩
        · refine ⟨_, rfl, (by show 1 ≤ sizeLine; decide), fun t nt => ⟨t, _, rfl, .inr (SqT.of upd_same), rfl, rfl, _, rfl, ?_⟩⟩
          have st := same_new (o := .tup [.str "KC"]) nt
          have s6t := s6.trans st
          have hDt := st _ _ hD
          refine ite2 (fun hc => ?_) (fun hc => ⟨rw, rfl, s6t, nrw, by rw [show roC lg n i (roB lg i (roA lg i f)) = (roB lg i (roA lg i f)) from if_neg hc]; exact hDt⟩)
          rw [show roC lg n i (roB lg i (roA lg i f)) = fun w => (roB lg i (roA lg i f)) w || (decide (w + 1 = n) && decide (i < w)) from if_pos hc]
          dsimp only [gName, tSeq, tAsg, List.set]
          refine row_lcF (n := n) (fun w => (roB lg i (roA lg i f)) w || (decide (w + 1 = n) && decide (i < w))) (by omega) (fun R r => ⟨_, rfl, r⟩) (fun _ => rfl) (fun j H7 Q2 hj s7 q2 => ?_) (fun D H7 nD s7 hD2 => ⟨D, rfl, s6t.trans s7, old s6t nD, hD2⟩)
          refine ⟨_, rfl, _, rfl, rw, _, (j : Int), .bl ((roB lg i (roA lg i f)) j), rfl, rfl, SqL.of (s7 _ _ hDt), atI_nat (mk_get hj), (roB lg i (roA lg i f)) j, rfl, ?_⟩
          rcases Bool.eq_false_or_eq_true ((roB lg i (roA lg i f)) j) with hb | hb
          · exact (if_pos hb).mpr (q_to q2 (by simp [hb]))
          · exact (if_neg (by rw [hb]; exact Bool.false_ne_true)).mpr ⟨_, rfl, _, rfl, _, _, rfl, rfl, rfl, _, rfl, ite2 (fun hd => ⟨_, rfl, _, rfl, _, _, rfl, rfl, q_to q2 (kc_t hb hd)⟩) (fun hd => q_to q2 (kc_f hb hd))⟩
        · rintro σ H6 ⟨rw, rfl, s6, nrw, hD⟩
          refine ⟨fun σ H' => ∃ (rw : Addr), σ = [some (.ref a), some (.str lg), some (.int m), some (.int z), some (.int (n : Int)), some (.int b), o6, some (.ref q), some (.int (i : Int)), some (.ref rw), none, none, none, none, none, none] ∧ Same H5 H' ∧ H5 rw = none ∧ H' rw = some (.lst (mk n (roD lg n i (roC lg n i (roB lg i (roA lg i f)))))), ?_, ?_⟩
          · refine ⟨_, rfl, (by show 1 ≤ sizeLine; decide), fun t nt => ⟨t, _, rfl, .inr (SqT.of upd_same), rfl, rfl, _, rfl, ?_⟩⟩
            have st := same_new (o := .tup [.str "BD2"]) nt
            have s6t := s6.trans st
            have hDt := st _ _ hD
            refine ite2 (fun hc => ?_) (fun hc => ⟨rw, rfl, s6t, nrw, by rw [show roD lg n i (roC lg n i (roB lg i (roA lg i f))) = (roC lg n i (roB lg i (roA lg i f))) from if_neg hc]; exact hDt⟩)
            rw [show roD lg n i (roC lg n i (roB lg i (roA lg i f))) = fun w => (roC lg n i (roB lg i (roA lg i f))) w && (decide (i < n / 2) && decide (n / 2 ≤ w)) from if_pos hc]
            dsimp only [gName, tSeq, tAsg, List.set]
            refine row_lcF (n := n) (fun w => (roC lg n i (roB lg i (roA lg i f))) w && (decide (i < n / 2) && decide (n / 2 ≤ w))) (by omega) (fun R r => ⟨_, rfl, r⟩) (fun _ => rfl) (fun j H7 Q2 hj s7 q2 => ?_) (fun D H7 nD s7 hD2 => ⟨D, rfl, s6t.trans s7, old s6t nD, hD2⟩)
            refine ⟨_, rfl, _, rfl, rw, _, (j : Int), .bl ((roC lg n i (roB lg i (roA lg i f))) j), rfl, rfl, SqL.of (s7 _ _ hDt), atI_nat (mk_get hj), (roC lg n i (roB lg i (roA lg i f))) j, rfl, ?_⟩
            rcases Bool.eq_false_or_eq_true ((roC lg n i (roB lg i (roA lg i f))) j) with hb | hb
            · exact (if_pos hb).mpr ⟨_, rfl, _, rfl, _, _, rfl, rfl, ⟨by decide, by decide⟩, _, _, rfl, rfl, _, rfl, ite2 (fun hd => ⟨_, rfl, _, _, rfl, rfl, q_to q2 (bd_t hb hd)⟩) (fun hd => q_to q2 (bd_f hb hd))⟩
            · exact (if_neg (by rw [hb]; exact Bool.false_ne_true)).mpr (q_to q2 (by simp [hb]))
          · rintro σ H6 ⟨rw, rfl, s6, nrw, hD⟩
            refine ⟨fun σ H' => ∃ (rw : Addr), σ = [some (.ref a), some (.str lg), some (.int m), some (.int z), some (.int (n : Int)), some (.int b), o6, some (.ref q), some (.int (i : Int)), some (.ref rw), none, none, none, none, none, none] ∧ Same H5 H' ∧ H5 rw = none ∧ H' rw = some (.lst (mk n (roF lg n i f))), ?_, ?_⟩
            · refine ⟨_, rfl, rfl, _, rfl, ite2 (fun hc => ?_) (fun hc => ⟨rw, rfl, s6, nrw, by rw [show roF lg n i f = (roD lg n i (roC lg n i (roB lg i (roA lg i f)))) from if_neg (str_f hc)]; exact hD⟩)⟩
              rw [show roF lg n i f = fun _ => false from if_pos (str_t hc)]
              refine ⟨(by show 1 ≤ sizeLine; decide), fun p1 np1 => ⟨_, rfl, p1, (n : Int), _, rfl, rfl, upd_same, (by omega), (by omega), (by show 1 * (n : Int).toNat ≤ sizeLine; rw [sizeLine_eq]; omega), fun p2 np2 => ?_⟩⟩
              have t1 := same_new (o := .lst [.bl false]) np1
              refine ⟨p2, rfl, (s6.trans t1).trans (same_new np2), old (s6.trans t1) np2, ?_⟩
              rw [upd_same, Int.toNat_natCast]
              refine congrArg (fun xs => some (HO.lst xs)) ?_
              unfold mk
              refine List.ext_getElem? fun i => ?_
              by_cases hi : i < n
              · rw [List.getElem?_map, List.getElem?_range hi]
                simp [hi]
              · rw [List.getElem?_eq_none_iff.mpr (by simp; omega), List.getElem?_eq_none_iff.mpr (by simp; omega)]
            · rintro σ H6 ⟨rw, rfl, s6, nrw, hD⟩
              obtain ⟨xs, hq, hxl, hg⟩ := g5.snoc (R' := fun v w => roF lg n v ((fun v => if v = i then f else B v) v) w) s6 nrw hD (fun w _ => by simp) (fun v w hv _ => by simp [Nat.ne_of_lt hv])
              exact ⟨_, rfl, .inl ⟨rfl, _, .inl (.inl hq)⟩, _, rfl, q, xs, .ref rw, rfl, rfl, hq, by rw [hxl, sizeLine_eq]; omega, _, _, rfl, fun b o e => by
                rw [upd_ne (ne_of_none e nqH)]
                exact s6 _ _ (s5 _ _ e), _, hg⟩
  rintro σ H5 ⟨o8, o9, rfl, s5, B, g5⟩
  rw [Int.toNat_natCast] at g5
  have hG5 := g5.grid
  refine ⟨fun σ H6 => ∃ (q2 : Addr), σ = [some (.ref a), some (.str lg), some (.int m), some (.int z), some (.int (n : Int)), some (.int b), o6, some (.ref q2), o8, o9, none, none, none, none, none, none] ∧ Same H H6 ∧ GridAt H6 q2 n (baF lg n B), ?_, ?_⟩
  · refine ⟨_, rfl, rfl, _, rfl, ite2 (fun hc => ⟨_, rfl, _, _, rfl, rfl, _, rfl, ite2 (fun hd => ?_) (fun hd => ⟨q, rfl, s5, by rw [show baF lg n B = fun v w => roF lg n v (B v) w from if_neg (ht_f hd)]; exact hG5⟩)⟩) (fun hc => ⟨q, rfl, s5, by rw [show baF lg n B = fun v w => roF lg n v (B v) w from if_neg (fun e => str_f hc e.1)]; exact hG5⟩)⟩
    rw [show baF lg n B = fun v w => decide (v < w) && decide (v / 2 = w / 2) from if_pos ⟨str_t hc, ht_t hd⟩]
    refine ⟨_, rfl, (n : Int), rfl, by omega, by omega, fun D nD => lc_range (n := (n : Int).toNat) (fun i H7 => Same H5 H7 ∧ PGr H7 D n (fun v w => decide (v < w) && decide (v / 2 = w / 2)) i) ⟨same_new nD, [], upd_same, rfl, .nil, fun h => (nomatch h), fun j r h => (nomatch h)⟩ ?_ ?_⟩
    · rintro i H7 hi ⟨s7, g7⟩
      have hin : i < n := by omega
      change gName 8 (V.int (0 + (i : Int))) _ _ _
      rw [Int.zero_add]
      refine ⟨rfl, ?_⟩
      dsimp only [tYes]
      rw [if_pos rfl]
      refine row_lcF (n := n) (fun w => decide (i < w) && decide (i / 2 = w / 2)) (by omega) (fun R r => ⟨_, rfl, r⟩) (fun _ => rfl) (fun j H8 Q2 hj s8 q2 => ?_) (fun rw H8 nrw s8 hD => ?_)
      · exact ⟨_, rfl, _, rfl, _, _, rfl, rfl, _, rfl, ite2 (fun hd => ⟨_, rfl, _, _, rfl, rfl, ⟨by decide, by decide⟩, _, rfl, _, _, rfl, rfl, ⟨by decide, by decide⟩, rfl, q_to q2 (hp_t hd)⟩) (fun hd => q_to q2 (hp_f hd))⟩
      · obtain ⟨xs, hq, hxl, hg⟩ := g7.snoc s8 nrw hD (fun _ _ => rfl) (fun _ _ _ _ => rfl)
        refine ⟨xs, hq, by rw [hxl, sizeLine_eq]; omega, fun b o e => ?_, hg⟩
        rw [upd_ne (ne_of_none e nD)]
        exact s8 _ _ (s7 _ _ e)
    · rintro H7 ⟨s7, g7⟩
      rw [Int.toNat_natCast] at g7
      exact ⟨D, rfl, s5.trans s7, g7.grid⟩
  rintro σ H6 ⟨q2, rfl, s6, hG6⟩
  refine ⟨_, rfl, _, rfl, q2, lg, n, _, rfl, hG6, by omega, fun q3 H7 nq3 s7 hG7 => ?_⟩
  generalize eR7 : clF lg n (baF lg n B) = R7 at hG7
  intro d nd
  have s8 := same_new (o := .dK []) nd
  have hG9 := hG7.same s8
  have s9 := (s6.trans s7).trans s8
  have hd9 := @upd_same H7 d (.dK [])
  have ndH : H d = none := old (s6.trans s7) nd
  have nq3H : H q3 = none := old s6 nq3
  generalize upd H7 d (.dK []) = H9 at s8 hG9 s9 hd9
  have hGk : ∀ {H' : Hp}, (∀ b o, H9 b = some o → b ≠ d → H' b = some o) → GridAt H' q3 n R7 := fun {H'} kk => by
    obtain ⟨rs, g1, g2, g3, g4, g5⟩ := hG9
    have nl : ∀ {c : Addr} {xs : List V}, H9 c = some (.lst xs) → c ≠ d := fun {c xs} e z => by rw [z, hd9] at e; cases e
    exact ⟨rs, kk _ _ g1 (nl g1), g2, g3, g4, fun i r e => kk _ _ (g5 i r e) (nl (g5 i r e))⟩
  have ha9 := s9 _ _ ha
  have nad : a ≠ d := ne_of_none ha ndH
  refine ⟨3, rfl, by decide, by decide, for_range (n := 3) (fun k σ H' => ∃ (as : List (Str × Addr)) (W : Str → Nat → Bool) (o8 o11 o12 o13 o14 : Option V), σ = [some (.ref a), some (.str lg), some (.int m), some (.int z), some (.int (n : Int)), some (.int b), o6, some (.ref q3), o8, o9, some (.ref d), o11, o12, o13, o14, none] ∧ (∀ b o, H9 b = some o → b ≠ d → H' b = some o) ∧ as.map (·.1) = nms.take k ∧ H' d = some (.dK (as.map fun x => (.inr x.1, .ref x.2))) ∧ (as.map (·.2)).Nodup ∧ d ∉ as.map (·.2) ∧ ∀ x ∈ as, H' x.2 = some (.lst (sel n (vaF lg n R7 (W x.1))))) ⟨[], fun _ _ => false, o8, none, none, none, none, rfl, fun _ _ h _ => h, rfl, hd9, .nil, fun h => (nomatch h), fun x h => (nomatch h)⟩ ?_ ?_⟩
  · rintro k σ H10 hk ⟨as, W, o8, o11, o12, o13, o14, rfl, kk, has, hd10, anod, nda, hva⟩
    change gName 11 (V.int (0 + (k : Int))) _ _ _
    rw [Int.zero_add]
    obtain ⟨c, hc, y, hy1, hy2⟩ : ∃ c, atI (Str.ofString "pqr").cps.toList (k : Int) = some c ∧ ∃ y : Str, (⟨#[c]⟩ : Str) = y ∧ nms[k]? = some y := by
      match k, hk with
      | 0, _ => exact ⟨_, rfl, _, rfl, by decide +kernel⟩
      | 1, _ => exact ⟨_, rfl, _, rfl, by decide +kernel⟩
      | 2, _ => exact ⟨_, rfl, _, rfl, by decide +kernel⟩
    refine ⟨_, rfl, _, (k : Int), c, rfl, rfl, (by decide +kernel), hc, ?_⟩
    rw [hy1]
    have ha10 := kk _ _ ha9 nad
    refine ⟨fun σ H11 => ∃ mk0 : Int, σ = [some (.ref a), some (.str lg), some (.int m), some (.int z), some (.int (n : Int)), some (.int b), o6, some (.ref q3), o8, o9, some (.ref d), some (.int (k : Int)), some (.str y), some (.int mk0), o14, none] ∧ H11 = H10, ?_, ?_⟩
    · refine ⟨_, rfl, a, _, rfl, .inl (SqL.of ha10), _, rfl, _, _, rfl, rfl, _, _, rfl, rfl, _, rfl, ite2 (fun hc2 => ?_) (fun _ => ⟨0, rfl, rfl⟩)⟩
      have hc2 : (3 : Int) + (k : Int) < ((ns.map V.int).length : Int) := of_decide_eq_true hc2
      rw [List.length_map] at hc2
      have h3k : 3 + k < ns.length := by omega
      refine ⟨_, rfl, _, rfl, _, _, rfl, rfl, a, _, (3 + (k : Int)), .int ns[3 + k], rfl, rfl, SqL.of ha10, ?_, .inl ⟨_, rfl, _, rfl, _, _, rfl, rfl, ⟨by omega, by omega, by decide⟩, _, _, rfl, rfl, ?_, _, rfl, rfl⟩⟩
      · have e : (3 : Int) + (k : Int) = ((3 + k : Nat) : Int) := by omega
        rw [e]
        exact atI_nat (by rw [List.getElem?_map, List.getElem?_eq_getElem h3k]; rfl)
      · have : (0 : Int) < 2 ^ (n : Int).toNat := Int.pow_pos (by decide)
        omega
    rintro σ H11 ⟨mk0, rfl, rfl⟩
    dsimp only [gName, tSeq, tAsg, List.set]
    refine sel_lc (n := n) (by omega) (fun R r => ⟨_, rfl, r⟩) (fun _ => rfl) (fun _ => rfl) (fun j H12 Q2 hj s12 q2 => ?_) (fun hd H12 f nhd s12 hhd => ?_)
    · exact ⟨_, rfl, _, rfl, _, _, rfl, rfl, Int.natCast_nonneg _, _, _, rfl, rfl, rfl, _, rfl, q2 _ _ (L2.Same.refl _)⟩
    refine ⟨fun σ H13 => ∃ (hd : Addr), σ = [some (.ref a), some (.str lg), some (.int m), some (.int z), some (.int (n : Int)), some (.int b), o6, some (.ref q3), o8, o9, some (.ref d), some (.int (k : Int)), some (.str y), some (.int mk0), some (.ref hd), none] ∧ Same H11 H13 ∧ H11 hd = none ∧ H13 hd = some (.lst (sel n (vaF lg n R7 f))), ?_, ?_⟩
    · refine ⟨_, rfl, (by show 6 ≤ sizeLine; decide), fun t nt => ⟨t, _, rfl, .inr (SqT.of upd_same), rfl, rfl, _, rfl, ?_⟩⟩
      have st := same_new (o := .tup [.str "Int", .str "KC", .str "LC", .str "BD2", .str "HT", .str "Cl"]) nt
      have s6t := s12.trans st
      have hhdt := st _ _ hhd
      refine ite2 (fun hc => ?_) (fun hc => ⟨hd, rfl, s6t, nhd, by rw [show vaF lg n R7 f = f from if_neg hc]; exact hhdt⟩)
      rw [show vaF lg n R7 f = fun w => (List.range n).any (fun v => f v && R7 v w) from if_pos hc]
      dsimp only [gName, tSeq, tAsg, List.set]
      refine sel_lcF (n := n) (fun w => (List.range n).any (fun v => f v && R7 v w)) (by omega) (fun R r => ⟨_, rfl, r⟩) (fun _ => rfl) (fun _ => rfl) (fun j H13 Q2 hj s13 q2 => ?_) (fun D H13 nD s13 hD2 => ⟨D, rfl, s6t.trans s13, old s6t nD, hD2⟩)
      have hh13 := s13 _ _ hhdt
      obtain ⟨rs, g1, g2, g3, g4, g5⟩ := (hGk kk).same (s6t.trans s13)
      refine ⟨_, rfl, hd, rfl, ⟨_, SqL.of hh13⟩, fun D nD => ?_⟩
      refine lc_list (K := K) (a := hd) (xs := sel n f) (fun i H14 => Same H13 H14 ∧ H14 D = some (.lst ((((List.range n).filter f).take i).map fun v => V.bl (R7 v j)))) ⟨same_new nD, upd_same⟩ (fun i H14 _ h => by
        obtain ⟨s, _⟩ := h
        exact SqL.of (s _ _ hh13)) ?_ ?_
      · rintro i y H14 hy ⟨s14, hD14⟩
        have hil := (List.getElem?_eq_some_iff.mp hy).1
        have := sel_len n f
        unfold sel at hy
        rw [List.getElem?_map] at hy
        cases hu0 : ((List.range n).filter f)[i]? with
        | none => rw [hu0] at hy; cases hy
        | some u =>
        rw [hu0] at hy
        have ey : y = .int (u : Int) := (Option.some.inj hy).symm
        subst ey
        have hun : u < n := List.mem_range.mp (List.mem_filter.mp (List.mem_of_getElem? hu0)).1
        obtain ⟨r, hr⟩ : ∃ r, rs[u]? = some r := ⟨_, List.getElem?_eq_getElem (by rw [g2]; exact hun)⟩
        refine ⟨rfl, _, rfl, _, rfl, q3, _, (u : Int), .ref r, rfl, rfl, SqL.of (s14 _ _ g1), atI_nat (by rw [List.getElem?_map, hr]; rfl), _, rfl, r, _, (j : Int), .bl (R7 u j), rfl, rfl, SqL.of (s14 _ _ (g5 u r hr)), atI_nat (bgL_at R7 hj), _, hD14, by rw [List.length_map, List.length_take, sizeLine_eq]; omega, fun b o e => ?_, by rw [upd_same, take_snoc hu0, List.map_append]; rfl⟩
        rw [upd_ne (ne_of_none e nD)]
        exact s14 _ _ e
      · rintro H14 ⟨s14, hD14⟩
        have el : (sel n f).length = ((List.range n).filter f).length := by unfold sel; rw [List.length_map]
        rw [el, List.take_length] at hD14
        refine ⟨D, _, rfl, .inl (SqL.of hD14), rfl, ?_, _, rfl, (sel_any n j f R7).symm ▸ q2 _ s14⟩
        refine List.all_eq_true.mpr fun x hx => ?_
        obtain ⟨c, _, rfl⟩ := List.mem_map.mp hx
        rfl
    rintro σ H13 ⟨hd, rfl, s13, nhd, hhd⟩
    have yn : y ∉ as.map (·.1) := by
      rw [has]
      intro hm
      obtain ⟨j, hj⟩ := List.getElem?_of_mem hm
      rw [List.getElem?_take] at hj
      split at hj
      · have nn : nms.Nodup := by decide +kernel
        have i3 := (List.getElem?_eq_some_iff.mp hy2).1
        have := (List.getElem?_inj (by omega) nn).mp (hj.trans hy2.symm)
        omega
      · cases hj
    have hle : as.length ≤ 3 := by
      have := congrArg List.length has
      rw [List.length_map, List.length_take] at this
      have : nms.length = 3 := rfl
      omega
    have hd13 := s13 _ _ hd10
    have nhdd : hd ≠ d := fun e => by rw [e, hd10] at nhd; cases nhd
    have nhda : hd ∉ as.map (·.2) := fun hm => by
      obtain ⟨x, hx, e⟩ := List.mem_map.mp hm
      have := hva x hx
      rw [e, nhd] at this
      cases this
    refine ⟨_, rfl, _, rfl, _, rfl, d, _, rfl, .inl ⟨_, .inr y, hd13, rfl, (by rw [List.length_map, sizeLine_eq]; omega), rfl⟩, ?_⟩
    rw [putK_new _ (valV_none (by
      intro kv hk e
      obtain ⟨x, hx, rfl⟩ := List.mem_map.mp hk
      exact yn (List.mem_map.mpr ⟨x, hx, Sum.inr.inj e⟩)))]
    refine ⟨as ++ [(y, hd)], fun z => if z = y then f else W z, _, _, _, _, _, rfl, fun b o hb h2 => ?_, ?_, ?_, ?_, ?_, fun x hx => ?_⟩
    · rw [upd_ne h2]
      exact s13 _ _ (kk b o hb h2)
    · rw [take_snoc hy2, List.map_append, has]
      rfl
    · rw [upd_same, List.map_append]
      rfl
    · rw [List.map_append]
      refine List.nodup_append.mpr ⟨anod, List.nodup_cons.mpr ⟨fun h => (nomatch h), .nil⟩, fun z hz u hu e => nhda ?_⟩
      have e2 : z = hd := e.trans (List.mem_singleton.mp hu)
      exact e2 ▸ hz
    · rw [List.map_append]
      intro hm
      rcases List.mem_append.mp hm with hm | hm
      · exact nda hm
      · exact nhdd (List.mem_singleton.mp hm).symm
    · rcases List.mem_append.mp hx with hx | hx
      · have n1 : x.2 ≠ d := fun e => nda (e ▸ List.mem_map.mpr ⟨x, hx, rfl⟩)
        have n2 : ¬ x.1 = y := fun e => yn (List.mem_map.mpr ⟨x, hx, e⟩)
        rw [upd_ne n1]
        show H13 x.2 = some (.lst (sel n (vaF lg n R7 (if x.1 = y then f else W x.1))))
        rw [if_neg n2]
        exact s13 _ _ (hva x hx)
      · rw [List.mem_singleton.mp hx]
        show upd _ d _ hd = some (.lst (sel n (vaF lg n R7 (if y = y then f else W y))))
        rw [upd_ne nhdd, if_pos rfl]
        exact hhd
  · rintro σ H10 ⟨as, W, o8, o11, o12, o13, o14, rfl, kk, has, hd10, anod, nda, hva⟩
    refine ⟨_, rfl, _, rfl, (by show 2 ≤ sizeLine; decide), fun t nt => ?_⟩
    have st := same_new (o := .tup [.ref q3, .ref d]) nt
    subst eR7
    refine kQ t q3 d n B W _ (by omega) (by omega) (fun b o e => st _ _ (kk _ _ (s9 _ _ e) (ne_of_none e ndH))) nq3H ndH (SqT.of upd_same) ((hGk kk).same st) ?_
    exact ⟨as, has, st _ _ hd10, anod, nda, fun x hx => st _ _ (hva x hx)⟩

theorem ok_truth (T : Top K mg) (TBs : ∀ p ∈ T.cs, LamX.TabB base mg p.1 p.2) : FnOk P w K mg base CX0 7 T.f_truth T.d_truth ["model", "a"] (spTruth K T.tabs T.c_Model (some false)) := by
  have G_worlds_of := ok_worlds_of (P := P) (w := w) (base := base) T TBs
  refine T.F_truth.ok sc_truth (fun vs H Q E h => ?_) (fun cdv A outer s H vs Q E hr h => ?_)
  · obtain ⟨p, x, fv, n, ps, as, ad, f, fo, rfl, _⟩ := h
    rfl
  obtain ⟨p, x, fv, n, ps, as, ad, f, fo, rfl, hfo, h⟩ := h
  refine ⟨_, (pss_one (ps_ret (pe_call G_worlds_of (hr.mono (by omega)) (by rfl) T.m_worlds_of T.F_worlds_of.kp T.b_worlds_of .nil pass0 (pa_cons (pv 0) (pa_cons (pv 1) (pa_cons pe_bl pa_nil)))))), ?_⟩
  have e := hfo _ rfl
  subst e
  exact ⟨_, rfl, _, rfl, p, x, fv, n, ps, as, ad, f, false, rfl, fun _ h => (nomatch h), h⟩

/-! ### where a formula is true, by the law; drawn models -/
theorem passF {X : Cx} : Passes (L2.CX X.prog X.w) X (fun _ _ _ => False) := fun pins σ H s e s' I h => by
  obtain ⟨_, _, _, _, _, _, _, _, _, _, _, _, _, hE⟩ := h

def spWhere (K : PySem.W.Frag) (k : Nat) : Sp := fun vs H Q _ => ∃ (t : Addr) (x : V) (n : Nat) (fo : Bool) (R : Nat → Nat → Bool) (W : Str → Nat → Bool) (f : Fm), vs = [.ref t, x, .bl fo] ∧ LmAt K H t n R W ∧ n ≤ 100 ∧ Im K H x f.d ∧ f.over nms = true ∧ f.ht < k ∧
  ∀ (q : Addr) (H' : Hp), H q = none → Same H H' → H' q = some (.lst (sel n (f.at n R W fo))) → Q (.ref q) H'
theorem ok_law_where (T : Top K mg) (m : Nat) (hm : 1 ≤ m) : FnOk P w K mg base CX0 (m + 1) T.f_law_where T.d_law_where ["model", "a", "forced"] (spWhere K m) := by
  have G_law_true := ok_law_true (P := P) (w := w) (base := base) T m
  refine T.F_law_where.ok sc_law_where (fun vs H Q E h => ?_) (fun cdv A outer s H vs Q E hr h => ?_)
  · obtain ⟨t, x, n, fo, R, W, f, rfl, _⟩ := h
    rfl
  obtain ⟨t, x, n, fo, R, W, f, rfl, hM, hn, hx, ho, hh, kQ⟩ := h
  obtain ⟨sg, sd, hT, hG, hV⟩ := id hM
  obtain ⟨rs, g1, g2, g3, g4, g5⟩ := id hG
  have el : ((rs.map V.ref).length : Int) = (n : Int) := by rw [List.length_map, g2]
  refine ⟨_, (pss_one (ps_ret (pe_lc (own := [("w", 3)]) (g := gName 3) rfl sc_law_where.nd (pi_range1 (by rfl) T.z_range (pa_cons (pe_callB call_len_seq (by rfl) T.z_len PySem.boot_len (pa_cons (pe_ix ix_tup (pv 0) pe_int (fun _ _ => rfl)) pa_nil)) pa_nil)) (blkOk_by (N := ["model", "a", "forced", "w"]) (sc := defScope s_law_where) (by decide +kernel)) (fun _ _ _ _ _ => pg_name (i := 3) sc_law_where.nd rfl (Or.inl rfl)) (fun _ _ _ _ _ => pts_one (pt_val (pe_call G_law_true (hr.mono (by omega)) (by rfl) T.m_law_true T.F_law_true.kp T.b_law_true .nil pass0 (pa_cons (pv 0) (pa_cons (pv 1) (pa_cons (pv 3) (pa_cons (pv 2) pa_nil))))))) (fun _ _ _ _ _ => (pv 3))))), ?_⟩
  refine sel_lcF (n := n) (f.at n R W fo) (by omega) (fun R r => ⟨_, rfl, t, _, 0, _, rfl, rfl, hT, atI_nat (j := 0) rfl, sg, _, rfl, .inl (SqL.of g1), ?_⟩) (fun _ => rfl) (fun _ => rfl) (fun i H2 Q2 hi s2 q2 => ?_) (fun D H' nD s' hD => kQ D H' nD s' hD)
  · rw [el]
    exact r
  · exact ⟨_, rfl, _, rfl, _, rfl, _, rfl, t, x, i, n, fo, R, W, f, rfl, hM.same s2, hn, hi, hx.mono (Same.ts s2), ho, hh, fun H3 s3 => ⟨_, rfl, q2 _ s3⟩⟩
def spDrawnX (K : PySem.W.Frag) : Sp := fun vs H Q _ => ∃ (p l : Addr) (m : Int) (lg : Str), vs = [.ref p, .str lg, .int m] ∧ Pl K H p l ∧ 0 < m ∧ m ≤ 8 ∧
  ∀ (t s d : Addr) (n : Nat) (B : Nat → Nat → Bool) (M : Str → Nat → Bool) (H' : Hp), 1 ≤ n → (n : Int) ≤ m → Kp p H H' → Pl K H' p l → H s = none → H d = none → SqT K H' t [.ref s, .ref d] → GridAt H' s n (clF lg n (baF lg n B)) → ValAt H' d n nms (fun y => vaF lg n (clF lg n (baF lg n B)) (M y)) → Q (.ref t) H'
theorem ok_law_drawn_model (T : Top K mg) : FnOk P w K mg base CX0 4 T.f_law_drawn_model T.d_law_drawn_model ["pool", "logic", "most"] (spDrawnX K) := by
  have G_law_list : FnOk P w K mg base CX0 3 T.f_law_list T.d_law_list ["pool", "many"] (spList K) := ok_law_list T
  have G_law_model : FnOk P w K mg base CX0 2 T.f_law_model T.d_law_model ["numbers", "logic", "most"] (spLModel K) := ok_law_model T
  refine T.F_law_drawn_model.ok sc_law_drawn_model (fun vs H Q E h => ?_) (fun cdv A outer s H vs Q E hr h => ?_)
  · obtain ⟨p, l, m, y, rfl, _⟩ := h
    rfl
  obtain ⟨p, l, m, y, rfl, hP, m0, m1, k⟩ := h
  refine ⟨_, (pss_one (ps_ret (pe_call G_law_model (hr.mono (by omega)) (by rfl) T.m_law_model T.F_law_model.kp T.b_law_model .nil pass0 (pa_cons (pe_call G_law_list (hr.mono (by omega)) (by rfl) T.m_law_list T.F_law_list.kp T.b_law_list .nil pass0 (pa_cons (pv 0) (pa_cons pe_int pa_nil))) (pa_cons (pv 1) (pa_cons (pv 2) pa_nil)))))), ?_⟩
  refine ⟨_, rfl, p, l, 6, rfl, hP, by decide, by decide, fun q ns H2 nq k2 hP2 hq2 hl => ?_⟩
  refine ⟨_, rfl, _, rfl, q, y, m, ns, rfl, hq2, by omega, m0, m1, fun t s d n B M H' n1 n2 s' ns' nd' hT hG hV => ?_⟩
  obtain ⟨xs, hp⟩ := hP.lst
  obtain ⟨xs2, hp2⟩ := hP2.lst
  have fr : ∀ {c : Addr}, H2 c = none → H c = none := fun {c} e => k2.free hp ⟨_, hp2⟩ e
  exact k t s d n B M H' n1 n2 (k2.trans (Same.kp s')) (hP2.same s') (fr ns') (fr nd') hT hG hV
def lgs : List Str := ["K", "D", "T", "K4", "D4", "S4", "S5", "GL", "Grz", "Int", "KC", "LC", "BD2", "HT", "Cl"]
def spNames (K : PySem.W.Frag) : Sp := fun vs H Q _ => vs = [] ∧ ∀ (q : Addr) (H' : Hp), H q = none → Same H H' → H' q = some (.lst (lgs.map V.str)) → Q (.ref q) H'
theorem ok_law_names (T : Top K mg) : FnOk P w K mg base CX0 1 T.f_law_names T.d_law_names [] (spNames K) := by
  refine T.F_law_names.ok sc_law_names (fun vs H Q E h => ?_) (fun cdv A outer s H vs Q E hr h => ?_)
  · obtain ⟨rfl, _⟩ := h
    rfl
  obtain ⟨rfl, k⟩ := h
  refine ⟨_, (pss_one (ps_ret (pe_lst (pa_cons pe_str (pa_cons pe_str (pa_cons pe_str (pa_cons pe_str (pa_cons pe_str (pa_cons pe_str (pa_cons pe_str (pa_cons pe_str (pa_cons pe_str (pa_cons pe_str (pa_cons pe_str (pa_cons pe_str (pa_cons pe_str (pa_cons pe_str (pa_cons pe_str pa_nil)))))))))))))))))), ?_⟩
  exact ⟨(by show 15 ≤ sizeLine; decide), fun q nq => k q _ nq (same_new nq) upd_same⟩
/-! ### what stays -/
/-- an object of a model: a dict, an instance, a list of bools, of intsN or of objects -/
def Mdl : HO → Prop
  | .lst xs => (∀ x ∈ xs, ∃ b, x = .bl b) ∨ (∀ x ∈ xs, ∃ i, x = .int i) ∨ (∀ x ∈ xs, ∃ a, x = .ref a)
  | .dK _ => True
  | .ins _ _ _ => True
  | _ => False
def Keeps (H H' : Hp) : Prop := TS H H' ∧ ∀ a o, H a = some o → Mdl o → H' a = some o
theorem Keeps.trans {H H1 H2 : Hp} (a : Keeps H H1) (b : Keeps H1 H2) : Keeps H H2 := ⟨a.1.trans b.1, fun c o e m => b.2 _ _ (a.2 _ _ e m) m⟩
theorem Same.keeps {H H' : Hp} (s : Same H H') : Keeps H H' := ⟨Same.ts s, fun _ _ e _ => s _ _ e⟩
theorem extn_keeps {H H' : Hp} (e : LamX.ExtN H H') : Keeps H H' := ⟨extn_ts e, fun a o h m => e _ _ h fun ps z => by rw [z] at m; exact m⟩
theorem Pl.keeps {K : PySem.W.Frag} {H H' : Hp} {p l : Addr} (h : Pl K H p l) (k : Kp p H H') : Keeps H H' := by
  refine ⟨h.ts k, fun a o e m => k _ _ e fun z => ?_⟩
  obtain ⟨i, r, c, s, h5, _⟩ := h.at5
  rw [z, h5] at e
  cases e
  rcases m with m | m | m
  · obtain ⟨b, e⟩ := m (.ref l) (by simp)
    cases e
  · obtain ⟨b, e⟩ := m (.ref l) (by simp)
    cases e
  · obtain ⟨b, e⟩ := m (.int i) (by simp)
    cases e
theorem mdl_ints (ns : List Int) : Mdl (.lst (ns.map V.int)) := .inr (.inl fun x hx => by
  obtain ⟨i, _, rfl⟩ := List.mem_map.mp hx
  exact ⟨i, rfl⟩)
theorem mdl_nats (ns : List Nat) : Mdl (.lst (ns.map fun w : Nat => V.int w)) := .inr (.inl fun x hx => by
  obtain ⟨i, _, rfl⟩ := List.mem_map.mp hx
  exact ⟨_, rfl⟩)
theorem mdl_refs (rs : List Addr) : Mdl (.lst (rs.map V.ref)) := .inr (.inr fun x hx => by
  obtain ⟨i, _, rfl⟩ := List.mem_map.mp hx
  exact ⟨i, rfl⟩)
theorem mdl_bg (R : Nat → Nat → Bool) (n i : Nat) : Mdl (.lst (bg R n i)) := .inl fun x hx => by
  unfold bg at hx
  obtain ⟨j, _, rfl⟩ := List.mem_map.mp hx
  exact ⟨_, rfl⟩
theorem mdl_sel (n : Nat) (f : Nat → Bool) : Mdl (.lst (sel n f)) := by
  rw [sel_ints]
  exact mdl_ints _
theorem GridAt.keeps {H H' : Hp} {s : Addr} {n : Nat} {R : Nat → Nat → Bool} (g : GridAt H s n R) (k : Keeps H H') : GridAt H' s n R := by
  obtain ⟨rs, g1, g2, g3, g4, g5⟩ := g
  exact ⟨rs, k.2 _ _ g1 (mdl_refs _), g2, g3, g4, fun i r e => k.2 _ _ (g5 i r e) (mdl_bg _ _ _)⟩
theorem ValAt.keeps {H H' : Hp} {d : Addr} {n : Nat} {names : List Str} {W : Str → Nat → Bool} (v : ValAt H d n names W) (k : Keeps H H') : ValAt H' d n names W := by
  obtain ⟨as, h1, h2, h3, h4, h5⟩ := v
  exact ⟨as, h1, k.2 _ _ h2 trivial, h3, h4, fun x hx => k.2 _ _ (h5 x hx) (mdl_sel _ _)⟩
theorem LmAt.keeps {K : PySem.W.Frag} {H H' : Hp} {t : Addr} {n : Nat} {R : Nat → Nat → Bool} {W : Str → Nat → Bool} (m : LmAt K H t n R W) (k : Keeps H H') : LmAt K H' t n R W := by
  obtain ⟨a, d, h1, h2, h3⟩ := m
  exact ⟨a, d, k.1.sqT h1, h2.keeps k, h3.keeps k⟩
theorem ModAt.keeps {K : PySem.W.Frag} {C : Addr} {H H' : Hp} {p : Addr} {x : V} {n : Nat} {ps : List (Nat × Nat)} {as : List (Str × Addr × List Int)} {ad : List Addr} (m : ModAt K C H p x n ps as ad) (k : Keeps H H') : ModAt K C H' p x n ps as ad := by
  obtain ⟨dx, rp, tp, rs, bs, h0, h1, h2, ⟨r1, r2, r3, r4, r5⟩, h4, ⟨v1, v2, v3, v4, v5⟩, h6⟩ := m
  exact ⟨dx, rp, tp, rs, bs, h0, k.2 _ _ h1 trivial, h2.mono k.1, ⟨k.2 _ _ r1 trivial, r2, r3, r4, fun y hy => k.2 _ _ (r5 y hy) (mdl_nats _)⟩, h4, ⟨k.2 _ _ v1 trivial, v2, v3, v4, fun y hy => k.2 _ _ (v5 y hy) (mdl_ints _)⟩, h6⟩
/-- the numbers below n that f takes -/
def intsN (n : Nat) (f : Nat → Bool) : List Int := ((List.range n).filter f).map fun w : Nat => (w : Int)
theorem sel_intsE (n : Nat) (f : Nat → Bool) : sel n f = (intsN n f).map V.int := sel_ints n f
theorem ints_mem {n : Nat} {f : Nat → Bool} {z : Int} : z ∈ intsN n f ↔ ∃ w : Nat, w < n ∧ f w = true ∧ z = (w : Int) := by
  unfold intsN
  rw [List.mem_map]
  constructor
  · rintro ⟨w, hw, rfl⟩
    obtain ⟨h1, h2⟩ := List.mem_filter.mp hw
    exact ⟨w, List.mem_range.mp h1, h2, rfl⟩
  · rintro ⟨w, h1, h2, rfl⟩
    exact ⟨w, List.mem_filter.mpr ⟨List.mem_range.mpr h1, h2⟩, rfl⟩
theorem ints_len (n : Nat) (f : Nat → Bool) : (intsN n f).length ≤ n := by
  have := sel_len n f
  rw [sel_intsE, List.length_map] at this
  exact this
theorem wOf_ints {n : Nat} {W : Str → Nat → Bool} {as : List (Str × Addr × List Int)} (e : as.map (fun y => (y.1, y.2.2)) = nms.map fun nm => (nm, intsN n (W nm))) {nm : Str} (h : nm ∈ nms) {v : Nat} (hv : v < n) : wOf as nm v = W nm v := by
  have e1 : as.map (·.1) = nms := by
    have := congrArg (List.map Prod.fst) e
    rw [List.map_map, List.map_map] at this
    have h2 : (nms.map (Prod.fst ∘ fun nm => (nm, intsN n (W nm)))) = nms := by
      rw [show (Prod.fst ∘ fun nm => (nm, intsN n (W nm))) = id from rfl, List.map_id]
    exact this.trans h2
  have nd : (as.map (·.1)).Nodup := by rw [e1]; decide +kernel
  have hm : nm ∈ as.map (·.1) := by rw [e1]; exact h
  obtain ⟨x, hx, rfl⟩ := List.mem_map.mp hm
  rw [wOf_in nd hx]
  have hx2 : (x.1, x.2.2) ∈ nms.map fun nm => (nm, intsN n (W nm)) := e ▸ List.mem_map.mpr ⟨x, hx, rfl⟩
  obtain ⟨nm, _, e2⟩ := List.mem_map.mp hx2
  obtain ⟨e3, e4⟩ := Prod.mk.inj e2
  rw [← e4, e3]
  cases hW : W x.1 v with
  | true => exact decide_eq_true (ints_mem.mpr ⟨v, hv, hW, rfl⟩)
  | false =>
    refine decide_eq_false fun h => ?_
    obtain ⟨w, _, h2, e⟩ := ints_mem.mp h
    have : v = w := Int.ofNat.inj e
    rw [← this, hW] at h2
    cases h2
theorem at_congr {n : Nat} {R R' : Nat → Nat → Bool} {W W' : Str → Nat → Bool} {fo : Bool} (hR : ∀ v w, v < n → w < n → R v w = R' v w) (hW : ∀ nm ∈ nms, ∀ v, v < n → W nm v = W' nm v) : ∀ (f : Fm), f.over nms = true → ∀ v, v < n → f.at n R W fo v = f.at n R' W' fo v
  | .var m, h, v, hv => hW m (of_decide_eq_true h) v hv
  | .fal, _, _, _ => rfl
  | .and a b, h, v, hv => by
    have h : (a.over nms && b.over nms) = true := h
    rw [Bool.and_eq_true] at h
    rw [Fm.at, Fm.at, at_congr hR hW a h.1 v hv, at_congr hR hW b h.2 v hv]
  | .or a b, h, v, hv => by
    have h : (a.over nms && b.over nms) = true := h
    rw [Bool.and_eq_true] at h
    rw [Fm.at, Fm.at, at_congr hR hW a h.1 v hv, at_congr hR hW b h.2 v hv]
  | .imp a b, h, v, hv => by
    have h : (a.over nms && b.over nms) = true := h
    rw [Bool.and_eq_true] at h
    have e : ((List.range n).all fun u => !R v u || (b.at n R W fo u || !a.at n R W fo u)) = (List.range n).all fun u => !R' v u || (b.at n R' W' fo u || !a.at n R' W' fo u) := by
      refine Bool.eq_iff_iff.mpr ?_
      rw [List.all_eq_true, List.all_eq_true]
      refine forall_congr' fun u => ?_
      refine forall_congr' fun hu => ?_
      have hu := List.mem_range.mp hu
      rw [hR v u hv hu, at_congr hR hW a h.1 u hu, at_congr hR hW b h.2 u hu]
    rw [Fm.at, Fm.at, e, at_congr hR hW a h.1 v hv, at_congr hR hW b h.2 v hv]
  | .box a, h, v, hv => by
    have h : a.over nms = true := h
    rw [Fm.at, Fm.at]
    refine Bool.eq_iff_iff.mpr ?_
    rw [List.all_eq_true, List.all_eq_true]
    refine forall_congr' fun u => ?_
    refine forall_congr' fun hu => ?_
    have hu := List.mem_range.mp hu
    rw [hR v u hv hu, at_congr hR hW a h u hu]
theorem sel_congr {n : Nat} {f g : Nat → Bool} (h : ∀ v, v < n → f v = g v) : sel n f = sel n g := by
  unfold sel
  rw [List.filter_congr fun v hv => h v (List.mem_range.mp hv)]
def spProg (K : PySem.W.Frag) : Sp := fun vs H Q _ => ∃ (t : Addr) (n : Nat) (R : Nat → Nat → Bool) (W : Str → Nat → Bool), vs = [.ref t] ∧ LmAt K H t n R W ∧ n ≤ 20 ∧
  ∀ (tt vd : Addr) (x : V) (cs : List (Str × Addr × List Int)) (H' : Hp), H vd = none → Same H H' → SqT K H' tt [x, .ref vd] → Im K H' x (frD n (frP n R)) → VdAt H' vd cs → cs.map (fun y => (y.1, y.2.2)) = nms.map (fun nm => (nm, intsN n (W nm))) → Q (.ref tt) H'
theorem ok_law_program_model (T : Top K mg) : FnOk P w K mg base CX0 3 T.f_law_program_model T.d_law_program_model ["model"] (spProg K) := by
  have G_law_framed : FnOk P w K mg base CX0 2 T.f_law_framed T.d_law_framed ["seen"] (spFramed K) := ok_law_framed T
  refine T.F_law_program_model.ok sc_law_program_model (fun vs H Q E h => ?_) (fun cdv A outer s H vs Q E hr h => ?_)
  · obtain ⟨t, n, R, W, rfl, _⟩ := h
    rfl
  obtain ⟨t, n, R, W, rfl, hM, hn, kQ⟩ := h
  have hu64 := hr.units
  have hu := Nat.lt_of_le_of_lt (Nat.add_le_add_left (by decide : 1 ≤ 64) _) hu64
  obtain ⟨sg, d, hT, hG, as, a1, a2, a3, a4, a5⟩ := hM
  refine ⟨_, (pss_cons (ps_set (i := 1) sc_law_program_model.nd rfl (.inl rfl) pe_dnewK)
    (pss_cons (ps_lock (ps_for PassesOwn.never rfl (pi_keys (pe_ix ix_tup (pv 0) pe_int (fun _ _ => rfl))) (pg_name (i := 2) sc_law_program_model.nd rfl (.inl rfl))
      (pss_one (ps_dput hu (pv 1) (pv 2) (pe_callTy call_list_of (by rfl) T.z_list (by decide +kernel) (pa_cons (pe_dget hu (pe_ix ix_tup (pv 0) pe_int (fun _ _ => rfl)) (pv 2) (fun _ _ => rfl)) pa_nil)) rfl))))
    (pss_one (ps_ret (pe_tup (pa_cons (pe_call G_law_framed (hr.mono (by omega)) (by rfl) T.m_law_framed T.F_law_framed.kp T.b_law_framed .nil pass0 (pa_cons (pe_ix ix_tup (pv 0) pe_int (fun _ _ => rfl)) pa_nil)) (pa_cons (pv 1) pa_nil))))))), ?_⟩
  intro vd nvd
  have s1 := same_new (o := .dK []) nvd
  have hT1 := (Same.ts s1).sqT hT
  have hd1 := s1 _ _ a2
  have ndv : d ≠ vd := ne_of_none a2 nvd
  have hvd1 := @upd_same H vd (.dK [])
  generalize upd H vd (.dK []) = H1 at s1 hT1 hd1 hvd1
  have hG1 := hG.same s1
  have ha51 : ∀ x ∈ as, H1 x.2 = some (.lst (sel n (W x.1))) := fun x hx => s1 _ _ (a5 x hx)
  have nd : (as.map (·.1)).Nodup := by rw [a1]; decide +kernel
  refine ⟨d, _, hd1, trivial, fun od => ?_⟩
  have kF : ∀ c o, H1 c = some o → c ≠ d → upd H1 d (.frz od (.dK (as.map fun x => (.inr x.1, .ref x.2)))) c = some o := fun c o e n => by
    rw [upd_ne n]
    exact e
  have hD : upd H1 d (.frz od (.dK (as.map fun x => (.inr x.1, .ref x.2)))) d = some (.frz od (.dK (as.map fun x => (.inr x.1, .ref x.2)))) := upd_same
  have freeF : ∀ q, upd H1 d (.frz od (.dK (as.map fun x => (.inr x.1, .ref x.2)))) q = none → H1 q = none := fun q e => by
    by_cases z : q = d
    · rw [z, upd_same] at e; cases e
    · rwa [upd_ne z] at e
  have tF : TS H1 (upd H1 d (.frz od (.dK (as.map fun x => (.inr x.1, .ref x.2))))) := TS.but hd1 (fun _ e => nomatch e) (fun _ _ e => nomatch e) kF
  generalize upd H1 d (.frz od (.dK (as.map fun x => (.inr x.1, .ref x.2)))) = HF at kF hD freeF tF
  have hTF := tF.sqT hT1
  refine ⟨_, rfl, t, _, 1, _, rfl, rfl, hTF, atI_nat (j := 1) rfl, d, od, rfl, .inl ⟨_, hD, ?_⟩⟩
  have hvdF := kF _ _ hvd1 ndv.symm
  have nvdF : ∀ b o, H b = some o → b ≠ vd := fun b o e => ne_of_none e nvd
  refine for_it walk_keys (fun i σ H2 => ∃ (o2 : Option V) (cs : List (Str × Addr × List Int)), σ = [some (.ref t), some (.ref vd), o2] ∧ (∀ b o, HF b = some o → b ≠ vd → H2 b = some o) ∧ VdAt H2 vd cs ∧ cs.map (fun y => (y.1, y.2.2)) = (as.take i).map fun x => (x.1, intsN n (W x.1)))
    ⟨none, [], rfl, fun _ _ h _ => h, VdAt.nil hvdF, rfl⟩ (fun i σ H2 _ h => by
      obtain ⟨_, _, _, h, _⟩ := h
      exact h _ _ hD ndv) ?_ ?_
  · rintro i y σ H2 H3 hi ⟨o2, cs, rfl, k2, hV2, hcs⟩ ⟨e3, kk, vv, hkv, rfl⟩
    replace e3 := e3.symm
    subst e3
    rw [List.getElem?_map] at hkv
    cases hz : as[i]? with
    | none => rw [hz] at hkv; cases hkv
    | some x =>
    rw [hz] at hkv
    have e1 : kk = .inr x.1 := (congrArg Prod.fst (Option.some.inj hkv)).symm
    subst e1
    have hxm : x ∈ as := List.mem_of_getElem? hz
    have hxd : x.2 ≠ d := fun e => a4 (e ▸ List.mem_map.mpr ⟨x, hxm, rfl⟩)
    have hxv : x.2 ≠ vd := nvdF _ _ (a5 x hxm)
    have hx2 := k2 _ _ (kF _ _ (ha51 x hxm) hxd) hxv
    have hD2 := k2 _ _ hD ndv
    have hT2 : SqT K H2 t [.ref sg, .ref d] := by
      rcases hTF with r | r
      · rcases r with r | ⟨o, r⟩
        · exact .inl (.inl (k2 _ _ r fun z => by rw [z, hvdF] at r; cases r))
        · exact .inl (.inr ⟨o, k2 _ _ r fun z => by rw [z, hvdF] at r; cases r⟩)
      · exact .inr r
    refine ⟨_, rfl, t, _, 1, _, rfl, rfl, hT2, atI_nat (j := 1) rfl, _, rfl, d, .ref x.2, rfl, .inl ⟨_, .inr x.1, .inr ⟨od, hD2⟩, rfl, (valA_at nd hxm).symm⟩, x.2, _, rfl, .inl (SqL.of hx2), fun l nl => ?_⟩
    have s3 := same_new (o := .lst (sel n (W x.1))) nl
    have hl3 : upd H2 l (.lst (sel n (W x.1))) l = some (.lst ((intsN n (W x.1)).map V.int)) := by rw [upd_same, sel_intsE]
    generalize upd H2 l (.lst (sel n (W x.1))) = H3 at s3 hl3
    have hV3 : VdAt H3 vd cs := hV2.keep fun _ _ o e => s3 _ _ e
    have hn1 : cs.map (·.1) = (as.take i).map (·.1) := by
      have := congrArg (List.map Prod.fst) hcs
      rw [List.map_map, List.map_map] at this
      exact this
    have hnot : x.1 ∉ cs.map (·.1) := by
      rw [hn1, List.map_take]
      intro hm
      obtain ⟨j, hj⟩ := List.getElem?_of_mem hm
      rw [List.getElem?_take] at hj
      split at hj
      · have hz2 : (as.map (·.1))[i]? = some x.1 := by rw [List.getElem?_map, hz]; rfl
        have i3 := (List.getElem?_eq_some_iff.mp hz2).1
        have := (List.getElem?_inj (by omega) nd).mp (hj.trans hz2.symm)
        omega
      · cases hj
    have hlc : l ∉ cs.map (·.2.1) := fun hm => by
      obtain ⟨y, hy, e⟩ := List.mem_map.mp hm
      have := hV2.2.2.2.2 y hy
      rw [e, nl] at this
      cases this
    have hcl : cs.length ≤ 3 := by
      have := congrArg List.length hcs
      rw [List.length_map, List.length_map, List.length_take] at this
      have h3 := congrArg List.length a1
      rw [List.length_map] at h3
      have : nms.length = 3 := rfl
      omega
    refine ⟨_, rfl, _, rfl, vd, _, rfl, .inl ⟨_, .inr x.1, hV3.1, rfl, (by rw [List.length_map, sizeLine_eq]; omega), rfl⟩, _, cs ++ [(x.1, l, intsN n (W x.1))], rfl, fun b o e h => ?_, hV3.put hnot hl3 hlc, ?_⟩
    · rw [upd_ne h]
      exact s3 _ _ (k2 _ _ e h)
    · rw [take_snoc hz, List.map_append, List.map_append, hcs]
      rfl
  · rintro σ H2 ⟨o2, cs, rfl, k2, hV2, hcs⟩
    rw [List.length_map, List.take_length] at hcs
    have hD2 := k2 _ _ hD ndv
    refine ⟨hD2, ?_⟩
    have sB : Same H (upd H2 d (.dK (as.map fun x => (.inr x.1, .ref x.2)))) := fun b o e => by
      by_cases z : b = d
      · rw [z, upd_same]
        rw [z, a2] at e
        exact e
      · rw [upd_ne z]
        exact k2 _ _ (kF _ _ (s1 _ _ e) z) (nvdF _ _ e)
    have hVB : VdAt (upd H2 d (.dK (as.map fun x => (.inr x.1, .ref x.2)))) vd cs := hV2.keep fun q _ o e => by
      rw [upd_ne fun z => ?_]
      · exact e
      · rcases ‹q = vd ∨ q ∈ cs.map (·.2.1)› with r | r
        · exact ndv (z.symm.trans r)
        · obtain ⟨y, hy, e2⟩ := List.mem_map.mp r
          have := hV2.2.2.2.2 y hy
          rw [e2, z, hD2] at this
          cases this
    generalize upd H2 d (.dK (as.map fun x => (.inr x.1, .ref x.2))) = HB at sB hVB
    refine ⟨_, rfl, t, _, 0, _, rfl, rfl, (Same.ts sB).sqT hT, atI_nat (j := 0) rfl, sg, n, R, rfl, hG.same sB, by omega, fun x H3 s3 hx => ⟨_, rfl, (by show 2 ≤ sizeLine; decide), fun tt ntt => ?_⟩⟩
    have s4 := same_new (o := .tup [x, .ref vd]) ntt
    refine kQ tt vd x cs _ nvd ((sB.trans s3).trans s4) (SqT.of upd_same) (hx.mono (Same.ts s4)) ((hVB.keep fun _ _ o e => s3 _ _ e).keep fun _ _ o e => s4 _ _ e) ?_
    rw [hcs]
    have : nms = as.map (·.1) := a1.symm
    rw [this, List.map_map]
    rfl
/-! ### the intermediate logics' drawn models -/
theorem war_tr {R : Nat → Nat → Bool} : ∀ (m v x w : Nat), x < m → warN R m v x = true → warN R m x w = true → warN R m v w = true
  | 0, _, _, _, h, _, _ => absurd h (Nat.not_lt_zero _)
  | m + 1, v, x, w, h, h1, h2 => by
    have ih := war_tr (R := R) m
    change warS (warN R m) m v x = true at h1
    change warS (warN R m) m x w = true at h2
    show warS (warN R m) m v w = true
    unfold warS at h1 h2 ⊢
    simp only [Bool.or_eq_true, Bool.and_eq_true] at h1 h2 ⊢
    by_cases e : x = m
    · subst e
      rcases h1 with h1 | ⟨h1, _⟩ <;> rcases h2 with h2 | ⟨_, h2⟩ <;> exact .inr ⟨h1, h2⟩
    · have hx : x < m := by omega
      rcases h1 with h1 | ⟨h1, h3⟩
      · rcases h2 with h2 | ⟨h2, h4⟩
        · exact .inl (ih v x w hx h1 h2)
        · exact .inr ⟨ih v x m hx h1 h2, h4⟩
      · rcases h2 with h2 | ⟨h2, h4⟩
        · exact .inr ⟨h1, ih m x w hx h3 h2⟩
        · exact .inr ⟨h1, h4⟩
theorem war_mono {R : Nat → Nat → Bool} {v w : Nat} (h : R v w = true) : ∀ m, warN R m v w = true
  | 0 => h
  | m + 1 => by
    show warS (warN R m) m v w = true
    unfold warS
    rw [war_mono h m]
    rfl
def ints6 : List Str := ["Int", "KC", "LC", "BD2", "HT", "Cl"]
/-- reflexive, transitive -/
structure PreO (n : Nat) (R : Nat → Nat → Bool) : Prop where
  rf : ∀ v, R v v = true
  tr : ∀ v x w, x < n → R v x = true → R x w = true → R v w = true
theorem cl_preo {lg : Str} (h : lg ∈ ints6) (n : Nat) (B : Nat → Nat → Bool) : PreO n (clF lg n B) := by
  have h1 : inL lg ["K", "D", "K4", "D4", "GL"] = false := by
    revert lg
    decide +kernel
  have h2 : lg ≠ "S5" := by
    revert lg
    decide +kernel
  have h3 : inL lg ["D", "D4"] = false := by
    revert lg
    decide +kernel
  have h4 : inL lg ["K", "D", "T"] = false := by
    revert lg
    decide +kernel
  have e : clF lg n B = warN (fun v w => if v = w then true else B v w) n := by
    unfold clF clD clC clB clA
    rw [h1, h3, h4, if_neg Bool.false_ne_true, if_neg Bool.false_ne_true, if_neg Bool.false_ne_true, if_neg h2]
  rw [e]
  exact ⟨fun v => war_mono (if_pos rfl) n, fun v x w hx a b => war_tr n v x w hx a b⟩
/-- closed upwards -/
def UpW (n : Nat) (R : Nat → Nat → Bool) (W : Nat → Bool) : Prop := ∀ v w, v < n → w < n → W v = true → R v w = true → W w = true
theorem va_up {lg : Str} (h : lg ∈ ints6) {n : Nat} {R : Nat → Nat → Bool} (p : PreO n R) (M : Nat → Bool) : UpW n R (vaF lg n R M) := by
  have h1 : inL lg ["Int", "KC", "LC", "BD2", "HT", "Cl"] = true := by
    revert lg
    decide +kernel
  have e : vaF lg n R M = fun w => (List.range n).any (fun v => M v && R v w) := if_pos h1
  rw [e]
  intro v w hv _ h1 h2
  obtain ⟨x, hx, h3⟩ := List.any_eq_true.mp h1
  rw [Bool.and_eq_true] at h3
  exact List.any_eq_true.mpr ⟨x, hx, by rw [Bool.and_eq_true]; exact ⟨h3.1, p.tr x v w hv h3.2 h2⟩⟩
theorem at_up {n : Nat} {R : Nat → Nat → Bool} {W : Str → Nat → Bool} (p : PreO n R) (hW : ∀ nm, UpW n R (W nm)) : ∀ f : Fm, f.plain = true → UpW n R (f.at n R W true)
  | .var m, _ => hW m
  | .fal, _ => fun _ _ _ _ h _ => by cases h
  | .and a b, hp => fun v w hv hw h1 h2 => by
    have hp : (a.plain && b.plain) = true := hp
    rw [Bool.and_eq_true] at hp
    have h1 : (a.at n R W true v && b.at n R W true v) = true := h1
    rw [Bool.and_eq_true] at h1
    show (a.at n R W true w && b.at n R W true w) = true
    rw [at_up p hW a hp.1 v w hv hw h1.1 h2, at_up p hW b hp.2 v w hv hw h1.2 h2]
    rfl
  | .or a b, hp => fun v w hv hw h1 h2 => by
    have hp : (a.plain && b.plain) = true := hp
    rw [Bool.and_eq_true] at hp
    have h1 : (a.at n R W true v || b.at n R W true v) = true := h1
    rw [Bool.or_eq_true] at h1
    show (a.at n R W true w || b.at n R W true w) = true
    rw [Bool.or_eq_true]
    exact h1.elim (fun h => .inl (at_up p hW a hp.1 v w hv hw h h2)) (fun h => .inr (at_up p hW b hp.2 v w hv hw h h2))
  | .imp a b, _ => fun v w hv hw h1 h2 => by
    have e : ∀ x, (Fm.imp a b).at n R W true x = (List.range n).all fun u => !R x u || (b.at n R W true u || !a.at n R W true u) := fun x => if_pos rfl
    rw [e] at h1 ⊢
    rw [List.all_eq_true] at h1 ⊢
    intro u hu
    cases hr : R w u with
    | false => rfl
    | true =>
      have := h1 u hu
      rw [p.tr v w u hw h2 hr] at this
      exact this
  | .box _, hp => by cases hp
theorem all_one {n v : Nat} {f g : Nat → Bool} (hv : v < n) (hf : ∀ u, u < n → (f u = true ↔ u = v)) : (List.range n).all (fun u => !f u || g u) = g v := by
  rw [Bool.eq_iff_iff, List.all_eq_true]
  refine ⟨fun h => ?_, fun h u hu => ?_⟩
  · have := h v (List.mem_range.mpr hv)
    rw [(hf v hv).mpr rfl] at this
    exact this
  · cases e : f u with
    | false => rfl
    | true =>
      rw [(hf u (List.mem_range.mp hu)).mp e, h]
      rfl
theorem at_alone {n v : Nat} {R : Nat → Nat → Bool} {W : Str → Nat → Bool} (hv : v < n) (hR : ∀ u, u < n → (R v u = true ↔ u = v)) : ∀ f : Fm, f.at n R W true v = f.at n R W false v
  | .var m => rfl
  | .fal => rfl
  | .and a b => by
    show (a.at n R W true v && b.at n R W true v) = (a.at n R W false v && b.at n R W false v)
    rw [at_alone hv hR a, at_alone hv hR b]
  | .or a b => by
    show (a.at n R W true v || b.at n R W true v) = (a.at n R W false v || b.at n R W false v)
    rw [at_alone hv hR a, at_alone hv hR b]
  | .imp a b => by
    show ((List.range n).all fun u => !R v u || (b.at n R W true u || !a.at n R W true u)) = (b.at n R W false v || !a.at n R W false v)
    rw [all_one hv hR, at_alone hv hR a, at_alone hv hR b]
  | .box a => by
    show ((List.range n).all fun u => !R v u || a.at n R W true u) = ((List.range n).all fun u => !R v u || a.at n R W false u)
    rw [all_one hv hR, all_one hv hR, at_alone hv hR a]

/-! ### formulas made anew from the values of their parts -/
/-- the formula with other parts -/
def Fm.mp (φ : Fm → Fm) : Fm → Fm
  | .and a b => .and (φ a) (φ b)
  | .or a b => .or (φ a) (φ b)
  | .imp a b => .imp (φ a) (φ b)
  | .box a => .box (φ a)
  | f => f
theorem mp_d {φ : Fm → Fm} {b : Fm} (hv : b.isVar = false) : (b.mp φ).d = .tuple (.str b.sg :: b.kids.map fun c => (φ c).d) := by
  cases b <;> first | rfl | cases hv
theorem rs_im {K : PySem.W.Frag} {φ : Fm → Fm} {H : Hp} : ∀ {us : List V} {bs : List Fm}, Rs (fun H v c => Im K H v (φ c).d) H us bs → ImAll K H us (bs.map fun c => (φ c).d)
  | [], [], _ => .nil
  | [], _ :: _, h => nomatch h.1
  | _ :: _, [], h => nomatch h.1
  | u :: us, b :: bs, h => .cons (h.2 0 u b rfl rfl) (rs_im ⟨Nat.succ.inj h.1, fun i v c h1 h2 => h.2 (i + 1) v c h1 h2⟩)
theorem rs_two {R : Hp → V → Fm → Prop} {H : Hp} {us : List V} {a b : Fm} (h : Rs R H us [a, b]) : ∃ v u, us = [v, u] ∧ R H v a ∧ R H u b := by
  obtain ⟨h1, h2⟩ := h
  match us, h1 with
  | [v, u], _ => exact ⟨v, u, rfl, h2 0 v a rfl rfl, h2 1 u b rfl rfl⟩
/-- what is promised of the function that tells a formula's value from those of its parts -/
def spVal (K : PySem.W.Frag) (φ : Fm → Fm) : Sp := fun vs H Q _ => ∃ (y : V) (l : Addr) (b : Fm) (us : List V), vs = [y, .ref l] ∧ Im K H y b.d ∧ H l = some (.lst us) ∧ Rs (fun H v c => Im K H v (φ c).d) H us b.kids ∧ ∀ v H', Same H H' → Im K H' v (φ b).d → Q v H'
/-- .. of the def around it -/
def spMk (K : PySem.W.Frag) (TT : List NdefX.NTab) (φ : Fm → Fm) : Sp := fun vs H Q _ => ∃ (x : V) (f : Fm) (n : Nat), vs = [x] ∧ Im K H x f.d ∧ (∀ b ∈ f.subs, Ok1 b) ∧ f.ht ≤ n ∧ f.sz ≤ 100000 ∧ NdefX.TabsN TT H ∧
  ∀ v H', LamX.ExtN H H' → NdefX.TabsN TT H' → Im K H' v (φ f).d → Q v H'
/-- the formula made anew -/
theorem im_mpA {H' : Hp} {φ : Fm → Fm} {b : Fm} {us : List V} {ka : Addr} (hv : b.isVar = false) (hA : ImAll K H' us (b.kids.map fun c => (φ c).d)) (h : SqT K H' ka (.str b.sg :: us)) : Im K H' (.ref ka) (b.mp φ).d := by
  rw [mp_d hv]
  refine .tup h (.cons (.str _) hA) fun y e => ?_
  have e1 : b.sg = "var" := PyData.str.inj (List.cons.inj (PyData.tuple.inj (congrArg PyData.tuple e))).1
  have e2 := sg_var b
  rw [e1, hv] at e2
  exact absurd e2 (by decide +kernel)
theorem im_mp {H H' : Hp} {φ : Fm → Fm} {b : Fm} {us : List V} {ka : Addr} (hv : b.isVar = false) (hR : Rs (fun H v c => Im K H v (φ c).d) H us b.kids) (s : Same H H') (h : H' ka = some (.tup (.str b.sg :: us))) : Im K H' (.ref ka) (b.mp φ).d :=
  im_mpA hv ((rs_im hR).mono (Same.ts s)) (SqT.of h)

def Fm.isImp : Fm → Bool
  | .imp _ _ => true
  | _ => false
def Fm.isOr : Fm → Bool
  | .or _ _ => true
  | _ => false
theorem sg_imp (f : Fm) : decide (V.str f.sg = V.str "implies") = f.isImp := by
  show decide (V.str (sgT f.rk) = V.str (sgT 3)) = _
  rw [vsg]
  cases f <;> rfl
theorem sg_or (f : Fm) : decide (V.str f.sg = V.str "or") = f.isOr := by
  show decide (V.str (sgT f.rk) = V.str (sgT 4)) = _
  rw [vsg]
  cases f <;> rfl
theorem imp_of {b : Fm} (h : b.isImp = true) : ∃ x y, b = .imp x y := by
  cases b <;> first | exact ⟨_, _, rfl⟩ | cases h
theorem or_of {b : Fm} (h : b.isOr = true) : ∃ x y, b = .or x y := by
  cases b <;> first | exact ⟨_, _, rfl⟩ | cases h
def Fm.boxT : Fm → Fm
  | .var n => .box (.var n)
  | .fal => .fal
  | .and a b => .and a.boxT b.boxT
  | .or a b => .or a.boxT b.boxT
  | .imp a b => .box (.imp a.boxT b.boxT)
  | .box a => .box a.boxT
theorem boxT_mp {b : Fm} (hv : b.isVar = false) (h : b.isImp = false) : b.boxT = b.mp Fm.boxT := by cases b <;> first | (cases hv; done) | rfl | (cases h; done)
theorem boxT_ht : ∀ f : Fm, f.boxT.ht ≤ 2 * f.ht
  | .var _ => by simp [Fm.boxT, Fm.ht]
  | .fal => by simp [Fm.boxT, Fm.ht]
  | .and a b => by have := boxT_ht a; have := boxT_ht b; simp only [Fm.boxT, Fm.ht]; omega
  | .or a b => by have := boxT_ht a; have := boxT_ht b; simp only [Fm.boxT, Fm.ht]; omega
  | .imp a b => by have := boxT_ht a; have := boxT_ht b; simp only [Fm.boxT, Fm.ht]; omega
  | .box a => by have := boxT_ht a; simp only [Fm.boxT, Fm.ht]; omega
theorem nok_boxT {f c' : Addr} {q : Str} {cl : List (Str × Addr)} : NdefX.NOk P w K mg base CX0 1 f (NdefX.NF.of s_box_translation_value_of "value_of" q cl c') ["b", "parts"] [] (fun _ => spVal K Fm.boxT) := by
  refine NdefX.nok_of (N := ["b", "parts"]) nsc_box_translation_value_of (fun doc pm ctv us hl => match us, hl with | [_, _], _ => rfl) (fun ws vs H Q E h => ?_) (fun A outer s H vs ws Q E hr hf hc hw h => ?_)
  · obtain ⟨y, l, b, us, rfl, _⟩ := h
    rfl
  obtain ⟨y, l, b, us, rfl, hy, hl, hR, kQ⟩ := h
  obtain rfl := List.length_eq_zero_iff.mp hw
  refine ⟨_, (pss_cons (ps_if (pt_cmpR op_eq (pe_ix ix_tup (pv 0) pe_int (fun _ _ => rfl)) pe_str (nomark _))
      (pss_one (ps_ret (pe_tup (pa_cons pe_str (pa_cons (pv 0) pa_nil)))))
      pss_nil)
    (pss_cons (ps_if (pt_cmpR op_eq (pe_ix ix_tup (pv 0) pe_int (fun _ _ => rfl)) pe_str (nomark _))
      (pss_one (ps_ret (pe_tup (pa_cons pe_str (pa_cons (pe_tup (pa_cons pe_str (StX.pa_star (pv 1) pa_nil))) pa_nil)))))
      pss_nil)
    (pss_one (ps_ret (pe_tup (pa_cons (pe_ix ix_tup (pv 0) pe_int (fun _ _ => rfl)) (StX.pa_star (pv 1) pa_nil))))))), ?_⟩
  obtain ⟨ba, ys, rfl, h1, h2⟩ := im_inv hy
  have hle := kids_le2 b
  have hlen := hR.1
  refine ⟨_, rfl, ba, _, 0, _, rfl, rfl, h1, atI_nat (j := 0) rfl, rfl, _, rfl, ?_⟩
  rw [sg_var]
  cases hv : b.isVar with
  | true =>
    obtain ⟨_, vn, rfl⟩ := kids_var hv
    refine iteT ⟨_, rfl, (by show 2 ≤ sizeLine; decide), fun p np => ?_⟩
    have s1 := same_new (o := .tup [.str "box", .ref ba]) np
    exact kQ _ _ s1 (im_box upd_same (hy.mono (Same.ts s1)))
  | false =>
    refine iteF ⟨_, rfl, ba, _, 0, _, rfl, rfl, h1, atI_nat (j := 0) rfl, rfl, _, rfl, ?_⟩
    rw [sg_imp]
    cases hb : b.isImp with
    | true =>
      obtain ⟨a1, a2, rfl⟩ := imp_of hb
      obtain ⟨v, u, rfl, hva, hua⟩ := rs_two hR
      refine iteT ⟨_, rfl, l, _, rfl, .inr (SqL.of hl), (by show 3 ≤ sizeLine; decide), fun p np => ⟨(by show 2 ≤ sizeLine; decide), fun r nr => ?_⟩⟩
      have s1 := same_new (o := .tup [.str "implies", v, u]) np
      have s2 := s1.trans (same_new (o := .tup [.str "box", .ref p]) nr)
      exact kQ _ _ s2 (im_box upd_same (im_imp (same_new nr _ _ upd_same) (hva.mono (Same.ts s2)) (hua.mono (Same.ts s2))))
    | false =>
      refine iteF ⟨_, rfl, ba, _, 0, _, rfl, rfl, h1, atI_nat (j := 0) rfl, _, rfl, l, _, rfl, .inr (SqL.of hl), ?_⟩
      refine ⟨?_, fun p np => kQ _ _ (same_new np) ?_⟩
      · rw [List.append_nil]
        show us.length + 1 ≤ sizeLine
        exact Nat.le_of_lt (small1000 (by omega))
      · rw [boxT_mp hv hb]
        exact im_mp hv hR (same_new np) (by rw [upd_same, List.append_nil])
/-- what may be refused -/
def spChk (K : PySem.W.Frag) (C : Addr) : Sp := fun vs H Q E => ∃ (x : V) (f : Fm), vs = [x] ∧ Im K H x f.d ∧ (∀ g ∈ f.subs, Ok1 g) ∧ f.sz ≤ 100000 ∧ (f.plain = false → ∀ H', Same H H' → E (.ref C) none H') ∧ (f.plain = true → ∀ H', Same H H' → Q .non H')
theorem ok_check_plain (T : Top K mg) : FnOk P w K mg base (L2.CX P w) 7 T.f_check_plain T.d_check_plain ["a"] (spChk K T.c_NotPlain) := by
  have G_is_plain : FnOk P w K mg base CX0 6 T.f_is_plain T.d_is_plain ["a"] (spPlain K) := ok_is_plain T
  refine T.F_check_plain.okX sc_check_plain (fun vs H Q E h => ?_) (fun cdv A outer s H vs Q E hr h => ?_)
  · obtain ⟨x, f, rfl, _⟩ := h
    rfl
  obtain ⟨x, f, rfl, hx, hok, hsz, kE, kQ⟩ := h
  refine ⟨_, (pss_one (ps_if (pt_not (pt_val (pe_call G_is_plain (hr.mono (by omega)) (by rfl) T.m_is_plain T.F_is_plain.kp T.b_is_plain .nil pass0 (pa_cons (pv 0) pa_nil))))
      (pss_one (ps_raise rfl (takes_of rfl rfl rfl rfl) (pmk_own PySem.F.excBase_ValueError T.x_NotPlain T.g_NotPlain T.k_NotPlain (raises_own T.b_NotPlain T.t_NotPlain) rfl)))
      pss_nil)), ?_⟩
  refine ⟨_, rfl, x, f, rfl, hx, hok, hsz, fun H1 s1 => ⟨_, rfl, ?_⟩⟩
  cases hp : f.plain with
  | false => exact iteT (kE hp H1 s1)
  | true => exact iteF (kQ hp H1 s1)
def spMkE (K : PySem.W.Frag) (TT : List NdefX.NTab) (C : Addr) (φ : Fm → Fm) : Sp := fun vs H Q E => ∃ (x : V) (f : Fm), vs = [x] ∧ Im K H x f.d ∧ (∀ b ∈ f.subs, Ok1 b) ∧ f.sz ≤ 100000 ∧ NdefX.TabsN TT H ∧
  (f.plain = false → ∀ H', Same H H' → E (.ref C) none H') ∧ (f.plain = true → ∀ v H', LamX.ExtN H H' → NdefX.TabsN TT H' → Im K H' v (φ f).d → Q v H')
theorem ok_boxT (T : Top K mg) (TBs : ∀ p ∈ T.cs, LamX.TabB base mg p.1 p.2) : FnOk P w K mg base (L2.CX P w) 8 T.f_box_translation T.d_box_translation ["a"] (spMkE K T.tabs T.c_NotPlain Fm.boxT) := by
  have G_folded : FnOk P w K mg base CX0 5 T.f_folded T.d_folded ["a", "value_of"] (spFolded P w K mg base) := ok_folded T
  have G_check_plain : FnOk P w K mg base (L2.CX P w) 7 T.f_check_plain T.d_check_plain ["a"] (spChk K T.c_NotPlain) := ok_check_plain T
  have hm : (T.P_box_translation, fun (_ _ : Nat) => (("box_translation.<locals>.value_of" : String) : Str)) ∈ T.tabs := by simp [Top.tabs]
  have hun := tab_uniq (T := T.tabs) T.dT hm
  have TB := TBs (T.c_box_translation, T.P_box_translation) (by simp [Top.cs])
  refine T.C_box_translation.okX sc_box_translation (fun vs H Q E h => ?_) (fun A outer s H vs Q E hr h => ?_)
  · obtain ⟨x, f, rfl, _⟩ := h
    rfl
  obtain ⟨x, f, rfl, hx, hok, hsz, hT, kE, kQ⟩ := h
  refine ⟨_, (pss_cons (ps_expr (pe_call G_check_plain (hr.mono (by omega)) (by rfl) T.m_check_plain T.F_check_plain.kp T.b_check_plain .nil (passes_call (takes_of rfl rfl rfl rfl) fun _ _ _ _ h => h) (pa_cons (pv 0) pa_nil)))
    (pss_cons (NdefX.ps_ndefMS (i := 1) rfl TB rfl hm rfl hun (NdefX.ndef_free fsc_box_translation_value_of) rfl rfl rfl sc_box_translation.nd rfl (.inl rfl) (.inl rfl))
    (pss_one (ps_ret (pe_call G_folded (hr.mono (by omega)) (by rfl) T.m_folded T.F_folded.kp T.b_folded .nil pass0 (pa_cons (pv 0) (pa_cons (pv 1) pa_nil))))))), ?_⟩
  refine ⟨_, rfl, x, f, rfl, hx, hok, hsz, kE, fun hp H0 s0 => ?_⟩
  have hx0 := hx.mono (Same.ts s0)
  refine ⟨hT.ext s0, fun g c' H1 eN nn T1 hg0 hg hc => ⟨_, rfl, _, rfl, x, g, f, spVal K Fm.boxT, fun H v c => Im K H v c.boxT.d, f.ht, rfl, hx0.mono (extn_ts eN), hok, Nat.le_refl _, hsz, .pl (.made ((nok_boxT).mono (by decide)) rfl hg hc), fun H H' v b t h => h.mono t.1, fun b H1 y l us Q1 hb s hy hl hR k1 => ⟨y, l, b, us, rfl, hy, hl, hR, k1⟩, fun v H2 s2 hv => ?_⟩⟩
  exact kQ hp v H2 (((LamX.ExtN.of s0).trans eN).trans (LamX.ExtN.of s2)) (T1.ext s2) hv

/-! ### formulas: parts, sizes -/
theorem subs_eq (f : Fm) : f.subs = f :: f.kids.flatMap Fm.subs := by
  cases f <;> simp [Fm.subs, Fm.kids]
theorem over_mono {N M : List Str} (h : ∀ n ∈ N, n ∈ M) : ∀ {f : Fm}, f.over N = true → f.over M = true
  | .var n, q => decide_eq_true (h n (of_decide_eq_true q))
  | .fal, _ => rfl
  | .and a b, q => by
    have q' : (a.over N && b.over N) = true := q
    rw [Bool.and_eq_true] at q'
    show (a.over M && b.over M) = true
    rw [over_mono h q'.1, over_mono h q'.2]; rfl
  | .or a b, q => by
    have q' : (a.over N && b.over N) = true := q
    rw [Bool.and_eq_true] at q'
    show (a.over M && b.over M) = true
    rw [over_mono h q'.1, over_mono h q'.2]; rfl
  | .imp a b, q => by
    have q' : (a.over N && b.over N) = true := q
    rw [Bool.and_eq_true] at q'
    show (a.over M && b.over M) = true
    rw [over_mono h q'.1, over_mono h q'.2]; rfl
  | .box a, q => over_mono (f := a) h q
theorem kids_over {N : List Str} {f g : Fm} (h : f.over N = true) (hg : g ∈ f.kids) : g.over N = true := by
  cases f with
  | var n => cases hg
  | fal => cases hg
  | box a =>
    rw [List.mem_singleton.mp hg]
    exact h
  | _ a b =>
    have q' : (a.over N && b.over N) = true := h
    rw [Bool.and_eq_true] at q'
    rcases List.mem_cons.mp hg with rfl | hg
    · exact q'.1
    · rw [List.mem_singleton.mp hg]
      exact q'.2
theorem subs_ok {N : List Str} : ∀ (n : Nat) {f g : Fm}, f.ht ≤ n → f.over N = true → g ∈ f.subs → g.over N = true ∧ g.ht ≤ f.ht
  | 0, f, _, h, _, _ => absurd f.ht_pos (by omega)
  | n + 1, f, g, h, ho, hg => by
    rw [subs_eq] at hg
    rcases List.mem_cons.mp hg with rfl | hg
    · exact ⟨ho, Nat.le_refl _⟩
    · obtain ⟨k, hk, hg⟩ := List.mem_flatMap.mp hg
      have hh := kids_ht hk
      obtain ⟨a, b⟩ := subs_ok n (by omega) (kids_over ho hk) hg
      exact ⟨a, by omega⟩
theorem sz_ht : ∀ f : Fm, f.sz + 1 ≤ 2 ^ f.ht
  | .var n => by show 1 + 1 ≤ 2 ^ 1; decide
  | .fal => by decide
  | .and a b => by
    have h1 := sz_ht a
    have h2 := sz_ht b
    have h3 : 2 ^ a.ht ≤ 2 ^ max a.ht b.ht := Nat.pow_le_pow_right (by decide) (Nat.le_max_left _ _)
    have h4 : 2 ^ b.ht ≤ 2 ^ max a.ht b.ht := Nat.pow_le_pow_right (by decide) (Nat.le_max_right _ _)
    show a.sz + b.sz + 1 + 1 ≤ 2 ^ (max a.ht b.ht + 1)
    rw [Nat.pow_succ]
    omega
  | .or a b => by
    have h1 := sz_ht a
    have h2 := sz_ht b
    have h3 : 2 ^ a.ht ≤ 2 ^ max a.ht b.ht := Nat.pow_le_pow_right (by decide) (Nat.le_max_left _ _)
    have h4 : 2 ^ b.ht ≤ 2 ^ max a.ht b.ht := Nat.pow_le_pow_right (by decide) (Nat.le_max_right _ _)
    show a.sz + b.sz + 1 + 1 ≤ 2 ^ (max a.ht b.ht + 1)
    rw [Nat.pow_succ]
    omega
  | .imp a b => by
    have h1 := sz_ht a
    have h2 := sz_ht b
    have h3 : 2 ^ a.ht ≤ 2 ^ max a.ht b.ht := Nat.pow_le_pow_right (by decide) (Nat.le_max_left _ _)
    have h4 : 2 ^ b.ht ≤ 2 ^ max a.ht b.ht := Nat.pow_le_pow_right (by decide) (Nat.le_max_right _ _)
    show a.sz + b.sz + 1 + 1 ≤ 2 ^ (max a.ht b.ht + 1)
    rw [Nat.pow_succ]
    omega
  | .box a => by
    have h1 := sz_ht a
    show a.sz + 1 + 1 ≤ 2 ^ (a.ht + 1)
    rw [Nat.pow_succ]
    omega

theorem boxT_over {N : List Str} : ∀ f : Fm, f.over N = true → f.boxT.over N = true
  | .var _, h => h
  | .fal, h => h
  | .and a b, h => by
    have h : (a.over N && b.over N) = true := h
    rw [Bool.and_eq_true] at h
    show (a.boxT.over N && b.boxT.over N) = true
    rw [boxT_over a h.1, boxT_over b h.2]
    rfl
  | .or a b, h => by
    have h : (a.over N && b.over N) = true := h
    rw [Bool.and_eq_true] at h
    show (a.boxT.over N && b.boxT.over N) = true
    rw [boxT_over a h.1, boxT_over b h.2]
    rfl
  | .imp a b, h => by
    have h : (a.over N && b.over N) = true := h
    rw [Bool.and_eq_true] at h
    show (a.boxT.over N && b.boxT.over N) = true
    rw [boxT_over a h.1, boxT_over b h.2]
    rfl
  | .box a, h => boxT_over a h
theorem all_congr {n : Nat} {f g : Nat → Bool} (h : ∀ u, u < n → f u = g u) : (List.range n).all f = (List.range n).all g := by
  rw [Bool.eq_iff_iff, List.all_eq_true, List.all_eq_true]
  exact ⟨fun k u hu => by rw [← h u (List.mem_range.mp hu)]; exact k u hu, fun k u hu => by rw [h u (List.mem_range.mp hu)]; exact k u hu⟩
theorem at_boxT {n : Nat} {R : Nat → Nat → Bool} {W : Str → Nat → Bool} (p : PreO n R) (hW : ∀ nm, UpW n R (W nm)) : ∀ (f : Fm) (v : Nat), v < n → f.boxT.at n R W false v = f.at n R W true v
  | .var m, v, hv => by
    show ((List.range n).all fun u => !R v u || W m u) = W m v
    rw [Bool.eq_iff_iff, List.all_eq_true]
    refine ⟨fun h => ?_, fun h u hu => ?_⟩
    · have := h v (List.mem_range.mpr hv)
      rw [p.rf] at this
      exact this
    · cases e : R v u with
      | false => rfl
      | true => exact hW m v u hv (List.mem_range.mp hu) h e
  | .fal, _, _ => rfl
  | .and a b, v, hv => by
    show (a.boxT.at n R W false v && b.boxT.at n R W false v) = (a.at n R W true v && b.at n R W true v)
    rw [at_boxT p hW a v hv, at_boxT p hW b v hv]
  | .or a b, v, hv => by
    show (a.boxT.at n R W false v || b.boxT.at n R W false v) = (a.at n R W true v || b.at n R W true v)
    rw [at_boxT p hW a v hv, at_boxT p hW b v hv]
  | .imp a b, v, hv => by
    show ((List.range n).all fun u => !R v u || (b.boxT.at n R W false u || !a.boxT.at n R W false u)) = ((List.range n).all fun u => !R v u || (b.at n R W true u || !a.at n R W true u))
    exact all_congr fun u hu => by rw [at_boxT p hW a u hu, at_boxT p hW b u hu]
  | .box a, v, hv => by
    show ((List.range n).all fun u => !R v u || a.boxT.at n R W false u) = ((List.range n).all fun u => !R v u || a.at n R W true u)
    exact all_congr fun u hu => by rw [at_boxT p hW a u hu]
def spLaw (K : PySem.W.Frag) (TT : List NdefX.NTab) : Sp := fun vs H Q _ => ∃ (a : Addr) (ns : List Int), vs = [.ref a] ∧ SqL K H a (ns.map V.int) ∧ ns.length ≤ 63 ∧ NdefX.TabsN TT H ∧ ∀ H', Q (.bl true) H'
theorem frD_frZ (n : Nat) (ps : List (Nat × Nat)) : frZ (n : Int) (ps.map toZ) = frD n ps := by
  unfold frZ frD
  rw [pd_toZ]
theorem ok_law (T : Top K mg) (TBs : ∀ p ∈ T.cs, LamX.TabB base mg p.1 p.2) : FnOk P w K mg base CX0 21 T.f_law T.d_law ["script"] (spLaw K T.tabs) := by
  have G_law_pool : FnOk P w K mg base CX0 1 T.f_law_pool T.d_law_pool ["script"] (spPool K) := ok_law_pool T
  have G_law_draw : FnOk P w K mg base CX0 2 T.f_law_draw T.d_law_draw ["pool", "many"] (spDraw K) := ok_law_draw T
  have G_law_some : FnOk P w K mg base CX0 9 T.f_law_some T.d_law_some ["pool", "depth", "plain"] (spSome K 8) := ok_law_some T 8 (by decide)
  have G_law_names : FnOk P w K mg base CX0 1 T.f_law_names T.d_law_names [] (spNames K) := ok_law_names T
  have G_law_drawn_model : FnOk P w K mg base CX0 4 T.f_law_drawn_model T.d_law_drawn_model ["pool", "logic", "most"] (spDrawnX K) := ok_law_drawn_model T
  have G_law_program_model : FnOk P w K mg base CX0 3 T.f_law_program_model T.d_law_program_model ["model"] (spProg K) := ok_law_program_model T
  have G_Model_init : FnOk P w K mg base (L2.CX P w) 4 T.f_Model_init T.d_Model_init ["self", "frame", "values"] (spInit K T.c_Model T.c_InvalidModel) := ok_Model_init T
  have G_law_same : FnOk P w K mg base CX0 20 T.f_law_same T.d_law_same ["actual", "due"] (spSame K 20) := ok_law_same T 20
  have G_box_translation := ok_boxT (P := P) (w := w) (base := base) T TBs
  have G_forcing := ok_forcing (P := P) (w := w) (base := base) T TBs
  have G_truth := ok_truth (P := P) (w := w) (base := base) T TBs
  have G_law_where : FnOk P w K mg base CX0 8 T.f_law_where T.d_law_where ["model", "a", "forced"] (spWhere K 7) := ok_law_where T 7 (by decide)
  refine T.F_law.ok sc_law (fun vs H Q E h => ?_) (fun cdv A outer s H vs Q E hr h => ?_)
  · obtain ⟨a, ns, rfl, _⟩ := h
    rfl
  obtain ⟨a, ns, rfl, hS, hn, hT, kQ⟩ := h
  have hu64 := hr.units
  refine ⟨_, (pss_cons (ps_set (i := 1) sc_law.nd rfl (.inl rfl) (pe_call G_law_pool (hr.mono (by omega)) (by rfl) T.m_law_pool T.F_law_pool.kp T.b_law_pool .nil pass0 (pa_cons (pv 0) pa_nil)))
    (pss_cons (ps_set (i := 2) sc_law.nd rfl (.inl rfl) (pe_ix ix_list (pe_call0 G_law_names (hr.mono (by omega)) (by rfl) T.m_law_names T.F_law_names.kp T.b_law_names .nil pass0) (pe_op op_add pe_int (pe_call G_law_draw (hr.mono (by omega)) (by rfl) T.m_law_draw T.F_law_draw.kp T.b_law_draw .nil pass0 (pa_cons (pv 1) (pa_cons pe_int pa_nil)))) (fun _ _ => rfl)))
    (pss_cons (ps_set (i := 3) sc_law.nd rfl (.inl rfl) (pe_call G_law_drawn_model (hr.mono (by omega)) (by rfl) T.m_law_drawn_model T.F_law_drawn_model.kp T.b_law_drawn_model .nil pass0 (pa_cons (pv 1) (pa_cons (pv 2) (pa_cons pe_int pa_nil)))))
    (pss_cons (ps_set (i := 4) sc_law.nd rfl (.inl rfl) (pe_call G_law_program_model (hr.mono (by omega)) (by rfl) T.m_law_program_model T.F_law_program_model.kp T.b_law_program_model .nil pass0 (pa_cons (pv 3) pa_nil)))
    (pss_cons (ps_set (i := 4) sc_law.nd rfl (.inl rfl) (pe_make T.mk_Model G_Model_init (hr.mono (by omega)) (by rfl) T.g_Model T.b_Model_init .nil passF (pa_cons (pe_ix ix_tup (pv 4) pe_int (fun _ _ => rfl)) (pa_cons (pe_ix ix_tup (pv 4) pe_int (fun _ _ => rfl)) pa_nil))))
    (pss_cons (ps_for PassesOwn.never rfl (pi_range1 (by rfl) T.z_range (pa_cons pe_int pa_nil)) (pg_name (i := 5) sc_law.nd rfl (.inl rfl))
      (pss_cons (ps_set (i := 6) sc_law.nd rfl (.inl rfl) (pe_call G_law_some (hr.mono (by omega)) (by rfl) T.m_law_some T.F_law_some.kp T.b_law_some .nil pass0 (pa_cons (pv 1) (pa_cons (pe_op op_add pe_int (pe_call G_law_draw (hr.mono (by omega)) (by rfl) T.m_law_draw T.F_law_draw.kp T.b_law_draw .nil pass0 (pa_cons (pv 1) (pa_cons pe_int pa_nil)))) (pa_cons pe_bl pa_nil)))))
    (pss_cons (ps_set (i := 7) sc_law.nd rfl (.inl rfl) (pe_call G_law_where (hr.mono (by omega)) (by rfl) T.m_law_where T.F_law_where.kp T.b_law_where .nil pass0 (pa_cons (pv 3) (pa_cons (pv 6) (pa_cons pe_bl pa_nil)))))
    (pss_one (ps_if (PW.pt (pw_or (pt_not (pt_val (pe_call G_law_same (hr.mono (by omega)) (by rfl) T.m_law_same T.F_law_same.kp T.b_law_same .nil pass0 (pa_cons (pe_call G_truth (hr.mono (by omega)) (by rfl) T.m_truth T.F_truth.kp T.b_truth .nil pass0 (pa_cons (pv 4) (pa_cons (pe_call G_box_translation (hr.mono (by omega)) (by rfl) T.m_box_translation T.F_box_translation.kp T.b_box_translation .nil passF (pa_cons (pv 6) pa_nil)) pa_nil))) (pa_cons (pv 7) pa_nil))))) (pw_or1 (pt_not (pt_val (pe_call G_law_same (hr.mono (by omega)) (by rfl) T.m_law_same T.F_law_same.kp T.b_law_same .nil pass0 (pa_cons (pe_call G_forcing (hr.mono (by omega)) (by rfl) T.m_forcing T.F_forcing.kp T.b_forcing .nil passF (pa_cons (pv 4) (pa_cons (pv 6) pa_nil))) (pa_cons (pv 7) pa_nil))))))))
      (pss_one (ps_ret pe_bl))
      pss_nil)))))
    (pss_one (ps_ret pe_bl)))))))), ?_⟩
  refine ⟨_, rfl, a, ns, rfl, hS, fun p l H1 np s1 hP1 => ?_⟩
  have T1 := hT.ext s1
  obtain ⟨xs1, hp1⟩ := hP1.lst
  refine ⟨rfl, fun q Ha nq sa hqa => ?_⟩
  have hPa := hP1.same sa
  have Ta := T1.ext sa
  obtain ⟨xsa, hpa⟩ := hPa.lst
  have nqp : q ≠ p := (ne_of_none hp1 nq).symm
  refine ⟨_, rfl, p, l, 6, rfl, hPa, by decide, by decide, fun v Hb v0 v1 kb hPb => ?_⟩
  have hqb := kb _ _ hqa nqp
  have Tb := tabs_kpl Ta kb hpa
  obtain ⟨xsb, hpb⟩ := hPb.lst
  obtain ⟨j, rfl⟩ : ∃ j : Nat, v = (j : Int) := ⟨v.toNat, by omega⟩
  obtain ⟨lg, hlg, hl6⟩ : ∃ lg, lgs[9 + j]? = some lg ∧ lg ∈ ints6 := by
    have : j < 6 := by omega
    match j, this with
    | 0, _ => exact ⟨_, rfl, by decide +kernel⟩
    | 1, _ => exact ⟨_, rfl, by decide +kernel⟩
    | 2, _ => exact ⟨_, rfl, by decide +kernel⟩
    | 3, _ => exact ⟨_, rfl, by decide +kernel⟩
    | 4, _ => exact ⟨_, rfl, by decide +kernel⟩
    | 5, _ => exact ⟨_, rfl, by decide +kernel⟩
  have e9 : (9 : Int) + (j : Int) = ((9 + j : Nat) : Int) := by omega
  refine ⟨_, _, rfl, rfl, q, _, 9 + (j : Int), .str lg, rfl, rfl, SqL.of hqb, (by rw [e9]; exact atI_nat (by rw [List.getElem?_map, hlg]; rfl)), ?_⟩
  refine ⟨_, rfl, _, rfl, p, l, 5, lg, rfl, hPb, by decide, by decide, fun t s d n B Ms H2 n1 n5 k2 hP2 ns0 nd0 hTu hG hV => ?_⟩
  have T2 := tabs_kpl Tb k2 hpb
  have PO : PreO n (clF lg n (baF lg n B)) := cl_preo hl6 n _
  generalize clF lg n (baF lg n B) = R at hG hV PO
  have hUp : ∀ nm, UpW n R ((fun y => vaF lg n R (Ms y)) nm) := fun nm => va_up hl6 PO (Ms nm)
  generalize (fun y => vaF lg n R (Ms y)) = W at hV hUp
  have hL2 : LmAt K H2 t n R W := ⟨s, d, hTu, hG, hV⟩
  refine ⟨_, rfl, t, n, R, W, rfl, hL2, by omega, fun tt vd x cs H3 nvd s3 hTt hx hVd hcs => ?_⟩
  have hP3 := hP2.same s3
  have T3 := T2.ext s3
  have hL3 := hL2.same s3
  have hnm : cs.map (·.1) = nms := by
    have := congrArg (List.map Prod.fst) hcs
    rw [List.map_map, List.map_map] at this
    refine this.trans ?_
    rw [show (Prod.fst ∘ fun nm => (nm, intsN n (W nm))) = id from rfl, List.map_id]
  have hcl : cs.length = 3 := by
    have := congrArg List.length hnm
    rw [List.length_map] at this
    exact this
  have hcs2 : ∀ y ∈ cs, y.2.2.length ≤ n ∧ ∀ z ∈ y.2.2, 0 ≤ z ∧ z < (n : Int) := fun y hy => by
    have : (y.1, y.2.2) ∈ nms.map fun nm => (nm, intsN n (W nm)) := hcs ▸ List.mem_map.mpr ⟨y, hy, rfl⟩
    obtain ⟨nm, _, e⟩ := List.mem_map.mp this
    have e2 : intsN n (W nm) = y.2.2 := congrArg Prod.snd e
    rw [← e2]
    refine ⟨ints_len _ _, fun z hz => ?_⟩
    obtain ⟨u, hu, _, rfl⟩ := ints_mem.mp hz
    omega
  have hpl := frP_len n R
  have hnn : n * n ≤ 25 := Nat.mul_le_mul (show n ≤ 5 by omega) (show n ≤ 5 by omega)
  have hFr := frok_P (n := n) (R := R) n1
  have hOk : OkV (n : Int) cs := fun y hy z hz => (hcs2 y hy).2 z hz
  refine ⟨_, rfl, tt, _, 0, _, rfl, rfl, hTt, atI_nat (j := 0) rfl, _, rfl, tt, _, 1, _, rfl, rfl, hTt, atI_nat (j := 1) rfl, fun M dx nM ndx ndM => ?_⟩
  have nMd : upd H3 dx (.own M) M = none := by
    rw [upd_ne ndM.symm]
    exact nM
  have s34 := (same_new (o := .own M) ndx).trans (same_new (o := .ins T.c_Model dx []) nMd)
  refine ⟨M, dx, x, vd, (n : Int), (frP n R).map toZ, cs, rfl, upd_same, ?_, by rw [List.length_map]; omega, hVd.keep fun _ _ o e => s34 _ _ e, by omega, fun y hy => ⟨by have := (hcs2 y hy).1; omega, fun z hz => by have := (hcs2 y hy).2 z hz; omega⟩, fun q => absurd ⟨hFr, hOk⟩ q, fun _ => ⟨n, frP n R, frD_frZ _ _, fun ad H5 hM5 nad k5 => ⟨rfl, ?_⟩⟩⟩
  · rw [frD_frZ]
    exact hx.mono (Same.ts s34)
  have s35 : Same H3 H5 := fun b o e => k5 _ _ (s34 _ _ e) (ne_of_none e nM)
  have hP5 := hP3.same s35
  have T5 := T3.ext s35
  have hL5 := hL3.same s35
  have hps : ∀ z ∈ frP n R, z.1 < n ∧ z.2 < n := fun z hz => by
    obtain ⟨h1, h2, _⟩ := frP_mem.mp (show (z.1, z.2) ∈ frP n R from hz)
    exact ⟨h1, h2⟩
  have hndc : (cs.map (·.1)).Nodup := by rw [hnm]; decide +kernel
  refine ⟨3, rfl, by decide, by decide, for_range (n := 3) (fun i σ H' => ∃ o5 o6 o7 : Option V, σ = [some (.ref a), some (.ref p), some (.str lg), some (.ref t), some (.ref M), o5, o6, o7] ∧ Pl K H' p l ∧ LmAt K H' t n R W ∧ ModAt K T.c_Model H' M x n (frP n R) cs (M :: ad) ∧ NdefX.TabsN T.tabs H') ⟨none, none, none, rfl, hP5, hL5, hM5, T5⟩ ?_ ?_⟩
  · rintro i σ H6 hi ⟨o5, o6, o7, rfl, hP6, hL6, hM6, T6⟩
    refine ⟨_, rfl, _, rfl, p, l, 4, rfl, hP6, by decide, by decide, fun dep H7 d0 d1 k7 hP7 => ⟨_, _, rfl, rfl, p, l, 1 + dep, true, rfl, hP7, by omega, by omega, fun va fa H8 k8 hP8 ia ha oa pa => ?_⟩⟩
    obtain ⟨xs6, hp6⟩ := hP6.lst
    obtain ⟨xs7, hp7⟩ := hP7.lst
    have T8 := tabs_kpl (tabs_kpl T6 k7 hp6) k8 hp7
    have K68 := (hP6.keeps k7).trans (hP7.keeps k8)
    have hL8 := hL6.keeps K68
    have hM8 := hM6.keeps K68
    have ha6 : fa.ht ≤ 5 := by omega
    have pa := pa rfl
    have hok : ∀ g ∈ fa.subs, Ok1 g := fun g hg => by
      obtain ⟨a1, a2⟩ := subs_ok 5 ha6 oa hg
      exact ⟨Fm.lay nms_ok g a1, by omega⟩
    have hsz : fa.sz ≤ 100000 := by
      have h1 := sz_ht fa
      have h2 : 2 ^ fa.ht ≤ 2 ^ 5 := Nat.pow_le_pow_right (by decide) ha6
      omega
    have hb10 : fa.boxT.ht ≤ 10 := by
      have := boxT_ht fa
      omega
    have ob := boxT_over fa oa
    have hokb : ∀ g ∈ fa.boxT.subs, Ok1 g := fun g hg => by
      obtain ⟨a1, a2⟩ := subs_ok 10 hb10 ob hg
      exact ⟨Fm.lay nms_ok g a1, by omega⟩
    have hszb : fa.boxT.sz ≤ 100000 := by
      have h1 := sz_ht fa.boxT
      have h2 : 2 ^ fa.boxT.ht ≤ 2 ^ 10 := Nat.pow_le_pow_right (by decide) hb10
      omega
    have eR : ∀ v w, v < n → w < n → decide ((v, w) ∈ frP n R) = R v w := fun v w hv hw => by
      cases h : R v w with
      | true => exact decide_eq_true (frP_mem.mpr ⟨hv, hw, h⟩)
      | false =>
        refine decide_eq_false fun q => ?_
        have := (frP_mem.mp q).2.2
        rw [h] at this
        cases this
    have eS : sel n (fa.at n (fun v w => decide ((v, w) ∈ frP n R)) (wOf cs) true) = sel n (fa.at n R W true) := sel_congr fun v hv => at_congr eR (fun nm hnm v hv => wOf_ints hcs hnm hv) fa oa v hv
    have eB : sel n (fa.boxT.at n (fun v w => decide ((v, w) ∈ frP n R)) (wOf cs) false) = sel n (fa.at n R W true) := sel_congr fun v hv => by
      rw [at_congr eR (fun nm hnm v hv => wOf_ints hcs hnm hv) fa.boxT ob v hv]
      exact at_boxT PO hUp fa v hv
    have hil := ints_len n (fa.at n R W true)
    obtain ⟨sm1, sm2⟩ := ints_sm (intsN n (fa.at n R W true)) (by omega)
    refine ⟨_, rfl, _, rfl, t, va, n, true, R, W, fa, rfl, hL8, by omega, ia, oa, by omega, fun q0 H9 nq0 s9 hq0 => ?_⟩
    have T9 := T8.ext s9
    have hM9 := hM8.keeps (Same.keeps s9)
    have hL9 := hL8.same s9
    have hP9 := hP8.same s9
    have ia9 := ia.mono (Same.ts s9)
    refine ⟨_, rfl, _, rfl, va, fa, rfl, ia9, hok, hsz, T9, fun q => absurd pa (by rw [q]; decide), fun _ vb H10 e10 T10 ib => ?_⟩
    have K10 := extn_keeps e10
    refine ⟨M, x, vb, n, frP n R, cs, M :: ad, fa.boxT, false, rfl, fun b h => (Option.some.inj h).symm, hM9.keeps K10, by omega, by omega, hps, by omega, hndc, hOk, ib, hokb, hszb, T10, fun q1 H11 nq1 e11 T11 hq1 => ?_⟩
    have K11 := K10.trans (extn_keeps e11)
    have hq011 := K11.2 _ _ hq0 (mdl_sel _ _)
    rw [eB, sel_intsE] at hq1
    have hq011' := hq011
    rw [sel_intsE] at hq011'
    refine ⟨_, rfl, .ref q1, .ref q0, _, rfl, .lst (SqL.of hq1) (dp_ints _), .lst (SqL.of hq011') (dp_ints _), sm1, sm2, _, rfl, iteF ?_⟩
    refine ⟨_, rfl, _, rfl, M, x, va, n, frP n R, cs, M :: ad, fa, rfl, hM9.keeps K11, by omega, by omega, hps, by omega, hndc, hOk, ia9.mono K11.1, hok, hsz, T11, fun q => absurd pa (by rw [q]; decide), fun _ q2 H12 nq2 e12 T12 hq2 => ?_⟩
    have K12 := K11.trans (extn_keeps e12)
    rw [eS, sel_intsE] at hq2
    have hq012 := K12.2 _ _ hq0 (mdl_sel _ _)
    rw [sel_intsE] at hq012
    refine ⟨_, rfl, .ref q2, .ref q0, _, rfl, .lst (SqL.of hq2) (dp_ints _), .lst (SqL.of hq012) (dp_ints _), sm1, sm2, _, rfl, iteF ?_⟩
    exact ⟨_, _, _, rfl, extn_pl e12 (extn_pl e11 (extn_pl e10 hP9)), hL9.keeps K12, hM9.keeps K12, T12⟩
  · rintro σ H6 ⟨o5, o6, o7, rfl, hP6, hL6, hM6, T6⟩
    exact kQ _

end
theorem all_mk {l : PySem.W.OpenLaw} {w : World} {K : PySem.W.Frag} {h : Heap} {mg : Str → Option Value} {fa : Addr} (X : K.In h) (G : h.Ns mainGlobals mg) (hfa : mg "law" = some (.ref fa))
    {f0 f1 f2 f3 f4 f5 f6 f7 f8 f9 f10 f11 f12 f13 f14 f15 f16 f17 f18 f19 f20 f21 f22 f23 f24 f25 f26 f27 f28 f29 f30 f31 f32 f33 f34 f35 f36 f37 f38 f39 f40 f41 : Addr} {od0 an0 od1 an1 od2 an2 od3 an3 od4 an4 od5 an5 od6 an6 od7 an7 od8 an8 od9 an9 od10 an10 od11 an11 od12 an12 od13 an13 od14 an14 od15 an15 od16 an16 od17 an17 od18 an18 od19 an19 od20 an20 od21 an21 od22 an22 od23 an23 od24 an24 od25 an25 od26 an26 od27 an27 od28 an28 od29 an29 od30 an30 od31 an31 od32 an32 od33 an33 od34 an34 od35 an35 od36 an36 od37 an37 od38 an38 od39 an39 od40 an40 od41 an41 : Option Addr}
    {sl0 sl1 sl2 sl3 sl4 sl5 sl6 sl7 sl8 sl9 sl10 sl11 sl12 sl13 sl14 sl15 sl16 sl17 sl18 sl19 sl20 sl21 sl22 sl23 sl24 sl25 sl26 sl27 sl28 sl29 sl30 sl31 sl32 sl33 sl34 sl35 sl36 sl37 sl38 sl39 sl40 sl41 : Array (Option Value)} {oc0 kV0 dc0 pm0 cd0 ct0 oc1 kV1 dc1 pm1 cd1 ct1 oc2 kV2 dc2 pm2 cd2 ct2 oc3 kV3 dc3 pm3 cd3 ct3 oc4 kV4 dc4 pm4 cd4 ct4 oc5 kV5 dc5 pm5 cd5 ct5 oc6 kV6 dc6 pm6 cd6 ct6 oc7 kV7 dc7 pm7 cd7 ct7 oc8 kV8 dc8 pm8 cd8 ct8 oc9 kV9 dc9 pm9 cd9 ct9 oc10 kV10 dc10 pm10 cd10 ct10 oc11 kV11 dc11 pm11 cd11 ct11 oc12 kV12 dc12 pm12 cd12 ct12 oc13 kV13 dc13 pm13 cd13 ct13 oc14 kV14 dc14 pm14 cd14 ct14 oc15 kV15 dc15 pm15 cd15 ct15 oc16 kV16 dc16 pm16 cd16 ct16 oc17 kV17 dc17 pm17 cd17 ct17 oc18 kV18 dc18 pm18 cd18 ct18 oc19 kV19 dc19 pm19 cd19 ct19 oc20 kV20 dc20 pm20 ct20 oc21 kV21 dc21 pm21 cd21 ct21 oc22 kV22 dc22 pm22 cd22 ct22 oc23 kV23 dc23 pm23 cd23 ct23 oc24 kV24 dc24 pm24 ct24 oc25 kV25 dc25 pm25 cd25 ct25 oc26 kV26 dc26 pm26 cd26 ct26 oc27 kV27 dc27 pm27 cd27 ct27 oc28 kV28 dc28 pm28 cd28 ct28 oc29 kV29 dc29 pm29 cd29 ct29 oc30 kV30 dc30 pm30 cd30 ct30 oc31 kV31 dc31 pm31 cd31 ct31 oc32 kV32 dc32 pm32 cd32 ct32 oc33 kV33 dc33 pm33 cd33 ct33 oc34 kV34 dc34 pm34 cd34 ct34 oc35 kV35 dc35 pm35 cd35 ct35 oc36 kV36 dc36 pm36 cd36 ct36 oc37 kV37 dc37 pm37 cd37 ct37 oc38 kV38 dc38 pm38 cd38 ct38 oc39 kV39 dc39 pm39 cd39 ct39 oc40 kV40 dc40 pm40 cd40 ct40 oc41 kV41 dc41 pm41 cd41 ct41 : Value}
    {kc20 kc24 : Addr}
    {C_InvalidModel C_NotPlain C_Model : Addr}
    (g_InvalidModel : PySem.W.nsIn K mainGlobals "InvalidModel" = some (some (.ref C_InvalidModel)))
    (x_InvalidModel : PySem.W.excIn K C_InvalidModel [.type "ValueError", .type "Exception", .type "BaseException", .type "object"] "ValueError.__new__" = true) (k_InvalidModel : PySem.W.keepIn K (.ref C_InvalidModel) = true) (b_InvalidModel : PySem.W.subIn K (.ref C_InvalidModel) (.type "BaseException") = some true) (t_InvalidModel : PySem.W.typeIn K (.ref C_InvalidModel) = some (.type "type")) (i_InvalidModel : PySem.W.isClsIn K C_InvalidModel = true) (s_InvalidModel : PySem.W.subIn K (.ref C_InvalidModel) (.ref C_InvalidModel) = some true)
    (g_NotPlain : PySem.W.nsIn K mainGlobals "NotPlain" = some (some (.ref C_NotPlain)))
    (x_NotPlain : PySem.W.excIn K C_NotPlain [.type "ValueError", .type "Exception", .type "BaseException", .type "object"] "ValueError.__new__" = true) (k_NotPlain : PySem.W.keepIn K (.ref C_NotPlain) = true) (b_NotPlain : PySem.W.subIn K (.ref C_NotPlain) (.type "BaseException") = some true) (t_NotPlain : PySem.W.typeIn K (.ref C_NotPlain) = some (.type "type")) (i_NotPlain : PySem.W.isClsIn K C_NotPlain = true) (s_NotPlain : PySem.W.subIn K (.ref C_NotPlain) (.ref C_NotPlain) = some true)
    (g_Model : PySem.W.nsIn K mainGlobals "Model" = some (some (.ref C_Model)))
    (pg_Model : PySem.W.plainGet K C_Model Str.empty = true) (hd_Model : PySem.W.hasDictIn K C_Model = true) (po_Model : PySem.W.plainOver K C_Model = true) (sa_Model : PySem.W.findIn K (.ref C_Model) "__setattr__" = some (some (.builtin "object.__setattr__"))) (mk_Model : PySem.W.makesIn K C_Model = true) (kc_Model : PySem.W.keepIn K (.ref C_Model) = true)
    (n_Model_frame : PySem.W.findIn K (.ref C_Model) "_frame" = some none)
    (n_Model_rows : PySem.W.findIn K (.ref C_Model) "_rows" = some none)
    (n_Model_true : PySem.W.findIn K (.ref C_Model) "_true" = some none)
    (a0 : PySem.W.nsIn K mainGlobals "parts_of" = some (some (.ref f0))) (l0 : K.lookup f0 = some ⟨oc0, od0, .func (PySem.W.fnOf "parts_of" "parts_of" (defArgs s_parts_of) (defBody s_parts_of) (defScope s_parts_of) .none kV0 dc0 pm0 an0 cd0 ct0), sl0⟩) (c0 : PySem.W.codeIn K cd0 "parts_of" = true) (k0 : PySem.W.keepIn K (.ref f0) = true)
    (a1 : PySem.W.nsIn K mainGlobals "distinct" = some (some (.ref f1))) (l1 : K.lookup f1 = some ⟨oc1, od1, .func (PySem.W.fnOf "distinct" "distinct" (defArgs s_distinct) (defBody s_distinct) (defScope s_distinct) .none kV1 dc1 pm1 an1 cd1 ct1), sl1⟩) (c1 : PySem.W.codeIn K cd1 "distinct" = true) (k1 : PySem.W.keepIn K (.ref f1) = true)
    (a2 : PySem.W.nsIn K mainGlobals "levels_of" = some (some (.ref f2))) (l2 : K.lookup f2 = some ⟨oc2, od2, .func (PySem.W.fnOf "levels_of" "levels_of" (defArgs s_levels_of) (defBody s_levels_of) (defScope s_levels_of) .none kV2 dc2 pm2 an2 cd2 ct2), sl2⟩) (c2 : PySem.W.codeIn K cd2 "levels_of" = true) (k2 : PySem.W.keepIn K (.ref f2) = true)
    (a3 : PySem.W.nsIn K mainGlobals "levels_from" = some (some (.ref f3))) (l3 : K.lookup f3 = some ⟨oc3, od3, .func (PySem.W.fnOf "levels_from" "levels_from" (defArgs s_levels_from) (defBody s_levels_from) (defScope s_levels_from) .none kV3 dc3 pm3 an3 cd3 ct3), sl3⟩) (c3 : PySem.W.codeIn K cd3 "levels_from" = true) (k3 : PySem.W.keepIn K (.ref f3) = true)
    (a4 : PySem.W.nsIn K mainGlobals "place_of" = some (some (.ref f4))) (l4 : K.lookup f4 = some ⟨oc4, od4, .func (PySem.W.fnOf "place_of" "place_of" (defArgs s_place_of) (defBody s_place_of) (defScope s_place_of) .none kV4 dc4 pm4 an4 cd4 ct4), sl4⟩) (c4 : PySem.W.codeIn K cd4 "place_of" = true) (k4 : PySem.W.keepIn K (.ref f4) = true)
    (a5 : PySem.W.nsIn K mainGlobals "folded" = some (some (.ref f5))) (l5 : K.lookup f5 = some ⟨oc5, od5, .func (PySem.W.fnOf "folded" "folded" (defArgs s_folded) (defBody s_folded) (defScope s_folded) .none kV5 dc5 pm5 an5 cd5 ct5), sl5⟩) (c5 : PySem.W.codeIn K cd5 "folded" = true) (k5 : PySem.W.keepIn K (.ref f5) = true)
    (a6 : PySem.W.nsIn K mainGlobals "is_plain" = some (some (.ref f6))) (l6 : K.lookup f6 = some ⟨oc6, od6, .func (PySem.W.fnOf "is_plain" "is_plain" (defArgs s_is_plain) (defBody s_is_plain) (defScope s_is_plain) .none kV6 dc6 pm6 an6 cd6 ct6), sl6⟩) (c6 : PySem.W.codeIn K cd6 "is_plain" = true) (k6 : PySem.W.keepIn K (.ref f6) = true)
    (a7 : PySem.W.nsIn K mainGlobals "subformulas" = some (some (.ref f7))) (l7 : K.lookup f7 = some ⟨oc7, od7, .func (PySem.W.fnOf "subformulas" "subformulas" (defArgs s_subformulas) (defBody s_subformulas) (defScope s_subformulas) .none kV7 dc7 pm7 an7 cd7 ct7), sl7⟩) (c7 : PySem.W.codeIn K cd7 "subformulas" = true) (k7 : PySem.W.keepIn K (.ref f7) = true)
    (a8 : PySem.W.nsIn K mainGlobals "subformulas_of" = some (some (.ref f8))) (l8 : K.lookup f8 = some ⟨oc8, od8, .func (PySem.W.fnOf "subformulas_of" "subformulas_of" (defArgs s_subformulas_of) (defBody s_subformulas_of) (defScope s_subformulas_of) .none kV8 dc8 pm8 an8 cd8 ct8), sl8⟩) (c8 : PySem.W.codeIn K cd8 "subformulas_of" = true) (k8 : PySem.W.keepIn K (.ref f8) = true)
    (a9 : PySem.W.nsIn K mainGlobals "boxes" = some (some (.ref f9))) (l9 : K.lookup f9 = some ⟨oc9, od9, .func (PySem.W.fnOf "boxes" "boxes" (defArgs s_boxes) (defBody s_boxes) (defScope s_boxes) .none kV9 dc9 pm9 an9 cd9 ct9), sl9⟩) (c9 : PySem.W.codeIn K cd9 "boxes" = true) (k9 : PySem.W.keepIn K (.ref f9) = true)
    (a10 : PySem.W.nsIn K mainGlobals "is_frame" = some (some (.ref f10))) (l10 : K.lookup f10 = some ⟨oc10, od10, .func (PySem.W.fnOf "is_frame" "is_frame" (defArgs s_is_frame) (defBody s_is_frame) (defScope s_is_frame) .none kV10 dc10 pm10 an10 cd10 ct10), sl10⟩) (c10 : PySem.W.codeIn K cd10 "is_frame" = true) (k10 : PySem.W.keepIn K (.ref f10) = true)
    (a11 : PySem.W.nsIn K mainGlobals "_is_pair" = some (some (.ref f11))) (l11 : K.lookup f11 = some ⟨oc11, od11, .func (PySem.W.fnOf "_is_pair" "_is_pair" (defArgs s_is_pair) (defBody s_is_pair) (defScope s_is_pair) .none kV11 dc11 pm11 an11 cd11 ct11), sl11⟩) (c11 : PySem.W.codeIn K cd11 "_is_pair" = true) (k11 : PySem.W.keepIn K (.ref f11) = true)
    (a12 : PySem.W.nsIn K mainGlobals "_is_integer" = some (some (.ref f12))) (l12 : K.lookup f12 = some ⟨oc12, od12, .func (PySem.W.fnOf "_is_integer" "_is_integer" (defArgs s_is_integer) (defBody s_is_integer) (defScope s_is_integer) .none kV12 dc12 pm12 an12 cd12 ct12), sl12⟩) (c12 : PySem.W.codeIn K cd12 "_is_integer" = true) (k12 : PySem.W.keepIn K (.ref f12) = true)
    (a13 : PySem.W.nsIn K mainGlobals "rows_of" = some (some (.ref f13))) (l13 : K.lookup f13 = some ⟨oc13, od13, .func (PySem.W.fnOf "rows_of" "rows_of" (defArgs s_rows_of) (defBody s_rows_of) (defScope s_rows_of) .none kV13 dc13 pm13 an13 cd13 ct13), sl13⟩) (c13 : PySem.W.codeIn K cd13 "rows_of" = true) (k13 : PySem.W.keepIn K (.ref f13) = true)
    (a14 : PySem.W.findIn K (.ref C_Model) "__init__" = some (some (.ref f14))) (i14 : PySem.W.isFn K (.ref f14) = true) (l14 : K.lookup f14 = some ⟨oc14, od14, .func (PySem.W.fnOf "__init__" "Model.__init__" (defArgs s_Model_init) (defBody s_Model_init) (defScope s_Model_init) .none kV14 dc14 pm14 an14 cd14 ct14), sl14⟩) (c14 : PySem.W.codeIn K cd14 "Model.__init__" = true) (k14 : PySem.W.keepIn K (.ref f14) = true)
    (a15 : PySem.W.findIn K (.ref C_Model) "frame" = some (some (.ref f15))) (i15 : PySem.W.isFn K (.ref f15) = true) (l15 : K.lookup f15 = some ⟨oc15, od15, .func (PySem.W.fnOf "frame" "Model.frame" (defArgs s_Model_frame) (defBody s_Model_frame) (defScope s_Model_frame) .none kV15 dc15 pm15 an15 cd15 ct15), sl15⟩) (c15 : PySem.W.codeIn K cd15 "Model.frame" = true) (k15 : PySem.W.keepIn K (.ref f15) = true)
    (a16 : PySem.W.findIn K (.ref C_Model) "true_worlds" = some (some (.ref f16))) (i16 : PySem.W.isFn K (.ref f16) = true) (l16 : K.lookup f16 = some ⟨oc16, od16, .func (PySem.W.fnOf "true_worlds" "Model.true_worlds" (defArgs s_Model_true_worlds) (defBody s_Model_true_worlds) (defScope s_Model_true_worlds) .none kV16 dc16 pm16 an16 cd16 ct16), sl16⟩) (c16 : PySem.W.codeIn K cd16 "Model.true_worlds" = true) (k16 : PySem.W.keepIn K (.ref f16) = true)
    (a17 : PySem.W.findIn K (.ref C_Model) "seen" = some (some (.ref f17))) (i17 : PySem.W.isFn K (.ref f17) = true) (l17 : K.lookup f17 = some ⟨oc17, od17, .func (PySem.W.fnOf "seen" "Model.seen" (defArgs s_Model_seen) (defBody s_Model_seen) (defScope s_Model_seen) .none kV17 dc17 pm17 an17 cd17 ct17), sl17⟩) (c17 : PySem.W.codeIn K cd17 "Model.seen" = true) (k17 : PySem.W.keepIn K (.ref f17) = true)
    (a18 : PySem.W.nsIn K mainGlobals "truth" = some (some (.ref f18))) (l18 : K.lookup f18 = some ⟨oc18, od18, .func (PySem.W.fnOf "truth" "truth" (defArgs s_truth) (defBody s_truth) (defScope s_truth) .none kV18 dc18 pm18 an18 cd18 ct18), sl18⟩) (c18 : PySem.W.codeIn K cd18 "truth" = true) (k18 : PySem.W.keepIn K (.ref f18) = true)
    (a19 : PySem.W.nsIn K mainGlobals "forcing" = some (some (.ref f19))) (l19 : K.lookup f19 = some ⟨oc19, od19, .func (PySem.W.fnOf "forcing" "forcing" (defArgs s_forcing) (defBody s_forcing) (defScope s_forcing) .none kV19 dc19 pm19 an19 cd19 ct19), sl19⟩) (c19 : PySem.W.codeIn K cd19 "forcing" = true) (k19 : PySem.W.keepIn K (.ref f19) = true)
    (a20 : PySem.W.nsIn K mainGlobals "_worlds_of" = some (some (.ref f20))) (l20 : K.lookup f20 = some ⟨oc20, od20, .func (PySem.W.fnOf "_worlds_of" "_worlds_of" (defArgs s_worlds_of) (defBody s_worlds_of) (defScope s_worlds_of) .none kV20 dc20 pm20 an20 (.ref kc20) ct20), sl20⟩) (c20 : PySem.W.codeIn K (.ref kc20) "_worlds_of" = true) (k20 : PySem.W.keepIn K (.ref f20) = true)
    (a21 : PySem.W.nsIn K mainGlobals "_marks" = some (some (.ref f21))) (l21 : K.lookup f21 = some ⟨oc21, od21, .func (PySem.W.fnOf "_marks" "_marks" (defArgs s_marks) (defBody s_marks) (defScope s_marks) .none kV21 dc21 pm21 an21 cd21 ct21), sl21⟩) (c21 : PySem.W.codeIn K cd21 "_marks" = true) (k21 : PySem.W.keepIn K (.ref f21) = true)
    (a22 : PySem.W.nsIn K mainGlobals "_everywhere" = some (some (.ref f22))) (l22 : K.lookup f22 = some ⟨oc22, od22, .func (PySem.W.fnOf "_everywhere" "_everywhere" (defArgs s_everywhere) (defBody s_everywhere) (defScope s_everywhere) .none kV22 dc22 pm22 an22 cd22 ct22), sl22⟩) (c22 : PySem.W.codeIn K cd22 "_everywhere" = true) (k22 : PySem.W.keepIn K (.ref f22) = true)
    (a23 : PySem.W.nsIn K mainGlobals "_check_plain" = some (some (.ref f23))) (l23 : K.lookup f23 = some ⟨oc23, od23, .func (PySem.W.fnOf "_check_plain" "_check_plain" (defArgs s_check_plain) (defBody s_check_plain) (defScope s_check_plain) .none kV23 dc23 pm23 an23 cd23 ct23), sl23⟩) (c23 : PySem.W.codeIn K cd23 "_check_plain" = true) (k23 : PySem.W.keepIn K (.ref f23) = true)
    (a24 : PySem.W.nsIn K mainGlobals "box_translation" = some (some (.ref f24))) (l24 : K.lookup f24 = some ⟨oc24, od24, .func (PySem.W.fnOf "box_translation" "box_translation" (defArgs s_box_translation) (defBody s_box_translation) (defScope s_box_translation) .none kV24 dc24 pm24 an24 (.ref kc24) ct24), sl24⟩) (c24 : PySem.W.codeIn K (.ref kc24) "box_translation" = true) (k24 : PySem.W.keepIn K (.ref f24) = true)
    (a25 : PySem.W.nsIn K mainGlobals "_law_pool" = some (some (.ref f25))) (l25 : K.lookup f25 = some ⟨oc25, od25, .func (PySem.W.fnOf "_law_pool" "_law_pool" (defArgs s_law_pool) (defBody s_law_pool) (defScope s_law_pool) .none kV25 dc25 pm25 an25 cd25 ct25), sl25⟩) (c25 : PySem.W.codeIn K cd25 "_law_pool" = true) (k25 : PySem.W.keepIn K (.ref f25) = true)
    (a26 : PySem.W.nsIn K mainGlobals "_law_spread" = some (some (.ref f26))) (l26 : K.lookup f26 = some ⟨oc26, od26, .func (PySem.W.fnOf "_law_spread" "_law_spread" (defArgs s_law_spread) (defBody s_law_spread) (defScope s_law_spread) .none kV26 dc26 pm26 an26 cd26 ct26), sl26⟩) (c26 : PySem.W.codeIn K cd26 "_law_spread" = true) (k26 : PySem.W.keepIn K (.ref f26) = true)
    (a27 : PySem.W.nsIn K mainGlobals "_law_draw" = some (some (.ref f27))) (l27 : K.lookup f27 = some ⟨oc27, od27, .func (PySem.W.fnOf "_law_draw" "_law_draw" (defArgs s_law_draw) (defBody s_law_draw) (defScope s_law_draw) .none kV27 dc27 pm27 an27 cd27 ct27), sl27⟩) (c27 : PySem.W.codeIn K cd27 "_law_draw" = true) (k27 : PySem.W.keepIn K (.ref f27) = true)
    (a28 : PySem.W.nsIn K mainGlobals "_law_same" = some (some (.ref f28))) (l28 : K.lookup f28 = some ⟨oc28, od28, .func (PySem.W.fnOf "_law_same" "_law_same" (defArgs s_law_same) (defBody s_law_same) (defScope s_law_same) .none kV28 dc28 pm28 an28 cd28 ct28), sl28⟩) (c28 : PySem.W.codeIn K cd28 "_law_same" = true) (k28 : PySem.W.keepIn K (.ref f28) = true)
    (a29 : PySem.W.nsIn K mainGlobals "_law_formula" = some (some (.ref f29))) (l29 : K.lookup f29 = some ⟨oc29, od29, .func (PySem.W.fnOf "_law_formula" "_law_formula" (defArgs s_law_formula) (defBody s_law_formula) (defScope s_law_formula) .none kV29 dc29 pm29 an29 cd29 ct29), sl29⟩) (c29 : PySem.W.codeIn K cd29 "_law_formula" = true) (k29 : PySem.W.keepIn K (.ref f29) = true)
    (a30 : PySem.W.nsIn K mainGlobals "_law_closed" = some (some (.ref f30))) (l30 : K.lookup f30 = some ⟨oc30, od30, .func (PySem.W.fnOf "_law_closed" "_law_closed" (defArgs s_law_closed) (defBody s_law_closed) (defScope s_law_closed) .none kV30 dc30 pm30 an30 cd30 ct30), sl30⟩) (c30 : PySem.W.codeIn K cd30 "_law_closed" = true) (k30 : PySem.W.keepIn K (.ref f30) = true)
    (a31 : PySem.W.nsIn K mainGlobals "_law_model" = some (some (.ref f31))) (l31 : K.lookup f31 = some ⟨oc31, od31, .func (PySem.W.fnOf "_law_model" "_law_model" (defArgs s_law_model) (defBody s_law_model) (defScope s_law_model) .none kV31 dc31 pm31 an31 cd31 ct31), sl31⟩) (c31 : PySem.W.codeIn K cd31 "_law_model" = true) (k31 : PySem.W.keepIn K (.ref f31) = true)
    (a32 : PySem.W.nsIn K mainGlobals "_law_true" = some (some (.ref f32))) (l32 : K.lookup f32 = some ⟨oc32, od32, .func (PySem.W.fnOf "_law_true" "_law_true" (defArgs s_law_true) (defBody s_law_true) (defScope s_law_true) .none kV32 dc32 pm32 an32 cd32 ct32), sl32⟩) (c32 : PySem.W.codeIn K cd32 "_law_true" = true) (k32 : PySem.W.keepIn K (.ref f32) = true)
    (a33 : PySem.W.nsIn K mainGlobals "_law_list" = some (some (.ref f33))) (l33 : K.lookup f33 = some ⟨oc33, od33, .func (PySem.W.fnOf "_law_list" "_law_list" (defArgs s_law_list) (defBody s_law_list) (defScope s_law_list) .none kV33 dc33 pm33 an33 cd33 ct33), sl33⟩) (c33 : PySem.W.codeIn K cd33 "_law_list" = true) (k33 : PySem.W.keepIn K (.ref f33) = true)
    (a34 : PySem.W.nsIn K mainGlobals "_law_some" = some (some (.ref f34))) (l34 : K.lookup f34 = some ⟨oc34, od34, .func (PySem.W.fnOf "_law_some" "_law_some" (defArgs s_law_some) (defBody s_law_some) (defScope s_law_some) .none kV34 dc34 pm34 an34 cd34 ct34), sl34⟩) (c34 : PySem.W.codeIn K cd34 "_law_some" = true) (k34 : PySem.W.keepIn K (.ref f34) = true)
    (a35 : PySem.W.nsIn K mainGlobals "_law_where" = some (some (.ref f35))) (l35 : K.lookup f35 = some ⟨oc35, od35, .func (PySem.W.fnOf "_law_where" "_law_where" (defArgs s_law_where) (defBody s_law_where) (defScope s_law_where) .none kV35 dc35 pm35 an35 cd35 ct35), sl35⟩) (c35 : PySem.W.codeIn K cd35 "_law_where" = true) (k35 : PySem.W.keepIn K (.ref f35) = true)
    (a36 : PySem.W.nsIn K mainGlobals "_law_drawn_model" = some (some (.ref f36))) (l36 : K.lookup f36 = some ⟨oc36, od36, .func (PySem.W.fnOf "_law_drawn_model" "_law_drawn_model" (defArgs s_law_drawn_model) (defBody s_law_drawn_model) (defScope s_law_drawn_model) .none kV36 dc36 pm36 an36 cd36 ct36), sl36⟩) (c36 : PySem.W.codeIn K cd36 "_law_drawn_model" = true) (k36 : PySem.W.keepIn K (.ref f36) = true)
    (a37 : PySem.W.nsIn K mainGlobals "_law_program_model" = some (some (.ref f37))) (l37 : K.lookup f37 = some ⟨oc37, od37, .func (PySem.W.fnOf "_law_program_model" "_law_program_model" (defArgs s_law_program_model) (defBody s_law_program_model) (defScope s_law_program_model) .none kV37 dc37 pm37 an37 cd37 ct37), sl37⟩) (c37 : PySem.W.codeIn K cd37 "_law_program_model" = true) (k37 : PySem.W.keepIn K (.ref f37) = true)
    (a38 : PySem.W.nsIn K mainGlobals "_law_names" = some (some (.ref f38))) (l38 : K.lookup f38 = some ⟨oc38, od38, .func (PySem.W.fnOf "_law_names" "_law_names" (defArgs s_law_names) (defBody s_law_names) (defScope s_law_names) .none kV38 dc38 pm38 an38 cd38 ct38), sl38⟩) (c38 : PySem.W.codeIn K cd38 "_law_names" = true) (k38 : PySem.W.keepIn K (.ref f38) = true)
    (a39 : PySem.W.nsIn K mainGlobals "_law_grid" = some (some (.ref f39))) (l39 : K.lookup f39 = some ⟨oc39, od39, .func (PySem.W.fnOf "_law_grid" "_law_grid" (defArgs s_law_grid) (defBody s_law_grid) (defScope s_law_grid) .none kV39 dc39 pm39 an39 cd39 ct39), sl39⟩) (c39 : PySem.W.codeIn K cd39 "_law_grid" = true) (k39 : PySem.W.keepIn K (.ref f39) = true)
    (a40 : PySem.W.nsIn K mainGlobals "_law_framed" = some (some (.ref f40))) (l40 : K.lookup f40 = some ⟨oc40, od40, .func (PySem.W.fnOf "_law_framed" "_law_framed" (defArgs s_law_framed) (defBody s_law_framed) (defScope s_law_framed) .none kV40 dc40 pm40 an40 cd40 ct40), sl40⟩) (c40 : PySem.W.codeIn K cd40 "_law_framed" = true) (k40 : PySem.W.keepIn K (.ref f40) = true)
    (a41 : PySem.W.nsIn K mainGlobals "law" = some (some (.ref f41))) (l41 : K.lookup f41 = some ⟨oc41, od41, .func (PySem.W.fnOf "law" "law" (defArgs s_law) (defBody s_law) (defScope s_law) .none kV41 dc41 pm41 an41 cd41 ct41), sl41⟩) (c41 : PySem.W.codeIn K cd41 "law" = true) (k41 : PySem.W.keepIn K (.ref f41) = true)
    (z_all : PySem.W.nsIn K mainGlobals "all" = some none)
    (z_bool : PySem.W.nsIn K mainGlobals "bool" = some none)
    (z_enumerate : PySem.W.nsIn K mainGlobals "enumerate" = some none)
    (z_int : PySem.W.nsIn K mainGlobals "int" = some none)
    (z_isinstance : PySem.W.nsIn K mainGlobals "isinstance" = some none)
    (z_len : PySem.W.nsIn K mainGlobals "len" = some none)
    (z_list : PySem.W.nsIn K mainGlobals "list" = some none)
    (z_range : PySem.W.nsIn K mainGlobals "range" = some none)
    (z_reversed : PySem.W.nsIn K mainGlobals "reversed" = some none)
    (z_set : PySem.W.nsIn K mainGlobals "set" = some none)
    (z_sorted : PySem.W.nsIn K mainGlobals "sorted" = some none)
    (z_str : PySem.W.nsIn K mainGlobals "str" = some none)
    (z_tuple : PySem.W.nsIn K mainGlobals "tuple" = some none)
    (z_zip : PySem.W.nsIn K mainGlobals "zip" = some none)
    (hd20 : PySem.W.codeHdIn K kc20 (He.tabOf K kc20) = true) (n20 : K.lookup (He.tabOf K kc20) = none) (t20 : h.get? (He.tabOf K kc20) = some { cls := .none, data := .fields #[] })
    (hd24 : PySem.W.codeHdIn K kc24 (He.tabOf K kc24) = true) (n24 : K.lookup (He.tabOf K kc24) = none) (t24 : h.get? (He.tabOf K kc24) = some { cls := .none, data := .fields #[] })
    (dT : decide ([He.tabOf K kc20, He.tabOf K kc24].Nodup) = true)
    : LamX.LawAtS l w K CX0 21 63 "script" mg fa h := by
  have e := hfa.symm.trans (PySem.W.mg_of X G a41)
  cases e
  have F0 := fun_mk (st := s_parts_of) l0 c0 k0
  have b0 := F0.binds (ps := ["a"]) fun _ _ _ _ _ _ us hl => match us, hl with | [_], _ => rfl
  have F1 := fun_mk (st := s_distinct) l1 c1 k1
  have b1 := F1.binds (ps := ["rows"]) fun _ _ _ _ _ _ us hl => match us, hl with | [_], _ => rfl
  have F2 := fun_mk (st := s_levels_of) l2 c2 k2
  have b2 := F2.binds (ps := ["a"]) fun _ _ _ _ _ _ us hl => match us, hl with | [_], _ => rfl
  have F3 := fun_mk (st := s_levels_from) l3 c3 k3
  have b3 := F3.binds (ps := ["formulas"]) fun _ _ _ _ _ _ us hl => match us, hl with | [_], _ => rfl
  have F4 := fun_mk (st := s_place_of) l4 c4 k4
  have b4 := F4.binds (ps := ["rows", "row"]) fun _ _ _ _ _ _ us hl => match us, hl with | [_, _], _ => rfl
  have F5 := fun_mk (st := s_folded) l5 c5 k5
  have b5 := F5.binds (ps := ["a", "value_of"]) fun _ _ _ _ _ _ us hl => match us, hl with | [_, _], _ => rfl
  have F6 := fun_mk (st := s_is_plain) l6 c6 k6
  have b6 := F6.binds (ps := ["a"]) fun _ _ _ _ _ _ us hl => match us, hl with | [_], _ => rfl
  have F7 := fun_mk (st := s_subformulas) l7 c7 k7
  have b7 := F7.binds (ps := ["a"]) fun _ _ _ _ _ _ us hl => match us, hl with | [_], _ => rfl
  have F8 := fun_mk (st := s_subformulas_of) l8 c8 k8
  have b8 := F8.binds (ps := ["formulas"]) fun _ _ _ _ _ _ us hl => match us, hl with | [_], _ => rfl
  have F9 := fun_mk (st := s_boxes) l9 c9 k9
  have b9 := F9.binds (ps := ["a"]) fun _ _ _ _ _ _ us hl => match us, hl with | [_], _ => rfl
  have F10 := fun_mk (st := s_is_frame) l10 c10 k10
  have b10 := F10.binds (ps := ["frame"]) fun _ _ _ _ _ _ us hl => match us, hl with | [_], _ => rfl
  have F11 := fun_mk (st := s_is_pair) l11 c11 k11
  have b11 := F11.binds (ps := ["pair", "worlds"]) fun _ _ _ _ _ _ us hl => match us, hl with | [_, _], _ => rfl
  have F12 := fun_mk (st := s_is_integer) l12 c12 k12
  have b12 := F12.binds (ps := ["value"]) fun _ _ _ _ _ _ us hl => match us, hl with | [_], _ => rfl
  have F13 := fun_mk (st := s_rows_of) l13 c13 k13
  have b13 := F13.binds (ps := ["frame"]) fun _ _ _ _ _ _ us hl => match us, hl with | [_], _ => rfl
  have F14 := fun_mk (st := s_Model_init) l14 c14 k14
  have b14 := F14.binds (ps := ["self", "frame", "values"]) fun _ _ _ _ _ _ us hl => match us, hl with | [_, _, _], _ => rfl
  have F15 := fun_mk (st := s_Model_frame) l15 c15 k15
  have b15 := F15.binds (ps := ["self"]) fun _ _ _ _ _ _ us hl => match us, hl with | [_], _ => rfl
  have F16 := fun_mk (st := s_Model_true_worlds) l16 c16 k16
  have b16 := F16.binds (ps := ["self"]) fun _ _ _ _ _ _ us hl => match us, hl with | [_], _ => rfl
  have F17 := fun_mk (st := s_Model_seen) l17 c17 k17
  have b17 := F17.binds (ps := ["self", "v"]) fun _ _ _ _ _ _ us hl => match us, hl with | [_, _], _ => rfl
  have F18 := fun_mk (st := s_truth) l18 c18 k18
  have b18 := F18.binds (ps := ["model", "a"]) fun _ _ _ _ _ _ us hl => match us, hl with | [_, _], _ => rfl
  have F19 := fun_mk (st := s_forcing) l19 c19 k19
  have b19 := F19.binds (ps := ["model", "a"]) fun _ _ _ _ _ _ us hl => match us, hl with | [_, _], _ => rfl
  have F20 := fun_mk (st := s_worlds_of) l20 c20 k20
  have b20 := F20.binds (ps := ["model", "a", "forced"]) fun _ _ _ _ _ _ us hl => match us, hl with | [_, _, _], _ => rfl
  have F21 := fun_mk (st := s_marks) l21 c21 k21
  have b21 := F21.binds (ps := ["worlds", "places"]) fun _ _ _ _ _ _ us hl => match us, hl with | [_, _], _ => rfl
  have F22 := fun_mk (st := s_everywhere) l22 c22 k22
  have b22 := F22.binds (ps := ["rows", "marks"]) fun _ _ _ _ _ _ us hl => match us, hl with | [_, _], _ => rfl
  have F23 := fun_mk (st := s_check_plain) l23 c23 k23
  have b23 := F23.binds (ps := ["a"]) fun _ _ _ _ _ _ us hl => match us, hl with | [_], _ => rfl
  have F24 := fun_mk (st := s_box_translation) l24 c24 k24
  have b24 := F24.binds (ps := ["a"]) fun _ _ _ _ _ _ us hl => match us, hl with | [_], _ => rfl
  have F25 := fun_mk (st := s_law_pool) l25 c25 k25
  have b25 := F25.binds (ps := ["script"]) fun _ _ _ _ _ _ us hl => match us, hl with | [_], _ => rfl
  have F26 := fun_mk (st := s_law_spread) l26 c26 k26
  have b26 := F26.binds (ps := ["cell"]) fun _ _ _ _ _ _ us hl => match us, hl with | [_], _ => rfl
  have F27 := fun_mk (st := s_law_draw) l27 c27 k27
  have b27 := F27.binds (ps := ["pool", "many"]) fun _ _ _ _ _ _ us hl => match us, hl with | [_, _], _ => rfl
  have F28 := fun_mk (st := s_law_same) l28 c28 k28
  have b28 := F28.binds (ps := ["actual", "due"]) fun _ _ _ _ _ _ us hl => match us, hl with | [_, _], _ => rfl
  have F29 := fun_mk (st := s_law_formula) l29 c29 k29
  have b29 := F29.binds (ps := ["pool", "depth", "plain"]) fun _ _ _ _ _ _ us hl => match us, hl with | [_, _, _], _ => rfl
  have F30 := fun_mk (st := s_law_closed) l30 c30 k30
  have b30 := F30.binds (ps := ["seen", "logic"]) fun _ _ _ _ _ _ us hl => match us, hl with | [_, _], _ => rfl
  have F31 := fun_mk (st := s_law_model) l31 c31 k31
  have b31 := F31.binds (ps := ["numbers", "logic", "most"]) fun _ _ _ _ _ _ us hl => match us, hl with | [_, _, _], _ => rfl
  have F32 := fun_mk (st := s_law_true) l32 c32 k32
  have b32 := F32.binds (ps := ["model", "a", "w", "forced"]) fun _ _ _ _ _ _ us hl => match us, hl with | [_, _, _, _], _ => rfl
  have F33 := fun_mk (st := s_law_list) l33 c33 k33
  have b33 := F33.binds (ps := ["pool", "many"]) fun _ _ _ _ _ _ us hl => match us, hl with | [_, _], _ => rfl
  have F34 := fun_mk (st := s_law_some) l34 c34 k34
  have b34 := F34.binds (ps := ["pool", "depth", "plain"]) fun _ _ _ _ _ _ us hl => match us, hl with | [_, _, _], _ => rfl
  have F35 := fun_mk (st := s_law_where) l35 c35 k35
  have b35 := F35.binds (ps := ["model", "a", "forced"]) fun _ _ _ _ _ _ us hl => match us, hl with | [_, _, _], _ => rfl
  have F36 := fun_mk (st := s_law_drawn_model) l36 c36 k36
  have b36 := F36.binds (ps := ["pool", "logic", "most"]) fun _ _ _ _ _ _ us hl => match us, hl with | [_, _, _], _ => rfl
  have F37 := fun_mk (st := s_law_program_model) l37 c37 k37
  have b37 := F37.binds (ps := ["model"]) fun _ _ _ _ _ _ us hl => match us, hl with | [_], _ => rfl
  have F38 := fun_mk (st := s_law_names) l38 c38 k38
  have b38 := F38.binds (ps := []) fun _ _ _ _ _ _ us hl => match us, hl with | [], _ => rfl
  have F39 := fun_mk (st := s_law_grid) l39 c39 k39
  have b39 := F39.binds (ps := ["first", "second"]) fun _ _ _ _ _ _ us hl => match us, hl with | [_, _], _ => rfl
  have F40 := fun_mk (st := s_law_framed) l40 c40 k40
  have b40 := F40.binds (ps := ["seen"]) fun _ _ _ _ _ _ us hl => match us, hl with | [_], _ => rfl
  have F41 := fun_mk (st := s_law) l41 c41 k41
  have b41 := F41.binds (ps := ["script"]) fun _ _ _ _ _ _ us hl => match us, hl with | [_], _ => rfl
  let T : Top K mg := ⟨_, PySem.W.mg_of X G g_InvalidModel, x_InvalidModel, k_InvalidModel, b_InvalidModel, t_InvalidModel, exm_self b_InvalidModel i_InvalidModel t_InvalidModel s_InvalidModel, _, PySem.W.mg_of X G g_NotPlain, x_NotPlain, k_NotPlain, b_NotPlain, t_NotPlain, exm_self b_NotPlain i_NotPlain t_NotPlain s_NotPlain, _, PySem.W.mg_of X G g_Model, ⟨pg_Model, hd_Model, po_Model, sa_Model⟩, n_Model_frame, n_Model_rows, n_Model_true, _, _, F0, b0, PySem.W.mg_of X G a0, _, _, F1, b1, PySem.W.mg_of X G a1, _, _, F2, b2, PySem.W.mg_of X G a2, _, _, F3, b3, PySem.W.mg_of X G a3, _, _, F4, b4, PySem.W.mg_of X G a4, _, _, F5, b5, PySem.W.mg_of X G a5, _, _, F6, b6, PySem.W.mg_of X G a6, _, _, F7, b7, PySem.W.mg_of X G a7, _, _, F8, b8, PySem.W.mg_of X G a8, _, _, F9, b9, PySem.W.mg_of X G a9, _, _, F10, b10, PySem.W.mg_of X G a10, _, _, F11, b11, PySem.W.mg_of X G a11, _, _, F12, b12, PySem.W.mg_of X G a12, _, _, F13, b13, PySem.W.mg_of X G a13, _, _, F14, b14, ⟨mk_Model, a14, i14, kc_Model⟩, _, _, F15, b15, ⟨a15, i15, k15⟩, _, _, F16, b16, ⟨a16, i16, k16⟩, _, _, F17, b17, ⟨a17, i17, k17⟩, _, _, F18, b18, PySem.W.mg_of X G a18, _, _, F19, b19, PySem.W.mg_of X G a19, _, _, F20, b20, PySem.W.mg_of X G a20, _, _, F21, b21, PySem.W.mg_of X G a21, _, _, F22, b22, PySem.W.mg_of X G a22, _, _, F23, b23, PySem.W.mg_of X G a23, _, _, F24, b24, PySem.W.mg_of X G a24, _, _, F25, b25, PySem.W.mg_of X G a25, _, _, F26, b26, PySem.W.mg_of X G a26, _, _, F27, b27, PySem.W.mg_of X G a27, _, _, F28, b28, PySem.W.mg_of X G a28, _, _, F29, b29, PySem.W.mg_of X G a29, _, _, F30, b30, PySem.W.mg_of X G a30, _, _, F31, b31, PySem.W.mg_of X G a31, _, _, F32, b32, PySem.W.mg_of X G a32, _, _, F33, b33, PySem.W.mg_of X G a33, _, _, F34, b34, PySem.W.mg_of X G a34, _, _, F35, b35, PySem.W.mg_of X G a35, _, _, F36, b36, PySem.W.mg_of X G a36, _, _, F37, b37, PySem.W.mg_of X G a37, _, _, F38, b38, PySem.W.mg_of X G a38, _, _, F39, b39, PySem.W.mg_of X G a39, _, _, F40, b40, PySem.W.mg_of X G a40, _, _, F41, b41, PySem.W.mg_of X G a41, PySem.W.mg_none_of X G z_all, PySem.W.mg_none_of X G z_bool, PySem.W.mg_none_of X G z_enumerate, PySem.W.mg_none_of X G z_int, PySem.W.mg_none_of X G z_isinstance, PySem.W.mg_none_of X G z_len, PySem.W.mg_none_of X G z_list, PySem.W.mg_none_of X G z_range, PySem.W.mg_none_of X G z_reversed, PySem.W.mg_none_of X G z_set, PySem.W.mg_none_of X G z_sorted, PySem.W.mg_none_of X G z_str, PySem.W.mg_none_of X G z_tuple, PySem.W.mg_none_of X G z_zip, _, _, func_mk (st := s_worlds_of) l20 c20, _, _, func_mk (st := s_box_translation) l24 c24, of_decide_eq_true dT⟩
  exact ⟨_, T.cs, spLaw K T.tabs, List.forall_mem_cons.mpr ⟨t20, List.forall_mem_cons.mpr ⟨t24, (fun _ h => nomatch h)⟩⟩, List.forall_mem_cons.mpr ⟨n20, List.forall_mem_cons.mpr ⟨n24, (fun _ h => nomatch h)⟩⟩, List.forall_mem_cons.mpr ⟨PySem.W.codeHd_of_K X hd20, List.forall_mem_cons.mpr ⟨PySem.W.codeHd_of_K X hd24, (fun _ h => nomatch h)⟩⟩, fun s v => .of_eq rfl, fun H a ns hl _ hE hS => ⟨a, ns, rfl, hS, hl, tabs_start rfl hE, fun _ => rfl⟩, fun base _ _ TBs => ok_law T TBs⟩
end E
open PySem PySem.W PyProof.Rows
set_option maxRecDepth 100000 in
set_option maxHeartbeats 0 in
theorem PySem.Challenge.cw_elsewhere_k62_forcing_is_truth_of_transl_holds : PySem.Challenge.rw_elsewhere_k62_forcing_is_truth_of_transl.Holds := by
  w_on; o_law; k_head; (case hw => w_witness2)
  k_fill
  refine LamX.walk_ofTs (l := PySem.Challenge.rw_elsewhere_k62_forcing_is_truth_of_transl) (n := 63) (k := 21) (x := "script") (CX := fun _ => L2.CX0) rfl (by decide) rfl ⟨rfl, by decide, by decide⟩ (fun w h Y => PySem.W.km_in_of Y) ?F (fun _ _ _ _ _ z => z)
  case F =>
    intro w mg fa h Y KX G hmg
    have hT8 := PySem.W.km_tabs_of Y
    refine' E.all_mk KX G hmg ?g_InvalidModel ?x_InvalidModel ?k_InvalidModel ?b_InvalidModel ?t_InvalidModel ?i_InvalidModel ?s_InvalidModel ?g_NotPlain ?x_NotPlain ?k_NotPlain ?b_NotPlain ?t_NotPlain ?i_NotPlain ?s_NotPlain ?g_Model ?pg_Model ?hd_Model ?po_Model ?sa_Model ?mk_Model ?kc_Model ?n_Model_frame ?n_Model_rows ?n_Model_true ?a0 ?l0 ?c0 ?k0 ?a1 ?l1 ?c1 ?k1 ?a2 ?l2 ?c2 ?k2 ?a3 ?l3 ?c3 ?k3 ?a4 ?l4 ?c4 ?k4 ?a5 ?l5 ?c5 ?k5 ?a6 ?l6 ?c6 ?k6 ?a7 ?l7 ?c7 ?k7 ?a8 ?l8 ?c8 ?k8 ?a9 ?l9 ?c9 ?k9 ?a10 ?l10 ?c10 ?k10 ?a11 ?l11 ?c11 ?k11 ?a12 ?l12 ?c12 ?k12 ?a13 ?l13 ?c13 ?k13 ?a14 ?i14 ?l14 ?c14 ?k14 ?a15 ?i15 ?l15 ?c15 ?k15 ?a16 ?i16 ?l16 ?c16 ?k16 ?a17 ?i17 ?l17 ?c17 ?k17 ?a18 ?l18 ?c18 ?k18 ?a19 ?l19 ?c19 ?k19 ?a20 ?l20 ?c20 ?k20 ?a21 ?l21 ?c21 ?k21 ?a22 ?l22 ?c22 ?k22 ?a23 ?l23 ?c23 ?k23 ?a24 ?l24 ?c24 ?k24 ?a25 ?l25 ?c25 ?k25 ?a26 ?l26 ?c26 ?k26 ?a27 ?l27 ?c27 ?k27 ?a28 ?l28 ?c28 ?k28 ?a29 ?l29 ?c29 ?k29 ?a30 ?l30 ?c30 ?k30 ?a31 ?l31 ?c31 ?k31 ?a32 ?l32 ?c32 ?k32 ?a33 ?l33 ?c33 ?k33 ?a34 ?l34 ?c34 ?k34 ?a35 ?l35 ?c35 ?k35 ?a36 ?l36 ?c36 ?k36 ?a37 ?l37 ?c37 ?k37 ?a38 ?l38 ?c38 ?k38 ?a39 ?l39 ?c39 ?k39 ?a40 ?l40 ?c40 ?k40 ?a41 ?l41 ?c41 ?k41 ?z_all ?z_bool ?z_enumerate ?z_int ?z_isinstance ?z_len ?z_list ?z_range ?z_reversed ?z_set ?z_sorted ?z_str ?z_tuple ?z_zip ?hd20 ?n20 ?t20 ?hd24 ?n24 ?t24 ?dT
    (case g_InvalidModel => k_is); (case x_InvalidModel => k_exc); (case k_InvalidModel => k_is); (case b_InvalidModel => k_is)
    (case t_InvalidModel => k_is); (case i_InvalidModel => first | rfl | k_is | decide +kernel); (case s_InvalidModel => first | rfl | k_is | decide +kernel); (case g_NotPlain => k_is)
    (case x_NotPlain => k_exc); (case k_NotPlain => k_is); (case b_NotPlain => k_is); (case t_NotPlain => k_is)
    (case i_NotPlain => first | rfl | k_is | decide +kernel); (case s_NotPlain => first | rfl | k_is | decide +kernel); (case g_Model => k_is); (case pg_Model => k_is)
    (case hd_Model => k_is); (case po_Model => k_is); (case sa_Model => k_is); (case mk_Model => k_is)
    (case kc_Model => k_is); (case n_Model_frame => k_is); (case n_Model_rows => k_is); (case n_Model_true => k_is)
    (case a0 => k_is); (case l0 => k_is); (case c0 => k_is); (case k0 => k_is)
    (case a1 => k_is); (case l1 => k_is); (case c1 => k_is); (case k1 => k_is)
    (case a2 => k_is); (case l2 => k_is); (case c2 => k_is); (case k2 => k_is)
    (case a3 => k_is); (case l3 => k_is); (case c3 => k_is); (case k3 => k_is)
    (case a4 => k_is); (case l4 => k_is); (case c4 => k_is); (case k4 => k_is)
    (case a5 => k_is); (case l5 => k_is); (case c5 => k_is); (case k5 => k_is)
    (case a6 => k_is); (case l6 => k_is); (case c6 => k_is); (case k6 => k_is)
    (case a7 => k_is); (case l7 => k_is); (case c7 => k_is); (case k7 => k_is)
    (case a8 => k_is); (case l8 => k_is); (case c8 => k_is); (case k8 => k_is)
    (case a9 => k_is); (case l9 => k_is); (case c9 => k_is); (case k9 => k_is)
    (case a10 => k_is); (case l10 => k_is); (case c10 => k_is); (case k10 => k_is)
    (case a11 => k_is); (case l11 => k_is); (case c11 => k_is); (case k11 => k_is)
    (case a12 => k_is); (case l12 => k_is); (case c12 => k_is); (case k12 => k_is)
    (case a13 => k_is); (case l13 => k_is); (case c13 => k_is); (case k13 => k_is)
    (case a14 => k_is); (case i14 => k_is); (case l14 => k_is); (case c14 => k_is)
    (case k14 => k_is); (case a15 => k_is); (case i15 => k_is); (case l15 => k_is)
    (case c15 => k_is); (case k15 => k_is); (case a16 => k_is); (case i16 => k_is)
    (case l16 => k_is); (case c16 => k_is); (case k16 => k_is); (case a17 => k_is)
    (case i17 => k_is); (case l17 => k_is); (case c17 => k_is); (case k17 => k_is)
    (case a18 => k_is); (case l18 => k_is); (case c18 => k_is); (case k18 => k_is)
    (case a19 => k_is); (case l19 => k_is); (case c19 => k_is); (case k19 => k_is)
    (case a20 => k_is); (case l20 => k_is); (case c20 => k_is); (case k20 => k_is)
    (case a21 => k_is); (case l21 => k_is); (case c21 => k_is); (case k21 => k_is)
    (case a22 => k_is); (case l22 => k_is); (case c22 => k_is); (case k22 => k_is)
    (case a23 => k_is); (case l23 => k_is); (case c23 => k_is); (case k23 => k_is)
    (case a24 => k_is); (case l24 => k_is); (case c24 => k_is); (case k24 => k_is)
    (case a25 => k_is); (case l25 => k_is); (case c25 => k_is); (case k25 => k_is)
    (case a26 => k_is); (case l26 => k_is); (case c26 => k_is); (case k26 => k_is)
    (case a27 => k_is); (case l27 => k_is); (case c27 => k_is); (case k27 => k_is)
    (case a28 => k_is); (case l28 => k_is); (case c28 => k_is); (case k28 => k_is)
    (case a29 => k_is); (case l29 => k_is); (case c29 => k_is); (case k29 => k_is)
    (case a30 => k_is); (case l30 => k_is); (case c30 => k_is); (case k30 => k_is)
    (case a31 => k_is); (case l31 => k_is); (case c31 => k_is); (case k31 => k_is)
    (case a32 => k_is); (case l32 => k_is); (case c32 => k_is); (case k32 => k_is)
    (case a33 => k_is); (case l33 => k_is); (case c33 => k_is); (case k33 => k_is)
    (case a34 => k_is); (case l34 => k_is); (case c34 => k_is); (case k34 => k_is)
    (case a35 => k_is); (case l35 => k_is); (case c35 => k_is); (case k35 => k_is)
    (case a36 => k_is); (case l36 => k_is); (case c36 => k_is); (case k36 => k_is)
    (case a37 => k_is); (case l37 => k_is); (case c37 => k_is); (case k37 => k_is)
    (case a38 => k_is); (case l38 => k_is); (case c38 => k_is); (case k38 => k_is)
    (case a39 => k_is); (case l39 => k_is); (case c39 => k_is); (case k39 => k_is)
    (case a40 => k_is); (case l40 => k_is); (case c40 => k_is); (case k40 => k_is)
    (case a41 => k_is); (case l41 => k_is); (case c41 => k_is); (case k41 => k_is)
    (case z_all => k_is); (case z_bool => k_is); (case z_enumerate => k_is); (case z_int => k_is)
    (case z_isinstance => k_is); (case z_len => k_is); (case z_list => k_is); (case z_range => k_is)
    (case z_reversed => k_is); (case z_set => k_is); (case z_sorted => k_is); (case z_str => k_is)
    (case z_tuple => k_is); (case z_zip => k_is); (case hd20 => kernel_rfl); (case n20 => kernel_rfl)
    (case t20 => exact hT8 _ (List.elem_iff.mp (by kernel_rfl))); (case hd24 => kernel_rfl); (case n24 => kernel_rfl); (case t24 => exact hT8 _ (List.elem_iff.mp (by kernel_rfl)))
    (case dT => kernel_rfl)

