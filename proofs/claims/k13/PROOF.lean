import PyProof.Rows.All
import Wide.All
import OpenK.AllK
import Wide.FinOn
import HandS.ForMost
import HandS.Wide
import HandS.TupSets
import HandS.Deep
import HandS.IsInst
import HandS.Conv
import HandS.SortRule
import PyProof.WalkInts
import HandS.SetBool
import HandS.ExcOwn
import HandS.WordsExc
import HandS.ExcIs
import HandS.TryOnly
import HandS.TryElse
import HandS.More
import KE.GoesEnum
import KE.GoesMore
import HandS.DictTup
import HandS.DictComp
import HandS.Iter
import HandS.TupAny
import PyProof.Rows.MatchSeqLen
import PyProof.RulesMatch
import HandS.Star
import HandS.ExcCtx
import HandS.Hot
import HandS.HotCalls
import PyProof.MinMaxWalk
import HandS.Text
import HandS.Strs
import HandS.SetIn
import KE.KSetDisp
import PyProof.SetRoads
import HandS.SortOrd
import KE.KIndexOf
import KE.DataMinMax
import KE.SortData
import PyProof.Rows.RowBridgeK
import KE.KRevSl
import HandS.Style
import KE.DataFind
import KE.KUnpack
import HandS.SetFor
import HandS.Lambda
import HandS.EndTab
import HandS.AnyAll
import HandS.GenOver
import HandS.Zip
import PyProof.EqKinds
import PySem.Challenge.RW_trellis_k13_questions
import HandS.Head0
import HandS.Head1
import HandS.Head2
import HandS.HeadHook2
import HandS.HeadHook4
import HandS.HeadNt
import HandS.HeadWalk
import KE.KNestM
set_option Elab.async false
set_option linter.all false
set_option maxRecDepth 100000
set_option maxHeartbeats 2000000
namespace Z
open PySem PySem.Spec PyProof.Rows L2

/-! ## heaps -/
/-- all but what stands at a is as it was -/
def Gr (a : Addr) (H H' : Hp) : Prop := ∀ b o, b ≠ a → H b = some o → H' b = some o
theorem Gr.refl (a : Addr) (H : Hp) : Gr a H H := fun _ _ _ h => h
theorem Gr.trans {a : Addr} {H H1 H2 : Hp} (x : Gr a H H1) (y : Gr a H1 H2) : Gr a H H2 := fun b o n h => y b o n (x b o n h)
theorem Gr.of_same {a : Addr} {H H' : Hp} (x : Same H H') : Gr a H H' := fun b o _ h => x b o h
theorem same_new {H : Hp} {p : Addr} {o : HO} (h : H p = none) : Same H (upd H p o) := fun b u e => by
  rw [upd_ne (ne_of_none e h)]
  exact e
theorem Gr.new {a : Addr} {H : Hp} {p : Addr} {o : HO} (h : H p = none) : Gr a H (upd H p o) := .of_same (same_new h)
/-- the object at a itself is written -/
theorem Gr.self {a : Addr} {H : Hp} {o : HO} : Gr a H (upd H a o) := fun b u n e => by
  rw [upd_ne n]
  exact e
/-- an object that H did not know is written -/
theorem Gr.mut {a : Addr} {H H' : Hp} {p : Addr} {o : HO} (x : Gr a H H') (h : H p = none) : Gr a H (upd H' p o) := fun b u n e => by
  rw [upd_ne (ne_of_none e h)]
  exact x b u n e
theorem same_mut {H H' : Hp} {p : Addr} {o : HO} (x : Same H H') (h : H p = none) : Same H (upd H' p o) := fun b u e => by
  rw [upd_ne (ne_of_none e h)]
  exact x b u e
/-- what is free now was free then -/
theorem Gr.free {a : Addr} {H H' : Hp} (x : Gr a H H') (ha : H' a ≠ none) {p : Addr} (h : H' p = none) : H p = none := by
  cases e : H p with
  | none => rfl
  | some o =>
    by_cases n : p = a
    · rw [n] at h
      exact absurd h ha
    · rw [x p o n e] at h
      cases h
theorem some_ne {H : Hp} {a : Addr} {o : HO} (h : H a = some o) : H a ≠ none := by
  rw [h]
  exact fun z => nomatch z
/-- the tuples stand -/
def TK (H H' : Hp) : Prop := ∀ b xs, H b = some (.tup xs) → H' b = some (.tup xs)
theorem TK.refl (H : Hp) : TK H H := fun _ _ h => h
theorem TK.trans {H H1 H2 : Hp} (x : TK H H1) (y : TK H1 H2) : TK H H2 := fun b o h => y b o (x b o h)
theorem TK.of_same {H H' : Hp} (x : Same H H') : TK H H' := fun b o h => x b _ h
theorem TK.of_gr {a : Addr} {H H' : Hp} {xs : List V} (x : Gr a H H') (h : H a = some (.lst xs)) : TK H H' := fun b o e => x b _ (fun n => by
  rw [n, h] at e
  cases e) e
theorem TK.lst {H : Hp} {p : Addr} {xs ys : List V} (h : H p = some (.lst xs)) : TK H (upd H p (.lst ys)) := fun b o e => by
  rw [upd_ne (fun n => by rw [n, h] at e; cases e)]
  exact e
theorem TK.new {H : Hp} {p : Addr} {o : HO} (h : H p = none) : TK H (upd H p o) := .of_same (same_new h)

/-! ## pairs -/
/-- x is the tuple of these two ints -/
def IsP (H : Hp) (x : V) (p : Int × Int) : Prop := ∃ t, x = .ref t ∧ H t = some (.tup [.int p.1, .int p.2])
theorem IsP.tk {H H' : Hp} (k : TK H H') {x : V} {p : Int × Int} (h : IsP H x p) : IsP H' x p := by
  obtain ⟨t, e, h⟩ := h
  exact ⟨t, e, k _ _ h⟩
abbrev Prs (H : Hp) : List V → List (Int × Int) → Prop := Paired (IsP H)
theorem Prs.tk {H H' : Hp} (k : TK H H') : ∀ {xs : List V} {ps : List (Int × Int)}, Prs H xs ps → Prs H' xs ps
  | _, _, .nil => .nil
  | _, _, .cons h t => .cons (h.tk k) (Prs.tk k t)
theorem pd_get {α β : Type} {F : α → β → Prop} : ∀ {xs : List α} {ps : List β} {i : Nat} {x : α}, Paired F xs ps → xs[i]? = some x → ∃ p, ps[i]? = some p ∧ F x p
  | _, _, _, _, .nil, h => by simp at h
  | _, _, 0, _, .cons f _, h => by
    have e := Option.some.inj h
    subst e
    exact ⟨_, rfl, f⟩
  | _, _, i + 1, _, .cons _ t, h => pd_get (i := i) t h
theorem pd_get2 {α β : Type} {F : α → β → Prop} : ∀ {xs : List α} {ps : List β} {i : Nat} {p : β}, Paired F xs ps → ps[i]? = some p → ∃ x, xs[i]? = some x ∧ F x p
  | _, _, _, _, .nil, h => by simp at h
  | _, _, 0, _, .cons f _, h => by
    have e := Option.some.inj h
    subst e
    exact ⟨_, rfl, f⟩
  | _, _, i + 1, _, .cons _ t, h => pd_get2 (i := i) t h
theorem pd_mem {α β : Type} {F : α → β → Prop} {xs : List α} {ps : List β} {x : α} (h : Paired F xs ps) (hx : x ∈ xs) : ∃ p ∈ ps, F x p := by
  obtain ⟨i, hi, e⟩ := List.mem_iff_getElem.mp hx
  obtain ⟨p, hp, f⟩ := pd_get h (List.getElem?_eq_some_iff.mpr ⟨hi, e⟩)
  exact ⟨p, List.mem_of_getElem? hp, f⟩
theorem pd_perm {α β : Type} {F : α → β → Prop} {xs ys : List α} (pm : ys.Perm xs) : ∀ {ps : List β}, Paired F xs ps → ∃ qs, qs.Perm ps ∧ Paired F ys qs := by
  induction pm with
  | nil => intro ps h; cases h; exact ⟨[], .nil, .nil⟩
  | cons x _ ih =>
    intro ps h
    cases h with
    | cons f t =>
      obtain ⟨qs, q1, q2⟩ := ih t
      exact ⟨_, q1.cons _, .cons f q2⟩
  | swap x y l =>
    intro ps h
    cases h with
    | cons f t =>
      cases t with
      | cons g u => exact ⟨_, .swap _ _ _, .cons g (.cons f u)⟩
  | trans _ _ ih1 ih2 =>
    intro ps h
    obtain ⟨qs, q1, q2⟩ := ih2 h
    obtain ⟨rs, r1, r2⟩ := ih1 q2
    exact ⟨rs, r1.trans q1, r2⟩
theorem pd_append {α β : Type} {F : α → β → Prop} : ∀ {xs ys : List α} {ps qs : List β}, Paired F xs ps → Paired F ys qs → Paired F (xs ++ ys) (ps ++ qs)
  | _, _, _, _, .nil, h => h
  | _, _, _, _, .cons f t, h => .cons f (pd_append t h)
theorem pd_take {α β : Type} {F : α → β → Prop} : ∀ {xs : List α} {ps : List β} (n : Nat), Paired F xs ps → Paired F (xs.take n) (ps.take n)
  | _, _, 0, _ => .nil
  | _, _, _ + 1, .nil => .nil
  | _, _, n + 1, .cons f t => .cons f (pd_take n t)
theorem pd_drop {α β : Type} {F : α → β → Prop} : ∀ {xs : List α} {ps : List β} (n : Nat), Paired F xs ps → Paired F (xs.drop n) (ps.drop n)
  | _, _, 0, h => h
  | _, _, _ + 1, .nil => .nil
  | _, _, n + 1, .cons _ t => pd_drop n t

/-! ## data, for == and in -/
theorem IsP.dp {K : PySem.W.Frag} {H : Hp} {x : V} {p : Int × Int} (h : IsP H x p) : Dp K H x (.tuple [.int p.1, .int p.2]) := by
  obtain ⟨t, rfl, h⟩ := h
  exact .tup (.inl (.inl h)) (.cons (.int _) (.cons (.int _) .nil))
def prD2 (p : Int × Int) : PyData := .tuple [.int p.1, .int p.2]
theorem Prs.dps {K : PySem.W.Frag} {H : Hp} : ∀ {xs : List V} {ps : List (Int × Int)}, Prs H xs ps → DpAll K H xs (ps.map prD2)
  | _, _, .nil => .nil
  | _, _, .cons h t => .cons h.dp (Prs.dps t)
theorem prD2_lay (z : Int × Int) : (prD2 z).canLay0 = true := by simp [prD2, PyData.canLay0, PyData.canLayAll0]
theorem prD2_depth (z : Int × Int) : (prD2 z).depth = 1 := by simp [prD2, PyData.depth, PyData.depthAll]
theorem prD2s_lay : ∀ zs : List (Int × Int), PyData.canLayAll0 (zs.map prD2) = true
  | [] => by simp [PyData.canLayAll0]
  | z :: zs => by simp [PyData.canLayAll0, prD2_lay z, prD2s_lay zs]
theorem prD2s_depth : ∀ zs : List (Int × Int), PyData.depthAll (zs.map prD2) ≤ 1
  | [] => by simp [PyData.depthAll]
  | z :: zs => by
    have h1 := prD2s_depth zs
    have h2 := prD2_depth z
    simp only [List.map_cons, PyData.depthAll]
    omega
theorem shaped_of {d : PyData} (h1 : d.canLay0 = true) (h2 : d.depth ≤ 64) : SeqAt.shaped d = true := by
  show (d.canLay0 && decide (d.depth ≤ 64)) = true
  rw [Bool.and_eq_true]
  exact ⟨h1, decide_eq_true h2⟩
theorem prD2_shaped (z : Int × Int) : SeqAt.shaped (prD2 z) = true := shaped_of (prD2_lay z) (by rw [prD2_depth]; omega)
theorem prD2s_shT (zs : List (Int × Int)) : SeqAt.shaped (.tuple (zs.map prD2)) = true := shaped_of (by simp only [PyData.canLay0]; exact prD2s_lay zs) (by
  have h := prD2s_depth zs
  simp only [PyData.depth]
  omega)
theorem prD2s_shL (zs : List (Int × Int)) : SeqAt.shaped (.list (zs.map prD2)) = true := shaped_of (by simp only [PyData.canLay0]; exact prD2s_lay zs) (by
  have h := prD2s_depth zs
  simp only [PyData.depth]
  omega)
theorem prD2_eqv (z w : Int × Int) : PyData.eqv (prD2 z) (prD2 w) = decide (z = w) := by
  obtain ⟨a, b⟩ := z
  obtain ⟨c, d⟩ := w
  have e : PyData.eqv (prD2 (a, b)) (prD2 (c, d)) = ((a == c) && ((b == d) && true)) := by simp only [prD2, PyData.eqv, PyData.eqvAll]
  rw [e]
  by_cases h1 : a = c <;> by_cases h2 : b = d <;> simp [h1, h2]
theorem prD2s_any (zs : List (Int × Int)) (w : Int × Int) : ((zs.map prD2).any fun z => PyData.eqv z (prD2 w)) = decide (w ∈ zs) := by
  induction zs with
  | nil => simp
  | cons z zs ih =>
    rw [List.map_cons, List.any_cons, ih, prD2_eqv]
    by_cases h : z = w
    · simp [h]
    · have h' : ¬ w = z := fun q => h q.symm
      simp [h, h']

/-! ## rules of my own -/
section
variable {X : Cx}
/-- x in t, t a tuple of pairs -/
def rInP (K : PySem.W.Frag) : R2 := fun x y H Q => ∃ (p : Int × Int) (b : Addr) (xs : List V) (ps : List (Int × Int)), IsP H x p ∧ y = .ref b ∧ SqT K H b xs ∧ Prs H xs ps ∧ Q (.bl (decide (p ∈ ps))) H
def rNinP (K : PySem.W.Frag) : R2 := fun x y H Q => ∃ (p : Int × Int) (b : Addr) (xs : List V) (ps : List (Int × Int)), IsP H x p ∧ y = .ref b ∧ SqT K H b xs ∧ Prs H xs ps ∧ Q (.bl (!decide (p ∈ ps))) H
theorem units65 {k : Nat} {A : Around} (r : Room k A) : A.units + 65 < cLine := by have := r.un; omega
theorem roomP {A : Around} {ds : List PyData} (h : A.units + 64 < cLine) (p : Int × Int) : A.units + 1 + min (PyData.depthAll ds) (prD2 p).depth < cLine := by
  have := Nat.min_le_right (PyData.depthAll ds) (prD2 p).depth
  rw [prD2_depth] at this
  rw [prD2_depth]
  omega
theorem op_inTD {k : Nat} (hr : Room k X.A) : OpR X (compareOp .In) (rInP X.K) := by
  intro pins s σ H x y v u Q I rx ry h
  obtain ⟨p, b, xs, ps, hx, rfl, hb, hp, q⟩ := h
  obtain ⟨as, r1⟩ := Dp.reads I (prD2 p) x v hx.dp rx
  obtain ⟨bs, r2⟩ := Dp.reads I (.tuple (ps.map prD2)) (.ref b) u (.tup hb hp.dps) ry
  exact SeqAt.in_tuple_reads r2 r1 (prD2s_lay ps) (prD2_lay p) (roomP hr.units p) ⟨.bl _, H, I, rfl, by rw [prD2s_any]; exact q⟩
theorem op_notInTD {k : Nat} (hr : Room k X.A) : OpR X (compareOp .NotIn) (rNinP X.K) := by
  intro pins s σ H x y v u Q I rx ry h
  obtain ⟨p, b, xs, ps, hx, rfl, hb, hp, q⟩ := h
  obtain ⟨as, r1⟩ := Dp.reads I (prD2 p) x v hx.dp rx
  obtain ⟨bs, r2⟩ := Dp.reads I (.tuple (ps.map prD2)) (.ref b) u (.tup hb hp.dps) ry
  exact SeqAt.notIn_tuple_reads r2 r1 (prD2s_lay ps) (prD2_lay p) (roomP hr.units p) ⟨.bl _, H, I, rfl, by rw [prD2s_any]; exact q⟩
/-- min, max of a pair -/
def rMinT : List V → Hp → VK → Prop := fun vs H Q => ∃ (x : V) (p : Int × Int), vs = [x] ∧ IsP H x p ∧ Q (.int (min p.1 p.2)) H
def rMaxT : List V → Hp → VK → Prop := fun vs H Q => ∃ (x : V) (p : Int × Int), vs = [x] ∧ IsP H x p ∧ Q (.int (max p.1 p.2)) H
theorem pair_raw {pins : List (Addr × Obj)} {σ : L2.St} {H : Hp} {s : Shared} {t : Addr} {i j : Int} (I : Inv X pins σ H s) (h : H t = some (.tup [.int i, .int j])) :
    ∃ a b, s.heap.IsTuple t (intItems #[(i, a), (j, b)]) := by
  obtain ⟨its, rv, ⟨o, ho, hc, n, hd⟩, _⟩ := I.tuple (SqT.of (K := X.K) h)
  obtain ⟨u, w, e, r1, r2⟩ := vals2 rv
  obtain ⟨a, rfl⟩ := r1
  obtain ⟨b, rfl⟩ := r2
  subst e
  exact ⟨a, b, o, ho, hc, n, by simpa [intItems] using hd⟩
theorem cr_minT (hc : X.calm = true) : CallR X (.builtin "min") rMinT := by
  intro pins s σ H vs us Q I r h
  obtain ⟨x, ⟨i, j⟩, rfl, ⟨t, rfl, ht⟩, q⟩ := h
  rw [Vals.ref1 r]
  obtain ⟨a, b, hT⟩ := pair_raw I ht
  have hlt : t < s.heap.objs.size := by
    obtain ⟨o, ho, _⟩ := hT
    exact Heap.lt_size ho
  refine call_min_walk (wpAny_pyIter_tuple hT ?_)
  refine ⟨_, _, _, _, _, _, _, rfl, Walks.tuple (A := X.A.in1) (I.ok.hd hc) s.heap.objs.size t (Nat.ne_of_lt hlt) (intItems #[(i, a), (j, b)]),
    ⟨⟨_, Heap.get?_push_size _ rfl, rfl, rfl⟩, hT.push _⟩, fun c hm => ?_, by simp [intItems], CmpOf.ints_lt (numAt #[(i, a), (j, b)]) (fun _ _ => intItems_at), fun v h' tk hP hk => ?_⟩
  · show c < (s.heap.push _).objs.size
    rw [Heap.size_push]
    rcases List.mem_cons.mp hm with e | hm
    · rw [e]
      exact Nat.lt_succ_self _
    · rw [List.mem_singleton.mp hm]
      exact Nat.lt_succ_of_lt hlt
  · obtain ⟨tt, rfl⟩ := intItems_at hP
    obtain ⟨h1, h2⟩ := argBest_lt (numAt #[(i, a), (j, b)]) ((intItems #[(i, a), (j, b)]).size - 1)
    have e1 : (intItems #[(i, a), (j, b)]).size - 1 = 1 := by simp [intItems]
    rw [e1] at h1 h2 ⊢
    have n0 : numAt #[(i, a), (j, b)] 0 = i := rfl
    have n1 : numAt #[(i, a), (j, b)] 1 = j := rfl
    have g0 := h2 0 (by omega)
    have g1 := h2 1 (by omega)
    rw [n0] at g0
    rw [n1] at g1
    have ev : numAt #[(i, a), (j, b)] (argBest (fun k l => decide (numAt #[(i, a), (j, b)] k < numAt #[(i, a), (j, b)] l)) 1) = min i j := by
      generalize argBest (fun k l => decide (numAt #[(i, a), (j, b)] k < numAt #[(i, a), (j, b)] l)) 1 = z at h1 g0 g1 ⊢
      have hz : z = 0 ∨ z = 1 := by omega
      rcases hz with e | e
      · subst e; rw [n0] at g0 g1 ⊢; omega
      · subst e; rw [n1] at g0 g1 ⊢; omega
    refine ⟨.int (min i j), H, I.kept (t' := tk) fun b u e => hk b u (fun hmem => ?_) (Heap.get?_push_of_some _ e), ⟨tt, by rw [ev]⟩, q⟩
    have e2 := Heap.lt_size e
    rw [List.mem_singleton.mp hmem] at e2
    exact absurd e2 (Nat.lt_irrefl _)
theorem cr_maxT (hc : X.calm = true) : CallR X (.builtin "max") rMaxT := by
  intro pins s σ H vs us Q I r h
  obtain ⟨x, ⟨i, j⟩, rfl, ⟨t, rfl, ht⟩, q⟩ := h
  rw [Vals.ref1 r]
  obtain ⟨a, b, hT⟩ := pair_raw I ht
  have hlt : t < s.heap.objs.size := by
    obtain ⟨o, ho, _⟩ := hT
    exact Heap.lt_size ho
  refine call_max_walk (wpAny_pyIter_tuple hT ?_)
  refine ⟨_, _, _, _, _, _, _, rfl, Walks.tuple (A := X.A.in1) (I.ok.hd hc) s.heap.objs.size t (Nat.ne_of_lt hlt) (intItems #[(i, a), (j, b)]),
    ⟨⟨_, Heap.get?_push_size _ rfl, rfl, rfl⟩, hT.push _⟩, fun c hm => ?_, by simp [intItems], CmpOf.ints_gt (numAt #[(i, a), (j, b)]) (fun _ _ => intItems_at), fun v h' tk hP hk => ?_⟩
  · show c < (s.heap.push _).objs.size
    rw [Heap.size_push]
    rcases List.mem_cons.mp hm with e | hm
    · rw [e]
      exact Nat.lt_succ_self _
    · rw [List.mem_singleton.mp hm]
      exact Nat.lt_succ_of_lt hlt
  · obtain ⟨tt, rfl⟩ := intItems_at hP
    obtain ⟨h1, h2⟩ := argBest_gt (numAt #[(i, a), (j, b)]) ((intItems #[(i, a), (j, b)]).size - 1)
    have e1 : (intItems #[(i, a), (j, b)]).size - 1 = 1 := by simp [intItems]
    rw [e1] at h1 h2 ⊢
    have n0 : numAt #[(i, a), (j, b)] 0 = i := rfl
    have n1 : numAt #[(i, a), (j, b)] 1 = j := rfl
    have g0 := h2 0 (by omega)
    have g1 := h2 1 (by omega)
    rw [n0] at g0
    rw [n1] at g1
    have ev : numAt #[(i, a), (j, b)] (argBest (fun k l => decide (numAt #[(i, a), (j, b)] k > numAt #[(i, a), (j, b)] l)) 1) = max i j := by
      generalize argBest (fun k l => decide (numAt #[(i, a), (j, b)] k > numAt #[(i, a), (j, b)] l)) 1 = z at h1 g0 g1 ⊢
      have hz : z = 0 ∨ z = 1 := by omega
      rcases hz with e | e
      · subst e; rw [n0] at g0 g1 ⊢; omega
      · subst e; rw [n1] at g0 g1 ⊢; omega
    refine ⟨.int (max i j), H, I.kept (t' := tk) fun b u e => hk b u (fun hmem => ?_) (Heap.get?_push_of_some _ e), ⟨tt, by rw [ev]⟩, q⟩
    have e2 := Heap.lt_size e
    rw [List.mem_singleton.mp hmem] at e2
    exact absurd e2 (Nat.lt_irrefl _)
/-- the order of pairs -/
def leP (p q : Int × Int) : Prop := p.1 < q.1 ∨ (p.1 = q.1 ∧ p.2 ≤ q.2)
def ltP (p q : Int × Int) : Prop := p.1 < q.1 ∨ (p.1 = q.1 ∧ p.2 < q.2)
/-- which pair stands at x -/
def kP (H : Hp) : V → Int × Int
  | .ref t => match H t with
    | some (.tup [.int i, .int j]) => (i, j)
    | _ => (0, 0)
  | _ => (0, 0)
theorem IsP.k {H : Hp} {x : V} {p : Int × Int} (h : IsP H x p) : kP H x = p := by
  obtain ⟨t, rfl, h⟩ := h
  simp only [kP, h]
/-- sorted(xs), xs a list of pairs -/
def rSortPr (K : PySem.W.Frag) : List V → Hp → VK → Prop := fun vs H Q => ∃ (a : Addr) (xs : List V) (ps : List (Int × Int)), vs = [V.ref a] ∧ SqL K H a xs ∧ Prs H xs ps ∧
  ∀ (ys : List V) (qs : List (Int × Int)) (p : Addr), qs.Perm ps → Prs H ys qs → qs.Pairwise leP → H p = none → Q (.ref p) (upd H p (.lst ys))
theorem prs_of_k {H : Hp} : ∀ {ys : List V}, (∀ y ∈ ys, IsP H y (kP H y)) → Prs H ys (ys.map (kP H))
  | [], _ => .nil
  | y :: ys, h => .cons (h y List.mem_cons_self) (prs_of_k fun z hz => h z (List.mem_cons_of_mem _ hz))
theorem prs_k {H : Hp} : ∀ {xs : List V} {ps : List (Int × Int)}, Prs H xs ps → xs.map (kP H) = ps
  | _, _, .nil => rfl
  | _, _, .cons h t => by rw [List.map_cons, h.k, prs_k t]
theorem cr_sortPr : CallR X (.builtin "sorted") (rSortPr X.K) := by
  intro pins s σ H vs us Q I r h
  obtain ⟨a, xs, ps, rfl, hs, hp, q⟩ := h
  have at_ : ∀ x ∈ xs, IsP H x (kP H x) := fun x hx => by
    obtain ⟨p, _, f⟩ := pd_mem hp hx
    rw [f.k]
    exact f
  refine cr_sortedPO pins s σ H [V.ref a] us Q I r ⟨a, xs, kP H, rfl, hs, fun x hx => ?_, fun ys p sr st hn => ?_⟩
  · obtain ⟨t, e, h⟩ := at_ x hx
    exact ⟨t, e, h⟩
  · refine q ys (ys.map (kP H)) p ?_ (prs_of_k fun y hy => at_ y (st.perm.mem_iff.mp hy)) ?_ hn
    · rw [← prs_k hp]
      exact st.perm.map _
    · refine List.pairwise_map.mpr (List.Pairwise.imp (fun {x y} h => ?_) sr)
      have h2 := SrtO.lexB_no.mp h
      unfold leP
      omega
end

set_option Elab.async false
set_option linter.all false
set_option maxRecDepth 100000
set_option maxHeartbeats 2000000
open PySem PySem.Spec PyProof.Rows L2
/-! ## steps of a reading -/
theorem int_beq (i j : Int) : (i == j) = decide (i = j) := by
  by_cases h : i = j <;> simp [h]
def rInt1 : List V → Hp → VK → Prop := fun xs H Q => (∃ i, xs = [.int i] ∧ Q (.int i) H) ∨ ∃ k, xs = [.bl k] ∧ Q (.int (if k then 1 else 0)) H
def rMin2 : List V → Hp → VK → Prop := fun xs H Q => ∃ i j, xs = [.int i, .int j] ∧ Q (.int (if j < i then j else i)) H
def rMax2 : List V → Hp → VK → Prop := fun xs H Q => ∃ i j, xs = [.int i, .int j] ∧ Q (.int (if j > i then j else i)) H
def rLen (K : PySem.W.Frag) : List V → Hp → VK → Prop := fun xs H Q => ∃ p ys, xs = [.ref p] ∧ (SqL K H p ys ∨ SqT K H p ys) ∧ Q (.int ys.length) H
def rListOf (K : PySem.W.Frag) : List V → Hp → VK → Prop := fun xs H Q => ∃ p ys, xs = [.ref p] ∧ (SqL K H p ys ∨ SqT K H p ys) ∧ ∀ l, H l = none → Q (.ref l) (upd H l (.lst ys))
def rTupOf (K : PySem.W.Frag) : List V → Hp → VK → Prop := fun xs H Q => ∃ p ys, xs = [.ref p] ∧ ((SqL K H p ys ∧ ∀ l, H l = none → Q (.ref l) (upd H l (.tup ys))) ∨ (SqT K H p ys ∧ Q (.ref p) H))
section
variable {X : Cx}
theorem ix_either : IxR X (fun x y H Q => rIxL X.K x y H Q ∨ rIxT X.K x y H Q) := ix_list.or ix_tup
variable {K : PySem.W.Frag}
theorem ix_listK (h : X.K = K) : IxR X (rIxL K) := h ▸ ix_list
theorem ix_tupK (h : X.K = K) : IxR X (rIxT K) := h ▸ ix_tup
theorem ix_eitherK (h : X.K = K) : IxR X (fun x y H Q => rIxL K x y H Q ∨ rIxT K x y H Q) := h ▸ ix_list.or ix_tup
theorem sl_listK (h : X.K = K) : SlR X (rSlL K) := h ▸ sl_list
theorem sl_tupK (h : X.K = K) : SlR X (rSlT K) := h ▸ sl_tup
theorem op_inSeqK (h : X.K = K) : OpR X (compareOp .In) (rIn K false) := h ▸ op_in_seq
theorem op_ninSeqK (h : X.K = K) : OpR X (compareOp .NotIn) (rIn K true) := h ▸ op_notIn_seq
theorem op_inPK {k : Nat} (h : X.K = K) (hr : Room k X.A) : OpR X (compareOp .In) (rInP K) := h ▸ op_inTD hr
theorem op_ninPK {k : Nat} (h : X.K = K) (hr : Room k X.A) : OpR X (compareOp .NotIn) (rNinP K) := h ▸ op_notInTD hr
theorem op_eqDK (h : X.K = K) (hu : X.A.units + 64 < cLine) : OpR X (compareOp .Eq) (rEqD K) := h ▸ op_eqD hu
theorem op_neDK (h : X.K = K) (hu : X.A.units + 64 < cLine) : OpR X (compareOp .NotEq) (rNeD K) := h ▸ op_neD hu
theorem op_catTK (h : X.K = K) : OpR X (binaryOp .Add) (rCatT K) := h ▸ op_catT
theorem PE.bmK {e : Expr} {T : String} {r : V → List V → Hp → VK → Prop} {to : TE} {t : TA} (h : X.K = K) (p : PE X e (tBM X.K T r to t)) : PE X e (tBM K T r to t) := h ▸ p
theorem PG.tupK {e : Expr} {n : Nat} {t : TGs} (h : X.K = K) (p : PG X e (gTup X.K n t)) : PG X e (gTup K n t) := h ▸ p
theorem PI.listK {tg e : Expr} {tl : TE} (h : X.K = K) (p : PI X tg e (iList X.K tl)) : PI X tg e (iList K tl) := h ▸ p
theorem PI.tupK {tg e : Expr} {tl : TE} (h : X.K = K) (p : PI X tg e (iTup X.K tl)) : PI X tg e (iTup K tl) := h ▸ p
theorem mt_indexK (h : X.K = K) : MtR X "list.index" (rIndex K) := h ▸ mt_index
theorem cr_sortPrK (h : X.K = K) : CallR X (.builtin "sorted") (rSortPr K) := h ▸ cr_sortPr
theorem call_isiK (h : X.K = K) : CallR X (.builtin "isinstance") (rIsi K) := h ▸ call_isi
theorem call_lenK (h : X.K = K) : CallR X (.builtin "len") (rLen K) := h ▸ call_len_seq
theorem call_listK (h : X.K = K) : CallR X (.type "list") (rListOf K) := h ▸ call_list_of
theorem call_tupleK (h : X.K = K) : CallR X (.type "tuple") (rTupOf K) := h ▸ call_tuple_of
theorem call_int1' : CallR X (.type "int") rInt1 := call_int1
theorem call_min2' (hc : X.calm = true) : CallR X (.builtin "min") rMin2 := call_min2 hc
theorem call_max2' (hc : X.calm = true) : CallR X (.builtin "max") rMax2 := call_max2 hc
theorem call_len' : CallR X (.builtin "len") (rLen X.K) := call_len_seq
theorem call_list' : CallR X (.type "list") (rListOf X.K) := call_list_of
theorem call_tuple' : CallR X (.type "tuple") (rTupOf X.K) := call_tuple_of
end
section
variable {K : PySem.W.Frag} {σ : L2.St} {H : Hp} {Q : VK} {ta tb tc te : TE} {t u : TT}
theorem r_var {i : Nat} {v : V} (h : σ[i]? = some (some v)) (q : Q v H) : tVar i σ H Q := ⟨v, h, q⟩
theorem r_c {v : V} (q : Q v H) : tC v σ H Q := q
theorem r_op {r : R2} (h : ta σ H fun x H1 => tb σ H1 fun y H2 => r x y H2 Q) : tOp r ta tb σ H Q := h
theorem r_un {r : V → Hp → VK → Prop} (h : ta σ H fun x H1 => r x H1 Q) : tUn r ta σ H Q := h
theorem r_i0 {g : Int → Int → V} {i j : Int} (q : Q (g i j) H) : rI0 g (.int i) (.int j) H Q := ⟨i, j, rfl, rfl, q⟩
theorem r_i {C : Int → Int → Prop} {g : Int → Int → V} {i j : Int} (c : C i j) (q : Q (g i j) H) : rI C g (.int i) (.int j) H Q := ⟨i, j, rfl, rfl, c, q⟩
theorem r_u {g : Int → V} {i : Int} (q : Q (g i) H) : rU g (.int i) H Q := ⟨i, rfl, q⟩
theorem r_eqI {i j : Int} (q : Q (.bl (decide (i = j))) H) : rEq (.int i) (.int j) H Q := ⟨rfl, by rw [dec_int, int_beq]; exact q⟩
theorem r_neI {i j : Int} (q : Q (.bl (!decide (i = j))) H) : rNe (.int i) (.int j) H Q := ⟨rfl, by rw [dec_int, int_beq]; exact q⟩
theorem r_eqB {i j : Bool} (q : Q (.bl (i == j)) H) : rEq (.bl i) (.bl j) H Q := ⟨rfl, by rw [dec_bl]; exact q⟩
theorem r_neB {i j : Bool} (q : Q (.bl (!(i == j))) H) : rNe (.bl i) (.bl j) H Q := ⟨rfl, by rw [dec_bl]; exact q⟩
def TupN (Q : VK) (xs : List V) (H1 : Hp) : Prop := xs.length ≤ sizeLine ∧ ∀ p, H1 p = none → Q (.ref p) (upd H1 p (.tup xs))
def LstN (Q : VK) (xs : List V) (H1 : Hp) : Prop := xs.length ≤ sizeLine ∧ ∀ p, H1 p = none → Q (.ref p) (upd H1 p (.lst xs))
theorem r_tup {ta : TA} (h : ta σ H (TupN Q)) : tTup ta σ H Q := h
theorem r_lst {ta : TA} (h : ta σ H (LstN Q)) : tLst ta σ H Q := h
theorem r_tupN {xs : List V} (l : xs.length ≤ sizeLine) (q : ∀ p, H p = none → Q (.ref p) (upd H p (.tup xs))) : TupN Q xs H := ⟨l, q⟩
theorem r_lstN {xs : List V} (l : xs.length ≤ sizeLine) (q : ∀ p, H p = none → Q (.ref p) (upd H p (.lst xs))) : LstN Q xs H := ⟨l, q⟩
theorem r_nil {Q : List V → Hp → Prop} (q : Q [] H) : tNil σ H Q := q
theorem r_cons {tr : TA} {Q : List V → Hp → Prop} (h : ta σ H fun x H1 => tr σ H1 fun xs H2 => Q (x :: xs) H2) : tCons ta tr σ H Q := h
theorem r_call {sp : Sp} {dvs : List V} {E : XK} {ta : TA} (h : ta σ H fun vs H1 => sp (vs ++ dvs) H1 Q E) : tCall sp dvs E ta σ H Q := h
theorem r_cb {r : List V → Hp → VK → Prop} {ta : TA} (h : ta σ H fun vs H1 => r vs H1 Q) : tCB r ta σ H Q := h
def KB (Q : Bool → Hp → Prop) (x : V) (H : Hp) : Prop := ∃ k, x = .bl k ∧ Q k H
theorem r_test {Q : Bool → Hp → Prop} (h : te σ H fun x H1 => KB Q x H1) : tTest te σ H Q := h
theorem r_tB {Q : Bool → Hp → Prop} (h : te σ H fun x H1 => KB Q x H1) : tB te σ H Q := h
theorem r_k {Q : Bool → Hp → Prop} {b : Bool} (q : Q b H) : KB Q (.bl b) H := ⟨b, rfl, q⟩
theorem r_not {Q : Bool → Hp → Prop} (h : t σ H fun c H1 => Q (!c) H1) : tNot t σ H Q := h
theorem r_and {Q : Bool → Hp → Prop} (h : t σ H fun c H1 => if c = true then u σ H1 Q else Q false H1) : tAnd t u σ H Q := h
theorem r_or {Q : Bool → Hp → Prop} (h : t σ H fun c H1 => if c = true then Q true H1 else u σ H1 Q) : tOr t u σ H Q := h
theorem r_if (h : t σ H fun c H1 => if c = true then ta σ H1 Q else tb σ H1 Q) : tIf t ta tb σ H Q := h
def Bm (K : PySem.W.Frag) (T : String) (r : V → List V → Hp → VK → Prop) (ta : TA) (σ : L2.St) (Q : VK) (x : V) (H1 : Hp) : Prop := tyV K T x H1 ∧ ta σ H1 fun xs H2 => r x xs H2 Q
theorem r_bm {T : String} {r : V → List V → Hp → VK → Prop} {ta : TA} (h : te σ H (Bm K T r ta σ Q)) : tBM K T r te ta σ H Q := h
def AndN (tb : TE) (σ : L2.St) (Q : VK) (x : V) (H1 : Hp) : Prop := ∃ c, x = .bl c ∧ if c = true then tb σ H1 Q else Q (.bl false) H1
def OrN (tb : TE) (σ : L2.St) (Q : VK) (x : V) (H1 : Hp) : Prop := ∃ c, x = .bl c ∧ if c = true then Q (.bl true) H1 else tb σ H1 Q
def NotN (Q : VK) (x : V) (H1 : Hp) : Prop := ∃ c, x = .bl c ∧ Q (.bl (!c)) H1
theorem r_andV (h : ta σ H (AndN tb σ Q)) : tAndV ta tb σ H Q := h
theorem r_orV (h : ta σ H (OrN tb σ Q)) : tOrV ta tb σ H Q := h
theorem r_notV (h : ta σ H (NotN Q)) : tNotV ta σ H Q := h
theorem r_andN {c : Bool} (h : if c = true then tb σ H Q else Q (.bl false) H) : AndN tb σ Q (.bl c) H := ⟨c, rfl, h⟩
theorem r_orN {c : Bool} (h : if c = true then Q (.bl true) H else tb σ H Q) : OrN tb σ Q (.bl c) H := ⟨c, rfl, h⟩
theorem r_notN {c : Bool} (q : Q (.bl (!c)) H) : NotN Q (.bl c) H := ⟨c, rfl, q⟩
def PartN (Q : Option Int → Hp → Prop) (x : V) (H1 : Hp) : Prop := ∃ i, x = .int i ∧ Q (some i) H1
theorem r_sl {r : V → Option Int → Option Int → Hp → VK → Prop} {tl th : TO} (h : te σ H fun x H1 => tl σ H1 fun l H2 => th σ H2 fun u H3 => r x l u H3 Q) : tSl r te tl th σ H Q := h
theorem r_part {Q : Option Int → Hp → Prop} (h : te σ H (PartN Q)) : tPart te σ H Q := h
theorem r_partN {Q : Option Int → Hp → Prop} {i : Int} (q : Q (some i) H) : PartN Q (.int i) H := ⟨i, rfl, q⟩
theorem r_noPart {Q : Option Int → Hp → Prop} (q : Q none H) : tNoPart σ H Q := q
def LRg (Q : VK) (a b : Int) (H1 : Hp) : Prop := RgOk a b ∧ ∀ q, H1 q = none → Q (.ref q) (upd H1 q (.lst (rgV a b)))
def R1N (Q : Int → Int → Hp → Prop) (x : V) (H1 : Hp) : Prop := ∃ n, x = .int n ∧ Q 0 n H1
theorem r_lstRg {t : L2.St → Hp → (Int → Int → Hp → Prop) → Prop} (h : t σ H (LRg Q)) : tLstRg t σ H Q := h
theorem r_tRg1 {Q : Int → Int → Hp → Prop} (h : ta σ H (R1N Q)) : tRg1 ta σ H Q := h
theorem r_r1N {Q : Int → Int → Hp → Prop} {n : Int} (q : Q 0 n H) : R1N Q (.int n) H := ⟨n, rfl, q⟩
theorem r_bmL {r : V → List V → Hp → VK → Prop} {ta : TA} {p : Addr} {xs : List V} (h : SqL K H p xs) (q : ta σ H fun xs H2 => r (.ref p) xs H2 Q) : Bm K "list" r ta σ Q (.ref p) H := ⟨.inl ⟨rfl, _, h⟩, q⟩
theorem r_ixL {p : Addr} {xs : List V} {i : Int} {v : V} (h : SqL K H p xs) (a : atI xs i = some v) (q : Q v H) : rIxL K (.ref p) (.int i) H Q := ⟨p, xs, i, v, rfl, rfl, h, a, q⟩
theorem r_ixT {p : Addr} {xs : List V} {i : Int} {v : V} (h : SqT K H p xs) (a : atI xs i = some v) (q : Q v H) : rIxT K (.ref p) (.int i) H Q := ⟨p, xs, i, v, rfl, rfl, h, a, q⟩
variable {nx bk ct : L2.St → Hp → Prop} {a b : TS}
theorem r_next (q : nx σ H) : tNext ⟨nx, Q, bk, ct⟩ σ H := q
theorem r_seq (h : a ⟨b ⟨nx, Q, bk, ct⟩, Q, bk, ct⟩ σ H) : tSeq a b ⟨nx, Q, bk, ct⟩ σ H := h
/-- a block's tail, once for all ways that lead to it -/
theorem r_seqW (W : L2.St → Hp → Prop) (tail : ∀ σ' H', W σ' H' → b ⟨nx, Q, bk, ct⟩ σ' H') (head : ∀ B : L2.St → Hp → Prop, (∀ σ' H', W σ' H' → B σ' H') → a ⟨B, Q, bk, ct⟩ σ H) : tSeq a b ⟨nx, Q, bk, ct⟩ σ H := head _ tail
theorem r_ret (h : te σ H Q) : tRet te ⟨nx, Q, bk, ct⟩ σ H := h
theorem r_drop (h : te σ H fun _ H1 => nx σ H1) : tDrop te ⟨nx, Q, bk, ct⟩ σ H := h
theorem r_ifS (h : t σ H fun c H1 => if c = true then a ⟨nx, Q, bk, ct⟩ σ H1 else b ⟨nx, Q, bk, ct⟩ σ H1) : tIfS t a b ⟨nx, Q, bk, ct⟩ σ H := h
theorem r_asg {g : TG} (h : te σ H fun x H1 => g x σ H1 nx) : tAsg te g ⟨nx, Q, bk, ct⟩ σ H := h
theorem r_name {i : Nat} {v : V} {σ' : L2.St} {q : L2.St → Hp → Prop} (e : σ.set i (some v) = σ') (h : q σ' H) : gName i v σ H q := by
  subst e
  exact h
theorem r_name0 {x0 : Option V} {σ : L2.St} {v : V} {q : L2.St → Hp → Prop} (h : q (some v :: σ) H) : gName 0 v (x0 :: σ) H q := h
theorem r_name1 {x0 x1 : Option V} {σ : L2.St} {v : V} {q : L2.St → Hp → Prop} (h : q (x0 :: some v :: σ) H) : gName 1 v (x0 :: x1 :: σ) H q := h
theorem r_name2 {x0 x1 x2 : Option V} {σ : L2.St} {v : V} {q : L2.St → Hp → Prop} (h : q (x0 :: x1 :: some v :: σ) H) : gName 2 v (x0 :: x1 :: x2 :: σ) H q := h
theorem r_name3 {x0 x1 x2 x3 : Option V} {σ : L2.St} {v : V} {q : L2.St → Hp → Prop} (h : q (x0 :: x1 :: x2 :: some v :: σ) H) : gName 3 v (x0 :: x1 :: x2 :: x3 :: σ) H q := h
theorem r_name4 {x0 x1 x2 x3 x4 : Option V} {σ : L2.St} {v : V} {q : L2.St → Hp → Prop} (h : q (x0 :: x1 :: x2 :: x3 :: some v :: σ) H) : gName 4 v (x0 :: x1 :: x2 :: x3 :: x4 :: σ) H q := h
theorem r_name5 {x0 x1 x2 x3 x4 x5 : Option V} {σ : L2.St} {v : V} {q : L2.St → Hp → Prop} (h : q (x0 :: x1 :: x2 :: x3 :: x4 :: some v :: σ) H) : gName 5 v (x0 :: x1 :: x2 :: x3 :: x4 :: x5 :: σ) H q := h
theorem r_name6 {x0 x1 x2 x3 x4 x5 x6 : Option V} {σ : L2.St} {v : V} {q : L2.St → Hp → Prop} (h : q (x0 :: x1 :: x2 :: x3 :: x4 :: x5 :: some v :: σ) H) : gName 6 v (x0 :: x1 :: x2 :: x3 :: x4 :: x5 :: x6 :: σ) H q := h
theorem r_name7 {x0 x1 x2 x3 x4 x5 x6 x7 : Option V} {σ : L2.St} {v : V} {q : L2.St → Hp → Prop} (h : q (x0 :: x1 :: x2 :: x3 :: x4 :: x5 :: x6 :: some v :: σ) H) : gName 7 v (x0 :: x1 :: x2 :: x3 :: x4 :: x5 :: x6 :: x7 :: σ) H q := h
theorem r_name8 {x0 x1 x2 x3 x4 x5 x6 x7 x8 : Option V} {σ : L2.St} {v : V} {q : L2.St → Hp → Prop} (h : q (x0 :: x1 :: x2 :: x3 :: x4 :: x5 :: x6 :: x7 :: some v :: σ) H) : gName 8 v (x0 :: x1 :: x2 :: x3 :: x4 :: x5 :: x6 :: x7 :: x8 :: σ) H q := h
theorem r_name9 {x0 x1 x2 x3 x4 x5 x6 x7 x8 x9 : Option V} {σ : L2.St} {v : V} {q : L2.St → Hp → Prop} (h : q (x0 :: x1 :: x2 :: x3 :: x4 :: x5 :: x6 :: x7 :: x8 :: some v :: σ) H) : gName 9 v (x0 :: x1 :: x2 :: x3 :: x4 :: x5 :: x6 :: x7 :: x8 :: x9 :: σ) H q := h
theorem r_name10 {x0 x1 x2 x3 x4 x5 x6 x7 x8 x9 x10 : Option V} {σ : L2.St} {v : V} {q : L2.St → Hp → Prop} (h : q (x0 :: x1 :: x2 :: x3 :: x4 :: x5 :: x6 :: x7 :: x8 :: x9 :: some v :: σ) H) : gName 10 v (x0 :: x1 :: x2 :: x3 :: x4 :: x5 :: x6 :: x7 :: x8 :: x9 :: x10 :: σ) H q := h
theorem r_name11 {x0 x1 x2 x3 x4 x5 x6 x7 x8 x9 x10 x11 : Option V} {σ : L2.St} {v : V} {q : L2.St → Hp → Prop} (h : q (x0 :: x1 :: x2 :: x3 :: x4 :: x5 :: x6 :: x7 :: x8 :: x9 :: x10 :: some v :: σ) H) : gName 11 v (x0 :: x1 :: x2 :: x3 :: x4 :: x5 :: x6 :: x7 :: x8 :: x9 :: x10 :: x11 :: σ) H q := h
theorem r_name12 {x0 x1 x2 x3 x4 x5 x6 x7 x8 x9 x10 x11 x12 : Option V} {σ : L2.St} {v : V} {q : L2.St → Hp → Prop} (h : q (x0 :: x1 :: x2 :: x3 :: x4 :: x5 :: x6 :: x7 :: x8 :: x9 :: x10 :: x11 :: some v :: σ) H) : gName 12 v (x0 :: x1 :: x2 :: x3 :: x4 :: x5 :: x6 :: x7 :: x8 :: x9 :: x10 :: x11 :: x12 :: σ) H q := h
theorem r_name13 {x0 x1 x2 x3 x4 x5 x6 x7 x8 x9 x10 x11 x12 x13 : Option V} {σ : L2.St} {v : V} {q : L2.St → Hp → Prop} (h : q (x0 :: x1 :: x2 :: x3 :: x4 :: x5 :: x6 :: x7 :: x8 :: x9 :: x10 :: x11 :: x12 :: some v :: σ) H) : gName 13 v (x0 :: x1 :: x2 :: x3 :: x4 :: x5 :: x6 :: x7 :: x8 :: x9 :: x10 :: x11 :: x12 :: x13 :: σ) H q := h
theorem r_sub {to ti : TE} {ts : TSet} {v : V} {q : L2.St → Hp → Prop} (h : to σ H fun o H1 => ti σ H1 fun i H2 => ts o i v H2 fun H3 => q σ H3) : gSub to ti ts v σ H q := h
theorem r_setL {p : Addr} {xs : List V} {k : Int} {j : Nat} {v : V} {q : Hp → Prop} (h : H p = some (.lst xs)) (e : ixN xs.length k = some j) (s : q (upd H p (.lst (xs.set j v)))) : rSetL (.ref p) (.int k) v H q := ⟨p, xs, k, j, rfl, rfl, h, e, s⟩
theorem r_set0 {p : Addr} {x0 : V} {xs : List V} {v : V} {q : Hp → Prop} (h : H p = some (.lst (x0 :: xs))) (s : q (upd H p (.lst (v :: xs)))) : rSetL (.ref p) (.int 0) v H q := ⟨p, _, 0, 0, rfl, rfl, h, by
  unfold ixN
  rw [if_pos (by decide), if_pos (by simp only [List.length_cons]; omega)]
  rfl, s⟩
theorem r_set0u {p : Addr} {x0 : V} {xs : List V} {v : V} {q : Hp → Prop} (s : q (upd H p (.lst (v :: xs)))) : rSetL (.ref p) (.int 0) v (upd H p (.lst (x0 :: xs))) q := r_set0 upd_same (by
  rw [upd_upd]
  exact s)
theorem r_set1 {p : Addr} {x0 x1 : V} {xs : List V} {v : V} {q : Hp → Prop} (h : H p = some (.lst (x0 :: x1 :: xs))) (s : q (upd H p (.lst (x0 :: v :: xs)))) : rSetL (.ref p) (.int 1) v H q := ⟨p, _, 1, 1, rfl, rfl, h, by
  unfold ixN
  rw [if_pos (by decide), if_pos (by simp only [List.length_cons]; omega)]
  rfl, s⟩
theorem r_set1u {p : Addr} {x0 x1 : V} {xs : List V} {v : V} {q : Hp → Prop} (s : q (upd H p (.lst (x0 :: v :: xs)))) : rSetL (.ref p) (.int 1) v (upd H p (.lst (x0 :: x1 :: xs))) q := r_set1 upd_same (by
  rw [upd_upd]
  exact s)
theorem r_set2 {p : Addr} {x0 x1 x2 : V} {xs : List V} {v : V} {q : Hp → Prop} (h : H p = some (.lst (x0 :: x1 :: x2 :: xs))) (s : q (upd H p (.lst (x0 :: x1 :: v :: xs)))) : rSetL (.ref p) (.int 2) v H q := ⟨p, _, 2, 2, rfl, rfl, h, by
  unfold ixN
  rw [if_pos (by decide), if_pos (by simp only [List.length_cons]; omega)]
  rfl, s⟩
theorem r_set2u {p : Addr} {x0 x1 x2 : V} {xs : List V} {v : V} {q : Hp → Prop} (s : q (upd H p (.lst (x0 :: x1 :: v :: xs)))) : rSetL (.ref p) (.int 2) v (upd H p (.lst (x0 :: x1 :: x2 :: xs))) q := r_set2 upd_same (by
  rw [upd_upd]
  exact s)
theorem r_set3 {p : Addr} {x0 x1 x2 x3 : V} {xs : List V} {v : V} {q : Hp → Prop} (h : H p = some (.lst (x0 :: x1 :: x2 :: x3 :: xs))) (s : q (upd H p (.lst (x0 :: x1 :: x2 :: v :: xs)))) : rSetL (.ref p) (.int 3) v H q := ⟨p, _, 3, 3, rfl, rfl, h, by
  unfold ixN
  rw [if_pos (by decide), if_pos (by simp only [List.length_cons]; omega)]
  rfl, s⟩
theorem r_set3u {p : Addr} {x0 x1 x2 x3 : V} {xs : List V} {v : V} {q : Hp → Prop} (s : q (upd H p (.lst (x0 :: x1 :: x2 :: v :: xs)))) : rSetL (.ref p) (.int 3) v (upd H p (.lst (x0 :: x1 :: x2 :: x3 :: xs))) q := r_set3 upd_same (by
  rw [upd_upd]
  exact s)
theorem r_set4 {p : Addr} {x0 x1 x2 x3 x4 : V} {xs : List V} {v : V} {q : Hp → Prop} (h : H p = some (.lst (x0 :: x1 :: x2 :: x3 :: x4 :: xs))) (s : q (upd H p (.lst (x0 :: x1 :: x2 :: x3 :: v :: xs)))) : rSetL (.ref p) (.int 4) v H q := ⟨p, _, 4, 4, rfl, rfl, h, by
  unfold ixN
  rw [if_pos (by decide), if_pos (by simp only [List.length_cons]; omega)]
  rfl, s⟩
theorem r_set4u {p : Addr} {x0 x1 x2 x3 x4 : V} {xs : List V} {v : V} {q : Hp → Prop} (s : q (upd H p (.lst (x0 :: x1 :: x2 :: x3 :: v :: xs)))) : rSetL (.ref p) (.int 4) v (upd H p (.lst (x0 :: x1 :: x2 :: x3 :: x4 :: xs))) q := r_set4 upd_same (by
  rw [upd_upd]
  exact s)
theorem r_gtup {n : Nat} {g : TGs} {p : Addr} {xs : List V} {q : L2.St → Hp → Prop} (h : SqT K H p xs) (l : xs.length = n) (s : g xs σ H q) : gTup K n g (.ref p) σ H q := ⟨p, xs, rfl, h, l, s⟩
theorem r_gcons {g : TG} {gs : TGs} {v : V} {r : List V} {q : L2.St → Hp → Prop} (h : g v σ H fun σ' H' => gs r σ' H' q) : gCons g gs (v :: r) σ H q := ⟨v, r, rfl, h⟩
theorem r_gnil {q : L2.St → Hp → Prop} (h : q σ H) : gNil [] σ H q := ⟨rfl, h⟩
/-- a test whose answer is open, or known -/
theorem r_ite {p : Prop} [Decidable p] {A B : Prop} (h1 : p → A) (h2 : ¬ p → B) : if decide p = true then A else B := by
  by_cases h : p
  · rw [decide_eq_true h, if_pos rfl]
    exact h1 h
  · rw [decide_eq_false h, if_neg Bool.false_ne_true]
    exact h2 h
theorem r_iteN {p : Prop} [Decidable p] {A B : Prop} (h1 : ¬ p → A) (h2 : p → B) : if (!decide p) = true then A else B := by
  by_cases h : p
  · rw [decide_eq_true h]
    exact iteF (h2 h)
  · rw [decide_eq_false h]
    exact iteT (h1 h)
theorem r_iteB {b : Bool} {A B : Prop} (h1 : b = true → A) (h2 : b = false → B) : if b = true then A else B := by
  cases b with
  | true => exact iteT (h1 rfl)
  | false => exact iteF (h2 rfl)
/-! loops: what is left once the iterated thing is there -/
def ForR (J : It) (g : TG) (tb : TS) (nx : L2.St → Hp → Prop) (Q : VK) (σ : L2.St) (H : Hp) : Prop := ∃ W : Nat → Nat → L2.St → Hp → Prop, (∃ m, W 0 m σ H) ∧ ∀ i m σ H, W i m σ H →
  (J.stop i H ∧ nx σ H) ∨ (J.go i H ∧ ∃ N : L2.St → Hp → Prop, (∀ σ' H', N σ' H' → ∃ m', m' < m ∧ W (i + 1) m' σ' H') ∧ ∀ x H', J.yld i H x H' → g x σ H' fun σ2 H2 => tb ⟨N, Q, nx, N⟩ σ2 H2)
theorem r_for {wi : TI} {g : TG} {tb : TS} (h : wi σ H fun J H1 => ForR J g tb nx Q σ H1) : tFor wi g tb ⟨nx, Q, bk, ct⟩ σ H := h
def Rg1 (R : It → Hp → Prop) (vs : List V) (H : Hp) : Prop := ∃ j : Int, vs = [.int j] ∧ -(2 ^ 62) ≤ j ∧ j < 2 ^ 62 ∧ R (Itr 0 j.toNat) H
def Rg2 (R : It → Hp → Prop) (vs : List V) (H : Hp) : Prop := ∃ i j : Int, vs = [.int i, .int j] ∧ (-(2 ^ 62) ≤ i ∧ i < 2 ^ 62 ∧ -(2 ^ 62) ≤ j ∧ j < 2 ^ 62) ∧ R (Itr i (j - i).toNat) H
theorem r_rng1 {ta : TA} {R : It → Hp → Prop} (h : ta σ H (Rg1 R)) : iRng1 ta σ H R := h
theorem r_rng2 {ta : TA} {R : It → Hp → Prop} (h : ta σ H (Rg2 R)) : iRng2 ta σ H R := h
theorem r_rg1 {j : Int} {R : It → Hp → Prop} (h1 : -4611686018427387904 ≤ j ∧ j < 4611686018427387904) (h : R (Itr 0 j.toNat) H) : Rg1 R [V.int j] H := ⟨j, rfl, h1.1, h1.2, h⟩
theorem r_rg2 {i j : Int} {R : It → Hp → Prop} (h1 : -4611686018427387904 ≤ i ∧ i < 4611686018427387904 ∧ -4611686018427387904 ≤ j ∧ j < 4611686018427387904) (h : R (Itr i (j - i).toNat) H) : Rg2 R [V.int i, V.int j] H := ⟨i, j, rfl, h1, h⟩
def Il (K : PySem.W.Frag) (R : It → Hp → Prop) (x : V) (H : Hp) : Prop := ∃ a, x = .ref a ∧ (∃ xs, SqL K H a xs) ∧ R (Itl K a) H
def Itp (K : PySem.W.Frag) (R : It → Hp → Prop) (x : V) (H : Hp) : Prop := ∃ a, x = .ref a ∧ (∃ xs, SqT K H a xs) ∧ R (Itt K a) H
theorem r_ilist {R : It → Hp → Prop} (h : te σ H (Il K R)) : iList K te σ H R := h
theorem r_itup {R : It → Hp → Prop} (h : te σ H (Itp K R)) : iTup K te σ H R := h
theorem r_il {a : Addr} {xs : List V} {R : It → Hp → Prop} (h : SqL K H a xs) (q : R (Itl K a) H) : Il K R (.ref a) H := ⟨a, rfl, ⟨xs, h⟩, q⟩
theorem r_it {a : Addr} {xs : List V} {R : It → Hp → Prop} (h : SqT K H a xs) (q : R (Itt K a) H) : Itp K R (.ref a) H := ⟨a, rfl, ⟨xs, h⟩, q⟩
theorem forR_range {lo : Int} {n : Nat} {g : TG} {tb : TS} (Pv : Nat → L2.St → Hp → Prop) (h0 : Pv 0 σ H)
    (hs : ∀ (i : Nat) σ H, i < n → Pv i σ H → g (.int (lo + i)) σ H fun σ2 H2 => tb ⟨Pv (i + 1), Q, nx, Pv (i + 1)⟩ σ2 H2) (hd : ∀ σ H, Pv n σ H → nx σ H) : ForR (Itr lo n) g tb nx Q σ H :=
  for_range (D := ⟨nx, Q, nx, nx⟩) Pv h0 hs hd
theorem forR_list {a : Addr} {xs : List V} {g : TG} {tb : TS} (Pv : Nat → L2.St → Hp → Prop) (h0 : Pv 0 σ H) (hl : ∀ i σ H, i ≤ xs.length → Pv i σ H → SqL K H a xs)
    (hs : ∀ (i : Nat) x σ H, xs[i]? = some x → Pv i σ H → g x σ H fun σ2 H2 => tb ⟨Pv (i + 1), Q, nx, Pv (i + 1)⟩ σ2 H2) (hd : ∀ σ H, Pv xs.length σ H → nx σ H) : ForR (Itl K a) g tb nx Q σ H :=
  for_list (D := ⟨nx, Q, nx, nx⟩) Pv h0 hl hs hd
theorem forR_tup {a : Addr} {xs : List V} {g : TG} {tb : TS} (Pv : Nat → L2.St → Hp → Prop) (h0 : Pv 0 σ H) (hl : ∀ i σ H, i ≤ xs.length → Pv i σ H → SqT K H a xs)
    (hs : ∀ (i : Nat) x σ H, xs[i]? = some x → Pv i σ H → g x σ H fun σ2 H2 => tb ⟨Pv (i + 1), Q, nx, Pv (i + 1)⟩ σ2 H2) (hd : ∀ σ H, Pv xs.length σ H → nx σ H) : ForR (Itt K a) g tb nx Q σ H :=
  for_tup (D := ⟨nx, Q, nx, nx⟩) Pv h0 hl hs hd
/-! comprehensions likewise -/
def LcR (J : It) (g : TG) (tt : TT) (te : TE) (vs : List Nat) (σ : L2.St) (D : Addr) (Q : VK) (H1 : Hp) : Prop := ∃ W : Nat → Nat → Hp → Prop, (∃ m, W 0 m (upd H1 D (.lst []))) ∧ ∀ i m H, W i m H →
  (J.stop i H ∧ Q (.ref D) H) ∨ (J.go i H ∧ ∃ Nx : Hp → Prop, (∀ H', Nx H' → ∃ m', m' < m ∧ W (i + 1) m' H') ∧ ∀ x H', J.yld i H x H' → g x (wipe σ vs) H' fun σ2 H2 => wipe σ2 vs = wipe σ vs ∧ tt σ2 H2 fun b H3 =>
    if b = true then te σ2 H3 fun y H4 => ∃ acc, H4 D = some (.lst acc) ∧ acc.length < sizeLine ∧ Nx (upd H4 D (.lst (acc ++ [y]))) else Nx H3)
theorem r_lc {wi : TI} {g : TG} {tt : TT} {vs : List Nat} (h : wi σ H fun J H1 => ∀ D, H1 D = none → LcR J g tt te vs σ D Q H1) : tLc wi g tt te vs σ H Q := h
/-- one turn's end of a comprehension: the item goes to D -/
def LcE (D : Addr) (N : Hp → Prop) (y : V) (H4 : Hp) : Prop := ∃ acc, H4 D = some (.lst acc) ∧ acc.length < sizeLine ∧ N (upd H4 D (.lst (acc ++ [y])))
theorem lcR_range {lo : Int} {n : Nat} {g : TG} {tt : TT} {vs : List Nat} {D : Addr} {σw : L2.St} (Pv : Nat → Hp → Prop) (ew : wipe σ vs = σw) (h0 : Pv 0 (upd H D (.lst [])))
    (hs : ∀ (i : Nat) H, i < n → Pv i H → g (.int (lo + i)) σw H fun σ2 H2 => wipe σ2 vs = σw ∧ tt σ2 H2 fun b H3 => if b = true then te σ2 H3 (LcE D (Pv (i + 1))) else Pv (i + 1) H3) (hd : ∀ H, Pv n H → Q (.ref D) H) :
    LcR (Itr lo n) g tt te vs σ D Q H := by
  subst ew
  exact lc_range (Qd := Q (.ref D)) Pv h0 hs hd
theorem lcR_list {a : Addr} {xs : List V} {g : TG} {tt : TT} {vs : List Nat} {D : Addr} {σw : L2.St} (Pv : Nat → Hp → Prop) (ew : wipe σ vs = σw) (h0 : Pv 0 (upd H D (.lst []))) (hl : ∀ i H, i ≤ xs.length → Pv i H → SqL K H a xs)
    (hs : ∀ (i : Nat) x H, xs[i]? = some x → Pv i H → g x σw H fun σ2 H2 => wipe σ2 vs = σw ∧ tt σ2 H2 fun b H3 => if b = true then te σ2 H3 (LcE D (Pv (i + 1))) else Pv (i + 1) H3) (hd : ∀ H, Pv xs.length H → Q (.ref D) H) :
    LcR (Itl K a) g tt te vs σ D Q H := by
  subst ew
  exact lc_list (Qd := Q (.ref D)) Pv h0 hl hs hd
theorem lcR_tup {a : Addr} {xs : List V} {g : TG} {tt : TT} {vs : List Nat} {D : Addr} {σw : L2.St} (Pv : Nat → Hp → Prop) (ew : wipe σ vs = σw) (h0 : Pv 0 (upd H D (.lst []))) (hl : ∀ i H, i ≤ xs.length → Pv i H → SqT K H a xs)
    (hs : ∀ (i : Nat) x H, xs[i]? = some x → Pv i H → g x σw H fun σ2 H2 => wipe σ2 vs = σw ∧ tt σ2 H2 fun b H3 => if b = true then te σ2 H3 (LcE D (Pv (i + 1))) else Pv (i + 1) H3) (hd : ∀ H, Pv xs.length H → Q (.ref D) H) :
    LcR (Itt K a) g tt te vs σ D Q H := by
  subst ew
  exact lc_tup (Qd := Q (.ref D)) Pv h0 hl hs hd
theorem r_yes {Q : Bool → Hp → Prop} (q : Q true H) : tYes σ H Q := q
theorem r_lce {D : Addr} {N : Hp → Prop} {y : V} {acc : List V} (h : H D = some (.lst acc)) (l : acc.length < sizeLine) (q : N (upd H D (.lst (acc ++ [y])))) : LcE D N y H := ⟨acc, h, l, q⟩
theorem r_int1 {i : Int} (q : Q (.int i) H) : rInt1 [.int i] H Q := .inl ⟨i, rfl, q⟩
theorem r_int1b {b : Bool} (q : Q (.int (if b then 1 else 0)) H) : rInt1 [.bl b] H Q := .inr ⟨b, rfl, q⟩
theorem r_min2 {i j : Int} (q : Q (.int (min i j)) H) : rMin2 [.int i, .int j] H Q := ⟨i, j, rfl, by
  rw [show (if j < i then j else i) = min i j by split <;> omega]
  exact q⟩
theorem r_max2 {i j : Int} (q : Q (.int (max i j)) H) : rMax2 [.int i, .int j] H Q := ⟨i, j, rfl, by
  rw [show (if j > i then j else i) = max i j by split <;> omega]
  exact q⟩
theorem r_lenL {p : Addr} {ys : List V} (h : SqL K H p ys) (q : Q (.int ys.length) H) : rLen K [.ref p] H Q := ⟨p, ys, rfl, .inl h, q⟩
theorem r_lenT {p : Addr} {ys : List V} (h : SqT K H p ys) (q : Q (.int ys.length) H) : rLen K [.ref p] H Q := ⟨p, ys, rfl, .inr h, q⟩
theorem r_listL {p : Addr} {ys : List V} (h : SqL K H p ys) (q : ∀ l, H l = none → Q (.ref l) (upd H l (.lst ys))) : rListOf K [.ref p] H Q := ⟨p, ys, rfl, .inl h, q⟩
theorem r_listT {p : Addr} {ys : List V} (h : SqT K H p ys) (q : ∀ l, H l = none → Q (.ref l) (upd H l (.lst ys))) : rListOf K [.ref p] H Q := ⟨p, ys, rfl, .inr h, q⟩
theorem r_tupL {p : Addr} {ys : List V} (h : SqL K H p ys) (q : ∀ l, H l = none → Q (.ref l) (upd H l (.tup ys))) : rTupOf K [.ref p] H Q := ⟨p, ys, rfl, .inl ⟨h, q⟩⟩
theorem r_tupT {p : Addr} {ys : List V} (h : SqT K H p ys) (q : Q (.ref p) H) : rTupOf K [.ref p] H Q := ⟨p, ys, rfl, .inr ⟨h, q⟩⟩
theorem r_at {N : List PySem.Str} {vs : List V} {t : TS} {D : Ends} (e : L2.start N vs = σ) (h : t D σ H) : t D (L2.start N vs) H := by
  rw [e]
  exact h
/-! methods of lists -/
theorem r_appU {l : Addr} {xs : List V} {y : V} (s : xs.length < sizeLine) (q : Q .non (upd H l (.lst (xs ++ [y])))) : rAppend (.ref l) [y] (upd H l (.lst xs)) Q := ⟨l, xs, y, rfl, rfl, upd_same, s, by
  rw [upd_upd]
  exact q⟩
theorem r_appT {l : Addr} {xs : List V} {y : V} (h : H l = some (.lst xs)) (s : xs.length < sizeLine) (q : Q .non (upd H l (.lst (xs ++ [y])))) : rAppend (.ref l) [y] H Q := ⟨l, xs, y, rfl, rfl, h, s, q⟩
end
theorem at_int {ns : List Int} {p : Int} (h0 : 0 ≤ p) (h1 : p < ns.length) : ∃ c ∈ ns, atI (ns.map V.int) p = some (.int c) := by
  have hlt : p.toNat < ns.length := by omega
  refine ⟨ns[p.toNat], List.getElem_mem hlt, at_of (j := p.toNat) (by omega) ?_⟩
  rw [List.getElem?_map, List.getElem?_eq_getElem hlt]
  rfl
/-- 0 .. n - 1 -/
def rgI (n : Int) : List Int := (List.range n.toNat).map fun (i : Nat) => (i : Int)
theorem rgI_len (n : Int) : (rgI n).length = n.toNat := by
  unfold rgI
  rw [List.length_map, List.length_range]
theorem mem_rgI {n z : Int} : z ∈ rgI n ↔ 0 ≤ z ∧ z < n := by
  unfold rgI
  rw [List.mem_map]
  constructor
  · rintro ⟨i, hi, rfl⟩
    rw [List.mem_range] at hi
    omega
  · rintro ⟨h1, h2⟩
    exact ⟨z.toNat, List.mem_range.mpr (by omega), by omega⟩
theorem rgI_nodup (n : Int) : (rgI n).Nodup := by
  unfold rgI
  exact List.pairwise_map.mpr (List.nodup_range.imp fun {i j} h e => h (by omega))
theorem rgV_rgI (n : Int) : rgV 0 n = (rgI n).map V.int := by
  unfold rgV rgI
  rw [List.map_map, Int.sub_zero]
  refine List.map_congr_left fun i _ => ?_
  show V.int (0 + (i : Int)) = V.int (i : Int)
  rw [Int.zero_add]
theorem r_lRg {H : Hp} {Q : VK} {n : Int} (h0 : 0 ≤ n) (h1 : n ≤ 10000) (q : ∀ p, H p = none → Q (.ref p) (upd H p (.lst ((rgI n).map V.int)))) : LRg Q 0 n H := ⟨.of_le (by omega) (by omega) (by omega) h0, fun p hp => by
  rw [rgV_rgI]
  exact q p hp⟩
theorem small_len {n : Nat} (h : n ≤ 100000) : n ≤ sizeLine := Nat.le_trans h (by decide)
theorem small_lt {n : Nat} (h : n < 100000) : n < sizeLine := Nat.lt_of_lt_of_le h (by decide)

set_option Elab.async false
set_option linter.all false
open PySem PySem.Spec PyProof.Rows L2
/-! ## the mathematics of pairs -/
def rowP (u lo : Int) (k : Nat) : List (Int × Int) := (List.range k).map fun (j : Nat) => (u, lo + (j : Int))
theorem rowP_succ (u lo : Int) (k : Nat) : rowP u lo (k + 1) = rowP u lo k ++ [(u, lo + (k : Int))] := by
  unfold rowP
  rw [List.range_succ, List.map_append]
  rfl
theorem mem_rowP {u lo : Int} {k : Nat} {p : Int × Int} : p ∈ rowP u lo k ↔ p.1 = u ∧ lo ≤ p.2 ∧ p.2 < lo + k := by
  unfold rowP
  rw [List.mem_map]
  constructor
  · rintro ⟨j, hj, rfl⟩
    rw [List.mem_range] at hj
    exact ⟨rfl, by show lo ≤ lo + (j : Int); omega, by show lo + (j : Int) < lo + k; omega⟩
  · obtain ⟨a, b⟩ := p
    rintro ⟨h1, h2, h3⟩
    refine ⟨(b - lo).toNat, List.mem_range.mpr (by simp only at h2 h3; omega), ?_⟩
    simp only at h1 h2 h3 ⊢
    rw [h1, show lo + ((b - lo).toNat : Int) = b by omega]
theorem rowP_asc (u lo : Int) : ∀ k, (rowP u lo k).Pairwise ltP
  | 0 => List.Pairwise.nil
  | k + 1 => by
    rw [rowP_succ]
    refine List.pairwise_append.mpr ⟨rowP_asc u lo k, List.pairwise_singleton _ _, fun p hp q hq => ?_⟩
    obtain ⟨h1, h2, h3⟩ := mem_rowP.mp hp
    rw [List.mem_singleton.mp hq]
    exact .inr ⟨h1, h3⟩
theorem rowP_len (u lo : Int) (k : Nat) : (rowP u lo k).length = k := by
  unfold rowP
  rw [List.length_map, List.length_range]
def preP (n : Nat) : Nat → List (Int × Int)
  | 0 => []
  | i + 1 => preP n i ++ rowP (i : Int) ((i : Int) + 1) (n - 1 - i)
def allP (n : Nat) : List (Int × Int) := preP n n
theorem mem_preP {n : Nat} {p : Int × Int} : ∀ {i : Nat}, i ≤ n → (p ∈ preP n i ↔ 0 ≤ p.1 ∧ p.1 < i ∧ p.1 < p.2 ∧ p.2 < n)
  | 0, _ => by
    constructor
    · intro h
      cases h
    · rintro ⟨h1, h2, _⟩
      have h2 : p.1 < 0 := h2
      omega
  | i + 1, hi => by
    show p ∈ preP n i ++ rowP (i : Int) ((i : Int) + 1) (n - 1 - i) ↔ _
    rw [List.mem_append, mem_preP (by omega : i ≤ n), mem_rowP]
    constructor
    · rintro (⟨h1, h2, h3, h4⟩ | ⟨h1, h2, h3⟩)
      · exact ⟨h1, by omega, h3, h4⟩
      · exact ⟨by omega, by omega, by omega, by omega⟩
    · rintro ⟨h1, h2, h3, h4⟩
      by_cases e : p.1 = (i : Int)
      · exact .inr ⟨e, by omega, by omega⟩
      · exact .inl ⟨h1, by omega, h3, h4⟩
theorem mem_allP {n : Nat} {p : Int × Int} : p ∈ allP n ↔ 0 ≤ p.1 ∧ p.1 < p.2 ∧ p.2 < n := by
  unfold allP
  rw [mem_preP (Nat.le_refl n)]
  omega
theorem preP_asc {n : Nat} : ∀ {i : Nat}, i ≤ n → (preP n i).Pairwise ltP
  | 0, _ => .nil
  | i + 1, hi => by
    show (preP n i ++ rowP (i : Int) ((i : Int) + 1) (n - 1 - i)).Pairwise ltP
    refine List.pairwise_append.mpr ⟨preP_asc (by omega), rowP_asc _ _ _, fun p hp q hq => ?_⟩
    have h1 := (mem_preP (by omega : i ≤ n)).mp hp
    have h2 := mem_rowP.mp hq
    exact .inl (by omega)
theorem allP_asc (n : Nat) : (allP n).Pairwise ltP := preP_asc (Nat.le_refl n)
theorem preP_len {n : Nat} : ∀ {i : Nat}, (preP n i).length ≤ i * n
  | 0 => Nat.zero_le _
  | i + 1 => by
    show (preP n i ++ rowP (i : Int) ((i : Int) + 1) (n - 1 - i)).length ≤ _
    rw [List.length_append, rowP_len, Nat.succ_mul]
    have := preP_len (n := n) (i := i)
    omega
theorem ltP_irrefl (p : Int × Int) : ¬ ltP p p := by
  unfold ltP
  omega
theorem ltP_trans {p q r : Int × Int} (h1 : ltP p q) (h2 : ltP q r) : ltP p r := by
  unfold ltP at *
  omega
theorem ltP_of_le_ne {p q : Int × Int} (h : leP p q) (n : p ≠ q) : ltP p q := by
  obtain ⟨a, b⟩ := p
  obtain ⟨c, d⟩ := q
  unfold leP at h
  unfold ltP
  simp only at *
  by_cases h2 : a = c
  · by_cases h3 : b = d
    · exact absurd (by rw [h2, h3]) n
    · omega
  · omega
theorem asc_nodup {ps : List (Int × Int)} (h : ps.Pairwise ltP) : ps.Nodup := by
  refine List.Pairwise.imp (R := ltP) (fun {p q} h => ?_) h
  intro e
  rw [e] at h
  exact ltP_irrefl q h
/-- two ascending lists of the same members are one -/
theorem asc_ext : ∀ {ps qs : List (Int × Int)}, ps.Pairwise ltP → qs.Pairwise ltP → (∀ p, p ∈ ps ↔ p ∈ qs) → ps = qs
  | [], [], _, _, _ => rfl
  | [], q :: qs, _, _, h => absurd ((h q).mpr List.mem_cons_self) (by simp)
  | p :: ps, [], _, _, h => absurd ((h p).mp List.mem_cons_self) (by simp)
  | p :: ps, q :: qs, h1, h2, h => by
    obtain ⟨a1, a2⟩ := List.pairwise_cons.mp h1
    obtain ⟨b1, b2⟩ := List.pairwise_cons.mp h2
    have e : p = q := by
      rcases List.mem_cons.mp ((h p).mp List.mem_cons_self) with e | e
      · exact e
      · rcases List.mem_cons.mp ((h q).mpr List.mem_cons_self) with e2 | e2
        · exact e2.symm
        · exact absurd (ltP_trans (a1 q e2) (b1 p e)) (ltP_irrefl p)
    subst e
    rw [asc_ext a2 b2 fun r => ?_]
    constructor
    · intro hr
      rcases List.mem_cons.mp ((h r).mp (List.mem_cons_of_mem _ hr)) with e | e
      · rw [e] at hr
        exact absurd (a1 p hr) (ltP_irrefl p)
      · exact e
    · intro hr
      rcases List.mem_cons.mp ((h r).mpr (List.mem_cons_of_mem _ hr)) with e | e
      · rw [e] at hr
        exact absurd (b1 p hr) (ltP_irrefl p)
      · exact e
theorem nodup_le {α : Type} [DecidableEq α] : ∀ (l m : List α), l.Nodup → (∀ x ∈ l, x ∈ m) → l.length ≤ m.length
  | [], _, _, _ => Nat.zero_le _
  | x :: l, m, hn, hs => by
    obtain ⟨h1, h2⟩ := List.nodup_cons.mp hn
    have hx : x ∈ m := hs x List.mem_cons_self
    have ih := nodup_le l (m.erase x) h2 fun y hy => by
      have hne : y ≠ x := by
        intro e
        rw [e] at hy
        exact h1 hy
      exact (List.mem_erase_of_ne hne).2 (hs y (List.mem_cons_of_mem _ hy))
    have e := List.length_erase_of_mem hx
    have p := List.length_pos_of_mem hx
    simp only [List.length_cons]
    omega
/-- what the walk over the sorted rows keeps: ascending, the same members, the same last one -/
structure Ded (qs fs : List (Int × Int)) : Prop where
  asc : fs.Pairwise ltP
  mem : ∀ p, p ∈ fs ↔ p ∈ qs
  last : fs.getLast? = qs.getLast?
theorem Ded.nil : Ded [] [] := ⟨.nil, fun _ => Iff.rfl, rfl⟩
theorem last_snoc {α : Type} (l : List α) (x : α) : (l ++ [x]).getLast? = some x := by simp
/-- the last row again -/
theorem Ded.same {qs fs : List (Int × Int)} {q : Int × Int} (D : Ded qs fs) (h : fs.getLast? = some q) : Ded (qs ++ [q]) fs := by
  refine ⟨D.asc, fun p => ?_, by rw [last_snoc, h]⟩
  rw [List.mem_append, List.mem_singleton, D.mem]
  constructor
  · exact .inl
  · rintro (z | z)
    · exact z
    · rw [z, ← D.mem]
      exact List.mem_of_getLast? h
/-- another one -/
theorem Ded.more {qs fs : List (Int × Int)} {q : Int × Int} (D : Ded qs fs) (hl : (qs ++ [q]).Pairwise leP) (h : fs.getLast? ≠ some q) : Ded (qs ++ [q]) (fs ++ [q]) := by
  refine ⟨?_, fun p => ?_, by rw [last_snoc, last_snoc]⟩
  · refine List.pairwise_append.mpr ⟨D.asc, List.pairwise_singleton _ _, fun p hp r hr => ?_⟩
    rw [List.mem_singleton.mp hr]
    obtain ⟨l1, _, l3⟩ := List.pairwise_append.mp hl
    have hle : ∀ z ∈ qs, leP z q := fun z hz => l3 z hz q (List.mem_singleton.mpr rfl)
    -- fs is not empty; its last one is not q
    obtain ⟨z, hz⟩ : ∃ z, fs.getLast? = some z := by
      cases e : fs.getLast? with
      | some z => exact ⟨z, rfl⟩
      | none =>
        rw [List.getLast?_eq_none_iff] at e
        rw [e] at hp
        cases hp
    have zq : ltP z q := ltP_of_le_ne (hle z ((D.mem z).mp (List.mem_of_getLast? hz))) fun e => h (by rw [hz, e])
    obtain ⟨pre, e⟩ : ∃ pre, fs = pre ++ [z] := by
      obtain ⟨hne, e⟩ := List.getLast?_eq_some_iff.mp hz
      exact ⟨_, e⟩
    rw [e] at hp
    rcases List.mem_append.mp hp with h1 | h1
    · have a := D.asc
      rw [e] at a
      exact ltP_trans ((List.pairwise_append.mp a).2.2 p h1 z (List.mem_singleton.mpr rfl)) zq
    · rw [List.mem_singleton.mp h1]
      exact zq
  · rw [List.mem_append, List.mem_append, D.mem]
theorem sz1 {a : V} : [a].length ≤ sizeLine := by show 1 ≤ sizeLine; decide
theorem sz2 {a b : V} : [a, b].length ≤ sizeLine := by show 2 ≤ sizeLine; decide
theorem sz3 {a b c : V} : [a, b, c].length ≤ sizeLine := by show 3 ≤ sizeLine; decide
theorem sz4 {a b c d : V} : [a, b, c, d].length ≤ sizeLine := by show 4 ≤ sizeLine; decide
theorem sz5 {a b c d e : V} : [a, b, c, d, e].length ≤ sizeLine := by show 5 ≤ sizeLine; decide
theorem at_last {zs : List V} {z : V} (h : zs.getLast? = some z) : atI zs (-1) = some z := by
  obtain ⟨pre, e⟩ := List.getLast?_eq_some_iff.mp h
  rw [e]
  exact atI_last _ _
theorem pd_last {α β : Type} {F : α → β → Prop} {xs : List α} {ps : List β} {p : β} (h : Paired F xs ps) (hp : ps.getLast? = some p) : ∃ x, xs.getLast? = some x ∧ F x p := by
  rw [List.getLast?_eq_getElem?] at hp
  obtain ⟨x, hx, f⟩ := pd_get2 h hp
  refine ⟨x, ?_, f⟩
  rw [List.getLast?_eq_getElem?, h.length]
  exact hx
section
variable {K : PySem.W.Frag} {H : Hp} {Q : VK}
theorem r_eqNil {f e : Addr} {xs : List V} {ps : List (Int × Int)} (h : H f = some (.lst xs)) (he : H e = some (.lst [])) (hp : Prs H xs ps) (q : Q (.bl (decide (ps = []))) H) : rEqD K (.ref f) (.ref e) H Q := by
  refine ⟨.list (ps.map prD2), .list [], .lst (.inl (.inl h)) hp.dps, .lst (.inl (.inl he)) .nil, prD2s_shL ps, prD2s_shL [], ?_⟩
  cases ps with
  | nil => exact q
  | cons p ps => exact q
theorem r_neP {x y : V} {p r : Int × Int} (hx : IsP H x p) (hy : IsP H y r) (q : Q (.bl (!decide (p = r))) H) : rNeD K x y H Q :=
  ⟨prD2 p, prD2 r, hx.dp, hy.dp, prD2_shaped p, prD2_shaped r, by rw [prD2_eqv]; exact q⟩
end
/-- a pair with its less end first -/
def nrm (p : Int × Int) : Int × Int := (min p.1 p.2, max p.1 p.2)
/-- a graph: the number of vertices, the ascending edges -/
structure GoodG (n : Int) (ps : List (Int × Int)) : Prop where
  one : 1 ≤ n
  asc : ps.Pairwise ltP
  inn : ∀ p ∈ ps, 0 ≤ p.1 ∧ p.1 < p.2 ∧ p.2 < n

set_option Elab.async false
set_option linter.all false
set_option maxRecDepth 100000
set_option maxHeartbeats 4000000
open PySem PySem.Spec PyProof.Rows L2
/-! # sets of tuples that a comprehension lays -/
section
variable {X : Cx}
/-- D takes the tuple y in -/
def AdT (K : PySem.W.Frag) (P : Program) (w : World) (D : Addr) (N : Hp → Prop) : V → Hp → Prop := fun y H => ∃ (b : Addr) (k : List Int) (L : List (Addr × List Int)), y = .ref b ∧ SqT K H b (k.map V.int) ∧ H D = some (SetTO P w D L) ∧
  (∀ p ∈ L, SqT K H p.1 (p.2.map V.int)) ∧ L.length + 1 < 64 ∧ ∀ L', (k ∈ L.map (·.2) → L' = L) → (k ∉ L.map (·.2) → L'.Perm ((b, k) :: L)) → N (upd H D (SetTO P w D L'))
theorem addT_ok {pins : List (Addr × Obj)} {σ : L2.St} {H : Hp} {s : Shared} {E : Value → Shared → Prop} {D : Addr} {N : Hp → Prop} {y : V} {u : Value} {Q : Value → Shared → Prop} (hu : X.A.units + 64 < cLine) (I : Inv X pins σ H s) (r : RelV y u)
    (h : AdT X.K X.prog X.w D N y H) (q : ∀ s' H', Inv X pins σ H' s' → N H' → Q .none s') : wpAny (model X.prog X.w) X.A (call (.builtin "set.add") [.ref D, u]) Q E s := by
  obtain ⟨b, k, L, rfl, hb, hD, hL, few, n⟩ := h
  cases r
  have R0 : SetT0 X.prog X.w s.heap D L := (I.hok D _ hD).1
  obtain ⟨es, ep, t, R⟩ := R0.full fun p hp => I.isT (hL p hp)
  have hx := I.isT hb
  have ty : s.TypeIs (.ref D) "set" := by
    obtain ⟨o, ho, hex, _⟩ := R.ob
    exact ⟨o, ho, hex.1⟩
  refine wpAny_call_entry F.slot_set_add ty F.entry_set_add ?_ (F.args_set_add_2 _ _)
  unfold Builtin.«set.add» Builtin.Frozenset.oneOther Builtin.Frozenset.addrOf setAdd
  simp only [List.isEmpty_nil, bind_assoc]
  refine (wpAny_bind (wpAny_pure ?_)); (try dsimp only)
  refine (wpAny_bind (wpAny_pure ?_)); (try dsimp only)
  refine (wpAny_bind ?_); refine (wpAny_holding ?_)
  refine (wpAny_bind (wpAny_pyHash_tuple (by rw [Around.in1_units]; omega) hx ?_))
  refine add_at (s := { s with toks := s.toks + (k.length + 1) }) R hx (by rw [Around.in1_units]; omega) few fun _ h' L' es' ep' t' sb R' same more => ?_
  show wpAny _ _ (ret Value.none) _ _ _
  have he : ∃ o, h'.get? D = some o := by
    obtain ⟨o, ho, _⟩ := R'.ob
    exact ⟨o, ho⟩
  exact wpAny_pure ⟨_, rfl, q _ _ (I.write (e := D) (t' := s.toks + (k.length + 1)) (by rw [hD]; trivial) (.inl rfl) (fun c o hc ho => (sb.2 c hc).trans ho) he (setTO_new R'.t0)) (n L' same more)⟩
/-- the set's own reading: what is met, turn by turn -/
def ScR (K : PySem.W.Frag) (P : Program) (w : World) (J : It) (g : TG) (tt : TT) (te : TE) (vs : List Nat) (σ : L2.St) (D : Addr) (Q : VK) (H1 : Hp) : Prop := ∃ W : Nat → Nat → Hp → Prop, (∃ m0, W 0 m0 (upd H1 D (SetTO P w D []))) ∧ ∀ i m H, W i m H →
  (J.stop i H ∧ Q (.ref D) H) ∨ (J.go i H ∧ ∃ Nx : Hp → Prop, (∀ H', Nx H' → ∃ m', m' < m ∧ W (i + 1) m' H') ∧ ∀ x H', J.yld i H x H' → g x (wipe σ vs) H' fun σ2 H2 => wipe σ2 vs = wipe σ vs ∧ tt σ2 H2 fun b H3 => if b = true then te σ2 H3 (AdT K P w D Nx) else Nx H3)
def tST (K : PySem.W.Frag) (P : Program) (w : World) (wi : TI) (g : TG) (tt : TT) (te : TE) (vs : List Nat) : TE := fun σ H Q => wi σ H fun J H1 => ∀ D, H1 D = none → ScR K P w J g tt te vs σ D Q H1
theorem freshT {H : Hp} {h : Heap} {D : Addr} {P : Program} {w : World} (e : h.objs.size = D) : ObjOk P w H (h.push { cls := .type "set", dict := none, data := .set #[] 0 (.fresh 0 0 (!w.params.followText "set-order")) }) D (SetTO P w D []) := by
  subst e
  exact setTO_new (setTR_fresh (Heap.get?_push_size _ rfl)).t0
variable {elt tg iter : Expr} {ifs : List Expr} {scope : Scope} {own : List (PySem.Str × Nat)} {pos : Pos} {wi : TI} {g : TG} {tt : TT} {te : TE}
theorem pe_setT (hu : X.A.units + 64 < cLine) (hc : X.calm = true) (hN : X.N.Nodup) (hi : PI X tg iter wi) (ok : BlkOk X.N X.env.scope scope own)
    (hg : ∀ (s0 : Shared) (H0 : Hp) (C0 : Addr) (l0 : List (PySem.Str × Addr)) (fp : List Addr), PG (X.blk s0 H0 scope (compEnvC scope l0 C0 X.env) fp) tg g)
    (ht : ∀ (s0 : Shared) (H0 : Hp) (C0 : Addr) (l0 : List (PySem.Str × Addr)) (fp : List Addr), PTs (X.blk s0 H0 scope (compEnvC scope l0 C0 X.env) fp) ifs tt)
    (he : ∀ (s0 : Shared) (H0 : Hp) (C0 : Addr) (l0 : List (PySem.Str × Addr)) (fp : List Addr), PE (X.blk s0 H0 scope (compEnvC scope l0 C0 X.env) fp) elt te)
    (hs : ∀ x, foldedSetIterable iter X.env x = pure x := by intro _; rfl) :
    PE X (.SetComp elt [⟨tg, iter, ifs, 0⟩] scope pos) (tST X.K X.prog X.w wi g tt te (own.map (·.2))) := by
  refine ⟨fun pins s σ H Q I h => ?_⟩
  rw [PpSet.eval_SetComp]
  have hfr : ∀ y ∈ scope.names, y.2 = .free → ∃ c, X.env.cells.lookup y.1 = some c := fun y hy e => (ok.free y hy e).elim (fun k => I.ok.has _ (.inl k)) (fun k => I.ok.has _ (.inr k))
  refine wpAny_comprehension_free (use := none) rfl hs (closure_ok hfr) ok.kind (fun y hy e => by rw [ok.uniq y hy, e]) (thn (hi.run pins s σ H _ I h) fun xv s1 hx => thn hx fun itv s2 h2 => ?_)
  obtain ⟨it, fp, tn, J, H2, e2, I2, T, st2, f2, q⟩ := h2
  subst e2
  refine PpSet.newSet_ok (newEnv_comp ?_)
  generalize hD : s2.heap.objs.size = D
  have dn : H2 D = none := I2.hok.fresh (Nat.le_of_eq hD)
  obtain ⟨W, ⟨m0, w0⟩, turn⟩ := q D dn
  let ob : Obj := { cls := .type "set", dict := none, data := .set #[] 0 (.fresh 0 0 (!X.w.params.followText "set-order")) }
  show codeAny _ _ _ _ ({ ({ s2 with heap := s2.heap.push ob } : Shared) with heap := _ } : Shared)
  generalize es3 : ({ s2 with heap := s2.heap.push ob } : Shared) = s3
  have hp3 : s3.heap = s2.heap.push ob := by rw [← es3]
  let H3 : Hp := upd H2 D (SetTO X.prog X.w D [])
  have J3 : Inv X pins σ H3 s3 := by
    rw [← es3]
    exact I2.laid (t' := s2.toks) (fun b o e => Heap.get?_push_of_some _ e) (Nat.le_of_eq hD) (freshT hD)
  have lt : ∀ b ∈ fp, b < s2.heap.objs.size := fun b hb => by
    obtain ⟨o, e, _⟩ := T.obj _ _ st2 b hb
    exact Heap.lt_size e
  have F3 : ∀ b ∈ fp, FpOk X pins H3 b ∧ b < s3.heap.objs.size := fun b hb => by
    have l1 := lt b hb
    refine ⟨⟨?_, (f2 b hb).2⟩, by rw [hp3, Heap.size_push]; exact Nat.lt_succ_of_lt l1⟩
    show upd H2 D _ b = none
    rw [upd_ne (Nat.ne_of_lt (hD ▸ l1))]
    exact (f2 b hb).1
  have st3 : tn 0 s3.heap := T.keep _ _ _ st2 fun b _ o e => by rw [hp3]; exact Heap.get?_push_of_some _ e
  have J4 := block_start J3 ok hN F3
  have pg := hg s3 H3 s3.heap.objs.size (cellsFrom (s3.heap.objs.size + 1) scope.names (cloFrom X.env.cells scope.names [])) fp
  have pt := ht s3 H3 s3.heap.objs.size (cellsFrom (s3.heap.objs.size + 1) scope.names (cloFrom X.env.cells scope.names [])) fp
  have pe := he s3 H3 s3.heap.objs.size (cellsFrom (s3.heap.objs.size + 1) scope.names (cloFrom X.env.cells scope.names [])) fp
  show codeAny _ _ (.compStart (.SetComp elt [⟨tg, iter, ifs, 0⟩] scope pos) 0 (.ref it) (.ref D) (compEnvC scope (cellsFrom (s3.heap.objs.size + 1) scope.names (cloFrom X.env.cells scope.names [])) s3.heap.objs.size X.env)) _ { s3 with heap := pushCells (s3.heap.push { cls := .type "dict", data := .dict #[] }) scope.names }
  generalize ece : compEnvC scope (cellsFrom (s3.heap.objs.size + 1) scope.names (cloFrom X.env.cells scope.names [])) s3.heap.objs.size X.env = ce at J4 pg pt pe ⊢
  have ceL : ce.locals = s3.heap.objs.size := by rw [← ece]; rfl
  generalize es4 : ({ s3 with heap := pushCells (s3.heap.push { cls := .type "dict", data := .dict #[] }) scope.names } : Shared) = s4 at J4 ⊢
  have st4 : tn 0 s4.heap := T.keep _ _ _ st3 fun b _ o e => by rw [← es4]; exact pushCells_keeps _ _ _ _ (Heap.get?_push_of_some _ e)
  let Y : Cx := X.blk s3 H3 scope ce fp
  have fpOf : ∀ {σ' : L2.St} {H' : Hp} {s' : Shared}, Inv Y [] σ' H' s' → (∀ b ∈ fp, H' b = none) → ∀ b ∈ fp, FpOk Y [] H' b := fun {σ' H' s'} I' hn b hb =>
    ⟨hn b hb, (I'.ok.exf b hb).1, I'.ok.exfs b hb, .inl hb, fun x c e => (I'.ok.exf b hb).2 x c e, fun p hp => absurd (show p ∈ ([] : List (Addr × Obj)) ++ [] from hp) (by simp)⟩
  refine (fun loop => PpSet.codeAny_compStart_set loop (T.self X.A 0 _ _ _ st4 loop)) ?_
  refine PpSet.compLoopS_any (fun n s' => ∃ i H', Inv Y [] (wipe σ (own.map (·.2))) H' s' ∧ tn i s'.heap ∧ (∀ b ∈ fp, H' b = none) ∧ W i n H') ?_ m0 ⟨0, H3, J4, st4, fun b hb => (F3 b hb).1.1, w0⟩
  rintro n s5 ⟨i, H5, J5, st5, n5, w5⟩
  rcases turn i n H5 w5 with ⟨stop, qq⟩ | ⟨go, Nx, hNx, step⟩
  · -- the end
    refine thnF (T.done Y rfl rfl rfl hc i [] s5 _ H5 (fun _ _ => False) J5 (fpOf J5 n5) st5 stop) fun r s6 ⟨hr, J6⟩ => ?_
    subst hr
    have J7 : Inv X pins σ H5 s6 := J3.call' (ch := fp) J6.os J6.base J6.hok J6.bare fun b hb => ⟨(F3 b hb).1.2.2.2.1, (F3 b hb).1.2.1, (F3 b hb).1.2.2.2.2.1, (F3 b hb).1.2.2.2.2.2⟩
    have nC : H5 s3.heap.objs.size = none := ceL ▸ (show H5 ce.locals = none from J6.free)
    obtain ⟨mm, hn, _⟩ := J6.loc
    refine ⟨mm, ceL ▸ (show s6.heap.Ns ce.locals mm from hn), fun h'' sb => ?_⟩
    obtain ⟨f0, f1, f2, f3, f4, f5⟩ := J3.fpOk (Nat.le_refl _) nC
    exact ⟨.ref D, H5, J7.turned (t' := s6.toks) (fun b o hb e => (sb.2 b hb).trans e) f0 f1 f3 f4 f5, rfl, qq⟩
  · -- a turn
    refine thnF (T.item Y rfl rfl rfl hc i [] s5 _ H5 (fun _ _ => False) J5 (fpOf J5 n5) st5 go) fun r s6 ⟨u, hr, h6⟩ => ?_
    subst hr
    refine thnF h6 fun _ s7 ⟨x, H7, J7, r7, y7, st7, n7⟩ => ?_
    have J8 := J7.pinned (fpOf J7 n7) (T.obj _ _ st7)
    refine thnF (pg.run _ s7 _ H7 x u _ J8 r7 (step x H7 y7)) fun _ s8 ⟨σ8, H8, J9, hw8, q8⟩ => ?_
    refine thnF (pt.run _ s8 σ8 H8 _ J9 q8) fun b s9 ⟨H9, Ja, q9⟩ => ?_
    have fin : ∀ (s' : Shared) (H' : Hp), Inv Y ([] ++ pinsAt fp s7.heap) σ8 H' s' → Nx H' → ∃ m, m < n ∧ ∃ i H', Inv Y [] (wipe σ (own.map (·.2))) H' s' ∧ tn i s'.heap ∧ (∀ b ∈ fp, H' b = none) ∧ W i m H' := fun s' H' Jz nx => by
      obtain ⟨m', hm, w'⟩ := hNx H' nx
      have pin : ∀ b ∈ fp, ∀ o, s7.heap.get? b = some o → s'.heap.get? b = some o ∧ H' b = none := fun b hb o e => by
        have z := Jz.pin (b, o) (List.mem_append_right _ (List.mem_append_right _ (mem_pinsAt hb e)))
        exact ⟨z.1, z.2.1⟩
      have hlen : (wipe σ (own.map (·.2))).length = σ8.length := by rw [← hw8, wipe_length]
      refine ⟨m', hm, i + 1, H', (Jz.unpinned (pins := [])).weak hlen (fun j v e => ?_), T.keep _ _ _ st7 fun b hb o e => (pin b hb o e).1, fun b hb => ?_, w'⟩
      · rw [← hw8] at e
        exact (wipe_some e).1
      · obtain ⟨o, e, _⟩ := T.obj _ _ st7 b hb
        exact (pin b hb o e).2
    cases b with
    | false =>
      simp only [Bool.false_eq_true, if_false] at q9 ⊢
      exact fin _ _ Ja q9
    | true =>
      simp only [if_true] at q9 ⊢
      refine thnF (pe.run _ s9 σ8 H9 _ Ja q9) fun z s10 ⟨yv, Hb, Jb, rb, ad⟩ => ?_
      exact addT_ok (X := Y) hu Jb rb ad fin
end
section
variable {X : Cx} {K : PySem.W.Frag} {P : Program} {w : World}
theorem PE.setK {e : Expr} {wi : TI} {g : TG} {tt : TT} {te : TE} {vs : List Nat} (h1 : X.K = K) (h2 : X.prog = P) (h3 : X.w = w) (p : PE X e (tST X.K X.prog X.w wi g tt te vs)) : PE X e (tST K P w wi g tt te vs) := h1 ▸ h2 ▸ h3 ▸ p
theorem cr_sortedTK (h1 : X.K = K) (h2 : X.prog = P) (h3 : X.w = w) (hc : X.calm = true) : CallR X (.builtin "sorted") (rSortedT K P w) := h1 ▸ h2 ▸ h3 ▸ cr_sortedT hc
variable {σ : L2.St} {H : Hp} {Q : VK}
theorem r_set {wi : TI} {g : TG} {tt : TT} {te : TE} {vs : List Nat} (h : wi σ H fun J H1 => ∀ D, H1 D = none → ScR K P w J g tt te vs σ D Q H1) : tST K P w wi g tt te vs σ H Q := h
theorem scR_list {a : Addr} {xs : List V} {g : TG} {tt : TT} {te : TE} {vs : List Nat} {D : Addr} {σw : L2.St} (Pv : Nat → Hp → Prop) (ew : wipe σ vs = σw) (h0 : Pv 0 (upd H D (SetTO P w D []))) (hl : ∀ i H, i ≤ xs.length → Pv i H → SqL K H a xs)
    (hs : ∀ (i : Nat) x H, xs[i]? = some x → Pv i H → g x σw H fun σ2 H2 => wipe σ2 vs = σw ∧ tt σ2 H2 fun b H3 => if b = true then te σ2 H3 (AdT K P w D (Pv (i + 1))) else Pv (i + 1) H3) (hd : ∀ H, Pv xs.length H → Q (.ref D) H) :
    ScR K P w (Itl K a) g tt te vs σ D Q H := by
  subst ew
  refine ⟨fun i m H => (m = xs.length - i ∧ i ≤ xs.length) ∧ Pv i H, ⟨_, ⟨rfl, Nat.zero_le _⟩, h0⟩, fun i m H ⟨⟨em, hi⟩, p⟩ => ?_⟩
  subst em
  have hq := hl i H hi p
  rcases Nat.lt_or_ge i xs.length with c | c
  · exact .inr ⟨⟨xs, xs[i], hq, List.getElem?_eq_getElem c⟩, Pv (i + 1), fun H' p' => ⟨_, by omega, ⟨rfl, c⟩, p'⟩, fun x H' ⟨e, y⟩ => e ▸ hs i x _ (y xs hq) p⟩
  · have e : i = xs.length := by omega
    exact .inl ⟨⟨xs, hq, c⟩, hd H (e ▸ p)⟩
theorem TK.setO {L : List (Addr × List Int)} {D a : Addr} {o : HO} (h : H D = some (SetTO P w a L)) : TK H (upd H D o) := fun b xs e => by
  rw [upd_ne (fun n => by rw [n, h] at e; cases e)]
  exact e
/-- the set of these pairs -/
def SetP (P : Program) (w : World) (H : Hp) (D : Addr) (qs : List (Int × Int)) : Prop := ∃ L, H D = some (SetTO P w D L) ∧ (∀ p ∈ L, H p.1 = some (.tup (p.2.map V.int))) ∧ (∀ k, k ∈ L.map (·.2) ↔ ∃ q ∈ qs, k = [q.1, q.2]) ∧ L.length ≤ qs.length
theorem setP_nil {D : Addr} : SetP P w (upd H D (SetTO P w D [])) D [] := ⟨[], upd_same, fun p h => (by cases h), fun k => by simp, Nat.le_refl _⟩
theorem SetP.tk {H' : Hp} {D : Addr} {qs : List (Int × Int)} (h : SetP P w H D qs) (k : TK H H') (e : H' D = H D) : SetP P w H' D qs := by
  obtain ⟨L, h1, h2, h3⟩ := h
  exact ⟨L, e.trans h1, fun p hp => k _ _ (h2 p hp), h3⟩
theorem SetP.add {D : Addr} {qs : List (Int × Int)} {y : V} {q : Int × Int} {N : Hp → Prop} (h : SetP P w H D qs) (hy : IsP H y q) (few : qs.length ≤ 62) (n : ∀ o, SetP P w (upd H D o) D (qs ++ [q]) → N (upd H D o)) : AdT K P w D N y H := by
  obtain ⟨L, h1, h2, h3, h4⟩ := h
  obtain ⟨t, rfl, ht⟩ := hy
  refine ⟨t, [q.1, q.2], L, rfl, .inl (.inl ht), h1, fun p hp => .inl (.inl (h2 p hp)), by omega, fun L' c1 c2 => n _ ⟨L', upd_same, ?_⟩⟩
  have tk : TK H (upd H D (SetTO P w D L')) := .setO h1
  by_cases c : [q.1, q.2] ∈ L.map (·.2)
  · rw [c1 c]
    refine ⟨fun p hp => ?_, fun k => ?_, by rw [List.length_append]; omega⟩
    · have := tk _ _ (h2 p hp)
      rw [c1 c] at this
      exact this
    · rw [h3]
      constructor
      · rintro ⟨r, hr, e⟩
        exact ⟨r, List.mem_append_left _ hr, e⟩
      · rintro ⟨r, hr, e⟩
        rcases List.mem_append.mp hr with z | z
        · exact ⟨r, z, e⟩
        · rw [List.mem_singleton.mp z] at e
          exact (h3 k).mp (e ▸ c)
  · have pm := c2 c
    refine ⟨fun p hp => ?_, fun k => ?_, ?_⟩
    · rcases List.mem_cons.mp (pm.mem_iff.mp hp) with z | z
      · rw [z]
        exact tk _ _ ht
      · exact tk _ _ (h2 p z)
    · rw [(pm.map (·.2)).mem_iff, List.map_cons, List.mem_cons, h3]
      constructor
      · rintro (e | ⟨r, hr, e⟩)
        · exact ⟨q, List.mem_append_right _ (List.mem_singleton.mpr rfl), e⟩
        · exact ⟨r, List.mem_append_left _ hr, e⟩
      · rintro ⟨r, hr, e⟩
        rcases List.mem_append.mp hr with z | z
        · exact .inr ⟨r, z, e⟩
        · rw [List.mem_singleton.mp z] at e
          exact .inl e
    · rw [pm.length_eq, List.length_cons, List.length_append]
      simp only [List.length_cons, List.length_nil]
      omega
/-- the pairs of a set, in their order -/
theorem r_sortT {D : Addr} {qs : List (Int × Int)} (h : SetP P w H D qs) (bd : ∀ q ∈ qs, 0 ≤ q.1 ∧ q.1 < 64 ∧ 0 ≤ q.2 ∧ q.2 < 64)
    (q : ∀ p xs ps, H p = none → Prs H xs ps → ps.Pairwise ltP → (∀ r, r ∈ ps ↔ r ∈ qs) → ps.length ≤ qs.length → Q (.ref p) (upd H p (.lst xs))) : rSortedT K P w [.ref D] H Q := by
  obtain ⟨L, h1, h2, h3, h4⟩ := h
  have two : ∀ p ∈ L, ∃ r ∈ qs, p.2 = [r.1, r.2] := fun p hp => (h3 p.2).mp (List.mem_map_of_mem hp)
  refine ⟨D, L, 2, 64, rfl, h1, fun p hp => .inl (.inl (h2 p hp)), by decide, fun p hp => ?_, fun L' p pm nd few asc hp => ?_⟩
  · obtain ⟨r, hr, e⟩ := two p hp
    obtain ⟨b1, b2, b3, b4⟩ := bd r hr
    rw [e]
    refine ⟨rfl, fun m hm => ?_⟩
    rcases List.mem_cons.mp hm with z | z
    · exact ⟨by omega, by omega⟩
    · have := List.mem_singleton.mp z
      exact ⟨by omega, by omega⟩
  · let pr : Addr × List Int → Int × Int := fun x => (x.2.getD 0 0, x.2.getD 1 0)
    have two' : ∀ x ∈ L', ∃ r ∈ qs, x.2 = [r.1, r.2] ∧ pr x = r := fun x hx => by
      obtain ⟨r, hr, e⟩ := two x (pm.mem_iff.mp hx)
      refine ⟨r, hr, e, ?_⟩
      show (x.2.getD 0 0, x.2.getD 1 0) = r
      rw [e]
      rfl
    refine q p _ (L'.map pr) hp ?_ ?_ (fun r => ?_) (by rw [List.length_map, pm.length_eq]; exact h4)
    · have : ∀ l : List (Addr × List Int), (∀ x ∈ l, x ∈ L') → Prs H (l.map fun q => V.ref q.1) (l.map pr) := by
        intro l
        induction l with
        | nil => exact fun _ => .nil
        | cons x l ih =>
          intro hl
          obtain ⟨r, hr, e, e2⟩ := two' x (hl x List.mem_cons_self)
          refine .cons ⟨x.1, rfl, ?_⟩ (ih fun z hz => hl z (List.mem_cons_of_mem _ hz))
          have e3 := h2 x (pm.mem_iff.mp (hl x List.mem_cons_self))
          rw [e3, e, e2]
          rfl
      exact this L' fun x hx => hx
    · rw [List.pairwise_map]
      have nd' := List.pairwise_map.mp nd
      refine List.Pairwise.imp_of_mem ?_ (List.pairwise_and_iff.mpr ⟨asc, nd'⟩)
      rintro x z hx hz ⟨c, ne⟩
      obtain ⟨r, hr, e, e2⟩ := two' x hx
      obtain ⟨t, ht, f, f2⟩ := two' z hz
      obtain ⟨b1, b2, b3, b4⟩ := bd r hr
      obtain ⟨c1, c2, c3, c4⟩ := bd t ht
      rw [e, f] at c
      have ne2 : ([r.1, r.2] : List Int) ≠ [t.1, t.2] := fun y => ne (by rw [e, f, y])
      rw [e2, f2]
      exact pair_lt c ne2 ⟨b1, b2⟩ ⟨b3, b4⟩ ⟨c1, c2⟩ ⟨c3, c4⟩
    · rw [List.mem_map]
      constructor
      · rintro ⟨x, hx, rfl⟩
        obtain ⟨t, ht, f, f2⟩ := two' x hx
        rw [f2]
        exact ht
      · intro hr
        obtain ⟨x, hx, e⟩ := List.mem_map.mp ((h3 [r.1, r.2]).mpr ⟨r, hr, rfl⟩)
        refine ⟨x, pm.mem_iff.mpr hx, ?_⟩
        show (x.2.getD 0 0, x.2.getD 1 0) = r
        rw [e]
        rfl
end
section
variable {P : Program} {w : World} {K : PySem.W.Frag} {mg : Str → Option Value} {base : Heap}
/-- a promise that nothing keeps to is kept -/
theorem fn_none {k : Nat} {f : Addr} {fd : FuncData} {ps : List PySem.Str} {CX : CXT} : FnOk P w K mg base CX k f fd ps (fun _ _ _ _ => False) := ⟨fun _ _ _ _ h => h.elim, fun _ _ _ _ _ _ _ _ _ _ _ _ _ h => h.elim⟩
theorem r_ixE {H : Hp} {Q : VK} {l : Addr} {xs : List V} {i : Int} {v : V} (h : SqL K H l xs ∨ SqT K H l xs) (e : atI xs i = some v) (q : Q v H) : rIxL K (.ref l) (.int i) H Q ∨ rIxT K (.ref l) (.int i) H Q := by
  rcases h with h | h
  · exact .inl (r_ixL h e q)
  · exact .inr (r_ixT h e q)
end

set_option Elab.async false
set_option linter.all false
set_option maxRecDepth 100000
set_option maxHeartbeats 4000000
open PySem PySem.Spec PyProof.Rows L2
/-- an own error's class -/
structure ExcD (K : PySem.W.Frag) (mg : Str → Option Value) (x : Str) where
  C : Addr
  g : mg x = some (.ref C)
  k : PySem.W.keepIn K (.ref C) = true
  q : PySem.W.excIn K C [.type "ValueError", .type "Exception", .type "BaseException", .type "object"] "ValueError.__new__" = true
  ex : PySem.W.subIn K (.ref C) (.type "BaseException") = some true
  ty : PySem.W.typeIn K (.ref C) = some (.type "type")
  me : PySem.W.subIn K (.ref C) (.ref C) = some true
  cc : ExcC K C
section
variable {K : PySem.W.Frag} {mg : Str → Option Value} {x : Str}
theorem ExcD.exm (D : ExcD K mg x) : PySem.W.exmOne K (.ref D.C) (.ref D.C) = some true := PySem.W.exm_ref D.ex D.cc.hd D.ty D.me
/-- isinstance(e, ..) of what was caught -/
def rIsEc (K : PySem.W.Frag) (D a : Addr) (cls : Value) (d : Option Addr) : List V → Hp → VK → Prop := fun xs H Q => cls = .ref D ∧ d = none ∧ rIsE K D a xs H Q
theorem call_isEc {X : Cx} {a D : Addr} {oe : Obj} {pn : List (Addr × Obj)} {cls : Value} {d : Option Addr} (hk : X.K = K) (C : ExcC K D) (hz : Zc cls d oe) (hf : ∃ vs, oe.data = .fields vs) : CallR (X.suite a ((a, oe) :: pn)) (.builtin "isinstance") (rIsEc K D a cls d) := by
  subst hk
  intro pins s σ H xs us Q I r h
  obtain ⟨rfl, rfl, h⟩ := h
  exact call_isE C hz hf pins s σ H xs us Q I r h
variable {σ : L2.St} {H : Hp} {Q : VK}
theorem r_isEc {D a : Addr} {cls : Value} {d : Option Addr} {c : V} {cv : Value} {b : Bool} (h1 : cls = .ref D) (h2 : d = none) (hc : ∀ u, RelV c u → u = cv) (hk : PySem.W.kitOne K (.ref D) cv = some b) (q : Q (.bl b) H) : rIsEc K D a cls d [.ref a, c] H Q := ⟨h1, h2, c, cv, b, rfl, hc, hk, q⟩
theorem rel_ref {a : Addr} : RelV (.ref a) (.ref a) := rfl
theorem rel_int {i : Int} {t : Tok} : RelV (.int i) (.int i t) := ⟨t, rfl⟩
/-! chains of comparisons -/
def ChN (r' : R2) (tc : TE) (σ : L2.St) (Q : VK) (y : V) : VK := fun z H3 => ∃ k, z = .bl k ∧ (if k = true then tc σ H3 fun w' H4 => r' y w' H4 Q else Q (.bl false) H3)
theorem r_chain {r r' : R2} {ta tb tc : TE} (h : ta σ H fun x H1 => tb σ H1 fun y H2 => r x y H2 (ChN r' tc σ Q y)) : tChain r r' ta tb tc σ H Q := h
theorem r_chn {r' : R2} {tc : TE} {y : V} {b : Bool} (h : if b = true then tc σ H fun w' H4 => r' y w' H4 Q else Q (.bl false) H) : ChN r' tc σ Q y (.bl b) H := ⟨b, rfl, h⟩
theorem r_callS {sp : Sp} {E : L2.St → XK} {t : TA} (h : t σ H fun vs H1 => sp vs H1 Q (E σ)) : tCallS sp E t σ H Q := h
def rInsN : V → List V → Hp → VK → Prop := fun x vs H Q => ∃ (l : Addr) (xs : List V) (i : Int) (y : V), x = .ref l ∧ vs = [.int i, y] ∧ H l = some (.lst xs) ∧ xs.length < sizeLine ∧ 0 ≤ i ∧ i < 2 ^ 63 ∧ Q .non (upd H l (.lst (xs.take i.toNat ++ [y] ++ xs.drop i.toNat)))
theorem mt_insertN {X : Cx} : MtR X "list.insert" rInsN := mt_insert
theorem r_insN {l : Addr} {xs : List V} {i : Int} {y : V} (h : H l = some (.lst xs)) (s : xs.length < 100000) (h0 : 0 ≤ i) (h1 : i < 1000000) (q : Q .non (upd H l (.lst (xs.take i.toNat ++ [y] ++ xs.drop i.toNat)))) : rInsN (.ref l) [.int i, y] H Q :=
  ⟨l, xs, i, y, rfl, rfl, h, small_lt s, h0, by omega, q⟩
end

set_option Elab.async false
set_option linter.all false
set_option maxRecDepth 100000
set_option maxHeartbeats 4000000
open PySem PySem.Spec PyProof.Rows L2
/-! # enumerate over a tuple -/
theorem enumNew1 {v : Value} {o : Obj} {F : Heap → Prop} (B : Begins v o F) : Meets (Builtin.«enumerate.__new__» ⟨[.type "enumerate", v], []⟩) (fun _ R s => F s.heap ∧
    R (.ok (.ret (.ref (s.heap.push o).objs.size))) { s with heap := (s.heap.push o).push { cls := .type "enumerate", data := .fields #[.none, .bool false, .ref s.heap.objs.size, rawInt 0, .none, .none] } }) :=
  .of_wp fun prog w A R s h => by
    obtain ⟨hp, gs, dr, tk, os⟩ := s
    obtain ⟨h1, h⟩ := h
    have hsub := sub_enumerate
    have q1 : ∀ {A' : Around} {E' : Value → Shared → Prop} {Q' : Value → Shared → Prop}, Q' (.ref hp.objs.size) ⟨hp.push o, gs, dr, tk, os⟩ → wpAny (model prog w) A' (pyIter v) Q' E' ⟨hp, gs, dr, tk, os⟩ := fun q => B.iter prog w _ _ ⟨hp, gs, dr, tk, os⟩ _ h1 q
    wp_walk using q1
    refine wpAny_stack_any fun st => wpAny_pure ?_
    split
    · rename_i c _ _ _ _ _
      cases (c == Value.type "enumerate") <;> (wp_walk using q1; exact ⟨_, rfl, h⟩)
    · wp_walk using q1
      exact ⟨_, rfl, h⟩
section
variable {prog : Program} {w : World} {A : Around} {E : Value → Shared → Prop} {s : Shared}
theorem callEnum1 {v : Value} {o : Obj} {Fh : Heap → Prop} {Q : Value → Shared → Prop} (B : Begins v o Fh) (h1 : Fh s.heap)
    (h : ∀ h', IsEnum h' (s.heap.objs.size + 1) s.heap.objs.size 0 .none → h'.get? s.heap.objs.size = some o → h'.objs.size = s.heap.objs.size + 2 → (∀ b x, s.heap.get? b = some x → h'.get? b = some x) → Q (.ref (s.heap.objs.size + 1)) { s with heap := h' }) :
    wpAny (model prog w) A (call (.type "enumerate") [v]) Q E s := by
  refine callType_new F.called_enumerate (by decide) (F.typeCall_enumerate_1 _) (F.newCall_enumerate_1 _) (fun ob => F.args_object_init_2 ob _) F.entry_enumerate_new (enumNew1 B) ⟨h1, ?_⟩
  have hz : (s.heap.push o).objs.size = s.heap.objs.size + 1 := Heap.size_push ..
  show _ ∧ _
  rw [hz]
  have he : IsEnum ((s.heap.push o).push { cls := .type "enumerate", data := .fields #[.none, .bool false, .ref s.heap.objs.size, rawInt 0, .none, .none] }) (s.heap.objs.size + 1) s.heap.objs.size 0 .none := by
    have z := Heap.get?_push_size (s.heap.push o) (o := { cls := .type "enumerate", data := .fields #[.none, .bool false, .ref s.heap.objs.size, rawInt 0, .none, .none] }) rfl
    rw [hz] at z
    exact z
  exact ⟨⟨_, he, rfl⟩, h _ he (Heap.get?_push_of_some _ (Heap.get?_push_size _ B.free)) (by rw [Heap.size_push, hz]) fun b x e => Heap.get?_push_of_some _ (Heap.get?_push_of_some _ e)⟩
theorem enumEndT {e it t : Addr} {i : Nat} {items : Array Value} {c : Int} {old : Value} {Q : Option Value → Shared → Prop} (hh : A.handled = none) (he : IsEnum s.heap e it c old) (hit : s.heap.IsTupleIter it t i) (ht : s.heap.IsTuple t items) (hx : items[i]? = none)
    (q : ∀ h', Heap.ExtBut it s.heap h' → Q none { s with heap := h' }) : wpAny (model prog w) A (pyNext (.ref e)) Q E s := by
  have ty : s.TypeIs (.ref e) "enumerate" := ⟨_, he, rfl⟩
  unfold pyNext
  refine wpAny_bind (wpAny_attempt (wpAny_callSpecial?_slot (name := Str.ofString "__next__") ty F.slot_enumerate_next (wpAny_call_entry F.slot_enumerate_next ty F.entry_enumerate_next ?_ (F.args_enumerate_next_1 _))))
  show wpAny _ _ (field (.ref e) 2 >>= _) _ _ _
  refine wpAny_bind (wpAny_field he rfl (x := .ref it) rfl (wpAny_bind (wpAny_nextOf_tuple_end hh hit ht hx fun h' x eb ⟨o, ho, hc⟩ => ?_)))
  exact wpAny_bind (wpAny_isInstance (T := "StopIteration") (b := true) ⟨o, ho, hc⟩ isSubtype_stop (wpAny_pure (q _ eb)))
end
/-- the tuple at a, its items in new pairs -/
def IteT (K : PySem.W.Frag) (a : Addr) : It :=
  ⟨fun i H => ∃ (xs : List V) (x : V), SqT K H a xs ∧ xs[i]? = some x, fun i H v H' => ∃ T x, v = .ref T ∧ H T = none ∧ H' = upd H T (.tup [.int (i : Nat), x]) ∧ ∀ xs, SqT K H a xs → xs[i]? = some x, fun i H => ∃ xs : List V, SqT K H a xs ∧ xs.length ≤ i⟩
theorem turnEnumT {P : Program} {w : World} {K : PySem.W.Frag} {elts : List Expr} {kk : Nat} {tpos : Pos} (a e it : Addr) (hat : a ≠ it) :
    Turn P w K (.Tuple elts kk tpos) (IteT K a) [e, it] e (fun i h => (∃ old, IsEnum h e it ((i : Nat) : Int) old) ∧ h.IsTupleIter it a i ∧ e ≠ it ∧ a ≠ e) where
  mem := by simp
  obj := fun i h st b hb => by
    obtain ⟨⟨old, he⟩, ⟨o, ho, hc, hd⟩, _⟩ := st
    rcases (show b = e ∨ b = it by simpa using hb) with z | z
    · subst z; exact ⟨_, he, fun v q => nomatch q⟩
    · subst z; exact ⟨o, ho, fun v q => by rw [hd] at q; cases q⟩
  keep := fun i h h' st k => by
    obtain ⟨⟨old, he⟩, hi, hne⟩ := st
    exact ⟨⟨old, k e (by simp) _ he⟩, hi.at fun o q => k it (by simp) o q, hne⟩
  item := by
    intro X hP hw hK hc i pins s σ H E I hf st hg
    subst hP hw hK
    obtain ⟨⟨old, he⟩, hit, hne, hae⟩ := st
    obtain ⟨xs, x, hq, hx⟩ := hg
    obtain ⟨its, rv, p, hz⟩ := I.tuple hq
    obtain ⟨u, hu, ru⟩ := rv.get hx
    have hel : e < s.heap.objs.size := Heap.lt_size he
    have hil : it < s.heap.objs.size := by obtain ⟨_, q, _⟩ := hit; exact Heap.lt_size q
    have hlt : i < its.toArray.size := by
      have := (List.getElem?_eq_some_iff.mp hu).1
      simpa using this
    refine wpAny_pyNext_enum_itemD (Draws.tuple (by exact I.ok.hd hc) it a hat its.toArray) he ⟨hit, p⟩ hlt hne (by simp [hne, Ne.symm hae]) fun y h' tk hy ho hst hT hsz hk => ?_
    have ey : y = u := by
      have z : its[i]? = some y := by simpa using hy
      exact Option.some.inj (z.symm.trans hu)
    subst ey
    refine ⟨_, rfl, wpAny_letOwnedTupleGo_enum (s := { s with heap := h', toks := tk + 1 }) ho fun h'' he' sb => ?_⟩
    have hT2 : h''.get? s.heap.objs.size = some { cls := .type "tuple", data := .seq #[.int i tk, y] } := (sb.2 _ (Nat.ne_of_gt hel)).trans hT
    have new : ObjOk X.prog X.w (upd H s.heap.objs.size (.tup [.int (i : Nat), x])) h'' s.heap.objs.size (.tup [.int (i : Nat), x]) := ⟨sz2, [.int i tk, y], .cons ⟨_, rfl⟩ (.cons ru .nil), ⟨_, hT2, rfl, _, rfl⟩⟩
    have I1 : Inv X pins σ (upd H s.heap.objs.size (.tup [.int (i : Nat), x])) { s with heap := h'', toks := tk + 1 } :=
      I.turnedNew (ch := [e, it]) (fun b ob hb q => (sb.2 b (fun z => hb (by simp [z]))).trans (hk b ob (fun z => hb (by simp [z])) (fun z => hb (by simp [z])) q)) hf (Nat.le_refl _) new
    refine ⟨.ref s.heap.objs.size, _, I1, rfl, ⟨_, x, rfl, I.hok.fresh (Nat.le_refl _), rfl, fun ys hy => by rw [I.tuple_inj hy hq]; exact hx⟩, ⟨⟨y, ?_⟩, hst.1.at fun o q => (sb.2 it (Ne.symm hne)).trans q, hne, hae⟩, fun b hb => ?_⟩
    · rw [show ((i + 1 : Nat) : Int) = (i : Int) + 1 by omega]
      exact he'
    · have hb' : b < s.heap.objs.size := by
        rcases (show b = e ∨ b = it by simpa using hb) with z | z
        · exact z ▸ hel
        · exact z ▸ hil
      rw [upd_ne (Nat.ne_of_lt hb')]
      exact (hf b hb).1
  done := by
    intro X hP hw hK hc i pins s σ H E I hf st hg
    subst hP hw hK
    obtain ⟨⟨old, he⟩, hit, hne, hae⟩ := st
    obtain ⟨xs, hq, hx⟩ := hg
    obtain ⟨its, rv, p, hz⟩ := I.tuple hq
    obtain ⟨f0, f1, f2, f3, f4, f5⟩ := hf it (by simp)
    have hl := rv.length
    exact enumEndT (I.ok.hd hc) he hit p (by simp; omega) fun h' eb => ⟨rfl, I.turned (t' := s.toks) (fun b o hb q => eb b o hb q) f0 f1 f3 f4 f5⟩
  self := fun A i s Q E st h => by
    obtain ⟨⟨_, he⟩, _⟩ := st
    exact wpAny_pyIter_enum he h
def iEnumT (K : PySem.W.Frag) (ta : TA) : TI := fun σ H R => ta σ H fun vs H1 => ∃ a xs, vs = [.ref a] ∧ SqT K H1 a xs ∧ R (IteT K a) H1
theorem pi_enumT {X : Cx} {e : Expr} {ta : TA} {p pos tpos : Pos} {elts : List Expr} {kk : Nat} (hg : Gl X "enumerate") (hm : X.mg "enumerate" = none) (ha : PA X [e] ta) (hs : starEach [e] X.env = [(false, eval e X.env)] := by rfl) :
    PI X (.Tuple elts kk tpos) (.Call (.Name "enumerate" p) [e] [] pos) (iEnumT X.K ta) := by
  refine ⟨fun pins s σ H R I h => Call_ (ld_blt I hg hm boot_enumerate (PyProof.Rows.callWith_type1 (thn (ha.run pos pins s σ H _ I h) fun us s1 ⟨vs, H1, I1, r1, a, xs, ex, hq, q⟩ => ?_) hs rfl))⟩
  subst ex
  cases r1 with
  | cons r rr =>
    cases rr
    cases r
    obtain ⟨its, rv, p', hz⟩ := I1.tuple hq
    have hlt : a < s1.heap.objs.size := by
      obtain ⟨o, ho, _⟩ := p'
      exact Heap.lt_size ho
    refine callEnum1 (begins_tuple a its.toArray) p' fun h' he hit hsz hk => wpAny_pyIter_enum he ?_
    have I2 : Inv X pins σ H1 { s1 with heap := h' } := I1.kept (t' := s1.toks) hk
    refine ⟨s1.heap.objs.size + 1, [s1.heap.objs.size + 1, s1.heap.objs.size], _, _, H1, rfl, I2, turnEnumT a (s1.heap.objs.size + 1) s1.heap.objs.size (Nat.ne_of_lt hlt), ⟨⟨.none, he⟩, ⟨_, hit, rfl, rfl⟩, Nat.succ_ne_self _, Nat.ne_of_lt (Nat.lt_succ_of_lt hlt)⟩, fun b hb => ?_, q⟩
    have hle : s1.heap.objs.size ≤ b := by
      rcases (show b = s1.heap.objs.size + 1 ∨ b = s1.heap.objs.size by simpa using hb) with z | z
      · rw [z]; exact Nat.le_add_right _ _
      · rw [z]; exact Nat.le_refl _
    exact I1.fpOk hle (I1.hok.fresh hle)
/-! # dicts whose keys are tuples, laid by a comprehension -/
section
variable {X : Cx}
def PutT (D : Addr) (N : Hp → Prop) (y z : V) (H : Hp) : Prop := ∃ (kvs : List (List L2.Key × V)) (k : List L2.Key) (b : Addr), y = .ref b ∧ H D = some (.dT kvs) ∧ H b = some (.tup (k.map kV)) ∧ kvs.length < sizeLine ∧ N (upd H D (.dT (putK kvs k z)))
theorem putT_ok {pins : List (Addr × Obj)} {σ : L2.St} {H : Hp} {s : Shared} {E : Value → Shared → Prop} {D : Addr} {N : Hp → Prop} {y z : V} {u r : Value} {Q : Unit → Shared → Prop} (hu : X.A.units + 64 < cLine) (I : Inv X pins σ H s) (ry : RelV y u) (rv : RelV z r)
    (g : PutT D N y z H) (q : ∀ s' H', Inv X pins σ H' s' → N H' → Q () s') : wpAny (model X.prog X.w) X.A (dictSet D u r) Q E s := by
  obtain ⟨kvs, k, b, rfl, hD, hb, few, n⟩ := g
  cases ry
  obtain ⟨zl, hd, xs, rel, dd⟩ := dt_of I.hok hD
  have e1 : xs.length ≤ sizeLine := by rw [← Paired.length rel]; exact zl
  have e2 : (putK kvs k z).length ≤ sizeLine := by have := length_putK kvs k z; omega
  refine wpAny_dictSet_heap (hsz := e1) (knd := tupleKind (mixKind X.prog X.w)) (show X.A.units < cLine by omega) (key_of I.hok hb) dd fun h' dd' hs => ?_
  obtain ⟨o, es, ep, ho, a2, a3, a4, _, a5⟩ := dd'
  refine q _ _ (d_write (ob := .dT (putK kvs k z)) I (by rw [hD]; exact True.intro) hs ⟨o, ho⟩ ⟨e2, hd, _, (rel.put k hb rv).keeps fun c ys ec => ?_, o, es, ep, ho, a2, a3, a4, a5⟩) n
  rw [upd_ne (ne_of ec hD (fun x => nomatch x))]
  exact ec
def DcR (J : It) (g : TG) (tt : TT) (tk tv : TE) (vs : List Nat) (σ : L2.St) (D : Addr) (Q : VK) (H1 : Hp) : Prop := ∃ W : Nat → Nat → Hp → Prop, (∃ m0, W 0 m0 (upd H1 D (.dT []))) ∧ ∀ i m H, W i m H →
  (J.stop i H ∧ Q (.ref D) H) ∨ (J.go i H ∧ ∃ Nx : Hp → Prop, (∀ H', Nx H' → ∃ m', m' < m ∧ W (i + 1) m' H') ∧ ∀ x H', J.yld i H x H' → g x (wipe σ vs) H' fun σ2 H2 => wipe σ2 vs = wipe σ vs ∧ tt σ2 H2 fun b H3 => if b = true then tk σ2 H3 fun y H4 => tv σ2 H4 (PutT D Nx y) else Nx H3)
def tDcT (wi : TI) (g : TG) (tt : TT) (tk tv : TE) (vs : List Nat) : TE := fun σ H Q => wi σ H fun J H1 => ∀ D, H1 D = none → DcR J g tt tk tv vs σ D Q H1
variable {kx vx tg iter : Expr} {ifs : List Expr} {scope : Scope} {own : List (PySem.Str × Nat)} {pos : Pos} {wi : TI} {g : TG} {tt : TT} {tk tv : TE}
theorem pe_dcT (hu : X.A.units + 64 < cLine) (hc : X.calm = true) (hN : X.N.Nodup) (hi : PI X tg iter wi) (ok : BlkOk X.N X.env.scope scope own)
    (hg : ∀ (s0 : Shared) (H0 : Hp) (C0 : Addr) (l0 : List (PySem.Str × Addr)) (fp : List Addr), PG (X.blk s0 H0 scope (compEnvC scope l0 C0 X.env) fp) tg g)
    (ht : ∀ (s0 : Shared) (H0 : Hp) (C0 : Addr) (l0 : List (PySem.Str × Addr)) (fp : List Addr), PTs (X.blk s0 H0 scope (compEnvC scope l0 C0 X.env) fp) ifs tt)
    (he : ∀ (s0 : Shared) (H0 : Hp) (C0 : Addr) (l0 : List (PySem.Str × Addr)) (fp : List Addr), PE (X.blk s0 H0 scope (compEnvC scope l0 C0 X.env) fp) kx tk)
    (hv : ∀ (s0 : Shared) (H0 : Hp) (C0 : Addr) (l0 : List (PySem.Str × Addr)) (fp : List Addr), PE (X.blk s0 H0 scope (compEnvC scope l0 C0 X.env) fp) vx tv)
    (hs : ∀ x, foldedSetIterable iter X.env x = pure x := by intro _; rfl) :
    PE X (.DictComp kx vx [⟨tg, iter, ifs, 0⟩] scope pos) (tDcT wi g tt tk tv (own.map (·.2))) := by
  refine ⟨fun pins s σ H Q I h => ?_⟩
  rw [arm_eval_DictComp]
  have hfr : ∀ y ∈ scope.names, y.2 = .free → ∃ c, X.env.cells.lookup y.1 = some c := fun y hy e => (ok.free y hy e).elim (fun k => I.ok.has _ (.inl k)) (fun k => I.ok.has _ (.inr k))
  refine wpAny_comprehension_free (use := none) rfl hs (closure_ok hfr) ok.kind (fun y hy e => by rw [ok.uniq y hy, e]) (thn (hi.run pins s σ H _ I h) fun xv s1 hx => thn hx fun itv s2 h2 => ?_)
  obtain ⟨it, fp, tn, J, H2, e2, I2, T, st2, f2, q⟩ := h2
  subst e2
  refine wpAny_newObj_type (newEnv_comp ?_)
  generalize hD : s2.heap.objs.size = D
  have dn : H2 D = none := I2.hok.fresh (Nat.le_of_eq hD)
  obtain ⟨W, ⟨m0, w0⟩, turn⟩ := q D dn
  let ob : Obj := { cls := .type "dict", data := .dict #[] }
  show codeAny _ _ _ _ ({ ({ s2 with heap := s2.heap.push ob } : Shared) with heap := _ } : Shared)
  generalize es3 : ({ s2 with heap := s2.heap.push ob } : Shared) = s3
  have hp3 : s3.heap = s2.heap.push ob := by rw [← es3]
  let H3 : Hp := upd H2 D (.dT [])
  have J3 : Inv X pins σ H3 s3 := by
    rw [← es3]
    exact I2.laid (t' := s2.toks) (fun b o e => Heap.get?_push_of_some _ e) (Nat.le_of_eq hD) (by rw [← hD]; exact dt_empty s2.heap I2.big)
  have lt : ∀ b ∈ fp, b < s2.heap.objs.size := fun b hb => by
    obtain ⟨o, e, _⟩ := T.obj _ _ st2 b hb
    exact Heap.lt_size e
  have F3 : ∀ b ∈ fp, FpOk X pins H3 b ∧ b < s3.heap.objs.size := fun b hb => by
    have l1 := lt b hb
    refine ⟨⟨?_, (f2 b hb).2⟩, by rw [hp3, Heap.size_push]; exact Nat.lt_succ_of_lt l1⟩
    show upd H2 D _ b = none
    rw [upd_ne (Nat.ne_of_lt (hD ▸ l1))]
    exact (f2 b hb).1
  have st3 : tn 0 s3.heap := T.keep _ _ _ st2 fun b _ o e => by rw [hp3]; exact Heap.get?_push_of_some _ e
  have J4 := block_start J3 ok hN F3
  have pg := hg s3 H3 s3.heap.objs.size (cellsFrom (s3.heap.objs.size + 1) scope.names (cloFrom X.env.cells scope.names [])) fp
  have pt := ht s3 H3 s3.heap.objs.size (cellsFrom (s3.heap.objs.size + 1) scope.names (cloFrom X.env.cells scope.names [])) fp
  have pk := he s3 H3 s3.heap.objs.size (cellsFrom (s3.heap.objs.size + 1) scope.names (cloFrom X.env.cells scope.names [])) fp
  have pe := hv s3 H3 s3.heap.objs.size (cellsFrom (s3.heap.objs.size + 1) scope.names (cloFrom X.env.cells scope.names [])) fp
  show codeAny _ _ (.compStart (.DictComp kx vx [⟨tg, iter, ifs, 0⟩] scope pos) 0 (.ref it) (.ref D) (compEnvC scope (cellsFrom (s3.heap.objs.size + 1) scope.names (cloFrom X.env.cells scope.names [])) s3.heap.objs.size X.env)) _ { s3 with heap := pushCells (s3.heap.push { cls := .type "dict", data := .dict #[] }) scope.names }
  generalize ece : compEnvC scope (cellsFrom (s3.heap.objs.size + 1) scope.names (cloFrom X.env.cells scope.names [])) s3.heap.objs.size X.env = ce at J4 pg pt pk pe ⊢
  have ceL : ce.locals = s3.heap.objs.size := by rw [← ece]; rfl
  generalize es4 : ({ s3 with heap := pushCells (s3.heap.push { cls := .type "dict", data := .dict #[] }) scope.names } : Shared) = s4 at J4 ⊢
  have st4 : tn 0 s4.heap := T.keep _ _ _ st3 fun b _ o e => by rw [← es4]; exact pushCells_keeps _ _ _ _ (Heap.get?_push_of_some _ e)
  let Y : Cx := X.blk s3 H3 scope ce fp
  have fpOf : ∀ {σ' : L2.St} {H' : Hp} {s' : Shared}, Inv Y [] σ' H' s' → (∀ b ∈ fp, H' b = none) → ∀ b ∈ fp, FpOk Y [] H' b := fun {σ' H' s'} I' hn b hb =>
    ⟨hn b hb, (I'.ok.exf b hb).1, I'.ok.exfs b hb, .inl hb, fun x c e => (I'.ok.exf b hb).2 x c e, fun p hp => absurd (show p ∈ ([] : List (Addr × Obj)) ++ [] from hp) (by simp)⟩
  refine (fun loop => codeAny_compStart_dict loop (T.self X.A 0 _ _ _ st4 loop)) ?_
  refine compLoop_anyD (fun n s' => ∃ i H', Inv Y [] (wipe σ (own.map (·.2))) H' s' ∧ tn i s'.heap ∧ (∀ b ∈ fp, H' b = none) ∧ W i n H') ?_ m0 ⟨0, H3, J4, st4, fun b hb => (F3 b hb).1.1, w0⟩
  rintro n s5 ⟨i, H5, J5, st5, n5, w5⟩
  rcases turn i n H5 w5 with ⟨stop, qq⟩ | ⟨go, Nx, hNx, step⟩
  · -- the end
    refine thnF (T.done Y rfl rfl rfl hc i [] s5 _ H5 (fun _ _ => False) J5 (fpOf J5 n5) st5 stop) fun r s6 ⟨hr, J6⟩ => ?_
    subst hr
    have J7 : Inv X pins σ H5 s6 := J3.call' (ch := fp) J6.os J6.base J6.hok J6.bare fun b hb => ⟨(F3 b hb).1.2.2.2.1, (F3 b hb).1.2.1, (F3 b hb).1.2.2.2.2.1, (F3 b hb).1.2.2.2.2.2⟩
    have nC : H5 s3.heap.objs.size = none := ceL ▸ (show H5 ce.locals = none from J6.free)
    obtain ⟨mm, hn, _⟩ := J6.loc
    refine ⟨mm, ceL ▸ (show s6.heap.Ns ce.locals mm from hn), fun h'' sb => ?_⟩
    obtain ⟨f0, f1, f2, f3, f4, f5⟩ := J3.fpOk (Nat.le_refl _) nC
    exact ⟨.ref D, H5, J7.turned (t' := s6.toks) (fun b o hb e => (sb.2 b hb).trans e) f0 f1 f3 f4 f5, rfl, qq⟩
  · -- a turn
    refine thnF (T.item Y rfl rfl rfl hc i [] s5 _ H5 (fun _ _ => False) J5 (fpOf J5 n5) st5 go) fun r s6 ⟨u, hr, h6⟩ => ?_
    subst hr
    refine thnF h6 fun _ s7 ⟨x, H7, J7, r7, y7, st7, n7⟩ => ?_
    have J8 := J7.pinned (fpOf J7 n7) (T.obj _ _ st7)
    refine thnF (pg.run _ s7 _ H7 x u _ J8 r7 (step x H7 y7)) fun _ s8 ⟨σ8, H8, J9, hw8, q8⟩ => ?_
    refine thnF (pt.run _ s8 σ8 H8 _ J9 q8) fun b s9 ⟨H9, Ja, q9⟩ => ?_
    have fin : ∀ (s' : Shared) (H' : Hp), Inv Y ([] ++ pinsAt fp s7.heap) σ8 H' s' → Nx H' → ∃ m, m < n ∧ ∃ i H', Inv Y [] (wipe σ (own.map (·.2))) H' s' ∧ tn i s'.heap ∧ (∀ b ∈ fp, H' b = none) ∧ W i m H' := fun s' H' Jz nx => by
      obtain ⟨m', hm, w'⟩ := hNx H' nx
      have pin : ∀ b ∈ fp, ∀ o, s7.heap.get? b = some o → s'.heap.get? b = some o ∧ H' b = none := fun b hb o e => by
        have z := Jz.pin (b, o) (List.mem_append_right _ (List.mem_append_right _ (mem_pinsAt hb e)))
        exact ⟨z.1, z.2.1⟩
      have hlen : (wipe σ (own.map (·.2))).length = σ8.length := by rw [← hw8, wipe_length]
      refine ⟨m', hm, i + 1, H', (Jz.unpinned (pins := [])).weak hlen (fun j v e => ?_), T.keep _ _ _ st7 fun b hb o e => (pin b hb o e).1, fun b hb => ?_, w'⟩
      · rw [← hw8] at e
        exact (wipe_some e).1
      · obtain ⟨o, e, _⟩ := T.obj _ _ st7 b hb
        exact (pin b hb o e).2
    cases b with
    | false =>
      simp only [Bool.false_eq_true, if_false] at q9 ⊢
      exact fin _ _ Ja q9
    | true =>
      simp only [if_true] at q9 ⊢
      refine thnF (pk.run _ s9 σ8 H9 _ Ja q9) fun z s10 ⟨yk, Hb, Jb, rb, qb⟩ => ?_
      refine thnF (pe.run _ s10 σ8 Hb _ Jb qb) fun z2 s11 ⟨yv, Hc, Jc, rc, ad⟩ => ?_
      exact putT_ok (X := Y) hu Jc rb rc ad fin
end

set_option Elab.async false
set_option linter.all false
set_option maxRecDepth 100000
set_option maxHeartbeats 4000000
open PySem PySem.Spec PyProof.Rows L2
section
variable {X : Cx} {K : PySem.W.Frag} {P : Program} {w : World} {σ : L2.St} {H : Hp} {Q : VK} {D : Addr}
theorem PI.enumTK {tg e : Expr} {ta : TA} (h : X.K = K) (p : PI X tg e (iEnumT X.K ta)) : PI X tg e (iEnumT K ta) := h ▸ p
def EnT (K : PySem.W.Frag) (R : It → Hp → Prop) : List V → Hp → Prop := fun vs H1 => ∃ a xs, vs = [.ref a] ∧ SqT K H1 a xs ∧ R (IteT K a) H1
theorem r_enumT {ta : TA} {R : It → Hp → Prop} (h : ta σ H (EnT K R)) : iEnumT K ta σ H R := h
theorem r_en {a : Addr} {xs : List V} {R : It → Hp → Prop} (h : SqT K H a xs) (q : R (IteT K a) H) : EnT K R [.ref a] H := ⟨a, xs, rfl, h, q⟩
/-! ## number dicts -/
def PutK (D : Addr) (N : Hp → Prop) (y z : V) (H : Hp) : Prop := ∃ (kvs : List (L2.Key × V)) (k : L2.Key), y = kV k ∧ H D = some (.dK kvs) ∧ kvs.length < sizeLine ∧ N (upd H D (.dK (putK kvs k z)))
theorem r_putK {N : Hp → Prop} {i : Int} {z : V} {kvs : List (L2.Key × V)} (h : H D = some (.dK kvs)) (s : kvs.length < 100000) (n : N (upd H D (.dK (putK kvs (.inl i) z)))) : PutK D N (.int i) z H := ⟨kvs, .inl i, rfl, h, small_lt s, n⟩
def KcR (J : It) (g : TG) (tt : TT) (tk tv : TE) (vs : List Nat) (σ : L2.St) (D : Addr) (Q : VK) (H1 : Hp) : Prop := ∃ W : Nat → Nat → Hp → Prop, (∃ m0, W 0 m0 (upd H1 D (.dK []))) ∧ ∀ i m H, W i m H →
  (J.stop i H ∧ Q (.ref D) H) ∨ (J.go i H ∧ ∃ Nx : Hp → Prop, (∀ H', Nx H' → ∃ m', m' < m ∧ W (i + 1) m' H') ∧ ∀ x H', J.yld i H x H' → g x (wipe σ vs) H' fun σ2 H2 => wipe σ2 vs = wipe σ vs ∧ tt σ2 H2 fun b H3 => if b = true then tk σ2 H3 fun y H4 => tv σ2 H4 (fun z H5 => PutK D Nx y z H5) else Nx H3)
theorem r_dcK {wi : TI} {g : TG} {tt : TT} {tk tv : TE} {vs : List Nat} (h : wi σ H fun J H1 => ∀ D, H1 D = none → KcR J g tt tk tv vs σ D Q H1) : tDc wi g tt tk tv vs σ H Q := h
theorem r_dcT {wi : TI} {g : TG} {tt : TT} {tk tv : TE} {vs : List Nat} (h : wi σ H fun J H1 => ∀ D, H1 D = none → DcR J g tt tk tv vs σ D Q H1) : tDcT wi g tt tk tv vs σ H Q := h
theorem kcR_enumT {a : Addr} {xs : List V} {g : TG} {tt : TT} {tk tv : TE} {vs : List Nat} {σw : L2.St} (Pv : Nat → Hp → Prop) (ew : wipe σ vs = σw) (h0 : Pv 0 (upd H D (.dK []))) (hl : ∀ i H, i ≤ xs.length → Pv i H → SqT K H a xs)
    (hs : ∀ (i : Nat) x H T, xs[i]? = some x → Pv i H → H T = none → g (.ref T) σw (upd H T (.tup [.int (i : Nat), x])) fun σ2 H2 => wipe σ2 vs = σw ∧ tt σ2 H2 fun b H3 => if b = true then tk σ2 H3 fun y H4 => tv σ2 H4 (fun z H5 => PutK D (Pv (i + 1)) y z H5) else Pv (i + 1) H3) (hd : ∀ H, Pv xs.length H → Q (.ref D) H) :
    KcR (IteT K a) g tt tk tv vs σ D Q H := by
  subst ew
  refine ⟨fun i m H => (m = xs.length - i ∧ i ≤ xs.length) ∧ Pv i H, ⟨_, ⟨rfl, Nat.zero_le _⟩, h0⟩, fun i m H ⟨⟨em, hi⟩, p⟩ => ?_⟩
  subst em
  have hq := hl i H hi p
  rcases Nat.lt_or_ge i xs.length with c | c
  · refine .inr ⟨⟨xs, xs[i], hq, List.getElem?_eq_getElem c⟩, Pv (i + 1), fun H' p' => ⟨_, by omega, ⟨rfl, c⟩, p'⟩, fun x H' ⟨T, y, e1, e2, e3, e4⟩ => ?_⟩
    subst e1 e3
    exact hs i y H T (e4 xs hq) p e2
  · have e : i = xs.length := by omega
    exact .inl ⟨⟨xs, hq, c⟩, hd H (e ▸ p)⟩
theorem dcR_tup {a : Addr} {xs : List V} {g : TG} {tt : TT} {tk tv : TE} {vs : List Nat} {σw : L2.St} (Pv : Nat → Hp → Prop) (ew : wipe σ vs = σw) (h0 : Pv 0 (upd H D (.dT []))) (hl : ∀ i H, i ≤ xs.length → Pv i H → SqT K H a xs)
    (hs : ∀ (i : Nat) x H, xs[i]? = some x → Pv i H → g x σw H fun σ2 H2 => wipe σ2 vs = σw ∧ tt σ2 H2 fun b H3 => if b = true then tk σ2 H3 fun y H4 => tv σ2 H4 (PutT D (Pv (i + 1)) y) else Pv (i + 1) H3) (hd : ∀ H, Pv xs.length H → Q (.ref D) H) :
    DcR (Itt K a) g tt tk tv vs σ D Q H := by
  subst ew
  refine ⟨fun i m H => (m = xs.length - i ∧ i ≤ xs.length) ∧ Pv i H, ⟨_, ⟨rfl, Nat.zero_le _⟩, h0⟩, fun i m H ⟨⟨em, hi⟩, p⟩ => ?_⟩
  subst em
  have hq := hl i H hi p
  rcases Nat.lt_or_ge i xs.length with c | c
  · exact .inr ⟨⟨xs, xs[i], hq, List.getElem?_eq_getElem c⟩, Pv (i + 1), fun H' p' => ⟨_, by omega, ⟨rfl, c⟩, p'⟩, fun x H' ⟨e, y⟩ => e ▸ hs i x _ (y xs hq) p⟩
  · have e : i = xs.length := by omega
    exact .inl ⟨⟨xs, hq, c⟩, hd H (e ▸ p)⟩
/-! ## two clauses -/
def LnR (J1 : It) (g1 : TG) (tt1 : TT) (te : TE) (vs1 : List Nat) (σ2 : L2.St) (D : Addr) (Nx : Hp → Prop) (H4 : Hp) : Prop := ∃ W1 : Nat → Nat → Hp → Prop, (∃ m1, W1 0 m1 H4) ∧ ∀ j k H, W1 j k H →
  (J1.stop j H ∧ Nx H) ∨ (J1.go j H ∧ ∃ Nx1 : Hp → Prop, (∀ H', Nx1 H' → ∃ k', k' < k ∧ W1 (j + 1) k' H') ∧ ∀ x H', J1.yld j H x H' → g1 x (wipe σ2 vs1) H' fun σ3 H5 => wipe σ3 vs1 = wipe σ2 vs1 ∧ tt1 σ3 H5 fun b H6 => if b = true then te σ3 H6 (LcE D Nx1) else Nx1 H6)
def Lc2R (J : It) (g : TG) (tt : TT) (wi1 : TI) (g1 : TG) (tt1 : TT) (te : TE) (vs vs1 : List Nat) (σ : L2.St) (D : Addr) (Q : VK) (H1 : Hp) : Prop := ∃ W : Nat → Nat → Hp → Prop, (∃ m0, W 0 m0 (upd H1 D (.lst []))) ∧ ∀ i m H, W i m H →
  (J.stop i H ∧ Q (.ref D) H) ∨ (J.go i H ∧ ∃ Nx : Hp → Prop, (∀ H', Nx H' → ∃ m', m' < m ∧ W (i + 1) m' H') ∧ ∀ x H', J.yld i H x H' → g x (wipe σ vs) H' fun σ2 H2 => wipe σ2 vs = wipe σ vs ∧ tt σ2 H2 fun b H3 => if b = true then wi1 σ2 H3 fun J1 H4 => LnR J1 g1 tt1 te vs1 σ2 D Nx H4 else Nx H3)
theorem r_lc2 {wi wi1 : TI} {g g1 : TG} {tt tt1 : TT} {te : TE} {vs vs1 : List Nat} (h : wi σ H fun J H1 => ∀ D, H1 D = none → Lc2R J g tt wi1 g1 tt1 te vs vs1 σ D Q H1) : tLc2 wi g tt wi1 g1 tt1 te vs vs1 σ H Q := h
theorem lnR_range {lo : Int} {n : Nat} {g1 : TG} {tt1 : TT} {te : TE} {vs1 : List Nat} {σ2 σw : L2.St} {Nx : Hp → Prop} (Pv : Nat → Hp → Prop) (ew : wipe σ2 vs1 = σw) (h0 : Pv 0 H)
    (hs : ∀ (i : Nat) H, i < n → Pv i H → g1 (.int (lo + i)) σw H fun σ3 H5 => wipe σ3 vs1 = σw ∧ tt1 σ3 H5 fun b H6 => if b = true then te σ3 H6 (LcE D (Pv (i + 1))) else Pv (i + 1) H6) (hd : ∀ H, Pv n H → Nx H) : LnR (Itr lo n) g1 tt1 te vs1 σ2 D Nx H := by
  subst ew
  refine ⟨fun i m H => (m = n - i ∧ i ≤ n) ∧ Pv i H, ⟨_, ⟨rfl, Nat.zero_le _⟩, h0⟩, fun i m H ⟨⟨em, hi⟩, p⟩ => ?_⟩
  subst em
  rcases Nat.lt_or_ge i n with c | c
  · refine .inr ⟨c, Pv (i + 1), fun H' p' => ⟨_, by omega, ⟨rfl, c⟩, p'⟩, fun x H' ⟨e1, e2⟩ => ?_⟩
    subst e1 e2
    exact hs i _ c p
  · have e : i = n := by omega
    exact .inl ⟨c, hd H (e ▸ p)⟩
theorem lc2R_range {lo : Int} {n : Nat} {wi1 : TI} {g g1 : TG} {tt tt1 : TT} {te : TE} {vs vs1 : List Nat} {σw : L2.St} (Pv : Nat → Hp → Prop) (ew : wipe σ vs = σw) (h0 : Pv 0 (upd H D (.lst [])))
    (hs : ∀ (i : Nat) H, i < n → Pv i H → g (.int (lo + i)) σw H fun σ2 H2 => wipe σ2 vs = σw ∧ tt σ2 H2 fun b H3 => if b = true then wi1 σ2 H3 fun J1 H4 => LnR J1 g1 tt1 te vs1 σ2 D (Pv (i + 1)) H4 else Pv (i + 1) H3) (hd : ∀ H, Pv n H → Q (.ref D) H) : Lc2R (Itr lo n) g tt wi1 g1 tt1 te vs vs1 σ D Q H := by
  subst ew
  refine ⟨fun i m H => (m = n - i ∧ i ≤ n) ∧ Pv i H, ⟨_, ⟨rfl, Nat.zero_le _⟩, h0⟩, fun i m H ⟨⟨em, hi⟩, p⟩ => ?_⟩
  subst em
  rcases Nat.lt_or_ge i n with c | c
  · refine .inr ⟨c, Pv (i + 1), fun H' p' => ⟨_, by omega, ⟨rfl, c⟩, p'⟩, fun x H' ⟨e1, e2⟩ => ?_⟩
    subst e1 e2
    exact hs i _ c p
  · have e : i = n := by omega
    exact .inl ⟨c, hd H (e ▸ p)⟩
/-! ## what dicts hold -/
def DgN (Q : VK) (x : V) : VK := fun y H2 => ∃ a v, x = .ref a ∧ DGet H2 a y (some v) ∧ Q v H2
theorem r_dget {td ty : TE} (h : td σ H fun x H1 => ty σ H1 (DgN Q x)) : tDGet td ty σ H Q := h
theorem r_dgK {a : Addr} {kvs : List (L2.Key × V)} {i : Int} {v : V} (h : H a = some (.dK kvs)) (e : valV kvs (.inl i) = some v) (q : Q v H) : DgN Q (.ref a) (.int i) H := ⟨a, v, rfl, e ▸ DGet.k (k := .inl i) h, q⟩
def DnN (Q : VK) (y : V) : VK := fun x H2 => ∃ a o, x = .ref a ∧ DGet H2 a y o ∧ Q (.bl (!o.isSome)) H2
theorem r_dnot {td ty : TE} (h : ty σ H fun y H1 => td σ H1 (DnN Q y)) : tDNotIn ty td σ H Q := h
theorem r_dnT {a b : Addr} {kvs : List (List L2.Key × V)} {k : List L2.Key} (h : H a = some (.dT kvs)) (hb : H b = some (.tup (k.map kV))) (q : Q (.bl (!(valV kvs k).isSome)) H) : DnN Q (.ref b) (.ref a) H := ⟨a, _, rfl, .t h hb, q⟩
theorem op_catAK (h : X.K = K) : OpR X (binaryOp .Add) (rCatA K) := h ▸ op_catA
theorem r_catA {l b : Addr} {xs zs : List V} (h1 : H l = some (.tup xs)) (h2 : H b = some (.tup zs)) (hz : xs.length + zs.length ≤ 100000) (q : ∀ p H', Same H H' → H' p = some (.tup (xs ++ zs)) → Q (.ref p) H') : rCatA K (.ref l) (.ref b) H Q := by
  refine ⟨l, b, xs, zs, rfl, rfl, .inl (.inl h1), .inl (.inl h2), small_len hz, fun e => ?_, fun e1 e2 => ?_, fun e1 e2 p hp => q p _ (same_new hp) upd_same⟩
  · subst e
    exact q b H (fun _ _ h => h) h2
  · subst e2
    refine q l H (fun _ _ h => h) ?_
    rw [List.append_nil]
    exact h1
end

set_option Elab.async false
set_option linter.all false
set_option maxRecDepth 100000
set_option maxHeartbeats 4000000
open PySem PySem.Spec PyProof.Rows L2
/-! # match on tuples: a word, then names -/
/-- each pattern of these is a bare name -/
inductive Caps : List Pattern → List PySem.Str → Prop where
  | nil : Caps [] []
  | cons {ps : List Pattern} {ns : List PySem.Str} (n : PySem.Str) (p : Pos) (r : Caps ps ns) : Caps (.MatchAs none (some n) p :: ps) (n :: ns)
section
variable {M : Model} {A : Around} {E : Value → Shared → Prop} {env : Env}
theorem caps_each {ps : List Pattern} {ns : List PySem.Str} (c : Caps ps ns) : ∀ {us : List Value} {s : Shared} {Q : Option (List (PySem.Str × Value)) → Shared → Prop}, us.length = ns.length → Q (some (ns.zip us)) s → wpAny M A (matchEach ps env us) Q E s := by
  induction c with
  | nil =>
    intro us s Q hl h
    have e : us = [] := List.length_eq_zero_iff.mp hl
    subst e
    exact wpAny_matchEach_nil h
  | @cons ps ns n p r ih =>
    intro us s Q hl h
    cases us with
    | nil => cases hl
    | cons u us =>
      refine wpAny_matchEach_cons (wpAny_matchPattern_Capture ?_)
      exact ih (by simpa using hl) h
theorem Caps.len {ps : List Pattern} {ns : List PySem.Str} (c : Caps ps ns) : ps.length = ns.length := by
  induction c with
  | nil => rfl
  | cons n p r ih => simp [ih]
theorem zip_names (f : PySem.Str → Value → Sem Unit) : ∀ (ns : List PySem.Str) (us : List Value), us.length = ns.length → ((ns.zip us).map fun (n, _) => f n) = ns.map f ∧ (ns.zip us).map (·.2) = us
  | [], [], _ => ⟨rfl, rfl⟩
  | [], _ :: _, h => by cases h
  | _ :: _, [], h => by cases h
  | n :: ns, u :: us, h => by
    obtain ⟨h1, h2⟩ := zip_names f ns us (by simpa using h)
    simp only [List.zip_cons_cons, List.map_cons]
    exact ⟨by rw [h1], by rw [h2]⟩
end
section
variable {X : Cx}
/-- names that are bound, one after another -/
structure PBn (X : Cx) (ns : List PySem.Str) (t : TGs) : Prop where
  run : ∀ (pins : List (Addr × Obj)) (s : Shared) (σ : L2.St) (H : Hp) (vs : List V) (us : List Value) (Q : L2.St → Hp → Prop), Inv X pins σ H s → Vals vs us → t vs σ H Q → wpAny (model X.prog X.w) X.A (assignInOrder (ns.map (bindName X.env)) us) (fun _ s' => ∃ σ' H', Inv X pins σ' H' s' ∧ Q σ' H') X.xe s
theorem bn_nil : PBn X [] gNil := ⟨fun pins s σ H vs us Q I r h => by
  obtain ⟨e, h⟩ := h
  subst e
  cases r
  exact assignInOrder_nil ⟨σ, H, I, h⟩⟩
theorem bn_cons {i : Nat} {x : PySem.Str} {ns : List PySem.Str} {u : TGs} (hN : X.N.Nodup) (hi : X.N[i]? = some x) (hx : Loc X.env.scope x) (h2 : PBn X ns u) (hf : X.fn x = true ∨ X.env.scope.names.lookup x = some .local := by first | exact .inl rfl | exact .inr rfl) : PBn X (x :: ns) (gCons (gName i) u) := ⟨fun pins s σ H vs us Q I r h => by
  obtain ⟨v, vr, e, h⟩ := h
  subst e
  cases r with
  | @cons _ u0 _ us0 r0 rs =>
    have st : wpAny (model X.prog X.w) X.A (bindName X.env x u0) (fun _ s' => ∃ σ' H', Inv X pins σ' H' s' ∧ u vr σ' H' Q) X.xe s := wpAny_bindName (store_ok I hN hi hx r0 (fun s' I' => ⟨_, H, I', h⟩) hf)
    exact wpAny_assignInOrder_more (thn st fun _ s1 ⟨σ1, H1, I1, q1⟩ => h2.run pins s1 σ1 H1 _ _ Q I1 rs q1)⟩
/-- the cases of a match, behind the subject -/
structure PMc (X : Cx) (cs : List MatchCase) (t : V → TS) : Prop where
  run : ∀ (pins : List (Addr × Obj)) (s : Shared) (σ : L2.St) (H : Hp) (D : Ends) (v : V) (u : Value) (first : Bool), Inv X pins σ H s → RelV v u → t v D σ H → wpAny (model X.prog X.w) X.A (matchCases cs X.env u first) (SP X pins D) X.xe s
theorem pm_nil : PMc X [] (fun _ D σ H => D.nx σ H) := ⟨fun pins s σ H D v u first I r h => wpAny_matchCases_nil ⟨σ, H, I, h⟩⟩
def tMatch (te : TE) (t : V → TS) : TS := fun D σ H => te σ H fun v H1 => t v D σ H1
theorem ps_match {e : Expr} {cs : List MatchCase} {pos : Pos} {te : TE} {t : V → TS} (he : PE X e te) (hc : PMc X cs t) : PS X (.Match e cs pos) (tMatch te t) :=
  ⟨fun pins s σ H D I h => wpAny_Match (thn (he.run pins s σ H _ I h) fun u s1 ⟨v, H1, I1, r, q⟩ => hc.run pins s1 σ H1 D v u true I1 r q)⟩
/-- case [z, n1, ..] -/
def tWord (K : PySem.W.Frag) (z : PySem.Str) (n : Nat) (g : TGs) (tb : TS) (rest : V → TS) : V → TS := fun v D σ H => ∃ (a : Addr) (y : PySem.Str) (xs : List V), v = .ref a ∧ SqT K H a (.str y :: xs) ∧ (xs.length ≠ n → rest v D σ H) ∧
  (xs.length = n → (y = z → g xs σ H fun σ' H' => tb D σ' H') ∧ (y ≠ z → rest v D σ H))
theorem pm_word {z : PySem.Str} {j : Nat} {p1 p2 p3 : Pos} {ps : List Pattern} {ns : List PySem.Str} {body : List Stmt} {cs : List MatchCase} {g : TGs} {tb : TS} {rest : V → TS} (hc : X.calm = true) (c : Caps ps ns) (hg : PBn X ns g) (hb : PSs X body tb) (hr : PMc X cs rest)
    (hs : (Pattern.MatchValue (.Constant (.str z) j p1) p2 :: ps).findIdx? (·.isStar) = none := by rfl)
    (hw : ((Pattern.MatchValue (.Constant (.str z) j p1) p2 :: ps).all fun p => p.isWildcard || (p.isStar && p.names.isEmpty)) = false := by rfl) :
    PMc X (⟨.MatchSequence (.MatchValue (.Constant (.str z) j p1) p2 :: ps) p3, none, body⟩ :: cs) (tWord X.K z ns.length g tb rest) := by
  refine ⟨fun pins s σ H D v u first I r h => ?_⟩
  obtain ⟨a, y, xs, rfl, hq, other, here⟩ := h
  cases r
  obtain ⟨its, rv, p, hz⟩ := I.tuple hq
  obtain ⟨u0, us, rfl, r0, rs⟩ : ∃ u0 us, its = u0 :: us ∧ RelV (.str y) u0 ∧ Vals xs us := by
    cases rv with
    | cons r0 rs => exact ⟨_, _, rfl, r0, rs⟩
  have xl : xs.length = us.length := rs.length
  have fit : (((u0 :: us).toArray.size : Nat) : Int) < 2 ^ 63 := by
    have h1 : (u0 :: us).toArray.size ≤ sizeLine := by
      have z := hz
      simp only [List.length_cons] at z
      simp only [List.size_toArray, List.length_cons]
      omega
    rw [sizeLine_eq] at h1
    omega
  refine wpAny_matchCases_cons ?_
  by_cases hl : xs.length = ns.length
  · refine matchSeq_tuple_hit p fit (by simp [c.len, ← hl, xl]) ?_ hs hw
    have en : (Pattern.MatchValue (.Constant (.str z) j p1) p2 :: ps).length = (u0 :: us).toArray.size := by simp [c.len, ← hl, xl]
    rw [en]
    refine wpAny_unpackItems_tuple (I.ok.hd hc) p fun h' eb => ?_
    have I1 : Inv X pins σ H { s with heap := h', toks := s.toks + 1 + 1 } := I.kept (t' := s.toks + 1 + 1) fun b o e => eb b o (Nat.ne_of_lt (Heap.lt_size e)) e
    show wpAny _ _ (matchEach _ _ (u0 :: us)) _ _ _
    refine wpAny_matchEach_cons (wpAny_matchPattern_Value ?_)
    have pz : PE X (.Constant (.str z) j p1) (tC (.str z)) := pe_str
    refine thn (pz.run pins _ σ H (fun x H' => x = .str z ∧ H' = H) I1 ⟨rfl, rfl⟩) fun uz s2 ⟨vz, H2, I2, rz, ez, eh⟩ => ?_
    subst ez eh
    refine thn (op_eq pins s2 σ H2 (.str y) (.str z) u0 uz (fun x H' => x = .bl (decide (y = z)) ∧ H' = H2) I2 r0 rz ⟨rfl, ?_, rfl⟩) fun uc s3 ⟨vc, H3, I3, rc, ec, eh3⟩ => ?_
    · exact congrArg V.bl (by simp)
    · subst ec eh3
      cases (show uc = Value.bool (decide (y = z)) from rc)
      have fin : rest (.ref a) D σ H3 → wpAny (model X.prog X.w) X.A (matchCases cs X.env (.ref a) false) (SP X pins D) X.xe s3 := fun w => hr.run pins s3 σ H3 D (.ref a) (.ref a) false I3 rfl w
      obtain ⟨yes, no⟩ := here hl
      refine wpAny_truthy_bool ?_
      by_cases e : y = z
      · rw [decide_eq_true e, if_pos rfl]
        refine caps_each c (by omega) ?_
        obtain ⟨z1, z2⟩ := zip_names (bindName X.env) ns us (by omega)
        show wpAny _ _ (assignInOrder ((([] : List (PySem.Str × Value)) ++ ns.zip us).map fun (n, _) => bindName X.env n) ((([] : List (PySem.Str × Value)) ++ ns.zip us).map (·.2))) _ _ _
        rw [List.nil_append, z1, z2]
        refine thn (hg.run pins s3 σ H3 xs us _ I3 rs (yes e)) fun _ s4 ⟨σ4, H4, I4, q4⟩ => ?_
        exact hb.run pins s4 σ4 H4 D I4 q4
      · rw [decide_eq_false e]
        exact fin (no e)
  · refine matchSeq_tuple_miss p fit (by simp [c.len]; omega) ?_ hs hw
    exact hr.run pins _ σ H D (.ref a) (.ref a) false (I.kept (t' := _) fun b o e => e) rfl (other hl)
theorem pm_wordK {K : PySem.W.Frag} (hk : X.K = K) {z : PySem.Str} {j : Nat} {p1 p2 p3 : Pos} {ps : List Pattern} {ns : List PySem.Str} {body : List Stmt} {cs : List MatchCase} {g : TGs} {tb : TS} {rest : V → TS} (hc : X.calm = true) (c : Caps ps ns) (hg : PBn X ns g) (hb : PSs X body tb) (hr : PMc X cs rest)
    (hs : (Pattern.MatchValue (.Constant (.str z) j p1) p2 :: ps).findIdx? (·.isStar) = none := by rfl)
    (hw : ((Pattern.MatchValue (.Constant (.str z) j p1) p2 :: ps).all fun p => p.isWildcard || (p.isStar && p.names.isEmpty)) = false := by rfl) :
    PMc X (⟨.MatchSequence (.MatchValue (.Constant (.str z) j p1) p2 :: ps) p3, none, body⟩ :: cs) (tWord K z ns.length g tb rest) := hk ▸ pm_word hc c hg hb hr hs hw
theorem pa_starK {K : PySem.W.Frag} {e : Expr} {p : Pos} {es : List Expr} {te : TE} {t : TA} (hk : X.K = K) (he : PE X e te) (ha : PA X es t) : PA X (.Starred e p :: es) (StX.tStar K te t) := hk ▸ StX.pa_star he ha
variable {K : PySem.W.Frag} {σ : L2.St} {H : Hp} {D : Ends}
theorem r_match {te : TE} {t : V → TS} (h : te σ H fun v H1 => t v D σ H1) : tMatch te t D σ H := h
theorem r_wHit {z : PySem.Str} {n : Nat} {g : TGs} {tb : TS} {rest : V → TS} {a : Addr} {xs : List V} (h : H a = some (.tup (.str z :: xs))) (hl : xs.length = n) (q : g xs σ H fun σ' H' => tb D σ' H') : tWord K z n g tb rest (.ref a) D σ H :=
  ⟨a, z, xs, rfl, .inl (.inl h), fun x => absurd hl x, fun _ => ⟨fun _ => q, fun x => absurd rfl x⟩⟩
theorem r_wMiss {z y : PySem.Str} {n : Nat} {g : TGs} {tb : TS} {rest : V → TS} {a : Addr} {xs : List V} (h : H a = some (.tup (.str y :: xs))) (ne : xs.length ≠ n ∨ y ≠ z) (q : rest (.ref a) D σ H) : tWord K z n g tb rest (.ref a) D σ H :=
  ⟨a, y, xs, rfl, .inl (.inl h), fun _ => q, fun hl => ⟨fun e => (ne.elim (fun x => absurd hl x) fun x => absurd e x), fun _ => q⟩⟩
def StN (K : PySem.W.Frag) (t : TA) (σ : L2.St) (Q : List V → Hp → Prop) : VK := fun x H1 => ∃ p xs, x = V.ref p ∧ (SqT K H1 p xs ∨ SqL K H1 p xs) ∧ t σ H1 fun ys H2 => Q (xs ++ ys) H2
theorem r_star {te : TE} {t : TA} {Q : List V → Hp → Prop} (h : te σ H (StN K t σ Q)) : StX.tStar K te t σ H Q := h
theorem r_stN {t : TA} {Q : List V → Hp → Prop} {p : Addr} {xs : List V} (h : H p = some (.tup xs)) (q : t σ H fun ys H2 => Q (xs ++ ys) H2) : StN K t σ Q (.ref p) H := ⟨p, xs, rfl, .inl (.inl (.inl h)), q⟩
end

set_option Elab.async false
set_option linter.all false
set_option maxRecDepth 100000
set_option maxHeartbeats 4000000
open PySem PySem.Spec PyProof.Rows L2
/-! # try .. except X as e: .. else: .. -/
section
variable {X : Cx} {cx nm : Str} {cv : Value} {k : Nat} {bd su : List Stmt} {b0 : Stmt} {p1 p2 p3 : Pos} {tb : WX → TS} {ts : Addr → Value → Option Addr → TS} {Wo : WX}
theorem ps_try_asE {els : List Stmt} {te : TS} (hels : PSs X els te) (hst : X.stack = X.env :: X.outer) (hfm : X.env.frame = some X.env.locals) (nd : X.N.Nodup) (hk : X.N[k]? = some nm) (hkind : X.env.kindOf nm = some .local) (hnm : Names X cx cv) (tk : L2N.Takes X Wo)
    (hbd : ∀ (W : WX) (pn : List (Addr × Obj)) (xe : Value → Shared → Prop), L2N.Takes (X.tr pn xe) W → PassesOwn (model X.prog X.w) X.A X.env xe → PSs (X.tr pn xe) bd (tb W))
    (hsu : ∀ (a : Addr) (oe : Obj) (cls : Value) (d : Option Addr) (pn : List (Addr × Obj)), L2N.Zn cls d oe → (∃ vs, oe.data = .fields vs) → PSs (X.suite a ((a, oe) :: pn)) (b0 :: su) (ts a cls d)) :
    PS X (.Try bd [.ExceptHandler (some (.Name cx p1)) (some nm) (b0 :: su) p2] els [] p3) (fun D σ H => tb (wAs X.K cv k ts Wo D) { D with nx := te D } σ H) :=
  ⟨fun pins s σ H D I goal => by
    have okI := I.ok
    have frm : X.A.frames = some (X.env :: X.outer) := by rw [okI.frames, hst]
    refine wpAny_Try_except (wpAny_mono ((hbd (wAs X.K cv k ts Wo D) (X.pn ++ pins) (fun e t => wpAny (model X.prog X.w) X.A (noteFrame e X.env)
      (fun _ t2 => wpAny (model X.prog X.w) X.A (setFlight e none) (fun _ t3 => wpAny (model X.prog X.w) X.A (handleBy e X.env [.ExceptHandler (some (.Name cx p1)) (some nm) (b0 :: su) p2]) (SP X pins D) X.xe t3) X.xe t2) X.xe t)
      (fun u t caught => ?_) PassesOwn.looking).run [] s σ H { D with nx := te D } (I.toTry _) goal) (fun fl t done => ?_) (fun _ _ he => he))
    · obtain ⟨a, B, sI, pins', σ1, H1, cls, d, rfl, Jt, nb, up1, sky0, free, ocs, agr, yes, mat, ifYes, ifNo⟩ := caught
      have J := Jt.ofTry okI
      refine L2N.Sky.land L2N.Zn.steady frm hfm (by rw [← hst]; exact sky0) fun hb fb ub => ?_
      have Jb : Inv X pins σ1 H1 { t with heap := hb } := J.landed nb fb.1 (up1.trans ub) ocs agr
      obtain ⟨ob, vb, getb, zb, datb⟩ := fb.there
      have apart : a ∉ frs (X.env :: X.outer) := fun mem => by
        obtain ⟨_, o', e', bad⟩ := fb.2.2.1.mem mem
        rw [getb] at e'
        cases e'
        exact bad _ datb
      have neL : a ≠ X.env.locals := fun z => apart (List.mem_filterMap.mpr ⟨X.env, List.mem_cons_self, by rw [hfm, z]⟩)
      have neF : a ∉ X.fs := fun mem => by
        obtain ⟨e, he, z⟩ := List.mem_filterMap.mp mem
        exact apart (List.mem_filterMap.mpr ⟨e, List.mem_cons_of_mem _ he, z⟩)
      have Sb := Jb.suite getb datb free neL neF
      refine wpAny_handleBy_cons (codeAny_handlers_test ?_) (by intro z; cases z)
      have look := PySem.W.exm_one (M := model X.prog X.w) (Jb.kIn) (fun A Q E s' kk z => wpAny_typeOf_ref (kk _ _ getb) (by rw [zb.1]; exact z) : PySem.W.Looks (model X.prog X.w) hb (typeOf (.ref a)) cls) mat
      have head : ∀ {Q E : Value → Shared → Prop}, Q cv { t with heap := hb } → wpAny (model X.prog X.w) (X.A.mark (some (.ref a))) (eval (.Name cx p1) X.env) Q E { t with heap := hb } := fun {Q E} z => by
        obtain ⟨g1, g2, g3 | ⟨g3, g4, g5⟩⟩ := hnm
        · exact ld_glob (X := X.suite a ((a, ob) :: (X.pn ++ pins))) Sb g1 g3 z g2
        · exact ld_blt (X := X.suite a ((a, ob) :: (X.pn ++ pins))) Sb g1 g3 g4 z g5 g2
      refine head (look.here ?_)
      cases yes with
      | true =>
        refine codeAny_handlers_suite_as (HandSPX.lands_againZ fb fun hc fc uc => ?_)
        obtain ⟨oc, vc, getc, zc, datc⟩ := fc.there
        have Jc : Inv X pins σ1 H1 { t with heap := hc } := J.landed nb fc.1 ((up1.trans ub).trans uc) ocs agr
        refine store_ok (X := X.suite a ((a, oc) :: (X.pn ++ pins))) (v := .ref a) (Jc.suite getc datc free neL neF) nd hk (.inl hkind) rfl (fun t5 S5 => ?_) (.inr hkind)
        refine wpAny_mono ((hsu a oc cls d (X.pn ++ pins) zc ⟨_, datc⟩).run [] t5 _ H1 _ S5 (ifYes rfl a free)) (fun fl t6 done => ?_) (fun _ _ z => False.elim z)
        have away : ∀ {σe : L2.St} {He : Hp} {Q : Shared → Prop}, Inv (X.suite a ((a, oc) :: (X.pn ++ pins))) [] σe He t6 → (∀ t7, Inv X pins (σe.set k none) He t7 → Q t7) →
            wpAny (model X.prog X.w) X.A (do bindName X.env nm .none; unbindBehindTheSuite X.env nm p2) (fun _ t7 => Q t7) X.xe t6 := fun Se z => gone_ok (Se.unsuite okI) nd hk hkind z
        cases fl with
        | next => obtain ⟨_, _, Se, z⟩ := done; exact away Se fun _ Jz => ⟨_, _, Jz, z⟩
        | brk => obtain ⟨_, _, Se, z⟩ := done; exact away Se fun _ Jz => ⟨_, _, Jz, z⟩
        | cont => obtain ⟨_, _, Se, z⟩ := done; exact away Se fun _ Jz => ⟨_, _, Jz, z⟩
        | ret u => obtain ⟨_, _, _, Se, r, z⟩ := done; exact away Se fun _ Jz => ⟨_, _, _, Jz, r, z⟩
      | false =>
        refine wpAny_handleBy_nil ?_
        obtain ⟨_, _, _, oe, vs, T, oT, _, he, _, hd, first, _⟩ := id fb
        unfold PySem.passOn
        refine wpAny_bind (wpAny_field he hd first ?_)
        rw [if_neg (show ¬ ((Value.ref T == Value.none) = true) from by simp)]
        have out : wpAny (model X.prog X.w) X.A (setFlight (.ref a) X.env.frame) (fun _ t4 => wpAny (model X.prog X.w) X.A (throw (.ref a) : Sem Flow) (SP X pins D) X.xe t4) X.xe { t with heap := hb } := by
          rw [hfm]
          exact HandSPX.setFlight_upZ fb fun hc sky2 uc => wpAny_throw (tk _ _ ⟨a, B, sI, pins, σ1, H1, cls, d, rfl, J, nb, (up1.trans ub).trans uc, .inr (.inr (by rw [hst]; exact sky2)), free, ocs, agr, ifNo rfl⟩)
        first
          | exact wpAny_bind (wpAny_pure (wpAny_bind out))
          | exact wpAny_bind out
    · cases fl with
      | next => obtain ⟨σ1, H1, J, z⟩ := done; exact hels.run pins t σ1 H1 D (J.ofTry okI) z
      | brk => obtain ⟨σ1, H1, J, z⟩ := done; exact ⟨σ1, H1, J.ofTry okI, z⟩
      | cont => obtain ⟨σ1, H1, J, z⟩ := done; exact ⟨σ1, H1, J.ofTry okI, z⟩
      | ret u => obtain ⟨v, σ1, H1, J, r, z⟩ := done; exact ⟨v, σ1, H1, J.ofTry okI, r, z⟩⟩
end

set_option Elab.async false
set_option linter.all false
set_option maxRecDepth 100000
set_option maxHeartbeats 4000000
open PySem PySem.Spec PyProof.Rows L2
/-! # what a suite of except may do: min and max of two ints, calls -/
section
variable {prog : Program} {w : World} {A : Around} {E : Value → Shared → Prop} {s : Shared}
theorem tup_end_hot {it t x1 : Addr} {i : Nat} {items : Array Value} {Q : Option Value → Shared → Prop} (hot : HotX.HotAt A x1 s.heap) (ne : x1 ≠ it) (hit : s.heap.IsTupleIter it t i) (ht : s.heap.IsTuple t items) (none_ : items[i]? = none)
    (q : ∀ h', Heap.ExtBut it s.heap h' → Q none { s with heap := h' }) : wpAny (model prog w) A (pyNext (.ref it)) Q E s := by
  obtain ⟨hh, o1, v1, g1, d1, c1⟩ := hot
  obtain ⟨o, ho, hc, hd⟩ := id hit
  obtain ⟨ol, hol, _, nl, hdl⟩ := ht
  unfold pyNext
  refine wpAny_bind (wpAny_attempt (wpAny_callSpecial?_slot (name := Str.ofString "__next__") hit.typeIs F.slot_tuple_iterator_next
    (wpAny_call_entry F.slot_tuple_iterator_next hit.typeIs F.entry_tuple_iterator_next ?_ (F.args_tuple_iterator_next_1 _))))
  refine wpAny_bind (m := field (.ref it) 0) (wpAny_field ho hd (x := .ref t) rfl ?_)
  rw [if_neg (show ¬ ((Value.ref t == Value.none) = true) from Bool.false_ne_true)]
  refine wpAny_bind (m := field (.ref it) 1) (wpAny_field ho hd (x := .int i 0) rfl ?_)
  refine wpAny_bind (m := seqItems? (.ref t)) (wpAny_seqItems hol hdl ?_)
  simp only [Int.toNat_natCast, none_]
  refine wpAny_bind (wpAny_rule (wpAny_bind (wpAny_setField ho hd (by simp) ?_)))
  refine wpAny_bind (m := newExc (.type "StopIteration") []) ?_
  simp only [newExc, newTuple]
  refine wpAny_bind (wpAny_newObj_type ?_ (by size_fits))
  refine wpAny_bind (m := firstArgMember _ _) (wpAny_of_eq (a := Value.none) (by first | rfl | (simp only [firstArgMember]; rfl)) ?_)
  refine wpAny_newObj_type ?_ (by size_fits)
  have old : ∀ {b : Addr} {u : Obj}, b ≠ it → s.heap.get? b = some u → (s.heap.update it (Obj.mapFields (·.setIfInBounds 0 .none))).get? b = some u := fun nb e => (Heap.get?_update_other _ _ (Ne.symm nb)).trans e
  refine HotX.raiseNew_hot ⟨hh, o1, v1, Heap.get?_push_of_some _ (Heap.get?_push_of_some _ (old ne g1)), d1, c1⟩ (Nat.ne_of_lt (Heap.lt_size (Heap.get?_push_of_some _ (old ne g1)))) (Heap.get?_push_size _ rfl) rfl (by first | (simp; done) | (simp; omega) | (simp only [Array.size_append]; simp; omega)) ?_
  refine wpAny_bind (wpAny_isInstance (T := "StopIteration") (b := true) ⟨_, Heap.get?_update_self _ (Heap.get?_push_size _ rfl) rfl, rfl⟩ isSubtype_stop ?_)
  refine wpAny_pure (q _ fun b u nb e => ?_)
  rw [Heap.get?_update_other _ _ (Nat.ne_of_gt (Heap.lt_size (Heap.get?_push_of_some _ (old nb e))))]
  exact Heap.get?_push_of_some _ (Heap.get?_push_of_some _ (old nb e))
/-- a tuple's walk while an exception is handled -/
theorem walks_tup_hot {x1 : Addr} {o1 : Obj} {v1 : Array Value} (hh : A.handled = some (.ref x1)) (d1 : o1.data = .fields v1) (c1 : v1[2]? = some .none) (I ax : Addr) (n1 : ax ≠ I) (n2 : x1 ≠ I) (items : Array Value) :
    Walks prog w A I [I, ax, x1] [I] items.size (fun i v => items[i]? = some v) (fun i h => (h.IsTupleIter I ax i ∧ h.IsTuple ax items) ∧ h.get? x1 = some o1) where
  sub := fun b hb => by simp at hb; simp [hb]
  frame := fun _ _ _ st k => ⟨⟨st.1.1.at fun o e => k I (by simp) o e, st.1.2.at fun o e => k ax (by simp) o e⟩, k x1 (by simp) _ st.2⟩
  item := fun i s Q E hi st q => by
    refine wpAny_pyNext_tuple_item st.1.1 st.1.2 (x := items[i]) (by simp [hi]) fun h' hit' hs' => ?_
    exact q _ h' s.toks (by simp [hi]) ⟨⟨hit', st.1.2.extBut hs'.extBut n1⟩, hs'.extBut x1 o1 n2 st.2⟩ fun b o hb e => hs'.extBut b o (fun h => hb (by simp [h])) e
  done := fun s Q E st q => tup_end_hot ⟨hh, o1, v1, st.2, d1, c1⟩ n2 st.1.1 st.1.2 (by simp) fun h' he => q h' s.toks fun b o hb e => he b o (fun h => hb (by simp [h])) e
  self := fun _ _ _ _ st q => wpAny_pyIter_tupleiter st.1.1 q
theorem min2_hot {x1 : Addr} {a b : Int} {t u : Tok} {Q : Value → Shared → Prop} (hot : HotX.HotAt A x1 s.heap) (q : ∀ h' tk, (∀ c o, s.heap.get? c = some o → h'.get? c = some o) → Q (if b < a then .int b u else .int a t) { s with heap := h', toks := tk }) :
    wpAny (model prog w) A (call (.builtin "min") [.int a t, .int b u]) Q E s := by
  obtain ⟨hh, o1, v1, g1, d1, c1⟩ := hot
  have hT : (s.heap.push { cls := .type "tuple", data := .seq #[.int a t, .int b u] }).IsTuple s.heap.objs.size (intItems #[(a, t), (b, u)]) := ⟨_, Heap.get?_push_size _ rfl, rfl, 0, by simp [intItems]⟩
  have hsz : (s.heap.push { cls := .type "tuple", data := .seq #[.int a t, .int b u] }).objs.size = s.heap.objs.size + 1 := Heap.size_push ..
  have l1 := Heap.lt_size g1
  refine call_min_two (wpAny_pyIter_tuple hT ?_)
  refine ⟨_, _, _, _, _, _, _, rfl, walks_tup_hot (A := A.in1) hh d1 c1 _ s.heap.objs.size (by rw [hsz]; exact Nat.ne_of_lt (Nat.lt_succ_self _)) (by rw [hsz]; exact Nat.ne_of_lt (Nat.lt_succ_of_lt l1)) (intItems #[(a, t), (b, u)]),
    ⟨⟨⟨_, Heap.get?_push_size _ rfl, rfl, rfl⟩, hT.push _⟩, Heap.get?_push_of_some _ (Heap.get?_push_of_some _ g1)⟩, fun c hc => ?_, by simp [intItems], CmpOf.ints_lt (numAt #[(a, t), (b, u)]) (fun _ _ => intItems_at), fun v h' tk hP hk => ?_⟩
  · have sz : ((s.heap.push { cls := .type "tuple", data := .seq #[.int a t, .int b u] }).push { cls := .type "tuple_iterator", data := .fields #[.ref s.heap.objs.size, .int (0 : Nat) 0] }).objs.size = s.heap.objs.size + 2 := by rw [Heap.size_push, hsz]
    have lt : c < s.heap.objs.size + 2 := by
      simp only [List.mem_cons, List.not_mem_nil, or_false] at hc
      rcases hc with e | e | e
      · rw [e, hsz]; exact Nat.lt_succ_self _
      · rw [e]; exact Nat.lt_succ_of_lt (Nat.lt_succ_self _)
      · rw [e]; exact Nat.lt_succ_of_lt (Nat.lt_succ_of_lt l1)
    exact sz ▸ lt
  · have old : ∀ c o, s.heap.get? c = some o → h'.get? c = some o := fun c o e => hk c o (fun hm => by
      have := Heap.lt_size e
      rw [List.mem_singleton.mp hm, hsz] at this
      exact absurd (Nat.lt_of_succ_lt this) (Nat.lt_irrefl _)) (Heap.get?_push_of_some _ (Heap.get?_push_of_some _ e))
    have hv : v = if b < a then Value.int b u else Value.int a t := by
      have e1 : (intItems #[(a, t), (b, u)]).size - 1 = 1 := by simp [intItems]
      rw [e1] at hP
      by_cases c : b < a
      · have e : argBest (fun i j => decide (numAt #[(a, t), (b, u)] i < numAt #[(a, t), (b, u)] j)) 1 = 1 := by simp [argBest, numAt, c]
        rw [e] at hP
        simpa [intItems, c] using hP.symm
      · have e : argBest (fun i j => decide (numAt #[(a, t), (b, u)] i < numAt #[(a, t), (b, u)] j)) 1 = 0 := by simp [argBest, numAt, c]
        rw [e] at hP
        simpa [intItems, c] using hP.symm
    rw [hv]
    exact q h' tk old
theorem max2_hot {x1 : Addr} {a b : Int} {t u : Tok} {Q : Value → Shared → Prop} (hot : HotX.HotAt A x1 s.heap) (q : ∀ h' tk, (∀ c o, s.heap.get? c = some o → h'.get? c = some o) → Q (if b > a then .int b u else .int a t) { s with heap := h', toks := tk }) :
    wpAny (model prog w) A (call (.builtin "max") [.int a t, .int b u]) Q E s := by
  obtain ⟨hh, o1, v1, g1, d1, c1⟩ := hot
  have hT : (s.heap.push { cls := .type "tuple", data := .seq #[.int a t, .int b u] }).IsTuple s.heap.objs.size (intItems #[(a, t), (b, u)]) := ⟨_, Heap.get?_push_size _ rfl, rfl, 0, by simp [intItems]⟩
  have hsz : (s.heap.push { cls := .type "tuple", data := .seq #[.int a t, .int b u] }).objs.size = s.heap.objs.size + 1 := Heap.size_push ..
  have l1 := Heap.lt_size g1
  refine call_max_two (wpAny_pyIter_tuple hT ?_)
  refine ⟨_, _, _, _, _, _, _, rfl, walks_tup_hot (A := A.in1) hh d1 c1 _ s.heap.objs.size (by rw [hsz]; exact Nat.ne_of_lt (Nat.lt_succ_self _)) (by rw [hsz]; exact Nat.ne_of_lt (Nat.lt_succ_of_lt l1)) (intItems #[(a, t), (b, u)]),
    ⟨⟨⟨_, Heap.get?_push_size _ rfl, rfl, rfl⟩, hT.push _⟩, Heap.get?_push_of_some _ (Heap.get?_push_of_some _ g1)⟩, fun c hc => ?_, by simp [intItems], CmpOf.ints_gt (numAt #[(a, t), (b, u)]) (fun _ _ => intItems_at), fun v h' tk hP hk => ?_⟩
  · have sz : ((s.heap.push { cls := .type "tuple", data := .seq #[.int a t, .int b u] }).push { cls := .type "tuple_iterator", data := .fields #[.ref s.heap.objs.size, .int (0 : Nat) 0] }).objs.size = s.heap.objs.size + 2 := by rw [Heap.size_push, hsz]
    have lt : c < s.heap.objs.size + 2 := by
      simp only [List.mem_cons, List.not_mem_nil, or_false] at hc
      rcases hc with e | e | e
      · rw [e, hsz]; exact Nat.lt_succ_self _
      · rw [e]; exact Nat.lt_succ_of_lt (Nat.lt_succ_self _)
      · rw [e]; exact Nat.lt_succ_of_lt (Nat.lt_succ_of_lt l1)
    exact sz ▸ lt
  · have old : ∀ c o, s.heap.get? c = some o → h'.get? c = some o := fun c o e => hk c o (fun hm => by
      have := Heap.lt_size e
      rw [List.mem_singleton.mp hm, hsz] at this
      exact absurd (Nat.lt_of_succ_lt this) (Nat.lt_irrefl _)) (Heap.get?_push_of_some _ (Heap.get?_push_of_some _ e))
    have hv : v = if b > a then Value.int b u else Value.int a t := by
      have e1 : (intItems #[(a, t), (b, u)]).size - 1 = 1 := by simp [intItems]
      rw [e1] at hP
      by_cases c : b > a
      · have e : argBest (fun i j => decide (numAt #[(a, t), (b, u)] i > numAt #[(a, t), (b, u)] j)) 1 = 1 := by first | (simp [argBest, numAt, c]; done) | (simp [argBest, numAt]; omega)
        rw [e] at hP
        simpa [intItems, c] using hP.symm
      · have e : argBest (fun i j => decide (numAt #[(a, t), (b, u)] i > numAt #[(a, t), (b, u)] j)) 1 = 0 := by first | (simp [argBest, numAt, c]; done) | (simp [argBest, numAt]; omega)
        rw [e] at hP
        simpa [intItems, c] using hP.symm
    rw [hv]
    exact q h' tk old
end
section
variable {X : Cx}
theorem call_min2H (hc : L2H.HotC X) : CallR X (.builtin "min") rMin2 := by
  intro pins s σ H xs us Q I r h
  obtain ⟨i, j, rfl, q⟩ := h
  obtain ⟨u, w', rfl, ⟨t, rfl⟩, ⟨t', rfl⟩⟩ := vals2 r
  obtain ⟨x1, hot⟩ := hc.at I
  refine min2_hot hot fun h' tk k => ⟨_, H, I.kept k, ?_, q⟩
  by_cases c : j < i
  · rw [if_pos c, if_pos c]; exact ⟨_, rfl⟩
  · rw [if_neg c, if_neg c]; exact ⟨_, rfl⟩
theorem call_max2H (hc : L2H.HotC X) : CallR X (.builtin "max") rMax2 := by
  intro pins s σ H xs us Q I r h
  obtain ⟨i, j, rfl, q⟩ := h
  obtain ⟨u, w', rfl, ⟨t, rfl⟩, ⟨t', rfl⟩⟩ := vals2 r
  obtain ⟨x1, hot⟩ := hc.at I
  refine max2_hot hot fun h' tk k => ⟨_, H, I.kept k, ?_, q⟩
  by_cases c : j > i
  · rw [if_pos c, if_pos c]; exact ⟨_, rfl⟩
  · rw [if_neg c, if_neg c]; exact ⟨_, rfl⟩
theorem op_inPH {k : Nat} (hr : L2H.RoomH k X.A) : OpR X (compareOp .In) (rInP X.K) := by
  intro pins s σ H x y v u Q I rx ry h
  obtain ⟨p, b, xs, ps, hx, rfl, hb, hp, q⟩ := h
  obtain ⟨as, r1⟩ := Dp.reads I (prD2 p) x v hx.dp rx
  obtain ⟨bs, r2⟩ := Dp.reads I (.tuple (ps.map prD2)) (.ref b) u (.tup hb hp.dps) ry
  exact SeqAt.in_tuple_reads r2 r1 (prD2s_lay ps) (prD2_lay p) (roomP (by have := hr.un; omega) p) ⟨.bl _, H, I, rfl, by rw [prD2s_any]; exact q⟩
theorem op_inPHK {K : PySem.W.Frag} {k : Nat} (h : X.K = K) (hr : L2H.RoomH k X.A) : OpR X (compareOp .In) (rInP K) := h ▸ op_inPH hr
end
section
variable {P : Program} {w : World} {K : PySem.W.Frag} {mg : Str → Option Value} {base : Heap}
/-- a def called in a suite of except -/
theorem okH {x qual : Str} {st : Stmt} {f : Addr} {fd : FuncData} {N ps : List Str} {k : Nat} {sp : Sp} {CX : CXT} (F : Fun K x qual st f fd) (S : FnScope N ps (defScope st)) (len : ∀ vs H Q E, sp vs H Q E → vs.length = ps.length)
    (body : ∀ (cdv : Value) (A : Around) (outer : List Env) (s : Shared) (H : Hp) (vs : List V) (Q : VK) (E : XK) (p : Addr × Obj), L2H.Hot1 A p → L2H.RoomH k (A.deeper (envOfC qual (defScope st) s.heap.objs.size f cdv)) → sp vs H Q E →
      ∃ t, PSs (L2H.cxH CX P w K mg base N qual (defScope st) f cdv A outer s H E p) (defBody st) t ∧ t { nx := fun _ H' => Q .non H', rt := Q } (L2.start N vs) H) : L2H.FnH P w K mg base CX (k + 1) f fd ps sp := by
  obtain ⟨oc, od, kV, doc, pm, an, cdv, ct, osl, rfl, lk, hcd⟩ := F.ex
  exact L2H.fn_ofH lk hcd S len fun A outer s H vs Q E p hot hr hsp => body cdv A outer s H vs Q E p hot hr hsp
theorem pass0H {X : Cx} (σ : L2.St) : PassesAt CX0 X σ (fun _ _ _ => False) := fun _ _ _ _ _ _ h => h.elim
/-- a def that lets out errors whose context is None -/
theorem okN {x qual : Str} {st : Stmt} {f : Addr} {fd : FuncData} {N ps : List Str} {k : Nat} {sp : Sp} (F : Fun K x qual st f fd) (S : FnScope N ps (defScope st)) (len : ∀ vs H Q E, sp vs H Q E → vs.length = ps.length)
    (body : ∀ (cdv : Value) (A : Around) (outer : List Env) (s : Shared) (H : Hp) (vs : List V) (Q : VK) (E : XK), Room k (A.deeper (envOfC qual (defScope st) s.heap.objs.size f cdv)) → sp vs H Q E →
      ∃ t, PSs (cxOf (L2N.CX P w) P w K mg base N qual (defScope st) f cdv A outer s H E) (defBody st) t ∧ t { nx := fun _ H' => Q .non H', rt := Q } (L2.start N vs) H) : FnOk P w K mg base (L2N.CX P w) (k + 1) f fd ps sp := by
  obtain ⟨oc, od, kV, doc, pm, an, cdv, ct, osl, rfl, lk, hcd⟩ := F.ex
  exact fn_of lk hcd S len fun A outer s H vs Q E hr hsp => body cdv A outer s H vs Q E hr hsp
theorem takesN0 {X : Cx} : L2N.Takes X (fun _ _ _ _ => False) := fun _ _ x => by
  obtain ⟨_, _, _, _, _, _, _, _, _, _, _, _, _, _, _, _, z⟩ := x
  exact z.elim
/-- the suite knows the handled exception -/
theorem hot_suite {X : Cx} {a : Addr} {oe : Obj} {cls : Value} {d : Option Addr} {pn : List (Addr × Obj)} (hz : L2N.Zn cls d oe) (hf : ∃ vs, oe.data = .fields vs) : L2H.HotC (X.suite a ((a, oe) :: pn)) := by
  obtain ⟨vs, e⟩ := hf
  exact ⟨(a, oe), ⟨rfl, vs, e, hz.2.2 vs e⟩, List.mem_cons_self⟩
theorem roomH_suite {k : Nat} {X : Cx} {a : Addr} {pn : List (Addr × Obj)} (r : Room k X.A) : L2H.RoomH k (X.suite a pn).A := ⟨r.dp, r.un⟩
end

set_option Elab.async false
set_option linter.all false
set_option maxRecDepth 100000
set_option maxHeartbeats 4000000
open PySem PySem.Spec PyProof.Rows L2
/-- an expression that is never reached -/
def tDead : TE := fun _ _ _ => False
theorem pe_dead {X : Cx} {e : Expr} : PE X e tDead := ⟨fun _ _ _ _ _ _ h => (show False from h).elim⟩
section
variable {K : PySem.W.Frag} {H : Hp} {Q : VK}
theorem r_neSame {x y : V} {t : PyData} (hx : Dp K H x t) (hy : Dp K H y t) (c : t.canLay0 = true) (d : t.depth ≤ 64) (q : Q (.bl false) H) : rNeD K x y H Q := by
  have e : SeqAt.shaped t = true := shaped_of c d
  refine ⟨t, t, hx, hy, e, e, ?_⟩
  rw [PySem.SeqAt.eqv_refl t c]
  exact q
end

set_option Elab.async false
set_option linter.all false
set_option maxRecDepth 100000
set_option maxHeartbeats 4000000
open PySem PySem.Spec PyProof.Rows L2
/-! # sets as the bits of a number -/
structure Msk (x : Int) (S : Int → Prop) : Prop where
  nn : 0 ≤ x
  bits : ∀ i : Nat, x.toNat.testBit i = true ↔ S i
theorem Msk.zero : Msk 0 (fun _ => False) := ⟨by omega, fun i => by simp⟩
theorem Msk.shl {v : Int} (h : 0 ≤ v) : Msk (1 * 2 ^ v.toNat) (fun i => i = v) := by
  have e : (1 * 2 ^ v.toNat : Int) = ((2 ^ v.toNat : Nat) : Int) := by
    rw [Int.one_mul]
    exact (PySem.W.kbt_cast v.toNat).symm
  rw [e]
  refine ⟨Int.natCast_nonneg _, fun i => ?_⟩
  rw [Int.toNat_natCast, Nat.testBit_two_pow, decide_eq_true_eq]
  omega
theorem Msk.or {x y : Int} {S T : Int → Prop} (a : Msk x S) (b : Msk y T) : Msk (Builtin.bitOr x y) (fun i => S i ∨ T i) := by
  rw [Bits.bitOr_pp a.nn b.nn]
  refine ⟨Int.natCast_nonneg _, fun i => ?_⟩
  rw [Int.toNat_natCast, Nat.testBit_or, Bool.or_eq_true, a.bits, b.bits]
theorem Msk.and {x y : Int} {S T : Int → Prop} (a : Msk x S) (b : Msk y T) : Msk (Builtin.bitAnd x y) (fun i => S i ∧ T i) := by
  rw [bitAnd_pp a.nn b.nn]
  refine ⟨Int.natCast_nonneg _, fun i => ?_⟩
  rw [Int.toNat_natCast, Nat.testBit_and, Bool.and_eq_true, a.bits, b.bits]
theorem Msk.congr {x : Int} {S T : Int → Prop} (a : Msk x S) (h : ∀ i : Nat, S i ↔ T i) : Msk x T := ⟨a.nn, fun i => (a.bits i).trans (h i)⟩
theorem Msk.ne0 {x : Int} {S : Int → Prop} (a : Msk x S) : x ≠ 0 ↔ ∃ i : Nat, S i := by
  constructor
  · intro h
    have : x.toNat ≠ 0 := by have := a.nn; omega
    obtain ⟨i, hi⟩ := Nat.exists_testBit_of_ne_zero this
    exact ⟨i, (a.bits i).mp hi⟩
  · rintro ⟨i, hi⟩ e
    have := (a.bits i).mpr hi
    rw [e] at this
    simp at this
theorem Msk.uniq {x y : Int} {S : Int → Prop} (a : Msk x S) (b : Msk y S) : x = y := by
  have : x.toNat = y.toNat := Nat.eq_of_testBit_eq fun i => by
    have h1 := a.bits i
    have h2 := b.bits i
    cases c : x.toNat.testBit i <;> cases d : y.toNat.testBit i <;> simp_all
  have := a.nn
  have := b.nn
  omega
/-- what ors do: a mask of the items of a list -/
theorem Msk.snoc {x v : Int} {ns : List Int} (a : Msk x (fun i => i ∈ ns)) (h : 0 ≤ v) : Msk (Builtin.bitOr x (1 * 2 ^ v.toNat)) (fun i => i ∈ ns ++ [v]) :=
  (a.or (.shl h)).congr fun i => by rw [List.mem_append, List.mem_singleton]
theorem Msk.nil : Msk 0 (fun i => i ∈ ([] : List Int)) := Msk.zero.congr fun i => by simp
/-! ## ints as data -/
theorem dps_int {K : PySem.W.Frag} {H : Hp} : ∀ ns : List Int, DpAll K H (ns.map V.int) (ns.map PyData.int)
  | [] => .nil
  | _ :: ns => .cons (.int _) (dps_int ns)
theorem layI : ∀ ns : List Int, PyData.canLayAll0 (ns.map PyData.int) = true
  | [] => by simp [PyData.canLayAll0]
  | n :: ns => by
    rw [List.map_cons]
    simp only [PyData.canLayAll0, PyData.canLay0, Bool.true_and]
    exact layI ns
theorem depI : ∀ ns : List Int, PyData.depthAll (ns.map PyData.int) ≤ 0
  | [] => by simp [PyData.depthAll]
  | n :: ns => by
    have := depI ns
    rw [List.map_cons]
    simp only [PyData.depthAll, PyData.depth]
    omega
theorem tupI_lay (ns : List Int) : (PyData.tuple (ns.map PyData.int)).canLay0 = true := by
  simp only [PyData.canLay0]
  exact layI ns
theorem tupI_depth (ns : List Int) : (PyData.tuple (ns.map PyData.int)).depth ≤ 1 := by
  have := depI ns
  simp only [PyData.depth]
  omega
theorem lstI_lay (ns : List Int) : (PyData.list (ns.map PyData.int)).canLay0 = true := by
  simp only [PyData.canLay0]
  exact layI ns
theorem lstI_depth (ns : List Int) : (PyData.list (ns.map PyData.int)).depth ≤ 1 := by
  have := depI ns
  simp only [PyData.depth]
  omega
theorem eqvI : ∀ ns ms : List Int, PyData.eqvAll (ns.map PyData.int) (ms.map PyData.int) = decide (ns = ms)
  | [], [] => by simp [PyData.eqvAll]
  | [], _ :: _ => by simp [PyData.eqvAll]
  | _ :: _, [] => by simp [PyData.eqvAll]
  | n :: ns, m :: ms => by
    rw [List.map_cons, List.map_cons]
    simp only [PyData.eqvAll, PyData.eqv]
    rw [eqvI ns ms]
    by_cases h1 : n = m <;> by_cases h2 : ns = ms <;> simp [h1, h2]
theorem tupI_eqv (ns ms : List Int) : PyData.eqv (.tuple (ns.map PyData.int)) (.tuple (ms.map PyData.int)) = decide (ns = ms) := by
  simp only [PyData.eqv]
  exact eqvI ns ms
/-- ints ascending, each once -/
structure DedI (qs fs : List Int) : Prop where
  asc : fs.Pairwise (· < ·)
  mem : ∀ z, z ∈ fs ↔ z ∈ qs
  last : fs.getLast? = qs.getLast?
theorem DedI.nil : DedI [] [] := ⟨.nil, fun _ => Iff.rfl, rfl⟩
theorem DedI.same {qs fs : List Int} {q : Int} (D : DedI qs fs) (h : fs.getLast? = some q) : DedI (qs ++ [q]) fs := by
  refine ⟨D.asc, fun z => ?_, by rw [h, List.getLast?_append]; simp⟩
  rw [List.mem_append, ← D.mem, List.mem_singleton]
  refine ⟨.inl, fun c => c.elim id fun e => ?_⟩
  rw [e]
  exact List.mem_of_getLast? h
theorem DedI.more {qs fs : List Int} {q : Int} (D : DedI qs fs) (hl : (qs ++ [q]).Pairwise (· ≤ ·)) (h : fs.getLast? ≠ some q) : DedI (qs ++ [q]) (fs ++ [q]) := by
  obtain ⟨p1, p2, p3⟩ := List.pairwise_append.mp hl
  refine ⟨List.pairwise_append.mpr ⟨D.asc, by simp, fun a ha b hb => ?_⟩, fun z => by rw [List.mem_append, List.mem_append, D.mem], by rw [List.getLast?_append, List.getLast?_append]; simp⟩
  rw [List.mem_singleton.mp hb]
  have le := p3 a ((D.mem a).mp ha) q List.mem_cons_self
  rcases Int.lt_or_eq_of_le le with e | e
  · exact e
  refine absurd ?_ h
  subst e
  obtain ⟨b, hb'⟩ : ∃ b, fs.getLast? = some b := by
    cases q9 : fs.getLast? with
    | some r => exact ⟨r, rfl⟩
    | none =>
      rw [List.getLast?_eq_none_iff.mp q9] at ha
      cases ha
  have hbq := p3 b ((D.mem b).mp (List.mem_of_getLast? hb')) a List.mem_cons_self
  have hab : a ≤ b := by
    obtain ⟨ys, e⟩ := List.getLast?_eq_some_iff.mp hb'
    rw [e] at ha
    have pw := D.asc
    rw [e] at pw
    rcases List.mem_append.mp ha with c | c
    · have := (List.pairwise_append.mp pw).2.2 a c b List.mem_cons_self
      omega
    · rw [List.mem_singleton.mp c]
      omega
  rw [hb', show b = a by omega]
section
variable {X : Cx} {K : PySem.W.Frag} {σ : L2.St} {H : Hp} {Q : VK}
theorem r_eqNilI {f e : Addr} {ns : List Int} (h : H f = some (.lst (ns.map V.int))) (he : H e = some (.lst [])) (q : Q (.bl (decide (ns = []))) H) : rEqD K (.ref f) (.ref e) H Q := by
  refine ⟨.list (ns.map PyData.int), .list [], .lst (.inl (.inl h)) (dps_int ns), .lst (.inl (.inl he)) .nil, shaped_of (lstI_lay ns) (by have := lstI_depth ns; omega), shaped_of (lstI_lay []) (by have := lstI_depth []; simp only [List.map_nil] at this; omega), ?_⟩
  cases ns with
  | nil => exact q
  | cons p ps => exact q
theorem r_neTI {f e : Addr} {ns ms : List Int} (h : SqT K H f (ns.map V.int)) (he : SqT K H e (ms.map V.int)) (q : Q (.bl (!decide (ns = ms))) H) : rNeD K (.ref f) (.ref e) H Q := by
  refine ⟨.tuple (ns.map PyData.int), .tuple (ms.map PyData.int), .tup h (dps_int ns), .tup he (dps_int ms), shaped_of (tupI_lay ns) (by have := tupI_depth ns; omega), shaped_of (tupI_lay ms) (by have := tupI_depth ms; omega), ?_⟩
  rw [tupI_eqv]
  exact q
theorem r_sortI {a : Addr} {ns : List Int} {R : VK} (h : SqL K H a (ns.map V.int)) (l : ns.length < 64) (q : ∀ (ms : List Int) (p : Addr), ms.Perm ns → ms.Pairwise (· ≤ ·) → H p = none → R (.ref p) (upd H p (.lst (ms.map V.int)))) : rSorted K [.ref a] H R := ⟨a, ns, rfl, h, l, q⟩
theorem op_inDK (h : X.K = K) (hu : X.A.units + 65 < cLine) : OpR X (compareOp .In) (rInD K) := h ▸ op_inD hu
theorem op_notInDK (h : X.K = K) (hu : X.A.units + 65 < cLine) : OpR X (compareOp .NotIn) (rNotInD K) := h ▸ op_notInD hu
theorem cr_allK (h : X.K = K) (hc : X.calm = true) : CallR X (.builtin "all") (rAll K) := h ▸ cr_all hc
theorem r_all {a : Addr} {bs : List Bool} (h : H a = some (.lst (bs.map V.bl))) (q : Q (.bl (bs.all id)) H) : rAll K [.ref a] H Q := ⟨a, bs, rfl, .inl (.inl h), q⟩
def AugN (i : Nat) (ti : TIp) (σ : L2.St) (nx : L2.St → Hp → Prop) (x : V) : VK := fun y H1 => ti x y H1 fun z H2 => nx (σ.set i (some z)) H2
theorem r_aug {i : Nat} {te : TE} {ti : TIp} {nx bk ct : L2.St → Hp → Prop} {x : V} (e : σ[i]? = some (some x)) (h : te σ H (AugN i ti σ nx x)) : tAug i te ti ⟨nx, Q, bk, ct⟩ σ H := ⟨x, e, h⟩
theorem r_augOr {i : Nat} {nx : L2.St → Hp → Prop} {a b : Int} {σ' : L2.St} (e : σ.set i (some (.int (Builtin.bitOr a b))) = σ') (h : nx σ' H) : AugN i (rI0 fun i j => .int (Builtin.bitOr i j)) σ nx (.int a) (.int b) H := ⟨a, b, rfl, rfl, by subst e; exact h⟩
end

set_option Elab.async false
set_option linter.all false
set_option maxRecDepth 100000
set_option maxHeartbeats 4000000
open PySem PySem.Spec PyProof.Rows L2
/-! # sets of ints: {x}, and a def that knows its code -/
section
variable {P : Program} {w : World} {A : Around} {E : Value → Shared → Prop} {s : Shared} {a : Addr} {S : Int → Bool} {n : Nat}
theorem put_int {k : Int} {tk : Tok} {Q : Bool → Shared → Prop} (R : SetR w s.heap a S n) (room : n + 1 < scanBound)
    (h : ∀ h', Heap.SameBut a s.heap h' → SetR w h' a (fun j => S j || decide (j = k)) (if S k = true then n else n + 1) → Q (!S k) { s with heap := h', toks := s.toks + 1 }) : wpAny (model P w) A (setAdd a (.int k tk)) Q E s := by
  unfold setAdd
  exact wpAny_holding (wpAny_bind ((intKind P w).pyHash (intKind_is P w k tk) (setR_add_hashed (s := { s with toks := s.toks + 1 }) R room h)))
end
section
variable {X : Cx}
/-- {x}: the set first, then the item -/
def tSet1 (w : World) (te : TE) : TE := fun σ H Q => ∀ p, H p = none → te σ (upd H p (SetO w p (fun _ => false) 0)) fun x H1 => ∃ k, x = .int k ∧ H1 p = some (SetO w p (fun _ => false) 0) ∧ Q (.ref p) (upd H1 p (SetO w p (fun j => decide (j = k)) 1))
theorem pe_set1 {e : Expr} {te : TE} {pos : Pos} (hcd : PySem.W.kdsCode X.K X.env.code = true) (he : PE X e te) (hst : starEach [e] X.env = [(false, eval e X.env)] := by rfl) : PE X (.Set [e] 0 pos) (tSet1 X.w te) := by
  refine ⟨fun pins s σ H Q I h => ?_⟩
  rw [arm_eval_Set]
  refine wpAny_bind (wpAny_standAt ?_)
  refine wpAny_bind (PySem.W.kds_main (I.kIn) hcd fun b => ?_)
  rw [hst]
  have hroad : displayRoad 0 [e] = .oneByOne := rfl
  rw [hroad]
  show wpAny (model X.prog X.w) X.A (setDisplay .oneByOne b [(false, (eval e X.env >>= fun v => standAt pos >>= fun _ => pure v : Sem Value))]) _ _ s
  generalize hact : (eval e X.env >>= fun v => standAt pos >>= fun _ => pure v : Sem Value) = act
  unfold setDisplay
  have t1 : (if ([(false, act)] : List (Bool × Sem Value)).length > 30 then 0 else (([(false, act)] : List (Bool × Sem Value)).findIdx? (·.1)).getD ([(false, act)] : List (Bool × Sem Value)).length) = 1 := rfl
  dsimp only
  rw [if_neg (by decide)]
  refine wpAny_bind (PpSet.newSet_ok ?_)
  dsimp only
  rw [t1]
  refine wpAny_bind (wpAny_holding ?_)
  show wpAny (model X.prog X.w) X.A (evalAll [act] >>= _) _ _ _
  generalize hD : s.heap.objs.size = D
  have dn : H D = none := I.hok.fresh (Nat.le_of_eq hD)
  have new : SetR X.w (s.heap.push { cls := .type "set", dict := none, data := .set #[] 0 (.fresh 0 0 (!X.w.params.followText "set-order")) }) D (fun _ => false) 0 := by
    rw [← hD]
    exact setR_fresh X.w
  have I1 : Inv X pins σ (upd H D (SetO X.w D (fun _ => false) 0)) { s with heap := s.heap.push { cls := .type "set", dict := none, data := .set #[] 0 (.fresh 0 0 (!X.w.params.followText "set-order")) } } :=
    I.laid (t' := s.toks) (fun b u e => Heap.get?_push_of_some _ e) (Nat.le_of_eq hD) (setO_new new)
  refine wpAny_bind (wpAny_evalAll_cons ?_)
  rw [← hact]
  refine wpAny_bind (thn (he.run pins _ σ _ _ I1 (h D dn)) fun v s1 ⟨x, H1, I2, r1, k, e1, hs, q⟩ => ?_)
  subst e1
  obtain ⟨tk, rfl⟩ := r1
  refine wpAny_bind (wpAny_standAt (wpAny_pure ?_))
  refine wpAny_evalAll_nil ?_
  rw [List.forIn_cons]
  have R1 := setO_get I2 hs
  refine wpAny_bind (wpAny_holding ?_)
  refine wpAny_bind (wpAny_bind (wpAny_bind (put_int R1 (by decide) fun h' sb new => wpAny_pure ?_)))
  dsimp only
  rw [List.forIn_nil]
  refine wpAny_pure ?_
  rw [if_neg (by decide)]
  refine wpAny_pure ?_
  show wpAny (model X.prog X.w) X.A (forIn ([] : List (Bool × Sem Value)) PUnit.unit _ >>= _) _ _ _
  rw [List.forIn_nil]
  refine wpAny_bind (wpAny_pure (wpAny_pure (wpAny_pure ?_)))
  have he : ∃ u, h'.get? D = some u := by
    have ⟨o, _, _, _, ho, _⟩ := new
    exact ⟨o, ho⟩
  have efn : (fun j : Int => (fun _ => false) j || decide (j = k)) = fun j => decide (j = k) := by funext j; simp
  have e1 : (if (fun _ : Int => false) k = true then 0 else 0 + 1) = 1 := by simp
  rw [efn, e1] at new
  exact ⟨.ref D, upd H1 D (SetO X.w D (fun j => decide (j = k)) 1), I2.write (e := D) (t' := s1.toks + 1) (by rw [hs]; trivial) (.inl rfl) (fun b u hb hu => (sb.2 b hb).trans hu) he (setO_new new), rfl, q⟩
end
section
variable {P : Program} {w : World} {K : PySem.W.Frag} {mg : Str → Option Value} {base : Heap}
/-- a def's body, its own code at hand -/
theorem okC {x qual : Str} {st : Stmt} {f : Addr} {fd : FuncData} {N ps : List Str} {k : Nat} {sp : Sp} (F : Fun K x qual st f fd) (S : FnScope N ps (defScope st)) (len : ∀ vs H Q E, sp vs H Q E → vs.length = ps.length)
    (body : ∀ (cdv : Value) (A : Around) (outer : List Env) (s : Shared) (H : Hp) (vs : List V) (Q : VK) (E : XK), PySem.W.kdsCode K cdv = true → Room k (A.deeper (envOfC qual (defScope st) s.heap.objs.size f cdv)) → sp vs H Q E →
      ∃ t, PSs (cxOf CX0 P w K mg base N qual (defScope st) f cdv A outer s H E).nox (defBody st) t ∧ t { nx := fun _ H' => Q .non H', rt := Q } (L2.start N vs) H) : FnOk P w K mg base CX0 (k + 1) f fd ps sp := by
  obtain ⟨oc, od, kV, doc, pm, an, cdv, ct, osl, rfl, lk, hcd⟩ := F.ex
  exact fn_of lk hcd S len fun A outer s H vs Q E hr hsp => by
    obtain ⟨t, h, q⟩ := body cdv A outer s H vs Q E (kdsCode_of hcd) hr hsp
    exact ⟨t, h.nox, q⟩
end
section
variable {X : Cx} {w : World} {σ : L2.St} {H : Hp} {Q : VK}
theorem cr_set0W (h : X.w = w) : CallR X (.type "set") (rSet0 w) := h ▸ cr_set0
theorem cr_sortedSetW (h : X.w = w) (hc : X.calm = true) : CallR X (.builtin "sorted") (rSortedSet w) := h ▸ cr_sortedSet hc
theorem op_sinW (h : X.w = w) : OpR X (compareOp .In) (rSIn w) := h ▸ or_sin
theorem op_sninW (h : X.w = w) : OpR X (compareOp .NotIn) (rSNotIn w) := h ▸ or_snotin
theorem PE.saddW {e : Expr} {to : TE} {t : TA} (h : X.w = w) (p : PE X e (tSAdd X.w to t)) : PE X e (tSAdd w to t) := h ▸ p
theorem PE.set1W {e : Expr} {te : TE} (h : X.w = w) (p : PE X e (tSet1 X.w te)) : PE X e (tSet1 w te) := h ▸ p
def SAddN (w : World) (t : TA) (σ : L2.St) (Q : VK) : VK := fun x H1 => (∃ a S n, x = V.ref a ∧ H1 a = some (SetO w a S n)) ∧ t σ H1 fun xs H2 => rSAdd w x xs H2 Q
theorem r_sadd {to : TE} {t : TA} (h : to σ H (SAddN w t σ Q)) : tSAdd w to t σ H Q := h
theorem r_saddN {t : TA} {a : Addr} {S : Int → Bool} {n : Nat} (h : H a = some (SetO w a S n)) (q : t σ H fun xs H2 => rSAdd w (.ref a) xs H2 Q) : SAddN w t σ Q (.ref a) H := ⟨⟨a, S, n, rfl, h⟩, q⟩
end

set_option Elab.async false
set_option linter.all false
set_option maxRecDepth 100000
set_option maxHeartbeats 4000000
open PySem PySem.Spec PyProof.Rows L2
/-! # list.extend of a tuple, len of a set -/
section
open PySem.AutoSeq1 in
theorem ext_tup_meets (l b : Addr) (its us : Array Value) (n m : Nat) (d : Option Addr) (sl : Array (Option Value)) (h0 : ¬(!its.isEmpty && Builtin.List.listTooLong (its.size + us.size)) = true) (h1 : its.size ≤ sizeLine) (h2 : its.size + us.size ≤ sizeLine + 1) :
    Meets (Builtin.«list.extend» ⟨[.ref l, .ref b], []⟩) (fun _ R s => s.heap.get? l = some { cls := .type "list", dict := none, data := .seq its n, slots := #[] } ∧ s.heap.get? b = some { cls := .type "tuple", dict := d, data := .seq us m, slots := sl } ∧
      R (.ok (.ret Value.none)) { s with heap := s.heap.update l (Obj.mapSeq fun x => x ++ us), toks := s.toks }) := by
  refine .of_wp fun prog w A R s h => ?_
  obtain ⟨hp, g, dr, tk, os⟩ := s
  obtain ⟨hl, hb, h⟩ := h
  have f1 := idx_int
  have f2 := AutoSeq1.sub_tuple_tuple
  have f3 := AutoSeq1.sub_list_list
  have f4 := AutoSeq1.sub_tuple_list
  have f5 := AutoSeq1.sub_list_tuple
  have hz : (its ++ us).size ≤ sizeLine + 1 := by
    rw [Array.size_append]
    exact h2
  wp_walk using (wpAny_updateSeq hl rfl (hz := h1) (_hz' := hz)), wpAny_loadPart' hl, wpAny_loadPart' hb
  exact ⟨_, rfl, h⟩
end
section
variable {X : Cx} {K : PySem.W.Frag} {w : World}
def rExtT (K : PySem.W.Frag) : V → List V → Hp → VK → Prop := fun x vs H Q => ∃ l b xs zs, x = .ref l ∧ vs = [.ref b] ∧ H l = some (.lst xs) ∧ SqT K H b zs ∧ xs.length + zs.length ≤ sizeLine ∧ Q .non (upd H l (.lst (xs ++ zs)))
theorem mt_extT : MtM X "list.extend" (rExtT X.K) := by
  intro pins s σ H x vs v us Q I rx rv h
  obtain ⟨l, b, xs, zs, rfl, rfl, hH, hB, hz, q⟩ := h
  cases rx
  obtain ⟨u, rfl, ru⟩ := rv.one
  cases ru
  obtain ⟨z, its, n, r, hl, e⟩ := I.lstM hH
  obtain ⟨us, r2, ⟨o, ho, hc, m, hd⟩, z2⟩ := I.tuple hB
  have hl2 := r2.length
  obtain ⟨cls, dict, data, slots⟩ := o
  simp only at hc hd
  subst hc hd
  have hsz : its.toArray.size + us.toArray.size ≤ sizeLine := by
    rw [List.size_toArray, List.size_toArray]
    omega
  have short : ¬ (!its.toArray.isEmpty && Builtin.List.listTooLong (its.toArray.size + us.toArray.size)) = true := by
    rw [notLongL hsz, Bool.and_false]
    exact Bool.false_ne_true
  refine call_meets F.slot_list_extend ⟨_, e, rfl⟩ F.entry_list_extend (F.args_list_extend_2 _ _) (ext_tup_meets l b its.toArray us.toArray n m dict slots short (by rw [List.size_toArray]; omega) (by omega)) ⟨e, ho, ?_⟩
  refine ⟨.non, _, I.lset (its' := its ++ us) hH e (by simp) (r.append r2) ?_, rfl, q⟩
  rw [List.length_append]
  omega
theorem mt_extTK (h : X.K = K) : MtM X "list.extend" (rExtT K) := h ▸ mt_extT
theorem r_extT {H : Hp} {Q : VK} {l b : Addr} {xs zs : List V} (h : H l = some (.lst xs)) (hb : SqT K H b zs) (hz : xs.length + zs.length ≤ 100000) (q : Q .non (upd H l (.lst (xs ++ zs)))) : rExtT K (.ref l) [.ref b] H Q := ⟨l, b, xs, zs, rfl, rfl, h, hb, small_len hz, q⟩
theorem r_ext {H : Hp} {Q : VK} {l b : Addr} {xs zs : List V} (h : H l = some (.lst xs)) (hb : H b = some (.lst zs)) (hz : xs.length + zs.length ≤ 100000) (q : Q .non (upd H l (.lst (xs ++ zs)))) : rExtend (.ref l) [.ref b] H Q := ⟨l, b, xs, zs, rfl, rfl, h, hb, small_len hz, q⟩
def rLenSet (w : World) : List V → Hp → VK → Prop := fun vs H Q => ∃ (a : Addr) (S : Int → Bool) (n : Nat), vs = [V.ref a] ∧ H a = some (SetO w a S n) ∧ Q (.int n) H
theorem call_lenSet (hw : X.w = w) : CallR X (.builtin "len") (rLenSet w) := by
  subst hw
  intro pins s σ H vs us Q I r h
  obtain ⟨a, S, n, rfl, ha, q⟩ := h
  rw [Vals.ref1 r]
  obtain ⟨o, es, ep, t, ho, hex, hd, _, _, _, hb, hf, hn, _⟩ := setO_get I ha
  refine call_len_set ho hex hd hf (by have : (scanBound : Int) = 4096 := rfl; omega) ?_
  exact ⟨.int n, H, I.kept (t' := s.toks + 1 + 1) fun _ _ e => e, by rw [hn]; exact ⟨_, rfl⟩, q⟩
end

set_option Elab.async false
set_option linter.all false
set_option maxRecDepth 100000
set_option maxHeartbeats 4000000
open PySem PySem.Spec PyProof.Rows L2
/-! # truth of lists, pop(), while, two clauses over lists -/
section
variable {X : Cx} {K : PySem.W.Frag} {w : World} {σ : L2.St} {H : Hp} {Q : VK}
theorem rel_str {x : PySem.Str} {t : Tok} : RelV (.str x) (.str x t) := ⟨t, rfl⟩
def TruN (K : PySem.W.Frag) (Q : Bool → Hp → Prop) : VK := fun x H' => ∃ k, TruV K x H' k ∧ Q k H'
def tTruth (K : PySem.W.Frag) (ta : TE) : TT := fun σ H Q => ta σ H (TruN K Q)
theorem pt_truthK {a : Expr} {ta : TE} (h : X.K = K) (ha : PE X a ta) (he : ∀ whole, isTrue a X.env whole = (do let v ← whole; standAt a.pos; holding [v] (truthy v))) : PT X a (tTruth K ta) := by
  subst h
  exact pt_truth ha he
theorem r_truth {ta : TE} {Q : Bool → Hp → Prop} (h : ta σ H (TruN K Q)) : tTruth K ta σ H Q := h
theorem r_truL {Q : Bool → Hp → Prop} {l : Addr} {xs : List V} (h : H l = some (.lst xs)) (q : Q (!xs.isEmpty) H) : TruN K Q (.ref l) H := ⟨_, .inl ⟨xs, .inl (.inl h), rfl⟩, q⟩
def Bm0 (K : PySem.W.Frag) (T : String) (r : V → List V → Hp → VK → Prop) (Q : VK) : VK := fun x H1 => tyV K T x H1 ∧ r x [] H1 Q
theorem PE.bm0K {e : Expr} {T : String} {r : V → List V → Hp → VK → Prop} {to : TE} (h : X.K = K) (p : PE X e (tBM0 X.K T r to)) : PE X e (tBM0 K T r to) := h ▸ p
theorem r_bm0 {T : String} {r : V → List V → Hp → VK → Prop} {te : TE} (h : te σ H (Bm0 K T r Q)) : tBM0 K T r te σ H Q := h
theorem r_bm0L {r : V → List V → Hp → VK → Prop} {p : Addr} {xs : List V} (h : SqL K H p xs) (q : r (.ref p) [] H Q) : Bm0 K "list" r Q (.ref p) H := ⟨.inl ⟨rfl, _, h⟩, q⟩
/-- xs.pop() -/
theorem r_popL {l : Addr} {xs : List V} {y : V} (h : H l = some (.lst (xs ++ [y]))) (q : Q y (upd H l (.lst xs))) : rPop (.ref l) [] H Q := ⟨l, xs ++ [y], y, rfl, rfl, h, by simp, by rw [List.dropLast_concat]; exact q⟩
variable {nx bk ct : L2.St → Hp → Prop}
theorem r_while {tc : TT} {tb : TS} (W : Nat → L2.St → Hp → Prop) (m0 : Nat) (h0 : W m0 σ H)
    (hs : ∀ m σ H, W m σ H → tc σ H fun b H1 => if b = true then ∃ N : L2.St → Hp → Prop, (∀ σ' H', N σ' H' → ∃ m', m' < m ∧ W m' σ' H') ∧ tb ⟨N, Q, nx, N⟩ σ H1 else nx σ H1) : tWhile tc tb ⟨nx, Q, bk, ct⟩ σ H := ⟨W, ⟨m0, h0⟩, hs⟩
theorem r_whGo {tb : TS} {W : Nat → L2.St → Hp → Prop} {m : Nat} (h : tb ⟨fun σ' H' => ∃ m', m' < m ∧ W m' σ' H', Q, nx, fun σ' H' => ∃ m', m' < m ∧ W m' σ' H'⟩ σ H) : ∃ N : L2.St → Hp → Prop, (∀ σ' H', N σ' H' → ∃ m', m' < m ∧ W m' σ' H') ∧ tb ⟨N, Q, nx, N⟩ σ H := ⟨_, fun _ _ z => z, h⟩
theorem lnR_list {D a : Addr} {xs : List V} {g1 : TG} {tt1 : TT} {te : TE} {vs1 : List Nat} {σ2 σw : L2.St} {Nx : Hp → Prop} (Pv : Nat → Hp → Prop) (ew : wipe σ2 vs1 = σw) (h0 : Pv 0 H) (hl : ∀ i H, i ≤ xs.length → Pv i H → SqL K H a xs)
    (hs : ∀ (i : Nat) x H, xs[i]? = some x → Pv i H → g1 x σw H fun σ3 H5 => wipe σ3 vs1 = σw ∧ tt1 σ3 H5 fun b H6 => if b = true then te σ3 H6 (LcE D (Pv (i + 1))) else Pv (i + 1) H6) (hd : ∀ H, Pv xs.length H → Nx H) : LnR (Itl K a) g1 tt1 te vs1 σ2 D Nx H := by
  subst ew
  refine ⟨fun i m H => (m = xs.length - i ∧ i ≤ xs.length) ∧ Pv i H, ⟨_, ⟨rfl, Nat.zero_le _⟩, h0⟩, fun i m H ⟨⟨em, hi⟩, p⟩ => ?_⟩
  subst em
  have hq := hl i H hi p
  rcases Nat.lt_or_ge i xs.length with c | c
  · exact .inr ⟨⟨xs, xs[i], hq, List.getElem?_eq_getElem c⟩, Pv (i + 1), fun H' p' => ⟨_, by omega, ⟨rfl, c⟩, p'⟩, fun x H' ⟨e, y⟩ => e ▸ hs i x _ (y xs hq) p⟩
  · have e : i = xs.length := by omega
    exact .inl ⟨⟨xs, hq, c⟩, hd H (e ▸ p)⟩
theorem lc2R_list {D a : Addr} {xs : List V} {wi1 : TI} {g g1 : TG} {tt tt1 : TT} {te : TE} {vs vs1 : List Nat} {σw : L2.St} (Pv : Nat → Hp → Prop) (ew : wipe σ vs = σw) (h0 : Pv 0 (upd H D (.lst []))) (hl : ∀ i H, i ≤ xs.length → Pv i H → SqL K H a xs)
    (hs : ∀ (i : Nat) x H, xs[i]? = some x → Pv i H → g x σw H fun σ2 H2 => wipe σ2 vs = σw ∧ tt σ2 H2 fun b H3 => if b = true then wi1 σ2 H3 fun J1 H4 => LnR J1 g1 tt1 te vs1 σ2 D (Pv (i + 1)) H4 else Pv (i + 1) H3) (hd : ∀ H, Pv xs.length H → Q (.ref D) H) : Lc2R (Itl K a) g tt wi1 g1 tt1 te vs vs1 σ D Q H := by
  subst ew
  refine ⟨fun i m H => (m = xs.length - i ∧ i ≤ xs.length) ∧ Pv i H, ⟨_, ⟨rfl, Nat.zero_le _⟩, h0⟩, fun i m H ⟨⟨em, hi⟩, p⟩ => ?_⟩
  subst em
  have hq := hl i H hi p
  rcases Nat.lt_or_ge i xs.length with c | c
  · exact .inr ⟨⟨xs, xs[i], hq, List.getElem?_eq_getElem c⟩, Pv (i + 1), fun H' p' => ⟨_, by omega, ⟨rfl, c⟩, p'⟩, fun x H' ⟨e, y⟩ => e ▸ hs i x _ (y xs hq) p⟩
  · have e : i = xs.length := by omega
    exact .inl ⟨⟨xs, hq, c⟩, hd H (e ▸ p)⟩
theorem r_eqLI {f e : Addr} {ns ms : List Int} (h : SqL K H f (ns.map V.int)) (he : SqL K H e (ms.map V.int)) (q : Q (.bl (decide (ns = ms))) H) : rEqD K (.ref f) (.ref e) H Q := by
  refine ⟨.list (ns.map PyData.int), .list (ms.map PyData.int), .lst h (dps_int ns), .lst he (dps_int ms), shaped_of (lstI_lay ns) (by have := lstI_depth ns; omega), shaped_of (lstI_lay ms) (by have := lstI_depth ms; omega), ?_⟩
  simp only [PyData.eqv]
  rw [eqvI]
  exact q
/-- sets of ints -/
theorem r_set0W (q : ∀ p, H p = none → Q (.ref p) (upd H p (SetO w p (fun _ => false) 0))) : rSet0 w [] H Q := ⟨rfl, q⟩
theorem r_snin {k : Int} {a : Addr} {S : Int → Bool} {n : Nat} (h : H a = some (SetO w a S n)) (q : Q (.bl (!S k)) H) : rSNotIn w (.int k) (.ref a) H Q := ⟨k, a, S, n, rfl, rfl, h, q⟩
theorem r_saddI {k : Int} {a : Addr} {S : Int → Bool} {n : Nat} (h : H a = some (SetO w a S n)) (s : n + 1 < 4096) (q : Q .non (upd H a (SetO w a (fun j => S j || decide (j = k)) (if S k = true then n else n + 1)))) : rSAdd w (.ref a) [.int k] H Q := ⟨a, k, S, n, rfl, rfl, h, s, q⟩
theorem r_lenSet {a : Addr} {S : Int → Bool} {n : Nat} (h : H a = some (SetO w a S n)) (q : Q (.int n) H) : rLenSet w [.ref a] H Q := ⟨a, S, n, rfl, h, q⟩
/-- t[:i], t[j:] -/
theorem cut_to (xs : List V) (k : Nat) (h : k ≤ xs.length) : cutV xs none (some (k : Int)) = xs.take k := by
  unfold cutV
  rw [HT.sIx_none, HT.sIx_nat, List.drop_zero, Nat.sub_zero, Nat.min_eq_left h]
theorem cut_from (xs : List V) (k : Nat) (h : k ≤ xs.length) : cutV xs (some (k : Int)) none = xs.drop k := by
  unfold cutV
  rw [HT.sIx_none, HT.sIx_nat, Nat.min_eq_left h]
  exact List.take_of_length_le (by rw [List.length_drop]; omega)
theorem r_slTo {a : Addr} {xs : List V} {k : Int} (h : H a = some (.tup xs)) (h0 : 0 ≤ k) (h1 : k < xs.length) (q : ∀ p, H p = none → Q (.ref p) (upd H p (.tup (xs.take k.toNat)))) : rSlT K (.ref a) none (some k) H Q := by
  obtain ⟨j, rfl⟩ : ∃ j : Nat, k = j := ⟨k.toNat, by omega⟩
  refine ⟨a, xs, rfl, .inl (.inl h), fun z => ?_, fun p hp => by rw [cut_to xs j (by omega)]; exact q p hp⟩
  rw [HT.sIx_nat] at z
  omega
theorem r_slFrom {a : Addr} {xs : List V} {k : Int} (h : H a = some (.tup xs)) (h0 : 1 ≤ k) (h1 : k ≤ xs.length) (q : ∀ p, H p = none → Q (.ref p) (upd H p (.tup (xs.drop k.toNat)))) : rSlT K (.ref a) (some k) none H Q := by
  obtain ⟨j, rfl⟩ : ∃ j : Nat, k = j := ⟨k.toNat, by omega⟩
  refine ⟨a, xs, rfl, .inl (.inl h), fun z => ?_, fun p hp => by rw [cut_from xs j (by omega)]; exact q p hp⟩
  rw [HT.sIx_nat] at z
  omega
end

set_option Elab.async false
set_option linter.all false
set_option maxRecDepth 100000
set_option maxHeartbeats 4000000
open PySem PySem.Spec PyProof.Rows L2
/-! # sorted of tuples of ints of any lengths -/
def lexI : List Int → List Int → Bool
  | [], [] => false
  | [], _ :: _ => true
  | _ :: _, [] => false
  | a :: as, b :: bs => if a = b then lexI as bs else decide (a < b)
theorem lexI_asym : ∀ x y : List Int, lexI x y = true → lexI y x = false
  | [], [], h => by simp [lexI] at h
  | [], _ :: _, _ => by simp [lexI]
  | _ :: _, [], h => by simp [lexI] at h
  | a :: as, b :: bs, h => by
    simp only [lexI] at h ⊢
    by_cases c : a = b
    · rw [if_pos c] at h
      rw [if_pos c.symm]
      exact lexI_asym as bs h
    · rw [if_neg c] at h
      rw [if_neg (fun z => c z.symm)]
      have := of_decide_eq_true h
      exact decide_eq_false (by omega)
theorem lexI_tr : ∀ x y z : List Int, lexI y x = false → lexI z y = false → lexI z x = false
  | [], _, [], _, _ => by simp [lexI]
  | [], _, _ :: _, _, _ => by simp [lexI]
  | _ :: _, [], _, h, _ => by simp [lexI] at h
  | _ :: _, _ :: _, [], _, h => by simp [lexI] at h
  | a :: as, b :: bs, c :: cs, h1, h2 => by
    simp only [lexI] at h1 h2 ⊢
    by_cases e1 : b = a
    · rw [if_pos e1] at h1
      by_cases e2 : c = b
      · rw [if_pos e2] at h2
        rw [if_pos (e2.trans e1)]
        exact lexI_tr as bs cs h1 h2
      · rw [if_neg e2] at h2
        have := of_decide_eq_false h2
        rw [if_neg (fun z => e2 (z.trans e1.symm))]
        exact decide_eq_false (by omega)
    · rw [if_neg e1] at h1
      have q1 := of_decide_eq_false h1
      by_cases e2 : c = b
      · rw [if_neg (fun z => e1 (e2.symm.trans z))]
        exact decide_eq_false (by omega)
      · rw [if_neg e2] at h2
        have q2 := of_decide_eq_false h2
        rw [if_neg (by omega)]
        exact decide_eq_false (by omega)
theorem lexI_eq : ∀ x y : List Int, lexI x y = false → lexI y x = false → x = y
  | [], [], _, _ => rfl
  | [], _ :: _, h, _ => by simp [lexI] at h
  | _ :: _, [], _, h => by simp [lexI] at h
  | a :: as, b :: bs, h1, h2 => by
    simp only [lexI] at h1 h2
    by_cases c : a = b
    · rw [if_pos c] at h1
      rw [if_pos c.symm] at h2
      rw [c, lexI_eq as bs h1 h2]
    · rw [if_neg c] at h1
      rw [if_neg (fun z => c z.symm)] at h2
      have := of_decide_eq_false h1
      have := of_decide_eq_false h2
      omega
theorem swoI {α : Type} (k : α → List Int) : SrtO.Swo fun v u => lexI (k v) (k u) := ⟨fun x y h => lexI_asym _ _ h, fun x y z h1 h2 => lexI_tr _ _ _ h1 h2⟩
section
variable {prog : Program} {w : World} {A : Around} {E : Value → Shared → Prop} {s : Shared}
theorem lex_go {b fin : Bool} {Q : Bool → Shared → Prop} : ∀ (ns ms : List Int) (us vs : List Value) (i : Nat), IntsAre us ns → IntsAre vs ms → fin = decide (ns.length < ms.length) → Q (lexI ns ms) s → PySem.W.KatLex prog w A b fin Q (us.zip vs) i s
  | _, _, _, _, _, .nil, .nil, e, h => by
    subst e
    exact PySem.W.kat_nil h
  | _, _, _, _, _, .nil, .cons _ _ _, e, h => by
    subst e
    rw [List.zip_nil_left]
    refine PySem.W.kat_nil ?_
    rw [decide_eq_true (by simp)]
    exact h
  | _, _, _, _, _, .cons _ _ _, .nil, e, h => by
    subst e
    rw [List.zip_nil_right]
    refine PySem.W.kat_nil ?_
    rw [decide_eq_false (by simp)]
    exact h
  | _, _, _, _, i, .cons p t hx, .cons q u hy, e, h => by
    rw [List.zip_cons_cons]
    refine PySem.W.kat_cons (wpAny_eqBool_int ?_)
    simp only [lexI] at h
    by_cases c : p = q
    · rw [if_pos c] at h
      rw [beq_iff_eq.mpr c]
      refine PySem.W.kat_yes (lex_go _ _ _ _ (i + 1) hx hy ?_ h)
      rw [e]
      simp
    · rw [if_neg c] at h
      rw [beq_eq_false_iff_ne.mpr c]
      exact PySem.W.kat_no (TS.oneLt_ints _ h)
theorem cmpI {b : Bool} {vs : List Value} {k : Value → List Int} (hp : ∀ v ∈ vs, TS.TupInts s.heap v (k v)) : SrtO.Cmp prog w A s (tuples' b) (fun p => p.1 ∈ vs) (SrtO.lt2 fun v u => lexI (k v) (k u)) := by
  intro p q hm hm'
  obtain ⟨a1, us1, e1, ⟨o1, g1, c1, n1, d1⟩, i1⟩ := hp _ hm
  obtain ⟨a2, us2, e2, ⟨o2, g2, c2, n2, d2⟩, i2⟩ := hp _ hm'
  show wpAny (model prog w) A (keyLt' (tuples' b) p.1 q.1) (fun r s' => s' = s ∧ r = lexI (k p.1) (k q.1)) (fun _ _ => False) s
  generalize k p.1 = ns at i1 ⊢
  generalize k q.1 = ms at i2 ⊢
  rw [e1, e2]
  refine PySem.W.kat_lt g1 d1 g2 d2 (lex_go ns ms _ _ 0 i1 i2 ?_ ⟨rfl, rfl⟩)
  have l1 := i1.length
  have l2 := i2.length
  rw [Array.length_toList] at l1 l2
  rw [l1, l2]
theorem firstsI {h : Heap} {k : Value → List Int} : ∀ vs : List Value, (∀ v ∈ vs, TS.TupInts h v (k v) ∧ k v ≠ []) → ∃ fs, PySem.W.KatTups h vs fs ∧ fs.length = vs.length ∧ ∀ f ∈ fs, ∃ n t, f = Value.int n t
  | [], _ => ⟨[], PySem.W.KatTups.nil, rfl, fun f hf => (nomatch hf)⟩
  | v :: vs, hv => by
    obtain ⟨fs, kt, lf, hi⟩ := firstsI vs fun u hu => hv u (List.mem_cons_of_mem _ hu)
    obtain ⟨⟨a, us, rfl, ⟨o, ho, hc, n, hd⟩, i⟩, ne⟩ := hv v List.mem_cons_self
    generalize k (Value.ref a) = ns at i ne
    generalize e : us.toList = ul at i
    cases i with
    | nil => exact absurd rfl ne
    | @cons m t ul' ns' it =>
      refine ⟨Value.int m t :: fs, PySem.W.KatTups.cons ho hc hd ?_ kt, by simp [lf], fun f hf => ?_⟩
      · have z := congrArg (fun l : List Value => l[0]?) e
        simpa using z
      · rcases List.mem_cons.mp hf with c | c
        · exact ⟨m, t, c⟩
        · exact hi f c
theorem sortedI {l : Addr} {vs : List Value} {k : Value → List Int} {Q : Value → Shared → Prop} (hl : s.heap.IsList l vs.toArray) (hz : vs.length ≤ sizeLine) (hp : ∀ v ∈ vs, TS.TupInts s.heap v (k v) ∧ k v ≠ [])
    (h : ∀ (h' : Heap) (d : Addr) (out : List Value), SrtO.Srtd (fun v u => lexI (k v) (k u)) out → SrtO.Stb (fun v u => lexI (k v) (k u)) out vs → (∀ b o, s.heap.get? b = some o → h'.get? b = some o) → s.heap.objs.size ≤ d → (∃ n, h'.get? d = some (seqObj "list" out.toArray n)) → Q (.ref d) { s with heap := h' }) :
    wpAny (model prog w) A (call (.builtin "sorted") [.ref l]) Q E s := by
  refine SrtO.sorted_ord (swoI k) hl hz (fun h2 h₁ a ha kk => ?_) fun out hs hb => h _ _ out hs hb (fun b o e => sortedAll_old e) (Nat.le_succ _) (sortedAll_at s.heap vs out.toArray)
  intro h' keep
  have hp' : ∀ v ∈ vs, TS.TupInts h' v (k v) ∧ k v ≠ [] := fun v hm => ⟨(hp v hm).1.keeps fun b o e _ => keep b o (kk b o e).1 (kk b o e).2, (hp v hm).2⟩
  obtain ⟨fs, f1, f2, f3⟩ := firstsI vs hp'
  refine ⟨tuples' (Value.type "int" != Value.type "tuple"), fun Q E hq => ?_, cmpI fun v hv => (hp' v hv).1⟩
  refine PySem.W.kat_kind (T := .type "int") f1 (by omega) (fun f hm => ?_) (by rfl) hq
  obtain ⟨x, t, rfl⟩ := f3 f hm
  exact PySem.W.Looks.now
end
/-- the ints of a tracked tuple -/
def kI (H : Hp) : V → List Int
  | .ref t => match H t with
    | some (.tup ys) => ys.filterMap fun y => match y with
      | .int i => some i
      | _ => none
    | _ => []
  | _ => []
theorem kI_ints : ∀ ns : List Int, (ns.map V.int).filterMap (fun y => match y with | .int i => some i | _ => none) = ns
  | [] => rfl
  | n :: ns => by
    rw [List.map_cons, List.filterMap_cons]
    show n :: _ = _
    rw [kI_ints ns]
theorem kI_at {H : Hp} {t : Addr} {ns : List Int} (h : H t = some (.tup (ns.map V.int))) : kI H (.ref t) = ns := by
  unfold kI
  simp only [h]
  exact kI_ints ns
def rSortL (K : PySem.W.Frag) : List V → Hp → VK → Prop := fun vs H Q => ∃ (a : Addr) (xs : List V), vs = [V.ref a] ∧ SqL K H a xs ∧ (∀ x ∈ xs, ∃ t ns, x = V.ref t ∧ H t = some (.tup (ns.map V.int)) ∧ ns ≠ []) ∧
  ∀ ys p, ys.Pairwise (fun x y => lexI (kI H y) (kI H x) = false) → ys.Perm xs → H p = none → Q (.ref p) (upd H p (.lst ys))
section
variable {X : Cx} {K : PySem.W.Frag}
theorem cr_sortL : CallR X (.builtin "sorted") (rSortL X.K) := by
  intro pins s σ H vs us Q I r h
  obtain ⟨a, xs, rfl, hs, hx, q⟩ := h
  obtain ⟨its, rv, hl, hz⟩ := I.list hs
  rw [Vals.ref1 r]
  obtain ⟨e1, e2⟩ := refs_back rv fun x m => by
    obtain ⟨t, _, e, _⟩ := hx x m
    exact ⟨t, e⟩
  refine sortedI (k := fun u => kI H (backV u)) hl.isList (by rw [← rv.length]; exact hz) (fun v hv => ?_) fun h' d out h1 h2 kp hd hn => ?_
  · obtain ⟨t, rfl⟩ := e2 v hv
    have hm : V.ref t ∈ xs := by
      rw [e1]
      exact List.mem_map.mpr ⟨_, hv, rfl⟩
    obtain ⟨t', ns, e, ht, ne⟩ := hx _ hm
    cases e
    have ek : kI H (backV (Value.ref t)) = ns := kI_at ht
    obtain ⟨us, ru, hT, _⟩ := I.tuple (.inl (.inl ht) : SqT X.K H t (ns.map V.int))
    rw [ek]
    exact ⟨⟨t, us.toArray, rfl, hT, by simpa using ru.ints⟩, ne⟩
  · have h3 : ∀ u ∈ out, ∃ a, u = Value.ref a := fun u hu => e2 u (h2.perm.mem_iff.mp hu)
    obtain ⟨n, hn⟩ := hn
    have hp : (out.map backV).Perm xs := by
      rw [e1]
      exact h2.perm.map backV
    refine ⟨.ref d, upd H d (.lst (out.map backV)), I.laid (t' := s.toks) kp hd ⟨?_, out, n, vals_back h3, hn⟩, rfl, q _ d (List.pairwise_map.mpr h1) hp (I.hok.fresh hd)⟩
    rw [hp.length_eq]
    exact hz
theorem cr_sortLK (h : X.K = K) : CallR X (.builtin "sorted") (rSortL K) := h ▸ cr_sortL
end

set_option Elab.async false
set_option linter.all false
set_option maxRecDepth 100000
set_option maxHeartbeats 4000000
open PySem PySem.Spec PyProof.Rows L2
/-! # what is connected -/
inductive Con (R : Int → Int → Prop) (v : Int) : Int → Prop
  | refl : Con R v v
  | step {a b : Int} (h : Con R v a) (r : R a b) : Con R v b
theorem Con.trans {R : Int → Int → Prop} {u v z : Int} (h : Con R u v) (k : Con R v z) : Con R u z := by
  induction k with
  | refl => exact h
  | step _ r ih => exact .step ih r
theorem Con.symm {R : Int → Int → Prop} (hs : ∀ a b, R a b → R b a) {u v : Int} (h : Con R u v) : Con R v u := by
  induction h with
  | refl => exact .refl
  | step _ r ih => exact Con.trans (.step .refl (hs _ _ r)) ih
theorem Con.closed {R : Int → Int → Prop} {v : Int} {S : Int → Prop} (h0 : S v) (hc : ∀ a b, S a → R a b → S b) {z : Int} (h : Con R v z) : S z := by
  induction h with
  | refl => exact h0
  | step _ r ih => exact hc _ _ ih r
theorem lexI_irr : ∀ x : List Int, lexI x x = false
  | [] => rfl
  | a :: as => by simp [lexI, lexI_irr as]
theorem asc_eqL : ∀ {ps qs : List (List Int)}, ps.Pairwise (fun x y => lexI x y = true) → qs.Pairwise (fun x y => lexI x y = true) → (∀ p, p ∈ ps ↔ p ∈ qs) → ps = qs
  | [], [], _, _, _ => rfl
  | [], q :: qs, _, _, h => absurd ((h q).mpr List.mem_cons_self) (by simp)
  | p :: ps, [], _, _, h => absurd ((h p).mp List.mem_cons_self) (by simp)
  | p :: ps, q :: qs, h1, h2, h => by
    obtain ⟨a1, b1⟩ := List.pairwise_cons.mp h1
    obtain ⟨a2, b2⟩ := List.pairwise_cons.mp h2
    have e : p = q := by
      rcases List.mem_cons.mp ((h p).mp List.mem_cons_self) with e | e
      · exact e
      · rcases List.mem_cons.mp ((h q).mpr List.mem_cons_self) with e' | e'
        · exact e'.symm
        · have c1 := a2 p e
          have c2 := lexI_asym _ _ (a1 q e')
          rw [c1] at c2
          cases c2
    subst e
    refine congrArg (p :: ·) (asc_eqL b1 b2 fun z => ⟨fun hz => ?_, fun hz => ?_⟩)
    · rcases List.mem_cons.mp ((h z).mp (List.mem_cons_of_mem _ hz)) with e | e
      · have c := a1 z hz
        rw [e, lexI_irr] at c
        cases c
      · exact e
    · rcases List.mem_cons.mp ((h z).mpr (List.mem_cons_of_mem _ hz)) with e | e
      · have c := a2 z hz
        rw [e, lexI_irr] at c
        cases c
      · exact e
theorem asc_eqZ : ∀ {ps qs : List Int}, ps.Pairwise (· < ·) → qs.Pairwise (· < ·) → (∀ p, p ∈ ps ↔ p ∈ qs) → ps = qs
  | [], [], _, _, _ => rfl
  | [], q :: qs, _, _, h => absurd ((h q).mpr List.mem_cons_self) (by simp)
  | p :: ps, [], _, _, h => absurd ((h p).mp List.mem_cons_self) (by simp)
  | p :: ps, q :: qs, h1, h2, h => by
    obtain ⟨a1, b1⟩ := List.pairwise_cons.mp h1
    obtain ⟨a2, b2⟩ := List.pairwise_cons.mp h2
    have e : p = q := by
      rcases List.mem_cons.mp ((h p).mp List.mem_cons_self) with e | e
      · exact e
      · rcases List.mem_cons.mp ((h q).mpr List.mem_cons_self) with e' | e'
        · exact e'.symm
        · have := a2 p e
          have := a1 q e'
          omega
    subst e
    refine congrArg (p :: ·) (asc_eqZ b1 b2 fun z => ⟨fun hz => ?_, fun hz => ?_⟩)
    · rcases List.mem_cons.mp ((h z).mp (List.mem_cons_of_mem _ hz)) with e | e
      · have := a1 z hz
        omega
      · exact e
    · rcases List.mem_cons.mp ((h z).mpr (List.mem_cons_of_mem _ hz)) with e | e
      · have := a2 z hz
        omega
      · exact e
/-- neighbours within some vertices -/
def RWi (ns : List Int) (ps : List (Int × Int)) (a b : Int) : Prop := a ∈ ns ∧ b ∈ ns ∧ nrm (a, b) ∈ ps
theorem nrm_cm (u v : Int) : nrm (u, v) = nrm (v, u) := by
  unfold nrm
  exact Prod.ext (by dsimp only; omega) (by dsimp only; omega)
theorem RWi.symm {ns : List Int} {ps : List (Int × Int)} (a b : Int) (h : RWi ns ps a b) : RWi ns ps b a := ⟨h.2.1, h.1, nrm_cm a b ▸ h.2.2⟩
theorem Con.inn {ns : List Int} {ps : List (Int × Int)} {v z : Int} (hv : v ∈ ns) (h : Con (RWi ns ps) v z) : z ∈ ns := Con.closed (S := fun z => z ∈ ns) hv (fun _ _ _ r => r.2.1) h
/-- the classes of a graph: what the components are -/
structure Parts (ns : List Int) (ps : List (Int × Int)) (qs : List (List Int)) : Prop where
  asc : qs.Pairwise (fun x y => lexI x y = true)
  cls : ∀ c, c ∈ qs ↔ ∃ v ∈ ns, c.Pairwise (· < ·) ∧ ∀ z, z ∈ c ↔ Con (RWi ns ps) v z
theorem Parts.uniq {ns : List Int} {ps : List (Int × Int)} {qs rs : List (List Int)} (h : Parts ns ps qs) (k : Parts ns ps rs) : qs = rs := asc_eqL h.asc k.asc fun c => (h.cls c).trans (k.cls c).symm
/-- one part: all are connected with the first -/
theorem Parts.one {z : Int} {ns : List Int} {ps : List (Int × Int)} {qs : List (List Int)} (h : Parts (z :: ns) ps qs) (mk : ∀ v ∈ z :: ns, ∃ c ∈ qs, v ∈ c) : qs.length = 1 ↔ ∀ v ∈ z :: ns, Con (RWi (z :: ns) ps) z v := by
  obtain ⟨c0, hc0, z0⟩ := mk z List.mem_cons_self
  constructor
  · intro e v hv
    obtain ⟨c, hc, vc⟩ := mk v hv
    obtain ⟨x, rfl⟩ := List.length_eq_one_iff.mp e
    rw [List.mem_singleton.mp hc0] at z0
    rw [List.mem_singleton.mp hc] at vc
    obtain ⟨u, hu, _, mem⟩ := (h.cls x).mp List.mem_cons_self
    exact ((mem z).mp z0).symm (RWi.symm) |>.trans ((mem v).mp vc)
  · intro all
    have same : ∀ c ∈ qs, c = c0 := fun c hc => by
      obtain ⟨u, hu, a1, m1⟩ := (h.cls c).mp hc
      obtain ⟨u0, hu0, a2, m2⟩ := (h.cls c0).mp hc0
      refine asc_eqZ a1 a2 fun y => (m1 y).trans (Iff.trans ⟨fun k => ?_, fun k => ?_⟩ (m2 y).symm)
      · exact ((all u0 hu0).symm RWi.symm).trans ((all u hu).trans k)
      · exact ((all u hu).symm RWi.symm).trans ((all u0 hu0).trans k)
    match qs, hc0, same, h.asc with
    | [], hc, _, _ => cases hc
    | [_], _, _, _ => rfl
    | a :: b :: r, _, s, pw =>
      have e1 := s a List.mem_cons_self
      have e2 := s b (List.mem_cons_of_mem _ List.mem_cons_self)
      have := (List.pairwise_cons.mp pw).1 b List.mem_cons_self
      rw [e1, e2, lexI_irr] at this
      cases this

set_option Elab.async false
set_option linter.all false
set_option maxRecDepth 100000
set_option maxHeartbeats 4000000
open PySem PySem.Spec PyProof.Rows L2
/-! # t.index(x), t of ints -/
def rTIdx (K : PySem.W.Frag) : V → List V → Hp → VK → Prop := fun x xs H Q => ∃ (p : Addr) (ns : List Int) (k : Int), x = .ref p ∧ xs = [.int k] ∧ SqT K H p (ns.map V.int) ∧ k ∈ ns ∧ Q (.int (ns.idxOf k : Nat)) H
section
variable {X : Cx} {K : PySem.W.Frag}
theorem mt_tupIdx : MtR X "tuple.index" (rTIdx X.K) := by
  intro pins s σ H x xs v us Q I rx rs h
  obtain ⟨p, ns, k, rfl, rfl, hq, hk, q⟩ := h
  cases rx
  obtain ⟨u, rfl, t, rfl⟩ := vals1 rs
  obtain ⟨its, r, pl, hz⟩ := I.tuple hq
  exact SeqAt.tuple_index_ints (show s.heap.IsTuple p its.toArray from pl) r.ints hk ⟨.int _, H, I.tok _, ⟨_, rfl⟩, q⟩
theorem mt_tupIdxK (h : X.K = K) : MtR X "tuple.index" (rTIdx K) := h ▸ mt_tupIdx
end

set_option Elab.async false
set_option linter.all false
set_option maxRecDepth 100000
set_option maxHeartbeats 4000000
open PySem PySem.Spec PyProof.Rows L2
/-! # the bits of any whole number -/
def Bit (x : Int) (i : Nat) : Bool := if 0 ≤ x then x.toNat.testBit i else !(Builtin.bitNot x).toNat.testBit i
theorem Bit_nn {x : Int} (h : 0 ≤ x) (i : Nat) : Bit x i = x.toNat.testBit i := if_pos h
theorem Bit_neg {x : Int} (h : x < 0) (i : Nat) : Bit x i = !(Builtin.bitNot x).toNat.testBit i := if_neg (by omega)
theorem bitNot_not (x : Int) : Builtin.bitNot (Builtin.bitNot x) = x := by unfold Builtin.bitNot; omega
theorem Bit_not (x : Int) (i : Nat) : Bit (Builtin.bitNot x) i = !Bit x i := by
  by_cases h : 0 ≤ x
  · rw [Bit_nn h, Bit_neg (by unfold Builtin.bitNot; omega), bitNot_not]
  · rw [Bit_neg (x := x) (by omega), Bit_nn (by unfold Builtin.bitNot; omega), Bool.not_not]
theorem sub_and_bits (a b i : Nat) : (a - (a &&& b)).testBit i = (a.testBit i && !b.testBit i) := by
  have e : a - (a &&& b) = a ^^^ (a &&& b) := by
    have h1 := Bits.bitXor_pp (x := a) (y := ((a &&& b : Nat) : Int)) (by omega) (by omega)
    have h2 := bitXor_and (a : Int) ((a &&& b : Nat) : Int)
    rw [bitAnd_pp (x := a) (y := ((a &&& b : Nat) : Int)) (by omega) (by omega)] at h2
    rw [Int.toNat_natCast, Int.toNat_natCast] at h1 h2
    have e3 : a &&& (a &&& b) = a &&& b := by
      apply Nat.eq_of_testBit_eq
      intro j
      rw [Nat.testBit_and, Nat.testBit_and]
      cases a.testBit j <;> simp
    rw [e3] at h2
    have : a &&& b ≤ a := Nat.and_le_left
    omega
  rw [e, Nat.testBit_xor, Nat.testBit_and]
  cases a.testBit i <;> cases b.testBit i <;> rfl
theorem bitAnd_pn {x y : Int} (hx : 0 ≤ x) (hy : y < 0) : Builtin.bitAnd x y = ((x.toNat - (x.toNat &&& (Builtin.bitNot y).toNat) : Nat) : Int) := by
  have h : x.toNat &&& (Builtin.bitNot y).toNat ≤ x.toNat := Nat.and_le_left
  have : Builtin.bitAnd x y = x - ((x.toNat &&& (Builtin.bitNot y).toNat : Nat) : Int) := by
    unfold Builtin.bitAnd
    rw [decide_eq_true hx, decide_eq_false (by omega : ¬ 0 ≤ y)]
  omega
theorem bitAnd_np {x y : Int} (hx : x < 0) (hy : 0 ≤ y) : Builtin.bitAnd x y = ((y.toNat - (y.toNat &&& (Builtin.bitNot x).toNat) : Nat) : Int) := by
  have h : y.toNat &&& (Builtin.bitNot x).toNat ≤ y.toNat := Nat.and_le_left
  have : Builtin.bitAnd x y = y - ((y.toNat &&& (Builtin.bitNot x).toNat : Nat) : Int) := by
    unfold Builtin.bitAnd
    rw [decide_eq_false (by omega : ¬ 0 ≤ x), decide_eq_true hy]
  omega
theorem bitAnd_nn {x y : Int} (hx : x < 0) (hy : y < 0) : Builtin.bitAnd x y = Builtin.bitNot (((Builtin.bitNot x).toNat ||| (Builtin.bitNot y).toNat : Nat) : Int) := by
  unfold Builtin.bitAnd
  rw [decide_eq_false (by omega : ¬ 0 ≤ x), decide_eq_false (by omega : ¬ 0 ≤ y)]
theorem Bit_and (x y : Int) (i : Nat) : Bit (Builtin.bitAnd x y) i = (Bit x i && Bit y i) := by
  by_cases hx : 0 ≤ x <;> by_cases hy : 0 ≤ y
  · rw [bitAnd_pp hx hy, Bit_nn (by omega), Bit_nn hx, Bit_nn hy, Int.toNat_natCast, Nat.testBit_and]
  · rw [bitAnd_pn hx (by omega), Bit_nn (by omega), Bit_nn hx, Bit_neg (by omega), Int.toNat_natCast, sub_and_bits]
  · rw [bitAnd_np (by omega) hy, Bit_nn (by omega), Bit_nn hy, Bit_neg (by omega), Int.toNat_natCast, sub_and_bits, Bool.and_comm]
  · rw [bitAnd_nn (by omega) (by omega), Bit_not, Bit_nn (by omega), Bit_neg (by omega), Bit_neg (by omega), Int.toNat_natCast, Nat.testBit_or, Bool.not_or]
theorem Bit_or (x y : Int) (i : Nat) : Bit (Builtin.bitOr x y) i = (Bit x i || Bit y i) := by
  show Bit (Builtin.bitNot (Builtin.bitAnd (Builtin.bitNot x) (Builtin.bitNot y))) i = _
  rw [Bit_not, Bit_and, Bit_not, Bit_not, Bool.not_and, Bool.not_not, Bool.not_not]
theorem bitAnd_left {x y : Int} (hx : 0 ≤ x) : 0 ≤ Builtin.bitAnd x y := by
  by_cases hy : 0 ≤ y
  · rw [bitAnd_pp hx hy]; omega
  · rw [bitAnd_pn hx (by omega)]; omega
theorem bitAnd_right {x y : Int} (hy : 0 ≤ y) : 0 ≤ Builtin.bitAnd x y := by
  by_cases hx : 0 ≤ x
  · rw [bitAnd_pp hx hy]; omega
  · rw [bitAnd_np (by omega) hy]; omega
/-- the lowest bit -/
theorem low_nat : ∀ n : Nat, 0 < n → ∃ k, n.testBit k = true ∧ (∀ i, i < k → n.testBit i = false) ∧ 2 ^ k ≤ n ∧ n &&& (n - 1) = n - 2 ^ k := by
  intro n
  induction n using Nat.strongRecOn with
  | _ n ih =>
    intro h
    by_cases c : n % 2 = 1
    · refine ⟨0, by rw [Nat.testBit_zero]; exact decide_eq_true c, fun i hi => absurd hi (Nat.not_lt_zero _), by rw [Nat.pow_zero]; exact h, ?_⟩
      rw [Nat.pow_zero]
      apply Nat.eq_of_testBit_eq
      intro j
      rw [Nat.testBit_and]
      cases j with
      | zero =>
        rw [Nat.testBit_zero, Nat.testBit_zero, decide_eq_true c, Bool.true_and]
      | succ j =>
        rw [Nat.testBit_succ, Nat.testBit_succ, show (n - 1) / 2 = n / 2 by omega, Bool.and_self]
    · obtain ⟨k, h1, h2, h3, h4⟩ := ih (n / 2) (by omega) (by omega)
      have e2 : 2 ^ (k + 1) = 2 * 2 ^ k := by rw [Nat.pow_succ]; omega
      refine ⟨k + 1, by rw [Nat.testBit_succ]; exact h1, fun i hi => ?_, by omega, ?_⟩
      · cases i with
        | zero => rw [Nat.testBit_zero]; exact decide_eq_false c
        | succ i => rw [Nat.testBit_succ]; exact h2 i (by omega)
      · have e3 : n - 2 ^ (k + 1) = 2 * (n / 2 - 2 ^ k) := by omega
        rw [e3, ← h4]
        apply Nat.eq_of_testBit_eq
        intro j
        rw [Nat.testBit_and]
        cases j with
        | zero =>
          rw [Nat.testBit_zero, Nat.testBit_zero, Nat.testBit_zero, decide_eq_false c, Bool.false_and]
          exact (decide_eq_false (by omega)).symm
        | succ j =>
          rw [Nat.testBit_succ, Nat.testBit_succ, Nat.testBit_succ, show (n - 1) / 2 = n / 2 - 1 by omega, show 2 * (n / 2 &&& (n / 2 - 1)) / 2 = (n / 2 &&& (n / 2 - 1)) by omega, Nat.testBit_and]
/-- x & -x, and what is left of x without it -/
theorem low_bit {x : Int} (h : 0 < x) : ∃ k : Nat, Builtin.bitAnd x (-x) = ((2 ^ k : Nat) : Int) ∧ Bit x k = true ∧ (∀ i, i < k → Bit x i = false) ∧ 0 ≤ Builtin.bitXor x (Builtin.bitAnd x (-x)) ∧ Builtin.bitXor x (Builtin.bitAnd x (-x)) < x ∧
    ∀ i, Bit (Builtin.bitXor x (Builtin.bitAnd x (-x))) i = (Bit x i && !decide (i = k)) := by
  obtain ⟨k, h1, h2, h3, h4⟩ := low_nat x.toNat (by omega)
  have p0 : 0 < 2 ^ k := Nat.two_pow_pos k
  have tb : ∀ j, (2 ^ k).testBit j = decide (k = j) := fun j => Nat.testBit_two_pow
  refine ⟨k, ?_⟩
  generalize 2 ^ k = p at *
  have e : Builtin.bitAnd x (-x) = (p : Int) := by
    rw [bitAnd_pn (by omega) (by omega), show (Builtin.bitNot (-x)).toNat = x.toNat - 1 by unfold Builtin.bitNot; omega, h4]
    omega
  have e5 : x.toNat ^^^ p = x.toNat - p := by
    rw [← h4]
    apply Nat.eq_of_testBit_eq
    intro j
    rw [Nat.testBit_xor, tb]
    by_cases c : k = j
    · subst c
      rw [h1, decide_eq_true rfl, Nat.testBit_and, h1]
      have h9 := sub_and_bits x.toNat (x.toNat - 1) k
      rw [h4, show x.toNat - (x.toNat - p) = p by omega, tb, decide_eq_true rfl, h1] at h9
      revert h9
      cases (x.toNat - 1).testBit k <;> simp
    · have h9 := sub_and_bits x.toNat (x.toNat - 1) j
      rw [h4, show x.toNat - (x.toNat - p) = p by omega, tb, decide_eq_false c] at h9
      rw [decide_eq_false c, Nat.testBit_and]
      revert h9
      cases x.toNat.testBit j <;> cases (x.toNat - 1).testBit j <;> simp
  have e7 : Builtin.bitXor x (p : Int) = ((x.toNat ^^^ p : Nat) : Int) := by
    rw [Bits.bitXor_pp (by omega) (by omega), Int.toNat_natCast]
  rw [e, e7]
  refine ⟨rfl, by rw [Bit_nn (by omega)]; exact h1, fun i hi => by rw [Bit_nn (by omega)]; exact h2 i hi, by omega, by rw [e5]; omega, fun i => ?_⟩
  rw [Bit_nn (by omega), Int.toNat_natCast, Nat.testBit_xor, tb, Bit_nn (by omega)]
  by_cases c : i = k
  · subst c
    rw [h1]
    simp
  · rw [decide_eq_false c, decide_eq_false (fun z => c z.symm)]
    cases x.toNat.testBit i <;> rfl
theorem intBits_pow (k : Nat) : Builtin.Int.intBits ((2 ^ k : Nat) : Int) = k + 1 := by
  unfold Builtin.Int.intBits
  have p : 0 < 2 ^ k := Nat.two_pow_pos k
  rw [Int.natAbs_natCast, Nat.log2_two_pow, if_neg]
  generalize 2 ^ k = q at *
  rw [beq_iff_eq]
  omega

set_option Elab.async false
set_option linter.all false
set_option maxRecDepth 100000
set_option maxHeartbeats 4000000
open PySem PySem.Spec PyProof.Rows L2
/-! # masks: their lowest bit, what is not in them -/
def Bts (x : Int) (S : Int → Prop) : Prop := ∀ i : Nat, Bit x i = true ↔ S i
theorem Msk.bts {x : Int} {S : Int → Prop} (a : Msk x S) : Bts x S := fun i => by rw [Bit_nn a.nn]; exact a.bits i
theorem Msk.of {x : Int} {S : Int → Prop} (h : 0 ≤ x) (b : Bts x S) : Msk x S := ⟨h, fun i => by rw [← Bit_nn h]; exact b i⟩
theorem Bts.not {x : Int} {S : Int → Prop} (a : Bts x S) : Bts (Builtin.bitNot x) (fun i => ¬ S i) := fun i => by
  show Bit (Builtin.bitNot x) i = true ↔ ¬ S i
  rw [Bit_not, ← a i]
  cases Bit x i <;> simp
theorem Bts.and {x y : Int} {S T : Int → Prop} (a : Bts x S) (b : Bts y T) : Bts (Builtin.bitAnd x y) (fun i => S i ∧ T i) := fun i => by
  rw [Bit_and, Bool.and_eq_true, a i, b i]
theorem Bts.or {x y : Int} {S T : Int → Prop} (a : Bts x S) (b : Bts y T) : Bts (Builtin.bitOr x y) (fun i => S i ∨ T i) := fun i => by
  rw [Bit_or, Bool.or_eq_true, a i, b i]
theorem Msk.andB {x y : Int} {S T : Int → Prop} (a : Msk x S) (b : Bts y T) : Msk (Builtin.bitAnd x y) (fun i => S i ∧ T i) := .of (bitAnd_left a.nn) (a.bts.and b)
theorem Msk.bAnd {x y : Int} {S T : Int → Prop} (a : Bts x S) (b : Msk y T) : Msk (Builtin.bitAnd x y) (fun i => S i ∧ T i) := .of (bitAnd_right b.nn) (a.and b.bts)
/-- all vertices below n -/
theorem Msk.full {n : Int} (h : 0 ≤ n) : Msk (1 * 2 ^ n.toNat - 1) (fun i => i < n) := by
  have e : (1 * 2 ^ n.toNat - 1 : Int) = ((2 ^ n.toNat - 1 : Nat) : Int) := by
    have p := Nat.two_pow_pos n.toNat
    have c := PySem.W.kbt_cast n.toNat
    generalize 2 ^ n.toNat = q at *
    omega
  rw [e]
  refine ⟨Int.natCast_nonneg _, fun i => ?_⟩
  rw [Int.toNat_natCast, Nat.testBit_two_pow_sub_one, decide_eq_true_eq]
  omega
theorem Msk.sub {x y : Int} {S T : Int → Prop} (a : Msk x S) (b : Msk y T) (h : ∀ i : Nat, S i ↔ T i) : x = y := (a.congr h).uniq b
theorem Msk.eq_iff {x y : Int} {S T : Int → Prop} (a : Msk x S) (b : Msk y T) : x = y ↔ ∀ i : Nat, S i ↔ T i := by
  refine ⟨fun e i => ?_, a.sub b⟩
  subst e
  exact (a.bits i).symm.trans (b.bits i)
/-- x.bit_length() -/
def rBitLen : V → List V → Hp → VK → Prop := fun x xs H Q => ∃ i : Int, x = .int i ∧ xs = [] ∧ Q (.int (Builtin.Int.intBits i)) H
theorem mt_bitlen {X : Cx} : MtR X "int.bit_length" rBitLen := by
  intro pins s σ H x xs v us Q I rx rv h
  obtain ⟨i, rfl, rfl, q⟩ := h
  obtain ⟨t, rfl⟩ := rx
  have hus : us = [] := rv.zero
  subst hus
  exact call_int_bit_length ⟨.int _, H, I.tok _, ⟨_, rfl⟩, q⟩
section
variable {K : PySem.W.Frag} {σ : L2.St} {H : Hp} {Q : VK}
theorem r_bm0I {r : V → List V → Hp → VK → Prop} {i : Int} (q : r (.int i) [] H Q) : Bm0 K "int" r Q (.int i) H := ⟨rfl, q⟩
theorem r_bitlen {i : Int} (q : Q (.int (Builtin.Int.intBits i)) H) : rBitLen (.int i) [] H Q := ⟨i, rfl, rfl, q⟩
theorem r_augI {i : Nat} {f : Int → Int → V} {nx : L2.St → Hp → Prop} {a b : Int} {σ' : L2.St} (e : σ.set i (some (f a b)) = σ') (h : nx σ' H) : AugN i (rI0 f) σ nx (.int a) (.int b) H := ⟨a, b, rfl, rfl, by subst e; exact h⟩
end

set_option Elab.async false
set_option linter.all false
set_option maxRecDepth 100000
set_option maxHeartbeats 4000000
open PySem PySem.Spec PySem.W PyProof.Rows L2
/-! # the least of a list of data -/
theorem min_go : ∀ (ds : List PyData) (d : PyData), minD d ds ∈ d :: ds ∧ ∀ y ∈ d :: ds, dataLt y (minD d ds) = false := by
  intro ds
  induction ds with
  | nil =>
    intro d
    refine ⟨List.mem_cons_self, fun y hy => ?_⟩
    rw [List.mem_singleton.mp hy]
    exact lex_irrefl (O := itemOrd) _
  | cons e ds ih =>
    intro d
    have step : minD d (e :: ds) = minD (if dataLt e d then e else d) ds := rfl
    rw [step]
    by_cases c : dataLt e d = true
    · rw [if_pos c]
      obtain ⟨h1, h2⟩ := ih e
      refine ⟨List.mem_cons_of_mem _ h1, fun y hy => ?_⟩
      rcases List.mem_cons.mp hy with rfl | hy
      · have h3 := h2 e List.mem_cons_self
        cases q : dataLt y (minD e ds) with
        | false => rfl
        | true =>
          have := lex_trans (O := itemOrd) _ _ _ c q
          exact absurd (h3.symm.trans this) Bool.false_ne_true
      · exact h2 y hy
    · rw [if_neg c]
      obtain ⟨h1, h2⟩ := ih d
      refine ⟨?_, fun y hy => ?_⟩
      · rcases List.mem_cons.mp h1 with h | h
        · rw [h]
          exact List.mem_cons_self
        · exact List.mem_cons_of_mem _ (List.mem_cons_of_mem _ h)
      · rcases List.mem_cons.mp hy with rfl | hy
        · exact h2 y List.mem_cons_self
        · rcases List.mem_cons.mp hy with rfl | hy
          · cases q : dataLt y (minD d ds) with
            | false => rfl
            | true =>
              rcases lex_negTrans (O := itemOrd) _ (keyToks d) _ q with z | z
              · exact absurd z c
              · exact absurd ((h2 d List.mem_cons_self).symm.trans z) Bool.false_ne_true
          · exact h2 y (List.mem_cons_of_mem _ hy)
def rMinD (K : PySem.W.Frag) : List V → Hp → VK → Prop := fun vs H Q => ∃ (a : Addr) (xs : List V) (d : PyData) (ds : List PyData), vs = [.ref a] ∧ SqL K H a xs ∧ DpAll K H xs (d :: ds) ∧ AlikeAll (d :: ds) ∧ PyData.depthAll (d :: ds) ≤ 60 ∧
  ∀ (i : Nat) (x : V), xs[i]? = some x → (d :: ds)[i]? = some (minD d ds) → Q x H
section
variable {X : Cx}
theorem dpall_at {K : PySem.W.Frag} {H : Hp} : ∀ {xs : List V} {ds : List PyData} (i : Nat) {x : V}, DpAll K H xs ds → xs[i]? = some x → ∃ d, ds[i]? = some d ∧ Dp K H x d
  | _, _, _, _, .nil, h => by simp at h
  | _, _, 0, _, .cons h _, e => ⟨_, rfl, by
    have := Option.some.inj e
    exact this ▸ h⟩
  | _, _, i + 1, _, .cons _ t, e => dpall_at i t e
theorem cr_minD (hc : X.calm = true) (hu : X.A.units + 64 < cLine) : CallR X (.builtin "min") (rMinD X.K) := by
  intro pins s σ H vs us Q I r h
  obtain ⟨a, xs, d, ds, rfl, hl, hd, al, dep, q⟩ := h
  rw [Vals.ref1 r]
  obtain ⟨its, rv, hL, hz⟩ := I.list hl
  obtain ⟨as, ra⟩ := Dp.readsAll I (d :: ds) xs its hd rv
  refine min_list_data (I.ok.hd hc) hL.isList (by simpa using ra) al (by omega) fun i v h' tk bs hi rd hk => ?_
  have hi' : its[i]? = some v := by simpa using hi
  obtain ⟨x, hx, rx⟩ := pd_get2 rv hi'
  obtain ⟨d', hd', dx⟩ := dpall_at i hd hx
  obtain ⟨bs', rd'⟩ := Dp.reads I d' x v dx rx
  have e := (reads_det (fun b o z _ => hk b o z) rd' rd).1
  exact ⟨x, H, I.kept hk, rx, q i x hx (e ▸ hd')⟩
theorem cr_minDK {K : PySem.W.Frag} (h : X.K = K) (hc : X.calm = true) (hu : X.A.units + 64 < cLine) : CallR X (.builtin "min") (rMinD K) := h ▸ cr_minD hc hu
end

set_option Elab.async false
set_option linter.all false
set_option maxRecDepth 100000
set_option maxHeartbeats 4000000
open PySem PySem.Spec PyProof.Rows L2
/-! # ranges downwards, methods of tuples, slices of lists -/
section
variable {X : Cx} {K : PySem.W.Frag} {σ : L2.St} {H : Hp} {Q : VK}
def Rg3N (R : It → Hp → Prop) (vs : List V) (H1 : Hp) : Prop := ∃ (i j c : Int) (n : Nat), vs = [.int i, .int j, .int c] ∧ RgC i j c n ∧ R (Itc i c n) H1
theorem r_rng3 {ta : TA} {R : It → Hp → Prop} (h : ta σ H (Rg3N R)) : iRng3 ta σ H R := h
theorem r_rg3 {i j : Int} {R : It → Hp → Prop} (h1 : -4611686018427387904 ≤ i ∧ i < 4611686018427387904 ∧ -4611686018427387904 ≤ j ∧ j < 4611686018427387904) (h : R (Itc i (-1) (i - j).toNat) H) : Rg3N R [V.int i, V.int j, V.int (-1)] H :=
  ⟨i, j, -1, _, rfl, RgC.neg h1.1 h1.2.1 h1.2.2.1 h1.2.2.2, h⟩
theorem forR_rangeC {lo c : Int} {n : Nat} {g : TG} {tb : TS} {nx : L2.St → Hp → Prop} (Pv : Nat → L2.St → Hp → Prop) (h0 : Pv 0 σ H)
    (hs : ∀ (i : Nat) σ H, i < n → Pv i σ H → g (.int (lo + (i : Nat) * c)) σ H fun σ2 H2 => tb ⟨Pv (i + 1), Q, nx, Pv (i + 1)⟩ σ2 H2) (hd : ∀ σ H, Pv n σ H → nx σ H) : ForR (Itc lo c n) g tb nx Q σ H :=
  for_rangeC (D := ⟨nx, Q, nx, nx⟩) Pv h0 hs hd
/-- tuple(l), its object known not to have a dict -/
def rTupF (K : PySem.W.Frag) : List V → Hp → VK → Prop := fun vs H Q => ∃ (p : Addr) (ys : List V), vs = [V.ref p] ∧ SqL K H p ys ∧ ∀ (l : Addr) (o : Obj), H l = none → o.dict = none → Q (.ref l) (upd H l (.frz o (.tup ys)))
theorem cr_tupF : CallR X (.type "tuple") (rTupF X.K) := by
  intro pins s σ H xs us Q I r h
  obtain ⟨p, ys, rfl, hq, q⟩ := h
  rw [Vals.ref1 r]
  obtain ⟨its, rv, pl, hz⟩ := I.list hq
  have len := rv.length
  refine call_tuple_list pl.isList (fun h' kp => ?_) (by rw [List.size_toArray, ← len]; exact hz)
  have I1 : Inv X pins σ H { s with heap := h' } := I.kept kp
  have new : ObjOk X.prog X.w (upd H h'.objs.size (.frz { cls := .type "tuple", data := .seq its.toArray } (.tup ys))) (h'.push { cls := .type "tuple", data := .seq its.toArray }) h'.objs.size (.frz { cls := .type "tuple", data := .seq its.toArray } (.tup ys)) :=
    ⟨Heap.get?_push_size _ rfl, hz, its, rv, IsTup.new _ _⟩
  exact ⟨.ref h'.objs.size, _, I1.laid (fun b o e => Heap.get?_push_of_some _ e) (Nat.le_refl _) new, rfl, q _ _ (I1.hok.fresh (Nat.le_refl _)) rfl⟩
theorem cr_tupFK (h : X.K = K) : CallR X (.type "tuple") (rTupF K) := h ▸ cr_tupF
theorem cr_sortedK (h : X.K = K) : CallR X (.builtin "sorted") (rSorted K) := h ▸ cr_sorted
/-- a method of such a tuple, with arguments -/
def FrT (H : Hp) (p : Addr) (ys : List V) : Prop := ∃ o : Obj, H p = some (.frz o (.tup ys)) ∧ o.dict = none
def tBU (r : V → List V → Hp → VK → Prop) (to : TE) (t : TA) : TE := fun σ H Q => to σ H fun x H1 => (∃ p ys, x = V.ref p ∧ FrT H1 p ys) ∧ t σ H1 fun xs H2 => r x xs H2 Q
theorem tup_type {pins : List (Addr × Obj)} {s : Shared} {p : Addr} {ys : List V} (I : Inv X pins σ H s) (h : FrT H p ys) : s.TypeIs (.ref p) "tuple" ∧ ∀ a, Value.ref p = .ref a → ∃ ob, s.heap.get? a = some ob ∧ ob.dict = none := by
  obtain ⟨o, ho, nd⟩ := h
  obtain ⟨g, _, its, _, ⟨o', ho', hc, _⟩⟩ := I.hok p _ ho
  have e : o' = o := Option.some.inj (ho'.symm.trans g)
  subst e
  refine ⟨⟨o', ho', hc⟩, fun a e => ?_⟩
  cases e
  exact ⟨o', ho', nd⟩
theorem pe_bu {ob ar : Expr} {rest : List Expr} {to : TE} {t : TA} {nm : Str} {ap cp : Pos} {id : String} {r : V → List V → Hp → VK → Prop} (pa : PlainAttrs "tuple") (sl : Slot "tuple" nm id) (ty : typeOf (.builtin id) = pure (.type "method_descriptor")) (hm : MtR X id r) (ho : PE X ob to) (ha : PA X (ar :: rest) t)
    (hb : attributeBase ob nm X.env (eval ob X.env) = eval ob X.env := by rfl)
    (hf : ((backTo cp (starEach (ar :: rest) X.env)).all (fun x => !x.1) && (backToKw cp (keywordEach [] X.env)).all (fun x => x.1.isSome) && decide ((ar :: rest).length + ([] : List Keyword).length + (if ([] : List Keyword).isEmpty then 0 else 1) < 30)) = true := by rfl)
    (hl : (ap.endLine == cp.line) = true := by rfl) (hs : starEach (ar :: rest) X.env = (false, eval ar X.env) :: starEach rest X.env := by rfl) (hp : (backTo cp (starEach rest X.env)).any (·.1) = false := by rfl) : PE X (.Call (.Attribute ob nm ap) (ar :: rest) [] cp) (tBU r to t) := by
  refine ⟨fun pins s σ H Q I h => ?_⟩
  refine wpAny_Call_method_late hb hf hl rfl (thn (ho.run pins s σ H _ I h) fun v s1 z => ?_)
  obtain ⟨x, H1, I1, r1, ⟨p, ys, e, hq⟩, q1⟩ := z
  subst e
  cases r1
  obtain ⟨t1, t2⟩ := tup_type I1 hq
  refine ⟨"tuple", id, pa, sl, ty, t1, t2, ?_⟩
  have hA := ha.run cp pins s1 σ H1 _ I1 q1
  rw [hs] at hA ⊢
  refine Calls.callWith_builtin (by show (false || (backTo cp (starEach rest X.env)).any (·.1)) = false; rw [hp]; rfl) (Calls.evalArgs_plain ?_)
  exact thn hA fun us s2 ⟨vs, H2, I2, r2, q2⟩ => hm pins s2 σ H2 _ vs _ us Q I2 (show L2.RelV (V.ref p) (Value.ref p) from rfl) r2 q2
def BuN (r : V → List V → Hp → VK → Prop) (t : TA) (σ : L2.St) (Q : VK) : VK := fun x H1 => (∃ p ys, x = V.ref p ∧ FrT H1 p ys) ∧ t σ H1 fun xs H2 => r x xs H2 Q
theorem r_bu {r : V → List V → Hp → VK → Prop} {to : TE} {t : TA} (h : to σ H (BuN r t σ Q)) : tBU r to t σ H Q := h
theorem r_buT {r : V → List V → Hp → VK → Prop} {t : TA} {p : Addr} {ys : List V} (h : FrT H p ys) (q : t σ H fun xs H2 => r (.ref p) xs H2 Q) : BuN r t σ Q (.ref p) H := ⟨⟨p, ys, rfl, h⟩, q⟩
theorem r_tupF {p : Addr} {ys : List V} (h : SqL K H p ys) (q : ∀ (l : Addr) (o : Obj), H l = none → o.dict = none → Q (.ref l) (upd H l (.frz o (.tup ys)))) : rTupF K [.ref p] H Q := ⟨p, ys, rfl, h, q⟩
theorem FrT.sq {p : Addr} {ys : List V} (h : FrT H p ys) : SqT K H p ys := by
  obtain ⟨o, h, _⟩ := h
  exact .inl (.inr ⟨o, h⟩)
theorem r_name14 {x0 x1 x2 x3 x4 x5 x6 x7 x8 x9 x10 x11 x12 x13 x14 : Option V} {σ : L2.St} {v : V} {q : L2.St → Hp → Prop} (h : q (x0 :: x1 :: x2 :: x3 :: x4 :: x5 :: x6 :: x7 :: x8 :: x9 :: x10 :: x11 :: x12 :: x13 :: some v :: σ) H) : gName 14 v (x0 :: x1 :: x2 :: x3 :: x4 :: x5 :: x6 :: x7 :: x8 :: x9 :: x10 :: x11 :: x12 :: x13 :: x14 :: σ) H q := h
theorem r_name15 {x0 x1 x2 x3 x4 x5 x6 x7 x8 x9 x10 x11 x12 x13 x14 x15 : Option V} {σ : L2.St} {v : V} {q : L2.St → Hp → Prop} (h : q (x0 :: x1 :: x2 :: x3 :: x4 :: x5 :: x6 :: x7 :: x8 :: x9 :: x10 :: x11 :: x12 :: x13 :: x14 :: some v :: σ) H) : gName 15 v (x0 :: x1 :: x2 :: x3 :: x4 :: x5 :: x6 :: x7 :: x8 :: x9 :: x10 :: x11 :: x12 :: x13 :: x14 :: x15 :: σ) H q := h
theorem r_name16 {x0 x1 x2 x3 x4 x5 x6 x7 x8 x9 x10 x11 x12 x13 x14 x15 x16 : Option V} {σ : L2.St} {v : V} {q : L2.St → Hp → Prop} (h : q (x0 :: x1 :: x2 :: x3 :: x4 :: x5 :: x6 :: x7 :: x8 :: x9 :: x10 :: x11 :: x12 :: x13 :: x14 :: x15 :: some v :: σ) H) : gName 16 v (x0 :: x1 :: x2 :: x3 :: x4 :: x5 :: x6 :: x7 :: x8 :: x9 :: x10 :: x11 :: x12 :: x13 :: x14 :: x15 :: x16 :: σ) H q := h
theorem r_name17 {x0 x1 x2 x3 x4 x5 x6 x7 x8 x9 x10 x11 x12 x13 x14 x15 x16 x17 : Option V} {σ : L2.St} {v : V} {q : L2.St → Hp → Prop} (h : q (x0 :: x1 :: x2 :: x3 :: x4 :: x5 :: x6 :: x7 :: x8 :: x9 :: x10 :: x11 :: x12 :: x13 :: x14 :: x15 :: x16 :: some v :: σ) H) : gName 17 v (x0 :: x1 :: x2 :: x3 :: x4 :: x5 :: x6 :: x7 :: x8 :: x9 :: x10 :: x11 :: x12 :: x13 :: x14 :: x15 :: x16 :: x17 :: σ) H q := h
theorem r_name18 {x0 x1 x2 x3 x4 x5 x6 x7 x8 x9 x10 x11 x12 x13 x14 x15 x16 x17 x18 : Option V} {σ : L2.St} {v : V} {q : L2.St → Hp → Prop} (h : q (x0 :: x1 :: x2 :: x3 :: x4 :: x5 :: x6 :: x7 :: x8 :: x9 :: x10 :: x11 :: x12 :: x13 :: x14 :: x15 :: x16 :: x17 :: some v :: σ) H) : gName 18 v (x0 :: x1 :: x2 :: x3 :: x4 :: x5 :: x6 :: x7 :: x8 :: x9 :: x10 :: x11 :: x12 :: x13 :: x14 :: x15 :: x16 :: x17 :: x18 :: σ) H q := h
theorem r_name19 {x0 x1 x2 x3 x4 x5 x6 x7 x8 x9 x10 x11 x12 x13 x14 x15 x16 x17 x18 x19 : Option V} {σ : L2.St} {v : V} {q : L2.St → Hp → Prop} (h : q (x0 :: x1 :: x2 :: x3 :: x4 :: x5 :: x6 :: x7 :: x8 :: x9 :: x10 :: x11 :: x12 :: x13 :: x14 :: x15 :: x16 :: x17 :: x18 :: some v :: σ) H) : gName 19 v (x0 :: x1 :: x2 :: x3 :: x4 :: x5 :: x6 :: x7 :: x8 :: x9 :: x10 :: x11 :: x12 :: x13 :: x14 :: x15 :: x16 :: x17 :: x18 :: x19 :: σ) H q := h
theorem r_tidx {p : Addr} {ns : List Int} {k : Int} (h : SqT K H p (ns.map V.int)) (hk : k ∈ ns) (q : Q (.int (ns.idxOf k : Nat)) H) : rTIdx K (.ref p) [.int k] H Q := ⟨p, ns, k, rfl, rfl, h, hk, q⟩
/-- xs[:k], xs[k:-1] -/
theorem r_slLTo {a : Addr} {xs : List V} {k : Nat} (h : SqL K H a xs) (hk : k ≤ xs.length) (q : ∀ p, H p = none → Q (.ref p) (upd H p (.lst (xs.take k)))) : rSlL K (.ref a) none (some (k : Int)) H Q :=
  ⟨a, xs, rfl, h, by rw [cut_to xs k hk]; exact q⟩
theorem cut_mid (xs : List V) (k : Nat) (h : k < xs.length) : cutV xs (some (k : Int)) (some (-1)) = xs.dropLast.drop k := by
  unfold cutV
  have e : HT.sIx xs.length xs.length (some (-1)) = xs.length - 1 := by
    show (if (-1 : Int) < 0 then ((-1 : Int) + (xs.length : Int)).toNat else min (-1 : Int).toNat xs.length) = xs.length - 1
    rw [if_pos (by omega)]
    omega
  rw [e, HT.sIx_nat, Nat.min_eq_left (by omega), List.dropLast_eq_take, List.drop_take]
theorem r_slLMid {a : Addr} {xs : List V} {k : Nat} (h : SqL K H a xs) (hk : k < xs.length) (q : ∀ p, H p = none → Q (.ref p) (upd H p (.lst (xs.dropLast.drop k)))) : rSlL K (.ref a) (some (k : Int)) (some (-1)) H Q :=
  ⟨a, xs, rfl, h, by rw [cut_mid xs k hk]; exact q⟩
theorem r_slTFrom {a : Addr} {x : V} {xs : List V} (h : SqT K H a (x :: xs)) (q : ∀ p, H p = none → Q (.ref p) (upd H p (.tup xs))) : rSlT K (.ref a) (some 1) none H Q := by
  refine ⟨a, x :: xs, rfl, h, ?_, ?_⟩
  · have e : HT.sIx (x :: xs).length 0 (some 1) = 1 := by
      rw [show (1 : Int) = ((1 : Nat) : Int) from rfl, HT.sIx_nat]
      simp
    rw [e]
    exact fun z => absurd z.1 (by decide)
  · have e := cut_from (x :: xs) 1 (by simp)
    rw [show ((1 : Nat) : Int) = 1 from rfl] at e
    rw [e]
    exact q
end

set_option Elab.async false
set_option linter.all false
set_option maxRecDepth 100000
set_option maxHeartbeats 4000000
open PySem PySem.Spec PySem.W PyProof.Rows L2
/-! # sorted of a list of data -/
theorem dLe_trans (a b c : PyData) (h1 : (!dataLt b a) = true) (h2 : (!dataLt c b) = true) : (!dataLt c a) = true := by
  cases q : dataLt c a with
  | false => rfl
  | true =>
    rw [Bool.not_eq_true'] at h1 h2
    rcases lex_negTrans (O := itemOrd) _ (keyToks b) _ q with z | z
    · exact absurd (h2.symm.trans z) Bool.false_ne_true
    · exact absurd (h1.symm.trans z) Bool.false_ne_true
theorem dLe_total (a b : PyData) : (!dataLt b a || !dataLt a b) = true := by
  cases p : dataLt b a with
  | false => rfl
  | true =>
    cases q : dataLt a b with
    | false => rfl
    | true =>
      have h := lex_trans (O := itemOrd) _ _ _ p q
      exact absurd ((lex_irrefl (O := itemOrd) _).symm.trans h) Bool.false_ne_true
theorem zip_snd {K : PySem.W.Frag} {H : Hp} : ∀ {xs : List V} {ds : List PyData}, DpAll K H xs ds → (xs.zip ds).map Prod.snd = ds
  | _, _, .nil => rfl
  | _, _, .cons _ t => by rw [List.zip_cons_cons, List.map_cons, zip_snd t]
theorem dp_len {K : PySem.W.Frag} {H : Hp} : ∀ {xs : List V} {ds : List PyData}, DpAll K H xs ds → xs.length = ds.length
  | _, _, .nil => rfl
  | _, _, .cons _ t => by rw [List.length_cons, List.length_cons, dp_len t]
theorem zip_dp {K : PySem.W.Frag} {H : Hp} : ∀ {xs : List V} {ds : List PyData}, DpAll K H xs ds → ∀ b ∈ xs.zip ds, Dp K H b.1 b.2
  | _, _, .nil, b, h => by cases h
  | _, _, .cons a t, b, h => by
    rw [List.zip_cons_cons] at h
    rcases List.mem_cons.mp h with rfl | h
    · exact a
    · exact zip_dp t b h
theorem dp_zip {K : PySem.W.Frag} {H : Hp} : ∀ {bs : List (V × PyData)}, (∀ b ∈ bs, Dp K H b.1 b.2) → DpAll K H (bs.map Prod.fst) (bs.map Prod.snd)
  | [], _ => .nil
  | b :: bs, h => .cons (h b List.mem_cons_self) (dp_zip fun c hc => h c (List.mem_cons_of_mem _ hc))
theorem zip_back : ∀ bs : List (V × PyData), (bs.map Prod.fst).zip (bs.map Prod.snd) = bs
  | [] => rfl
  | b :: bs => by rw [List.map_cons, List.map_cons, List.zip_cons_cons, zip_back bs]
theorem deep_mem {ds : List PyData} {d : PyData} (h : d ∈ ds) : d.depth ≤ PyData.depthAll ds := by
  induction ds with
  | nil => cases h
  | cons e ds ih =>
    simp only [PyData.depthAll]
    rcases List.mem_cons.mp h with rfl | h
    · omega
    · have := ih h
      omega
def rSortD (K : PySem.W.Frag) : List V → Hp → VK → Prop := fun vs H Q => ∃ (a : Addr) (xs : List V) (ds : List PyData), vs = [.ref a] ∧ SqL K H a xs ∧ DpAll K H xs ds ∧ AllAlike ds ∧ Sortable ds ∧ PyData.depthAll ds ≤ 60 ∧
  ∀ (ys : List V) (es : List PyData) (p : Addr), (ys.zip es).Perm (xs.zip ds) → ys.length = es.length → ys.Perm xs → es.Perm ds → DpAll K H ys es → es.Pairwise (fun d e => dataLt e d = false) → H p = none → Q (.ref p) (upd H p (.lst ys))
section
variable {X : Cx}
theorem each_of {pins : List (Addr × Obj)} {s : Shared} {σ : L2.St} {H : Hp} (I : Inv X pins σ H s) : ∀ {xs : List V} {its : List Value} {ds : List PyData}, Vals xs its → DpAll X.K H xs ds →
    EachIs (fun v (b : V × PyData) => RelV b.1 v) its (xs.zip ds) ∧ EachIs (fun v (b : V × PyData) => ∃ as, Reads s.heap v b.2 as) its (xs.zip ds)
  | _, _, _, .nil, .nil => ⟨.nil, .nil⟩
  | _, _, _, .cons r rs, .cons h t => by
    obtain ⟨h1, h2⟩ := each_of I rs t
    exact ⟨.cons r h1, .cons (Dp.reads I _ _ _ h r) h2⟩
theorem vals_each : ∀ {out : List Value} {bs : List (V × PyData)}, EachIs (fun v (b : V × PyData) => RelV b.1 v) out bs → Vals (bs.map Prod.fst) out
  | _, _, .nil => .nil
  | _, _, .cons h t => .cons h (vals_each t)
theorem cr_sortD (hu : X.A.units + 64 < cLine) : CallR X (.builtin "sorted") (rSortD X.K) := by
  intro pins s σ H vs us Q I r h
  obtain ⟨a, xs, ds, rfl, hl, hd, al, sb, dep, q⟩ := h
  rw [Vals.ref1 r]
  obtain ⟨its, rv, hL, hz⟩ := I.list hl
  obtain ⟨e1, e2⟩ := each_of I rv hd
  have es := zip_snd hd
  have lz : (xs.zip ds).length = xs.length := by
    have := dp_len hd
    rw [List.length_zip]
    omega
  refine sorted_data (enc := Prod.snd) hL.isList e1 e2 (by rw [es]; exact al) (by rw [es]; exact sb) (by rw [lz]; exact hz) (fun b hb => ?_) fun out lo ho => ?_
  · have := deep_mem (ds := ds) (d := b.2) (by rw [← es]; exact List.mem_map.mpr ⟨b, hb, rfl⟩)
    show X.A.units + 2 + b.2.depth < cLine
    generalize b.2.depth = k at this ⊢
    omega
  · have pm : ((xs.zip ds).mergeSort (dataLe false Prod.snd)).Perm (xs.zip ds) := List.mergeSort_perm _ _
    have pw : ((xs.zip ds).mergeSort (dataLe false Prod.snd)).Pairwise (fun a b => dataLe false Prod.snd a b = true) := List.pairwise_mergeSort (fun a b c h1 h2 => by
      rw [dataLe_eq] at *
      exact dLe_trans _ _ _ h1 h2) (fun a b => by
      rw [dataLe_eq]
      exact dLe_total _ _) _
    have hv := vals_each ho
    generalize (xs.zip ds).mergeSort (dataLe false Prod.snd) = bs at pm pw hv
    have p1 : (bs.map Prod.fst).Perm xs := by
      have z := pm.map Prod.fst
      have l2 : ds.length = xs.length := by rw [← es, List.length_map, lz]
      rwa [List.map_fst_zip (by omega)] at z
    have p2 : (bs.map Prod.snd).Perm ds := by
      have z := pm.map Prod.snd
      rwa [es] at z
    obtain ⟨n, hn⟩ := sortedAll_at s.heap its out.toArray
    refine ⟨.ref (s.heap.objs.size + 1), upd H (s.heap.objs.size + 1) (.lst (bs.map Prod.fst)), I.laid (t' := s.toks) (fun b o e => sortedAll_old e) (Nat.le_succ _) ⟨?_, out, n, hv, hn⟩, rfl, q _ (bs.map Prod.snd) _ (by rw [zip_back]; exact pm) (by rw [List.length_map, List.length_map]) p1 p2 (dp_zip fun b hb => zip_dp hd b (pm.mem_iff.mp hb)) ?_ (I.hok.fresh (Nat.le_succ _))⟩
    · rw [p1.length_eq]
      exact hz
    · refine List.pairwise_map.mpr (pw.imp fun {a b} h => ?_)
      rw [dataLe_eq] at h
      have h : (!dataLt b.2 a.2) = true := h
      rwa [Bool.not_eq_true'] at h
theorem cr_sortDK {K : PySem.W.Frag} (h : X.K = K) (hu : X.A.units + 64 < cLine) : CallR X (.builtin "sorted") (rSortD K) := h ▸ cr_sortD hu
end

set_option Elab.async false
set_option linter.all false
set_option maxRecDepth 100000
set_option maxHeartbeats 4000000
open PySem PySem.Spec PyProof.Rows L2
/-! # is a tuple in a set of tuples -/
section
variable {P : Program} {w : World} {A : Around} {E : Value → Shared → Prop} {s : Shared} {a : Addr} {L : List (Addr × List Int)} {es : Array (Int × Value)} {ep : Nat} {t : SetTable}
/-- the step of the way on which the look begins -/
def way0 (t : SetTable) (h : Int) : SetTable.Probe := runAt t.mask (SetTable.bits h % (t.mask + 1)) (SetTable.bits h)
theorem way0_dummy (t : SetTable) (h : Int) : ∀ c, (nth t.mask (way0 t h) c).dummy = none := by
  have all : ∀ (c : Nat) (p : SetTable.Probe), p.dummy = none → (nth t.mask p c).dummy = none := fun c => by
    induction c with
    | zero => exact fun p h => h
    | succ c ih =>
      intro p h
      refine ih _ ?_
      unfold adv
      split <;> exact h
  exact fun c => all c _ rfl
theorem look_from (R : SetTR P w s.heap a L es ep t) {x : Addr} {k : List Int} (hx : IsT P w s.heap k x) (hu : A.units < cLine) {K : Nat} (hKf : K < 10 * SetTable.turns t.mask)
    (hK : way t.mask (thash P w k) K ∉ t.place.toList) (hKb : ∀ c, c < K → way t.mask (thash P w k) c ∈ t.place.toList) {Q : SetFound → Shared → Prop}
    (yes : k ∈ L.map (·.2) → ∀ i, Q (.there (some i)) s) (no : k ∉ L.map (·.2) → ∀ j, Q (.free j false) s) :
    ∀ (f c : Nat) (stand : Option SetTable.Probe), stand.getD (t.probeStart (thash P w k)) = nth t.mask (way0 t (thash P w k)) c → c ≤ K → K - c < f →
      (∀ (i : Nat) p, L[i]? = some p → p.2 = k → ∃ c', c ≤ c' ∧ c' < K ∧ t.place.toList[i]? = some (way t.mask (thash P w k) c')) →
      wpAny (model P w) A (setSearchFrom a (.ref x) (thash P w k) false f stand) Q E s := by
  intro f
  induction f with
  | zero => exact fun c stand _ _ h => absurd h (Nat.not_lt_zero _)
  | succ f ih =>
    intro c stand hst hc hf hre
    obtain ⟨o, ho, hex, hd⟩ := R.ob
    rw [setSearchFrom_succ]
    refine wpAny_bind (wpAny_setState_of ho hd R.fits ?_)
    dsimp only
    refine wp_if_neg R.gw ?_
    try refine wpAny_bind (wpAny_pure ?_)
    have sh : ∀ q, nth t.mask (nth t.mask (way0 t (thash P w k)) c) q = nth t.mask (way0 t (thash P w k)) (c + q) := fun q => (nth_add t.mask c _ q).symm
    have wj : ∀ q, (nth t.mask (nth t.mask (way0 t (thash P w k)) c) q).j = way t.mask (thash P w k) (c + q) := fun q => congrArg SetTable.Probe.j (sh q)
    have hashAt : ∀ (i : Nat) p, L[i]? = some p → (fun i => (es[i]?.map (·.1)).getD 0) i = thash P w p.2 := fun i p hp => by
      show (es[i]?.map (·.1)).getD 0 = _
      rw [R.entry hp]
      rfl
    have lies : ∀ (i : Nat) {j : Nat}, t.place.toList[i]? = some j → ∃ p, L[i]? = some p := fun i j h => by
      have h1 := (List.getElem?_eq_some_iff.mp h).1
      have h2 := R.tab.sz
      rw [List.length_map] at h2
      rw [Array.length_toList] at h1
      exact ⟨_, List.getElem?_eq_getElem (by omega : i < L.length)⟩
    rcases go_spec t R.tab.ris R.tab.dm (fun i => (es[i]?.map (·.1)).getD 0) (thash P w k) (10 * SetTable.turns t.mask) (K - c) _ (way0_dummy t _ c) (by omega)
      (fun q hq => by rw [wj]; exact hKb (c + q) (by omega)) (by rw [wj, show c + (K - c) = K by omega]; exact hK) with ⟨q, i, hq, hi, _, hno, hpr⟩ | ⟨hno, hpr⟩
    · rw [wj] at hi
      have hpr' : t.probe (fun i => (es[i]?.map (·.1)).getD 0) (thash P w k) (stand.getD (t.probeStart (thash P w k))) = some (.candidate (way t.mask (thash P w k) (c + q)) i (nth t.mask (way0 t (thash P w k)) (c + (q + 1)))) := by
        rw [hst, ← wj, ← sh]
        exact hpr
      rw [hpr']
      dsimp only
      obtain ⟨p, hp⟩ := lies i hi
      have hm : p ∈ L := List.mem_of_getElem? hp
      have live := slot_live R.tab.ris hi
      have rest : wpAny (model P w) A (searchRest a (.ref x) (thash P w k) false f es t (way t.mask (thash P w k) (c + q)) i (nth t.mask (way0 t (thash P w k)) (c + (q + 1)))) Q E s := by
        unfold searchRest
        rw [R.entry hp]
        dsimp only
        refine wpAny_bind (wpAny_holding (wpAny_eqBool_tuple hu (R.tup p hm) hx ?_))
        refine wpAny_bind (wpAny_setState_of ho hd R.fits ?_)
        dsimp only
        refine wp_if_neg (by simp) ?_
        try refine wpAny_bind (wpAny_pure ?_)
        rw [sameMem]
        dsimp only
        simp only [if_true, live, R.entry hp]
        refine wpAny_bind (wpAny_isSame_ref_self (wpAny_bind (wpAny_pure ?_)))
        simp only [if_true]
        by_cases e : p.2 = k
        · refine wp_if_pos (by simp [e]) ?_
          exact wpAny_pure (yes (List.mem_map.mpr ⟨p, hm, e⟩) i)
        · refine wp_if_neg (by simp [e]) ?_
          refine ih (c + (q + 1)) _ rfl (by omega) (by omega) fun i0 p0 h0 e0 => ?_
          obtain ⟨c', a1, a2, a3⟩ := hre i0 p0 h0 e0
          refine ⟨c', ?_, a2, a3⟩
          rcases Nat.lt_trichotomy c' (c + q) with z | z | z
          · refine absurd ((hashAt i0 p0 h0).trans (congrArg (thash P w) e0)) (hno (c' - c) i0 (by omega) ?_)
            rw [wj, show c + (c' - c) = c' by omega]
            exact a3
          · rw [z] at a3
            have l0 := slot_live R.tab.ris a3
            rw [live] at l0
            injection l0 with l0
            rw [← l0, hp] at h0
            exact absurd ((congrArg Prod.snd (Option.some.inj h0)).trans e0) e
          · omega
      by_cases hl : t.led = true
      · refine wp_if_neg (by simp [hl]) ?_
        try refine wpAny_bind (wpAny_pure ?_)
        exact rest
      · refine wp_if_pos (by simp [hl]) ?_
        refine wpAny_bind (seen_tup hx (fun y hy => ?_) ?_)
        · obtain ⟨e, he, ee⟩ := List.mem_map.mp hy
          have he1 : e ∈ es ∧ e.1 = thash P w k := by simpa using he
          have he2 : e ∈ es.toList := by simpa using he1.1
          rw [R.rows] at he2
          obtain ⟨p2, hp2, e2⟩ := List.mem_map.mp he2
          exact ⟨p2.2, p2.1, by rw [← ee, ← e2], R.tup p2 hp2⟩
        · refine wp_if_neg (by decide) ?_
          try refine wpAny_bind (wpAny_pure ?_)
          exact rest
    · have hpr' : t.probe (fun i => (es[i]?.map (·.1)).getD 0) (thash P w k) (stand.getD (t.probeStart (thash P w k))) = some (.empty (nth t.mask (nth t.mask (way0 t (thash P w k)) c) (K - c)).j none) := by
        rw [hst]
        exact hpr
      rw [hpr']
      dsimp only
      refine wpAny_pure (no (fun hm => ?_) _)
      obtain ⟨p0, h0, e0⟩ := List.mem_map.mp hm
      obtain ⟨i0, h1, e1⟩ := List.getElem_of_mem h0
      have h00 : L[i0]? = some p0 := by rw [List.getElem?_eq_getElem h1, e1]
      obtain ⟨c', a1, a2, a3⟩ := hre i0 p0 h00 e0
      refine absurd ((hashAt i0 p0 h00).trans (congrArg (thash P w) e0)) (hno (c' - c) i0 (by omega) ?_)
      rw [wj, show c + (c' - c) = c' by omega]
      exact a3
theorem find_tup (R : SetTR P w s.heap a L es ep t) {x : Addr} {k : List Int} (hx : IsT P w s.heap k x) (hu : A.units < cLine) {Q : Option Nat → Shared → Prop} (h : ∀ r : Option Nat, r.isSome = decide (k ∈ L.map (·.2)) → Q r s) :
    wpAny (model P w) A (setFind a (.ref x) (thash P w k)) Q E s := by
  obtain ⟨o, ho, hex, hd⟩ := R.ob
  have hroom := R.room
  obtain ⟨K, hKf, hK, hKb⟩ := R.tab.first (by rw [List.length_map]; omega) (thash P w k)
  have big : K < 100000 := by
    have : 10 * SetTable.turns t.mask ≤ 1420 := by
      unfold SetTable.turns
      rcases R.tab.mok with e | e | e <;> omega
    omega
  unfold setFind
  show wpAny _ _ (setFindIn a (.ref x) (thash P w k) (99999 + 1)) _ _ _
  unfold setFindIn
  refine wpAny_bind (wpAny_setState_of ho hd R.fits ?_)
  dsimp only
  refine wp_if_neg (by simp [byScan, Value.scannable]) ?_
  try refine wpAny_bind (wpAny_pure ?_)
  unfold setSearch
  refine wpAny_bind (look_from R hx hu hKf hK hKb (fun hm i => ?_) (fun hm j => ?_) 100000 0 none rfl (Nat.zero_le _) (by omega) fun i p hp e => ?_)
  · exact wpAny_pure (h _ (by rw [decide_eq_true hm]; rfl))
  · exact wpAny_pure (h _ (by rw [decide_eq_false hm]; rfl))
  · have hi : (L.map fun p => thash P w p.2)[i]? = some (thash P w k) := by
      rw [List.getElem?_map, hp, ← e]
      rfl
    have hil : i < t.place.toList.length := by
      have h1 := (List.getElem?_eq_some_iff.mp hp).1
      have h2 := R.tab.sz
      rw [List.length_map] at h2
      rw [Array.length_toList]
      omega
    have hj := List.getElem?_eq_getElem hil
    obtain ⟨c, hc, e⟩ := R.tab.before hK hi hj
    exact ⟨c, Nat.zero_le _, hc, by rw [hj, e]⟩
theorem contains_tup (R : SetTR P w s.heap a L es ep t) {x : Addr} {k : List Int} (hx : IsT P w s.heap k x) (hu : A.units + 64 < cLine) {Q : Bool → Shared → Prop} (h : ∀ n, Q (decide (k ∈ L.map (·.2))) { s with toks := s.toks + n }) :
    wpAny (model P w) A (contains (.ref a) (.ref x)) Q E s := by
  have ty : s.TypeIs (.ref a) "set" := by
    obtain ⟨o, ho, hex, _⟩ := R.ob
    exact ⟨o, ho, hex.1⟩
  unfold contains
  try with_reducible refine wpAny_holding ?_
  refine wpAny_bind (wpAny_specialOf ty F.slot_set_contains.lookup ?_)
  show wpAny _ _ (if (some (Value.builtin "set.__contains__") == some Value.none) = true then _ else _) _ E s
  rw [if_neg (by rw [beq_builtin_none]; exact Bool.false_ne_true)]
  refine wpAny_bind (wpAny_callSpecialUnlessNone?_slot (name := Str.ofString "__contains__") ty F.slot_set_contains
    (wpAny_call_entry F.slot_set_contains ty entry_set_contains ?_ (F.args_set_contains_2 _ _)))
  unfold Builtin.«frozenset.__contains__» Builtin.Frozenset.oneOther
  simp only [List.isEmpty_nil, bind_assoc]
  unfold Builtin.Frozenset.addrOf Builtin.Frozenset.withSetAsKey setContains
  refine wpAny_bind (wpAny_pure ?_)
  try dsimp only
  refine wpAny_bind (wpAny_pure ?_)
  try dsimp only
  refine wpAny_bind (wpAny_tryCatch ?_)
  refine wpAny_holding ?_
  refine wpAny_bind (wpAny_pyHash_tuple (by first | omega | (rw [Around.in1_units]; omega) | (rw [Around.in1_units, Around.in1_units]; omega)) hx ?_)
  refine wpAny_bind (find_tup (s := { s with toks := s.toks + (k.length + 1) }) R hx (by first | omega | (rw [Around.in1_units]; omega) | (rw [Around.in1_units, Around.in1_units]; omega)) fun r hr => ?_)
  refine wpAny_pure ?_
  show wpAny _ _ (ret (Value.bool r.isSome)) _ _ _
  rw [hr]
  exact wpAny_pure ⟨_, rfl, wpAny_truthy_bool (h _)⟩
end
section
variable {X : Cx} {K : PySem.W.Frag} {P : Program} {w : World} {σ : L2.St} {H : Hp} {Q : VK}
/-- set(), to hold tuples -/
def rSet0T (P : Program) (w : World) : List V → Hp → VK → Prop := fun xs H Q => xs = [] ∧ ∀ p, H p = none → Q (.ref p) (upd H p (SetTO P w p []))
theorem cr_set0T : CallR X (.type "set") (rSet0T X.prog X.w) := by
  intro pins s σ H xs us Q I r h
  obtain ⟨rfl, q⟩ := h
  cases r
  refine setR_new fun _ => ?_
  exact ⟨.ref _, upd H s.heap.objs.size (SetTO X.prog X.w s.heap.objs.size []), I.laid (t' := s.toks) (fun b u e => Heap.get?_push_of_some _ e) (Nat.le_refl _) (freshT rfl), rfl, q _ (I.hok.fresh (Nat.le_refl _))⟩
theorem cr_set0TK (h2 : X.prog = P) (h3 : X.w = w) : CallR X (.type "set") (rSet0T P w) := h2 ▸ h3 ▸ cr_set0T
/-- s.add(t) -/
def rSAddT (K : PySem.W.Frag) (P : Program) (w : World) : V → List V → Hp → VK → Prop := fun x xs H Q => ∃ (D : Addr) (y : V), x = .ref D ∧ xs = [y] ∧ AdT K P w D (fun H' => Q .non H') y H
theorem mt_saddT (hu : X.A.units + 64 < cLine) : MtR X "set.add" (rSAddT X.K X.prog X.w) := by
  intro pins s σ H x xs v us Q I rx rxs h
  obtain ⟨D, y, rfl, rfl, ad⟩ := h
  cases rx
  cases rxs with
  | cons ry rt =>
    cases rt
    exact addT_ok hu I ry ad fun s' H' I' n => ⟨.non, H', I', rfl, n⟩
def tSAddT (K : PySem.W.Frag) (P : Program) (w : World) (to : TE) (t : TA) : TE := fun σ H Q => to σ H fun x H1 => (∃ D L, x = V.ref D ∧ H1 D = some (SetTO P w D L)) ∧ t σ H1 fun xs H2 => rSAddT K P w x xs H2 Q
variable {o e : Expr} {es : List Expr} {to : TE} {t : TA} {apos cpos : Pos}
theorem pe_saddT (hu : X.A.units + 64 < cLine) (ho : PE X o to) (ha : PA X (e :: es) t)
    (hb : attributeBase o "add" X.env (eval o X.env) = eval o X.env := by rfl)
    (hf : ((backTo cpos (starEach (e :: es) X.env)).all (fun x => !x.1) && (backToKw cpos (keywordEach [] X.env)).all (fun x => x.1.isSome) && decide ((e :: es).length + ([] : List Keyword).length + (if ([] : List Keyword).isEmpty then 0 else 1) < 30)) = true := by rfl)
    (hl : (apos.endLine == cpos.line) = true := by rfl) (hs : starEach (e :: es) X.env = (false, eval e X.env) :: starEach es X.env := by rfl) (hp : (backTo cpos (starEach es X.env)).any (·.1) = false := by rfl) :
    PE X (.Call (.Attribute o "add" apos) (e :: es) [] cpos) (tSAddT X.K X.prog X.w to t) := by
  refine ⟨fun pins s σ H Q I h => ?_⟩
  refine wpAny_Call_method_late hb hf hl rfl (thn (ho.run pins s σ H _ I h) fun v s1 z => ?_)
  obtain ⟨x, H1, I1, r1, ⟨D, L, e1, hD⟩, q1⟩ := z
  subst e1
  cases r1
  have R0 : SetT0 X.prog X.w s1.heap D L := (I1.hok D _ hD).1
  obtain ⟨_, _, _, ⟨ob, hob, hex, _⟩, _⟩ := R0.ex
  refine ⟨"set", "set.add", F.plainAttrs_set, F.slot_set_add, F.type_set_add, ⟨ob, hob, hex.1⟩, fun b e2 => ?_, ?_⟩
  · cases e2
    exact ⟨ob, hob, hex.2.1⟩
  have hA := ha.run cpos pins s1 σ H1 _ I1 q1
  rw [hs] at hA ⊢
  refine Calls.callWith_builtin (by show (false || (backTo cpos (starEach es X.env)).any (·.1)) = false; rw [hp]; rfl) (Calls.evalArgs_plain ?_)
  exact thn hA fun us s2 ⟨vs, H2, I2, r2, q2⟩ => mt_saddT hu pins s2 σ H2 (.ref D) vs (.ref D) us Q I2 (show L2.RelV (V.ref D) (Value.ref D) from rfl) r2 q2
/-- t in s, t not in s -/
def rInT (K : PySem.W.Frag) (P : Program) (w : World) (neg : Bool) : V → V → Hp → VK → Prop := fun x y H Q => ∃ (b D : Addr) (k : List Int) (L : List (Addr × List Int)), x = .ref b ∧ y = .ref D ∧ SqT K H b (k.map V.int) ∧ H D = some (SetTO P w D L) ∧ (∀ p ∈ L, SqT K H p.1 (p.2.map V.int)) ∧ Q (.bl (xor neg (decide (k ∈ L.map (·.2))))) H
theorem inT_raw {pins : List (Addr × Obj)} {s : Shared} {E : Value → Shared → Prop} {b D : Addr} {k : List Int} {L : List (Addr × List Int)} {R : Bool → Shared → Prop} (hu : X.A.units + 64 < cLine) (I : Inv X pins σ H s) (hb : SqT X.K H b (k.map V.int)) (hD : H D = some (SetTO X.prog X.w D L)) (hL : ∀ p ∈ L, SqT X.K H p.1 (p.2.map V.int)) (q : ∀ n, R (decide (k ∈ L.map (·.2))) { s with toks := s.toks + n }) :
    wpAny (model X.prog X.w) X.A (contains (.ref D) (.ref b)) R E s := by
  have R0 : SetT0 X.prog X.w s.heap D L := (I.hok D _ hD).1
  obtain ⟨es, ep, t, R'⟩ := R0.full fun p hp => I.isT (hL p hp)
  exact contains_tup R' (I.isT hb) hu q
theorem op_inT (hu : X.A.units + 64 < cLine) : OpR X (compareOp .In) (rInT X.K X.prog X.w false) := by
  intro pins s σ H x y v u Q I rx ry h
  obtain ⟨b, D, k, L, rfl, rfl, hb, hD, hL, q⟩ := h
  cases rx
  cases ry
  show wpAny _ _ (do return Value.bool (← contains (Value.ref D) (Value.ref b))) _ _ s
  refine wpAny_bind (inT_raw hu I hb hD hL fun n => ?_)
  exact wpAny_pure ⟨V.bl (decide (k ∈ L.map fun p : Addr × List Int => p.2)), H, I.tok _, rfl, by rw [Bool.false_xor] at q; exact q⟩
theorem op_ninT (hu : X.A.units + 64 < cLine) : OpR X (compareOp .NotIn) (rInT X.K X.prog X.w true) := by
  intro pins s σ H x y v u Q I rx ry h
  obtain ⟨b, D, k, L, rfl, rfl, hb, hD, hL, q⟩ := h
  cases rx
  cases ry
  show wpAny _ _ (do return Value.bool (!(← contains (Value.ref D) (Value.ref b)))) _ _ s
  refine wpAny_bind (inT_raw hu I hb hD hL fun n => ?_)
  exact wpAny_pure ⟨V.bl (!decide (k ∈ L.map fun p : Addr × List Int => p.2)), H, I.tok _, rfl, by rw [Bool.true_xor] at q; exact q⟩
theorem op_inTK (h1 : X.K = K) (h2 : X.prog = P) (h3 : X.w = w) (hu : X.A.units + 64 < cLine) : OpR X (compareOp .In) (rInT K P w false) := h1 ▸ h2 ▸ h3 ▸ op_inT hu
theorem op_ninTK (h1 : X.K = K) (h2 : X.prog = P) (h3 : X.w = w) (hu : X.A.units + 64 < cLine) : OpR X (compareOp .NotIn) (rInT K P w true) := h1 ▸ h2 ▸ h3 ▸ op_ninT hu
theorem PE.saddTK {f : Expr} {to : TE} {t : TA} (h1 : X.K = K) (h2 : X.prog = P) (h3 : X.w = w) (p : PE X f (tSAddT X.K X.prog X.w to t)) : PE X f (tSAddT K P w to t) := h1 ▸ h2 ▸ h3 ▸ p
/-- named readings -/
def SAddTN (K : PySem.W.Frag) (P : Program) (w : World) (t : TA) (σ : L2.St) (Q : VK) : VK := fun x H1 => (∃ D L, x = V.ref D ∧ H1 D = some (SetTO P w D L)) ∧ t σ H1 fun xs H2 => rSAddT K P w x xs H2 Q
theorem r_saddT {to : TE} {t : TA} (h : to σ H (SAddTN K P w t σ Q)) : tSAddT K P w to t σ H Q := h
theorem r_saddTN {t : TA} {D : Addr} {qs : List (Int × Int)} (h : SetP P w H D qs) (q : t σ H fun xs H2 => rSAddT K P w (.ref D) xs H2 Q) : SAddTN K P w t σ Q (.ref D) H := by
  obtain ⟨L, hL, _⟩ := h
  exact ⟨⟨D, L, rfl, hL⟩, q⟩
theorem r_saddP {D : Addr} {qs : List (Int × Int)} {y : V} {q : Int × Int} (h : SetP P w H D qs) (hy : IsP H y q) (few : qs.length ≤ 62) (n : ∀ o, SetP P w (upd H D o) D (qs ++ [q]) → Q .non (upd H D o)) : rSAddT K P w (.ref D) [y] H Q := ⟨D, y, rfl, rfl, SetP.add h hy few n⟩
theorem r_inP {neg : Bool} {D : Addr} {qs : List (Int × Int)} {y : V} {q : Int × Int} (h : SetP P w H D qs) (hy : IsP H y q) (c : Q (.bl (xor neg (decide (q ∈ qs)))) H) : rInT K P w neg y (.ref D) H Q := by
  obtain ⟨L, hL, ht, mem, _⟩ := h
  obtain ⟨b, rfl, hb⟩ := hy
  have e : ([q.1, q.2] ∈ L.map fun p : Addr × List Int => p.2) ↔ q ∈ qs := by
    rw [mem]
    constructor
    · rintro ⟨r, hr, e⟩
      injection e with e1 e2
      injection e2 with e2 _
      have : q = r := Prod.ext e1 e2
      exact this ▸ hr
    · exact fun h => ⟨q, h, rfl⟩
  refine ⟨b, D, [q.1, q.2], L, rfl, rfl, .inl (.inl hb), hL, fun p hp => .inl (.inl (ht p hp)), ?_⟩
  rw [show decide ([q.1, q.2] ∈ L.map fun p : Addr × List Int => p.2) = decide (q ∈ qs) from decide_eq_decide.mpr e]
  exact c
end

set_option Elab.async false
set_option linter.all false
set_option maxRecDepth 100000
set_option maxHeartbeats 4000000
/-! # orbits of a map that turns a list around, and the list of them -/
section
variable {α : Type} [DecidableEq α]
def itf (f : α → α) : Nat → α → α
  | 0, a => a
  | k + 1, a => f (itf f k a)
theorem itf_add (f : α → α) (i : Nat) : ∀ (j : Nat) (a : α), itf f (i + j) a = itf f j (itf f i a)
  | 0, a => rfl
  | j + 1, a => by
    show f (itf f (i + j) a) = f (itf f j (itf f i a))
    rw [itf_add f i j a]
/-- f turns A around -/
structure Trn (f : α → α) (A : List α) : Prop where
  nd : A.Nodup
  cl : ∀ a ∈ A, f a ∈ A
  inj : ∀ a ∈ A, ∀ b ∈ A, f a = f b → a = b
variable {f : α → α} {A : List α}
theorem Trn.itf (t : Trn f A) {a : α} (h : a ∈ A) : ∀ k, itf f k a ∈ A
  | 0 => h
  | k + 1 => t.cl _ (Trn.itf t h k)
theorem Trn.cancel (t : Trn f A) {a b : α} (ha : a ∈ A) (hb : b ∈ A) : ∀ k, Z.itf f k a = Z.itf f k b → a = b
  | 0, h => h
  | k + 1, h => Trn.cancel t ha hb k (t.inj _ (t.itf ha k) _ (t.itf hb k) h)
theorem Trn.back (t : Trn f A) {a : α} (h : a ∈ A) : ∃ k, 0 < k ∧ k ≤ A.length ∧ Z.itf f k a = a := by
  refine Classical.byContradiction fun no => ?_
  have nd : ((List.range (A.length + 1)).map fun i => Z.itf f i a).Nodup := by
    rw [List.Nodup, List.pairwise_map]
    refine List.Pairwise.imp_of_mem (R := fun i j => i < j) ?_ List.pairwise_lt_range
    intro i j hi hj lt e
    have h1 := List.mem_range.mp hi
    have h2 := List.mem_range.mp hj
    have e2 : Z.itf f i a = Z.itf f i (Z.itf f (j - i) a) := by
      rw [← itf_add f (j - i) i a, show j - i + i = j by omega]
      exact e
    exact no ⟨j - i, by omega, by omega, (t.cancel h (t.itf h _) i e2).symm⟩
  have := nodup_le _ A nd fun z hz => by
    obtain ⟨i, _, rfl⟩ := List.mem_map.mp hz
    exact t.itf h i
  rw [List.length_map, List.length_range] at this
  omega
/-- the turns that lead back, the fewest -/
theorem Trn.least (t : Trn f A) {a : α} (h : a ∈ A) : ∃ k, (0 < k ∧ k ≤ A.length ∧ Z.itf f k a = a) ∧ ∀ j, 0 < j → j < k → Z.itf f j a ≠ a := by
  obtain ⟨k, hk⟩ := t.back h
  have all : ∀ n k, k ≤ n → (0 < k ∧ k ≤ A.length ∧ Z.itf f k a = a) → ∃ k, (0 < k ∧ k ≤ A.length ∧ Z.itf f k a = a) ∧ ∀ j, 0 < j → j < k → Z.itf f j a ≠ a := fun n => by
    induction n with
    | zero => exact fun k h1 h2 => absurd h2.1 (by omega)
    | succ n ih =>
      intro k h1 h2
      by_cases c : ∃ j, 0 < j ∧ j < k ∧ Z.itf f j a = a
      · obtain ⟨j, j0, j1, e⟩ := c
        exact ih j (by omega) ⟨j0, by omega, e⟩
      · exact ⟨k, h2, fun j j0 j1 e => c ⟨j, j0, j1, e⟩⟩
  exact all k k (Nat.le_refl k) hk
/-- o is the walk around from a -/
def Orb (f : α → α) (a : α) (o : List α) : Prop := ∃ k, 0 < k ∧ o = (List.range k).map (fun i => itf f i a) ∧ itf f k a = a ∧ ∀ j, 0 < j → j < k → itf f j a ≠ a
theorem orb_uniq {a : α} {o p : List α} (h : Orb f a o) (k : Orb f a p) : o = p := by
  obtain ⟨m, m0, rfl, e, l⟩ := h
  obtain ⟨n, n0, rfl, e', l'⟩ := k
  rcases Nat.lt_trichotomy m n with c | c | c
  · exact absurd e (l' m m0 c)
  · rw [c]
  · exact absurd e' (l n n0 c)
theorem Trn.orb (t : Trn f A) {a : α} (h : a ∈ A) : ∃ o, Orb f a o := by
  obtain ⟨k, ⟨k0, _, e⟩, l⟩ := t.least h
  exact ⟨_, k, k0, rfl, e, l⟩
theorem Orb.mem {a : α} {o : List α} (h : Orb f a o) {z : α} : z ∈ o ↔ ∃ j, z = itf f j a := by
  obtain ⟨k, k0, rfl, e, l⟩ := h
  rw [List.mem_map]
  constructor
  · rintro ⟨i, _, rfl⟩
    exact ⟨i, rfl⟩
  · rintro ⟨j, rfl⟩
    have step : ∀ n j, j ≤ n → ∃ i, i ∈ List.range k ∧ itf f i a = itf f j a := fun n => by
      induction n with
      | zero => exact fun j hj => ⟨0, List.mem_range.mpr k0, by rw [Nat.le_zero.mp hj]⟩
      | succ n ih =>
        intro j hj
        by_cases c : j < k
        · exact ⟨j, List.mem_range.mpr c, rfl⟩
        · obtain ⟨i, hi, h⟩ := ih (j - k) (by omega)
          refine ⟨i, hi, h.trans ?_⟩
          have := itf_add f k (j - k) a
          rw [e, show k + (j - k) = j by omega] at this
          exact this.symm
    exact step j j (Nat.le_refl j)
theorem Orb.self {a : α} {o : List α} (h : Orb f a o) : a ∈ o := h.mem.mpr ⟨0, rfl⟩
theorem Orb.sub (t : Trn f A) {a : α} {o : List α} (ha : a ∈ A) (h : Orb f a o) : ∀ z ∈ o, z ∈ A := fun z hz => by
  obtain ⟨j, rfl⟩ := h.mem.mp hz
  exact t.itf ha j
theorem Orb.nodup (t : Trn f A) {a : α} {o : List α} (ha : a ∈ A) (h : Orb f a o) : o.Nodup := by
  obtain ⟨k, k0, rfl, e, l⟩ := h
  rw [List.Nodup, List.pairwise_map]
  refine List.Pairwise.imp_of_mem (R := fun i j => i < j) ?_ List.pairwise_lt_range
  intro i j hi hj lt e1
  have h2 := List.mem_range.mp hj
  have e2 : itf f i a = itf f i (itf f (j - i) a) := by
    rw [← itf_add f (j - i) i a, show j - i + i = j by omega]
    exact e1
  exact l (j - i) (by omega) (by omega) (t.cancel ha (t.itf ha _) i e2).symm
/-- the walk from another place of it has the same members -/
theorem Orb.other {a b : α} {o p : List α} (h : Orb f a o) (k : Orb f b p) (m : b ∈ o) (z : α) : z ∈ p ↔ z ∈ o := by
  obtain ⟨i, rfl⟩ := h.mem.mp m
  rw [k.mem, h.mem]
  constructor
  · rintro ⟨j, rfl⟩
    exact ⟨i + j, (itf_add f i j a).symm⟩
  · rintro ⟨j, rfl⟩
    obtain ⟨n, n0, _, e, _⟩ := h
    have many : ∀ q, itf f (n * q) a = a := fun q => by
      induction q with
      | zero => rfl
      | succ q ih => rw [Nat.mul_succ, itf_add, ih, e]
    refine ⟨n * i - i + j, ?_⟩
    rw [← itf_add]
    have : i ≤ n * i := by
      calc i = 1 * i := (Nat.one_mul i).symm
        _ ≤ n * i := Nat.mul_le_mul_right i n0
    rw [show i + (n * i - i + j) = n * i + j by omega, itf_add, many]
/-- the walks around, each from its first place in the list; what the law does -/
inductive Wks (f : α → α) : List α → List (List α) → Prop
  | nil : Wks f [] []
  | cons {a : α} {l o : List α} {ws : List (List α)} (h : Orb f a o) (t : Wks f ((a :: l).filter fun z => !decide (z ∈ o)) ws) : Wks f (a :: l) (o :: ws)
/-- what the program does -/
inductive Wkp (f : α → α) : List α → List α → List (List α) → Prop
  | nil {pl : List α} : Wkp f pl [] []
  | skip {a : α} {l pl : List α} {ws : List (List α)} (h : a ∈ pl) (t : Wkp f pl l ws) : Wkp f pl (a :: l) ws
  | take {a : α} {l pl o : List α} {ws : List (List α)} (n : a ∉ pl) (h : Orb f a o) (t : Wkp f (pl ++ o) l ws) : Wkp f pl (a :: l) (o :: ws)
theorem wkp_wks {pl l : List α} {ws : List (List α)} (h : Wkp f pl l ws) : Wks f (l.filter fun z => !decide (z ∈ pl)) ws := by
  induction h with
  | nil => exact .nil
  | @skip a l pl ws h t ih =>
    rw [List.filter_cons, if_neg (by simp [h])]
    exact ih
  | @take a l pl o ws n h t ih =>
    rw [List.filter_cons, if_pos (by simp [n])]
    refine .cons h ?_
    have e : (a :: l.filter fun z => !decide (z ∈ pl)).filter (fun z => !decide (z ∈ o)) = l.filter fun z => !decide (z ∈ pl ++ o) := by
      rw [List.filter_cons, if_neg (by simp [h.self]), List.filter_filter]
      refine List.filter_congr fun z _ => ?_
      by_cases h1 : z ∈ pl <;> by_cases h2 : z ∈ o <;> simp [h1, h2]
    rw [e]
    exact ih
theorem wks_uniq {l : List α} {ws vs : List (List α)} (h : Wks f l ws) (k : Wks f l vs) : ws = vs := by
  induction h generalizing vs with
  | nil => cases k; rfl
  | cons h t ih =>
    cases k with
    | cons h' t' =>
      have e := orb_uniq h h'
      subst e
      rw [ih t']
/-- each walk is one, and each place is in one -/
theorem Wks.ok {l : List α} {ws : List (List α)} (h : Wks f l ws) : (∀ o ∈ ws, ∃ a ∈ l, Orb f a o) ∧ ∀ z ∈ l, ∃ o ∈ ws, z ∈ o := by
  induction h with
  | nil => exact ⟨fun o h => (nomatch h), fun z h => (nomatch h)⟩
  | @cons a l o ws h t ih =>
    obtain ⟨h1, h2⟩ := ih
    refine ⟨fun p hp => ?_, fun z hz => ?_⟩
    · rcases List.mem_cons.mp hp with rfl | hp
      · exact ⟨a, List.mem_cons_self, h⟩
      · obtain ⟨b, hb, k⟩ := h1 p hp
        exact ⟨b, (List.mem_filter.mp hb).1, k⟩
    · by_cases c : z ∈ o
      · exact ⟨o, List.mem_cons_self, c⟩
      · obtain ⟨p, hp, k⟩ := h2 z (List.mem_filter.mpr ⟨hz, by simp [c]⟩)
        exact ⟨p, List.mem_cons_of_mem _ hp, k⟩
/-- different walks have nothing in common -/
theorem Wks.dj {l : List α} {ws : List (List α)} (h : Wks f l ws) (t : Trn f A) (s : ∀ z ∈ l, z ∈ A) : ws.Pairwise fun o p => ∀ z ∈ o, z ∉ p := by
  induction h with
  | nil => exact .nil
  | @cons a l o ws h k ih =>
    refine List.pairwise_cons.mpr ⟨fun p hp z hz hzp => ?_, ih fun z hz => s z (List.mem_filter.mp hz).1⟩
    obtain ⟨b, hb, hob⟩ := k.ok.1 p hp
    obtain ⟨hb1, hb2⟩ := List.mem_filter.mp hb
    have nb : b ∉ o := by simpa using hb2
    refine nb ?_
    -- z is in both: so b is in o
    obtain ⟨oz, hz'⟩ := t.orb (h.sub t (s a List.mem_cons_self) z hz)
    have m1 := h.other hz' hz b
    have m2 := hob.other hz' hzp b
    exact m1.mp (m2.mpr hob.self)
/-! ## the walks the other way around -/
theorem back_it {g r : α → α} (t : Trn f A) (c : ∀ x ∈ A, g (r (f x)) = r x) {x : α} (hx : x ∈ A) : ∀ j, itf g j (r (itf f j x)) = r x
  | 0 => rfl
  | j + 1 => by
    have e := itf_add g 1 j (r (itf f (j + 1) x))
    rw [Nat.add_comm 1 j] at e
    rw [e]
    show itf g j (g (r (f (itf f j x)))) = r x
    rw [c _ (t.itf hx j)]
    exact back_it t c hx j
theorem Orb.rev {g r : α → α} (t : Trn f A) (c : ∀ x ∈ A, g (r (f x)) = r x) (ri : ∀ x y, r x = r y → x = y) {a : α} {o : List α} (ha : a ∈ A) (h : Orb f a o) : ∃ p, Orb g (r a) p ∧ ∀ z, z ∈ p ↔ ∃ y ∈ o, z = r y := by
  have h0 := h
  obtain ⟨k, k0, rfl, e, l⟩ := h
  have at' : ∀ j, j ≤ k → itf g j (r a) = r (itf f (k - j) a) := fun j hj => by
    have h1 := back_it t c (t.itf ha (k - j)) j
    rw [← itf_add, show k - j + j = k by omega, e] at h1
    exact h1
  have ho : Orb g (r a) ((List.range k).map fun i => itf g i (r a)) := ⟨k, k0, rfl, by rw [at' k (Nat.le_refl k), Nat.sub_self]; rfl, fun j j0 j1 e1 => by
    rw [at' j (by omega)] at e1
    exact l (k - j) (by omega) (by omega) (ri _ _ e1)⟩
  refine ⟨_, ho, fun z => ⟨fun hz => ?_, ?_⟩⟩
  · obtain ⟨i, hi, rfl⟩ := List.mem_map.mp hz
    have hi := List.mem_range.mp hi
    exact ⟨_, h0.mem.mpr ⟨k - i, rfl⟩, at' i (by omega)⟩
  · rintro ⟨y, hy, rfl⟩
    obtain ⟨i, hi, rfl⟩ := List.mem_map.mp hy
    have hi := List.mem_range.mp hi
    refine ho.mem.mpr ⟨k - i, ?_⟩
    rw [at' (k - i) (by omega), show k - (k - i) = i by omega]
/-- each walk of the one, turned, is one of the other -/
theorem wks_rev {g r : α → α} {B : List α} (t : Trn f A) (u : Trn g B) (c : ∀ x ∈ A, g (r (f x)) = r x) (ri : ∀ x y, r x = r y → x = y) (rB : ∀ x ∈ A, r x ∈ B) {ws vs : List (List α)} (h : Wks f A ws) (k : Wks g B vs) {o : List α} (ho : o ∈ ws) : ∃ p ∈ vs, ∀ z, z ∈ p ↔ ∃ y ∈ o, z = r y := by
  obtain ⟨a, ha, hoa⟩ := h.ok.1 o ho
  obtain ⟨q, hq, mq⟩ := hoa.rev t c ri ha
  obtain ⟨p, hp, m⟩ := k.ok.2 _ (rB a ha)
  obtain ⟨b, hb, hob⟩ := k.ok.1 p hp
  refine ⟨p, hp, fun z => ?_⟩
  rw [← mq]
  exact (hob.other hq m z).symm
end

set_option Elab.async false
set_option linter.all false
set_option maxRecDepth 100000
set_option maxHeartbeats 4000000
/-! # the arrow behind an arrow, by a rotation -/
/-- the one behind u in l, around -/
def sucL (l : List Int) (u : Int) : Int := l.getD ((l.idxOf u + 1) % l.length) 0
theorem getD_at {l : List Int} {i : Nat} (h : i < l.length) : l.getD i 0 = l[i] := by
  rw [List.getD_eq_getElem?_getD, List.getElem?_eq_getElem h]
  rfl
theorem suc_mem {l : List Int} {u : Int} (h : u ∈ l) : sucL l u ∈ l := by
  have h1 := List.length_pos_of_mem h
  unfold sucL
  rw [getD_at (Nat.mod_lt _ h1)]
  exact List.getElem_mem _
theorem idx_get {l : List Int} (nd : l.Nodup) {i : Nat} (h : i < l.length) : l.idxOf l[i] = i := by
  have h1 : l.idxOf l[i] < l.length := List.idxOf_lt_length_of_mem (List.getElem_mem h)
  have h2 : l[l.idxOf l[i]] = l[i] := List.getElem_idxOf h1
  have pw := List.pairwise_iff_getElem.mp nd
  rcases Nat.lt_trichotomy (l.idxOf l[i]) i with c | c | c
  · exact absurd h2 (pw _ _ h1 h c)
  · exact c
  · exact absurd h2.symm (pw _ _ h h1 c)
theorem suc_rev {l : List Int} (nd : l.Nodup) {u : Int} (h : u ∈ l) : sucL l.reverse (sucL l u) = u := by
  obtain ⟨i, hi, rfl⟩ := List.mem_iff_getElem.mp h
  have h1 : (i + 1) % l.length < l.length := Nat.mod_lt _ (by omega)
  have e1 : sucL l l[i] = l[(i + 1) % l.length] := by
    unfold sucL
    rw [idx_get nd hi, getD_at h1]
  have ndr : l.reverse.Nodup := (List.reverse_perm l).nodup_iff.mpr nd
  have hr : l.length - 1 - (i + 1) % l.length < l.reverse.length := by
    rw [List.length_reverse]
    omega
  have e2 : l[(i + 1) % l.length] = l.reverse[l.length - 1 - (i + 1) % l.length] := by
    rw [List.getElem_reverse]
    congr 1
    omega
  rw [e1, e2]
  unfold sucL
  rw [idx_get ndr hr, List.length_reverse]
  have h3 : (l.length - 1 - (i + 1) % l.length + 1) % l.length = l.length - 1 - i := by
    by_cases c : i + 1 < l.length
    · rw [Nat.mod_eq_of_lt c, show l.length - 1 - (i + 1) + 1 = l.length - 1 - i by omega]
      exact Nat.mod_eq_of_lt (by omega)
    · have e : i + 1 = l.length := by omega
      rw [e, Nat.mod_self, show l.length - 1 - 0 + 1 = l.length by omega, Nat.mod_self]
      omega
  rw [h3, getD_at (by rw [List.length_reverse]; omega), List.getElem_reverse]
  congr 1
  omega
theorem suc_inj {l : List Int} (nd : l.Nodup) {u v : Int} (hu : u ∈ l) (hv : v ∈ l) (e : sucL l u = sucL l v) : u = v := by
  rw [← suc_rev nd hu, ← suc_rev nd hv, e]
def nxtR (rot : List (List Int)) (p : Int × Int) : Int × Int := (p.2, sucL (rot.getD p.2.toNat []) p.1)
/-- each vertex's item holds its neighbours, each once -/
structure RotOk (N : Int → Int → Prop) (n : Nat) (rot : List (List Int)) : Prop where
  len : rot.length = n
  nd : ∀ l ∈ rot, l.Nodup
  mem : ∀ (v : Nat) (l : List Int), rot[v]? = some l → ∀ u, u ∈ l ↔ N (v : Int) u
theorem RotOk.item {N : Int → Int → Prop} {n : Nat} {rot : List (List Int)} (r : RotOk N n rot) {v : Int} (h : 0 ≤ v ∧ v < (n : Int)) : ∃ l, rot[v.toNat]? = some l ∧ rot.getD v.toNat [] = l ∧ l.Nodup ∧ ∀ u, u ∈ l ↔ N v u := by
  have hl : v.toNat < rot.length := by
    rw [r.len]
    omega
  have e := List.getElem?_eq_getElem hl
  refine ⟨rot[v.toNat], e, by rw [List.getD_eq_getElem?_getD, e]; rfl, r.nd _ (List.getElem_mem hl), fun u => ?_⟩
  have := r.mem v.toNat _ e u
  rwa [show ((v.toNat : Nat) : Int) = v by omega] at this
theorem RotOk.rev {N : Int → Int → Prop} {n : Nat} {rot : List (List Int)} (r : RotOk N n rot) : RotOk N n (rot.map List.reverse) := by
  refine ⟨by rw [List.length_map]; exact r.len, fun l hl => ?_, fun v l hl u => ?_⟩
  · obtain ⟨m, hm, rfl⟩ := List.mem_map.mp hl
    exact (List.reverse_perm m).nodup_iff.mpr (r.nd m hm)
  · rw [List.getElem?_map] at hl
    obtain ⟨m, hm, rfl⟩ := Option.map_eq_some_iff.mp hl
    rw [List.mem_reverse]
    exact r.mem v m hm u
theorem nxt_trn {N : Int → Int → Prop} {n : Nat} {rot : List (List Int)} {A : List (Int × Int)} (sy : ∀ a b, N a b → N b a) (r : RotOk N n rot) (nd : A.Nodup) (hA : ∀ p, p ∈ A ↔ N p.1 p.2) (bd : ∀ p ∈ A, 0 ≤ p.2 ∧ p.2 < (n : Int)) : Trn (nxtR rot) A := by
  refine ⟨nd, fun p hp => ?_, fun p hp q hq e => ?_⟩
  · obtain ⟨l, _, e, _, m⟩ := r.item (bd p hp)
    refine (hA _).mpr ?_
    show N p.2 (sucL (rot.getD p.2.toNat []) p.1)
    rw [e, ← m]
    exact suc_mem ((m p.1).mpr (sy _ _ ((hA p).mp hp)))
  · have e1 : p.2 = q.2 := congrArg Prod.fst e
    have e2 : sucL (rot.getD p.2.toNat []) p.1 = sucL (rot.getD q.2.toNat []) q.1 := congrArg Prod.snd e
    obtain ⟨l, _, e, nl, m⟩ := r.item (bd p hp)
    rw [← e1, e] at e2
    refine Prod.ext (suc_inj nl ((m p.1).mpr (sy _ _ ((hA p).mp hp))) ((m q.1).mpr ?_) e2) e1
    rw [e1]
    exact sy _ _ ((hA q).mp hq)
def swP (p : Int × Int) : Int × Int := (p.2, p.1)
theorem nxt_rev {N : Int → Int → Prop} {n : Nat} {rot : List (List Int)} {A : List (Int × Int)} (sy : ∀ a b, N a b → N b a) (r : RotOk N n rot) (hA : ∀ p, p ∈ A ↔ N p.1 p.2) (bd : ∀ p ∈ A, 0 ≤ p.2 ∧ p.2 < (n : Int)) : ∀ p ∈ A, nxtR (rot.map List.reverse) (swP (nxtR rot p)) = swP p := fun p hp => by
  obtain ⟨l, hl, e, nl, m⟩ := r.item (bd p hp)
  have e' : (rot.map List.reverse).getD p.2.toNat [] = l.reverse := by
    rw [List.getD_eq_getElem?_getD, List.getElem?_map, hl]
    rfl
  show (p.2, sucL ((rot.map List.reverse).getD p.2.toNat []) (sucL (rot.getD p.2.toNat []) p.1)) = (p.2, p.1)
  rw [e, e', suc_rev nl ((m p.1).mpr (sy _ _ ((hA p).mp hp)))]

set_option Elab.async false
set_option linter.all false
set_option maxRecDepth 100000
set_option maxHeartbeats 4000000
open PySem PySem.Spec PyProof.Rows L2
/-! # t[::-1] of a tuple -/
section
variable {prog : Program} {w : World} {A : Around} {E : Value → Shared → Prop} {s : Shared}
theorem rev_adjust (n : Nat) : Builtin.Slice.sliceAdjust none none (-1) (n : Int) = ((n : Int) - 1, -1) := by
  unfold Builtin.Slice.sliceAdjust
  simp
theorem rev_places (n : Nat) : Builtin.Slice.slicePlaces ((n : Int) - 1) (-1) (-1) = n := by
  unfold Builtin.Slice.slicePlaces
  rw [if_neg (by decide)]
  by_cases c : (n : Int) - 1 > -1
  · rw [if_pos c, show -(-1 : Int) = 1 from rfl, Int.ediv_one]
    omega
  · rw [if_neg c]
    show 0 = n
    omega
theorem rev_applied {sl : Addr} {vl vu vs : Value} {n : Nat} {Q : Int × Int × Nat → Shared → Prop} (hs : s.heap.IsSliceOf sl vl vu vs) (pl : IsPart vl none) (pu : IsPart vu none) (ps : IsPart vs (some (-1)))
    (h : Q ((n : Int) - 1, -1, n) s) : wpAny (model prog w) A (Builtin.Slice.sliceApplied (.ref sl) (pure (n : Int))) Q E s := by
  obtain ⟨os, hos, hcs, hds⟩ := id hs
  unfold Builtin.Slice.sliceApplied Builtin.Slice.sliceFields
  refine wpAny_bind (wpAny_bind (wpAny_field hos hds (x := vl) rfl (wpAny_bind (wpAny_field hos hds (x := vu) rfl (wpAny_bind (wpAny_field hos hds (x := vs) rfl (wpAny_pure ?_)))))))
  refine wpAny_bind (HT.slicePart_ ps ?_)
  show wpAny _ _ (if ((-1 : Int) == 0) = true then _ else _) _ _ s
  rw [if_neg (by decide)]
  refine wpAny_bind (HT.slicePart_ pl (wpAny_bind (HT.slicePart_ pu (wpAny_bind (wpAny_pure ?_)))))
  show wpAny _ _ (match Builtin.Slice.sliceAdjust none none (-1) (n : Int) with | (lo, hi) => pure (lo, (-1 : Int), Builtin.Slice.slicePlaces lo hi (-1))) _ _ s
  rw [rev_adjust]
  show wpAny _ _ (pure ((n : Int) - 1, (-1 : Int), Builtin.Slice.slicePlaces ((n : Int) - 1) (-1) (-1))) _ _ s
  rw [rev_places]
  exact wpAny_pure h
theorem rev_pick (xs : Array Value) : ((List.range xs.size).filterMap fun (k : Nat) => xs[(((xs.size : Nat) : Int) - 1 + (k : Int) * (-1)).toNat]?).toArray = xs.toList.reverse.toArray := by
  have e : (fun (k : Nat) => xs[(((xs.size : Nat) : Int) - 1 + (k : Int) * (-1)).toNat]?) = fun k => xs[xs.size - 1 - k]? := by
    funext k
    congr 1
    omega
  rw [e]
  congr 1
  refine List.ext_getElem? fun i => ?_
  have len : ∀ n, n ≤ xs.size → ((List.range n).filterMap fun k => xs[xs.size - 1 - k]?) = xs.toList.reverse.take n := fun n => by
    induction n with
    | zero => exact fun _ => rfl
    | succ n ih =>
      intro hn
      have h1 : xs[xs.size - 1 - n]? = some xs[xs.size - 1 - n] := Array.getElem?_eq_getElem (by omega)
      have h2 : xs.toList.reverse[n]? = some xs[xs.size - 1 - n] := by
        rw [List.getElem?_reverse (by rw [Array.length_toList]; omega), Array.length_toList, ← h1]
        simp
      rw [List.range_succ, List.filterMap_append, ih (by omega), take_next h2]
      congr 1
      simp only [List.filterMap_cons, List.filterMap_nil, h1]
  rw [len xs.size (Nat.le_refl _), List.take_of_length_le (by rw [List.length_reverse, Array.length_toList]; exact Nat.le_refl _)]
open HT in
theorem getItem_rev {t sl : Addr} {items : Array Value} {vl vu vs : Value} {Q : Value → Shared → Prop} (ht : IsTup s.heap t items) (hs : s.heap.IsSliceOf sl vl vu vs) (pl : IsPart vl none) (pu : IsPart vu none) (ps : IsPart vs (some (-1)))
    (h : Q (.ref s.heap.objs.size) { s with heap := s.heap.push { cls := .type "tuple", data := .seq items.toList.reverse.toArray } }) (hsz : items.size ≤ sizeLine) : wpAny (model prog w) A (getItem (.ref t) (.ref sl)) Q E s := by
  have hz : sizeOk (.seq items.toList.reverse.toArray) := by
    show items.toList.reverse.toArray.size ≤ sizeLine
    rw [List.size_toArray, List.length_reverse, Array.length_toList]
    exact hsz
  obtain ⟨os, hos, hcs, hds⟩ := id hs
  have hTs : s.TypeIs (.ref sl) "slice" := ⟨os, hos, hcs⟩
  unfold getItem
  try with_reducible refine wpAny_holding ?_
  first | refine wpAny_bind (wpAny_pure ?_) | skip
  refine wpAny_bind (wpAny_sequenceKey ht.typeIs (by decide) ?_)
  refine wpAny_bind (wpAny_callSpecial?_slot (name := Str.ofString "__getitem__") ht.typeIs PyProof.Rows.slot_tuple_getitem
    (wpAny_call_entry PyProof.Rows.slot_tuple_getitem ht.typeIs entry_tuple_getitem ?_ (args_tuple_getitem _ _)))
  show wpAny _ _ (Builtin.Tuple.tupleItemsOf (.ref t) >>= _) _ _ s
  refine wpAny_bind (tupleItemsOf_ ht ?_)
  refine wpAny_bind (wpAny_typeOf hTs ?_)
  rw [if_pos (by decide)]
  refine wpAny_bind (rev_applied hs pl pu ps ?_)
  show wpAny _ _ (if (((items.size : Int) - 1 == 0) && ((-1 : Int) == 1) && (items.size == items.size)) = true then _ else _) _ _ s
  rw [if_neg (by simp), rev_pick]
  first
    | exact wpAny_bind (m := Builtin.Tuple.tupleExact _) (wpAny_newObj_type (wpAny_pure ⟨_, rfl, wpAny_pure h⟩) hz)
    | exact wpAny_bind (m := Builtin.Tuple.tupleExact _) (wpAny_newObj_type (wpAny_bind (wpAny_pure (wpAny_pure ⟨_, rfl, wpAny_pure h⟩))) hz)
    | exact wpAny_bind (wpAny_bind (m := Builtin.Tuple.tupleExact _) (wpAny_newObj_type (wpAny_pure (wpAny_pure ⟨_, rfl, wpAny_pure h⟩)) hz))
    | exact wpAny_bind (wpAny_bind (m := Builtin.Tuple.tupleExact _) (wpAny_newObj_type (wpAny_pure ⟨_, rfl, wpAny_pure h⟩) hz))
end
section
variable {X : Cx} {K : PySem.W.Frag} {σ : L2.St} {H : Hp} {Q : VK}
def RevTN (K : PySem.W.Frag) (Q : VK) : VK := fun x H1 => ∃ a xs, x = V.ref a ∧ SqT K H1 a xs ∧ ∀ (p : Addr) (o : Obj), H1 p = none → o.dict = none → Q (.ref p) (upd H1 p (.frz o (.tup xs.reverse)))
def tRevT (K : PySem.W.Frag) (te : TE) : TE := fun σ H Q => te σ H (RevTN K Q)
theorem pe_revT {e : Expr} {te : TE} {k : Nat} {p1 p2 p3 pos : Pos} (he : PE X e te) : PE X (.Subscript e (.Slice none none (some (.UnaryOp .USub (.Constant (.int 1) k p1) p2)) p3) pos) (tRevT X.K te) := by
  refine ⟨fun pins s σ H Q I h => ?_⟩
  refine Subscript_ (thn (he.run pins s σ H _ I h) fun v s1 z => ?_)
  obtain ⟨x, H1, I1, r1, a, xs, ex, hx, q⟩ := z
  subst ex
  cases r1
  have hst : PO X (some (.UnaryOp .USub (.Constant (.int 1) k p1) p2)) (tPart (tUn (rU fun i => .int (-i)) (tC (.int 1)))) := po_some (pe_un un_neg pe_int)
  refine wpAny_Slice (thn (po_none.run pins s1 σ H1 (fun o H2 => o = none ∧ H2 = H1) I1 ⟨rfl, rfl⟩) fun vl s2 ⟨l, H2, I2, pl, el, e2⟩ => ?_)
  subst el e2
  refine thn (po_none.run pins s2 σ H2 (fun o H3 => o = none ∧ H3 = H2) I2 ⟨rfl, rfl⟩) fun vu s3 ⟨u, H3, I3, pu, eu, e3⟩ => ?_
  subst eu e3
  refine thn (hst.run pins s3 σ H3 (fun o H4 => o = some (-1) ∧ H4 = H3) I3 ⟨1, rfl, -1, rfl, rfl, rfl⟩) fun vs s4 ⟨o, H4, I4, ps, eo, e4⟩ => ?_
  subst eo e4
  have I5 : Inv X pins σ H4 { s4 with heap := s4.heap.push { cls := .type "slice", data := .fields #[vl, vu, vs] } } := I4.kept (t' := s4.toks) fun b ob q => Heap.get?_push_of_some _ q
  obtain ⟨its, r, ht, hz⟩ := I5.tuple hx
  have hlen := r.length
  show wpAny (model X.prog X.w) X.A (subscriptTail e (.Slice none none (some (.UnaryOp .USub (.Constant (.int 1) k p1) p2)) p3) (.ref a) (.ref s4.heap.objs.size)) (EP X pins σ Q) X.xe { s4 with heap := s4.heap.push { cls := .type "slice", data := .fields #[vl, vu, vs] } }
  refine tail_any (ops := [.ref a, .ref s4.heap.objs.size]) ht.typeIs (PyProof.Rows.slot_tuple_getitem.lookup) ?_ (by with_unfolding_all rfl)
  refine getItem_rev ht (Heap.IsSliceOf.new _ vl vu vs) pl pu ps ?_ (by rw [List.size_toArray]; omega)
  refine ⟨.ref _, _, I5.laid (t' := s4.toks) (o := .frz { cls := .type "tuple", data := .seq its.toArray.toList.reverse.toArray } (.tup xs.reverse)) (fun b ob q => Heap.get?_push_of_some _ q) (Nat.le_refl _) ?_, rfl, q _ _ (I5.hok.fresh (Nat.le_refl _)) rfl⟩
  exact ⟨Heap.get?_push_size _ rfl, by rw [List.length_reverse]; exact hz, _, r.reverse, IsTup.new _ _⟩
theorem PE.revTK {f : Expr} {te : TE} (h : X.K = K) (p : PE X f (tRevT X.K te)) : PE X f (tRevT K te) := h ▸ p
theorem PE.revLK {f : Expr} {te : TE} (h : X.K = K) (p : PE X f (tRevL X.K te)) : PE X f (tRevL K te) := h ▸ p
def RevLN (K : PySem.W.Frag) (Q : VK) : VK := fun x H1 => ∃ a xs, x = V.ref a ∧ SqL K H1 a xs ∧ ∀ p, H1 p = none → Q (.ref p) (upd H1 p (.lst xs.reverse))
theorem r_revT {te : TE} (h : te σ H (RevTN K Q)) : tRevT K te σ H Q := h
theorem r_revL {te : TE} (h : te σ H (RevLN K Q)) : tRevL K te σ H Q := h
theorem r_revTN {a : Addr} {xs : List V} (h : SqT K H a xs) (q : ∀ (p : Addr) (o : Obj), H p = none → o.dict = none → Q (.ref p) (upd H p (.frz o (.tup xs.reverse)))) : RevTN K Q (.ref a) H := ⟨a, xs, rfl, h, q⟩
theorem r_revLN {a : Addr} {xs : List V} (h : SqL K H a xs) (q : ∀ p, H p = none → Q (.ref p) (upd H p (.lst xs.reverse))) : RevLN K Q (.ref a) H := ⟨a, xs, rfl, h, q⟩
end

set_option Elab.async false
set_option linter.all false
set_option maxRecDepth 100000
set_option maxHeartbeats 4000000
open PySem PySem.Spec PySem.W PySem.Calls PyProof.Rows L2
/-! # sorted of a tuple of data -/
section
variable {prog : Program} {w : World} {A : Around} {E : Value → Shared → Prop} {s : Shared}
theorem collect_tup {l : Addr} {vs : List Value} {Q : List Value → Shared → Prop} (hl : IsTup s.heap l vs.toArray)
    (h : Q vs { s with heap := (s.heap.push (seqObj "list" #[] 0)).update s.heap.objs.size (Obj.mapSeq (· ++ vs.toArray)) }) (hsz : vs.length ≤ sizeLine) :
    wpAny (model prog w) A (collect (.ref l)) Q E s := by
  obtain ⟨o, ho, hc, n, hd⟩ := id hl
  unfold collect
  refine wpAny_bind (wpAny_runValue (codeAny_builtin entry_proto_collect' ?_))
  show wpAny _ _ (do again (.builtin "list.__iadd__" ⟨[← newList [], .ref l], []⟩)) _ _ s
  refine wpAny_bind (wpAny_newList (wpAny_pure ⟨Code.quiet_builtin _ (by decide +kernel), codeAny_builtin entry_list_iadd' ?_⟩))
  show wpAny _ _ (Builtin.List.listExtendWith (.ref s.heap.objs.size) (.ref l) (.ref s.heap.objs.size)) _ _ { s with heap := s.heap.push (seqObj "list" #[] 0) }
  unfold Builtin.List.listExtendWith
  have ho' : (s.heap.push (seqObj "list" #[] 0)).get? l = some o := Heap.get?_push_of_some _ ho
  refine wpAny_bind (wpAny_typeOf (T := "tuple") ⟨o, ho', hc⟩ ?_)
  have ht : (Value.type "tuple" == Value.type "tuple") = true := by rfl
  rw [if_pos (by rw [ht]; simp)]
  refine wpAny_bind (listItems_at ho' hd ?_)
  refine wpAny_bind (listItems_at (xs := #[]) (n := 0) (Heap.get?_push_size _ rfl) rfl ?_)
  rw [if_neg (by simp)]
  refine wpAny_bind (listUpdate_at (xs := #[]) (n := 0) (Heap.get?_push_size _ rfl) rfl ?_ (Nat.zero_le _) (by show (#[] ++ vs.toArray).size ≤ sizeLine + 1; simp only [Array.size_append, List.size_toArray, List.length_nil]; omega))
  refine wpAny_pure ?_
  show wpAny (model prog w) A (do
      let o ← load s.heap.objs.size
      match o.data with
      | .seq xs _ => pure xs.toList
      | _ => unsupported "internal:collect") Q E { s with heap := (s.heap.push (seqObj "list" #[] 0)).update s.heap.objs.size (Obj.mapSeq (· ++ vs.toArray)) }
  refine wpAny_bind (wpAny_load (get?_update_seq (Heap.get?_push_size _ rfl) _) ?_)
  show wpAny _ _ (pure ((#[] : Array Value) ++ vs.toArray).toList) Q E _
  rw [show ((#[] : Array Value) ++ vs.toArray).toList = vs by simp]
  exact wpAny_pure h
theorem sorted_of_sortT {l : Addr} {vs : List Value} {Q : Value → Shared → Prop} (hl : IsTup s.heap l vs.toArray) (hL : vs.length ≤ sizeLine)
    (body : ∀ E' : Value → Shared → Prop, wpAny (model prog w) A.in1.in1 (Builtin.«list.sort» ⟨[.ref (s.heap.objs.size + 1)], []⟩) (fun f s' => f = .done (.ret .none) ∧ Q (.ref (s.heap.objs.size + 1)) s') E' { s with heap := copyHeap s.heap vs }) :
    wpAny (model prog w) A (call (.builtin "sorted") [.ref l]) Q E s := by
  refine call_function_entry_kw kind_sorted plain_sorted entry_sorted (args_sorted1 _) ?_
  unfold Builtin.«sorted»
  refine wpAny_bind (m := checkCount "sorted" 1 1 _) (wpAny_pure ?_)
  refine wpAny_bind (collect_tup hl ?_ hL)
  refine wpAny_bind (wpAny_newList ?_ hL)
  have hsz : ((s.heap.push (seqObj "list" #[] 0)).update s.heap.objs.size (Obj.mapSeq (· ++ vs.toArray))).objs.size = s.heap.objs.size + 1 := by
    rw [Heap.size_update, size_push']
  show wpAny _ _ _ _ _ { s with heap := copyHeap s.heap vs }
  rw [hsz]
  refine wpAny_bind (wpAny_holding (wpAny_call_entry_kw slot_list_sort ⟨_, copyHeap_at s.heap vs, rfl⟩ entry_list_sort ?body (args_list_sort _)))
  case body =>
    show wpAny (model prog w) A.in1.in1 (Builtin.«list.sort» ⟨[.ref (s.heap.objs.size + 1)], []⟩) _ _ _
    refine wpAny_mono (body _) (fun f s' hf => ?_) fun _ _ e => e
    obtain ⟨rfl, hq⟩ := hf
    exact ⟨_, rfl, wpAny_pure ⟨_, rfl, hq⟩⟩
theorem sorted_dataT {β : Type} {R : Value → β → Prop} {enc : β → PyData} {vs : List Value} {bs : List β} {l : Addr} {Q : Value → Shared → Prop} (hl : IsTup s.heap l vs.toArray) (e : EachIs R vs bs) (er : EachIs (fun v b => ∃ as, Reads s.heap v (enc b) as) vs bs) (hal : AllAlike (bs.map enc)) (hk : Sortable (bs.map enc)) (hL : bs.length ≤ sizeLine)
    (hu : ∀ b, b ∈ bs → A.units + 2 + (enc b).depth < cLine) (h : ∀ out, out.length = bs.length → EachIs R out (bs.mergeSort (dataLe false enc)) → Q (.ref (s.heap.objs.size + 1)) { s with heap := sortedAll s.heap vs (List.toArray out) }) :
    wpAny (model prog w) A (call (.builtin "sorted") [.ref l]) Q E s := by
  have er' : EachIs (fun v b => ∃ as, Reads (sortingHeap (copyHeap s.heap vs) (s.heap.objs.size + 1) vs) v (enc b) as) vs bs := er.mono fun _ _ ⟨as, r⟩ => ⟨as, PyProof.Rows.Reads.keeps (fun _ _ => sorting_copy_old) r⟩
  have lv : vs.length ≤ sizeLine := by
    rw [e.length]
    exact hL
  exact sorted_of_sortT hl lv fun _ => list_sort_vals (s := { s with heap := copyHeap s.heap vs }) (copyHeap_at s.heap vs) (SortsAt.data (s := { s with heap := sortingHeap (copyHeap s.heap vs) (s.heap.objs.size + 1) vs }) (each_map (R := fun v d => ∃ as, Reads (sortingHeap (copyHeap s.heap vs) (s.heap.objs.size + 1) vs) v d as) enc er') hal hk (bound_map hu)) lv ⟨rfl, h _ (by rw [sortVals_length false rfl]; exact e.length) (sortVals_data false e er' hal)⟩
end
/-- sorted of a tuple -/
def rSortDT (K : PySem.W.Frag) : List V → Hp → VK → Prop := fun vs H Q => ∃ (a : Addr) (xs : List V) (ds : List PyData), vs = [.ref a] ∧ SqT K H a xs ∧ DpAll K H xs ds ∧ AllAlike ds ∧ Sortable ds ∧ PyData.depthAll ds ≤ 60 ∧
  ∀ (ys : List V) (es : List PyData) (p : Addr), (ys.zip es).Perm (xs.zip ds) → ys.length = es.length → ys.Perm xs → es.Perm ds → DpAll K H ys es → es.Pairwise (fun d e => dataLt e d = false) → H p = none → Q (.ref p) (upd H p (.lst ys))
section
variable {X : Cx}
theorem cr_sortDT (hu : X.A.units + 64 < cLine) : CallR X (.builtin "sorted") (rSortDT X.K) := by
  intro pins s σ H vs us Q I r h
  obtain ⟨a, xs, ds, rfl, hl, hd, al, sb, dep, q⟩ := h
  rw [Vals.ref1 r]
  obtain ⟨its, rv, hL, hz⟩ := I.tuple hl
  obtain ⟨e1, e2⟩ := each_of I rv hd
  have es := zip_snd hd
  have lz : (xs.zip ds).length = xs.length := by
    have := dp_len hd
    rw [List.length_zip]
    omega
  refine sorted_dataT (enc := Prod.snd) hL e1 e2 (by rw [es]; exact al) (by rw [es]; exact sb) (by rw [lz]; exact hz) (fun b hb => ?_) fun out lo ho => ?_
  · have := deep_mem (ds := ds) (d := b.2) (by rw [← es]; exact List.mem_map.mpr ⟨b, hb, rfl⟩)
    show X.A.units + 2 + b.2.depth < cLine
    generalize b.2.depth = k at this ⊢
    omega
  · have pm : ((xs.zip ds).mergeSort (dataLe false Prod.snd)).Perm (xs.zip ds) := List.mergeSort_perm _ _
    have pw : ((xs.zip ds).mergeSort (dataLe false Prod.snd)).Pairwise (fun a b => dataLe false Prod.snd a b = true) := List.pairwise_mergeSort (fun a b c h1 h2 => by
      rw [dataLe_eq] at *
      exact dLe_trans _ _ _ h1 h2) (fun a b => by
      rw [dataLe_eq]
      exact dLe_total _ _) _
    have hv := vals_each ho
    generalize (xs.zip ds).mergeSort (dataLe false Prod.snd) = bs at pm pw hv
    have p1 : (bs.map Prod.fst).Perm xs := by
      have z := pm.map Prod.fst
      have l2 : ds.length = xs.length := by rw [← es, List.length_map, lz]
      rwa [List.map_fst_zip (by omega)] at z
    have p2 : (bs.map Prod.snd).Perm ds := by
      have z := pm.map Prod.snd
      rwa [es] at z
    obtain ⟨n, hn⟩ := sortedAll_at s.heap its out.toArray
    refine ⟨.ref (s.heap.objs.size + 1), upd H (s.heap.objs.size + 1) (.lst (bs.map Prod.fst)), I.laid (t' := s.toks) (fun b o e => sortedAll_old e) (Nat.le_succ _) ⟨?_, out, n, hv, hn⟩, rfl, q _ (bs.map Prod.snd) _ (by rw [zip_back]; exact pm) (by rw [List.length_map, List.length_map]) p1 p2 (dp_zip fun b hb => zip_dp hd b (pm.mem_iff.mp hb)) ?_ (I.hok.fresh (Nat.le_succ _))⟩
    · rw [p1.length_eq]
      exact hz
    · refine List.pairwise_map.mpr (pw.imp fun {a b} h => ?_)
      rw [dataLe_eq] at h
      have h : (!dataLt b.2 a.2) = true := h
      rwa [Bool.not_eq_true'] at h
theorem cr_sortDTK {K : PySem.W.Frag} (h : X.K = K) (hu : X.A.units + 64 < cLine) : CallR X (.builtin "sorted") (rSortDT K) := h ▸ cr_sortDT hu
end
/-! # one sorted list alone -/
/-- data that their signs tell apart -/
def Told (ds : List PyData) : Prop := ∀ d ∈ ds, ∀ e ∈ ds, keyToks d = keyToks e → d = e
theorem perm_sorted_eq {α : Type} {lt : α → α → Prop} : ∀ {xs ys : List α}, xs.Perm ys → xs.Pairwise lt → ys.Pairwise lt → (∀ a ∈ xs, ∀ b ∈ xs, lt a b → lt b a → a = b) → xs = ys
  | [], ys, p, _, _, _ => (List.Perm.nil_eq p)
  | x :: xs, [], p, _, _, _ => absurd p.length_eq (by simp)
  | x :: xs, y :: ys, p, h1, h2, an => by
    have e : x = y := by
      have mx : x ∈ y :: ys := p.mem_iff.mp List.mem_cons_self
      have my : y ∈ x :: xs := p.mem_iff.mpr List.mem_cons_self
      rcases List.mem_cons.mp mx with h | h
      · exact h
      · rcases List.mem_cons.mp my with h' | h'
        · exact h'.symm
        · exact an x List.mem_cons_self y my ((List.pairwise_cons.mp h1).1 y h') ((List.pairwise_cons.mp h2).1 x h)
    subst e
    rw [perm_sorted_eq (List.Perm.cons_inv p) (List.pairwise_cons.mp h1).2 (List.pairwise_cons.mp h2).2 fun a ha b hb => an a (List.mem_cons_of_mem _ ha) b (List.mem_cons_of_mem _ hb)]
theorem sortedD_uniq {ds es : List PyData} (p : ds.Perm es) (t : Told ds) (h1 : ds.Pairwise (fun d e => dataLt e d = false)) (h2 : es.Pairwise (fun d e => dataLt e d = false)) : ds = es :=
  perm_sorted_eq p h1 h2 fun a ha b hb x y => t a ha b hb (lex_total (O := itemOrd) _ _ y x)

set_option Elab.async false
set_option linter.all false
set_option maxRecDepth 100000
set_option maxHeartbeats 4000000
/-! # decompositions -/
theorem con_map {R R' : Int → Int → Prop} {f : Int → Int} (h : ∀ a b, R a b → f a = f b ∨ R' (f a) (f b)) {a b : Int} (c : Con R a b) : Con R' (f a) (f b) := by
  induction c with
  | refl => exact .refl
  | step c r ih =>
    rcases h _ _ r with e | r'
    · rw [← e]
      exact ih
    · exact .step ih r'
theorem con_mono {R R' : Int → Int → Prop} (h : ∀ a b, R a b → R' a b) {a b : Int} (c : Con R a b) : Con R' a b := con_map (f := id) (fun a b r => .inr (h a b r)) c
/-- linked, both in S -/
def RL (S : Int → Prop) (L : List (Int × Int)) (a b : Int) : Prop := S a ∧ S b ∧ ((a, b) ∈ L ∨ (b, a) ∈ L)
theorem RL.symm {S : Int → Prop} {L : List (Int × Int)} (a b : Int) (h : RL S L a b) : RL S L b a := ⟨h.2.1, h.1, h.2.2.symm⟩
/-- more of those that no links join, than there are vertices without links -/
theorem reps (V : List Int) (nd : V.Nodup) : ∀ L : List (Int × Int), ∃ R : List Int, R.Nodup ∧ (∀ r ∈ R, r ∈ V) ∧ V.length ≤ R.length + L.length ∧ ∀ a ∈ R, ∀ b ∈ R, Con (fun x y => (x, y) ∈ L ∨ (y, x) ∈ L) a b → a = b
  | [] => ⟨V, nd, fun _ h => h, Nat.le_refl _, fun a _ b _ c => by
    cases c with
    | refl => rfl
    | step _ r => rcases r with r | r <;> cases r⟩
  | (p, q) :: L => by
    obtain ⟨R, nR, sub, len, ap⟩ := reps V nd L
    let C := Con (fun x y => (x, y) ∈ L ∨ (y, x) ∈ L)
    have sy : ∀ {x y}, C x y → C y x := fun h => h.symm fun a b r => r.symm
    have tr : ∀ {x y z}, C x y → C y z → C x z := fun h k => h.trans k
    have split : ∀ {x y}, Con (fun x y => (x, y) ∈ (p, q) :: L ∨ (y, x) ∈ (p, q) :: L) x y → C x y ∨ (C x p ∧ C q y) ∨ (C x q ∧ C p y) := fun {x y} c => by
      induction c with
      | refl => exact .inl .refl
      | @step a b c r ih =>
        have r' : (a = p ∧ b = q) ∨ (a = q ∧ b = p) ∨ ((a, b) ∈ L ∨ (b, a) ∈ L) := by
          rcases r with r | r
          · rcases List.mem_cons.mp r with e | e
            · exact .inl ⟨congrArg Prod.fst e, congrArg Prod.snd e⟩
            · exact .inr (.inr (.inl e))
          · rcases List.mem_cons.mp r with e | e
            · exact .inr (.inl ⟨congrArg Prod.snd e, congrArg Prod.fst e⟩)
            · exact .inr (.inr (.inr e))
        rcases r' with ⟨rfl, rfl⟩ | ⟨rfl, rfl⟩ | r'
        · rcases ih with h | ⟨h, k⟩ | ⟨h, k⟩
          · exact .inr (.inl ⟨h, .refl⟩)
          · exact .inr (.inl ⟨h, .refl⟩)
          · exact .inl h
        · rcases ih with h | ⟨h, k⟩ | ⟨h, k⟩
          · exact .inr (.inr ⟨h, .refl⟩)
          · exact .inl h
          · exact .inr (.inr ⟨h, .refl⟩)
        · rcases ih with h | ⟨h, k⟩ | ⟨h, k⟩
          · exact .inl (.step h r')
          · exact .inr (.inl ⟨h, .step k r'⟩)
          · exact .inr (.inr ⟨h, .step k r'⟩)
    by_cases h : ∃ r ∈ R, C r p
    · obtain ⟨r, hr, rp⟩ := h
      refine ⟨R.erase r, nR.erase r, fun z hz => sub z (List.mem_of_mem_erase hz), ?_, fun a ha b hb c => ?_⟩
      · rw [List.length_erase_of_mem hr]
        have := List.length_pos_of_mem hr
        simp only [List.length_cons]
        omega
      · obtain ⟨ha1, ha2⟩ := (nR.mem_erase_iff).mp ha
        obtain ⟨hb1, hb2⟩ := (nR.mem_erase_iff).mp hb
        rcases split c with k | ⟨k1, k2⟩ | ⟨k1, k2⟩
        · exact ap a ha2 b hb2 k
        · exact absurd (ap a ha2 r hr (tr k1 (sy rp))) ha1
        · exact absurd (ap b hb2 r hr (tr (sy k2) (sy rp))) hb1
    · refine ⟨R, nR, sub, by simp only [List.length_cons]; omega, fun a ha b hb c => ?_⟩
      rcases split c with k | ⟨k1, k2⟩ | ⟨k1, k2⟩
      · exact ap a ha b hb k
      · exact absurd ⟨a, ha, k1⟩ h
      · exact absurd ⟨b, hb, sy k2⟩ h
/-- what is connected has links enough -/
theorem conn_len {V : List Int} (nd : V.Nodup) {L : List (Int × Int)} (h : ∀ a ∈ V, ∀ b ∈ V, Con (fun x y => (x, y) ∈ L ∨ (y, x) ∈ L) a b) : V.length ≤ L.length + 1 := by
  obtain ⟨R, nR, sub, len, ap⟩ := reps V nd L
  have : R.length ≤ 1 := by
    match R, nR, sub, ap with
    | [], _, _, _ => exact Nat.zero_le _
    | [_], _, _, _ => exact Nat.le_refl _
    | a :: b :: r, nR, sub, ap =>
      have e := ap a List.mem_cons_self b (List.mem_cons_of_mem _ List.mem_cons_self) (h a (sub a List.mem_cons_self) b (sub b (List.mem_cons_of_mem _ List.mem_cons_self)))
      exact absurd e ((List.pairwise_cons.mp nR).1 b List.mem_cons_self)
  omega
theorem nodup_rg (m : Nat) : ((List.range m).map fun (i : Nat) => (i : Int)).Nodup := by
  rw [List.Nodup, List.pairwise_map]
  exact List.nodup_range.imp fun {i j} h e => h (by have e2 : (i : Int) = (j : Int) := e; omega)
/-- one of a list twice: fewer do -/
theorem dup_less {α : Type} [DecidableEq α] : ∀ {l : List α}, ¬ l.Nodup → ∃ k : List α, k.length < l.length ∧ ∀ z, z ∈ l → z ∈ k
  | [], h => absurd .nil h
  | a :: l, h => by
    by_cases c : a ∈ l
    · exact ⟨l, Nat.lt_succ_self _, fun z hz => by
        rcases List.mem_cons.mp hz with e | e
        · rw [e]; exact c
        · exact e⟩
    · have : ¬ l.Nodup := fun n => h (List.nodup_cons.mpr ⟨c, n⟩)
      obtain ⟨k, lk, mk⟩ := dup_less this
      refine ⟨a :: k, by simp only [List.length_cons]; omega, fun z hz => ?_⟩
      rcases List.mem_cons.mp hz with e | e
      · rw [e]; exact List.mem_cons_self
      · exact List.mem_cons_of_mem _ (mk z e)
def nodeI (m : Nat) (i : Int) : Prop := 0 ≤ i ∧ i < (m : Int)
def bagAt (bags : List (List Int)) (i : Int) : List Int := bags.getD i.toNat []
def hasV (bags : List (List Int)) (v : Int) (i : Int) : Prop := nodeI bags.length i ∧ v ∈ bagAt bags i
theorem bag_mem {bags : List (List Int)} {i : Int} (h : nodeI bags.length i) : bagAt bags i ∈ bags := by
  unfold bagAt nodeI at *
  have hl : i.toNat < bags.length := by omega
  rw [List.getD_eq_getElem?_getD, List.getElem?_eq_getElem hl]
  exact List.getElem_mem hl
theorem bag_get {bags : List (List Int)} {i : Int} (h : nodeI bags.length i) : bags[i.toNat]? = some (bagAt bags i) := by
  unfold bagAt nodeI at *
  have hl : i.toNat < bags.length := by omega
  rw [List.getD_eq_getElem?_getD, List.getElem?_eq_getElem hl]
  rfl
theorem bag_of {bags : List (List Int)} {k : Nat} {b : List Int} (h : bags[k]? = some b) : bagAt bags (k : Int) = b := by
  unfold bagAt
  rw [List.getD_eq_getElem?_getD, show ((k : Int)).toNat = k by omega, h]
  rfl
theorem mem_bag {bags : List (List Int)} {b : List Int} (h : b ∈ bags) : ∃ i, nodeI bags.length i ∧ bagAt bags i = b := by
  obtain ⟨k, hk⟩ := List.mem_iff_getElem?.mp h
  have := (List.getElem?_eq_some_iff.mp hk).1
  exact ⟨(k : Int), by unfold nodeI; omega, bag_of hk⟩
/-- a decomposition of the graph -/
structure Tdc (n : Int) (ps : List (Int × Int)) (bags : List (List Int)) (L : List (Int × Int)) : Prop where
  ne : 0 < bags.length
  st : ∀ b ∈ bags, b.Pairwise (· < ·) ∧ b ≠ [] ∧ ∀ v ∈ b, 0 ≤ v ∧ v < n
  inn : ∀ l ∈ L, nodeI bags.length l.1 ∧ nodeI bags.length l.2 ∧ l.1 ≠ l.2
  cnt : L.length + 1 = bags.length
  con : ∀ a b, nodeI bags.length a → nodeI bags.length b → Con (RL (nodeI bags.length) L) a b
  ed : ∀ p ∈ ps, ∃ b ∈ bags, p.1 ∈ b ∧ p.2 ∈ b
  ve : ∀ v, 0 ≤ v → v < n → ∃ b ∈ bags, v ∈ b
  vc : ∀ v a b, hasV bags v a → hasV bags v b → Con (RL (hasV bags v) L) a b
theorem mem_nrm {L : List (Int × Int)} {a b : Int} : ((a, b) ∈ L.map nrm ∨ (b, a) ∈ L.map nrm) → (a, b) ∈ L ∨ (b, a) ∈ L := by
  have one : ∀ {a b : Int}, (a, b) ∈ L.map nrm → (a, b) ∈ L ∨ (b, a) ∈ L := fun {a b} h => by
    obtain ⟨⟨x, y⟩, hp, e⟩ := List.mem_map.mp h
    unfold nrm at e
    have e1 : min x y = a := congrArg Prod.fst e
    have e2 : max x y = b := congrArg Prod.snd e
    by_cases c : x ≤ y
    · rw [show a = x by omega, show b = y by omega]
      exact .inl hp
    · rw [show a = y by omega, show b = x by omega]
      exact .inr hp
  rintro (h | h)
  · exact one h
  · exact (one h).symm
theorem nrm_mem {L : List (Int × Int)} {a b : Int} (h : (a, b) ∈ L ∨ (b, a) ∈ L) : nrm (a, b) ∈ L.map nrm := by
  rcases h with h | h
  · exact List.mem_map.mpr ⟨_, h, rfl⟩
  · exact List.mem_map.mpr ⟨_, h, nrm_cm b a⟩
theorem nrm_or {a b : Int} : nrm (a, b) = (a, b) ∨ nrm (a, b) = (b, a) := by
  unfold nrm
  by_cases c : a ≤ b
  · exact .inl (Prod.ext (by dsimp only; omega) (by dsimp only; omega))
  · exact .inr (Prod.ext (by dsimp only; omega) (by dsimp only; omega))
theorem nrm_memO {L : List (Int × Int)} {a b : Int} (h : (a, b) ∈ L ∨ (b, a) ∈ L) : (a, b) ∈ L.map nrm ∨ (b, a) ∈ L.map nrm := by
  have := nrm_mem h
  rcases nrm_or (a := a) (b := b) with e | e <;> rw [e] at this
  · exact .inl this
  · exact .inr this
section
variable {n : Int} {ps L : List (Int × Int)} {bags : List (List Int)}
/-- no two links join the same -/
theorem Tdc.nodup (t : Tdc n ps bags L) : (L.map nrm).Nodup := by
  refine Classical.byContradiction fun c => ?_
  obtain ⟨k, lk, mk⟩ := dup_less c
  have := conn_len (nodup_rg bags.length) (L := k) fun a ha b hb => by
    obtain ⟨i, hi, rfl⟩ := List.mem_map.mp ha
    obtain ⟨j, hj, rfl⟩ := List.mem_map.mp hb
    have h1 := List.mem_range.mp hi
    have h2 := List.mem_range.mp hj
    refine con_mono (fun a b r => ?_) (t.con i j ⟨by omega, by omega⟩ ⟨by omega, by omega⟩)
    exact (nrm_memO r.2.2).imp (mk _) (mk _)
  rw [List.length_map, List.length_range] at this
  rw [List.length_map] at lk
  have := t.cnt
  omega
/-- the links in another order, either end first -/
theorem Tdc.links (t : Tdc n ps bags L) {M : List (Int × Int)} (pm : M.Perm (L.map nrm)) : Tdc n ps bags M := by
  have mm : ∀ {a b : Int}, ((a, b) ∈ L ∨ (b, a) ∈ L) → (a, b) ∈ M ∨ (b, a) ∈ M := fun h => (nrm_memO h).imp pm.mem_iff.mpr pm.mem_iff.mpr
  have rl : ∀ {S : Int → Prop} {a b : Int}, Con (RL S L) a b → Con (RL S M) a b := fun c => con_mono (fun a b r => ⟨r.1, r.2.1, mm r.2.2⟩) c
  refine ⟨t.ne, t.st, fun l hl => ?_, by have := t.cnt; rw [pm.length_eq, List.length_map]; exact this, fun a b ha hb => rl (t.con a b ha hb), t.ed, t.ve, fun v a b ha hb => rl (t.vc v a b ha hb)⟩
  obtain ⟨⟨x, y⟩, hp, e⟩ := List.mem_map.mp (pm.mem_iff.mp hl)
  obtain ⟨h1, h2, h3⟩ := t.inn _ hp
  dsimp only at h1 h2 h3
  rcases nrm_or (a := x) (b := y) with e' | e' <;> rw [e'] at e <;> subst e
  · exact ⟨h1, h2, h3⟩
  · exact ⟨h2, h1, Ne.symm h3⟩
/-- one more bag, within one that is there -/
theorem Tdc.grow (t : Tdc n ps bags L) {i : Int} {k : List Int} (hi : nodeI bags.length i) (ne : k ≠ []) (sub : k.Sublist (bagAt bags i)) : Tdc n ps (bags ++ [k]) (L ++ [(i, (bags.length : Int))]) := by
  have lb : (bags ++ [k]).length = bags.length + 1 := by rw [List.length_append]; rfl
  have nd : ∀ {a}, nodeI (bags ++ [k]).length a → nodeI bags.length a ∨ a = (bags.length : Int) := fun {a} h => by
    rw [lb] at h
    unfold nodeI at *
    omega
  have ndL : ∀ {a}, nodeI bags.length a → nodeI (bags ++ [k]).length a := fun {a} h => by
    rw [lb]
    unfold nodeI at *
    omega
  have b1 : ∀ {a}, nodeI bags.length a → bagAt (bags ++ [k]) a = bagAt bags a := fun {a} h => by
    have e := bag_get h
    unfold bagAt nodeI at *
    rw [List.getD_eq_getElem?_getD, List.getElem?_append_left (by omega), e]
    rfl
  have b2 : bagAt (bags ++ [k]) (bags.length : Int) = k := bag_of (by
    rw [List.getElem?_append_right (Nat.le_refl _), Nat.sub_self]
    rfl)
  have h1 : ∀ {v a}, hasV (bags ++ [k]) v a → hasV bags v a ∨ (a = (bags.length : Int) ∧ v ∈ k) := fun {v a} h => by
    rcases nd h.1 with c | c
    · have h2 := h.2
      rw [b1 c] at h2
      exact .inl ⟨c, h2⟩
    · have h2 := h.2
      rw [c, b2] at h2
      exact .inr ⟨c, h2⟩
  have h2 : ∀ {v a}, hasV bags v a → hasV (bags ++ [k]) v a := fun {v a} h => ⟨ndL h.1, by rw [b1 h.1]; exact h.2⟩
  have last : nodeI (bags ++ [k]).length (bags.length : Int) := by
    rw [lb]
    unfold nodeI
    omega
  have link : ((i, (bags.length : Int)) ∈ L ++ [(i, (bags.length : Int))]) := List.mem_append_right _ List.mem_cons_self
  refine ⟨by omega, fun b hb => ?_, fun l hl => ?_, by rw [List.length_append, lb]; have := t.cnt; simp only [List.length_cons, List.length_nil]; omega, fun a b ha hb => ?_, fun p hp => ?_, fun v v0 v1 => ?_, fun v a b ha hb => ?_⟩
  · rcases List.mem_append.mp hb with c | c
    · exact t.st b c
    · rw [List.mem_singleton.mp c]
      obtain ⟨s1, s2, s3⟩ := t.st _ (bag_mem hi)
      exact ⟨s1.sublist sub, ne, fun v hv => s3 v (sub.mem hv)⟩
  · rcases List.mem_append.mp hl with c | c
    · obtain ⟨x, y, z⟩ := t.inn l c
      exact ⟨ndL x, ndL y, z⟩
    · rw [List.mem_singleton.mp c]
      exact ⟨ndL hi, last, by unfold nodeI at hi; show i ≠ (bags.length : Int); omega⟩
  · have all : ∀ a, nodeI (bags ++ [k]).length a → Con (RL (nodeI (bags ++ [k]).length) (L ++ [(i, (bags.length : Int))])) i a := fun a ha => by
      rcases nd ha with c | c
      · exact con_mono (fun a b r => ⟨ndL r.1, ndL r.2.1, r.2.2.imp (List.mem_append_left _) (List.mem_append_left _)⟩) (t.con i a hi c)
      · rw [c]
        exact .step .refl ⟨ndL hi, last, .inl link⟩
    exact ((all a ha).symm RL.symm).trans (all b hb)
  · obtain ⟨b, hb, h⟩ := t.ed p hp
    exact ⟨b, List.mem_append_left _ hb, h⟩
  · obtain ⟨b, hb, h⟩ := t.ve v v0 v1
    exact ⟨b, List.mem_append_left _ hb, h⟩
  · have old : ∀ {a b}, hasV bags v a → hasV bags v b → Con (RL (hasV (bags ++ [k]) v) (L ++ [(i, (bags.length : Int))])) a b := fun {a b} ha hb => con_mono (fun a b r => ⟨h2 r.1, h2 r.2.1, r.2.2.imp (List.mem_append_left _) (List.mem_append_left _)⟩) (t.vc v a b ha hb)
    have new : v ∈ k → hasV bags v i ∧ RL (hasV (bags ++ [k]) v) (L ++ [(i, (bags.length : Int))]) i (bags.length : Int) := fun hv => by
      have hi' : hasV bags v i := ⟨hi, sub.mem hv⟩
      exact ⟨hi', h2 hi', ⟨last, by rw [b2]; exact hv⟩, .inl link⟩
    rcases h1 ha with ca | ⟨ea, ka⟩
    · rcases h1 hb with cb | ⟨eb, kb⟩
      · exact old ca cb
      · obtain ⟨x, y⟩ := new kb
        rw [eb]
        exact (old ca x).step y
    · obtain ⟨x, y⟩ := new ka
      rw [ea]
      rcases h1 hb with cb | ⟨eb, kb⟩
      · exact (Con.step .refl (RL.symm _ _ y)).trans (old x cb)
      · rw [eb]
        exact .refl
/-- the bags in another order: f tells where a bag goes -/
theorem Tdc.move (t : Tdc n ps bags L) {bags' : List (List Int)} {f g : Int → Int} (len : bags'.length = bags.length) (f1 : ∀ a, nodeI bags.length a → nodeI bags.length (f a)) (g1 : ∀ a, nodeI bags.length a → nodeI bags.length (g a)) (gf : ∀ a, nodeI bags.length a → g (f a) = a) (fg : ∀ a, nodeI bags.length a → f (g a) = a)
    (hb : ∀ a, nodeI bags.length a → bagAt bags' a = bagAt bags (g a)) : Tdc n ps bags' (L.map fun l => (f l.1, f l.2)) := by
  have bf : ∀ a, nodeI bags.length a → bagAt bags' (f a) = bagAt bags a := fun a ha => by rw [hb _ (f1 a ha), gf a ha]
  have hv : ∀ {v a}, hasV bags' v a → hasV bags v (g a) := fun {v a} h => by
    have h1 := h.1
    rw [len] at h1
    exact ⟨g1 a h1, by rw [← hb a h1]; exact h.2⟩
  have vh : ∀ {v a}, hasV bags v a → hasV bags' v (f a) := fun {v a} h => ⟨by rw [len]; exact f1 a h.1, by rw [bf a h.1]; exact h.2⟩
  have lk : ∀ {a b}, ((a, b) ∈ L ∨ (b, a) ∈ L) → (f a, f b) ∈ L.map (fun l => (f l.1, f l.2)) ∨ (f b, f a) ∈ L.map (fun l => (f l.1, f l.2)) := fun h => h.imp (fun h => List.mem_map.mpr ⟨_, h, rfl⟩) fun h => List.mem_map.mpr ⟨_, h, rfl⟩
  have mb : ∀ b ∈ bags, b ∈ bags' := fun b h => by
    obtain ⟨i, hi, e⟩ := mem_bag h
    have := bag_mem (bags := bags') (i := f i) (by rw [len]; exact f1 i hi)
    rwa [bf i hi, e] at this
  have mb' : ∀ b ∈ bags', b ∈ bags := fun b h => by
    obtain ⟨i, hi, e⟩ := mem_bag h
    rw [len] at hi
    rw [← e, hb i hi]
    exact bag_mem (g1 i hi)
  refine ⟨by rw [len]; exact t.ne, fun b h => t.st b (mb' b h), fun l hl => ?_, by rw [List.length_map, len]; exact t.cnt, fun a b ha hb => ?_, fun p hp => ?_, fun v v0 v1 => ?_, fun v a b ha hb => ?_⟩
  · obtain ⟨p, hp, rfl⟩ := List.mem_map.mp hl
    obtain ⟨x, y, z⟩ := t.inn p hp
    rw [len]
    exact ⟨f1 _ x, f1 _ y, fun e => z (by rw [← gf _ x, ← gf _ y]; exact congrArg g e)⟩
  · rw [len] at ha hb ⊢
    have := con_map (R' := RL (nodeI bags.length) (L.map fun l => (f l.1, f l.2))) (f := f) (fun a b r => .inr ⟨f1 a r.1, f1 b r.2.1, lk r.2.2⟩) (t.con (g a) (g b) (g1 a ha) (g1 b hb))
    rwa [fg a ha, fg b hb] at this
  · obtain ⟨b, hb, h⟩ := t.ed p hp
    exact ⟨b, mb b hb, h⟩
  · obtain ⟨b, hb, h⟩ := t.ve v v0 v1
    exact ⟨b, mb b hb, h⟩
  · have := con_map (R' := RL (hasV bags' v) (L.map fun l => (f l.1, f l.2))) (f := f) (fun a b r => .inr ⟨vh r.1, vh r.2.1, lk r.2.2⟩) (t.vc v (g a) (g b) (hv ha) (hv hb))
    have ha1 := ha.1
    have hb1 := hb.1
    rw [len] at ha1 hb1
    rwa [fg a ha1, fg b hb1] at this
/-! ## a bag within a linked one goes -/
def mvI (s t a : Int) : Int := let y := if a = s then t else a; if s < y then y - 1 else y
/-- one of a list alone meets the test -/
theorem filter_one {α : Type} {P : α → Bool} : ∀ {l : List α} {x : α}, l.Nodup → x ∈ l → P x = false → (∀ y ∈ l, P y = false → y = x) → (l.filter P).length + 1 = l.length
  | [], _, _, h, _, _ => by cases h
  | a :: l, x, nd, h, px, u => by
    obtain ⟨n1, n2⟩ := List.nodup_cons.mp nd
    by_cases e : a = x
    · subst e
      rw [List.filter_cons, px]
      simp only [Bool.false_eq_true, if_false]
      rw [List.filter_eq_self.mpr]
      · rfl
      · intro y hy
        cases q : P y with
        | true => rfl
        | false => exact absurd (u y (List.mem_cons_of_mem _ hy) q ▸ hy) n1
    · have hx : x ∈ l := by
        rcases List.mem_cons.mp h with z | z
        · exact absurd z.symm e
        · exact z
      have pa : P a = true := by
        cases q : P a with
        | true => rfl
        | false => exact absurd (u a List.mem_cons_self q) e
      rw [List.filter_cons, if_pos pa, List.length_cons, List.length_cons, filter_one n2 hx px fun y hy => u y (List.mem_cons_of_mem _ hy)]
theorem nodup_of_map {α β : Type} {f : α → β} {l : List α} (h : (l.map f).Nodup) : l.Nodup := (List.pairwise_map.mp h).imp fun {a b} h e => h (congrArg f e)
theorem map_inj_on {α β : Type} {f : α → β} {l : List α} (h : (l.map f).Nodup) {a b : α} (ha : a ∈ l) (hb : b ∈ l) (e : f a = f b) : a = b := by
  induction l with
  | nil => cases ha
  | cons c l ih =>
    obtain ⟨n1, n2⟩ := List.nodup_cons.mp h
    rcases List.mem_cons.mp ha with ea | ha
    · rcases List.mem_cons.mp hb with eb | hb
      · rw [ea, eb]
      · exact absurd (List.mem_map.mpr ⟨b, hb, by rw [← ea]; exact e.symm⟩) n1
    · rcases List.mem_cons.mp hb with eb | hb
      · exact absurd (List.mem_map.mpr ⟨a, ha, by rw [← eb]; exact e⟩) n1
      · exact ih n2 ha hb
theorem Tdc.merge (t : Tdc n ps bags L) {s k : Int} (lk : (s, k) ∈ L ∨ (k, s) ∈ L) (sub : ∀ v ∈ bagAt bags s, v ∈ bagAt bags k) :
    Tdc n ps (bags.eraseIdx s.toNat) ((L.map fun l => (mvI s k l.1, mvI s k l.2)).filter fun l => !decide (l.1 = l.2)) := by
  have hs : nodeI bags.length s ∧ nodeI bags.length k ∧ s ≠ k := by
    rcases lk with h | h
    · exact t.inn _ h
    · obtain ⟨x, y, z⟩ := t.inn _ h
      exact ⟨y, x, Ne.symm z⟩
  obtain ⟨s1, k1, sk⟩ := hs
  have sl : s.toNat < bags.length := by unfold nodeI at s1; omega
  have lb : (bags.eraseIdx s.toNat).length = bags.length - 1 := List.length_eraseIdx_of_lt sl
  have nd : ∀ {a}, nodeI bags.length a → nodeI (bags.eraseIdx s.toNat).length (mvI s k a) := fun {a} h => by
    rw [lb]
    unfold nodeI at *
    unfold mvI
    dsimp only
    split <;> split <;> omega
  -- where the bag of a stands now
  have bg : ∀ {a}, nodeI bags.length a → a ≠ s → bagAt (bags.eraseIdx s.toNat) (mvI s k a) = bagAt bags a := fun {a} h e => by
    have hm : mvI s k a = if s < a then a - 1 else a := by
      unfold mvI
      rw [if_neg e]
    rw [hm]
    have h9 := bag_get h
    unfold nodeI at h s1
    unfold bagAt
    split
    · rw [List.getD_eq_getElem?_getD, List.getElem?_eraseIdx_of_ge (by omega), show (a - 1).toNat + 1 = a.toNat by omega]
      rfl
    · rw [List.getD_eq_getElem?_getD, List.getElem?_eraseIdx_of_lt (by omega)]
      rfl
  have mk : mvI s k s = mvI s k k := by
    unfold mvI
    rw [if_pos rfl, if_neg (Ne.symm sk)]
  have ms : ∀ {v a}, hasV bags v a → hasV (bags.eraseIdx s.toNat) v (mvI s k a) := fun {v a} h => by
    refine ⟨nd h.1, ?_⟩
    by_cases e : a = s
    · subst e
      rw [mk, bg k1 (Ne.symm sk)]
      exact sub v h.2
    · rw [bg h.1 e]
      exact h.2
  -- each place now was one
  have pre : ∀ {x}, nodeI (bags.eraseIdx s.toNat).length x → ∃ a, nodeI bags.length a ∧ a ≠ s ∧ mvI s k a = x := fun {x} h => by
    rw [lb] at h
    unfold nodeI at h s1
    by_cases c : x < s
    · exact ⟨x, by unfold nodeI; omega, by omega, by unfold mvI; rw [if_neg (show ¬ x = s by omega)]; dsimp only; rw [if_neg (by omega)]⟩
    · exact ⟨x + 1, by unfold nodeI; omega, by omega, by unfold mvI; rw [if_neg (show ¬ x + 1 = s by omega)]; dsimp only; rw [if_pos (by omega)]; omega⟩
  have inj : ∀ {a b}, nodeI bags.length a → nodeI bags.length b → mvI s k a = mvI s k b → a = b ∨ (a = s ∧ b = k) ∨ (a = k ∧ b = s) := fun {a b} ha hb e => by
    unfold nodeI at *
    unfold mvI at e
    dsimp only at e
    by_cases c1 : a = s <;> by_cases c2 : b = s <;> simp only [c1, c2, if_true, if_false] at e <;> first | omega | (split at e <;> split at e <;> omega)
  have st : ∀ {S S' : Int → Prop}, (∀ a, S a → S' (mvI s k a)) → ∀ a b, RL S L a b → mvI s k a = mvI s k b ∨ RL S' ((L.map fun l => (mvI s k l.1, mvI s k l.2)).filter fun l => !decide (l.1 = l.2)) (mvI s k a) (mvI s k b) := fun {S S'} hS a b r => by
    by_cases e : mvI s k a = mvI s k b
    · exact .inl e
    · refine .inr ⟨hS a r.1, hS b r.2.1, r.2.2.imp (fun h => ?_) fun h => ?_⟩
      · exact List.mem_filter.mpr ⟨List.mem_map.mpr ⟨_, h, rfl⟩, by simp [e]⟩
      · exact List.mem_filter.mpr ⟨List.mem_map.mpr ⟨_, h, rfl⟩, by simp [Ne.symm e]⟩
  have old : ∀ b ∈ bags.eraseIdx s.toNat, b ∈ bags := fun b h => (List.eraseIdx_sublist bags s.toNat).mem h
  have up : ∀ {P : List Int → Prop}, (∀ b ∈ bags, P b → ∃ b' ∈ bags.eraseIdx s.toNat, ∀ v ∈ b, v ∈ b') := fun {P} b hb _ => by
    obtain ⟨i, hi, e⟩ := mem_bag hb
    refine ⟨_, bag_mem (nd hi), fun v hv => ?_⟩
    have := ms (v := v) (a := i) ⟨hi, by rw [e]; exact hv⟩
    exact this.2
  refine ⟨?_, fun b hb => t.st b (old b hb), fun l hl => ?_, ?_, fun a b ha hb => ?_, fun p hp => ?_, fun v v0 v1 => ?_, fun v a b ha hb => ?_⟩
  · rw [lb]
    unfold nodeI at s1 k1
    omega
  · obtain ⟨h1, h2⟩ := List.mem_filter.mp hl
    obtain ⟨p, hp, rfl⟩ := List.mem_map.mp h1
    obtain ⟨x, y, z⟩ := t.inn p hp
    exact ⟨nd x, nd y, by simpa using h2⟩
  · rw [List.filter_map, List.length_map]
    have c := t.cnt
    have nL := t.nodup
    obtain ⟨x, hx, hxe⟩ : ∃ x ∈ L, nrm x = nrm (s, k) := by
      rcases lk with h | h
      · exact ⟨_, h, rfl⟩
      · exact ⟨_, h, nrm_cm k s⟩
    have xs : x = (s, k) ∨ x = (k, s) := by
      obtain ⟨x1, x2⟩ := x
      unfold nrm at hxe
      have e1 : min x1 x2 = min s k := congrArg Prod.fst hxe
      have e2 : max x1 x2 = max s k := congrArg Prod.snd hxe
      by_cases c : x1 = s
      · exact .inl (Prod.ext c (by dsimp only; omega))
      · exact .inr (Prod.ext (by dsimp only; omega) (by dsimp only; omega))
    have px : ((fun l : Int × Int => !decide (l.1 = l.2)) ∘ fun l => (mvI s k l.1, mvI s k l.2)) x = false := by
      rcases xs with e | e <;> subst e <;> simp [mk]
    have := filter_one (P := (fun l : Int × Int => !decide (l.1 = l.2)) ∘ fun l => (mvI s k l.1, mvI s k l.2)) (nodup_of_map nL) hx px fun y hy py => by
      obtain ⟨y1, y2, y3⟩ := t.inn y hy
      have e : mvI s k y.1 = mvI s k y.2 := by simpa using py
      have yk : y = (s, k) ∨ y = (k, s) := by
        rcases inj y1 y2 e with c | ⟨c1, c2⟩ | ⟨c1, c2⟩
        · exact absurd c y3
        · exact .inl (Prod.ext c1 c2)
        · exact .inr (Prod.ext c1 c2)
      refine map_inj_on nL hy hx ?_
      rw [hxe]
      rcases yk with c | c <;> subst c
      · rfl
      · exact nrm_cm k s
    rw [lb]
    omega
  · obtain ⟨a', ha', _, rfl⟩ := pre ha
    obtain ⟨b', hb', _, rfl⟩ := pre hb
    exact con_map (st fun a h => nd h) (t.con a' b' ha' hb')
  · obtain ⟨b, hb, h1, h2⟩ := t.ed p hp
    obtain ⟨b', hb', h⟩ := up (P := fun _ => True) b hb trivial
    exact ⟨b', hb', h _ h1, h _ h2⟩
  · obtain ⟨b, hb, h1⟩ := t.ve v v0 v1
    obtain ⟨b', hb', h⟩ := up (P := fun _ => True) b hb trivial
    exact ⟨b', hb', h _ h1⟩
  · obtain ⟨a', ha', ea, rfl⟩ := pre ha.1
    obtain ⟨b', hb', eb, rfl⟩ := pre hb.1
    have h1 := ha.2
    have h2 := hb.2
    rw [bg ha' ea] at h1
    rw [bg hb' eb] at h2
    exact con_map (st fun a h => ms h) (t.vc v a' b' ⟨ha', h1⟩ ⟨hb', h2⟩)
end

set_option Elab.async false
set_option linter.all false
set_option maxRecDepth 100000
set_option maxHeartbeats 4000000
/-! # the decomposition that an order gives -/
def crossP (l : List Int) : List (Int × Int) := (allP l.length).map fun p => nrm (l.getD p.1.toNat 0, l.getD p.2.toNat 0)
theorem getD_i {l : List Int} {i : Nat} (h : i < l.length) : l.getD i 0 = l[i] := by
  rw [List.getD_eq_getElem?_getD, List.getElem?_eq_getElem h]
  rfl
theorem cross_mem {l : List Int} {u w : Int} (hu : u ∈ l) (hw : w ∈ l) (ne : u ≠ w) : nrm (u, w) ∈ crossP l := by
  obtain ⟨i, hi, rfl⟩ := List.mem_iff_getElem.mp hu
  obtain ⟨j, hj, rfl⟩ := List.mem_iff_getElem.mp hw
  rcases Nat.lt_trichotomy i j with c | c | c
  · exact List.mem_map.mpr ⟨((i : Int), (j : Int)), mem_allP.mpr ⟨by dsimp only; omega, by dsimp only; omega, by dsimp only; omega⟩, by
      show nrm (l.getD ((i : Int)).toNat 0, l.getD ((j : Int)).toNat 0) = _
      rw [show ((i : Int)).toNat = i by omega, show ((j : Int)).toNat = j by omega, getD_i hi, getD_i hj]⟩
  · subst c
    exact absurd rfl ne
  · exact List.mem_map.mpr ⟨((j : Int), (i : Int)), mem_allP.mpr ⟨by dsimp only; omega, by dsimp only; omega, by dsimp only; omega⟩, by
      show nrm (l.getD ((j : Int)).toNat 0, l.getD ((i : Int)).toNat 0) = _
      rw [show ((i : Int)).toNat = i by omega, show ((j : Int)).toNat = j by omega, getD_i hi, getD_i hj]
      exact nrm_cm _ _⟩
theorem cross_len (l : List Int) : (crossP l).length ≤ l.length * l.length := by
  unfold crossP
  rw [List.length_map]
  exact preP_len
def laterL (q : List (Int × Int)) (v : Int) (o : List Int) : List Int := o.filter fun u => decide (nrm (u, v) ∈ q)
def fillL : List (Int × Int) → List Int → List (List Int)
  | _, [] => []
  | q, v :: o => laterL q v o :: fillL (q ++ crossP (laterL q v o)) o
theorem fill_len : ∀ (o : List Int) (q : List (Int × Int)), (fillL q o).length = o.length
  | [], _ => rfl
  | v :: o, q => by
    show (fillL _ o).length + 1 = o.length + 1
    rw [fill_len o]
theorem fill_sub : ∀ (o : List Int) (q : List (Int × Int)) {k : Nat} {r : List Int}, (fillL q o)[k]? = some r → r.Sublist (o.drop (k + 1))
  | [], _, _, _, h => by simp [fillL] at h
  | v :: o, q, 0, r, h => by
    have e : laterL q v o = r := by simpa [fillL] using h
    subst e
    exact List.filter_sublist
  | v :: o, q, k + 1, r, h => by
    have e : (fillL (q ++ crossP (laterL q v o)) o)[k]? = some r := by simpa [fillL] using h
    exact fill_sub o _ e
theorem fill_edge : ∀ (o : List Int) (q : List (Int × Int)) {k : Nat} {r : List Int} {v w : Int}, (fillL q o)[k]? = some r → o[k]? = some v → w ∈ o.drop (k + 1) → nrm (w, v) ∈ q → w ∈ r
  | [], _, _, _, _, _, h, _, _, _ => by simp [fillL] at h
  | x :: o, q, 0, r, v, w, h, e, m, hq => by
    have e1 : laterL q x o = r := by simpa [fillL] using h
    have e2 : x = v := by simpa using e
    subst e1
    subst e2
    exact List.mem_filter.mpr ⟨m, by simp [hq]⟩
  | x :: o, q, k + 1, r, v, w, h, e, m, hq => by
    have e1 : (fillL (q ++ crossP (laterL q x o)) o)[k]? = some r := by simpa [fillL] using h
    exact fill_edge o _ e1 (by simpa using e) m (List.mem_append_left _ hq)
theorem fill_fill : ∀ (o : List Int) (q : List (Int × Int)) {k p : Nat} {r r' : List Int} {u w : Int}, (fillL q o)[k]? = some r → u ∈ r → w ∈ r → u ≠ w → o[p]? = some u → k < p → (fillL q o)[p]? = some r' → w ∈ o.drop (p + 1) → w ∈ r'
  | [], _, _, _, _, _, _, _, h, _, _, _, _, _, _, _ => by simp [fillL] at h
  | x :: o, q, k, 0, r, r', u, w, h, hu, hw, ne, e, kp, h', m => absurd kp (Nat.not_lt_zero _)
  | x :: o, q, 0, p + 1, r, r', u, w, h, hu, hw, ne, e, kp, h', m => by
    have e1 : laterL q x o = r := by simpa [fillL] using h
    have e2 : (fillL (q ++ crossP (laterL q x o)) o)[p]? = some r' := by simpa [fillL] using h'
    refine fill_edge o _ e2 (by simpa using e) m (List.mem_append_right _ ?_)
    rw [e1]
    exact cross_mem hw hu (Ne.symm ne)
  | x :: o, q, k + 1, p + 1, r, r', u, w, h, hu, hw, ne, e, kp, h', m => by
    have e1 : (fillL (q ++ crossP (laterL q x o)) o)[k]? = some r := by simpa [fillL] using h
    have e2 : (fillL (q ++ crossP (laterL q x o)) o)[p]? = some r' := by simpa [fillL] using h'
    exact fill_fill o _ e1 hu hw ne (by simpa using e) (by omega) e2 m
/-- the bag that k's bag is linked to -/
def parO (o : List Int) (rows : List (List Int)) (k : Nat) : Nat := match rows[k]? with
  | some (u :: _) => o.idxOf u
  | _ => k + 1
theorem mem_drop {o : List Int} (nd : o.Nodup) {k : Nat} {w : Int} (h : w ∈ o.drop k) : k ≤ o.idxOf w ∧ o.idxOf w < o.length ∧ w ∈ o := by
  obtain ⟨i, hi, rfl⟩ := List.mem_iff_getElem.mp h
  rw [List.length_drop] at hi
  have e : (o.drop k)[i]'(by rw [List.length_drop]; exact hi) = o[k + i] := List.getElem_drop
  rw [e]
  have hl : k + i < o.length := by omega
  have m : o[k + i] ∈ o := List.getElem_mem hl
  have h1 : o.idxOf o[k + i] < o.length := List.idxOf_lt_length_of_mem m
  have h2 : o[o.idxOf o[k + i]] = o[k + i] := List.getElem_idxOf h1
  have pw := List.pairwise_iff_getElem.mp nd
  rcases Nat.lt_trichotomy (o.idxOf o[k + i]) (k + i) with c | c | c
  · exact absurd h2 (pw _ _ h1 hl c)
  · exact ⟨by omega, h1, m⟩
  · exact absurd h2.symm (pw _ _ hl h1 c)
theorem idx_at {o : List Int} (nd : o.Nodup) {i : Nat} (h : i < o.length) : o.idxOf o[i] = i := by
  have h1 : o.idxOf o[i] < o.length := List.idxOf_lt_length_of_mem (List.getElem_mem h)
  have h2 : o[o.idxOf o[i]] = o[i] := List.getElem_idxOf h1
  have pw := List.pairwise_iff_getElem.mp nd
  rcases Nat.lt_trichotomy (o.idxOf o[i]) i with c | c | c
  · exact absurd h2 (pw _ _ h1 h c)
  · exact c
  · exact absurd h2.symm (pw _ _ h h1 c)
theorem drop_of_idx {o : List Int} {k : Nat} {w : Int} (m : w ∈ o) (h : k ≤ o.idxOf w) : w ∈ o.drop k := by
  have h1 : o.idxOf w < o.length := List.idxOf_lt_length_of_mem m
  have h2 : o[o.idxOf w] = w := List.getElem_idxOf h1
  refine List.mem_iff_getElem.mpr ⟨o.idxOf w - k, by rw [List.length_drop]; omega, ?_⟩
  rw [List.getElem_drop]
  have e : ∀ j (hj : j < o.length), j = o.idxOf w → o[j] = w := fun j hj e => by
    subst e
    exact h2
  exact e _ _ (by omega)
/-- the first of some stands first -/
theorem first_idx {o : List Int} (nd : o.Nodup) {u : Int} {r : List Int} {k : Nat} (s : (u :: r).Sublist (o.drop k)) {w : Int} (h : w ∈ u :: r) : o.idxOf u ≤ o.idxOf w := by
  rcases List.mem_cons.mp h with e | h
  · rw [e]
    exact Nat.le_refl _
  · have nd' := nd.sublist (List.drop_sublist k o)
    have pw : ((u :: r).Pairwise fun a b => o.idxOf a < o.idxOf b) := by
      refine List.Pairwise.sublist s (List.Pairwise.sublist (List.drop_sublist k o) ?_)
      rw [List.pairwise_iff_getElem]
      intro i j hi hj lt
      rw [idx_at nd hi, idx_at nd hj]
      exact lt
    exact Nat.le_of_lt ((List.pairwise_cons.mp pw).1 w h)
section
variable {n : Nat} {ps : List (Int × Int)} {o : List Int}
theorem par_ok (nd : o.Nodup) (q : List (Int × Int)) {k : Nat} (h : k + 1 < o.length) : k < parO o (fillL q o) k ∧ parO o (fillL q o) k < o.length := by
  unfold parO
  cases e : (fillL q o)[k]? with
  | none => exact ⟨Nat.lt_succ_self _, h⟩
  | some r =>
    cases r with
    | nil => exact ⟨Nat.lt_succ_self _, h⟩
    | cons u r =>
      have s := fill_sub o q e
      obtain ⟨h1, h2, _⟩ := mem_drop nd (s.mem List.mem_cons_self)
      exact ⟨h1, h2⟩
theorem order_tdc (one : 1 ≤ n) (nd : o.Nodup) (mem : ∀ v, v ∈ o ↔ 0 ≤ v ∧ v < (n : Int)) (len : o.length = n) (hps : ∀ p ∈ ps, 0 ≤ p.1 ∧ p.1 < p.2 ∧ p.2 < (n : Int)) {bags : List (List Int)} (lb : bags.length = n)
    (hb : ∀ (k : Nat) (v : Int) (r b : List Int), o[k]? = some v → (fillL ps o)[k]? = some r → bags[k]? = some b → b.Pairwise (· < ·) ∧ ∀ z, z ∈ b ↔ z = v ∨ z ∈ r) :
    Tdc (n : Int) ps bags ((List.range (n - 1)).map fun (k : Nat) => ((k : Int), (parO o (fillL ps o) k : Int))) := by
  have lr := fill_len o ps
  -- what stands at k
  have att : ∀ k, k < n → ∃ v r b, o[k]? = some v ∧ (fillL ps o)[k]? = some r ∧ bags[k]? = some b ∧ b.Pairwise (· < ·) ∧ (∀ z, z ∈ b ↔ z = v ∨ z ∈ r) ∧ bagAt bags (k : Int) = b ∧ r.Sublist (o.drop (k + 1)) := fun k hk => by
    have h1 := List.getElem?_eq_getElem (l := o) (i := k) (by omega)
    have h2 := List.getElem?_eq_getElem (l := fillL ps o) (i := k) (by omega)
    have h3 := List.getElem?_eq_getElem (l := bags) (i := k) (by omega)
    obtain ⟨a, b⟩ := hb k _ _ _ h1 h2 h3
    exact ⟨_, _, _, h1, h2, h3, a, b, bag_of h3, fill_sub o ps h2⟩
  have idx : ∀ v ∈ o, o.idxOf v < n ∧ o[o.idxOf v]? = some v := fun v hv => by
    have h1 : o.idxOf v < o.length := List.idxOf_lt_length_of_mem hv
    exact ⟨by omega, by rw [List.getElem?_eq_getElem h1, List.getElem_idxOf h1]⟩
  have lk : ∀ k, k + 1 < n → ((k : Int), (parO o (fillL ps o) k : Int)) ∈ (List.range (n - 1)).map fun (k : Nat) => ((k : Int), (parO o (fillL ps o) k : Int)) := fun k hk => List.mem_map.mpr ⟨k, List.mem_range.mpr (by omega), rfl⟩
  have pk : ∀ k, k + 1 < n → k < parO o (fillL ps o) k ∧ parO o (fillL ps o) k < n := fun k hk => by
    have := par_ok nd ps (k := k) (by omega)
    omega
  refine ⟨by omega, fun b hb' => ?_, fun l hl => ?_, by rw [List.length_map, List.length_range]; omega, fun a b ha hb' => ?_, fun p hp => ?_, fun v v0 v1 => ?_, fun v a b ha hb' => ?_⟩
  · obtain ⟨i, hi, e⟩ := mem_bag hb'
    unfold nodeI at hi
    obtain ⟨v, r, b', h1, h2, h3, asc, m, eb, sb⟩ := att i.toNat (by omega)
    have ei : ((i.toNat : Nat) : Int) = i := by omega
    rw [ei, e] at eb
    subst eb
    have vm := (mem v).mp (List.mem_of_getElem? h1)
    refine ⟨asc, fun e0 => ?_, fun z hz => ?_⟩
    · have := (m v).mpr (.inl rfl)
      rw [e0] at this
      exact List.not_mem_nil this
    · rcases (m z).mp hz with c | c
      · rw [c]; exact vm
      · exact (mem z).mp ((List.drop_sublist _ o).mem (sb.mem c))
  · obtain ⟨k, hk, rfl⟩ := List.mem_map.mp hl
    have hk := List.mem_range.mp hk
    have := pk k (by omega)
    unfold nodeI
    dsimp only
    omega
  · -- each place leads to the last
    have all : ∀ d k, n - 1 - k ≤ d → k < n → Con (RL (nodeI bags.length) ((List.range (n - 1)).map fun (k : Nat) => ((k : Int), (parO o (fillL ps o) k : Int)))) (k : Int) ((n - 1 : Nat) : Int) := fun d => by
      induction d with
      | zero =>
        intro k h1 h2
        rw [show k = n - 1 by omega]
        exact .refl
      | succ d ih =>
        intro k h1 h2
        by_cases c : k + 1 < n
        · have := pk k c
          refine Con.trans (.step .refl ⟨?_, ?_, .inl (lk k c)⟩) (ih (parO o (fillL ps o) k) (by omega) (by omega))
          · unfold nodeI; omega
          · unfold nodeI; omega
        · rw [show k = n - 1 by omega]
          exact .refl
    unfold nodeI at ha hb'
    have h1 := all n a.toNat (by omega) (by omega)
    have h2 := all n b.toNat (by omega) (by omega)
    rw [show ((a.toNat : Nat) : Int) = a by omega] at h1
    rw [show ((b.toNat : Nat) : Int) = b by omega] at h2
    exact h1.trans (h2.symm RL.symm)
  · obtain ⟨p0, p1, p2⟩ := hps p hp
    have m1 := (mem p.1).mpr ⟨p0, by omega⟩
    have m2 := (mem p.2).mpr ⟨by omega, p2⟩
    have ne : p.1 ≠ p.2 := by omega
    have ep : nrm (p.2, p.1) = p := by
      unfold nrm
      exact Prod.ext (by dsimp only; omega) (by dsimp only; omega)
    have ep' : nrm (p.1, p.2) = p := by
      rw [nrm_cm]
      exact ep
    obtain ⟨i1, e1⟩ := idx _ m1
    obtain ⟨i2, e2⟩ := idx _ m2
    have both : ∀ {x y : Int}, x ∈ o → y ∈ o → nrm (y, x) ∈ ps → o.idxOf x < o.idxOf y → ∃ b ∈ bags, x ∈ b ∧ y ∈ b := fun {x y} hx hy hq lt => by
      obtain ⟨ix, ex⟩ := idx x hx
      obtain ⟨v, r, b, h1, h2, h3, asc, m, eb, sb⟩ := att _ ix
      rw [ex] at h1
      cases h1
      have := fill_edge o ps h2 ex (drop_of_idx hy (by omega)) hq
      exact ⟨b, List.mem_of_getElem? h3, (m _).mpr (.inl rfl), (m _).mpr (.inr this)⟩
    rcases Nat.lt_trichotomy (o.idxOf p.1) (o.idxOf p.2) with c | c | c
    · exact both m1 m2 (by rw [ep]; exact hp) c
    · rw [c, e2] at e1
      exact absurd (Option.some.inj e1).symm ne
    · obtain ⟨b, hb1, h1, h2⟩ := both m2 m1 (by rw [ep']; exact hp) c
      exact ⟨b, hb1, h2, h1⟩
  · have m1 := (mem v).mpr ⟨v0, v1⟩
    obtain ⟨i1, e1⟩ := idx v m1
    obtain ⟨v', r, b, h1, h2, h3, asc, m, eb, sb⟩ := att _ i1
    rw [e1] at h1
    cases h1
    exact ⟨b, List.mem_of_getElem? h3, (m _).mpr (.inl rfl)⟩
  · -- each bag with v leads to v's own
    have own : ∀ k, k < n → v ∈ bagAt bags (k : Int) → v ∈ o ∧ k ≤ o.idxOf v := fun k hk h => by
      obtain ⟨v', r, b, h1, h2, h3, asc, m, eb, sb⟩ := att k hk
      rw [eb] at h
      rcases (m v).mp h with c | c
      · subst c
        have hl := (List.getElem?_eq_some_iff.mp h1).1
        have := (List.getElem?_eq_some_iff.mp h1).2
        refine ⟨List.mem_of_getElem? h1, ?_⟩
        rw [← this, idx_at nd hl]
        exact Nat.le_refl _
      · obtain ⟨x, _, z⟩ := mem_drop nd (sb.mem c)
        exact ⟨z, by omega⟩
    have all : ∀ d k, o.idxOf v - k ≤ d → k < n → v ∈ bagAt bags (k : Int) → Con (RL (hasV bags v) ((List.range (n - 1)).map fun (k : Nat) => ((k : Int), (parO o (fillL ps o) k : Int)))) (k : Int) (o.idxOf v : Int) := fun d => by
      induction d with
      | zero =>
        intro k h1 h2 h3
        have := own k h2 h3
        rw [show k = o.idxOf v by omega]
        exact .refl
      | succ d ih =>
        intro k h1 h2 h3
        obtain ⟨vo, le⟩ := own k h2 h3
        by_cases c : k = o.idxOf v
        · rw [← c]
          exact .refl
        · obtain ⟨iv, ev⟩ := idx v vo
          obtain ⟨v', r, b, g1, g2, g3, asc, m, eb, sb⟩ := att k h2
          have hr : v ∈ r := by
            rw [eb] at h3
            rcases (m v).mp h3 with e | e
            · subst e
              have hl := (List.getElem?_eq_some_iff.mp g1).1
              have e9 := (List.getElem?_eq_some_iff.mp g1).2
              rw [← e9, idx_at nd hl] at c
              exact absurd rfl c
            · exact e
          obtain ⟨u, r', rfl⟩ : ∃ u r', r = u :: r' := by
            cases r with
            | nil => cases hr
            | cons u r' => exact ⟨u, r', rfl⟩
          have ep : parO o (fillL ps o) k = o.idxOf u := by
            unfold parO
            rw [g2]
          obtain ⟨u1, u2, u3⟩ := mem_drop nd (sb.mem List.mem_cons_self)
          have le2 := first_idx nd sb hr
          obtain ⟨iu, eu⟩ := idx u u3
          -- the linked bag holds v
          have hp : v ∈ bagAt bags (o.idxOf u : Int) := by
            obtain ⟨w, s, b', k1, k2, k3, _, m', eb', _⟩ := att _ iu
            rw [eu] at k1
            cases k1
            rw [eb']
            by_cases e : u = v
            · exact (m' v).mpr (.inl e.symm)
            · refine (m' v).mpr (.inr (fill_fill o ps g2 List.mem_cons_self hr e eu (by omega) k2 (drop_of_idx vo ?_)))
              rcases Nat.lt_or_ge (o.idxOf u) (o.idxOf v) with h | h
              · exact h
              · have e9 : o.idxOf u = o.idxOf v := by omega
                rw [e9, ev] at eu
                exact absurd (Option.some.inj eu).symm e
          have kn : k + 1 < n := by omega
          have hl := lk k kn
          rw [ep] at hl
          refine Con.trans (.step .refl ⟨⟨?_, h3⟩, ⟨?_, hp⟩, .inl hl⟩) (ih (o.idxOf u) (by omega) iu hp)
          · unfold nodeI; omega
          · unfold nodeI; omega
    have ha1 := ha.1
    have hb1 := hb'.1
    unfold nodeI at ha1 hb1
    have ea : ((a.toNat : Nat) : Int) = a := by omega
    have eb : ((b.toNat : Nat) : Int) = b := by omega
    have h1 := all n a.toNat (by
      have := (own a.toNat (by omega) (by rw [ea]; exact ha.2)).1
      have := idx v this
      omega) (by omega) (by rw [ea]; exact ha.2)
    have h2 := all n b.toNat (by
      have := (own b.toNat (by omega) (by rw [eb]; exact hb'.2)).1
      have := idx v this
      omega) (by omega) (by rw [eb]; exact hb'.2)
    rw [ea] at h1
    rw [eb] at h2
    exact h1.trans (h2.symm RL.symm)
end

set_option Elab.async false
set_option linter.all false
set_option maxRecDepth 100000
set_option maxHeartbeats 4000000
open PySem PySem.Spec PySem.W PySem.Calls PyProof.Rows L2
/-! # list.remove of data; (a, b) = a list -/
section
variable {X : Cx}
/-- (a, b, ..) = a list of that length -/
def gLstT (K : PySem.W.Frag) (n : Nat) (t : TGs) : TG := fun v σ H Q => ∃ a xs, v = .ref a ∧ SqL K H a xs ∧ xs.length = n ∧ t xs σ H Q
theorem pg_lstT {es : List Expr} {k : Nat} {t : TGs} {n : Nat} {pos : Pos} (hc : X.calm = true) (h : PGs X es t)
    (hn : (assignEach es X.env).length = n := by rfl) (hst : (assignEach es X.env).findIdx? (·.1) = none := by rfl) : PG X (.Tuple es k pos) (gLstT X.K n t) := by
  refine ⟨fun pins s σ H v u Q I r hw => ?_⟩
  obtain ⟨a, xs, e1, hq, hl, hw⟩ := hw
  subst e1
  cases r
  obtain ⟨its, rv, ht, hz⟩ := I.list hq
  have hx9 : (assignEach es X.env).length = its.toArray.size := by
    rw [hn, ← hl, rv.length, List.size_toArray]
  rw [assign_Tuple]
  refine wpAny_bind (wpAny_standAt ?_)
  unfold unpack
  rw [hx9, hst]
  refine wpAny_bind (wpAny_holding (kun_itemsOf (I.ok.hd hc) ht.isList fun h' hx => ?_))
  have I1 : Inv X pins σ H { s with heap := h' } := I.kept (t' := s.toks) fun b o e => hx b o (Nat.ne_of_lt (Heap.lt_size e)) e
  exact h.run pins _ σ H xs _ Q I1 (by simpa using rv) hw
theorem PG.lstK {K : PySem.W.Frag} {e : Expr} {n : Nat} {t : TGs} (h : X.K = K) (p : PG X e (gLstT X.K n t)) : PG X e (gLstT K n t) := h ▸ p
theorem r_glst {K : PySem.W.Frag} {σ : L2.St} {H : Hp} {n : Nat} {g : TGs} {p : Addr} {xs : List V} {q : L2.St → Hp → Prop} (h : SqL K H p xs) (l : xs.length = n) (s : g xs σ H q) : gLstT K n g (.ref p) σ H q := ⟨p, xs, rfl, h, l, s⟩
/-- xs.remove(y): the first that equals y goes -/
def rRemD (K : PySem.W.Frag) : V → List V → Hp → VK → Prop := fun x xs H Q => ∃ (l : Addr) (ys : List V) (y : V) (ds : List PyData) (d : PyData) (j : Nat), x = .ref l ∧ xs = [y] ∧ H l = some (.lst ys) ∧ DpAll K H ys ds ∧ Dp K H y d ∧ PyData.plainAll ds = true ∧ d.plain = true ∧ d.depth ≤ 60 ∧
  SeqAt.dataPlace ds d = some j ∧ Q .non (upd H l (.lst (ys.eraseIdx j)))
theorem mt_removeD (hu : X.A.units + 64 < cLine) : MtR X "list.remove" (rRemD X.K) := by
  intro pins s σ H x xs v us Q I rx rxs h
  obtain ⟨l, ys, y, ds, d, j, rfl, rfl, hH, hd, hy, pl, pd, dep, hj, q⟩ := h
  cases rx
  obtain ⟨u, rfl, ru⟩ := rxs.one
  obtain ⟨z, its, n, r, hl, e⟩ := I.lstM hH
  obtain ⟨as, r1⟩ := Dp.reads I d y u hy ru
  obtain ⟨bs, r2⟩ := Dp.readsAll I ds ys its hd r
  have li : s.heap.IsList l its.toArray := ⟨_, e, rfl, n, rfl⟩
  refine SeqAt.remove_list_data (j := j) li (by simpa using r2) r1 pl pd (by
    have : min (PyData.depthAll ds) d.depth ≤ d.depth := Nat.min_le_right _ _
    generalize d.depth = a at this dep ⊢
    generalize PyData.depthAll ds = b at this ⊢
    omega) hj (by rw [List.size_toArray]; omega) ?_
  have rr := r.eraseIdx j
  refine ⟨.non, _, I.lset (its' := its.eraseIdx j) (t' := s.toks) hH e ?_ rr ?_, rfl, q⟩
  · show its.toArray.eraseIdxIfInBounds j = (its.eraseIdx j).toArray
    rw [List.eraseIdxIfInBounds_toArray]
  · have z2 : (ys.eraseIdx j).length ≤ ys.length := List.length_eraseIdx_le _ _
    omega
theorem mt_removeDK {K : PySem.W.Frag} (h : X.K = K) (hu : X.A.units + 64 < cLine) : MtR X "list.remove" (rRemD K) := h ▸ mt_removeD hu
end
theorem plainI : ∀ ns : List Int, PyData.plainAll (ns.map PyData.int) = true
  | [] => by simp [PyData.plainAll]
  | n :: ns => by
    rw [List.map_cons]
    simp [PyData.plainAll, PyData.plain, plainI ns]
def tI (ns : List Int) : PyData := .tuple (ns.map PyData.int)
theorem plainT (ns : List Int) : (tI ns).plain = true := by
  unfold tI
  simp [PyData.plain, plainI ns]
theorem plainTs : ∀ ps : List (List Int), PyData.plainAll (ps.map tI) = true
  | [] => by simp [PyData.plainAll]
  | p :: ps => by
    rw [List.map_cons]
    simp [PyData.plainAll, plainT p, plainTs ps]
theorem placeT {p : List Int} : ∀ {ps : List (List Int)}, p ∈ ps → SeqAt.dataPlace (ps.map tI) (tI p) = some (ps.idxOf p)
  | [], h => by cases h
  | q :: ps, h => by
    unfold SeqAt.dataPlace
    rw [List.map_cons, List.findIdx?_cons]
    have e : PyData.eqv (tI q) (tI p) = decide (q = p) := tupI_eqv q p
    rw [e]
    by_cases c : q = p
    · subst c
      simp
    · have hp : p ∈ ps := by
        rcases List.mem_cons.mp h with z | z
        · exact absurd z.symm c
        · exact z
      have ih := placeT hp
      unfold SeqAt.dataPlace at ih
      rw [decide_eq_false c, ih, List.idxOf_cons]
      have : (q == p) = false := by simp [c]
      simp [this]
section
variable {K : PySem.W.Frag} {σ : L2.St} {H : Hp} {Q : VK} {te : TE}
/-- [e for i, x in enumerate(t) if ..] -/
theorem lcR_enumT {a : Addr} {xs : List V} {g : TG} {tt : TT} {vs : List Nat} {D : Addr} {σw : L2.St} (Pv : Nat → Hp → Prop) (ew : wipe σ vs = σw) (h0 : Pv 0 (upd H D (.lst []))) (hl : ∀ i H, i ≤ xs.length → Pv i H → SqT K H a xs)
    (hs : ∀ (i : Nat) x H T, xs[i]? = some x → Pv i H → H T = none → g (.ref T) σw (upd H T (.tup [.int (i : Nat), x])) fun σ2 H2 => wipe σ2 vs = σw ∧ tt σ2 H2 fun b H3 => if b = true then te σ2 H3 (LcE D (Pv (i + 1))) else Pv (i + 1) H3) (hd : ∀ H, Pv xs.length H → Q (.ref D) H) :
    LcR (IteT K a) g tt te vs σ D Q H := by
  subst ew
  refine ⟨fun i m H => (m = xs.length - i ∧ i ≤ xs.length) ∧ Pv i H, ⟨_, ⟨rfl, Nat.zero_le _⟩, h0⟩, fun i m H ⟨⟨em, hi⟩, p⟩ => ?_⟩
  subst em
  have hq := hl i H hi p
  rcases Nat.lt_or_ge i xs.length with c | c
  · refine .inr ⟨⟨xs, xs[i], hq, List.getElem?_eq_getElem c⟩, Pv (i + 1), fun H' p' => ⟨_, by omega, ⟨rfl, c⟩, p'⟩, fun x H' ⟨T, y, e1, e2, e3, e4⟩ => ?_⟩
    subst e1 e3
    exact hs i y H T (e4 xs hq) p e2
  · have e : i = xs.length := by omega
    exact .inl ⟨⟨xs, hq, c⟩, hd H (e ▸ p)⟩
end
theorem eraseIdx_take {α : Type} {l : List α} {s i : Nat} {x : α} (h : l[i]? = some x) : (l.take (i + 1)).eraseIdx s = (l.take i).eraseIdx s ++ (if i = s then [] else [x]) := by
  have il := (List.getElem?_eq_some_iff.mp h).1
  have e : l.take (i + 1) = l.take i ++ [x] := by
    rw [List.take_add_one, h]
    rfl
  have lt : (l.take i).length = i := by rw [List.length_take]; omega
  rw [e]
  rcases Nat.lt_trichotomy s i with c | c | c
  · rw [List.eraseIdx_append_of_lt_length (by omega), if_neg (by omega)]
  · subst c
    rw [List.eraseIdx_append_of_length_le (by omega), lt, Nat.sub_self, if_pos rfl, List.eraseIdx_of_length_le (l := l.take s) (by omega)]
    rfl
  · rw [List.eraseIdx_append_of_length_le (by omega), lt, if_neg (by omega), List.eraseIdx_of_length_le (l := l.take i) (by omega), List.eraseIdx_of_length_le (l := [x]) (by simp only [List.length_cons, List.length_nil]; omega)]
/-- either end first, then the equal ones left out: the same -/
theorem nrm_filter (f : Int → Int) (L : List (Int × Int)) : (L.map fun l => nrm (f l.1, f l.2)).filter (fun l => !decide (l.1 = l.2)) = ((L.map fun l => (f l.1, f l.2)).filter fun l => !decide (l.1 = l.2)).map nrm := by
  induction L with
  | nil => rfl
  | cons l L ih =>
    rw [List.map_cons, List.map_cons, List.filter_cons, List.filter_cons, ih]
    have e : (nrm (f l.1, f l.2)).1 = (nrm (f l.1, f l.2)).2 ↔ f l.1 = f l.2 := by
      unfold nrm
      dsimp only
      omega
    by_cases c : f l.1 = f l.2
    · rw [if_neg (by simp [e.mpr c]), if_neg (by simp [c])]
    · rw [if_pos (by simp [mt e.mp c]), if_pos (by simp [c]), List.map_cons]
theorem two_sorted {a b : Int} {ms : List Int} (p : ms.Perm [a, b]) (s : ms.Pairwise (· ≤ ·)) : ms = [min a b, max a b] := by
  match ms, p.length_eq, s, p with
  | [x, y], _, s, p =>
    have h1 := (List.pairwise_cons.mp s).1 y List.mem_cons_self
    have mx : x = a ∨ x = b := by simpa using p.mem_iff.mp (List.mem_cons_self (a := x) (l := [y]))
    have my : y = a ∨ y = b := by simpa using p.mem_iff.mp (List.mem_cons_of_mem x (List.mem_cons_self (a := y) (l := [])))
    have ma : a = x ∨ a = y := by simpa using p.mem_iff.mpr (List.mem_cons_self (a := a) (l := [b]))
    have mb : b = x ∨ b = y := by simpa using p.mem_iff.mpr (List.mem_cons_of_mem a (List.mem_cons_self (a := b) (l := [])))
    rw [show x = min a b by omega, show y = max a b by omega]

set_option Elab.async false
set_option linter.all false
set_option maxRecDepth 100000
set_option maxHeartbeats 4000000
open PySem PySem.Spec PySem.W PySem.Calls PyProof.Rows L2
/-! # a op b op c op d, as a test -/
section
variable {X : Cx} {a b c d : Expr} {ta tb tc td : TE} {pos : Pos}
def tChain3 (r r' r'' : R2) (ta tb tc td : TE) : TE := fun σ H Q => ta σ H fun x H1 => tb σ H1 fun y H2 => r x y H2 fun z H3 => ∃ k, z = .bl k ∧
  (if k = true then tc σ H3 fun w H4 => r' y w H4 fun z' H5 => ∃ k', z' = .bl k' ∧ (if k' = true then td σ H5 fun u H6 => r'' w u H6 Q else Q (.bl false) H5) else Q (.bl false) H3)
theorem pt_chain3 {op op' op'' : CmpOp} {r r' r'' : R2} (ho : OpR X (compareOp op) r) (ho' : OpR X (compareOp op') r') (ho'' : OpR X (compareOp op'') r'') (ha : PE X a ta) (hb : PE X b tb) (hc : PE X c tc) (hd : PE X d td)
    (hm : lastMarks [op, op', op''] [b, c, d] = false := by with_unfolding_all rfl) : PT X (.Compare a [op, op', op''] [b, c, d] pos) (tTest (tChain3 r r' r'' ta tb tc td)) := by
  refine ⟨fun pins s σ H Q I h => ?_⟩
  refine isTrue_chain (thn (ha.run pins s σ H _ I h) fun v s1 ⟨x, H1, I1, r1, q1⟩ => test_link (thn (hb.run pins s1 σ H1 _ I1 q1) fun u s2 ⟨y, H2, I2, r2, q2⟩ =>
    thn (ho pins s2 σ H2 x y v u _ I2 r1 r2 q2) fun d s3 ⟨z, H3, I3, r3, k, e, q3⟩ => ?_)) hm
  subst e
  cases r3
  refine wpAny_truthy_bool ?_
  cases k with
  | false =>
    obtain ⟨k', e', q'⟩ := q3
    cases e'
    exact ite_ff ⟨H3, I3, q'⟩
  | true =>
    refine ite_tt (test_link (thn (hc.run pins s3 σ H3 _ I3 q3) fun w' s4 ⟨z', H4, I4, r4, q4⟩ => thn (ho' pins s4 σ H4 y z' u w' _ I4 r2 r4 q4) fun d' s5 ⟨z2, H5, I5, r5, k2, e2, q5⟩ => ?_))
    subst e2
    cases r5
    refine wpAny_truthy_bool ?_
    cases k2 with
    | false =>
      obtain ⟨k', e', q'⟩ := q5
      cases e'
      exact ite_ff ⟨H5, I5, q'⟩
    | true =>
      refine ite_tt (test_last (thn (hd.run pins s5 σ H5 _ I5 q5) fun w2 s6 ⟨z3, H6, I6, r6, q6⟩ => thn (ho'' pins s6 σ H6 z' z3 w' w2 _ I6 r4 r6 q6) fun d' s7 ⟨z4, H7, I7, r7, k3, e3, q7⟩ => ?_))
      subst e3
      cases r7
      exact wpAny_truthy_bool ⟨H7, I7, q7⟩
end
section
variable {σ : L2.St} {H : Hp} {Q : VK} {ta tb tc td : TE} {r r' r'' : R2}
def Ch3N (r' r'' : R2) (tc td : TE) (σ : L2.St) (Q : VK) (y z : V) (H3 : Hp) : Prop := ∃ k, z = .bl k ∧ (if k = true then tc σ H3 fun w H4 => r' y w H4 fun z' H5 => ∃ k', z' = .bl k' ∧ (if k' = true then td σ H5 fun u H6 => r'' w u H6 Q else Q (.bl false) H5) else Q (.bl false) H3)
def Ch3M (r'' : R2) (td : TE) (σ : L2.St) (Q : VK) (w z : V) (H3 : Hp) : Prop := ∃ k, z = .bl k ∧ (if k = true then td σ H3 fun u H6 => r'' w u H6 Q else Q (.bl false) H3)
theorem r_chain3 (h : ta σ H fun x H1 => tb σ H1 fun y H2 => r x y H2 (Ch3N r' r'' tc td σ Q y)) : tChain3 r r' r'' ta tb tc td σ H Q := h
theorem r_ch3n {y : V} {b : Bool} (h : if b = true then tc σ H fun w H4 => r' y w H4 (Ch3M r'' td σ Q w) else Q (.bl false) H) : Ch3N r' r'' tc td σ Q y (.bl b) H := ⟨b, rfl, h⟩
theorem r_ch3m {w : V} {b : Bool} (h : if b = true then td σ H fun u H6 => r'' w u H6 Q else Q (.bl false) H) : Ch3M r'' td σ Q w (.bl b) H := ⟨b, rfl, h⟩
end

set_option Elab.async false
set_option linter.all false
set_option maxRecDepth 100000
set_option maxHeartbeats 4000000
open PySem PySem.Spec PyProof.Rows L2 LamX
/-! # a lambda of one parameter, handed to a def of two -/
/-- one parameter; else captured names and globals -/
structure LamS1 (x : Str) (sc scope : Scope) : Prop where
  kind : scope.kind = .function
  co : scope.isCoroutine = false
  gen : scope.isGenerator = false
  own : ∀ y ∈ scope.names, (y.2 = .local → y.1 = x) ∧ y.2 ≠ .cell
  par : scope.names.lookup x = some .local
  free : ∀ y ∈ scope.names, y.2 = .free → sc.names.lookup y.1 = some .cell ∨ sc.names.lookup y.1 = some .free
def lamS1B (x : Str) (sc scope : Scope) : Bool :=
  decide (scope.kind = .function) && !scope.isCoroutine && !scope.isGenerator && decide (scope.names.lookup x = some .local) && scope.names.all fun y => (!decide (y.2 = .local) || decide (y.1 = x)) && !decide (y.2 = .cell) && (!decide (y.2 = .free) || decide (sc.names.lookup y.1 = some .cell) || decide (sc.names.lookup y.1 = some .free))
theorem lamS1_by {x : Str} {sc scope : Scope} (h : lamS1B x sc scope = true) : LamS1 x sc scope := by
  unfold lamS1B at h
  simp only [Bool.and_eq_true, Bool.or_eq_true, Bool.not_eq_true', decide_eq_true_eq, decide_eq_false_iff_not, List.all_eq_true] at h
  obtain ⟨⟨⟨⟨h1, h2⟩, h3⟩, h5⟩, h4⟩ := h
  refine ⟨h1, h2, h3, fun y hy => ⟨fun e => ?_, (h4 y hy).1.2⟩, h5, fun y hy e => ?_⟩
  · rcases (h4 y hy).1.1 with z | z
    · exact absurd e z
    · exact z
  · rcases (h4 y hy).2 with (z | z) | z
    · exact absurd e z
    · exact .inl z
    · exact .inr z
theorem LamS1.has {X : Cx} {x : Str} {scope : Scope} (L : LamS1 x X.env.scope scope) (ok : X.Ok) : ∀ y ∈ scope.names, y.2 = .free → ∃ c, X.env.cells.lookup y.1 = some c := fun y hy e => by
  rcases L.free y hy e with k | k
  · exact ok.has _ (.inl k)
  · exact ok.has _ (.inr k)
theorem nodup_at {α : Type} {N : List α} (nd : N.Nodup) {i j : Nat} {x : α} (h1 : N[i]? = some x) (h2 : N[j]? = some x) : i = j := by
  obtain ⟨a1, b1⟩ := List.getElem?_eq_some_iff.mp h1
  obtain ⟨a2, b2⟩ := List.getElem?_eq_some_iff.mp h2
  have pw := List.pairwise_iff_getElem.mp nd
  rcases Nat.lt_trichotomy i j with c | c | c
  · exact absurd (b1.trans b2.symm) (pw _ _ a1 a2 c)
  · exact c
  · exact absurd (b2.trans b1.symm) (pw _ _ a2 a1 c)
section
variable {X : Cx} {pins : List (Addr × Obj)} {σ : L2.St} {H HZ : Hp} {s s1 : Shared}
theorem lam_start1 {A : Around} {outer : List Env} {E : XK} {scope : Scope} {f c' : Addr} {h₁ : Heap} {tk : Nat} {x : Str} {ix : Nat} {xv : V} {u : Value} (I : Inv X pins σ H s) (L : LamS1 x X.env.scope scope) (hx : X.N[ix]? = some x) (hN : X.N.Nodup) (rx : RelV xv u) (e0 : Env0 X.prog X.w X.K X.mg X.base A outer s1 HZ) (hd : A.handled = none)
    (un : Un (frs X.stack) [] H HZ s.heap s1.heap) (hns : h₁.Ns s1.heap.objs.size fun y => ([(x, u)] : List (Str × Value)).reverse.lookup y) (kp : ∀ b o, s1.heap.get? b = some o → h₁.get? b = some o) :
    Inv (lamCx X A outer s1 HZ E scope f c') [] (σ.set ix (some xv)) HZ { s1 with heap := h₁, toks := tk } := by
  have hfree := L.has I.ok
  have cm : ∀ {y c}, (cloFrom X.env.cells scope.names []).lookup y = some c → X.env.cells.lookup y = some c := fun {y c} e => by
    rcases cloFrom_mem (PySem.mem_of_lookup e) with hm | ⟨h1, h2⟩
    · cases hm
    · obtain ⟨c1, hc⟩ := hfree _ h1 rfl
      have hc : X.env.cells.lookup y = some c1 := hc
      have e2 : c = c1 := by
        rw [h2, hc] <;> rfl
      rw [e2]
      exact hc
  have look : ∀ {y}, scope.names.lookup y = some .free → ∃ c, (cloFrom X.env.cells scope.names []).lookup y = some c := fun {y} hl => by
    have hy : (y, NameKind.free) ∈ scope.names := PySem.mem_of_lookup hl
    exact mem_lookup (cloFrom_has (cells := X.env.cells) (acc := []) hy)
  have cellK : ∀ {c : Addr} {v : Option Value}, H c = none → s.heap.IsCell c v → h₁.IsCell c v := fun {c v} n ⟨o, ho, hd⟩ => by
    obtain ⟨sl, q⟩ := un.any ho n (by simp)
    exact ⟨_, kp _ _ q, hd⟩
  have noA : ∀ b : Addr, b ∉ (lamCx X A outer s1 HZ E scope f c').ex := fun b z => absurd (show b ∈ ([] : List Addr) from z) (by simp)
  have ixl : ix < σ.length := by
    rw [I.len]
    exact (List.getElem?_eq_some_iff.mp hx).1
  refine ⟨⟨e0.mod, L.kind, rfl, rfl, Nat.le_refl _, fun y z c e1 e2 => I.ok.inj y z c (cm e1) (cm e2), fun y hy => ?_, fun y c z _ => ?_, fun _ => hd, Around.frames_deeper e0.frames, .inr ⟨rfl, rfl⟩, fun b z => absurd z (noA b), e0.bs, e0.bsz, fun b _ _ => noA b,
      fun b z => absurd z (noA b), e0.funs, e0.frf⟩,
    rfl, e0.bare, Un.kept kp, ⟨_, hns, fun i y v e1 e2 e3 => ?_⟩, fun y c e => ?_, e0.hok.fresh (Nat.le_refl _), fun y c e => ?_, fun q hq => absurd (show q ∈ ([] : List (Addr × Obj)) ++ [] from hq) (by simp), e0.hok.kept kp, by rw [List.length_set]; exact I.len⟩
  · have hy : scope.names.lookup y = some .cell ∨ scope.names.lookup y = some .free := hy
    rcases hy with hy | hy
    · exact absurd rfl (L.own _ (PySem.mem_of_lookup hy)).2
    · exact look hy
  · have z : false = true := z
    cases z
  · have e3 : Vis scope y := e3
    have e1 : X.N[i]? = some y := e1
    by_cases hi : i = ix
    · subst hi
      rw [hx] at e1
      cases e1
      rw [List.getElem?_set_self ixl] at e2
      cases e2
      refine ⟨u, rx, .inl ⟨L.par, ?_⟩⟩
      simp [List.lookup]
    · rw [List.getElem?_set_ne (Ne.symm hi)] at e2
      have yx : y ≠ x := fun e => by
        subst e
        exact hi (nodup_at hN e1 hx)
      rcases e3 with k | k | k
      · exact absurd ((L.own _ (PySem.mem_of_lookup k)).1 rfl) yx
      · exact absurd rfl (L.own _ (PySem.mem_of_lookup k)).2
      · obtain ⟨m, hn, hl⟩ := I.loc
        have hvis : Vis X.env.scope y := (L.free _ (PySem.mem_of_lookup k) rfl).elim (fun k => .inr (.inl k)) (fun k => .inr (.inr k))
        obtain ⟨w', r, q⟩ := hl i y v e1 e2 hvis
        obtain ⟨c2, h2⟩ := look k
        refine ⟨w', r, .inr ⟨.inr k, c2, h2, ?_⟩⟩
        have c1 := cm h2
        rcases q with ⟨k', _⟩ | ⟨_, c3, e', z⟩
        · have k' : X.env.scope.names.lookup y = some .local := k'
          rcases L.free _ (PySem.mem_of_lookup k) rfl with k2 | k2 <;> rw [show X.env.scope.names.lookup y = _ from k2] at k' <;> cases k'
        · rw [c1] at e'
          cases e'
          exact cellK (I.freeC y _ c1) z
  · obtain ⟨w', z⟩ := I.cell y c (cm e)
    exact ⟨w', cellK (I.freeC y c (cm e)) z⟩
  · obtain ⟨v, o, ho, hd⟩ := I.cell y c (cm e)
    exact un.free c o ho (I.freeC y c (cm e)) (by simp)
/-- x(e), in the def that got the lambda -/
theorem pe_act1 {CXg : CXT} {Eg : XK} {Ng : List Str} {qg : Str} {sg : Scope} {g f c' : Addr} {cdg pm ctv : Value} {params : Arguments} {body : Expr} {scope : Scope} {k i ix : Nat} {a x : Str} {pn : List (Addr × Obj)} {xe : Value → Shared → Prop} {W : WX} {E : XK} {tb ta : TE} {arg : Expr} {p1 p2 : Pos}
    (I : Inv X pins σ H s) (L : LamS1 x X.env.scope scope) (hx : X.N[ix]? = some x) (hNd : X.N.Nodup) (hf : s.heap.get? f = some (PySem.W.kla_obj "<lambda>" (X.env.qual ++ "<lambda>") params body scope (cloFrom X.env.cells scope.names []) pm c' ctv)) (hfn : H f = none) (hfr : f ∉ frs X.stack)
    (hbind : ∀ u : Value, bindArgs (PySem.W.kla_fn "<lambda>" (X.env.qual ++ "<lambda>") params body scope (cloFrom X.env.cells scope.names []) pm (.ref c') ctv) ⟨[u], []⟩ = pure [(x, u)])
    (tk : Takes ((cxOf CXg X.prog X.w X.K X.mg X.base Ng qg sg g cdg X.A X.stack s H Eg).tr pn xe) W) (hW : ∀ cls d σ' H', E cls d H' → W cls d σ' H') (hr : Room (k + 1) (X.A.deeper (envOfC qg sg s.heap.objs.size g cdg)))
    (hbody : ∀ (A : Around) (outer : List Env) (s : Shared) (H : Hp), Room k (A.deeper (lamEnv X scope s.heap.objs.size f c')) → PE (lamCx X A outer s H E scope f c') body tb)
    (hN : Ng[i]? = some a) (hv : Vis sg a) (hd : (a == ("__debug__" : Str)) = false) (hcd : (a == ("__classdict__" : Str)) = false)
    (ha : PE ((cxOf CXg X.prog X.w X.K X.mg X.base Ng qg sg g cdg X.A X.stack s H Eg).tr pn xe) arg ta)
    (he : starEach [arg] (envOfC qg sg s.heap.objs.size g cdg) = (false, eval arg (envOfC qg sg s.heap.objs.size g cdg)) :: starEach [] (envOfC qg sg s.heap.objs.size g cdg)) :
    PE ((cxOf CXg X.prog X.w X.K X.mg X.base Ng qg sg g cdg X.A X.stack s H Eg).tr pn xe) (.Call (.Name a p1) [arg] [] p2)
      (fun σZ HZ Q => σZ[i]? = some (some (.ref f)) ∧ ta σZ HZ fun xv H1 => H1 c' = some (CodeO c' (X.env.qual ++ "<lambda>")) ∧ tb (σ.set ix (some xv)) H1 Q) := by
  refine ⟨fun pinsZ sZ σZ HZ Q IZ h => ?_⟩
  obtain ⟨hs, ht⟩ := h
  refine wpAny_Call_Name_kw (thn ((pe_var (pos := p1) (i := i) hN hv hd hcd).run pinsZ sZ σZ HZ (fun v H1 => v = .ref f ∧ H1 = HZ) IZ ⟨.ref f, hs, rfl, rfl⟩) fun u s1 ⟨v, H1, I1, r1, q1⟩ => ?_)
  obtain ⟨ev, eH⟩ := q1
  subst ev
  rw [eH] at I1
  obtain rfl : u = Value.ref f := r1
  have ofF : ∀ {s2 : Shared} {H2 : Hp} {σ2 : L2.St}, Inv ((cxOf CXg X.prog X.w X.K X.mg X.base Ng qg sg g cdg X.A X.stack s H Eg).tr pn xe) pinsZ σ2 H2 s2 → s2.heap.get? f = some (PySem.W.kla_obj "<lambda>" (X.env.qual ++ "<lambda>") params body scope (cloFrom X.env.cells scope.names []) pm c' ctv) := fun I2 => I2.base.keep f _ hf hfn hfr (fun z => nomatch (show f ∈ ([] : List Addr) from z))
  refine PySem.W.callWith_F ⟨_, _, _, _, ofF I1⟩ ?_ he (by rfl)
  show wpAny _ _ (spliced (backTo p2 (starEach [arg] (envOfC qg sg s.heap.objs.size g cdg)))) _ _ s1
  rw [he]
  show wpAny _ _ (spliced ((false, eval arg (envOfC qg sg s.heap.objs.size g cdg)) :: backTo p2 (starEach [] (envOfC qg sg s.heap.objs.size g cdg)))) _ _ s1
  refine Calls.spliced_cons (thn (ha.run pinsZ s1 σZ HZ _ I1 ht) fun u2 s2 ⟨xv, H2, I2, r2, hc, q2⟩ => ?_)
  refine Calls.spliced_nil ⟨⟨_, _, _, _, ofF I2⟩, ?_⟩
  have of1 := ofF I2
  have un : Un (frs X.stack) [] H H2 s.heap s2.heap := I2.base
  obtain ⟨⟨oc, vs, t, hoc, hdc, hvc⟩, _, _⟩ := I2.hok c' _ hc
  have rc : codeAny (model X.prog X.w) (X.A.deeper (envOfC qg sg s.heap.objs.size g cdg)) (.call (.ref f) ⟨[u2], []⟩) (CR (L2.CX X.prog X.w) (envOfC qg sg s.heap.objs.size g cdg :: X.stack) X.prog X.w H2 s2 Q E) s2 := by
    refine PySem.W.kla_callFunE hr.depth of1 rfl L.co L.gen rfl ⟨c', oc, vs, t, rfl, hoc, hdc, hvc⟩ ?_
    rw [hbind]
    refine wpAny_pure (wpAny_newFunctionEnv (fun y hy => (L.own y hy).2) (fun y hy => by rw [List.mem_singleton.mp hy]; exact L.par) (fun h₁ hns hsb => ⟨I2.nolimit.fresh _ hsb, ?_⟩) L.kind)
    show codeAny _ _ (.expr body (lamEnv X scope s2.heap.objs.size f c')) _ _
    have kp : ∀ b o, s2.heap.get? b = some o → h₁.get? b = some o := fun b o e => hsb.extBut b o (Nat.ne_of_lt (Heap.lt_size e)) (Heap.get?_push_of_some _ e)
    have J : Inv (lamCx X (X.A.deeper (envOfC qg sg s.heap.objs.size g cdg)) (envOfC qg sg s.heap.objs.size g cdg :: X.stack) s2 H2 E scope f c') [] (σ.set ix (some xv)) H2 { s2 with heap := h₁, toks := s2.toks + ([(x, u2)] : List (Str × Value)).length } :=
      lam_start1 I L hx hNd r2 I2.env0 hr.hd un hns kp
    refine PySem.W.kla_codeExpr (wpAny_mono ((hbody _ _ s2 H2 (hr.deeper _)).run [] _ _ H2 Q J q2) (fun v s' hq => ?_) fun e s' hq => hq)
    obtain ⟨w', H', J', rv, q⟩ := hq
    exact ⟨w', H', J'.os, J'.bare, J'.base, J'.hok, rv, q⟩
  have hxp : Passes (L2.CX X.prog X.w) ((cxOf CXg X.prog X.w X.K X.mg X.base Ng qg sg g cdg X.A X.stack s H Eg).tr pn xe) E := passes_call tk hW
  refine wpAny_call (codeAny_mono rc fun r s' hq => ?_)
  cases r with
  | error e => exact hxp pinsZ σZ H2 s2 e s' I2 hq
  | ok fl =>
    cases fl with
    | ret u => exact I2.after hq
    | next => exact False.elim hq
    | brk => exact False.elim hq
    | cont => exact False.elim hq
end
/-- the def that calls what it got: TT tells what it makes of the lambda's reading (by the argument) and of its own second argument -/
def GivesTo2 (X : Cx) (Ng : List Str) (x : Str) (sg : Scope) (g : Addr) (cdg : Value) (bg : List Stmt) (a : Str) (q : Str) (k : Nat) (TT : (V → Hp → VK → Prop) → V → Hp → VK → Prop) : Prop :=
  ∀ (f c' : Addr) (s : Shared) (H : Hp) (Q : VK) (v2 : V) (tl : V → Hp → VK → Prop), Room (k + 1) (X.A.deeper (envOfC x sg s.heap.objs.size g cdg)) →
    (∀ (arg : Expr) (ta : TE) (p1 p2 : Pos), PE (cxOf C8.CX0 X.prog X.w X.K X.mg X.base Ng x sg g cdg X.A X.stack s H C8.E0).nox arg ta →
      starEach [arg] (envOfC x sg s.heap.objs.size g cdg) = (false, eval arg (envOfC x sg s.heap.objs.size g cdg)) :: starEach [] (envOfC x sg s.heap.objs.size g cdg) →
      PE (cxOf C8.CX0 X.prog X.w X.K X.mg X.base Ng x sg g cdg X.A X.stack s H C8.E0).nox (.Call (.Name a p1) [arg] [] p2) (fun σZ HZ Q => σZ[0]? = some (some (.ref f)) ∧ ta σZ HZ fun xv H1 => H1 c' = some (CodeO c' q) ∧ tl xv H1 Q)) →
    H c' = some (CodeO c' q) → TT tl v2 H Q →
    ∃ t, PSs (cxOf C8.CX0 X.prog X.w X.K X.mg X.base Ng x sg g cdg X.A X.stack s H C8.E0).nox bg t ∧ t { nx := fun _ H' => Q .non H', rt := Q } (L2.start Ng [.ref f, v2]) H
def tLam2 (T : List (Addr × Str)) (TT : (V → Hp → VK → Prop) → V → Hp → VK → Prop) (ix j : Nat) (t : TE) : TE := fun σ H Q => Tabs T H ∧ ∃ v2, σ[j]? = some (some v2) ∧ ∀ H1, ExtN H H1 → Tabs T H1 → TT (fun xv H' Q' => t (σ.set ix (some xv)) H' Q') v2 H1 Q
section
variable {X : Cx}
/-- x(lambda y: body, z) -/
theorem pe_lamcall2 {T : List (Addr × Str)} {TT : (V → Hp → VK → Prop) → V → Hp → VK → Prop} {x a b y z : Str} {g c P : Addr} {k ix j : Nat} {pg : Arguments} {bg : List Stmt} {sg : Scope} {dV kV doc pm cdv ct oc : Value} {an od : Option Addr} {osl : Array (Option Value)} {Ng : List Str}
    {params : Arguments} {body : Expr} {scope : Scope} {t : TE} {p p3 lpos pos : Pos} (hg : Gl X x) (hm : X.mg x = some (.ref g)) (hk : PySem.W.keepIn X.K (.ref g) = true)
    (lk : X.K.lookup g = some ⟨oc, od, .func (PySem.W.fnOf x x pg bg sg dV kV doc pm an cdv ct), osl⟩) (hcg : PySem.W.codeIn X.K cdv x = true) (hb : L2.Binds X.K (PySem.W.fnOf x x pg bg sg dV kV doc pm an cdv ct) [a, b] []) (Sg : FnScope Ng [a, b] sg) (hNg : Ng[0]? = some a) (hva : Vis sg a)
    (hG : GivesTo2 X Ng x sg g cdv bg a (X.env.qual ++ "<lambda>") k TT)
    (TB : TabB X.base X.mg c P) (hcode : X.env.code = .ref c) (hmT : (P, X.env.qual ++ "<lambda>") ∈ T) (hu : ∀ p ∈ T, p.1 = P → p.2 = X.env.qual ++ "<lambda>") (hr : Room (k + 2) X.A) (L : LamS1 y X.env.scope scope) (hdef : defaultsOf params X.env = ([], []))
    (hbind : ∀ (q : Str) (cl : List (Str × Addr)) (pm cv ctv : Value) (u : Value), bindArgs (PySem.W.kla_fn "<lambda>" q params body scope cl pm cv ctv) ⟨[u], []⟩ = pure [(y, u)])
    (hix : X.N[ix]? = some y) (hNd : X.N.Nodup) (hj : X.N[j]? = some z) (hvz : Vis X.env.scope z)
    (hbody : ∀ (A : Around) (outer : List Env) (s : Shared) (H : Hp) (f c' : Addr), Room k (A.deeper (lamEnv X scope s.heap.objs.size f c')) → PE (lamCx X A outer s H C8.E0 scope f c') body t)
    (hdb : (x == ("__debug__" : Str)) = false := by decide) (hd : (a == ("__debug__" : Str)) = false := by decide) (hcd : (a == ("__classdict__" : Str)) = false := by decide) (hdz : (z == ("__debug__" : Str)) = false := by decide) (hcz : (z == ("__classdict__" : Str)) = false := by decide) :
    PE X (.Call (.Name x p) [.Lambda params body scope lpos, .Name z p3] [] pos) (tLam2 T TT ix j t) := by
  refine ⟨fun pins s σ H Q I h => ?_⟩
  obtain ⟨hT, v2, hv2, h⟩ := h
  refine wpAny_Call_Name_kw (ld_glob I hg hm ?_ hdb)
  refine PySem.W.callWith_K (h₀ := X.base) I.ok.mod.kin hk ?_ (by rfl) (by rfl)
  show wpAny _ _ (spliced ((false, eval (.Lambda params body scope lpos) X.env) :: backTo pos (starEach [.Name z p3] X.env))) _ _ s
  refine Calls.spliced_cons (lam_make2 I TB hcode hmT hu hT hdef (L.has I.ok) fun f c' pm' ctv H1 s' I1 eN T1 hf hfn hfr hco => ?_)
  show wpAny _ _ (spliced ((false, eval (.Name z p3) X.env) :: backTo pos (starEach [] X.env))) _ _ s'
  have fl : f ≠ X.env.locals := fun e => by
    obtain ⟨m, hn, _⟩ := I1.loc
    obtain ⟨o, es, ep, ho, hdat, _⟩ := hn
    rw [← e, hf] at ho
    cases ho
    cases hdat
  have ffs : f ∉ X.fs := fun hm9 => by
    rcases I1.ok.stk with e | ⟨e, _⟩
    · exact hfr (by rw [e]; exact hm9)
    · refine hfr ?_
      rw [e]
      unfold frs
      rw [List.filterMap_cons]
      split
      · exact hm9
      · exact List.mem_cons_of_mem _ hm9
  have Ip : Inv X (pins ++ [(f, PySem.W.kla_obj "<lambda>" (X.env.qual ++ "<lambda>") params body scope (cloFrom X.env.cells scope.names []) pm' c' ctv)]) σ H1 s' := I1.pins_of fun q hq => by
    rcases List.mem_append.mp hq with e | e
    · exact I1.pin q (List.mem_append_right _ e)
    · rw [List.mem_singleton.mp e]
      exact ⟨hf, hfn, fl, ffs, fun v e9 => by cases e9⟩
  refine Calls.spliced_cons (thn ((pe_var (pos := p3) (i := j) hj hvz hdz hcz).run _ s' σ H1 (fun v H' => v = v2 ∧ H' = H1) Ip ⟨v2, hv2, rfl, rfl⟩) fun u2 s2 ⟨v, H', I2, r2, ev, eH⟩ => ?_)
  subst ev
  subst eH
  have hf2 : s2.heap.get? f = some (PySem.W.kla_obj "<lambda>" (X.env.qual ++ "<lambda>") params body scope (cloFrom X.env.cells scope.names []) pm' c' ctv) := (I2.pin _ (List.mem_append_right _ (List.mem_append_right _ (List.mem_singleton.mpr rfl)))).1
  have I3 : Inv X pins σ H' s2 := I2.unpinned
  refine Calls.spliced_nil ⟨I3.kIn, ?_⟩
  have rc : codeAny (model X.prog X.w) X.A (.call (.ref g) ⟨[.ref f, u2], []⟩) (CR C8.CX0 X.stack X.prog X.w H' s2 Q C8.E0) s2 := by
    refine run_ofS (N := Ng) (ps := [a, b]) (us := [.ref f, u2]) (vs := [.ref f, v]) lk hcg Sg hr I3.env0 (hb s2 [.ref f, u2] I3.kIn rfl) (.cons rfl (.cons r2 .nil)) rfl fun hr' => ?_
    obtain ⟨t', ht', hq'⟩ := hG f c' s2 H' Q v (fun xv H'' Q' => t (σ.set ix (some xv)) H'' Q') hr' (fun arg ta p1 p2 hpe hst => by
      have := pe_act1 (CXg := C8.CX0) (Eg := C8.E0) (E := C8.E0) (W := fun _ _ _ _ => False) (i := 0) (p1 := p1) (p2 := p2) (pn := []) (xe := fun _ _ => False) I3 L hix hNd hf2 hfn hfr (fun u => hbind _ _ _ _ _ u) LamX.takes0 (fun _ _ _ _ h => h) hr' (fun A outer s H hr2 => hbody A outer s H f c' hr2) hNg hva hd hcd hpe hst
      exact this) hco (h H' eN T1)
    exact ⟨t', ht'.nox, hq'⟩
  refine wpAny_call (codeAny_mono rc fun r s4 hq => ?_)
  cases r with
  | error e => exact (show False from hq).elim
  | ok fl =>
    cases fl with
    | ret u => exact I3.after hq
    | next => exact False.elim hq
    | brk => exact False.elim hq
    | cont => exact False.elim hq
end

set_option Elab.async false
set_option linter.all false
set_option maxRecDepth 100000
set_option maxHeartbeats 4000000
open PySem PySem.Spec PySem.W PySem.Calls PyProof.Rows L2
/-! # dicts whose keys are tuples: {k: v}, sorted(d) -/
section
variable {X : Cx}
def tDisp1 (tk tv : TE) : TE := fun σ H Q => ∀ p, H p = none → tk σ (upd H p (.dT [])) fun y H1 => tv σ H1 fun z H2 => PutT p (Q (.ref p)) y z H2
theorem pe_disp1 {k v : Expr} {tk tv : TE} {pos : Pos} (hu : X.A.units + 64 < cLine) (hk : PE X k tk) (hv : PE X v tv) : PE X (.Dict [some k] [v] pos) (tDisp1 tk tv) := by
  refine ⟨fun pins s σ H Q I q => ?_⟩
  have hn := I.hok.fresh (Nat.le_refl s.heap.objs.size)
  have I1 := I.laid (a := s.heap.objs.size) (o := .dT []) (h' := s.heap.push { cls := .type "dict", data := .dict #[] }) (t' := s.toks) (fun _ _ q => Heap.get?_push_of_some _ q) (Nat.le_refl _) (dt_empty s.heap I.big)
  rw [arm_eval_Dict, zip_pairTrees [some k] [v] X.env pos rfl rfl, dictDisplay_pairs _ (by intro e; cases e) (by show 1 < 17; decide)]
  refine wpAny_bind (wpAny_standAt (wpAny_bind ?_))
  unfold subDict
  refine wpAny_bind (wpAny_alloc ?_)
  refine wpAny_bind (wpAny_holding ?_)
  rw [if_pos (by show 1 ≤ 15; decide)]
  refine wpAny_bind (pairTrees_cons_walk (thn (hk.run pins _ σ _ _ I1 (q _ hn)) fun u s2 ⟨y, H2, I2, r2, q2⟩ => thn (hv.run pins _ σ _ _ I2 q2) fun r s3 ⟨z, H3, I3, r3, q3⟩ => pairTrees_nil_walk ?_))
  refine wpAny_holding ?_
  show wpAny _ _ (forIn [(u, r)] PUnit.unit _ >>= _) _ _ _
  rw [List.forIn_cons]
  refine wpAny_bind (wpAny_bind (wpAny_bind (putT_ok hu I3 r2 r3 q3 fun s4 H4 I4 n4 => wpAny_pure ?_)))
  dsimp only
  rw [List.forIn_nil]
  refine wpAny_pure (wpAny_pure (wpAny_pure (wpAny_pure ?_)))
  exact ⟨.ref s.heap.objs.size, H4, I4, rfl, n4⟩
end
/-- sorted of a dict with tuples as keys -/
def rSortDd (K : PySem.W.Frag) : List V → Hp → VK → Prop := fun vs H Q => ∃ (d : Addr) (kvs : List (List L2.Key × V)) (ds : List PyData), vs = [.ref d] ∧ H d = some (.dT kvs) ∧ (∀ bs : List Addr, IsKeys H kvs bs → DpAll K H (bs.map V.ref) ds) ∧ AllAlike ds ∧ Sortable ds ∧ PyData.depthAll ds ≤ 60 ∧
  ∀ (bs : List Addr) (ys : List V) (es : List PyData) (p : Addr), IsKeys H kvs bs → (ys.zip es).Perm ((bs.map V.ref).zip ds) → ys.length = es.length → ys.Perm (bs.map V.ref) → es.Perm ds → DpAll K H ys es → es.Pairwise (fun d e => dataLt e d = false) → H p = none → Q (.ref p) (upd H p (.lst ys))
section
variable {X : Cx}
theorem cr_sortDd (hc : X.calm = true) (hu : X.A.units + 64 < cLine) : CallR X (.builtin "sorted") (rSortDd X.K) := by
  intro pins s σ H vs us Q I r h
  obtain ⟨d, kvs, ds, rfl, hd, hdp, al, sb, dep, q⟩ := h
  rw [Vals.ref1 r]
  obtain ⟨z, hs, ks, pr, o, es, ep, ho, hx, hdt, he, hn⟩ := (show ObjOk X.prog X.w H s.heap d (.dT kvs) from I.hok _ _ hd)
  have l1 : es.size = ks.length := size_of_entries he
  have l2 : kvs.length = ks.length := Paired.length pr
  refine call_function_entry_kw kind_sorted plain_sorted entry_sorted (args_sorted1 _) ?_
  unfold Builtin.«sorted»
  refine wpAny_bind (m := checkCount "sorted" 1 1 _) (wpAny_pure ?_)
  refine wpAny_bind (PySem.W.kdu_collect (A := X.A.in1) (kdl_raw hs hx hdt) (I.ok.hd hc) ho (by omega) fun h' tk acc' kp it => ?_)
  have ea : acc'.toList = ks.map fun x => Value.ref x.2.1 := by
    have hl : acc'.toList.length = ks.length := by rw [Array.length_toList, it.1]; exact l1
    apply List.ext_getElem?
    intro j
    rw [List.getElem?_map]
    cases hj : acc'.toList[j]? with
    | none =>
      have h1 := List.getElem?_eq_none_iff.mp hj
      rw [List.getElem?_eq_none (by omega)]
      all_goals rfl
    | some v =>
      obtain ⟨en, hen, hv⟩ := it.2 j v (by rw [← Array.getElem?_toList]; exact hj)
      have qe := entry_at he j
      rw [hen] at qe
      cases hb : ks[j]? with
      | none =>
        rw [hb] at qe
        exact nomatch (show some en = none from qe)
      | some b =>
        rw [hb] at qe
        have e2 : en = entryOfKey (tupleKind (mixKind X.prog X.w)) b := Option.some.inj qe
        rw [hv, e2]
        all_goals rfl
  have eb : acc'.toList = (ks.map fun x => x.2.1).map Value.ref := by rw [ea, List.map_map]; all_goals rfl
  have rv : Vals ((ks.map fun x => x.2.1).map V.ref) acc'.toList := by rw [eb]; exact vals_refs _
  have ik : IsKeys H kvs (ks.map fun x => x.2.1) := isKeys_of pr
  have hd9 := hdp _ ik
  generalize (ks.map fun x => x.2.1) = bs at eb rv ik hd9
  have lb : (bs.map V.ref).length = ks.length := by
    rw [List.length_map]
    have := Paired.length ik
    omega
  have I1 : Inv X pins σ H { s with heap := h', toks := tk } := I.kept kp
  obtain ⟨e1, e2⟩ := each_of I1 rv hd9
  have hlen9 : acc'.toList.length ≤ sizeLine := by
    have := rv.length
    omega
  refine wpAny_bind (wpAny_newList ?_ hlen9)
  have hoL : (h'.push (seqObj "list" acc'.toList.toArray 0)).get? h'.objs.size = some (seqObj "list" acc'.toList.toArray 0) := Heap.get?_push_size _ rfl
  show wpAny _ _ _ _ _ { s with heap := h'.push (seqObj "list" acc'.toList.toArray 0), toks := tk }
  have oldS : ∀ b u, h'.get? b = some u → (sortingHeap (h'.push (seqObj "list" acc'.toList.toArray 0)) h'.objs.size acc'.toList).get? b = some u := fun b u e => sortingHeap_old (Nat.ne_of_lt (Heap.lt_size e)) (Heap.get?_push_of_some _ e)
  have er' : EachIs (fun v (b : V × PyData) => ∃ as, Reads (sortingHeap (h'.push (seqObj "list" acc'.toList.toArray 0)) h'.objs.size acc'.toList) v b.2 as) acc'.toList ((bs.map V.ref).zip ds) := e2.mono fun _ _ ⟨as, r⟩ => ⟨as, PyProof.Rows.Reads.keeps oldS r⟩
  have es9 := zip_snd hd9
  have S := SortsAt.data (prog := X.prog) (w := X.w) (A := X.A.in1.in1) (s := { s with heap := sortingHeap (h'.push (seqObj "list" acc'.toList.toArray 0)) h'.objs.size acc'.toList, toks := tk }) (each_map (R := fun v d => ∃ as, Reads (sortingHeap (h'.push (seqObj "list" acc'.toList.toArray 0)) h'.objs.size acc'.toList) v d as) (Prod.snd (α := V)) er') (by rw [es9]; exact al) (by rw [es9]; exact sb) (bound_map (fun b hb => by
    have := deep_mem (ds := ds) (d := b.2) (by rw [← es9]; exact List.mem_map.mpr ⟨b, hb, rfl⟩)
    show X.A.units + 2 + b.2.depth < cLine
    generalize b.2.depth = k at this ⊢
    omega))
  refine wpAny_bind (wpAny_holding (wpAny_call_entry_kw slot_list_sort ⟨_, hoL, rfl⟩ entry_list_sort (list_sort_vals (s := { s with heap := h'.push (seqObj "list" acc'.toList.toArray 0), toks := tk }) hoL S hlen9 ⟨_, rfl, ?_⟩) (args_list_sort _)))
  refine wpAny_pure ⟨_, rfl, ?_⟩
  have out := sortVals_data (h' := sortingHeap (h'.push (seqObj "list" acc'.toList.toArray 0)) h'.objs.size acc'.toList) false e1 er' (by rw [es9]; exact al)
  show EP X pins σ Q (.ref h'.objs.size) { s with heap := sortedHeap (h'.push (seqObj "list" acc'.toList.toArray 0)) h'.objs.size acc'.toList (sortVals (dataKind (sortingHeap (h'.push (seqObj "list" acc'.toList.toArray 0)) h'.objs.size acc'.toList) (List.map Prod.snd ((bs.map V.ref).zip ds))) false acc'.toList acc'.toList).toArray, toks := tk }
  generalize sortVals (dataKind (sortingHeap (h'.push (seqObj "list" acc'.toList.toArray 0)) h'.objs.size acc'.toList) (List.map Prod.snd ((bs.map V.ref).zip ds))) false acc'.toList acc'.toList = outl at out ⊢
  have lz : ((bs.map V.ref).zip ds).length = (bs.map V.ref).length := by
    have := dp_len hd9
    rw [List.length_zip]
    omega
  have pm : (((bs.map V.ref).zip ds).mergeSort (dataLe false Prod.snd)).Perm ((bs.map V.ref).zip ds) := List.mergeSort_perm _ _
  have pw : (((bs.map V.ref).zip ds).mergeSort (dataLe false Prod.snd)).Pairwise (fun a b => dataLe false Prod.snd a b = true) := List.pairwise_mergeSort (fun a b c h1 h2 => by
    rw [dataLe_eq] at *
    exact dLe_trans _ _ _ h1 h2) (fun a b => by
    rw [dataLe_eq]
    exact dLe_total _ _) _
  have hv := vals_each out
  generalize ((bs.map V.ref).zip ds).mergeSort (dataLe false Prod.snd) = cs at pm pw hv
  have p1 : (cs.map Prod.fst).Perm (bs.map V.ref) := by
    have z := pm.map Prod.fst
    have l3 : ds.length = (bs.map V.ref).length := by rw [← es9, List.length_map, lz]
    rwa [List.map_fst_zip (by omega)] at z
  have p2 : (cs.map Prod.snd).Perm ds := by
    have z := pm.map Prod.snd
    rwa [es9] at z
  obtain ⟨e', he'⟩ := sortedHeap_at (vs := acc'.toList) (out := outl.toArray) hoL
  refine ⟨.ref h'.objs.size, upd H h'.objs.size (.lst (cs.map Prod.fst)), I1.laid (t' := tk) (fun b u e => ?_) (Nat.le_refl _) ⟨?_, outl, e', hv, he'⟩, rfl, q bs _ (cs.map Prod.snd) _ ik (by rw [zip_back]; exact pm) (by rw [List.length_map, List.length_map]) p1 p2 (dp_zip fun b hb => zip_dp hd9 b (pm.mem_iff.mp hb)) ?_ (I1.hok.fresh (Nat.le_refl _))⟩
  · have hb : b < h'.objs.size := Heap.lt_size e
    rw [PyProof.Rows.sortedHeap_old (Nat.ne_of_lt hb) (by rw [size_push']; exact Nat.lt_succ_of_lt hb)]
    exact Heap.get?_push_of_some _ e
  · rw [p1.length_eq]
    omega
  · refine List.pairwise_map.mpr (pw.imp fun {a b} h => ?_)
    rw [dataLe_eq] at h
    have h : (!dataLt b.2 a.2) = true := h
    rwa [Bool.not_eq_true'] at h
theorem cr_sortDdK {K : PySem.W.Frag} (h : X.K = K) (hc : X.calm = true) (hu : X.A.units + 64 < cLine) : CallR X (.builtin "sorted") (rSortDd K) := h ▸ cr_sortDd hc hu
end

set_option Elab.async false
set_option linter.all false
set_option maxRecDepth 100000
set_option maxHeartbeats 4000000
open PySem PySem.Spec PySem.W PyProof.Rows L2 LamX
/-! # all but the tables stand -/
theorem ext_same {H H' : Hp} (s : Same H H') : ExtN H H' := fun b o h _ => s b o h
theorem ext_mut {H H' : Hp} {p : Addr} {o : HO} (x : ExtN H H') (h : H p = none) : ExtN H (upd H' p o) := fun b u e n => by
  rw [upd_ne (ne_of_none e h)]
  exact x b u e n
theorem ext_tk {H H' : Hp} (x : ExtN H H') : TK H H' := fun b xs e => x b _ e (fun ps z => nomatch z)
theorem ext_lst {H H' : Hp} (x : ExtN H H') {a : Addr} {xs : List V} (h : H a = some (.lst xs)) : H' a = some (.lst xs) := x a _ h (fun ps z => nomatch z)
theorem ext_tup {H H' : Hp} (x : ExtN H H') {a : Addr} {xs : List V} (h : H a = some (.tup xs)) : H' a = some (.tup xs) := x a _ h (fun ps z => nomatch z)
theorem ext_dT {H H' : Hp} (x : ExtN H H') {a : Addr} {xs : List (List L2.Key × V)} (h : H a = some (.dT xs)) : H' a = some (.dT xs) := x a _ h (fun ps z => nomatch z)
theorem tabs_same {T : List (Addr × Str)} {H H' : Hp} (t : Tabs T H) (s : Same H H') : Tabs T H' := t.ext s
theorem tabs_upd {T : List (Addr × Str)} {H : Hp} {f : Addr} {u o : HO} (t : Tabs T H) (hf : H f = some u) (n1 : ∀ ps, u ≠ .tbl ps) (n2 : ∀ c q, u ≠ CodeO c q) : Tabs T (upd H f o) := fun p hp => by
  obtain ⟨ps, h1, h2, h3⟩ := t p hp
  refine ⟨ps, ?_, h2, fun pos cv hc => ?_⟩
  · rw [upd_ne (fun z => by rw [z, hf] at h1; exact n1 ps (Option.some.inj h1))]
    exact h1
  · obtain ⟨c, e1, e2⟩ := h3 pos cv hc
    refine ⟨c, e1, ?_⟩
    rw [upd_ne (fun z => by subst z; rw [hf] at e2; exact n2 _ p.2 (Option.some.inj e2))]
    exact e2
theorem tabs_lst {T : List (Addr × Str)} {H : Hp} {f : Addr} {xs : List V} {o : HO} (t : Tabs T H) (hf : H f = some (.lst xs)) : Tabs T (upd H f o) := tabs_upd t hf (fun _ z => nomatch z) (fun c q z => by unfold CodeO at z; cases z)
theorem tabs_dT {T : List (Addr × Str)} {H : Hp} {f : Addr} {xs : List (List L2.Key × V)} {o : HO} (t : Tabs T H) (hf : H f = some (.dT xs)) : Tabs T (upd H f o) := tabs_upd t hf (fun _ z => nomatch z) (fun c q z => by unfold CodeO at z; cases z)
theorem TK.dT {H : Hp} {d : Addr} {xs : List (List L2.Key × V)} {o : HO} (h : H d = some (.dT xs)) : TK H (upd H d o) := fun b ys e => by
  rw [upd_ne (fun n => by rw [n, h] at e; cases e)]
  exact e
/-! # dicts with pairs as keys -/
def kk (p : Int × Int) : List L2.Key := [.inl p.1, .inl p.2]
theorem kk_inj {p q : Int × Int} (h : kk p = kk q) : p = q := by
  unfold kk at h
  simp only [List.cons.injEq, Sum.inl.injEq, and_true] at h
  exact Prod.ext h.1 h.2
theorem kk_tup {H : Hp} {b : Addr} {p : Int × Int} (h : H b = some (.tup [.int p.1, .int p.2])) : H b = some (.tup ((kk p).map kV)) := h
theorem kk_mem {p : Int × Int} {ks : List (Int × Int)} : kk p ∈ ks.map kk ↔ p ∈ ks := by
  constructor
  · intro h
    obtain ⟨q, hq, e⟩ := List.mem_map.mp h
    rw [← kk_inj e]
    exact hq
  · exact fun h => List.mem_map.mpr ⟨p, h, rfl⟩
theorem valK {kvs : List (List L2.Key × V)} {ks : List (Int × Int)} (h : kvs.map (·.1) = ks.map kk) (p : Int × Int) : (valV kvs (kk p)).isSome = decide (p ∈ ks) := by
  cases e : valV kvs (kk p) with
  | none =>
    have := valV_not e
    rw [h, kk_mem] at this
    exact (decide_eq_false this).symm
  | some v =>
    have := valV_in e
    rw [h, kk_mem] at this
    exact (decide_eq_true this).symm
theorem valK_none {kvs : List (List L2.Key × V)} {ks : List (Int × Int)} (h : kvs.map (·.1) = ks.map kk) {p : Int × Int} (n : p ∉ ks) : valV kvs (kk p) = none := by
  have := valK h p
  rw [decide_eq_false n] at this
  cases e : valV kvs (kk p) with
  | none => rfl
  | some v =>
    rw [e] at this
    cases this
theorem putKK {kvs : List (List L2.Key × V)} {ks : List (Int × Int)} (h : kvs.map (·.1) = ks.map kk) {p : Int × Int} (v : V) (n : p ∉ ks) : (putK kvs (kk p) v).map (·.1) = (ks ++ [p]).map kk := by
  rw [putK_new v (valK_none h n), List.map_append, List.map_append, h]
  rfl
theorem putKO {kvs : List (List L2.Key × V)} {ks : List (Int × Int)} (h : kvs.map (·.1) = ks.map kk) {p : Int × Int} (v : V) (n : p ∈ ks) : (putK kvs (kk p) v).map (·.1) = ks.map kk := by
  have e : (kvs.any fun kv => decide (kv.1 = kk p)) = true := by
    rw [valV_any, valK h, decide_eq_true n]
  unfold putK
  rw [if_pos e, List.map_map, ← h]
  refine List.map_congr_left fun kv _ => ?_
  show (if kv.1 = kk p then (kv.1, v) else kv).1 = kv.1
  split <;> rfl
section
variable {X : Cx} {σ : L2.St} {H : Hp} {Q : VK} {D : L2.Ends}
def DputN (D : L2.Ends) (σ : L2.St) (v x : V) : VK := fun y H3 => ∃ a H4, x = .ref a ∧ DPut H3 a y v H4 ∧ D.nx σ H4
theorem r_dput {td ty tv : TE} (h : tv σ H fun v H1 => td σ H1 fun x H2 => ty σ H2 (DputN D σ v x)) : sDPut td ty tv D σ H := h
theorem r_dputT {v : V} {a b : Addr} {kvs : List (List L2.Key × V)} {k : List L2.Key} (h : H a = some (.dT kvs)) (hb : H b = some (.tup (k.map kV))) (l : kvs.length < sizeLine) (q : D.nx σ (upd H a (.dT (putK kvs k v)))) : DputN D σ v (.ref a) (.ref b) H := ⟨a, _, rfl, .t h hb l, q⟩
theorem r_dnewT (q : ∀ p, H p = none → Q (.ref p) (upd H p (.dT []))) : tDNewT σ H Q := q
theorem r_disp1 {tk tv : TE} (q : ∀ p, H p = none → tk σ (upd H p (.dT [])) fun y H1 => tv σ H1 fun z H2 => PutT p (Q (.ref p)) y z H2) : tDisp1 tk tv σ H Q := q
theorem r_putT {p b : Addr} {N : Hp → Prop} {kvs : List (List L2.Key × V)} {k : List L2.Key} {z : V} (h : H p = some (.dT kvs)) (hb : H b = some (.tup (k.map kV))) (l : kvs.length < sizeLine) (q : N (upd H p (.dT (putK kvs k z)))) : PutT p N (.ref b) z H := ⟨kvs, k, b, rfl, h, hb, l, q⟩
end
/-! # a dict's keys in order -/
theorem deep_prD : ∀ ps : List (Int × Int), PyData.depthAll (ps.map prD2) ≤ 1
  | [] => by simp [PyData.depthAll]
  | p :: ps => by
    have h1 := deep_prD ps
    rw [List.map_cons]
    simp only [PyData.depthAll]
    have : (prD2 p).depth ≤ 1 := by simp [prD2, PyData.depth, PyData.depthAll]
    omega
theorem al_prD (ps : List (Int × Int)) : AllAlike (ps.map prD2) := AllAlike.of fun p q => by simp [prD2, alike, alikeAll]
theorem so_prD (ps : List (Int × Int)) : Sortable (ps.map prD2) := Sortable.tuples fun p => ⟨_, _, rfl⟩
theorem zip_all2 {α β : Type} {f : α → β} : ∀ {ys : List α} {es : List β}, ys.length = es.length → (∀ z ∈ ys.zip es, z.2 = f z.1) → es = ys.map f
  | [], [], _, _ => rfl
  | [], _ :: _, h, _ => by simp at h
  | _ :: _, [], h, _ => by simp at h
  | y :: ys, e :: es, h, k => by
    rw [List.map_cons, ← zip_all2 (by simpa using h) fun z hz => k z (by rw [List.zip_cons_cons]; exact List.mem_cons_of_mem _ hz)]
    have e1 : e = f y := k (y, e) (by rw [List.zip_cons_cons]; exact List.mem_cons_self)
    rw [e1]
theorem zip_prD {H : Hp} : ∀ {xs : List V} {ps : List (Int × Int)}, Prs H xs ps → ∀ z ∈ xs.zip (ps.map prD2), z.2 = prD2 (kP H z.1)
  | _, _, .nil, z, h => by simp at h
  | _, _, .cons a t, z, h => by
    rw [List.map_cons, List.zip_cons_cons] at h
    rcases List.mem_cons.mp h with rfl | h
    · rw [a.k]
    · exact zip_prD t z h
theorem lt_prD {p q : Int × Int} : dataLt (prD2 q) (prD2 p) = false ↔ leP p q := by
  show dataLt (.tuple [.int q.1, .int q.2]) (.tuple [.int p.1, .int p.2]) = false ↔ _
  rw [dataLt_ii, decide_eq_false_iff_not]
  unfold leP
  omega
theorem sort_prD {H : Hp} {xs ys : List V} {ps : List (Int × Int)} {es : List PyData} (hp : Prs H xs ps) (z : (ys.zip es).Perm (xs.zip (ps.map prD2))) (l : ys.length = es.length) (pm : ys.Perm xs) (pw : es.Pairwise (fun d e => dataLt e d = false)) : Prs H ys (ys.map (kP H)) ∧ (ys.map (kP H)).Perm ps ∧ (ys.map (kP H)).Pairwise leP := by
  have at_ : ∀ y ∈ ys, IsP H y (kP H y) := fun y hy => by
    obtain ⟨p, _, f⟩ := pd_mem hp (pm.mem_iff.mp hy)
    rw [f.k]
    exact f
  have e := zip_all2 (f := fun v => prD2 (kP H v)) l fun w hw => zip_prD hp w (z.mem_iff.mp hw)
  refine ⟨prs_of_k at_, ?_, ?_⟩
  · rw [← prs_k hp]
    exact pm.map _
  · rw [e] at pw
    exact List.pairwise_map.mpr ((List.pairwise_map.mp pw).imp fun {a b} h => lt_prD.mp h)
theorem keys_prs {H : Hp} : ∀ {kvs : List (List L2.Key × V)} {bs : List Addr} {ks : List (Int × Int)}, IsKeys H kvs bs → kvs.map (·.1) = ks.map kk → Prs H (bs.map V.ref) ks
  | _, _, [], .nil, _ => .nil
  | _, _, _ :: _, .nil, e => by simp at e
  | _, _, [], .cons _ _, e => by simp at e
  | _, _, k :: ks, .cons (a := kv) (b := b) h t, e => by
    rw [List.map_cons, List.map_cons] at e
    obtain ⟨e1, e2⟩ := List.cons.inj e
    refine .cons ⟨b, rfl, ?_⟩ (keys_prs t e2)
    have h : H b = some (.tup (kv.1.map kV)) := h
    have e1 : kv.1 = kk k := e1
    rw [e1] at h
    exact h
theorem r_sortDd {K : PySem.W.Frag} {H : Hp} {Q : VK} {d : Addr} {kvs : List (List L2.Key × V)} {ks : List (Int × Int)} (h : H d = some (.dT kvs)) (hk : kvs.map (·.1) = ks.map kk) (q : ∀ ys qs p, Prs H ys qs → qs.Perm ks → qs.Pairwise leP → H p = none → Q (.ref p) (upd H p (.lst ys))) : rSortDd K [.ref d] H Q :=
  ⟨d, kvs, ks.map prD2, rfl, h, fun bs ik => (keys_prs ik hk).dps, al_prD ks, so_prD ks, by have := deep_prD ks; omega, fun bs ys es p ik z l pm _ _ pw hn => by
    obtain ⟨h1, h2, h3⟩ := sort_prD (keys_prs ik hk) z l pm pw
    exact q ys _ p h1 h2 h3 hn⟩
/-! # what can be reached -/
inductive Rch {α : Type} (R : α → α → Prop) (a : α) : α → Prop
  | refl : Rch R a a
  | step {b c : α} : Rch R a b → R b c → Rch R a c
theorem Rch.trans {α : Type} {R : α → α → Prop} {a b c : α} (h : Rch R a b) (k : Rch R b c) : Rch R a c := by
  induction k with
  | refl => exact h
  | step _ r ih => exact .step ih r
theorem Rch.symm {α : Type} {R : α → α → Prop} (sy : ∀ x y, R x y → R y x) {a b : α} (h : Rch R a b) : Rch R b a := by
  induction h with
  | refl => exact .refl
  | step _ r ih => exact Rch.trans (.step .refl (sy _ _ r)) ih
theorem Rch.closed {α : Type} {R : α → α → Prop} {S : α → Prop} {a b : α} (ha : S a) (cl : ∀ x y, S x → R x y → S y) (h : Rch R a b) : S b := by
  induction h with
  | refl => exact ha
  | step _ r ih => exact cl _ _ ih r
theorem Rch.congr {α : Type} {R R' : α → α → Prop} (e : ∀ x y, R x y → R' x y) {a b : α} (h : Rch R a b) : Rch R' a b := by
  induction h with
  | refl => exact .refl
  | step _ r ih => exact .step ih (e _ _ r)

set_option Elab.async false
set_option linter.all false
set_option maxRecDepth 100000
set_option maxHeartbeats 4000000
open PySem PySem.Spec PySem.W PyProof.Rows L2 LamX
/-! # dicts with ints as keys -/
theorem ext_dK {H H' : Hp} (x : ExtN H H') {a : Addr} {xs : List (L2.Key × V)} (h : H a = some (.dK xs)) : H' a = some (.dK xs) := x a _ h (fun ps z => nomatch z)
theorem tabs_dK {T : List (Addr × Str)} {H : Hp} {f : Addr} {xs : List (L2.Key × V)} {o : HO} (t : Tabs T H) (hf : H f = some (.dK xs)) : Tabs T (upd H f o) := tabs_upd t hf (fun _ z => nomatch z) (fun c q z => by unfold CodeO at z; cases z)
theorem TK.dK {H : Hp} {d : Addr} {xs : List (L2.Key × V)} {o : HO} (h : H d = some (.dK xs)) : TK H (upd H d o) := fun b ys e => by
  rw [upd_ne (fun n => by rw [n, h] at e; cases e)]
  exact e
theorem valI_mem {kvs : List (L2.Key × V)} {ks : List Int} (h : kvs.map (·.1) = ks.map Sum.inl) (p : Int) : (valV kvs (.inl p)).isSome = decide (p ∈ ks) := by
  have mm : (Sum.inl p : L2.Key) ∈ ks.map (Sum.inl : Int → L2.Key) ↔ p ∈ ks := by
    constructor
    · intro h
      obtain ⟨q, hq, e⟩ := List.mem_map.mp h
      cases e
      exact hq
    · exact fun h => List.mem_map.mpr ⟨p, h, rfl⟩
  cases e : valV kvs (.inl p) with
  | none =>
    have := valV_not e
    rw [h, mm] at this
    exact (decide_eq_false this).symm
  | some v =>
    have := valV_in e
    rw [h, mm] at this
    exact (decide_eq_true this).symm
theorem valI_none {kvs : List (L2.Key × V)} {ks : List Int} (h : kvs.map (·.1) = ks.map Sum.inl) {p : Int} (n : p ∉ ks) : valV kvs (.inl p) = none := by
  have := valI_mem h p
  rw [decide_eq_false n] at this
  cases e : valV kvs (.inl p) with
  | none => rfl
  | some v =>
    rw [e] at this
    cases this
theorem putKI {kvs : List (L2.Key × V)} {ks : List Int} (h : kvs.map (·.1) = ks.map Sum.inl) {p : Int} (v : V) (n : p ∉ ks) : (putK kvs (.inl p) v).map (·.1) = (ks ++ [p]).map Sum.inl := by
  rw [putK_new v (valI_none h n), List.map_append, List.map_append, h]
  rfl
section
variable {X : Cx} {σ : L2.St} {H : Hp} {Q : VK} {D : L2.Ends}
theorem r_dnK {a : Addr} {kvs : List (L2.Key × V)} {i : Int} (h : H a = some (.dK kvs)) (q : Q (.bl (!(valV kvs (.inl i)).isSome)) H) : DnN Q (.int i) (.ref a) H := ⟨a, _, rfl, DGet.k (k := .inl i) h, q⟩
def DinN (Q : VK) (y : V) : VK := fun x H2 => ∃ a o, x = .ref a ∧ DGet H2 a y o ∧ Q (.bl o.isSome) H2
theorem r_din {td ty : TE} (h : ty σ H fun y H1 => td σ H1 (DinN Q y)) : tDIn ty td σ H Q := h
theorem r_diK {a : Addr} {kvs : List (L2.Key × V)} {i : Int} (h : H a = some (.dK kvs)) (q : Q (.bl (valV kvs (.inl i)).isSome) H) : DinN Q (.int i) (.ref a) H := ⟨a, _, rfl, DGet.k (k := .inl i) h, q⟩
theorem r_dputK {v : V} {a : Addr} {kvs : List (L2.Key × V)} {i : Int} (h : H a = some (.dK kvs)) (l : kvs.length < sizeLine) (q : D.nx σ (upd H a (.dK (putK kvs (.inl i) v)))) : DputN D σ v (.ref a) (.int i) H := ⟨a, _, rfl, DPut.k (k := .inl i) h l, q⟩
/-- {k: v} with ints -/
def DispN (Q : VK) (p : Addr) (x y : V) : Hp → Prop := fun H2 => H2 p = some (.dK []) ∧ ∃ kvs : List (L2.Key × V), [(x, y)] = kvs.map (fun kv => (kV kv.1, kv.2)) ∧ kvs.length ≤ 15 ∧ Q (.ref p) (upd H2 p (.dK (mergeK [] kvs)))
theorem r_dispI {tk tv : TE} (q : ∀ p, H p = none → tk σ (upd H p (.dK [])) fun x H1 => tv σ H1 fun y H2 => DispN Q p x y H2) : tDisp [(tk, tv)] σ H Q := q
theorem r_dispN {p : Addr} {i : Int} {y : V} (h : H p = some (.dK [])) (q : Q (.ref p) (upd H p (.dK [(.inl i, y)]))) : DispN Q p (.int i) y H := ⟨h, [(.inl i, y)], rfl, by simp, q⟩
end
/-! # enumerate over a list -/
section
variable {X : Cx} {K : PySem.W.Frag} {σ : L2.St} {H : Hp} {Q : VK} {nx : L2.St → Hp → Prop}
theorem PI.enumLK {tg e : Expr} {ta : TA} (h : X.K = K) (p : PI X tg e (iEnum X.K ta)) : PI X tg e (iEnum K ta) := h ▸ p
def EnL (K : PySem.W.Frag) (R : It → Hp → Prop) : List V → Hp → Prop := fun vs H1 => ∃ a xs, vs = [.ref a] ∧ SqL K H1 a xs ∧ R (Ite K a) H1
theorem r_enumL {ta : TA} {R : It → Hp → Prop} (h : ta σ H (EnL K R)) : iEnum K ta σ H R := h
theorem r_enL {a : Addr} {xs : List V} {R : It → Hp → Prop} (h : SqL K H a xs) (q : R (Ite K a) H) : EnL K R [.ref a] H := ⟨a, xs, rfl, h, q⟩
theorem forR_enumL {a : Addr} {xs : List V} {g : TG} {tb : TS} (Pv : Nat → L2.St → Hp → Prop) (h0 : Pv 0 σ H) (hl : ∀ i σ H, i ≤ xs.length → Pv i σ H → SqL K H a xs)
    (hs : ∀ (i : Nat) x σ H T, xs[i]? = some x → Pv i σ H → H T = none → g (.ref T) σ (upd H T (.tup [.int (i : Nat), x])) fun σ2 H2 => tb ⟨Pv (i + 1), Q, nx, Pv (i + 1)⟩ σ2 H2) (hd : ∀ σ H, Pv xs.length σ H → nx σ H) : ForR (Ite K a) g tb nx Q σ H := by
  refine ⟨fun i m σ H => (m = xs.length - i ∧ i ≤ xs.length) ∧ Pv i σ H, ⟨_, ⟨rfl, Nat.zero_le _⟩, h0⟩, fun i m σ H ⟨⟨em, hi⟩, p⟩ => ?_⟩
  subst em
  have hq := hl i σ H hi p
  rcases Nat.lt_or_ge i xs.length with c | c
  · refine .inr ⟨⟨xs, xs[i], hq, List.getElem?_eq_getElem c⟩, Pv (i + 1), fun σ' H' p' => ⟨_, by omega, ⟨rfl, c⟩, p'⟩, fun x H' ⟨T, y, e1, e2, e3, e4⟩ => ?_⟩
    subst e1 e3
    exact hs i y σ H T (e4 xs hq) p e2
  · have e : i = xs.length := by omega
    exact .inl ⟨⟨xs, hq, c⟩, hd σ H (e ▸ p)⟩
end
theorem asc_low {ns : List Int} (asc : ns.Pairwise (· < ·)) {i : Nat} {v : Int} (hv : ns[i]? = some v) {z : Int} (hz : z ∈ ns) : z < v ↔ z ∈ ns.take i := by
  obtain ⟨hi, ev⟩ := List.getElem?_eq_some_iff.mp hv
  have pw := List.pairwise_iff_getElem.mp asc
  constructor
  · intro lt
    obtain ⟨j, hj, ej⟩ := List.mem_iff_getElem.mp hz
    rcases Nat.lt_or_ge j i with c | c
    · refine List.mem_iff_getElem.mpr ⟨j, by rw [List.length_take]; omega, ?_⟩
      rw [List.getElem_take]
      exact ej
    · rcases Nat.lt_or_ge i j with c2 | c2
      · have := pw i j hi hj c2
        omega
      · obtain rfl : i = j := by omega
        omega
  · intro h
    obtain ⟨j, hj, ej⟩ := List.mem_iff_getElem.mp h
    rw [List.length_take] at hj
    rw [List.getElem_take] at ej
    have := pw j i (by omega) hi (by omega)
    omega
/-! # a def that knows its own code -/
theorem okV {P : Program} {w : World} {K : PySem.W.Frag} {mg : Str → Option Value} {base : Heap} {x qual : Str} {st : Stmt} {f : Addr} {fd : FuncData} {N ps : List Str} {k : Nat} {sp : Sp} (F : Fun K x qual st f fd) (S : FnScope N ps (defScope st)) (len : ∀ vs H Q E, sp vs H Q E → vs.length = ps.length)
    (body : ∀ (cdv : Value) (A : Around) (outer : List Env) (s : Shared) (H : Hp) (vs : List V) (Q : VK) (E : XK), fd.code = cdv → Room k (A.deeper (envOfC qual (defScope st) s.heap.objs.size f cdv)) → sp vs H Q E →
      ∃ t, PSs (cxOf CX0 P w K mg base N qual (defScope st) f cdv A outer s H E).nox (defBody st) t ∧ t { nx := fun _ H' => Q .non H', rt := Q } (L2.start N vs) H) : FnOk P w K mg base CX0 (k + 1) f fd ps sp := by
  obtain ⟨oc, od, kV, doc, pm, an, cdv, ct, osl, rfl, lk, hcd⟩ := F.ex
  exact fn_of lk hcd S len fun A outer s H vs Q E hr hsp => by
    obtain ⟨t, h, q⟩ := body cdv A outer s H vs Q E rfl hr hsp
    exact ⟨t, h.nox, q⟩
/-- the name of a lambda in the def x -/
def lamN (x : Str) : Str := (envOfC x default 0 0 .none).qual ++ "<lambda>"
theorem tabsGr {T : List (Addr × Str)} {H H' : Hp} {a : Addr} {xs : List V} (g : Gr a H H') (ha : H a = some (.lst xs)) (t : Tabs T H) : Tabs T H' := fun p hp => by
  obtain ⟨ps, h1, h2, h3⟩ := t p hp
  refine ⟨ps, g _ _ (fun z => by rw [z, ha] at h1; cases h1) h1, h2, fun pos cv hc => ?_⟩
  obtain ⟨c, e1, e2⟩ := h3 pos cv hc
  exact ⟨c, e1, g _ _ (fun z => by
    subst z
    rw [ha] at e2
    unfold CodeO at e2
    cases e2) e2⟩
theorem atI_end {xs : List V} {x : V} : atI (xs ++ [x]) (-1) = some x := by
  unfold atI ixN
  rw [if_neg (by decide), if_pos (by rw [List.length_append]; simp only [List.length_cons, List.length_nil]; omega), Option.bind_some, List.length_append]
  rw [show ((-1 : Int) + ((xs.length + [x].length : Nat) : Int)).toNat = xs.length by simp only [List.length_cons, List.length_nil]; omega]
  rw [List.getElem?_append_right (Nat.le_refl _), Nat.sub_self]
  rfl

set_option Elab.async false
set_option linter.all false
set_option maxRecDepth 100000
set_option maxHeartbeats 4000000
open PySem PySem.Spec PyProof.Rows L2 LamX
/-! # all(.. for x in ..) over anything that PI serves -/
/-- the generator's own scope: its name, the walked thing, captured names, globals -/
structure GenS1 (x : Str) (sc scope : Scope) : Prop where
  kind : scope.kind = .function
  co : scope.isCoroutine = false
  own : ∀ y ∈ scope.names, (y.2 = .local → y.1 = x ∨ y.1 = (".0" : Str)) ∧ y.2 ≠ .cell
  dot : scope.names.lookup (".0" : Str) = some .local
  par : scope.names.lookup x = some .local
  free : ∀ y ∈ scope.names, y.2 = .free → sc.names.lookup y.1 = some .cell ∨ sc.names.lookup y.1 = some .free
def genS1B (x : Str) (sc scope : Scope) : Bool :=
  decide (scope.kind = .function) && !scope.isCoroutine && decide (scope.names.lookup (".0" : Str) = some .local) && decide (scope.names.lookup x = some .local) && scope.names.all fun y => (!decide (y.2 = .local) || decide (y.1 = x) || decide (y.1 = (".0" : Str))) && !decide (y.2 = .cell) && (!decide (y.2 = .free) || decide (sc.names.lookup y.1 = some .cell) || decide (sc.names.lookup y.1 = some .free))
theorem genS1_by {x : Str} {sc scope : Scope} (h : genS1B x sc scope = true) : GenS1 x sc scope := by
  unfold genS1B at h
  simp only [Bool.and_eq_true, Bool.or_eq_true, Bool.not_eq_true', decide_eq_true_eq, decide_eq_false_iff_not, List.all_eq_true] at h
  obtain ⟨⟨⟨⟨h1, h2⟩, h3⟩, h5⟩, h4⟩ := h
  refine ⟨h1, h2, fun y hy => ⟨fun e => ?_, (h4 y hy).1.2⟩, h3, h5, fun y hy e => ?_⟩
  · rcases (h4 y hy).1.1 with (z | z) | z
    · exact absurd e z
    · exact .inl z
    · exact .inr z
  · rcases (h4 y hy).2 with (z | z) | z
    · exact absurd e z
    · exact .inl z
    · exact .inr z
theorem GenS1.has {X : Cx} {x : Str} {scope : Scope} (L : GenS1 x X.env.scope scope) (ok : X.Ok) : ∀ y ∈ scope.names, y.2 = .free → ∃ c, X.env.cells.lookup y.1 = some c := fun y hy e => by
  rcases L.free y hy e with k | k
  · exact ok.has _ (.inl k)
  · exact ok.has _ (.inr k)
abbrev gEnv (X : Cx) (scope : Scope) (C : Addr) (code : Value) : Env := genEnv scope (cloFrom X.env.cells scope.names []) C code builtinsNs X.env
/-- the context of the element, entered at s -/
def genCx (X : Cx) (A : Around) (s : Shared) (H : Hp) (scope : Scope) (C : Addr) (code : Value) (fp : List Addr) : Cx where
  prog := X.prog
  w := X.w
  K := X.K
  mg := X.mg
  base := X.base
  A := A
  N := X.N
  s_0 := s
  H_0 := H
  env := gEnv X scope C code
  outer := X.stack
  stack := gEnv X scope C code :: X.stack
  ex := fp
  fn := fun _ => false
  calm := true
  pn := []
  xe := fun _ _ => False
section
variable {X : Cx} {pins : List (Addr × Obj)} {σ : L2.St} {H : Hp} {s : Shared}
theorem gen_code {T : List (Addr × Str)} {c P : Addr} {scope : Scope} {gpos : Pos} {Q E : Value → Shared → Prop} (I : Inv X pins σ H s) (TB : LamX.TabB X.base X.mg c P) (hcode : X.env.code = .ref c)
    (hm : (P, X.env.qual ++ "<genexpr>") ∈ T) (hu : ∀ p ∈ T, p.1 = P → p.2 = X.env.qual ++ "<genexpr>") (hT : Tabs T H)
    (h : ∀ (code : Value) (H1 : Hp) (h' : Heap) (tk : Nat), Inv X pins σ H1 { s with heap := h', toks := tk } → ExtN H H1 → Tabs T H1 → (∀ b o, b ≠ P → s.heap.get? b = some o → h'.get? b = some o) → H P ≠ none → (∀ b o, s.heap.get? b = some o → H b = none → H1 b = none) → Q code { s with heap := h', toks := tk }) :
    wpAny (model X.prog X.w) X.A (genexprCode X.env gpos (X.env.qual ++ "<genexpr>") scope) Q E s := by
  obtain ⟨ps, hP, ht, ha⟩ := hT _ hm
  have hPs : s.heap.get? P = some { cls := .none, data := .fields ps } := I.hok P _ hP
  have cd : PySem.W.CodeHd s.heap c P := TB.code.keeps I.bk
  have hPn : H P ≠ none := by rw [hP]; exact fun z => nomatch z
  cases hf : codeAmong gpos ps.toList with
  | none =>
    refine wpAny_genexprCodeX hcode (cd.code hPs ht) (cd.tab hPs) hf fun c' h' tk hx hge hlt hco' hrec htab' _ => ?_
    obtain ⟨c2, oc, vs, t, e2, hoc, hd, hv⟩ := hrec
    cases e2
    have nC : H c' = none := I.hok.fresh hge
    have I1 := inv_table (q := X.env.qual ++ "<genexpr>") (t' := tk) (more := #[rawInt gpos.line, rawInt gpos.col, .ref c']) (h' := h') I hP hx htab'.2 hge ⟨oc, vs, t, hoc, hd, hv⟩
    have hE : ExtN H (upd (upd H P (.tbl (ps ++ #[rawInt gpos.line, rawInt gpos.col, .ref c']))) c' (CodeO c' (X.env.qual ++ "<genexpr>"))) := fun b o e n => by
      rw [upd_ne (ne_of_none e nC), upd_ne (fun z => n ps (Option.some.inj (e.symm.trans (by rw [z]; exact hP))))]
      exact e
    have eL : (ps ++ #[rawInt gpos.line, rawInt gpos.col, .ref c']).toList = ps.toList ++ [rawInt gpos.line, rawInt gpos.col, .ref c'] := by simp
    refine h _ _ h' tk I1 hE (fun p hp => ?_) hx hPn fun b o e n => ?_
    · by_cases hb : p.1 = P
      · rw [hu p hp hb, hb]
        refine ⟨_, by rw [upd_ne (ne_of_none hP nC), upd_same], by rw [eL]; exact PySem.TriplesOk_snoc _ _ _ _ ht, fun p' cv hcv => ?_⟩
        rw [eL] at hcv
        rcases among_app _ ht hcv with z | z
        · obtain ⟨c0, e1, e2⟩ := ha p' cv z
          exact ⟨c0, e1, hE _ _ e2 codeO_ne⟩
        · exact ⟨c', z, upd_same⟩
      · obtain ⟨ps', a1, a2, a3⟩ := hT p hp
        refine ⟨ps', by rw [upd_ne (ne_of_none a1 nC), upd_ne hb]; exact a1, a2, fun p' cv hcv => ?_⟩
        obtain ⟨c0, e1, e2⟩ := a3 p' cv hcv
        exact ⟨c0, e1, hE _ _ e2 codeO_ne⟩
    · rw [upd_ne (Nat.ne_of_lt (Nat.lt_of_lt_of_le (Heap.lt_size e) hge)), upd_ne (fun z => hPn (by have z : b = P := z; rw [← z]; exact n))]
      exact n
  | some cv =>
    refine wpAny_genexprCode_hit hcode (cd.code hPs ht) hf ?_
    exact h cv H s.heap s.toks I (ExtN.refl H) hT (fun _ _ _ e => e) hPn fun _ _ _ n => n
theorem gen_start {A : Around} {scope : Scope} {x : Str} {ix : Nat} {code it : Value} {fp : List Addr} {h' : Heap} {tk : Nat} {g' : Array GenState} (I : Inv X pins σ H s) (L : GenS1 x X.env.scope scope) (hx : X.N[ix]? = some x) (hN : X.N.Nodup) (h0 : (".0" : Str) ∉ X.N)
    (hd : A.handled = none) (hfr : A.frames = some (gEnv X scope s.heap.objs.size code :: X.stack)) (hfp : ∀ b ∈ fp, FpOk X pins H b ∧ b < s.heap.objs.size)
    (hns : h'.Ns s.heap.objs.size fun y => if y = ".0" then some it else none) (kp : ∀ b o, s.heap.get? b = some o → h'.get? b = some o) (hg : AllBare g') :
    Inv (genCx X A s H scope s.heap.objs.size code fp) [] (wipe σ [ix]) H { s with heap := h', toks := tk, gens := g' } := by
  have hfree := L.has I.ok
  have cm : ∀ {y c}, (cloFrom X.env.cells scope.names []).lookup y = some c → X.env.cells.lookup y = some c := fun {y c} e => by
    rcases cloFrom_mem (PySem.mem_of_lookup e) with hm | ⟨h1, h2⟩
    · cases hm
    · obtain ⟨c1, hc⟩ := hfree _ h1 rfl
      have hc : X.env.cells.lookup y = some c1 := hc
      have e2 : c = c1 := by
        rw [h2, hc] <;> rfl
      rw [e2]
      exact hc
  have look : ∀ {y}, scope.names.lookup y = some .free → ∃ c, (cloFrom X.env.cells scope.names []).lookup y = some c := fun {y} hl => by
    have hy : (y, NameKind.free) ∈ scope.names := PySem.mem_of_lookup hl
    exact mem_lookup (cloFrom_has (cells := X.env.cells) (acc := []) hy)
  have cellK : ∀ {c : Addr} {v : Option Value}, s.heap.IsCell c v → h'.IsCell c v := fun {c v} ⟨o, ho, hd⟩ => ⟨_, kp _ _ ho, hd⟩
  have okZ : (genCx X A s H scope s.heap.objs.size code fp).Ok := by
    refine ⟨I.ok.mod, L.kind, I.ok.glob, rfl, Nat.le_refl _, fun y z c e1 e2 => I.ok.inj y z c (cm e1) (cm e2), fun y hy => ?_, fun y c z _ => ?_, fun _ => hd, hfr, .inr ⟨rfl, rfl⟩, fun b hb => ⟨?_, fun y c e z => ?_⟩, I.bs, Nat.le_trans I.ok.bsz I.sz, fun b o e hb => ?_, fun b hb z => ?_, I.stack, I.stkFree⟩
    · have hy : scope.names.lookup y = some .cell ∨ scope.names.lookup y = some .free := hy
      rcases hy with hy | hy
      · exact absurd rfl (L.own _ (PySem.mem_of_lookup hy)).2
      · exact look hy
    · have z : false = true := z
      cases z
    · exact Nat.ne_of_lt (hfp b hb).2
    · exact (hfp b hb).1.2.2.2.2.1 y c (cm e) z
    · rcases (hfp b hb).1.2.2.2.1 with z | z
      · exact I.ok.noex b o e z
      · exact absurd (Nat.lt_of_lt_of_le (Heap.lt_size e) (Nat.le_trans I.ok.bsz z)) (Nat.lt_irrefl _)
    · rcases List.mem_cons.mp (I.stkSub b z) with z | z
      · exact (hfp b hb).1.2.1 z
      · exact (hfp b hb).1.2.2.1 z
  refine ⟨okZ, rfl, hg, Un.kept kp, ⟨_, hns, fun i y v e1 e2 e3 => ?_⟩, fun y c e => ?_, I.hok.fresh (Nat.le_refl _), fun y c e => I.freeC y c (cm e), fun q hq => absurd (show q ∈ ([] : List (Addr × Obj)) ++ [] from hq) (by simp), I.hok.kept kp, by rw [wipe_length]; exact I.len⟩
  · have e3 : Vis scope y := e3
    have e1 : X.N[i]? = some y := e1
    obtain ⟨e2', hne⟩ := wipe_some e2
    rcases e3 with k | k | k
    · rcases (L.own _ (PySem.mem_of_lookup k)).1 rfl with z | z
      · have z : y = x := z
        subst z
        exact absurd (List.mem_singleton.mpr (nodup_at hN e1 hx)) hne
      · have z : y = (".0" : Str) := z
        subst z
        exact absurd (List.mem_of_getElem? e1) h0
    · exact absurd rfl (L.own _ (PySem.mem_of_lookup k)).2
    · obtain ⟨m, hn, hl⟩ := I.loc
      have hvis : Vis X.env.scope y := (L.free _ (PySem.mem_of_lookup k) rfl).elim (fun k => .inr (.inl k)) (fun k => .inr (.inr k))
      obtain ⟨w', r, q⟩ := hl i y v e1 e2' hvis
      obtain ⟨c2, h2⟩ := look k
      refine ⟨w', r, .inr ⟨.inr k, c2, h2, ?_⟩⟩
      have c1 := cm h2
      rcases q with ⟨k', _⟩ | ⟨_, c3, e', z⟩
      · have k' : X.env.scope.names.lookup y = some .local := k'
        rcases L.free _ (PySem.mem_of_lookup k) rfl with k2 | k2 <;> rw [show X.env.scope.names.lookup y = _ from k2] at k' <;> cases k'
      · rw [c1] at e'
        cases e'
        exact cellK z
  · obtain ⟨w', z⟩ := I.cell y c (cm e)
    exact ⟨w', cellK z⟩
end
/-- what is left once the iterated thing is there -/
def GAll (J : It) (g : TG) (te : TE) (ix : Nat) (σ : L2.St) (Q : VK) (H2 : Hp) : Prop := ∃ W : Nat → Nat → Hp → Prop, (∃ m, W 0 m H2) ∧ ∀ i m H, W i m H → (J.stop i H ∧ Q (.bl true) H) ∨
  (J.go i H ∧ ∃ Nx : Hp → Prop, (∀ H', Nx H' → ∃ m', m' < m ∧ W (i + 1) m' H') ∧ ∀ x H', J.yld i H x H' → g x (wipe σ [ix]) H' fun σ2 H3 => wipe σ2 [ix] = wipe σ [ix] ∧ te σ2 H3 fun y H4 => ∃ b, y = .bl b ∧ if b = true then Nx H4 else Q (.bl false) H4)
def tGenAll (T : List (Addr × Str)) (wi : TI) (g : TG) (te : TE) (ix : Nat) : TE := fun σ H Q => wi σ H fun J H1 => Tabs T H1 ∧ ∀ H2, ExtN H1 H2 → Tabs T H2 → GAll J g te ix σ Q H2
theorem inv_gens {X : Cx} {pins : List (Addr × Obj)} {σ : L2.St} {H : Hp} {s : Shared} (I : Inv X pins σ H s) {g' : Array GenState} (hg : AllBare g') : Inv X pins σ H { s with gens := g' } :=
  ⟨I.ok, I.os, hg, I.base, I.loc, I.cell, I.free, I.freeC, I.pin, I.hok, I.len⟩
theorem bare_set {s : Shared} {g : Nat} {x : GenState} (hb : AllBare s.gens) (hx : x.bare = true) : AllBare (s.setGen g x).gens := fun y hy => by
  show y.bare = true
  have hy : y ∈ s.gens.setIfInBounds g x := hy
  rcases Array.mem_or_eq_of_mem_setIfInBounds hy with z | z
  · exact hb y z
  · rw [z]; exact hx
/-- the generator's object -/
abbrev gObj (n : Nat) (q : Str) (t : Tok) : Obj := { cls := .type "generator", data := .fields #[.int n 0, .str "<genexpr>" (t + 1), .str q (t + 1 + 1)] }
section
variable {X : Cx} {elt iter : Expr} {x : Str} {px : Pos} {scope : Scope} {pos : Pos}
abbrev lCode (elt iter : Expr) (x : Str) (px : Pos) (scope : Scope) (pos : Pos) (it : Value) (ce : Env) : Code := .compLoop (.GeneratorExp elt [⟨.Name x px, iter, [], 0⟩] scope pos) 0 it .none ce
/-- between two items all but the generators' table stands -/
structure Still (s s' : Shared) : Prop where
  heap : s'.heap = s.heap
  os : s'.os = s.os
  bare : AllBare s'.gens
theorem inv_still {Y : Cx} {pins : List (Addr × Obj)} {σ : L2.St} {H : Hp} {s s' : Shared} (I : Inv Y pins σ H s) (z : Still s s') : Inv Y pins σ H s' :=
  ⟨I.ok, z.os.trans I.os, z.bare, by rw [z.heap]; exact I.base, by rw [z.heap]; exact I.loc, by rw [z.heap]; exact I.cell, I.free, I.freeC, by rw [z.heap]; exact I.pin, by rw [z.heap]; exact I.hok, I.len⟩
/-- what a turn's end says, by the answer b; kap: the way on -/
def GYp (Z : Cx) (pg : List (Addr × Obj)) (Q : VK) : Protocol := fun _ _ v s kap => ∃ (b : Bool), v = .bool b ∧ AllBare s.gens ∧ (∃ σ' H', Inv Z pg σ' H' s ∧ (b = false → Q (.bl false) H')) ∧ (b = true → ∀ s', Still s s' → kap (.send .none) s')
def GRp (Z : Cx) (pg : List (Addr × Obj)) (Q : VK) (s₁ : Shared) : Prop := ∃ σ' H', Inv Z pg σ' H' s₁ ∧ Q (.bl true) H'
theorem gen_seg {Z : Cx} {Ag : Around} {J : It} {g : TG} {te : TE} {ix : Nat} {σ : L2.St} {Q : VK} {W : Nat → Nat → Hp → Prop} {fp : List Addr} {tn : Nat → Heap → Prop} {it : Addr} {a : Addr} {go : Obj}
    (ho : Ag.over (lCode elt iter x px scope pos (.ref it) Z.env) [] = Z.A) (hc : Z.calm = true) (hex : Z.ex = fp) (hpn : Z.pn = []) (hco : Z.env.scope.isCoroutine = false) (hxe : Z.xe = fun _ _ => False) (haf : ∀ b ∈ fp, a ≠ b)
    (T : Turn Z.prog Z.w Z.K (.Name x px) J fp it tn) (hg : PG Z (.Name x px) g) (he : PE Z elt te)
    (turn : ∀ i m H, W i m H → (J.stop i H ∧ Q (.bl true) H) ∨ (J.go i H ∧ ∃ Nx : Hp → Prop, (∀ H', Nx H' → ∃ m', m' < m ∧ W (i + 1) m' H') ∧ ∀ x H', J.yld i H x H' → g x (wipe σ [ix]) H' fun σ2 H3 => wipe σ2 [ix] = wipe σ [ix] ∧ te σ2 H3 fun y H4 => ∃ b, y = .bl b ∧ if b = true then Nx H4 else Q (.bl false) H4)) :
    ∀ (m n i : Nat) (s₀ s : Shared) (H : Hp), m < n → W i m H → Inv Z [(a, go)] (wipe σ [ix]) H s → tn i s.heap → (∀ b ∈ fp, H b = none) →
      Seg (model Z.prog Z.w) Ag (fun n s₀ r s₁ => r = .ok .next ∧ GRp Z [(a, go)] Q s₁) (GYp Z [(a, go)] Q) n s₀ (lCode elt iter x px scope pos (.ref it) Z.env) ((model Z.prog Z.w).den (lCode elt iter x px scope pos (.ref it) Z.env)) [] s := by
  have stat : ∀ {σ' : L2.St} {H' : Hp} {s' : Shared}, Inv Z [(a, go)] σ' H' s' → (∀ b ∈ fp, H' b = none) → ∀ b ∈ fp, FpOk Z [(a, go)] H' b := fun {σ' H' s'} I' hn b hb => by
    have hb' : b ∈ Z.ex := by rw [hex]; exact hb
    refine ⟨hn b hb, (I'.ok.exf b hb').1, I'.ok.exfs b hb', .inl hb', fun x c e => (I'.ok.exf b hb').2 x c e, fun p hp => ?_⟩
    rw [hpn] at hp
    have hp : p = (a, go) := List.mem_singleton.mp hp
    rw [hp]
    exact haf b hb
  intro m
  induction m using Nat.strongRecOn with
  | ind m ih =>
    intro n i s₀ s H hmn w I st hn
    show Seg _ Ag _ _ _ s₀ _ ((compTurn (.GeneratorExp elt [⟨.Name x px, iter, [], 0⟩] scope pos) 0 (.ref it) .none Z.env).onRaise (leaving Z.env)) [] s
    rw [compTurn_gen, Sem.onRaise_eq_wrap]
    refine seg_bind_wrap (wpAny_standAt ?_)
    rcases turn i m H w with ⟨stop, qq⟩ | ⟨go', Nx, hNx, step⟩
    · refine seg_bind_wrap ?_
      rw [ho]
      refine wpAny_mono (T.done Z rfl rfl rfl hc i [(a, go)] s _ H (fun _ _ => False) I (stat I hn) st stop) (fun r s1 ⟨e, I1⟩ => ?_) (fun _ _ z => False.elim z)
      subst e
      exact seg_end (.ok .next) ⟨rfl, _, H, I1, qq⟩
    · refine seg_bind_wrap ?_
      rw [ho]
      refine wpAny_mono (T.item Z rfl rfl rfl hc i [(a, go)] s _ H (fun _ _ => False) I (stat I hn) st go') (fun r s1 ⟨u, e, h2⟩ => ?_) (fun _ _ z => False.elim z)
      subst e
      refine seg_bind_wrap ?_
      rw [ho]
      refine wpAny_mono h2 (fun _ s2 ⟨y, H', I2, ry, hy, st2, hn2⟩ => ?_) (fun _ _ z => False.elim z)
      have I2' := I2.pinned (stat I2 hn2) (T.obj _ _ st2)
      refine seg_bind_wrap ?_
      rw [ho]
      refine wpAny_mono (hg.run _ s2 _ H' y u _ I2' ry (step y H' hy)) (fun _ s3 ⟨σ3, H3, I3, hw3, q3⟩ => ?_) (fun e s' z => by rw [hxe] at z; exact False.elim z)
      refine seg_bind_wrap ?_
      rw [ho]
      refine wpAny_tests_nil ?_
      simp only [if_true]
      have hyo : ∀ v, yieldOut Z.env v = yieldValue v := fun v => by simp only [yieldOut, hco, Bool.false_eq_true, if_false]
      simp only [hyo]
      rw [Sem.bind_eq_wrap', Sem.bind_eq_wrap', Sem.wrap_wrap, Sem.wrap_wrap]
      refine seg_wrap ?_
      rw [ho]
      refine wpAny_mono (he.run _ s3 σ3 H3 _ I3 q3) (fun v s4 ⟨yv, H4, I4, r4, b, eb, q4⟩ => ?_) (fun e s' z => by rw [hxe] at z; exact False.elim z)
      subst eb
      have r4 : v = .bool b := r4
      subst r4
      have I4' : Inv Z [(a, go)] σ3 H4 s4 := I4.unpinned
      cases n with
      | zero => exact absurd hmn (Nat.not_lt_zero _)
      | succ n =>
      refine seg_at (seg_yield rfl rfl rfl ⟨b, rfl, I4.bare, ⟨σ3, H4, I4', fun e => ?_⟩, fun e s' z => ?_⟩)
      · subst e
        exact q4
      · subst e
        simp only [if_true] at q4
        obtain ⟨m', hm, w'⟩ := hNx _ q4
        have J4 := inv_still I4 z
        have pin' : ∀ b ∈ fp, ∀ o, s2.heap.get? b = some o → s'.heap.get? b = some o ∧ H4 b = none := fun b hb o e =>
          let z := J4.pin (b, o) (List.mem_append_right _ (List.mem_append_right _ (mem_pinsAt hb e)))
          ⟨z.1, z.2.1⟩
        have hl : (wipe σ [ix]).length = σ3.length := by rw [← hw3, wipe_length]
        refine seg_again rfl (ih m' hm n (i + 1) s' s' H4 (by omega) w' ((J4.unpinned (pins := [(a, go)])).weak hl (fun j v e => ?_)) (T.keep _ _ _ st2 fun b hb o e => (pin' b hb o e).1) fun b hb => ?_)
        · rw [← hw3] at e
          exact (wipe_some e).1
        · obtain ⟨o, e, _⟩ := T.obj _ _ st2 b hb
          exact (pin' b hb o e).2
theorem gen_env_over {Ag : Around} {ce : Env} {it : Addr} : Ag.over (lCode elt iter x px scope pos (.ref it) ce) [] = Ag.deeper ce := by
  first
    | rfl
    | (obtain ⟨hd, d, fr, gs, u⟩ := Ag; simp [Around.over, Around.deeper, marksOver, frameCount, unitsOf, envsOf, guardsOf, pushEnvs, pushGuards, Code.envs, Code.env?, Code.isFrame, Code.guards, Code.isGuard, Code.weight, Code.frames, Code.isCreation, Code.isCaller, Code.cUnits])
/-- the first wake -/
theorem gen_first {Z : Cx} {Ag : Around} {J : It} {Q : VK} {fp : List Addr} {tn : Nat → Heap → Prop} {it : Addr} {a : Addr} {go : Obj}
    (T : Turn Z.prog Z.w Z.K (.Name x px) J fp it tn) {n : Nat} {s₀ s : Shared} (st : tn 0 s.heap)
    (loop : Seg (model Z.prog Z.w) Ag (fun n s₀ r s₁ => r = .ok .next ∧ GRp Z [(a, go)] Q s₁) (GYp Z [(a, go)] Q) n s₀ (lCode elt iter x px scope pos (.ref it) Z.env) ((model Z.prog Z.w).den (lCode elt iter x px scope pos (.ref it) Z.env)) [] s) :
    Seg (model Z.prog Z.w) Ag (fun n s₀ r s₁ => r = .ok .next ∧ GRp Z [(a, go)] Q s₁) (GYp Z [(a, go)] Q) n s₀ (.compStart (.GeneratorExp elt [⟨.Name x px, iter, [], 0⟩] scope pos) 0 (.ref it) .none Z.env) ((model Z.prog Z.w).den (.compStart (.GeneratorExp elt [⟨.Name x px, iter, [], 0⟩] scope pos) 0 (.ref it) .none Z.env)) [] s := by
  show Seg _ Ag _ _ _ s₀ _ ((compStart (.GeneratorExp elt [⟨.Name x px, iter, [], 0⟩] scope pos) 0 (.ref it) .none Z.env).onRaise (leaving Z.env)) [] s
  unfold compStart
  rw [Sem.onRaise_eq_wrap]
  show Seg _ Ag _ _ _ s₀ _ ((ask >>= _).wrap _ _ _ _) [] s
  refine seg_bind_wrap (wpAny_askSetting ?_)
  split
  · exact seg_again rfl loop
  · first
      | exact seg_bind_wrap (wpAny_rule (seg_bind_wrap (wpAny_standAt (seg_bind_wrap (T.self _ 0 s _ _ st (seg_again rfl loop))))))
      | (refine seg_bind_wrap (wpAny_rule ?_); show Seg _ Ag _ _ _ s₀ _ ((standAt iter.pos >>= _).wrap _ _ _ _) [] s; exact seg_bind_wrap (wpAny_standAt (seg_bind_wrap (T.self _ 0 s _ _ st (seg_again rfl loop)))))
end
/-- all, over such a generator -/
theorem all_loop {Z : Cx} {A : Around} {pg : List (Addr × Obj)} {Q : VK} {a : Addr} {gi : Nat} {q : Str} {t : Tok} {R : Result → Shared → Prop} (hh : A.handled = none) (hroom : A.depth < recursionLimit) (hpg : pg = [(a, gObj gi q t)])
    (hR : ∀ b s', (∃ σ' H', Inv Z pg σ' H' s' ∧ Q (.bl b) H') → R (.ok (.ret (.bool b))) s') :
    ∀ (n : Nat) (s : Shared) (gs : GenState) (σ' : L2.St) (H : Hp), Inv Z pg σ' H s → s.gens[gi]? = some gs →
      (gs.Goes (model Z.prog Z.w) A.in1.in1 (fun n s₀ r s₁ => r = .ok .next ∧ GRp Z pg Q s₁) (GYp Z pg Q) n (.send .none) (s.setGen gi .running)) →
      codeAny (model Z.prog Z.w) A (.builtin "all.loop" ⟨[.ref a], []⟩) R s := by
  have isg : ∀ {σ' : L2.St} {H : Hp} {s : Shared}, Inv Z pg σ' H s → s.heap.IsGen a gi := fun {σ' H s} I => by
    have := (I.pin (a, gObj gi q t) (List.mem_append_right _ (by rw [hpg]; exact List.mem_cons_self))).1
    exact ⟨_, _, _, this, rfl, rfl, rfl⟩
  have gsa : ∀ {s₁ : Shared} {x : GenState}, gi + 1 ≤ (s₁.setGen gi x).gens.size → (s₁.setGen gi x).gens[gi]? = some x := fun {s₁ x} h => by
    rw [GenW.setGen_size] at h
    have hlt : gi < s₁.gens.size := h
    simp [Shared.setGen, hlt]
  intro n
  induction n with
  | zero =>
    intro s gs σ' H I hgs hgo
    refine codeAny_builtin F.entry_all_loop ?_
    rw [Around.under_plainId F.plain_all_loop _]
    show wpAny _ A.in1 (pyNext (.ref a) >>= _) _ _ s
    refine wpAny_bind (wpAny_pyNext_genexpQ (P := fun _ _ s₁ => GRp Z pg Q s₁) hh I.nolimit hroom (isg I) hgs hgo (fun v s₁ gs' hb hv => ?_) (fun s₁ hp h' hk => ?_))
    · obtain ⟨b, rfl, hbare, ⟨σ1, H1, I1, qf⟩, kap⟩ := hv
      cases b with
      | true => exact (kap rfl s₁ ⟨rfl, rfl, hbare⟩).elim
      | false =>
        refine wpAny_bind (wpAny_holding (wpAny_truthy_bool ?_))
        refine wpAny_bind (wpAny_letGo ?_)
        simp only [Bool.false_eq_true, if_false]
        refine wpAny_bind (wpAny_rule (wpAny_pure ?_))
        exact hR false _ ⟨σ1, H1, inv_gens I1 (bare_set I1.bare hb), qf rfl⟩
    · obtain ⟨σ1, H1, I1, q1⟩ := hp
      refine wpAny_bind (wpAny_rule (wpAny_pure ?_))
      exact hR true _ ⟨σ1, H1, (inv_gens I1 (bare_set I1.bare rfl)).kept hk, q1⟩
  | succ n ih =>
    intro s gs σ' H I hgs hgo
    have hlt : gi + 1 ≤ s.gens.size := (Array.getElem?_eq_some_iff.mp hgs).1
    refine codeAny_builtin F.entry_all_loop ?_
    rw [Around.under_plainId F.plain_all_loop _]
    show wpAny _ A.in1 (pyNext (.ref a) >>= _) _ _ s
    refine wpAny_bind (GenW.wpAny_gsz hlt (wpAny_pyNext_genexpQ (P := fun _ _ s₁ => GRp Z pg Q s₁) hh I.nolimit hroom (isg I) hgs hgo (fun v s₁ gs' hb hv => ?_) (fun s₁ hp h' hk => ?_)))
    · intro hsz
      obtain ⟨b, rfl, hbare, ⟨σ1, H1, I1, qf⟩, kap⟩ := hv
      have J1 := inv_gens I1 (g' := (s₁.setGen gi gs').gens) (bare_set I1.bare hb)
      refine wpAny_bind (wpAny_holding (wpAny_truthy_bool ?_))
      refine wpAny_bind (wpAny_letGo ?_)
      cases b with
      | true =>
        simp only [if_true]
        refine wpAny_pure ⟨plainId_quiet F.plain_all_loop _, ih _ gs' σ1 H1 J1 (gsa hsz) ?_⟩
        have h2 := kap rfl ((s₁.setGen gi gs').setGen gi .running) ⟨rfl, rfl, bare_set (bare_set I1.bare hb) rfl⟩
        exact h2
      | false =>
        simp only [Bool.false_eq_true, if_false]
        refine wpAny_bind (wpAny_rule (wpAny_pure ?_))
        exact hR false _ ⟨σ1, H1, J1, qf rfl⟩
    · intro hsz
      obtain ⟨σ1, H1, I1, q1⟩ := hp
      refine wpAny_bind (wpAny_rule (wpAny_pure ?_))
      exact hR true _ ⟨σ1, H1, (inv_gens I1 (bare_set I1.bare rfl)).kept hk, q1⟩
section
variable {X : Cx}
/-- all(elt for x in iter) -/
theorem pe_allG {T : List (Addr × Str)} {c P : Addr} {elt iter : Expr} {x : Str} {px p pos gpos : Pos} {scope : Scope} {wi : TI} {g : TG} {te : TE} {ix k : Nat}
    (hr : Room (k + 3) X.A) (hga : Gl X "all") (hma : X.mg "all" = none) (hb : bootBuiltins "all" = some (.builtin "all")) (TB : LamX.TabB X.base X.mg c P) (hcode : X.env.code = .ref c) (hm : (P, X.env.qual ++ "<genexpr>") ∈ T) (hu : ∀ p ∈ T, p.1 = P → p.2 = X.env.qual ++ "<genexpr>")
    (L : GenS1 x X.env.scope scope) (hx : X.N[ix]? = some x) (hN : X.N.Nodup) (h0 : (".0" : Str) ∉ X.N) (hi : PI X (.Name x px) iter wi)
    (hg : ∀ (A : Around) (s : Shared) (H : Hp) (C : Addr) (code : Value) (fp : List Addr), PG (genCx X A s H scope C code fp) (.Name x px) g)
    (hel : ∀ (A : Around) (s : Shared) (H : Hp) (C : Addr) (code : Value) (fp : List Addr), Room k A → PE (genCx X A s H scope C code fp) elt te)
    (hs : ∀ v, genFold iter X.env v = pure v := by intro _; rfl)
    (he : starEach [.GeneratorExp elt [⟨.Name x px, iter, [], 0⟩] scope gpos] X.env = (false, eval (.GeneratorExp elt [⟨.Name x px, iter, [], 0⟩] scope gpos) X.env) :: starEach [] X.env := by rfl) :
    PE X (.Call (.Name "all" p) [.GeneratorExp elt [⟨.Name x px, iter, [], 0⟩] scope gpos] [] pos) (tGenAll T wi g te ix) := by
  refine ⟨fun pins s σ H Q I h => ?_⟩
  refine wpAny_Call_Name_kw (ld_blt I hga hma hb ?_)
  refine PyProof.Rows.callWith_builtin1 ?_ he (by rfl)
  rw [he]
  show wpAny _ _ (spliced ((false, eval (.GeneratorExp elt [⟨.Name x px, iter, [], 0⟩] scope gpos) X.env) :: backTo pos (starEach [] X.env))) _ _ s
  refine Calls.spliced_cons ?_
  refine wpAny_GeneratorExp_make L.co (closure_ok (L.has I.ok)) (fun y hy => (L.own y hy).2) L.dot L.kind (by have := hr.dp; omega) ?_ hs
  refine thn (hi.run pins s σ H _ I h) fun xv s1 h1 => thn h1 fun itv s2 ⟨it, fp, tn, J, H2, e2, I2, Tn, st2, f2, hT, q2⟩ => ?_
  subst e2
  refine ⟨I2.nolimit, ?_⟩
  refine gen_code I2 TB hcode hm hu hT fun code H3 h3 tk3 I3 eN T3 k3 hPn fr3 => ?_
  obtain ⟨bm, ob, e1, e2, _, e4, e5, e6, e7, e8⟩ := TB.bm
  refine wpAny_builtinsFor (m := X.mg) (by rw [I3.ok.glob]; exact I3.mod.glob.keeps I3.bk) e1 e2 (I3.bk _ _ e5) e6 e7 e8 ?_
  intro h' hn' hs'
  refine Calls.spliced_nil ?_
  -- the state ahead of the call
  have keep' : ∀ b o, h3.get? b = some o → h'.get? b = some o := fun b o e => hs'.extBut b o (Nat.ne_of_lt (Heap.lt_size e)) (Heap.get?_push_of_some _ e)
  have keep5 : ∀ (go : Obj) b o, h3.get? b = some o → (h'.push go).get? b = some o := fun go b o e => Heap.get?_push_of_some _ (keep' b o e)
  have hsz : h'.objs.size = h3.objs.size + 1 := by rw [hs'.1, Heap.size_push]
  have sz : ∀ b ∈ fp, b < h3.objs.size ∧ H3 b = none := fun b hb => by
    obtain ⟨o, e, _⟩ := Tn.obj _ _ st2 b hb
    have n := (f2 b hb).1
    have nP : b ≠ P := fun z => hPn (by rw [← z]; exact n)
    exact ⟨Heap.lt_size (k3 b o nP e), fr3 b o e n⟩
  have f3 : ∀ b ∈ fp, FpOk X pins H3 b ∧ b < h3.objs.size := fun b hb => ⟨⟨(sz b hb).2, (f2 b hb).2⟩, (sz b hb).1⟩
  have nofr : ∀ f, h3.objs.size ≤ f → f ∉ frs X.stack := fun f hf z => by
    rcases List.mem_cons.mp (I3.stkSub _ z) with e | e
    · have h1 := I3.lt
      rw [← e] at h1
      exact Nat.lt_irrefl _ (Nat.lt_of_lt_of_le h1 hf)
    · exact I3.nofs hf e
  have hrA : Room k (X.A.in1.in1.deeper (gEnv X scope h3.objs.size code)) := (hr.in1.in1).deeper _
  have J0 := gen_start (A := X.A.in1.in1.deeper (gEnv X scope h3.objs.size code)) (tk := tk3 + 1 + 1 + 1) (h' := h'.push (gObj s2.gens.size (X.env.qual ++ "<genexpr>") tk3)) (g' := s2.gens.push (.fresh (.compStart (.GeneratorExp elt [⟨.Name x px, iter, [], 0⟩] scope gpos) 0 (.ref it) .none (gEnv X scope h3.objs.size code)))) (code := code) (it := .ref it) (fp := fp) I3 L hx hN h0 hrA.hd (Around.frames_deeper I3.ok.frames) f3 (hn'.push _) (keep5 _) (I2.bare.push rfl)
  have nA : H3 h'.objs.size = none := I3.hok.fresh (by show h3.objs.size ≤ _; omega)
  have J : Inv (genCx X (X.A.in1.in1.deeper (gEnv X scope h3.objs.size code)) { s2 with heap := h3, toks := tk3 } H3 scope h3.objs.size code fp) [(h'.objs.size, gObj s2.gens.size (X.env.qual ++ "<genexpr>") tk3)] (wipe σ [ix]) H3 _ := J0.pins_of fun p hp => by
    rw [List.mem_singleton.mp hp]
    refine ⟨Heap.get?_push_size _ rfl, nA, ?_, nofr _ (by show h3.objs.size ≤ h'.objs.size; omega), fun v z => by cases z⟩
    show h'.objs.size ≠ h3.objs.size
    omega
  have st5 : tn 0 (h'.push (gObj s2.gens.size (X.env.qual ++ "<genexpr>") tk3)) := Tn.keep _ _ _ st2 fun b hb o e => keep5 _ b o (k3 b o (fun z => hPn (by rw [← z]; exact (f2 b hb).1)) e)
  obtain ⟨W, ⟨m0, w0⟩, turn⟩ := q2 H3 eN T3
  have loop := gen_seg (elt := elt) (iter := iter) (x := x) (px := px) (scope := scope) (pos := gpos) (it := it) (a := h'.objs.size) (go := gObj s2.gens.size (X.env.qual ++ "<genexpr>") tk3) (Ag := X.A.in1.in1) gen_env_over (rfl : (genCx X (X.A.in1.in1.deeper (gEnv X scope h3.objs.size code)) { s2 with heap := h3, toks := tk3 } H3 scope h3.objs.size code fp).calm = true) rfl rfl L.co rfl (fun b hb => Nat.ne_of_gt (Nat.lt_of_lt_of_le (sz b hb).1 (by rw [hsz]; exact Nat.le_succ _))) Tn (hg _ _ _ _ _ _) (hel _ _ _ _ _ _ hrA) turn m0 (m0 + 1) 0
  refine call_function_tree F.kind_all F.plain_all F.entry_all (F.args_all1 _) ?_
  unfold Builtin.«all»
  refine wpAny_bind (m := oneArg "all" _) (wpAny_pure ?_)
  have isg : (h'.push (gObj s2.gens.size (X.env.qual ++ "<genexpr>") tk3)).IsGen h'.objs.size s2.gens.size := ⟨_, _, _, Heap.get?_push_size _ rfl, rfl, rfl, rfl⟩
  refine wpAny_bind (wpAny_pyIter_gen isg ?_)
  refine wpAny_pure ⟨plainId_quiet F.plain_all_loop _, all_loop (Z := genCx X (X.A.in1.in1.deeper (gEnv X scope h3.objs.size code)) { s2 with heap := h3, toks := tk3 } H3 scope h3.objs.size code fp) (Q := Q) (q := X.env.qual ++ "<genexpr>") (t := tk3) hr.hd hr.depth rfl (fun b s' ⟨σ', H', IZ, q⟩ => ?_) (m0 + 1) _ _ _ _ J (Array.getElem?_push_size ..) ?_⟩
  · refine ⟨rfl, ?_⟩
    refine gen_first (Z := genCx X (X.A.in1.in1.deeper (gEnv X scope h3.objs.size code)) { s2 with heap := h3, toks := tk3 } H3 scope h3.objs.size code fp) (elt := elt) (iter := iter) (x := x) (px := px) (scope := scope) (pos := gpos) Tn ?_ ?_
    · exact st5
    · exact loop _ _ H3 (Nat.lt_succ_self _) w0 (inv_gens J (bare_set (x := .running) J.bare rfl)) st5 fun b hb => (sz b hb).2
  · exact ⟨.bl b, H', I3.call' (ch := fp) IZ.os IZ.base IZ.hok IZ.bare fun b hb => ⟨(f3 b hb).1.2.2.2.1, (f3 b hb).1.2.1, (f3 b hb).1.2.2.2.2.1, (f3 b hb).1.2.2.2.2.2⟩, rfl, q⟩
end

set_option Elab.async false
set_option linter.all false
set_option maxRecDepth 100000
set_option maxHeartbeats 4000000
open PySem PySem.Spec PyProof.Rows L2 LamX
/-! # the readings of all(.. for x in ..) -/
section
variable {K : PySem.W.Frag} {σ : L2.St} {H H2 : Hp} {Q : VK} {g : TG} {te : TE} {ix : Nat}
def GenN (T : List (Addr × Str)) (g : TG) (te : TE) (ix : Nat) (σ : L2.St) (Q : VK) (J : It) (H1 : Hp) : Prop := Tabs T H1 ∧ ∀ H2, ExtN H1 H2 → Tabs T H2 → GAll J g te ix σ Q H2
theorem r_genAll {T : List (Addr × Str)} {wi : TI} (h : wi σ H (GenN T g te ix σ Q)) : tGenAll T wi g te ix σ H Q := h
/-- a turn's end -/
def GenE (N : Hp → Prop) (Q : VK) : VK := fun y H4 => ∃ b, y = .bl b ∧ if b = true then N H4 else Q (.bl false) H4
theorem r_genE {N : Hp → Prop} {b : Bool} (h : if b = true then N H else Q (.bl false) H) : GenE N Q (.bl b) H := ⟨b, rfl, h⟩
theorem r_genT {N : Hp → Prop} (h : N H) : GenE N Q (.bl true) H := ⟨true, rfl, h⟩
theorem r_genF {N : Hp → Prop} (h : Q (.bl false) H) : GenE N Q (.bl false) H := ⟨false, rfl, h⟩
theorem gall_tup {a : Addr} {xs : List V} {σw : L2.St} (Pv : Nat → Hp → Prop) (ew : wipe σ [ix] = σw) (h0 : Pv 0 H2) (hl : ∀ i H, i ≤ xs.length → Pv i H → SqT K H a xs)
    (hs : ∀ (i : Nat) x H, xs[i]? = some x → Pv i H → g x σw H fun σ2 H3 => wipe σ2 [ix] = σw ∧ te σ2 H3 (GenE (Pv (i + 1)) Q)) (hd : ∀ H, Pv xs.length H → Q (.bl true) H) : GAll (Itt K a) g te ix σ Q H2 := by
  subst ew
  refine ⟨fun i m H => m = xs.length - i ∧ i ≤ xs.length ∧ Pv i H, ⟨xs.length, by simp, Nat.zero_le _, h0⟩, ?_⟩
  rintro i m H ⟨rfl, hi, p⟩
  have q := hl i H hi p
  by_cases hlt : i < xs.length
  · refine .inr ⟨⟨xs, xs[i], q, by simp [hlt]⟩, Pv (i + 1), fun H' p' => ⟨xs.length - (i + 1), by omega, rfl, hlt, p'⟩, fun x H' y => ?_⟩
    obtain ⟨e, y⟩ := y
    subst e
    exact hs i x _ (y xs q) p
  · have e : i = xs.length := by omega
    subst e
    exact .inl ⟨⟨xs, q, Nat.le_refl _⟩, hd H p⟩
theorem gall_range {lo : Int} {n : Nat} {σw : L2.St} (Pv : Nat → Hp → Prop) (ew : wipe σ [ix] = σw) (h0 : Pv 0 H2)
    (hs : ∀ (i : Nat) H, i < n → Pv i H → g (.int (lo + i)) σw H fun σ2 H3 => wipe σ2 [ix] = σw ∧ te σ2 H3 (GenE (Pv (i + 1)) Q)) (hd : ∀ H, Pv n H → Q (.bl true) H) : GAll (Itr lo n) g te ix σ Q H2 := by
  subst ew
  refine ⟨fun i m H => m = n - i ∧ i ≤ n ∧ Pv i H, ⟨n, by simp, Nat.zero_le _, h0⟩, ?_⟩
  rintro i m H ⟨rfl, hi, p⟩
  by_cases hlt : i < n
  · refine .inr ⟨hlt, Pv (i + 1), fun H' p' => ⟨n - (i + 1), by omega, rfl, hlt, p'⟩, fun x H' y => ?_⟩
    obtain ⟨e, y⟩ := y
    subst e y
    exact hs i _ hlt p
  · have e : i = n := by omega
    subst e
    exact .inl ⟨Nat.le_refl _, hd H p⟩
end
/-! # set(t) of a tuple of ints, repetitions too -/
def rSetTI (K : PySem.W.Frag) (w : World) : List V → Hp → VK → Prop := fun vs H Q => ∃ (l : Addr) (ns : List Int), vs = [.ref l] ∧ SqT K H l (ns.map V.int) ∧ ns.length ≤ 1000 ∧
  ∀ (p : Addr) (ks : List Int), H p = none → ks.Nodup → (∀ k, k ∈ ks ↔ k ∈ ns) → Q (.ref p) (upd H p (SetO w p (fun j => decide (j ∈ ns)) ks.length))
theorem cr_setTI {X : Cx} {K : PySem.W.Frag} {w : World} (hK : X.K = K) (hw : X.w = w) (hc : X.calm = true) : CallR X (.type "set") (rSetTI K w) := by
  subst hK hw
  intro pins s σ H vs us Q I r h
  obtain ⟨l, ns, rfl, hs, ln, q⟩ := h
  rw [Vals.ref1 r]
  obtain ⟨its, rv, pt, hz⟩ := I.tuple hs
  have hi : IntsAre its.toArray.toList ns := ints_of_vals rv
  refine call_set_tupI ns (I.ok.hd hc) (show s.heap.IsTuple l its.toArray from pt) hi (by unfold scanBound; omega) fun h' tk c R1 hcn k => ?_
  have R2 := R1
  obtain ⟨o, es, ep, t, ho, hex, hdt, g, nd, hm2, hb, hf, hn, hr, hl2⟩ := R1
  have e1 : (es.toList.map keyOf).length = c := by
    rw [List.length_map, ← hn]
    simp
  have hq := q s.heap.objs.size (es.toList.map keyOf) (I.hok.fresh (Nat.le_refl _)) nd fun k => by
    have := hm2 k
    rw [← this, decide_eq_true_eq]
  rw [e1] at hq
  exact ⟨.ref _, _, I.laid (t' := tk) k (Nat.le_refl _) (setO_new R2), rfl, hq⟩
theorem r_setTI {K : PySem.W.Frag} {w : World} {H : Hp} {Q : VK} {l : Addr} {ns : List Int} (h : SqT K H l (ns.map V.int)) (ln : ns.length ≤ 1000) (q : ∀ (p : Addr) (ks : List Int), H p = none → ks.Nodup → (∀ k, k ∈ ks ↔ k ∈ ns) → Q (.ref p) (upd H p (SetO w p (fun j => decide (j ∈ ns)) ks.length))) : rSetTI K w [.ref l] H Q := ⟨l, ns, rfl, h, ln, q⟩
/-- as many as there are different ones -/
theorem nodup_len {ns ks : List Int} (nd : ks.Nodup) (h : ∀ k, k ∈ ks ↔ k ∈ ns) : ks.length = ns.length ↔ ns.Nodup := by
  constructor
  · intro e
    have sub : ∀ {l : List Int} {m : List Int}, m.Nodup → (∀ k ∈ m, k ∈ l) → m.length = l.length → l.Nodup := by
      intro l
      induction l with
      | nil => intro m _ _ _; exact .nil
      | cons a l ih =>
        intro m md ms me
        have e1 : (m.erase a).length ≤ l.length := by
          by_cases c : a ∈ m
          · rw [List.length_erase_of_mem c]
            simp only [List.length_cons] at me
            omega
          · exfalso
            have s2 : ∀ k ∈ m, k ∈ l := fun k hk => by
              rcases List.mem_cons.mp (ms k hk) with z | z
              · rw [z] at hk
                exact absurd hk c
              · exact z
            have := nodup_le m l md s2
            simp only [List.length_cons] at me
            omega
        by_cases c : a ∈ m
        · have md2 := md.erase a
          have ms2 : ∀ k ∈ m.erase a, k ∈ l := fun k hk => by
            have h1 := (md.mem_erase_iff).mp hk
            rcases List.mem_cons.mp (ms k h1.2) with z | z
            · exact absurd z h1.1
            · exact z
          have el : (m.erase a).length = l.length := by
            rw [List.length_erase_of_mem c]
            simp only [List.length_cons] at me
            omega
          refine List.nodup_cons.mpr ⟨fun ha => ?_, ih md2 ms2 el⟩
          have : ∀ k ∈ m, k ∈ l := fun k hk => by
            rcases List.mem_cons.mp (ms k hk) with z | z
            · rw [z]; exact ha
            · exact z
          have := nodup_le m l md this
          simp only [List.length_cons] at me
          omega
        · exfalso
          have s2 : ∀ k ∈ m, k ∈ l := fun k hk => by
            rcases List.mem_cons.mp (ms k hk) with z | z
            · rw [z] at hk
              exact absurd hk c
            · exact z
          have := nodup_le m l md s2
          simp only [List.length_cons] at me
          omega
    exact sub nd (fun k hk => (h k).mp hk) e
  · intro n
    exact Nat.le_antisymm (nodup_le ks ns nd fun k hk => (h k).mp hk) (nodup_le ns ks n fun k hk => (h k).mpr hk)

set_option Elab.async false
set_option linter.all false
set_option maxRecDepth 100000
set_option maxHeartbeats 4000000
open PySem PySem.Spec PyProof.Rows L2 LamX RZ
/-! # data of any kind, none of whose lists stands at a -/
mutual
inductive DA (a : Addr) (H : Hp) : V → PyData → Prop
  | non : DA a H .non .none
  | bl (b : Bool) : DA a H (.bl b) (.bool b)
  | int (i : Int) : DA a H (.int i) (.int i)
  | str (x : Str) : DA a H (.str x) (.str x)
  | lst {p : Addr} {xs : List V} {ds : List PyData} : p ≠ a → H p = some (.lst xs) → DAs a H xs ds → DA a H (.ref p) (.list ds)
  | tup {p : Addr} {xs : List V} {ds : List PyData} : H p = some (.tup xs) → DAs a H xs ds → DA a H (.ref p) (.tuple ds)
inductive DAs (a : Addr) (H : Hp) : List V → List PyData → Prop
  | nil : DAs a H [] []
  | cons {v : V} {vs : List V} {d : PyData} {ds : List PyData} : DA a H v d → DAs a H vs ds → DAs a H (v :: vs) (d :: ds)
end
mutual
theorem DA.mono {a a' : Addr} {H H' : Hp} (kl : ∀ p xs, p ≠ a → H p = some (.lst xs) → p ≠ a' ∧ H' p = some (.lst xs)) (kt : ∀ p xs, H p = some (.tup xs) → H' p = some (.tup xs)) : ∀ (d : PyData) {v : V}, DA a H v d → DA a' H' v d
  | .none, _, h => by cases h; exact .non
  | .bool b, _, h => by cases h; exact .bl b
  | .int i, _, h => by cases h; exact .int i
  | .str x, _, h => by cases h; exact .str x
  | .list ds, _, h => by
    cases h with
    | lst n hs ha => exact .lst (kl _ _ n hs).1 (kl _ _ n hs).2 (DAs.mono kl kt ds ha)
  | .tuple ds, _, h => by
    cases h with
    | tup hs ha => exact .tup (kt _ _ hs) (DAs.mono kl kt ds ha)
  | .dict _, _, h => by cases h
theorem DAs.mono {a a' : Addr} {H H' : Hp} (kl : ∀ p xs, p ≠ a → H p = some (.lst xs) → p ≠ a' ∧ H' p = some (.lst xs)) (kt : ∀ p xs, H p = some (.tup xs) → H' p = some (.tup xs)) : ∀ (ds : List PyData) {vs : List V}, DAs a H vs ds → DAs a' H' vs ds
  | [], _, h => by cases h; exact .nil
  | d :: ds, _, h => by
    cases h with
    | cons h1 h2 => exact .cons (DA.mono kl kt d h1) (DAs.mono kl kt ds h2)
end
mutual
theorem DA.dp {K : PySem.W.Frag} {a : Addr} {H : Hp} : ∀ (d : PyData) {v : V}, DA a H v d → Dp K H v d
  | .none, _, h => by cases h; exact .non
  | .bool b, _, h => by cases h; exact .bl b
  | .int i, _, h => by cases h; exact .int i
  | .str x, _, h => by cases h; exact .str x
  | .list ds, _, h => by
    cases h with
    | lst n hs ha => exact .lst (.inl (.inl hs)) (DAs.dp ds ha)
  | .tuple ds, _, h => by
    cases h with
    | tup hs ha => exact .tup (.inl (.inl hs)) (DAs.dp ds ha)
  | .dict _, _, h => by cases h
theorem DAs.dp {K : PySem.W.Frag} {a : Addr} {H : Hp} : ∀ (ds : List PyData) {vs : List V}, DAs a H vs ds → DpAll K H vs ds
  | [], _, h => by cases h; exact .nil
  | d :: ds, _, h => by
    cases h with
    | cons h1 h2 => exact .cons (DA.dp d h1) (DAs.dp ds h2)
end
theorem DA.gr {a : Addr} {H H' : Hp} {ys : List V} (g : Gr a H H') (ha : H a = some (.lst ys)) {d : PyData} {v : V} (h : DA a H v d) : DA a H' v d :=
  DA.mono (fun p xs n e => ⟨n, g p _ n e⟩) (fun p xs e => TK.of_gr g ha p xs e) d h
theorem DAs.gr {a : Addr} {H H' : Hp} {ys : List V} (g : Gr a H H') (ha : H a = some (.lst ys)) {ds : List PyData} {vs : List V} (h : DAs a H vs ds) : DAs a H' vs ds :=
  DAs.mono (fun p xs n e => ⟨n, g p _ n e⟩) (fun p xs e => TK.of_gr g ha p xs e) ds h
theorem DA.same {a : Addr} {H H' : Hp} (s : Same H H') {d : PyData} {v : V} (h : DA a H v d) : DA a H' v d := DA.mono (fun p xs n e => ⟨n, s p _ e⟩) (fun p xs e => s p _ e) d h
theorem DAs.same {a : Addr} {H H' : Hp} (s : Same H H') {ds : List PyData} {vs : List V} (h : DAs a H vs ds) : DAs a H' vs ds := DAs.mono (fun p xs n e => ⟨n, s p _ e⟩) (fun p xs e => s p _ e) ds h
theorem DA.ext {a : Addr} {H H' : Hp} (s : ExtN H H') {d : PyData} {v : V} (h : DA a H v d) : DA a H' v d := DA.mono (fun p xs n e => ⟨n, ext_lst s e⟩) (fun p xs e => ext_tup s e) d h
theorem DAs.pd {a : Addr} {H : Hp} : ∀ (ds : List PyData) {vs : List V}, DAs a H vs ds → Paired (DA a H) vs ds
  | [], _, h => by cases h; exact .nil
  | d :: ds, _, h => by
    cases h with
    | cons h1 h2 => exact .cons h1 (DAs.pd ds h2)
theorem DAs.of {a : Addr} {H : Hp} : ∀ {ds : List PyData} {vs : List V}, Paired (DA a H) vs ds → DAs a H vs ds
  | _, _, .nil => .nil
  | _, _, .cons h r => .cons h (DAs.of r)
theorem DAs.app {a : Addr} {H : Hp} {xs ys : List V} {ds es : List PyData} (h1 : DAs a H xs ds) (h2 : DAs a H ys es) : DAs a H (xs ++ ys) (ds ++ es) := DAs.of (pd_append (DAs.pd _ h1) (DAs.pd _ h2))
theorem DAs.take {a : Addr} {H : Hp} {xs : List V} {ds : List PyData} (n : Nat) (h : DAs a H xs ds) : DAs a H (xs.take n) (ds.take n) := DAs.of (pd_take n (DAs.pd _ h))
theorem DAs.drop {a : Addr} {H : Hp} {xs : List V} {ds : List PyData} (n : Nat) (h : DAs a H xs ds) : DAs a H (xs.drop n) (ds.drop n) := DAs.of (pd_drop n (DAs.pd _ h))
theorem DAs.ints {a : Addr} {H : Hp} : ∀ (ns : List Int), DAs a H (ns.map V.int) (ns.map PyData.int)
  | [] => .nil
  | n :: ns => .cons (.int n) (DAs.ints ns)
theorem DAs.len {a : Addr} {H : Hp} {xs : List V} {ds : List PyData} (h : DAs a H xs ds) : xs.length = ds.length := (DAs.pd _ h).length
theorem pd_set {α β : Type} {F : α → β → Prop} {x : α} {p : β} (r : F x p) : ∀ {xs : List α} {ps : List β} (i : Nat), Paired F xs ps → Paired F (xs.set i x) (ps.set i p)
  | _, _, _, .nil => .nil
  | _, _, 0, .cons _ t => .cons r t
  | _, _, i + 1, .cons q t => .cons q (pd_set r i t)
/-- no deeper than d, nowhere longer than L -/
def lim : Nat → Nat → PyData → Prop
  | _, _, .none => True
  | _, _, .bool _ => True
  | _, _, .int _ => True
  | _, _, .str x => x.cps.all (· < 0x110000) = true
  | 0, _, .list _ => False
  | 0, _, .tuple _ => False
  | d + 1, L, .list xs => xs.length ≤ L ∧ ∀ x ∈ xs, lim d L x
  | d + 1, L, .tuple xs => xs.length ≤ L ∧ ∀ x ∈ xs, lim d L x
  | _, _, .dict _ => False
theorem lim.mono {L L' : Nat} (hL : L ≤ L') : ∀ {d d' : Nat} {t : PyData}, d ≤ d' → lim d L t → lim d' L' t
  | d, d', .none, _, _ => by cases d' <;> trivial
  | d, d', .bool _, _, _ => by cases d' <;> trivial
  | d, d', .int _, _, _ => by cases d' <;> trivial
  | d, d', .str x, _, h => by cases d <;> cases d' <;> exact h
  | 0, _, .list _, _, h => h.elim
  | 0, _, .tuple _, _, h => h.elim
  | d + 1, 0, .list _, h, _ => absurd h (Nat.not_succ_le_zero d)
  | d + 1, 0, .tuple _, h, _ => absurd h (Nat.not_succ_le_zero d)
  | d + 1, d' + 1, .list xs, h, ⟨h1, h2⟩ => ⟨Nat.le_trans h1 hL, fun x hx => lim.mono hL (Nat.le_of_succ_le_succ h) (h2 x hx)⟩
  | d + 1, d' + 1, .tuple xs, h, ⟨h1, h2⟩ => ⟨Nat.le_trans h1 hL, fun x hx => lim.mono hL (Nat.le_of_succ_le_succ h) (h2 x hx)⟩
  | d, _, .dict _, _, h => by cases d <;> exact h.elim
theorem lim_int {d L : Nat} {i : Int} : lim d L (.int i) := by cases d <;> trivial
theorem lim_ints {L : Nat} {ns : List Int} (h : ns.length ≤ L) : lim 1 L (.tuple (ns.map PyData.int)) := ⟨by rw [List.length_map]; exact h, fun x hx => by
  obtain ⟨n, _, rfl⟩ := List.mem_map.mp hx
  exact lim_int⟩
/-! ## what a value is -/
def intD : PyData → Bool
  | .int _ => true
  | _ => false
def verD (n : Int) : PyData → Bool
  | .int i => decide (0 ≤ i ∧ i < n)
  | _ => false
def versD (n : Int) : PyData → Bool
  | .tuple ds => ds.all (verD n)
  | _ => false
theorem allI_of : ∀ {ds : List PyData}, ds.all intD = true → ∃ ns : List Int, ds = ns.map PyData.int
  | [], _ => ⟨[], rfl⟩
  | d :: ds, h => by
    rw [List.all_cons, Bool.and_eq_true] at h
    obtain ⟨ns, rfl⟩ := allI_of h.2
    cases d with
    | int i => exact ⟨i :: ns, rfl⟩
    | _ => exact absurd h.1 Bool.false_ne_true
theorem verD_int {n : Int} {d : PyData} (h : verD n d = true) : intD d = true := by
  cases d <;> first | rfl | exact absurd h Bool.false_ne_true
theorem allV_of {n : Int} {ds : List PyData} (h : ds.all (verD n) = true) : ∃ ns : List Int, ds = ns.map PyData.int ∧ ∀ z ∈ ns, 0 ≤ z ∧ z < n := by
  obtain ⟨ns, rfl⟩ := allI_of (List.all_eq_true.mpr fun d hd => verD_int (List.all_eq_true.mp h d hd))
  refine ⟨ns, rfl, fun z hz => ?_⟩
  have := List.all_eq_true.mp h _ (List.mem_map.mpr ⟨z, hz, rfl⟩)
  exact of_decide_eq_true this
theorem versD_of {n : Int} {d : PyData} (h : versD n d = true) : ∃ ns : List Int, d = .tuple (ns.map PyData.int) ∧ ∀ z ∈ ns, 0 ≤ z ∧ z < n := by
  cases d with
  | tuple ds =>
    obtain ⟨ns, rfl, b⟩ := allV_of h
    exact ⟨ns, rfl, b⟩
  | _ => exact absurd h Bool.false_ne_true
theorem versD_ints {n : Int} {ns : List Int} : versD n (.tuple (ns.map PyData.int)) = decide (∀ z ∈ ns, 0 ≤ z ∧ z < n) := by
  show (ns.map PyData.int).all (verD n) = _
  rw [List.all_map]
  apply Bool.eq_iff_iff.mpr
  rw [List.all_eq_true, decide_eq_true_eq]
  exact ⟨fun h z hz => of_decide_eq_true (h z hz), fun h z hz => decide_eq_true (h z hz)⟩
theorem dp_ints {K : PySem.W.Frag} {H : Hp} : ∀ {ns : List Int} {vs : List V}, DpAll K H vs (ns.map PyData.int) → vs = ns.map V.int
  | [], _, h => by cases h; rfl
  | n :: ns, _, h => by
    cases h with
    | cons h1 h2 =>
      cases h1
      rw [dp_ints h2]
      rfl
theorem da_ints {a : Addr} {H : Hp} : ∀ {ns : List Int} {vs : List V}, DAs a H vs (ns.map PyData.int) → vs = ns.map V.int
  | [], _, h => by cases h; rfl
  | n :: ns, _, h => by
    cases h with
    | cons h1 h2 =>
      cases h1
      rw [da_ints h2]
      rfl
/-! # slices of tuples, the whole too -/
section
variable {X : Cx} {K : PySem.W.Frag} {H : Hp} {Q : VK}
theorem sl_tupAK (h : X.K = K) : SlR X (rSlA K) := h ▸ sl_tupA
theorem cutV_whole (xs : List V) {lo hi : Option Int} (h : HT.sIx xs.length 0 lo = 0 ∧ HT.sIx xs.length xs.length hi = xs.length) : cutV xs lo hi = xs := by
  unfold cutV
  rw [h.1, h.2]
  simp
theorem r_slA {a : Addr} {xs : List V} {lo hi : Option Int} (h : SqT K H a xs) (q : ∀ p H', Same H H' → SqT K H' p (cutV xs lo hi) → (H a = some (.tup xs) → H' p = some (.tup (cutV xs lo hi))) → Q (.ref p) H') : rSlA K (.ref a) lo hi H Q :=
  ⟨a, xs, rfl, h, fun w => q a H (fun _ _ h => h) (by rw [cutV_whole xs w]; exact h) (fun e => by rw [cutV_whole xs w]; exact e), fun _ p hp => q p _ (same_new hp) (.inl (.inl upd_same)) fun _ => upd_same⟩
theorem cut_init (xs : List V) : cutV xs none (some (-1)) = xs.dropLast := by
  unfold cutV
  have e : HT.sIx xs.length xs.length (some (-1)) = xs.length - 1 := by
    show (if (-1 : Int) < 0 then ((-1 : Int) + (xs.length : Int)).toNat else min (-1 : Int).toNat xs.length) = xs.length - 1
    rw [if_pos (by omega)]
    omega
  rw [e, HT.sIx_none, List.drop_zero, Nat.sub_zero, List.dropLast_eq_take]
/-! # zip, d.items() -/
theorem PI.zipAK {tg e : Expr} {ta : TA} (h : X.K = K) (p : PI X tg e (iZipA X.K ta)) : PI X tg e (iZipA K ta) := h ▸ p
def ZipN (K : PySem.W.Frag) (R : It → Hp → Prop) (vs : List V) (H1 : Hp) : Prop := ∃ a b xs ys, vs = [.ref a, .ref b] ∧ ((SqL K H1 a xs ∧ SqL K H1 b ys ∧ R (Itz K a b) H1) ∨ (SqT K H1 a xs ∧ SqT K H1 b ys ∧ R (ItzT K a b) H1))
theorem r_zipA {σ : L2.St} {ta : TA} {R : It → Hp → Prop} (h : ta σ H (ZipN K R)) : iZipA K ta σ H R := h
theorem r_zipT {a b : Addr} {xs ys : List V} {R : It → Hp → Prop} (h1 : SqT K H a xs) (h2 : SqT K H b ys) (q : R (ItzT K a b) H) : ZipN K R [.ref a, .ref b] H := ⟨a, b, xs, ys, rfl, .inr ⟨h1, h2, q⟩⟩
/-- a dict that nobody will write is locked -/
def tLk (td : TE) : TE := fun σ H Q => td σ H fun x H1 => ∃ d kvs, x = .ref d ∧ H1 d = some (.dK kvs) ∧ ∀ o, Q (.ref d) (upd H1 d (.frz o (.dK kvs)))
theorem pe_lk {e : Expr} {td : TE} (he : PE X e td) : PE X e (tLk td) := ⟨fun pins s σ H Q I h => by
  refine thn (he.run pins s σ H _ I h) fun u s1 ⟨x, H1, I1, r1, d, kvs, ex, hd, q⟩ => ?_
  subst ex
  obtain ⟨od, I2⟩ := I1.lock hd trivial
  exact ⟨.ref d, _, I2, r1, q od⟩⟩
def ItemsN (R : It → Hp → Prop) (x : V) (H1 : Hp) : Prop := ∃ d kvs, x = .ref d ∧ H1 d = some (.dK kvs) ∧ ∀ o0, ∃ d' o kvs', V.ref d = .ref d' ∧ (upd H1 d (.frz o0 (.dK kvs))) d' = some (.frz o (.dK kvs')) ∧ R (Iti d' o kvs') (upd H1 d (.frz o0 (.dK kvs)))
theorem r_items {σ : L2.St} {td : TE} {R : It → Hp → Prop} (h : td σ H (ItemsN R)) : iItems (tLk td) σ H R := h
theorem r_itemsN {R : It → Hp → Prop} {d : Addr} {kvs : List (L2.Key × V)} (hd : H d = some (.dK kvs)) (q : ∀ o, R (Iti d o kvs) (upd H d (.frz o (.dK kvs)))) : ItemsN R (.ref d) H := ⟨d, kvs, rfl, hd, fun o => ⟨d, o, kvs, rfl, upd_same, q o⟩⟩
theorem forR_items {d : Addr} {o : Obj} {kvs : List (L2.Key × V)} {g : TG} {tb : TS} {nx : L2.St → Hp → Prop} {σ : L2.St} (Pv : Nat → L2.St → Hp → Prop) (h0 : Pv 0 σ H) (hl : ∀ i σ H, i ≤ kvs.length → Pv i σ H → H d = some (.frz o (.dK kvs)))
    (hs : ∀ (i : Nat) k v σ H T, kvs[i]? = some (k, v) → Pv i σ H → H T = none → g (.ref T) σ (upd H T (.tup [kV k, v])) fun σ2 H2 => tb ⟨Pv (i + 1), Q, nx, Pv (i + 1)⟩ σ2 H2) (hd : ∀ σ H, Pv kvs.length σ H → nx σ H) : ForR (Iti d o kvs) g tb nx Q σ H := by
  refine ⟨fun i m σ H => (m = kvs.length - i ∧ i ≤ kvs.length) ∧ Pv i σ H, ⟨_, ⟨rfl, Nat.zero_le _⟩, h0⟩, fun i m σ H ⟨⟨em, hi⟩, p⟩ => ?_⟩
  subst em
  have hq := hl i σ H hi p
  rcases Nat.lt_or_ge i kvs.length with c | c
  · refine .inr ⟨⟨hq, c⟩, Pv (i + 1), fun σ' H' p' => ⟨_, by omega, ⟨rfl, c⟩, p'⟩, fun x H' ⟨T, k, v, e1, e2, e3, e4⟩ => ?_⟩
    subst e2 e4
    exact hs i k v σ H T e1 p e3
  · have e : i = kvs.length := by omega
    exact .inl ⟨⟨hq, c⟩, hd σ H (e ▸ p)⟩
theorem lcR_zipT {a b : Addr} {xs ys : List V} {g : TG} {tt : TT} {te : TE} {vs : List Nat} {D : Addr} {σ σw : L2.St} (hl : xs.length = ys.length) (Pv : Nat → Hp → Prop) (ew : wipe σ vs = σw) (h0 : Pv 0 (upd H D (.lst []))) (hq : ∀ i H, Pv i H → SqT K H a xs ∧ SqT K H b ys)
    (hs : ∀ (i : Nat) (x y : V) (T : Addr) H, xs[i]? = some x → ys[i]? = some y → Pv i H → H T = none → g (.ref T) σw (upd H T (.tup [x, y])) fun σ2 H2 => wipe σ2 vs = σw ∧ tt σ2 H2 fun b H3 => if b = true then te σ2 H3 (LcE D (Pv (i + 1))) else Pv (i + 1) H3) (hd : ∀ H, Pv xs.length H → Q (.ref D) H) :
    LcR (ItzT K a b) g tt te vs σ D Q H := by
  subst ew
  refine ⟨fun i m H => (m = xs.length - i ∧ i ≤ xs.length) ∧ Pv i H, ⟨_, ⟨rfl, Nat.zero_le _⟩, h0⟩, fun i m H ⟨⟨em, hi⟩, p⟩ => ?_⟩
  subst em
  obtain ⟨qx, qy⟩ := hq i H p
  rcases Nat.lt_or_ge i xs.length with c | c
  · have hx : xs[i]? = some xs[i] := List.getElem?_eq_getElem c
    have c2 : i < ys.length := by omega
    have hy : ys[i]? = some ys[i] := List.getElem?_eq_getElem c2
    refine .inr ⟨⟨xs, ys, _, _, qx, qy, hx, hy⟩, Pv (i + 1), fun H' p' => ⟨_, by omega, ⟨rfl, c⟩, p'⟩, fun x H' ⟨T, x', y', e1, e2, e3, f1, f2⟩ => ?_⟩
    subst e1 e3
    exact hs i x' y' T H (f1 xs qx) (f2 ys qy) p e2
  · have e : i = xs.length := by omega
    exact .inl ⟨⟨xs, ys, qx, qy, .inl c⟩, hd H (e ▸ p)⟩
end

set_option Elab.async false
set_option linter.all false
set_option maxRecDepth 100000
set_option maxHeartbeats 4000000
open PySem PySem.Spec PyProof.Rows PySem.SeqAt

theorem dict_eq_declines_int (l : Addr) (es : Array DictEntry) (n : Nat) (dd : Option Addr) (sl : Array (Option Value)) (b : Int) (u : Tok) :
    Meets (Builtin.«dict.__eq__» ⟨[.ref l, .int b u], []⟩) (fun _ R s => s.heap.get? l = some { cls := .type "dict", dict := dd, data := .dict es n, slots := sl } ∧ R (.ok (.ret .notImplemented)) s) :=
  .of_wp fun prog w A R s h => by obtain ⟨hp, g, d, tk, os⟩ := s; obtain ⟨hl, h⟩ := h; have f1 := PySem.F.sub_int_dict; wp_walk using AutoSeq1.wpAny_loadPart' hl; exact ⟨_, rfl, h⟩
theorem int_eq_declines_dict (b : Int) (u : Tok) (l : Addr) (c : Value) (es : Array DictEntry) (n : Nat) (dd : Option Addr) (sl : Array (Option Value)) :
    Meets (Builtin.«int.__eq__» ⟨[.int b u, .ref l], []⟩) (fun _ R s => s.heap.get? l = some { cls := c, dict := dd, data := .dict es n, slots := sl } ∧ R (.ok (.ret .notImplemented)) s) :=
  .of_wp fun prog w A R s h => by obtain ⟨hp, g, d, tk, os⟩ := s; obtain ⟨hl, h⟩ := h; wp_walk using AutoSeq1.wpAny_loadPart' hl, wpAny_load hl; exact ⟨_, rfl, h⟩
theorem rc_dict_int {A : Around} {s : Shared} {l : Addr} {es : Array DictEntry} {n : Nat} {dd : Option Addr} {sl : Array (Option Value)} (b : Int) (u : Tok) (ho : s.heap.get? l = some { cls := .type "dict", dict := dd, data := .dict es n, slots := sl }) (hu : A.units < cLine) : RcAt A s (.ref l) (.int b u) false := fun prog w E Q h =>
  rc_eq_decline_or (k := false) ⟨_, ho, rfl⟩ (typeIs_int s b u) (by decide) PySem.F.sub_int_dict PySem.F.slot_dict_eq PySem.F.slot_int_eq_refl
    (fun _ hq => call_meets PySem.F.slot_dict_eq ⟨_, ho, rfl⟩ PySem.F.entry_dict_eq (PySem.F.args_dict_eq_2 _ _) (dict_eq_declines_int l es n dd sl b u) ⟨ho, hq⟩)
    (fun _ hq => call_meets PySem.F.slot_int_eq_refl (typeIs_int s b u) PySem.F.entry_int_eq (PySem.F.args_int_eq_2 _ _) (int_eq_declines_dict b u l (.type "dict") es n dd sl) ⟨ho, hq⟩)
    (fun _ hq => wpAny_of_eq (rfl : isSame (.ref l) (.int b u) = pure false) hq) (.inr hu) h
open L2
section
variable {X : Cx}
def rOr2 (r1 r2 : R2) : R2 := fun x y H Q => r1 x y H Q ∨ r2 x y H Q
theorem op_or2 {f : Value → Value → Sem Value} {r1 r2 : R2} (h1 : OpR X f r1) (h2 : OpR X f r2) : OpR X f (rOr2 r1 r2) := fun pins s σ H x y v u Q I rx ry h => h.elim (h1 pins s σ H x y v u Q I rx ry) (h2 pins s σ H x y v u Q I rx ry)
/-- t == (): by length alone -/
def rEqTE (K : PySem.W.Frag) : R2 := fun x y H Q => ∃ a b xs, x = .ref a ∧ y = .ref b ∧ SqT K H a xs ∧ SqT K H b [] ∧ Q (.bl xs.isEmpty) H
theorem op_eqTE (hu : X.A.units < cLine) : OpR X (compareOp .Eq) (rEqTE X.K) := by
  intro pins s σ H x y v u Q I rx ry h
  obtain ⟨a, b, xs, rfl, rfl, ha, hb, q⟩ := h
  cases rx
  cases ry
  obtain ⟨its, r1, p1, _⟩ := I.tuple ha
  obtain ⟨its2, r2, p2, _⟩ := I.tuple hb
  cases r2
  refine eq_tupleAt (e := fun _ => true) p1 p2 hu (fun j h1 h2 => absurd h2 (by simp)) ?_
  have e : ((List.range (min its.toArray.size ([] : List Value).toArray.size)).all (fun _ => true) && its.toArray.size == ([] : List Value).toArray.size) = xs.isEmpty := by
    cases r1 with
    | nil => rfl
    | cons _ _ => rfl
  rw [e]
  exact ⟨.bl _, H, I, rfl, q⟩
/-- {..} == i -/
def rEqDI : R2 := fun x y H Q => ∃ a kvs i, x = .ref a ∧ y = .int i ∧ H a = some (.dK kvs) ∧ Q (.bl false) H
theorem op_eqDI (hu : X.A.units < cLine) : OpR X (compareOp .Eq) rEqDI := by
  intro pins s σ H x y v u Q I rx ry h
  obtain ⟨a, kvs, i, rfl, rfl, ha, q⟩ := h
  obtain rfl : v = Value.ref a := rx
  obtain ⟨_, _, _, _, d⟩ := (show ObjOk X.prog X.w H s.heap a (.dK kvs) from I.hok a _ ha)
  obtain ⟨o, es, ep, ho, hx, hd, _⟩ := d
  obtain ⟨cls, dd, data, sl⟩ := o
  obtain rfl : cls = .type "dict" := hx.1
  obtain rfl : data = .dict es ep := hd
  obtain ⟨t, rfl⟩ := ry
  exact rc_dict_int _ _ ho hu _ _ _ _ ⟨.bl _, H, I, rfl, q⟩
/-- [..] == i -/
def rEqLI : R2 := fun x y H Q => ∃ a xs i, x = .ref a ∧ y = .int i ∧ H a = some (.lst xs) ∧ Q (.bl false) H
theorem op_eqLI (hu : X.A.units < cLine) : OpR X (compareOp .Eq) rEqLI := by
  intro pins s σ H x y v u Q I rx ry h
  obtain ⟨a, xs, i, rfl, rfl, ha, q⟩ := h
  obtain rfl : v = Value.ref a := rx
  obtain ⟨t, rfl⟩ := ry
  obtain ⟨its, _, p, _⟩ := I.list (Or.inl (Or.inl ha))
  exact RcAt.list_int _ _ p.isList hu _ _ _ _ ⟨.bl _, H, I, rfl, q⟩
/-- what is asked of a drawn value -/
def rEqX (K : PySem.W.Frag) : R2 := rOr2 (rEqTE K) (rOr2 rEqDI (rOr2 rEqLI (rEqD K)))
theorem op_eqX {K : PySem.W.Frag} (e : X.K = K) (hu : X.A.units + 64 < cLine) : OpR X (compareOp .Eq) (rEqX K) := e ▸ op_or2 (op_eqTE (by omega)) (op_or2 (op_eqDI (by omega)) (op_or2 (op_eqLI (by omega)) (op_eqD hu)))
/-- i < j, or of tuples of ints -/
def rLtIT (K : PySem.W.Frag) : R2 := rOr2 (rI0 fun i j => .bl (decide (i < j))) (rLtT K)
theorem op_ltIT {K : PySem.W.Frag} (e : X.K = K) (hu : X.A.units + 64 < cLine) : OpR X (compareOp .Lt) (rLtIT K) := e ▸ op_or2 op_lt (op_ltT (by omega))
end
section
variable {K : PySem.W.Frag} {H : Hp} {Q : VK}
theorem r_eqTE {a b : Addr} {xs : List V} (ha : SqT K H a xs) (hb : SqT K H b []) (q : Q (.bl xs.isEmpty) H) : rEqX K (.ref a) (.ref b) H Q := .inl ⟨a, b, xs, rfl, rfl, ha, hb, q⟩
theorem r_eqDI {a : Addr} {kvs : List (L2.Key × V)} {i : Int} (ha : H a = some (.dK kvs)) (q : Q (.bl false) H) : rEqX K (.ref a) (.int i) H Q := .inr (.inl ⟨a, kvs, i, rfl, rfl, ha, q⟩)
theorem r_eqXD {x y : V} (h : rEqD K x y H Q) : rEqX K x y H Q := .inr (.inr (.inr h))
theorem r_eqLIX {a : Addr} {xs : List V} {i : Int} (ha : H a = some (.lst xs)) (q : Q (.bl false) H) : rEqX K (.ref a) (.int i) H Q := .inr (.inr (.inl ⟨a, xs, i, rfl, rfl, ha, q⟩))
theorem r_ltI {i j : Int} (q : Q (.bl (decide (i < j))) H) : rLtIT K (.int i) (.int j) H Q := .inl ⟨i, j, rfl, rfl, q⟩
theorem r_ltT {x y : V} (h : rLtT K x y H Q) : rLtIT K x y H Q := .inr h
end

set_option Elab.async false
set_option linter.all false
set_option maxRecDepth 100000
set_option maxHeartbeats 4000000
open PySem PySem.Spec PyProof.Rows L2 LamX RZ
/-- a tuple on the heap -/
abbrev ST (H : Hp) (p : Addr) (xs : List V) : Prop := H p = some (.tup xs) ∨ ∃ o, H p = some (.frz o (.tup xs))
/-! # data of any kind, empty dicts too; none of whose lists and dicts stands at a -/
mutual
inductive DX (a : Addr) (H : Hp) : V → PyData → Prop
  | non : DX a H .non .none
  | bl (b : Bool) : DX a H (.bl b) (.bool b)
  | int (i : Int) : DX a H (.int i) (.int i)
  | str (x : Str) : DX a H (.str x) (.str x)
  | lst {p : Addr} {xs : List V} {ds : List PyData} : p ≠ a → H p = some (.lst xs) → DXs a H xs ds → DX a H (.ref p) (.list ds)
  | tup {p : Addr} {xs : List V} {ds : List PyData} : ST H p xs → DXs a H xs ds → DX a H (.ref p) (.tuple ds)
  | dk {p : Addr} : p ≠ a → H p = some (.dK []) → DX a H (.ref p) (.dict [])
inductive DXs (a : Addr) (H : Hp) : List V → List PyData → Prop
  | nil : DXs a H [] []
  | cons {v : V} {vs : List V} {d : PyData} {ds : List PyData} : DX a H v d → DXs a H vs ds → DXs a H (v :: vs) (d :: ds)
end
theorem ST.keep {a : Addr} {H H' : Hp} (k : ∀ p o, (∀ ps, o ≠ .tbl ps) → (p ≠ a ∨ ∀ xs, o ≠ .lst xs) → H p = some o → H' p = some o) {p : Addr} {xs : List V} (h : ST H p xs) : ST H' p xs :=
  h.elim (fun h => .inl (k _ _ (fun ps z => nomatch z) (.inr fun xs z => nomatch z) h)) fun ⟨o, h⟩ => .inr ⟨o, k _ _ (fun ps z => nomatch z) (.inr fun xs z => nomatch z) h⟩
theorem keep_gr {a : Addr} {H H' : Hp} {ys : List V} (g : Gr a H H') (ha : H a = some (.lst ys)) : ∀ p o, (∀ ps, o ≠ .tbl ps) → (p ≠ a ∨ ∀ xs, o ≠ .lst xs) → H p = some o → H' p = some o := fun p o _ h e => by
  refine g p o ?_ e
  rcases h with h | h
  · exact h
  · intro z
    rw [z, ha] at e
    exact h ys (Option.some.inj e).symm
theorem keep_same {a : Addr} {H H' : Hp} (s : Same H H') : ∀ p o, (∀ ps, o ≠ .tbl ps) → (p ≠ a ∨ ∀ xs, o ≠ .lst xs) → H p = some o → H' p = some o := fun p o _ _ e => s p o e
theorem keep_ext {a : Addr} {H H' : Hp} (s : ExtN H H') : ∀ p o, (∀ ps, o ≠ .tbl ps) → (p ≠ a ∨ ∀ xs, o ≠ .lst xs) → H p = some o → H' p = some o := fun p o n _ e => s p o e n
theorem ST.same {H H' : Hp} (s : Same H H') {p : Addr} {xs : List V} (h : ST H p xs) : ST H' p xs := h.keep (a := 0) (keep_same s)
theorem ST.ext {H H' : Hp} (s : ExtN H H') {p : Addr} {xs : List V} (h : ST H p xs) : ST H' p xs := h.keep (a := 0) (keep_ext s)
theorem ST.gr {a : Addr} {H H' : Hp} {ys : List V} (g : Gr a H H') (ha : H a = some (.lst ys)) {p : Addr} {xs : List V} (h : ST H p xs) : ST H' p xs := h.keep (keep_gr g ha)
mutual
theorem DX.mono {a : Addr} {H H' : Hp} (k : ∀ p o, (∀ ps, o ≠ .tbl ps) → (p ≠ a ∨ ∀ xs, o ≠ .lst xs) → H p = some o → H' p = some o) : ∀ (d : PyData) {v : V}, DX a H v d → DX a H' v d
  | .none, _, h => by cases h; exact .non
  | .bool b, _, h => by cases h; exact .bl b
  | .int i, _, h => by cases h; exact .int i
  | .str x, _, h => by cases h; exact .str x
  | .list ds, _, h => by
    cases h with
    | lst n hs ha => exact .lst n (k _ _ (fun ps z => nomatch z) (.inl n) hs) (DXs.mono k ds ha)
  | .tuple ds, _, h => by
    cases h with
    | tup hs ha => exact .tup (ST.keep k hs) (DXs.mono k ds ha)
  | .dict _, _, h => by
    cases h with
    | dk n hs => exact .dk n (k _ _ (fun ps z => nomatch z) (.inl n) hs)
theorem DXs.mono {a : Addr} {H H' : Hp} (k : ∀ p o, (∀ ps, o ≠ .tbl ps) → (p ≠ a ∨ ∀ xs, o ≠ .lst xs) → H p = some o → H' p = some o) : ∀ (ds : List PyData) {vs : List V}, DXs a H vs ds → DXs a H' vs ds
  | [], _, h => by cases h; exact .nil
  | d :: ds, _, h => by
    cases h with
    | cons h1 h2 => exact .cons (DX.mono k d h1) (DXs.mono k ds h2)
end
theorem DX.gr {a : Addr} {H H' : Hp} {ys : List V} (g : Gr a H H') (ha : H a = some (.lst ys)) {d : PyData} {v : V} (h : DX a H v d) : DX a H' v d := DX.mono (keep_gr g ha) d h
theorem DXs.gr {a : Addr} {H H' : Hp} {ys : List V} (g : Gr a H H') (ha : H a = some (.lst ys)) {ds : List PyData} {vs : List V} (h : DXs a H vs ds) : DXs a H' vs ds := DXs.mono (keep_gr g ha) ds h
theorem DX.same {a : Addr} {H H' : Hp} (s : Same H H') {d : PyData} {v : V} (h : DX a H v d) : DX a H' v d := DX.mono (keep_same s) d h
theorem DXs.same {a : Addr} {H H' : Hp} (s : Same H H') {ds : List PyData} {vs : List V} (h : DXs a H vs ds) : DXs a H' vs ds := DXs.mono (keep_same s) ds h
theorem DX.ext {a : Addr} {H H' : Hp} (s : ExtN H H') {d : PyData} {v : V} (h : DX a H v d) : DX a H' v d := DX.mono (keep_ext s) d h
theorem DXs.ext {a : Addr} {H H' : Hp} (s : ExtN H H') {d : List PyData} {v : List V} (h : DXs a H v d) : DXs a H' v d := DXs.mono (keep_ext s) d h
theorem DXs.pd {a : Addr} {H : Hp} : ∀ (ds : List PyData) {vs : List V}, DXs a H vs ds → Paired (DX a H) vs ds
  | [], _, h => by cases h; exact .nil
  | d :: ds, _, h => by
    cases h with
    | cons h1 h2 => exact .cons h1 (DXs.pd ds h2)
theorem DXs.of {a : Addr} {H : Hp} : ∀ {ds : List PyData} {vs : List V}, Paired (DX a H) vs ds → DXs a H vs ds
  | _, _, .nil => .nil
  | _, _, .cons h r => .cons h (DXs.of r)
theorem DXs.app {a : Addr} {H : Hp} {xs ys : List V} {ds es : List PyData} (h1 : DXs a H xs ds) (h2 : DXs a H ys es) : DXs a H (xs ++ ys) (ds ++ es) := DXs.of (pd_append (DXs.pd _ h1) (DXs.pd _ h2))
theorem DXs.take {a : Addr} {H : Hp} {xs : List V} {ds : List PyData} (n : Nat) (h : DXs a H xs ds) : DXs a H (xs.take n) (ds.take n) := DXs.of (pd_take n (DXs.pd _ h))
theorem DXs.drop {a : Addr} {H : Hp} {xs : List V} {ds : List PyData} (n : Nat) (h : DXs a H xs ds) : DXs a H (xs.drop n) (ds.drop n) := DXs.of (pd_drop n (DXs.pd _ h))
theorem DXs.ints {a : Addr} {H : Hp} : ∀ (ns : List Int), DXs a H (ns.map V.int) (ns.map PyData.int)
  | [] => .nil
  | n :: ns => .cons (.int n) (DXs.ints ns)
theorem DXs.len {a : Addr} {H : Hp} {xs : List V} {ds : List PyData} (h : DXs a H xs ds) : xs.length = ds.length := (DXs.pd _ h).length
theorem DXs.get {a : Addr} {H : Hp} {xs : List V} {ds : List PyData} (h : DXs a H xs ds) {i : Nat} {x : V} {d : PyData} (hx : xs[i]? = some x) (hd : ds[i]? = some d) : DX a H x d := by
  obtain ⟨d', e, r⟩ := pd_get (DXs.pd _ h) hx
  rw [hd] at e
  cases e
  exact r
theorem DXs.rev {a : Addr} {H : Hp} : ∀ {xs : List V} {ds : List PyData}, DXs a H xs ds → DXs a H xs.reverse ds.reverse
  | _, _, .nil => .nil
  | _, _, .cons h r => by
    rw [List.reverse_cons, List.reverse_cons]
    exact (DXs.rev r).app (.cons h .nil)
/-- no deeper than d, nowhere longer than L -/
def limX : Nat → Nat → PyData → Prop
  | _, _, .none => True
  | _, _, .bool _ => True
  | _, _, .int _ => True
  | _, _, .str x => x.cps.all (· < 0x110000) = true
  | 0, _, .list _ => False
  | 0, _, .tuple _ => False
  | d + 1, L, .list xs => xs.length ≤ L ∧ ∀ x ∈ xs, limX d L x
  | d + 1, L, .tuple xs => xs.length ≤ L ∧ ∀ x ∈ xs, limX d L x
  | _, _, .dict _ => True
theorem limX.mono {L L' : Nat} (hL : L ≤ L') : ∀ {d d' : Nat} {t : PyData}, d ≤ d' → limX d L t → limX d' L' t
  | d, d', .none, _, _ => by cases d' <;> trivial
  | d, d', .bool _, _, _ => by cases d' <;> trivial
  | d, d', .int _, _, _ => by cases d' <;> trivial
  | d, d', .str x, _, h => by cases d <;> cases d' <;> exact h
  | 0, _, .list _, _, h => h.elim
  | 0, _, .tuple _, _, h => h.elim
  | d + 1, 0, .list _, h, _ => absurd h (Nat.not_succ_le_zero d)
  | d + 1, 0, .tuple _, h, _ => absurd h (Nat.not_succ_le_zero d)
  | d + 1, d' + 1, .list xs, h, ⟨h1, h2⟩ => ⟨Nat.le_trans h1 hL, fun x hx => limX.mono hL (Nat.le_of_succ_le_succ h) (h2 x hx)⟩
  | d + 1, d' + 1, .tuple xs, h, ⟨h1, h2⟩ => ⟨Nat.le_trans h1 hL, fun x hx => limX.mono hL (Nat.le_of_succ_le_succ h) (h2 x hx)⟩
  | d, d', .dict _, _, h => by cases d' <;> trivial
theorem limX_int {d L : Nat} {i : Int} : limX d L (.int i) := by cases d <;> trivial
theorem limX_mk {d L : Nat} {ds : List PyData} (h : ds.length ≤ L) (k : ∀ x ∈ ds, limX d L x) : limX (d + 1) L (.tuple ds) := ⟨h, k⟩
theorem limX_mkl {d L : Nat} {ds : List PyData} (h : ds.length ≤ L) (k : ∀ x ∈ ds, limX d L x) : limX (d + 1) L (.list ds) := ⟨h, k⟩
theorem limX_tup {d L : Nat} {ds : List PyData} (h : limX d L (.tuple ds)) : ∃ d', d = d' + 1 ∧ ds.length ≤ L ∧ ∀ x ∈ ds, limX d' L x := by
  cases d with
  | zero => exact h.elim
  | succ d => exact ⟨d, rfl, h.1, h.2⟩
theorem limX_lst {d L : Nat} {ds : List PyData} (h : limX d L (.list ds)) : ∃ d', d = d' + 1 ∧ ds.length ≤ L ∧ ∀ x ∈ ds, limX d' L x := by
  cases d with
  | zero => exact h.elim
  | succ d => exact ⟨d, rfl, h.1, h.2⟩
section
variable {K : PySem.W.Frag} {H : Hp} {Q : VK}
theorem r_slX {a : Addr} {xs : List V} {lo hi : Option Int} (h : ST H a xs) (q : ∀ p H', Same H H' → ST H' p (cutV xs lo hi) → Q (.ref p) H') : rSlA K (.ref a) lo hi H Q :=
  ⟨a, xs, rfl, .inl h, fun w => q a H (fun _ _ e => e) (by rw [cutV_whole xs w]; exact h), fun _ p hp => q p _ (same_new hp) (.inl upd_same)⟩
theorem r_catX {l b : Addr} {xs zs : List V} (h1 : ST H l xs) (h2 : ST H b zs) (hz : xs.length + zs.length ≤ 100000) (q : ∀ p H', Same H H' → ST H' p (xs ++ zs) → Q (.ref p) H') : rCatA K (.ref l) (.ref b) H Q := by
  refine ⟨l, b, xs, zs, rfl, rfl, .inl h1, .inl h2, small_len hz, fun e => ?_, fun e1 e2 => ?_, fun e1 e2 p hp => q p _ (same_new hp) (.inl upd_same)⟩
  · subst e
    exact q b H (fun _ _ h => h) h2
  · subst e2
    refine q l H (fun _ _ h => h) ?_
    rw [List.append_nil]
    exact h1
end

set_option Elab.async false
set_option linter.all false
set_option maxRecDepth 100000
set_option maxHeartbeats 4000000
open PySem PySem.Spec PyProof.Rows L2
local macro_rules | `(tactic| walk_at "zs") => `(tactic| first | decide | omega | (dsimp only; omega) | (unfold CMul; omega) | (unfold CDivW; decide) | assumption)
local macro_rules | `(tactic| walk_at "zh") => `(tactic| first | assumption | with_reducible exact upd_same | ((with_reducible refine' (upd_ne ?zn).trans ?zr); (case zn => walk_at "zne"); (case zr => walk_at "zh")))
local macro_rules | `(tactic| walk_at "zw") => `(tactic| (simp only [wipe, List.map_cons, List.map_nil, List.set_cons_succ, List.set_cons_zero]; rfl))
local macro_rules | `(tactic| walk_at "zne") => `(tactic| first | assumption | (apply Ne.symm; assumption) | (refine' ne_of_none ?zh1 ?zh2; (case zh2 => assumption); (case zh1 => walk_at "zh")) | (apply Ne.symm; refine' ne_of_none ?zh1 ?zh2; (case zh2 => assumption); (case zh1 => walk_at "zh")))
local macro_rules | `(tactic| walk_at "zl") => `(tactic| first | assumption | exact Or.inl (Or.inl (by walk_at "zh")))
local macro_rules | `(tactic| walk_at "zat") => `(tactic| first | assumption | exact rfl | exact atI_nat (j := 0) (by rfl))
local macro_rules | `(tactic| walk_at "z1") => `(tactic| first
  | with_reducible refine r_seq ?_
  | with_reducible refine r_asg ?_
  | with_reducible refine r_name0 ?_
  | with_reducible refine r_name1 ?_
  | with_reducible refine r_name2 ?_
  | with_reducible refine r_name3 ?_
  | with_reducible refine r_name4 ?_
  | with_reducible refine r_name5 ?_
  | with_reducible refine r_name6 ?_
  | with_reducible refine r_name7 ?_
  | with_reducible refine r_name8 ?_
  | with_reducible refine r_name9 ?_
  | with_reducible refine r_name10 ?_
  | with_reducible refine r_name11 ?_
  | with_reducible refine r_name12 ?_
  | with_reducible refine r_name13 ?_
  | with_reducible refine r_name14 ?_
  | with_reducible refine r_name15 ?_
  | with_reducible refine r_name16 ?_
  | with_reducible refine r_name17 ?_
  | with_reducible refine r_name18 ?_
  | with_reducible refine r_name19 ?_
  | ((with_reducible show tVar _ _ _ _); refine r_var rfl ?_)
  | with_reducible refine r_c ?_
  | with_reducible refine r_op ?_
  | with_reducible refine r_i0 ?_
  | with_reducible refine r_eqI ?_
  | with_reducible refine r_neI ?_
  | with_reducible refine r_i (by walk_at "zs") ?_
  | with_reducible refine r_cons ?_
  | with_reducible refine r_nil ?_
  | with_reducible refine r_call ?_
  | with_reducible refine r_cb ?_
  | with_reducible refine r_test ?_
  | with_reducible refine r_tB ?_
  | with_reducible refine r_k ?_
  | with_reducible refine r_int1 ?_
  | with_reducible refine r_int1b ?_
  | with_reducible refine r_min2 ?_
  | with_reducible refine r_max2 ?_
  | with_reducible refine r_ret ?_
  | with_reducible refine r_ifS ?_
  | with_reducible refine r_tup ?_
  | with_reducible refine r_lst ?_
  | with_reducible refine r_un ?_
  | with_reducible refine r_u ?_
  | with_reducible refine r_eqB ?_
  | with_reducible refine r_neB ?_
  | with_reducible refine r_not ?_
  | with_reducible refine r_and ?_
  | with_reducible refine r_or ?_
  | with_reducible refine r_if ?_
  | with_reducible refine r_bm ?_
  | with_reducible refine r_lstRg ?_
  | with_reducible refine r_tRg1 ?_
  | with_reducible refine r_r1N ?_
  | with_reducible refine r_sl ?_
  | with_reducible refine r_part ?_
  | with_reducible refine r_partN ?_
  | with_reducible refine r_noPart ?_
  | with_reducible refine r_andV ?_
  | with_reducible refine r_orV ?_
  | with_reducible refine r_notV ?_
  | with_reducible refine r_andN ?_
  | with_reducible refine r_orN ?_
  | with_reducible refine r_notN ?_
  | with_reducible refine r_next ?_
  | with_reducible refine r_drop ?_
  | with_reducible refine r_sub ?_
  | with_reducible refine r_for ?_
  | with_reducible refine r_rng1 ?_
  | with_reducible refine r_rng2 ?_
  | with_reducible refine r_ilist ?_
  | with_reducible refine r_itup ?_
  | with_reducible refine r_lc ?_
  | with_reducible refine r_yes ?_
  | with_reducible refine r_gcons ?_
  | with_reducible refine r_gnil ?_
  | ((with_reducible show Bm _ "list" _ _ _ _ (V.ref _) _); refine' r_bmL ?zh ?zq; (case zh => walk_at "zl"))
  | with_reducible refine iteF ?_
  | with_reducible refine iteT ?_
  | ((with_reducible show rIxL _ (V.ref _) (V.int _) _ _); refine' r_ixL ?zh ?za ?zq; (case zh => walk_at "zl"); (case za => walk_at "zat"))
  | ((with_reducible show rIxT _ (V.ref _) (V.int _) _ _); refine' r_ixT ?zh ?za ?zq; (case zh => walk_at "zl"); (case za => walk_at "zat"))
  | with_reducible refine r_dget ?_
  | with_reducible refine r_star ?_
  | with_reducible refine r_match ?_
  | with_reducible refine r_enumT ?_
  | with_reducible refine r_dnot ?_
  | with_reducible refine r_chain ?_
  | with_reducible refine r_chn ?_
  | with_reducible refine r_callS ?_
  | with_reducible refine r_truth ?_
  | with_reducible refine r_bm0 ?_
  | with_reducible refine r_sadd ?_
  | with_reducible refine r_saddT ?_
  | ((with_reducible show Bm0 _ "list" _ _ (V.ref _) _); refine' r_bm0L ?zh ?zq; (case zh => walk_at "zl"))
  | with_reducible refine r_bm0I ?_
  | with_reducible refine r_bu ?_
  | with_reducible refine r_rng3 ?_
  | with_reducible refine r_bitlen ?_
  | with_reducible refine r_genAll ?_
  | with_reducible refine r_zipA ?_
  | with_reducible refine r_items ?_
  | with_reducible refine r_set0u ?_
  | with_reducible refine r_set1u ?_
  | with_reducible refine r_set2u ?_
  | with_reducible refine r_set3u ?_
  | with_reducible refine r_set4u ?_
  | ((with_reducible show rSetL (V.ref _) (V.int 0) _ _ _); refine' r_set0 ?zh ?zq; (case zh => walk_at "zh"))
  | ((with_reducible show rSetL (V.ref _) (V.int 1) _ _ _); refine' r_set1 ?zh ?zq; (case zh => walk_at "zh"))
  | ((with_reducible show rSetL (V.ref _) (V.int 2) _ _ _); refine' r_set2 ?zh ?zq; (case zh => walk_at "zh"))
  | ((with_reducible show rSetL (V.ref _) (V.int 3) _ _ _); refine' r_set3 ?zh ?zq; (case zh => walk_at "zh"))
  | ((with_reducible show rSetL (V.ref _) (V.int 4) _ _ _); refine' r_set4 ?zh ?zq; (case zh => walk_at "zh"))
  | ((with_reducible show rLen _ [V.ref _] _ _); refine' r_lenL ?zh ?zq; (case zh => walk_at "zl"))
  | ((with_reducible show rLen _ [V.ref _] _ _); refine' r_lenT ?zh ?zq; (case zh => walk_at "zl")))
local macro_rules | `(tactic| walk_at "z") => `(tactic| repeat (walk_at "z1"))

def topS (i : Nat) : Stmt := PySem.Challenge.pw_trellis_k13_questions.main.body.getD i (.Pass ⟨0, 0, 0, 0⟩)
/-- a def of the text and where it stands -/
structure DefAt (K : PySem.W.Frag) (mg : Str → Option Value) (x : Str) (st : Stmt) (ps : List Str) where
  f : Addr
  fd : FuncData
  F : Fun K x x st f fd
  b : Binds K fd ps []
  g : mg x = some (.ref f)
/-- the built-ins' names are not the module's own -/
structure Blt (mg : Str → Option Value) : Prop where
  len : mg "len" = none
  range : mg "range" = none
  list : mg "list" = none
  tuple : mg "tuple" = none
  int : mg "int" = none
  min : mg "min" = none
  max : mg "max" = none
  sorted : mg "sorted" = none
  isinstance : mg "isinstance" = none
  bool : mg "bool" = none
  str : mg "str" = none
  enumerate : mg "enumerate" = none
/-! ## the pool -/
def Pool (H : Hp) (a s : Addr) : Prop := ∃ (ns : List Int) (p v c salt : Int), H a = some (.lst [.ref s, .int p, .int v, .int c, .int salt]) ∧ H s = some (.lst (ns.map V.int)) ∧ 0 ≤ p ∧ s ≠ a
theorem Pool.lst {H : Hp} {a s : Addr} (h : Pool H a s) : ∃ xs, H a = some (.lst xs) := by
  obtain ⟨ns, p, v, c, salt, h, _⟩ := h
  exact ⟨_, h⟩
theorem Pool.mono {H H' : Hp} {a s : Addr} (h : Pool H a s) (k : Same H H') : Pool H' a s := by
  obtain ⟨ns, p, v, c, salt, h1, h2, h3, h4⟩ := h
  exact ⟨ns, p, v, c, salt, k _ _ h1, k _ _ h2, h3, h4⟩
theorem Pool.ne {H : Hp} {a s : Addr} (h : Pool H a s) : H a ≠ none := by
  obtain ⟨xs, e⟩ := h.lst
  rw [e]
  exact fun z => nomatch z
theorem Gr.tk {a s : Addr} {H H' : Hp} (g : Gr a H H') (h : Pool H a s) : TK H H' := by
  obtain ⟨xs, e⟩ := h.lst
  exact .of_gr g e
theorem new_ne {H : Hp} {a s l : Addr} (h : Pool H a s) (n : H l = none) : l ≠ a ∧ l ≠ s := by
  obtain ⟨ns, p, v, c, salt, h1, h2, h3, h4⟩ := h
  exact ⟨ne_of_none h1 n |> Ne.symm, ne_of_none h2 n |> Ne.symm⟩
theorem Pool.upd {H : Hp} {a s l : Addr} {o : HO} (h : Pool H a s) (n : l ≠ a ∧ l ≠ s) : Pool (upd H l o) a s := by
  obtain ⟨ns, p, v, c, salt, h1, h2, h3, h4⟩ := h
  exact ⟨ns, p, v, c, salt, (upd_ne (Ne.symm n.1)).trans h1, (upd_ne (Ne.symm n.2)).trans h2, h3, h4⟩
abbrev s_law_spread : Stmt := topS 21
theorem sc_law_spread : FnScope ["cell", "mixed", "total", "k"] ["cell"] (defScope s_law_spread) := ⟨rfl, rfl, rfl, by decide +kernel, rfl, by decide +kernel, by decide +kernel⟩

abbrev s_law_draw : Stmt := topS 22
theorem sc_law_draw : FnScope ["pool", "many", "cell", "mixed", "value"] ["pool", "many"] (defScope s_law_draw) := ⟨rfl, rfl, rfl, by decide +kernel, rfl, by decide +kernel, by decide +kernel⟩

section
variable {P : Program} {w : World} {K : PySem.W.Frag} {mg : Str → Option Value} {base : Heap}
def spSpread : Sp := fun vs H Q _ => ∃ n : Int, vs = [.int n] ∧ ∀ r : Int, Q (.int r) H
theorem ok_spread (T : Blt mg) (D : DefAt K mg "_law_spread" s_law_spread ["cell"]) : FnOk P w K mg base CX0 1 D.f D.fd ["cell"] spSpread := by
  refine D.F.ok sc_law_spread (fun vs H Q E h => ?_) (fun cdv A outer s H vs Q E hr h => ?_)
  · obtain ⟨n, rfl, _⟩ := h
    rfl
  · obtain ⟨n, rfl, q⟩ := h
    refine ⟨_, (pss_cons (ps_set (i := 1) sc_law_spread.nd rfl (Or.inl rfl) (pe_op op_mod (pe_callTy call_int1' (by rfl) T.int (by decide +kernel) (pa_cons (pv 0) pa_nil)) pe_int))
      (pss_cons (ps_set (i := 2) sc_law_spread.nd rfl (Or.inl rfl) pe_int)
      (pss_cons (ps_for PassesOwn.never (by rfl) (pi_range1 (by rfl) T.range (pa_cons pe_int pa_nil)) (pg_name (i := 3) sc_law_spread.nd rfl (Or.inl rfl))
        (pss_cons (ps_set (i := 1) sc_law_spread.nd rfl (Or.inl rfl) (pe_op op_mod (pe_callTy call_int1' (by rfl) T.int (by decide +kernel) (pa_cons (pe_op op_add (pe_op op_add (pe_op op_mul (pv 1) pe_int) pe_int) (pv 3)) pa_nil)) pe_int))
        (pss_one (ps_set (i := 2) sc_law_spread.nd rfl (Or.inl rfl) (pe_op op_add (pe_op op_mul (pv 2) pe_int) (pv 1))))))
      (pss_one (ps_ret (pv 2)))))), ?_⟩
    refine r_at (σ := [some _, none, none, none]) rfl ?_
    walk_at "z"
    refine r_rg1 (by decide) (forR_range (fun _ σ' H' => H' = H ∧ ∃ a b c : Int, ∃ x, σ' = [some (.int a), some (.int b), some (.int c), x]) ⟨rfl, _, _, _, _, rfl⟩ (fun i σ' H' _ ⟨eH, a, b, c, x, eσ⟩ => ?_) fun σ' H' ⟨eH, a, b, c, x, eσ⟩ => ?_)
    · subst eH eσ
      walk_at "z"
      exact ⟨rfl, _, _, _, _, rfl⟩
    · subst eH eσ
      walk_at "z"
      exact q _
/-- a draw: a number from 0 up to the bound; the pool stays a pool; all else stands -/
def spDraw : Sp := fun vs H Q _ => ∃ (a s : Addr) (m : Int), vs = [.ref a, .int m] ∧ Pool H a s ∧ 0 < m ∧ m < 1000000 ∧ ∀ (r : Int) (H' : Hp), 0 ≤ r → r < m → Pool H' a s → Gr a H H' → Q (.int r) H'
theorem ok_draw (T : Blt mg) (D : DefAt K mg "_law_draw" s_law_draw ["pool", "many"]) (D_law_spread : DefAt K mg "_law_spread" s_law_spread ["cell"]) (G_law_spread : FnOk P w K mg base CX0 1 D_law_spread.f D_law_spread.fd ["cell"] spSpread) : FnOk P w K mg base CX0 2 D.f D.fd ["pool", "many"] spDraw := by
  refine D.F.ok sc_law_draw (fun vs H Q E h => ?_) (fun cdv A outer s H vs Q E hr h => ?_)
  · obtain ⟨a, _, m, rfl, _⟩ := h
    rfl
  · obtain ⟨a, s0, m, rfl, ⟨ns, p, v, c, salt, ha, hs, hp, hsa⟩, m0, m1, q⟩ := h
    refine ⟨_, (pss_cons (ps_if (PW.pt (pw_and (pt_cmpR op_le (pe_ix (ix_listK (K := K) rfl) (pv 0) pe_int (fun _ _ => rfl)) pe_int (nomark _)) (pw_and1 (pt_cmpR op_lt (pe_ix (ix_listK (K := K) rfl) (pv 0) pe_int (fun _ _ => rfl)) (pe_callB (call_lenK (K := K) rfl) (by rfl) T.len (by decide +kernel) (pa_cons (pe_ix (ix_listK (K := K) rfl) (pv 0) pe_int (fun _ _ => rfl)) pa_nil)) (nomark _)))))
        (pss_cons (ps_set (i := 2) sc_law_draw.nd rfl (Or.inl rfl) (pe_ix (ix_listK (K := K) rfl) (pe_ix (ix_listK (K := K) rfl) (pv 0) pe_int (fun _ _ => rfl)) (pe_ix (ix_listK (K := K) rfl) (pv 0) pe_int (fun _ _ => rfl)) (fun _ _ => rfl)))
        (pss_cons (ps_asg (pe_op op_add (pe_ix (ix_listK (K := K) rfl) (pv 0) pe_int (fun _ _ => rfl)) pe_int) (pg_sub (pv 0) pe_int set_list))
        (pss_cons (ps_asg (pv 2) (pg_sub (pv 0) pe_int set_list))
        (pss_one (ps_if (pt_cmpR op_lt (pv 2) pe_int (nomark _))
          (pss_one (ps_asg (pe_call G_law_spread (hr.mono (by first | decide | omega)) (by rfl) D_law_spread.g D_law_spread.F.kp D_law_spread.b .nil pass0 (pa_cons (pv 2) pa_nil)) (pg_sub (pv 0) pe_int set_list)))
          pss_nil)))))
        pss_nil)
      (pss_cons (ps_asg (pe_op op_add (pe_ix (ix_listK (K := K) rfl) (pv 0) pe_int (fun _ _ => rfl)) pe_int) (pg_sub (pv 0) pe_int set_list))
      (pss_cons (ps_if (pt_cmpR op_le (pe_ix (ix_listK (K := K) rfl) (pv 0) pe_int (fun _ _ => rfl)) pe_int (nomark _))
        (pss_cons (ps_set (i := 3) sc_law_draw.nd rfl (Or.inl rfl) (pe_op op_mod (pe_callTy call_int1' (by rfl) T.int (by decide +kernel) (pa_cons (pe_op op_add (pe_op op_add (pe_op op_mul (pe_ix (ix_listK (K := K) rfl) (pv 0) pe_int (fun _ _ => rfl)) pe_int) (pe_op op_mul (pe_ix (ix_listK (K := K) rfl) (pv 0) pe_int (fun _ _ => rfl)) pe_int)) pe_int) pa_nil)) pe_int))
        (pss_cons (ps_set (i := 3) sc_law_draw.nd rfl (Or.inl rfl) (pe_op op_mod (pe_callTy call_int1' (by rfl) T.int (by decide +kernel) (pa_cons (pe_op op_add (pe_op op_mul (pv 3) pe_int) (pe_ix (ix_listK (K := K) rfl) (pv 0) pe_int (fun _ _ => rfl))) pa_nil)) pe_int))
        (pss_one (ps_ret (pe_op op_mod (pe_op op_fdivW (pv 3) pe_int) (pv 1))))))
        pss_nil)
      (pss_cons (ps_set (i := 4) sc_law_draw.nd rfl (Or.inl rfl) (pe_op op_mod (pe_callTy call_int1' (by rfl) T.int (by decide +kernel) (pa_cons (pe_ix (ix_listK (K := K) rfl) (pv 0) pe_int (fun _ _ => rfl)) pa_nil)) (pv 1)))
      (pss_cons (ps_asg (pe_op op_fdivW (pe_ix (ix_listK (K := K) rfl) (pv 0) pe_int (fun _ _ => rfl)) (pv 1)) (pg_sub (pv 0) pe_int set_list))
      (pss_one (ps_ret (pv 4)))))))), ?_⟩
    refine r_at (σ := [some _, some _, none, none, none]) rfl ?_
    refine r_seqW (fun σ' H' => ∃ (p v c : Int) (x2 : Option V), σ' = [some (.ref a), some (.int m), x2, none, none] ∧ H' a = some (.lst [.ref s0, .int p, .int v, .int c, .int salt]) ∧ 0 ≤ p ∧ H' s0 = some (.lst (ns.map V.int)) ∧ Gr a H H') ?tail (fun B hB => ?head)
    case head =>
      have sa : s0 ≠ a := hsa
      walk_at "z"
      refine r_ite (fun hv => ?_) (fun hv => ?_)
      · walk_at "z"
        refine r_ite (fun hl => ?_) (fun hl => ?_)
        · rw [List.length_map] at hl
          obtain ⟨cell, _, hc⟩ := at_int hp hl
          walk_at "z"
          have key : ∀ r : Int, B [some (V.ref a), some (V.int m), some (V.int cell), none, none] (upd H a (.lst [.ref s0, .int (p + 1), .int r, .int c, .int salt])) := fun r => hB _ _ ⟨p + 1, r, c, _, rfl, upd_same, by omega, (upd_ne sa).trans hs, .self⟩
          refine r_ite (fun hb => ?_) (fun hb => ?_)
          · walk_at "z"
            refine ⟨_, rfl, fun r => ?_⟩
            walk_at "z"
            exact key _
          · walk_at "z"
            exact key _
        · walk_at "z"
          exact hB _ _ ⟨p, v, c, _, rfl, ha, hp, hs, .refl a H⟩
      · walk_at "z"
        exact hB _ _ ⟨p, v, c, _, rfl, ha, hp, hs, .refl a H⟩
    case tail =>
      rintro σ' H' ⟨p', v', c', x2, rfl, ha', hp', hs', g⟩
      have md : ∀ z : Int, 0 ≤ z % m ∧ z % m < m := fun z => ⟨Int.emod_nonneg z (by omega), Int.emod_lt_of_pos z m0⟩
      have fin : ∀ (z v2 : Int), Q (V.int (z % m)) (upd H' a (.lst [.ref s0, .int p', .int v2, .int (c' + 1), .int salt])) := fun z v2 =>
        q _ _ (md z).1 (md z).2 ⟨ns, p', v2, c' + 1, salt, upd_same, (upd_ne hsa).trans hs', hp', hsa⟩ (g.trans .self)
      walk_at "z"
      refine r_ite (fun hv => ?_) (fun hv => ?_)
      · walk_at "z"
        exact fin _ _
      · walk_at "z"
        refine r_i ⟨m0, (wide_div (i := 0) m0 (b := 20) (by omega) (by decide) (by decide)).2⟩ ?_
        walk_at "z"
        exact fin _ _
/-- the pool of a script -/
abbrev s_law_pool : Stmt := topS 20
theorem sc_law_pool : FnScope ["script", "salt", "cell"] ["script"] (defScope s_law_pool) := ⟨rfl, rfl, rfl, by decide +kernel, rfl, by decide +kernel, by decide +kernel⟩

def spPool (K : PySem.W.Frag) : Sp := fun vs H Q _ => ∃ (l : Addr) (ns : List Int), vs = [.ref l] ∧ SqL K H l (ns.map V.int) ∧ ∀ (a s : Addr) (H' : Hp), H a = none → Same H H' → Pool H' a s → Q (.ref a) H'
theorem cut_ints (ns : List Int) (lo hi : Option Int) : ∃ ms : List Int, cutV (ns.map V.int) lo hi = ms.map V.int ∧ ms.length ≤ ns.length := by
  refine ⟨(ns.drop (HT.sIx ns.length 0 lo)).take (HT.sIx ns.length ns.length hi - HT.sIx ns.length 0 lo), ?_, ?_⟩
  · unfold cutV
    rw [List.length_map, List.map_take, List.map_drop]
  · rw [List.length_take, List.length_drop]
    omega
theorem ok_pool (T : Blt mg) (D : DefAt K mg "_law_pool" s_law_pool ["script"]) : FnOk P w K mg base CX0 1 D.f D.fd ["script"] (spPool K) := by
  refine D.F.ok sc_law_pool (fun vs H Q E h => ?_) (fun cdv A outer s H vs Q E hr h => ?_)
  · obtain ⟨a, m, rfl, _⟩ := h
    rfl
  · obtain ⟨l, ns, rfl, hl, q⟩ := h
    refine ⟨_, (pss_cons (ps_set (i := 1) sc_law_pool.nd rfl (Or.inl rfl) pe_int)
      (pss_cons (ps_for PassesOwn.never (by rfl) (PI.listK (K := K) rfl (pi_list (pe_slice (sl_listK (K := K) rfl) (pv 0) po_none (po_some pe_int)))) (pg_name (i := 2) sc_law_pool.nd rfl (Or.inl rfl))
        (pss_one (ps_set (i := 1) sc_law_pool.nd rfl (Or.inl rfl) (pe_op op_mod (pe_callTy call_int1' (by rfl) T.int (by decide +kernel) (pa_cons (pe_op op_add (pe_op op_mul (pv 1) pe_int) (pv 2)) pa_nil)) pe_int))))
      (pss_one (ps_ret (pe_lst (pa_cons (pe_callTy (call_listK (K := K) rfl) (by rfl) T.list (by decide +kernel) (pa_cons (pv 0) pa_nil)) (pa_cons pe_int (pa_cons pe_int (pa_cons pe_int (pa_cons (pv 1) pa_nil)))))))))), ?_⟩
    refine r_at (σ := [some _, none, none]) rfl ?_
    walk_at "z"
    obtain ⟨ms, em, _⟩ := cut_ints ns none (some 63)
    refine ⟨l, _, rfl, hl, fun c hc => ?_⟩
    have sc : Same H (upd H c (.lst (ms.map V.int))) := same_new hc
    rw [em]
    refine r_il (.inl (.inl upd_same)) (forR_list (xs := ms.map V.int) (fun i σ' H' => H' = upd H c (.lst (ms.map V.int)) ∧ ∃ (z : Int) (x : Option V), σ' = [some (.ref l), some (.int z), x]) ⟨rfl, _, _, rfl⟩ (fun i σ' H' _ ⟨eH, _⟩ => ?_) (fun i x σ' H' hx ⟨eH, z, y, eσ⟩ => ?_) fun σ' H' ⟨eH, z, y, eσ⟩ => ?_)
    · rw [eH]
      exact .inl (.inl upd_same)
    · subst eH eσ
      rw [List.getElem?_map] at hx
      obtain ⟨n, _, rfl⟩ := Option.map_eq_some_iff.mp hx
      walk_at "z"
      exact ⟨rfl, _, _, rfl⟩
    · subst eH eσ
      walk_at "z"
      refine r_listL (sc.seq hl) fun b hb => ?_
      walk_at "z"
      refine r_lstN (by show 5 ≤ sizeLine; decide) fun a ha => ?_
      have sb := sc.trans (same_new (o := .lst (ns.map V.int)) hb)
      exact q a b _ (sb.free ha) (sb.trans (same_new ha)) ⟨ns, 0, 0, 0, z, upd_same, (upd_ne (ne_of_none upd_same ha)).trans upd_same, by omega, ne_of_none upd_same ha⟩
end

set_option Elab.async false
set_option linter.all false
set_option maxRecDepth 100000
set_option maxHeartbeats 4000000
open PySem PySem.Spec PyProof.Rows L2

abbrev s_law_pairs : Stmt := topS 26
theorem sc_law_pairs : FnScope ["n", "found", "u", "v"] ["n"] (defScope s_law_pairs) := ⟨rfl, rfl, rfl, by decide +kernel, rfl, by decide +kernel, by decide +kernel⟩

abbrev s_law_distinct : Stmt := topS 25
theorem sc_law_distinct : FnScope ["rows", "found", "row"] ["rows"] (defScope s_law_distinct) := ⟨rfl, rfl, rfl, by decide +kernel, rfl, by decide +kernel, by decide +kernel⟩

section
variable {P : Program} {w : World} {K : PySem.W.Frag} {mg : Str → Option Value} {base : Heap}
theorem prs_push {H : Hp} {l t : Addr} {xs : List V} {ps : List (Int × Int)} {a b : Int} (hl : H l = some (.lst xs)) (hp : Prs H xs ps) (ht : H t = none) :
    Prs (upd (upd H t (.tup [.int a, .int b])) l (.lst (xs ++ [.ref t]))) (xs ++ [.ref t]) (ps ++ [(a, b)]) := by
  have n : t ≠ l := (ne_of_none hl ht).symm
  have k : TK H (upd (upd H t (.tup [.int a, .int b])) l (.lst (xs ++ [.ref t]))) := fun c ys e => by
    rw [upd_ne (fun z => by rw [z, hl] at e; cases e), upd_ne (ne_of_none e ht)]
    exact e
  exact (hp.tk k).snoc ⟨t, rfl, by rw [upd_ne n]; exact upd_same⟩
/-- all pairs u < v below n -/
def spPairs : Sp := fun vs H Q _ => ∃ n : Nat, vs = [.int (n : Int)] ∧ n ≤ 100 ∧ ∀ (l : Addr) (xs : List V) (H' : Hp), H l = none → Same H H' → H' l = some (.lst xs) → Prs H' xs (allP n) → Q (.ref l) H'
theorem ok_pairs (T : Blt mg) (D : DefAt K mg "_law_pairs" s_law_pairs ["n"]) : FnOk P w K mg base CX0 1 D.f D.fd ["n"] spPairs := by
  refine D.F.ok sc_law_pairs (fun vs H Q E h => ?_) (fun cdv A outer s H vs Q E hr h => ?_)
  · obtain ⟨n, rfl, _⟩ := h
    rfl
  · obtain ⟨n, rfl, hn, q⟩ := h
    refine ⟨_, (pss_cons (ps_set (i := 1) sc_law_pairs.nd rfl (Or.inl rfl) (pe_lst pa_nil))
      (pss_cons (ps_for PassesOwn.never (by rfl) (pi_range1 (by rfl) T.range (pa_cons (pv 0) pa_nil)) (pg_name (i := 2) sc_law_pairs.nd rfl (Or.inl rfl))
        (pss_one (ps_for PassesOwn.never (by rfl) (pi_range2 (by rfl) T.range (pa_cons (pe_op op_add (pv 2) pe_int) (pa_cons (pv 0) pa_nil))) (pg_name (i := 3) sc_law_pairs.nd rfl (Or.inl rfl))
          (pss_one (ps_expr (PE.bmK (K := K) rfl (pe_bm PySem.F.plainAttrs_list PySem.F.slot_list_append PySem.F.type_list_append mt_append (pv 1) (pa_cons (pe_tup (pa_cons (pv 2) (pa_cons (pv 3) pa_nil))) pa_nil))))))))
      (pss_one (ps_ret (pv 1))))), ?_⟩
    refine r_at (σ := [some _, none, none, none]) rfl ?_
    walk_at "z"
    refine r_lstN (by decide) fun f hf => ?_
    walk_at "z"
    refine r_rg1 (by omega) (forR_range (fun i σ' H' => (∃ x2 x3, σ' = [some (.int (n : Int)), some (.ref f), x2, x3]) ∧ Same H H' ∧ ∃ xs, H' f = some (.lst xs) ∧ Prs H' xs (preP n i)) ⟨⟨_, _, rfl⟩, same_new hf, [], upd_same, .nil⟩ ?_ ?_)
    · rintro i σ' H' hi ⟨⟨x2, x3, rfl⟩, sm, xs, hx, hp⟩
      walk_at "z"
      refine r_rg2 (by omega) (forR_range (fun j σ' H' => (∃ x3, σ' = [some (.int (n : Int)), some (.ref f), some (.int (0 + (i : Int))), x3]) ∧ Same H H' ∧ ∃ xs, H' f = some (.lst xs) ∧ Prs H' xs (preP n i ++ rowP i ((i : Int) + 1) j)) ⟨⟨_, rfl⟩, sm, xs, hx, ?_⟩ ?_ ?_)
      · rw [show rowP (i : Int) ((i : Int) + 1) 0 = [] from rfl, List.append_nil]
        exact hp
      · rintro j σ' H' hj ⟨⟨x3, rfl⟩, sm, xs, hx, hp⟩
        walk_at "z"
        refine r_tupN sz2 fun t ht => ?_
        walk_at "z"
        refine r_appT (by walk_at "zh") (small_lt ?_) ?_
        · rw [hp.length, List.length_append, rowP_len]
          have h1 := preP_len (n := n) (i := i)
          have h2 : i * n ≤ 100 * 100 := Nat.mul_le_mul (by omega) hn
          omega
        · refine ⟨⟨_, rfl⟩, same_mut (sm.trans (same_new ht)) hf, _, upd_same, ?_⟩
          rw [rowP_succ, ← List.append_assoc]
          have e1 : (0 : Int) + (i : Int) = i := by omega
          have e2 : (0 : Int) + (i : Int) + 1 + (j : Int) = (i : Int) + 1 + j := by omega
          rw [e2, e1]
          exact prs_push hx hp ht
      · rintro σ' H' ⟨⟨x3, rfl⟩, sm, xs, hx, hp⟩
        refine ⟨⟨_, _, rfl⟩, sm, xs, hx, ?_⟩
        have e : ((n : Int) - (0 + (i : Int) + 1)).toNat = n - 1 - i := by omega
        rw [e] at hp
        exact hp
    · rintro σ' H' ⟨⟨x2, x3, rfl⟩, sm, xs, hx, hp⟩
      walk_at "z"
      exact q f xs H' hf sm hx hp
/-- the rows ascending, each once -/
def spDistinct (K : PySem.W.Frag) : Sp := fun vs H Q _ => ∃ (l : Addr) (xs : List V) (ps : List (Int × Int)), vs = [.ref l] ∧ SqL K H l xs ∧ Prs H xs ps ∧ ps.length ≤ 10000 ∧
  ∀ (f : Addr) (ys : List V) (qs : List (Int × Int)) (H' : Hp), H f = none → Same H H' → H' f = some (.lst ys) → Prs H' ys qs → qs.Pairwise ltP → (∀ p, p ∈ qs ↔ p ∈ ps) → Q (.ref f) H'
theorem ok_distinct (T : Blt mg) (D : DefAt K mg "_law_distinct" s_law_distinct ["rows"]) : FnOk P w K mg base CX0 2 D.f D.fd ["rows"] (spDistinct K) := by
  refine D.F.ok sc_law_distinct (fun vs H Q E h => ?_) (fun cdv A outer s H vs Q E hr h => ?_)
  · obtain ⟨l, xs, ps, rfl, _⟩ := h
    rfl
  · obtain ⟨l, xs, ps, rfl, hl, hp, hlen, q⟩ := h
    refine ⟨_, (pss_cons (ps_set (i := 1) sc_law_distinct.nd rfl (Or.inl rfl) (pe_lst pa_nil))
      (pss_cons (ps_for PassesOwn.never (by rfl) (PI.listK (K := K) rfl (pi_list (pe_callB (cr_sortPrK (K := K) rfl) (by rfl) T.sorted (by decide +kernel) (pa_cons (pv 0) pa_nil)))) (pg_name (i := 2) sc_law_distinct.nd rfl (Or.inl rfl))
        (pss_one (ps_if (PW.pt (pw_or (pt_cmpR (op_eqDK (K := K) rfl hr.units) (pv 1) (pe_lst pa_nil) (nomark _)) (pw_or1 (pt_cmpR (op_neDK (K := K) rfl hr.units) (pe_ix (ix_listK (K := K) rfl) (pv 1) (pe_un un_neg pe_int) (fun _ _ => rfl)) (pv 2) (nomark _)))))
          (pss_one (ps_expr (PE.bmK (K := K) rfl (pe_bm PySem.F.plainAttrs_list PySem.F.slot_list_append PySem.F.type_list_append mt_append (pv 1) (pa_cons (pv 2) pa_nil)))))
          pss_nil)))
      (pss_one (ps_ret (pv 1))))), ?_⟩
    refine r_at (σ := [some _, none, none]) rfl ?_
    walk_at "z"
    refine r_lstN (by decide) fun f hf => ?_
    walk_at "z"
    have s1 : Same H (upd H f (.lst [])) := same_new hf
    refine ⟨l, xs, ps, rfl, s1.seq hl, hp.tk (.of_same s1), fun ys qs p pm hy pw hn => ?_⟩
    have s2 : Same H (upd (upd H f (.lst [])) p (.lst ys)) := s1.trans (same_new hn)
    have pf : f ≠ p := ne_of_none upd_same hn
    refine r_il (.inl (.inl upd_same)) (forR_list (xs := ys) (fun i σ' H' => (∃ x2, σ' = [some (.ref l), some (.ref f), x2]) ∧ Same H H' ∧ H' p = some (.lst ys) ∧ Prs H' ys qs ∧ ∃ zs fs, H' f = some (.lst zs) ∧ Prs H' zs fs ∧ Ded (qs.take i) fs)
      ⟨⟨_, rfl⟩, s2, upd_same, hy.tk (.new hn), [], [], (upd_ne pf).trans upd_same, .nil, .nil⟩ ?_ ?_ ?_)
    · rintro i σ' H' _ ⟨_, _, h, _⟩
      exact .inl (.inl h)
    · rintro i x σ' H' hx ⟨⟨x2, rfl⟩, sm, hpl, hys, zs, fs, hz, hfs, D0⟩
      obtain ⟨r, hr', hxr⟩ := pd_get hys hx
      have tk : qs.take (i + 1) = qs.take i ++ [r] := take_next hr'
      walk_at "z"
      refine r_lstN (by decide) fun e he => ?_
      have ef : f ≠ e := ne_of_none hz he
      have s3 : Same H' (upd H' e (.lst [])) := same_new he
      refine r_eqNil ((upd_ne ef).trans hz) upd_same (hfs.tk (.of_same s3)) ?_
      walk_at "z"
      have pl : ((qs.take i) ++ [r]).Pairwise leP := by
        rw [← tk]
        exact pw.take
      have lens : zs.length < sizeLine := small_lt (by
        have h1 : fs.length ≤ ps.length := by
          have nd := asc_nodup D0.asc
          have sub : ∀ z ∈ fs, z ∈ ps := fun z hz => pm.mem_iff.mp (List.mem_of_mem_take ((D0.mem z).mp hz))
          exact nodup_le _ _ nd sub
        have h2 := hfs.length
        omega)
      -- the row goes behind
      have push : ∀ H2 : Hp, Same H' H2 → H2 f = some (.lst zs) → fs.getLast? ≠ some r → (∃ x2_1, [some (V.ref l), some (V.ref f), some x] = [some (V.ref l), some (V.ref f), x2_1]) ∧ Same H (upd H2 f (.lst (zs ++ [x]))) ∧ (upd H2 f (.lst (zs ++ [x]))) p = some (.lst ys) ∧ Prs (upd H2 f (.lst (zs ++ [x]))) ys qs ∧ ∃ zs_1 fs_1, (upd H2 f (.lst (zs ++ [x]))) f = some (.lst zs_1) ∧ Prs (upd H2 f (.lst (zs ++ [x]))) zs_1 fs_1 ∧ Ded (qs.take (i + 1)) fs_1 := fun H2 sx hf2 hne => by
        have kk : TK H' (upd H2 f (.lst (zs ++ [x]))) := (TK.of_same sx).trans (.lst hf2)
        refine ⟨⟨_, rfl⟩, same_mut (sm.trans sx) hf, ?_, hys.tk kk, _, _, upd_same, (hfs.tk kk).snoc (hxr.tk kk), ?_⟩
        · rw [upd_ne (Ne.symm pf)]
          exact sx _ _ hpl
        · rw [tk]
          exact D0.more pl hne
      refine r_ite (fun h0 => ?_) (fun h0 => ?_)
      · walk_at "z"
        refine r_appT (by walk_at "zh") lens ?_
        refine push _ s3 ((upd_ne ef).trans hz) ?_
        rw [h0]
        exact fun z => nomatch z
      · walk_at "z"
        obtain ⟨r', hr2⟩ : ∃ r', fs.getLast? = some r' := by
          cases q9 : fs.getLast? with
          | some r' => exact ⟨r', rfl⟩
          | none => exact absurd (List.getLast?_eq_none_iff.mp q9) h0
        obtain ⟨x', hx', fx'⟩ := pd_last hfs hr2
        refine r_ixL (.inl (.inl ((upd_ne ef).trans hz))) (at_last hx') ?_
        walk_at "z"
        refine r_neP (fx'.tk (.of_same s3)) (hxr.tk (.of_same s3)) ?_
        walk_at "z"
        refine r_iteN (fun h1 => ?_) (fun h1 => ?_)
        · walk_at "z"
          refine r_appT (by walk_at "zh") lens ?_
          refine push _ s3 ((upd_ne ef).trans hz) ?_
          rw [hr2]
          exact fun z => h1 (Option.some.inj z)
        · walk_at "z"
          refine ⟨⟨_, rfl⟩, sm.trans s3, s3 _ _ hpl, hys.tk (.of_same s3), zs, fs, s3 _ _ hz, hfs.tk (.of_same s3), ?_⟩
          rw [tk]
          exact D0.same (by rw [hr2, h1])
    · rintro σ' H' ⟨⟨x2, rfl⟩, sm, hpl, hys, zs, fs, hz, hfs, D0⟩
      walk_at "z"
      rw [hys.length, List.take_length] at D0
      exact q f zs fs H' hf sm hz hfs D0.asc fun z => (D0.mem z).trans pm.mem_iff
end

set_option Elab.async false
set_option linter.all false
set_option maxRecDepth 100000
set_option maxHeartbeats 4000000
open PySem PySem.Spec PyProof.Rows L2

abbrev s_law_of : Stmt := topS 27
theorem sc_law_of : FnScope ["n", "pairs", "pair"] ["n", "pairs"] (defScope s_law_of) := ⟨rfl, rfl, rfl, by decide +kernel, rfl, by decide +kernel, by decide +kernel⟩

section
variable {P : Program} {w : World} {K : PySem.W.Frag} {mg : Str → Option Value} {base : Heap}
/-- the edges stand as a tuple of pairs at e -/
def EdgesAt (H : Hp) (e : Addr) (ps : List (Int × Int)) : Prop := ∃ xs, H e = some (.tup xs) ∧ Prs H xs ps
theorem EdgesAt.tk {H H' : Hp} (k : TK H H') {e : Addr} {ps : List (Int × Int)} (h : EdgesAt H e ps) : EdgesAt H' e ps := by
  obtain ⟨xs, h1, h2⟩ := h
  exact ⟨xs, k _ _ h1, h2.tk k⟩
/-- v is the graph of n and these edges -/
def GrAt (H : Hp) (v : V) (n : Int) (ps : List (Int × Int)) : Prop := ∃ g e, v = .ref g ∧ H g = some (.tup [.int n, .ref e]) ∧ EdgesAt H e ps
theorem GrAt.tk {H H' : Hp} (k : TK H H') {v : V} {n : Int} {ps : List (Int × Int)} (h : GrAt H v n ps) : GrAt H' v n ps := by
  obtain ⟨g, e, h1, h2, h3⟩ := h
  exact ⟨g, e, h1, k _ _ h2, h3.tk k⟩
/-- (n, tuple of distinct(..)) -/
def spOf (K : PySem.W.Frag) : Sp := fun vs H Q _ => ∃ (n : Int) (l : Addr) (xs : List V) (ps : List (Int × Int)), vs = [.int n, .ref l] ∧ SqL K H l xs ∧ Prs H xs ps ∧ ps.length ≤ 10000 ∧
  ∀ (v : V) (qs : List (Int × Int)) (H' : Hp), Same H H' → GrAt H' v n qs → qs.Pairwise ltP → (∀ p, p ∈ qs ↔ ∃ r ∈ ps, p = nrm r) → Q v H'
theorem r_minP {x : V} {p : Int × Int} {H : Hp} {Q : VK} (h : IsP H x p) (q : Q (.int (min p.1 p.2)) H) : rMinT [x] H Q := ⟨x, p, rfl, h, q⟩
theorem r_maxP {x : V} {p : Int × Int} {H : Hp} {Q : VK} (h : IsP H x p) (q : Q (.int (max p.1 p.2)) H) : rMaxT [x] H Q := ⟨x, p, rfl, h, q⟩
theorem ok_of (T : Blt mg) (D : DefAt K mg "_law_of" s_law_of ["n", "pairs"]) (D_law_distinct : DefAt K mg "_law_distinct" s_law_distinct ["rows"]) (G_law_distinct : FnOk P w K mg base CX0 2 D_law_distinct.f D_law_distinct.fd ["rows"] (spDistinct K)) :
    FnOk P w K mg base CX0 3 D.f D.fd ["n", "pairs"] (spOf K) := by
  refine D.F.ok sc_law_of (fun vs H Q E h => ?_) (fun cdv A outer s H vs Q E hr h => ?_)
  · obtain ⟨n, l, xs, ps, rfl, _⟩ := h
    rfl
  · obtain ⟨n, l, xs, ps, rfl, hl, hp, hlen, q⟩ := h
    refine ⟨_, (pss_one (ps_ret (pe_tup (pa_cons (pv 0) (pa_cons (pe_callTy (call_tupleK (K := K) rfl) (by rfl) T.tuple (by decide +kernel) (pa_cons (pe_call G_law_distinct (hr.mono (by first | decide | omega)) (by rfl) D_law_distinct.g D_law_distinct.F.kp D_law_distinct.b .nil pass0 (pa_cons (pe_lc (own := [("pair", 2)]) (by rfl) sc_law_of.nd (PI.listK (K := K) rfl (pi_list (pv 1))) (blkOk_by (own := [("pair", 2)]) (N := ["n", "pairs", "pair"]) (sc := (defScope s_law_of)) (by decide +kernel)) (fun _ _ _ _ _ => (pg_name (i := 2) sc_law_of.nd rfl (Or.inl rfl))) (fun _ _ _ _ _ => pts_nil) (fun _ _ _ _ _ => (pe_tup (pa_cons (pe_callB (cr_minT rfl) (by rfl) T.min (by decide +kernel) (pa_cons (pv 2) pa_nil)) (pa_cons (pe_callB (cr_maxT rfl) (by rfl) T.max (by decide +kernel) (pa_cons (pv 2) pa_nil)) pa_nil))))) pa_nil)) pa_nil)) pa_nil))))), ?_⟩
    refine r_at (σ := [some _, some _, none]) rfl ?_
    walk_at "z"
    refine r_il hl fun d hd => lcR_list (xs := xs) (fun i H' => Same H H' ∧ ∃ ys, H' d = some (.lst ys) ∧ Prs H' ys ((ps.take i).map nrm)) (by walk_at "zw") ⟨same_new hd, [], upd_same, .nil⟩ (fun i H' _ ⟨s1, _⟩ => s1.seq hl) ?_ ?_
    · rintro i x H' hx ⟨s1, ys, hy, hys⟩
      obtain ⟨p, hpi, hxp⟩ := pd_get (hp.tk (.of_same s1)) hx
      walk_at "z"
      refine ⟨rfl, ?_⟩
      walk_at "z"
      refine r_minP hxp ?_
      walk_at "z"
      refine r_maxP hxp ?_
      walk_at "z"
      refine r_tupN sz2 fun t ht => ?_
      refine r_lce (by walk_at "zh") (small_lt ?_) ⟨same_mut (s1.trans (same_new ht)) hd, _, upd_same, ?_⟩
      · rw [hys.length, List.length_map, List.length_take]
        omega
      · rw [take_next hpi, List.map_append]
        exact prs_push hy hys ht
    · rintro H' ⟨s1, ys, hy, hys⟩
      rw [hp.length, List.take_length] at hys
      walk_at "z"
      refine ⟨d, ys, _, rfl, .inl (.inl hy), hys, by rw [List.length_map]; exact hlen, fun f zs qs H2 hf s2 hz hzs asc mem => ?_⟩
      walk_at "z"
      refine r_tupL (.inl (.inl hz)) fun e he => ?_
      walk_at "z"
      refine r_tupN sz2 fun g hg => ?_
      have s3 : Same H2 (upd H2 e (.tup zs)) := same_new he
      have s4 := s3.trans (same_new (o := .tup [.int n, .ref e]) hg)
      refine q _ qs _ ((s1.trans s2).trans s4) ⟨g, e, rfl, upd_same, zs, (upd_ne (ne_of_none upd_same hg)).trans upd_same, hzs.tk (.of_same s4)⟩ asc fun p => ?_
      rw [mem, List.mem_map]
      constructor
      · rintro ⟨r, hr, rfl⟩
        exact ⟨r, hr, rfl⟩
      · rintro ⟨r, hr, rfl⟩
        exact ⟨r, hr, rfl⟩
/-- are u and v neighbours? -/
def spMet : Sp := fun vs H Q _ => ∃ (g : V) (n u v : Int) (ps : List (Int × Int)), vs = [g, .int u, .int v] ∧ GrAt H g n ps ∧ ∀ H', Same H H' → Q (.bl (decide (nrm (u, v) ∈ ps))) H'
/-- the neighbours, ascending -/
def nearL (n : Int) (ps : List (Int × Int)) (v : Int) (k : Nat) : List Int := ((List.range k).map fun (i : Nat) => (i : Int)).filter fun u => decide (u ≠ v ∧ nrm (u, v) ∈ ps)
def spNear : Sp := fun vs H Q _ => ∃ (g : V) (n v : Int) (ps : List (Int × Int)), vs = [g, .int v] ∧ GrAt H g n ps ∧ 0 ≤ n ∧ n ≤ 100 ∧ ∀ (l : Addr) (H' : Hp), H l = none → Same H H' → H' l = some (.lst ((nearL n ps v n.toNat).map V.int)) → Q (.ref l) H'
end

set_option Elab.async false
set_option linter.all false
set_option maxRecDepth 100000
set_option maxHeartbeats 4000000
open PySem PySem.Spec PyProof.Rows L2

abbrev s_law_same : Stmt := topS 23
theorem sc_law_same : FnScope ["actual", "due", "k"] ["actual", "due"] (defScope s_law_same) := ⟨rfl, rfl, rfl, by decide +kernel, rfl, by decide +kernel, by decide +kernel⟩

/-! ## values that are alike -/
def kd : PyData → String
  | .none => "NoneType"
  | .bool _ => "bool"
  | .int _ => "int"
  | .str _ => "str"
  | .list _ => "list"
  | .tuple _ => "tuple"
  | .dict _ => "dict"
/-- no deeper than d, and nowhere long -/
def sm : Nat → PyData → Prop
  | 0, _ => False
  | _ + 1, .none => True
  | _ + 1, .bool _ => True
  | _ + 1, .int _ => True
  | _ + 1, .str x => x.cps.all (· < 0x110000) = true
  | d + 1, .list xs => xs.length ≤ 100000 ∧ ∀ x ∈ xs, sm d x
  | d + 1, .tuple xs => xs.length ≤ 100000 ∧ ∀ x ∈ xs, sm d x
  | _ + 1, .dict _ => False
section
variable {P : Program} {w : World} {K : PySem.W.Frag} {mg : Str → Option Value} {base : Heap}
theorem DpAll.pd {H : Hp} : ∀ (ds : List PyData) {vs : List V}, DpAll K H vs ds → Paired (Dp K H) vs ds
  | [], _, .nil => .nil
  | _ :: ds, _, .cons h r => .cons h (DpAll.pd ds r)
theorem DpAll.of {H : Hp} : ∀ {ds : List PyData} {vs : List V}, Paired (Dp K H) vs ds → DpAll K H vs ds
  | _, _, .nil => .nil
  | _, _, .cons h r => .cons h (DpAll.of r)
theorem ty_dp {H : Hp} {x : V} {t : PyData} (h : Dp K H x t) : TyX K H x (.type (kd t)) := by
  cases h with
  | non => exact .base .non
  | bl b => exact .base (.bl b)
  | int i => exact .base (.int i)
  | str s => exact .base (.str s)
  | lst h _ =>
    rcases h with (h | ⟨ob, h⟩) | ⟨o, its, n, h1, h2, _⟩
    · exact .base (.lst h)
    · exact .base (.frz h)
    · exact .kList h1 h2
  | tup h _ =>
    rcases h with (h | ⟨ob, h⟩) | ⟨o, its, n, h1, h2, _⟩
    · exact .base (.tup h)
    · exact .fTuple h
    · exact .kTuple h1 h2
theorem r_isiD {H : Hp} {Q : VK} {x : V} {t : PyData} {c k : String} {b : Bool} (h : Dp K H x t) (e1 : kd t = k) (e : kitB k c = some b) (q : Q (.bl b) H) : rIsi K [x, .ty c] H Q :=
  ⟨x, .ty c, .type k, .type c, b, rfl, .ty _, e1 ▸ ty_dp h, kit_ty e, q⟩
theorem r_eqD {H : Hp} {Q : VK} {x y : V} {t : PyData} (hx : Dp K H x t) (hy : Dp K H y t) (c : t.canLay0 = true) (d : t.depth ≤ 64) (q : Q (.bl true) H) : rEqD K x y H Q := by
  have e : SeqAt.shaped t = true := by
    unfold SeqAt.shaped
    rw [c, decide_eq_true d]
    rfl
  refine ⟨t, t, hx, hy, e, e, ?_⟩
  rw [PySem.SeqAt.eqv_refl t c]
  exact q
theorem r_isN {H : Hp} {Q : VK} {x : V} (q : Q (.bl (decide (x = .non))) H) : (fun (x y : V) (H : Hp) (Q : VK) => y = .non ∧ Q (.bl (decide (x = .non))) H) x .non H Q := ⟨rfl, q⟩
def spSame (K : PySem.W.Frag) (d : Nat) : Sp := fun vs H Q _ => ∃ (x y : V) (t : PyData), vs = [x, y] ∧ Dp K H x t ∧ Dp K H y t ∧ sm d t ∧ Q (.bl true) H
theorem ok_same (T : Blt mg) (D_law_same : DefAt K mg "_law_same" s_law_same ["actual", "due"]) : ∀ d : Nat, FnOk P w K mg base CX0 d D_law_same.f D_law_same.fd ["actual", "due"] (spSame K d)
  | 0 => fn_none.imp fun vs H Q E h => by
    obtain ⟨_, _, _, _, _, _, h, _⟩ := h
    exact h
  | d + 1 => by
    have G_law_same := ok_same T D_law_same d
    refine D_law_same.F.ok sc_law_same (fun vs H Q E h => ?_) (fun cdv A outer s H vs Q E hr h => ?_)
    · obtain ⟨x, y, t, rfl, _⟩ := h
      rfl
    · obtain ⟨x, y, t, rfl, hx, hy, hd, q⟩ := h
      refine ⟨_, (pss_cons (ps_if (PW.pt (pw_or (pt_val (pe_callB (call_isiK (K := K) rfl) (by rfl) T.isinstance (by decide +kernel) (pa_cons (pv 1) (pa_cons (pe_bltn (v := .ty "tuple") (u := .type "tuple") (by rfl) T.tuple (by decide +kernel) rfl) pa_nil)))) (pw_or1 (pt_val (pe_callB (call_isiK (K := K) rfl) (by rfl) T.isinstance (by decide +kernel) (pa_cons (pv 1) (pa_cons (pe_bltn (v := .ty "list") (u := .type "list") (by rfl) T.list (by decide +kernel) rfl) pa_nil)))))))
        (pss_cons (ps_if (PW.pt (pw_or (pt_cmpR op_ne (pe_callB (call_isiK (K := K) rfl) (by rfl) T.isinstance (by decide +kernel) (pa_cons (pv 1) (pa_cons (pe_bltn (v := .ty "tuple") (u := .type "tuple") (by rfl) T.tuple (by decide +kernel) rfl) pa_nil))) (pe_callB (call_isiK (K := K) rfl) (by rfl) T.isinstance (by decide +kernel) (pa_cons (pv 0) (pa_cons (pe_bltn (v := .ty "tuple") (u := .type "tuple") (by rfl) T.tuple (by decide +kernel) rfl) pa_nil))) (nomark _)) (pw_or1 (pt_cmpR op_ne (pe_callB (call_isiK (K := K) rfl) (by rfl) T.isinstance (by decide +kernel) (pa_cons (pv 1) (pa_cons (pe_bltn (v := .ty "list") (u := .type "list") (by rfl) T.list (by decide +kernel) rfl) pa_nil))) (pe_callB (call_isiK (K := K) rfl) (by rfl) T.isinstance (by decide +kernel) (pa_cons (pv 0) (pa_cons (pe_bltn (v := .ty "list") (u := .type "list") (by rfl) T.list (by decide +kernel) rfl) pa_nil))) (nomark _)))))
          (pss_one (ps_ret pe_bl))
          pss_nil)
        (pss_cons (ps_if (pt_cmpR op_ne (pe_callB (call_lenK (K := K) rfl) (by rfl) T.len (by decide +kernel) (pa_cons (pv 0) pa_nil)) (pe_callB (call_lenK (K := K) rfl) (by rfl) T.len (by decide +kernel) (pa_cons (pv 1) pa_nil)) (nomark _))
          (pss_one (ps_ret pe_bl))
          pss_nil)
        (pss_cons (ps_for PassesOwn.never (by rfl) (pi_range1 (by rfl) T.range (pa_cons (pe_callB (call_lenK (K := K) rfl) (by rfl) T.len (by decide +kernel) (pa_cons (pv 1) pa_nil)) pa_nil)) (pg_name (i := 2) sc_law_same.nd rfl (Or.inl rfl))
          (pss_one (ps_if (pt_not (pt_val (pe_call G_law_same (hr.mono (by first | decide | omega)) (by rfl) D_law_same.g D_law_same.F.kp D_law_same.b .nil pass0 (pa_cons (pe_ix (ix_eitherK (K := K) rfl) (pv 0) (pv 2) (fun _ _ => rfl)) (pa_cons (pe_ix (ix_eitherK (K := K) rfl) (pv 1) (pv 2) (fun _ _ => rfl)) pa_nil)))))
            (pss_one (ps_ret pe_bl))
            pss_nil)))
        (pss_one (ps_ret pe_bl)))))
        pss_nil)
      (pss_cons (ps_if (pt_cmpR op_isN (pv 1) pe_non (nomark _))
        (pss_one (ps_ret (pe_cmpR op_isN (pv 0) pe_non (nomark _))))
        pss_nil)
      (pss_cons (ps_if (pt_val (pe_callB (call_isiK (K := K) rfl) (by rfl) T.isinstance (by decide +kernel) (pa_cons (pv 1) (pa_cons (pe_bltn (v := .ty "bool") (u := .type "bool") (by rfl) T.bool (by decide +kernel) rfl) pa_nil))))
        (pss_one (ps_ret (pe_and (pe_callB (call_isiK (K := K) rfl) (by rfl) T.isinstance (by decide +kernel) (pa_cons (pv 0) (pa_cons (pe_bltn (v := .ty "bool") (u := .type "bool") (by rfl) T.bool (by decide +kernel) rfl) pa_nil))) (pe_one (pe_cmpR (op_eqDK (K := K) rfl hr.units) (pv 0) (pv 1) (nomark _))))))
        pss_nil)
      (pss_cons (ps_if (pt_val (pe_callB (call_isiK (K := K) rfl) (by rfl) T.isinstance (by decide +kernel) (pa_cons (pv 1) (pa_cons (pe_bltn (v := .ty "int") (u := .type "int") (by rfl) T.int (by decide +kernel) rfl) pa_nil))))
        (pss_one (ps_ret (pe_and (pe_callB (call_isiK (K := K) rfl) (by rfl) T.isinstance (by decide +kernel) (pa_cons (pv 0) (pa_cons (pe_bltn (v := .ty "int") (u := .type "int") (by rfl) T.int (by decide +kernel) rfl) pa_nil))) (pe_and (pe_not (pe_callB (call_isiK (K := K) rfl) (by rfl) T.isinstance (by decide +kernel) (pa_cons (pv 0) (pa_cons (pe_bltn (v := .ty "bool") (u := .type "bool") (by rfl) T.bool (by decide +kernel) rfl) pa_nil)))) (pe_one (pe_cmpR (op_eqDK (K := K) rfl hr.units) (pv 0) (pv 1) (nomark _)))))))
        pss_nil)
      (pss_one (ps_ret (pe_and (pe_callB (call_isiK (K := K) rfl) (by rfl) T.isinstance (by decide +kernel) (pa_cons (pv 0) (pa_cons (pe_bltn (v := .ty "str") (u := .type "str") (by rfl) T.str (by decide +kernel) rfl) pa_nil))) (pe_one (pe_cmpR (op_eqDK (K := K) rfl hr.units) (pv 0) (pv 1) (nomark _)))))))))), ?_⟩
      refine r_at (σ := [some _, some _, none]) rfl ?_
      cases t with
      | none =>
        cases hx; cases hy
        walk_at "z"
        refine r_isiD .non (k := "NoneType") rfl (b := false) (by decide +kernel) ?_
        walk_at "z"
        refine r_isiD .non (k := "NoneType") rfl (b := false) (by decide +kernel) ?_
        walk_at "z"
        refine r_isN ?_
        walk_at "z"
        refine iteT ?_
        walk_at "z"
        refine r_isN ?_
        exact q
      | bool b =>
        cases hx; cases hy
        walk_at "z"
        refine r_isiD (.bl b) (k := "bool") rfl (b := false) (by decide +kernel) ?_
        walk_at "z"
        refine r_isiD (.bl b) (k := "bool") rfl (b := false) (by decide +kernel) ?_
        walk_at "z"
        refine r_isN ?_
        walk_at "z"
        refine iteF ?_
        walk_at "z"
        refine r_isiD (.bl b) (k := "bool") rfl (b := true) (by decide +kernel) ?_
        walk_at "z"
        refine r_isiD (.bl b) (k := "bool") rfl (b := true) (by decide +kernel) ?_
        walk_at "z"
        exact r_eqD (.bl b) (.bl b) (by simp [PyData.canLay0]) (by simp [PyData.depth]) q
      | int i =>
        cases hx; cases hy
        walk_at "z"
        refine r_isiD (.int i) (k := "int") rfl (b := false) (by decide +kernel) ?_
        walk_at "z"
        refine r_isiD (.int i) (k := "int") rfl (b := false) (by decide +kernel) ?_
        walk_at "z"
        refine r_isN ?_
        walk_at "z"
        refine iteF ?_
        walk_at "z"
        refine r_isiD (.int i) (k := "int") rfl (b := false) (by decide +kernel) ?_
        walk_at "z"
        refine r_isiD (.int i) (k := "int") rfl (b := true) (by decide +kernel) ?_
        walk_at "z"
        refine r_isiD (.int i) (k := "int") rfl (b := true) (by decide +kernel) ?_
        walk_at "z"
        refine r_isiD (.int i) (k := "int") rfl (b := false) (by decide +kernel) ?_
        walk_at "z"
        refine iteT ?_
        walk_at "z"
        exact r_eqD (.int i) (.int i) (by simp [PyData.canLay0]) (by simp [PyData.depth]) q
      | str z =>
        cases hx; cases hy
        walk_at "z"
        refine r_isiD (.str z) (k := "str") rfl (b := false) (by decide +kernel) ?_
        walk_at "z"
        refine r_isiD (.str z) (k := "str") rfl (b := false) (by decide +kernel) ?_
        walk_at "z"
        refine r_isN ?_
        walk_at "z"
        refine iteF ?_
        walk_at "z"
        refine r_isiD (.str z) (k := "str") rfl (b := false) (by decide +kernel) ?_
        walk_at "z"
        refine r_isiD (.str z) (k := "str") rfl (b := false) (by decide +kernel) ?_
        walk_at "z"
        refine r_isiD (.str z) (k := "str") rfl (b := true) (by decide +kernel) ?_
        walk_at "z"
        exact r_eqD (.str z) (.str z) (by unfold PyData.canLay0; exact hd) (by simp [PyData.depth]) q
      | list ds =>
        obtain ⟨hn, hm⟩ := hd
        cases id hx with
        | @lst a xs _ hxs hxd =>
        cases id hy with
        | @lst b ys _ hys hyd =>
        have px := DpAll.pd _ hxd
        have py := DpAll.pd _ hyd
        have lx := px.length
        have ly := py.length
        walk_at "z"
        refine r_isiD hy (k := "list") rfl (b := false) (by decide +kernel) ?_
        walk_at "z"
        refine r_isiD hy (k := "list") rfl (b := true) (by decide +kernel) ?_
        walk_at "z"
        refine r_isiD hy (k := "list") rfl (b := false) (by decide +kernel) ?_
        walk_at "z"
        refine r_isiD hx (k := "list") rfl (b := false) (by decide +kernel) ?_
        walk_at "z"
        refine iteF ?_
        walk_at "z"
        refine r_isiD hy (k := "list") rfl (b := true) (by decide +kernel) ?_
        walk_at "z"
        refine r_isiD hx (k := "list") rfl (b := true) (by decide +kernel) ?_
        walk_at "z"
        refine iteF ?_
        walk_at "z"
        refine r_iteN (fun h => absurd (by omega) h) (fun _ => ?_)
        walk_at "z"
        walk_at "z"
        refine r_rg1 (by omega) (forR_range (fun i σ' H' => H' = H ∧ ∃ x2, σ' = [some (.ref a), some (.ref b), x2]) ⟨rfl, _, rfl⟩ ?_ ?_)
        · rintro i σ' H' hi ⟨rfl, x2, rfl⟩
          have hi' : i < ds.length := by omega
          obtain ⟨x, hxi, hxt⟩ := pd_get2 px (List.getElem?_eq_getElem hi')
          obtain ⟨y, hyi, hyt⟩ := pd_get2 py (List.getElem?_eq_getElem hi')
          have e0 : (0 : Int) + (i : Int) = i := by omega
          walk_at "z"
          rw [e0]
          refine r_ixE (.inl hxs) (atI_nat hxi) ?_
          walk_at "z"
          refine r_ixE (.inl hys) (atI_nat hyi) ?_
          walk_at "z"
          refine ⟨x, y, ds[i], rfl, hxt, hyt, hm _ (List.getElem_mem hi'), ?_⟩
          walk_at "z"
          refine iteF ?_
          exact ⟨rfl, _, rfl⟩
        · rintro σ' H' ⟨rfl, x2, rfl⟩
          walk_at "z"
          exact q
      | tuple ds =>
        obtain ⟨hn, hm⟩ := hd
        cases id hx with
        | @tup a xs _ hxs hxd =>
        cases id hy with
        | @tup b ys _ hys hyd =>
        have px := DpAll.pd _ hxd
        have py := DpAll.pd _ hyd
        have lx := px.length
        have ly := py.length
        walk_at "z"
        refine r_isiD hy (k := "tuple") rfl (b := true) (by decide +kernel) ?_
        walk_at "z"
        refine r_isiD hy (k := "tuple") rfl (b := true) (by decide +kernel) ?_
        walk_at "z"
        refine r_isiD hx (k := "tuple") rfl (b := true) (by decide +kernel) ?_
        walk_at "z"
        refine iteF ?_
        walk_at "z"
        refine r_isiD hy (k := "tuple") rfl (b := false) (by decide +kernel) ?_
        walk_at "z"
        refine r_isiD hx (k := "tuple") rfl (b := false) (by decide +kernel) ?_
        walk_at "z"
        refine iteF ?_
        walk_at "z"
        refine r_iteN (fun h => absurd (by omega) h) (fun _ => ?_)
        walk_at "z"
        walk_at "z"
        refine r_rg1 (by omega) (forR_range (fun i σ' H' => H' = H ∧ ∃ x2, σ' = [some (.ref a), some (.ref b), x2]) ⟨rfl, _, rfl⟩ ?_ ?_)
        · rintro i σ' H' hi ⟨rfl, x2, rfl⟩
          have hi' : i < ds.length := by omega
          obtain ⟨x, hxi, hxt⟩ := pd_get2 px (List.getElem?_eq_getElem hi')
          obtain ⟨y, hyi, hyt⟩ := pd_get2 py (List.getElem?_eq_getElem hi')
          have e0 : (0 : Int) + (i : Int) = i := by omega
          walk_at "z"
          rw [e0]
          refine r_ixE (.inr hxs) (atI_nat hxi) ?_
          walk_at "z"
          refine r_ixE (.inr hys) (atI_nat hyi) ?_
          walk_at "z"
          refine ⟨x, y, ds[i], rfl, hxt, hyt, hm _ (List.getElem_mem hi'), ?_⟩
          walk_at "z"
          refine iteF ?_
          exact ⟨rfl, _, rfl⟩
        · rintro σ' H' ⟨rfl, x2, rfl⟩
          walk_at "z"
          exact q
      | dict ds => exact hd.elim
end

set_option Elab.async false
set_option linter.all false
set_option maxRecDepth 100000
set_option maxHeartbeats 4000000
open PySem PySem.Spec PyProof.Rows L2 LamX RZ

abbrev s_is_integer : Stmt := topS 1
theorem sc_is_integer : FnScope ["value"] ["value"] (defScope s_is_integer) := ⟨rfl, rfl, rfl, by decide +kernel, rfl, by decide +kernel, by decide +kernel⟩

abbrev s_is_tuple : Stmt := topS 2
theorem sc_is_tuple : FnScope ["value", "many"] ["value", "many"] (defScope s_is_tuple) := ⟨rfl, rfl, rfl, by decide +kernel, rfl, by decide +kernel, by decide +kernel⟩

abbrev s_is_vertex : Stmt := topS 3
theorem sc_is_vertex : FnScope ["n", "value"] ["n", "value"] (defScope s_is_vertex) := ⟨rfl, rfl, rfl, by decide +kernel, rfl, by decide +kernel, by decide +kernel⟩

abbrev s_are_vertices : Stmt := topS 4
theorem sc_are_vertices : FnScope ["n", "value", "v"] ["n", "value"] (defScope s_are_vertices) := ⟨rfl, rfl, rfl, by decide +kernel, rfl, by decide +kernel, by decide +kernel⟩

abbrev s_is_set : Stmt := topS 5
theorem sc_is_set : FnScope ["n", "value"] ["n", "value"] (defScope s_is_set) := ⟨rfl, rfl, rfl, by decide +kernel, rfl, by decide +kernel, by decide +kernel⟩

abbrev s_is_ascending : Stmt := topS 6
theorem sc_is_ascending : FnScope ["items", "at"] ["items"] (defScope s_is_ascending) := ⟨rfl, rfl, rfl, by decide +kernel, rfl, by decide +kernel, by decide +kernel⟩

abbrev s_is_edge : Stmt := topS 7
theorem sc_is_edge : FnScope ["n", "value"] ["n", "value"] (defScope s_is_edge) := ⟨rfl, rfl, rfl, by decide +kernel, rfl, by decide +kernel, by decide +kernel⟩

abbrev s_are_edges : Stmt := topS 8
theorem sc_are_edges : FnScope ["n", "value", "edge"] ["n", "value"] (defScope s_are_edges) := ⟨rfl, rfl, rfl, by decide +kernel, rfl, by decide +kernel, by decide +kernel⟩

abbrev s_is_size : Stmt := topS 11
theorem sc_is_size : FnScope ["value"] ["value"] (defScope s_is_size) := ⟨rfl, rfl, rfl, by decide +kernel, rfl, by decide +kernel, by decide +kernel⟩

abbrev s_is_graph : Stmt := topS 12
theorem sc_is_graph : FnScope ["value", "n", "edges"] ["value"] (defScope s_is_graph) := ⟨rfl, rfl, rfl, by decide +kernel, rfl, by decide +kernel, by decide +kernel⟩

/-- the name of a generator expression in the def x -/
def genN (x : Str) : Str := (envOfC x default 0 0 .none).qual ++ "<genexpr>"
theorem ty_dx {K : PySem.W.Frag} {a : Addr} {H : Hp} {x : V} {t : PyData} (h : DX a H x t) : TyX K H x (.type (kd t)) := by
  cases h with
  | non => exact .base .non
  | bl b => exact .base (.bl b)
  | int i => exact .base (.int i)
  | str s => exact .base (.str s)
  | lst _ h _ => exact .base (.lst h)
  | tup h _ => exact h.elim (fun h => .base (.tup h)) fun ⟨o, h⟩ => .fTuple h
  | dk _ h => exact .base (.dK h)
theorem r_isiX {K : PySem.W.Frag} {a : Addr} {H : Hp} {Q : VK} {x : V} {t : PyData} {c k : String} {b : Bool} (h : DX a H x t) (e1 : kd t = k) (e : kitB k c = some b) (q : Q (.bl b) H) : rIsi K [x, .ty c] H Q :=
  ⟨x, .ty c, .type k, .type c, b, rfl, .ty _, e1 ▸ ty_dx h, kit_ty e, q⟩
/-- the kinds -/
def tupD : PyData → Bool
  | .tuple _ => true
  | _ => false
theorem kit_tup (t : PyData) : kitB (kd t) "tuple" = some (tupD t) := by
  cases t with
  | none => exact (show kitB "NoneType" "tuple" = some false by decide +kernel)
  | bool b => exact (show kitB "bool" "tuple" = some false by decide +kernel)
  | int b => exact (show kitB "int" "tuple" = some false by decide +kernel)
  | str b => exact (show kitB "str" "tuple" = some false by decide +kernel)
  | list b => exact (show kitB "list" "tuple" = some false by decide +kernel)
  | tuple b => exact (show kitB "tuple" "tuple" = some true by decide +kernel)
  | dict b => exact (show kitB "dict" "tuple" = some false by decide +kernel)
theorem tupD_of {t : PyData} (h : tupD t = true) : ∃ ds, t = .tuple ds := by
  cases t with
  | tuple ds => exact ⟨ds, rfl⟩
  | _ => exact absurd h Bool.false_ne_true
/-- each item less than the next -/
def adjI (ns : List Int) : Prop := ∀ (j : Nat) x y, ns[j]? = some x → ns[j + 1]? = some y → x < y
def adjP (ps : List (Int × Int)) : Prop := ∀ (j : Nat) x y, ps[j]? = some x → ps[j + 1]? = some y → ltP x y
def edgD (n : Int) (d : PyData) : Prop := ∃ u v : Int, d = .tuple [.int u, .int v] ∧ 0 ≤ u ∧ u < v ∧ v < n
section
variable {P : Program} {w : World} {K : PySem.W.Frag} {mg : Str → Option Value} {base : Heap}
def spIntX (b : Addr) : Sp := fun vs H Q _ => ∃ (v : V) (d : PyData), vs = [v] ∧ DX b H v d ∧ Q (.bl (intD d)) H
theorem ok_intX {b : Addr} (T : Blt mg) (D : DefAt K mg "is_integer" s_is_integer ["value"]) : FnOk P w K mg base CX0 1 D.f D.fd ["value"] (spIntX b) := by
  refine D.F.ok sc_is_integer (fun vs H Q E h => ?_) (fun cdv A outer s H vs Q E hr h => ?_)
  · obtain ⟨v, d, rfl, _⟩ := h
    rfl
  · obtain ⟨v, d, rfl, hd, q⟩ := h
    refine ⟨_, (pss_one (ps_ret (pe_and (pe_callB (call_isiK (K := K) rfl) (by rfl) T.isinstance (by decide +kernel) (pa_cons (pv 0) (pa_cons (pe_bltn (v := .ty "int") (u := .type "int") (by rfl) T.int (by decide +kernel) rfl) pa_nil))) (pe_one (pe_not (pe_callB (call_isiK (K := K) rfl) (by rfl) T.isinstance (by decide +kernel) (pa_cons (pv 0) (pa_cons (pe_bltn (v := .ty "bool") (u := .type "bool") (by rfl) T.bool (by decide +kernel) rfl) pa_nil)))))))), ?_⟩
    refine r_at (σ := [some _]) rfl ?_
    walk_at "z"
    cases d with
    | int i =>
      refine r_isiX hd (k := "int") rfl (b := true) (by decide +kernel) ?_
      walk_at "z"
      refine r_isiX hd (k := "int") rfl (b := false) (by decide +kernel) ?_
      walk_at "z"
      exact q
    | bool i =>
      refine r_isiX hd (k := "bool") rfl (b := true) (by decide +kernel) ?_
      walk_at "z"
      refine r_isiX hd (k := "bool") rfl (b := true) (by decide +kernel) ?_
      walk_at "z"
      exact q
    | none =>
      refine r_isiX hd (k := "NoneType") rfl (b := false) (by decide +kernel) ?_
      walk_at "z"
      exact q
    | str x =>
      refine r_isiX hd (k := "str") rfl (b := false) (by decide +kernel) ?_
      walk_at "z"
      exact q
    | list ds =>
      refine r_isiX hd (k := "list") rfl (b := false) (by decide +kernel) ?_
      walk_at "z"
      exact q
    | tuple ds =>
      refine r_isiX hd (k := "tuple") rfl (b := false) (by decide +kernel) ?_
      walk_at "z"
      exact q
    | dict ds =>
      refine r_isiX hd (k := "dict") rfl (b := false) (by decide +kernel) ?_
      walk_at "z"
      exact q
def lenD (m : Int) : PyData → Bool
  | .tuple ds => decide ((ds.length : Int) = m)
  | _ => false
def spTupX (b : Addr) : Sp := fun vs H Q _ => ∃ (v : V) (d : PyData) (m : Int), vs = [v, .int m] ∧ DX b H v d ∧ Q (.bl (lenD m d)) H
theorem ok_tupX {b : Addr} (T : Blt mg) (D : DefAt K mg "is_tuple" s_is_tuple ["value", "many"]) : FnOk P w K mg base CX0 1 D.f D.fd ["value", "many"] (spTupX b) := by
  refine D.F.ok sc_is_tuple (fun vs H Q E h => ?_) (fun cdv A outer s H vs Q E hr h => ?_)
  · obtain ⟨v, d, m, rfl, _⟩ := h
    rfl
  · obtain ⟨v, d, m, rfl, hd, q⟩ := h
    refine ⟨_, (pss_one (ps_ret (pe_and (pe_callB (call_isiK (K := K) rfl) (by rfl) T.isinstance (by decide +kernel) (pa_cons (pv 0) (pa_cons (pe_bltn (v := .ty "tuple") (u := .type "tuple") (by rfl) T.tuple (by decide +kernel) rfl) pa_nil))) (pe_one (pe_cmpR op_eq (pe_callB (call_lenK (K := K) rfl) (by rfl) T.len (by decide +kernel) (pa_cons (pv 0) pa_nil)) (pv 1) (nomark _)))))), ?_⟩
    refine r_at (σ := [some _, some _]) rfl ?_
    walk_at "z"
    refine r_isiX hd rfl (kit_tup d) ?_
    cases e : tupD d with
    | false =>
      walk_at "z"
      have : lenD m d = false := by
        cases d with
        | tuple ds => exact absurd e.symm Bool.false_ne_true
        | _ => rfl
      rw [this] at q
      exact q
    | true =>
      obtain ⟨ds, rfl⟩ := tupD_of e
      cases id hd with
      | @tup p xs _ hp hxd =>
      have hq : SqT K H p xs := .inl hp
      walk_at "z"
      rw [hxd.len]
      exact q
def spVxX (b : Addr) : Sp := fun vs H Q _ => ∃ (n : Int) (v : V) (d : PyData), vs = [.int n, v] ∧ DX b H v d ∧ Q (.bl (verD n d)) H
theorem ok_vxX {b : Addr} (T : Blt mg) (D : DefAt K mg "is_vertex" s_is_vertex ["n", "value"]) (D_is_integer : DefAt K mg "is_integer" s_is_integer ["value"]) (G_is_integer : FnOk P w K mg base CX0 1 D_is_integer.f D_is_integer.fd ["value"] (spIntX b)) :
    FnOk P w K mg base CX0 2 D.f D.fd ["n", "value"] (spVxX b) := by
  refine D.F.ok sc_is_vertex (fun vs H Q E h => ?_) (fun cdv A outer s H vs Q E hr h => ?_)
  · obtain ⟨n, v, d, rfl, _⟩ := h
    rfl
  · obtain ⟨n, v, d, rfl, hd, q⟩ := h
    refine ⟨_, (pss_one (ps_ret (pe_and (pe_call G_is_integer (hr.mono (by first | decide | omega)) (by rfl) D_is_integer.g D_is_integer.F.kp D_is_integer.b .nil pass0 (pa_cons (pv 1) pa_nil)) (pe_one (pe_chain op_le op_lt pe_int (pv 1) (pv 0)))))), ?_⟩
    refine r_at (σ := [some _, some _]) rfl ?_
    walk_at "z"
    refine ⟨v, d, rfl, hd, ?_⟩
    walk_at "z"
    cases d with
    | int i =>
      cases hd
      walk_at "z"
      refine iteT ?_
      walk_at "z"
      refine r_ite (fun h => ?_) (fun h => ?_)
      · walk_at "z"
        have e : verD n (.int i) = decide (i < n) := by simp [verD, h]
        rw [e] at q
        exact q
      · have e : verD n (.int i) = false := by simp [verD, h]
        rw [e] at q
        exact q
    | _ => exact iteF q
def spVsX (b : Addr) (TT : List (Addr × Str)) : Sp := fun vs H Q _ => ∃ (n : Int) (v : V) (d : PyData), vs = [.int n, v] ∧ DX b H v d ∧ Tabs TT H ∧ ∀ H', ExtN H H' → Tabs TT H' → Q (.bl (versD n d)) H'
theorem all_take {α : Type} {p : α → Bool} {l : List α} {i : Nat} {x : α} (h : l[i]? = some x) (t : (l.take i).all p = true) : (l.take (i + 1)).all p = p x := by
  rw [take_next h, List.all_append, t, Bool.true_and, List.all_cons, List.all_nil, Bool.and_true]
theorem all_false {α : Type} {p : α → Bool} {l : List α} {i : Nat} {x : α} (h : l[i]? = some x) (t : p x = false) : l.all p = false := by
  cases e : l.all p with
  | false => rfl
  | true =>
    have := List.all_eq_true.mp e x (List.mem_of_getElem? h)
    rw [t] at this
    cases this
theorem ok_vsX {b c PT : Addr} {TT : List (Addr × Str)} (TB : TabB base mg c PT) (hm9 : (PT, genN "are_vertices") ∈ TT) (hu9 : ∀ p ∈ TT, p.1 = PT → p.2 = genN "are_vertices") (T : Blt mg) (z_all : mg "all" = none) (D : DefAt K mg "are_vertices" s_are_vertices ["n", "value"]) (hco : D.fd.code = .ref c)
    (D_is_vertex : DefAt K mg "is_vertex" s_is_vertex ["n", "value"]) (G_is_vertex : FnOk P w K mg base CX0 2 D_is_vertex.f D_is_vertex.fd ["n", "value"] (spVxX b)) : FnOk P w K mg base CX0 7 D.f D.fd ["n", "value"] (spVsX b TT) := by
  refine okV D.F sc_are_vertices (fun vs H Q E h => ?_) (fun cdv A outer s H vs Q E hcv hr h => ?_)
  · obtain ⟨n, v, d, rfl, _⟩ := h
    rfl
  · obtain ⟨n, v, d, rfl, hd, hT, q⟩ := h
    obtain rfl : cdv = .ref c := hcv.symm.trans hco
    refine ⟨_, (pss_one (ps_ret (pe_and (pe_callB (call_isiK (K := K) rfl) (by rfl) T.isinstance (by decide +kernel) (pa_cons (pv 1) (pa_cons (pe_bltn (v := .ty "tuple") (u := .type "tuple") (by rfl) T.tuple (by decide +kernel) rfl) pa_nil))) (pe_one (pe_allG (k := 3) (hr.mono (by first | decide | omega)) (by rfl) z_all (by decide +kernel) TB rfl hm9 hu9 (genS1_by (sc := defScope s_are_vertices) (by decide +kernel)) (ix := 2) rfl sc_are_vertices.nd (show (".0" : Str) ∉ (["n", "value", "v"] : List Str) by decide +kernel) (PI.tupK (K := K) rfl (pi_tup (pv 1))) (fun _ _ _ _ _ _ => (pg_name (i := 2) sc_are_vertices.nd rfl (Or.inl rfl))) (fun _ _ _ _ _ _ hr => (pe_call G_is_vertex (hr.mono (by first | decide | omega)) (by rfl) D_is_vertex.g D_is_vertex.F.kp D_is_vertex.b .nil pass0 (pa_cons (pv 0) (pa_cons (pv 2) pa_nil))))))))), ?_⟩
    refine r_at (σ := [some _, some _, none]) rfl ?_
    walk_at "z"
    refine r_isiX hd rfl (kit_tup d) ?_
    cases et : tupD d with
    | false =>
      walk_at "z"
      have : versD n d = false := by
        cases d with
        | tuple ds => exact absurd et.symm Bool.false_ne_true
        | _ => rfl
      have := this ▸ q H (ExtN.refl H) hT
      exact this
    | true =>
      obtain ⟨ds, rfl⟩ := tupD_of et
      cases id hd with
      | @tup p xs _ hxs hxd =>
      walk_at "z"
      refine r_it (.inl hxs) ⟨hT, fun H2 e2 T2 => gall_tup (xs := xs) (fun i H' => H' = H2 ∧ (ds.take i).all (verD n) = true) (by walk_at "zw") ⟨rfl, rfl⟩ (fun i H' _ ⟨e, _⟩ => e ▸ .inl (hxs.ext e2)) ?_ ?_⟩
      · rintro i x H' hx ⟨rfl, al⟩
        obtain ⟨d, hd1, fd⟩ := pd_get (DXs.pd _ (hxd.ext e2)) hx
        walk_at "z"
        refine ⟨rfl, ?_⟩
        walk_at "z"
        refine ⟨n, x, d, rfl, fd, ?_⟩
        refine r_genE ?_
        cases e : verD n d with
        | true => exact ⟨rfl, (all_take hd1 al).trans e⟩
        | false =>
          have := q H' e2 T2
          rw [show versD n (.tuple ds) = ds.all (verD n) from rfl, all_false hd1 e] at this
          exact this
      · rintro H' ⟨rfl, al⟩
        rw [hxd.len, List.take_length] at al
        have := q H' e2 T2
        rw [show versD n (.tuple ds) = ds.all (verD n) from rfl, al] at this
        exact this
end

set_option Elab.async false
set_option linter.all false
set_option maxRecDepth 100000
set_option maxHeartbeats 4000000
open PySem PySem.Spec PyProof.Rows L2 LamX RZ

theorem lex_pair {p q : Int × Int} : HT.lexLt [p.1, p.2] [q.1, q.2] = true ↔ ltP p q := by
  rw [HT.lexLt_cons, HT.lexLt_cons, HT.lexLt_nil_nil]
  unfold ltP
  by_cases h : p.1 = q.1
  · rw [if_pos h]
    by_cases k : p.2 = q.2
    · rw [if_pos k]
      simp [h, k]
    · rw [if_neg k, decide_eq_true_eq]
      omega
  · rw [if_neg h, decide_eq_true_eq]
    omega
def prX (p : Int × Int) : PyData := .tuple [.int p.1, .int p.2]
def setX (n : Int) (d : PyData) : Prop := ∃ ns : List Int, d = .tuple (ns.map PyData.int) ∧ (∀ z ∈ ns, 0 ≤ z ∧ z < n) ∧ adjI ns
def edsX (n : Int) (d : PyData) : Prop := ∃ ps : List (Int × Int), d = .tuple (ps.map prX) ∧ (∀ p ∈ ps, 0 ≤ p.1 ∧ p.1 < p.2 ∧ p.2 < n) ∧ adjP ps
def gphX (d : PyData) : Prop := ∃ (n : Int) (ps : List (Int × Int)), d = .tuple [.int n, .tuple (ps.map prX)] ∧ 1 ≤ n ∧ n ≤ 60 ∧ (∀ p ∈ ps, 0 ≤ p.1 ∧ p.1 < p.2 ∧ p.2 < n) ∧ adjP ps
theorem ints_inj {ns ms : List Int} (h : ns.map PyData.int = ms.map PyData.int) : ns = ms := List.map_inj_right (fun a b e => by cases e; rfl) |>.mp h
theorem prX_inj {p q : Int × Int} (h : prX p = prX q) : p = q := by
  obtain ⟨a, b⟩ := p
  obtain ⟨c, d⟩ := q
  have := PyData.tuple.inj h
  simp only [List.cons.injEq, PyData.int.injEq, and_true] at this
  exact Prod.ext this.1 this.2
theorem prXs_inj {ps qs : List (Int × Int)} (h : ps.map prX = qs.map prX) : ps = qs := List.map_inj_right (fun a b e => prX_inj e) |>.mp h
theorem dx_ints {a : Addr} {H : Hp} : ∀ {ns : List Int} {vs : List V}, DXs a H vs (ns.map PyData.int) → vs = ns.map V.int
  | [], _, h => by cases h; rfl
  | n :: ns, _, h => by
    cases h with
    | cons h1 h2 =>
      cases h1
      rw [dx_ints h2]
      rfl
/-- a pair, how ever it came -/
def IsPX (H : Hp) (x : V) (p : Int × Int) : Prop := ∃ t, x = .ref t ∧ ST H t [.int p.1, .int p.2]
abbrev PrsX (H : Hp) : List V → List (Int × Int) → Prop := Paired (IsPX H)
theorem PrsX.ext {H H' : Hp} (s : ExtN H H') : ∀ {xs : List V} {ps : List (Int × Int)}, PrsX H xs ps → PrsX H' xs ps
  | _, _, .nil => .nil
  | _, _, .cons ⟨t, e, h⟩ r => .cons ⟨t, e, h.ext s⟩ (PrsX.ext s r)
theorem dx_pr {a : Addr} {H : Hp} {x : V} {p : Int × Int} (h : DX a H x (prX p)) : IsPX H x p := by
  unfold prX at h
  cases h with
  | tup hp hx =>
    have := dx_ints (ns := [p.1, p.2]) hx
    subst this
    exact ⟨_, rfl, hp⟩
theorem dx_prs {a : Addr} {H : Hp} : ∀ {ps : List (Int × Int)} {vs : List V}, DXs a H vs (ps.map prX) → PrsX H vs ps
  | [], _, h => by cases h; exact .nil
  | p :: ps, _, h => by
    cases h with
    | cons h1 h2 => exact .cons (dx_pr h1) (dx_prs h2)
theorem dx_of_prs {a : Addr} {H : Hp} : ∀ {ps : List (Int × Int)} {vs : List V}, Prs H vs ps → DXs a H vs (ps.map prX)
  | _, _, .nil => .nil
  | _, _, .cons ⟨t, e, h⟩ r => by
    subst e
    exact .cons (.tup (.inl h) (.cons (.int _) (.cons (.int _) .nil))) (dx_of_prs r)
/-- the items that are edges, one by one -/
theorem eds_of {n : Int} : ∀ {ds : List PyData}, (∀ d ∈ ds, edgD n d) → ∃ ps : List (Int × Int), ds = ps.map prX ∧ ∀ p ∈ ps, 0 ≤ p.1 ∧ p.1 < p.2 ∧ p.2 < n
  | [], _ => ⟨[], rfl, fun p hp => (nomatch hp)⟩
  | d :: ds, h => by
    obtain ⟨ps, e, hp⟩ := eds_of (n := n) (ds := ds) fun d hd => h d (List.mem_cons_of_mem _ hd)
    obtain ⟨u, v, rfl, h1, h2, h3⟩ := h d List.mem_cons_self
    refine ⟨(u, v) :: ps, by rw [e]; rfl, fun p hp' => ?_⟩
    rcases List.mem_cons.mp hp' with rfl | c
    · exact ⟨h1, h2, h3⟩
    · exact hp p c
section
variable {P : Program} {w : World} {K : PySem.W.Frag} {mg : Str → Option Value} {base : Heap}
def spAscX (TT : List (Addr × Str)) : Sp := fun vs H Q _ => ∃ p : Addr, vs = [.ref p] ∧ Tabs TT H ∧
  ((∃ ns : List Int, ST H p (ns.map V.int) ∧ ns.length ≤ 100000 ∧ ∀ (b : Bool) H', ExtN H H' → Tabs TT H' → (b = true ↔ adjI ns) → Q (.bl b) H') ∨
   (∃ (xs : List V) (ps : List (Int × Int)), ST H p xs ∧ PrsX H xs ps ∧ ps.length ≤ 100000 ∧ ∀ (b : Bool) H', ExtN H H' → Tabs TT H' → (b = true ↔ adjP ps) → Q (.bl b) H'))
theorem ok_ascX {c PT : Addr} {TT : List (Addr × Str)} (TB : TabB base mg c PT) (hm9 : (PT, genN "is_ascending") ∈ TT) (hu9 : ∀ p ∈ TT, p.1 = PT → p.2 = genN "is_ascending") (T : Blt mg) (z_all : mg "all" = none) (D : DefAt K mg "is_ascending" s_is_ascending ["items"]) (hco : D.fd.code = .ref c) :
    FnOk P w K mg base CX0 7 D.f D.fd ["items"] (spAscX TT) := by
  refine okV D.F sc_is_ascending (fun vs H Q E h => ?_) (fun cdv A outer s H vs Q E hcv hr h => ?_)
  · obtain ⟨p, rfl, _⟩ := h
    rfl
  · obtain ⟨p, rfl, hT, h⟩ := h
    obtain rfl : cdv = .ref c := hcv.symm.trans hco
    refine ⟨_, (pss_one (ps_ret (pe_allG (k := 3) (hr.mono (by first | decide | omega)) (by rfl) z_all (by decide +kernel) TB rfl hm9 hu9 (genS1_by (sc := defScope s_is_ascending) (by decide +kernel)) (ix := 1) rfl sc_is_ascending.nd (show (".0" : Str) ∉ (["items", "at"] : List Str) by decide +kernel) (pi_range1 (by rfl) T.range (pa_cons (pe_op op_sub (pe_callB (call_lenK (K := K) rfl) (by rfl) T.len (by decide +kernel) (pa_cons (pv 0) pa_nil)) pe_int) pa_nil)) (fun _ _ _ _ _ _ => (pg_name (i := 1) sc_is_ascending.nd rfl (Or.inl rfl))) (fun _ _ _ _ _ _ hr => (pe_cmpR (op_ltIT (K := K) rfl hr.units) (pe_ix (ix_tupK (K := K) rfl) (pv 0) (pv 1) (fun _ _ => rfl)) (pe_ix (ix_tupK (K := K) rfl) (pv 0) (pe_op op_add (pv 1) pe_int) (fun _ _ => rfl)) (nomark _)))))), ?_⟩
    refine r_at (σ := [some _, none]) rfl ?_
    rcases h with ⟨ns, hp, ln, q⟩ | ⟨xs, ps, hp, hxs, ln, q⟩
    · have hq : SqT K H p (ns.map V.int) := .inl hp
      walk_at "z"
      rw [List.length_map]
      refine r_rg1 (by omega) ⟨hT, fun H2 e2 T2 => gall_range (fun i H' => H' = H2 ∧ ∀ j : Nat, j < i → ∀ x y, ns[j]? = some x → ns[j + 1]? = some y → x < y) (by walk_at "zw") ⟨rfl, fun j hj => absurd hj (Nat.not_lt_zero j)⟩ ?_ ?_⟩
      · rintro i H' hi ⟨rfl, al⟩
        have hp2 := hp.ext e2
        have hq2 : SqT K H' p _ := .inl hp2
        obtain ⟨x, hx⟩ : ∃ x, ns[i]? = some x := ⟨_, List.getElem?_eq_getElem (by omega)⟩
        obtain ⟨y, hy⟩ : ∃ x, ns[i + 1]? = some x := ⟨_, List.getElem?_eq_getElem (by omega)⟩
        walk_at "z"
        refine ⟨rfl, ?_⟩
        walk_at "z"
        refine r_ixT (.inl hp2) (at_of (j := i) (by omega) (by rw [List.getElem?_map, hx]; rfl)) ?_
        walk_at "z"
        refine r_ixT (.inl hp2) (at_of (j := i + 1) (by omega) (by rw [List.getElem?_map, hy]; rfl)) ?_
        walk_at "z"
        refine r_ltI ?_
        refine r_genE ?_
        by_cases c : x < y
        · rw [decide_eq_true c]
          refine ⟨rfl, fun j hj x' y' hx' hy' => ?_⟩
          by_cases ej : j = i
          · rw [ej] at hx' hy'
            rw [hx] at hx'
            rw [hy] at hy'
            cases hx'
            cases hy'
            exact c
          · exact al j (by omega) x' y' hx' hy'
        · rw [decide_eq_false c]
          exact q false H' e2 T2 ⟨fun h => (nomatch h), fun h => (c (h i x y hx hy)).elim⟩
      · rintro H' ⟨rfl, al⟩
        refine q true H' e2 T2 ⟨fun _ j x y hx hy => al j ?_ x y hx hy, fun _ => rfl⟩
        have := (List.getElem?_eq_some_iff.mp hy).1
        omega
    · have lx := hxs.length
      have hq : SqT K H p xs := .inl hp
      walk_at "z"
      refine r_rg1 (by omega) ⟨hT, fun H2 e2 T2 => gall_range (fun i H' => H' = H2 ∧ ∀ j : Nat, j < i → ∀ x y, ps[j]? = some x → ps[j + 1]? = some y → ltP x y) (by walk_at "zw") ⟨rfl, fun j hj => absurd hj (Nat.not_lt_zero j)⟩ ?_ ?_⟩
      · rintro i H' hi ⟨rfl, al⟩
        have hp2 := hp.ext e2
        have hq2 : SqT K H' p _ := .inl hp2
        have hxs2 := hxs.ext e2
        obtain ⟨x, hx⟩ : ∃ x, ps[i]? = some x := ⟨_, List.getElem?_eq_getElem (by omega)⟩
        obtain ⟨y, hy⟩ : ∃ x, ps[i + 1]? = some x := ⟨_, List.getElem?_eq_getElem (by omega)⟩
        obtain ⟨x', hx', ⟨ta, rfl, hta⟩⟩ := pd_get2 hxs2 hx
        obtain ⟨y', hy', ⟨tb, rfl, htb⟩⟩ := pd_get2 hxs2 hy
        walk_at "z"
        refine ⟨rfl, ?_⟩
        walk_at "z"
        refine r_ixT (.inl hp2) (at_of (j := i) (by omega) hx') ?_
        walk_at "z"
        refine r_ixT (.inl hp2) (at_of (j := i + 1) (by omega) hy') ?_
        walk_at "z"
        refine r_ltT ⟨ta, tb, [x.1, x.2], [y.1, y.2], rfl, rfl, .inl hta, .inl htb, ?_⟩
        refine r_genE ?_
        cases c : HT.lexLt [x.1, x.2] [y.1, y.2] with
        | true =>
          refine ⟨rfl, fun j hj x' y' hx' hy' => ?_⟩
          by_cases ej : j = i
          · rw [ej] at hx' hy'
            rw [hx] at hx'
            rw [hy] at hy'
            cases hx'
            cases hy'
            exact lex_pair.mp c
          · exact al j (by omega) x' y' hx' hy'
        | false =>
          exact q false H' e2 T2 ⟨fun h => (nomatch h), fun h => by
            have := lex_pair.mpr (h i x y hx hy)
            rw [c] at this
            cases this⟩
      · rintro H' ⟨rfl, al⟩
        refine q true H' e2 T2 ⟨fun _ j x y hx hy => al j ?_ x y hx hy, fun _ => rfl⟩
        have := (List.getElem?_eq_some_iff.mp hy).1
        omega
def spSetX (b : Addr) (TT : List (Addr × Str)) : Sp := fun vs H Q _ => ∃ (n : Int) (v : V) (d : PyData), vs = [.int n, v] ∧ DX b H v d ∧ (∀ ds, d = .tuple ds → ds.length ≤ 100000) ∧ Tabs TT H ∧ ∀ (r : Bool) H', ExtN H H' → Tabs TT H' → (r = true ↔ setX n d) → Q (.bl r) H'
theorem ok_setX {b : Addr} {TT : List (Addr × Str)} (T : Blt mg) (D : DefAt K mg "is_set" s_is_set ["n", "value"]) (D_are_vertices : DefAt K mg "are_vertices" s_are_vertices ["n", "value"]) (G_are_vertices : FnOk P w K mg base CX0 7 D_are_vertices.f D_are_vertices.fd ["n", "value"] (spVsX b TT))
    (D_is_ascending : DefAt K mg "is_ascending" s_is_ascending ["items"]) (G_is_ascending : FnOk P w K mg base CX0 7 D_is_ascending.f D_is_ascending.fd ["items"] (spAscX TT)) : FnOk P w K mg base CX0 8 D.f D.fd ["n", "value"] (spSetX b TT) := by
  refine D.F.ok sc_is_set (fun vs H Q E h => ?_) (fun cdv A outer s H vs Q E hr h => ?_)
  · obtain ⟨n, v, d, rfl, _⟩ := h
    rfl
  · obtain ⟨n, v, d, rfl, hd, len, hT, q⟩ := h
    refine ⟨_, (pss_one (ps_ret (pe_and (pe_call G_are_vertices (hr.mono (by first | decide | omega)) (by rfl) D_are_vertices.g D_are_vertices.F.kp D_are_vertices.b .nil pass0 (pa_cons (pv 0) (pa_cons (pv 1) pa_nil))) (pe_one (pe_call G_is_ascending (hr.mono (by first | decide | omega)) (by rfl) D_is_ascending.g D_is_ascending.F.kp D_is_ascending.b .nil pass0 (pa_cons (pv 1) pa_nil)))))), ?_⟩
    refine r_at (σ := [some _, some _]) rfl ?_
    walk_at "z"
    refine ⟨n, v, d, rfl, hd, hT, fun H1 e1 T1 => ?_⟩
    cases e : versD n d with
    | false =>
      walk_at "z"
      refine q false H1 e1 T1 ⟨fun h => (nomatch h), fun ⟨ns, ed, bd, _⟩ => ?_⟩
      rw [ed, versD_ints, decide_eq_true bd] at e
      cases e
    | true =>
      obtain ⟨ns, rfl, bd⟩ := versD_of e
      have ln := len _ rfl
      rw [List.length_map] at ln
      cases hd.ext e1 with
      | @tup p xs _ hxs hxd =>
      rw [dx_ints hxd] at hxs
      walk_at "z"
      refine ⟨p, rfl, T1, .inl ⟨ns, hxs, ln, fun r H2 e2 T2 hr2 => ?_⟩⟩
      refine q r H2 (e1.trans e2) T2 (hr2.trans ⟨fun h => ⟨ns, rfl, bd, h⟩, fun ⟨ms, em, _, h⟩ => ?_⟩)
      rw [ints_inj (PyData.tuple.inj em)]
      exact h
def spEdgX (b : Addr) (TT : List (Addr × Str)) : Sp := fun vs H Q _ => ∃ (n : Int) (v : V) (d : PyData), vs = [.int n, v] ∧ DX b H v d ∧ Tabs TT H ∧ ∀ (r : Bool) H', ExtN H H' → Tabs TT H' → (r = true ↔ edgD n d) → Q (.bl r) H'
theorem edg_set {n : Int} {ds : List PyData} (h : ds.length = 2) : setX n (.tuple ds) ↔ edgD n (.tuple ds) := by
  constructor
  · rintro ⟨ns, e, bd, ad⟩
    have e := PyData.tuple.inj e
    rw [e, List.length_map] at h
    match ns, h with
    | [u, v], _ =>
      refine ⟨u, v, by rw [e]; rfl, (bd u (by simp)).1, ad 0 u v rfl rfl, (bd v (by simp)).2⟩
  · rintro ⟨u, v, e, h1, h2, h3⟩
    refine ⟨[u, v], e, fun z hz => ?_, fun j x y hx hy => ?_⟩
    · rcases List.mem_cons.mp hz with rfl | hz
      · omega
      · rw [List.mem_singleton.mp hz]
        omega
    · match j with
      | 0 =>
        cases hx
        cases hy
        exact h2
      | j + 1 => simp at hy
theorem ok_edgX {b : Addr} {TT : List (Addr × Str)} (T : Blt mg) (D : DefAt K mg "is_edge" s_is_edge ["n", "value"]) (D_is_tuple : DefAt K mg "is_tuple" s_is_tuple ["value", "many"]) (G_is_tuple : FnOk P w K mg base CX0 1 D_is_tuple.f D_is_tuple.fd ["value", "many"] (spTupX b))
    (D_is_set : DefAt K mg "is_set" s_is_set ["n", "value"]) (G_is_set : FnOk P w K mg base CX0 8 D_is_set.f D_is_set.fd ["n", "value"] (spSetX b TT)) : FnOk P w K mg base CX0 9 D.f D.fd ["n", "value"] (spEdgX b TT) := by
  refine D.F.ok sc_is_edge (fun vs H Q E h => ?_) (fun cdv A outer s H vs Q E hr h => ?_)
  · obtain ⟨n, v, d, rfl, _⟩ := h
    rfl
  · obtain ⟨n, v, d, rfl, hd, hT, q⟩ := h
    refine ⟨_, (pss_one (ps_ret (pe_and (pe_call G_is_tuple (hr.mono (by first | decide | omega)) (by rfl) D_is_tuple.g D_is_tuple.F.kp D_is_tuple.b .nil pass0 (pa_cons (pv 1) (pa_cons pe_int pa_nil))) (pe_one (pe_call G_is_set (hr.mono (by first | decide | omega)) (by rfl) D_is_set.g D_is_set.F.kp D_is_set.b .nil pass0 (pa_cons (pv 0) (pa_cons (pv 1) pa_nil))))))), ?_⟩
    refine r_at (σ := [some _, some _]) rfl ?_
    walk_at "z"
    refine ⟨v, d, 2, rfl, hd, ?_⟩
    cases e : lenD 2 d with
    | false =>
      walk_at "z"
      refine q false H (.refl H) hT ⟨fun h => (nomatch h), fun ⟨u, v', ed, _⟩ => ?_⟩
      rw [ed] at e
      cases e
    | true =>
      obtain ⟨ds, rfl, l2⟩ : ∃ ds, d = .tuple ds ∧ ds.length = 2 := by
        cases d with
        | tuple ds => exact ⟨ds, rfl, by have := of_decide_eq_true e; omega⟩
        | _ => exact absurd e Bool.false_ne_true
      walk_at "z"
      refine ⟨n, v, _, rfl, hd, fun es ee => by cases ee; omega, hT, fun r H1 e1 T1 hr1 => ?_⟩
      exact q r H1 e1 T1 (hr1.trans (edg_set l2))
def spEdsX (b : Addr) (TT : List (Addr × Str)) : Sp := fun vs H Q _ => ∃ (n : Int) (v : V) (d : PyData), vs = [.int n, v] ∧ DX b H v d ∧ (∀ ds, d = .tuple ds → ds.length ≤ 100000) ∧ Tabs TT H ∧ ∀ (r : Bool) H', ExtN H H' → Tabs TT H' → (r = true ↔ edsX n d) → Q (.bl r) H'
theorem ok_edsX {b c PT : Addr} {TT : List (Addr × Str)} (TB : TabB base mg c PT) (hm9 : (PT, genN "are_edges") ∈ TT) (hu9 : ∀ p ∈ TT, p.1 = PT → p.2 = genN "are_edges") (T : Blt mg) (z_all : mg "all" = none) (D : DefAt K mg "are_edges" s_are_edges ["n", "value"]) (hco : D.fd.code = .ref c)
    (D_is_edge : DefAt K mg "is_edge" s_is_edge ["n", "value"]) (G_is_edge : FnOk P w K mg base CX0 9 D_is_edge.f D_is_edge.fd ["n", "value"] (spEdgX b TT))
    (D_is_ascending : DefAt K mg "is_ascending" s_is_ascending ["items"]) (G_is_ascending : FnOk P w K mg base CX0 7 D_is_ascending.f D_is_ascending.fd ["items"] (spAscX TT)) : FnOk P w K mg base CX0 14 D.f D.fd ["n", "value"] (spEdsX b TT) := by
  refine okV D.F sc_are_edges (fun vs H Q E h => ?_) (fun cdv A outer s H vs Q E hcv hr h => ?_)
  · obtain ⟨n, v, d, rfl, _⟩ := h
    rfl
  · obtain ⟨n, v, d, rfl, hd, len, hT, q⟩ := h
    obtain rfl : cdv = .ref c := hcv.symm.trans hco
    refine ⟨_, (pss_one (ps_ret (pe_and (pe_callB (call_isiK (K := K) rfl) (by rfl) T.isinstance (by decide +kernel) (pa_cons (pv 1) (pa_cons (pe_bltn (v := .ty "tuple") (u := .type "tuple") (by rfl) T.tuple (by decide +kernel) rfl) pa_nil))) (pe_and (pe_allG (k := 10) (hr.mono (by first | decide | omega)) (by rfl) z_all (by decide +kernel) TB rfl hm9 hu9 (genS1_by (sc := defScope s_are_edges) (by decide +kernel)) (ix := 2) rfl sc_are_edges.nd (show (".0" : Str) ∉ (["n", "value", "edge"] : List Str) by decide +kernel) (PI.tupK (K := K) rfl (pi_tup (pv 1))) (fun _ _ _ _ _ _ => (pg_name (i := 2) sc_are_edges.nd rfl (Or.inl rfl))) (fun _ _ _ _ _ _ hr => (pe_call G_is_edge (hr.mono (by first | decide | omega)) (by rfl) D_is_edge.g D_is_edge.F.kp D_is_edge.b .nil pass0 (pa_cons (pv 0) (pa_cons (pv 2) pa_nil))))) (pe_one (pe_call G_is_ascending (hr.mono (by first | decide | omega)) (by rfl) D_is_ascending.g D_is_ascending.F.kp D_is_ascending.b .nil pass0 (pa_cons (pv 1) pa_nil))))))), ?_⟩
    refine r_at (σ := [some _, some _, none]) rfl ?_
    walk_at "z"
    refine r_isiX hd rfl (kit_tup d) ?_
    cases et : tupD d with
    | false =>
      walk_at "z"
      refine q false H (.refl H) hT ⟨fun h => (nomatch h), fun ⟨ps, e, _⟩ => ?_⟩
      rw [e] at et
      cases et
    | true =>
      obtain ⟨ds, rfl⟩ := tupD_of et
      have ln := len _ rfl
      cases id hd with
      | @tup p xs _ hxs hxd =>
      walk_at "z"
      refine r_it (.inl hxs) ⟨hT, fun H2 e2 T2 => gall_tup (xs := xs) (fun i H' => ExtN H H' ∧ Tabs TT H' ∧ ∀ d ∈ ds.take i, edgD n d) (by walk_at "zw") ⟨e2, T2, fun d hd => by simp at hd⟩ (fun i H' _ ⟨e3, _⟩ => .inl (hxs.ext e3)) ?_ ?_⟩
      · rintro i x H' hx ⟨e3, T3, al⟩
        obtain ⟨d, hd1, fd⟩ := pd_get (DXs.pd _ (hxd.ext e3)) hx
        walk_at "z"
        refine ⟨rfl, ?_⟩
        walk_at "z"
        refine ⟨n, x, d, rfl, fd, T3, fun r H4 e4 T4 hr4 => ?_⟩
        refine r_genE ?_
        cases r with
        | true =>
          refine ⟨e3.trans e4, T4, fun z hz => ?_⟩
          rw [take_next hd1] at hz
          rcases List.mem_append.mp hz with c | c
          · exact al z c
          · rw [List.mem_singleton.mp c]
            exact hr4.mp rfl
        | false =>
          refine iteF ?_
          walk_at "z"
          refine q false H4 (e3.trans e4) T4 ⟨fun h => (nomatch h), fun ⟨ps, e, bd, _⟩ => ?_⟩
          have e := PyData.tuple.inj e
          have dm := List.mem_of_getElem? hd1
          rw [e] at dm
          obtain ⟨p', hp', rfl⟩ := List.mem_map.mp dm
          have := hr4.mpr ⟨p'.1, p'.2, rfl, bd p' hp'⟩
          cases this
      · rintro H' ⟨e3, T3, al⟩
        rw [hxd.len, List.take_length] at al
        obtain ⟨ps, rfl, bd⟩ := eds_of al
        rw [List.length_map] at ln
        have hp3 := dx_prs (hxd.ext e3)
        walk_at "z"
        refine ⟨p, rfl, T3, .inr ⟨xs, ps, hxs.ext e3, hp3, ln, fun r H4 e4 T4 hr4 => ?_⟩⟩
        refine q r H4 (e3.trans e4) T4 (hr4.trans ⟨fun h => ⟨ps, rfl, bd, h⟩, fun ⟨qs, e, _, h⟩ => ?_⟩)
        rw [prXs_inj (PyData.tuple.inj e)]
        exact h
def sizD : PyData → Bool
  | .int i => decide (1 ≤ i) && decide (i ≤ 60)
  | _ => false
def spSizX (b : Addr) : Sp := fun vs H Q _ => ∃ (v : V) (d : PyData), vs = [v] ∧ DX b H v d ∧ Q (.bl (sizD d)) H
theorem ok_sizX {b : Addr} (T : Blt mg) {tk : Tok} (C_MOST_VERTICES : mg "MOST_VERTICES" = some (.int 60 tk)) (D : DefAt K mg "is_size" s_is_size ["value"]) (D_is_integer : DefAt K mg "is_integer" s_is_integer ["value"]) (G_is_integer : FnOk P w K mg base CX0 1 D_is_integer.f D_is_integer.fd ["value"] (spIntX b)) :
    FnOk P w K mg base CX0 2 D.f D.fd ["value"] (spSizX b) := by
  refine D.F.ok sc_is_size (fun vs H Q E h => ?_) (fun cdv A outer s H vs Q E hr h => ?_)
  · obtain ⟨v, d, rfl, _⟩ := h
    rfl
  · obtain ⟨v, d, rfl, hd, q⟩ := h
    refine ⟨_, (pss_one (ps_ret (pe_and (pe_call G_is_integer (hr.mono (by first | decide | omega)) (by rfl) D_is_integer.g D_is_integer.F.kp D_is_integer.b .nil pass0 (pa_cons (pv 0) pa_nil)) (pe_one (pe_chain op_le op_le pe_int (pv 0) (pe_glob rfl C_MOST_VERTICES rel_int)))))), ?_⟩
    refine r_at (σ := [some _]) rfl ?_
    walk_at "z"
    refine ⟨v, d, rfl, hd, ?_⟩
    walk_at "z"
    cases d with
    | int i =>
      cases hd
      walk_at "z"
      refine iteT ?_
      walk_at "z"
      refine r_ite (fun h => ?_) (fun h => ?_)
      · walk_at "z"
        have e : sizD (.int i) = decide (i ≤ 60) := by simp [sizD, h]
        rw [e] at q
        exact q
      · have e : sizD (.int i) = false := by simp [sizD, h]
        rw [e] at q
        exact q
    | _ => exact iteF q
def spGphX (b : Addr) (TT : List (Addr × Str)) : Sp := fun vs H Q _ => ∃ (v : V) (d : PyData), vs = [v] ∧ DX b H v d ∧ (∃ D, limX D 100000 d) ∧ Tabs TT H ∧ ∀ (r : Bool) H', ExtN H H' → Tabs TT H' → (r = true ↔ gphX d) → Q (.bl r) H'
theorem ok_gphX {b : Addr} {TT : List (Addr × Str)} (T : Blt mg) (D : DefAt K mg "is_graph" s_is_graph ["value"]) (D_is_tuple : DefAt K mg "is_tuple" s_is_tuple ["value", "many"]) (G_is_tuple : FnOk P w K mg base CX0 1 D_is_tuple.f D_is_tuple.fd ["value", "many"] (spTupX b))
    (D_is_size : DefAt K mg "is_size" s_is_size ["value"]) (G_is_size : FnOk P w K mg base CX0 2 D_is_size.f D_is_size.fd ["value"] (spSizX b)) (D_are_edges : DefAt K mg "are_edges" s_are_edges ["n", "value"]) (G_are_edges : FnOk P w K mg base CX0 14 D_are_edges.f D_are_edges.fd ["n", "value"] (spEdsX b TT)) :
    FnOk P w K mg base CX0 15 D.f D.fd ["value"] (spGphX b TT) := by
  refine D.F.ok sc_is_graph (fun vs H Q E h => ?_) (fun cdv A outer s H vs Q E hr h => ?_)
  · obtain ⟨v, d, rfl, _⟩ := h
    rfl
  · obtain ⟨v, d, rfl, hd, ⟨DD, hl⟩, hT, q⟩ := h
    refine ⟨_, (pss_cons (ps_if (pt_not (pt_val (pe_call G_is_tuple (hr.mono (by first | decide | omega)) (by rfl) D_is_tuple.g D_is_tuple.F.kp D_is_tuple.b .nil pass0 (pa_cons (pv 0) (pa_cons pe_int pa_nil)))))
        (pss_one (ps_ret pe_bl))
        pss_nil)
      (pss_cons (ps_asg (pv 0) (PG.tupK (K := K) rfl (pg_tup (n := 2) rfl (pgs_cons (pg_name (i := 1) sc_is_graph.nd rfl (Or.inl rfl)) (pgs_cons (pg_name (i := 2) sc_is_graph.nd rfl (Or.inl rfl)) pgs_nil)))))
      (pss_one (ps_ret (pe_and (pe_call G_is_size (hr.mono (by first | decide | omega)) (by rfl) D_is_size.g D_is_size.F.kp D_is_size.b .nil pass0 (pa_cons (pv 1) pa_nil)) (pe_one (pe_call G_are_edges (hr.mono (by first | decide | omega)) (by rfl) D_are_edges.g D_are_edges.F.kp D_are_edges.b .nil pass0 (pa_cons (pv 1) (pa_cons (pv 2) pa_nil))))))))), ?_⟩
    refine r_at (σ := [some _, none, none]) rfl ?_
    walk_at "z"
    refine ⟨v, d, 2, rfl, hd, ?_⟩
    cases e : lenD 2 d with
    | false =>
      walk_at "z"
      refine iteT ?_
      walk_at "z"
      refine q false H (.refl H) hT ⟨fun h => (nomatch h), fun ⟨n, ps, ed, _⟩ => ?_⟩
      rw [ed] at e
      cases e
    | true =>
      obtain ⟨ds, rfl, l2⟩ : ∃ ds, d = .tuple ds ∧ ds.length = 2 := by
        cases d with
        | tuple ds => exact ⟨ds, rfl, by have := of_decide_eq_true e; omega⟩
        | _ => exact absurd e Bool.false_ne_true
      match ds, l2 with
      | [d1, d2], _ =>
      obtain ⟨D1, _, _, lim1⟩ := limX_tup hl
      have l2' := lim1 d2 (by simp)
      cases id hd with
      | @tup p xs _ hxs hxd =>
      cases hxd with
      | @cons x1 _ _ _ hd1 hr1 =>
      cases hr1 with
      | @cons x2 _ _ _ hd2 hr2 =>
      cases hr2
      walk_at "z"
      refine iteF ?_
      walk_at "z"
      refine r_gtup (.inl hxs) rfl ?_
      walk_at "z"
      refine ⟨x1, d1, rfl, hd1, ?_⟩
      cases es : sizD d1 with
      | false =>
        walk_at "z"
        refine q false H (.refl H) hT ⟨fun h => (nomatch h), fun ⟨n, ps, ed, h1, h2, _⟩ => ?_⟩
        have := PyData.tuple.inj ed
        simp only [List.cons.injEq, and_true] at this
        rw [this.1] at es
        simp [sizD, h1, h2] at es
      | true =>
        obtain ⟨n, rfl, n1, n60⟩ : ∃ n, d1 = .int n ∧ 1 ≤ n ∧ n ≤ 60 := by
          cases d1 with
          | int n =>
            have h : (decide (1 ≤ n) && decide (n ≤ 60)) = true := es
            rw [Bool.and_eq_true, decide_eq_true_eq, decide_eq_true_eq] at h
            exact ⟨n, rfl, h.1, h.2⟩
          | _ => exact absurd es Bool.false_ne_true
        cases hd1
        walk_at "z"
        refine ⟨n, x2, d2, rfl, hd2, fun es ee => by
          subst ee
          obtain ⟨_, _, h, _⟩ := limX_tup l2'
          exact h, hT, fun r H1 e1 T1 hr1 => ?_⟩
        refine q r H1 e1 T1 (hr1.trans ⟨fun ⟨ps, e, bd, ad⟩ => ⟨n, ps, by rw [e], n1, n60, bd, ad⟩, fun ⟨m, ps, e, _, _, bd, ad⟩ => ?_⟩)
        have e := PyData.tuple.inj e
        simp only [List.cons.injEq, PyData.int.injEq, and_true] at e
        refine ⟨ps, e.2, ?_, ad⟩
        rw [e.1]
        exact bd
end

set_option Elab.async false
set_option linter.all false
set_option maxRecDepth 100000
set_option maxHeartbeats 4000000
open PySem PySem.Spec PyProof.Rows L2 LamX RZ

abbrev s_law_is_int : Stmt := topS 24
theorem sc_law_is_int : FnScope ["x"] ["x"] (defScope s_law_is_int) := ⟨rfl, rfl, rfl, by decide +kernel, rfl, by decide +kernel, by decide +kernel⟩

abbrev s_law_strange : Stmt := topS 41
theorem sc_law_strange : FnScope ["pool", "value", "n", "rows"] ["pool", "value", "n"] (defScope s_law_strange) := ⟨rfl, rfl, rfl, by decide +kernel, rfl, by decide +kernel, by decide +kernel⟩

theorem Pool.dx {a s : Addr} {H H' : Hp} (h : Pool H a s) (g : Gr a H H') {v : V} {t : PyData} (d : DX a H v t) : DX a H' v t := by
  obtain ⟨xs, hx⟩ := h.lst
  exact d.gr g hx
theorem Pool.dxs {a s : Addr} {H H' : Hp} (h : Pool H a s) (g : Gr a H H') {v : List V} {t : List PyData} (d : DXs a H v t) : DXs a H' v t := by
  obtain ⟨xs, hx⟩ := h.lst
  exact d.gr g hx
theorem Pool.st {a s : Addr} {H H' : Hp} (h : Pool H a s) (g : Gr a H H') {p : Addr} {xs : List V} (d : ST H p xs) : ST H' p xs := by
  obtain ⟨ys, hx⟩ := h.lst
  exact d.gr g hx
section
variable {P : Program} {w : World} {K : PySem.W.Frag} {mg : Str → Option Value} {base : Heap}
theorem ok_lintX {b : Addr} (T : Blt mg) (D : DefAt K mg "_law_is_int" s_law_is_int ["x"]) : FnOk P w K mg base CX0 1 D.f D.fd ["x"] (spIntX b) := by
  refine D.F.ok sc_law_is_int (fun vs H Q E h => ?_) (fun cdv A outer s H vs Q E hr h => ?_)
  · obtain ⟨v, d, rfl, _⟩ := h
    rfl
  · obtain ⟨v, d, rfl, hd, q⟩ := h
    refine ⟨_, (pss_one (ps_ret (pe_and (pe_callB (call_isiK (K := K) rfl) (by rfl) T.isinstance (by decide +kernel) (pa_cons (pv 0) (pa_cons (pe_bltn (v := .ty "int") (u := .type "int") (by rfl) T.int (by decide +kernel) rfl) pa_nil))) (pe_one (pe_not (pe_callB (call_isiK (K := K) rfl) (by rfl) T.isinstance (by decide +kernel) (pa_cons (pv 0) (pa_cons (pe_bltn (v := .ty "bool") (u := .type "bool") (by rfl) T.bool (by decide +kernel) rfl) pa_nil)))))))), ?_⟩
    refine r_at (σ := [some _]) rfl ?_
    walk_at "z"
    cases d with
    | int i =>
      refine r_isiX hd (k := "int") rfl (b := true) (by decide +kernel) ?_
      walk_at "z"
      refine r_isiX hd (k := "int") rfl (b := false) (by decide +kernel) ?_
      walk_at "z"
      exact q
    | bool i =>
      refine r_isiX hd (k := "bool") rfl (b := true) (by decide +kernel) ?_
      walk_at "z"
      refine r_isiX hd (k := "bool") rfl (b := true) (by decide +kernel) ?_
      walk_at "z"
      exact q
    | none =>
      refine r_isiX hd (k := "NoneType") rfl (b := false) (by decide +kernel) ?_
      walk_at "z"
      exact q
    | str x =>
      refine r_isiX hd (k := "str") rfl (b := false) (by decide +kernel) ?_
      walk_at "z"
      exact q
    | list ds =>
      refine r_isiX hd (k := "list") rfl (b := false) (by decide +kernel) ?_
      walk_at "z"
      exact q
    | tuple ds =>
      refine r_isiX hd (k := "tuple") rfl (b := false) (by decide +kernel) ?_
      walk_at "z"
      exact q
    | dict ds =>
      refine r_isiX hd (k := "dict") rfl (b := false) (by decide +kernel) ?_
      walk_at "z"
      exact q
theorem forall_cons {α : Type} {p : α → Prop} {a : α} {l : List α} (h : p a) (k : ∀ x ∈ l, p x) : ∀ x ∈ a :: l, p x := fun x hx => by
  rcases List.mem_cons.mp hx with rfl | c
  · exact h
  · exact k x c
theorem r_catL {H : Hp} {Q : VK} {l b : Addr} {xs zs : List V} (h1 : H l = some (.lst xs)) (h2 : H b = some (.lst zs)) (hz : xs.length + zs.length ≤ 100000) (q : ∀ p, H p = none → Q (.ref p) (upd H p (.lst (xs ++ zs)))) : rCat (.ref l) (.ref b) H Q := ⟨l, b, xs, zs, rfl, rfl, h1, h2, small_len hz, q⟩
def spStr : Sp := fun vs H Q _ => ∃ (a s : Addr) (v : V) (t : PyData) (d L : Nat) (n : Int), vs = [.ref a, v, .int n] ∧ Pool H a s ∧ DX a H v t ∧ limX d L t ∧ L ≤ 10000 ∧ 0 ≤ n ∧ n ≤ 100 ∧
  ∀ (v' : V) (t' : PyData) (H' : Hp), Pool H' a s → Gr a H H' → DX a H' v' t' → limX (d + 2) (2 * L + 2) t' → Q v' H'
theorem yes_ok : (Str.ofString "yes").cps.all (· < 0x110000) = true := by decide +kernel
theorem union_ok : (Str.ofString "union").cps.all (· < 0x110000) = true := by decide +kernel
theorem lim_str {d L : Nat} {x : Str} (h : x.cps.all (· < 0x110000) = true) : limX d L (.str x) := by cases d <;> exact h
theorem lim_lit (d L : Nat) (n : Int) : ∀ x ∈ [PyData.none, .bool true, .bool false, .str (Str.ofString "yes"), .tuple [], .list [], .dict [], .int 0, .int n, .tuple [.int 0], .str (Str.ofString "union"), .tuple [.tuple []], .int (-1)], limX (d + 2) (2 * L + 2) x :=
  forall_cons trivial (forall_cons trivial (forall_cons trivial (forall_cons (lim_str yes_ok) (forall_cons ⟨Nat.zero_le _, fun x hx => nomatch hx⟩ (forall_cons ⟨Nat.zero_le _, fun x hx => nomatch hx⟩ (forall_cons trivial (forall_cons trivial (forall_cons trivial
  (forall_cons (limX_mk (by simp only [List.length_cons, List.length_nil]; omega) (forall_cons limX_int fun x hx => nomatch hx)) (forall_cons (lim_str union_ok) (forall_cons (limX_mk (by simp only [List.length_cons, List.length_nil]; omega) (forall_cons (limX_mk (Nat.zero_le _) fun x hx => nomatch hx) fun x hx => nomatch hx)) (forall_cons limX_int fun x hx => nomatch hx))))))))))))
theorem eq_one {H : Hp} {Q : VK} {a : Addr} {v : V} {t : PyData} {d L : Nat} (h : DX a H v t) (nt : tupD t = false) (l : limX d L t) (q : ∀ b, Q (.bl b) H) : rEqX K v (.int 1) H Q := by
  have one : SeqAt.shaped (.int 1) = true := by rfl
  cases h with
  | non => exact r_eqXD ⟨.none, .int 1, .non, .int 1, by rfl, one, q _⟩
  | bl b => exact r_eqXD ⟨.bool b, .int 1, .bl b, .int 1, by rfl, one, q _⟩
  | int i => exact r_eqXD ⟨.int i, .int 1, .int i, .int 1, by rfl, one, q _⟩
  | str x =>
    have hx : x.cps.all (· < 0x110000) = true := by cases d <;> exact l
    exact r_eqXD ⟨.str x, .int 1, .str x, .int 1, shaped_of hx (Nat.zero_le _), one, q _⟩
  | lst n h _ => exact r_eqLIX h (q _)
  | dk n h => exact r_eqDI h (q _)
  | tup h _ => exact absurd nt.symm Bool.false_ne_true
set_option hygiene false in
local macro_rules | `(tactic| walk_at "zend") => `(tactic| (
  walk_at "z"
  rw [lx17]
  refine ⟨a, s0, 17, rfl, hP14, by omega, by omega, fun r H15 r0 r1 hP15 g15 => ?_⟩
  have hl15 := g15 _ _ nl6.1 hl14
  have hx15 := hP14.dxs g15 hx14
  obtain ⟨y, hy⟩ : ∃ y, xs17[r.toNat]? = some y := ⟨_, List.getElem?_eq_getElem (by omega)⟩
  obtain ⟨z, hz, hyz⟩ := pd_get (DXs.pd _ hx15) hy
  walk_at "z"
  refine r_ixL (.inl (.inl hl15)) (at_of (j := r.toNat) (by omega) hy) ?_
  exact q y z H15 hP15 ((g1.trans (Gr.of_same s114)).trans g15) hyz (lim17 z (List.mem_of_getElem? hz))))
set_option hygiene false in
local macro_rules | `(tactic| walk_at "zrows") => `(tactic| (
  walk_at "z"
  refine r_tupN (by decide) fun e1 he1 => ?_
  have s2 := same_new (o := .tup []) he1
  have f1 : (upd H1 e1 (.tup [])) e1 = some (.tup []) := upd_same
  generalize upd H1 e1 (.tup []) = H2 at s2 f1 ⊢
  walk_at "z"
  refine r_lstN (by decide) fun l1 hl1 => ?_
  have nl1 := new_ne (hP1.mono s2) hl1
  have s3 := same_new (o := .lst []) hl1
  have f2 : (upd H2 l1 (.lst [])) l1 = some (.lst []) := upd_same
  generalize upd H2 l1 (.lst []) = H3 at s3 f2 ⊢
  walk_at "z"
  intro d1 hd1
  have nd1 := new_ne ((hP1.mono s2).mono s3) hd1
  have s4 := same_new (o := .dK []) hd1
  have f3 : (upd H3 d1 (.dK [])) d1 = some (.dK []) := upd_same
  generalize upd H3 d1 (.dK []) = H4 at s4 f3 ⊢
  walk_at "z"
  refine r_tupN sz1 fun t1 ht1 => ?_
  have s5 := same_new (o := .tup [.int 0]) ht1
  have f4 : (upd H4 t1 (.tup [.int 0])) t1 = some (.tup [.int 0]) := upd_same
  generalize upd H4 t1 (.tup [.int 0]) = H5 at s5 f4 ⊢
  walk_at "z"
  refine r_tupN (by decide) fun e2 he2 => ?_
  have s6 := same_new (o := .tup []) he2
  have f5 : (upd H5 e2 (.tup [])) e2 = some (.tup []) := upd_same
  generalize upd H5 e2 (.tup []) = H6 at s6 f5 ⊢
  walk_at "z"
  refine r_tupN sz1 fun t2 ht2 => ?_
  have s7 := same_new (o := .tup [.ref e2]) ht2
  have f6 : (upd H6 t2 (.tup [.ref e2])) t2 = some (.tup [.ref e2]) := upd_same
  generalize upd H6 t2 (.tup [.ref e2]) = H7 at s7 f6 ⊢
  walk_at "z"
  have s27 : Same H2 H7 := (s3.trans s4).trans ((s5.trans s6).trans s7)
  have lit7 : DXs a H7 [.non, .bl true, .bl false, .str (Str.ofString "yes"), .ref e1, .ref l1, .ref d1, .int 0, .int n, .ref t1, .str (Str.ofString "union"), .ref t2, .int (-1)] [PyData.none, .bool true, .bool false, .str (Str.ofString "yes"), .tuple [], .list [], .dict [], .int 0, .int n, .tuple [.int 0], .str (Str.ofString "union"), .tuple [.tuple []], .int (-1)] :=
    .cons .non (.cons (.bl _) (.cons (.bl _) (.cons (.str _) (.cons (.tup (.inl (s27 _ _ f1)) .nil) (.cons (.lst nl1.1 (((s4.trans s5).trans (s6.trans s7)) _ _ f2) .nil) (.cons (.dk nd1.1 ((s5.trans (s6.trans s7)) _ _ f3)) (.cons (.int _) (.cons (.int _)
    (.cons (.tup (.inl ((s6.trans s7) _ _ f4)) (.cons (.int 0) .nil)) (.cons (.str _) (.cons (.tup (.inl f6) (.cons (.tup (.inl (s7 _ _ f5)) .nil) .nil)) (.cons (.int _) .nil))))))))))))
  refine r_lstN (small_len (by simp only [List.length_cons, List.length_nil]; omega)) fun R hR => ?_
  have lim13 := lim_lit d L n
  have len13 : [V.non, .bl true, .bl false, .str (Str.ofString "yes"), .ref e1, .ref l1, .ref d1, .int 0, .int n, .ref t1, .str (Str.ofString "union"), .ref t2, .int (-1)].length = 13 := rfl
  generalize [V.non, .bl true, .bl false, .str (Str.ofString "yes"), .ref e1, .ref l1, .ref d1, .int 0, .int n, .ref t1, .str (Str.ofString "union"), .ref t2, .int (-1)] = xs13 at lit7 len13 ⊢
  generalize [PyData.none, .bool true, .bool false, .str (Str.ofString "yes"), .tuple [], .list [], .dict [], .int 0, .int n, .tuple [.int 0], .str (Str.ofString "union"), .tuple [.tuple []], .int (-1)] = ds13 at lit7 lim13
  have s8 := same_new (o := .lst xs13) hR
  have f8 : (upd H7 R (.lst xs13)) R = some (.lst xs13) := upd_same
  have lit8 := lit7.same s8
  have s18 := s2.trans (s27.trans s8)
  have hP8 := hP1.mono s18
  have hd8 := (hP.dx g1 hd).same s18
  generalize upd H7 R (.lst xs13) = H8 at f8 lit8 s18 hP8 hd8 ⊢
  walk_at "z"
  refine r_isiX hd8 rfl (kit_tup t) ?_
  cases et : tupD t with
  | true =>
    obtain ⟨ds, rfl⟩ := tupD_of et
    obtain ⟨d', rfl, ll, le⟩ := limX_tup hl
    cases hd8 with
    | @tup p xs _ hp8 hxd8 =>
    have lx := hxd8.len
    walk_at "z"
    refine r_listT (.inl hp8) fun l2 hl2 => ?_
    have nl2 := new_ne hP8 hl2
    have s9 := same_new (o := .lst xs) hl2
    have f9 : (upd H8 l2 (.lst xs)) l2 = some (.lst xs) := upd_same
    generalize upd H8 l2 (.lst xs) = H9 at s9 f9 ⊢
    have hp9 := hp8.same s9
    walk_at "z"
    refine r_catX hp9 hp9 (by omega) fun c1 H10 s10 hc10 => ?_
    walk_at "z"
    refine r_tupN sz1 fun t3 ht3 => ?_
    have s11 := same_new (o := .tup [.ref p]) ht3
    have f11 : (upd H10 t3 (.tup [.ref p])) t3 = some (.tup [.ref p]) := upd_same
    generalize upd H10 t3 (.tup [.ref p]) = H11 at s11 f11 ⊢
    have hp11 := (hp9.same s10).same s11
    walk_at "z"
    refine r_revT ?_
    walk_at "z"
    refine r_revTN (.inl hp11) fun rv o hrv _ => ?_
    have s12 := same_new (o := .frz o (.tup xs.reverse)) hrv
    have f12 : (upd H11 rv (.frz o (.tup xs.reverse))) rv = some (.frz o (.tup xs.reverse)) := upd_same
    generalize upd H11 rv (.frz o (.tup xs.reverse)) = H12 at s12 f12 ⊢
    walk_at "z"
    have s8c := (s9.trans s10).trans (s11.trans s12)
    have hxd12 := hxd8.same s8c
    have four : DXs a H12 [.ref l2, .ref c1, .ref t3, .ref rv] [.list ds, .tuple (ds ++ ds), .tuple [.tuple ds], .tuple ds.reverse] :=
      .cons (.lst nl2.1 (((s10.trans s11).trans s12) _ _ f9) hxd12) (.cons (.tup (hc10.same (s11.trans s12)) (hxd12.app hxd12)) (.cons (.tup (.inl (s12 _ _ f11)) (.cons (.tup (hp8.same s8c) hxd12) .nil)) (.cons (.tup (.inr ⟨o, f12⟩) hxd12.rev) .nil)))
    have lim4 : ∀ x ∈ [PyData.list ds, .tuple (ds ++ ds), .tuple [.tuple ds], .tuple ds.reverse], limX (d' + 1 + 2) (2 * L + 2) x := by
      have lm : ∀ x ∈ ds, limX (d' + 2) (2 * L + 2) x := fun x hx => (le x hx).mono (by omega) (by omega)
      refine forall_cons (limX_mkl (by omega) lm) (forall_cons (limX_mk (by rw [List.length_append]; omega) fun x hx => (List.mem_append.mp hx).elim (lm x) (lm x)) (forall_cons (limX_mk (by simp only [List.length_cons, List.length_nil]; omega) (forall_cons (limX_mk (by omega) fun x hx => (le x hx).mono (by omega) (by omega)) fun x hx => nomatch hx)) (forall_cons (limX_mk (by rw [List.length_reverse]; omega) fun x hx => lm x (List.mem_reverse.mp hx)) fun x hx => nomatch hx)))
    refine r_lstN (small_len (by simp only [List.length_cons, List.length_nil]; omega)) fun l5 hl5 => ?_
    have len4 : [V.ref l2, .ref c1, .ref t3, .ref rv].length = 4 := rfl
    generalize [V.ref l2, .ref c1, .ref t3, .ref rv] = xs4 at four len4 ⊢
    generalize [PyData.list ds, .tuple (ds ++ ds), .tuple [.tuple ds], .tuple ds.reverse] = ds4 at four lim4
    have s13 := same_new (o := .lst xs4) hl5
    have f13 : (upd H12 l5 (.lst xs4)) l5 = some (.lst xs4) := upd_same
    have s8d := s8c.trans s13
    have four13 := four.same s13
    generalize upd H12 l5 (.lst xs4) = H13 at s13 f13 s8d four13 ⊢
    walk_at "z"
    refine r_catL (s8d _ _ f8) f13 (by omega) fun l6 hl6 => ?_
    have lx17 : (xs13 ++ xs4).length = 17 := by rw [List.length_append, len13, len4]
    have hx13 := (lit8.same s8d).app four13
    have lim17 : ∀ x ∈ ds13 ++ ds4, limX (d' + 1 + 2) (2 * L + 2) x := fun x hx => (List.mem_append.mp hx).elim (lim13 x) (lim4 x)
    generalize xs13 ++ xs4 = xs17 at lx17 hx13 ⊢
    generalize ds13 ++ ds4 = ds17 at hx13 lim17
    have nl6 := new_ne (hP8.mono s8d) hl6
    have s14 := same_new (o := .lst xs17) hl6
    have hl14 : (upd H13 l6 (.lst xs17)) l6 = some (.lst xs17) := upd_same
    have hx14 := hx13.same s14
    have s114 := s18.trans (s8d.trans s14)
    have hP14 := hP1.mono s114
    generalize upd H13 l6 (.lst xs17) = H14 at hl14 hx14 s114 hP14 ⊢
    walk_at "zend"
  | false =>
    walk_at "z"
    refine r_tupN sz1 fun t3 ht3 => ?_
    have s9 := same_new (o := .tup [v]) ht3
    have f9 : (upd H8 t3 (.tup [v])) t3 = some (.tup [v]) := upd_same
    generalize upd H8 t3 (.tup [v]) = H9 at s9 f9 ⊢
    walk_at "z"
    refine r_lstN sz1 fun l2 hl2 => ?_
    have nl2 := new_ne (hP8.mono s9) hl2
    have s10 := same_new (o := .lst [v]) hl2
    have f10 : (upd H9 l2 (.lst [v])) l2 = some (.lst [v]) := upd_same
    generalize upd H9 l2 (.lst [v]) = H10 at s10 f10 ⊢
    have s810 := s9.trans s10
    have hd10 := hd8.same s810
    walk_at "z"
    refine eq_one hd10 et hl fun b => ?_
    walk_at "z"
    refine ⟨n, rfl, log_small n0 n1, ?_⟩
    walk_at "z"
    have four : DXs a H10 [.ref t3, .ref l2, .bl b, .str (Str.ofString (toString n))] [.tuple [t], .list [t], .bool b, .str (Str.ofString (toString n))] :=
      .cons (.tup (.inl (s10 _ _ f9)) (.cons hd10 .nil)) (.cons (.lst nl2.1 f10 (.cons hd10 .nil)) (.cons (.bl _) (.cons (.str _) .nil)))
    have lim4 : ∀ x ∈ [PyData.tuple [t], .list [t], .bool b, .str (Str.ofString (toString n))], limX (d + 2) (2 * L + 2) x := by
      have lm : ∀ x ∈ [t], limX (d + 1) (2 * L + 2) x := forall_cons (hl.mono (by omega) (by omega)) fun x hx => nomatch hx
      exact forall_cons (limX_mk (by simp only [List.length_cons, List.length_nil]; omega) lm) (forall_cons (limX_mkl (by simp only [List.length_cons, List.length_nil]; omega) lm) (forall_cons trivial (forall_cons (lim_str (int_str n)) fun x hx => nomatch hx)))
    refine r_lstN (small_len (by simp only [List.length_cons, List.length_nil]; omega)) fun l5 hl5 => ?_
    have len4 : [V.ref t3, .ref l2, .bl b, .str (Str.ofString (toString n))].length = 4 := rfl
    generalize [V.ref t3, .ref l2, .bl b, .str (Str.ofString (toString n))] = xs4 at four len4 ⊢
    generalize [PyData.tuple [t], .list [t], .bool b, .str (Str.ofString (toString n))] = ds4 at four lim4
    have s13 := same_new (o := .lst xs4) hl5
    have f13 : (upd H10 l5 (.lst xs4)) l5 = some (.lst xs4) := upd_same
    have s8d := s810.trans s13
    have four13 := four.same s13
    generalize upd H10 l5 (.lst xs4) = H13 at s13 f13 s8d four13 ⊢
    walk_at "z"
    refine r_catL (s8d _ _ f8) f13 (by omega) fun l6 hl6 => ?_
    have lx17 : (xs13 ++ xs4).length = 17 := by rw [List.length_append, len13, len4]
    have hx13 := (lit8.same s8d).app four13
    have lim17 : ∀ x ∈ ds13 ++ ds4, limX (d + 2) (2 * L + 2) x := fun x hx => (List.mem_append.mp hx).elim (lim13 x) (lim4 x)
    generalize xs13 ++ xs4 = xs17 at lx17 hx13 ⊢
    generalize ds13 ++ ds4 = ds17 at hx13 lim17
    have nl6 := new_ne (hP8.mono s8d) hl6
    have s14 := same_new (o := .lst xs17) hl6
    have hl14 : (upd H13 l6 (.lst xs17)) l6 = some (.lst xs17) := upd_same
    have hx14 := hx13.same s14
    have s114 := s18.trans (s8d.trans s14)
    have hP14 := hP1.mono s114
    generalize upd H13 l6 (.lst xs17) = H14 at hl14 hx14 s114 hP14 ⊢
    walk_at "zend"))
theorem log_small {n : Int} (h0 : 0 ≤ n) (h1 : n ≤ 100) : n.natAbs.log2 < 1920 := by
  have : n.natAbs < 2 ^ 7 := by omega
  rcases Nat.eq_zero_or_pos n.natAbs with h | h
  · rw [h]
    decide
  · have := (Nat.log2_lt (by omega)).mpr this
    omega
theorem ch_lt (c : Char) : c.toNat < 0x110000 := by
  rcases c.valid with h | h
  · exact Nat.lt_trans h (by decide)
  · exact h.2
theorem int_str (n : Int) : (Str.ofString (toString n)).cps.all (· < 0x110000) = true := by
  rw [Str.ofString_eq_toList]
  show ((toString n).toList.map Char.toNat).toArray.all _ = true
  rw [List.all_toArray, List.all_map, List.all_eq_true]
  intro c _
  exact decide_eq_true (ch_lt c)
theorem ok_strange (T : Blt mg) (D : DefAt K mg "_law_strange" s_law_strange ["pool", "value", "n"]) (D_law_draw : DefAt K mg "_law_draw" s_law_draw ["pool", "many"]) (G_law_draw : FnOk P w K mg base CX0 2 D_law_draw.f D_law_draw.fd ["pool", "many"] spDraw)
    (D_law_is_int : DefAt K mg "_law_is_int" s_law_is_int ["x"]) (G_law_is_int : ∀ b, FnOk P w K mg base CX0 1 D_law_is_int.f D_law_is_int.fd ["x"] (spIntX b)) : FnOk P w K mg base CX0 3 D.f D.fd ["pool", "value", "n"] spStr := by
  refine D.F.ok sc_law_strange (fun vs H Q E h => ?_) (fun cdv A outer s H vs Q E hr h => ?_)
  · obtain ⟨a, s, v, t, d, L, n, rfl, _⟩ := h
    rfl
  · obtain ⟨a, s0, v, t, d, L, n, rfl, hP, hd, hl, hL, n0, n1, q⟩ := h
    have G_law_is_int := G_law_is_int a
    refine ⟨_, (pss_cons (ps_if (PW.pt (pw_and (pt_val (pe_call G_law_is_int (hr.mono (by first | decide | omega)) (by rfl) D_law_is_int.g D_law_is_int.F.kp D_law_is_int.b .nil pass0 (pa_cons (pv 1) pa_nil))) (pw_and1 (pt_cmpR op_gt (pe_call G_law_draw (hr.mono (by first | decide | omega)) (by rfl) D_law_draw.g D_law_draw.F.kp D_law_draw.b .nil pass0 (pa_cons (pv 0) (pa_cons pe_int pa_nil))) pe_int (nomark _)))))
        (pss_one (ps_ret (pe_ix (ix_listK (K := K) rfl) (pe_lst (pa_cons (pe_op op_add (pv 1) pe_int) (pa_cons (pe_op op_sub (pv 1) pe_int) (pa_cons (pe_call G_law_draw (hr.mono (by first | decide | omega)) (by rfl) D_law_draw.g D_law_draw.F.kp D_law_draw.b .nil pass0 (pa_cons (pv 0) (pa_cons (pe_op op_add (pv 2) pe_int) pa_nil))) (pa_cons (pe_un un_neg pe_int) (pa_cons (pv 2) pa_nil)))))) (pe_call G_law_draw (hr.mono (by first | decide | omega)) (by rfl) D_law_draw.g D_law_draw.F.kp D_law_draw.b .nil pass0 (pa_cons (pv 0) (pa_cons pe_int pa_nil))) (fun _ _ => rfl))))
        pss_nil)
      (pss_cons (ps_set (i := 3) sc_law_strange.nd rfl (Or.inl rfl) (pe_lst (pa_cons pe_non (pa_cons pe_bl (pa_cons pe_bl (pa_cons pe_str (pa_cons (pe_tup pa_nil) (pa_cons (pe_lst pa_nil) (pa_cons pe_dnewK (pa_cons pe_int (pa_cons (pv 2) (pa_cons (pe_tup (pa_cons pe_int pa_nil)) (pa_cons pe_str (pa_cons (pe_tup (pa_cons (pe_tup pa_nil) pa_nil)) (pa_cons (pe_un un_neg pe_int) pa_nil)))))))))))))))
      (pss_cons (ps_if (pt_val (pe_callB (call_isiK (K := K) rfl) (by rfl) T.isinstance (by decide +kernel) (pa_cons (pv 1) (pa_cons (pe_bltn (v := .ty "tuple") (u := .type "tuple") (by rfl) T.tuple (by decide +kernel) rfl) pa_nil))))
        (pss_one (ps_set (i := 3) sc_law_strange.nd rfl (Or.inl rfl) (pe_op op_cat (pv 3) (pe_lst (pa_cons (pe_callTy (call_listK (K := K) rfl) (by rfl) T.list (by decide +kernel) (pa_cons (pv 1) pa_nil)) (pa_cons (pe_op (op_catAK (K := K) rfl) (pv 1) (pv 1)) (pa_cons (pe_tup (pa_cons (pv 1) pa_nil)) (pa_cons (PE.revTK (K := K) rfl (pe_revT (pv 1))) pa_nil))))))))
        (pss_one (ps_set (i := 3) sc_law_strange.nd rfl (Or.inl rfl) (pe_op op_cat (pv 3) (pe_lst (pa_cons (pe_tup (pa_cons (pv 1) pa_nil)) (pa_cons (pe_lst (pa_cons (pv 1) pa_nil)) (pa_cons (pe_cmpR (op_eqX (K := K) rfl hr.units) (pv 1) pe_int (nomark _)) (pa_cons (pe_callTy call_str_int (by rfl) T.str (by decide +kernel) (pa_cons (pv 2) pa_nil)) pa_nil)))))))))
      (pss_one (ps_ret (pe_ix (ix_listK (K := K) rfl) (pv 3) (pe_call G_law_draw (hr.mono (by first | decide | omega)) (by rfl) D_law_draw.g D_law_draw.F.kp D_law_draw.b .nil pass0 (pa_cons (pv 0) (pa_cons (pe_callB (call_lenK (K := K) rfl) (by rfl) T.len (by decide +kernel) (pa_cons (pv 3) pa_nil)) pa_nil))) (fun _ _ => rfl))))))), ?_⟩
    refine r_at (σ := [some _, some _, some _, none]) rfl ?_
    walk_at "z"
    refine ⟨v, t, rfl, hd, ?_⟩
    cases ei : intD t with
    | false =>
      obtain ⟨H1, eH⟩ : ∃ H1, H1 = H := ⟨H, rfl⟩
      have hP1 : Pool H1 a s0 := eH ▸ hP
      have g1 : Gr a H H1 := eH ▸ Gr.refl a H
      rw [← eH]
      walk_at "zrows"
    | true =>
      walk_at "z"
      refine ⟨a, s0, 3, rfl, hP, by omega, by omega, fun r3 H1 r30 r31 hP1 g1 => ?_⟩
      walk_at "z"
      refine r_ite (fun h3 => ?_) (fun h3 => ?_)
      · obtain ⟨i, rfl⟩ : ∃ i, t = .int i := by
          cases t with
          | int i => exact ⟨i, rfl⟩
          | _ => exact absurd ei Bool.false_ne_true
        cases hd
        walk_at "z"
        refine ⟨a, s0, _, rfl, hP1, by omega, by omega, fun r4 H2 r40 r41 hP2 g2 => ?_⟩
        walk_at "z"
        refine r_lstN (small_len (by simp only [List.length_cons, List.length_nil]; omega)) fun l hl2 => ?_
        have nl := new_ne hP2 hl2
        have hP3 := hP2.mono (same_new (o := .lst [.int (i + 1), .int (i - 1), .int r4, .int (-1), .int n]) hl2)
        have g3 := g2.trans (Gr.new (o := .lst [.int (i + 1), .int (i - 1), .int r4, .int (-1), .int n]) hl2)
        have hl3 : (upd H2 l (.lst [.int (i + 1), .int (i - 1), .int r4, .int (-1), .int n])) l = some (.lst ([i + 1, i - 1, r4, -1, n].map V.int)) := upd_same
        generalize upd H2 l (.lst [.int (i + 1), .int (i - 1), .int r4, .int (-1), .int n]) = H3 at hP3 g3 hl3 ⊢
        walk_at "z"
        refine ⟨a, s0, 5, rfl, hP3, by omega, by omega, fun r5 H4 r50 r51 hP4 g4 => ?_⟩
        have hl4 := g4 _ _ nl.1 hl3
        obtain ⟨y, hy⟩ : ∃ y, [i + 1, i - 1, r4, -1, n][r5.toNat]? = some y := ⟨_, List.getElem?_eq_getElem (by simp only [List.length_cons, List.length_nil]; omega)⟩
        walk_at "z"
        refine r_ixL (.inl (.inl hl4)) (at_of (j := r5.toNat) (by omega) (by rw [List.getElem?_map, hy]; rfl)) ?_
        exact q _ (.int y) H4 hP4 ((g1.trans g3).trans g4) (.int y) limX_int
      · walk_at "zrows"
end

set_option Elab.async false
set_option linter.all false
set_option maxRecDepth 100000
set_option maxHeartbeats 4000000
open PySem PySem.Spec PyProof.Rows L2 LamX RZ

abbrev s_law_spoilt : Stmt := topS 42
theorem sc_law_spoilt : FnScope ["pool", "value", "n", "at", "way"] ["pool", "value", "n"] (defScope s_law_spoilt) := ⟨rfl, rfl, rfl, by decide +kernel, rfl, by decide +kernel, by decide +kernel⟩

abbrev s_law_due : Stmt := topS 46
theorem sc_law_due : FnScope ["graph", "value", "item"] ["graph", "value"] (defScope s_law_due) := ⟨rfl, rfl, rfl, by decide +kernel, rfl, by decide +kernel, by decide +kernel⟩

theorem DXs.cut {a : Addr} {H : Hp} {xs : List V} {ds : List PyData} (h : DXs a H xs ds) (lo hi : Option Int) : ∃ es, DXs a H (cutV xs lo hi) es ∧ es.length ≤ ds.length ∧ ∀ x ∈ es, x ∈ ds := by
  unfold cutV
  refine ⟨_, (h.drop _).take _, ?_, fun x hx => List.mem_of_mem_drop (List.mem_of_mem_take hx)⟩
  rw [List.length_take, List.length_drop]
  omega
section
variable {P : Program} {w : World} {K : PySem.W.Frag} {mg : Str → Option Value} {base : Heap}
def spSpo (e : Nat) : Sp := fun vs H Q _ => ∃ (a s : Addr) (v : V) (t : PyData) (d L : Nat) (n : Int), vs = [.ref a, v, .int n] ∧ Pool H a s ∧ DX a H v t ∧ d + 1 ≤ e ∧ limX d L t ∧ L ≤ 10000 ∧ 1 ≤ n ∧ n ≤ 100 ∧
  ∀ (v' : V) (t' : PyData) (H' : Hp), Pool H' a s → Gr a H H' → DX a H' v' t' → limX (d + 2) (4 * L + 4) t' → Q v' H'
theorem ok_spoilt (T : Blt mg) (D_law_spoilt : DefAt K mg "_law_spoilt" s_law_spoilt ["pool", "value", "n"]) (D_law_draw : DefAt K mg "_law_draw" s_law_draw ["pool", "many"]) (G_law_draw : FnOk P w K mg base CX0 2 D_law_draw.f D_law_draw.fd ["pool", "many"] spDraw)
    (D_law_strange : DefAt K mg "_law_strange" s_law_strange ["pool", "value", "n"]) (G_law_strange : FnOk P w K mg base CX0 3 D_law_strange.f D_law_strange.fd ["pool", "value", "n"] spStr) : ∀ e : Nat, FnOk P w K mg base CX0 (e + 4) D_law_spoilt.f D_law_spoilt.fd ["pool", "value", "n"] (spSpo e)
  | 0 => fn_none.imp fun vs H Q E h => by
    obtain ⟨_, _, _, _, _, _, _, _, _, _, h, _⟩ := h
    omega
  | e + 1 => by
    have G_law_spoilt := ok_spoilt T D_law_spoilt D_law_draw G_law_draw D_law_strange G_law_strange e
    refine D_law_spoilt.F.ok sc_law_spoilt (fun vs H Q E h => ?_) (fun cdv A outer s H vs Q E hr h => ?_)
    · obtain ⟨a, s, v, t, d, L, n, rfl, _⟩ := h
      rfl
    · obtain ⟨a, s0, v, t, d, L, n, rfl, hP, hd, ed, hl, hL, n0, n1, q⟩ := h
      refine ⟨_, (pss_cons (ps_if (PW.pt (pw_or (pt_not (pt_val (pe_callB (call_isiK (K := K) rfl) (by rfl) T.isinstance (by decide +kernel) (pa_cons (pv 1) (pa_cons (pe_bltn (v := .ty "tuple") (u := .type "tuple") (by rfl) T.tuple (by decide +kernel) rfl) pa_nil))))) (pw_or (pt_cmpR (op_eqX (K := K) rfl hr.units) (pv 1) (pe_tup pa_nil) (nomark _)) (pw_or1 (pt_cmpR op_eq (pe_call G_law_draw (hr.mono (by first | decide | omega)) (by rfl) D_law_draw.g D_law_draw.F.kp D_law_draw.b .nil pass0 (pa_cons (pv 0) (pa_cons pe_int pa_nil))) pe_int (nomark _))))))
        (pss_one (ps_ret (pe_call G_law_strange (hr.mono (by first | decide | omega)) (by rfl) D_law_strange.g D_law_strange.F.kp D_law_strange.b .nil pass0 (pa_cons (pv 0) (pa_cons (pv 1) (pa_cons (pv 2) pa_nil))))))
        pss_nil)
      (pss_cons (ps_set (i := 3) sc_law_spoilt.nd rfl (Or.inl rfl) (pe_call G_law_draw (hr.mono (by first | decide | omega)) (by rfl) D_law_draw.g D_law_draw.F.kp D_law_draw.b .nil pass0 (pa_cons (pv 0) (pa_cons (pe_callB (call_lenK (K := K) rfl) (by rfl) T.len (by decide +kernel) (pa_cons (pv 1) pa_nil)) pa_nil))))
      (pss_cons (ps_set (i := 4) sc_law_spoilt.nd rfl (Or.inl rfl) (pe_call G_law_draw (hr.mono (by first | decide | omega)) (by rfl) D_law_draw.g D_law_draw.F.kp D_law_draw.b .nil pass0 (pa_cons (pv 0) (pa_cons pe_int pa_nil))))
      (pss_cons (ps_if (pt_cmpR op_eq (pv 4) pe_int (nomark _))
        (pss_one (ps_ret (pe_op (op_catAK (K := K) rfl) (pe_slice (sl_tupAK (K := K) rfl) (pv 1) po_none (po_some (pv 3))) (pe_slice (sl_tupAK (K := K) rfl) (pv 1) (po_some (pe_op op_add (pv 3) pe_int)) po_none))))
        pss_nil)
      (pss_cons (ps_if (pt_cmpR op_eq (pv 4) pe_int (nomark _))
        (pss_one (ps_ret (pe_op (op_catAK (K := K) rfl) (pe_op (op_catAK (K := K) rfl) (pe_slice (sl_tupAK (K := K) rfl) (pv 1) po_none (po_some (pv 3))) (pe_tup (pa_cons (pe_ix (ix_tupK (K := K) rfl) (pv 1) (pv 3) (fun _ _ => rfl)) pa_nil))) (pe_slice (sl_tupAK (K := K) rfl) (pv 1) (po_some (pv 3)) po_none))))
        pss_nil)
      (pss_cons (ps_if (pt_cmpR op_eq (pv 4) pe_int (nomark _))
        (pss_one (ps_ret (pe_op (op_catAK (K := K) rfl) (pe_op (op_catAK (K := K) rfl) (pe_op (op_catAK (K := K) rfl) (pe_slice (sl_tupAK (K := K) rfl) (pv 1) po_none (po_some (pv 3))) (pe_slice (sl_tupAK (K := K) rfl) (pv 1) (po_some (pe_op op_add (pv 3) pe_int)) (po_some (pe_op op_add (pv 3) pe_int)))) (pe_slice (sl_tupAK (K := K) rfl) (pv 1) (po_some (pv 3)) (po_some (pe_op op_add (pv 3) pe_int)))) (pe_slice (sl_tupAK (K := K) rfl) (pv 1) (po_some (pe_op op_add (pv 3) pe_int)) po_none))))
        pss_nil)
      (pss_cons (ps_if (pt_cmpR op_eq (pv 4) pe_int (nomark _))
        (pss_one (ps_ret (pe_op (op_catAK (K := K) rfl) (pv 1) (pe_tup (pa_cons (pe_call G_law_draw (hr.mono (by first | decide | omega)) (by rfl) D_law_draw.g D_law_draw.F.kp D_law_draw.b .nil pass0 (pa_cons (pv 0) (pa_cons (pv 2) pa_nil))) pa_nil)))))
        pss_nil)
      (pss_one (ps_ret (pe_op (op_catAK (K := K) rfl) (pe_op (op_catAK (K := K) rfl) (pe_slice (sl_tupAK (K := K) rfl) (pv 1) po_none (po_some (pv 3))) (pe_tup (pa_cons (pe_call G_law_spoilt (hr.mono (by first | decide | omega)) (by rfl) D_law_spoilt.g D_law_spoilt.F.kp D_law_spoilt.b .nil pass0 (pa_cons (pv 0) (pa_cons (pe_ix (ix_tupK (K := K) rfl) (pv 1) (pv 3) (fun _ _ => rfl)) (pa_cons (pv 2) pa_nil)))) pa_nil))) (pe_slice (sl_tupAK (K := K) rfl) (pv 1) (po_some (pe_op op_add (pv 3) pe_int)) po_none))))))))))), ?_⟩
      refine r_at (σ := [some _, some _, some _, none, none]) rfl ?_
      walk_at "z"
      refine r_isiX hd rfl (kit_tup t) ?_
      cases et : tupD t with
      | false =>
        walk_at "z"
        refine iteT (iteT ?_)
        walk_at "z"
        exact ⟨a, s0, v, t, d, L, n, rfl, hP, hd, hl, hL, by omega, n1, fun v' t' H' hP' g' hd' hl' => q v' t' H' hP' g' hd' (hl'.mono (by omega) (by omega))⟩
      | true =>
        obtain ⟨ds, rfl⟩ := tupD_of et
        obtain ⟨d', rfl, ll, le⟩ := limX_tup hl
        cases id hd with
        | @tup p xs _ hp hxd =>
        have lx := hxd.len
        walk_at "z"
        refine iteF ?_
        walk_at "z"
        refine r_tupN (by decide) fun e1 he1 => ?_
        have s1 := same_new (o := .tup []) he1
        have f1 : (upd H e1 (.tup [])) e1 = some (.tup []) := upd_same
        have hP1 := hP.mono s1
        have hd1 := hd.same s1
        have hp1 := hp.same s1
        have hxd1 := hxd.same s1
        generalize upd H e1 (.tup []) = H1 at s1 f1 hP1 hd1 hp1 hxd1 ⊢
        have g1 : Gr a H H1 := Gr.of_same s1
        refine r_eqTE (.inl hp1) (.inl (.inl f1)) ?_
        by_cases lz : ds.length = 0
        · have e0 : xs = [] := List.length_eq_zero_iff.mp (by omega)
          subst e0
          rw [show ([] : List V).isEmpty = true from rfl]
          walk_at "z"
          exact ⟨a, s0, .ref p, _, d' + 1, L, n, rfl, hP1, hd1, hl, hL, by omega, n1, fun v' t' H' hP' g' hd' hl' => q v' t' H' hP' (g1.trans g') hd' (hl'.mono (by omega) (by omega))⟩
        have e0 : xs.isEmpty = false := by
          cases xs with
          | nil =>
            simp at lx
            omega
          | cons _ _ => rfl
        rw [e0]
        walk_at "z"
        refine ⟨a, s0, 6, rfl, hP1, by omega, by omega, fun r6 H2 r60 r61 hP2 g2 => ?_⟩
        have hd2 := hP1.dx g2 hd1
        have g02 := g1.trans g2
        walk_at "z"
        refine r_ite (fun h6 => ?_) (fun h6 => ?_)
        · walk_at "z"
          exact ⟨a, s0, .ref p, _, d' + 1, L, n, rfl, hP2, hd2, hl, hL, by omega, n1, fun v' t' H' hP' g' hd' hl' => q v' t' H' hP' (g02.trans g') hd' (hl'.mono (by omega) (by omega))⟩
        · have hp2 := hP1.st g2 hp1
          have hq2 : SqT K H2 p xs := .inl hp2
          walk_at "z"
          refine ⟨a, s0, _, rfl, hP2, by omega, by omega, fun c H3 c0 c1 hP3 g3 => ?_⟩
          walk_at "z"
          refine ⟨a, s0, 8, rfl, hP3, by omega, by omega, fun r8 H4 r80 r81 hP4 g4 => ?_⟩
          have g34 := g3.trans g4
          have hp4 := hP2.st g34 hp2
          have hxd4 := hP2.dxs g34 (hP1.dxs g2 hxd1)
          have g04 := g02.trans g34
          have ec : ((c.toNat : Nat) : Int) = c := by omega
          have hc : c.toNat < ds.length := by omega
          obtain ⟨z, hz⟩ : ∃ z, ds[c.toNat]? = some z := ⟨_, List.getElem?_eq_getElem hc⟩
          obtain ⟨y, hy⟩ : ∃ y, xs[c.toNat]? = some y := ⟨_, List.getElem?_eq_getElem (by omega)⟩
          have lim2 : ∀ x ∈ ds, limX (d' + 2) (4 * L + 4) x := fun x hx => (le x hx).mono (by omega) (by omega)
          walk_at "z"
          refine r_ite (fun w0 => ?_) (fun w0 => ?_)
          · walk_at "z"
            refine r_slX hp4 fun p5 H5 s5 hp5 => ?_
            have hp5x := hp4.same s5
            walk_at "z"
            refine r_slX hp5x fun p6 H6 s6 hp6 => ?_
            have hp56 := hp5.same s6
            obtain ⟨es5, de5, le5, m5⟩ := (hxd4.same (s5.trans s6)).cut none (some c)
            obtain ⟨es6, de6, le6, m6⟩ := (hxd4.same (s5.trans s6)).cut (some (c + 1)) none
            have k5 := de5.len
            have k6 := de6.len
            walk_at "z"
            refine r_catX hp56 hp6 (by omega) fun p7 H7 s7 hp7 => ?_
            have s47 := (s5.trans s6).trans s7
            refine q _ (.tuple (es5 ++ es6)) H7 (hP4.mono s47) (g04.trans (Gr.of_same s47)) (.tup hp7 ((de5.app de6).same s7)) (limX_mk (by rw [List.length_append]; omega) fun x hx => ?_)
            rcases List.mem_append.mp hx with hx | hx
            · exact lim2 x (m5 x hx)
            · exact lim2 x (m6 x hx)
          · walk_at "z"
            refine r_ite (fun w1 => ?_) (fun w1 => ?_)
            · walk_at "z"
              refine r_slX hp4 fun p5 H5 s5 hp5 => ?_
              have hp5x := hp4.same s5
              walk_at "z"
              refine r_ixT (.inl hp5x) (at_of (j := c.toNat) (by omega) hy) ?_
              walk_at "z"
              refine r_tupN sz1 fun q1 hq1 => ?_
              have s6 := same_new (o := .tup [y]) hq1
              have hq6 : (upd H5 q1 (.tup [y])) q1 = some (.tup [y]) := upd_same
              generalize upd H5 q1 (.tup [y]) = H6 at s6 hq6 ⊢
              have hp6 := hp5.same s6
              have hp6x := hp5x.same s6
              have hyd6 := (hxd4.same (s5.trans s6)).get hy hz
              obtain ⟨es5, de5, le5, m5⟩ := (hxd4.same (s5.trans s6)).cut none (some c)
              have k5 := de5.len
              walk_at "z"
              refine r_catX hp6 (.inl hq6) (by simp only [List.length_cons, List.length_nil]; omega) fun p7 H7 s7 hp7 => ?_
              have hp7x := hp6x.same s7
              walk_at "z"
              refine r_slX hp7x fun p8 H8 s8 hp8 => ?_
              have s48 := (s5.trans s6).trans (s7.trans s8)
              obtain ⟨es8, de8, le8, m8⟩ := (hxd4.same s48).cut (some c) none
              have k8 := de8.len
              walk_at "z"
              refine r_catX (hp7.same s8) hp8 (by rw [List.length_append]; simp only [List.length_cons, List.length_nil]; omega) fun p9 H9 s9 hp9 => ?_
              refine q _ (.tuple (es5 ++ [z] ++ es8)) H9 (hP4.mono (s48.trans s9)) (g04.trans (Gr.of_same (s48.trans s9))) (.tup hp9 (((de5.same ((s7.trans s8).trans s9)).app (.cons (hyd6.same ((s7.trans s8).trans s9)) .nil)).app (de8.same s9))) (limX_mk (by rw [List.length_append, List.length_append]; simp only [List.length_cons, List.length_nil]; omega) fun x hx => ?_)
              rcases List.mem_append.mp hx with hx | hx
              · rcases List.mem_append.mp hx with hx | hx
                · exact lim2 x (m5 x hx)
                · rw [List.mem_singleton.mp hx]
                  exact lim2 z (List.mem_of_getElem? hz)
              · exact lim2 x (m8 x hx)
            · walk_at "z"
              refine r_ite (fun w2 => ?_) (fun w2 => ?_)
              · walk_at "z"
                refine r_slX hp4 fun p5 H5 s5 hp5 => ?_
                have hp5x := hp4.same s5
                walk_at "z"
                refine r_slX hp5x fun p6 H6 s6 hp6 => ?_
                have hp6x := hp5x.same s6
                obtain ⟨es5, de5, le5, m5⟩ := (hxd4.same (s5.trans s6)).cut none (some c)
                obtain ⟨es6, de6, le6, m6⟩ := (hxd4.same (s5.trans s6)).cut (some (c + 1)) (some (c + 2))
                have k5 := de5.len
                have k6 := de6.len
                walk_at "z"
                refine r_catX (hp5.same s6) hp6 (by omega) fun p7 H7 s7 hp7 => ?_
                have hp7x := hp6x.same s7
                walk_at "z"
                refine r_slX hp7x fun p8 H8 s8 hp8 => ?_
                have hp8x := hp7x.same s8
                have s48 := (s5.trans s6).trans (s7.trans s8)
                obtain ⟨es8, de8, le8, m8⟩ := (hxd4.same s48).cut (some c) (some (c + 1))
                have k8 := de8.len
                walk_at "z"
                refine r_catX (hp7.same s8) hp8 (by rw [List.length_append]; omega) fun p9 H9 s9 hp9 => ?_
                have hp9x := hp8x.same s9
                walk_at "z"
                refine r_slX hp9x fun p10 H10 s10 hp10 => ?_
                have s4a := s48.trans (s9.trans s10)
                obtain ⟨es10, de10, le10, m10⟩ := (hxd4.same s4a).cut (some (c + 2)) none
                have k10 := de10.len
                walk_at "z"
                refine r_catX (hp9.same s10) hp10 (by rw [List.length_append, List.length_append]; omega) fun p11 H11 s11 hp11 => ?_
                have s4b := s4a.trans s11
                have s8b := (s9.trans s10).trans s11
                refine q _ (.tuple (es5 ++ es6 ++ es8 ++ es10)) H11 (hP4.mono s4b) (g04.trans (Gr.of_same s4b)) (.tup hp11 ((((de5.app de6).same ((s7.trans s8).trans s8b)).app (de8.same s8b)).app (de10.same s11))) (limX_mk (by rw [List.length_append, List.length_append, List.length_append]; omega) fun x hx => ?_)
                rcases List.mem_append.mp hx with hx | hx
                · rcases List.mem_append.mp hx with hx | hx
                  · rcases List.mem_append.mp hx with hx | hx
                    · exact lim2 x (m5 x hx)
                    · exact lim2 x (m6 x hx)
                  · exact lim2 x (m8 x hx)
                · exact lim2 x (m10 x hx)
              · walk_at "z"
                refine r_ite (fun w3 => ?_) (fun w3 => ?_)
                · walk_at "z"
                  refine ⟨a, s0, n, rfl, hP4, by omega, by omega, fun k H5 k0 k1 hP5 g5 => ?_⟩
                  have hp5 := hP4.st g5 hp4
                  have hxd5 := hP4.dxs g5 hxd4
                  walk_at "z"
                  refine r_tupN sz1 fun q1 hq1 => ?_
                  have s6 := same_new (o := .tup [.int k]) hq1
                  have hq6 : (upd H5 q1 (.tup [.int k])) q1 = some (.tup [.int k]) := upd_same
                  generalize upd H5 q1 (.tup [.int k]) = H6 at s6 hq6 ⊢
                  walk_at "z"
                  refine r_catX (hp5.same s6) (.inl hq6) (by simp only [List.length_cons, List.length_nil]; omega) fun p7 H7 s7 hp7 => ?_
                  have s57 := s6.trans s7
                  refine q _ (.tuple (ds ++ [.int k])) H7 (hP5.mono s57) ((g04.trans g5).trans (Gr.of_same s57)) (.tup hp7 ((hxd5.same s57).app (.cons (.int k) .nil))) (limX_mk (by rw [List.length_append]; simp only [List.length_cons, List.length_nil]; omega) fun x hx => ?_)
                  rcases List.mem_append.mp hx with hx | hx
                  · exact lim2 x hx
                  · rw [List.mem_singleton.mp hx]
                    exact limX_int
                · walk_at "z"
                  refine r_slX hp4 fun p5 H5 s5 hp5 => ?_
                  have hp5x := hp4.same s5
                  walk_at "z"
                  refine r_ixT (.inl hp5x) (at_of (j := c.toNat) (by omega) hy) ?_
                  walk_at "z"
                  have hP5 := hP4.mono s5
                  have hxd5 := hxd4.same s5
                  refine ⟨a, s0, y, z, d', L, n, rfl, hP5, hxd5.get hy hz, by omega, le z (List.mem_of_getElem? hz), hL, n0, n1, fun v' t' H6 hP6 g6 hd6 hl6 => ?_⟩
                  have hp6 := hP5.st g6 hp5
                  have hp6x := hP5.st g6 hp5x
                  have hxd6 := hP5.dxs g6 hxd5
                  walk_at "z"
                  refine r_tupN sz1 fun q1 hq1 => ?_
                  have s7 := same_new (o := .tup [v']) hq1
                  have hq7 : (upd H6 q1 (.tup [v'])) q1 = some (.tup [v']) := upd_same
                  generalize upd H6 q1 (.tup [v']) = H7 at s7 hq7 ⊢
                  have hxd7 := hxd6.same s7
                  obtain ⟨es5, de5, le5, m5⟩ := hxd7.cut none (some c)
                  have k5 := de5.len
                  walk_at "z"
                  refine r_catX (hp6.same s7) (.inl hq7) (by simp only [List.length_cons, List.length_nil]; omega) fun p8 H8 s8 hp8 => ?_
                  walk_at "z"
                  refine r_slX ((hp6x.same s7).same s8) fun p9 H9 s9 hp9 => ?_
                  have s79 := s8.trans s9
                  obtain ⟨es9, de9, le9, m9⟩ := (hxd7.same s79).cut (some (c + 1)) none
                  have k9 := de9.len
                  walk_at "z"
                  refine r_catX (hp8.same s9) hp9 (by rw [List.length_append]; simp only [List.length_cons, List.length_nil]; omega) fun p10 H10 s10 hp10 => ?_
                  have s6a := (s7.trans s79).trans s10
                  have s7a := s79.trans s10
                  refine q _ (.tuple (es5 ++ [t'] ++ es9)) H10 (hP6.mono s6a) (((g04.trans (Gr.of_same s5)).trans g6).trans (Gr.of_same s6a)) (.tup hp10 (((de5.same s7a).app (.cons (hd6.same s6a) .nil)).app (de9.same s10))) (limX_mk (by rw [List.length_append, List.length_append]; simp only [List.length_cons, List.length_nil]; omega) fun x hx => ?_)
                  rcases List.mem_append.mp hx with hx | hx
                  · rcases List.mem_append.mp hx with hx | hx
                    · exact lim2 x (m5 x hx)
                    · rw [List.mem_singleton.mp hx]
                      exact hl6.mono (by omega) (by omega)
                  · exact lim2 x (m9 x hx)
end

set_option Elab.async false
set_option linter.all false
set_option maxRecDepth 100000
set_option maxHeartbeats 4000000
open PySem PySem.Spec PyProof.Rows L2 LamX RZ

abbrev s_is_number : Stmt := topS 18
theorem sc_is_number : FnScope ["value"] ["value"] (defScope s_is_number) := ⟨rfl, rfl, rfl, by decide +kernel, rfl, by decide +kernel, by decide +kernel⟩

abbrev s_are_ends : Stmt := topS 17
theorem sc_are_ends : FnScope ["graph", "s", "t", "n"] ["graph", "s", "t"] (defScope s_are_ends) := ⟨rfl, rfl, rfl, by decide +kernel, rfl, by decide +kernel, by decide +kernel⟩

abbrev s_is_question : Stmt := topS 16
theorem sc_is_question : FnScope ["graph", "value", "kind"] ["graph", "value"] (defScope s_is_question) := ⟨rfl, rfl, rfl, by decide +kernel, rfl, by decide +kernel, by decide +kernel⟩

def kds : List Str := ["connected", "bipartite", "forest", "block", "chordal", "interval", "cograph", "comparability", "permutation", "prime", "planar", "outerplanar", "degenerate", "indegree", "forests", "trees", "width", "colours", "independent", "matching", "linked", "isomorphic"]
def nks : List Str := ["degenerate", "indegree", "forests", "trees", "width", "colours", "independent", "matching"]
theorem inV_strs {x : Str} : ∀ ks : List Str, inV (.str x) (ks.map V.str) = decide (x ∈ ks)
  | [] => rfl
  | k :: ks => by
    have ih := inV_strs (x := x) ks
    unfold inV at ih ⊢
    rw [List.map_cons, List.any_cons, ih]
    apply Bool.eq_iff_iff.mpr
    rw [Bool.or_eq_true, decide_eq_true_eq, decide_eq_true_eq, List.mem_cons]
    have : eqV (.str k) (.str x) = true ↔ x = k := by
      show (k == x) = true ↔ x = k
      rw [beq_iff_eq]
      exact eq_comm
    rw [this]
theorem flat_strs : ∀ ks : List Str, (ks.map V.str).all flatV = true
  | [] => rfl
  | k :: ks => by
    rw [List.map_cons, List.all_cons, flat_strs ks]
    rfl
theorem r_inS {K : PySem.W.Frag} {H : Hp} {Q : VK} {m : Addr} {ks : List Str} {x : Str} (h : SqL K H m (ks.map V.str) ∨ SqT K H m (ks.map V.str)) (q : Q (.bl (decide (x ∈ ks))) H) : rIn K false (.str x) (.ref m) H Q := ⟨m, _, rfl, h, rfl, flat_strs ks, by
  rw [if_neg Bool.false_ne_true, inV_strs]
  exact q⟩
theorem r_ninS {K : PySem.W.Frag} {H : Hp} {Q : VK} {m : Addr} {ks : List Str} {x : Str} (h : SqL K H m (ks.map V.str) ∨ SqT K H m (ks.map V.str)) (q : Q (.bl (!decide (x ∈ ks))) H) : rIn K true (.str x) (.ref m) H Q := ⟨m, _, rfl, h, rfl, flat_strs ks, by
  rw [if_pos rfl, inV_strs]
  exact q⟩
theorem r_eqS {H : Hp} {Q : VK} {x y : Str} (q : Q (.bl (decide (x = y))) H) : rEq (.str x) (.str y) H Q := ⟨rfl, by
  have : decide (V.str x = V.str y) = decide (x = y) := by
    apply Bool.eq_iff_iff.mpr
    rw [decide_eq_true_eq, decide_eq_true_eq, V.str.injEq]
  rw [this]
  exact q⟩
theorem r_neS {H : Hp} {Q : VK} {x y : Str} (q : Q (.bl (!decide (x = y))) H) : rNe (.str x) (.str y) H Q := ⟨rfl, by
  have : decide (V.str x = V.str y) = decide (x = y) := by
    apply Bool.eq_iff_iff.mpr
    rw [decide_eq_true_eq, decide_eq_true_eq, V.str.injEq]
  rw [this]
  exact q⟩
def bodyX (n : Int) (w : Str) (ds : List PyData) : Prop :=
  w ∈ kds ∧ (if w = "linked" then ∃ s t k : Int, ds = [.int s, .int t, .int k] ∧ (0 ≤ s ∧ s < n) ∧ (0 ≤ t ∧ t < n) ∧ s ≠ t ∧ 0 ≤ k
    else if w = "isomorphic" then ∃ g, ds = [g] ∧ gphX g else if w ∈ nks then ∃ k : Int, ds = [.int k] ∧ 0 ≤ k else ds = [])
def qX (n : Int) (d : PyData) : Prop := ∃ (w : Str) (ds : List PyData), d = .tuple (.str w :: ds) ∧ bodyX n w ds
theorem qX_cons {n : Int} {w : Str} {ds : List PyData} : qX n (.tuple (.str w :: ds)) ↔ bodyX n w ds := by
  constructor
  · rintro ⟨w', ds', e, h⟩
    have e := PyData.tuple.inj e
    simp only [List.cons.injEq, PyData.str.injEq] at e
    rw [e.1, e.2]
    exact h
  · exact fun h => ⟨w, ds, rfl, h⟩
def strD : PyData → Bool
  | .str _ => true
  | _ => false
theorem kit_str (t : PyData) : kitB (kd t) "str" = some (strD t) := by
  cases t with
  | none => exact (show kitB "NoneType" "str" = some false by decide +kernel)
  | bool b => exact (show kitB "bool" "str" = some false by decide +kernel)
  | int b => exact (show kitB "int" "str" = some false by decide +kernel)
  | str b => exact (show kitB "str" "str" = some true by decide +kernel)
  | list b => exact (show kitB "list" "str" = some false by decide +kernel)
  | tuple b => exact (show kitB "tuple" "str" = some false by decide +kernel)
  | dict b => exact (show kitB "dict" "str" = some false by decide +kernel)
def numD : PyData → Bool
  | .int i => decide (i ≥ 0)
  | _ => false
section
variable {P : Program} {w : World} {K : PySem.W.Frag} {mg : Str → Option Value} {base : Heap}
def spNumX (b : Addr) : Sp := fun vs H Q _ => ∃ (v : V) (d : PyData), vs = [v] ∧ DX b H v d ∧ Q (.bl (numD d)) H
theorem ok_numX {b : Addr} (T : Blt mg) (D : DefAt K mg "_is_number" s_is_number ["value"]) (D_is_integer : DefAt K mg "is_integer" s_is_integer ["value"]) (G_is_integer : FnOk P w K mg base CX0 1 D_is_integer.f D_is_integer.fd ["value"] (spIntX b)) :
    FnOk P w K mg base CX0 2 D.f D.fd ["value"] (spNumX b) := by
  refine D.F.ok sc_is_number (fun vs H Q E h => ?_) (fun cdv A outer s H vs Q E hr h => ?_)
  · obtain ⟨v, d, rfl, _⟩ := h
    rfl
  · obtain ⟨v, d, rfl, hd, q⟩ := h
    refine ⟨_, (pss_one (ps_ret (pe_and (pe_call G_is_integer (hr.mono (by first | decide | omega)) (by rfl) D_is_integer.g D_is_integer.F.kp D_is_integer.b .nil pass0 (pa_cons (pv 0) pa_nil)) (pe_one (pe_cmpR op_ge (pv 0) pe_int (nomark _)))))), ?_⟩
    refine r_at (σ := [some _]) rfl ?_
    walk_at "z"
    refine ⟨v, d, rfl, hd, ?_⟩
    walk_at "z"
    cases d with
    | int i =>
      cases hd
      walk_at "z"
      refine iteT ?_
      walk_at "z"
      exact q
    | _ => exact iteF q
def endsD (n : Int) (s t : PyData) : Prop := ∃ i j : Int, s = .int i ∧ t = .int j ∧ (0 ≤ i ∧ i < n) ∧ (0 ≤ j ∧ j < n) ∧ i ≠ j
def spEndsX (b : Addr) : Sp := fun vs H Q _ => ∃ (g x y : V) (n : Int) (ps : List (Int × Int)) (s t : PyData), vs = [g, x, y] ∧ GrAt H g n ps ∧ DX b H x s ∧ DX b H y t ∧ ∀ r : Bool, (r = true ↔ endsD n s t) → Q (.bl r) H
theorem ver_of {n : Int} {d : PyData} (h : verD n d = true) : ∃ i, d = .int i ∧ 0 ≤ i ∧ i < n := by
  cases d with
  | int i => exact ⟨i, rfl, of_decide_eq_true h⟩
  | _ => exact absurd h Bool.false_ne_true
theorem ok_endsX {b : Addr} (T : Blt mg) (D : DefAt K mg "_are_ends" s_are_ends ["graph", "s", "t"]) (D_is_vertex : DefAt K mg "is_vertex" s_is_vertex ["n", "value"]) (G_is_vertex : FnOk P w K mg base CX0 2 D_is_vertex.f D_is_vertex.fd ["n", "value"] (spVxX b)) :
    FnOk P w K mg base CX0 3 D.f D.fd ["graph", "s", "t"] (spEndsX b) := by
  refine D.F.ok sc_are_ends (fun vs H Q E h => ?_) (fun cdv A outer s H vs Q E hr h => ?_)
  · obtain ⟨g, x, y, n, ps, s, t, rfl, _⟩ := h
    rfl
  · obtain ⟨g, x, y, n, ps, s, t, rfl, ⟨ga, e, rfl, hg, _⟩, hx, hy, q⟩ := h
    refine ⟨_, (pss_cons (ps_set (i := 3) sc_are_ends.nd rfl (Or.inl rfl) (pe_ix (ix_tupK (K := K) rfl) (pv 0) pe_int (fun _ _ => rfl)))
      (pss_one (ps_ret (pe_and (pe_call G_is_vertex (hr.mono (by first | decide | omega)) (by rfl) D_is_vertex.g D_is_vertex.F.kp D_is_vertex.b .nil pass0 (pa_cons (pv 3) (pa_cons (pv 1) pa_nil))) (pe_and (pe_call G_is_vertex (hr.mono (by first | decide | omega)) (by rfl) D_is_vertex.g D_is_vertex.F.kp D_is_vertex.b .nil pass0 (pa_cons (pv 3) (pa_cons (pv 2) pa_nil))) (pe_one (pe_cmpR op_ne (pv 1) (pv 2) (nomark _)))))))), ?_⟩
    refine r_at (σ := [some _, some _, some _, none]) rfl ?_
    walk_at "z"
    refine ⟨n, x, s, rfl, hx, ?_⟩
    cases e1 : verD n s with
    | false =>
      walk_at "z"
      refine q false ⟨fun h => (nomatch h), fun ⟨i, j, es, _, bi, _⟩ => ?_⟩
      rw [es] at e1
      exact (of_decide_eq_false e1 bi).elim
    | true =>
      obtain ⟨i, rfl, i0, i1⟩ := ver_of e1
      cases hx
      walk_at "z"
      refine ⟨n, y, t, rfl, hy, ?_⟩
      cases e2 : verD n t with
      | false =>
        walk_at "z"
        refine q false ⟨fun h => (nomatch h), fun ⟨i, j, _, et, _, bj, _⟩ => ?_⟩
        rw [et] at e2
        exact (of_decide_eq_false e2 bj).elim
      | true =>
        obtain ⟨j, rfl, j0, j1⟩ := ver_of e2
        cases hy
        walk_at "z"
        refine q _ ?_
        constructor
        · intro h
          exact ⟨i, j, rfl, rfl, ⟨i0, i1⟩, ⟨j0, j1⟩, fun z => by rw [z] at h; simp at h⟩
        · rintro ⟨i', j', e3, e4, _, _, ne⟩
          cases e3
          cases e4
          simp [ne]
def spQX (b : Addr) (TT : List (Addr × Str)) : Sp := fun vs H Q _ => ∃ (g v : V) (n : Int) (ps : List (Int × Int)) (d : PyData), vs = [g, v] ∧ GrAt H g n ps ∧ DX b H v d ∧ (∃ D, limX D 100000 d) ∧ Tabs TT H ∧ ∀ (r : Bool) H', ExtN H H' → Tabs TT H' → (r = true ↔ qX n d) → Q (.bl r) H'
theorem ok_isq {b aK aN : Addr} {TT : List (Addr × Str)} (T : Blt mg) (C_KINDS : mg "KINDS" = some (.ref aK)) (C_NUMBER_KINDS : mg "NUMBER_KINDS" = some (.ref aN)) (hK : ∀ H, SqT K H aK (kds.map V.str)) (hN : ∀ H, SqT K H aN (nks.map V.str)) (D : DefAt K mg "is_question" s_is_question ["graph", "value"])
    (D_is_tuple : DefAt K mg "is_tuple" s_is_tuple ["value", "many"]) (G_is_tuple : FnOk P w K mg base CX0 1 D_is_tuple.f D_is_tuple.fd ["value", "many"] (spTupX b)) (D_is_graph : DefAt K mg "is_graph" s_is_graph ["value"]) (G_is_graph : FnOk P w K mg base CX0 15 D_is_graph.f D_is_graph.fd ["value"] (spGphX b TT))
    (D_are_ends : DefAt K mg "_are_ends" s_are_ends ["graph", "s", "t"]) (G_are_ends : FnOk P w K mg base CX0 3 D_are_ends.f D_are_ends.fd ["graph", "s", "t"] (spEndsX b)) (D_is_number : DefAt K mg "_is_number" s_is_number ["value"]) (G_is_number : FnOk P w K mg base CX0 2 D_is_number.f D_is_number.fd ["value"] (spNumX b)) :
    FnOk P w K mg base CX0 16 D.f D.fd ["graph", "value"] (spQX b TT) := by
  refine D.F.ok sc_is_question (fun vs H Q E h => ?_) (fun cdv A outer s H vs Q E hr h => ?_)
  · obtain ⟨g, v, n, ps, d, rfl, _⟩ := h
    rfl
  · obtain ⟨g, v, n, ps, d, rfl, hgr, hd, ⟨DD, hl⟩, hT, q⟩ := h
    refine ⟨_, (pss_cons (ps_if (PW.pt (pw_or (pt_not (pt_val (pe_callB (call_isiK (K := K) rfl) (by rfl) T.isinstance (by decide +kernel) (pa_cons (pv 1) (pa_cons (pe_bltn (v := .ty "tuple") (u := .type "tuple") (by rfl) T.tuple (by decide +kernel) rfl) pa_nil))))) (pw_or1 (pt_cmpR (op_eqX (K := K) rfl hr.units) (pv 1) (pe_tup pa_nil) (nomark _)))))
        (pss_one (ps_ret pe_bl))
        pss_nil)
      (pss_cons (ps_set (i := 2) sc_is_question.nd rfl (Or.inl rfl) (pe_ix (ix_tupK (K := K) rfl) (pv 1) pe_int (fun _ _ => rfl)))
      (pss_cons (ps_if (PW.pt (pw_or (pt_not (pt_val (pe_callB (call_isiK (K := K) rfl) (by rfl) T.isinstance (by decide +kernel) (pa_cons (pv 2) (pa_cons (pe_bltn (v := .ty "str") (u := .type "str") (by rfl) T.str (by decide +kernel) rfl) pa_nil))))) (pw_or1 (pt_cmpR (op_ninSeqK (K := K) rfl) (pv 2) (pe_glob rfl C_KINDS rel_ref) (by rfl)))))
        (pss_one (ps_ret pe_bl))
        pss_nil)
      (pss_cons (ps_if (pt_cmpR op_eq (pv 2) pe_str (nomark _))
        (pss_one (ps_ret (pe_and (pe_call G_is_tuple (hr.mono (by first | decide | omega)) (by rfl) D_is_tuple.g D_is_tuple.F.kp D_is_tuple.b .nil pass0 (pa_cons (pv 1) (pa_cons pe_int pa_nil))) (pe_and (pe_call G_are_ends (hr.mono (by first | decide | omega)) (by rfl) D_are_ends.g D_are_ends.F.kp D_are_ends.b .nil pass0 (pa_cons (pv 0) (pa_cons (pe_ix (ix_tupK (K := K) rfl) (pv 1) pe_int (fun _ _ => rfl)) (pa_cons (pe_ix (ix_tupK (K := K) rfl) (pv 1) pe_int (fun _ _ => rfl)) pa_nil)))) (pe_one (pe_call G_is_number (hr.mono (by first | decide | omega)) (by rfl) D_is_number.g D_is_number.F.kp D_is_number.b .nil pass0 (pa_cons (pe_ix (ix_tupK (K := K) rfl) (pv 1) pe_int (fun _ _ => rfl)) pa_nil)))))))
        pss_nil)
      (pss_cons (ps_if (pt_cmpR op_eq (pv 2) pe_str (nomark _))
        (pss_one (ps_ret (pe_and (pe_call G_is_tuple (hr.mono (by first | decide | omega)) (by rfl) D_is_tuple.g D_is_tuple.F.kp D_is_tuple.b .nil pass0 (pa_cons (pv 1) (pa_cons pe_int pa_nil))) (pe_one (pe_call G_is_graph (hr.mono (by first | decide | omega)) (by rfl) D_is_graph.g D_is_graph.F.kp D_is_graph.b .nil pass0 (pa_cons (pe_ix (ix_tupK (K := K) rfl) (pv 1) pe_int (fun _ _ => rfl)) pa_nil))))))
        pss_nil)
      (pss_cons (ps_if (pt_cmpR (op_inSeqK (K := K) rfl) (pv 2) (pe_glob rfl C_NUMBER_KINDS rel_ref) (by rfl))
        (pss_one (ps_ret (pe_and (pe_call G_is_tuple (hr.mono (by first | decide | omega)) (by rfl) D_is_tuple.g D_is_tuple.F.kp D_is_tuple.b .nil pass0 (pa_cons (pv 1) (pa_cons pe_int pa_nil))) (pe_one (pe_call G_is_number (hr.mono (by first | decide | omega)) (by rfl) D_is_number.g D_is_number.F.kp D_is_number.b .nil pass0 (pa_cons (pe_ix (ix_tupK (K := K) rfl) (pv 1) pe_int (fun _ _ => rfl)) pa_nil))))))
        pss_nil)
      (pss_one (ps_ret (pe_call G_is_tuple (hr.mono (by first | decide | omega)) (by rfl) D_is_tuple.g D_is_tuple.F.kp D_is_tuple.b .nil pass0 (pa_cons (pv 1) (pa_cons pe_int pa_nil))))))))))), ?_⟩
    refine r_at (σ := [some _, some _, none]) rfl ?_
    walk_at "z"
    refine r_isiX hd rfl (kit_tup d) ?_
    cases et : tupD d with
    | false =>
      walk_at "z"
      refine iteT (iteT ?_)
      walk_at "z"
      refine q false H (.refl H) hT ⟨fun h => (nomatch h), fun ⟨w, ds, e, _⟩ => ?_⟩
      rw [e] at et
      cases et
    | true =>
      obtain ⟨ds, rfl⟩ := tupD_of et
      cases id hd with
      | @tup p xs _ hp hxd =>
      walk_at "z"
      refine iteF ?_
      walk_at "z"
      refine r_tupN (by decide) fun e1 he1 => ?_
      have s1 := same_new (o := .tup []) he1
      have f1 : (upd H e1 (.tup [])) e1 = some (.tup []) := upd_same
      generalize upd H e1 (.tup []) = H1 at s1 f1 ⊢
      have x1 := ext_same s1
      have T1 := hT.ext s1
      have gr1 := hgr.tk (.of_same s1)
      have hd1 := hd.same s1
      have hp1 := hp.same s1
      have hxd1 := hxd.same s1
      refine r_eqTE (.inl hp1) (.inl (.inl f1)) ?_
      cases hxd1 with
      | nil =>
        rw [show ([] : List V).isEmpty = true from rfl]
        walk_at "z"
        refine q false H1 x1 T1 ⟨fun h => (nomatch h), fun ⟨w, ds, e, _⟩ => ?_⟩
        cases e
      | @cons x0 xs' d0 ds' h0 hrest =>
        have hq : SqT K H1 p (x0 :: xs') := .inl hp1
        rw [show (x0 :: xs').isEmpty = false from rfl]
        walk_at "z"
        refine r_isiX h0 rfl (kit_str d0) ?_
        cases es : strD d0 with
        | false =>
          walk_at "z"
          refine iteT (iteT ?_)
          walk_at "z"
          refine q false H1 x1 T1 ⟨fun h => (nomatch h), fun ⟨w, ds, e, _⟩ => ?_⟩
          have e := PyData.tuple.inj e
          simp only [List.cons.injEq] at e
          rw [e.1] at es
          cases es
        | true =>
          obtain ⟨w, rfl⟩ : ∃ w, d0 = .str w := by
            cases d0 with
            | str w => exact ⟨w, rfl⟩
            | _ => exact absurd es Bool.false_ne_true
          cases h0
          walk_at "z"
          refine iteF ?_
          walk_at "z"
          refine r_ninS (.inr (hK _)) ?_
          walk_at "z"
          have lenT : ∀ m : Int, lenD m (.tuple (.str w :: ds')) = decide (((ds'.length : Int) + 1) = m) := fun m => by
            show decide ((((PyData.str w :: ds').length : Nat) : Int) = m) = _
            rw [List.length_cons]
            rfl
          have no : ∀ H', ExtN H H' → Tabs TT H' → ¬ bodyX n w ds' → Q (.bl false) H' := fun H' e' T' h => q false H' e' T' ⟨fun h => (nomatch h), fun h' => (h (qX_cons.mp h')).elim⟩
          by_cases wk : w ∈ kds
          · rw [decide_eq_true wk]
            refine iteF ?_
            walk_at "z"
            refine r_eqS ?_
            walk_at "z"
            by_cases wl : w = "linked"
            · rw [decide_eq_true wl]
              refine iteT ?_
              walk_at "z"
              refine ⟨.ref p, _, 4, rfl, hd1, ?_⟩
              rw [lenT]
              by_cases l4 : ds'.length = 3
              · rw [decide_eq_true (show (ds'.length : Int) + 1 = 4 by omega)]
                match ds', l4, hrest, no, q with
                | [a1, a2, a3], _, hrest, no, q =>
                cases hrest with
                | @cons y1 _ _ _ h1 hr1 =>
                cases hr1 with
                | @cons y2 _ _ _ h2 hr2 =>
                cases hr2 with
                | @cons y3 _ _ _ h3 hr3 =>
                cases hr3
                walk_at "z"
                refine ⟨g, y1, y2, n, ps, a1, a2, rfl, gr1, h1, h2, fun r hr2 => ?_⟩
                cases r with
                | false =>
                  walk_at "z"
                  refine no H1 x1 T1 fun ⟨_, h⟩ => ?_
                  rw [if_pos wl] at h
                  obtain ⟨s, t, k, e, bs, bt, ne, _⟩ := h
                  simp only [List.cons.injEq, and_true] at e
                  have := hr2.mpr ⟨s, t, e.1, e.2.1, bs, bt, ne⟩
                  cases this
                | true =>
                  obtain ⟨s, t, rfl, rfl, bs, bt, ne⟩ := hr2.mp rfl
                  walk_at "z"
                  refine ⟨y3, a3, rfl, h3, ?_⟩
                  refine q _ H1 x1 T1 ?_
                  rw [qX_cons]
                  unfold bodyX
                  rw [if_pos wl]
                  constructor
                  · intro h
                    obtain ⟨k, rfl, k0⟩ : ∃ k, a3 = .int k ∧ 0 ≤ k := by
                      cases a3 with
                      | int k => exact ⟨k, rfl, of_decide_eq_true h⟩
                      | _ => exact absurd h Bool.false_ne_true
                    exact ⟨wk, s, t, k, rfl, bs, bt, ne, k0⟩
                  · rintro ⟨_, s', t', k, e, _, _, _, k0⟩
                    simp only [List.cons.injEq, and_true] at e
                    rw [e.2.2]
                    exact decide_eq_true k0
              · rw [decide_eq_false (show ¬ (ds'.length : Int) + 1 = 4 by omega)]
                walk_at "z"
                refine no H1 x1 T1 fun ⟨_, h⟩ => ?_
                rw [if_pos wl] at h
                obtain ⟨s, t, k, e, _⟩ := h
                rw [e] at l4
                exact l4 rfl
            · rw [decide_eq_false wl]
              refine iteF ?_
              walk_at "z"
              refine r_eqS ?_
              walk_at "z"
              by_cases wi : w = "isomorphic"
              · rw [decide_eq_true wi]
                refine iteT ?_
                walk_at "z"
                refine ⟨.ref p, _, 2, rfl, hd1, ?_⟩
                rw [lenT]
                by_cases l2 : ds'.length = 1
                · rw [decide_eq_true (show (ds'.length : Int) + 1 = 2 by omega)]
                  match ds', l2, hrest, no, q, hl with
                  | [a1], _, hrest, no, q, hl =>
                  cases hrest with
                  | @cons y1 _ _ _ h1 hr1 =>
                  cases hr1
                  obtain ⟨D1, _, _, lim1⟩ := limX_tup hl
                  walk_at "z"
                  refine ⟨y1, a1, rfl, h1, ⟨_, lim1 a1 (by simp)⟩, T1, fun r H2 e2 T2 hr2 => ?_⟩
                  refine q r H2 (x1.trans e2) T2 (hr2.trans ?_)
                  rw [qX_cons]
                  unfold bodyX
                  rw [if_neg wl, if_pos wi]
                  constructor
                  · exact fun h => ⟨wk, a1, rfl, h⟩
                  · rintro ⟨_, g', e, h⟩
                    simp only [List.cons.injEq, and_true] at e
                    rw [e]
                    exact h
                · rw [decide_eq_false (show ¬ (ds'.length : Int) + 1 = 2 by omega)]
                  walk_at "z"
                  refine no H1 x1 T1 fun ⟨_, h⟩ => ?_
                  rw [if_neg wl, if_pos wi] at h
                  obtain ⟨g', e, _⟩ := h
                  rw [e] at l2
                  exact l2 rfl
              · rw [decide_eq_false wi]
                refine iteF ?_
                walk_at "z"
                refine r_inS (.inr (hN _)) ?_
                walk_at "z"
                by_cases wn : w ∈ nks
                · rw [decide_eq_true wn]
                  refine iteT ?_
                  walk_at "z"
                  refine ⟨.ref p, _, 2, rfl, hd1, ?_⟩
                  rw [lenT]
                  by_cases l2 : ds'.length = 1
                  · rw [decide_eq_true (show (ds'.length : Int) + 1 = 2 by omega)]
                    match ds', l2, hrest, no, q with
                    | [a1], _, hrest, no, q =>
                    cases hrest with
                    | @cons y1 _ _ _ h1 hr1 =>
                    cases hr1
                    walk_at "z"
                    refine ⟨y1, a1, rfl, h1, ?_⟩
                    refine q _ H1 x1 T1 ?_
                    rw [qX_cons]
                    unfold bodyX
                    rw [if_neg wl, if_neg wi, if_pos wn]
                    constructor
                    · intro h
                      obtain ⟨k, rfl, k0⟩ : ∃ k, a1 = .int k ∧ 0 ≤ k := by
                        cases a1 with
                        | int k => exact ⟨k, rfl, of_decide_eq_true h⟩
                        | _ => exact absurd h Bool.false_ne_true
                      exact ⟨wk, k, rfl, k0⟩
                    · rintro ⟨_, k, e, k0⟩
                      simp only [List.cons.injEq, and_true] at e
                      rw [e]
                      exact decide_eq_true k0
                  · rw [decide_eq_false (show ¬ (ds'.length : Int) + 1 = 2 by omega)]
                    walk_at "z"
                    refine no H1 x1 T1 fun ⟨_, h⟩ => ?_
                    rw [if_neg wl, if_neg wi, if_pos wn] at h
                    obtain ⟨k, e, _⟩ := h
                    rw [e] at l2
                    exact l2 rfl
                · rw [decide_eq_false wn]
                  refine iteF ?_
                  walk_at "z"
                  refine ⟨.ref p, _, 1, rfl, hd1, ?_⟩
                  refine q _ H1 x1 T1 ?_
                  rw [lenT, qX_cons, decide_eq_true_eq]
                  unfold bodyX
                  rw [if_neg wl, if_neg wi, if_neg wn]
                  constructor
                  · exact fun h => ⟨wk, List.length_eq_zero_iff.mp (by omega)⟩
                  · rintro ⟨_, e⟩
                    rw [e]
                    rfl
          · rw [decide_eq_false wk]
            refine iteT ?_
            walk_at "z"
            exact no H1 x1 T1 fun h => wk h.1
end

set_option Elab.async false
set_option linter.all false
set_option maxRecDepth 100000
set_option maxHeartbeats 4000000
open PySem PySem.Spec PyProof.Rows L2 LamX RZ

abbrev s_law_kinds : Stmt := topS 43
theorem sc_law_kinds : FnScope ["found"] [] (defScope s_law_kinds) := ⟨rfl, rfl, rfl, by decide +kernel, rfl, by decide +kernel, by decide +kernel⟩

theorem gph_tup {n : Int} {ds : List PyData} : gphX (.tuple [.int n, .tuple ds]) ↔ 1 ≤ n ∧ n ≤ 60 ∧ ∃ ps : List (Int × Int), ds = ps.map prX ∧ (∀ p ∈ ps, 0 ≤ p.1 ∧ p.1 < p.2 ∧ p.2 < n) ∧ adjP ps := by
  constructor
  · rintro ⟨m, ps, e, h1, h2, bd, ad⟩
    have e := PyData.tuple.inj e
    simp only [List.cons.injEq, PyData.int.injEq, PyData.tuple.injEq, and_true] at e
    rw [e.1]
    exact ⟨h1, h2, ps, e.2, bd, ad⟩
  · rintro ⟨h1, h2, ps, e, bd, ad⟩
    exact ⟨n, ps, by rw [e], h1, h2, bd, ad⟩
theorem not_gph {n : Int} {ds : List PyData} {i : Nat} {x : PyData} (h : ds[i]? = some x) (k : ¬ edgD n x) : ¬ gphX (.tuple [.int n, .tuple ds]) := fun g => by
  obtain ⟨_, _, ps, e, bd, _⟩ := gph_tup.mp g
  have m := List.mem_of_getElem? h
  rw [e] at m
  obtain ⟨p, hp, rfl⟩ := List.mem_map.mp m
  exact k ⟨p.1, p.2, rfl, bd p hp⟩
/-- the first i pairs rise -/
def adK (ps : List (Int × Int)) (i : Nat) : Prop := ∀ j : Nat, j < i → ∀ x y, ps[j]? = some x → ps[j + 1]? = some y → ltP x y
theorem adK_all {ps : List (Int × Int)} : adK ps (ps.length - 1) ↔ adjP ps := by
  constructor
  · intro h j x y hx hy
    refine h j ?_ x y hx hy
    have := (List.getElem?_eq_some_iff.mp hy).1
    omega
  · exact fun h j _ x y hx hy => h j x y hx hy
theorem PrsX.same {H H' : Hp} (s : Same H H') {xs : List V} {ps : List (Int × Int)} (h : PrsX H xs ps) : PrsX H' xs ps := PrsX.ext (ext_same s) h
theorem prX_eq : prX = prD2 := rfl
theorem IsPX.dp {K : PySem.W.Frag} {H : Hp} {x : V} {p : Int × Int} (h : IsPX H x p) : Dp K H x (prD2 p) := by
  obtain ⟨t, rfl, ht⟩ := h
  exact .tup (.inl ht) (.cons (.int _) (.cons (.int _) .nil))
theorem PrsX.dps {K : PySem.W.Frag} {H : Hp} : ∀ {xs : List V} {ps : List (Int × Int)}, PrsX H xs ps → DpAll K H xs (ps.map prD2)
  | _, _, .nil => .nil
  | _, _, .cons a r => .cons a.dp (PrsX.dps r)
theorem PrsX.keep {a : Addr} {H H' : Hp} (k : ∀ p o, (∀ ps, o ≠ .tbl ps) → (p ≠ a ∨ ∀ xs, o ≠ .lst xs) → H p = some o → H' p = some o) : ∀ {xs : List V} {ps : List (Int × Int)}, PrsX H xs ps → PrsX H' xs ps
  | _, _, .nil => .nil
  | _, _, .cons ⟨t, e, h⟩ r => .cons ⟨t, e, h.keep k⟩ (PrsX.keep k r)
theorem zipX {H : Hp} : ∀ {xs : List V} {ps : List (Int × Int)}, PrsX H xs ps → ∀ z ∈ xs.zip (ps.map prD2), ∃ p, z.2 = prD2 p ∧ IsPX H z.1 p
  | _, _, .nil, z, h => by simp at h
  | _, _, .cons a t, z, h => by
    rw [List.map_cons, List.zip_cons_cons] at h
    rcases List.mem_cons.mp h with rfl | h
    · exact ⟨_, rfl, a⟩
    · exact zipX t z h
theorem mkX {H : Hp} : ∀ {ys : List V} {es : List PyData}, ys.length = es.length → (∀ z ∈ ys.zip es, ∃ p, z.2 = prD2 p ∧ IsPX H z.1 p) → ∃ qs : List (Int × Int), es = qs.map prD2 ∧ PrsX H ys qs
  | [], [], _, _ => ⟨[], rfl, .nil⟩
  | [], _ :: _, h, _ => by simp at h
  | _ :: _, [], h, _ => by simp at h
  | y :: ys, e :: es, h, k => by
    obtain ⟨qs, e1, h1⟩ := mkX (ys := ys) (es := es) (by simpa using h) fun z hz => k z (by rw [List.zip_cons_cons]; exact List.mem_cons_of_mem _ hz)
    obtain ⟨p, e2, h2⟩ := k (y, e) (by rw [List.zip_cons_cons]; exact List.mem_cons_self)
    have e2 : e = prD2 p := e2
    exact ⟨p :: qs, by rw [e1, e2]; rfl, .cons h2 h1⟩
theorem perm_prD {qs ps : List (Int × Int)} (h : (qs.map prD2).Perm (ps.map prD2)) : qs.Perm ps := by
  have := h.map (fun d => match d with | PyData.tuple [.int a, .int b] => (a, b) | _ => (0, 0))
  rw [List.map_map, List.map_map] at this
  have e : ((fun d => match d with | PyData.tuple [.int a, .int b] => (a, b) | _ => ((0, 0) : Int × Int)) ∘ prD2) = id := funext fun p => rfl
  rw [e, List.map_id, List.map_id] at this
  exact this
section
variable {P : Program} {w : World} {K : PySem.W.Frag} {mg : Str → Option Value} {base : Heap}
def spDisX (K : PySem.W.Frag) : Sp := fun vs H Q _ => ∃ (l : Addr) (xs : List V) (ps : List (Int × Int)), vs = [.ref l] ∧ SqL K H l xs ∧ PrsX H xs ps ∧ ps.length ≤ 100000 ∧
  ∀ (f : Addr) (ys : List V) (qs : List (Int × Int)) (H' : Hp), Same H H' → H' f = some (.lst ys) → PrsX H' ys qs → qs.Pairwise ltP → (∀ p, p ∈ qs ↔ p ∈ ps) → Q (.ref f) H'
theorem ok_disX (T : Blt mg) (D : DefAt K mg "_law_distinct" s_law_distinct ["rows"]) : FnOk P w K mg base CX0 1 D.f D.fd ["rows"] (spDisX K) := by
  refine D.F.ok sc_law_distinct (fun vs H Q E h => ?_) (fun cdv A outer s H vs Q E hr h => ?_)
  · obtain ⟨l, xs, ps, rfl, _⟩ := h
    rfl
  · obtain ⟨l, xs, ps, rfl, hl, hp, hlen, q⟩ := h
    refine ⟨_, (pss_cons (ps_set (i := 1) sc_law_distinct.nd rfl (Or.inl rfl) (pe_lst pa_nil))
      (pss_cons (ps_for PassesOwn.never (by rfl) (PI.listK (K := K) rfl (pi_list (pe_callB (cr_sortDK (K := K) rfl hr.units) (by rfl) T.sorted (by decide +kernel) (pa_cons (pv 0) pa_nil)))) (pg_name (i := 2) sc_law_distinct.nd rfl (Or.inl rfl))
        (pss_one (ps_if (PW.pt (pw_or (pt_cmpR (op_eqDK (K := K) rfl hr.units) (pv 1) (pe_lst pa_nil) (nomark _)) (pw_or1 (pt_cmpR (op_neDK (K := K) rfl hr.units) (pe_ix (ix_listK (K := K) rfl) (pv 1) (pe_un un_neg pe_int) (fun _ _ => rfl)) (pv 2) (nomark _)))))
          (pss_one (ps_expr (PE.bmK (K := K) rfl (pe_bm PySem.F.plainAttrs_list PySem.F.slot_list_append PySem.F.type_list_append mt_append (pv 1) (pa_cons (pv 2) pa_nil)))))
          pss_nil)))
      (pss_one (ps_ret (pv 1))))), ?_⟩
    refine r_at (σ := [some _, none, none]) rfl ?_
    walk_at "z"
    refine r_lstN (by decide) fun f hf => ?_
    walk_at "z"
    have s1 : Same H (upd H f (.lst [])) := same_new hf
    have hp1 := hp.same s1
    refine ⟨l, xs, ps.map prD2, rfl, s1.seq hl, hp1.dps, al_prD ps, so_prD ps, by have := deep_prD ps; omega, fun ys es p z ln pmv pme _ pw hn => ?_⟩
    obtain ⟨qs, rfl, hy⟩ := mkX ln fun z' hz' => zipX hp1 z' (z.mem_iff.mp hz')
    have pm := perm_prD pme
    have pwq : qs.Pairwise leP := (List.pairwise_map.mp pw).imp fun h => lt_prD.mp h
    have s2 : Same H (upd (upd H f (.lst [])) p (.lst ys)) := s1.trans (same_new hn)
    have pf : f ≠ p := ne_of_none upd_same hn
    refine r_il (.inl (.inl upd_same)) (forR_list (xs := ys) (fun i σ' H' => (∃ x2, σ' = [some (.ref l), some (.ref f), x2]) ∧ Same H H' ∧ H' p = some (.lst ys) ∧ PrsX H' ys qs ∧ ∃ zs fs, H' f = some (.lst zs) ∧ PrsX H' zs fs ∧ Ded (qs.take i) fs ∧ fs.length ≤ i)
      ⟨⟨_, rfl⟩, s2, upd_same, hy.same (same_new hn), [], [], (upd_ne pf).trans upd_same, .nil, .nil, Nat.le_refl 0⟩ ?_ ?_ ?_)
    · rintro i σ' H' _ ⟨_, _, h, _⟩
      exact .inl (.inl h)
    · rintro i x σ' H' hx ⟨⟨x2, rfl⟩, sm, hpl, hys, zs, fs, hz, hfs, D0, lf⟩
      obtain ⟨r, hr', hxr⟩ := pd_get hys hx
      have il := (List.getElem?_eq_some_iff.mp hr').1
      have tk : qs.take (i + 1) = qs.take i ++ [r] := take_next hr'
      have ql := pm.length_eq
      walk_at "z"
      refine r_lstN (by decide) fun e he => ?_
      have ef : f ≠ e := ne_of_none hz he
      have s3 : Same H' (upd H' e (.lst [])) := same_new he
      have hz3 : (upd H' e (.lst [])) f = some (.lst zs) := (upd_ne ef).trans hz
      have he3 : (upd H' e (.lst [])) e = some (.lst []) := upd_same
      have hfs3 := hfs.same s3
      have hys3 := hys.same s3
      have hpl3 := s3 _ _ hpl
      have sm3 := sm.trans s3
      have hxr3 : IsPX (upd H' e (.lst [])) x r := by
        obtain ⟨t, e, h⟩ := hxr
        exact ⟨t, e, h.same s3⟩
      generalize upd H' e (.lst []) = H3 at s3 hz3 he3 hfs3 hys3 hpl3 sm3 hxr3 ⊢
      refine ⟨.list (fs.map prD2), .list [], .lst (.inl (.inl hz3)) hfs3.dps, .lst (.inl (.inl he3)) .nil, prD2s_shL fs, prD2s_shL [], ?_⟩
      have e0 : PyData.eqv (.list (fs.map prD2)) (.list []) = decide (fs = []) := by
        cases fs with
        | nil => rfl
        | cons _ _ => rfl
      rw [e0]
      walk_at "z"
      have lens : zs.length < sizeLine := small_lt (by rw [hfs.length]; omega)
      have pl : ((qs.take i) ++ [r]).Pairwise leP := by
        rw [← tk]
        exact pwq.take
      have push : fs.getLast? ≠ some r → (∃ x2_1, [some (V.ref l), some (V.ref f), some x] = [some (V.ref l), some (V.ref f), x2_1]) ∧ Same H (upd H3 f (.lst (zs ++ [x]))) ∧ (upd H3 f (.lst (zs ++ [x]))) p = some (.lst ys) ∧ PrsX (upd H3 f (.lst (zs ++ [x]))) ys qs ∧ ∃ zs' fs', (upd H3 f (.lst (zs ++ [x]))) f = some (.lst zs') ∧ PrsX (upd H3 f (.lst (zs ++ [x]))) zs' fs' ∧ Ded (qs.take (i + 1)) fs' ∧ fs'.length ≤ i + 1 := fun hne => by
        have kk : ∀ b o, (∀ ps, o ≠ .tbl ps) → (b ≠ f ∨ ∀ xs, o ≠ .lst xs) → H3 b = some o → (upd H3 f (.lst (zs ++ [x]))) b = some o := fun b o _ h eo => by
          have bf : b ≠ f := by
            rcases h with h | h
            · exact h
            · intro z
              rw [z, hz3] at eo
              exact h zs (Option.some.inj eo).symm
          rw [upd_ne bf]
          exact eo
        refine ⟨⟨_, rfl⟩, same_mut sm3 hf, (upd_ne (Ne.symm pf)).trans hpl3, hys3.keep kk, zs ++ [x], fs ++ [r], upd_same, pd_append (hfs3.keep kk) (.cons ?_ .nil), ?_, by rw [List.length_append]; simp only [List.length_cons, List.length_nil]; omega⟩
        · obtain ⟨t, e, h⟩ := hxr3
          exact ⟨t, e, h.keep kk⟩
        · rw [tk]
          exact D0.more pl hne
      refine r_ite (fun h0 => ?_) (fun h0 => ?_)
      · walk_at "z"
        refine r_appT hz3 lens (push ?_)
        rw [h0]
        exact fun z => nomatch z
      · walk_at "z"
        obtain ⟨r', hr2⟩ : ∃ r', fs.getLast? = some r' := by
          cases q9 : fs.getLast? with
          | some r' => exact ⟨r', rfl⟩
          | none => exact absurd (List.getLast?_eq_none_iff.mp q9) h0
        obtain ⟨x', hx', fx'⟩ := pd_last hfs3 hr2
        refine r_ixL (.inl (.inl hz3)) (at_last hx') ?_
        walk_at "z"
        refine ⟨prD2 r', prD2 r, fx'.dp, hxr3.dp, prD2_shaped r', prD2_shaped r, ?_⟩
        rw [prD2_eqv]
        walk_at "z"
        refine r_iteN (fun h1 => ?_) (fun h1 => ?_)
        · walk_at "z"
          refine r_appT hz3 lens (push ?_)
          rw [hr2]
          exact fun z => h1 (Option.some.inj z)
        · walk_at "z"
          refine ⟨⟨_, rfl⟩, sm3, hpl3, hys3, zs, fs, hz3, hfs3, ?_, by omega⟩
          rw [tk]
          exact D0.same (by rw [hr2, h1])
    · rintro σ' H' ⟨⟨x2, rfl⟩, sm, hpl, hys, zs, fs, hz, hfs, D0, _⟩
      walk_at "z"
      rw [hys.length, List.take_length] at D0
      exact q f zs fs H' sm hz hfs D0.asc fun z => (D0.mem z).trans pm.mem_iff
def spKinds : Sp := fun vs H Q _ => vs = [] ∧ ∀ (l : Addr) (H' : Hp), H l = none → Same H H' → H' l = some (.lst (kds.map V.str)) → Q (.ref l) H'
theorem ok_kinds (T : Blt mg) (D : DefAt K mg "_law_kinds" s_law_kinds []) : FnOk P w K mg base CX0 1 D.f D.fd [] spKinds := by
  refine D.F.ok sc_law_kinds (fun vs H Q E h => ?_) (fun cdv A outer s H vs Q E hr h => ?_)
  · obtain ⟨rfl, _⟩ := h
    rfl
  · obtain ⟨rfl, q⟩ := h
    refine ⟨_, (pss_cons (ps_set (i := 0) sc_law_kinds.nd rfl (Or.inl rfl) (pe_lst (pa_cons pe_str (pa_cons pe_str (pa_cons pe_str (pa_cons pe_str (pa_cons pe_str (pa_cons pe_str (pa_cons pe_str (pa_cons pe_str (pa_cons pe_str pa_nil)))))))))))
      (pss_cons (ps_set (i := 0) sc_law_kinds.nd rfl (Or.inl rfl) (pe_op op_cat (pv 0) (pe_lst (pa_cons pe_str (pa_cons pe_str (pa_cons pe_str (pa_cons pe_str (pa_cons pe_str (pa_cons pe_str (pa_cons pe_str (pa_cons pe_str (pa_cons pe_str pa_nil))))))))))))
      (pss_one (ps_ret (pe_op op_cat (pv 0) (pe_lst (pa_cons pe_str (pa_cons pe_str (pa_cons pe_str (pa_cons pe_str pa_nil)))))))))), ?_⟩
    refine r_at (σ := [none]) rfl ?_
    walk_at "z"
    refine r_lstN (small_len (by simp only [List.length_cons, List.length_nil]; omega)) fun l1 h1 => ?_
    have s1 := same_new (o := .lst [.str "connected", .str "bipartite", .str "forest", .str "block", .str "chordal", .str "interval", .str "cograph", .str "comparability", .str "permutation"]) h1
    have f1 : (upd H l1 (.lst [.str "connected", .str "bipartite", .str "forest", .str "block", .str "chordal", .str "interval", .str "cograph", .str "comparability", .str "permutation"])) l1 = some (.lst ((kds.take 9).map V.str)) := upd_same
    generalize upd H l1 (.lst [.str "connected", .str "bipartite", .str "forest", .str "block", .str "chordal", .str "interval", .str "cograph", .str "comparability", .str "permutation"]) = H1 at s1 f1 ⊢
    walk_at "z"
    refine r_lstN (small_len (by simp only [List.length_cons, List.length_nil]; omega)) fun l2 h2 => ?_
    have s2 := same_new (o := .lst [.str "prime", .str "planar", .str "outerplanar", .str "degenerate", .str "indegree", .str "forests", .str "trees", .str "width", .str "colours"]) h2
    have f2 : (upd H1 l2 (.lst [.str "prime", .str "planar", .str "outerplanar", .str "degenerate", .str "indegree", .str "forests", .str "trees", .str "width", .str "colours"])) l2 = some (.lst (((kds.drop 9).take 9).map V.str)) := upd_same
    generalize upd H1 l2 (.lst [.str "prime", .str "planar", .str "outerplanar", .str "degenerate", .str "indegree", .str "forests", .str "trees", .str "width", .str "colours"]) = H2 at s2 f2 ⊢
    walk_at "z"
    refine r_catL (s2 _ _ f1) f2 (by rw [List.length_map, List.length_map, List.length_take, List.length_take]; omega) fun l3 h3 => ?_
    have s3 := same_new (o := .lst ((kds.take 9).map V.str ++ ((kds.drop 9).take 9).map V.str)) h3
    have f3 : (upd H2 l3 (.lst ((kds.take 9).map V.str ++ ((kds.drop 9).take 9).map V.str))) l3 = some (.lst ((kds.take 18).map V.str)) := upd_same
    generalize upd H2 l3 (.lst ((kds.take 9).map V.str ++ ((kds.drop 9).take 9).map V.str)) = H3 at s3 f3 ⊢
    walk_at "z"
    refine r_lstN (small_len (by simp only [List.length_cons, List.length_nil]; omega)) fun l4 h4 => ?_
    have s4 := same_new (o := .lst [.str "independent", .str "matching", .str "linked", .str "isomorphic"]) h4
    have f4 : (upd H3 l4 (.lst [.str "independent", .str "matching", .str "linked", .str "isomorphic"])) l4 = some (.lst ((kds.drop 18).map V.str)) := upd_same
    generalize upd H3 l4 (.lst [.str "independent", .str "matching", .str "linked", .str "isomorphic"]) = H4 at s4 f4 ⊢
    walk_at "z"
    refine r_catL (s4 _ _ f3) f4 (by rw [List.length_map, List.length_map, List.length_take, List.length_drop]; have : kds.length = 22 := rfl; omega) fun l5 h5 => ?_
    have s04 := (s1.trans s2).trans (s3.trans s4)
    refine q l5 _ (s04.free h5) (s04.trans (same_new h5)) ?_
    rw [upd_same, ← List.map_append, List.take_append_drop]
end

set_option Elab.async false
set_option linter.all false
set_option maxRecDepth 100000
set_option maxHeartbeats 4000000
open PySem PySem.Spec PyProof.Rows L2 LamX RZ

abbrev s_law_is_graph : Stmt := topS 45
theorem sc_law_is_graph : FnScope ["value", "pair"] ["value"] (defScope s_law_is_graph) := ⟨rfl, rfl, rfl, by decide +kernel, rfl, by decide +kernel, by decide +kernel⟩

theorem eqv_prs : ∀ ps qs : List (Int × Int), PyData.eqv (.list (ps.map prD2)) (.list (qs.map prD2)) = decide (ps = qs)
  | [], [] => by rfl
  | [], _ :: _ => by rfl
  | _ :: _, [] => by rfl
  | p :: ps, q :: qs => by
    have ih := eqv_prs ps qs
    simp only [PyData.eqv] at ih
    simp only [List.map_cons, PyData.eqv, PyData.eqvAll, prD2_eqv, ih]
    apply Bool.eq_iff_iff.mpr
    simp
theorem adj_pw : ∀ {ps : List (Int × Int)}, adjP ps → ps.Pairwise ltP
  | [], _ => .nil
  | [p], _ => List.pairwise_singleton _ _
  | p :: q :: ps, h => by
    have h1 : adjP (q :: ps) := fun j x y hx hy => h (j + 1) x y hx hy
    have pw := adj_pw h1
    refine List.pairwise_cons.mpr ⟨fun z hz => ?_, pw⟩
    have pq : ltP p q := h 0 p q rfl rfl
    rcases List.mem_cons.mp hz with rfl | hz
    · exact pq
    · have qz := (List.pairwise_cons.mp pw).1 z hz
      unfold ltP at pq qz ⊢
      omega
section
variable {P : Program} {w : World} {K : PySem.W.Frag} {mg : Str → Option Value} {base : Heap}
def spLgX (K : PySem.W.Frag) (b : Addr) : Sp := fun vs H Q _ => ∃ (v : V) (d : PyData), vs = [v] ∧ DX b H v d ∧ (∃ D, limX D 100000 d) ∧ ∀ (r : Bool) H', Same H H' → (r = true ↔ gphX d) → Q (.bl r) H'
theorem ok_lgphX {b : Addr} (T : Blt mg) (D : DefAt K mg "_law_is_graph" s_law_is_graph ["value"]) (D_law_is_int : DefAt K mg "_law_is_int" s_law_is_int ["x"]) (G_law_is_int : FnOk P w K mg base CX0 1 D_law_is_int.f D_law_is_int.fd ["x"] (spIntX b))
    (D_law_distinct : DefAt K mg "_law_distinct" s_law_distinct ["rows"]) (G_law_distinct : FnOk P w K mg base CX0 1 D_law_distinct.f D_law_distinct.fd ["rows"] (spDisX K)) :
    FnOk P w K mg base CX0 2 D.f D.fd ["value"] (spLgX K b) := by
  refine D.F.ok sc_law_is_graph (fun vs H Q E h => ?_) (fun cdv A outer s H vs Q E hr h => ?_)
  · obtain ⟨v, d, rfl, _⟩ := h
    rfl
  · obtain ⟨v, d, rfl, hd, ⟨DD, hl⟩, q⟩ := h
    have S0 : Same H H := fun _ _ h => h
    refine ⟨_, (pss_cons (ps_if (PW.pt (pw_or (pt_not (pt_val (pe_callB (call_isiK (K := K) rfl) (by rfl) T.isinstance (by decide +kernel) (pa_cons (pv 0) (pa_cons (pe_bltn (v := .ty "tuple") (u := .type "tuple") (by rfl) T.tuple (by decide +kernel) rfl) pa_nil))))) (pw_or (pt_cmpR op_ne (pe_callB (call_lenK (K := K) rfl) (by rfl) T.len (by decide +kernel) (pa_cons (pv 0) pa_nil)) pe_int (nomark _)) (pw_or (pt_not (pt_val (pe_call G_law_is_int (hr.mono (by first | decide | omega)) (by rfl) D_law_is_int.g D_law_is_int.F.kp D_law_is_int.b .nil pass0 (pa_cons (pe_ix (ix_tupK (K := K) rfl) (pv 0) pe_int (fun _ _ => rfl)) pa_nil)))) (pw_or1 (pt_not (pt_val (pe_callB (call_isiK (K := K) rfl) (by rfl) T.isinstance (by decide +kernel) (pa_cons (pe_ix (ix_tupK (K := K) rfl) (pv 0) pe_int (fun _ _ => rfl)) (pa_cons (pe_bltn (v := .ty "tuple") (u := .type "tuple") (by rfl) T.tuple (by decide +kernel) rfl) pa_nil))))))))))
        (pss_one (ps_ret pe_bl))
        pss_nil)
      (pss_cons (ps_for PassesOwn.never (by rfl) (PI.tupK (K := K) rfl (pi_tup (pe_ix (ix_tupK (K := K) rfl) (pv 0) pe_int (fun _ _ => rfl)))) (pg_name (i := 1) sc_law_is_graph.nd rfl (Or.inl rfl))
        (pss_cons (ps_if (PW.pt (pw_or (pt_not (pt_val (pe_callB (call_isiK (K := K) rfl) (by rfl) T.isinstance (by decide +kernel) (pa_cons (pv 1) (pa_cons (pe_bltn (v := .ty "tuple") (u := .type "tuple") (by rfl) T.tuple (by decide +kernel) rfl) pa_nil))))) (pw_or (pt_cmpR op_ne (pe_callB (call_lenK (K := K) rfl) (by rfl) T.len (by decide +kernel) (pa_cons (pv 1) pa_nil)) pe_int (nomark _)) (pw_or (pt_not (pt_val (pe_call G_law_is_int (hr.mono (by first | decide | omega)) (by rfl) D_law_is_int.g D_law_is_int.F.kp D_law_is_int.b .nil pass0 (pa_cons (pe_ix (ix_tupK (K := K) rfl) (pv 1) pe_int (fun _ _ => rfl)) pa_nil)))) (pw_or1 (pt_not (pt_val (pe_call G_law_is_int (hr.mono (by first | decide | omega)) (by rfl) D_law_is_int.g D_law_is_int.F.kp D_law_is_int.b .nil pass0 (pa_cons (pe_ix (ix_tupK (K := K) rfl) (pv 1) pe_int (fun _ _ => rfl)) pa_nil)))))))))
          (pss_one (ps_ret pe_bl))
          pss_nil)
        (pss_one (ps_if (pt_not (pt_chain3 op_le op_lt op_lt pe_int (pe_ix (ix_tupK (K := K) rfl) (pv 1) pe_int (fun _ _ => rfl)) (pe_ix (ix_tupK (K := K) rfl) (pv 1) pe_int (fun _ _ => rfl)) (pe_ix (ix_tupK (K := K) rfl) (pv 0) pe_int (fun _ _ => rfl))))
          (pss_one (ps_ret pe_bl))
          pss_nil))))
      (pss_one (ps_ret (pe_and (pe_chain op_le op_le pe_int (pe_ix (ix_tupK (K := K) rfl) (pv 0) pe_int (fun _ _ => rfl)) pe_int) (pe_one (pe_cmpR (op_eqDK (K := K) rfl hr.units) (pe_callTy (call_listK (K := K) rfl) (by rfl) T.list (by decide +kernel) (pa_cons (pe_ix (ix_tupK (K := K) rfl) (pv 0) pe_int (fun _ _ => rfl)) pa_nil)) (pe_call G_law_distinct (hr.mono (by first | decide | omega)) (by rfl) D_law_distinct.g D_law_distinct.F.kp D_law_distinct.b .nil pass0 (pa_cons (pe_callTy (call_listK (K := K) rfl) (by rfl) T.list (by decide +kernel) (pa_cons (pe_ix (ix_tupK (K := K) rfl) (pv 0) pe_int (fun _ _ => rfl)) pa_nil)) pa_nil)) (nomark _)))))))), ?_⟩
    refine r_at (σ := [some _, none]) rfl ?_
    walk_at "z"
    refine r_isiX hd rfl (kit_tup d) ?_
    cases et : tupD d with
    | false =>
      walk_at "z"
      refine iteT (iteT ?_)
      walk_at "z"
      refine q false H S0 ⟨fun h => (nomatch h), fun ⟨n, ps, ed, _⟩ => ?_⟩
      rw [ed] at et
      cases et
    | true =>
      obtain ⟨ds, rfl⟩ := tupD_of et
      obtain ⟨D1, _, lds, lim1⟩ := limX_tup hl
      cases id hd with
      | @tup p xs _ hp hxd =>
      have lx := hxd.len
      have hq : SqT K H p xs := .inl hp
      walk_at "z"
      refine iteF ?_
      walk_at "z"
      by_cases l2 : ds.length = 2
      · rw [decide_eq_true (show (xs.length : Int) = 2 by omega)]
        match ds, l2, hxd, lim1, lx, hd, q with
        | [d1, d2], _, hxd, lim1, lx, hd, q =>
        have lim2 := lim1 d2 (by simp)
        cases hxd with
        | @cons x1 _ _ _ hd1 hr1 =>
        cases hr1 with
        | @cons x2 _ _ _ hd2 hr2 =>
        cases hr2
        have bad : (intD d1 = false ∨ tupD d2 = false) → ¬ gphX (.tuple [d1, d2]) := fun h ⟨n, ps, e, _⟩ => by
          have e := PyData.tuple.inj e
          simp only [List.cons.injEq, and_true] at e
          rcases h with h | h
          · rw [e.1] at h
            cases h
          · rw [e.2] at h
            cases h
        walk_at "z"
        refine iteF ?_
        walk_at "z"
        refine ⟨x1, d1, rfl, hd1, ?_⟩
        cases e1 : intD d1 with
        | false =>
          walk_at "z"
          refine iteT (iteT ?_)
          walk_at "z"
          exact q false H S0 ⟨fun h => (nomatch h), fun h => (bad (.inl e1) h).elim⟩
        | true =>
          obtain ⟨n, rfl⟩ : ∃ n, d1 = .int n := by
            cases d1 with
            | int n => exact ⟨n, rfl⟩
            | _ => exact absurd e1 Bool.false_ne_true
          cases hd1
          walk_at "z"
          refine iteF ?_
          walk_at "z"
          refine r_isiX hd2 rfl (kit_tup d2) ?_
          cases e2 : tupD d2 with
          | false =>
            walk_at "z"
            refine iteT ?_
            walk_at "z"
            exact q false H S0 ⟨fun h => (nomatch h), fun h => (bad (.inr e2) h).elim⟩
          | true =>
            obtain ⟨es, rfl⟩ := tupD_of e2
            obtain ⟨D2, _, les, _⟩ := limX_tup lim2
            cases hd2 with
            | @tup p2 ys _ hp2 hyd =>
            have ly := hyd.len
            walk_at "z"
            refine iteF ?_
            walk_at "z"
            have noN : (n < 1 ∨ 60 < n) → ¬ gphX (.tuple [.int n, .tuple es]) := fun h g => by
              obtain ⟨h1, h2, _⟩ := gph_tup.mp g
              omega
            refine r_it (.inl hp2) (forR_tup (xs := ys) (fun i σ' H' => (∃ x1, σ' = [some (.ref p), x1]) ∧ Same H H' ∧ ∀ z ∈ es.take i, edgD n z) ⟨⟨_, rfl⟩, S0, fun z hz => by simp at hz⟩ (fun i σ' H' _ ⟨_, s2, _⟩ => .inl (hp2.same s2)) ?_ ?_)
            · rintro i x σ' H2 hx ⟨⟨x1, rfl⟩, s2, al⟩
              obtain ⟨dd, hdd, hxd⟩ := pd_get (DXs.pd _ (hyd.same s2)) hx
              have no : ¬ edgD n dd → ∀ (H' : Hp), Same H H' → Q (.bl false) H' := fun h H' s' => q false H' s' ⟨fun h => (nomatch h), fun g => (not_gph hdd h g).elim⟩
              have hq2 : SqT K H2 p [.int n, .ref p2] := .inl (hp.same s2)
              walk_at "z"
              refine r_isiX hxd rfl (kit_tup dd) ?_
              cases e3 : tupD dd with
              | false =>
                walk_at "z"
                refine iteT (iteT ?_)
                walk_at "z"
                refine no (fun ⟨u, v, e, _⟩ => ?_) H2 s2
                rw [e] at e3
                cases e3
              | true =>
                obtain ⟨fs, rfl⟩ := tupD_of e3
                cases hxd with
                | @tup p3 zs _ hp3 hzd =>
                have lz := hzd.len
                have hq3 : SqT K H2 p3 zs := .inl hp3
                walk_at "z"
                refine iteF ?_
                walk_at "z"
                by_cases f2 : fs.length = 2
                · rw [decide_eq_true (show (zs.length : Int) = 2 by omega)]
                  match fs, f2, hzd, lz, no, hdd with
                  | [a1, a2], _, hzd, lz, no, hdd =>
                  cases hzd with
                  | @cons y1 _ _ _ ha1 hb1 =>
                  cases hb1 with
                  | @cons y2 _ _ _ ha2 hb2 =>
                  cases hb2
                  walk_at "z"
                  refine iteF ?_
                  walk_at "z"
                  refine ⟨y1, a1, rfl, ha1, ?_⟩
                  have badI : (intD a1 = false ∨ intD a2 = false) → ¬ edgD n (.tuple [a1, a2]) := fun h ⟨u, v, e, _⟩ => by
                    have e := PyData.tuple.inj e
                    simp only [List.cons.injEq, and_true] at e
                    rcases h with h | h
                    · rw [e.1] at h
                      cases h
                    · rw [e.2] at h
                      cases h
                  cases e4 : intD a1 with
                  | false =>
                    walk_at "z"
                    refine iteT (iteT ?_)
                    walk_at "z"
                    exact no (badI (.inl e4)) H2 s2
                  | true =>
                    walk_at "z"
                    refine iteF ?_
                    walk_at "z"
                    refine ⟨y2, a2, rfl, ha2, ?_⟩
                    cases e5 : intD a2 with
                    | false =>
                      walk_at "z"
                      refine iteT ?_
                      walk_at "z"
                      exact no (badI (.inr e5)) H2 s2
                    | true =>
                      obtain ⟨u, rfl⟩ : ∃ u, a1 = .int u := by
                        cases a1 with
                        | int u => exact ⟨u, rfl⟩
                        | _ => exact absurd e4 Bool.false_ne_true
                      obtain ⟨v, rfl⟩ : ∃ v, a2 = .int v := by
                        cases a2 with
                        | int v => exact ⟨v, rfl⟩
                        | _ => exact absurd e5 Bool.false_ne_true
                      cases ha1
                      cases ha2
                      have badU : ¬ (0 ≤ u ∧ u < v ∧ v < n) → ¬ edgD n (.tuple [.int u, .int v]) := fun h ⟨u', v', e, h1⟩ => by
                        have e := PyData.tuple.inj e
                        simp only [List.cons.injEq, PyData.int.injEq, and_true] at e
                        rw [← e.1, ← e.2] at h1
                        exact h h1
                      walk_at "z"
                      refine iteF ?_
                      walk_at "z"
                      refine r_chain3 ?_
                      walk_at "z"
                      refine r_ch3n ?_
                      refine r_ite (fun u0 => ?_) (fun u0 => ?_)
                      · walk_at "z"
                        refine r_ch3m ?_
                        refine r_ite (fun uv => ?_) (fun uv => ?_)
                        · walk_at "z"
                          by_cases vn : v < n
                          · rw [decide_eq_true vn]
                            refine iteF ?_
                            refine ⟨⟨_, rfl⟩, s2, fun z hz => ?_⟩
                            rw [take_next hdd] at hz
                            rcases List.mem_append.mp hz with c | c
                            · exact al z c
                            · rw [List.mem_singleton.mp c]
                              exact ⟨u, v, rfl, u0, uv, vn⟩
                          · rw [decide_eq_false vn]
                            refine iteT ?_
                            walk_at "z"
                            exact no (badU fun h => vn h.2.2) H2 s2
                        · walk_at "z"
                          refine iteT ?_
                          walk_at "z"
                          exact no (badU fun h => uv h.2.1) H2 s2
                      · walk_at "z"
                        refine iteT ?_
                        walk_at "z"
                        exact no (badU fun h => u0 h.1) H2 s2
                · rw [decide_eq_false (show ¬ (zs.length : Int) = 2 by omega)]
                  walk_at "z"
                  refine iteT (iteT ?_)
                  walk_at "z"
                  refine no (fun ⟨u, v, e, _⟩ => ?_) H2 s2
                  have e := PyData.tuple.inj e
                  rw [e] at f2
                  exact (f2 rfl).elim
            · rintro σ' H2 ⟨⟨x1, rfl⟩, s2, al⟩
              rw [hyd.len, List.take_length] at al
              obtain ⟨ps, rfl, bd⟩ := eds_of al
              rw [List.length_map] at les
              have hps := dx_prs (hyd.same s2)
              have lps := hps.length
              have hp22 := hp2.same s2
              have hq2 : SqT K H2 p [.int n, .ref p2] := .inl (hp.same s2)
              walk_at "z"
              refine r_ite (fun n1 => ?_) (fun n1 => ?_)
              · walk_at "z"
                by_cases n60 : n ≤ 60
                · rw [decide_eq_true n60]
                  walk_at "z"
                  refine r_listT (.inl hp22) fun l1 hl1 => ?_
                  have s3 := same_new (o := .lst ys) hl1
                  have f3 : (upd H2 l1 (.lst ys)) l1 = some (.lst ys) := upd_same
                  generalize upd H2 l1 (.lst ys) = H3 at s3 f3 ⊢
                  have hq3 : SqT K H3 p [.int n, .ref p2] := .inl ((hp.same s2).same s3)
                  have hp23 := hp22.same s3
                  walk_at "z"
                  refine r_listT (.inl hp23) fun l2 hl2 => ?_
                  have s4 := same_new (o := .lst ys) hl2
                  have f4 : (upd H3 l2 (.lst ys)) l2 = some (.lst ys) := upd_same
                  generalize upd H3 l2 (.lst ys) = H4 at s4 f4 ⊢
                  have s34 := s3.trans s4
                  walk_at "z"
                  refine ⟨l2, ys, ps, rfl, .inl (.inl f4), hps.same s34, les, fun f zs qs H5 s5 hz hzs asc mem => ?_⟩
                  have s35 := s34.trans s5
                  walk_at "z"
                  refine ⟨.list (ps.map prD2), .list (qs.map prD2), .lst (.inl (.inl ((s4.trans s5) _ _ f3))) (hps.same s35).dps, .lst (.inl (.inl hz)) hzs.dps, prD2s_shL ps, prD2s_shL qs, ?_⟩
                  rw [eqv_prs]
                  refine q _ H5 (s2.trans s35) ?_
                  rw [decide_eq_true_eq, gph_tup]
                  constructor
                  · intro h
                    refine ⟨n1, n60, ps, rfl, bd, fun j x y hx hy => ?_⟩
                    rw [h] at hx hy
                    obtain ⟨h1, e1⟩ := List.getElem?_eq_some_iff.mp hx
                    obtain ⟨h2, e2⟩ := List.getElem?_eq_some_iff.mp hy
                    rw [← e1, ← e2]
                    exact List.pairwise_iff_getElem.mp asc j (j + 1) h1 h2 (by omega)
                  · rintro ⟨_, _, qs', e, _, ad⟩
                    rw [← prXs_inj e] at ad
                    exact asc_ext (adj_pw ad) asc fun z => (mem z).symm
                · rw [decide_eq_false n60]
                  walk_at "z"
                  exact q false H2 s2 ⟨fun h => (nomatch h), fun h => (noN (.inr (by omega)) h).elim⟩
              · walk_at "z"
                exact q false H2 s2 ⟨fun h => (nomatch h), fun h => (noN (.inl (by omega)) h).elim⟩
      · rw [decide_eq_false (show ¬ (xs.length : Int) = 2 by omega)]
        walk_at "z"
        refine iteT (iteT ?_)
        walk_at "z"
        refine q false H S0 ⟨fun h => (nomatch h), fun ⟨n, ps, ed, _⟩ => ?_⟩
        have ed := PyData.tuple.inj ed
        rw [ed] at l2
        exact (l2 rfl).elim
end

set_option Elab.async false
set_option linter.all false
set_option maxRecDepth 100000
set_option maxHeartbeats 4000000
open PySem PySem.Spec PyProof.Rows L2 LamX RZ

theorem all_snoc {α : Type} {p : α → Bool} {l : List α} {i : Nat} {x : α} (h : l[i]? = some x) : (l.take (i + 1)).all p = ((l.take i).all p && p x) := by
  rw [take_next h, List.all_append, List.all_cons, List.all_nil, Bool.and_true]
theorem k12 : ∀ w ∈ kds.take 12, w ∈ kds ∧ w ≠ "linked" ∧ w ≠ "isomorphic" ∧ w ∉ nks := by decide +kernel
theorem k20 : ∀ w ∈ nks, w ∈ kds ∧ w ≠ "linked" ∧ w ≠ "isomorphic" := by decide +kernel
theorem kall : ∀ w ∈ kds, w ∉ kds.take 12 → w ∉ nks → w ≠ "isomorphic" → w = "linked" := by decide +kernel
theorem klin : ("linked" : Str) ∈ kds ∧ ("isomorphic" : Str) ∈ kds ∧ ("isomorphic" : Str) ≠ "linked" := by decide +kernel
theorem cut12 : cutV (kds.map V.str) none (some 12) = (kds.take 12).map V.str := by rfl
theorem cut20 : cutV (kds.map V.str) (some 12) (some 20) = nks.map V.str := by rfl
section
variable {P : Program} {w : World} {K : PySem.W.Frag} {mg : Str → Option Value} {base : Heap}
def spDQ (K : PySem.W.Frag) (b : Addr) : Sp := fun vs H Q _ => ∃ (g v : V) (n : Int) (ps : List (Int × Int)) (d : PyData), vs = [g, v] ∧ GrAt H g n ps ∧ DX b H v d ∧ (∃ D, limX D 100000 d) ∧ ∀ (r : Bool) H', Same H H' → (r = true ↔ qX n d) → Q (.bl r) H'
theorem ok_dueQ {b : Addr} (T : Blt mg) (D : DefAt K mg "_law_due" s_law_due ["graph", "value"]) (D_law_is_int : DefAt K mg "_law_is_int" s_law_is_int ["x"]) (G_law_is_int : FnOk P w K mg base CX0 1 D_law_is_int.f D_law_is_int.fd ["x"] (spIntX b))
    (D_law_kinds : DefAt K mg "_law_kinds" s_law_kinds []) (G_law_kinds : FnOk P w K mg base CX0 1 D_law_kinds.f D_law_kinds.fd [] spKinds) (D_law_is_graph : DefAt K mg "_law_is_graph" s_law_is_graph ["value"]) (G_law_is_graph : FnOk P w K mg base CX0 2 D_law_is_graph.f D_law_is_graph.fd ["value"] (spLgX K b)) :
    FnOk P w K mg base CX0 3 D.f D.fd ["graph", "value"] (spDQ K b) := by
  refine D.F.ok sc_law_due (fun vs H Q E h => ?_) (fun cdv A outer s H vs Q E hr h => ?_)
  · obtain ⟨g, v, n, ps, d, rfl, _⟩ := h
    rfl
  · obtain ⟨g, v, n, ps, d, rfl, hgr, hd, ⟨DD, hl⟩, q⟩ := h
    obtain ⟨ga, ge, rfl, hg, _⟩ := id hgr
    have S0 : Same H H := fun _ _ h => h
    refine ⟨_, (pss_cons (ps_if (PW.pt (pw_or (pt_not (pt_val (pe_callB (call_isiK (K := K) rfl) (by rfl) T.isinstance (by decide +kernel) (pa_cons (pv 1) (pa_cons (pe_bltn (v := .ty "tuple") (u := .type "tuple") (by rfl) T.tuple (by decide +kernel) rfl) pa_nil))))) (pw_or (pt_cmpR (op_eqX (K := K) rfl hr.units) (pv 1) (pe_tup pa_nil) (nomark _)) (pw_or1 (pt_not (pt_val (pe_callB (call_isiK (K := K) rfl) (by rfl) T.isinstance (by decide +kernel) (pa_cons (pe_ix (ix_tupK (K := K) rfl) (pv 1) pe_int (fun _ _ => rfl)) (pa_cons (pe_bltn (v := .ty "str") (u := .type "str") (by rfl) T.str (by decide +kernel) rfl) pa_nil)))))))))
        (pss_one (ps_ret pe_bl))
        pss_nil)
      (pss_cons (ps_if (pt_cmpR (op_inSeqK (K := K) rfl) (pe_ix (ix_tupK (K := K) rfl) (pv 1) pe_int (fun _ _ => rfl)) (pe_slice (sl_listK (K := K) rfl) (pe_call0 G_law_kinds (hr.mono (by first | decide | omega)) (by rfl) D_law_kinds.g D_law_kinds.F.kp D_law_kinds.b .nil pass0) po_none (po_some pe_int)) (by rfl))
        (pss_one (ps_ret (pe_cmpR op_eq (pe_callB (call_lenK (K := K) rfl) (by rfl) T.len (by decide +kernel) (pa_cons (pv 1) pa_nil)) pe_int (nomark _))))
        pss_nil)
      (pss_cons (ps_if (pt_cmpR (op_inSeqK (K := K) rfl) (pe_ix (ix_tupK (K := K) rfl) (pv 1) pe_int (fun _ _ => rfl)) (pe_slice (sl_listK (K := K) rfl) (pe_call0 G_law_kinds (hr.mono (by first | decide | omega)) (by rfl) D_law_kinds.g D_law_kinds.F.kp D_law_kinds.b .nil pass0) (po_some pe_int) (po_some pe_int)) (by rfl))
        (pss_one (ps_ret (pe_and (pe_cmpR op_eq (pe_callB (call_lenK (K := K) rfl) (by rfl) T.len (by decide +kernel) (pa_cons (pv 1) pa_nil)) pe_int (nomark _)) (pe_and (pe_call G_law_is_int (hr.mono (by first | decide | omega)) (by rfl) D_law_is_int.g D_law_is_int.F.kp D_law_is_int.b .nil pass0 (pa_cons (pe_ix (ix_tupK (K := K) rfl) (pv 1) pe_int (fun _ _ => rfl)) pa_nil)) (pe_one (pe_cmpR op_ge (pe_ix (ix_tupK (K := K) rfl) (pv 1) pe_int (fun _ _ => rfl)) pe_int (nomark _)))))))
        pss_nil)
      (pss_cons (ps_if (pt_cmpR op_eq (pe_ix (ix_tupK (K := K) rfl) (pv 1) pe_int (fun _ _ => rfl)) pe_str (nomark _))
        (pss_one (ps_ret (pe_and (pe_cmpR op_eq (pe_callB (call_lenK (K := K) rfl) (by rfl) T.len (by decide +kernel) (pa_cons (pv 1) pa_nil)) pe_int (nomark _)) (pe_one (pe_call G_law_is_graph (hr.mono (by first | decide | omega)) (by rfl) D_law_is_graph.g D_law_is_graph.F.kp D_law_is_graph.b .nil pass0 (pa_cons (pe_ix (ix_tupK (K := K) rfl) (pv 1) pe_int (fun _ _ => rfl)) pa_nil))))))
        pss_nil)
      (pss_cons (ps_if (PW.pt (pw_or (pt_cmpR op_ne (pe_ix (ix_tupK (K := K) rfl) (pv 1) pe_int (fun _ _ => rfl)) pe_str (nomark _)) (pw_or (pt_cmpR op_ne (pe_callB (call_lenK (K := K) rfl) (by rfl) T.len (by decide +kernel) (pa_cons (pv 1) pa_nil)) pe_int (nomark _)) (pw_or1 (pt_cmpR op_gt (pe_callB (call_lenK (K := K) rfl) (by rfl) T.len (by decide +kernel) (pa_cons (pe_lc (own := [("item", 2)]) (by rfl) sc_law_due.nd (PI.tupK (K := K) rfl (pi_tup (pe_slice (sl_tupAK (K := K) rfl) (pv 1) (po_some pe_int) po_none))) (blkOk_by (own := [("item", 2)]) (N := ["graph", "value", "item"]) (sc := (defScope s_law_due)) (by decide +kernel)) (fun _ _ _ _ _ => (pg_name (i := 2) sc_law_due.nd rfl (Or.inl rfl))) (fun _ _ _ _ _ => (pts_one (pt_not (pt_val (pe_call G_law_is_int (hr.mono (by first | decide | omega)) (by rfl) D_law_is_int.g D_law_is_int.F.kp D_law_is_int.b .nil pass0 (pa_cons (pv 2) pa_nil)))))) (fun _ _ _ _ _ => (pv 2))) pa_nil)) pe_int (nomark _))))))
        (pss_one (ps_ret pe_bl))
        pss_nil)
      (pss_one (ps_ret (pe_and (pe_chain op_le op_lt pe_int (pe_ix (ix_tupK (K := K) rfl) (pv 1) pe_int (fun _ _ => rfl)) (pe_ix (ix_tupK (K := K) rfl) (pv 0) pe_int (fun _ _ => rfl))) (pe_and (pe_chain op_le op_lt pe_int (pe_ix (ix_tupK (K := K) rfl) (pv 1) pe_int (fun _ _ => rfl)) (pe_ix (ix_tupK (K := K) rfl) (pv 0) pe_int (fun _ _ => rfl))) (pe_and (pe_cmpR op_ne (pe_ix (ix_tupK (K := K) rfl) (pv 1) pe_int (fun _ _ => rfl)) (pe_ix (ix_tupK (K := K) rfl) (pv 1) pe_int (fun _ _ => rfl)) (nomark _)) (pe_one (pe_cmpR op_ge (pe_ix (ix_tupK (K := K) rfl) (pv 1) pe_int (fun _ _ => rfl)) pe_int (nomark _))))))))))))), ?_⟩
    refine r_at (σ := [some _, some _, none]) rfl ?_
    walk_at "z"
    refine r_isiX hd rfl (kit_tup d) ?_
    cases et : tupD d with
    | false =>
      walk_at "z"
      refine iteT (iteT ?_)
      walk_at "z"
      refine q false H S0 ⟨fun h => (nomatch h), fun ⟨w, ds, e, _⟩ => ?_⟩
      rw [e] at et
      cases et
    | true =>
      obtain ⟨ds, rfl⟩ := tupD_of et
      cases id hd with
      | @tup p xs _ hp hxd =>
      walk_at "z"
      refine iteF ?_
      walk_at "z"
      refine r_tupN (by decide) fun e1 he1 => ?_
      have s1 := same_new (o := .tup []) he1
      have f1 : (upd H e1 (.tup [])) e1 = some (.tup []) := upd_same
      generalize upd H e1 (.tup []) = H1 at s1 f1 ⊢
      have hp1 := hp.same s1
      have hxd1 := hxd.same s1
      have hd1 := hd.same s1
      have hg1 := s1 _ _ hg
      refine r_eqTE (.inl hp1) (.inl (.inl f1)) ?_
      cases hxd1 with
      | nil =>
        rw [show ([] : List V).isEmpty = true from rfl]
        walk_at "z"
        refine q false H1 s1 ⟨fun h => (nomatch h), fun ⟨w, ds, e, _⟩ => ?_⟩
        cases e
      | @cons x0 xs' d0 ds' h0 hrest =>
        have hq : SqT K H1 p (x0 :: xs') := .inl hp1
        rw [show (x0 :: xs').isEmpty = false from rfl]
        walk_at "z"
        refine r_isiX h0 rfl (kit_str d0) ?_
        cases es : strD d0 with
        | false =>
          walk_at "z"
          refine iteT ?_
          walk_at "z"
          refine q false H1 s1 ⟨fun h => (nomatch h), fun ⟨w, ds, e, _⟩ => ?_⟩
          have e := PyData.tuple.inj e
          simp only [List.cons.injEq] at e
          rw [e.1] at es
          cases es
        | true =>
          obtain ⟨w, rfl⟩ : ∃ w, d0 = .str w := by
            cases d0 with
            | str w => exact ⟨w, rfl⟩
            | _ => exact absurd es Bool.false_ne_true
          cases h0
          have lenx := hrest.len
          have no : ∀ H', Same H H' → ¬ bodyX n w ds' → Q (.bl false) H' := fun H' s' h => q false H' s' ⟨fun h => (nomatch h), fun h' => (h (qX_cons.mp h')).elim⟩
          walk_at "z"
          refine iteF ?_
          walk_at "z"
          refine ⟨rfl, fun l2 H2 hl2 s2 f2 => ?_⟩
          walk_at "z"
          refine ⟨l2, _, rfl, .inl (.inl f2), fun p3 hp3 => ?_⟩
          rw [cut12]
          have s3 := same_new (o := .lst ((kds.take 12).map V.str)) hp3
          have f3 : (upd H2 p3 (.lst ((kds.take 12).map V.str))) p3 = some (.lst ((kds.take 12).map V.str)) := upd_same
          generalize upd H2 p3 (.lst ((kds.take 12).map V.str)) = H3 at s3 f3 ⊢
          have s13 := s2.trans s3
          have s03 := s1.trans s13
          refine r_inS (.inl (.inl (.inl f3))) ?_
          have hq3 : SqT K H3 p (.str w :: xs') := .inl (hp1.same s13)
          walk_at "z"
          by_cases w12 : w ∈ kds.take 12
          · obtain ⟨wk, wl, wi, wn⟩ := k12 w w12
            rw [decide_eq_true w12]
            refine iteT ?_
            walk_at "z"
            refine q _ H3 s03 ?_
            rw [qX_cons, decide_eq_true_eq]
            unfold bodyX
            rw [if_neg wl, if_neg wi, if_neg wn]
            constructor
            · intro h
              refine ⟨wk, List.length_eq_zero_iff.mp ?_⟩
              rw [List.length_cons] at h
              omega
            · rintro ⟨_, e⟩
              rw [e] at lenx
              rw [List.length_cons, lenx]
              rfl
          · rw [decide_eq_false w12]
            refine iteF ?_
            walk_at "z"
            refine ⟨rfl, fun l4 H4 hl4 s4 f4 => ?_⟩
            walk_at "z"
            refine ⟨l4, _, rfl, .inl (.inl f4), fun p5 hp5 => ?_⟩
            rw [cut20]
            have s5 := same_new (o := .lst (nks.map V.str)) hp5
            have f5 : (upd H4 p5 (.lst (nks.map V.str))) p5 = some (.lst (nks.map V.str)) := upd_same
            generalize upd H4 p5 (.lst (nks.map V.str)) = H5 at s5 f5 ⊢
            have s15 := s13.trans (s4.trans s5)
            have s05 := s1.trans s15
            refine r_inS (.inl (.inl (.inl f5))) ?_
            have hq5 : SqT K H5 p (.str w :: xs') := .inl (hp1.same s15)
            have hrest5 := hrest.same s15
            have hg5 := s15 _ _ hg1
            walk_at "z"
            by_cases wn : w ∈ nks
            · obtain ⟨wk, wl, wi⟩ := k20 w wn
              rw [decide_eq_true wn]
              refine iteT ?_
              walk_at "z"
              by_cases l1 : ds'.length = 1
              · rw [decide_eq_true (show (((V.str w :: xs').length : Nat) : Int) = 2 by rw [List.length_cons]; omega)]
                match ds', l1, hrest5, no, q with
                | [a1], _, hrest5, no, q =>
                cases hrest5 with
                | @cons y1 _ _ _ h1 hr1 =>
                cases hr1
                walk_at "z"
                refine ⟨y1, a1, rfl, h1, ?_⟩
                have bad : intD a1 = false → ¬ bodyX n w [a1] := fun h ⟨_, h2⟩ => by
                  rw [if_neg wl, if_neg wi, if_pos wn] at h2
                  obtain ⟨k, e, _⟩ := h2
                  simp only [List.cons.injEq, and_true] at e
                  rw [e] at h
                  cases h
                cases ei : intD a1 with
                | false =>
                  walk_at "z"
                  exact no H5 s05 (bad ei)
                | true =>
                  obtain ⟨k, rfl⟩ : ∃ k, a1 = .int k := by
                    cases a1 with
                    | int k => exact ⟨k, rfl⟩
                    | _ => exact absurd ei Bool.false_ne_true
                  cases h1
                  walk_at "z"
                  refine q _ H5 s05 ?_
                  rw [qX_cons, decide_eq_true_eq]
                  unfold bodyX
                  rw [if_neg wl, if_neg wi, if_pos wn]
                  constructor
                  · exact fun h => ⟨wk, k, rfl, h⟩
                  · rintro ⟨_, k', e, k0⟩
                    simp only [List.cons.injEq, PyData.int.injEq, and_true] at e
                    rw [e]
                    exact k0
              · rw [decide_eq_false (show ¬ (((V.str w :: xs').length : Nat) : Int) = 2 by rw [List.length_cons]; omega)]
                walk_at "z"
                refine no H5 s05 fun ⟨_, h⟩ => ?_
                rw [if_neg wl, if_neg wi, if_pos wn] at h
                obtain ⟨k, e, _⟩ := h
                rw [e] at l1
                exact l1 rfl
            · rw [decide_eq_false wn]
              refine iteF ?_
              walk_at "z"
              refine r_eqS ?_
              walk_at "z"
              by_cases wi : w = "isomorphic"
              · have wl : w ≠ "linked" := by rw [wi]; exact klin.2.2
                rw [decide_eq_true wi]
                refine iteT ?_
                walk_at "z"
                by_cases l1 : ds'.length = 1
                · rw [decide_eq_true (show (((V.str w :: xs').length : Nat) : Int) = 2 by rw [List.length_cons]; omega)]
                  match ds', l1, hrest5, no, q, hl with
                  | [a1], _, hrest5, no, q, hl =>
                  cases hrest5 with
                  | @cons y1 _ _ _ h1 hr1 =>
                  cases hr1
                  obtain ⟨D1, _, _, lim1⟩ := limX_tup hl
                  walk_at "z"
                  refine ⟨y1, a1, rfl, h1, ⟨_, lim1 a1 (by simp)⟩, fun r H6 s6 hr6 => ?_⟩
                  refine q r H6 (s05.trans s6) (hr6.trans ?_)
                  rw [qX_cons]
                  unfold bodyX
                  rw [if_neg wl, if_pos wi]
                  constructor
                  · exact fun h => ⟨by rw [wi]; exact klin.2.1, a1, rfl, h⟩
                  · rintro ⟨_, g', e, h⟩
                    simp only [List.cons.injEq, and_true] at e
                    rw [e]
                    exact h
                · rw [decide_eq_false (show ¬ (((V.str w :: xs').length : Nat) : Int) = 2 by rw [List.length_cons]; omega)]
                  walk_at "z"
                  refine no H5 s05 fun ⟨_, h⟩ => ?_
                  rw [if_neg wl, if_pos wi] at h
                  obtain ⟨g', e, _⟩ := h
                  rw [e] at l1
                  exact l1 rfl
              · rw [decide_eq_false wi]
                refine iteF ?_
                walk_at "z"
                refine r_neS ?_
                walk_at "z"
                by_cases wl : w = "linked"
                · rw [decide_eq_true wl]
                  refine iteF ?_
                  walk_at "z"
                  by_cases l3 : ds'.length = 3
                  · rw [decide_eq_true (show (((V.str w :: xs').length : Nat) : Int) = 4 by rw [List.length_cons]; omega)]
                    match ds', l3, hrest5, no, q with
                    | [a1, a2, a3], _, hrest5, no, q =>
                    cases hrest5 with
                    | @cons y1 _ _ _ h1 hr1 =>
                    cases hr1 with
                    | @cons y2 _ _ _ h2 hr2 =>
                    cases hr2 with
                    | @cons y3 _ _ _ h3 hr3 =>
                    cases hr3
                    walk_at "z"
                    refine iteF ?_
                    walk_at "z"
                    have d3 : DXs b H5 [y1, y2, y3] [a1, a2, a3] := .cons h1 (.cons h2 (.cons h3 .nil))
                    have hp5 : ST H5 p [.str w, y1, y2, y3] := hp1.same s15
                    refine r_slX hp5 fun p6 H6 s6 hp6 => ?_
                    rw [show cutV [V.str w, y1, y2, y3] (some 1) none = [y1, y2, y3] from rfl] at hp6
                    refine r_it (.inl hp6) fun c hc => lcR_tup (xs := [y1, y2, y3]) (fun i H' => Same H6 H' ∧ ∃ zs, H' c = some (.lst zs) ∧ zs.length ≤ i ∧ (zs.length = 0 ↔ (([a1, a2, a3] : List PyData).take i).all intD = true)) (by walk_at "zw") ⟨same_new hc, [], upd_same, Nat.le_refl 0, by simp⟩ (fun i H' _ ⟨s7, _⟩ => .inl (hp6.same s7)) ?_ ?_
                    · rintro i x H7 hx ⟨s7, zs, hc7, lz, iff⟩
                      have il : i < 3 := (List.getElem?_eq_some_iff.mp hx).1
                      obtain ⟨dd, hdd, hxd⟩ := pd_get (DXs.pd _ (d3.same (s6.trans s7))) hx
                      walk_at "z"
                      refine ⟨rfl, ?_⟩
                      walk_at "z"
                      refine ⟨x, dd, rfl, hxd, ?_⟩
                      cases e9 : intD dd with
                      | true =>
                        walk_at "z"
                        refine iteF ?_
                        refine ⟨s7, zs, hc7, by omega, ?_⟩
                        rw [all_snoc hdd, e9, Bool.and_true]
                        exact iff
                      | false =>
                        walk_at "z"
                        refine iteT ?_
                        walk_at "z"
                        refine r_lce hc7 (small_lt (by omega)) ⟨same_mut s7 hc, zs ++ [x], upd_same, by rw [List.length_append]; simp only [List.length_cons, List.length_nil]; omega, ?_⟩
                        rw [all_snoc hdd, e9, Bool.and_false, List.length_append]
                        simp
                    · rintro H7 ⟨s7, zs, hc7, lz, iff⟩
                      have iff : zs.length = 0 ↔ (([a1, a2, a3] : List PyData).all intD = true) := iff
                      have s57 := s6.trans s7
                      have s07 := s05.trans s57
                      walk_at "z"
                      refine r_ite (fun c9 => ?_) (fun c9 => ?_)
                      · walk_at "z"
                        refine no H7 s07 fun ⟨_, h⟩ => ?_
                        rw [if_pos wl] at h
                        obtain ⟨s, t, k, e, _⟩ := h
                        have := iff.mpr (by rw [e]; rfl)
                        omega
                      · have al := iff.mp (by omega)
                        simp only [List.all_cons, List.all_nil, Bool.and_true, Bool.and_eq_true] at al
                        obtain ⟨i1, i2, i3⟩ := al
                        have one : ∀ {d : PyData}, intD d = true → ∃ k, d = .int k := fun {d} h => by
                          cases d with
                          | int k => exact ⟨k, rfl⟩
                          | _ => exact absurd h Bool.false_ne_true
                        obtain ⟨s, rfl⟩ := one i1
                        obtain ⟨t, rfl⟩ := one i2
                        obtain ⟨k, rfl⟩ := one i3
                        cases h1
                        cases h2
                        cases h3
                        have hq7 : SqT K H7 p [.str w, .int s, .int t, .int k] := .inl (hp5.same s57)
                        have hg7 := s57 _ _ hg5
                        have bod : bodyX n w [.int s, .int t, .int k] ↔ (0 ≤ s ∧ s < n) ∧ (0 ≤ t ∧ t < n) ∧ s ≠ t ∧ 0 ≤ k := by
                          unfold bodyX
                          rw [if_pos wl]
                          constructor
                          · rintro ⟨_, s', t', k', e, h⟩
                            simp only [List.cons.injEq, PyData.int.injEq, and_true] at e
                            rw [e.1, e.2.1, e.2.2]
                            exact h
                          · intro h
                            exact ⟨by rw [wl]; exact klin.1, s, t, k, rfl, h⟩
                        walk_at "z"
                        refine r_ite (fun s0 => ?_) (fun s0 => ?_)
                        · walk_at "z"
                          refine r_ite (fun s1' => ?_) (fun s1' => no H7 s07 fun h => s1' (bod.mp h).1.2)
                          walk_at "z"
                          refine r_ite (fun t0 => ?_) (fun t0 => ?_)
                          · walk_at "z"
                            refine r_ite (fun t1 => ?_) (fun t1 => no H7 s07 fun h => t1 (bod.mp h).2.1.2)
                            walk_at "z"
                            refine r_iteN (fun ne => ?_) (fun ne => no H7 s07 fun h => (bod.mp h).2.2.1 ne)
                            walk_at "z"
                            refine q _ H7 s07 ?_
                            rw [qX_cons, bod, decide_eq_true_eq]
                            exact ⟨fun h => ⟨⟨s0, s1'⟩, ⟨t0, t1⟩, ne, h⟩, fun h => h.2.2.2⟩
                          · walk_at "z"
                            exact no H7 s07 fun h => t0 (bod.mp h).2.1.1
                        · walk_at "z"
                          exact no H7 s07 fun h => s0 (bod.mp h).1.1
                  · rw [decide_eq_false (show ¬ (((V.str w :: xs').length : Nat) : Int) = 4 by rw [List.length_cons]; omega)]
                    walk_at "z"
                    refine iteT (iteT ?_)
                    walk_at "z"
                    refine no H5 s05 fun ⟨_, h⟩ => ?_
                    rw [if_pos wl] at h
                    obtain ⟨s, t, k, e, _⟩ := h
                    rw [e] at l3
                    exact l3 rfl
                · rw [decide_eq_false wl]
                  refine iteT (iteT ?_)
                  walk_at "z"
                  exact no H5 s05 fun h => wl (kall w h.1 w12 wn wi)
end

set_option Elab.async false
set_option linter.all false
set_option maxRecDepth 100000
set_option maxHeartbeats 4000000
open PySem PySem.Spec PyProof.Rows L2

abbrev s_law_shuffled : Stmt := topS 28
theorem sc_law_shuffled : FnScope ["pool", "items", "rest", "found", "k"] ["pool", "items"] (defScope s_law_shuffled) := ⟨rfl, rfl, rfl, by decide +kernel, rfl, by decide +kernel, by decide +kernel⟩

abbrev s_law_moved : Stmt := topS 29
theorem sc_law_moved : FnScope ["graph", "order", "pair"] ["graph", "order"] (defScope s_law_moved) := ⟨rfl, rfl, rfl, by decide +kernel, rfl, by decide +kernel, by decide +kernel⟩

abbrev s_law_other : Stmt := topS 30
theorem sc_law_other : FnScope ["graph", "pair"] ["graph"] (defScope s_law_other) := ⟨rfl, rfl, rfl, by decide +kernel, rfl, by decide +kernel, by decide +kernel⟩

section
variable {P : Program} {w : World} {K : PySem.W.Frag} {mg : Str → Option Value} {base : Heap}
theorem r_popAt {H : Hp} {Q : VK} {l : Addr} {xs : List V} {i : Int} {k : Nat} {y : V} (h : H l = some (.lst xs)) (e : i = (k : Int)) (hk : k < 1000000) (hy : xs[k]? = some y) (q : Q y (upd H l (.lst (xs.eraseIdx k)))) : rPopAt (.ref l) [.int i] H Q := by
  have hlt : k < xs.length := (List.getElem?_eq_some_iff.mp hy).1
  refine ⟨l, xs, i, k, y, rfl, rfl, h, by omega, by omega, ?_, hy, q⟩
  subst e
  unfold seqIndex?
  simp only [show ¬ ((k : Int) < 0) by omega, if_false]
  rw [if_pos (by simp; omega)]
  rfl
theorem map_erase {α β : Type} (f : α → β) : ∀ (l : List α) (k : Nat), (l.map f).eraseIdx k = (l.eraseIdx k).map f
  | [], _ => by simp
  | _ :: _, 0 => rfl
  | x :: l, k + 1 => by
    show f x :: (l.map f).eraseIdx k = f x :: (l.eraseIdx k).map f
    rw [map_erase f l k]
theorem get_erase_perm {α : Type} : ∀ (l : List α) {k : Nat} {x : α}, l[k]? = some x → (x :: l.eraseIdx k).Perm l
  | [], _, _, h => by simp at h
  | y :: l, 0, x, h => by
    have e : y = x := Option.some.inj h
    subst e
    exact .refl _
  | y :: l, k + 1, x, h => by
    have ih := get_erase_perm l (k := k) h
    show (x :: y :: l.eraseIdx k).Perm (y :: l)
    exact (List.Perm.swap y x _).trans (ih.cons y)
/-- the items in some order -/
def spShuf (K : PySem.W.Frag) : Sp := fun vs H Q _ => ∃ (a s l : Addr) (ns : List Int), vs = [.ref a, .ref l] ∧ Pool H a s ∧ l ≠ a ∧ H l = some (.lst (ns.map V.int)) ∧ ns.length ≤ 1000 ∧
  ∀ (f : Addr) (ms : List Int) (H' : Hp), H f = none → f ≠ a → Pool H' a s → Gr a H H' → H' f = some (.lst (ms.map V.int)) → ms.Perm ns → Q (.ref f) H'
theorem ok_shuffled (T : Blt mg) (D : DefAt K mg "_law_shuffled" s_law_shuffled ["pool", "items"]) (D_law_draw : DefAt K mg "_law_draw" s_law_draw ["pool", "many"]) (G_law_draw : FnOk P w K mg base CX0 2 D_law_draw.f D_law_draw.fd ["pool", "many"] spDraw) :
    FnOk P w K mg base CX0 3 D.f D.fd ["pool", "items"] (spShuf K) := by
  refine D.F.ok sc_law_shuffled (fun vs H Q E h => ?_) (fun cdv A outer s H vs Q E hr h => ?_)
  · obtain ⟨a, s, l, ns, rfl, _⟩ := h
    rfl
  · obtain ⟨a, s0, l, ns, rfl, hP, hla, hl, hlen, q⟩ := h
    refine ⟨_, (pss_cons (ps_set (i := 2) sc_law_shuffled.nd rfl (Or.inl rfl) (pe_callTy (call_listK (K := K) rfl) (by rfl) T.list (by decide +kernel) (pa_cons (pv 1) pa_nil)))
      (pss_cons (ps_set (i := 3) sc_law_shuffled.nd rfl (Or.inl rfl) (pe_lst pa_nil))
      (pss_cons (ps_for PassesOwn.never (by rfl) (pi_range1 (by rfl) T.range (pa_cons (pe_callB (call_lenK (K := K) rfl) (by rfl) T.len (by decide +kernel) (pa_cons (pv 2) pa_nil)) pa_nil)) (pg_name (i := 4) sc_law_shuffled.nd rfl (Or.inl rfl))
        (pss_one (ps_expr (PE.bmK (K := K) rfl (pe_bm PySem.F.plainAttrs_list PySem.F.slot_list_append PySem.F.type_list_append mt_append (pv 3) (pa_cons (PE.bmK (K := K) rfl (pe_bm PySem.F.plainAttrs_list PySem.F.slot_list_pop PySem.F.type_list_pop mt_popAt (pv 2) (pa_cons (pe_call G_law_draw (hr.mono (by first | decide | omega)) (by rfl) D_law_draw.g D_law_draw.F.kp D_law_draw.b .nil pass0 (pa_cons (pv 0) (pa_cons (pe_callB (call_lenK (K := K) rfl) (by rfl) T.len (by decide +kernel) (pa_cons (pv 2) pa_nil)) pa_nil))) pa_nil))) pa_nil))))))
      (pss_one (ps_ret (pv 3)))))), ?_⟩
    refine r_at (σ := [some _, some _, none, none, none]) rfl ?_
    walk_at "z"
    refine r_listL (.inl (.inl hl)) fun r hr1 => ?_
    walk_at "z"
    refine r_lstN (by decide) fun f hf => ?_
    have rf : r ≠ f := ne_of_none upd_same hf
    have hf0 : H f = none := (same_new hr1).free hf
    walk_at "z"
    rw [List.length_map]
    refine r_rg1 (by omega) (forR_range (fun i σ' H' => (∃ x4, σ' = [some (.ref a), some (.ref l), some (.ref r), some (.ref f), x4]) ∧ Pool H' a s0 ∧ Gr a H H' ∧ ∃ xs ys : List Int, H' r = some (.lst (xs.map V.int)) ∧ H' f = some (.lst (ys.map V.int)) ∧ (xs ++ ys).Perm ns ∧ ys.length = i)
      ⟨⟨_, rfl⟩, (hP.mono (same_new hr1)).mono (same_new hf), (Gr.new hr1).trans (.new hf), ns, [], (upd_ne rf).trans upd_same, upd_same, by rw [List.append_nil], rfl⟩ ?_ ?_)
    · rintro i σ' H' hi ⟨⟨x4, rfl⟩, hP', g, xs, ys, hx, hy, pm, hlen2⟩
      have hi : i < ns.length := by omega
      have lx : xs.length + i = ns.length := by
        have := pm.length_eq
        rw [List.length_append] at this
        omega
      walk_at "z"
      rw [List.length_map]
      refine ⟨a, s0, _, rfl, hP', by omega, by omega, fun c H2 c0 c1 hP2 g2 => ?_⟩
      walk_at "z"
      have hx2 := g2 _ _ (new_ne hP hr1).1 hx
      have hy2 := g2 _ _ (new_ne hP hf0).1 hy
      have hc : c.toNat < xs.length := by omega
      have gx : xs[c.toNat]? = some xs[c.toNat] := List.getElem?_eq_getElem hc
      refine r_popAt hx2 (k := c.toNat) (y := V.int xs[c.toNat]) (by omega) (by omega) (by rw [List.getElem?_map, gx]; rfl) ?_
      rw [map_erase]
      walk_at "z"
      refine r_appT ((upd_ne (Ne.symm rf)).trans hy2) (small_lt ?_) ?_
      · rw [List.length_map]
        omega
      · refine ⟨⟨_, rfl⟩, (hP2.upd (new_ne hP hr1)).upd (new_ne hP hf0), ((g.trans g2).mut hr1).mut hf0, xs.eraseIdx c.toNat, ys ++ [xs[c.toNat]], ?_, ?_, ?_, ?_⟩
        · rw [upd_ne rf]
          exact upd_same
        · rw [List.map_append]
          exact upd_same
        · refine List.Perm.trans ?_ pm
          have p1 : (xs.eraseIdx c.toNat ++ (ys ++ [xs[c.toNat]])).Perm ([xs[c.toNat]] ++ (xs.eraseIdx c.toNat ++ ys)) := by
            rw [← List.append_assoc]
            exact List.perm_append_comm
          exact p1.trans ((get_erase_perm xs gx).append_right ys)
        · rw [List.length_append, hlen2]
          rfl
    · rintro σ' H' ⟨⟨x4, rfl⟩, hP', g, xs, ys, hx, hy, pm, hlen2⟩
      walk_at "z"
      have lx : xs = [] := by
        have := pm.length_eq
        rw [List.length_append] at this
        exact List.eq_nil_of_length_eq_zero (by omega)
      subst lx
      exact q f ys H' hf0 (new_ne hP hf0).1 hP' g hy pm
/-- the graph whose vertices have other numbers -/
def ordP (o : List Int) (p : Int × Int) : Int × Int := (o.getD p.1.toNat 0, o.getD p.2.toNat 0)
def spMoved (K : PySem.W.Frag) : Sp := fun vs H Q _ => ∃ (g : V) (l : Addr) (n : Int) (ps : List (Int × Int)) (o : List Int), vs = [g, .ref l] ∧ GrAt H g n ps ∧ (SqL K H l (o.map V.int) ∨ SqT K H l (o.map V.int)) ∧ ps.length ≤ 10000 ∧
  (∀ p ∈ ps, 0 ≤ p.1 ∧ p.1 < o.length ∧ 0 ≤ p.2 ∧ p.2 < o.length) ∧
  ∀ (v : V) (qs : List (Int × Int)) (H' : Hp), Same H H' → GrAt H' v n qs → qs.Pairwise ltP → (∀ p, p ∈ qs ↔ ∃ r ∈ ps, p = nrm (ordP o r)) → Q v H'
theorem Same.seqT {K : PySem.W.Frag} {H H' : Hp} {a : Addr} {xs : List V} (e : Same H H') (h : SqT K H a xs) : SqT K H' a xs := by
  rcases h with (h | ⟨o, h⟩) | h
  · exact .inl (.inl (e _ _ h))
  · exact .inl (.inr ⟨o, e _ _ h⟩)
  · exact .inr h
theorem at_ord {o : List Int} {z : Int} (h0 : 0 ≤ z) (h1 : z < o.length) : atI (o.map V.int) z = some (.int (o.getD z.toNat 0)) := by
  have hlt : z.toNat < o.length := by omega
  refine at_of (j := z.toNat) (by omega) ?_
  rw [List.getElem?_map, List.getElem?_eq_getElem hlt, List.getD_eq_getElem?_getD, List.getElem?_eq_getElem hlt]
  rfl
theorem ok_moved (T : Blt mg) (D : DefAt K mg "_law_moved" s_law_moved ["graph", "order"]) (D_law_of : DefAt K mg "_law_of" s_law_of ["n", "pairs"]) (G_law_of : FnOk P w K mg base CX0 3 D_law_of.f D_law_of.fd ["n", "pairs"] (spOf K)) :
    FnOk P w K mg base CX0 4 D.f D.fd ["graph", "order"] (spMoved K) := by
  refine D.F.ok sc_law_moved (fun vs H Q E h => ?_) (fun cdv A outer s H vs Q E hr h => ?_)
  · obtain ⟨g, l, n, ps, o, rfl, _⟩ := h
    rfl
  · obtain ⟨g, l, n, ps, o, rfl, ⟨ga, e, rfl, hg, xs, he, hp⟩, ho, hlen, bd, q⟩ := h
    refine ⟨_, (pss_one (ps_ret (pe_call G_law_of (hr.mono (by first | decide | omega)) (by rfl) D_law_of.g D_law_of.F.kp D_law_of.b .nil pass0 (pa_cons (pe_ix (ix_tupK (K := K) rfl) (pv 0) pe_int (fun _ _ => rfl)) (pa_cons (pe_lc (own := [("pair", 2)]) (by rfl) sc_law_moved.nd (PI.tupK (K := K) rfl (pi_tup (pe_ix (ix_tupK (K := K) rfl) (pv 0) pe_int (fun _ _ => rfl)))) (blkOk_by (own := [("pair", 2)]) (N := ["graph", "order", "pair"]) (sc := (defScope s_law_moved)) (by decide +kernel)) (fun _ _ _ _ _ => (pg_name (i := 2) sc_law_moved.nd rfl (Or.inl rfl))) (fun _ _ _ _ _ => pts_nil) (fun _ _ _ _ _ => (pe_tup (pa_cons (pe_ix (ix_eitherK (K := K) rfl) (pv 1) (pe_ix (ix_tupK (K := K) rfl) (pv 2) pe_int (fun _ _ => rfl)) (fun _ _ => rfl)) (pa_cons (pe_ix (ix_eitherK (K := K) rfl) (pv 1) (pe_ix (ix_tupK (K := K) rfl) (pv 2) pe_int (fun _ _ => rfl)) (fun _ _ => rfl)) pa_nil))))) pa_nil))))), ?_⟩
    refine r_at (σ := [some _, some _, none]) rfl ?_
    walk_at "z"
    refine r_it (.inl (.inl he)) fun d hd => lcR_tup (xs := xs) (fun i H' => Same H H' ∧ ∃ ys, H' d = some (.lst ys) ∧ Prs H' ys ((ps.take i).map (ordP o))) (by walk_at "zw") ⟨same_new hd, [], upd_same, .nil⟩ (fun i H' _ ⟨s1, _⟩ => .inl (.inl (s1 _ _ he))) ?_ ?_
    · rintro i x H' hx ⟨s1, ys, hy, hys⟩
      obtain ⟨p, hpi, hxp⟩ := pd_get (hp.tk (.of_same s1)) hx
      obtain ⟨t, rfl, ht⟩ := hxp
      obtain ⟨b1, b2, b3, b4⟩ := bd p (List.mem_of_getElem? hpi)
      have ho' : SqL K H' l (o.map V.int) ∨ SqT K H' l (o.map V.int) := ho.imp s1.seq (Same.seqT s1)
      walk_at "z"
      refine ⟨rfl, ?_⟩
      walk_at "z"
      refine r_ixE ho' (at_ord b1 b2) ?_
      walk_at "z"
      refine r_ixE ho' (at_ord b3 b4) ?_
      walk_at "z"
      refine r_tupN sz2 fun t2 ht2 => ?_
      refine r_lce (by walk_at "zh") (small_lt ?_) ⟨same_mut (s1.trans (same_new ht2)) hd, _, upd_same, ?_⟩
      · rw [hys.length, List.length_map, List.length_take]
        omega
      · rw [take_next hpi, List.map_append]
        exact prs_push hy hys ht2
    · rintro H' ⟨s1, ys, hy, hys⟩
      rw [hp.length, List.take_length] at hys
      walk_at "z"
      refine ⟨n, d, ys, _, rfl, .inl (.inl hy), hys, by rw [List.length_map]; exact hlen, fun v qs H2 s2 hv asc mem => ?_⟩
      refine q v qs H2 (s1.trans s2) hv asc fun p => ?_
      rw [mem]
      constructor
      · rintro ⟨r, hr, rfl⟩
        obtain ⟨r', hr', rfl⟩ := List.mem_map.mp hr
        exact ⟨r', hr', rfl⟩
      · rintro ⟨r, hr, rfl⟩
        exact ⟨_, List.mem_map.mpr ⟨r, hr, rfl⟩, rfl⟩
/-- the graph of the pairs that are none -/
def spOther : Sp := fun vs H Q _ => ∃ (g : V) (n : Nat) (ps : List (Int × Int)), vs = [g] ∧ GrAt H g (n : Int) ps ∧ n ≤ 100 ∧
  ∀ (v : V) (H' : Hp), Same H H' → GrAt H' v (n : Int) ((allP n).filter fun p => decide (p ∉ ps)) → Q v H'
theorem ok_other (T : Blt mg) (D : DefAt K mg "_law_other" s_law_other ["graph"]) (D_law_pairs : DefAt K mg "_law_pairs" s_law_pairs ["n"]) (G_law_pairs : FnOk P w K mg base CX0 1 D_law_pairs.f D_law_pairs.fd ["n"] spPairs) :
    FnOk P w K mg base CX0 2 D.f D.fd ["graph"] spOther := by
  refine D.F.ok sc_law_other (fun vs H Q E h => ?_) (fun cdv A outer s H vs Q E hr h => ?_)
  · obtain ⟨g, n, ps, rfl, _⟩ := h
    rfl
  · obtain ⟨g, n, ps, rfl, ⟨ga, e, rfl, hg, xs, he, hp⟩, hn, q⟩ := h
    refine ⟨_, (pss_one (ps_ret (pe_tup (pa_cons (pe_ix (ix_tupK (K := K) rfl) (pv 0) pe_int (fun _ _ => rfl)) (pa_cons (pe_callTy (call_tupleK (K := K) rfl) (by rfl) T.tuple (by decide +kernel) (pa_cons (pe_lc (own := [("pair", 1)]) (by rfl) sc_law_other.nd (PI.listK (K := K) rfl (pi_list (pe_call G_law_pairs (hr.mono (by first | decide | omega)) (by rfl) D_law_pairs.g D_law_pairs.F.kp D_law_pairs.b .nil pass0 (pa_cons (pe_ix (ix_tupK (K := K) rfl) (pv 0) pe_int (fun _ _ => rfl)) pa_nil)))) (blkOk_by (own := [("pair", 1)]) (N := ["graph", "pair"]) (sc := (defScope s_law_other)) (by decide +kernel)) (fun _ _ _ _ _ => (pg_name (i := 1) sc_law_other.nd rfl (Or.inl rfl))) (fun _ _ _ _ _ => (pts_one (pt_cmpR (op_ninPK (K := K) rfl hr) (pv 1) (pe_ix (ix_tupK (K := K) rfl) (pv 0) pe_int (fun _ _ => rfl)) (by rfl)))) (fun _ _ _ _ _ => (pv 1))) pa_nil)) pa_nil))))), ?_⟩
    refine r_at (σ := [some _, none]) rfl ?_
    walk_at "z"
    refine ⟨n, rfl, hn, fun l zs H1 hl s1 hz hzs => ?_⟩
    refine r_il (.inl (.inl hz)) fun d hd => lcR_list (xs := zs) (fun i H' => Same H1 H' ∧ ∃ ys, H' d = some (.lst ys) ∧ Prs H' ys (((allP n).take i).filter fun p => decide (p ∉ ps))) (by walk_at "zw") ⟨same_new hd, [], upd_same, .nil⟩ (fun i H' _ ⟨s2, _⟩ => .inl (.inl (s2 _ _ hz))) ?_ ?_
    · rintro i x H' hx ⟨s2, ys, hy, hys⟩
      obtain ⟨p, hpi, hxp⟩ := pd_get (hzs.tk (.of_same s2)) hx
      have sm := s1.trans s2
      walk_at "z"
      refine ⟨rfl, ?_⟩
      have hg' := sm _ _ hg
      have he' := sm _ _ he
      walk_at "z"
      refine ⟨p, e, xs, ps, hxp, rfl, .inl (.inl he'), hp.tk (.of_same sm), ?_⟩
      walk_at "z"
      have suc : ((allP n).take (i + 1)).filter (fun p => decide (p ∉ ps)) = ((allP n).take i).filter (fun p => decide (p ∉ ps)) ++ (if p ∉ ps then [p] else []) := by
        rw [take_next hpi, List.filter_append, List.filter_cons, List.filter_nil]
        by_cases h : p ∈ ps <;> simp [h]
      refine r_iteN (fun h => ?_) (fun h => ?_)
      · walk_at "z"
        refine r_lce hy (small_lt ?_) ⟨same_mut s2 hd, _, upd_same, ?_⟩
        · have h1 := hys.length
          have h2 := List.length_filter_le (fun p => decide (p ∉ ps)) ((allP n).take i)
          have h3 : ((allP n).take i).length ≤ (allP n).length := by
            rw [List.length_take]
            omega
          have h4 := preP_len (n := n) (i := n)
          have h5 : n * n ≤ 100 * 100 := Nat.mul_le_mul hn hn
          unfold allP at *
          omega
        · rw [suc, if_pos h]
          have kk : TK H' (upd H' d (.lst (ys ++ [x]))) := .lst hy
          exact (hys.tk kk).snoc (hxp.tk kk)
      · refine ⟨s2, ys, hy, ?_⟩
        rw [suc, if_neg (fun z => z h), List.append_nil]
        exact hys
    · rintro H' ⟨s2, ys, hy, hys⟩
      rw [hzs.length, List.take_length] at hys
      walk_at "z"
      refine r_tupL (.inl (.inl hy)) fun e2 he2 => ?_
      walk_at "z"
      refine r_tupN sz2 fun g2 hg2 => ?_
      have s3 : Same H' (upd H' e2 (.tup ys)) := same_new he2
      have s4 := s3.trans (same_new (o := .tup [.int (n : Int), .ref e2]) hg2)
      exact q _ _ ((s1.trans s2).trans s4) ⟨g2, e2, rfl, upd_same, ys, (upd_ne (ne_of_none upd_same hg2)).trans upd_same, hys.tk (.of_same s4)⟩
end

set_option Elab.async false
set_option linter.all false
set_option maxRecDepth 100000
set_option maxHeartbeats 4000000
open PySem PySem.Spec PyProof.Rows L2

abbrev s_law_random_graph : Stmt := topS 31
theorem sc_law_random_graph : FnScope ["pool", "most", "n", "dense", "pair"] ["pool", "most"] (defScope s_law_random_graph) := ⟨rfl, rfl, rfl, by decide +kernel, rfl, by decide +kernel, by decide +kernel⟩

section
variable {P : Program} {w : World} {K : PySem.W.Frag} {mg : Str → Option Value} {base : Heap}
theorem r_pick2 {H : Hp} {Q : VK} {l : Addr} {i j : Int} {b : Bool} (h : H l = some (.lst [.int i, .int j])) (q : ∀ m, m = i ∨ m = j → Q (.int m) H) : rIxL K (.ref l) (.int (if b = true then 1 else 0)) H Q := by
  cases b with
  | true => exact r_ixL (.inl (.inl h)) rfl (q j (.inr rfl))
  | false => exact r_ixL (.inl (.inl h)) rfl (q i (.inl rfl))
theorem good_filter {n : Nat} (h : 1 ≤ n) (c : Int × Int → Bool) : GoodG (n : Int) ((allP n).filter c) :=
  ⟨by omega, (allP_asc n).filter _, fun p hp => mem_allP.mp (List.mem_filter.mp hp).1⟩
theorem allP_small {n : Nat} (h : n ≤ 100) : (allP n).length ≤ 10000 := by
  have h4 := preP_len (n := n) (i := n)
  have h5 : n * n ≤ 100 * 100 := Nat.mul_le_mul h h
  unfold allP
  omega
/-- a drawn graph of n vertices -/
def GenQ (a s : Addr) (H : Hp) (n : Int) (Q : VK) : Prop := ∀ (v : V) (qs : List (Int × Int)) (H' : Hp), Pool H' a s → Gr a H H' → GrAt H' v n qs → GoodG n qs → Q v H'
def spRandom : Sp := fun vs H Q _ => ∃ (a s : Addr) (most : Int), vs = [.ref a, .int most] ∧ Pool H a s ∧ 1 ≤ most ∧ most ≤ 100 ∧ ∀ n : Int, 1 ≤ n → n ≤ most → GenQ a s H n Q
theorem ok_random (T : Blt mg) (D : DefAt K mg "_law_random_graph" s_law_random_graph ["pool", "most"]) (D_law_draw : DefAt K mg "_law_draw" s_law_draw ["pool", "many"]) (G_law_draw : FnOk P w K mg base CX0 2 D_law_draw.f D_law_draw.fd ["pool", "many"] spDraw)
    (D_law_pairs : DefAt K mg "_law_pairs" s_law_pairs ["n"]) (G_law_pairs : FnOk P w K mg base CX0 1 D_law_pairs.f D_law_pairs.fd ["n"] spPairs) :
    FnOk P w K mg base CX0 3 D.f D.fd ["pool", "most"] spRandom := by
  refine D.F.ok sc_law_random_graph (fun vs H Q E h => ?_) (fun cdv A outer s H vs Q E hr h => ?_)
  · obtain ⟨a, s, most, rfl, _⟩ := h
    rfl
  · obtain ⟨a, s0, most, rfl, hP, m1, m2, q⟩ := h
    refine ⟨_, (pss_cons (ps_set (i := 2) sc_law_random_graph.nd rfl (Or.inl rfl) (pe_ix (ix_listK (K := K) rfl) (pe_lst (pa_cons (pv 1) (pa_cons (pe_op op_add pe_int (pe_call G_law_draw (hr.mono (by first | decide | omega)) (by rfl) D_law_draw.g D_law_draw.F.kp D_law_draw.b .nil pass0 (pa_cons (pv 0) (pa_cons (pv 1) pa_nil)))) pa_nil))) (pe_callTy call_int1' (by rfl) T.int (by decide +kernel) (pa_cons (pe_cmpR op_eq (pe_call G_law_draw (hr.mono (by first | decide | omega)) (by rfl) D_law_draw.g D_law_draw.F.kp D_law_draw.b .nil pass0 (pa_cons (pv 0) (pa_cons pe_int pa_nil))) pe_int (nomark _)) pa_nil)) (fun _ _ => rfl)))
      (pss_cons (ps_set (i := 3) sc_law_random_graph.nd rfl (Or.inr rfl) (pe_op op_add pe_int (pe_call G_law_draw (hr.mono (by first | decide | omega)) (by rfl) D_law_draw.g D_law_draw.F.kp D_law_draw.b .nil pass0 (pa_cons (pv 0) (pa_cons pe_int pa_nil)))))
      (pss_one (ps_ret (pe_tup (pa_cons (pv 2) (pa_cons (pe_callTy (call_tupleK (K := K) rfl) (by rfl) T.tuple (by decide +kernel) (pa_cons (pe_lc (own := [("pair", 4)]) (by rfl) sc_law_random_graph.nd (PI.listK (K := K) rfl (pi_list (pe_call G_law_pairs (hr.mono (by first | decide | omega)) (by rfl) D_law_pairs.g D_law_pairs.F.kp D_law_pairs.b .nil pass0 (pa_cons (pv 2) pa_nil)))) (blkOk_by (own := [("pair", 4)]) (N := ["pool", "most", "n", "dense", "pair"]) (sc := (defScope s_law_random_graph)) (by decide +kernel)) (fun _ _ _ _ _ => (pg_name (i := 4) sc_law_random_graph.nd rfl (Or.inl rfl))) (fun _ _ _ _ _ => (pts_one (pt_cmpR op_lt (pe_call G_law_draw (hr.mono (by first | decide | omega)) (by rfl) D_law_draw.g D_law_draw.F.kp D_law_draw.b .nil pass0 (pa_cons (pv 0) (pa_cons pe_int pa_nil))) (pv 3) (nomark _)))) (fun _ _ _ _ _ => (pv 4))) pa_nil)) pa_nil))))))), ?_⟩
    refine r_at (σ := [some _, some _, none, none, none]) rfl ?_
    walk_at "z"
    refine ⟨a, s0, most, rfl, hP, by omega, by omega, fun r H1 r0 r1 hP1 g1 => ?_⟩
    walk_at "z"
    refine r_lstN sz2 fun l hl => ?_
    walk_at "z"
    refine ⟨a, s0, 3, rfl, hP1.mono (same_new hl), by omega, by omega, fun r2 H2 _ _ hP2 g2 => ?_⟩
    have hl2 := g2 _ _ (new_ne hP1 hl).1 upd_same
    walk_at "z"
    refine r_pick2 hl2 fun n hn => ?_
    have g3 : Gr a H H2 := (g1.trans (.new hl)).trans g2
    walk_at "z"
    refine ⟨a, s0, 5, rfl, hP2, by omega, by omega, fun r3 H3 _ _ hP3 g4 => ?_⟩
    walk_at "z"
    obtain ⟨n', rfl⟩ : ∃ n' : Nat, n = (n' : Int) := ⟨n.toNat, by omega⟩
    refine ⟨n', rfl, by omega, fun f xs H4 hf s4 hx hp => ?_⟩
    have hP4 := hP3.mono s4
    have g5 : Gr a H H4 := (g3.trans g4).trans (.of_same s4)
    refine r_il (.inl (.inl hx)) fun d hd => lcR_list (xs := xs) (fun i H' => Pool H' a s0 ∧ Gr a H4 H' ∧ ∃ ys c, H' d = some (.lst ys) ∧ Prs H' ys (((allP n').take i).filter c)) (by walk_at "zw") ⟨hP4.mono (same_new hd), .new hd, [], fun _ => true, upd_same, .nil⟩ (fun i H' _ ⟨_, g, _⟩ => .inl (.inl (g _ _ (new_ne hP3 hf).1 hx))) ?_ ?_
    · rintro i x H' hx2 ⟨hP', g, ys, c, hy, hys⟩
      obtain ⟨p, hpi, hxp⟩ := pd_get (hp.tk (g.tk hP4)) hx2
      walk_at "z"
      refine ⟨rfl, ?_⟩
      walk_at "z"
      refine ⟨a, s0, 6, rfl, hP', by omega, by omega, fun r4 H5 _ _ hP5 g6 => ?_⟩
      have hy5 := g6 _ _ (new_ne hP4 hd).1 hy
      have kk := g6.tk hP'
      have pn : p ∉ (allP n').take i := fun z => by
        have nd := asc_nodup (allP_asc n')
        have e := take_next hpi
        have nd2 : ((allP n').take (i + 1)).Nodup := nd.sublist (List.take_sublist _ _)
        rw [e] at nd2
        exact (List.nodup_append.mp nd2).2.2 p z p (List.mem_singleton.mpr rfl) rfl
      -- the test's answer at this pair
      have ext : ∀ b : Bool, ((allP n').take (i + 1)).filter (fun z => if z = p then b else c z) = ((allP n').take i).filter c ++ (if b = true then [p] else []) := fun b => by
        rw [take_next hpi, List.filter_append]
        congr 1
        · refine List.filter_congr fun z hz => ?_
          rw [if_neg (fun e => pn (by rw [← e]; exact hz))]
        · cases b <;> simp
      walk_at "z"
      refine r_ite (fun h => ?_) (fun h => ?_)
      · walk_at "z"
        refine r_lce hy5 (small_lt ?_) ⟨hP5.upd (new_ne hP4 hd), (g.trans g6).mut hd, _, fun z => if z = p then true else c z, upd_same, ?_⟩
        · have h1 := hys.length
          have h2 := List.length_filter_le c ((allP n').take i)
          have h3 := allP_small (n := n') (by omega)
          rw [List.length_take] at h2
          omega
        · rw [ext true, if_pos rfl]
          have k2 : TK H5 (upd H5 d (.lst (ys ++ [x]))) := .lst hy5
          exact ((hys.tk kk).tk k2).snoc ((hxp.tk kk).tk k2)
      · refine ⟨hP5, g.trans g6, ys, fun z => if z = p then false else c z, hy5, ?_⟩
        rw [ext false, if_neg Bool.false_ne_true, List.append_nil]
        exact hys.tk kk
    · rintro H' ⟨hP', g, ys, c, hy, hys⟩
      rw [hp.length, List.take_length] at hys
      walk_at "z"
      refine r_tupL (.inl (.inl hy)) fun e he => ?_
      walk_at "z"
      refine r_tupN sz2 fun t ht => ?_
      have s5 : Same H' (upd H' e (.tup ys)) := same_new he
      have s6 := s5.trans (same_new (o := .tup [.int (n' : Int), .ref e]) ht)
      exact q _ (by omega) (by omega) _ _ _ (hP'.mono s6) ((g5.trans g).trans (.of_same s6)) ⟨t, e, rfl, upd_same, ys, (upd_ne (ne_of_none upd_same ht)).trans upd_same, hys.tk (.of_same s6)⟩ (good_filter (by omega) c)
end

set_option Elab.async false
set_option linter.all false
set_option maxRecDepth 100000
set_option maxHeartbeats 4000000
open PySem PySem.Spec PyProof.Rows L2

abbrev s_law_interval_rows : Stmt := topS 32
theorem sc_law_interval_rows : FnScope ["pool", "n", "rows", "k", "start"] ["pool", "n"] (defScope s_law_interval_rows) := ⟨rfl, rfl, rfl, by decide +kernel, rfl, by decide +kernel, by decide +kernel⟩

abbrev s_law_interval_graph : Stmt := topS 33
theorem sc_law_interval_graph : FnScope ["rows", "pair"] ["rows"] (defScope s_law_interval_graph) := ⟨rfl, rfl, rfl, by decide +kernel, rfl, by decide +kernel, by decide +kernel⟩

section
variable {P : Program} {w : World} {K : PySem.W.Frag} {mg : Str → Option Value} {base : Heap}
theorem flt_next {n i : Nat} {p : Int × Int} (h : (allP n)[i]? = some p) (c : Int × Int → Bool) (b : Bool) : ∃ c' : Int × Int → Bool, ((allP n).take (i + 1)).filter c' = ((allP n).take i).filter c ++ (if b = true then [p] else []) := by
  have pn : p ∉ (allP n).take i := fun z => by
    have nd := asc_nodup (allP_asc n)
    have e := take_next h
    have nd2 : ((allP n).take (i + 1)).Nodup := nd.sublist (List.take_sublist _ _)
    rw [e] at nd2
    exact (List.nodup_append.mp nd2).2.2 p z p (List.mem_singleton.mpr rfl) rfl
  refine ⟨fun z => if z = p then b else c z, ?_⟩
  rw [take_next h, List.filter_append]
  congr 1
  · refine List.filter_congr fun z hz => ?_
    rw [if_neg (fun e => pn (by rw [← e]; exact hz))]
  · cases b <;> simp
theorem flt_small {n i : Nat} (hn : n ≤ 100) (c : Int × Int → Bool) : (((allP n).take i).filter c).length < 100000 := by
  have h2 := List.length_filter_le c ((allP n).take i)
  have h3 := allP_small hn
  rw [List.length_take] at h2
  omega
theorem at_pd {α : Type} {F : V → α → Prop} {xs : List V} {ps : List α} {z : Int} (h : Paired F xs ps) (h0 : 0 ≤ z) (h1 : z < ps.length) : ∃ y r, atI xs z = some y ∧ ps[z.toNat]? = some r ∧ F y r := by
  have hlt : z.toNat < ps.length := by omega
  obtain ⟨y, hy, f⟩ := pd_get2 h (List.getElem?_eq_getElem hlt)
  exact ⟨y, _, at_of (j := z.toNat) (by omega) hy, List.getElem?_eq_getElem hlt, f⟩
/-- n drawn intervals -/
def spRows : Sp := fun vs H Q _ => ∃ (a s : Addr) (n : Int), vs = [.ref a, .int n] ∧ Pool H a s ∧ 0 ≤ n ∧ n ≤ 100 ∧ ∀ (f : Addr) (xs : List V) (ps : List (Int × Int)) (H' : Hp), H f = none → Pool H' a s → Gr a H H' → H' f = some (.lst xs) → Prs H' xs ps → ps.length = n.toNat → Q (.ref f) H'
theorem ok_rows (T : Blt mg) (D : DefAt K mg "_law_interval_rows" s_law_interval_rows ["pool", "n"]) (D_law_draw : DefAt K mg "_law_draw" s_law_draw ["pool", "many"]) (G_law_draw : FnOk P w K mg base CX0 2 D_law_draw.f D_law_draw.fd ["pool", "many"] spDraw) :
    FnOk P w K mg base CX0 3 D.f D.fd ["pool", "n"] spRows := by
  refine D.F.ok sc_law_interval_rows (fun vs H Q E h => ?_) (fun cdv A outer s H vs Q E hr h => ?_)
  · obtain ⟨a, s, n, rfl, _⟩ := h
    rfl
  · obtain ⟨a, s0, n, rfl, hP, n0, n1, q⟩ := h
    refine ⟨_, (pss_cons (ps_set (i := 2) sc_law_interval_rows.nd rfl (Or.inl rfl) (pe_lst pa_nil))
      (pss_cons (ps_for PassesOwn.never (by rfl) (pi_range1 (by rfl) T.range (pa_cons (pv 1) pa_nil)) (pg_name (i := 3) sc_law_interval_rows.nd rfl (Or.inl rfl))
        (pss_cons (ps_set (i := 4) sc_law_interval_rows.nd rfl (Or.inl rfl) (pe_op op_sub (pe_call G_law_draw (hr.mono (by first | decide | omega)) (by rfl) D_law_draw.g D_law_draw.F.kp D_law_draw.b .nil pass0 (pa_cons (pv 0) (pa_cons pe_int pa_nil))) pe_int))
        (pss_one (ps_expr (PE.bmK (K := K) rfl (pe_bm PySem.F.plainAttrs_list PySem.F.slot_list_append PySem.F.type_list_append mt_append (pv 2) (pa_cons (pe_tup (pa_cons (pv 4) (pa_cons (pe_op op_add (pv 4) (pe_call G_law_draw (hr.mono (by first | decide | omega)) (by rfl) D_law_draw.g D_law_draw.F.kp D_law_draw.b .nil pass0 (pa_cons (pv 0) (pa_cons (pe_ix (ix_listK (K := K) rfl) (pe_lst (pa_cons pe_int (pa_cons pe_int (pa_cons pe_int pa_nil)))) (pe_call G_law_draw (hr.mono (by first | decide | omega)) (by rfl) D_law_draw.g D_law_draw.F.kp D_law_draw.b .nil pass0 (pa_cons (pv 0) (pa_cons pe_int pa_nil))) (fun _ _ => rfl)) pa_nil)))) pa_nil))) pa_nil)))))))
      (pss_one (ps_ret (pv 2))))), ?_⟩
    refine r_at (σ := [some _, some _, none, none, none]) rfl ?_
    walk_at "z"
    refine r_lstN (by decide) fun f hf => ?_
    have fa := new_ne hP hf
    walk_at "z"
    refine r_rg1 (by omega) (forR_range (fun i σ' H' => (∃ x3 x4, σ' = [some (.ref a), some (.int n), some (.ref f), x3, x4]) ∧ Pool H' a s0 ∧ Gr a H H' ∧ ∃ xs ps, H' f = some (.lst xs) ∧ Prs H' xs ps ∧ ps.length = i) ⟨⟨_, _, rfl⟩, hP.mono (same_new hf), .new hf, [], [], upd_same, .nil, rfl⟩ ?_ ?_)
    · rintro i σ' H' hi ⟨⟨x3, x4, rfl⟩, hP', g, xs, ps, hx, hp, hl⟩
      walk_at "z"
      refine ⟨a, s0, 9, rfl, hP', by omega, by omega, fun r H1 _ _ hP1 g1 => ?_⟩
      have hx1 := g1 _ _ fa.1 hx
      walk_at "z"
      refine r_lstN sz3 fun l hl3 => ?_
      walk_at "z"
      refine ⟨a, s0, 3, rfl, hP1.mono (same_new hl3), by omega, by omega, fun r2 H2 b0 b1 hP2 g2 => ?_⟩
      have hl2 := g2 _ _ (new_ne hP1 hl3).1 upd_same
      obtain ⟨m, hm, m0, m1⟩ : ∃ m : Int, atI [V.int 1, V.int 3, V.int 6] r2 = some (.int m) ∧ 0 < m ∧ m < 10 := by
        have e : r2 = 0 ∨ r2 = 1 ∨ r2 = 2 := by omega
        rcases e with e | e | e <;> subst e
        · exact ⟨1, rfl, by omega, by omega⟩
        · exact ⟨3, rfl, by omega, by omega⟩
        · exact ⟨6, rfl, by omega, by omega⟩
      walk_at "z"
      refine ⟨a, s0, m, rfl, hP2, by omega, by omega, fun r3 H3 _ _ hP3 g3 => ?_⟩
      walk_at "z"
      have g4 : Gr a H' H3 := ((g1.trans (.new hl3)).trans g2).trans g3
      have hx3 := g4 _ _ fa.1 hx
      refine r_tupN sz2 fun t ht => ?_
      walk_at "z"
      refine r_appT (by walk_at "zh") (small_lt ?_) ?_
      · rw [hp.length, hl]
        omega
      · refine ⟨⟨_, _, rfl⟩, (hP3.mono (same_new ht)).upd fa, ((g.trans g4).trans (.new ht)).mut hf, _, ps ++ [_], upd_same, prs_push hx3 (hp.tk (g4.tk hP')) ht, ?_⟩
        rw [List.length_append, hl]
        rfl
    · rintro σ' H' ⟨⟨x3, x4, rfl⟩, hP', g, xs, ps, hx, hp, hl⟩
      walk_at "z"
      exact q f xs ps H' hf hP' g hx hp hl
/-- the graph of intervals -/
def spIvGraph (K : PySem.W.Frag) : Sp := fun vs H Q _ => ∃ (l : Addr) (xs : List V) (ps : List (Int × Int)), vs = [.ref l] ∧ SqL K H l xs ∧ Prs H xs ps ∧ ps.length ≤ 100 ∧
  ∀ (v : V) (c : Int × Int → Bool) (H' : Hp), Same H H' → GrAt H' v (ps.length : Int) ((allP ps.length).filter c) → Q v H'
theorem ok_ivgraph (T : Blt mg) (D : DefAt K mg "_law_interval_graph" s_law_interval_graph ["rows"]) (D_law_pairs : DefAt K mg "_law_pairs" s_law_pairs ["n"]) (G_law_pairs : FnOk P w K mg base CX0 1 D_law_pairs.f D_law_pairs.fd ["n"] spPairs) :
    FnOk P w K mg base CX0 2 D.f D.fd ["rows"] (spIvGraph K) := by
  refine D.F.ok sc_law_interval_graph (fun vs H Q E h => ?_) (fun cdv A outer s H vs Q E hr h => ?_)
  · obtain ⟨l, xs, ps, rfl, _⟩ := h
    rfl
  · obtain ⟨l, xs, ps, rfl, hl, hp, hlen, q⟩ := h
    refine ⟨_, (pss_one (ps_ret (pe_tup (pa_cons (pe_callB (call_lenK (K := K) rfl) (by rfl) T.len (by decide +kernel) (pa_cons (pv 0) pa_nil)) (pa_cons (pe_callTy (call_tupleK (K := K) rfl) (by rfl) T.tuple (by decide +kernel) (pa_cons (pe_lc (own := [("pair", 1)]) (by rfl) sc_law_interval_graph.nd (PI.listK (K := K) rfl (pi_list (pe_call G_law_pairs (hr.mono (by first | decide | omega)) (by rfl) D_law_pairs.g D_law_pairs.F.kp D_law_pairs.b .nil pass0 (pa_cons (pe_callB (call_lenK (K := K) rfl) (by rfl) T.len (by decide +kernel) (pa_cons (pv 0) pa_nil)) pa_nil)))) (blkOk_by (own := [("pair", 1)]) (N := ["rows", "pair"]) (sc := (defScope s_law_interval_graph)) (by decide +kernel)) (fun _ _ _ _ _ => (pg_name (i := 1) sc_law_interval_graph.nd rfl (Or.inl rfl))) (fun _ _ _ _ _ => (pts_one (PW.pt (pw_and (pt_cmpR op_le (pe_ix (ix_tupK (K := K) rfl) (pe_ix (ix_listK (K := K) rfl) (pv 0) (pe_ix (ix_tupK (K := K) rfl) (pv 1) pe_int (fun _ _ => rfl)) (fun _ _ => rfl)) pe_int (fun _ _ => rfl)) (pe_ix (ix_tupK (K := K) rfl) (pe_ix (ix_listK (K := K) rfl) (pv 0) (pe_ix (ix_tupK (K := K) rfl) (pv 1) pe_int (fun _ _ => rfl)) (fun _ _ => rfl)) pe_int (fun _ _ => rfl)) (nomark _)) (pw_and1 (pt_cmpR op_le (pe_ix (ix_tupK (K := K) rfl) (pe_ix (ix_listK (K := K) rfl) (pv 0) (pe_ix (ix_tupK (K := K) rfl) (pv 1) pe_int (fun _ _ => rfl)) (fun _ _ => rfl)) pe_int (fun _ _ => rfl)) (pe_ix (ix_tupK (K := K) rfl) (pe_ix (ix_listK (K := K) rfl) (pv 0) (pe_ix (ix_tupK (K := K) rfl) (pv 1) pe_int (fun _ _ => rfl)) (fun _ _ => rfl)) pe_int (fun _ _ => rfl)) (nomark _))))))) (fun _ _ _ _ _ => (pv 1))) pa_nil)) pa_nil))))), ?_⟩
    refine r_at (σ := [some _, none]) rfl ?_
    walk_at "z"
    rw [hp.length]
    refine ⟨ps.length, rfl, hlen, fun f zs H1 hf s1 hz hzs => ?_⟩
    refine r_il (.inl (.inl hz)) fun d hd => lcR_list (xs := zs) (fun i H' => Same H1 H' ∧ ∃ ys c, H' d = some (.lst ys) ∧ Prs H' ys (((allP ps.length).take i).filter c)) (by walk_at "zw") ⟨same_new hd, [], fun _ => true, upd_same, .nil⟩ (fun i H' _ ⟨s2, _⟩ => .inl (.inl (s2 _ _ hz))) ?_ ?_
    · rintro i x H' hx ⟨s2, ys, c, hy, hys⟩
      obtain ⟨p, hpi, hxp⟩ := pd_get (hzs.tk (.of_same s2)) hx
      obtain ⟨b1, b2, b3⟩ := mem_allP.mp (List.mem_of_getElem? hpi)
      obtain ⟨t, rfl, ht⟩ := id hxp
      have sm := s1.trans s2
      have hl' := sm.seq hl
      have hp' := hp.tk (.of_same sm)
      obtain ⟨y1, r1, e1, _, t1, rfl, f1⟩ := at_pd hp' b1 (by omega)
      obtain ⟨y2, r2, e2, _, t2, rfl, f2⟩ := at_pd hp' (show 0 ≤ p.2 by omega) (by omega)
      -- the turn's end
      have yes : LcE d (fun H' => Same H1 H' ∧ ∃ ys c, H' d = some (.lst ys) ∧ Prs H' ys (((allP ps.length).take (i + 1)).filter c)) (V.ref t) H' := by
        obtain ⟨c', e⟩ := flt_next hpi c true
        refine r_lce hy (small_lt (by rw [hys.length]; exact flt_small hlen c)) ⟨same_mut s2 hd, _, c', upd_same, ?_⟩
        rw [e, if_pos rfl]
        exact (hys.tk (.lst hy)).snoc (hxp.tk (.lst hy))
      have no : Same H1 H' ∧ ∃ ys c, H' d = some (.lst ys) ∧ Prs H' ys (((allP ps.length).take (i + 1)).filter c) := by
        obtain ⟨c', e⟩ := flt_next hpi c false
        refine ⟨s2, ys, c', hy, ?_⟩
        rw [e, if_neg Bool.false_ne_true, List.append_nil]
        exact hys
      walk_at "z"
      refine ⟨rfl, ?_⟩
      walk_at "z"
      refine r_ite (fun h => ?_) (fun h => ?_)
      · walk_at "z"
        refine r_ite (fun h => ?_) (fun h => ?_)
        · walk_at "z"
          exact yes
        · exact no
      · walk_at "z"
        exact no
    · rintro H' ⟨s2, ys, c, hy, hys⟩
      rw [hzs.length, List.take_length] at hys
      walk_at "z"
      refine r_tupL (.inl (.inl hy)) fun e he => ?_
      walk_at "z"
      refine r_tupN sz2 fun t ht => ?_
      have s5 : Same H' (upd H' e (.tup ys)) := same_new he
      have s6 := s5.trans (same_new (o := .tup [.int (ps.length : Int), .ref e]) ht)
      exact q _ c _ ((s1.trans s2).trans s6) ⟨t, e, rfl, upd_same, ys, (upd_ne (ne_of_none upd_same ht)).trans upd_same, hys.tk (.of_same s6)⟩
end

set_option Elab.async false
set_option linter.all false
set_option maxRecDepth 100000
set_option maxHeartbeats 4000000
open PySem PySem.Spec PyProof.Rows L2

abbrev s_law_ringed : Stmt := topS 44
theorem sc_law_ringed : FnScope ["pool", "n", "m", "pairs", "v", "k", "u"] ["pool", "n"] (defScope s_law_ringed) := ⟨rfl, rfl, rfl, by decide +kernel, rfl, by decide +kernel, by decide +kernel⟩

abbrev s_law_clique_graph : Stmt := topS 36
theorem sc_law_clique_graph : FnScope ["pool", "n", "cliques", "pairs", "v", "base", "kept", "u"] ["pool", "n"] (defScope s_law_clique_graph) := ⟨rfl, rfl, rfl, by decide +kernel, rfl, by decide +kernel, by decide +kernel⟩

section
variable {P : Program} {w : World} {K : PySem.W.Frag} {mg : Str → Option Value} {base : Heap}
theorem idx_spec : ∀ {ns : List Int} {z : Int}, z ∈ ns → ns[ns.idxOf z]? = some z ∧ ∀ m, m < ns.idxOf z → ns[m]? ≠ some z
  | [], _, h => by cases h
  | x :: ns, z, h => by
    rw [List.idxOf_cons]
    by_cases e : x = z
    · subst e
      simp
    · have hz : z ∈ ns := by
        rcases List.mem_cons.mp h with q | q
        · exact absurd q.symm e
        · exact q
      obtain ⟨h1, h2⟩ := idx_spec hz
      have eb : (x == z) = false := by simp [e]
      rw [eb]
      simp only [cond_false]
      refine ⟨by simpa using h1, fun m hm => ?_⟩
      cases m with
      | zero => simp [e]
      | succ m =>
        have := h2 m (by omega)
        simpa using this
theorem flat_ints (ns : List Int) : (ns.map V.int).all flatV = true := by
  rw [List.all_eq_true]
  intro x hx
  obtain ⟨n, _, rfl⟩ := List.mem_map.mp hx
  rfl
theorem eqV_int (i j : Int) : eqV (.int i) (.int j) = decide (i = j) := by
  show (i == j) = decide (i = j)
  exact int_beq i j
theorem r_index {H : Hp} {Q : VK} {l : Addr} {ns : List Int} {z : Int} (h : SqL K H l (ns.map V.int)) (hm : z ∈ ns) (q : Q (.int (ns.idxOf z : Nat)) H) : rIndex K (.ref l) [.int z] H Q := by
  obtain ⟨h1, h2⟩ := idx_spec hm
  refine ⟨l, ns.map V.int, .int z, ns.idxOf z, .int z, rfl, rfl, h, rfl, flat_ints ns, by rw [List.getElem?_map, h1]; rfl, by rw [eqV_int]; simp, fun m z' hm hz => ?_, q⟩
  rw [List.getElem?_map] at hz
  obtain ⟨y, hy, rfl⟩ := Option.map_eq_some_iff.mp hz
  rw [eqV_int]
  refine decide_eq_false fun e => h2 m hm ?_
  rw [hy, e]
abbrev s_law_turned_graph : Stmt := topS 34
theorem sc_law_turned_graph : FnScope ["one", "two", "first", "second", "found", "u", "v"] ["one", "two"] (defScope s_law_turned_graph) := ⟨rfl, rfl, rfl, by decide +kernel, rfl, by decide +kernel, by decide +kernel⟩

/-- the pairs that stand in another order in both -/
def spTurned (K : PySem.W.Frag) : Sp := fun vs H Q _ => ∃ (l1 l2 : Addr) (ns ms : List Int), vs = [.ref l1, .ref l2] ∧ SqL K H l1 (ns.map V.int) ∧ SqL K H l2 (ms.map V.int) ∧ ns.length ≤ 100 ∧ (∀ z : Int, 0 ≤ z → z < ns.length → z ∈ ns ∧ z ∈ ms) ∧
  ∀ (v : V) (c : Int × Int → Bool) (H' : Hp), Same H H' → GrAt H' v (ns.length : Int) ((allP ns.length).filter c) → Q v H'
theorem ok_turned (T : Blt mg) (D : DefAt K mg "_law_turned_graph" s_law_turned_graph ["one", "two"]) (D_law_pairs : DefAt K mg "_law_pairs" s_law_pairs ["n"]) (G_law_pairs : FnOk P w K mg base CX0 1 D_law_pairs.f D_law_pairs.fd ["n"] spPairs) :
    FnOk P w K mg base CX0 2 D.f D.fd ["one", "two"] (spTurned K) := by
  refine D.F.ok sc_law_turned_graph (fun vs H Q E h => ?_) (fun cdv A outer s H vs Q E hr h => ?_)
  · obtain ⟨l1, l2, ns, ms, rfl, _⟩ := h
    rfl
  · obtain ⟨l1, l2, ns, ms, rfl, hl1, hl2, hlen, hall, q⟩ := h
    refine ⟨_, (pss_cons (ps_set (i := 2) sc_law_turned_graph.nd rfl (Or.inl rfl) (pe_callTy (call_listK (K := K) rfl) (by rfl) T.list (by decide +kernel) (pa_cons (pv 0) pa_nil)))
      (pss_cons (ps_set (i := 3) sc_law_turned_graph.nd rfl (Or.inl rfl) (pe_callTy (call_listK (K := K) rfl) (by rfl) T.list (by decide +kernel) (pa_cons (pv 1) pa_nil)))
      (pss_cons (ps_set (i := 4) sc_law_turned_graph.nd rfl (Or.inl rfl) (pe_lst pa_nil))
      (pss_cons (ps_for PassesOwn.never (by rfl) (PI.listK (K := K) rfl (pi_list (pe_call G_law_pairs (hr.mono (by first | decide | omega)) (by rfl) D_law_pairs.g D_law_pairs.F.kp D_law_pairs.b .nil pass0 (pa_cons (pe_callB (call_lenK (K := K) rfl) (by rfl) T.len (by decide +kernel) (pa_cons (pv 2) pa_nil)) pa_nil)))) (PG.tupK (K := K) rfl (pg_tup (n := 2) rfl (pgs_cons (pg_name (i := 5) sc_law_turned_graph.nd rfl (Or.inl rfl)) (pgs_cons (pg_name (i := 6) sc_law_turned_graph.nd rfl (Or.inl rfl)) pgs_nil))))
        (pss_one (ps_if (pt_cmpR op_ne (pe_cmpR op_lt (PE.bmK (K := K) rfl (pe_bm PySem.F.plainAttrs_list PySem.F.slot_list_index PySem.F.type_list_index (mt_indexK (K := K) rfl) (pv 2) (pa_cons (pv 5) pa_nil))) (PE.bmK (K := K) rfl (pe_bm PySem.F.plainAttrs_list PySem.F.slot_list_index PySem.F.type_list_index (mt_indexK (K := K) rfl) (pv 2) (pa_cons (pv 6) pa_nil))) (nomark _)) (pe_cmpR op_lt (PE.bmK (K := K) rfl (pe_bm PySem.F.plainAttrs_list PySem.F.slot_list_index PySem.F.type_list_index (mt_indexK (K := K) rfl) (pv 3) (pa_cons (pv 5) pa_nil))) (PE.bmK (K := K) rfl (pe_bm PySem.F.plainAttrs_list PySem.F.slot_list_index PySem.F.type_list_index (mt_indexK (K := K) rfl) (pv 3) (pa_cons (pv 6) pa_nil))) (nomark _)) (nomark _))
          (pss_one (ps_expr (PE.bmK (K := K) rfl (pe_bm PySem.F.plainAttrs_list PySem.F.slot_list_append PySem.F.type_list_append mt_append (pv 4) (pa_cons (pe_tup (pa_cons (pv 5) (pa_cons (pv 6) pa_nil))) pa_nil)))))
          pss_nil)))
      (pss_one (ps_ret (pe_tup (pa_cons (pe_callB (call_lenK (K := K) rfl) (by rfl) T.len (by decide +kernel) (pa_cons (pv 2) pa_nil)) (pa_cons (pe_callTy (call_tupleK (K := K) rfl) (by rfl) T.tuple (by decide +kernel) (pa_cons (pv 4) pa_nil)) pa_nil))))))))), ?_⟩
    refine r_at (σ := [some _, some _, none, none, none, none, none]) rfl ?_
    walk_at "z"
    refine r_listL hl1 fun f1 hf1 => ?_
    have sa : Same H (upd H f1 (.lst (ns.map V.int))) := same_new hf1
    walk_at "z"
    refine r_listL (sa.seq hl2) fun f2 hf2 => ?_
    have sb := sa.trans (same_new (o := .lst (ms.map V.int)) hf2)
    walk_at "z"
    refine r_lstN (by decide) fun f hf => ?_
    have sc := sb.trans (same_new (o := .lst []) hf)
    have n12 : f1 ≠ f2 := ne_of_none upd_same hf2
    have n1f : f1 ≠ f := ne_of_none ((upd_ne n12).trans upd_same) hf
    have n2f : f2 ≠ f := ne_of_none upd_same hf
    walk_at "z"
    rw [List.length_map]
    refine ⟨ns.length, rfl, hlen, fun l zs H1 hl s1 hz hzs => ?_⟩
    have h1 : H1 f1 = some (.lst (ns.map V.int)) := s1 _ _ ((upd_ne n1f).trans ((upd_ne n12).trans upd_same))
    have h2 : H1 f2 = some (.lst (ms.map V.int)) := s1 _ _ ((upd_ne n2f).trans upd_same)
    have hff : H1 f = some (.lst []) := s1 _ _ upd_same
    have nlf : l ≠ f := fun e => by
      rw [e, upd_same] at hl
      cases hl
    have hf0 : H f = none := sb.free hf
    -- the lists that stand
    refine r_il (.inl (.inl hz)) (forR_list (xs := zs) (fun i σ' H' => (∃ x5 x6, σ' = [some (.ref l1), some (.ref l2), some (.ref f1), some (.ref f2), some (.ref f), x5, x6]) ∧ Same H H' ∧ TK H1 H' ∧ H' l = some (.lst zs) ∧ H' f1 = some (.lst (ns.map V.int)) ∧ H' f2 = some (.lst (ms.map V.int)) ∧ ∃ ys c, H' f = some (.lst ys) ∧ Prs H' ys (((allP ns.length).take i).filter c))
      ⟨⟨_, _, rfl⟩, sc.trans s1, .refl _, hz, h1, h2, [], fun _ => true, hff, .nil⟩ (fun i σ' H' _ ⟨_, _, _, h, _⟩ => .inl (.inl h)) ?_ ?_)
    · rintro i x σ' H' hx ⟨⟨x5, x6, rfl⟩, sm, tk, hl', g1, g2, ys, c, hy, hys⟩
      obtain ⟨p, hpi, hxp⟩ := pd_get (hzs.tk tk) hx
      obtain ⟨b1, b2, b3⟩ := mem_allP.mp (List.mem_of_getElem? hpi)
      obtain ⟨t, rfl, ht⟩ := id hxp
      obtain ⟨m1, m2⟩ := hall p.1 b1 (by omega)
      obtain ⟨m3, m4⟩ := hall p.2 (by omega) (by omega)
      refine r_gtup (.inl (.inl ht)) rfl ?_
      walk_at "z"
      refine r_index (.inl (.inl g1)) m1 ?_
      walk_at "z"
      refine r_index (.inl (.inl g1)) m3 ?_
      walk_at "z"
      refine r_index (.inl (.inl g2)) m2 ?_
      walk_at "z"
      refine r_index (.inl (.inl g2)) m4 ?_
      walk_at "z"
      refine r_iteB (fun h => ?_) (fun h => ?_)
      · walk_at "z"
        refine r_tupN sz2 fun t2 ht2 => ?_
        walk_at "z"
        obtain ⟨c', e⟩ := flt_next hpi c true
        refine r_appT (by walk_at "zh") (small_lt (by rw [hys.length]; exact flt_small hlen c)) ?_
        have kk : TK H' (upd (upd H' t2 (.tup [.int p.1, .int p.2])) f (.lst (ys ++ [.ref t2]))) := (TK.new ht2).trans (.lst (by walk_at "zh"))
        have old : ∀ (b : Addr) (o : HO), b ≠ f → H' b = some o → (upd (upd H' t2 (.tup [.int p.1, .int p.2])) f (.lst (ys ++ [.ref t2]))) b = some o := fun b o n e => by
          rw [upd_ne n, upd_ne (ne_of_none e ht2)]
          exact e
        refine ⟨⟨_, _, rfl⟩, same_mut (sm.trans (same_new ht2)) hf0, tk.trans kk, old _ _ nlf hl', old _ _ n1f g1, old _ _ n2f g2, _, c', upd_same, ?_⟩
        rw [e, if_pos rfl]
        exact prs_push hy hys ht2
      · walk_at "z"
        obtain ⟨c', e⟩ := flt_next hpi c false
        refine ⟨⟨_, _, rfl⟩, sm, tk, hl', g1, g2, ys, c', hy, ?_⟩
        rw [e, if_neg Bool.false_ne_true, List.append_nil]
        exact hys
    · rintro σ' H' ⟨⟨x5, x6, rfl⟩, sm, tk, hl', g1, g2, ys, c, hy, hys⟩
      rw [hzs.length, List.take_length] at hys
      walk_at "z"
      rw [List.length_map]
      refine r_tupL (.inl (.inl hy)) fun e he => ?_
      walk_at "z"
      refine r_tupN sz2 fun t ht => ?_
      have s5 : Same H' (upd H' e (.tup ys)) := same_new he
      have s6 := s5.trans (same_new (o := .tup [.int (ns.length : Int), .ref e]) ht)
      exact q _ c _ (sm.trans s6) ⟨t, e, rfl, upd_same, ys, (upd_ne (ne_of_none upd_same ht)).trans upd_same, hys.tk (.of_same s6)⟩
theorem good_of {n : Int} {ps qs : List (Int × Int)} (h1 : 1 ≤ n) (bd : ∀ r ∈ ps, 0 ≤ r.1 ∧ r.1 < n ∧ 0 ≤ r.2 ∧ r.2 < n ∧ r.1 ≠ r.2) (asc : qs.Pairwise ltP) (mem : ∀ p, p ∈ qs ↔ ∃ r ∈ ps, p = nrm r) : GoodG n qs := by
  refine ⟨h1, asc, fun p hp => ?_⟩
  obtain ⟨r, hr, rfl⟩ := (mem p).mp hp
  obtain ⟨b1, b2, b3, b4, b5⟩ := bd r hr
  unfold nrm
  simp only
  omega
/-- a ring and more -/
def spRinged : Sp := fun vs H Q _ => ∃ (a s : Addr) (n : Int), vs = [.ref a, .int n] ∧ Pool H a s ∧ 1 ≤ n ∧ n ≤ 60 ∧ GenQ a s H n Q
theorem r_cat {H : Hp} {Q : VK} {l b : Addr} {xs zs : List V} (h1 : H l = some (.lst xs)) (h2 : H b = some (.lst zs)) (hz : xs.length + zs.length ≤ 100000) (q : ∀ p, H p = none → Q (.ref p) (upd H p (.lst (xs ++ zs)))) : rCat (.ref l) (.ref b) H Q := ⟨l, b, xs, zs, rfl, rfl, h1, h2, small_len hz, q⟩
theorem ok_ringed (T : Blt mg) (D : DefAt K mg "_law_ringed" s_law_ringed ["pool", "n"]) (D_law_draw : DefAt K mg "_law_draw" s_law_draw ["pool", "many"]) (G_law_draw : FnOk P w K mg base CX0 2 D_law_draw.f D_law_draw.fd ["pool", "many"] spDraw)
    (D_law_of : DefAt K mg "_law_of" s_law_of ["n", "pairs"]) (G_law_of : FnOk P w K mg base CX0 3 D_law_of.f D_law_of.fd ["n", "pairs"] (spOf K)) :
    FnOk P w K mg base CX0 4 D.f D.fd ["pool", "n"] spRinged := by
  refine D.F.ok sc_law_ringed (fun vs H Q E h => ?_) (fun cdv A outer s H vs Q E hr h => ?_)
  · obtain ⟨a, s, n, rfl, _⟩ := h
    rfl
  · obtain ⟨a, s0, n, rfl, hP, n0, n1, q⟩ := h
    refine ⟨_, (pss_cons (ps_set (i := 2) sc_law_ringed.nd rfl (Or.inr rfl) (pe_op op_sub (pv 1) (pe_call G_law_draw (hr.mono (by first | decide | omega)) (by rfl) D_law_draw.g D_law_draw.F.kp D_law_draw.b .nil pass0 (pa_cons (pv 0) (pa_cons (pe_callB (call_max2' rfl) (by rfl) T.max (by decide +kernel) (pa_cons pe_int (pa_cons (pe_op op_sub (pv 1) pe_int) pa_nil))) pa_nil)))))
      (pss_cons (ps_setLc (i := 3) (own := [("k", 5)]) (by rfl) sc_law_ringed.nd rfl rfl (sw_true rfl rfl rfl (by decide +kernel)) (pi_range1 (by rfl) T.range (pa_cons (pv 2) pa_nil)) (blkOk_by (own := [("k", 5)]) (N := ["pool", "n", "m", "pairs", "v", "k", "u"]) (sc := (defScope s_law_ringed)) (by decide +kernel)) (fun _ _ _ _ _ => (pg_name (i := 5) sc_law_ringed.nd rfl (Or.inl rfl))) (fun _ _ _ _ _ => (pts_one (pt_cmpR op_gt (pv 2) pe_int (nomark _)))) (fun _ _ _ _ _ => (pe_tup (pa_cons (pv 5) (pa_cons (pe_op op_mod (pe_op op_add (pv 5) pe_int) (pv 2)) pa_nil)))))
      (pss_cons (ps_for PassesOwn.never (by rfl) (pi_range2 (by rfl) T.range (pa_cons (pv 2) (pa_cons (pv 1) pa_nil))) (pg_name (i := 4) sc_law_ringed.nd rfl (Or.inr rfl))
        (pss_one (ps_set (i := 3) sc_law_ringed.nd rfl (Or.inl rfl) (pe_op op_cat (pv 3) (pe_lc (own := [("u", 6)]) (by rfl) sc_law_ringed.nd (pi_range1 (by rfl) T.range (pa_cons (pv 4) pa_nil)) (blkOk_by (own := [("u", 6)]) (N := ["pool", "n", "m", "pairs", "v", "k", "u"]) (sc := (defScope s_law_ringed)) (by decide +kernel)) (fun _ _ _ _ _ => (pg_name (i := 6) sc_law_ringed.nd rfl (Or.inl rfl))) (fun _ _ _ _ _ => (pts_one (pt_cmpR op_eq (pe_call G_law_draw (hr.mono (by first | decide | omega)) (by rfl) D_law_draw.g D_law_draw.F.kp D_law_draw.b .nil pass0 (pa_cons (pv 0) (pa_cons pe_int pa_nil))) pe_int (nomark _)))) (fun _ _ _ _ _ => (pe_tup (pa_cons (pv 6) (pa_cons (pv 4) pa_nil)))))))))
      (pss_one (ps_ret (pe_call G_law_of (hr.mono (by first | decide | omega)) (by rfl) D_law_of.g D_law_of.F.kp D_law_of.b .nil pass0 (pa_cons (pv 1) (pa_cons (pv 3) pa_nil)))))))), ?_⟩
    refine r_at (σ := [some _, some _, none, none, none, none, none]) rfl ?_
    walk_at "z"
    refine ⟨a, s0, _, rfl, hP, by omega, by omega, fun r H1 r0 r1 hP1 g1 => ?_⟩
    walk_at "z"
    obtain ⟨m, hm⟩ : ∃ m : Nat, n - r = (m : Int) := ⟨(n - r).toNat, by omega⟩
    rw [hm]
    have m1 : 1 ≤ m := by omega
    have m2 : m ≤ n.toNat := by omega
    let Bd : List (Int × Int) → Prop := fun ps => ∀ p ∈ ps, 0 ≤ p.1 ∧ p.1 < n ∧ 0 ≤ p.2 ∧ p.2 < n ∧ p.1 ≠ p.2
    have bd1 : ∀ {ps : List (Int × Int)} {u v : Int}, Bd ps → 0 ≤ u → u < n → 0 ≤ v → v < n → u ≠ v → Bd (ps ++ [(u, v)]) := fun {ps u v} h h1 h2 h3 h4 h5 p hp => by
      rcases List.mem_append.mp hp with z | z
      · exact h p z
      · rw [List.mem_singleton.mp z]
        exact ⟨h1, h2, h3, h4, h5⟩
    refine r_rg1 (by omega) fun d hd => lcR_range (fun i H' => Same H1 H' ∧ ∃ ys ps, H' d = some (.lst ys) ∧ Prs H' ys ps ∧ Bd ps ∧ ps.length ≤ i) (by walk_at "zw") ⟨same_new hd, [], [], upd_same, .nil, (fun p hp => by cases hp), Nat.le_refl _⟩ ?_ ?_
    · rintro i H' hi ⟨sm, ys, ps, hy, hys, bd, hl⟩
      have hi : i < m := by omega
      walk_at "z"
      refine ⟨rfl, ?_⟩
      walk_at "z"
      refine r_ite (fun h => ?_) (fun h => ?_)
      · walk_at "z"
        refine r_tupN sz2 fun t ht => ?_
        have hmod : 0 ≤ (0 + (i : Int) + 1) % (m : Int) ∧ (0 + (i : Int) + 1) % (m : Int) < m := ⟨Int.emod_nonneg _ (by omega), Int.emod_lt_of_pos _ (by omega)⟩
        have hne : (0 + (i : Int)) ≠ (0 + (i : Int) + 1) % (m : Int) := by
          by_cases e : i + 1 = m
          · have : (0 + (i : Int) + 1) % (m : Int) = 0 := by
              rw [show (0 : Int) + (i : Int) + 1 = (m : Int) by omega]
              exact Int.emod_self
            omega
          · have : (0 + (i : Int) + 1) % (m : Int) = 0 + (i : Int) + 1 := Int.emod_eq_of_lt (by omega) (by omega)
            omega
        refine r_lce (by walk_at "zh") (small_lt (by rw [hys.length]; omega)) ⟨same_mut (sm.trans (same_new ht)) hd, _, _, upd_same, prs_push hy hys ht, bd1 bd (by omega) (by omega) hmod.1 (by omega) hne, by rw [List.length_append]; simp only [List.length_cons, List.length_nil]; omega⟩
      · exact ⟨sm, ys, ps, hy, hys, bd, by omega⟩
    · rintro H' ⟨sm, ys, ps, hy, hys, bd, hl⟩
      walk_at "z"
      have g2 : Gr a H H' := g1.trans (.of_same sm)
      refine r_rg2 (by omega) (forR_range (fun i σ' H' => (∃ b x4, σ' = [some (.ref a), some (.int n), some (.int (m : Int)), some (.ref b), x4, none, none] ∧ (b ≠ a ∧ b ≠ s0) ∧ ∃ ys ps, H' b = some (.lst ys) ∧ Prs H' ys ps ∧ Bd ps ∧ ps.length ≤ 60 + 60 * i) ∧ Pool H' a s0 ∧ Gr a H H') ⟨⟨d, _, rfl, new_ne hP1 hd, ys, ps, hy, hys, bd, by omega⟩, hP1.mono sm, g2⟩ ?_ ?_)
      · rintro i σ' H' hi ⟨⟨b, x4, rfl, ba, ys, ps, hy, hys, bd, hl⟩, hP', g⟩
        have hi : m + i < n.toNat := by omega
        walk_at "z"
        refine r_rg1 (by omega) fun c hc => lcR_range (fun j H3 => Pool H3 a s0 ∧ Gr a H' H3 ∧ ∃ zs rs, H3 c = some (.lst zs) ∧ Prs H3 zs rs ∧ Bd rs ∧ rs.length ≤ j) (by walk_at "zw") ⟨hP'.mono (same_new hc), .new hc, [], [], upd_same, .nil, (fun p hp => by cases hp), Nat.le_refl _⟩ ?_ ?_
        · rintro j H3 hj ⟨hP3, g3, zs, rs, hz, hzs, bdr, hlr⟩
          have hj : j < m + i := by omega
          walk_at "z"
          refine ⟨rfl, ?_⟩
          walk_at "z"
          refine ⟨a, s0, 3, rfl, hP3, by omega, by omega, fun r2 H4 _ _ hP4 g4 => ?_⟩
          have ca := new_ne hP' hc
          have hz4 := g4 _ _ ca.1 hz
          walk_at "z"
          refine r_ite (fun h => ?_) (fun h => ?_)
          · walk_at "z"
            refine r_tupN sz2 fun t ht => ?_
            refine r_lce (by walk_at "zh") (small_lt (by rw [hzs.length]; omega)) ⟨(hP4.mono (same_new ht)).upd ca, ((g3.trans g4).trans (.new ht)).mut hc, _, _, upd_same, prs_push hz4 (hzs.tk (g4.tk hP3)) ht, bd1 bdr (by omega) (by omega) (by omega) (by omega) (by omega), by rw [List.length_append]; simp only [List.length_cons, List.length_nil]; omega⟩
          · exact ⟨hP4, g3.trans g4, zs, rs, hz4, hzs.tk (g4.tk hP3), bdr, by omega⟩
        · rintro H3 ⟨hP3, g3, zs, rs, hz, hzs, bdr, hlr⟩
          have hy3 := g3 _ _ ba.1 hy
          refine r_cat hy3 hz (by rw [hys.length, hzs.length]; omega) fun e he => ?_
          walk_at "z"
          refine ⟨⟨e, _, rfl, new_ne hP3 he, _, ps ++ rs, upd_same, Prs.tk (.new he) (pd_append (hys.tk (g3.tk hP')) hzs), fun p hp => ?_, ?_⟩, hP3.mono (same_new he), (g.trans g3).trans (.new he)⟩
          · rcases List.mem_append.mp hp with z | z
            · exact bd p z
            · exact bdr p z
          · rw [List.length_append]
            omega
      · rintro σ' H' ⟨⟨b, x4, rfl, ba, ys, ps, hy, hys, bd, hl⟩, hP', g⟩
        walk_at "z"
        refine ⟨n, b, ys, ps, rfl, .inl (.inl hy), hys, by omega, fun v qs H2 s2 hv asc mem => ?_⟩
        exact q v qs H2 (hP'.mono s2) (g.trans (.of_same s2)) hv (good_of n0 bd asc mem)
theorem lt_of_le_nodup {ps : List (Int × Int)} (h1 : ps.Pairwise leP) (h2 : ps.Nodup) : ps.Pairwise ltP := (List.pairwise_and_iff.mpr ⟨h1, h2⟩).imp fun {p q} h => ltP_of_le_ne h.1 h.2
/-- a graph of cliques -/
def spClique : Sp := fun vs H Q _ => ∃ (a s : Addr) (n : Int), vs = [.ref a, .int n] ∧ Pool H a s ∧ 1 ≤ n ∧ n ≤ 60 ∧ GenQ a s H n Q
/-- lists of different vertices below i -/
def Clq (H : Hp) (C a s : Addr) (as : List Addr) (i : Nat) : Prop := ∀ x ∈ as, x ≠ C ∧ x ≠ a ∧ x ≠ s ∧ ∃ ns : List Int, H x = some (.lst (ns.map V.int)) ∧ ns.Nodup ∧ (∀ z ∈ ns, 0 ≤ z ∧ z < i) ∧ ns.length ≤ i
theorem ok_clique (T : Blt mg) (D : DefAt K mg "_law_clique_graph" s_law_clique_graph ["pool", "n"]) (D_law_draw : DefAt K mg "_law_draw" s_law_draw ["pool", "many"]) (G_law_draw : FnOk P w K mg base CX0 2 D_law_draw.f D_law_draw.fd ["pool", "many"] spDraw) :
    FnOk P w K mg base CX0 4 D.f D.fd ["pool", "n"] spClique := by
  refine D.F.ok sc_law_clique_graph (fun vs H Q E h => ?_) (fun cdv A outer s H vs Q E hr h => ?_)
  · obtain ⟨a, s, n, rfl, _⟩ := h
    rfl
  · obtain ⟨a, s0, n, rfl, hP, n0, n1, q⟩ := h
    refine ⟨_, (pss_cons (ps_set (i := 2) sc_law_clique_graph.nd rfl (Or.inl rfl) (pe_lst (pa_cons (pe_lst pa_nil) pa_nil)))
      (pss_cons (ps_set (i := 3) sc_law_clique_graph.nd rfl (Or.inl rfl) (pe_lst pa_nil))
      (pss_cons (ps_for PassesOwn.never (by rfl) (pi_range1 (by rfl) T.range (pa_cons (pv 1) pa_nil)) (pg_name (i := 4) sc_law_clique_graph.nd rfl (Or.inr rfl))
        (pss_cons (ps_set (i := 5) sc_law_clique_graph.nd rfl (Or.inl rfl) (pe_ix (ix_listK (K := K) rfl) (pv 2) (pe_call G_law_draw (hr.mono (by first | decide | omega)) (by rfl) D_law_draw.g D_law_draw.F.kp D_law_draw.b .nil pass0 (pa_cons (pv 0) (pa_cons (pe_callB (call_lenK (K := K) rfl) (by rfl) T.len (by decide +kernel) (pa_cons (pv 2) pa_nil)) pa_nil))) (fun _ _ => rfl)))
        (pss_cons (ps_setLc (i := 6) (own := [("u", 7)]) (by rfl) sc_law_clique_graph.nd rfl rfl (sw_true rfl rfl rfl (by decide +kernel)) (PI.listK (K := K) rfl (pi_list (pv 5))) (blkOk_by (own := [("u", 7)]) (N := ["pool", "n", "cliques", "pairs", "v", "base", "kept", "u"]) (sc := (defScope s_law_clique_graph)) (by decide +kernel)) (fun _ _ _ _ _ => (pg_name (i := 7) sc_law_clique_graph.nd rfl (Or.inl rfl))) (fun _ _ _ _ _ => (pts_one (pt_cmpR op_gt (pe_call G_law_draw (hr.mono (by first | decide | omega)) (by rfl) D_law_draw.g D_law_draw.F.kp D_law_draw.b .nil pass0 (pa_cons (pv 0) (pa_cons pe_int pa_nil))) pe_int (nomark _)))) (fun _ _ _ _ _ => (pv 7)))
        (pss_cons (ps_set (i := 3) sc_law_clique_graph.nd rfl (Or.inl rfl) (pe_op op_cat (pv 3) (pe_lc (own := [("u", 7)]) (by rfl) sc_law_clique_graph.nd (PI.listK (K := K) rfl (pi_list (pv 6))) (blkOk_by (own := [("u", 7)]) (N := ["pool", "n", "cliques", "pairs", "v", "base", "kept", "u"]) (sc := (defScope s_law_clique_graph)) (by decide +kernel)) (fun _ _ _ _ _ => (pg_name (i := 7) sc_law_clique_graph.nd rfl (Or.inl rfl))) (fun _ _ _ _ _ => pts_nil) (fun _ _ _ _ _ => (pe_tup (pa_cons (pv 7) (pa_cons (pv 4) pa_nil)))))))
        (pss_one (ps_expr (PE.bmK (K := K) rfl (pe_bm PySem.F.plainAttrs_list PySem.F.slot_list_append PySem.F.type_list_append mt_append (pv 2) (pa_cons (pe_op op_cat (pv 6) (pe_lst (pa_cons (pv 4) pa_nil))) pa_nil)))))))))
      (pss_one (ps_ret (pe_tup (pa_cons (pv 1) (pa_cons (pe_callTy (call_tupleK (K := K) rfl) (by rfl) T.tuple (by decide +kernel) (pa_cons (pe_callB (cr_sortPrK (K := K) rfl) (by rfl) T.sorted (by decide +kernel) (pa_cons (pv 3) pa_nil)) pa_nil)) pa_nil)))))))), ?_⟩
    refine r_at (σ := [some _, some _, none, none, none, none, none, none]) rfl ?_
    walk_at "z"
    refine r_lstN (by decide) fun c0 hc0 => ?_
    walk_at "z"
    refine r_lstN sz1 fun C hC => ?_
    have hC0 : H C = none := (same_new hc0).free hC
    walk_at "z"
    refine r_lstN (by decide) fun q0 hq0 => ?_
    walk_at "z"
    have nC := new_ne hP hC0
    have n0C : c0 ≠ C := ne_of_none upd_same hC
    have nqC : C ≠ q0 := ne_of_none upd_same hq0
    have n0q : c0 ≠ q0 := ne_of_none ((upd_ne n0C).trans upd_same) hq0
    refine r_rg1 (by omega) (forR_range (fun i σ' H' => (∃ b x4 x5 x6, σ' = [some (.ref a), some (.int n), some (.ref C), some (.ref b), x4, x5, x6, none] ∧ (b ≠ a ∧ b ≠ s0 ∧ b ≠ C) ∧ ∃ ys ps, H' b = some (.lst ys) ∧ Prs H' ys ps ∧ ps.Nodup ∧ (∀ p ∈ ps, 0 ≤ p.1 ∧ p.1 < p.2 ∧ p.2 < i) ∧ ps.length ≤ 60 * i) ∧ Pool H' a s0 ∧ Gr a H H' ∧
        ∃ as : List Addr, H' C = some (.lst (as.map V.ref)) ∧ as.length = i + 1 ∧ Clq H' C a s0 as i) ⟨⟨q0, _, _, _, rfl, ?_, [], [], upd_same, .nil, .nil, (fun p hp => by cases hp), Nat.zero_le _⟩, ?_, ?_, [c0], ?_, rfl, ?_⟩ ?_ ?_)
    · have h1 : H q0 = none := ((same_new hc0).trans (same_new hC)).free hq0
      exact ⟨(new_ne hP h1).1, (new_ne hP h1).2, Ne.symm nqC⟩
    · exact ((hP.mono (same_new hc0)).mono (same_new hC)).mono (same_new hq0)
    · exact ((Gr.new hc0).trans (.new hC)).trans (.new hq0)
    · exact (upd_ne nqC).trans upd_same
    · intro x hx
      rw [List.mem_singleton.mp hx]
      exact ⟨n0C, (new_ne hP hc0).1, (new_ne hP hc0).2, [], (upd_ne n0q).trans ((upd_ne n0C).trans upd_same), .nil, (fun z hz => by cases hz), Nat.zero_le _⟩
    · rintro i σ' H' hi ⟨⟨b, x4, x5, x6, rfl, ⟨ba, bs, bC⟩, ys, ps, hy, hys, nd, bd, hl⟩, hP', g, as, hcs, hlen, hclq⟩
      have hi : i < n.toNat := by omega
      walk_at "z"
      rw [List.length_map, hlen]
      refine ⟨a, s0, _, rfl, hP', by omega, by omega, fun r H1 r0 r1 hP1 g1 => ?_⟩
      have hcs1 := g1 _ _ nC.1 hcs
      have hrt : r.toNat < as.length := by omega
      obtain ⟨x, hx⟩ : ∃ x, as[r.toNat]? = some x := ⟨_, List.getElem?_eq_getElem hrt⟩
      obtain ⟨xC, xa, xs, ns, hns, nns, bns, lns⟩ := hclq x (List.mem_of_getElem? hx)
      refine r_ixL (.inl (.inl hcs1)) (v := V.ref x) (at_of (j := r.toNat) (by omega) (by rw [List.getElem?_map, hx]; rfl)) ?_
      walk_at "z"
      have hx1 := g1 _ _ xa hns
      -- kept
      refine r_il (.inl (.inl hx1)) fun d hd => lcR_list (xs := ns.map V.int) (fun j H2 => Pool H2 a s0 ∧ Gr a H1 H2 ∧ ∃ ms : List Int, H2 d = some (.lst (ms.map V.int)) ∧ ms.Sublist (ns.take j)) (by walk_at "zw") ⟨hP1.mono (same_new hd), .new hd, [], upd_same, List.nil_sublist _⟩ (fun j H2 _ ⟨_, g2, _⟩ => .inl (.inl (g2 _ _ xa hx1))) ?_ ?_
      · rintro j y H2 hy2 ⟨hP2, g2, ms, hms, sub⟩
        rw [List.getElem?_map] at hy2
        obtain ⟨z, hz, rfl⟩ := Option.map_eq_some_iff.mp hy2
        walk_at "z"
        refine ⟨rfl, ?_⟩
        walk_at "z"
        refine ⟨a, s0, 4, rfl, hP2, by omega, by omega, fun r2 H3 _ _ hP3 g3 => ?_⟩
        have hms3 := g3 _ _ (new_ne hP1 hd).1 hms
        have sl : ms.length ≤ 60 := by
          have h1 := sub.length_le
          rw [List.length_take] at h1
          omega
        walk_at "z"
        refine r_ite (fun h => ?_) (fun h => ?_)
        · walk_at "z"
          refine r_lce hms3 (small_lt (by rw [List.length_map]; omega)) ⟨hP3.upd (new_ne hP1 hd), (g2.trans g3).mut hd, ms ++ [z], by rw [List.map_append]; exact upd_same, ?_⟩
          rw [take_next hz]
          exact sub.append (List.Sublist.refl _)
        · refine ⟨hP3, g2.trans g3, ms, hms3, ?_⟩
          rw [take_next hz]
          exact sub.trans (List.sublist_append_left _ _)
      · rintro H2 ⟨hP2, g2, ms, hms, sub⟩
        rw [List.length_map, List.take_length] at sub
        have nms : ms.Nodup := nns.sublist sub
        have bms : ∀ z ∈ ms, 0 ≤ z ∧ z < i := fun z hz => bns z (sub.subset hz)
        have lms : ms.length ≤ i := Nat.le_trans sub.length_le lns
        have dne := new_ne hP1 hd
        have dC : d ≠ C := (ne_of_none hcs1 hd).symm
        have db : d ≠ b := (ne_of_none (g1 _ _ ba hy) hd).symm
        have hy2 := g2 _ _ ba (g1 _ _ ba hy)
        have kk : TK H' H2 := (g1.tk hP').trans (g2.tk hP1)
        have hys2 := Prs.tk kk hys
        walk_at "z"
        -- the pairs of kept and v
        refine r_il (.inl (.inl hms)) fun e he => lcR_list (xs := ms.map V.int) (fun j H3 => Same H2 H3 ∧ ∃ zs, H3 e = some (.lst zs) ∧ Prs H3 zs ((ms.take j).map fun u => (u, 0 + (i : Int)))) (by walk_at "zw") ⟨same_new he, [], upd_same, .nil⟩ (fun j H3 _ ⟨s3, _⟩ => .inl (.inl (s3 _ _ hms))) ?_ ?_
        · rintro j y H3 hy3 ⟨s3, zs, hz, hzs⟩
          rw [List.getElem?_map] at hy3
          obtain ⟨z, hzj, rfl⟩ := Option.map_eq_some_iff.mp hy3
          walk_at "z"
          refine ⟨rfl, ?_⟩
          walk_at "z"
          refine r_tupN sz2 fun t ht => ?_
          refine r_lce (by walk_at "zh") (small_lt ?_) ⟨same_mut (s3.trans (same_new ht)) he, _, upd_same, ?_⟩
          · rw [hzs.length, List.length_map, List.length_take]
            omega
          · rw [take_next hzj, List.map_append]
            exact prs_push hz hzs ht
        · rintro H3 ⟨s3, zs, hz, hzs⟩
          rw [List.length_map, List.take_length] at hzs
          have hy3 := s3 _ _ hy2
          refine r_cat hy3 hz (by rw [hys.length, hzs.length, List.length_map]; omega) fun b2 hb2 => ?_
          have s4 : Same H2 (upd H3 b2 (.lst (ys ++ zs))) := s3.trans (same_new hb2)
          have hC2 := g2 _ _ nC.1 hcs1
          have b2C : b2 ≠ C := (ne_of_none (s3 _ _ hC2) hb2).symm
          have hms4 := s4 _ _ hms
          have hC4 := s4 _ _ hC2
          walk_at "z"
          refine r_lstN sz1 fun v1 hv1 => ?_
          have s5 := s4.trans (same_new (o := .lst [V.int (0 + (i : Int))]) hv1)
          refine r_cat (s5 _ _ hms) upd_same (by rw [List.length_map]; simp only [List.length_cons, List.length_nil]; omega) fun k2 hk2 => ?_
          have s6 := s5.trans (same_new (o := .lst (ms.map V.int ++ [V.int (0 + (i : Int))])) hk2)
          walk_at "z"
          refine r_appT (s6 _ _ hC2) (small_lt (by rw [List.length_map]; omega)) ?_
          have hP6 := hP2.mono s6
          have k2C : k2 ≠ C := (ne_of_none (s5 _ _ hC2) hk2).symm
          have k2ne := new_ne (hP2.mono s5) hk2
          have b2ne := new_ne (hP2.mono s3) hb2
          have eC : e ≠ C := (ne_of_none hC2 he).symm
          -- what stood at H2, stands, but for C
          let HE := upd (upd (upd (upd H3 b2 (.lst (ys ++ zs))) v1 (.lst [V.int (0 + (i : Int))])) k2 (.lst (ms.map V.int ++ [V.int (0 + (i : Int))]))) C (.lst (as.map V.ref ++ [.ref k2]))
          have old : ∀ (x : Addr) (o : HO), x ≠ C → H2 x = some o → HE x = some o := fun x o n e => (upd_ne n).trans (s6 _ _ e)
          have old3 : ∀ (x : Addr) (o : HO), x ≠ C → H3 x = some o → HE x = some o := fun x o n e => (upd_ne n).trans ((same_new hk2) _ _ ((same_new hv1) _ _ ((same_new hb2) _ _ e)))
          have k3 : TK H3 HE := fun x o e => old3 x _ (fun z => by rw [z, s3 _ _ hC2] at e; cases e) e
          have b2v : b2 ≠ v1 := ne_of_none upd_same hv1
          have b2k : b2 ≠ k2 := ne_of_none ((upd_ne b2v).trans upd_same) hk2
          refine ⟨⟨b2, _, _, _, rfl, ⟨b2ne.1, b2ne.2, b2C⟩, ys ++ zs, ps ++ ms.map (fun u => (u, 0 + (i : Int))), ?_, ?_, ?_, ?_, ?_⟩, hP6.upd nC, (((g.trans g1).trans g2).trans (.of_same s6)).mut hC0, as ++ [k2], ?_, ?_, ?_⟩
          · exact (upd_ne b2C).trans ((upd_ne b2k).trans ((upd_ne b2v).trans upd_same))
          · exact Prs.tk k3 (pd_append (Prs.tk (.of_same s3) hys2) hzs)
          · refine List.nodup_append.mpr ⟨nd, ?_, fun p hp r hr => ?_⟩
            · exact List.pairwise_map.mpr (nms.imp fun {x y} hne e => hne (by injection e))
            · obtain ⟨u, hu, rfl⟩ := List.mem_map.mp hr
              intro e
              have := (bd p hp).2.2
              rw [e] at this
              simp only at this
              omega
          · intro p hp
            rcases List.mem_append.mp hp with z | z
            · have := bd p z
              omega
            · obtain ⟨u, hu, rfl⟩ := List.mem_map.mp z
              have := bms u hu
              simp only
              omega
          · rw [List.length_append, List.length_map]
            omega
          · rw [List.map_append]
            exact upd_same
          · rw [List.length_append, hlen]
            rfl
          · intro y hy4
            rcases List.mem_append.mp hy4 with z | z
            · obtain ⟨z1, z2, z3, ns', z4, z5, z6, z7⟩ := hclq y z
              exact ⟨z1, z2, z3, ns', old _ _ z1 (g2 _ _ z2 (g1 _ _ z2 z4)), z5, fun q9 h9 => by have := z6 q9 h9; omega, by omega⟩
            · rw [List.mem_singleton.mp z]
              refine ⟨k2C, k2ne.1, k2ne.2, ms ++ [0 + (i : Int)], ?_, ?_, ?_, ?_⟩
              · rw [List.map_append]
                exact (upd_ne k2C).trans upd_same
              · refine List.nodup_append.mpr ⟨nms, List.pairwise_singleton _ _, fun u hu r hr e => ?_⟩
                rw [List.mem_singleton.mp hr] at e
                have := bms u hu
                omega
              · intro u hu
                rcases List.mem_append.mp hu with z | z
                · have := bms u z
                  omega
                · rw [List.mem_singleton.mp z]
                  omega
              · rw [List.length_append]
                simp only [List.length_cons, List.length_nil]
                omega
    · rintro σ' H' ⟨⟨b, x4, x5, x6, rfl, ⟨ba, bs, bC⟩, ys, ps, hy, hys, nd, bd, hl⟩, hP', g, _⟩
      walk_at "z"
      refine ⟨b, ys, ps, rfl, .inl (.inl hy), hys, fun zs qs f pm hz pw hf => ?_⟩
      walk_at "z"
      refine r_tupL (.inl (.inl upd_same)) fun e he => ?_
      walk_at "z"
      refine r_tupN sz2 fun t ht => ?_
      have s4 := ((same_new (o := .lst zs) hf).trans (same_new (o := .tup zs) he)).trans (same_new (o := .tup [.int n, .ref e]) ht)
      refine q _ qs _ (hP'.mono s4) (g.trans (.of_same s4)) ⟨t, e, rfl, upd_same, zs, (upd_ne (ne_of_none upd_same ht)).trans upd_same, Prs.tk (.of_same s4) hz⟩ ⟨n0, lt_of_le_nodup pw (pm.nodup_iff.mpr nd), fun p hp => ?_⟩
      have := bd p (pm.mem_iff.mp hp)
      omega
end

set_option Elab.async false
set_option linter.all false
set_option maxRecDepth 100000
set_option maxHeartbeats 4000000
open PySem PySem.Spec PyProof.Rows L2

abbrev s_law_ordered_graph : Stmt := topS 35
theorem sc_law_ordered_graph : FnScope ["pool", "n", "u", "v", "above", "w", "pair"] ["pool", "n"] (defScope s_law_ordered_graph) := ⟨rfl, rfl, rfl, by decide +kernel, rfl, by decide +kernel, by decide +kernel⟩

theorem ixN_nat {n j : Nat} (h : j < n) : ixN n (j : Int) = some j := by
  unfold ixN
  rw [if_pos (by omega), if_pos (by omega)]
  rfl
/-- n rows of n truth values at b, unknown to H0 -/
def Mat (H0 H : Hp) (b : Addr) (n : Nat) : Prop := ∃ as : List Addr, H b = some (.lst (as.map V.ref)) ∧ as.length = n ∧ ∀ x ∈ as, x ≠ b ∧ H0 x = none ∧ ∃ bs : List Bool, H x = some (.lst (bs.map V.bl)) ∧ bs.length = n
/-- a place read -/
theorem Mat.at {H0 H : Hp} {b : Addr} {n i j : Nat} (M : Mat H0 H b n) (hi : i < n) (hj : j < n) : ∃ (rows : List V) (x : Addr) (row : List V) (c : Bool), H b = some (.lst rows) ∧ atI rows (i : Int) = some (.ref x) ∧ H x = some (.lst row) ∧ atI row (j : Int) = some (.bl c) := by
  obtain ⟨as, hb, hl, hx⟩ := M
  have hlt : i < as.length := by omega
  obtain ⟨_, _, bs, h1, h2⟩ := hx as[i] (List.getElem_mem hlt)
  refine ⟨_, as[i], _, bs[j]'(by omega), hb, atI_nat (by rw [List.getElem?_map, List.getElem?_eq_getElem hlt]; rfl), h1, atI_nat (by rw [List.getElem?_map, List.getElem?_eq_getElem (by omega)]; rfl)⟩
/-- a place written -/
theorem Mat.set {H0 H : Hp} {b x : Addr} {n i j : Nat} {rows row : List V} {c : Bool} (M : Mat H0 H b n) (hi : i < n) (hb : H b = some (.lst rows)) (hx : atI rows (i : Int) = some (.ref x)) (hr : H x = some (.lst row)) :
    row.length = n ∧ H0 x = none ∧ Mat H0 (upd H x (.lst (row.set j (.bl c)))) b n := by
  obtain ⟨as, hb2, hl, hall⟩ := M
  rw [hb2] at hb
  cases hb
  have hlt : i < as.length := by omega
  have e : as[i] = x := by
    rw [atI_nat (v := V.ref as[i]) (by rw [List.getElem?_map, List.getElem?_eq_getElem hlt]; rfl)] at hx
    injection (Option.some.inj hx)
  have hm : x ∈ as := by rw [← e]; exact List.getElem_mem hlt
  obtain ⟨n1, n2, bs, h1, h2⟩ := hall x hm
  rw [h1] at hr
  cases hr
  refine ⟨by rw [List.length_map]; exact h2, n2, as, (upd_ne (Ne.symm n1)).trans hb2, hl, fun y hy => ?_⟩
  obtain ⟨m1, m2, cs, k1, k2⟩ := hall y hy
  refine ⟨m1, m2, ?_⟩
  by_cases e2 : y = x
  · subst e2
    exact ⟨bs.set j c, by rw [List.map_set]; exact upd_same, by rw [List.length_set]; exact h2⟩
  · exact ⟨cs, (upd_ne e2).trans k1, k2⟩
section
variable {P : Program} {w : World} {K : PySem.W.Frag} {mg : Str → Option Value} {base : Heap}
def spOrdered : Sp := fun vs H Q _ => ∃ (a s : Addr) (n : Int), vs = [.ref a, .int n] ∧ Pool H a s ∧ 1 ≤ n ∧ n ≤ 60 ∧ GenQ a s H n Q
theorem ok_ordered (T : Blt mg) (D : DefAt K mg "_law_ordered_graph" s_law_ordered_graph ["pool", "n"]) (D_law_draw : DefAt K mg "_law_draw" s_law_draw ["pool", "many"]) (G_law_draw : FnOk P w K mg base CX0 2 D_law_draw.f D_law_draw.fd ["pool", "many"] spDraw)
    (D_law_pairs : DefAt K mg "_law_pairs" s_law_pairs ["n"]) (G_law_pairs : FnOk P w K mg base CX0 1 D_law_pairs.f D_law_pairs.fd ["n"] spPairs) :
    FnOk P w K mg base CX0 4 D.f D.fd ["pool", "n"] spOrdered := by
  refine D.F.ok sc_law_ordered_graph (fun vs H Q E h => ?_) (fun cdv A outer s H vs Q E hr h => ?_)
  · obtain ⟨a, s, n, rfl, _⟩ := h
    rfl
  · obtain ⟨a, s0, n, rfl, hP, n0, n1, q⟩ := h
    refine ⟨_, (pss_cons (ps_set (i := 4) sc_law_ordered_graph.nd rfl (Or.inr rfl) (pe_lc (own := [("u", 2)]) (by rfl) sc_law_ordered_graph.nd (pi_range1 (by rfl) T.range (pa_cons (pv 1) pa_nil)) (blkOk_by (own := [("u", 2)]) (N := ["pool", "n", "u", "v", "above", "w", "pair"]) (sc := (defScope s_law_ordered_graph)) (by decide +kernel)) (fun _ _ _ _ _ => (pg_name (i := 2) sc_law_ordered_graph.nd rfl (Or.inr rfl))) (fun _ _ _ _ _ => pts_nil) (fun _ _ _ _ _ => (pe_lc (own := [("v", 3)]) (by rfl) sc_law_ordered_graph.nd (pi_range1 (by rfl) T.range (pa_cons (pv 1) pa_nil)) (blkOk_by (own := [("v", 3)]) (N := ["pool", "n", "u", "v", "above", "w", "pair"]) (sc := ({ kind := .function, names := [(PySem.Str.ofString ".0", PySem.NameKind.local), (PySem.Str.ofString "u", PySem.NameKind.cell), (PySem.Str.ofString "range", PySem.NameKind.globalImplicit), (PySem.Str.ofString "n", PySem.NameKind.cell), (PySem.Str.ofString "pool", PySem.NameKind.cell)], isGenerator := false, isCoroutine := false, more := [] } : PySem.Scope)) (by decide +kernel)) (fun _ _ _ _ _ => (pg_name (i := 3) sc_law_ordered_graph.nd rfl (Or.inl rfl))) (fun _ _ _ _ _ => pts_nil) (fun _ _ _ _ _ => (pe_and (pe_cmpR op_lt (pv 2) (pv 3) (nomark _)) (pe_one (pe_cmpR op_eq (pe_call G_law_draw (hr.mono (by first | decide | omega)) (by rfl) D_law_draw.g D_law_draw.F.kp D_law_draw.b .nil pass0 (pa_cons (pv 0) (pa_cons pe_int pa_nil))) pe_int (nomark _)))))))))
      (pss_cons (ps_for PassesOwn.never (by rfl) (pi_range1 (by rfl) T.range (pa_cons (pv 1) pa_nil)) (pg_name (i := 5) sc_law_ordered_graph.nd rfl (Or.inl rfl))
        (pss_one (ps_for PassesOwn.never (by rfl) (pi_range1 (by rfl) T.range (pa_cons (pv 1) pa_nil)) (pg_name (i := 2) sc_law_ordered_graph.nd rfl (Or.inl rfl))
          (pss_one (ps_for PassesOwn.never (by rfl) (pi_range1 (by rfl) T.range (pa_cons (pv 1) pa_nil)) (pg_name (i := 3) sc_law_ordered_graph.nd rfl (Or.inl rfl))
            (pss_one (ps_asg (pe_or (pe_ix (ix_listK (K := K) rfl) (pe_ix (ix_listK (K := K) rfl) (pv 4) (pv 2) (fun _ _ => rfl)) (pv 3) (fun _ _ => rfl)) (pe_one (pe_and (pe_ix (ix_listK (K := K) rfl) (pe_ix (ix_listK (K := K) rfl) (pv 4) (pv 2) (fun _ _ => rfl)) (pv 5) (fun _ _ => rfl)) (pe_one (pe_ix (ix_listK (K := K) rfl) (pe_ix (ix_listK (K := K) rfl) (pv 4) (pv 5) (fun _ _ => rfl)) (pv 3) (fun _ _ => rfl)))))) (pg_sub (pe_ix (ix_listK (K := K) rfl) (pv 4) (pv 2) (fun _ _ => rfl)) (pv 3) set_list))))))))
      (pss_one (ps_ret (pe_tup (pa_cons (pv 1) (pa_cons (pe_callTy (call_tupleK (K := K) rfl) (by rfl) T.tuple (by decide +kernel) (pa_cons (pe_lc (own := [("pair", 6)]) (by rfl) sc_law_ordered_graph.nd (PI.listK (K := K) rfl (pi_list (pe_call G_law_pairs (hr.mono (by first | decide | omega)) (by rfl) D_law_pairs.g D_law_pairs.F.kp D_law_pairs.b .nil pass0 (pa_cons (pv 1) pa_nil)))) (blkOk_by (own := [("pair", 6)]) (N := ["pool", "n", "u", "v", "above", "w", "pair"]) (sc := (defScope s_law_ordered_graph)) (by decide +kernel)) (fun _ _ _ _ _ => (pg_name (i := 6) sc_law_ordered_graph.nd rfl (Or.inl rfl))) (fun _ _ _ _ _ => (pts_one (pt_val (pe_ix (ix_listK (K := K) rfl) (pe_ix (ix_listK (K := K) rfl) (pv 4) (pe_ix (ix_tupK (K := K) rfl) (pv 6) pe_int (fun _ _ => rfl)) (fun _ _ => rfl)) (pe_ix (ix_tupK (K := K) rfl) (pv 6) pe_int (fun _ _ => rfl)) (fun _ _ => rfl))))) (fun _ _ _ _ _ => (pv 6))) pa_nil)) pa_nil))))))), ?_⟩
    refine r_at (σ := [some _, some _, none, none, none, none, none]) rfl ?_
    walk_at "z"
    refine r_rg1 (by omega) fun d hd => lcR_range (fun i H' => Pool H' a s0 ∧ Gr a H H' ∧ ∃ as : List Addr, H' d = some (.lst (as.map V.ref)) ∧ as.length = i ∧ ∀ x ∈ as, x ≠ d ∧ H x = none ∧ ∃ bs : List Bool, H' x = some (.lst (bs.map V.bl)) ∧ bs.length = n.toNat)
      (by walk_at "zw") ⟨hP.mono (same_new hd), .new hd, [], upd_same, rfl, fun x hx => by cases hx⟩ ?_ ?_
    · rintro i H' hi ⟨hP', g, as, hds, hl, hall⟩
      have dne := new_ne hP hd
      walk_at "z"
      refine ⟨rfl, ?_⟩
      walk_at "z"
      -- the row
      refine r_rg1 (by omega) fun e he => lcR_range (fun j H2 => Pool H2 a s0 ∧ Gr a H' H2 ∧ ∃ bs : List Bool, H2 e = some (.lst (bs.map V.bl)) ∧ bs.length = j) (by walk_at "zw") ⟨hP'.mono (same_new he), .new he, [], upd_same, rfl⟩ ?_ ?_
      · rintro j H2 hj ⟨hP2, g2, bs, hbs, hlb⟩
        have ene := new_ne hP' he
        walk_at "z"
        refine ⟨rfl, ?_⟩
        walk_at "z"
        refine r_ite (fun h => ?_) (fun h => ?_)
        · walk_at "z"
          refine ⟨a, s0, 3, rfl, hP2, by omega, by omega, fun r H3 _ _ hP3 g3 => ?_⟩
          have hb3 := g3 _ _ ene.1 hbs
          walk_at "z"
          refine r_lce hb3 (small_lt (by rw [List.length_map]; omega)) ⟨hP3.upd ene, (g2.trans g3).mut he, bs ++ [_], by rw [List.map_append]; exact upd_same, by rw [List.length_append, hlb]; rfl⟩
        · walk_at "z"
          refine r_lce hbs (small_lt (by rw [List.length_map]; omega)) ⟨hP2.upd ene, g2.mut he, bs ++ [false], by rw [List.map_append]; exact upd_same, by rw [List.length_append, hlb]; rfl⟩
      · rintro H2 ⟨hP2, g2, bs, hbs, hlb⟩
        have ene := new_ne hP' he
        have hd2 := g2 _ _ dne.1 hds
        have ed : e ≠ d := (ne_of_none hds he).symm
        refine r_lce hd2 (small_lt (by rw [List.length_map]; omega)) ⟨hP2.upd dne, (g.trans g2).mut hd, as ++ [e], by rw [List.map_append]; exact upd_same, by rw [List.length_append, hl]; rfl, fun x hx => ?_⟩
        rcases List.mem_append.mp hx with z | z
        · obtain ⟨z1, z2, cs, z3, z4⟩ := hall x z
          exact ⟨z1, z2, cs, (upd_ne z1).trans (g2 _ _ (new_ne hP z2).1 z3), z4⟩
        · rw [List.mem_singleton.mp z]
          exact ⟨ed, g.free hP'.ne he, bs, (upd_ne ed).trans hbs, hlb⟩
    · rintro H1 ⟨hP1, g1, as, hds, hl, hall⟩
      have M1 : Mat H H1 d n.toNat := ⟨as, hds, hl, hall⟩
      walk_at "z"
      refine r_rg1 (by omega) (forR_range (fun k σ' H' => (∃ x2 x3 x5, σ' = [some (.ref a), some (.int n), x2, x3, some (.ref d), x5, none]) ∧ Pool H' a s0 ∧ Gr a H H' ∧ Mat H H' d n.toNat) ⟨⟨_, _, _, rfl⟩, hP1, g1, M1⟩ ?_ ?_)
      · rintro k σ' H' hk ⟨⟨x2, x3, x5, rfl⟩, hP', g, M⟩
        walk_at "z"
        refine r_rg1 (by omega) (forR_range (fun i σ' H' => (∃ x2 x3, σ' = [some (.ref a), some (.int n), x2, x3, some (.ref d), some (.int (0 + (k : Int))), none]) ∧ Pool H' a s0 ∧ Gr a H H' ∧ Mat H H' d n.toNat) ⟨⟨_, _, rfl⟩, hP', g, M⟩ ?_ ?_)
        · rintro i σ' H' hi ⟨⟨x2, x3, rfl⟩, hP', g, M⟩
          walk_at "z"
          refine r_rg1 (by omega) (forR_range (fun j σ' H' => (∃ x3, σ' = [some (.ref a), some (.int n), some (.int (0 + (i : Int))), x3, some (.ref d), some (.int (0 + (k : Int))), none]) ∧ Pool H' a s0 ∧ Gr a H H' ∧ Mat H H' d n.toNat) ⟨⟨_, rfl⟩, hP', g, M⟩ ?_ ?_)
          · rintro j σ' H' hj ⟨⟨x3, rfl⟩, hP', g, M⟩
            have e0 : ∀ z : Nat, (0 : Int) + (z : Int) = z := fun z => by omega
            obtain ⟨rows, x, row, c1, hb, hx, hr1, hc1⟩ := M.at hi hj
            obtain ⟨rows2, y, row2, c2, hb2, hx2, hr2, hc2⟩ := M.at hi hk
            obtain ⟨rows3, w3, row3, c3, hb3, hx3, hr3, hc3⟩ := M.at hk hj
            simp only [e0]
            rw [hb] at hb2 hb3
            cases hb2
            cases hb3
            rw [hx] at hx2
            cases hx2
            rw [hr1] at hr2
            cases hr2
            have fin : ∀ c : Bool, (∃ x3, [some (V.ref a), some (V.int n), some (V.int (i : Int)), some (V.int (j : Int)), some (V.ref d), some (V.int (k : Int)), none] = [some (V.ref a), some (V.int n), some (V.int (i : Int)), x3, some (V.ref d), some (V.int (k : Int)), none]) ∧ Pool (upd H' x (.lst (row.set j (.bl c)))) a s0 ∧ Gr a H (upd H' x (.lst (row.set j (.bl c)))) ∧ Mat H (upd H' x (.lst (row.set j (.bl c)))) d n.toNat := fun c => by
              obtain ⟨_, hn, M'⟩ := M.set (c := c) hi hb hx hr1 (j := j)
              exact ⟨⟨_, rfl⟩, hP'.upd (new_ne hP hn), g.mut hn, M'⟩
            have lr : j < row.length := by
              obtain ⟨h1, _, _⟩ := M.set (c := true) hi hb hx hr1 (j := j)
              omega
            walk_at "z"
            refine r_iteB (fun h => ?_) (fun h => ?_)
            · walk_at "z"
              refine r_setL hr1 (ixN_nat lr) ?_
              exact fin true
            · walk_at "z"
              refine r_iteB (fun h => ?_) (fun h => ?_)
              · walk_at "z"
                refine r_setL hr1 (ixN_nat lr) ?_
                exact fin c3
              · walk_at "z"
                refine r_setL hr1 (ixN_nat lr) ?_
                exact fin false
          · rintro σ' H' ⟨⟨x3, rfl⟩, hP', g, M⟩
            exact ⟨⟨_, _, rfl⟩, hP', g, M⟩
        · rintro σ' H' ⟨⟨x2, x3, rfl⟩, hP', g, M⟩
          exact ⟨⟨_, _, _, rfl⟩, hP', g, M⟩
      · rintro σ' H2 ⟨⟨x2, x3, x5, rfl⟩, hP2, g2, M⟩
        walk_at "z"
        obtain ⟨n', rfl⟩ : ∃ n' : Nat, n = (n' : Int) := ⟨n.toNat, by omega⟩
        refine ⟨n', rfl, by omega, fun f xs H4 hf s4 hx hp => ?_⟩
        have hP4 := hP2.mono s4
        have g5 : Gr a H H4 := g2.trans (.of_same s4)
        have M4 : Mat H H4 d n' := by
          obtain ⟨as, h1, h2, h3⟩ := M
          exact ⟨as, s4 _ _ h1, h2, fun y hy => by
            obtain ⟨z1, z2, cs, z3, z4⟩ := h3 y hy
            exact ⟨z1, z2, cs, s4 _ _ z3, z4⟩⟩
        refine r_il (.inl (.inl hx)) fun e he => lcR_list (xs := xs) (fun i H' => Same H4 H' ∧ ∃ ys c, H' e = some (.lst ys) ∧ Prs H' ys (((allP n').take i).filter c)) (by walk_at "zw") ⟨same_new he, [], fun _ => true, upd_same, .nil⟩ (fun i H' _ ⟨s5, _⟩ => .inl (.inl (s5 _ _ hx))) ?_ ?_
        · rintro i x H' hxi ⟨s5, ys, c, hy, hys⟩
          obtain ⟨p, hpi, hxp⟩ := pd_get (Prs.tk (.of_same s5) hp) hxi
          obtain ⟨b1, b2, b3⟩ := mem_allP.mp (List.mem_of_getElem? hpi)
          obtain ⟨t, rfl, ht⟩ := id hxp
          obtain ⟨i1, hi1⟩ : ∃ i1 : Nat, p.1 = (i1 : Int) := ⟨p.1.toNat, by omega⟩
          obtain ⟨j1, hj1⟩ : ∃ j1 : Nat, p.2 = (j1 : Int) := ⟨p.2.toNat, by omega⟩
          obtain ⟨rows, y, row, c1, hb, hx1, hr1, hc1⟩ := M4.at (i := i1) (j := j1) (by omega) (by omega)
          walk_at "z"
          refine ⟨rfl, ?_⟩
          walk_at "z"
          rw [hi1]
          refine r_ixL (.inl (.inl (s5 _ _ hb))) hx1 ?_
          walk_at "z"
          rw [hj1]
          refine r_ixL (.inl (.inl (s5 _ _ hr1))) hc1 ?_
          walk_at "z"
          obtain ⟨c', ec⟩ := flt_next hpi c c1
          refine r_iteB (fun h => ?_) (fun h => ?_)
          · walk_at "z"
            refine r_lce hy (small_lt (by rw [hys.length]; exact flt_small (by omega) c)) ⟨same_mut s5 he, _, c', upd_same, ?_⟩
            rw [ec, if_pos h]
            exact (Prs.tk (.lst hy) hys).snoc (hxp.tk (.lst hy))
          · refine ⟨s5, ys, c', hy, ?_⟩
            rw [ec, if_neg (by rw [h]; exact Bool.false_ne_true), List.append_nil]
            exact hys
        · rintro H' ⟨s5, ys, c, hy, hys⟩
          rw [hp.length, List.take_length] at hys
          walk_at "z"
          refine r_tupL (.inl (.inl hy)) fun e2 he2 => ?_
          walk_at "z"
          refine r_tupN sz2 fun t ht => ?_
          have s6 : Same H' (upd H' e2 (.tup ys)) := same_new he2
          have s7 := s6.trans (same_new (o := .tup [.int (n' : Int), .ref e2]) ht)
          exact q _ _ _ (((hP4.mono s5)).mono s7) ((g5.trans (.of_same s5)).trans (.of_same s7)) ⟨t, e2, rfl, upd_same, ys, (upd_ne (ne_of_none upd_same ht)).trans upd_same, Prs.tk (.of_same s7) hys⟩ (good_filter (by omega) c)
end

set_option Elab.async false
set_option linter.all false
set_option maxRecDepth 100000
set_option maxHeartbeats 4000000
open PySem PySem.Spec PyProof.Rows L2

abbrev s_law_drawn_tree : Stmt := topS 37
theorem sc_law_drawn_tree : FnScope ["pool", "leaves", "trees", "k", "many", "parts", "j"] ["pool", "leaves"] (defScope s_law_drawn_tree) := ⟨rfl, rfl, rfl, by decide +kernel, rfl, by decide +kernel, by decide +kernel⟩

abbrev s_law_leaves : Stmt := topS 38
theorem sc_law_leaves : FnScope ["tree", "found", "part"] ["tree"] (defScope s_law_leaves) := ⟨rfl, rfl, rfl, by decide +kernel, rfl, by decide +kernel, by decide +kernel⟩

abbrev s_law_tree_pairs : Stmt := topS 39
theorem sc_law_tree_pairs : FnScope ["tree", "found", "before", "part", "leaves", "u", "v"] ["tree"] (defScope s_law_tree_pairs) := ⟨rfl, rfl, rfl, by decide +kernel, rfl, by decide +kernel, by decide +kernel⟩

/-! ## trees -/
inductive Tr where
  | leaf (z : Int)
  | node (w : Bool) (ts : List Tr)
def wd (w : Bool) : PySem.Str := if w then "join" else "union"
mutual
def lv : Tr → List Int
  | .leaf z => [z]
  | .node _ ts => lvs ts
def lvs : List Tr → List Int
  | [] => []
  | t :: ts => lv t ++ lvs ts
end
mutual
def dp : Tr → Nat
  | .leaf _ => 0
  | .node _ ts => dps ts + 1
def dps : List Tr → Nat
  | [] => 0
  | t :: ts => max (dp t) (dps ts)
end
mutual
/-- every node has two trees or more -/
def wf : Tr → Prop
  | .leaf _ => True
  | .node _ ts => 2 ≤ ts.length ∧ wfs ts
def wfs : List Tr → Prop
  | [] => True
  | t :: ts => wf t ∧ wfs ts
end
mutual
inductive TreeAt (H : Hp) : V → Tr → Prop
  | leaf (z : Int) : TreeAt H (.int z) (.leaf z)
  | node {a : Addr} {xs : List V} {ts : List Tr} (w : Bool) (h : H a = some (.tup (.str (wd w) :: xs))) (t : TreesAt H xs ts) : TreeAt H (.ref a) (.node w ts)
inductive TreesAt (H : Hp) : List V → List Tr → Prop
  | nil : TreesAt H [] []
  | cons {x : V} {xs : List V} {t : Tr} {ts : List Tr} (h : TreeAt H x t) (r : TreesAt H xs ts) : TreesAt H (x :: xs) (t :: ts)
end
mutual
theorem TreeAt.tk {H H' : Hp} (k : TK H H') : ∀ (t : Tr) {v : V}, TreeAt H v t → TreeAt H' v t
  | .leaf _, _, .leaf z => .leaf z
  | .node _ ts, _, .node w h t => .node w (k _ _ h) (TreesAt.tk k ts t)
theorem TreesAt.tk {H H' : Hp} (k : TK H H') : ∀ (ts : List Tr) {vs : List V}, TreesAt H vs ts → TreesAt H' vs ts
  | [], _, .nil => .nil
  | t :: ts, _, .cons h r => .cons (TreeAt.tk k t h) (TreesAt.tk k ts r)
end
theorem TreesAt.pd {H : Hp} : ∀ (ts : List Tr) {vs : List V}, TreesAt H vs ts → Paired (TreeAt H) vs ts
  | [], _, .nil => .nil
  | _ :: ts, _, .cons h r => .cons h (TreesAt.pd ts r)
theorem TreesAt.of {H : Hp} : ∀ {ts : List Tr} {vs : List V}, Paired (TreeAt H) vs ts → TreesAt H vs ts
  | _, _, .nil => .nil
  | _, _, .cons h r => .cons h (TreesAt.of r)
theorem lvs_append : ∀ (ts us : List Tr), lvs (ts ++ us) = lvs ts ++ lvs us
  | [], us => by simp [lvs]
  | t :: ts, us => by simp only [List.cons_append, lvs, lvs_append ts us, List.append_assoc]
theorem wfs_mem : ∀ {ts : List Tr}, wfs ts ↔ ∀ t ∈ ts, wf t
  | [] => by simp [wfs]
  | t :: ts => by simp [wfs, wfs_mem (ts := ts)]
theorem lvs_perm {ts us : List Tr} (h : ts.Perm us) : (lvs ts).Perm (lvs us) := by
  induction h with
  | nil => exact .refl _
  | cons x _ ih => simp only [lvs]; exact ih.append_left _
  | swap x y l =>
    simp only [lvs, ← List.append_assoc]
    exact List.perm_append_comm.append_right _
  | trans _ _ h1 h2 => exact h1.trans h2
mutual
/-- depth and leaves -/
theorem dp_lv : ∀ (t : Tr), wf t → dp t + 1 ≤ (lv t).length
  | .leaf _, _ => by simp [dp, lv]
  | .node _ ts, h => by
    simp only [wf] at h
    have := dps_lvs ts h.2
    simp only [dp, lv]
    omega
theorem dps_lvs : ∀ (ts : List Tr), wfs ts → dps ts + ts.length ≤ (lvs ts).length
  | [], _ => by simp [dps, lvs]
  | t :: ts, h => by
    simp only [wfs] at h
    have h1 := dp_lv t h.1
    have h2 := dps_lvs ts h.2
    simp only [dps, lvs, List.length_append, List.length_cons]
    omega
end
theorem dps_mem : ∀ {ts : List Tr} {t : Tr}, t ∈ ts → dp t ≤ dps ts
  | [], _, h => by cases h
  | u :: ts, t, h => by
    simp only [dps]
    rcases List.mem_cons.mp h with e | e
    · rw [e]
      omega
    · have := dps_mem e
      omega
theorem wd_len (w : Bool) : True := trivial
section
variable {P : Program} {w : World} {K : PySem.W.Frag} {mg : Str → Option Value} {base : Heap}
theorem r_isiInt {H : Hp} {Q : VK} {i : Int} (q : Q (.bl false) H) : rIsi K [.int i, .ty "tuple"] H Q := ⟨.int i, .ty "tuple", .type "int", .type "tuple", false, rfl, .ty _, .base (.int i), kit_ty (by decide +kernel), q⟩
theorem r_isiTup {H : Hp} {Q : VK} {a : Addr} {xs : List V} (h : H a = some (.tup xs)) (q : Q (.bl true) H) : rIsi K [.ref a, .ty "tuple"] H Q := ⟨.ref a, .ty "tuple", .type "tuple", .type "tuple", true, rfl, .ty _, .base (.tup h), kit_ty (by decide +kernel), q⟩
theorem cut_tail (x : V) (xs : List V) : cutV (x :: xs) (some 1) none = xs := by
  unfold cutV
  have e : HT.sIx (x :: xs).length 0 (some 1) = 1 := by
    rw [show (1 : Int) = ((1 : Nat) : Int) from rfl, HT.sIx_nat]
    simp only [List.length_cons]
    omega
  rw [e, HT.sIx_none]
  simp only [List.drop_succ_cons, List.drop_zero, List.length_cons, Nat.add_sub_cancel]
  exact List.take_length
/-- t[1:] -/
theorem r_tail {H : Hp} {Q : VK} {a : Addr} {x : V} {xs : List V} (h : H a = some (.tup (x :: xs))) (q : ∀ p, H p = none → Q (.ref p) (upd H p (.tup xs))) : rSlT K (.ref a) (some 1) none H Q := by
  refine ⟨a, x :: xs, rfl, .inl (.inl h), fun z => ?_, fun p hp => by rw [cut_tail]; exact q p hp⟩
  have e : HT.sIx (x :: xs).length 0 (some 1) = 1 := by
    rw [show (1 : Int) = ((1 : Nat) : Int) from rfl, HT.sIx_nat]
    simp only [List.length_cons]
    omega
  rw [e] at z
  exact absurd z.1 (by decide)
/-- the leaves from the left -/
def spLeaves (d : Nat) : Sp := fun vs H Q _ => ∃ (v : V) (t : Tr), vs = [v] ∧ TreeAt H v t ∧ dp t < d ∧ (lv t).length ≤ 100 ∧ ∀ (l : Addr) (H' : Hp), Same H H' → H' l = some (.lst ((lv t).map V.int)) → Q (.ref l) H'
theorem lv_pos : ∀ t : Tr, True := fun _ => trivial
theorem ok_leaves (T : Blt mg) (D_law_leaves : DefAt K mg "_law_leaves" s_law_leaves ["tree"]) : ∀ d : Nat, FnOk P w K mg base CX0 d D_law_leaves.f D_law_leaves.fd ["tree"] (spLeaves d)
  | 0 => fn_none.imp fun vs H Q E h => by
    obtain ⟨_, _, _, _, h, _⟩ := h
    omega
  | d + 1 => by
    have G_law_leaves := ok_leaves T D_law_leaves d
    refine D_law_leaves.F.ok sc_law_leaves (fun vs H Q E h => ?_) (fun cdv A outer s H vs Q E hr h => ?_)
    · obtain ⟨v, t, rfl, _⟩ := h
      rfl
    · obtain ⟨v, t, rfl, ht, hd, hl, q⟩ := h
      refine ⟨_, (pss_cons (ps_if (pt_not (pt_val (pe_callB (call_isiK (K := K) rfl) (by rfl) T.isinstance (by decide +kernel) (pa_cons (pv 0) (pa_cons (pe_bltn (v := .ty "tuple") (u := .type "tuple") (by rfl) T.tuple (by decide +kernel) rfl) pa_nil)))))
        (pss_one (ps_ret (pe_lst (pa_cons (pv 0) pa_nil))))
        pss_nil)
      (pss_cons (ps_set (i := 1) sc_law_leaves.nd rfl (Or.inl rfl) (pe_lst pa_nil))
      (pss_cons (ps_for PassesOwn.never (by rfl) (PI.tupK (K := K) rfl (pi_tup (pe_slice (sl_tupK (K := K) rfl) (pv 0) (po_some pe_int) po_none))) (pg_name (i := 2) sc_law_leaves.nd rfl (Or.inl rfl))
        (pss_one (ps_set (i := 1) sc_law_leaves.nd rfl (Or.inl rfl) (pe_op op_cat (pv 1) (pe_call G_law_leaves (hr.mono (by first | decide | omega)) (by rfl) D_law_leaves.g D_law_leaves.F.kp D_law_leaves.b .nil pass0 (pa_cons (pv 2) pa_nil))))))
      (pss_one (ps_ret (pv 1)))))), ?_⟩
      refine r_at (σ := [some _, none, none]) rfl ?_
      cases ht with
      | leaf z =>
        walk_at "z"
        refine r_isiInt ?_
        walk_at "z"
        refine iteT ?_
        walk_at "z"
        refine r_lstN sz1 fun l hl => ?_
        exact q l _ (same_new hl) upd_same
      | @node a xs ts w0 ha hts =>
        walk_at "z"
        refine r_isiTup ha ?_
        walk_at "z"
        refine iteF ?_
        walk_at "z"
        refine r_lstN (by decide) fun f hf => ?_
        walk_at "z"
        have ha1 : (upd H f (.lst [])) a = some (.tup (.str (wd w0) :: xs)) := same_new hf _ _ ha
        refine r_tail ha1 fun p hp => ?_
        have fp : f ≠ p := ne_of_none upd_same hp
        have sp : Same H (upd (upd H f (.lst [])) p (.tup xs)) := (same_new hf).trans (same_new hp)
        have pr := hts.pd
        refine r_it (.inl (.inl upd_same)) (forR_tup (xs := xs) (fun i σ' H' => (∃ b x2, σ' = [some (.ref a), some (.ref b), x2] ∧ H' b = some (.lst ((lvs (ts.take i)).map V.int))) ∧ Same H H' ∧ H' p = some (.tup xs)) ⟨⟨f, _, rfl, (upd_ne fp).trans upd_same⟩, sp, upd_same⟩ (fun i σ' H' _ ⟨_, _, h⟩ => .inl (.inl h)) ?_ ?_)
        · rintro i x σ' H' hx ⟨⟨b, x2, rfl, hb⟩, sm, hp'⟩
          obtain ⟨t, hti, hxt⟩ := pd_get pr hx
          have hm := List.mem_of_getElem? hti
          have h1 : dp t < d := by
            have := dps_mem hm
            simp only [dp] at hd
            omega
          have e1 : ts.take (i + 1) = ts.take i ++ [t] := take_next hti
          have e2 : lvs (ts.take (i + 1)) = lvs (ts.take i) ++ lv t := by
            rw [e1, lvs_append]
            simp [lvs]
          have le : (lvs (ts.take i)).length + (lv t).length ≤ 100 := by
            have e3 : lvs ts = lvs (ts.take (i + 1)) ++ lvs (ts.drop (i + 1)) := by rw [← lvs_append, List.take_append_drop]
            have e4 := congrArg List.length e3
            rw [e2] at e4
            simp only [List.length_append] at e4
            simp only [lv] at hl
            omega
          walk_at "z"
          refine ⟨x, t, rfl, hxt.tk (.of_same sm), h1, by omega, fun l H2 s2 hll => ?_⟩
          walk_at "z"
          refine r_cat (s2 _ _ hb) hll (by simp only [List.length_map]; omega) fun c hc => ?_
          walk_at "z"
          refine ⟨⟨c, _, rfl, ?_⟩, (sm.trans s2).trans (same_new hc), same_new hc _ _ (s2 _ _ hp')⟩
          rw [e2, List.map_append]
          exact upd_same
        · rintro σ' H' ⟨⟨b, x2, rfl, hb⟩, sm, hp'⟩
          walk_at "z"
          rw [pr.length, List.take_length] at hb
          exact q b H' sm hb
/-- all leaves of a tree that stands -/
theorem wfs_nil : wfs [] := by simp [wfs]
/-- the pairs that a join joins -/
def spTreePairs (d : Nat) : Sp := fun vs H Q _ => ∃ (v : V) (t : Tr), vs = [v] ∧ TreeAt H v t ∧ dp t < d ∧ (lv t).length ≤ 60 ∧ (lv t).Nodup ∧ ∀ (l : Addr) (xs : List V) (ps : List (Int × Int)) (H' : Hp), Same H H' → H' l = some (.lst xs) → Prs H' xs ps →
  (∀ p ∈ ps, p.1 ∈ lv t ∧ p.2 ∈ lv t ∧ p.1 ≠ p.2) → ps.length ≤ (lv t).length * (lv t).length → Q (.ref l) H'
theorem r_eqJoin {H : Hp} {Q : VK} {w0 : Bool} (q : Q (.bl w0) H) : rEq (.str (wd w0)) (.str "join") H Q := by
  refine ⟨rfl, ?_⟩
  cases w0 with
  | true => exact q
  | false => exact q
theorem ok_tree_pairs (T : Blt mg) (D_law_tree_pairs : DefAt K mg "_law_tree_pairs" s_law_tree_pairs ["tree"]) (D_law_leaves : DefAt K mg "_law_leaves" s_law_leaves ["tree"]) : ∀ d : Nat, FnOk P w K mg base CX0 (d + 1) D_law_tree_pairs.f D_law_tree_pairs.fd ["tree"] (spTreePairs d)
  | 0 => fn_none.imp fun vs H Q E h => by
    obtain ⟨_, _, _, _, h, _⟩ := h
    omega
  | d + 1 => by
    have G_law_tree_pairs := ok_tree_pairs T D_law_tree_pairs D_law_leaves d
    have G_law_leaves : FnOk P w K mg base CX0 d D_law_leaves.f D_law_leaves.fd ["tree"] (spLeaves d) := ok_leaves T D_law_leaves d
    refine D_law_tree_pairs.F.ok sc_law_tree_pairs (fun vs H Q E h => ?_) (fun cdv A outer s H vs Q E hr h => ?_)
    · obtain ⟨v, t, rfl, _⟩ := h
      rfl
    · obtain ⟨v, t, rfl, ht, hd, hl, nd, q⟩ := h
      refine ⟨_, (pss_cons (ps_if (pt_not (pt_val (pe_callB (call_isiK (K := K) rfl) (by rfl) T.isinstance (by decide +kernel) (pa_cons (pv 0) (pa_cons (pe_bltn (v := .ty "tuple") (u := .type "tuple") (by rfl) T.tuple (by decide +kernel) rfl) pa_nil)))))
        (pss_one (ps_ret (pe_lst pa_nil)))
        pss_nil)
      (pss_cons (ps_set (i := 1) sc_law_tree_pairs.nd rfl (Or.inl rfl) (pe_lst pa_nil))
      (pss_cons (ps_set (i := 2) sc_law_tree_pairs.nd rfl (Or.inl rfl) (pe_lst pa_nil))
      (pss_cons (ps_for PassesOwn.never (by rfl) (PI.tupK (K := K) rfl (pi_tup (pe_slice (sl_tupK (K := K) rfl) (pv 0) (po_some pe_int) po_none))) (pg_name (i := 3) sc_law_tree_pairs.nd rfl (Or.inl rfl))
        (pss_cons (ps_set (i := 1) sc_law_tree_pairs.nd rfl (Or.inl rfl) (pe_op op_cat (pv 1) (pe_call G_law_tree_pairs (hr.mono (by first | decide | omega)) (by rfl) D_law_tree_pairs.g D_law_tree_pairs.F.kp D_law_tree_pairs.b .nil pass0 (pa_cons (pv 3) pa_nil))))
        (pss_cons (ps_set (i := 4) sc_law_tree_pairs.nd rfl (Or.inl rfl) (pe_call G_law_leaves (hr.mono (by first | decide | omega)) (by rfl) D_law_leaves.g D_law_leaves.F.kp D_law_leaves.b .nil pass0 (pa_cons (pv 3) pa_nil)))
        (pss_cons (ps_if (pt_cmpR op_eq (pe_ix (ix_tupK (K := K) rfl) (pv 0) pe_int (fun _ _ => rfl)) pe_str (nomark _))
          (pss_one (ps_for PassesOwn.never (by rfl) (PI.listK (K := K) rfl (pi_list (pv 2))) (pg_name (i := 5) sc_law_tree_pairs.nd rfl (Or.inr rfl))
            (pss_one (ps_set (i := 1) sc_law_tree_pairs.nd rfl (Or.inl rfl) (pe_op op_cat (pv 1) (pe_lc (own := [("v", 6)]) (by rfl) sc_law_tree_pairs.nd (PI.listK (K := K) rfl (pi_list (pv 4))) (blkOk_by (own := [("v", 6)]) (N := ["tree", "found", "before", "part", "leaves", "u", "v"]) (sc := (defScope s_law_tree_pairs)) (by decide +kernel)) (fun _ _ _ _ _ => (pg_name (i := 6) sc_law_tree_pairs.nd rfl (Or.inl rfl))) (fun _ _ _ _ _ => pts_nil) (fun _ _ _ _ _ => (pe_tup (pa_cons (pe_callB (call_min2' rfl) (by rfl) T.min (by decide +kernel) (pa_cons (pv 5) (pa_cons (pv 6) pa_nil))) (pa_cons (pe_callB (call_max2' rfl) (by rfl) T.max (by decide +kernel) (pa_cons (pv 5) (pa_cons (pv 6) pa_nil))) pa_nil))))))))))
          pss_nil)
        (pss_one (ps_set (i := 2) sc_law_tree_pairs.nd rfl (Or.inl rfl) (pe_op op_cat (pv 2) (pv 4))))))))
      (pss_one (ps_ret (pv 1))))))), ?_⟩
      refine r_at (σ := [some _, none, none, none, none, none, none]) rfl ?_
      cases ht with
      | leaf z =>
        walk_at "z"
        refine r_isiInt ?_
        walk_at "z"
        refine iteT ?_
        walk_at "z"
        refine r_lstN (by decide) fun l hl => ?_
        exact q l [] [] _ (same_new hl) upd_same .nil (fun p hp => by cases hp) (Nat.zero_le _)
      | @node a xs ts w0 ha hts =>
        walk_at "z"
        refine r_isiTup ha ?_
        walk_at "z"
        refine iteF ?_
        walk_at "z"
        refine r_lstN (by decide) fun f hf => ?_
        walk_at "z"
        refine r_lstN (by decide) fun b0 hb0 => ?_
        have sb := (same_new (o := .lst []) hf).trans (same_new (o := .lst []) hb0)
        have ha1 := sb _ _ ha
        have fb : f ≠ b0 := ne_of_none upd_same hb0
        walk_at "z"
        refine r_tail ha1 fun p hp => ?_
        have sp := sb.trans (same_new (o := .tup xs) hp)
        have bp : b0 ≠ p := ne_of_none upd_same hp
        have fp : f ≠ p := ne_of_none ((upd_ne fb).trans upd_same) hp
        have pr := hts.pd
        simp only [lv] at hl nd q
        refine r_it (.inl (.inl upd_same)) (forR_tup (xs := xs) (fun i σ' H' => (∃ f b x3 x4 x5, σ' = [some (.ref a), some (.ref f), some (.ref b), x3, x4, x5, none] ∧ H' b = some (.lst ((lvs (ts.take i)).map V.int)) ∧ ∃ ys ps, H' f = some (.lst ys) ∧ Prs H' ys ps ∧ (∀ p ∈ ps, p.1 ∈ lvs (ts.take i) ∧ p.2 ∈ lvs (ts.take i) ∧ p.1 ≠ p.2) ∧ ps.length ≤ (lvs (ts.take i)).length * (lvs (ts.take i)).length) ∧ Same H H' ∧ H' p = some (.tup xs))
          ⟨⟨f, b0, _, _, _, rfl, (upd_ne bp).trans upd_same, [], [], (upd_ne fp).trans ((upd_ne fb).trans upd_same), .nil, (fun p hp => by cases hp), Nat.zero_le _⟩, sp, upd_same⟩ (fun i σ' H' _ ⟨_, _, h⟩ => .inl (.inl h)) ?_ ?_)
        · rintro i x σ' H' hx ⟨⟨f, b, x3, x4, x5, rfl, hb, ys, ps, hy, hys, mem, len⟩, sm, hp'⟩
          obtain ⟨t, hti, hxt⟩ := pd_get pr hx
          have hm := List.mem_of_getElem? hti
          have h1 : dp t < d := by
            have := dps_mem hm
            simp only [dp] at hd
            omega
          have e1 : ts.take (i + 1) = ts.take i ++ [t] := take_next hti
          have e2 : lvs (ts.take (i + 1)) = lvs (ts.take i) ++ lv t := by
            rw [e1, lvs_append]
            simp [lvs]
          have e3 : lvs ts = lvs (ts.take i) ++ lv t ++ lvs (ts.drop (i + 1)) := by rw [← e2, ← lvs_append, List.take_append_drop]
          have le : (lvs (ts.take i)).length + (lv t).length ≤ 60 := by
            have e4 := congrArg List.length e3
            simp only [List.length_append] at e4
            omega
          rw [e3] at nd
          obtain ⟨nd1, _, _⟩ := List.nodup_append.mp nd
          obtain ⟨_, ndt, dis⟩ := List.nodup_append.mp nd1
          walk_at "z"
          refine ⟨x, t, rfl, hxt.tk (.of_same sm), h1, by omega, ndt, fun l zs rs H2 s2 hz hzs memr lenr => ?_⟩
          walk_at "z"
          have hy2 := s2 _ _ hy
          have hb2 := s2 _ _ hb
          have lps : ps.length ≤ 60 * 60 := Nat.le_trans len (Nat.mul_le_mul (by omega) (by omega))
          have lrs : rs.length ≤ 60 * 60 := Nat.le_trans lenr (Nat.mul_le_mul (by omega) (by omega))
          refine r_cat hy2 hz (by rw [hys.length, hzs.length]; omega) fun c hc => ?_
          have s3 : Same H2 (upd H2 c (.lst (ys ++ zs))) := same_new hc
          have sm2 := sm.trans s2
          have sm3 := sm2.trans s3
          have prc := pd_append (Prs.tk (.of_same (s2.trans s3)) hys) (Prs.tk (.of_same s3) hzs)
          walk_at "z"
          refine ⟨x, t, rfl, hxt.tk (.of_same sm3), h1, by omega, fun l3 H3 s4 hl4 => ?_⟩
          have sm4 := sm3.trans s4
          have ha4 := sm4 _ _ ha
          have hb4 := s4 _ _ (s3 _ _ hb2)
          have hc4 : H3 c = some (.lst (ys ++ zs)) := s4 _ _ upd_same
          have hp4 := s4 _ _ (s3 _ _ (s2 _ _ hp'))
          have prc4 := Prs.tk (.of_same s4) prc
          have memB : ∀ z ∈ lvs (ts.take i), z ∈ lvs (ts.take (i + 1)) := fun z hz => by rw [e2]; exact List.mem_append_left _ hz
          have memL : ∀ z ∈ lv t, z ∈ lvs (ts.take (i + 1)) := fun z hz => by rw [e2]; exact List.mem_append_right _ hz
          have memc : ∀ p ∈ ps ++ rs, p.1 ∈ lvs (ts.take (i + 1)) ∧ p.2 ∈ lvs (ts.take (i + 1)) ∧ p.1 ≠ p.2 := fun p hp => by
            rcases List.mem_append.mp hp with z | z
            · obtain ⟨m1, m2, m3⟩ := mem p z
              exact ⟨memB _ m1, memB _ m2, m3⟩
            · obtain ⟨m1, m2, m3⟩ := memr p z
              exact ⟨memL _ m1, memL _ m2, m3⟩
          have sq : (lvs (ts.take (i + 1))).length * (lvs (ts.take (i + 1))).length = (lvs (ts.take i)).length * (lvs (ts.take i)).length + (lv t).length * (lv t).length + 2 * ((lvs (ts.take i)).length * (lv t).length) := by
            rw [e2, List.length_append, Nat.add_mul, Nat.mul_add, Nat.mul_add, Nat.mul_comm (lv t).length (lvs (ts.take i)).length]
            omega
          have bnd : (lvs (ts.take i)).length * (lv t).length ≤ 60 * 60 := Nat.mul_le_mul (by omega) (by omega)
          walk_at "z"
          refine r_eqJoin ?_
          walk_at "z"
          refine r_iteB (fun hw => ?_) (fun hw => ?_)
          · walk_at "z"
            refine r_il (.inl (.inl hb4)) (forR_list (xs := (lvs (ts.take i)).map V.int) (fun j σ' H' => (∃ f x5, σ' = [some (.ref a), some (.ref f), some (.ref b), some x, some (.ref l3), x5, none] ∧ ∃ ys ps, H' f = some (.lst ys) ∧ Prs H' ys ps ∧ (∀ p ∈ ps, p.1 ∈ lvs (ts.take (i + 1)) ∧ p.2 ∈ lvs (ts.take (i + 1)) ∧ p.1 ≠ p.2) ∧ ps.length ≤ (lvs (ts.take i)).length * (lvs (ts.take i)).length + (lv t).length * (lv t).length + j * (lv t).length) ∧ Same H3 H')
              ⟨⟨c, _, rfl, _, _, hc4, prc4, memc, by rw [List.length_append]; omega⟩, .refl _⟩ (fun j σ' H' _ ⟨_, s5⟩ => .inl (.inl (s5 _ _ hb4))) ?_ ?_)
            · rintro j u0 σ' H' hu ⟨⟨f, x5, rfl, ys, ps, hy, hys, mem2, len2⟩, s5⟩
              rw [List.getElem?_map] at hu
              obtain ⟨u, hu2, rfl⟩ := Option.map_eq_some_iff.mp hu
              have uB := List.mem_of_getElem? hu2
              have jl : j < (lvs (ts.take i)).length := (List.getElem?_eq_some_iff.mp hu2).1
              have jb : j * (lv t).length ≤ 60 * 60 := Nat.mul_le_mul (by omega) (by omega)
              have bb : (lvs (ts.take i)).length * (lvs (ts.take i)).length ≤ 60 * 60 := Nat.mul_le_mul (by omega) (by omega)
              have ll : (lv t).length * (lv t).length ≤ 60 * 60 := Nat.mul_le_mul (by omega) (by omega)
              walk_at "z"
              refine r_il (.inl (.inl (s5 _ _ hl4))) fun e he => lcR_list (xs := (lv t).map V.int) (fun k H6 => Same H' H6 ∧ ∃ zs, H6 e = some (.lst zs) ∧ Prs H6 zs (((lv t).take k).map fun v => (min u v, max u v))) (by walk_at "zw") ⟨same_new he, [], upd_same, .nil⟩ (fun k H6 _ ⟨s6, _⟩ => .inl (.inl (s6 _ _ (s5 _ _ hl4)))) ?_ ?_
              · rintro k v0 H6 hv ⟨s6, zs, hz, hzs⟩
                rw [List.getElem?_map] at hv
                obtain ⟨v, hv2, rfl⟩ := Option.map_eq_some_iff.mp hv
                walk_at "z"
                refine ⟨rfl, ?_⟩
                walk_at "z"
                refine r_tupN sz2 fun t2 ht2 => ?_
                refine r_lce (by walk_at "zh") (small_lt ?_) ⟨same_mut (s6.trans (same_new ht2)) he, _, upd_same, ?_⟩
                · rw [hzs.length, List.length_map, List.length_take]
                  omega
                · rw [take_next hv2, List.map_append]
                  exact prs_push hz hzs ht2
              · rintro H6 ⟨s6, zs, hz, hzs⟩
                rw [List.length_map, List.take_length] at hzs
                refine r_cat (s6 _ _ hy) hz (by rw [hys.length, hzs.length, List.length_map]; omega) fun g hg => ?_
                walk_at "z"
                refine ⟨⟨g, _, rfl, _, _, upd_same, Prs.tk (.new hg) (pd_append (Prs.tk (.of_same s6) hys) hzs), fun p hp => ?_, ?_⟩, (s5.trans s6).trans (same_new hg)⟩
                · rcases List.mem_append.mp hp with z | z
                  · exact mem2 p z
                  · obtain ⟨v, hv, rfl⟩ := List.mem_map.mp z
                    have ne := dis u uB v hv
                    have mu := memB u uB
                    have mv := memL v hv
                    rcases Int.lt_or_lt_of_ne ne with q1 | q1
                    · rw [Int.min_eq_left (Int.le_of_lt q1), Int.max_eq_right (Int.le_of_lt q1)]
                      exact ⟨mu, mv, ne⟩
                    · rw [Int.min_eq_right (Int.le_of_lt q1), Int.max_eq_left (Int.le_of_lt q1)]
                      exact ⟨mv, mu, ne.symm⟩
                · rw [List.length_append, List.length_map, Nat.succ_mul]
                  omega
            · rintro σ' H' ⟨⟨f, x5, rfl, ys, ps, hy, hys, mem2, len2⟩, s5⟩
              walk_at "z"
              rw [List.length_map] at len2
              refine r_cat (s5 _ _ hb4) (s5 _ _ hl4) (by simp only [List.length_map]; omega) fun g hg => ?_
              walk_at "z"
              refine ⟨⟨f, g, _, _, _, rfl, ?_, ys, ps, same_new hg _ _ hy, Prs.tk (.new hg) hys, mem2, ?_⟩, (sm4.trans s5).trans (same_new hg), same_new hg _ _ (s5 _ _ hp4)⟩
              · rw [e2, List.map_append]
                exact upd_same
              · rw [sq]
                omega
          · walk_at "z"
            refine r_cat hb4 hl4 (by simp only [List.length_map]; omega) fun g hg => ?_
            walk_at "z"
            refine ⟨⟨c, g, _, _, _, rfl, ?_, _, _, same_new hg _ _ hc4, Prs.tk (.new hg) prc4, memc, ?_⟩, sm4.trans (same_new hg), same_new hg _ _ hp4⟩
            · rw [e2, List.map_append]
              exact upd_same
            · rw [sq, List.length_append]
              omega
        · rintro σ' H' ⟨⟨f, b, x3, x4, x5, rfl, hb, ys, ps, hy, hys, mem, len⟩, sm, hp'⟩
          walk_at "z"
          rw [pr.length, List.take_length] at mem len
          exact q f ys ps H' sm hy hys mem len
/-- a drawn tree over some of the leaves -/
def spDrawn : Sp := fun vs H Q _ => ∃ (a s l : Addr) (ns : List Int), vs = [.ref a, .ref l] ∧ Pool H a s ∧ H l = some (.lst (ns.map V.int)) ∧ 1 ≤ ns.length ∧ ns.length ≤ 60 ∧
  ∀ (v : V) (t : Tr) (H' : Hp), Pool H' a s → Gr a H H' → TreeAt H' v t → wf t → (∃ ms, (lv t ++ ms).Perm ns) → Q v H'
theorem leafs {H : Hp} : ∀ ns : List Int, Paired (TreeAt H) (ns.map V.int) (ns.map Tr.leaf)
  | [] => .nil
  | n :: ns => .cons (.leaf n) (leafs ns)
theorem lvs_leafs : ∀ ns : List Int, lvs (ns.map Tr.leaf) = ns
  | [] => rfl
  | n :: ns => by simp [lvs, lv, lvs_leafs ns]
theorem pdT_tk {H H' : Hp} (k : TK H H') {vs : List V} {ts : List Tr} (h : Paired (TreeAt H) vs ts) : Paired (TreeAt H') vs ts := (TreesAt.tk k ts (TreesAt.of h)).pd
theorem pd_erase {α β : Type} {F : α → β → Prop} : ∀ {xs : List α} {ps : List β} (k : Nat), Paired F xs ps → Paired F (xs.eraseIdx k) (ps.eraseIdx k)
  | _, _, _, .nil => .nil
  | _, _, 0, .cons _ t => t
  | _, _, k + 1, .cons f t => .cons f (pd_erase k t)
theorem ok_drawn (T : Blt mg) (D : DefAt K mg "_law_drawn_tree" s_law_drawn_tree ["pool", "leaves"]) (D_law_draw : DefAt K mg "_law_draw" s_law_draw ["pool", "many"]) (G_law_draw : FnOk P w K mg base CX0 2 D_law_draw.f D_law_draw.fd ["pool", "many"] spDraw) :
    FnOk P w K mg base CX0 4 D.f D.fd ["pool", "leaves"] spDrawn := by
  refine D.F.ok sc_law_drawn_tree (fun vs H Q E h => ?_) (fun cdv A outer s H vs Q E hr h => ?_)
  · obtain ⟨a, s, l, ns, rfl, _⟩ := h
    rfl
  · obtain ⟨a, s0, l, ns, rfl, hP, hl, l1, l2, q⟩ := h
    refine ⟨_, (pss_cons (ps_set (i := 2) sc_law_drawn_tree.nd rfl (Or.inr rfl) (pe_callTy (call_listK (K := K) rfl) (by rfl) T.list (by decide +kernel) (pa_cons (pv 1) pa_nil)))
      (pss_cons (ps_for PassesOwn.never (by rfl) (pi_range1 (by rfl) T.range (pa_cons (pe_op op_sub (pe_callB (call_lenK (K := K) rfl) (by rfl) T.len (by decide +kernel) (pa_cons (pv 2) pa_nil)) pe_int) pa_nil)) (pg_name (i := 3) sc_law_drawn_tree.nd rfl (Or.inl rfl))
        (pss_one (ps_if (pt_cmpR op_gt (pe_callB (call_lenK (K := K) rfl) (by rfl) T.len (by decide +kernel) (pa_cons (pv 2) pa_nil)) pe_int (nomark _))
          (pss_cons (ps_set (i := 4) sc_law_drawn_tree.nd rfl (Or.inl rfl) (pe_callB (call_min2' rfl) (by rfl) T.min (by decide +kernel) (pa_cons (pe_callB (call_lenK (K := K) rfl) (by rfl) T.len (by decide +kernel) (pa_cons (pv 2) pa_nil)) (pa_cons (pe_op op_add pe_int (pe_call G_law_draw (hr.mono (by first | decide | omega)) (by rfl) D_law_draw.g D_law_draw.F.kp D_law_draw.b .nil pass0 (pa_cons (pv 0) (pa_cons pe_int pa_nil)))) pa_nil))))
          (pss_cons (ps_setLc (i := 5) (own := [("j", 6)]) (by rfl) sc_law_drawn_tree.nd rfl rfl (sw_true rfl rfl rfl (by decide +kernel)) (pi_range1 (by rfl) T.range (pa_cons (pv 4) pa_nil)) (blkOk_by (own := [("j", 6)]) (N := ["pool", "leaves", "trees", "k", "many", "parts", "j"]) (sc := (defScope s_law_drawn_tree)) (by decide +kernel)) (fun _ _ _ _ _ => (pg_name (i := 6) sc_law_drawn_tree.nd rfl (Or.inl rfl))) (fun _ _ _ _ _ => pts_nil) (fun _ _ _ _ _ => (PE.bmK (K := K) rfl (pe_bm PySem.F.plainAttrs_list PySem.F.slot_list_pop PySem.F.type_list_pop mt_popAt (pv 2) (pa_cons (pe_call G_law_draw (hr.mono (by first | decide | omega)) (by rfl) D_law_draw.g D_law_draw.F.kp D_law_draw.b .nil pass0 (pa_cons (pv 0) (pa_cons (pe_callB (call_lenK (K := K) rfl) (by rfl) T.len (by decide +kernel) (pa_cons (pv 2) pa_nil)) pa_nil))) pa_nil)))))
          (pss_one (ps_expr (PE.bmK (K := K) rfl (pe_bm PySem.F.plainAttrs_list PySem.F.slot_list_append PySem.F.type_list_append mt_append (pv 2) (pa_cons (pe_op (op_catTK (K := K) rfl) (pe_tup (pa_cons (pe_ix (ix_listK (K := K) rfl) (pe_lst (pa_cons pe_str (pa_cons pe_str pa_nil))) (pe_call G_law_draw (hr.mono (by first | decide | omega)) (by rfl) D_law_draw.g D_law_draw.F.kp D_law_draw.b .nil pass0 (pa_cons (pv 0) (pa_cons pe_int pa_nil))) (fun _ _ => rfl)) pa_nil)) (pe_callTy (call_tupleK (K := K) rfl) (by rfl) T.tuple (by decide +kernel) (pa_cons (pv 5) pa_nil))) pa_nil)))))))
          pss_nil)))
      (pss_one (ps_ret (pe_ix (ix_listK (K := K) rfl) (pv 2) pe_int (fun _ _ => rfl)))))), ?_⟩
    refine r_at (σ := [some _, some _, none, none, none, none, none]) rfl ?_
    walk_at "z"
    refine r_listL (.inl (.inl hl)) fun r hr0 => ?_
    have rne := new_ne hP hr0
    walk_at "z"
    rw [List.length_map]
    refine r_rg1 (by omega) (forR_range (fun i σ' H' => (∃ x3 x4 x5, σ' = [some (.ref a), some (.ref l), some (.ref r), x3, x4, x5, none]) ∧ Pool H' a s0 ∧ Gr a H H' ∧ ∃ vs ts, H' r = some (.lst vs) ∧ Paired (TreeAt H') vs ts ∧ (lvs ts).Perm ns ∧ (∀ t ∈ ts, wf t) ∧ 1 ≤ ts.length ∧ ts.length ≤ 60)
      ⟨⟨_, _, _, rfl⟩, hP.mono (same_new hr0), .new hr0, _, ns.map Tr.leaf, upd_same, leafs ns, by rw [lvs_leafs], ?_, by rw [List.length_map]; exact l1, by rw [List.length_map]; exact l2⟩ ?_ ?_)
    · intro t ht
      obtain ⟨z, _, rfl⟩ := List.mem_map.mp ht
      simp [wf]
    · rintro i σ' H' hi ⟨⟨x3, x4, x5, rfl⟩, hP', g, vs, ts, hv, hvt, pm, hwf, t1, t2⟩
      walk_at "z"
      rw [hvt.length]
      refine r_ite (fun h => ?_) (fun h => ?_)
      · walk_at "z"
        refine ⟨a, s0, 2, rfl, hP', by omega, by omega, fun c H1 c0 c1 hP1 g1 => ?_⟩
        have hv1 := g1 _ _ rne.1 hv
        have hvt1 := pdT_tk (g1.tk hP') hvt
        walk_at "z"
        rw [hvt.length]
        obtain ⟨m, hm⟩ : ∃ m : Nat, min (ts.length : Int) (2 + c) = (m : Int) := ⟨(min (ts.length : Int) (2 + c)).toNat, by omega⟩
        rw [hm]
        refine r_rg1 (by omega) fun d hd => lcR_range (fun j H2 => Pool H2 a s0 ∧ Gr a H H2 ∧ ∃ vs2 ts2 us qs, H2 r = some (.lst vs2) ∧ Paired (TreeAt H2) vs2 ts2 ∧ H2 d = some (.lst us) ∧ Paired (TreeAt H2) us qs ∧ (ts2 ++ qs).Perm ts ∧ qs.length = j)
          (by walk_at "zw") ⟨hP1.mono (same_new hd), (g.trans g1).trans (.new hd), vs, ts, [], [], same_new hd _ _ hv1, pdT_tk (.new hd) hvt1, upd_same, .nil, by rw [List.append_nil], rfl⟩ ?_ ?_
        · rintro j H2 hj ⟨hP2, g2, vs2, ts2, us, qs, hv2, hvt2, hu, hut, pm2, hlq⟩
          have dne := new_ne hP1 hd
          have dr : d ≠ r := (ne_of_none hv1 hd).symm
          have lts : ts2.length + j = ts.length := by
            have := pm2.length_eq
            rw [List.length_append, hlq] at this
            omega
          walk_at "z"
          refine ⟨rfl, ?_⟩
          walk_at "z"
          rw [hvt2.length]
          refine ⟨a, s0, _, rfl, hP2, by omega, by omega, fun b H3 b0 b1 hP3 g3 => ?_⟩
          have hv3 := g3 _ _ rne.1 hv2
          have hvt3 := pdT_tk (g3.tk hP2) hvt2
          have hu3 := g3 _ _ dne.1 hu
          have hut3 := pdT_tk (g3.tk hP2) hut
          walk_at "z"
          have hb : b.toNat < ts2.length := by omega
          have gt : ts2[b.toNat]? = some ts2[b.toNat] := List.getElem?_eq_getElem hb
          obtain ⟨y, hy, hyt⟩ := pd_get2 hvt3 gt
          refine r_popAt hv3 (k := b.toNat) (y := y) (by omega) (by omega) hy ?_
          have k4 : TK H3 (upd H3 r (.lst (vs2.eraseIdx b.toNat))) := .lst hv3
          have k5 : TK H3 (upd (upd H3 r (.lst (vs2.eraseIdx b.toNat))) d (.lst (us ++ [y]))) := k4.trans (.lst ((upd_ne dr).trans hu3))
          refine r_lce ((upd_ne dr).trans hu3) (small_lt (by rw [hut.length]; omega)) ⟨(hP3.upd rne).upd dne, ((g2.trans g3).mut hr0).mut ((g.trans g1).free hP1.ne hd), vs2.eraseIdx b.toNat, ts2.eraseIdx b.toNat, us ++ [y], qs ++ [ts2[b.toNat]], (upd_ne (Ne.symm dr)).trans upd_same, pdT_tk k5 (pd_erase _ hvt3), upd_same, (pdT_tk k5 hut3).snoc (TreeAt.tk k5 _ hyt), ?_, by rw [List.length_append, hlq]; rfl⟩
          refine List.Perm.trans ?_ pm2
          have p1 : (ts2.eraseIdx b.toNat ++ (qs ++ [ts2[b.toNat]])).Perm ([ts2[b.toNat]] ++ (ts2.eraseIdx b.toNat ++ qs)) := by
            rw [← List.append_assoc]
            exact List.perm_append_comm
          exact p1.trans ((get_erase_perm ts2 gt).append_right qs)
        · rintro H2 ⟨hP2, g2, vs2, ts2, us, qs, hv2, hvt2, hu, hut, pm2, hlq⟩
          have dne := new_ne hP1 hd
          walk_at "z"
          refine r_lstN sz2 fun e he => ?_
          have hP3 := hP2.mono (same_new (o := .lst [.str "union", .str "join"]) he)
          walk_at "z"
          refine ⟨a, s0, 2, rfl, hP3, by omega, by omega, fun b H3 b0 b1 hP4 g3 => ?_⟩
          have he3 := g3 _ _ (new_ne hP2 he).1 upd_same
          obtain ⟨w0, hw⟩ : ∃ w0 : Bool, atI [V.str "union", V.str "join"] b = some (.str (wd w0)) := by
            have e : b = 0 ∨ b = 1 := by omega
            rcases e with e | e <;> subst e
            · exact ⟨false, rfl⟩
            · exact ⟨true, rfl⟩
          have s1 : Gr a H2 H3 := (Gr.new he).trans g3
          have hv3 := s1 _ _ rne.1 hv2
          have hu3 := s1 _ _ dne.1 hu
          walk_at "z"
          refine r_tupN sz1 fun t3 ht3 => ?_
          have k3 : Same H3 (upd H3 t3 (.tup [.str (wd w0)])) := same_new ht3
          have hu4 := k3 _ _ hu3
          walk_at "z"
          refine r_tupL (.inl (.inl hu4)) fun t4 ht4 => ?_
          have k4 := k3.trans (same_new (o := .tup us) ht4)
          have t34 : t3 ≠ t4 := ne_of_none upd_same ht4
          have lus : us.length = m := by rw [hut.length, hlq]; omega
          have une : us ≠ [] := fun z => by
            rw [z] at lus
            simp only [List.length_nil] at lus
            omega
          refine ⟨t3, t4, [.str (wd w0)], us, rfl, rfl, .inl (.inl ((upd_ne t34).trans upd_same)),   .inl (.inl upd_same), List.cons_ne_nil _ _, small_len (by simp only [List.length_cons, List.length_nil]; omega), fun z => absurd z une, fun _ t5 ht5 => ?_⟩
          have k5 := k4.trans (same_new (o := .tup ([.str (wd w0)] ++ us)) ht5)
          walk_at "z"
          refine r_appT (k5 _ _ hv3) (small_lt (by rw [hvt2.length]; have := pm2.length_eq; rw [List.length_append] at this; omega)) ?_
          have kk : TK H2 (upd (upd (upd (upd H3 t3 (.tup [.str (wd w0)])) t4 (.tup us)) t5 (.tup ([.str (wd w0)] ++ us))) r (.lst (vs2 ++ [.ref t5]))) := (s1.tk hP2).trans ((TK.of_same k5).trans (.lst (k5 _ _ hv3)))
          have r5 : t5 ≠ r := (ne_of_none (k4 _ _ hv3) ht5).symm
          refine ⟨⟨_, _, _, rfl⟩, (hP4.mono k5).upd rne, ((g2.trans s1).trans (.of_same k5)).mut hr0, _, ts2 ++ [.node w0 qs], upd_same, (pdT_tk kk hvt2).snoc (show TreeAt (upd (upd (upd (upd H3 t3 (.tup [.str (wd w0)])) t4 (.tup us)) t5 (.tup ([.str (wd w0)] ++ us))) r (.lst (vs2 ++ [.ref t5]))) (.ref t5) (.node w0 qs) from TreeAt.node w0 (xs := us) ((upd_ne r5).trans upd_same) (TreesAt.of (pdT_tk kk hut))), ?_, fun t ht => ?_, ?_, ?_⟩
          · have e : lvs (ts2 ++ [.node w0 qs]) = lvs (ts2 ++ qs) := by
              rw [lvs_append, lvs_append]
              simp [lvs, lv]
            rw [e]
            exact (lvs_perm pm2).trans pm
          · rcases List.mem_append.mp ht with z | z
            · exact hwf t (pm2.mem_iff.mp (List.mem_append_left _ z))
            · rw [List.mem_singleton.mp z]
              simp only [wf]
              exact ⟨by omega, wfs_mem.mpr fun t2 ht2 => hwf t2 (pm2.mem_iff.mp (List.mem_append_right _ ht2))⟩
          · rw [List.length_append]
            simp
          · have := pm2.length_eq
            rw [List.length_append] at this ⊢
            simp only [List.length_cons, List.length_nil]
            omega
      · exact ⟨⟨_, _, _, rfl⟩, hP', g, vs, ts, hv, hvt, pm, hwf, t1, t2⟩
    · rintro σ' H' ⟨⟨x3, x4, x5, rfl⟩, hP', g, vs, ts, hv, hvt, pm, hwf, t1, t2⟩
      walk_at "z"
      obtain ⟨t, ht⟩ : ∃ t, ts[0]? = some t := ⟨_, List.getElem?_eq_getElem (by omega)⟩
      obtain ⟨y, hy, hyt⟩ := pd_get2 hvt ht
      refine r_ixL (.inl (.inl hv)) (atI_nat (j := 0) hy) ?_
      obtain ⟨rest, e⟩ : ∃ rest, ts = t :: rest := by
        cases ts with
        | nil => simp at t1
        | cons u us =>
          have : u = t := Option.some.inj ht
          exact ⟨us, by rw [this]⟩
      refine q y t H' hP' g hyt (hwf t (List.mem_of_getElem? ht)) ⟨lvs rest, ?_⟩
      rw [e] at pm
      exact pm
end

set_option Elab.async false
set_option linter.all false
set_option maxRecDepth 100000
set_option maxHeartbeats 4000000
open PySem PySem.Spec PyProof.Rows L2

abbrev s_law_graph : Stmt := topS 40
theorem sc_law_graph : FnScope ["pool", "most", "way", "n", "graph"] ["pool", "most"] (defScope s_law_graph) := ⟨rfl, rfl, rfl, by decide +kernel, rfl, by decide +kernel, by decide +kernel⟩

section
variable {P : Program} {w : World} {K : PySem.W.Frag} {mg : Str → Option Value} {base : Heap}
theorem moved_good {n : Int} {o : List Int} {ps qs : List (Int × Int)} (g : GoodG n ps) (ho : o.Perm (rgI n)) (asc : qs.Pairwise ltP) (mem : ∀ p, p ∈ qs ↔ ∃ r ∈ ps, p = nrm (ordP o r)) : GoodG n qs := by
  have hl : o.length = n.toNat := by rw [ho.length_eq, rgI_len]
  have nd : o.Nodup := ho.nodup_iff.mpr (rgI_nodup n)
  have bd : ∀ z : Int, 0 ≤ z → z < n → 0 ≤ o.getD z.toNat 0 ∧ o.getD z.toNat 0 < n := fun z h0 h1 => by
    have hlt : z.toNat < o.length := by omega
    rw [List.getD_eq_getElem?_getD, List.getElem?_eq_getElem hlt]
    exact mem_rgI.mp (ho.mem_iff.mp (List.getElem_mem hlt))
  refine good_of g.one (ps := ps.map (ordP o)) (fun r hr => ?_) asc fun p => (mem p).trans ⟨?_, ?_⟩
  · obtain ⟨r0, hr0, rfl⟩ := List.mem_map.mp hr
    obtain ⟨b1, b2, b3⟩ := g.inn r0 hr0
    have h1 := bd r0.1 b1 (by omega)
    have h2 := bd r0.2 (by omega) b3
    refine ⟨h1.1, h1.2, h2.1, h2.2, fun e => ?_⟩
    have l1 : r0.1.toNat < o.length := by omega
    have l2 : r0.2.toNat < o.length := by omega
    unfold ordP at e
    simp only [List.getD_eq_getElem?_getD, List.getElem?_eq_getElem l1, List.getElem?_eq_getElem l2, Option.getD_some] at e
    have := (List.getElem_inj nd).mp e
    omega
  · rintro ⟨r, hr, rfl⟩
    exact ⟨_, List.mem_map.mpr ⟨r, hr, rfl⟩, rfl⟩
  · rintro ⟨r, hr, rfl⟩
    obtain ⟨r0, hr0, rfl⟩ := List.mem_map.mp hr
    exact ⟨r0, hr0, rfl⟩
/-- a drawn graph -/
def spGraph : Sp := fun vs H Q _ => ∃ (a s : Addr) (most : Int), vs = [.ref a, .int most] ∧ Pool H a s ∧ 1 ≤ most ∧ most ≤ 60 ∧ ∀ n : Int, 1 ≤ n → n ≤ most → GenQ a s H n Q
theorem ok_graph (T : Blt mg) (D : DefAt K mg "_law_graph" s_law_graph ["pool", "most"])
    (D_law_draw : DefAt K mg "_law_draw" s_law_draw ["pool", "many"]) (G_law_draw : FnOk P w K mg base CX0 2 D_law_draw.f D_law_draw.fd ["pool", "many"] spDraw)
    (D_law_interval_rows : DefAt K mg "_law_interval_rows" s_law_interval_rows ["pool", "n"]) (G_law_interval_rows : FnOk P w K mg base CX0 3 D_law_interval_rows.f D_law_interval_rows.fd ["pool", "n"] spRows)
    (D_law_interval_graph : DefAt K mg "_law_interval_graph" s_law_interval_graph ["rows"]) (G_law_interval_graph : FnOk P w K mg base CX0 2 D_law_interval_graph.f D_law_interval_graph.fd ["rows"] (spIvGraph K))
    (D_law_turned_graph : DefAt K mg "_law_turned_graph" s_law_turned_graph ["one", "two"]) (G_law_turned_graph : FnOk P w K mg base CX0 2 D_law_turned_graph.f D_law_turned_graph.fd ["one", "two"] (spTurned K))
    (D_law_shuffled : DefAt K mg "_law_shuffled" s_law_shuffled ["pool", "items"]) (G_law_shuffled : FnOk P w K mg base CX0 3 D_law_shuffled.f D_law_shuffled.fd ["pool", "items"] (spShuf K))
    (D_law_ordered_graph : DefAt K mg "_law_ordered_graph" s_law_ordered_graph ["pool", "n"]) (G_law_ordered_graph : FnOk P w K mg base CX0 4 D_law_ordered_graph.f D_law_ordered_graph.fd ["pool", "n"] spOrdered)
    (D_law_clique_graph : DefAt K mg "_law_clique_graph" s_law_clique_graph ["pool", "n"]) (G_law_clique_graph : FnOk P w K mg base CX0 4 D_law_clique_graph.f D_law_clique_graph.fd ["pool", "n"] spClique)
    (D_law_of : DefAt K mg "_law_of" s_law_of ["n", "pairs"]) (G_law_of : FnOk P w K mg base CX0 3 D_law_of.f D_law_of.fd ["n", "pairs"] (spOf K))
    (D_law_tree_pairs : DefAt K mg "_law_tree_pairs" s_law_tree_pairs ["tree"]) (G_law_tree_pairs : FnOk P w K mg base CX0 62 D_law_tree_pairs.f D_law_tree_pairs.fd ["tree"] (spTreePairs 61))
    (D_law_drawn_tree : DefAt K mg "_law_drawn_tree" s_law_drawn_tree ["pool", "leaves"]) (G_law_drawn_tree : FnOk P w K mg base CX0 4 D_law_drawn_tree.f D_law_drawn_tree.fd ["pool", "leaves"] spDrawn)
    (D_law_ringed : DefAt K mg "_law_ringed" s_law_ringed ["pool", "n"]) (G_law_ringed : FnOk P w K mg base CX0 4 D_law_ringed.f D_law_ringed.fd ["pool", "n"] spRinged)
    (D_law_other : DefAt K mg "_law_other" s_law_other ["graph"]) (G_law_other : FnOk P w K mg base CX0 2 D_law_other.f D_law_other.fd ["graph"] spOther)
    (D_law_random_graph : DefAt K mg "_law_random_graph" s_law_random_graph ["pool", "most"]) (G_law_random_graph : FnOk P w K mg base CX0 3 D_law_random_graph.f D_law_random_graph.fd ["pool", "most"] spRandom)
    (D_law_moved : DefAt K mg "_law_moved" s_law_moved ["graph", "order"]) (G_law_moved : FnOk P w K mg base CX0 4 D_law_moved.f D_law_moved.fd ["graph", "order"] (spMoved K)) :
    FnOk P w K mg base CX0 63 D.f D.fd ["pool", "most"] spGraph := by
  refine D.F.ok sc_law_graph (fun vs H Q E h => ?_) (fun cdv A outer s H vs Q E hr h => ?_)
  · obtain ⟨a, s, most, rfl, _⟩ := h
    rfl
  · obtain ⟨a, s0, most, rfl, hP, m1, m2, q⟩ := h
    refine ⟨_, (pss_cons (ps_set (i := 2) sc_law_graph.nd rfl (Or.inl rfl) (pe_call G_law_draw (hr.mono (by first | decide | omega)) (by rfl) D_law_draw.g D_law_draw.F.kp D_law_draw.b .nil pass0 (pa_cons (pv 0) (pa_cons pe_int pa_nil))))
      (pss_cons (ps_set (i := 3) sc_law_graph.nd rfl (Or.inl rfl) (pe_ix (ix_listK (K := K) rfl) (pe_lst (pa_cons (pv 1) (pa_cons (pe_op op_add pe_int (pe_call G_law_draw (hr.mono (by first | decide | omega)) (by rfl) D_law_draw.g D_law_draw.F.kp D_law_draw.b .nil pass0 (pa_cons (pv 0) (pa_cons (pv 1) pa_nil)))) pa_nil))) (pe_callTy call_int1' (by rfl) T.int (by decide +kernel) (pa_cons (pe_cmpR op_eq (pe_call G_law_draw (hr.mono (by first | decide | omega)) (by rfl) D_law_draw.g D_law_draw.F.kp D_law_draw.b .nil pass0 (pa_cons (pv 0) (pa_cons pe_int pa_nil))) pe_int (nomark _)) pa_nil)) (fun _ _ => rfl)))
      (pss_cons (ps_if (pt_cmpR op_eq (pv 2) pe_int (nomark _))
        (pss_one (ps_set (i := 4) sc_law_graph.nd rfl (Or.inl rfl) (pe_call G_law_interval_graph (hr.mono (by first | decide | omega)) (by rfl) D_law_interval_graph.g D_law_interval_graph.F.kp D_law_interval_graph.b .nil pass0 (pa_cons (pe_call G_law_interval_rows (hr.mono (by first | decide | omega)) (by rfl) D_law_interval_rows.g D_law_interval_rows.F.kp D_law_interval_rows.b .nil pass0 (pa_cons (pv 0) (pa_cons (pv 3) pa_nil))) pa_nil))))
        (pss_one (ps_if (pt_cmpR op_eq (pv 2) pe_int (nomark _))
          (pss_one (ps_set (i := 4) sc_law_graph.nd rfl (Or.inl rfl) (pe_call G_law_turned_graph (hr.mono (by first | decide | omega)) (by rfl) D_law_turned_graph.g D_law_turned_graph.F.kp D_law_turned_graph.b .nil pass0 (pa_cons (pe_listRg rfl (by rfl) T.list (prg_1 (by rfl) T.range (pv 3))) (pa_cons (pe_call G_law_shuffled (hr.mono (by first | decide | omega)) (by rfl) D_law_shuffled.g D_law_shuffled.F.kp D_law_shuffled.b .nil pass0 (pa_cons (pv 0) (pa_cons (pe_listRg rfl (by rfl) T.list (prg_1 (by rfl) T.range (pv 3))) pa_nil))) pa_nil)))))
          (pss_one (ps_if (pt_cmpR op_eq (pv 2) pe_int (nomark _))
            (pss_one (ps_set (i := 4) sc_law_graph.nd rfl (Or.inl rfl) (pe_call G_law_ordered_graph (hr.mono (by first | decide | omega)) (by rfl) D_law_ordered_graph.g D_law_ordered_graph.F.kp D_law_ordered_graph.b .nil pass0 (pa_cons (pv 0) (pa_cons (pv 3) pa_nil)))))
            (pss_one (ps_if (pt_cmpR op_eq (pv 2) pe_int (nomark _))
              (pss_one (ps_set (i := 4) sc_law_graph.nd rfl (Or.inl rfl) (pe_call G_law_clique_graph (hr.mono (by first | decide | omega)) (by rfl) D_law_clique_graph.g D_law_clique_graph.F.kp D_law_clique_graph.b .nil pass0 (pa_cons (pv 0) (pa_cons (pv 3) pa_nil)))))
              (pss_one (ps_if (pt_cmpR op_eq (pv 2) pe_int (nomark _))
                (pss_one (ps_set (i := 4) sc_law_graph.nd rfl (Or.inl rfl) (pe_call G_law_of (hr.mono (by first | decide | omega)) (by rfl) D_law_of.g D_law_of.F.kp D_law_of.b .nil pass0 (pa_cons (pv 3) (pa_cons (pe_call G_law_tree_pairs (hr.mono (by first | decide | omega)) (by rfl) D_law_tree_pairs.g D_law_tree_pairs.F.kp D_law_tree_pairs.b .nil pass0 (pa_cons (pe_call G_law_drawn_tree (hr.mono (by first | decide | omega)) (by rfl) D_law_drawn_tree.g D_law_drawn_tree.F.kp D_law_drawn_tree.b .nil pass0 (pa_cons (pv 0) (pa_cons (pe_listRg rfl (by rfl) T.list (prg_1 (by rfl) T.range (pv 3))) pa_nil))) pa_nil)) pa_nil)))))
                (pss_one (ps_if (pt_cmpR op_lt (pv 2) pe_int (nomark _))
                  (pss_one (ps_set (i := 4) sc_law_graph.nd rfl (Or.inl rfl) (pe_call G_law_ringed (hr.mono (by first | decide | omega)) (by rfl) D_law_ringed.g D_law_ringed.F.kp D_law_ringed.b .nil pass0 (pa_cons (pv 0) (pa_cons (pv 3) pa_nil)))))
                  (pss_one (ps_if (pt_cmpR op_eq (pv 2) pe_int (nomark _))
                    (pss_one (ps_set (i := 4) sc_law_graph.nd rfl (Or.inl rfl) (pe_call G_law_other (hr.mono (by first | decide | omega)) (by rfl) D_law_other.g D_law_other.F.kp D_law_other.b .nil pass0 (pa_cons (pe_call G_law_clique_graph (hr.mono (by first | decide | omega)) (by rfl) D_law_clique_graph.g D_law_clique_graph.F.kp D_law_clique_graph.b .nil pass0 (pa_cons (pv 0) (pa_cons (pv 3) pa_nil))) pa_nil))))
                    (pss_one (ps_set (i := 4) sc_law_graph.nd rfl (Or.inl rfl) (pe_call G_law_random_graph (hr.mono (by first | decide | omega)) (by rfl) D_law_random_graph.g D_law_random_graph.F.kp D_law_random_graph.b .nil pass0 (pa_cons (pv 0) (pa_cons (pv 1) pa_nil))))))))))))))))))
      (pss_cons (ps_if (pt_cmpR op_eq (pe_call G_law_draw (hr.mono (by first | decide | omega)) (by rfl) D_law_draw.g D_law_draw.F.kp D_law_draw.b .nil pass0 (pa_cons (pv 0) (pa_cons pe_int pa_nil))) pe_int (nomark _))
        (pss_one (ps_set (i := 4) sc_law_graph.nd rfl (Or.inl rfl) (pe_call G_law_other (hr.mono (by first | decide | omega)) (by rfl) D_law_other.g D_law_other.F.kp D_law_other.b .nil pass0 (pa_cons (pv 4) pa_nil))))
        pss_nil)
      (pss_cons (ps_if (pt_cmpR op_gt (pe_call G_law_draw (hr.mono (by first | decide | omega)) (by rfl) D_law_draw.g D_law_draw.F.kp D_law_draw.b .nil pass0 (pa_cons (pv 0) (pa_cons pe_int pa_nil))) pe_int (nomark _))
        (pss_one (ps_set (i := 4) sc_law_graph.nd rfl (Or.inl rfl) (pe_call G_law_moved (hr.mono (by first | decide | omega)) (by rfl) D_law_moved.g D_law_moved.F.kp D_law_moved.b .nil pass0 (pa_cons (pv 4) (pa_cons (pe_call G_law_shuffled (hr.mono (by first | decide | omega)) (by rfl) D_law_shuffled.g D_law_shuffled.F.kp D_law_shuffled.b .nil pass0 (pa_cons (pv 0) (pa_cons (pe_listRg rfl (by rfl) T.list (prg_1 (by rfl) T.range (pe_ix (ix_tupK (K := K) rfl) (pv 4) pe_int (fun _ _ => rfl)))) pa_nil))) pa_nil)))))
        pss_nil)
      (pss_one (ps_ret (pv 4)))))))), ?_⟩
    refine r_at (σ := [some _, some _, none, none, none]) rfl ?_
    let W : L2.St → Hp → Prop := fun σ' H' => ∃ (x2 x3 : Option V) (v : V) (n : Int) (qs : List (Int × Int)), σ' = [some (.ref a), some (.int most), x2, x3, some v] ∧ Pool H' a s0 ∧ Gr a H H' ∧ GrAt H' v n qs ∧ GoodG n qs ∧ n ≤ most
    walk_at "z"
    refine ⟨a, s0, 14, rfl, hP, by omega, by omega, fun way H1 w0 w1 hP1 g1 => ?_⟩
    walk_at "z"
    refine ⟨a, s0, most, rfl, hP1, by omega, by omega, fun r H2 r0 r1 hP2 g2 => ?_⟩
    walk_at "z"
    refine r_lstN sz2 fun l hl => ?_
    walk_at "z"
    refine ⟨a, s0, 3, rfl, hP2.mono (same_new hl), by omega, by omega, fun r2 H3 _ _ hP3 g3 => ?_⟩
    have hl2 := g3 _ _ (new_ne hP2 hl).1 upd_same
    walk_at "z"
    refine r_pick2 hl2 fun n hn => ?_
    have g : Gr a H H3 := ((g1.trans g2).trans (.new hl)).trans g3
    have n0 : 1 ≤ n := by omega
    have n1 : n ≤ most := by omega
    walk_at "z1"
    refine r_seqW W ?tail fun B hB => ?head
    case head =>
      -- what each way gives is enough
      have fin : ∀ (v : V) (qs : List (Int × Int)) (H' : Hp), Pool H' a s0 → Gr a H3 H' → GrAt H' v n qs → GoodG n qs → B [some (.ref a), some (.int most), some (.int way), some (.int n), some v] H' := fun v qs H' p' g' hv hg =>
        hB _ _ ⟨_, _, v, n, qs, rfl, p', g.trans g', hv, hg, n1⟩
      have nn : ((n.toNat : Nat) : Int) = n := by omega
      have flt : ∀ (v : V) (c : Int × Int → Bool) (H' : Hp), Pool H' a s0 → Gr a H3 H' → GrAt H' v n ((allP n.toNat).filter c) → B [some (.ref a), some (.int most), some (.int way), some (.int n), some v] H' := fun v c H' p' g' hv =>
        fin v _ H' p' g' hv (by have := good_filter (n := n.toNat) (by omega) c; rw [nn] at this; exact this)
      walk_at "z"
      refine r_ite (fun h0 => ?_) (fun h0 => ?_)
      · walk_at "z"
        refine ⟨a, s0, n, rfl, hP3, by omega, by omega, fun f xs ps H4 hf hP4 g4 hx hp hlen => ?_⟩
        walk_at "z"
        refine ⟨f, xs, ps, rfl, .inl (.inl hx), hp, by omega, fun v c H5 s5 hv => ?_⟩
        walk_at "z"
        rw [hlen] at hv
        exact flt v c H5 (hP4.mono s5) (g4.trans (.of_same s5)) (by rw [nn] at hv; exact hv)
      walk_at "z"
      refine r_ite (fun h0 => ?_) (fun h0 => ?_)
      · walk_at "z"
        refine r_lRg (by omega) (by omega) fun l1 hl1 => ?_
        walk_at "z"
        refine r_lRg (by omega) (by omega) fun l2 hl2 => ?_
        walk_at "z"
        have hP4 := hP3.mono (same_new (o := .lst ((rgI n).map V.int)) hl1)
        have hP5 := hP4.mono (same_new (o := .lst ((rgI n).map V.int)) hl2)
        have n12 : l1 ≠ l2 := ne_of_none upd_same hl2
        refine ⟨a, s0, l2, rgI n, rfl, hP5, (new_ne hP4 hl2).1, upd_same, by rw [rgI_len]; omega, fun f ms H4 hf hfa hP6 g6 hms pm => ?_⟩
        walk_at "z"
        have h1 := g6 _ _ (new_ne hP3 hl1).1 ((upd_ne n12).trans upd_same)
        refine ⟨l1, f, rgI n, ms, rfl, .inl (.inl h1), .inl (.inl hms), by rw [rgI_len]; omega, fun z z0 z1 => ?_, fun v c H5 s5 hv => ?_⟩
        · rw [rgI_len] at z1
          have hm : z ∈ rgI n := mem_rgI.mpr ⟨z0, by omega⟩
          exact ⟨hm, pm.mem_iff.mpr hm⟩
        · walk_at "z"
          rw [rgI_len] at hv
          exact flt v c H5 (hP6.mono s5) ((((Gr.new hl1).trans (.new hl2)).trans g6).trans (.of_same s5)) (by rw [nn] at hv; exact hv)
      walk_at "z"
      refine r_ite (fun h0 => ?_) (fun h0 => ?_)
      · walk_at "z"
        refine ⟨a, s0, n, rfl, hP3, by omega, by omega, fun v qs H4 hP4 g4 hv hg => ?_⟩
        walk_at "z"
        exact fin v qs H4 hP4 g4 hv hg
      walk_at "z"
      refine r_ite (fun h0 => ?_) (fun h0 => ?_)
      · walk_at "z"
        refine ⟨a, s0, n, rfl, hP3, by omega, by omega, fun v qs H4 hP4 g4 hv hg => ?_⟩
        walk_at "z"
        exact fin v qs H4 hP4 g4 hv hg
      walk_at "z"
      refine r_ite (fun h0 => ?_) (fun h0 => ?_)
      · walk_at "z"
        refine r_lRg (by omega) (by omega) fun l1 hl1 => ?_
        walk_at "z"
        have hP4 := hP3.mono (same_new (o := .lst ((rgI n).map V.int)) hl1)
        refine ⟨a, s0, l1, rgI n, rfl, hP4, upd_same, by rw [rgI_len]; omega, by rw [rgI_len]; omega, fun v t H4 hP5 g5 ht hwf ⟨ms, pm⟩ => ?_⟩
        walk_at "z"
        have nd : (lv t).Nodup := (List.nodup_append.mp (pm.nodup_iff.mpr (rgI_nodup n))).1
        have ll : (lv t).length ≤ 60 := by
          have := pm.length_eq
          rw [List.length_append, rgI_len] at this
          omega
        have mem : ∀ z ∈ lv t, 0 ≤ z ∧ z < n := fun z hz => mem_rgI.mp (pm.mem_iff.mp (List.mem_append_left _ hz))
        refine ⟨v, t, rfl, ht, by have := dp_lv t hwf; omega, ll, nd, fun f xs ps H5 s5 hx hp hm hlen => ?_⟩
        walk_at "z"
        have sq : (lv t).length * (lv t).length ≤ 60 * 60 := Nat.mul_le_mul ll ll
        refine ⟨n, f, xs, ps, rfl, .inl (.inl hx), hp, by omega, fun v2 qs H6 s6 hv asc memq => ?_⟩
        walk_at "z"
        refine fin v2 qs H6 ((hP5.mono s5).mono s6) ((((Gr.new hl1).trans g5).trans (.of_same s5)).trans (.of_same s6)) hv (good_of n0 (fun r hr => ?_) asc memq)
        obtain ⟨k1, k2, k3⟩ := hm r hr
        have := mem r.1 k1
        have := mem r.2 k2
        omega
      walk_at "z"
      refine r_ite (fun h0 => ?_) (fun h0 => ?_)
      · walk_at "z"
        refine ⟨a, s0, n, rfl, hP3, by omega, by omega, fun v qs H4 hP4 g4 hv hg => ?_⟩
        walk_at "z"
        exact fin v qs H4 hP4 g4 hv hg
      walk_at "z"
      refine r_ite (fun h0 => ?_) (fun h0 => ?_)
      · walk_at "z"
        refine ⟨a, s0, n, rfl, hP3, by omega, by omega, fun v qs H4 hP4 g4 hv hg => ?_⟩
        walk_at "z"
        refine ⟨v, n.toNat, qs, rfl, by rw [nn]; exact hv, by omega, fun v2 H5 s5 hv2 => ?_⟩
        walk_at "z"
        exact flt v2 _ H5 (hP4.mono s5) (g4.trans (.of_same s5)) (by rw [nn] at hv2; exact hv2)
      · walk_at "z"
        refine ⟨a, s0, most, rfl, hP3, m1, by omega, fun n2 k1 k2 v qs H4 hP4 g4 hv hg => ?_⟩
        walk_at "z"
        exact hB _ _ ⟨_, _, v, n2, qs, rfl, hP4, g.trans g4, hv, hg, k2⟩
    case tail =>
      rintro σ' H4 ⟨x2, x3, v, n2, qs, rfl, hP4, g4, hv, hg, hn2⟩
      refine r_seqW W ?tail2 fun B hB => ?head2
      case head2 =>
        walk_at "z"
        refine ⟨a, s0, 4, rfl, hP4, by omega, by omega, fun c H5 _ _ hP5 g5 => ?_⟩
        have hv5 := hv.tk (g5.tk hP4)
        walk_at "z"
        refine r_ite (fun h0 => ?_) (fun h0 => ?_)
        · walk_at "z"
          have nn : ((n2.toNat : Nat) : Int) = n2 := by have := hg.one; omega
          refine ⟨v, n2.toNat, qs, rfl, by rw [nn]; exact hv5, by omega, fun v2 H6 s6 hv2 => ?_⟩
          walk_at "z"
          have gf := good_filter (n := n2.toNat) (by have := hg.one; omega) fun p => decide (p ∉ qs)
          rw [nn] at hv2 gf
          exact hB _ _ ⟨_, _, v2, n2, _, rfl, hP5.mono s6, (g4.trans g5).trans (.of_same s6), hv2, gf, hn2⟩
        · walk_at "z"
          exact hB _ _ ⟨_, _, v, n2, qs, rfl, hP5, g4.trans g5, hv5, hg, hn2⟩
      case tail2 =>
        rintro σ' H4 ⟨x2, x3, v, n2, qs, rfl, hP4, g4, hv, hg, hn2⟩
        refine r_seqW W ?tail3 fun B hB => ?head3
        case head3 =>
          walk_at "z"
          refine ⟨a, s0, 3, rfl, hP4, by omega, by omega, fun c H5 _ _ hP5 g5 => ?_⟩
          have hv5 := hv.tk (g5.tk hP4)
          walk_at "z"
          refine r_ite (fun h0 => ?_) (fun h0 => ?_)
          · obtain ⟨ga, e, rfl, hga, he⟩ := id hv5
            walk_at "z"
            refine r_lRg (by have := hg.one; omega) (by omega) fun l1 hl1 => ?_
            walk_at "z"
            have hP6 := hP5.mono (same_new (o := .lst ((rgI n2).map V.int)) hl1)
            refine ⟨a, s0, l1, rgI n2, rfl, hP6, (new_ne hP5 hl1).1, upd_same, by rw [rgI_len]; omega, fun f ms H6 hf hfa hP7 g7 hms pm => ?_⟩
            have gk : Gr a H5 H6 := (Gr.new hl1).trans g7
            have hv6 := hv5.tk (gk.tk hP5)
            walk_at "z"
            have lms : ms.length = n2.toNat := by rw [pm.length_eq, rgI_len]
            have lqs : qs.length ≤ 10000 := by
              have h1 := nodup_le qs (allP n2.toNat) (asc_nodup hg.asc) fun p hp => by
                obtain ⟨b1, b2, b3⟩ := hg.inn p hp
                exact mem_allP.mpr ⟨b1, b2, by omega⟩
              have h2 := allP_small (n := n2.toNat) (by omega)
              omega
            refine ⟨.ref ga, f, n2, qs, ms, rfl, hv6, .inl (.inl (.inl hms)), lqs, fun p hp => ?_, fun v2 rs H7 s7 hv7 asc mem => ?_⟩
            · obtain ⟨b1, b2, b3⟩ := hg.inn p hp
              omega
            · walk_at "z"
              exact hB _ _ ⟨_, _, v2, n2, rs, rfl, hP7.mono s7, ((g4.trans g5).trans gk).trans (.of_same s7), hv7, moved_good hg pm asc mem, hn2⟩
          · walk_at "z"
            exact hB _ _ ⟨_, _, v, n2, qs, rfl, hP5, g4.trans g5, hv5, hg, hn2⟩
        case tail3 =>
          rintro σ' H4 ⟨x2, x3, v, n2, qs, rfl, hP4, g4, hv, hg, hn2⟩
          walk_at "z"
          exact q n2 hg.one hn2 v qs H4 hP4 g4 hv hg
end

set_option Elab.async false
set_option linter.all false
set_option maxRecDepth 100000
set_option maxHeartbeats 4000000
open PySem PySem.Spec PyProof.Rows L2 LamX RZ

abbrev s_law : Stmt := topS 47
theorem sc_law : FnScope ["script", "pool", "graph", "k", "kind", "value", "j"] ["script"] (defScope s_law) := ⟨rfl, rfl, rfl, by decide +kernel, rfl, by decide +kernel, by decide +kernel⟩

theorem Pool.ext {H H' : Hp} {a s : Addr} (h : Pool H a s) (k : ExtN H H') : Pool H' a s := by
  obtain ⟨ns, p, v, c, salt, h1, h2, h3, h4⟩ := h
  exact ⟨ns, p, v, c, salt, ext_lst k h1, ext_lst k h2, h3, h4⟩
theorem Pool.tab {TB : List (Addr × Str)} {a s : Addr} {H H' : Hp} (h : Pool H a s) (g : Gr a H H') (r : Tabs TB H) : Tabs TB H' := by
  obtain ⟨xs, hx⟩ := h.lst
  exact tabsGr g hx r
theorem Pool.gra {a s : Addr} {H H' : Hp} (h : Pool H a s) (g : Gr a H H') {x : V} {n : Int} {ps : List (Int × Int)} (r : GrAt H x n ps) : GrAt H' x n ps := by
  obtain ⟨xs, hx⟩ := h.lst
  exact r.tk (.of_gr g hx)
theorem gr_ext {H H' : Hp} (x : ExtN H H') {g : V} {n : Int} {ps : List (Int × Int)} (h : GrAt H g n ps) : GrAt H' g n ps := h.tk (ext_tk x)
theorem good_len8 {n : Int} {ps : List (Int × Int)} (g : GoodG n ps) (h : n ≤ 8) : ps.length ≤ 100 := by
  have h1 := g.one
  have l1 : ps.length ≤ (allP n.toNat).length := nodup_le ps (allP n.toNat) (asc_nodup g.asc) fun p hp => by
    obtain ⟨b1, b2, b3⟩ := g.inn p hp
    exact mem_allP.mpr ⟨b1, b2, by omega⟩
  have h4 := preP_len (n := n.toNat) (i := n.toNat)
  have h5 : n.toNat * n.toNat ≤ 8 * 8 := Nat.mul_le_mul (by omega) (by omega)
  unfold allP at l1
  omega
theorem limX_prs {ps : List (Int × Int)} {n : Int} (h : ps.length ≤ 100) : limX 3 100 (.tuple [.int n, .tuple (ps.map prX)]) := by
  refine limX_mk (by simp only [List.length_cons, List.length_nil]; omega) (forall_cons limX_int (forall_cons (limX_mk (by rw [List.length_map]; exact h) fun x hx => ?_) fun x hx => nomatch hx))
  obtain ⟨p, _, rfl⟩ := List.mem_map.mp hx
  exact limX_mk (by simp only [List.length_cons, List.length_nil]; omega) (forall_cons limX_int (forall_cons limX_int fun x hx => nomatch hx))
theorem kds_ok : ∀ w ∈ kds, w.cps.all (· < 0x110000) = true := by decide +kernel
theorem dps_str {K : PySem.W.Frag} {H : Hp} : ∀ ks : List Str, DpAll K H (ks.map V.str) (ks.map PyData.str)
  | [] => .nil
  | k :: ks => .cons (.str k) (dps_str ks)
section
variable {P : Program} {w : World} {K : PySem.W.Frag} {mg : Str → Option Value} {base : Heap}
theorem dx_graph {a : Addr} {H : Hp} {v : V} {n : Int} {ps : List (Int × Int)} (h : GrAt H v n ps) : DX a H v (.tuple [.int n, .tuple (ps.map prX)]) := by
  obtain ⟨ga, e, rfl, hg, xs, he, hp⟩ := h
  exact .tup (.inl hg) (.cons (.int n) (.cons (.tup (.inl he) (dx_of_prs hp)) .nil))
theorem fn_ex {k : Nat} {f : Addr} {fd : FuncData} {ps : List PySem.Str} {CX : CXT} {ι : Type} {sp : ι → Sp} (h : ∀ b, FnOk P w K mg base CX k f fd ps (sp b)) : FnOk P w K mg base CX k f fd ps (fun vs H Q E => ∃ b, sp b vs H Q E) :=
  ⟨fun vs H Q E ⟨b, x⟩ => (h b).1 vs H Q E x, fun x1 x2 x3 x4 x5 x6 x7 x8 x9 x10 x11 x12 x13 ⟨b, x⟩ => (h b).2 x1 x2 x3 x4 x5 x6 x7 x8 x9 x10 x11 x12 x13 x⟩
def spQA (TT : List (Addr × Str)) : Sp := fun vs H Q E => ∃ b, spQX b TT vs H Q E
def spDA (K : PySem.W.Frag) : Sp := fun vs H Q E => ∃ b, spDQ K b vs H Q E
set_option hygiene false in
local macro_rules | `(tactic| walk_at "ztail") => `(tactic| (
  walk_at "z"
  refine ⟨a0, s0, 3, rfl, hP5, by omega, by omega, fun r6 H6 r60 r61 hP6 g6 => ?_⟩
  have T6 := hP5.tab g6 T5
  have hd6 := hP5.dx g6 hd5
  have gr6 := hP5.gra g6 gr5
  walk_at "z"
  refine r_rg1 (by omega) (forR_range (fun i σ' H' => ∃ gv t x3 x4 x6, σ' = [some (.ref l), some (.ref a0), some (.ref ga), x3, x4, some gv, x6] ∧ Pool H' a0 s0 ∧ Tabs TB H' ∧ GrAt H' (.ref ga) n ps ∧ DX a0 H' gv t ∧ limX (4 + 2 * i) (100 * 5 ^ i) t) ⟨_, _, _, _, _, rfl, hP6, T6, gr6, hd6, hl5⟩ ?_ ?_)
  · rintro i σ' H7 hi ⟨gv, t, x3, x4, x6, rfl, hP7, T7, gr7, hd7, hl7⟩
    have i1 : i ≤ 1 := by omega
    have p5 : 5 ^ i ≤ 5 ^ 1 := Nat.pow_le_pow_right (by decide) i1
    have p1 : 1 ≤ 5 ^ i := Nat.one_le_pow _ _ (by decide)
    walk_at "z"
    refine ⟨a0, s0, gv, t, 4 + 2 * i, 100 * 5 ^ i, 8, rfl, hP7, hd7, by omega, hl7, by omega, by omega, by omega, fun v' t' H8 hP8 g8 hd8 hl8 => ?_⟩
    exact ⟨_, _, _, _, _, rfl, hP8, hP7.tab g8 T7, hP7.gra g8 gr7, hd8, hl8.mono (by rw [Nat.pow_succ]; omega) (by omega)⟩
  · rintro σ' H7 ⟨gv, t, x3, x4, x6, rfl, hP7, T7, gr7, hd7, hl7⟩
    have p5 : 5 ^ r6.toNat ≤ 5 ^ 2 := Nat.pow_le_pow_right (by decide) (by omega)
    have hl9 : limX (4 + 2 * r6.toNat) 100000 t := hl7.mono (by omega) (Nat.le_refl _)
    walk_at "z"
    refine ⟨a0, .ref ga, gv, n, ps, t, rfl, gr7, hd7, ⟨_, hl9⟩, T7, fun b1 H8 e8 T8 hb1 => ?_⟩
    have gr8 := gr_ext e8 gr7
    walk_at "z"
    refine ⟨a0, .ref ga, gv, n, ps, t, rfl, gr8, hd7.ext e8, ⟨_, hl9⟩, fun b2 H9 s9 hb2 => ?_⟩
    have eb : b2 = b1 := Bool.eq_iff_iff.mpr (hb2.trans hb1.symm)
    subst eb
    walk_at "z"
    refine ⟨.bl b2, .bl b2, .bool b2, rfl, .bl _, .bl _, trivial, ?_⟩
    walk_at "z"
    refine iteF ?_
    exact ⟨⟨_, _, _, _, rfl⟩, (hP7.ext e8).mono s9, gr8.tk (.of_same s9), T8.ext s9⟩))
def spLaw (K : PySem.W.Frag) (TB : List (Addr × Str)) : Sp := fun vs H Q _ => ∃ (l : Addr) (ns : List Int), vs = [.ref l] ∧ SqL K H l (ns.map V.int) ∧ Tabs TB H ∧ ∀ H', Q (.bl true) H'
theorem ok_law {aK : Addr} {TB : List (Addr × Str)} (T : Blt mg) (C_KINDS : mg "KINDS" = some (.ref aK)) (hK : ∀ H, SqT K H aK (kds.map V.str)) (D : DefAt K mg "law" s_law ["script"])
    (D_law_pool : DefAt K mg "_law_pool" s_law_pool ["script"]) (G_law_pool : FnOk P w K mg base CX0 1 D_law_pool.f D_law_pool.fd ["script"] (spPool K))
    (D_law_graph : DefAt K mg "_law_graph" s_law_graph ["pool", "most"]) (G_law_graph : FnOk P w K mg base CX0 63 D_law_graph.f D_law_graph.fd ["pool", "most"] spGraph)
    (D_law_draw : DefAt K mg "_law_draw" s_law_draw ["pool", "many"]) (G_law_draw : FnOk P w K mg base CX0 2 D_law_draw.f D_law_draw.fd ["pool", "many"] spDraw)
    (D_law_same : DefAt K mg "_law_same" s_law_same ["actual", "due"]) (G_law_same : FnOk P w K mg base CX0 4 D_law_same.f D_law_same.fd ["actual", "due"] (spSame K 4))
    (D_law_kinds : DefAt K mg "_law_kinds" s_law_kinds []) (G_law_kinds : FnOk P w K mg base CX0 1 D_law_kinds.f D_law_kinds.fd [] spKinds)
    (D_law_spoilt : DefAt K mg "_law_spoilt" s_law_spoilt ["pool", "value", "n"]) (G_law_spoilt : FnOk P w K mg base CX0 11 D_law_spoilt.f D_law_spoilt.fd ["pool", "value", "n"] (spSpo 7))
    (D_is_question : DefAt K mg "is_question" s_is_question ["graph", "value"]) (G_is_question : FnOk P w K mg base CX0 16 D_is_question.f D_is_question.fd ["graph", "value"] (spQA TB))
    (D_law_due : DefAt K mg "_law_due" s_law_due ["graph", "value"]) (G_law_due : FnOk P w K mg base CX0 3 D_law_due.f D_law_due.fd ["graph", "value"] (spDA K)) :
    FnOk P w K mg base CX0 64 D.f D.fd ["script"] (spLaw K TB) := by
  refine D.F.ok sc_law (fun vs H Q E h => ?_) (fun cdv A outer s H vs Q E hr h => ?_)
  · obtain ⟨l, ns, rfl, _⟩ := h
    rfl
  · obtain ⟨l, ns, rfl, hl, hT, q⟩ := h
    refine ⟨_, (pss_cons (ps_set (i := 1) sc_law.nd rfl (Or.inl rfl) (pe_call G_law_pool (hr.mono (by first | decide | omega)) (by rfl) D_law_pool.g D_law_pool.F.kp D_law_pool.b .nil pass0 (pa_cons (pv 0) pa_nil)))
      (pss_cons (ps_set (i := 2) sc_law.nd rfl (Or.inl rfl) (pe_call G_law_graph (hr.mono (by first | decide | omega)) (by rfl) D_law_graph.g D_law_graph.F.kp D_law_graph.b .nil pass0 (pa_cons (pv 1) (pa_cons pe_int pa_nil))))
      (pss_cons (ps_if (pt_not (pt_val (pe_call G_law_same (hr.mono (by first | decide | omega)) (by rfl) D_law_same.g D_law_same.F.kp D_law_same.b .nil pass0 (pa_cons (pe_glob rfl C_KINDS rel_ref) (pa_cons (pe_callTy (call_tupleK (K := K) rfl) (by rfl) T.tuple (by decide +kernel) (pa_cons (pe_call0 G_law_kinds (hr.mono (by first | decide | omega)) (by rfl) D_law_kinds.g D_law_kinds.F.kp D_law_kinds.b .nil pass0) pa_nil)) pa_nil)))))
        (pss_one (ps_ret pe_bl))
        pss_nil)
      (pss_cons (ps_for PassesOwn.never (by rfl) (pi_range1 (by rfl) T.range (pa_cons pe_int pa_nil)) (pg_name (i := 3) sc_law.nd rfl (Or.inl rfl))
        (pss_cons (ps_set (i := 4) sc_law.nd rfl (Or.inl rfl) (pe_ix (ix_listK (K := K) rfl) (pe_call0 G_law_kinds (hr.mono (by first | decide | omega)) (by rfl) D_law_kinds.g D_law_kinds.F.kp D_law_kinds.b .nil pass0) (pe_call G_law_draw (hr.mono (by first | decide | omega)) (by rfl) D_law_draw.g D_law_draw.F.kp D_law_draw.b .nil pass0 (pa_cons (pv 1) (pa_cons pe_int pa_nil))) (fun _ _ => rfl)))
        (pss_cons (ps_set (i := 5) sc_law.nd rfl (Or.inl rfl) (pe_tup (pa_cons (pv 4) pa_nil)))
        (pss_cons (ps_if (pt_cmpR (op_inSeqK (K := K) rfl) (pv 4) (pe_slice (sl_listK (K := K) rfl) (pe_call0 G_law_kinds (hr.mono (by first | decide | omega)) (by rfl) D_law_kinds.g D_law_kinds.F.kp D_law_kinds.b .nil pass0) (po_some pe_int) (po_some pe_int)) (by rfl))
          (pss_one (ps_set (i := 5) sc_law.nd rfl (Or.inl rfl) (pe_tup (pa_cons (pv 4) (pa_cons (pe_ix (ix_listK (K := K) rfl) (pe_lst (pa_cons (pe_call G_law_draw (hr.mono (by first | decide | omega)) (by rfl) D_law_draw.g D_law_draw.F.kp D_law_draw.b .nil pass0 (pa_cons (pv 1) (pa_cons pe_int pa_nil))) (pa_cons (pe_op op_pow pe_int pe_int) (pa_cons pe_int pa_nil)))) (pe_call G_law_draw (hr.mono (by first | decide | omega)) (by rfl) D_law_draw.g D_law_draw.F.kp D_law_draw.b .nil pass0 (pa_cons (pv 1) (pa_cons pe_int pa_nil))) (fun _ _ => rfl)) pa_nil)))))
          pss_nil)
        (pss_cons (ps_if (pt_cmpR op_eq (pv 4) pe_str (nomark _))
          (pss_one (ps_set (i := 5) sc_law.nd rfl (Or.inl rfl) (pe_tup (pa_cons (pv 4) (pa_cons (pe_call G_law_draw (hr.mono (by first | decide | omega)) (by rfl) D_law_draw.g D_law_draw.F.kp D_law_draw.b .nil pass0 (pa_cons (pv 1) (pa_cons (pe_ix (ix_tupK (K := K) rfl) (pv 2) pe_int (fun _ _ => rfl)) pa_nil))) (pa_cons (pe_call G_law_draw (hr.mono (by first | decide | omega)) (by rfl) D_law_draw.g D_law_draw.F.kp D_law_draw.b .nil pass0 (pa_cons (pv 1) (pa_cons (pe_ix (ix_tupK (K := K) rfl) (pv 2) pe_int (fun _ _ => rfl)) pa_nil))) (pa_cons (pe_call G_law_draw (hr.mono (by first | decide | omega)) (by rfl) D_law_draw.g D_law_draw.F.kp D_law_draw.b .nil pass0 (pa_cons (pv 1) (pa_cons pe_int pa_nil))) pa_nil)))))))
          pss_nil)
        (pss_cons (ps_if (pt_cmpR op_eq (pv 4) pe_str (nomark _))
          (pss_one (ps_set (i := 5) sc_law.nd rfl (Or.inl rfl) (pe_tup (pa_cons (pv 4) (pa_cons (pe_call G_law_graph (hr.mono (by first | decide | omega)) (by rfl) D_law_graph.g D_law_graph.F.kp D_law_graph.b .nil pass0 (pa_cons (pv 1) (pa_cons pe_int pa_nil))) pa_nil)))))
          pss_nil)
        (pss_cons (ps_for PassesOwn.never (by rfl) (pi_range1 (by rfl) T.range (pa_cons (pe_call G_law_draw (hr.mono (by first | decide | omega)) (by rfl) D_law_draw.g D_law_draw.F.kp D_law_draw.b .nil pass0 (pa_cons (pv 1) (pa_cons pe_int pa_nil))) pa_nil)) (pg_name (i := 6) sc_law.nd rfl (Or.inl rfl))
          (pss_one (ps_set (i := 5) sc_law.nd rfl (Or.inl rfl) (pe_call G_law_spoilt (hr.mono (by first | decide | omega)) (by rfl) D_law_spoilt.g D_law_spoilt.F.kp D_law_spoilt.b .nil pass0 (pa_cons (pv 1) (pa_cons (pv 5) (pa_cons pe_int pa_nil)))))))
        (pss_one (ps_if (pt_not (pt_val (pe_call G_law_same (hr.mono (by first | decide | omega)) (by rfl) D_law_same.g D_law_same.F.kp D_law_same.b .nil pass0 (pa_cons (pe_call G_is_question (hr.mono (by first | decide | omega)) (by rfl) D_is_question.g D_is_question.F.kp D_is_question.b .nil pass0 (pa_cons (pv 2) (pa_cons (pv 5) pa_nil))) (pa_cons (pe_call G_law_due (hr.mono (by first | decide | omega)) (by rfl) D_law_due.g D_law_due.F.kp D_law_due.b .nil pass0 (pa_cons (pv 2) (pa_cons (pv 5) pa_nil))) pa_nil)))))
          (pss_one (ps_ret pe_bl))
          pss_nil)))))))))
      (pss_one (ps_ret pe_bl)))))), ?_⟩
    refine r_at (σ := [some _, none, none, none, none, none, none]) rfl ?_
    walk_at "z"
    refine ⟨l, ns, rfl, hl, fun a0 s0 H1 ha s1 hP1 => ?_⟩
    have T1 := hT.ext s1
    walk_at "z"
    refine ⟨a0, s0, 8, rfl, hP1, by omega, by omega, fun n n0 n1 g ps H2 hP2 g2 gr2 gd => ?_⟩
    have T2 := hP1.tab g2 T1
    obtain ⟨ga, ge, rfl, _⟩ := id gr2
    walk_at "z"
    refine ⟨rfl, fun l3 H3 hl3 s3 f3 => ?_⟩
    walk_at "z"
    refine r_tupL (.inl (.inl f3)) fun t4 ht4 => ?_
    have s4 := same_new (o := .tup (kds.map V.str)) ht4
    have f4 : (upd H3 t4 (.tup (kds.map V.str))) t4 = some (.tup (kds.map V.str)) := upd_same
    generalize upd H3 t4 (.tup (kds.map V.str)) = H4 at s4 f4 ⊢
    have s24 := s3.trans s4
    walk_at "z"
    refine ⟨.ref aK, .ref t4, .tuple (kds.map PyData.str), rfl, .tup (hK _) (dps_str _), .tup (.inl (.inl f4)) (dps_str _), ⟨by decide, fun x hx => ?_⟩, ?_⟩
    · obtain ⟨w, hw, rfl⟩ := List.mem_map.mp hx
      exact kds_ok w hw
    walk_at "z"
    refine iteF ?_
    walk_at "z"
    refine r_rg1 (by omega) (forR_range (fun i σ' H' => (∃ x3 x4 x5 x6, σ' = [some (.ref l), some (.ref a0), some (.ref ga), x3, x4, x5, x6]) ∧ Pool H' a0 s0 ∧ GrAt H' (.ref ga) n ps ∧ Tabs TB H') ⟨⟨_, _, _, _, rfl⟩, hP2.mono s24, gr2.tk (.of_same s24), T2.ext s24⟩ ?_ ?_)
    · rintro i σ' HA hi ⟨⟨x3, x4, x5, x6, rfl⟩, hPA, grA, TA⟩
      walk_at "z"
      refine ⟨rfl, fun lb HB hlb sB fB => ?_⟩
      have nb := new_ne hPA hlb
      have hPB := hPA.mono sB
      have grB := grA.tk (.of_same sB)
      have TB1 := TA.ext sB
      walk_at "z"
      refine ⟨a0, s0, 22, rfl, hPB, by omega, by omega, fun r HC r0 r1 hPC gC => ?_⟩
      have grC := hPB.gra gC grB
      have TC := hPB.tab gC TB1
      have fC := gC _ _ nb.1 fB
      obtain ⟨wd, hw⟩ : ∃ wd, kds[r.toNat]? = some wd := ⟨_, List.getElem?_eq_getElem (show r.toNat < 22 by omega)⟩
      have wk := List.mem_of_getElem? hw
      have wok := kds_ok wd wk
      walk_at "z"
      refine r_ixL (.inl (.inl fC)) (at_of (j := r.toNat) (by omega) (by rw [List.getElem?_map, hw]; rfl)) ?_
      walk_at "z"
      refine r_tupN sz1 fun t1 ht1 => ?_
      have sD := same_new (o := .tup [.str wd]) ht1
      have fD : (upd HC t1 (.tup [.str wd])) t1 = some (.tup [.str wd]) := upd_same
      have hPD := hPC.mono sD
      have grD := grC.tk (.of_same sD)
      have TD := TC.ext sD
      generalize upd HC t1 (.tup [.str wd]) = HD at sD fD hPD grD TD ⊢
      walk_at "z"
      refine ⟨rfl, fun le HE hle sE fE => ?_⟩
      walk_at "z"
      refine ⟨le, _, rfl, .inl (.inl fE), fun pf hpf => ?_⟩
      rw [cut20]
      have sF := same_new (o := .lst (nks.map V.str)) hpf
      have fF : (upd HE pf (.lst (nks.map V.str))) pf = some (.lst (nks.map V.str)) := upd_same
      generalize upd HE pf (.lst (nks.map V.str)) = HF at sF fF ⊢
      have sDF := sE.trans sF
      have hPF := hPD.mono sDF
      have grF := grD.tk (.of_same sDF)
      have TF := TD.ext sDF
      have fDF := sDF _ _ fD
      refine r_inS (.inl (.inl (.inl fF))) ?_
      walk_at "z"
      by_cases wn : wd ∈ nks
      · obtain ⟨_, wl, wi⟩ := k20 wd wn
        rw [decide_eq_true wn]
        refine iteT ?_
        walk_at "z"
        refine ⟨a0, s0, 9, rfl, hPF, by omega, by omega, fun r9 HG _ _ hPG gG => ?_⟩
        have grG := hPF.gra gG grF
        have TG := hPF.tab gG TF
        walk_at "z"
        refine r_i (by unfold CPow; decide) ?_
        walk_at "z"
        generalize ((10 : Int) ^ (20 : Int).toNat) = z20
        refine r_lstN (small_len (by simp only [List.length_cons, List.length_nil]; omega)) fun l7 hl7 => ?_
        have n7 := new_ne hPG hl7
        have s7 := same_new (o := .lst [.int r9, .int z20, .int 0]) hl7
        have f7 : (upd HG l7 (.lst [.int r9, .int z20, .int 0])) l7 = some (.lst ([r9, z20, 0].map V.int)) := upd_same
        have hP7 := hPG.mono s7
        have gr7 := grG.tk (.of_same s7)
        have T7 := TG.ext s7
        generalize upd HG l7 (.lst [.int r9, .int z20, .int 0]) = H7 at s7 f7 hP7 gr7 T7 ⊢
        walk_at "z"
        refine ⟨a0, s0, 3, rfl, hP7, by omega, by omega, fun r8 H8 r80 r81 hP8 g8 => ?_⟩
        have gr8 := hP7.gra g8 gr7
        have T8 := hP7.tab g8 T7
        have f8 := g8 _ _ n7.1 f7
        obtain ⟨y, hy⟩ : ∃ y, [r9, z20, 0][r8.toNat]? = some y := ⟨_, List.getElem?_eq_getElem (by simp only [List.length_cons, List.length_nil]; omega)⟩
        walk_at "z"
        refine r_ixL (.inl (.inl f8)) (at_of (j := r8.toNat) (by omega) (by rw [List.getElem?_map, hy]; rfl)) ?_
        walk_at "z"
        refine r_tupN sz2 fun t9 ht9 => ?_
        have s9 := same_new (o := .tup [.str wd, .int y]) ht9
        have f9 : (upd H8 t9 (.tup [.str wd, .int y])) t9 = some (.tup [.str wd, .int y]) := upd_same
        have hP5 := hP8.mono s9
        have gr5 := gr8.tk (.of_same s9)
        have T5 := T8.ext s9
        generalize upd H8 t9 (.tup [.str wd, .int y]) = H5 at s9 f9 hP5 gr5 T5 ⊢
        have hd5 : DX a0 H5 (.ref t9) (.tuple [.str wd, .int y]) := .tup (.inl f9) (.cons (.str wd) (.cons (.int y) .nil))
        have hl5 : limX 4 100 (.tuple [.str wd, .int y]) := limX_mk (by simp only [List.length_cons, List.length_nil]; omega) (forall_cons (lim_str wok) (forall_cons limX_int fun x hx => nomatch hx))
        walk_at "z"
        refine r_eqS ?_
        walk_at "z"
        rw [decide_eq_false wl]
        refine iteF ?_
        walk_at "z"
        refine r_eqS ?_
        walk_at "z"
        rw [decide_eq_false wi]
        refine iteF ?_
        walk_at "ztail"
      · rw [decide_eq_false wn]
        refine iteF ?_
        walk_at "z"
        refine r_eqS ?_
        walk_at "z"
        by_cases wl : wd = "linked"
        · have wi : ¬ wd = "isomorphic" := by rw [wl]; exact fun h => klin.2.2 h.symm
          rw [decide_eq_true wl]
          refine iteT ?_
          walk_at "z"
          obtain ⟨ga', ge', eg, hgF, _⟩ := id grF
          cases eg
          refine r_ixT (.inl (.inl hgF)) (at_of (j := 0) (by omega) rfl) ?_
          walk_at "z"
          refine ⟨a0, s0, n, rfl, hPF, by omega, by omega, fun i1 HG _ _ hPG gG => ?_⟩
          have hgG := gG.tk hPF _ _ hgF
          have grG := hPF.gra gG grF
          have TG := hPF.tab gG TF
          walk_at "z"
          refine ⟨a0, s0, n, rfl, hPG, by omega, by omega, fun i2 HI _ _ hPI gI => ?_⟩
          have grI := hPG.gra gI grG
          have TI := hPG.tab gI TG
          walk_at "z"
          refine ⟨a0, s0, 5, rfl, hPI, by omega, by omega, fun i3 HJ _ _ hPJ gJ => ?_⟩
          have grJ := hPI.gra gJ grI
          have TJ := hPI.tab gJ TI
          walk_at "z"
          refine r_tupN (small_len (by simp only [List.length_cons, List.length_nil]; omega)) fun t9 ht9 => ?_
          have s9 := same_new (o := .tup [.str wd, .int i1, .int i2, .int i3]) ht9
          have f9 : (upd HJ t9 (.tup [.str wd, .int i1, .int i2, .int i3])) t9 = some (.tup [.str wd, .int i1, .int i2, .int i3]) := upd_same
          have hP5 := hPJ.mono s9
          have gr5 := grJ.tk (.of_same s9)
          have T5 := TJ.ext s9
          generalize upd HJ t9 (.tup [.str wd, .int i1, .int i2, .int i3]) = H5 at s9 f9 hP5 gr5 T5 ⊢
          have hd5 : DX a0 H5 (.ref t9) (.tuple [.str wd, .int i1, .int i2, .int i3]) := .tup (.inl f9) (.cons (.str wd) (.cons (.int _) (.cons (.int _) (.cons (.int _) .nil))))
          have hl5 : limX 4 100 (.tuple [.str wd, .int i1, .int i2, .int i3]) := limX_mk (by simp only [List.length_cons, List.length_nil]; omega) (forall_cons (lim_str wok) (forall_cons limX_int (forall_cons limX_int (forall_cons limX_int fun x hx => nomatch hx))))
          walk_at "z"
          refine r_eqS ?_
          walk_at "z"
          rw [decide_eq_false wi]
          refine iteF ?_
          walk_at "ztail"
        · rw [decide_eq_false wl]
          refine iteF ?_
          walk_at "z"
          refine r_eqS ?_
          walk_at "z"
          by_cases wi : wd = "isomorphic"
          · rw [decide_eq_true wi]
            refine iteT ?_
            walk_at "z"
            refine ⟨a0, s0, 5, rfl, hPF, by omega, by omega, fun m m0 m1 g7 ps7 HG hPG gG gr7 gd7 => ?_⟩
            have grG := hPF.gra gG grF
            have TG := hPF.tab gG TF
            have hd7 : DX a0 HG g7 _ := dx_graph gr7
            have hl7 := limX_prs (n := m) (good_len8 gd7 (by omega))
            generalize PyData.tuple [.int m, .tuple (ps7.map prX)] = t7 at hd7 hl7
            walk_at "z"
            refine r_tupN sz2 fun t9 ht9 => ?_
            have s9 := same_new (o := .tup [.str wd, g7]) ht9
            have f9 : (upd HG t9 (.tup [.str wd, g7])) t9 = some (.tup [.str wd, g7]) := upd_same
            have hP5 := hPG.mono s9
            have gr5 := grG.tk (.of_same s9)
            have T5 := TG.ext s9
            have hd9 := hd7.same s9
            generalize upd HG t9 (.tup [.str wd, g7]) = H5 at s9 f9 hP5 gr5 T5 hd9 ⊢
            have hd5 : DX a0 H5 (.ref t9) (.tuple [.str wd, t7]) := .tup (.inl f9) (.cons (.str wd) (.cons hd9 .nil))
            have hl5 : limX 4 100 (.tuple [.str wd, t7]) := limX_mk (by simp only [List.length_cons, List.length_nil]; omega) (forall_cons (lim_str wok) (forall_cons hl7 fun x hx => nomatch hx))
            walk_at "ztail"
          · rw [decide_eq_false wi]
            refine iteF ?_
            have hP5 := hPF
            have gr5 := grF
            have T5 := TF
            have hd5 : DX a0 HF (.ref t1) (.tuple [.str wd]) := .tup (.inl fDF) (.cons (.str wd) .nil)
            have hl5 : limX 4 100 (.tuple [.str wd]) := limX_mk (by simp only [List.length_cons, List.length_nil]; omega) (forall_cons (lim_str wok) fun x hx => nomatch hx)
            walk_at "ztail"
    · rintro σ' HA ⟨⟨x3, x4, x5, x6, rfl⟩, hPA, grA, TA⟩
      walk_at "z"
      exact q HA
end

set_option Elab.async false
set_option linter.all false
set_option maxRecDepth 100000
set_option maxHeartbeats 4000000
open PySem PySem.Spec PyProof.Rows L2 LamX
/-- a def of the top, as the head tells it -/
def dfd (x : Str) (st : Stmt) : He.DefD := ⟨(x, none), x, x, defArgs st, defBody st, defScope st, [], []⟩
def fnX : List He.DefD := [dfd "is_integer" s_is_integer, dfd "is_tuple" s_is_tuple, dfd "is_vertex" s_is_vertex, dfd "are_vertices" s_are_vertices, dfd "is_set" s_is_set, dfd "is_ascending" s_is_ascending, dfd "is_edge" s_is_edge, dfd "are_edges" s_are_edges, dfd "is_size" s_is_size, dfd "is_graph" s_is_graph, dfd "is_question" s_is_question, dfd "_are_ends" s_are_ends, dfd "_is_number" s_is_number, dfd "_law_pool" s_law_pool, dfd "_law_spread" s_law_spread, dfd "_law_draw" s_law_draw, dfd "_law_same" s_law_same, dfd "_law_is_int" s_law_is_int, dfd "_law_distinct" s_law_distinct, dfd "_law_pairs" s_law_pairs, dfd "_law_of" s_law_of, dfd "_law_shuffled" s_law_shuffled, dfd "_law_moved" s_law_moved, dfd "_law_other" s_law_other, dfd "_law_random_graph" s_law_random_graph] ++ ([dfd "_law_interval_rows" s_law_interval_rows, dfd "_law_interval_graph" s_law_interval_graph, dfd "_law_turned_graph" s_law_turned_graph, dfd "_law_ordered_graph" s_law_ordered_graph, dfd "_law_clique_graph" s_law_clique_graph, dfd "_law_drawn_tree" s_law_drawn_tree, dfd "_law_leaves" s_law_leaves, dfd "_law_tree_pairs" s_law_tree_pairs, dfd "_law_graph" s_law_graph, dfd "_law_strange" s_law_strange, dfd "_law_spoilt" s_law_spoilt, dfd "_law_kinds" s_law_kinds, dfd "_law_ringed" s_law_ringed, dfd "_law_is_graph" s_law_is_graph, dfd "_law_due" s_law_due, dfd "law" s_law])
def faX : List He.Fa := [.glo "is_integer", .glo "is_tuple", .glo "is_vertex", .glo "are_vertices", .glo "is_set", .glo "is_ascending", .glo "is_edge", .glo "are_edges", .glo "is_size", .glo "is_graph", .glo "is_question", .glo "_are_ends", .glo "_is_number", .glo "_law_pool", .glo "_law_spread", .glo "_law_draw", .glo "_law_same", .glo "_law_is_int", .glo "_law_distinct", .glo "_law_pairs", .glo "_law_of", .glo "_law_shuffled", .glo "_law_moved", .glo "_law_other", .glo "_law_random_graph"] ++ ([.glo "_law_interval_rows", .glo "_law_interval_graph", .glo "_law_turned_graph", .glo "_law_ordered_graph", .glo "_law_clique_graph", .glo "_law_drawn_tree", .glo "_law_leaves", .glo "_law_tree_pairs", .glo "_law_graph", .glo "_law_strange", .glo "_law_spoilt", .glo "_law_kinds", .glo "_law_ringed", .glo "_law_is_graph", .glo "_law_due", .glo "law", .free "len", .free "range", .free "list", .free "tuple", .free "int", .free "min", .free "max", .free "sorted", .free "isinstance"] ++ ([.free "bool", .free "str", .free "enumerate", .free "all", .free "set", .free "zip", .int "MOST_VERTICES" 60]))
def tfX : List He.Defn := [("are_vertices", none), ("is_ascending", none), ("are_edges", none)]
def strsV : List Value → List Str → Bool
  | [], [] => true
  | .str x _ :: us, k :: ks => decide (x.cps.toList = k.cps.toList) && strsV us ks
  | _, _ => false
theorem str_toL {x k : Str} (h : x.cps.toList = k.cps.toList) : x = k := by
  obtain ⟨a⟩ := x
  obtain ⟨b⟩ := k
  have : a = b := Array.toList_inj.mp h
  rw [this]
theorem strsV_ok : ∀ {us : List Value} {ks : List Str}, strsV us ks = true → Vals (ks.map V.str) us
  | [], [], _ => .nil
  | [], _ :: _, h => by cases h
  | u :: us, [], h => by
    cases u <;> cases h
  | u :: us, k :: ks, h => by
    cases u with
    | str x t =>
      have h : (decide (x.cps.toList = k.cps.toList) && strsV us ks) = true := h
      rw [Bool.and_eq_true, decide_eq_true_eq] at h
      exact .cons ⟨t, by rw [str_toL h.1]⟩ (strsV_ok h.2)
    | _ => cases h
/-- the constant x is a tuple of these texts -/
def tupK (K : PySem.W.Frag) (x : Str) (ks : List Str) : Bool := match PySem.W.nsIn K mainGlobals x with
  | some (some (.ref a)) => (match K.lookup a with
    | some ⟨.type c, _, .seq its _, _⟩ => decide (c = "tuple") && (decide (its.size ≤ sizeLine) && strsV its.toList ks)
    | _ => false)
  | _ => false
theorem tupK_ok {K : PySem.W.Frag} {h : Heap} {mg : Str → Option Value} {x : Str} {ks : List Str} (X : K.In h) (G : h.Ns mainGlobals mg) (e : tupK K x ks = true) : ∃ a, mg x = some (.ref a) ∧ ∀ H, SqT K H a (ks.map V.str) := by
  unfold tupK at e
  split at e
  · rename_i a hn
    refine ⟨a, PySem.W.mg_of X G hn, fun H => ?_⟩
    split at e
    · rename_i c od its m sl hk
      rw [Bool.and_eq_true, Bool.and_eq_true, decide_eq_true_eq, decide_eq_true_eq] at e
      obtain ⟨e1, e2, e3⟩ := e
      exact .inr ⟨_, its, m, hk, by rw [e1], rfl, e2, strsV_ok e3⟩
    · cases e
  · cases e
def exX (K : PySem.W.Frag) : Bool := (decide ((He.cT K ("are_vertices", none)).2 ≠ (He.cT K ("is_ascending", none)).2) && (decide ((He.cT K ("are_vertices", none)).2 ≠ (He.cT K ("are_edges", none)).2) && decide ((He.cT K ("is_ascending", none)).2 ≠ (He.cT K ("are_edges", none)).2))) && (tupK K "KINDS" kds && tupK K "NUMBER_KINDS" nks)
abbrev hkX : PySem.W.Hook := He.hookX 4 faX fnX [] tfX exX
def obX (s : PySem.W.SharedT) : He.AlX := He.obsX 4 faX fnX [] tfX exX (HandSHeadRun.getT s)
theorem obX_eq (s : PySem.W.SharedT) : obX s = hkX.obs s.abs := He.obsX_eq (HandSHeadRun.getT_eq s)
theorem code_of {K : PySem.W.Frag} {x : Str} {st : Stmt} {f : Addr} {fd : FuncData} (F : Fun K x x st f fd) {p : Str × Option Str} (hp : He.fAd K p = f) : fd.code = .ref (He.codeOf K p) := by
  obtain ⟨oc, od, kV, doc, pm, an, cdr, ct, osl, efd, lk, hcd⟩ := F.ex
  obtain ⟨c, rfl⟩ := He.codeIn_ref hcd
  have e : fd.code = .ref c := by rw [efd] <;> rfl
  rw [He.codeOf_eq (by rw [hp]; exact lk) e]
  exact e
set_option maxHeartbeats 0 in
theorem facts {lw : PySem.W.OpenLaw} {w : World} {K : PySem.W.Frag} {h : Heap} {mg : Str → Option Value} {fa : Addr} (X : K.In h) (G : h.Ns mainGlobals mg) (hfa : mg "law" = some (.ref fa)) (c : He.SaysX faX fnX [] tfX exX w h K) :
    LamX.LawAtS lw w K L2.CX0 64 63 "script" mg fa h := by
  obtain ⟨fd0, F0⟩ := c.t.d.def_ 0 (d := dfd "is_integer" s_is_integer) rfl
  have FF0 : Fun K "is_integer" "is_integer" s_is_integer (He.fAd K ("is_integer", none)) fd0 := He5.fun_of F0
  have D_is_integer : DefAt K mg "is_integer" s_is_integer ["value"] := ⟨He.fAd K ("is_integer", none), fd0, FF0, FF0.binds (ps := ["value"]) fun _ _ _ _ _ _ us hl => match us, hl with | [_], _ => rfl, He.glo_ok X G (c.t.d.fact 0 (f := .glo "is_integer") rfl)⟩
  obtain ⟨fd1, F1⟩ := c.t.d.def_ 1 (d := dfd "is_tuple" s_is_tuple) rfl
  have FF1 : Fun K "is_tuple" "is_tuple" s_is_tuple (He.fAd K ("is_tuple", none)) fd1 := He5.fun_of F1
  have D_is_tuple : DefAt K mg "is_tuple" s_is_tuple ["value", "many"] := ⟨He.fAd K ("is_tuple", none), fd1, FF1, FF1.binds (ps := ["value", "many"]) fun _ _ _ _ _ _ us hl => match us, hl with | [_, _], _ => rfl, He.glo_ok X G (c.t.d.fact 1 (f := .glo "is_tuple") rfl)⟩
  obtain ⟨fd2, F2⟩ := c.t.d.def_ 2 (d := dfd "is_vertex" s_is_vertex) rfl
  have FF2 : Fun K "is_vertex" "is_vertex" s_is_vertex (He.fAd K ("is_vertex", none)) fd2 := He5.fun_of F2
  have D_is_vertex : DefAt K mg "is_vertex" s_is_vertex ["n", "value"] := ⟨He.fAd K ("is_vertex", none), fd2, FF2, FF2.binds (ps := ["n", "value"]) fun _ _ _ _ _ _ us hl => match us, hl with | [_, _], _ => rfl, He.glo_ok X G (c.t.d.fact 2 (f := .glo "is_vertex") rfl)⟩
  obtain ⟨fd3, F3⟩ := c.t.d.def_ 3 (d := dfd "are_vertices" s_are_vertices) rfl
  have FF3 : Fun K "are_vertices" "are_vertices" s_are_vertices (He.fAd K ("are_vertices", none)) fd3 := He5.fun_of F3
  let D_are_vertices : DefAt K mg "are_vertices" s_are_vertices ["n", "value"] := ⟨He.fAd K ("are_vertices", none), fd3, FF3, FF3.binds (ps := ["n", "value"]) fun _ _ _ _ _ _ us hl => match us, hl with | [_, _], _ => rfl, He.glo_ok X G (c.t.d.fact 3 (f := .glo "are_vertices") rfl)⟩
  obtain ⟨fd4, F4⟩ := c.t.d.def_ 4 (d := dfd "is_set" s_is_set) rfl
  have FF4 : Fun K "is_set" "is_set" s_is_set (He.fAd K ("is_set", none)) fd4 := He5.fun_of F4
  have D_is_set : DefAt K mg "is_set" s_is_set ["n", "value"] := ⟨He.fAd K ("is_set", none), fd4, FF4, FF4.binds (ps := ["n", "value"]) fun _ _ _ _ _ _ us hl => match us, hl with | [_, _], _ => rfl, He.glo_ok X G (c.t.d.fact 4 (f := .glo "is_set") rfl)⟩
  obtain ⟨fd5, F5⟩ := c.t.d.def_ 5 (d := dfd "is_ascending" s_is_ascending) rfl
  have FF5 : Fun K "is_ascending" "is_ascending" s_is_ascending (He.fAd K ("is_ascending", none)) fd5 := He5.fun_of F5
  let D_is_ascending : DefAt K mg "is_ascending" s_is_ascending ["items"] := ⟨He.fAd K ("is_ascending", none), fd5, FF5, FF5.binds (ps := ["items"]) fun _ _ _ _ _ _ us hl => match us, hl with | [_], _ => rfl, He.glo_ok X G (c.t.d.fact 5 (f := .glo "is_ascending") rfl)⟩
  obtain ⟨fd6, F6⟩ := c.t.d.def_ 6 (d := dfd "is_edge" s_is_edge) rfl
  have FF6 : Fun K "is_edge" "is_edge" s_is_edge (He.fAd K ("is_edge", none)) fd6 := He5.fun_of F6
  have D_is_edge : DefAt K mg "is_edge" s_is_edge ["n", "value"] := ⟨He.fAd K ("is_edge", none), fd6, FF6, FF6.binds (ps := ["n", "value"]) fun _ _ _ _ _ _ us hl => match us, hl with | [_, _], _ => rfl, He.glo_ok X G (c.t.d.fact 6 (f := .glo "is_edge") rfl)⟩
  obtain ⟨fd7, F7⟩ := c.t.d.def_ 7 (d := dfd "are_edges" s_are_edges) rfl
  have FF7 : Fun K "are_edges" "are_edges" s_are_edges (He.fAd K ("are_edges", none)) fd7 := He5.fun_of F7
  let D_are_edges : DefAt K mg "are_edges" s_are_edges ["n", "value"] := ⟨He.fAd K ("are_edges", none), fd7, FF7, FF7.binds (ps := ["n", "value"]) fun _ _ _ _ _ _ us hl => match us, hl with | [_, _], _ => rfl, He.glo_ok X G (c.t.d.fact 7 (f := .glo "are_edges") rfl)⟩
  obtain ⟨fd8, F8⟩ := c.t.d.def_ 8 (d := dfd "is_size" s_is_size) rfl
  have FF8 : Fun K "is_size" "is_size" s_is_size (He.fAd K ("is_size", none)) fd8 := He5.fun_of F8
  have D_is_size : DefAt K mg "is_size" s_is_size ["value"] := ⟨He.fAd K ("is_size", none), fd8, FF8, FF8.binds (ps := ["value"]) fun _ _ _ _ _ _ us hl => match us, hl with | [_], _ => rfl, He.glo_ok X G (c.t.d.fact 8 (f := .glo "is_size") rfl)⟩
  obtain ⟨fd9, F9⟩ := c.t.d.def_ 9 (d := dfd "is_graph" s_is_graph) rfl
  have FF9 : Fun K "is_graph" "is_graph" s_is_graph (He.fAd K ("is_graph", none)) fd9 := He5.fun_of F9
  have D_is_graph : DefAt K mg "is_graph" s_is_graph ["value"] := ⟨He.fAd K ("is_graph", none), fd9, FF9, FF9.binds (ps := ["value"]) fun _ _ _ _ _ _ us hl => match us, hl with | [_], _ => rfl, He.glo_ok X G (c.t.d.fact 9 (f := .glo "is_graph") rfl)⟩
  obtain ⟨fd10, F10⟩ := c.t.d.def_ 10 (d := dfd "is_question" s_is_question) rfl
  have FF10 : Fun K "is_question" "is_question" s_is_question (He.fAd K ("is_question", none)) fd10 := He5.fun_of F10
  have D_is_question : DefAt K mg "is_question" s_is_question ["graph", "value"] := ⟨He.fAd K ("is_question", none), fd10, FF10, FF10.binds (ps := ["graph", "value"]) fun _ _ _ _ _ _ us hl => match us, hl with | [_, _], _ => rfl, He.glo_ok X G (c.t.d.fact 10 (f := .glo "is_question") rfl)⟩
  obtain ⟨fd11, F11⟩ := c.t.d.def_ 11 (d := dfd "_are_ends" s_are_ends) rfl
  have FF11 : Fun K "_are_ends" "_are_ends" s_are_ends (He.fAd K ("_are_ends", none)) fd11 := He5.fun_of F11
  have D_are_ends : DefAt K mg "_are_ends" s_are_ends ["graph", "s", "t"] := ⟨He.fAd K ("_are_ends", none), fd11, FF11, FF11.binds (ps := ["graph", "s", "t"]) fun _ _ _ _ _ _ us hl => match us, hl with | [_, _, _], _ => rfl, He.glo_ok X G (c.t.d.fact 11 (f := .glo "_are_ends") rfl)⟩
  obtain ⟨fd12, F12⟩ := c.t.d.def_ 12 (d := dfd "_is_number" s_is_number) rfl
  have FF12 : Fun K "_is_number" "_is_number" s_is_number (He.fAd K ("_is_number", none)) fd12 := He5.fun_of F12
  have D_is_number : DefAt K mg "_is_number" s_is_number ["value"] := ⟨He.fAd K ("_is_number", none), fd12, FF12, FF12.binds (ps := ["value"]) fun _ _ _ _ _ _ us hl => match us, hl with | [_], _ => rfl, He.glo_ok X G (c.t.d.fact 12 (f := .glo "_is_number") rfl)⟩
  obtain ⟨fd13, F13⟩ := c.t.d.def_ 13 (d := dfd "_law_pool" s_law_pool) rfl
  have FF13 : Fun K "_law_pool" "_law_pool" s_law_pool (He.fAd K ("_law_pool", none)) fd13 := He5.fun_of F13
  have D_law_pool : DefAt K mg "_law_pool" s_law_pool ["script"] := ⟨He.fAd K ("_law_pool", none), fd13, FF13, FF13.binds (ps := ["script"]) fun _ _ _ _ _ _ us hl => match us, hl with | [_], _ => rfl, He.glo_ok X G (c.t.d.fact 13 (f := .glo "_law_pool") rfl)⟩
  obtain ⟨fd14, F14⟩ := c.t.d.def_ 14 (d := dfd "_law_spread" s_law_spread) rfl
  have FF14 : Fun K "_law_spread" "_law_spread" s_law_spread (He.fAd K ("_law_spread", none)) fd14 := He5.fun_of F14
  have D_law_spread : DefAt K mg "_law_spread" s_law_spread ["cell"] := ⟨He.fAd K ("_law_spread", none), fd14, FF14, FF14.binds (ps := ["cell"]) fun _ _ _ _ _ _ us hl => match us, hl with | [_], _ => rfl, He.glo_ok X G (c.t.d.fact 14 (f := .glo "_law_spread") rfl)⟩
  obtain ⟨fd15, F15⟩ := c.t.d.def_ 15 (d := dfd "_law_draw" s_law_draw) rfl
  have FF15 : Fun K "_law_draw" "_law_draw" s_law_draw (He.fAd K ("_law_draw", none)) fd15 := He5.fun_of F15
  have D_law_draw : DefAt K mg "_law_draw" s_law_draw ["pool", "many"] := ⟨He.fAd K ("_law_draw", none), fd15, FF15, FF15.binds (ps := ["pool", "many"]) fun _ _ _ _ _ _ us hl => match us, hl with | [_, _], _ => rfl, He.glo_ok X G (c.t.d.fact 15 (f := .glo "_law_draw") rfl)⟩
  obtain ⟨fd16, F16⟩ := c.t.d.def_ 16 (d := dfd "_law_same" s_law_same) rfl
  have FF16 : Fun K "_law_same" "_law_same" s_law_same (He.fAd K ("_law_same", none)) fd16 := He5.fun_of F16
  have D_law_same : DefAt K mg "_law_same" s_law_same ["actual", "due"] := ⟨He.fAd K ("_law_same", none), fd16, FF16, FF16.binds (ps := ["actual", "due"]) fun _ _ _ _ _ _ us hl => match us, hl with | [_, _], _ => rfl, He.glo_ok X G (c.t.d.fact 16 (f := .glo "_law_same") rfl)⟩
  obtain ⟨fd17, F17⟩ := c.t.d.def_ 17 (d := dfd "_law_is_int" s_law_is_int) rfl
  have FF17 : Fun K "_law_is_int" "_law_is_int" s_law_is_int (He.fAd K ("_law_is_int", none)) fd17 := He5.fun_of F17
  have D_law_is_int : DefAt K mg "_law_is_int" s_law_is_int ["x"] := ⟨He.fAd K ("_law_is_int", none), fd17, FF17, FF17.binds (ps := ["x"]) fun _ _ _ _ _ _ us hl => match us, hl with | [_], _ => rfl, He.glo_ok X G (c.t.d.fact 17 (f := .glo "_law_is_int") rfl)⟩
  obtain ⟨fd18, F18⟩ := c.t.d.def_ 18 (d := dfd "_law_distinct" s_law_distinct) rfl
  have FF18 : Fun K "_law_distinct" "_law_distinct" s_law_distinct (He.fAd K ("_law_distinct", none)) fd18 := He5.fun_of F18
  have D_law_distinct : DefAt K mg "_law_distinct" s_law_distinct ["rows"] := ⟨He.fAd K ("_law_distinct", none), fd18, FF18, FF18.binds (ps := ["rows"]) fun _ _ _ _ _ _ us hl => match us, hl with | [_], _ => rfl, He.glo_ok X G (c.t.d.fact 18 (f := .glo "_law_distinct") rfl)⟩
  obtain ⟨fd19, F19⟩ := c.t.d.def_ 19 (d := dfd "_law_pairs" s_law_pairs) rfl
  have FF19 : Fun K "_law_pairs" "_law_pairs" s_law_pairs (He.fAd K ("_law_pairs", none)) fd19 := He5.fun_of F19
  have D_law_pairs : DefAt K mg "_law_pairs" s_law_pairs ["n"] := ⟨He.fAd K ("_law_pairs", none), fd19, FF19, FF19.binds (ps := ["n"]) fun _ _ _ _ _ _ us hl => match us, hl with | [_], _ => rfl, He.glo_ok X G (c.t.d.fact 19 (f := .glo "_law_pairs") rfl)⟩
  obtain ⟨fd20, F20⟩ := c.t.d.def_ 20 (d := dfd "_law_of" s_law_of) rfl
  have FF20 : Fun K "_law_of" "_law_of" s_law_of (He.fAd K ("_law_of", none)) fd20 := He5.fun_of F20
  have D_law_of : DefAt K mg "_law_of" s_law_of ["n", "pairs"] := ⟨He.fAd K ("_law_of", none), fd20, FF20, FF20.binds (ps := ["n", "pairs"]) fun _ _ _ _ _ _ us hl => match us, hl with | [_, _], _ => rfl, He.glo_ok X G (c.t.d.fact 20 (f := .glo "_law_of") rfl)⟩
  obtain ⟨fd21, F21⟩ := c.t.d.def_ 21 (d := dfd "_law_shuffled" s_law_shuffled) rfl
  have FF21 : Fun K "_law_shuffled" "_law_shuffled" s_law_shuffled (He.fAd K ("_law_shuffled", none)) fd21 := He5.fun_of F21
  have D_law_shuffled : DefAt K mg "_law_shuffled" s_law_shuffled ["pool", "items"] := ⟨He.fAd K ("_law_shuffled", none), fd21, FF21, FF21.binds (ps := ["pool", "items"]) fun _ _ _ _ _ _ us hl => match us, hl with | [_, _], _ => rfl, He.glo_ok X G (c.t.d.fact 21 (f := .glo "_law_shuffled") rfl)⟩
  obtain ⟨fd22, F22⟩ := c.t.d.def_ 22 (d := dfd "_law_moved" s_law_moved) rfl
  have FF22 : Fun K "_law_moved" "_law_moved" s_law_moved (He.fAd K ("_law_moved", none)) fd22 := He5.fun_of F22
  have D_law_moved : DefAt K mg "_law_moved" s_law_moved ["graph", "order"] := ⟨He.fAd K ("_law_moved", none), fd22, FF22, FF22.binds (ps := ["graph", "order"]) fun _ _ _ _ _ _ us hl => match us, hl with | [_, _], _ => rfl, He.glo_ok X G (c.t.d.fact 22 (f := .glo "_law_moved") rfl)⟩
  obtain ⟨fd23, F23⟩ := c.t.d.def_ 23 (d := dfd "_law_other" s_law_other) rfl
  have FF23 : Fun K "_law_other" "_law_other" s_law_other (He.fAd K ("_law_other", none)) fd23 := He5.fun_of F23
  have D_law_other : DefAt K mg "_law_other" s_law_other ["graph"] := ⟨He.fAd K ("_law_other", none), fd23, FF23, FF23.binds (ps := ["graph"]) fun _ _ _ _ _ _ us hl => match us, hl with | [_], _ => rfl, He.glo_ok X G (c.t.d.fact 23 (f := .glo "_law_other") rfl)⟩
  obtain ⟨fd24, F24⟩ := c.t.d.def_ 24 (d := dfd "_law_random_graph" s_law_random_graph) rfl
  have FF24 : Fun K "_law_random_graph" "_law_random_graph" s_law_random_graph (He.fAd K ("_law_random_graph", none)) fd24 := He5.fun_of F24
  have D_law_random_graph : DefAt K mg "_law_random_graph" s_law_random_graph ["pool", "most"] := ⟨He.fAd K ("_law_random_graph", none), fd24, FF24, FF24.binds (ps := ["pool", "most"]) fun _ _ _ _ _ _ us hl => match us, hl with | [_, _], _ => rfl, He.glo_ok X G (c.t.d.fact 24 (f := .glo "_law_random_graph") rfl)⟩
  obtain ⟨fd25, F25⟩ := c.t.d.def_ 25 (d := dfd "_law_interval_rows" s_law_interval_rows) rfl
  have FF25 : Fun K "_law_interval_rows" "_law_interval_rows" s_law_interval_rows (He.fAd K ("_law_interval_rows", none)) fd25 := He5.fun_of F25
  have D_law_interval_rows : DefAt K mg "_law_interval_rows" s_law_interval_rows ["pool", "n"] := ⟨He.fAd K ("_law_interval_rows", none), fd25, FF25, FF25.binds (ps := ["pool", "n"]) fun _ _ _ _ _ _ us hl => match us, hl with | [_, _], _ => rfl, He.glo_ok X G (c.t.d.fact 25 (f := .glo "_law_interval_rows") rfl)⟩
  obtain ⟨fd26, F26⟩ := c.t.d.def_ 26 (d := dfd "_law_interval_graph" s_law_interval_graph) rfl
  have FF26 : Fun K "_law_interval_graph" "_law_interval_graph" s_law_interval_graph (He.fAd K ("_law_interval_graph", none)) fd26 := He5.fun_of F26
  have D_law_interval_graph : DefAt K mg "_law_interval_graph" s_law_interval_graph ["rows"] := ⟨He.fAd K ("_law_interval_graph", none), fd26, FF26, FF26.binds (ps := ["rows"]) fun _ _ _ _ _ _ us hl => match us, hl with | [_], _ => rfl, He.glo_ok X G (c.t.d.fact 26 (f := .glo "_law_interval_graph") rfl)⟩
  obtain ⟨fd27, F27⟩ := c.t.d.def_ 27 (d := dfd "_law_turned_graph" s_law_turned_graph) rfl
  have FF27 : Fun K "_law_turned_graph" "_law_turned_graph" s_law_turned_graph (He.fAd K ("_law_turned_graph", none)) fd27 := He5.fun_of F27
  have D_law_turned_graph : DefAt K mg "_law_turned_graph" s_law_turned_graph ["one", "two"] := ⟨He.fAd K ("_law_turned_graph", none), fd27, FF27, FF27.binds (ps := ["one", "two"]) fun _ _ _ _ _ _ us hl => match us, hl with | [_, _], _ => rfl, He.glo_ok X G (c.t.d.fact 27 (f := .glo "_law_turned_graph") rfl)⟩
  obtain ⟨fd28, F28⟩ := c.t.d.def_ 28 (d := dfd "_law_ordered_graph" s_law_ordered_graph) rfl
  have FF28 : Fun K "_law_ordered_graph" "_law_ordered_graph" s_law_ordered_graph (He.fAd K ("_law_ordered_graph", none)) fd28 := He5.fun_of F28
  have D_law_ordered_graph : DefAt K mg "_law_ordered_graph" s_law_ordered_graph ["pool", "n"] := ⟨He.fAd K ("_law_ordered_graph", none), fd28, FF28, FF28.binds (ps := ["pool", "n"]) fun _ _ _ _ _ _ us hl => match us, hl with | [_, _], _ => rfl, He.glo_ok X G (c.t.d.fact 28 (f := .glo "_law_ordered_graph") rfl)⟩
  obtain ⟨fd29, F29⟩ := c.t.d.def_ 29 (d := dfd "_law_clique_graph" s_law_clique_graph) rfl
  have FF29 : Fun K "_law_clique_graph" "_law_clique_graph" s_law_clique_graph (He.fAd K ("_law_clique_graph", none)) fd29 := He5.fun_of F29
  have D_law_clique_graph : DefAt K mg "_law_clique_graph" s_law_clique_graph ["pool", "n"] := ⟨He.fAd K ("_law_clique_graph", none), fd29, FF29, FF29.binds (ps := ["pool", "n"]) fun _ _ _ _ _ _ us hl => match us, hl with | [_, _], _ => rfl, He.glo_ok X G (c.t.d.fact 29 (f := .glo "_law_clique_graph") rfl)⟩
  obtain ⟨fd30, F30⟩ := c.t.d.def_ 30 (d := dfd "_law_drawn_tree" s_law_drawn_tree) rfl
  have FF30 : Fun K "_law_drawn_tree" "_law_drawn_tree" s_law_drawn_tree (He.fAd K ("_law_drawn_tree", none)) fd30 := He5.fun_of F30
  have D_law_drawn_tree : DefAt K mg "_law_drawn_tree" s_law_drawn_tree ["pool", "leaves"] := ⟨He.fAd K ("_law_drawn_tree", none), fd30, FF30, FF30.binds (ps := ["pool", "leaves"]) fun _ _ _ _ _ _ us hl => match us, hl with | [_, _], _ => rfl, He.glo_ok X G (c.t.d.fact 30 (f := .glo "_law_drawn_tree") rfl)⟩
  obtain ⟨fd31, F31⟩ := c.t.d.def_ 31 (d := dfd "_law_leaves" s_law_leaves) rfl
  have FF31 : Fun K "_law_leaves" "_law_leaves" s_law_leaves (He.fAd K ("_law_leaves", none)) fd31 := He5.fun_of F31
  have D_law_leaves : DefAt K mg "_law_leaves" s_law_leaves ["tree"] := ⟨He.fAd K ("_law_leaves", none), fd31, FF31, FF31.binds (ps := ["tree"]) fun _ _ _ _ _ _ us hl => match us, hl with | [_], _ => rfl, He.glo_ok X G (c.t.d.fact 31 (f := .glo "_law_leaves") rfl)⟩
  obtain ⟨fd32, F32⟩ := c.t.d.def_ 32 (d := dfd "_law_tree_pairs" s_law_tree_pairs) rfl
  have FF32 : Fun K "_law_tree_pairs" "_law_tree_pairs" s_law_tree_pairs (He.fAd K ("_law_tree_pairs", none)) fd32 := He5.fun_of F32
  have D_law_tree_pairs : DefAt K mg "_law_tree_pairs" s_law_tree_pairs ["tree"] := ⟨He.fAd K ("_law_tree_pairs", none), fd32, FF32, FF32.binds (ps := ["tree"]) fun _ _ _ _ _ _ us hl => match us, hl with | [_], _ => rfl, He.glo_ok X G (c.t.d.fact 32 (f := .glo "_law_tree_pairs") rfl)⟩
  obtain ⟨fd33, F33⟩ := c.t.d.def_ 33 (d := dfd "_law_graph" s_law_graph) rfl
  have FF33 : Fun K "_law_graph" "_law_graph" s_law_graph (He.fAd K ("_law_graph", none)) fd33 := He5.fun_of F33
  have D_law_graph : DefAt K mg "_law_graph" s_law_graph ["pool", "most"] := ⟨He.fAd K ("_law_graph", none), fd33, FF33, FF33.binds (ps := ["pool", "most"]) fun _ _ _ _ _ _ us hl => match us, hl with | [_, _], _ => rfl, He.glo_ok X G (c.t.d.fact 33 (f := .glo "_law_graph") rfl)⟩
  obtain ⟨fd34, F34⟩ := c.t.d.def_ 34 (d := dfd "_law_strange" s_law_strange) rfl
  have FF34 : Fun K "_law_strange" "_law_strange" s_law_strange (He.fAd K ("_law_strange", none)) fd34 := He5.fun_of F34
  have D_law_strange : DefAt K mg "_law_strange" s_law_strange ["pool", "value", "n"] := ⟨He.fAd K ("_law_strange", none), fd34, FF34, FF34.binds (ps := ["pool", "value", "n"]) fun _ _ _ _ _ _ us hl => match us, hl with | [_, _, _], _ => rfl, He.glo_ok X G (c.t.d.fact 34 (f := .glo "_law_strange") rfl)⟩
  obtain ⟨fd35, F35⟩ := c.t.d.def_ 35 (d := dfd "_law_spoilt" s_law_spoilt) rfl
  have FF35 : Fun K "_law_spoilt" "_law_spoilt" s_law_spoilt (He.fAd K ("_law_spoilt", none)) fd35 := He5.fun_of F35
  have D_law_spoilt : DefAt K mg "_law_spoilt" s_law_spoilt ["pool", "value", "n"] := ⟨He.fAd K ("_law_spoilt", none), fd35, FF35, FF35.binds (ps := ["pool", "value", "n"]) fun _ _ _ _ _ _ us hl => match us, hl with | [_, _, _], _ => rfl, He.glo_ok X G (c.t.d.fact 35 (f := .glo "_law_spoilt") rfl)⟩
  obtain ⟨fd36, F36⟩ := c.t.d.def_ 36 (d := dfd "_law_kinds" s_law_kinds) rfl
  have FF36 : Fun K "_law_kinds" "_law_kinds" s_law_kinds (He.fAd K ("_law_kinds", none)) fd36 := He5.fun_of F36
  have D_law_kinds : DefAt K mg "_law_kinds" s_law_kinds [] := ⟨He.fAd K ("_law_kinds", none), fd36, FF36, FF36.binds (ps := []) fun _ _ _ _ _ _ us hl => match us, hl with | [], _ => rfl, He.glo_ok X G (c.t.d.fact 36 (f := .glo "_law_kinds") rfl)⟩
  obtain ⟨fd37, F37⟩ := c.t.d.def_ 37 (d := dfd "_law_ringed" s_law_ringed) rfl
  have FF37 : Fun K "_law_ringed" "_law_ringed" s_law_ringed (He.fAd K ("_law_ringed", none)) fd37 := He5.fun_of F37
  have D_law_ringed : DefAt K mg "_law_ringed" s_law_ringed ["pool", "n"] := ⟨He.fAd K ("_law_ringed", none), fd37, FF37, FF37.binds (ps := ["pool", "n"]) fun _ _ _ _ _ _ us hl => match us, hl with | [_, _], _ => rfl, He.glo_ok X G (c.t.d.fact 37 (f := .glo "_law_ringed") rfl)⟩
  obtain ⟨fd38, F38⟩ := c.t.d.def_ 38 (d := dfd "_law_is_graph" s_law_is_graph) rfl
  have FF38 : Fun K "_law_is_graph" "_law_is_graph" s_law_is_graph (He.fAd K ("_law_is_graph", none)) fd38 := He5.fun_of F38
  have D_law_is_graph : DefAt K mg "_law_is_graph" s_law_is_graph ["value"] := ⟨He.fAd K ("_law_is_graph", none), fd38, FF38, FF38.binds (ps := ["value"]) fun _ _ _ _ _ _ us hl => match us, hl with | [_], _ => rfl, He.glo_ok X G (c.t.d.fact 38 (f := .glo "_law_is_graph") rfl)⟩
  obtain ⟨fd39, F39⟩ := c.t.d.def_ 39 (d := dfd "_law_due" s_law_due) rfl
  have FF39 : Fun K "_law_due" "_law_due" s_law_due (He.fAd K ("_law_due", none)) fd39 := He5.fun_of F39
  have D_law_due : DefAt K mg "_law_due" s_law_due ["graph", "value"] := ⟨He.fAd K ("_law_due", none), fd39, FF39, FF39.binds (ps := ["graph", "value"]) fun _ _ _ _ _ _ us hl => match us, hl with | [_, _], _ => rfl, He.glo_ok X G (c.t.d.fact 39 (f := .glo "_law_due") rfl)⟩
  obtain ⟨fd40, F40⟩ := c.t.d.def_ 40 (d := dfd "law" s_law) rfl
  have FF40 : Fun K "law" "law" s_law (He.fAd K ("law", none)) fd40 := He5.fun_of F40
  let D_law : DefAt K mg "law" s_law ["script"] := ⟨He.fAd K ("law", none), fd40, FF40, FF40.binds (ps := ["script"]) fun _ _ _ _ _ _ us hl => match us, hl with | [_], _ => rfl, He.glo_ok X G (c.t.d.fact 40 (f := .glo "law") rfl)⟩
  have Z_all : mg "all" = none := He.free_ok X G (c.t.d.fact 53 (f := .free "all") rfl)
  have Z_set : mg "set" = none := He.free_ok X G (c.t.d.fact 54 (f := .free "set") rfl)
  have Z_zip : mg "zip" = none := He.free_ok X G (c.t.d.fact 55 (f := .free "zip") rfl)
  obtain ⟨tkM, C_MOST_VERTICES⟩ := He.int_ok X G (c.t.d.fact 56 (f := .int "MOST_VERTICES" 60) rfl)
  have e := hfa.symm.trans D_law.g
  cases e
  have T : Blt mg := ⟨He.free_ok X G (c.t.d.fact 41 (f := .free "len") rfl), He.free_ok X G (c.t.d.fact 42 (f := .free "range") rfl), He.free_ok X G (c.t.d.fact 43 (f := .free "list") rfl), He.free_ok X G (c.t.d.fact 44 (f := .free "tuple") rfl), He.free_ok X G (c.t.d.fact 45 (f := .free "int") rfl), He.free_ok X G (c.t.d.fact 46 (f := .free "min") rfl), He.free_ok X G (c.t.d.fact 47 (f := .free "max") rfl), He.free_ok X G (c.t.d.fact 48 (f := .free "sorted") rfl), He.free_ok X G (c.t.d.fact 49 (f := .free "isinstance") rfl), He.free_ok X G (c.t.d.fact 50 (f := .free "bool") rfl), He.free_ok X G (c.t.d.fact 51 (f := .free "str") rfl), He.free_ok X G (c.t.d.fact 52 (f := .free "enumerate") rfl)⟩
  have hx0 : ((decide ((He.cT K ("are_vertices", none)).2 ≠ (He.cT K ("is_ascending", none)).2) && (decide ((He.cT K ("are_vertices", none)).2 ≠ (He.cT K ("are_edges", none)).2) && decide ((He.cT K ("is_ascending", none)).2 ≠ (He.cT K ("are_edges", none)).2))) && (tupK K "KINDS" kds && tupK K "NUMBER_KINDS" nks)) = true := c.more
  rw [Bool.and_eq_true] at hx0
  have hx := hx0.1
  have hy := hx0.2
  rw [Bool.and_eq_true] at hy
  obtain ⟨aK, C_KINDS, hK⟩ := tupK_ok X G hy.1
  obtain ⟨aN, C_NUMBER_KINDS, hN⟩ := tupK_ok X G hy.2
  rw [Bool.and_eq_true, Bool.and_eq_true, decide_eq_true_eq, decide_eq_true_eq, decide_eq_true_eq] at hx
  obtain ⟨nAB, nAC, nBC⟩ := hx
  have m1 : (("are_vertices", none) : He.Defn) ∈ tfX := List.mem_cons_self
  have m2 : (("is_ascending", none) : He.Defn) ∈ tfX := List.mem_cons_of_mem _ List.mem_cons_self
  have m3 : (("are_edges", none) : He.Defn) ∈ tfX := List.mem_cons_of_mem _ (List.mem_cons_of_mem _ List.mem_cons_self)
  have hco1 : D_are_vertices.fd.code = .ref (He.cT K ("are_vertices", none)).1 := code_of D_are_vertices.F rfl
  have hco2 : D_is_ascending.fd.code = .ref (He.cT K ("is_ascending", none)).1 := code_of D_is_ascending.F rfl
  have hco3 : D_are_edges.fd.code = .ref (He.cT K ("are_edges", none)).1 := code_of D_are_edges.F rfl
  let TT : List (Addr × Str) := [((He.cT K ("are_vertices", none)).2, genN "are_vertices"), ((He.cT K ("is_ascending", none)).2, genN "is_ascending"), ((He.cT K ("are_edges", none)).2, genN "are_edges")]
  have all3 : ∀ {q : Addr × Str → Prop}, q ((He.cT K ("are_vertices", none)).2, genN "are_vertices") → q ((He.cT K ("is_ascending", none)).2, genN "is_ascending") → q ((He.cT K ("are_edges", none)).2, genN "are_edges") → ∀ p ∈ TT, q p := fun h1 h2 h3 p hp => by
    rcases List.mem_cons.mp hp with rfl | hp
    · exact h1
    · rcases List.mem_cons.mp hp with rfl | hp
      · exact h2
      · rw [List.mem_singleton.mp hp]
        exact h3
  have hu1 : ∀ p ∈ TT, p.1 = (He.cT K ("are_vertices", none)).2 → p.2 = genN "are_vertices" := all3 (fun _ => rfl) (fun e => (nAB e.symm).elim) (fun e => (nAC e.symm).elim)
  have hu2 : ∀ p ∈ TT, p.1 = (He.cT K ("is_ascending", none)).2 → p.2 = genN "is_ascending" := all3 (fun e => (nAB e).elim) (fun _ => rfl) (fun e => (nBC e.symm).elim)
  have hu3 : ∀ p ∈ TT, p.1 = (He.cT K ("are_edges", none)).2 → p.2 = genN "are_edges" := all3 (fun e => (nAC e).elim) (fun e => (nBC e).elim) (fun _ => rfl)
  have i2 : ((He.cT K ("is_ascending", none)).2, genN "is_ascending") ∈ TT := List.mem_cons_of_mem _ List.mem_cons_self
  have i3 : ((He.cT K ("are_edges", none)).2, genN "are_edges") ∈ TT := List.mem_cons_of_mem _ (List.mem_cons_of_mem _ List.mem_cons_self)
  have all3' : ∀ {q : Addr × Addr → Prop}, q (He.cT K ("are_vertices", none)) → q (He.cT K ("is_ascending", none)) → q (He.cT K ("are_edges", none)) → ∀ p ∈ [He.cT K ("are_vertices", none), He.cT K ("is_ascending", none), He.cT K ("are_edges", none)], q p := fun h1 h2 h3 p hp => by
    rcases List.mem_cons.mp hp with rfl | hp
    · exact h1
    · rcases List.mem_cons.mp hp with rfl | hp
      · exact h2
      · rw [List.mem_singleton.mp hp]
        exact h3
  refine ⟨D_law.fd, [He.cT K ("are_vertices", none), He.cT K ("is_ascending", none), He.cT K ("are_edges", none)], spLaw K TT, all3' (c.empty _ m1) (c.empty _ m2) (c.empty _ m3), all3' (c.out _ m1) (c.out _ m2) (c.out _ m3),
    all3' (PySem.W.codeHd_of_K X (c.hd _ m1)) (PySem.W.codeHd_of_K X (c.hd _ m2)) (PySem.W.codeHd_of_K X (c.hd _ m3)), fun s v => FunD.bindsA (ps := ["script"]) F40 (fun _ _ _ _ _ _ us hl => match us, hl with | [_], _ => rfl) s [v] rfl,
    fun H a ns _ _ hH hS => ⟨a, ns, rfl, hS, all3 (TabS.nil (hH _ List.mem_cons_self)) (TabS.nil (hH _ (List.mem_cons_of_mem _ List.mem_cons_self))) (TabS.nil (hH _ (List.mem_cons_of_mem _ (List.mem_cons_of_mem _ List.mem_cons_self)))), fun _ => rfl⟩, fun base _ _ hTB => ?_⟩
  have TB1 := hTB _ List.mem_cons_self
  have TB2 := hTB _ (List.mem_cons_of_mem _ List.mem_cons_self)
  have TB3 := hTB _ (List.mem_cons_of_mem _ (List.mem_cons_of_mem _ List.mem_cons_self))
  have G_spread := ok_spread (P := lw.prog) (w := w) (base := base) T D_law_spread
  have G_draw := ok_draw T D_law_draw D_law_spread G_spread
  have G_pool := ok_pool (P := lw.prog) (w := w) (base := base) T D_law_pool
  have G_pairs := ok_pairs (P := lw.prog) (w := w) (base := base) T D_law_pairs
  have G_distinct := ok_distinct (P := lw.prog) (w := w) (base := base) T D_law_distinct
  have G_of := ok_of T D_law_of D_law_distinct G_distinct
  have G_shuf := ok_shuffled T D_law_shuffled D_law_draw G_draw
  have G_moved := ok_moved T D_law_moved D_law_of G_of
  have G_other := ok_other T D_law_other D_law_pairs G_pairs
  have G_random := ok_random T D_law_random_graph D_law_draw G_draw D_law_pairs G_pairs
  have G_rows := ok_rows T D_law_interval_rows D_law_draw G_draw
  have G_iv := ok_ivgraph T D_law_interval_graph D_law_pairs G_pairs
  have G_turned := ok_turned T D_law_turned_graph D_law_pairs G_pairs
  have G_ringed := ok_ringed T D_law_ringed D_law_draw G_draw D_law_of G_of
  have G_ordered := ok_ordered T D_law_ordered_graph D_law_draw G_draw D_law_pairs G_pairs
  have G_clique := ok_clique T D_law_clique_graph D_law_draw G_draw
  have G_drawn := ok_drawn T D_law_drawn_tree D_law_draw G_draw
  have G_tp := ok_tree_pairs (P := lw.prog) (w := w) (base := base) T D_law_tree_pairs D_law_leaves 61
  have G_graph := ok_graph T D_law_graph D_law_draw G_draw D_law_interval_rows G_rows D_law_interval_graph G_iv D_law_turned_graph G_turned D_law_shuffled G_shuf D_law_ordered_graph G_ordered D_law_clique_graph G_clique D_law_of G_of D_law_tree_pairs G_tp D_law_drawn_tree G_drawn D_law_ringed G_ringed D_law_other G_other D_law_random_graph G_random D_law_moved G_moved
  have G_same := ok_same (P := lw.prog) (w := w) (base := base) T D_law_same 4
  have G_gph : ∀ b, FnOk lw.prog w K mg base CX0 15 D_is_graph.f D_is_graph.fd ["value"] (spGphX b TT) := fun b => by
    have G_int := ok_intX (b := b) (P := lw.prog) (w := w) (base := base) (K := K) T D_is_integer
    have G_tup := ok_tupX (b := b) (P := lw.prog) (w := w) (base := base) (K := K) T D_is_tuple
    have G_vx := ok_vxX T D_is_vertex D_is_integer G_int
    have G_vs := ok_vsX (TT := TT) TB1 List.mem_cons_self hu1 T Z_all D_are_vertices hco1 D_is_vertex G_vx
    have G_asc := ok_ascX (P := lw.prog) (w := w) (TT := TT) TB2 i2 hu2 T Z_all D_is_ascending hco2
    have G_set := ok_setX T D_is_set D_are_vertices G_vs D_is_ascending G_asc
    have G_edg := ok_edgX T D_is_edge D_is_tuple G_tup D_is_set G_set
    have G_eds := ok_edsX (TT := TT) TB3 i3 hu3 T Z_all D_are_edges hco3 D_is_edge G_edg D_is_ascending G_asc
    have G_siz := ok_sizX T C_MOST_VERTICES D_is_size D_is_integer G_int
    exact ok_gphX T D_is_graph D_is_tuple G_tup D_is_size G_siz D_are_edges G_eds
  have G_li : ∀ b, FnOk lw.prog w K mg base CX0 1 D_law_is_int.f D_law_is_int.fd ["x"] (spIntX b) := fun b => ok_lintX (b := b) T D_law_is_int
  have G_str := ok_strange T D_law_strange D_law_draw G_draw D_law_is_int G_li
  have G_spo := ok_spoilt T D_law_spoilt D_law_draw G_draw D_law_strange G_str 7
  have G_kinds := ok_kinds (P := lw.prog) (w := w) (base := base) (K := K) T D_law_kinds
  have G_disX := ok_disX (P := lw.prog) (w := w) (base := base) (K := K) T D_law_distinct
  have G_isq : ∀ b, FnOk lw.prog w K mg base CX0 16 D_is_question.f D_is_question.fd ["graph", "value"] (spQX b TT) := fun b => by
    have G_int := ok_intX (b := b) (P := lw.prog) (w := w) (base := base) (K := K) T D_is_integer
    have G_tup := ok_tupX (b := b) (P := lw.prog) (w := w) (base := base) (K := K) T D_is_tuple
    have G_vx := ok_vxX T D_is_vertex D_is_integer G_int
    have G_num := ok_numX T D_is_number D_is_integer G_int
    have G_ends := ok_endsX T D_are_ends D_is_vertex G_vx
    exact ok_isq T C_KINDS C_NUMBER_KINDS hK hN D_is_question D_is_tuple G_tup D_is_graph (G_gph b) D_are_ends G_ends D_is_number G_num
  have G_due : ∀ b, FnOk lw.prog w K mg base CX0 3 D_law_due.f D_law_due.fd ["graph", "value"] (spDQ K b) := fun b => by
    have G_lg := ok_lgphX T D_law_is_graph D_law_is_int (G_li b) D_law_distinct G_disX
    exact ok_dueQ T D_law_due D_law_is_int (G_li b) D_law_kinds G_kinds D_law_is_graph G_lg
  exact ok_law T C_KINDS hK D_law D_law_pool G_pool D_law_graph G_graph D_law_draw G_draw D_law_same G_same D_law_kinds G_kinds D_law_spoilt G_spo D_is_question (fn_ex G_isq) D_law_due (fn_ex G_due)

set_option Elab.async false
set_option linter.all false
set_option maxRecDepth 100000
set_option maxHeartbeats 0
open PySem PySem.W PySem.Calls PyProof.Rows L2
abbrev RX : OpenRow := OpenLaw.row PySem.Challenge.rw_trellis_k13_questions
abbrev qProg : Program := view RX.prog [47]
def names0 : List PySem.Str := ["__name__", "is_integer", "is_tuple", "is_vertex", "are_vertices", "is_set", "is_ascending", "is_edge", "are_edges", "MOST_VERTICES", "is_size", "is_graph", "KINDS", "NUMBER_KINDS", "is_question", "_are_ends", "_is_number", "_law_pool", "_law_spread", "_law_draw", "_law_same", "_law_is_int", "_law_distinct", "_law_pairs", "_law_of", "_law_shuffled", "_law_moved", "_law_other", "_law_random_graph", "_law_interval_rows"]
def names1 : List PySem.Str := ["_law_interval_graph", "_law_turned_graph", "_law_ordered_graph", "_law_clique_graph", "_law_drawn_tree", "_law_leaves", "_law_tree_pairs", "_law_graph", "_law_strange", "_law_spoilt", "_law_kinds", "_law_ringed", "_law_is_graph", "_law_due"]
def names : List PySem.Str := names0 ++ (names1)
theorem runX (w : World) : HandSHeadRun.RunEq RX qProg hkX obX 4000 names w := by
  intro os
  kernel_rfl

end Z
set_option Elab.async false
set_option linter.all false
set_option maxRecDepth 100000
open PySem PySem.W PySem.Calls PyProof.Rows
set_option maxHeartbeats 0 in
theorem PySem.Challenge.cw_trellis_k13_questions_holds : PySem.Challenge.rw_trellis_k13_questions.Holds := by
  w_on; o_law
  refine HandSHeadRun.head_any (r := OpenLaw.row PySem.Challenge.rw_trellis_k13_questions) (q := Z.qProg) (H := Z.hkX) (ob := Z.obX) (M := 4000) (loose := Z.names) (d := HandSHeadRun.topDef (OpenLaw.row PySem.Challenge.rw_trellis_k13_questions).prog 47) (kwd := []) Z.obX_eq
    (by kernel_rfl) (fun s => by kernel_rfl) Z.runX (by kernel_rfl) (by kernel_rfl) (by kernel_rfl) (by rfl) (by first | assumption | decide +kernel) (by decide +kernel) ⟨rfl, rfl, rfl, rfl, rfl, by decide +kernel⟩ ?hw ?hc
  case hw => w_witness2
  case hc =>
    refine LamX.walk_ofTsE (l := PySem.Challenge.rw_trellis_k13_questions) (n := 63) (k := 64) (x := "script") (CX := fun _ => L2.CX0) rfl (by decide) rfl ⟨rfl, by decide, by decide⟩ ?F (fun _ _ _ _ _ h => h)
    intro w mg fa h Y G hmg0
    obtain ⟨K, KX, c⟩ := Y
    have hmg : mg ("law" : PySem.Str) = some (.ref fa) := by
      have e : (HandSHeadRun.topDef (OpenLaw.row PySem.Challenge.rw_trellis_k13_questions).prog 47).name = ("law" : PySem.Str) := by kernel_rfl
      rw [← e]
      exact hmg0
    exact ⟨K, KX, Z.facts KX G hmg c⟩
