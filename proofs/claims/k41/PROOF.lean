import PyProof.Rows.All
import Wide.All
import OpenK.AllK
import Wide.FinOn
import HandS.ForMost
import HandS.Wide
import HandS.TupSets
import HandS.Deep
import HandS.IsInst
import HandS.Conv
import HandS.SortRule
import PyProof.WalkInts
import HandS.SetBool
import HandS.ExcOwn
import HandS.WordsExc
import HandS.ExcIs
import HandS.TryOnly
import HandS.TryElse
import HandS.More
import KE.GoesEnum
import KE.GoesMore
import HandS.DictTup
import HandS.DictComp
import HandS.Iter
import HandS.TupAny
import PyProof.Rows.MatchSeqLen
import PyProof.RulesMatch
import HandS.Star
import HandS.ExcCtx
import HandS.Hot
import HandS.HotCalls
import PyProof.MinMaxWalk
import HandS.Text
import HandS.Strs
import HandS.SetIn
import KE.KSetDisp
import PyProof.SetRoads
import HandS.SortOrd
import KE.KIndexOf
import KE.DataMinMax
import KE.SortData
import PyProof.Rows.RowBridgeK
import PySem.Challenge.RW_trellis_k41_trees_of_modules
set_option Elab.async false
set_option linter.all false
set_option maxRecDepth 100000
set_option maxHeartbeats 2000000
namespace Z
open PySem PySem.Spec PyProof.Rows L2

/-! ## heaps -/
/-- all but what stands at a is as it was -/
def Gr (a : Addr) (H H' : Hp) : Prop := ∀ b o, b ≠ a → H b = some o → H' b = some o
theorem Gr.refl (a : Addr) (H : Hp) : Gr a H H := fun _ _ _ h => h
theorem Gr.trans {a : Addr} {H H1 H2 : Hp} (x : Gr a H H1) (y : Gr a H1 H2) : Gr a H H2 := fun b o n h => y b o n (x b o n h)
theorem Gr.of_same {a : Addr} {H H' : Hp} (x : Same H H') : Gr a H H' := fun b o _ h => x b o h
theorem same_new {H : Hp} {p : Addr} {o : HO} (h : H p = none) : Same H (upd H p o) := fun b u e => by
  rw [upd_ne (ne_of_none e h)]
  exact e
theorem Gr.new {a : Addr} {H : Hp} {p : Addr} {o : HO} (h : H p = none) : Gr a H (upd H p o) := .of_same (same_new h)
/-- the object at a itself is written -/
theorem Gr.self {a : Addr} {H : Hp} {o : HO} : Gr a H (upd H a o) := fun b u n e => by
  rw [upd_ne n]
  exact e
/-- an object that H did not know is written -/
theorem Gr.mut {a : Addr} {H H' : Hp} {p : Addr} {o : HO} (x : Gr a H H') (h : H p = none) : Gr a H (upd H' p o) := fun b u n e => by
  rw [upd_ne (ne_of_none e h)]
  exact x b u n e
theorem same_mut {H H' : Hp} {p : Addr} {o : HO} (x : Same H H') (h : H p = none) : Same H (upd H' p o) := fun b u e => by
  rw [upd_ne (ne_of_none e h)]
  exact x b u e
/-- what is free now was free then -/
theorem Gr.free {a : Addr} {H H' : Hp} (x : Gr a H H') (ha : H' a ≠ none) {p : Addr} (h : H' p = none) : H p = none := by
  cases e : H p with
  | none => rfl
  | some o =>
    by_cases n : p = a
    · rw [n] at h
      exact absurd h ha
    · rw [x p o n e] at h
      cases h
theorem some_ne {H : Hp} {a : Addr} {o : HO} (h : H a = some o) : H a ≠ none := by
  rw [h]
  exact fun z => nomatch z
/-- the tuples stand -/
def TK (H H' : Hp) : Prop := ∀ b xs, H b = some (.tup xs) → H' b = some (.tup xs)
theorem TK.refl (H : Hp) : TK H H := fun _ _ h => h
theorem TK.trans {H H1 H2 : Hp} (x : TK H H1) (y : TK H1 H2) : TK H H2 := fun b o h => y b o (x b o h)
theorem TK.of_same {H H' : Hp} (x : Same H H') : TK H H' := fun b o h => x b _ h
theorem TK.of_gr {a : Addr} {H H' : Hp} {xs : List V} (x : Gr a H H') (h : H a = some (.lst xs)) : TK H H' := fun b o e => x b _ (fun n => by
  rw [n, h] at e
  cases e) e
theorem TK.lst {H : Hp} {p : Addr} {xs ys : List V} (h : H p = some (.lst xs)) : TK H (upd H p (.lst ys)) := fun b o e => by
  rw [upd_ne (fun n => by rw [n, h] at e; cases e)]
  exact e
theorem TK.new {H : Hp} {p : Addr} {o : HO} (h : H p = none) : TK H (upd H p o) := .of_same (same_new h)

/-! ## pairs -/
/-- x is the tuple of these two ints -/
def IsP (H : Hp) (x : V) (p : Int × Int) : Prop := ∃ t, x = .ref t ∧ H t = some (.tup [.int p.1, .int p.2])
theorem IsP.tk {H H' : Hp} (k : TK H H') {x : V} {p : Int × Int} (h : IsP H x p) : IsP H' x p := by
  obtain ⟨t, e, h⟩ := h
  exact ⟨t, e, k _ _ h⟩
abbrev Prs (H : Hp) : List V → List (Int × Int) → Prop := Paired (IsP H)
theorem Prs.tk {H H' : Hp} (k : TK H H') : ∀ {xs : List V} {ps : List (Int × Int)}, Prs H xs ps → Prs H' xs ps
  | _, _, .nil => .nil
  | _, _, .cons h t => .cons (h.tk k) (Prs.tk k t)
theorem pd_get {α β : Type} {F : α → β → Prop} : ∀ {xs : List α} {ps : List β} {i : Nat} {x : α}, Paired F xs ps → xs[i]? = some x → ∃ p, ps[i]? = some p ∧ F x p
  | _, _, _, _, .nil, h => by simp at h
  | _, _, 0, _, .cons f _, h => by
    have e := Option.some.inj h
    subst e
    exact ⟨_, rfl, f⟩
  | _, _, i + 1, _, .cons _ t, h => pd_get (i := i) t h
theorem pd_get2 {α β : Type} {F : α → β → Prop} : ∀ {xs : List α} {ps : List β} {i : Nat} {p : β}, Paired F xs ps → ps[i]? = some p → ∃ x, xs[i]? = some x ∧ F x p
  | _, _, _, _, .nil, h => by simp at h
  | _, _, 0, _, .cons f _, h => by
    have e := Option.some.inj h
    subst e
    exact ⟨_, rfl, f⟩
  | _, _, i + 1, _, .cons _ t, h => pd_get2 (i := i) t h
theorem pd_mem {α β : Type} {F : α → β → Prop} {xs : List α} {ps : List β} {x : α} (h : Paired F xs ps) (hx : x ∈ xs) : ∃ p ∈ ps, F x p := by
  obtain ⟨i, hi, e⟩ := List.mem_iff_getElem.mp hx
  obtain ⟨p, hp, f⟩ := pd_get h (List.getElem?_eq_some_iff.mpr ⟨hi, e⟩)
  exact ⟨p, List.mem_of_getElem? hp, f⟩
theorem pd_perm {α β : Type} {F : α → β → Prop} {xs ys : List α} (pm : ys.Perm xs) : ∀ {ps : List β}, Paired F xs ps → ∃ qs, qs.Perm ps ∧ Paired F ys qs := by
  induction pm with
  | nil => intro ps h; cases h; exact ⟨[], .nil, .nil⟩
  | cons x _ ih =>
    intro ps h
    cases h with
    | cons f t =>
      obtain ⟨qs, q1, q2⟩ := ih t
      exact ⟨_, q1.cons _, .cons f q2⟩
  | swap x y l =>
    intro ps h
    cases h with
    | cons f t =>
      cases t with
      | cons g u => exact ⟨_, .swap _ _ _, .cons g (.cons f u)⟩
  | trans _ _ ih1 ih2 =>
    intro ps h
    obtain ⟨qs, q1, q2⟩ := ih2 h
    obtain ⟨rs, r1, r2⟩ := ih1 q2
    exact ⟨rs, r1.trans q1, r2⟩
theorem pd_append {α β : Type} {F : α → β → Prop} : ∀ {xs ys : List α} {ps qs : List β}, Paired F xs ps → Paired F ys qs → Paired F (xs ++ ys) (ps ++ qs)
  | _, _, _, _, .nil, h => h
  | _, _, _, _, .cons f t, h => .cons f (pd_append t h)
theorem pd_take {α β : Type} {F : α → β → Prop} : ∀ {xs : List α} {ps : List β} (n : Nat), Paired F xs ps → Paired F (xs.take n) (ps.take n)
  | _, _, 0, _ => .nil
  | _, _, _ + 1, .nil => .nil
  | _, _, n + 1, .cons f t => .cons f (pd_take n t)
theorem pd_drop {α β : Type} {F : α → β → Prop} : ∀ {xs : List α} {ps : List β} (n : Nat), Paired F xs ps → Paired F (xs.drop n) (ps.drop n)
  | _, _, 0, h => h
  | _, _, _ + 1, .nil => .nil
  | _, _, n + 1, .cons _ t => pd_drop n t

/-! ## data, for == and in -/
theorem IsP.dp {K : PySem.W.Frag} {H : Hp} {x : V} {p : Int × Int} (h : IsP H x p) : Dp K H x (.tuple [.int p.1, .int p.2]) := by
  obtain ⟨t, rfl, h⟩ := h
  exact .tup (.inl (.inl h)) (.cons (.int _) (.cons (.int _) .nil))
def prD2 (p : Int × Int) : PyData := .tuple [.int p.1, .int p.2]
theorem Prs.dps {K : PySem.W.Frag} {H : Hp} : ∀ {xs : List V} {ps : List (Int × Int)}, Prs H xs ps → DpAll K H xs (ps.map prD2)
  | _, _, .nil => .nil
  | _, _, .cons h t => .cons h.dp (Prs.dps t)
theorem prD2_lay (z : Int × Int) : (prD2 z).canLay0 = true := by simp [prD2, PyData.canLay0, PyData.canLayAll0]
theorem prD2_depth (z : Int × Int) : (prD2 z).depth = 1 := by simp [prD2, PyData.depth, PyData.depthAll]
theorem prD2s_lay : ∀ zs : List (Int × Int), PyData.canLayAll0 (zs.map prD2) = true
  | [] => by simp [PyData.canLayAll0]
  | z :: zs => by simp [PyData.canLayAll0, prD2_lay z, prD2s_lay zs]
theorem prD2s_depth : ∀ zs : List (Int × Int), PyData.depthAll (zs.map prD2) ≤ 1
  | [] => by simp [PyData.depthAll]
  | z :: zs => by
    have h1 := prD2s_depth zs
    have h2 := prD2_depth z
    simp only [List.map_cons, PyData.depthAll]
    omega
theorem shaped_of {d : PyData} (h1 : d.canLay0 = true) (h2 : d.depth ≤ 64) : SeqAt.shaped d = true := by
  show (d.canLay0 && decide (d.depth ≤ 64)) = true
  rw [Bool.and_eq_true]
  exact ⟨h1, decide_eq_true h2⟩
theorem prD2_shaped (z : Int × Int) : SeqAt.shaped (prD2 z) = true := shaped_of (prD2_lay z) (by rw [prD2_depth]; omega)
theorem prD2s_shT (zs : List (Int × Int)) : SeqAt.shaped (.tuple (zs.map prD2)) = true := shaped_of (by simp only [PyData.canLay0]; exact prD2s_lay zs) (by
  have h := prD2s_depth zs
  simp only [PyData.depth]
  omega)
theorem prD2s_shL (zs : List (Int × Int)) : SeqAt.shaped (.list (zs.map prD2)) = true := shaped_of (by simp only [PyData.canLay0]; exact prD2s_lay zs) (by
  have h := prD2s_depth zs
  simp only [PyData.depth]
  omega)
theorem prD2_eqv (z w : Int × Int) : PyData.eqv (prD2 z) (prD2 w) = decide (z = w) := by
  obtain ⟨a, b⟩ := z
  obtain ⟨c, d⟩ := w
  have e : PyData.eqv (prD2 (a, b)) (prD2 (c, d)) = ((a == c) && ((b == d) && true)) := by simp only [prD2, PyData.eqv, PyData.eqvAll]
  rw [e]
  by_cases h1 : a = c <;> by_cases h2 : b = d <;> simp [h1, h2]
theorem prD2s_any (zs : List (Int × Int)) (w : Int × Int) : ((zs.map prD2).any fun z => PyData.eqv z (prD2 w)) = decide (w ∈ zs) := by
  induction zs with
  | nil => simp
  | cons z zs ih =>
    rw [List.map_cons, List.any_cons, ih, prD2_eqv]
    by_cases h : z = w
    · simp [h]
    · have h' : ¬ w = z := fun q => h q.symm
      simp [h, h']

/-! ## rules of my own -/
section
variable {X : Cx}
/-- x in t, t a tuple of pairs -/
def rInP (K : PySem.W.Frag) : R2 := fun x y H Q => ∃ (p : Int × Int) (b : Addr) (xs : List V) (ps : List (Int × Int)), IsP H x p ∧ y = .ref b ∧ SqT K H b xs ∧ Prs H xs ps ∧ Q (.bl (decide (p ∈ ps))) H
def rNinP (K : PySem.W.Frag) : R2 := fun x y H Q => ∃ (p : Int × Int) (b : Addr) (xs : List V) (ps : List (Int × Int)), IsP H x p ∧ y = .ref b ∧ SqT K H b xs ∧ Prs H xs ps ∧ Q (.bl (!decide (p ∈ ps))) H
theorem units65 {k : Nat} {A : Around} (r : Room k A) : A.units + 65 < cLine := by have := r.un; omega
theorem roomP {A : Around} {ds : List PyData} (h : A.units + 64 < cLine) (p : Int × Int) : A.units + 1 + min (PyData.depthAll ds) (prD2 p).depth < cLine := by
  have := Nat.min_le_right (PyData.depthAll ds) (prD2 p).depth
  rw [prD2_depth] at this
  rw [prD2_depth]
  omega
theorem op_inTD {k : Nat} (hr : Room k X.A) : OpR X (compareOp .In) (rInP X.K) := by
  intro pins s σ H x y v u Q I rx ry h
  obtain ⟨p, b, xs, ps, hx, rfl, hb, hp, q⟩ := h
  obtain ⟨as, r1⟩ := Dp.reads I (prD2 p) x v hx.dp rx
  obtain ⟨bs, r2⟩ := Dp.reads I (.tuple (ps.map prD2)) (.ref b) u (.tup hb hp.dps) ry
  exact SeqAt.in_tuple_reads r2 r1 (prD2s_lay ps) (prD2_lay p) (roomP hr.units p) ⟨.bl _, H, I, rfl, by rw [prD2s_any]; exact q⟩
theorem op_notInTD {k : Nat} (hr : Room k X.A) : OpR X (compareOp .NotIn) (rNinP X.K) := by
  intro pins s σ H x y v u Q I rx ry h
  obtain ⟨p, b, xs, ps, hx, rfl, hb, hp, q⟩ := h
  obtain ⟨as, r1⟩ := Dp.reads I (prD2 p) x v hx.dp rx
  obtain ⟨bs, r2⟩ := Dp.reads I (.tuple (ps.map prD2)) (.ref b) u (.tup hb hp.dps) ry
  exact SeqAt.notIn_tuple_reads r2 r1 (prD2s_lay ps) (prD2_lay p) (roomP hr.units p) ⟨.bl _, H, I, rfl, by rw [prD2s_any]; exact q⟩
/-- min, max of a pair -/
def rMinT : List V → Hp → VK → Prop := fun vs H Q => ∃ (x : V) (p : Int × Int), vs = [x] ∧ IsP H x p ∧ Q (.int (min p.1 p.2)) H
def rMaxT : List V → Hp → VK → Prop := fun vs H Q => ∃ (x : V) (p : Int × Int), vs = [x] ∧ IsP H x p ∧ Q (.int (max p.1 p.2)) H
theorem pair_raw {pins : List (Addr × Obj)} {σ : L2.St} {H : Hp} {s : Shared} {t : Addr} {i j : Int} (I : Inv X pins σ H s) (h : H t = some (.tup [.int i, .int j])) :
    ∃ a b, s.heap.IsTuple t (intItems #[(i, a), (j, b)]) := by
  obtain ⟨its, rv, ⟨o, ho, hc, n, hd⟩, _⟩ := I.tuple (SqT.of (K := X.K) h)
  obtain ⟨u, w, e, r1, r2⟩ := vals2 rv
  obtain ⟨a, rfl⟩ := r1
  obtain ⟨b, rfl⟩ := r2
  subst e
  exact ⟨a, b, o, ho, hc, n, by simpa [intItems] using hd⟩
theorem cr_minT (hc : X.calm = true) : CallR X (.builtin "min") rMinT := by
  intro pins s σ H vs us Q I r h
  obtain ⟨x, ⟨i, j⟩, rfl, ⟨t, rfl, ht⟩, q⟩ := h
  rw [Vals.ref1 r]
  obtain ⟨a, b, hT⟩ := pair_raw I ht
  have hlt : t < s.heap.objs.size := by
    obtain ⟨o, ho, _⟩ := hT
    exact Heap.lt_size ho
  refine call_min_walk (wpAny_pyIter_tuple hT ?_)
  refine ⟨_, _, _, _, _, _, _, rfl, Walks.tuple (A := X.A.in1) (I.ok.hd hc) s.heap.objs.size t (Nat.ne_of_lt hlt) (intItems #[(i, a), (j, b)]),
    ⟨⟨_, Heap.get?_push_size _ rfl, rfl, rfl⟩, hT.push _⟩, fun c hm => ?_, by simp [intItems], CmpOf.ints_lt (numAt #[(i, a), (j, b)]) (fun _ _ => intItems_at), fun v h' tk hP hk => ?_⟩
  · show c < (s.heap.push _).objs.size
    rw [Heap.size_push]
    rcases List.mem_cons.mp hm with e | hm
    · rw [e]
      exact Nat.lt_succ_self _
    · rw [List.mem_singleton.mp hm]
      exact Nat.lt_succ_of_lt hlt
  · obtain ⟨tt, rfl⟩ := intItems_at hP
    obtain ⟨h1, h2⟩ := argBest_lt (numAt #[(i, a), (j, b)]) ((intItems #[(i, a), (j, b)]).size - 1)
    have e1 : (intItems #[(i, a), (j, b)]).size - 1 = 1 := by simp [intItems]
    rw [e1] at h1 h2 ⊢
    have n0 : numAt #[(i, a), (j, b)] 0 = i := rfl
    have n1 : numAt #[(i, a), (j, b)] 1 = j := rfl
    have g0 := h2 0 (by omega)
    have g1 := h2 1 (by omega)
    rw [n0] at g0
    rw [n1] at g1
    have ev : numAt #[(i, a), (j, b)] (argBest (fun k l => decide (numAt #[(i, a), (j, b)] k < numAt #[(i, a), (j, b)] l)) 1) = min i j := by
      generalize argBest (fun k l => decide (numAt #[(i, a), (j, b)] k < numAt #[(i, a), (j, b)] l)) 1 = z at h1 g0 g1 ⊢
      have hz : z = 0 ∨ z = 1 := by omega
      rcases hz with e | e
      · subst e; rw [n0] at g0 g1 ⊢; omega
      · subst e; rw [n1] at g0 g1 ⊢; omega
    refine ⟨.int (min i j), H, I.kept (t' := tk) fun b u e => hk b u (fun hmem => ?_) (Heap.get?_push_of_some _ e), ⟨tt, by rw [ev]⟩, q⟩
    have e2 := Heap.lt_size e
    rw [List.mem_singleton.mp hmem] at e2
    exact absurd e2 (Nat.lt_irrefl _)
theorem cr_maxT (hc : X.calm = true) : CallR X (.builtin "max") rMaxT := by
  intro pins s σ H vs us Q I r h
  obtain ⟨x, ⟨i, j⟩, rfl, ⟨t, rfl, ht⟩, q⟩ := h
  rw [Vals.ref1 r]
  obtain ⟨a, b, hT⟩ := pair_raw I ht
  have hlt : t < s.heap.objs.size := by
    obtain ⟨o, ho, _⟩ := hT
    exact Heap.lt_size ho
  refine call_max_walk (wpAny_pyIter_tuple hT ?_)
  refine ⟨_, _, _, _, _, _, _, rfl, Walks.tuple (A := X.A.in1) (I.ok.hd hc) s.heap.objs.size t (Nat.ne_of_lt hlt) (intItems #[(i, a), (j, b)]),
    ⟨⟨_, Heap.get?_push_size _ rfl, rfl, rfl⟩, hT.push _⟩, fun c hm => ?_, by simp [intItems], CmpOf.ints_gt (numAt #[(i, a), (j, b)]) (fun _ _ => intItems_at), fun v h' tk hP hk => ?_⟩
  · show c < (s.heap.push _).objs.size
    rw [Heap.size_push]
    rcases List.mem_cons.mp hm with e | hm
    · rw [e]
      exact Nat.lt_succ_self _
    · rw [List.mem_singleton.mp hm]
      exact Nat.lt_succ_of_lt hlt
  · obtain ⟨tt, rfl⟩ := intItems_at hP
    obtain ⟨h1, h2⟩ := argBest_gt (numAt #[(i, a), (j, b)]) ((intItems #[(i, a), (j, b)]).size - 1)
    have e1 : (intItems #[(i, a), (j, b)]).size - 1 = 1 := by simp [intItems]
    rw [e1] at h1 h2 ⊢
    have n0 : numAt #[(i, a), (j, b)] 0 = i := rfl
    have n1 : numAt #[(i, a), (j, b)] 1 = j := rfl
    have g0 := h2 0 (by omega)
    have g1 := h2 1 (by omega)
    rw [n0] at g0
    rw [n1] at g1
    have ev : numAt #[(i, a), (j, b)] (argBest (fun k l => decide (numAt #[(i, a), (j, b)] k > numAt #[(i, a), (j, b)] l)) 1) = max i j := by
      generalize argBest (fun k l => decide (numAt #[(i, a), (j, b)] k > numAt #[(i, a), (j, b)] l)) 1 = z at h1 g0 g1 ⊢
      have hz : z = 0 ∨ z = 1 := by omega
      rcases hz with e | e
      · subst e; rw [n0] at g0 g1 ⊢; omega
      · subst e; rw [n1] at g0 g1 ⊢; omega
    refine ⟨.int (max i j), H, I.kept (t' := tk) fun b u e => hk b u (fun hmem => ?_) (Heap.get?_push_of_some _ e), ⟨tt, by rw [ev]⟩, q⟩
    have e2 := Heap.lt_size e
    rw [List.mem_singleton.mp hmem] at e2
    exact absurd e2 (Nat.lt_irrefl _)
/-- the order of pairs -/
def leP (p q : Int × Int) : Prop := p.1 < q.1 ∨ (p.1 = q.1 ∧ p.2 ≤ q.2)
def ltP (p q : Int × Int) : Prop := p.1 < q.1 ∨ (p.1 = q.1 ∧ p.2 < q.2)
/-- which pair stands at x -/
def kP (H : Hp) : V → Int × Int
  | .ref t => match H t with
    | some (.tup [.int i, .int j]) => (i, j)
    | _ => (0, 0)
  | _ => (0, 0)
theorem IsP.k {H : Hp} {x : V} {p : Int × Int} (h : IsP H x p) : kP H x = p := by
  obtain ⟨t, rfl, h⟩ := h
  simp only [kP, h]
/-- sorted(xs), xs a list of pairs -/
def rSortPr (K : PySem.W.Frag) : List V → Hp → VK → Prop := fun vs H Q => ∃ (a : Addr) (xs : List V) (ps : List (Int × Int)), vs = [V.ref a] ∧ SqL K H a xs ∧ Prs H xs ps ∧
  ∀ (ys : List V) (qs : List (Int × Int)) (p : Addr), qs.Perm ps → Prs H ys qs → qs.Pairwise leP → H p = none → Q (.ref p) (upd H p (.lst ys))
theorem prs_of_k {H : Hp} : ∀ {ys : List V}, (∀ y ∈ ys, IsP H y (kP H y)) → Prs H ys (ys.map (kP H))
  | [], _ => .nil
  | y :: ys, h => .cons (h y List.mem_cons_self) (prs_of_k fun z hz => h z (List.mem_cons_of_mem _ hz))
theorem prs_k {H : Hp} : ∀ {xs : List V} {ps : List (Int × Int)}, Prs H xs ps → xs.map (kP H) = ps
  | _, _, .nil => rfl
  | _, _, .cons h t => by rw [List.map_cons, h.k, prs_k t]
theorem cr_sortPr : CallR X (.builtin "sorted") (rSortPr X.K) := by
  intro pins s σ H vs us Q I r h
  obtain ⟨a, xs, ps, rfl, hs, hp, q⟩ := h
  have at_ : ∀ x ∈ xs, IsP H x (kP H x) := fun x hx => by
    obtain ⟨p, _, f⟩ := pd_mem hp hx
    rw [f.k]
    exact f
  refine cr_sortedPO pins s σ H [V.ref a] us Q I r ⟨a, xs, kP H, rfl, hs, fun x hx => ?_, fun ys p sr st hn => ?_⟩
  · obtain ⟨t, e, h⟩ := at_ x hx
    exact ⟨t, e, h⟩
  · refine q ys (ys.map (kP H)) p ?_ (prs_of_k fun y hy => at_ y (st.perm.mem_iff.mp hy)) ?_ hn
    · rw [← prs_k hp]
      exact st.perm.map _
    · refine List.pairwise_map.mpr (List.Pairwise.imp (fun {x y} h => ?_) sr)
      have h2 := SrtO.lexB_no.mp h
      unfold leP
      omega
end

set_option Elab.async false
set_option linter.all false
set_option maxRecDepth 100000
set_option maxHeartbeats 2000000
open PySem PySem.Spec PyProof.Rows L2
/-! ## steps of a reading -/
theorem int_beq (i j : Int) : (i == j) = decide (i = j) := by
  by_cases h : i = j <;> simp [h]
def rInt1 : List V → Hp → VK → Prop := fun xs H Q => (∃ i, xs = [.int i] ∧ Q (.int i) H) ∨ ∃ k, xs = [.bl k] ∧ Q (.int (if k then 1 else 0)) H
def rMin2 : List V → Hp → VK → Prop := fun xs H Q => ∃ i j, xs = [.int i, .int j] ∧ Q (.int (if j < i then j else i)) H
def rMax2 : List V → Hp → VK → Prop := fun xs H Q => ∃ i j, xs = [.int i, .int j] ∧ Q (.int (if j > i then j else i)) H
def rLen (K : PySem.W.Frag) : List V → Hp → VK → Prop := fun xs H Q => ∃ p ys, xs = [.ref p] ∧ (SqL K H p ys ∨ SqT K H p ys) ∧ Q (.int ys.length) H
def rListOf (K : PySem.W.Frag) : List V → Hp → VK → Prop := fun xs H Q => ∃ p ys, xs = [.ref p] ∧ (SqL K H p ys ∨ SqT K H p ys) ∧ ∀ l, H l = none → Q (.ref l) (upd H l (.lst ys))
def rTupOf (K : PySem.W.Frag) : List V → Hp → VK → Prop := fun xs H Q => ∃ p ys, xs = [.ref p] ∧ ((SqL K H p ys ∧ ∀ l, H l = none → Q (.ref l) (upd H l (.tup ys))) ∨ (SqT K H p ys ∧ Q (.ref p) H))
section
variable {X : Cx}
theorem ix_either : IxR X (fun x y H Q => rIxL X.K x y H Q ∨ rIxT X.K x y H Q) := ix_list.or ix_tup
variable {K : PySem.W.Frag}
theorem ix_listK (h : X.K = K) : IxR X (rIxL K) := h ▸ ix_list
theorem ix_tupK (h : X.K = K) : IxR X (rIxT K) := h ▸ ix_tup
theorem ix_eitherK (h : X.K = K) : IxR X (fun x y H Q => rIxL K x y H Q ∨ rIxT K x y H Q) := h ▸ ix_list.or ix_tup
theorem sl_listK (h : X.K = K) : SlR X (rSlL K) := h ▸ sl_list
theorem sl_tupK (h : X.K = K) : SlR X (rSlT K) := h ▸ sl_tup
theorem op_inSeqK (h : X.K = K) : OpR X (compareOp .In) (rIn K false) := h ▸ op_in_seq
theorem op_ninSeqK (h : X.K = K) : OpR X (compareOp .NotIn) (rIn K true) := h ▸ op_notIn_seq
theorem op_inPK {k : Nat} (h : X.K = K) (hr : Room k X.A) : OpR X (compareOp .In) (rInP K) := h ▸ op_inTD hr
theorem op_ninPK {k : Nat} (h : X.K = K) (hr : Room k X.A) : OpR X (compareOp .NotIn) (rNinP K) := h ▸ op_notInTD hr
theorem op_eqDK (h : X.K = K) (hu : X.A.units + 64 < cLine) : OpR X (compareOp .Eq) (rEqD K) := h ▸ op_eqD hu
theorem op_neDK (h : X.K = K) (hu : X.A.units + 64 < cLine) : OpR X (compareOp .NotEq) (rNeD K) := h ▸ op_neD hu
theorem op_catTK (h : X.K = K) : OpR X (binaryOp .Add) (rCatT K) := h ▸ op_catT
theorem PE.bmK {e : Expr} {T : String} {r : V → List V → Hp → VK → Prop} {to : TE} {t : TA} (h : X.K = K) (p : PE X e (tBM X.K T r to t)) : PE X e (tBM K T r to t) := h ▸ p
theorem PG.tupK {e : Expr} {n : Nat} {t : TGs} (h : X.K = K) (p : PG X e (gTup X.K n t)) : PG X e (gTup K n t) := h ▸ p
theorem PI.listK {tg e : Expr} {tl : TE} (h : X.K = K) (p : PI X tg e (iList X.K tl)) : PI X tg e (iList K tl) := h ▸ p
theorem PI.tupK {tg e : Expr} {tl : TE} (h : X.K = K) (p : PI X tg e (iTup X.K tl)) : PI X tg e (iTup K tl) := h ▸ p
theorem mt_indexK (h : X.K = K) : MtR X "list.index" (rIndex K) := h ▸ mt_index
theorem cr_sortPrK (h : X.K = K) : CallR X (.builtin "sorted") (rSortPr K) := h ▸ cr_sortPr
theorem call_isiK (h : X.K = K) : CallR X (.builtin "isinstance") (rIsi K) := h ▸ call_isi
theorem call_lenK (h : X.K = K) : CallR X (.builtin "len") (rLen K) := h ▸ call_len_seq
theorem call_listK (h : X.K = K) : CallR X (.type "list") (rListOf K) := h ▸ call_list_of
theorem call_tupleK (h : X.K = K) : CallR X (.type "tuple") (rTupOf K) := h ▸ call_tuple_of
theorem call_int1' : CallR X (.type "int") rInt1 := call_int1
theorem call_min2' (hc : X.calm = true) : CallR X (.builtin "min") rMin2 := call_min2 hc
theorem call_max2' (hc : X.calm = true) : CallR X (.builtin "max") rMax2 := call_max2 hc
theorem call_len' : CallR X (.builtin "len") (rLen X.K) := call_len_seq
theorem call_list' : CallR X (.type "list") (rListOf X.K) := call_list_of
theorem call_tuple' : CallR X (.type "tuple") (rTupOf X.K) := call_tuple_of
end
section
variable {K : PySem.W.Frag} {σ : L2.St} {H : Hp} {Q : VK} {ta tb tc te : TE} {t u : TT}
theorem r_var {i : Nat} {v : V} (h : σ[i]? = some (some v)) (q : Q v H) : tVar i σ H Q := ⟨v, h, q⟩
theorem r_c {v : V} (q : Q v H) : tC v σ H Q := q
theorem r_op {r : R2} (h : ta σ H fun x H1 => tb σ H1 fun y H2 => r x y H2 Q) : tOp r ta tb σ H Q := h
theorem r_un {r : V → Hp → VK → Prop} (h : ta σ H fun x H1 => r x H1 Q) : tUn r ta σ H Q := h
theorem r_i0 {g : Int → Int → V} {i j : Int} (q : Q (g i j) H) : rI0 g (.int i) (.int j) H Q := ⟨i, j, rfl, rfl, q⟩
theorem r_i {C : Int → Int → Prop} {g : Int → Int → V} {i j : Int} (c : C i j) (q : Q (g i j) H) : rI C g (.int i) (.int j) H Q := ⟨i, j, rfl, rfl, c, q⟩
theorem r_u {g : Int → V} {i : Int} (q : Q (g i) H) : rU g (.int i) H Q := ⟨i, rfl, q⟩
theorem r_eqI {i j : Int} (q : Q (.bl (decide (i = j))) H) : rEq (.int i) (.int j) H Q := ⟨rfl, by rw [dec_int, int_beq]; exact q⟩
theorem r_neI {i j : Int} (q : Q (.bl (!decide (i = j))) H) : rNe (.int i) (.int j) H Q := ⟨rfl, by rw [dec_int, int_beq]; exact q⟩
theorem r_eqB {i j : Bool} (q : Q (.bl (i == j)) H) : rEq (.bl i) (.bl j) H Q := ⟨rfl, by rw [dec_bl]; exact q⟩
theorem r_neB {i j : Bool} (q : Q (.bl (!(i == j))) H) : rNe (.bl i) (.bl j) H Q := ⟨rfl, by rw [dec_bl]; exact q⟩
def TupN (Q : VK) (xs : List V) (H1 : Hp) : Prop := xs.length ≤ sizeLine ∧ ∀ p, H1 p = none → Q (.ref p) (upd H1 p (.tup xs))
def LstN (Q : VK) (xs : List V) (H1 : Hp) : Prop := xs.length ≤ sizeLine ∧ ∀ p, H1 p = none → Q (.ref p) (upd H1 p (.lst xs))
theorem r_tup {ta : TA} (h : ta σ H (TupN Q)) : tTup ta σ H Q := h
theorem r_lst {ta : TA} (h : ta σ H (LstN Q)) : tLst ta σ H Q := h
theorem r_tupN {xs : List V} (l : xs.length ≤ sizeLine) (q : ∀ p, H p = none → Q (.ref p) (upd H p (.tup xs))) : TupN Q xs H := ⟨l, q⟩
theorem r_lstN {xs : List V} (l : xs.length ≤ sizeLine) (q : ∀ p, H p = none → Q (.ref p) (upd H p (.lst xs))) : LstN Q xs H := ⟨l, q⟩
theorem r_nil {Q : List V → Hp → Prop} (q : Q [] H) : tNil σ H Q := q
theorem r_cons {tr : TA} {Q : List V → Hp → Prop} (h : ta σ H fun x H1 => tr σ H1 fun xs H2 => Q (x :: xs) H2) : tCons ta tr σ H Q := h
theorem r_call {sp : Sp} {dvs : List V} {E : XK} {ta : TA} (h : ta σ H fun vs H1 => sp (vs ++ dvs) H1 Q E) : tCall sp dvs E ta σ H Q := h
theorem r_cb {r : List V → Hp → VK → Prop} {ta : TA} (h : ta σ H fun vs H1 => r vs H1 Q) : tCB r ta σ H Q := h
def KB (Q : Bool → Hp → Prop) (x : V) (H : Hp) : Prop := ∃ k, x = .bl k ∧ Q k H
theorem r_test {Q : Bool → Hp → Prop} (h : te σ H fun x H1 => KB Q x H1) : tTest te σ H Q := h
theorem r_tB {Q : Bool → Hp → Prop} (h : te σ H fun x H1 => KB Q x H1) : tB te σ H Q := h
theorem r_k {Q : Bool → Hp → Prop} {b : Bool} (q : Q b H) : KB Q (.bl b) H := ⟨b, rfl, q⟩
theorem r_not {Q : Bool → Hp → Prop} (h : t σ H fun c H1 => Q (!c) H1) : tNot t σ H Q := h
theorem r_and {Q : Bool → Hp → Prop} (h : t σ H fun c H1 => if c = true then u σ H1 Q else Q false H1) : tAnd t u σ H Q := h
theorem r_or {Q : Bool → Hp → Prop} (h : t σ H fun c H1 => if c = true then Q true H1 else u σ H1 Q) : tOr t u σ H Q := h
theorem r_if (h : t σ H fun c H1 => if c = true then ta σ H1 Q else tb σ H1 Q) : tIf t ta tb σ H Q := h
def Bm (K : PySem.W.Frag) (T : String) (r : V → List V → Hp → VK → Prop) (ta : TA) (σ : L2.St) (Q : VK) (x : V) (H1 : Hp) : Prop := tyV K T x H1 ∧ ta σ H1 fun xs H2 => r x xs H2 Q
theorem r_bm {T : String} {r : V → List V → Hp → VK → Prop} {ta : TA} (h : te σ H (Bm K T r ta σ Q)) : tBM K T r te ta σ H Q := h
def AndN (tb : TE) (σ : L2.St) (Q : VK) (x : V) (H1 : Hp) : Prop := ∃ c, x = .bl c ∧ if c = true then tb σ H1 Q else Q (.bl false) H1
def OrN (tb : TE) (σ : L2.St) (Q : VK) (x : V) (H1 : Hp) : Prop := ∃ c, x = .bl c ∧ if c = true then Q (.bl true) H1 else tb σ H1 Q
def NotN (Q : VK) (x : V) (H1 : Hp) : Prop := ∃ c, x = .bl c ∧ Q (.bl (!c)) H1
theorem r_andV (h : ta σ H (AndN tb σ Q)) : tAndV ta tb σ H Q := h
theorem r_orV (h : ta σ H (OrN tb σ Q)) : tOrV ta tb σ H Q := h
theorem r_notV (h : ta σ H (NotN Q)) : tNotV ta σ H Q := h
theorem r_andN {c : Bool} (h : if c = true then tb σ H Q else Q (.bl false) H) : AndN tb σ Q (.bl c) H := ⟨c, rfl, h⟩
theorem r_orN {c : Bool} (h : if c = true then Q (.bl true) H else tb σ H Q) : OrN tb σ Q (.bl c) H := ⟨c, rfl, h⟩
theorem r_notN {c : Bool} (q : Q (.bl (!c)) H) : NotN Q (.bl c) H := ⟨c, rfl, q⟩
def PartN (Q : Option Int → Hp → Prop) (x : V) (H1 : Hp) : Prop := ∃ i, x = .int i ∧ Q (some i) H1
theorem r_sl {r : V → Option Int → Option Int → Hp → VK → Prop} {tl th : TO} (h : te σ H fun x H1 => tl σ H1 fun l H2 => th σ H2 fun u H3 => r x l u H3 Q) : tSl r te tl th σ H Q := h
theorem r_part {Q : Option Int → Hp → Prop} (h : te σ H (PartN Q)) : tPart te σ H Q := h
theorem r_partN {Q : Option Int → Hp → Prop} {i : Int} (q : Q (some i) H) : PartN Q (.int i) H := ⟨i, rfl, q⟩
theorem r_noPart {Q : Option Int → Hp → Prop} (q : Q none H) : tNoPart σ H Q := q
def LRg (Q : VK) (a b : Int) (H1 : Hp) : Prop := RgOk a b ∧ ∀ q, H1 q = none → Q (.ref q) (upd H1 q (.lst (rgV a b)))
def R1N (Q : Int → Int → Hp → Prop) (x : V) (H1 : Hp) : Prop := ∃ n, x = .int n ∧ Q 0 n H1
theorem r_lstRg {t : L2.St → Hp → (Int → Int → Hp → Prop) → Prop} (h : t σ H (LRg Q)) : tLstRg t σ H Q := h
theorem r_tRg1 {Q : Int → Int → Hp → Prop} (h : ta σ H (R1N Q)) : tRg1 ta σ H Q := h
theorem r_r1N {Q : Int → Int → Hp → Prop} {n : Int} (q : Q 0 n H) : R1N Q (.int n) H := ⟨n, rfl, q⟩
theorem r_bmL {r : V → List V → Hp → VK → Prop} {ta : TA} {p : Addr} {xs : List V} (h : SqL K H p xs) (q : ta σ H fun xs H2 => r (.ref p) xs H2 Q) : Bm K "list" r ta σ Q (.ref p) H := ⟨.inl ⟨rfl, _, h⟩, q⟩
theorem r_ixL {p : Addr} {xs : List V} {i : Int} {v : V} (h : SqL K H p xs) (a : atI xs i = some v) (q : Q v H) : rIxL K (.ref p) (.int i) H Q := ⟨p, xs, i, v, rfl, rfl, h, a, q⟩
theorem r_ixT {p : Addr} {xs : List V} {i : Int} {v : V} (h : SqT K H p xs) (a : atI xs i = some v) (q : Q v H) : rIxT K (.ref p) (.int i) H Q := ⟨p, xs, i, v, rfl, rfl, h, a, q⟩
variable {nx bk ct : L2.St → Hp → Prop} {a b : TS}
theorem r_next (q : nx σ H) : tNext ⟨nx, Q, bk, ct⟩ σ H := q
theorem r_seq (h : a ⟨b ⟨nx, Q, bk, ct⟩, Q, bk, ct⟩ σ H) : tSeq a b ⟨nx, Q, bk, ct⟩ σ H := h
/-- a block's tail, once for all ways that lead to it -/
theorem r_seqW (W : L2.St → Hp → Prop) (tail : ∀ σ' H', W σ' H' → b ⟨nx, Q, bk, ct⟩ σ' H') (head : ∀ B : L2.St → Hp → Prop, (∀ σ' H', W σ' H' → B σ' H') → a ⟨B, Q, bk, ct⟩ σ H) : tSeq a b ⟨nx, Q, bk, ct⟩ σ H := head _ tail
theorem r_ret (h : te σ H Q) : tRet te ⟨nx, Q, bk, ct⟩ σ H := h
theorem r_drop (h : te σ H fun _ H1 => nx σ H1) : tDrop te ⟨nx, Q, bk, ct⟩ σ H := h
theorem r_ifS (h : t σ H fun c H1 => if c = true then a ⟨nx, Q, bk, ct⟩ σ H1 else b ⟨nx, Q, bk, ct⟩ σ H1) : tIfS t a b ⟨nx, Q, bk, ct⟩ σ H := h
theorem r_asg {g : TG} (h : te σ H fun x H1 => g x σ H1 nx) : tAsg te g ⟨nx, Q, bk, ct⟩ σ H := h
theorem r_name {i : Nat} {v : V} {σ' : L2.St} {q : L2.St → Hp → Prop} (e : σ.set i (some v) = σ') (h : q σ' H) : gName i v σ H q := by
  subst e
  exact h
theorem r_name0 {x0 : Option V} {σ : L2.St} {v : V} {q : L2.St → Hp → Prop} (h : q (some v :: σ) H) : gName 0 v (x0 :: σ) H q := h
theorem r_name1 {x0 x1 : Option V} {σ : L2.St} {v : V} {q : L2.St → Hp → Prop} (h : q (x0 :: some v :: σ) H) : gName 1 v (x0 :: x1 :: σ) H q := h
theorem r_name2 {x0 x1 x2 : Option V} {σ : L2.St} {v : V} {q : L2.St → Hp → Prop} (h : q (x0 :: x1 :: some v :: σ) H) : gName 2 v (x0 :: x1 :: x2 :: σ) H q := h
theorem r_name3 {x0 x1 x2 x3 : Option V} {σ : L2.St} {v : V} {q : L2.St → Hp → Prop} (h : q (x0 :: x1 :: x2 :: some v :: σ) H) : gName 3 v (x0 :: x1 :: x2 :: x3 :: σ) H q := h
theorem r_name4 {x0 x1 x2 x3 x4 : Option V} {σ : L2.St} {v : V} {q : L2.St → Hp → Prop} (h : q (x0 :: x1 :: x2 :: x3 :: some v :: σ) H) : gName 4 v (x0 :: x1 :: x2 :: x3 :: x4 :: σ) H q := h
theorem r_name5 {x0 x1 x2 x3 x4 x5 : Option V} {σ : L2.St} {v : V} {q : L2.St → Hp → Prop} (h : q (x0 :: x1 :: x2 :: x3 :: x4 :: some v :: σ) H) : gName 5 v (x0 :: x1 :: x2 :: x3 :: x4 :: x5 :: σ) H q := h
theorem r_name6 {x0 x1 x2 x3 x4 x5 x6 : Option V} {σ : L2.St} {v : V} {q : L2.St → Hp → Prop} (h : q (x0 :: x1 :: x2 :: x3 :: x4 :: x5 :: some v :: σ) H) : gName 6 v (x0 :: x1 :: x2 :: x3 :: x4 :: x5 :: x6 :: σ) H q := h
theorem r_name7 {x0 x1 x2 x3 x4 x5 x6 x7 : Option V} {σ : L2.St} {v : V} {q : L2.St → Hp → Prop} (h : q (x0 :: x1 :: x2 :: x3 :: x4 :: x5 :: x6 :: some v :: σ) H) : gName 7 v (x0 :: x1 :: x2 :: x3 :: x4 :: x5 :: x6 :: x7 :: σ) H q := h
theorem r_name8 {x0 x1 x2 x3 x4 x5 x6 x7 x8 : Option V} {σ : L2.St} {v : V} {q : L2.St → Hp → Prop} (h : q (x0 :: x1 :: x2 :: x3 :: x4 :: x5 :: x6 :: x7 :: some v :: σ) H) : gName 8 v (x0 :: x1 :: x2 :: x3 :: x4 :: x5 :: x6 :: x7 :: x8 :: σ) H q := h
theorem r_name9 {x0 x1 x2 x3 x4 x5 x6 x7 x8 x9 : Option V} {σ : L2.St} {v : V} {q : L2.St → Hp → Prop} (h : q (x0 :: x1 :: x2 :: x3 :: x4 :: x5 :: x6 :: x7 :: x8 :: some v :: σ) H) : gName 9 v (x0 :: x1 :: x2 :: x3 :: x4 :: x5 :: x6 :: x7 :: x8 :: x9 :: σ) H q := h
theorem r_name10 {x0 x1 x2 x3 x4 x5 x6 x7 x8 x9 x10 : Option V} {σ : L2.St} {v : V} {q : L2.St → Hp → Prop} (h : q (x0 :: x1 :: x2 :: x3 :: x4 :: x5 :: x6 :: x7 :: x8 :: x9 :: some v :: σ) H) : gName 10 v (x0 :: x1 :: x2 :: x3 :: x4 :: x5 :: x6 :: x7 :: x8 :: x9 :: x10 :: σ) H q := h
theorem r_name11 {x0 x1 x2 x3 x4 x5 x6 x7 x8 x9 x10 x11 : Option V} {σ : L2.St} {v : V} {q : L2.St → Hp → Prop} (h : q (x0 :: x1 :: x2 :: x3 :: x4 :: x5 :: x6 :: x7 :: x8 :: x9 :: x10 :: some v :: σ) H) : gName 11 v (x0 :: x1 :: x2 :: x3 :: x4 :: x5 :: x6 :: x7 :: x8 :: x9 :: x10 :: x11 :: σ) H q := h
theorem r_name12 {x0 x1 x2 x3 x4 x5 x6 x7 x8 x9 x10 x11 x12 : Option V} {σ : L2.St} {v : V} {q : L2.St → Hp → Prop} (h : q (x0 :: x1 :: x2 :: x3 :: x4 :: x5 :: x6 :: x7 :: x8 :: x9 :: x10 :: x11 :: some v :: σ) H) : gName 12 v (x0 :: x1 :: x2 :: x3 :: x4 :: x5 :: x6 :: x7 :: x8 :: x9 :: x10 :: x11 :: x12 :: σ) H q := h
theorem r_name13 {x0 x1 x2 x3 x4 x5 x6 x7 x8 x9 x10 x11 x12 x13 : Option V} {σ : L2.St} {v : V} {q : L2.St → Hp → Prop} (h : q (x0 :: x1 :: x2 :: x3 :: x4 :: x5 :: x6 :: x7 :: x8 :: x9 :: x10 :: x11 :: x12 :: some v :: σ) H) : gName 13 v (x0 :: x1 :: x2 :: x3 :: x4 :: x5 :: x6 :: x7 :: x8 :: x9 :: x10 :: x11 :: x12 :: x13 :: σ) H q := h
theorem r_sub {to ti : TE} {ts : TSet} {v : V} {q : L2.St → Hp → Prop} (h : to σ H fun o H1 => ti σ H1 fun i H2 => ts o i v H2 fun H3 => q σ H3) : gSub to ti ts v σ H q := h
theorem r_setL {p : Addr} {xs : List V} {k : Int} {j : Nat} {v : V} {q : Hp → Prop} (h : H p = some (.lst xs)) (e : ixN xs.length k = some j) (s : q (upd H p (.lst (xs.set j v)))) : rSetL (.ref p) (.int k) v H q := ⟨p, xs, k, j, rfl, rfl, h, e, s⟩
theorem r_set0 {p : Addr} {x0 : V} {xs : List V} {v : V} {q : Hp → Prop} (h : H p = some (.lst (x0 :: xs))) (s : q (upd H p (.lst (v :: xs)))) : rSetL (.ref p) (.int 0) v H q := ⟨p, _, 0, 0, rfl, rfl, h, by
  unfold ixN
  rw [if_pos (by decide), if_pos (by simp only [List.length_cons]; omega)]
  rfl, s⟩
theorem r_set0u {p : Addr} {x0 : V} {xs : List V} {v : V} {q : Hp → Prop} (s : q (upd H p (.lst (v :: xs)))) : rSetL (.ref p) (.int 0) v (upd H p (.lst (x0 :: xs))) q := r_set0 upd_same (by
  rw [upd_upd]
  exact s)
theorem r_set1 {p : Addr} {x0 x1 : V} {xs : List V} {v : V} {q : Hp → Prop} (h : H p = some (.lst (x0 :: x1 :: xs))) (s : q (upd H p (.lst (x0 :: v :: xs)))) : rSetL (.ref p) (.int 1) v H q := ⟨p, _, 1, 1, rfl, rfl, h, by
  unfold ixN
  rw [if_pos (by decide), if_pos (by simp only [List.length_cons]; omega)]
  rfl, s⟩
theorem r_set1u {p : Addr} {x0 x1 : V} {xs : List V} {v : V} {q : Hp → Prop} (s : q (upd H p (.lst (x0 :: v :: xs)))) : rSetL (.ref p) (.int 1) v (upd H p (.lst (x0 :: x1 :: xs))) q := r_set1 upd_same (by
  rw [upd_upd]
  exact s)
theorem r_set2 {p : Addr} {x0 x1 x2 : V} {xs : List V} {v : V} {q : Hp → Prop} (h : H p = some (.lst (x0 :: x1 :: x2 :: xs))) (s : q (upd H p (.lst (x0 :: x1 :: v :: xs)))) : rSetL (.ref p) (.int 2) v H q := ⟨p, _, 2, 2, rfl, rfl, h, by
  unfold ixN
  rw [if_pos (by decide), if_pos (by simp only [List.length_cons]; omega)]
  rfl, s⟩
theorem r_set2u {p : Addr} {x0 x1 x2 : V} {xs : List V} {v : V} {q : Hp → Prop} (s : q (upd H p (.lst (x0 :: x1 :: v :: xs)))) : rSetL (.ref p) (.int 2) v (upd H p (.lst (x0 :: x1 :: x2 :: xs))) q := r_set2 upd_same (by
  rw [upd_upd]
  exact s)
theorem r_set3 {p : Addr} {x0 x1 x2 x3 : V} {xs : List V} {v : V} {q : Hp → Prop} (h : H p = some (.lst (x0 :: x1 :: x2 :: x3 :: xs))) (s : q (upd H p (.lst (x0 :: x1 :: x2 :: v :: xs)))) : rSetL (.ref p) (.int 3) v H q := ⟨p, _, 3, 3, rfl, rfl, h, by
  unfold ixN
  rw [if_pos (by decide), if_pos (by simp only [List.length_cons]; omega)]
  rfl, s⟩
theorem r_set3u {p : Addr} {x0 x1 x2 x3 : V} {xs : List V} {v : V} {q : Hp → Prop} (s : q (upd H p (.lst (x0 :: x1 :: x2 :: v :: xs)))) : rSetL (.ref p) (.int 3) v (upd H p (.lst (x0 :: x1 :: x2 :: x3 :: xs))) q := r_set3 upd_same (by
  rw [upd_upd]
  exact s)
theorem r_set4 {p : Addr} {x0 x1 x2 x3 x4 : V} {xs : List V} {v : V} {q : Hp → Prop} (h : H p = some (.lst (x0 :: x1 :: x2 :: x3 :: x4 :: xs))) (s : q (upd H p (.lst (x0 :: x1 :: x2 :: x3 :: v :: xs)))) : rSetL (.ref p) (.int 4) v H q := ⟨p, _, 4, 4, rfl, rfl, h, by
  unfold ixN
  rw [if_pos (by decide), if_pos (by simp only [List.length_cons]; omega)]
  rfl, s⟩
theorem r_set4u {p : Addr} {x0 x1 x2 x3 x4 : V} {xs : List V} {v : V} {q : Hp → Prop} (s : q (upd H p (.lst (x0 :: x1 :: x2 :: x3 :: v :: xs)))) : rSetL (.ref p) (.int 4) v (upd H p (.lst (x0 :: x1 :: x2 :: x3 :: x4 :: xs))) q := r_set4 upd_same (by
  rw [upd_upd]
  exact s)
theorem r_gtup {n : Nat} {g : TGs} {p : Addr} {xs : List V} {q : L2.St → Hp → Prop} (h : SqT K H p xs) (l : xs.length = n) (s : g xs σ H q) : gTup K n g (.ref p) σ H q := ⟨p, xs, rfl, h, l, s⟩
theorem r_gcons {g : TG} {gs : TGs} {v : V} {r : List V} {q : L2.St → Hp → Prop} (h : g v σ H fun σ' H' => gs r σ' H' q) : gCons g gs (v :: r) σ H q := ⟨v, r, rfl, h⟩
theorem r_gnil {q : L2.St → Hp → Prop} (h : q σ H) : gNil [] σ H q := ⟨rfl, h⟩
/-- a test whose answer is open, or known -/
theorem r_ite {p : Prop} [Decidable p] {A B : Prop} (h1 : p → A) (h2 : ¬ p → B) : if decide p = true then A else B := by
  by_cases h : p
  · rw [decide_eq_true h, if_pos rfl]
    exact h1 h
  · rw [decide_eq_false h, if_neg Bool.false_ne_true]
    exact h2 h
theorem r_iteN {p : Prop} [Decidable p] {A B : Prop} (h1 : ¬ p → A) (h2 : p → B) : if (!decide p) = true then A else B := by
  by_cases h : p
  · rw [decide_eq_true h]
    exact iteF (h2 h)
  · rw [decide_eq_false h]
    exact iteT (h1 h)
theorem r_iteB {b : Bool} {A B : Prop} (h1 : b = true → A) (h2 : b = false → B) : if b = true then A else B := by
  cases b with
  | true => exact iteT (h1 rfl)
  | false => exact iteF (h2 rfl)
/-! loops: what is left once the iterated thing is there -/
def ForR (J : It) (g : TG) (tb : TS) (nx : L2.St → Hp → Prop) (Q : VK) (σ : L2.St) (H : Hp) : Prop := ∃ W : Nat → Nat → L2.St → Hp → Prop, (∃ m, W 0 m σ H) ∧ ∀ i m σ H, W i m σ H →
  (J.stop i H ∧ nx σ H) ∨ (J.go i H ∧ ∃ N : L2.St → Hp → Prop, (∀ σ' H', N σ' H' → ∃ m', m' < m ∧ W (i + 1) m' σ' H') ∧ ∀ x H', J.yld i H x H' → g x σ H' fun σ2 H2 => tb ⟨N, Q, nx, N⟩ σ2 H2)
theorem r_for {wi : TI} {g : TG} {tb : TS} (h : wi σ H fun J H1 => ForR J g tb nx Q σ H1) : tFor wi g tb ⟨nx, Q, bk, ct⟩ σ H := h
def Rg1 (R : It → Hp → Prop) (vs : List V) (H : Hp) : Prop := ∃ j : Int, vs = [.int j] ∧ -(2 ^ 62) ≤ j ∧ j < 2 ^ 62 ∧ R (Itr 0 j.toNat) H
def Rg2 (R : It → Hp → Prop) (vs : List V) (H : Hp) : Prop := ∃ i j : Int, vs = [.int i, .int j] ∧ (-(2 ^ 62) ≤ i ∧ i < 2 ^ 62 ∧ -(2 ^ 62) ≤ j ∧ j < 2 ^ 62) ∧ R (Itr i (j - i).toNat) H
theorem r_rng1 {ta : TA} {R : It → Hp → Prop} (h : ta σ H (Rg1 R)) : iRng1 ta σ H R := h
theorem r_rng2 {ta : TA} {R : It → Hp → Prop} (h : ta σ H (Rg2 R)) : iRng2 ta σ H R := h
theorem r_rg1 {j : Int} {R : It → Hp → Prop} (h1 : -4611686018427387904 ≤ j ∧ j < 4611686018427387904) (h : R (Itr 0 j.toNat) H) : Rg1 R [V.int j] H := ⟨j, rfl, h1.1, h1.2, h⟩
theorem r_rg2 {i j : Int} {R : It → Hp → Prop} (h1 : -4611686018427387904 ≤ i ∧ i < 4611686018427387904 ∧ -4611686018427387904 ≤ j ∧ j < 4611686018427387904) (h : R (Itr i (j - i).toNat) H) : Rg2 R [V.int i, V.int j] H := ⟨i, j, rfl, h1, h⟩
def Il (K : PySem.W.Frag) (R : It → Hp → Prop) (x : V) (H : Hp) : Prop := ∃ a, x = .ref a ∧ (∃ xs, SqL K H a xs) ∧ R (Itl K a) H
def Itp (K : PySem.W.Frag) (R : It → Hp → Prop) (x : V) (H : Hp) : Prop := ∃ a, x = .ref a ∧ (∃ xs, SqT K H a xs) ∧ R (Itt K a) H
theorem r_ilist {R : It → Hp → Prop} (h : te σ H (Il K R)) : iList K te σ H R := h
theorem r_itup {R : It → Hp → Prop} (h : te σ H (Itp K R)) : iTup K te σ H R := h
theorem r_il {a : Addr} {xs : List V} {R : It → Hp → Prop} (h : SqL K H a xs) (q : R (Itl K a) H) : Il K R (.ref a) H := ⟨a, rfl, ⟨xs, h⟩, q⟩
theorem r_it {a : Addr} {xs : List V} {R : It → Hp → Prop} (h : SqT K H a xs) (q : R (Itt K a) H) : Itp K R (.ref a) H := ⟨a, rfl, ⟨xs, h⟩, q⟩
theorem forR_range {lo : Int} {n : Nat} {g : TG} {tb : TS} (Pv : Nat → L2.St → Hp → Prop) (h0 : Pv 0 σ H)
    (hs : ∀ (i : Nat) σ H, i < n → Pv i σ H → g (.int (lo + i)) σ H fun σ2 H2 => tb ⟨Pv (i + 1), Q, nx, Pv (i + 1)⟩ σ2 H2) (hd : ∀ σ H, Pv n σ H → nx σ H) : ForR (Itr lo n) g tb nx Q σ H :=
  for_range (D := ⟨nx, Q, nx, nx⟩) Pv h0 hs hd
theorem forR_list {a : Addr} {xs : List V} {g : TG} {tb : TS} (Pv : Nat → L2.St → Hp → Prop) (h0 : Pv 0 σ H) (hl : ∀ i σ H, i ≤ xs.length → Pv i σ H → SqL K H a xs)
    (hs : ∀ (i : Nat) x σ H, xs[i]? = some x → Pv i σ H → g x σ H fun σ2 H2 => tb ⟨Pv (i + 1), Q, nx, Pv (i + 1)⟩ σ2 H2) (hd : ∀ σ H, Pv xs.length σ H → nx σ H) : ForR (Itl K a) g tb nx Q σ H :=
  for_list (D := ⟨nx, Q, nx, nx⟩) Pv h0 hl hs hd
theorem forR_tup {a : Addr} {xs : List V} {g : TG} {tb : TS} (Pv : Nat → L2.St → Hp → Prop) (h0 : Pv 0 σ H) (hl : ∀ i σ H, i ≤ xs.length → Pv i σ H → SqT K H a xs)
    (hs : ∀ (i : Nat) x σ H, xs[i]? = some x → Pv i σ H → g x σ H fun σ2 H2 => tb ⟨Pv (i + 1), Q, nx, Pv (i + 1)⟩ σ2 H2) (hd : ∀ σ H, Pv xs.length σ H → nx σ H) : ForR (Itt K a) g tb nx Q σ H :=
  for_tup (D := ⟨nx, Q, nx, nx⟩) Pv h0 hl hs hd
/-! comprehensions likewise -/
def LcR (J : It) (g : TG) (tt : TT) (te : TE) (vs : List Nat) (σ : L2.St) (D : Addr) (Q : VK) (H1 : Hp) : Prop := ∃ W : Nat → Nat → Hp → Prop, (∃ m, W 0 m (upd H1 D (.lst []))) ∧ ∀ i m H, W i m H →
  (J.stop i H ∧ Q (.ref D) H) ∨ (J.go i H ∧ ∃ Nx : Hp → Prop, (∀ H', Nx H' → ∃ m', m' < m ∧ W (i + 1) m' H') ∧ ∀ x H', J.yld i H x H' → g x (wipe σ vs) H' fun σ2 H2 => wipe σ2 vs = wipe σ vs ∧ tt σ2 H2 fun b H3 =>
    if b = true then te σ2 H3 fun y H4 => ∃ acc, H4 D = some (.lst acc) ∧ acc.length < sizeLine ∧ Nx (upd H4 D (.lst (acc ++ [y]))) else Nx H3)
theorem r_lc {wi : TI} {g : TG} {tt : TT} {vs : List Nat} (h : wi σ H fun J H1 => ∀ D, H1 D = none → LcR J g tt te vs σ D Q H1) : tLc wi g tt te vs σ H Q := h
/-- one turn's end of a comprehension: the item goes to D -/
def LcE (D : Addr) (N : Hp → Prop) (y : V) (H4 : Hp) : Prop := ∃ acc, H4 D = some (.lst acc) ∧ acc.length < sizeLine ∧ N (upd H4 D (.lst (acc ++ [y])))
theorem lcR_range {lo : Int} {n : Nat} {g : TG} {tt : TT} {vs : List Nat} {D : Addr} {σw : L2.St} (Pv : Nat → Hp → Prop) (ew : wipe σ vs = σw) (h0 : Pv 0 (upd H D (.lst [])))
    (hs : ∀ (i : Nat) H, i < n → Pv i H → g (.int (lo + i)) σw H fun σ2 H2 => wipe σ2 vs = σw ∧ tt σ2 H2 fun b H3 => if b = true then te σ2 H3 (LcE D (Pv (i + 1))) else Pv (i + 1) H3) (hd : ∀ H, Pv n H → Q (.ref D) H) :
    LcR (Itr lo n) g tt te vs σ D Q H := by
  subst ew
  exact lc_range (Qd := Q (.ref D)) Pv h0 hs hd
theorem lcR_list {a : Addr} {xs : List V} {g : TG} {tt : TT} {vs : List Nat} {D : Addr} {σw : L2.St} (Pv : Nat → Hp → Prop) (ew : wipe σ vs = σw) (h0 : Pv 0 (upd H D (.lst []))) (hl : ∀ i H, i ≤ xs.length → Pv i H → SqL K H a xs)
    (hs : ∀ (i : Nat) x H, xs[i]? = some x → Pv i H → g x σw H fun σ2 H2 => wipe σ2 vs = σw ∧ tt σ2 H2 fun b H3 => if b = true then te σ2 H3 (LcE D (Pv (i + 1))) else Pv (i + 1) H3) (hd : ∀ H, Pv xs.length H → Q (.ref D) H) :
    LcR (Itl K a) g tt te vs σ D Q H := by
  subst ew
  exact lc_list (Qd := Q (.ref D)) Pv h0 hl hs hd
theorem lcR_tup {a : Addr} {xs : List V} {g : TG} {tt : TT} {vs : List Nat} {D : Addr} {σw : L2.St} (Pv : Nat → Hp → Prop) (ew : wipe σ vs = σw) (h0 : Pv 0 (upd H D (.lst []))) (hl : ∀ i H, i ≤ xs.length → Pv i H → SqT K H a xs)
    (hs : ∀ (i : Nat) x H, xs[i]? = some x → Pv i H → g x σw H fun σ2 H2 => wipe σ2 vs = σw ∧ tt σ2 H2 fun b H3 => if b = true then te σ2 H3 (LcE D (Pv (i + 1))) else Pv (i + 1) H3) (hd : ∀ H, Pv xs.length H → Q (.ref D) H) :
    LcR (Itt K a) g tt te vs σ D Q H := by
  subst ew
  exact lc_tup (Qd := Q (.ref D)) Pv h0 hl hs hd
theorem r_yes {Q : Bool → Hp → Prop} (q : Q true H) : tYes σ H Q := q
theorem r_lce {D : Addr} {N : Hp → Prop} {y : V} {acc : List V} (h : H D = some (.lst acc)) (l : acc.length < sizeLine) (q : N (upd H D (.lst (acc ++ [y])))) : LcE D N y H := ⟨acc, h, l, q⟩
theorem r_int1 {i : Int} (q : Q (.int i) H) : rInt1 [.int i] H Q := .inl ⟨i, rfl, q⟩
theorem r_int1b {b : Bool} (q : Q (.int (if b then 1 else 0)) H) : rInt1 [.bl b] H Q := .inr ⟨b, rfl, q⟩
theorem r_min2 {i j : Int} (q : Q (.int (min i j)) H) : rMin2 [.int i, .int j] H Q := ⟨i, j, rfl, by
  rw [show (if j < i then j else i) = min i j by split <;> omega]
  exact q⟩
theorem r_max2 {i j : Int} (q : Q (.int (max i j)) H) : rMax2 [.int i, .int j] H Q := ⟨i, j, rfl, by
  rw [show (if j > i then j else i) = max i j by split <;> omega]
  exact q⟩
theorem r_lenL {p : Addr} {ys : List V} (h : SqL K H p ys) (q : Q (.int ys.length) H) : rLen K [.ref p] H Q := ⟨p, ys, rfl, .inl h, q⟩
theorem r_lenT {p : Addr} {ys : List V} (h : SqT K H p ys) (q : Q (.int ys.length) H) : rLen K [.ref p] H Q := ⟨p, ys, rfl, .inr h, q⟩
theorem r_listL {p : Addr} {ys : List V} (h : SqL K H p ys) (q : ∀ l, H l = none → Q (.ref l) (upd H l (.lst ys))) : rListOf K [.ref p] H Q := ⟨p, ys, rfl, .inl h, q⟩
theorem r_listT {p : Addr} {ys : List V} (h : SqT K H p ys) (q : ∀ l, H l = none → Q (.ref l) (upd H l (.lst ys))) : rListOf K [.ref p] H Q := ⟨p, ys, rfl, .inr h, q⟩
theorem r_tupL {p : Addr} {ys : List V} (h : SqL K H p ys) (q : ∀ l, H l = none → Q (.ref l) (upd H l (.tup ys))) : rTupOf K [.ref p] H Q := ⟨p, ys, rfl, .inl ⟨h, q⟩⟩
theorem r_tupT {p : Addr} {ys : List V} (h : SqT K H p ys) (q : Q (.ref p) H) : rTupOf K [.ref p] H Q := ⟨p, ys, rfl, .inr ⟨h, q⟩⟩
theorem r_at {N : List PySem.Str} {vs : List V} {t : TS} {D : Ends} (e : L2.start N vs = σ) (h : t D σ H) : t D (L2.start N vs) H := by
  rw [e]
  exact h
/-! methods of lists -/
theorem r_appU {l : Addr} {xs : List V} {y : V} (s : xs.length < sizeLine) (q : Q .non (upd H l (.lst (xs ++ [y])))) : rAppend (.ref l) [y] (upd H l (.lst xs)) Q := ⟨l, xs, y, rfl, rfl, upd_same, s, by
  rw [upd_upd]
  exact q⟩
theorem r_appT {l : Addr} {xs : List V} {y : V} (h : H l = some (.lst xs)) (s : xs.length < sizeLine) (q : Q .non (upd H l (.lst (xs ++ [y])))) : rAppend (.ref l) [y] H Q := ⟨l, xs, y, rfl, rfl, h, s, q⟩
end
theorem at_int {ns : List Int} {p : Int} (h0 : 0 ≤ p) (h1 : p < ns.length) : ∃ c ∈ ns, atI (ns.map V.int) p = some (.int c) := by
  have hlt : p.toNat < ns.length := by omega
  refine ⟨ns[p.toNat], List.getElem_mem hlt, at_of (j := p.toNat) (by omega) ?_⟩
  rw [List.getElem?_map, List.getElem?_eq_getElem hlt]
  rfl
/-- 0 .. n - 1 -/
def rgI (n : Int) : List Int := (List.range n.toNat).map fun (i : Nat) => (i : Int)
theorem rgI_len (n : Int) : (rgI n).length = n.toNat := by
  unfold rgI
  rw [List.length_map, List.length_range]
theorem mem_rgI {n z : Int} : z ∈ rgI n ↔ 0 ≤ z ∧ z < n := by
  unfold rgI
  rw [List.mem_map]
  constructor
  · rintro ⟨i, hi, rfl⟩
    rw [List.mem_range] at hi
    omega
  · rintro ⟨h1, h2⟩
    exact ⟨z.toNat, List.mem_range.mpr (by omega), by omega⟩
theorem rgI_nodup (n : Int) : (rgI n).Nodup := by
  unfold rgI
  exact List.pairwise_map.mpr (List.nodup_range.imp fun {i j} h e => h (by omega))
theorem rgV_rgI (n : Int) : rgV 0 n = (rgI n).map V.int := by
  unfold rgV rgI
  rw [List.map_map, Int.sub_zero]
  refine List.map_congr_left fun i _ => ?_
  show V.int (0 + (i : Int)) = V.int (i : Int)
  rw [Int.zero_add]
theorem r_lRg {H : Hp} {Q : VK} {n : Int} (h0 : 0 ≤ n) (h1 : n ≤ 10000) (q : ∀ p, H p = none → Q (.ref p) (upd H p (.lst ((rgI n).map V.int)))) : LRg Q 0 n H := ⟨.of_le (by omega) (by omega) (by omega) h0, fun p hp => by
  rw [rgV_rgI]
  exact q p hp⟩
theorem small_len {n : Nat} (h : n ≤ 100000) : n ≤ sizeLine := Nat.le_trans h (by decide)
theorem small_lt {n : Nat} (h : n < 100000) : n < sizeLine := Nat.lt_of_lt_of_le h (by decide)

set_option Elab.async false
set_option linter.all false
open PySem PySem.Spec PyProof.Rows L2
/-! ## the mathematics of pairs -/
def rowP (u lo : Int) (k : Nat) : List (Int × Int) := (List.range k).map fun (j : Nat) => (u, lo + (j : Int))
theorem rowP_succ (u lo : Int) (k : Nat) : rowP u lo (k + 1) = rowP u lo k ++ [(u, lo + (k : Int))] := by
  unfold rowP
  rw [List.range_succ, List.map_append]
  rfl
theorem mem_rowP {u lo : Int} {k : Nat} {p : Int × Int} : p ∈ rowP u lo k ↔ p.1 = u ∧ lo ≤ p.2 ∧ p.2 < lo + k := by
  unfold rowP
  rw [List.mem_map]
  constructor
  · rintro ⟨j, hj, rfl⟩
    rw [List.mem_range] at hj
    exact ⟨rfl, by show lo ≤ lo + (j : Int); omega, by show lo + (j : Int) < lo + k; omega⟩
  · obtain ⟨a, b⟩ := p
    rintro ⟨h1, h2, h3⟩
    refine ⟨(b - lo).toNat, List.mem_range.mpr (by simp only at h2 h3; omega), ?_⟩
    simp only at h1 h2 h3 ⊢
    rw [h1, show lo + ((b - lo).toNat : Int) = b by omega]
theorem rowP_asc (u lo : Int) : ∀ k, (rowP u lo k).Pairwise ltP
  | 0 => List.Pairwise.nil
  | k + 1 => by
    rw [rowP_succ]
    refine List.pairwise_append.mpr ⟨rowP_asc u lo k, List.pairwise_singleton _ _, fun p hp q hq => ?_⟩
    obtain ⟨h1, h2, h3⟩ := mem_rowP.mp hp
    rw [List.mem_singleton.mp hq]
    exact .inr ⟨h1, h3⟩
theorem rowP_len (u lo : Int) (k : Nat) : (rowP u lo k).length = k := by
  unfold rowP
  rw [List.length_map, List.length_range]
def preP (n : Nat) : Nat → List (Int × Int)
  | 0 => []
  | i + 1 => preP n i ++ rowP (i : Int) ((i : Int) + 1) (n - 1 - i)
def allP (n : Nat) : List (Int × Int) := preP n n
theorem mem_preP {n : Nat} {p : Int × Int} : ∀ {i : Nat}, i ≤ n → (p ∈ preP n i ↔ 0 ≤ p.1 ∧ p.1 < i ∧ p.1 < p.2 ∧ p.2 < n)
  | 0, _ => by
    constructor
    · intro h
      cases h
    · rintro ⟨h1, h2, _⟩
      have h2 : p.1 < 0 := h2
      omega
  | i + 1, hi => by
    show p ∈ preP n i ++ rowP (i : Int) ((i : Int) + 1) (n - 1 - i) ↔ _
    rw [List.mem_append, mem_preP (by omega : i ≤ n), mem_rowP]
    constructor
    · rintro (⟨h1, h2, h3, h4⟩ | ⟨h1, h2, h3⟩)
      · exact ⟨h1, by omega, h3, h4⟩
      · exact ⟨by omega, by omega, by omega, by omega⟩
    · rintro ⟨h1, h2, h3, h4⟩
      by_cases e : p.1 = (i : Int)
      · exact .inr ⟨e, by omega, by omega⟩
      · exact .inl ⟨h1, by omega, h3, h4⟩
theorem mem_allP {n : Nat} {p : Int × Int} : p ∈ allP n ↔ 0 ≤ p.1 ∧ p.1 < p.2 ∧ p.2 < n := by
  unfold allP
  rw [mem_preP (Nat.le_refl n)]
  omega
theorem preP_asc {n : Nat} : ∀ {i : Nat}, i ≤ n → (preP n i).Pairwise ltP
  | 0, _ => .nil
  | i + 1, hi => by
    show (preP n i ++ rowP (i : Int) ((i : Int) + 1) (n - 1 - i)).Pairwise ltP
    refine List.pairwise_append.mpr ⟨preP_asc (by omega), rowP_asc _ _ _, fun p hp q hq => ?_⟩
    have h1 := (mem_preP (by omega : i ≤ n)).mp hp
    have h2 := mem_rowP.mp hq
    exact .inl (by omega)
theorem allP_asc (n : Nat) : (allP n).Pairwise ltP := preP_asc (Nat.le_refl n)
theorem preP_len {n : Nat} : ∀ {i : Nat}, (preP n i).length ≤ i * n
  | 0 => Nat.zero_le _
  | i + 1 => by
    show (preP n i ++ rowP (i : Int) ((i : Int) + 1) (n - 1 - i)).length ≤ _
    rw [List.length_append, rowP_len, Nat.succ_mul]
    have := preP_len (n := n) (i := i)
    omega
theorem ltP_irrefl (p : Int × Int) : ¬ ltP p p := by
  unfold ltP
  omega
theorem ltP_trans {p q r : Int × Int} (h1 : ltP p q) (h2 : ltP q r) : ltP p r := by
  unfold ltP at *
  omega
theorem ltP_of_le_ne {p q : Int × Int} (h : leP p q) (n : p ≠ q) : ltP p q := by
  obtain ⟨a, b⟩ := p
  obtain ⟨c, d⟩ := q
  unfold leP at h
  unfold ltP
  simp only at *
  by_cases h2 : a = c
  · by_cases h3 : b = d
    · exact absurd (by rw [h2, h3]) n
    · omega
  · omega
theorem asc_nodup {ps : List (Int × Int)} (h : ps.Pairwise ltP) : ps.Nodup := by
  refine List.Pairwise.imp (R := ltP) (fun {p q} h => ?_) h
  intro e
  rw [e] at h
  exact ltP_irrefl q h
/-- two ascending lists of the same members are one -/
theorem asc_ext : ∀ {ps qs : List (Int × Int)}, ps.Pairwise ltP → qs.Pairwise ltP → (∀ p, p ∈ ps ↔ p ∈ qs) → ps = qs
  | [], [], _, _, _ => rfl
  | [], q :: qs, _, _, h => absurd ((h q).mpr List.mem_cons_self) (by simp)
  | p :: ps, [], _, _, h => absurd ((h p).mp List.mem_cons_self) (by simp)
  | p :: ps, q :: qs, h1, h2, h => by
    obtain ⟨a1, a2⟩ := List.pairwise_cons.mp h1
    obtain ⟨b1, b2⟩ := List.pairwise_cons.mp h2
    have e : p = q := by
      rcases List.mem_cons.mp ((h p).mp List.mem_cons_self) with e | e
      · exact e
      · rcases List.mem_cons.mp ((h q).mpr List.mem_cons_self) with e2 | e2
        · exact e2.symm
        · exact absurd (ltP_trans (a1 q e2) (b1 p e)) (ltP_irrefl p)
    subst e
    rw [asc_ext a2 b2 fun r => ?_]
    constructor
    · intro hr
      rcases List.mem_cons.mp ((h r).mp (List.mem_cons_of_mem _ hr)) with e | e
      · rw [e] at hr
        exact absurd (a1 p hr) (ltP_irrefl p)
      · exact e
    · intro hr
      rcases List.mem_cons.mp ((h r).mpr (List.mem_cons_of_mem _ hr)) with e | e
      · rw [e] at hr
        exact absurd (b1 p hr) (ltP_irrefl p)
      · exact e
theorem nodup_le {α : Type} [DecidableEq α] : ∀ (l m : List α), l.Nodup → (∀ x ∈ l, x ∈ m) → l.length ≤ m.length
  | [], _, _, _ => Nat.zero_le _
  | x :: l, m, hn, hs => by
    obtain ⟨h1, h2⟩ := List.nodup_cons.mp hn
    have hx : x ∈ m := hs x List.mem_cons_self
    have ih := nodup_le l (m.erase x) h2 fun y hy => by
      have hne : y ≠ x := by
        intro e
        rw [e] at hy
        exact h1 hy
      exact (List.mem_erase_of_ne hne).2 (hs y (List.mem_cons_of_mem _ hy))
    have e := List.length_erase_of_mem hx
    have p := List.length_pos_of_mem hx
    simp only [List.length_cons]
    omega
/-- what the walk over the sorted rows keeps: ascending, the same members, the same last one -/
structure Ded (qs fs : List (Int × Int)) : Prop where
  asc : fs.Pairwise ltP
  mem : ∀ p, p ∈ fs ↔ p ∈ qs
  last : fs.getLast? = qs.getLast?
theorem Ded.nil : Ded [] [] := ⟨.nil, fun _ => Iff.rfl, rfl⟩
theorem last_snoc {α : Type} (l : List α) (x : α) : (l ++ [x]).getLast? = some x := by simp
/-- the last row again -/
theorem Ded.same {qs fs : List (Int × Int)} {q : Int × Int} (D : Ded qs fs) (h : fs.getLast? = some q) : Ded (qs ++ [q]) fs := by
  refine ⟨D.asc, fun p => ?_, by rw [last_snoc, h]⟩
  rw [List.mem_append, List.mem_singleton, D.mem]
  constructor
  · exact .inl
  · rintro (z | z)
    · exact z
    · rw [z, ← D.mem]
      exact List.mem_of_getLast? h
/-- another one -/
theorem Ded.more {qs fs : List (Int × Int)} {q : Int × Int} (D : Ded qs fs) (hl : (qs ++ [q]).Pairwise leP) (h : fs.getLast? ≠ some q) : Ded (qs ++ [q]) (fs ++ [q]) := by
  refine ⟨?_, fun p => ?_, by rw [last_snoc, last_snoc]⟩
  · refine List.pairwise_append.mpr ⟨D.asc, List.pairwise_singleton _ _, fun p hp r hr => ?_⟩
    rw [List.mem_singleton.mp hr]
    obtain ⟨l1, _, l3⟩ := List.pairwise_append.mp hl
    have hle : ∀ z ∈ qs, leP z q := fun z hz => l3 z hz q (List.mem_singleton.mpr rfl)
    -- fs is not empty; its last one is not q
    obtain ⟨z, hz⟩ : ∃ z, fs.getLast? = some z := by
      cases e : fs.getLast? with
      | some z => exact ⟨z, rfl⟩
      | none =>
        rw [List.getLast?_eq_none_iff] at e
        rw [e] at hp
        cases hp
    have zq : ltP z q := ltP_of_le_ne (hle z ((D.mem z).mp (List.mem_of_getLast? hz))) fun e => h (by rw [hz, e])
    obtain ⟨pre, e⟩ : ∃ pre, fs = pre ++ [z] := by
      obtain ⟨hne, e⟩ := List.getLast?_eq_some_iff.mp hz
      exact ⟨_, e⟩
    rw [e] at hp
    rcases List.mem_append.mp hp with h1 | h1
    · have a := D.asc
      rw [e] at a
      exact ltP_trans ((List.pairwise_append.mp a).2.2 p h1 z (List.mem_singleton.mpr rfl)) zq
    · rw [List.mem_singleton.mp h1]
      exact zq
  · rw [List.mem_append, List.mem_append, D.mem]
theorem sz1 {a : V} : [a].length ≤ sizeLine := by show 1 ≤ sizeLine; decide
theorem sz2 {a b : V} : [a, b].length ≤ sizeLine := by show 2 ≤ sizeLine; decide
theorem sz3 {a b c : V} : [a, b, c].length ≤ sizeLine := by show 3 ≤ sizeLine; decide
theorem sz4 {a b c d : V} : [a, b, c, d].length ≤ sizeLine := by show 4 ≤ sizeLine; decide
theorem sz5 {a b c d e : V} : [a, b, c, d, e].length ≤ sizeLine := by show 5 ≤ sizeLine; decide
theorem at_last {zs : List V} {z : V} (h : zs.getLast? = some z) : atI zs (-1) = some z := by
  obtain ⟨pre, e⟩ := List.getLast?_eq_some_iff.mp h
  rw [e]
  exact atI_last _ _
theorem pd_last {α β : Type} {F : α → β → Prop} {xs : List α} {ps : List β} {p : β} (h : Paired F xs ps) (hp : ps.getLast? = some p) : ∃ x, xs.getLast? = some x ∧ F x p := by
  rw [List.getLast?_eq_getElem?] at hp
  obtain ⟨x, hx, f⟩ := pd_get2 h hp
  refine ⟨x, ?_, f⟩
  rw [List.getLast?_eq_getElem?, h.length]
  exact hx
section
variable {K : PySem.W.Frag} {H : Hp} {Q : VK}
theorem r_eqNil {f e : Addr} {xs : List V} {ps : List (Int × Int)} (h : H f = some (.lst xs)) (he : H e = some (.lst [])) (hp : Prs H xs ps) (q : Q (.bl (decide (ps = []))) H) : rEqD K (.ref f) (.ref e) H Q := by
  refine ⟨.list (ps.map prD2), .list [], .lst (.inl (.inl h)) hp.dps, .lst (.inl (.inl he)) .nil, prD2s_shL ps, prD2s_shL [], ?_⟩
  cases ps with
  | nil => exact q
  | cons p ps => exact q
theorem r_neP {x y : V} {p r : Int × Int} (hx : IsP H x p) (hy : IsP H y r) (q : Q (.bl (!decide (p = r))) H) : rNeD K x y H Q :=
  ⟨prD2 p, prD2 r, hx.dp, hy.dp, prD2_shaped p, prD2_shaped r, by rw [prD2_eqv]; exact q⟩
end
/-- a pair with its less end first -/
def nrm (p : Int × Int) : Int × Int := (min p.1 p.2, max p.1 p.2)
/-- a graph: the number of vertices, the ascending edges -/
structure GoodG (n : Int) (ps : List (Int × Int)) : Prop where
  one : 1 ≤ n
  asc : ps.Pairwise ltP
  inn : ∀ p ∈ ps, 0 ≤ p.1 ∧ p.1 < p.2 ∧ p.2 < n

set_option Elab.async false
set_option linter.all false
set_option maxRecDepth 100000
set_option maxHeartbeats 4000000
open PySem PySem.Spec PyProof.Rows L2
/-! # sets of tuples that a comprehension lays -/
section
variable {X : Cx}
/-- D takes the tuple y in -/
def AdT (K : PySem.W.Frag) (P : Program) (w : World) (D : Addr) (N : Hp → Prop) : V → Hp → Prop := fun y H => ∃ (b : Addr) (k : List Int) (L : List (Addr × List Int)), y = .ref b ∧ SqT K H b (k.map V.int) ∧ H D = some (SetTO P w D L) ∧
  (∀ p ∈ L, SqT K H p.1 (p.2.map V.int)) ∧ L.length + 1 < 64 ∧ ∀ L', (k ∈ L.map (·.2) → L' = L) → (k ∉ L.map (·.2) → L'.Perm ((b, k) :: L)) → N (upd H D (SetTO P w D L'))
theorem addT_ok {pins : List (Addr × Obj)} {σ : L2.St} {H : Hp} {s : Shared} {E : Value → Shared → Prop} {D : Addr} {N : Hp → Prop} {y : V} {u : Value} {Q : Value → Shared → Prop} (hu : X.A.units + 64 < cLine) (I : Inv X pins σ H s) (r : RelV y u)
    (h : AdT X.K X.prog X.w D N y H) (q : ∀ s' H', Inv X pins σ H' s' → N H' → Q .none s') : wpAny (model X.prog X.w) X.A (call (.builtin "set.add") [.ref D, u]) Q E s := by
  obtain ⟨b, k, L, rfl, hb, hD, hL, few, n⟩ := h
  cases r
  have R0 : SetT0 X.prog X.w s.heap D L := (I.hok D _ hD).1
  obtain ⟨es, ep, t, R⟩ := R0.full fun p hp => I.isT (hL p hp)
  have hx := I.isT hb
  have ty : s.TypeIs (.ref D) "set" := by
    obtain ⟨o, ho, hex, _⟩ := R.ob
    exact ⟨o, ho, hex.1⟩
  refine wpAny_call_entry F.slot_set_add ty F.entry_set_add ?_ (F.args_set_add_2 _ _)
  unfold Builtin.«set.add» Builtin.Frozenset.oneOther Builtin.Frozenset.addrOf setAdd
  simp only [List.isEmpty_nil, bind_assoc]
  refine (wpAny_bind (wpAny_pure ?_)); (try dsimp only)
  refine (wpAny_bind (wpAny_pure ?_)); (try dsimp only)
  refine (wpAny_bind ?_); refine (wpAny_holding ?_)
  refine (wpAny_bind (wpAny_pyHash_tuple (by rw [Around.in1_units]; omega) hx ?_))
  refine add_at (s := { s with toks := s.toks + (k.length + 1) }) R hx (by rw [Around.in1_units]; omega) few fun _ h' L' es' ep' t' sb R' same more => ?_
  show wpAny _ _ (ret Value.none) _ _ _
  have he : ∃ o, h'.get? D = some o := by
    obtain ⟨o, ho, _⟩ := R'.ob
    exact ⟨o, ho⟩
  exact wpAny_pure ⟨_, rfl, q _ _ (I.write (e := D) (t' := s.toks + (k.length + 1)) (by rw [hD]; trivial) (.inl rfl) (fun c o hc ho => (sb.2 c hc).trans ho) he (setTO_new R'.t0)) (n L' same more)⟩
/-- the set's own reading: what is met, turn by turn -/
def ScR (K : PySem.W.Frag) (P : Program) (w : World) (J : It) (g : TG) (tt : TT) (te : TE) (vs : List Nat) (σ : L2.St) (D : Addr) (Q : VK) (H1 : Hp) : Prop := ∃ W : Nat → Nat → Hp → Prop, (∃ m0, W 0 m0 (upd H1 D (SetTO P w D []))) ∧ ∀ i m H, W i m H →
  (J.stop i H ∧ Q (.ref D) H) ∨ (J.go i H ∧ ∃ Nx : Hp → Prop, (∀ H', Nx H' → ∃ m', m' < m ∧ W (i + 1) m' H') ∧ ∀ x H', J.yld i H x H' → g x (wipe σ vs) H' fun σ2 H2 => wipe σ2 vs = wipe σ vs ∧ tt σ2 H2 fun b H3 => if b = true then te σ2 H3 (AdT K P w D Nx) else Nx H3)
def tST (K : PySem.W.Frag) (P : Program) (w : World) (wi : TI) (g : TG) (tt : TT) (te : TE) (vs : List Nat) : TE := fun σ H Q => wi σ H fun J H1 => ∀ D, H1 D = none → ScR K P w J g tt te vs σ D Q H1
theorem freshT {H : Hp} {h : Heap} {D : Addr} {P : Program} {w : World} (e : h.objs.size = D) : ObjOk P w H (h.push { cls := .type "set", dict := none, data := .set #[] 0 (.fresh 0 0 (!w.params.followText "set-order")) }) D (SetTO P w D []) := by
  subst e
  exact setTO_new (setTR_fresh (Heap.get?_push_size _ rfl)).t0
variable {elt tg iter : Expr} {ifs : List Expr} {scope : Scope} {own : List (PySem.Str × Nat)} {pos : Pos} {wi : TI} {g : TG} {tt : TT} {te : TE}
theorem pe_setT (hu : X.A.units + 64 < cLine) (hc : X.calm = true) (hN : X.N.Nodup) (hi : PI X tg iter wi) (ok : BlkOk X.N X.env.scope scope own)
    (hg : ∀ (s0 : Shared) (H0 : Hp) (C0 : Addr) (l0 : List (PySem.Str × Addr)) (fp : List Addr), PG (X.blk s0 H0 scope (compEnvC scope l0 C0 X.env) fp) tg g)
    (ht : ∀ (s0 : Shared) (H0 : Hp) (C0 : Addr) (l0 : List (PySem.Str × Addr)) (fp : List Addr), PTs (X.blk s0 H0 scope (compEnvC scope l0 C0 X.env) fp) ifs tt)
    (he : ∀ (s0 : Shared) (H0 : Hp) (C0 : Addr) (l0 : List (PySem.Str × Addr)) (fp : List Addr), PE (X.blk s0 H0 scope (compEnvC scope l0 C0 X.env) fp) elt te)
    (hs : ∀ x, foldedSetIterable iter X.env x = pure x := by intro _; rfl) :
    PE X (.SetComp elt [⟨tg, iter, ifs, 0⟩] scope pos) (tST X.K X.prog X.w wi g tt te (own.map (·.2))) := by
  refine ⟨fun pins s σ H Q I h => ?_⟩
  rw [PpSet.eval_SetComp]
  have hfr : ∀ y ∈ scope.names, y.2 = .free → ∃ c, X.env.cells.lookup y.1 = some c := fun y hy e => (ok.free y hy e).elim (fun k => I.ok.has _ (.inl k)) (fun k => I.ok.has _ (.inr k))
  refine wpAny_comprehension_free (use := none) rfl hs (closure_ok hfr) ok.kind (fun y hy e => by rw [ok.uniq y hy, e]) (thn (hi.run pins s σ H _ I h) fun xv s1 hx => thn hx fun itv s2 h2 => ?_)
  obtain ⟨it, fp, tn, J, H2, e2, I2, T, st2, f2, q⟩ := h2
  subst e2
  refine PpSet.newSet_ok (newEnv_comp ?_)
  generalize hD : s2.heap.objs.size = D
  have dn : H2 D = none := I2.hok.fresh (Nat.le_of_eq hD)
  obtain ⟨W, ⟨m0, w0⟩, turn⟩ := q D dn
  let ob : Obj := { cls := .type "set", dict := none, data := .set #[] 0 (.fresh 0 0 (!X.w.params.followText "set-order")) }
  show codeAny _ _ _ _ ({ ({ s2 with heap := s2.heap.push ob } : Shared) with heap := _ } : Shared)
  generalize es3 : ({ s2 with heap := s2.heap.push ob } : Shared) = s3
  have hp3 : s3.heap = s2.heap.push ob := by rw [← es3]
  let H3 : Hp := upd H2 D (SetTO X.prog X.w D [])
  have J3 : Inv X pins σ H3 s3 := by
    rw [← es3]
    exact I2.laid (t' := s2.toks) (fun b o e => Heap.get?_push_of_some _ e) (Nat.le_of_eq hD) (freshT hD)
  have lt : ∀ b ∈ fp, b < s2.heap.objs.size := fun b hb => by
    obtain ⟨o, e, _⟩ := T.obj _ _ st2 b hb
    exact Heap.lt_size e
  have F3 : ∀ b ∈ fp, FpOk X pins H3 b ∧ b < s3.heap.objs.size := fun b hb => by
    have l1 := lt b hb
    refine ⟨⟨?_, (f2 b hb).2⟩, by rw [hp3, Heap.size_push]; exact Nat.lt_succ_of_lt l1⟩
    show upd H2 D _ b = none
    rw [upd_ne (Nat.ne_of_lt (hD ▸ l1))]
    exact (f2 b hb).1
  have st3 : tn 0 s3.heap := T.keep _ _ _ st2 fun b _ o e => by rw [hp3]; exact Heap.get?_push_of_some _ e
  have J4 := block_start J3 ok hN F3
  have pg := hg s3 H3 s3.heap.objs.size (cellsFrom (s3.heap.objs.size + 1) scope.names (cloFrom X.env.cells scope.names [])) fp
  have pt := ht s3 H3 s3.heap.objs.size (cellsFrom (s3.heap.objs.size + 1) scope.names (cloFrom X.env.cells scope.names [])) fp
  have pe := he s3 H3 s3.heap.objs.size (cellsFrom (s3.heap.objs.size + 1) scope.names (cloFrom X.env.cells scope.names [])) fp
  show codeAny _ _ (.compStart (.SetComp elt [⟨tg, iter, ifs, 0⟩] scope pos) 0 (.ref it) (.ref D) (compEnvC scope (cellsFrom (s3.heap.objs.size + 1) scope.names (cloFrom X.env.cells scope.names [])) s3.heap.objs.size X.env)) _ { s3 with heap := pushCells (s3.heap.push { cls := .type "dict", data := .dict #[] }) scope.names }
  generalize ece : compEnvC scope (cellsFrom (s3.heap.objs.size + 1) scope.names (cloFrom X.env.cells scope.names [])) s3.heap.objs.size X.env = ce at J4 pg pt pe ⊢
  have ceL : ce.locals = s3.heap.objs.size := by rw [← ece]; rfl
  generalize es4 : ({ s3 with heap := pushCells (s3.heap.push { cls := .type "dict", data := .dict #[] }) scope.names } : Shared) = s4 at J4 ⊢
  have st4 : tn 0 s4.heap := T.keep _ _ _ st3 fun b _ o e => by rw [← es4]; exact pushCells_keeps _ _ _ _ (Heap.get?_push_of_some _ e)
  let Y : Cx := X.blk s3 H3 scope ce fp
  have fpOf : ∀ {σ' : L2.St} {H' : Hp} {s' : Shared}, Inv Y [] σ' H' s' → (∀ b ∈ fp, H' b = none) → ∀ b ∈ fp, FpOk Y [] H' b := fun {σ' H' s'} I' hn b hb =>
    ⟨hn b hb, (I'.ok.exf b hb).1, I'.ok.exfs b hb, .inl hb, fun x c e => (I'.ok.exf b hb).2 x c e, fun p hp => absurd (show p ∈ ([] : List (Addr × Obj)) ++ [] from hp) (by simp)⟩
  refine (fun loop => PpSet.codeAny_compStart_set loop (T.self X.A 0 _ _ _ st4 loop)) ?_
  refine PpSet.compLoopS_any (fun n s' => ∃ i H', Inv Y [] (wipe σ (own.map (·.2))) H' s' ∧ tn i s'.heap ∧ (∀ b ∈ fp, H' b = none) ∧ W i n H') ?_ m0 ⟨0, H3, J4, st4, fun b hb => (F3 b hb).1.1, w0⟩
  rintro n s5 ⟨i, H5, J5, st5, n5, w5⟩
  rcases turn i n H5 w5 with ⟨stop, qq⟩ | ⟨go, Nx, hNx, step⟩
  · -- the end
    refine thnF (T.done Y rfl rfl rfl hc i [] s5 _ H5 (fun _ _ => False) J5 (fpOf J5 n5) st5 stop) fun r s6 ⟨hr, J6⟩ => ?_
    subst hr
    have J7 : Inv X pins σ H5 s6 := J3.call' (ch := fp) J6.os J6.base J6.hok J6.bare fun b hb => ⟨(F3 b hb).1.2.2.2.1, (F3 b hb).1.2.1, (F3 b hb).1.2.2.2.2.1, (F3 b hb).1.2.2.2.2.2⟩
    have nC : H5 s3.heap.objs.size = none := ceL ▸ (show H5 ce.locals = none from J6.free)
    obtain ⟨mm, hn, _⟩ := J6.loc
    refine ⟨mm, ceL ▸ (show s6.heap.Ns ce.locals mm from hn), fun h'' sb => ?_⟩
    obtain ⟨f0, f1, f2, f3, f4, f5⟩ := J3.fpOk (Nat.le_refl _) nC
    exact ⟨.ref D, H5, J7.turned (t' := s6.toks) (fun b o hb e => (sb.2 b hb).trans e) f0 f1 f3 f4 f5, rfl, qq⟩
  · -- a turn
    refine thnF (T.item Y rfl rfl rfl hc i [] s5 _ H5 (fun _ _ => False) J5 (fpOf J5 n5) st5 go) fun r s6 ⟨u, hr, h6⟩ => ?_
    subst hr
    refine thnF h6 fun _ s7 ⟨x, H7, J7, r7, y7, st7, n7⟩ => ?_
    have J8 := J7.pinned (fpOf J7 n7) (T.obj _ _ st7)
    refine thnF (pg.run _ s7 _ H7 x u _ J8 r7 (step x H7 y7)) fun _ s8 ⟨σ8, H8, J9, hw8, q8⟩ => ?_
    refine thnF (pt.run _ s8 σ8 H8 _ J9 q8) fun b s9 ⟨H9, Ja, q9⟩ => ?_
    have fin : ∀ (s' : Shared) (H' : Hp), Inv Y ([] ++ pinsAt fp s7.heap) σ8 H' s' → Nx H' → ∃ m, m < n ∧ ∃ i H', Inv Y [] (wipe σ (own.map (·.2))) H' s' ∧ tn i s'.heap ∧ (∀ b ∈ fp, H' b = none) ∧ W i m H' := fun s' H' Jz nx => by
      obtain ⟨m', hm, w'⟩ := hNx H' nx
      have pin : ∀ b ∈ fp, ∀ o, s7.heap.get? b = some o → s'.heap.get? b = some o ∧ H' b = none := fun b hb o e => by
        have z := Jz.pin (b, o) (List.mem_append_right _ (List.mem_append_right _ (mem_pinsAt hb e)))
        exact ⟨z.1, z.2.1⟩
      have hlen : (wipe σ (own.map (·.2))).length = σ8.length := by rw [← hw8, wipe_length]
      refine ⟨m', hm, i + 1, H', (Jz.unpinned (pins := [])).weak hlen (fun j v e => ?_), T.keep _ _ _ st7 fun b hb o e => (pin b hb o e).1, fun b hb => ?_, w'⟩
      · rw [← hw8] at e
        exact (wipe_some e).1
      · obtain ⟨o, e, _⟩ := T.obj _ _ st7 b hb
        exact (pin b hb o e).2
    cases b with
    | false =>
      simp only [Bool.false_eq_true, if_false] at q9 ⊢
      exact fin _ _ Ja q9
    | true =>
      simp only [if_true] at q9 ⊢
      refine thnF (pe.run _ s9 σ8 H9 _ Ja q9) fun z s10 ⟨yv, Hb, Jb, rb, ad⟩ => ?_
      exact addT_ok (X := Y) hu Jb rb ad fin
end
section
variable {X : Cx} {K : PySem.W.Frag} {P : Program} {w : World}
theorem PE.setK {e : Expr} {wi : TI} {g : TG} {tt : TT} {te : TE} {vs : List Nat} (h1 : X.K = K) (h2 : X.prog = P) (h3 : X.w = w) (p : PE X e (tST X.K X.prog X.w wi g tt te vs)) : PE X e (tST K P w wi g tt te vs) := h1 ▸ h2 ▸ h3 ▸ p
theorem cr_sortedTK (h1 : X.K = K) (h2 : X.prog = P) (h3 : X.w = w) (hc : X.calm = true) : CallR X (.builtin "sorted") (rSortedT K P w) := h1 ▸ h2 ▸ h3 ▸ cr_sortedT hc
variable {σ : L2.St} {H : Hp} {Q : VK}
theorem r_set {wi : TI} {g : TG} {tt : TT} {te : TE} {vs : List Nat} (h : wi σ H fun J H1 => ∀ D, H1 D = none → ScR K P w J g tt te vs σ D Q H1) : tST K P w wi g tt te vs σ H Q := h
theorem scR_list {a : Addr} {xs : List V} {g : TG} {tt : TT} {te : TE} {vs : List Nat} {D : Addr} {σw : L2.St} (Pv : Nat → Hp → Prop) (ew : wipe σ vs = σw) (h0 : Pv 0 (upd H D (SetTO P w D []))) (hl : ∀ i H, i ≤ xs.length → Pv i H → SqL K H a xs)
    (hs : ∀ (i : Nat) x H, xs[i]? = some x → Pv i H → g x σw H fun σ2 H2 => wipe σ2 vs = σw ∧ tt σ2 H2 fun b H3 => if b = true then te σ2 H3 (AdT K P w D (Pv (i + 1))) else Pv (i + 1) H3) (hd : ∀ H, Pv xs.length H → Q (.ref D) H) :
    ScR K P w (Itl K a) g tt te vs σ D Q H := by
  subst ew
  refine ⟨fun i m H => (m = xs.length - i ∧ i ≤ xs.length) ∧ Pv i H, ⟨_, ⟨rfl, Nat.zero_le _⟩, h0⟩, fun i m H ⟨⟨em, hi⟩, p⟩ => ?_⟩
  subst em
  have hq := hl i H hi p
  rcases Nat.lt_or_ge i xs.length with c | c
  · exact .inr ⟨⟨xs, xs[i], hq, List.getElem?_eq_getElem c⟩, Pv (i + 1), fun H' p' => ⟨_, by omega, ⟨rfl, c⟩, p'⟩, fun x H' ⟨e, y⟩ => e ▸ hs i x _ (y xs hq) p⟩
  · have e : i = xs.length := by omega
    exact .inl ⟨⟨xs, hq, c⟩, hd H (e ▸ p)⟩
theorem TK.setO {L : List (Addr × List Int)} {D a : Addr} {o : HO} (h : H D = some (SetTO P w a L)) : TK H (upd H D o) := fun b xs e => by
  rw [upd_ne (fun n => by rw [n, h] at e; cases e)]
  exact e
/-- the set of these pairs -/
def SetP (P : Program) (w : World) (H : Hp) (D : Addr) (qs : List (Int × Int)) : Prop := ∃ L, H D = some (SetTO P w D L) ∧ (∀ p ∈ L, H p.1 = some (.tup (p.2.map V.int))) ∧ (∀ k, k ∈ L.map (·.2) ↔ ∃ q ∈ qs, k = [q.1, q.2]) ∧ L.length ≤ qs.length
theorem setP_nil {D : Addr} : SetP P w (upd H D (SetTO P w D [])) D [] := ⟨[], upd_same, fun p h => (by cases h), fun k => by simp, Nat.le_refl _⟩
theorem SetP.tk {H' : Hp} {D : Addr} {qs : List (Int × Int)} (h : SetP P w H D qs) (k : TK H H') (e : H' D = H D) : SetP P w H' D qs := by
  obtain ⟨L, h1, h2, h3⟩ := h
  exact ⟨L, e.trans h1, fun p hp => k _ _ (h2 p hp), h3⟩
theorem SetP.add {D : Addr} {qs : List (Int × Int)} {y : V} {q : Int × Int} {N : Hp → Prop} (h : SetP P w H D qs) (hy : IsP H y q) (few : qs.length ≤ 62) (n : ∀ o, SetP P w (upd H D o) D (qs ++ [q]) → N (upd H D o)) : AdT K P w D N y H := by
  obtain ⟨L, h1, h2, h3, h4⟩ := h
  obtain ⟨t, rfl, ht⟩ := hy
  refine ⟨t, [q.1, q.2], L, rfl, .inl (.inl ht), h1, fun p hp => .inl (.inl (h2 p hp)), by omega, fun L' c1 c2 => n _ ⟨L', upd_same, ?_⟩⟩
  have tk : TK H (upd H D (SetTO P w D L')) := .setO h1
  by_cases c : [q.1, q.2] ∈ L.map (·.2)
  · rw [c1 c]
    refine ⟨fun p hp => ?_, fun k => ?_, by rw [List.length_append]; omega⟩
    · have := tk _ _ (h2 p hp)
      rw [c1 c] at this
      exact this
    · rw [h3]
      constructor
      · rintro ⟨r, hr, e⟩
        exact ⟨r, List.mem_append_left _ hr, e⟩
      · rintro ⟨r, hr, e⟩
        rcases List.mem_append.mp hr with z | z
        · exact ⟨r, z, e⟩
        · rw [List.mem_singleton.mp z] at e
          exact (h3 k).mp (e ▸ c)
  · have pm := c2 c
    refine ⟨fun p hp => ?_, fun k => ?_, ?_⟩
    · rcases List.mem_cons.mp (pm.mem_iff.mp hp) with z | z
      · rw [z]
        exact tk _ _ ht
      · exact tk _ _ (h2 p z)
    · rw [(pm.map (·.2)).mem_iff, List.map_cons, List.mem_cons, h3]
      constructor
      · rintro (e | ⟨r, hr, e⟩)
        · exact ⟨q, List.mem_append_right _ (List.mem_singleton.mpr rfl), e⟩
        · exact ⟨r, List.mem_append_left _ hr, e⟩
      · rintro ⟨r, hr, e⟩
        rcases List.mem_append.mp hr with z | z
        · exact .inr ⟨r, z, e⟩
        · rw [List.mem_singleton.mp z] at e
          exact .inl e
    · rw [pm.length_eq, List.length_cons, List.length_append]
      simp only [List.length_cons, List.length_nil]
      omega
/-- the pairs of a set, in their order -/
theorem r_sortT {D : Addr} {qs : List (Int × Int)} (h : SetP P w H D qs) (bd : ∀ q ∈ qs, 0 ≤ q.1 ∧ q.1 < 64 ∧ 0 ≤ q.2 ∧ q.2 < 64)
    (q : ∀ p xs ps, H p = none → Prs H xs ps → ps.Pairwise ltP → (∀ r, r ∈ ps ↔ r ∈ qs) → ps.length ≤ qs.length → Q (.ref p) (upd H p (.lst xs))) : rSortedT K P w [.ref D] H Q := by
  obtain ⟨L, h1, h2, h3, h4⟩ := h
  have two : ∀ p ∈ L, ∃ r ∈ qs, p.2 = [r.1, r.2] := fun p hp => (h3 p.2).mp (List.mem_map_of_mem hp)
  refine ⟨D, L, 2, 64, rfl, h1, fun p hp => .inl (.inl (h2 p hp)), by decide, fun p hp => ?_, fun L' p pm nd few asc hp => ?_⟩
  · obtain ⟨r, hr, e⟩ := two p hp
    obtain ⟨b1, b2, b3, b4⟩ := bd r hr
    rw [e]
    refine ⟨rfl, fun m hm => ?_⟩
    rcases List.mem_cons.mp hm with z | z
    · exact ⟨by omega, by omega⟩
    · have := List.mem_singleton.mp z
      exact ⟨by omega, by omega⟩
  · let pr : Addr × List Int → Int × Int := fun x => (x.2.getD 0 0, x.2.getD 1 0)
    have two' : ∀ x ∈ L', ∃ r ∈ qs, x.2 = [r.1, r.2] ∧ pr x = r := fun x hx => by
      obtain ⟨r, hr, e⟩ := two x (pm.mem_iff.mp hx)
      refine ⟨r, hr, e, ?_⟩
      show (x.2.getD 0 0, x.2.getD 1 0) = r
      rw [e]
      rfl
    refine q p _ (L'.map pr) hp ?_ ?_ (fun r => ?_) (by rw [List.length_map, pm.length_eq]; exact h4)
    · have : ∀ l : List (Addr × List Int), (∀ x ∈ l, x ∈ L') → Prs H (l.map fun q => V.ref q.1) (l.map pr) := by
        intro l
        induction l with
        | nil => exact fun _ => .nil
        | cons x l ih =>
          intro hl
          obtain ⟨r, hr, e, e2⟩ := two' x (hl x List.mem_cons_self)
          refine .cons ⟨x.1, rfl, ?_⟩ (ih fun z hz => hl z (List.mem_cons_of_mem _ hz))
          have e3 := h2 x (pm.mem_iff.mp (hl x List.mem_cons_self))
          rw [e3, e, e2]
          rfl
      exact this L' fun x hx => hx
    · rw [List.pairwise_map]
      have nd' := List.pairwise_map.mp nd
      refine List.Pairwise.imp_of_mem ?_ (List.pairwise_and_iff.mpr ⟨asc, nd'⟩)
      rintro x z hx hz ⟨c, ne⟩
      obtain ⟨r, hr, e, e2⟩ := two' x hx
      obtain ⟨t, ht, f, f2⟩ := two' z hz
      obtain ⟨b1, b2, b3, b4⟩ := bd r hr
      obtain ⟨c1, c2, c3, c4⟩ := bd t ht
      rw [e, f] at c
      have ne2 : ([r.1, r.2] : List Int) ≠ [t.1, t.2] := fun y => ne (by rw [e, f, y])
      rw [e2, f2]
      exact pair_lt c ne2 ⟨b1, b2⟩ ⟨b3, b4⟩ ⟨c1, c2⟩ ⟨c3, c4⟩
    · rw [List.mem_map]
      constructor
      · rintro ⟨x, hx, rfl⟩
        obtain ⟨t, ht, f, f2⟩ := two' x hx
        rw [f2]
        exact ht
      · intro hr
        obtain ⟨x, hx, e⟩ := List.mem_map.mp ((h3 [r.1, r.2]).mpr ⟨r, hr, rfl⟩)
        refine ⟨x, pm.mem_iff.mpr hx, ?_⟩
        show (x.2.getD 0 0, x.2.getD 1 0) = r
        rw [e]
        rfl
end
section
variable {P : Program} {w : World} {K : PySem.W.Frag} {mg : Str → Option Value} {base : Heap}
/-- a promise that nothing keeps to is kept -/
theorem fn_none {k : Nat} {f : Addr} {fd : FuncData} {ps : List PySem.Str} {CX : CXT} : FnOk P w K mg base CX k f fd ps (fun _ _ _ _ => False) := ⟨fun _ _ _ _ h => h.elim, fun _ _ _ _ _ _ _ _ _ _ _ _ _ h => h.elim⟩
theorem r_ixE {H : Hp} {Q : VK} {l : Addr} {xs : List V} {i : Int} {v : V} (h : SqL K H l xs ∨ SqT K H l xs) (e : atI xs i = some v) (q : Q v H) : rIxL K (.ref l) (.int i) H Q ∨ rIxT K (.ref l) (.int i) H Q := by
  rcases h with h | h
  · exact .inl (r_ixL h e q)
  · exact .inr (r_ixT h e q)
end

set_option Elab.async false
set_option linter.all false
set_option maxRecDepth 100000
set_option maxHeartbeats 4000000
open PySem PySem.Spec PyProof.Rows L2
/-- an own error's class -/
structure ExcD (K : PySem.W.Frag) (mg : Str → Option Value) (x : Str) where
  C : Addr
  g : mg x = some (.ref C)
  k : PySem.W.keepIn K (.ref C) = true
  q : PySem.W.excIn K C [.type "ValueError", .type "Exception", .type "BaseException", .type "object"] "ValueError.__new__" = true
  ex : PySem.W.subIn K (.ref C) (.type "BaseException") = some true
  ty : PySem.W.typeIn K (.ref C) = some (.type "type")
  me : PySem.W.subIn K (.ref C) (.ref C) = some true
  cc : ExcC K C
section
variable {K : PySem.W.Frag} {mg : Str → Option Value} {x : Str}
theorem ExcD.exm (D : ExcD K mg x) : PySem.W.exmOne K (.ref D.C) (.ref D.C) = some true := PySem.W.exm_ref D.ex D.cc.hd D.ty D.me
/-- isinstance(e, ..) of what was caught -/
def rIsEc (K : PySem.W.Frag) (D a : Addr) (cls : Value) (d : Option Addr) : List V → Hp → VK → Prop := fun xs H Q => cls = .ref D ∧ d = none ∧ rIsE K D a xs H Q
theorem call_isEc {X : Cx} {a D : Addr} {oe : Obj} {pn : List (Addr × Obj)} {cls : Value} {d : Option Addr} (hk : X.K = K) (C : ExcC K D) (hz : Zc cls d oe) (hf : ∃ vs, oe.data = .fields vs) : CallR (X.suite a ((a, oe) :: pn)) (.builtin "isinstance") (rIsEc K D a cls d) := by
  subst hk
  intro pins s σ H xs us Q I r h
  obtain ⟨rfl, rfl, h⟩ := h
  exact call_isE C hz hf pins s σ H xs us Q I r h
variable {σ : L2.St} {H : Hp} {Q : VK}
theorem r_isEc {D a : Addr} {cls : Value} {d : Option Addr} {c : V} {cv : Value} {b : Bool} (h1 : cls = .ref D) (h2 : d = none) (hc : ∀ u, RelV c u → u = cv) (hk : PySem.W.kitOne K (.ref D) cv = some b) (q : Q (.bl b) H) : rIsEc K D a cls d [.ref a, c] H Q := ⟨h1, h2, c, cv, b, rfl, hc, hk, q⟩
theorem rel_ref {a : Addr} : RelV (.ref a) (.ref a) := rfl
theorem rel_int {i : Int} {t : Tok} : RelV (.int i) (.int i t) := ⟨t, rfl⟩
/-! chains of comparisons -/
def ChN (r' : R2) (tc : TE) (σ : L2.St) (Q : VK) (y : V) : VK := fun z H3 => ∃ k, z = .bl k ∧ (if k = true then tc σ H3 fun w' H4 => r' y w' H4 Q else Q (.bl false) H3)
theorem r_chain {r r' : R2} {ta tb tc : TE} (h : ta σ H fun x H1 => tb σ H1 fun y H2 => r x y H2 (ChN r' tc σ Q y)) : tChain r r' ta tb tc σ H Q := h
theorem r_chn {r' : R2} {tc : TE} {y : V} {b : Bool} (h : if b = true then tc σ H fun w' H4 => r' y w' H4 Q else Q (.bl false) H) : ChN r' tc σ Q y (.bl b) H := ⟨b, rfl, h⟩
theorem r_callS {sp : Sp} {E : L2.St → XK} {t : TA} (h : t σ H fun vs H1 => sp vs H1 Q (E σ)) : tCallS sp E t σ H Q := h
def rInsN : V → List V → Hp → VK → Prop := fun x vs H Q => ∃ (l : Addr) (xs : List V) (i : Int) (y : V), x = .ref l ∧ vs = [.int i, y] ∧ H l = some (.lst xs) ∧ xs.length < sizeLine ∧ 0 ≤ i ∧ i < 2 ^ 63 ∧ Q .non (upd H l (.lst (xs.take i.toNat ++ [y] ++ xs.drop i.toNat)))
theorem mt_insertN {X : Cx} : MtR X "list.insert" rInsN := mt_insert
theorem r_insN {l : Addr} {xs : List V} {i : Int} {y : V} (h : H l = some (.lst xs)) (s : xs.length < 100000) (h0 : 0 ≤ i) (h1 : i < 1000000) (q : Q .non (upd H l (.lst (xs.take i.toNat ++ [y] ++ xs.drop i.toNat)))) : rInsN (.ref l) [.int i, y] H Q :=
  ⟨l, xs, i, y, rfl, rfl, h, small_lt s, h0, by omega, q⟩
end

set_option Elab.async false
set_option linter.all false
set_option maxRecDepth 100000
set_option maxHeartbeats 4000000
open PySem PySem.Spec PyProof.Rows L2
/-! # enumerate over a tuple -/
theorem enumNew1 {v : Value} {o : Obj} {F : Heap → Prop} (B : Begins v o F) : Meets (Builtin.«enumerate.__new__» ⟨[.type "enumerate", v], []⟩) (fun _ R s => F s.heap ∧
    R (.ok (.ret (.ref (s.heap.push o).objs.size))) { s with heap := (s.heap.push o).push { cls := .type "enumerate", data := .fields #[.none, .bool false, .ref s.heap.objs.size, rawInt 0, .none, .none] } }) :=
  .of_wp fun prog w A R s h => by
    obtain ⟨hp, gs, dr, tk, os⟩ := s
    obtain ⟨h1, h⟩ := h
    have hsub := sub_enumerate
    have q1 : ∀ {A' : Around} {E' : Value → Shared → Prop} {Q' : Value → Shared → Prop}, Q' (.ref hp.objs.size) ⟨hp.push o, gs, dr, tk, os⟩ → wpAny (model prog w) A' (pyIter v) Q' E' ⟨hp, gs, dr, tk, os⟩ := fun q => B.iter prog w _ _ ⟨hp, gs, dr, tk, os⟩ _ h1 q
    wp_walk using q1
    refine wpAny_stack_any fun st => wpAny_pure ?_
    split
    · rename_i c _ _ _ _ _
      cases (c == Value.type "enumerate") <;> (wp_walk using q1; exact ⟨_, rfl, h⟩)
    · wp_walk using q1
      exact ⟨_, rfl, h⟩
section
variable {prog : Program} {w : World} {A : Around} {E : Value → Shared → Prop} {s : Shared}
theorem callEnum1 {v : Value} {o : Obj} {Fh : Heap → Prop} {Q : Value → Shared → Prop} (B : Begins v o Fh) (h1 : Fh s.heap)
    (h : ∀ h', IsEnum h' (s.heap.objs.size + 1) s.heap.objs.size 0 .none → h'.get? s.heap.objs.size = some o → h'.objs.size = s.heap.objs.size + 2 → (∀ b x, s.heap.get? b = some x → h'.get? b = some x) → Q (.ref (s.heap.objs.size + 1)) { s with heap := h' }) :
    wpAny (model prog w) A (call (.type "enumerate") [v]) Q E s := by
  refine callType_new F.called_enumerate (by decide) (F.typeCall_enumerate_1 _) (F.newCall_enumerate_1 _) (fun ob => F.args_object_init_2 ob _) F.entry_enumerate_new (enumNew1 B) ⟨h1, ?_⟩
  have hz : (s.heap.push o).objs.size = s.heap.objs.size + 1 := Heap.size_push ..
  show _ ∧ _
  rw [hz]
  have he : IsEnum ((s.heap.push o).push { cls := .type "enumerate", data := .fields #[.none, .bool false, .ref s.heap.objs.size, rawInt 0, .none, .none] }) (s.heap.objs.size + 1) s.heap.objs.size 0 .none := by
    have z := Heap.get?_push_size (s.heap.push o) (o := { cls := .type "enumerate", data := .fields #[.none, .bool false, .ref s.heap.objs.size, rawInt 0, .none, .none] }) rfl
    rw [hz] at z
    exact z
  exact ⟨⟨_, he, rfl⟩, h _ he (Heap.get?_push_of_some _ (Heap.get?_push_size _ B.free)) (by rw [Heap.size_push, hz]) fun b x e => Heap.get?_push_of_some _ (Heap.get?_push_of_some _ e)⟩
theorem enumEndT {e it t : Addr} {i : Nat} {items : Array Value} {c : Int} {old : Value} {Q : Option Value → Shared → Prop} (hh : A.handled = none) (he : IsEnum s.heap e it c old) (hit : s.heap.IsTupleIter it t i) (ht : s.heap.IsTuple t items) (hx : items[i]? = none)
    (q : ∀ h', Heap.ExtBut it s.heap h' → Q none { s with heap := h' }) : wpAny (model prog w) A (pyNext (.ref e)) Q E s := by
  have ty : s.TypeIs (.ref e) "enumerate" := ⟨_, he, rfl⟩
  unfold pyNext
  refine wpAny_bind (wpAny_attempt (wpAny_callSpecial?_slot (name := Str.ofString "__next__") ty F.slot_enumerate_next (wpAny_call_entry F.slot_enumerate_next ty F.entry_enumerate_next ?_ (F.args_enumerate_next_1 _))))
  show wpAny _ _ (field (.ref e) 2 >>= _) _ _ _
  refine wpAny_bind (wpAny_field he rfl (x := .ref it) rfl (wpAny_bind (wpAny_nextOf_tuple_end hh hit ht hx fun h' x eb ⟨o, ho, hc⟩ => ?_)))
  exact wpAny_bind (wpAny_isInstance (T := "StopIteration") (b := true) ⟨o, ho, hc⟩ isSubtype_stop (wpAny_pure (q _ eb)))
end
/-- the tuple at a, its items in new pairs -/
def IteT (K : PySem.W.Frag) (a : Addr) : It :=
  ⟨fun i H => ∃ (xs : List V) (x : V), SqT K H a xs ∧ xs[i]? = some x, fun i H v H' => ∃ T x, v = .ref T ∧ H T = none ∧ H' = upd H T (.tup [.int (i : Nat), x]) ∧ ∀ xs, SqT K H a xs → xs[i]? = some x, fun i H => ∃ xs : List V, SqT K H a xs ∧ xs.length ≤ i⟩
theorem turnEnumT {P : Program} {w : World} {K : PySem.W.Frag} {elts : List Expr} {kk : Nat} {tpos : Pos} (a e it : Addr) (hat : a ≠ it) :
    Turn P w K (.Tuple elts kk tpos) (IteT K a) [e, it] e (fun i h => (∃ old, IsEnum h e it ((i : Nat) : Int) old) ∧ h.IsTupleIter it a i ∧ e ≠ it ∧ a ≠ e) where
  mem := by simp
  obj := fun i h st b hb => by
    obtain ⟨⟨old, he⟩, ⟨o, ho, hc, hd⟩, _⟩ := st
    rcases (show b = e ∨ b = it by simpa using hb) with z | z
    · subst z; exact ⟨_, he, fun v q => nomatch q⟩
    · subst z; exact ⟨o, ho, fun v q => by rw [hd] at q; cases q⟩
  keep := fun i h h' st k => by
    obtain ⟨⟨old, he⟩, hi, hne⟩ := st
    exact ⟨⟨old, k e (by simp) _ he⟩, hi.at fun o q => k it (by simp) o q, hne⟩
  item := by
    intro X hP hw hK hc i pins s σ H E I hf st hg
    subst hP hw hK
    obtain ⟨⟨old, he⟩, hit, hne, hae⟩ := st
    obtain ⟨xs, x, hq, hx⟩ := hg
    obtain ⟨its, rv, p, hz⟩ := I.tuple hq
    obtain ⟨u, hu, ru⟩ := rv.get hx
    have hel : e < s.heap.objs.size := Heap.lt_size he
    have hil : it < s.heap.objs.size := by obtain ⟨_, q, _⟩ := hit; exact Heap.lt_size q
    have hlt : i < its.toArray.size := by
      have := (List.getElem?_eq_some_iff.mp hu).1
      simpa using this
    refine wpAny_pyNext_enum_itemD (Draws.tuple (by exact I.ok.hd hc) it a hat its.toArray) he ⟨hit, p⟩ hlt hne (by simp [hne, Ne.symm hae]) fun y h' tk hy ho hst hT hsz hk => ?_
    have ey : y = u := by
      have z : its[i]? = some y := by simpa using hy
      exact Option.some.inj (z.symm.trans hu)
    subst ey
    refine ⟨_, rfl, wpAny_letOwnedTupleGo_enum (s := { s with heap := h', toks := tk + 1 }) ho fun h'' he' sb => ?_⟩
    have hT2 : h''.get? s.heap.objs.size = some { cls := .type "tuple", data := .seq #[.int i tk, y] } := (sb.2 _ (Nat.ne_of_gt hel)).trans hT
    have new : ObjOk X.prog X.w (upd H s.heap.objs.size (.tup [.int (i : Nat), x])) h'' s.heap.objs.size (.tup [.int (i : Nat), x]) := ⟨sz2, [.int i tk, y], .cons ⟨_, rfl⟩ (.cons ru .nil), ⟨_, hT2, rfl, _, rfl⟩⟩
    have I1 : Inv X pins σ (upd H s.heap.objs.size (.tup [.int (i : Nat), x])) { s with heap := h'', toks := tk + 1 } :=
      I.turnedNew (ch := [e, it]) (fun b ob hb q => (sb.2 b (fun z => hb (by simp [z]))).trans (hk b ob (fun z => hb (by simp [z])) (fun z => hb (by simp [z])) q)) hf (Nat.le_refl _) new
    refine ⟨.ref s.heap.objs.size, _, I1, rfl, ⟨_, x, rfl, I.hok.fresh (Nat.le_refl _), rfl, fun ys hy => by rw [I.tuple_inj hy hq]; exact hx⟩, ⟨⟨y, ?_⟩, hst.1.at fun o q => (sb.2 it (Ne.symm hne)).trans q, hne, hae⟩, fun b hb => ?_⟩
    · rw [show ((i + 1 : Nat) : Int) = (i : Int) + 1 by omega]
      exact he'
    · have hb' : b < s.heap.objs.size := by
        rcases (show b = e ∨ b = it by simpa using hb) with z | z
        · exact z ▸ hel
        · exact z ▸ hil
      rw [upd_ne (Nat.ne_of_lt hb')]
      exact (hf b hb).1
  done := by
    intro X hP hw hK hc i pins s σ H E I hf st hg
    subst hP hw hK
    obtain ⟨⟨old, he⟩, hit, hne, hae⟩ := st
    obtain ⟨xs, hq, hx⟩ := hg
    obtain ⟨its, rv, p, hz⟩ := I.tuple hq
    obtain ⟨f0, f1, f2, f3, f4, f5⟩ := hf it (by simp)
    have hl := rv.length
    exact enumEndT (I.ok.hd hc) he hit p (by simp; omega) fun h' eb => ⟨rfl, I.turned (t' := s.toks) (fun b o hb q => eb b o hb q) f0 f1 f3 f4 f5⟩
  self := fun A i s Q E st h => by
    obtain ⟨⟨_, he⟩, _⟩ := st
    exact wpAny_pyIter_enum he h
def iEnumT (K : PySem.W.Frag) (ta : TA) : TI := fun σ H R => ta σ H fun vs H1 => ∃ a xs, vs = [.ref a] ∧ SqT K H1 a xs ∧ R (IteT K a) H1
theorem pi_enumT {X : Cx} {e : Expr} {ta : TA} {p pos tpos : Pos} {elts : List Expr} {kk : Nat} (hg : Gl X "enumerate") (hm : X.mg "enumerate" = none) (ha : PA X [e] ta) (hs : starEach [e] X.env = [(false, eval e X.env)] := by rfl) :
    PI X (.Tuple elts kk tpos) (.Call (.Name "enumerate" p) [e] [] pos) (iEnumT X.K ta) := by
  refine ⟨fun pins s σ H R I h => Call_ (ld_blt I hg hm boot_enumerate (PyProof.Rows.callWith_type1 (thn (ha.run pos pins s σ H _ I h) fun us s1 ⟨vs, H1, I1, r1, a, xs, ex, hq, q⟩ => ?_) hs rfl))⟩
  subst ex
  cases r1 with
  | cons r rr =>
    cases rr
    cases r
    obtain ⟨its, rv, p', hz⟩ := I1.tuple hq
    have hlt : a < s1.heap.objs.size := by
      obtain ⟨o, ho, _⟩ := p'
      exact Heap.lt_size ho
    refine callEnum1 (begins_tuple a its.toArray) p' fun h' he hit hsz hk => wpAny_pyIter_enum he ?_
    have I2 : Inv X pins σ H1 { s1 with heap := h' } := I1.kept (t' := s1.toks) hk
    refine ⟨s1.heap.objs.size + 1, [s1.heap.objs.size + 1, s1.heap.objs.size], _, _, H1, rfl, I2, turnEnumT a (s1.heap.objs.size + 1) s1.heap.objs.size (Nat.ne_of_lt hlt), ⟨⟨.none, he⟩, ⟨_, hit, rfl, rfl⟩, Nat.succ_ne_self _, Nat.ne_of_lt (Nat.lt_succ_of_lt hlt)⟩, fun b hb => ?_, q⟩
    have hle : s1.heap.objs.size ≤ b := by
      rcases (show b = s1.heap.objs.size + 1 ∨ b = s1.heap.objs.size by simpa using hb) with z | z
      · rw [z]; exact Nat.le_add_right _ _
      · rw [z]; exact Nat.le_refl _
    exact I1.fpOk hle (I1.hok.fresh hle)
/-! # dicts whose keys are tuples, laid by a comprehension -/
section
variable {X : Cx}
def PutT (D : Addr) (N : Hp → Prop) (y z : V) (H : Hp) : Prop := ∃ (kvs : List (List L2.Key × V)) (k : List L2.Key) (b : Addr), y = .ref b ∧ H D = some (.dT kvs) ∧ H b = some (.tup (k.map kV)) ∧ kvs.length < sizeLine ∧ N (upd H D (.dT (putK kvs k z)))
theorem putT_ok {pins : List (Addr × Obj)} {σ : L2.St} {H : Hp} {s : Shared} {E : Value → Shared → Prop} {D : Addr} {N : Hp → Prop} {y z : V} {u r : Value} {Q : Unit → Shared → Prop} (hu : X.A.units + 64 < cLine) (I : Inv X pins σ H s) (ry : RelV y u) (rv : RelV z r)
    (g : PutT D N y z H) (q : ∀ s' H', Inv X pins σ H' s' → N H' → Q () s') : wpAny (model X.prog X.w) X.A (dictSet D u r) Q E s := by
  obtain ⟨kvs, k, b, rfl, hD, hb, few, n⟩ := g
  cases ry
  obtain ⟨zl, hd, xs, rel, dd⟩ := dt_of I.hok hD
  have e1 : xs.length ≤ sizeLine := by rw [← Paired.length rel]; exact zl
  have e2 : (putK kvs k z).length ≤ sizeLine := by have := length_putK kvs k z; omega
  refine wpAny_dictSet_heap (hsz := e1) (knd := tupleKind (mixKind X.prog X.w)) (show X.A.units < cLine by omega) (key_of I.hok hb) dd fun h' dd' hs => ?_
  obtain ⟨o, es, ep, ho, a2, a3, a4, _, a5⟩ := dd'
  refine q _ _ (d_write (ob := .dT (putK kvs k z)) I (by rw [hD]; exact True.intro) hs ⟨o, ho⟩ ⟨e2, hd, _, (rel.put k hb rv).keeps fun c ys ec => ?_, o, es, ep, ho, a2, a3, a4, a5⟩) n
  rw [upd_ne (ne_of ec hD (fun x => nomatch x))]
  exact ec
def DcR (J : It) (g : TG) (tt : TT) (tk tv : TE) (vs : List Nat) (σ : L2.St) (D : Addr) (Q : VK) (H1 : Hp) : Prop := ∃ W : Nat → Nat → Hp → Prop, (∃ m0, W 0 m0 (upd H1 D (.dT []))) ∧ ∀ i m H, W i m H →
  (J.stop i H ∧ Q (.ref D) H) ∨ (J.go i H ∧ ∃ Nx : Hp → Prop, (∀ H', Nx H' → ∃ m', m' < m ∧ W (i + 1) m' H') ∧ ∀ x H', J.yld i H x H' → g x (wipe σ vs) H' fun σ2 H2 => wipe σ2 vs = wipe σ vs ∧ tt σ2 H2 fun b H3 => if b = true then tk σ2 H3 fun y H4 => tv σ2 H4 (PutT D Nx y) else Nx H3)
def tDcT (wi : TI) (g : TG) (tt : TT) (tk tv : TE) (vs : List Nat) : TE := fun σ H Q => wi σ H fun J H1 => ∀ D, H1 D = none → DcR J g tt tk tv vs σ D Q H1
variable {kx vx tg iter : Expr} {ifs : List Expr} {scope : Scope} {own : List (PySem.Str × Nat)} {pos : Pos} {wi : TI} {g : TG} {tt : TT} {tk tv : TE}
theorem pe_dcT (hu : X.A.units + 64 < cLine) (hc : X.calm = true) (hN : X.N.Nodup) (hi : PI X tg iter wi) (ok : BlkOk X.N X.env.scope scope own)
    (hg : ∀ (s0 : Shared) (H0 : Hp) (C0 : Addr) (l0 : List (PySem.Str × Addr)) (fp : List Addr), PG (X.blk s0 H0 scope (compEnvC scope l0 C0 X.env) fp) tg g)
    (ht : ∀ (s0 : Shared) (H0 : Hp) (C0 : Addr) (l0 : List (PySem.Str × Addr)) (fp : List Addr), PTs (X.blk s0 H0 scope (compEnvC scope l0 C0 X.env) fp) ifs tt)
    (he : ∀ (s0 : Shared) (H0 : Hp) (C0 : Addr) (l0 : List (PySem.Str × Addr)) (fp : List Addr), PE (X.blk s0 H0 scope (compEnvC scope l0 C0 X.env) fp) kx tk)
    (hv : ∀ (s0 : Shared) (H0 : Hp) (C0 : Addr) (l0 : List (PySem.Str × Addr)) (fp : List Addr), PE (X.blk s0 H0 scope (compEnvC scope l0 C0 X.env) fp) vx tv)
    (hs : ∀ x, foldedSetIterable iter X.env x = pure x := by intro _; rfl) :
    PE X (.DictComp kx vx [⟨tg, iter, ifs, 0⟩] scope pos) (tDcT wi g tt tk tv (own.map (·.2))) := by
  refine ⟨fun pins s σ H Q I h => ?_⟩
  rw [arm_eval_DictComp]
  have hfr : ∀ y ∈ scope.names, y.2 = .free → ∃ c, X.env.cells.lookup y.1 = some c := fun y hy e => (ok.free y hy e).elim (fun k => I.ok.has _ (.inl k)) (fun k => I.ok.has _ (.inr k))
  refine wpAny_comprehension_free (use := none) rfl hs (closure_ok hfr) ok.kind (fun y hy e => by rw [ok.uniq y hy, e]) (thn (hi.run pins s σ H _ I h) fun xv s1 hx => thn hx fun itv s2 h2 => ?_)
  obtain ⟨it, fp, tn, J, H2, e2, I2, T, st2, f2, q⟩ := h2
  subst e2
  refine wpAny_newObj_type (newEnv_comp ?_)
  generalize hD : s2.heap.objs.size = D
  have dn : H2 D = none := I2.hok.fresh (Nat.le_of_eq hD)
  obtain ⟨W, ⟨m0, w0⟩, turn⟩ := q D dn
  let ob : Obj := { cls := .type "dict", data := .dict #[] }
  show codeAny _ _ _ _ ({ ({ s2 with heap := s2.heap.push ob } : Shared) with heap := _ } : Shared)
  generalize es3 : ({ s2 with heap := s2.heap.push ob } : Shared) = s3
  have hp3 : s3.heap = s2.heap.push ob := by rw [← es3]
  let H3 : Hp := upd H2 D (.dT [])
  have J3 : Inv X pins σ H3 s3 := by
    rw [← es3]
    exact I2.laid (t' := s2.toks) (fun b o e => Heap.get?_push_of_some _ e) (Nat.le_of_eq hD) (by rw [← hD]; exact dt_empty s2.heap I2.big)
  have lt : ∀ b ∈ fp, b < s2.heap.objs.size := fun b hb => by
    obtain ⟨o, e, _⟩ := T.obj _ _ st2 b hb
    exact Heap.lt_size e
  have F3 : ∀ b ∈ fp, FpOk X pins H3 b ∧ b < s3.heap.objs.size := fun b hb => by
    have l1 := lt b hb
    refine ⟨⟨?_, (f2 b hb).2⟩, by rw [hp3, Heap.size_push]; exact Nat.lt_succ_of_lt l1⟩
    show upd H2 D _ b = none
    rw [upd_ne (Nat.ne_of_lt (hD ▸ l1))]
    exact (f2 b hb).1
  have st3 : tn 0 s3.heap := T.keep _ _ _ st2 fun b _ o e => by rw [hp3]; exact Heap.get?_push_of_some _ e
  have J4 := block_start J3 ok hN F3
  have pg := hg s3 H3 s3.heap.objs.size (cellsFrom (s3.heap.objs.size + 1) scope.names (cloFrom X.env.cells scope.names [])) fp
  have pt := ht s3 H3 s3.heap.objs.size (cellsFrom (s3.heap.objs.size + 1) scope.names (cloFrom X.env.cells scope.names [])) fp
  have pk := he s3 H3 s3.heap.objs.size (cellsFrom (s3.heap.objs.size + 1) scope.names (cloFrom X.env.cells scope.names [])) fp
  have pe := hv s3 H3 s3.heap.objs.size (cellsFrom (s3.heap.objs.size + 1) scope.names (cloFrom X.env.cells scope.names [])) fp
  show codeAny _ _ (.compStart (.DictComp kx vx [⟨tg, iter, ifs, 0⟩] scope pos) 0 (.ref it) (.ref D) (compEnvC scope (cellsFrom (s3.heap.objs.size + 1) scope.names (cloFrom X.env.cells scope.names [])) s3.heap.objs.size X.env)) _ { s3 with heap := pushCells (s3.heap.push { cls := .type "dict", data := .dict #[] }) scope.names }
  generalize ece : compEnvC scope (cellsFrom (s3.heap.objs.size + 1) scope.names (cloFrom X.env.cells scope.names [])) s3.heap.objs.size X.env = ce at J4 pg pt pk pe ⊢
  have ceL : ce.locals = s3.heap.objs.size := by rw [← ece]; rfl
  generalize es4 : ({ s3 with heap := pushCells (s3.heap.push { cls := .type "dict", data := .dict #[] }) scope.names } : Shared) = s4 at J4 ⊢
  have st4 : tn 0 s4.heap := T.keep _ _ _ st3 fun b _ o e => by rw [← es4]; exact pushCells_keeps _ _ _ _ (Heap.get?_push_of_some _ e)
  let Y : Cx := X.blk s3 H3 scope ce fp
  have fpOf : ∀ {σ' : L2.St} {H' : Hp} {s' : Shared}, Inv Y [] σ' H' s' → (∀ b ∈ fp, H' b = none) → ∀ b ∈ fp, FpOk Y [] H' b := fun {σ' H' s'} I' hn b hb =>
    ⟨hn b hb, (I'.ok.exf b hb).1, I'.ok.exfs b hb, .inl hb, fun x c e => (I'.ok.exf b hb).2 x c e, fun p hp => absurd (show p ∈ ([] : List (Addr × Obj)) ++ [] from hp) (by simp)⟩
  refine (fun loop => codeAny_compStart_dict loop (T.self X.A 0 _ _ _ st4 loop)) ?_
  refine compLoop_anyD (fun n s' => ∃ i H', Inv Y [] (wipe σ (own.map (·.2))) H' s' ∧ tn i s'.heap ∧ (∀ b ∈ fp, H' b = none) ∧ W i n H') ?_ m0 ⟨0, H3, J4, st4, fun b hb => (F3 b hb).1.1, w0⟩
  rintro n s5 ⟨i, H5, J5, st5, n5, w5⟩
  rcases turn i n H5 w5 with ⟨stop, qq⟩ | ⟨go, Nx, hNx, step⟩
  · -- the end
    refine thnF (T.done Y rfl rfl rfl hc i [] s5 _ H5 (fun _ _ => False) J5 (fpOf J5 n5) st5 stop) fun r s6 ⟨hr, J6⟩ => ?_
    subst hr
    have J7 : Inv X pins σ H5 s6 := J3.call' (ch := fp) J6.os J6.base J6.hok J6.bare fun b hb => ⟨(F3 b hb).1.2.2.2.1, (F3 b hb).1.2.1, (F3 b hb).1.2.2.2.2.1, (F3 b hb).1.2.2.2.2.2⟩
    have nC : H5 s3.heap.objs.size = none := ceL ▸ (show H5 ce.locals = none from J6.free)
    obtain ⟨mm, hn, _⟩ := J6.loc
    refine ⟨mm, ceL ▸ (show s6.heap.Ns ce.locals mm from hn), fun h'' sb => ?_⟩
    obtain ⟨f0, f1, f2, f3, f4, f5⟩ := J3.fpOk (Nat.le_refl _) nC
    exact ⟨.ref D, H5, J7.turned (t' := s6.toks) (fun b o hb e => (sb.2 b hb).trans e) f0 f1 f3 f4 f5, rfl, qq⟩
  · -- a turn
    refine thnF (T.item Y rfl rfl rfl hc i [] s5 _ H5 (fun _ _ => False) J5 (fpOf J5 n5) st5 go) fun r s6 ⟨u, hr, h6⟩ => ?_
    subst hr
    refine thnF h6 fun _ s7 ⟨x, H7, J7, r7, y7, st7, n7⟩ => ?_
    have J8 := J7.pinned (fpOf J7 n7) (T.obj _ _ st7)
    refine thnF (pg.run _ s7 _ H7 x u _ J8 r7 (step x H7 y7)) fun _ s8 ⟨σ8, H8, J9, hw8, q8⟩ => ?_
    refine thnF (pt.run _ s8 σ8 H8 _ J9 q8) fun b s9 ⟨H9, Ja, q9⟩ => ?_
    have fin : ∀ (s' : Shared) (H' : Hp), Inv Y ([] ++ pinsAt fp s7.heap) σ8 H' s' → Nx H' → ∃ m, m < n ∧ ∃ i H', Inv Y [] (wipe σ (own.map (·.2))) H' s' ∧ tn i s'.heap ∧ (∀ b ∈ fp, H' b = none) ∧ W i m H' := fun s' H' Jz nx => by
      obtain ⟨m', hm, w'⟩ := hNx H' nx
      have pin : ∀ b ∈ fp, ∀ o, s7.heap.get? b = some o → s'.heap.get? b = some o ∧ H' b = none := fun b hb o e => by
        have z := Jz.pin (b, o) (List.mem_append_right _ (List.mem_append_right _ (mem_pinsAt hb e)))
        exact ⟨z.1, z.2.1⟩
      have hlen : (wipe σ (own.map (·.2))).length = σ8.length := by rw [← hw8, wipe_length]
      refine ⟨m', hm, i + 1, H', (Jz.unpinned (pins := [])).weak hlen (fun j v e => ?_), T.keep _ _ _ st7 fun b hb o e => (pin b hb o e).1, fun b hb => ?_, w'⟩
      · rw [← hw8] at e
        exact (wipe_some e).1
      · obtain ⟨o, e, _⟩ := T.obj _ _ st7 b hb
        exact (pin b hb o e).2
    cases b with
    | false =>
      simp only [Bool.false_eq_true, if_false] at q9 ⊢
      exact fin _ _ Ja q9
    | true =>
      simp only [if_true] at q9 ⊢
      refine thnF (pk.run _ s9 σ8 H9 _ Ja q9) fun z s10 ⟨yk, Hb, Jb, rb, qb⟩ => ?_
      refine thnF (pe.run _ s10 σ8 Hb _ Jb qb) fun z2 s11 ⟨yv, Hc, Jc, rc, ad⟩ => ?_
      exact putT_ok (X := Y) hu Jc rb rc ad fin
end

set_option Elab.async false
set_option linter.all false
set_option maxRecDepth 100000
set_option maxHeartbeats 4000000
open PySem PySem.Spec PyProof.Rows L2
section
variable {X : Cx} {K : PySem.W.Frag} {P : Program} {w : World} {σ : L2.St} {H : Hp} {Q : VK} {D : Addr}
theorem PI.enumTK {tg e : Expr} {ta : TA} (h : X.K = K) (p : PI X tg e (iEnumT X.K ta)) : PI X tg e (iEnumT K ta) := h ▸ p
def EnT (K : PySem.W.Frag) (R : It → Hp → Prop) : List V → Hp → Prop := fun vs H1 => ∃ a xs, vs = [.ref a] ∧ SqT K H1 a xs ∧ R (IteT K a) H1
theorem r_enumT {ta : TA} {R : It → Hp → Prop} (h : ta σ H (EnT K R)) : iEnumT K ta σ H R := h
theorem r_en {a : Addr} {xs : List V} {R : It → Hp → Prop} (h : SqT K H a xs) (q : R (IteT K a) H) : EnT K R [.ref a] H := ⟨a, xs, rfl, h, q⟩
/-! ## number dicts -/
def PutK (D : Addr) (N : Hp → Prop) (y z : V) (H : Hp) : Prop := ∃ (kvs : List (L2.Key × V)) (k : L2.Key), y = kV k ∧ H D = some (.dK kvs) ∧ kvs.length < sizeLine ∧ N (upd H D (.dK (putK kvs k z)))
theorem r_putK {N : Hp → Prop} {i : Int} {z : V} {kvs : List (L2.Key × V)} (h : H D = some (.dK kvs)) (s : kvs.length < 100000) (n : N (upd H D (.dK (putK kvs (.inl i) z)))) : PutK D N (.int i) z H := ⟨kvs, .inl i, rfl, h, small_lt s, n⟩
def KcR (J : It) (g : TG) (tt : TT) (tk tv : TE) (vs : List Nat) (σ : L2.St) (D : Addr) (Q : VK) (H1 : Hp) : Prop := ∃ W : Nat → Nat → Hp → Prop, (∃ m0, W 0 m0 (upd H1 D (.dK []))) ∧ ∀ i m H, W i m H →
  (J.stop i H ∧ Q (.ref D) H) ∨ (J.go i H ∧ ∃ Nx : Hp → Prop, (∀ H', Nx H' → ∃ m', m' < m ∧ W (i + 1) m' H') ∧ ∀ x H', J.yld i H x H' → g x (wipe σ vs) H' fun σ2 H2 => wipe σ2 vs = wipe σ vs ∧ tt σ2 H2 fun b H3 => if b = true then tk σ2 H3 fun y H4 => tv σ2 H4 (fun z H5 => PutK D Nx y z H5) else Nx H3)
theorem r_dcK {wi : TI} {g : TG} {tt : TT} {tk tv : TE} {vs : List Nat} (h : wi σ H fun J H1 => ∀ D, H1 D = none → KcR J g tt tk tv vs σ D Q H1) : tDc wi g tt tk tv vs σ H Q := h
theorem r_dcT {wi : TI} {g : TG} {tt : TT} {tk tv : TE} {vs : List Nat} (h : wi σ H fun J H1 => ∀ D, H1 D = none → DcR J g tt tk tv vs σ D Q H1) : tDcT wi g tt tk tv vs σ H Q := h
theorem kcR_enumT {a : Addr} {xs : List V} {g : TG} {tt : TT} {tk tv : TE} {vs : List Nat} {σw : L2.St} (Pv : Nat → Hp → Prop) (ew : wipe σ vs = σw) (h0 : Pv 0 (upd H D (.dK []))) (hl : ∀ i H, i ≤ xs.length → Pv i H → SqT K H a xs)
    (hs : ∀ (i : Nat) x H T, xs[i]? = some x → Pv i H → H T = none → g (.ref T) σw (upd H T (.tup [.int (i : Nat), x])) fun σ2 H2 => wipe σ2 vs = σw ∧ tt σ2 H2 fun b H3 => if b = true then tk σ2 H3 fun y H4 => tv σ2 H4 (fun z H5 => PutK D (Pv (i + 1)) y z H5) else Pv (i + 1) H3) (hd : ∀ H, Pv xs.length H → Q (.ref D) H) :
    KcR (IteT K a) g tt tk tv vs σ D Q H := by
  subst ew
  refine ⟨fun i m H => (m = xs.length - i ∧ i ≤ xs.length) ∧ Pv i H, ⟨_, ⟨rfl, Nat.zero_le _⟩, h0⟩, fun i m H ⟨⟨em, hi⟩, p⟩ => ?_⟩
  subst em
  have hq := hl i H hi p
  rcases Nat.lt_or_ge i xs.length with c | c
  · refine .inr ⟨⟨xs, xs[i], hq, List.getElem?_eq_getElem c⟩, Pv (i + 1), fun H' p' => ⟨_, by omega, ⟨rfl, c⟩, p'⟩, fun x H' ⟨T, y, e1, e2, e3, e4⟩ => ?_⟩
    subst e1 e3
    exact hs i y H T (e4 xs hq) p e2
  · have e : i = xs.length := by omega
    exact .inl ⟨⟨xs, hq, c⟩, hd H (e ▸ p)⟩
theorem dcR_tup {a : Addr} {xs : List V} {g : TG} {tt : TT} {tk tv : TE} {vs : List Nat} {σw : L2.St} (Pv : Nat → Hp → Prop) (ew : wipe σ vs = σw) (h0 : Pv 0 (upd H D (.dT []))) (hl : ∀ i H, i ≤ xs.length → Pv i H → SqT K H a xs)
    (hs : ∀ (i : Nat) x H, xs[i]? = some x → Pv i H → g x σw H fun σ2 H2 => wipe σ2 vs = σw ∧ tt σ2 H2 fun b H3 => if b = true then tk σ2 H3 fun y H4 => tv σ2 H4 (PutT D (Pv (i + 1)) y) else Pv (i + 1) H3) (hd : ∀ H, Pv xs.length H → Q (.ref D) H) :
    DcR (Itt K a) g tt tk tv vs σ D Q H := by
  subst ew
  refine ⟨fun i m H => (m = xs.length - i ∧ i ≤ xs.length) ∧ Pv i H, ⟨_, ⟨rfl, Nat.zero_le _⟩, h0⟩, fun i m H ⟨⟨em, hi⟩, p⟩ => ?_⟩
  subst em
  have hq := hl i H hi p
  rcases Nat.lt_or_ge i xs.length with c | c
  · exact .inr ⟨⟨xs, xs[i], hq, List.getElem?_eq_getElem c⟩, Pv (i + 1), fun H' p' => ⟨_, by omega, ⟨rfl, c⟩, p'⟩, fun x H' ⟨e, y⟩ => e ▸ hs i x _ (y xs hq) p⟩
  · have e : i = xs.length := by omega
    exact .inl ⟨⟨xs, hq, c⟩, hd H (e ▸ p)⟩
/-! ## two clauses -/
def LnR (J1 : It) (g1 : TG) (tt1 : TT) (te : TE) (vs1 : List Nat) (σ2 : L2.St) (D : Addr) (Nx : Hp → Prop) (H4 : Hp) : Prop := ∃ W1 : Nat → Nat → Hp → Prop, (∃ m1, W1 0 m1 H4) ∧ ∀ j k H, W1 j k H →
  (J1.stop j H ∧ Nx H) ∨ (J1.go j H ∧ ∃ Nx1 : Hp → Prop, (∀ H', Nx1 H' → ∃ k', k' < k ∧ W1 (j + 1) k' H') ∧ ∀ x H', J1.yld j H x H' → g1 x (wipe σ2 vs1) H' fun σ3 H5 => wipe σ3 vs1 = wipe σ2 vs1 ∧ tt1 σ3 H5 fun b H6 => if b = true then te σ3 H6 (LcE D Nx1) else Nx1 H6)
def Lc2R (J : It) (g : TG) (tt : TT) (wi1 : TI) (g1 : TG) (tt1 : TT) (te : TE) (vs vs1 : List Nat) (σ : L2.St) (D : Addr) (Q : VK) (H1 : Hp) : Prop := ∃ W : Nat → Nat → Hp → Prop, (∃ m0, W 0 m0 (upd H1 D (.lst []))) ∧ ∀ i m H, W i m H →
  (J.stop i H ∧ Q (.ref D) H) ∨ (J.go i H ∧ ∃ Nx : Hp → Prop, (∀ H', Nx H' → ∃ m', m' < m ∧ W (i + 1) m' H') ∧ ∀ x H', J.yld i H x H' → g x (wipe σ vs) H' fun σ2 H2 => wipe σ2 vs = wipe σ vs ∧ tt σ2 H2 fun b H3 => if b = true then wi1 σ2 H3 fun J1 H4 => LnR J1 g1 tt1 te vs1 σ2 D Nx H4 else Nx H3)
theorem r_lc2 {wi wi1 : TI} {g g1 : TG} {tt tt1 : TT} {te : TE} {vs vs1 : List Nat} (h : wi σ H fun J H1 => ∀ D, H1 D = none → Lc2R J g tt wi1 g1 tt1 te vs vs1 σ D Q H1) : tLc2 wi g tt wi1 g1 tt1 te vs vs1 σ H Q := h
theorem lnR_range {lo : Int} {n : Nat} {g1 : TG} {tt1 : TT} {te : TE} {vs1 : List Nat} {σ2 σw : L2.St} {Nx : Hp → Prop} (Pv : Nat → Hp → Prop) (ew : wipe σ2 vs1 = σw) (h0 : Pv 0 H)
    (hs : ∀ (i : Nat) H, i < n → Pv i H → g1 (.int (lo + i)) σw H fun σ3 H5 => wipe σ3 vs1 = σw ∧ tt1 σ3 H5 fun b H6 => if b = true then te σ3 H6 (LcE D (Pv (i + 1))) else Pv (i + 1) H6) (hd : ∀ H, Pv n H → Nx H) : LnR (Itr lo n) g1 tt1 te vs1 σ2 D Nx H := by
  subst ew
  refine ⟨fun i m H => (m = n - i ∧ i ≤ n) ∧ Pv i H, ⟨_, ⟨rfl, Nat.zero_le _⟩, h0⟩, fun i m H ⟨⟨em, hi⟩, p⟩ => ?_⟩
  subst em
  rcases Nat.lt_or_ge i n with c | c
  · refine .inr ⟨c, Pv (i + 1), fun H' p' => ⟨_, by omega, ⟨rfl, c⟩, p'⟩, fun x H' ⟨e1, e2⟩ => ?_⟩
    subst e1 e2
    exact hs i _ c p
  · have e : i = n := by omega
    exact .inl ⟨c, hd H (e ▸ p)⟩
theorem lc2R_range {lo : Int} {n : Nat} {wi1 : TI} {g g1 : TG} {tt tt1 : TT} {te : TE} {vs vs1 : List Nat} {σw : L2.St} (Pv : Nat → Hp → Prop) (ew : wipe σ vs = σw) (h0 : Pv 0 (upd H D (.lst [])))
    (hs : ∀ (i : Nat) H, i < n → Pv i H → g (.int (lo + i)) σw H fun σ2 H2 => wipe σ2 vs = σw ∧ tt σ2 H2 fun b H3 => if b = true then wi1 σ2 H3 fun J1 H4 => LnR J1 g1 tt1 te vs1 σ2 D (Pv (i + 1)) H4 else Pv (i + 1) H3) (hd : ∀ H, Pv n H → Q (.ref D) H) : Lc2R (Itr lo n) g tt wi1 g1 tt1 te vs vs1 σ D Q H := by
  subst ew
  refine ⟨fun i m H => (m = n - i ∧ i ≤ n) ∧ Pv i H, ⟨_, ⟨rfl, Nat.zero_le _⟩, h0⟩, fun i m H ⟨⟨em, hi⟩, p⟩ => ?_⟩
  subst em
  rcases Nat.lt_or_ge i n with c | c
  · refine .inr ⟨c, Pv (i + 1), fun H' p' => ⟨_, by omega, ⟨rfl, c⟩, p'⟩, fun x H' ⟨e1, e2⟩ => ?_⟩
    subst e1 e2
    exact hs i _ c p
  · have e : i = n := by omega
    exact .inl ⟨c, hd H (e ▸ p)⟩
/-! ## what dicts hold -/
def DgN (Q : VK) (x : V) : VK := fun y H2 => ∃ a v, x = .ref a ∧ DGet H2 a y (some v) ∧ Q v H2
theorem r_dget {td ty : TE} (h : td σ H fun x H1 => ty σ H1 (DgN Q x)) : tDGet td ty σ H Q := h
theorem r_dgK {a : Addr} {kvs : List (L2.Key × V)} {i : Int} {v : V} (h : H a = some (.dK kvs)) (e : valV kvs (.inl i) = some v) (q : Q v H) : DgN Q (.ref a) (.int i) H := ⟨a, v, rfl, e ▸ DGet.k (k := .inl i) h, q⟩
def DnN (Q : VK) (y : V) : VK := fun x H2 => ∃ a o, x = .ref a ∧ DGet H2 a y o ∧ Q (.bl (!o.isSome)) H2
theorem r_dnot {td ty : TE} (h : ty σ H fun y H1 => td σ H1 (DnN Q y)) : tDNotIn ty td σ H Q := h
theorem r_dnT {a b : Addr} {kvs : List (List L2.Key × V)} {k : List L2.Key} (h : H a = some (.dT kvs)) (hb : H b = some (.tup (k.map kV))) (q : Q (.bl (!(valV kvs k).isSome)) H) : DnN Q (.ref b) (.ref a) H := ⟨a, _, rfl, .t h hb, q⟩
theorem op_catAK (h : X.K = K) : OpR X (binaryOp .Add) (rCatA K) := h ▸ op_catA
theorem r_catA {l b : Addr} {xs zs : List V} (h1 : H l = some (.tup xs)) (h2 : H b = some (.tup zs)) (hz : xs.length + zs.length ≤ 100000) (q : ∀ p H', Same H H' → H' p = some (.tup (xs ++ zs)) → Q (.ref p) H') : rCatA K (.ref l) (.ref b) H Q := by
  refine ⟨l, b, xs, zs, rfl, rfl, .inl (.inl h1), .inl (.inl h2), small_len hz, fun e => ?_, fun e1 e2 => ?_, fun e1 e2 p hp => q p _ (same_new hp) upd_same⟩
  · subst e
    exact q b H (fun _ _ h => h) h2
  · subst e2
    refine q l H (fun _ _ h => h) ?_
    rw [List.append_nil]
    exact h1
end

set_option Elab.async false
set_option linter.all false
set_option maxRecDepth 100000
set_option maxHeartbeats 4000000
open PySem PySem.Spec PyProof.Rows L2
/-! # match on tuples: a word, then names -/
/-- each pattern of these is a bare name -/
inductive Caps : List Pattern → List PySem.Str → Prop where
  | nil : Caps [] []
  | cons {ps : List Pattern} {ns : List PySem.Str} (n : PySem.Str) (p : Pos) (r : Caps ps ns) : Caps (.MatchAs none (some n) p :: ps) (n :: ns)
section
variable {M : Model} {A : Around} {E : Value → Shared → Prop} {env : Env}
theorem caps_each {ps : List Pattern} {ns : List PySem.Str} (c : Caps ps ns) : ∀ {us : List Value} {s : Shared} {Q : Option (List (PySem.Str × Value)) → Shared → Prop}, us.length = ns.length → Q (some (ns.zip us)) s → wpAny M A (matchEach ps env us) Q E s := by
  induction c with
  | nil =>
    intro us s Q hl h
    have e : us = [] := List.length_eq_zero_iff.mp hl
    subst e
    exact wpAny_matchEach_nil h
  | @cons ps ns n p r ih =>
    intro us s Q hl h
    cases us with
    | nil => cases hl
    | cons u us =>
      refine wpAny_matchEach_cons (wpAny_matchPattern_Capture ?_)
      exact ih (by simpa using hl) h
theorem Caps.len {ps : List Pattern} {ns : List PySem.Str} (c : Caps ps ns) : ps.length = ns.length := by
  induction c with
  | nil => rfl
  | cons n p r ih => simp [ih]
theorem zip_names (f : PySem.Str → Value → Sem Unit) : ∀ (ns : List PySem.Str) (us : List Value), us.length = ns.length → ((ns.zip us).map fun (n, _) => f n) = ns.map f ∧ (ns.zip us).map (·.2) = us
  | [], [], _ => ⟨rfl, rfl⟩
  | [], _ :: _, h => by cases h
  | _ :: _, [], h => by cases h
  | n :: ns, u :: us, h => by
    obtain ⟨h1, h2⟩ := zip_names f ns us (by simpa using h)
    simp only [List.zip_cons_cons, List.map_cons]
    exact ⟨by rw [h1], by rw [h2]⟩
end
section
variable {X : Cx}
/-- names that are bound, one after another -/
structure PBn (X : Cx) (ns : List PySem.Str) (t : TGs) : Prop where
  run : ∀ (pins : List (Addr × Obj)) (s : Shared) (σ : L2.St) (H : Hp) (vs : List V) (us : List Value) (Q : L2.St → Hp → Prop), Inv X pins σ H s → Vals vs us → t vs σ H Q → wpAny (model X.prog X.w) X.A (assignInOrder (ns.map (bindName X.env)) us) (fun _ s' => ∃ σ' H', Inv X pins σ' H' s' ∧ Q σ' H') X.xe s
theorem bn_nil : PBn X [] gNil := ⟨fun pins s σ H vs us Q I r h => by
  obtain ⟨e, h⟩ := h
  subst e
  cases r
  exact assignInOrder_nil ⟨σ, H, I, h⟩⟩
theorem bn_cons {i : Nat} {x : PySem.Str} {ns : List PySem.Str} {u : TGs} (hN : X.N.Nodup) (hi : X.N[i]? = some x) (hx : Loc X.env.scope x) (h2 : PBn X ns u) (hf : X.fn x = true ∨ X.env.scope.names.lookup x = some .local := by first | exact .inl rfl | exact .inr rfl) : PBn X (x :: ns) (gCons (gName i) u) := ⟨fun pins s σ H vs us Q I r h => by
  obtain ⟨v, vr, e, h⟩ := h
  subst e
  cases r with
  | @cons _ u0 _ us0 r0 rs =>
    have st : wpAny (model X.prog X.w) X.A (bindName X.env x u0) (fun _ s' => ∃ σ' H', Inv X pins σ' H' s' ∧ u vr σ' H' Q) X.xe s := wpAny_bindName (store_ok I hN hi hx r0 (fun s' I' => ⟨_, H, I', h⟩) hf)
    exact wpAny_assignInOrder_more (thn st fun _ s1 ⟨σ1, H1, I1, q1⟩ => h2.run pins s1 σ1 H1 _ _ Q I1 rs q1)⟩
/-- the cases of a match, behind the subject -/
structure PMc (X : Cx) (cs : List MatchCase) (t : V → TS) : Prop where
  run : ∀ (pins : List (Addr × Obj)) (s : Shared) (σ : L2.St) (H : Hp) (D : Ends) (v : V) (u : Value) (first : Bool), Inv X pins σ H s → RelV v u → t v D σ H → wpAny (model X.prog X.w) X.A (matchCases cs X.env u first) (SP X pins D) X.xe s
theorem pm_nil : PMc X [] (fun _ D σ H => D.nx σ H) := ⟨fun pins s σ H D v u first I r h => wpAny_matchCases_nil ⟨σ, H, I, h⟩⟩
def tMatch (te : TE) (t : V → TS) : TS := fun D σ H => te σ H fun v H1 => t v D σ H1
theorem ps_match {e : Expr} {cs : List MatchCase} {pos : Pos} {te : TE} {t : V → TS} (he : PE X e te) (hc : PMc X cs t) : PS X (.Match e cs pos) (tMatch te t) :=
  ⟨fun pins s σ H D I h => wpAny_Match (thn (he.run pins s σ H _ I h) fun u s1 ⟨v, H1, I1, r, q⟩ => hc.run pins s1 σ H1 D v u true I1 r q)⟩
/-- case [z, n1, ..] -/
def tWord (K : PySem.W.Frag) (z : PySem.Str) (n : Nat) (g : TGs) (tb : TS) (rest : V → TS) : V → TS := fun v D σ H => ∃ (a : Addr) (y : PySem.Str) (xs : List V), v = .ref a ∧ SqT K H a (.str y :: xs) ∧ (xs.length ≠ n → rest v D σ H) ∧
  (xs.length = n → (y = z → g xs σ H fun σ' H' => tb D σ' H') ∧ (y ≠ z → rest v D σ H))
theorem pm_word {z : PySem.Str} {j : Nat} {p1 p2 p3 : Pos} {ps : List Pattern} {ns : List PySem.Str} {body : List Stmt} {cs : List MatchCase} {g : TGs} {tb : TS} {rest : V → TS} (hc : X.calm = true) (c : Caps ps ns) (hg : PBn X ns g) (hb : PSs X body tb) (hr : PMc X cs rest)
    (hs : (Pattern.MatchValue (.Constant (.str z) j p1) p2 :: ps).findIdx? (·.isStar) = none := by rfl)
    (hw : ((Pattern.MatchValue (.Constant (.str z) j p1) p2 :: ps).all fun p => p.isWildcard || (p.isStar && p.names.isEmpty)) = false := by rfl) :
    PMc X (⟨.MatchSequence (.MatchValue (.Constant (.str z) j p1) p2 :: ps) p3, none, body⟩ :: cs) (tWord X.K z ns.length g tb rest) := by
  refine ⟨fun pins s σ H D v u first I r h => ?_⟩
  obtain ⟨a, y, xs, rfl, hq, other, here⟩ := h
  cases r
  obtain ⟨its, rv, p, hz⟩ := I.tuple hq
  obtain ⟨u0, us, rfl, r0, rs⟩ : ∃ u0 us, its = u0 :: us ∧ RelV (.str y) u0 ∧ Vals xs us := by
    cases rv with
    | cons r0 rs => exact ⟨_, _, rfl, r0, rs⟩
  have xl : xs.length = us.length := rs.length
  have fit : (((u0 :: us).toArray.size : Nat) : Int) < 2 ^ 63 := by
    have h1 : (u0 :: us).toArray.size ≤ sizeLine := by
      have z := hz
      simp only [List.length_cons] at z
      simp only [List.size_toArray, List.length_cons]
      omega
    rw [sizeLine_eq] at h1
    omega
  refine wpAny_matchCases_cons ?_
  by_cases hl : xs.length = ns.length
  · refine matchSeq_tuple_hit p fit (by simp [c.len, ← hl, xl]) ?_ hs hw
    have en : (Pattern.MatchValue (.Constant (.str z) j p1) p2 :: ps).length = (u0 :: us).toArray.size := by simp [c.len, ← hl, xl]
    rw [en]
    refine wpAny_unpackItems_tuple (I.ok.hd hc) p fun h' eb => ?_
    have I1 : Inv X pins σ H { s with heap := h', toks := s.toks + 1 + 1 } := I.kept (t' := s.toks + 1 + 1) fun b o e => eb b o (Nat.ne_of_lt (Heap.lt_size e)) e
    show wpAny _ _ (matchEach _ _ (u0 :: us)) _ _ _
    refine wpAny_matchEach_cons (wpAny_matchPattern_Value ?_)
    have pz : PE X (.Constant (.str z) j p1) (tC (.str z)) := pe_str
    refine thn (pz.run pins _ σ H (fun x H' => x = .str z ∧ H' = H) I1 ⟨rfl, rfl⟩) fun uz s2 ⟨vz, H2, I2, rz, ez, eh⟩ => ?_
    subst ez eh
    refine thn (op_eq pins s2 σ H2 (.str y) (.str z) u0 uz (fun x H' => x = .bl (decide (y = z)) ∧ H' = H2) I2 r0 rz ⟨rfl, ?_, rfl⟩) fun uc s3 ⟨vc, H3, I3, rc, ec, eh3⟩ => ?_
    · exact congrArg V.bl (by simp)
    · subst ec eh3
      cases (show uc = Value.bool (decide (y = z)) from rc)
      have fin : rest (.ref a) D σ H3 → wpAny (model X.prog X.w) X.A (matchCases cs X.env (.ref a) false) (SP X pins D) X.xe s3 := fun w => hr.run pins s3 σ H3 D (.ref a) (.ref a) false I3 rfl w
      obtain ⟨yes, no⟩ := here hl
      refine wpAny_truthy_bool ?_
      by_cases e : y = z
      · rw [decide_eq_true e, if_pos rfl]
        refine caps_each c (by omega) ?_
        obtain ⟨z1, z2⟩ := zip_names (bindName X.env) ns us (by omega)
        show wpAny _ _ (assignInOrder ((([] : List (PySem.Str × Value)) ++ ns.zip us).map fun (n, _) => bindName X.env n) ((([] : List (PySem.Str × Value)) ++ ns.zip us).map (·.2))) _ _ _
        rw [List.nil_append, z1, z2]
        refine thn (hg.run pins s3 σ H3 xs us _ I3 rs (yes e)) fun _ s4 ⟨σ4, H4, I4, q4⟩ => ?_
        exact hb.run pins s4 σ4 H4 D I4 q4
      · rw [decide_eq_false e]
        exact fin (no e)
  · refine matchSeq_tuple_miss p fit (by simp [c.len]; omega) ?_ hs hw
    exact hr.run pins _ σ H D (.ref a) (.ref a) false (I.kept (t' := _) fun b o e => e) rfl (other hl)
theorem pm_wordK {K : PySem.W.Frag} (hk : X.K = K) {z : PySem.Str} {j : Nat} {p1 p2 p3 : Pos} {ps : List Pattern} {ns : List PySem.Str} {body : List Stmt} {cs : List MatchCase} {g : TGs} {tb : TS} {rest : V → TS} (hc : X.calm = true) (c : Caps ps ns) (hg : PBn X ns g) (hb : PSs X body tb) (hr : PMc X cs rest)
    (hs : (Pattern.MatchValue (.Constant (.str z) j p1) p2 :: ps).findIdx? (·.isStar) = none := by rfl)
    (hw : ((Pattern.MatchValue (.Constant (.str z) j p1) p2 :: ps).all fun p => p.isWildcard || (p.isStar && p.names.isEmpty)) = false := by rfl) :
    PMc X (⟨.MatchSequence (.MatchValue (.Constant (.str z) j p1) p2 :: ps) p3, none, body⟩ :: cs) (tWord K z ns.length g tb rest) := hk ▸ pm_word hc c hg hb hr hs hw
theorem pa_starK {K : PySem.W.Frag} {e : Expr} {p : Pos} {es : List Expr} {te : TE} {t : TA} (hk : X.K = K) (he : PE X e te) (ha : PA X es t) : PA X (.Starred e p :: es) (StX.tStar K te t) := hk ▸ StX.pa_star he ha
variable {K : PySem.W.Frag} {σ : L2.St} {H : Hp} {D : Ends}
theorem r_match {te : TE} {t : V → TS} (h : te σ H fun v H1 => t v D σ H1) : tMatch te t D σ H := h
theorem r_wHit {z : PySem.Str} {n : Nat} {g : TGs} {tb : TS} {rest : V → TS} {a : Addr} {xs : List V} (h : H a = some (.tup (.str z :: xs))) (hl : xs.length = n) (q : g xs σ H fun σ' H' => tb D σ' H') : tWord K z n g tb rest (.ref a) D σ H :=
  ⟨a, z, xs, rfl, .inl (.inl h), fun x => absurd hl x, fun _ => ⟨fun _ => q, fun x => absurd rfl x⟩⟩
theorem r_wMiss {z y : PySem.Str} {n : Nat} {g : TGs} {tb : TS} {rest : V → TS} {a : Addr} {xs : List V} (h : H a = some (.tup (.str y :: xs))) (ne : xs.length ≠ n ∨ y ≠ z) (q : rest (.ref a) D σ H) : tWord K z n g tb rest (.ref a) D σ H :=
  ⟨a, y, xs, rfl, .inl (.inl h), fun _ => q, fun hl => ⟨fun e => (ne.elim (fun x => absurd hl x) fun x => absurd e x), fun _ => q⟩⟩
def StN (K : PySem.W.Frag) (t : TA) (σ : L2.St) (Q : List V → Hp → Prop) : VK := fun x H1 => ∃ p xs, x = V.ref p ∧ (SqT K H1 p xs ∨ SqL K H1 p xs) ∧ t σ H1 fun ys H2 => Q (xs ++ ys) H2
theorem r_star {te : TE} {t : TA} {Q : List V → Hp → Prop} (h : te σ H (StN K t σ Q)) : StX.tStar K te t σ H Q := h
theorem r_stN {t : TA} {Q : List V → Hp → Prop} {p : Addr} {xs : List V} (h : H p = some (.tup xs)) (q : t σ H fun ys H2 => Q (xs ++ ys) H2) : StN K t σ Q (.ref p) H := ⟨p, xs, rfl, .inl (.inl (.inl h)), q⟩
end

set_option Elab.async false
set_option linter.all false
set_option maxRecDepth 100000
set_option maxHeartbeats 4000000
open PySem PySem.Spec PyProof.Rows L2
/-! # try .. except X as e: .. else: .. -/
section
variable {X : Cx} {cx nm : Str} {cv : Value} {k : Nat} {bd su : List Stmt} {b0 : Stmt} {p1 p2 p3 : Pos} {tb : WX → TS} {ts : Addr → Value → Option Addr → TS} {Wo : WX}
theorem ps_try_asE {els : List Stmt} {te : TS} (hels : PSs X els te) (hst : X.stack = X.env :: X.outer) (hfm : X.env.frame = some X.env.locals) (nd : X.N.Nodup) (hk : X.N[k]? = some nm) (hkind : X.env.kindOf nm = some .local) (hnm : Names X cx cv) (tk : L2N.Takes X Wo)
    (hbd : ∀ (W : WX) (pn : List (Addr × Obj)) (xe : Value → Shared → Prop), L2N.Takes (X.tr pn xe) W → PassesOwn (model X.prog X.w) X.A X.env xe → PSs (X.tr pn xe) bd (tb W))
    (hsu : ∀ (a : Addr) (oe : Obj) (cls : Value) (d : Option Addr) (pn : List (Addr × Obj)), L2N.Zn cls d oe → (∃ vs, oe.data = .fields vs) → PSs (X.suite a ((a, oe) :: pn)) (b0 :: su) (ts a cls d)) :
    PS X (.Try bd [.ExceptHandler (some (.Name cx p1)) (some nm) (b0 :: su) p2] els [] p3) (fun D σ H => tb (wAs X.K cv k ts Wo D) { D with nx := te D } σ H) :=
  ⟨fun pins s σ H D I goal => by
    have okI := I.ok
    have frm : X.A.frames = some (X.env :: X.outer) := by rw [okI.frames, hst]
    refine wpAny_Try_except (wpAny_mono ((hbd (wAs X.K cv k ts Wo D) (X.pn ++ pins) (fun e t => wpAny (model X.prog X.w) X.A (noteFrame e X.env)
      (fun _ t2 => wpAny (model X.prog X.w) X.A (setFlight e none) (fun _ t3 => wpAny (model X.prog X.w) X.A (handleBy e X.env [.ExceptHandler (some (.Name cx p1)) (some nm) (b0 :: su) p2]) (SP X pins D) X.xe t3) X.xe t2) X.xe t)
      (fun u t caught => ?_) PassesOwn.looking).run [] s σ H { D with nx := te D } (I.toTry _) goal) (fun fl t done => ?_) (fun _ _ he => he))
    · obtain ⟨a, B, sI, pins', σ1, H1, cls, d, rfl, Jt, nb, up1, sky0, free, ocs, agr, yes, mat, ifYes, ifNo⟩ := caught
      have J := Jt.ofTry okI
      refine L2N.Sky.land L2N.Zn.steady frm hfm (by rw [← hst]; exact sky0) fun hb fb ub => ?_
      have Jb : Inv X pins σ1 H1 { t with heap := hb } := J.landed nb fb.1 (up1.trans ub) ocs agr
      obtain ⟨ob, vb, getb, zb, datb⟩ := fb.there
      have apart : a ∉ frs (X.env :: X.outer) := fun mem => by
        obtain ⟨_, o', e', bad⟩ := fb.2.2.1.mem mem
        rw [getb] at e'
        cases e'
        exact bad _ datb
      have neL : a ≠ X.env.locals := fun z => apart (List.mem_filterMap.mpr ⟨X.env, List.mem_cons_self, by rw [hfm, z]⟩)
      have neF : a ∉ X.fs := fun mem => by
        obtain ⟨e, he, z⟩ := List.mem_filterMap.mp mem
        exact apart (List.mem_filterMap.mpr ⟨e, List.mem_cons_of_mem _ he, z⟩)
      have Sb := Jb.suite getb datb free neL neF
      refine wpAny_handleBy_cons (codeAny_handlers_test ?_) (by intro z; cases z)
      have look := PySem.W.exm_one (M := model X.prog X.w) (Jb.kIn) (fun A Q E s' kk z => wpAny_typeOf_ref (kk _ _ getb) (by rw [zb.1]; exact z) : PySem.W.Looks (model X.prog X.w) hb (typeOf (.ref a)) cls) mat
      have head : ∀ {Q E : Value → Shared → Prop}, Q cv { t with heap := hb } → wpAny (model X.prog X.w) (X.A.mark (some (.ref a))) (eval (.Name cx p1) X.env) Q E { t with heap := hb } := fun {Q E} z => by
        obtain ⟨g1, g2, g3 | ⟨g3, g4, g5⟩⟩ := hnm
        · exact ld_glob (X := X.suite a ((a, ob) :: (X.pn ++ pins))) Sb g1 g3 z g2
        · exact ld_blt (X := X.suite a ((a, ob) :: (X.pn ++ pins))) Sb g1 g3 g4 z g5 g2
      refine head (look.here ?_)
      cases yes with
      | true =>
        refine codeAny_handlers_suite_as (HandSPX.lands_againZ fb fun hc fc uc => ?_)
        obtain ⟨oc, vc, getc, zc, datc⟩ := fc.there
        have Jc : Inv X pins σ1 H1 { t with heap := hc } := J.landed nb fc.1 ((up1.trans ub).trans uc) ocs agr
        refine store_ok (X := X.suite a ((a, oc) :: (X.pn ++ pins))) (v := .ref a) (Jc.suite getc datc free neL neF) nd hk (.inl hkind) rfl (fun t5 S5 => ?_) (.inr hkind)
        refine wpAny_mono ((hsu a oc cls d (X.pn ++ pins) zc ⟨_, datc⟩).run [] t5 _ H1 _ S5 (ifYes rfl a free)) (fun fl t6 done => ?_) (fun _ _ z => False.elim z)
        have away : ∀ {σe : L2.St} {He : Hp} {Q : Shared → Prop}, Inv (X.suite a ((a, oc) :: (X.pn ++ pins))) [] σe He t6 → (∀ t7, Inv X pins (σe.set k none) He t7 → Q t7) →
            wpAny (model X.prog X.w) X.A (do bindName X.env nm .none; unbindBehindTheSuite X.env nm p2) (fun _ t7 => Q t7) X.xe t6 := fun Se z => gone_ok (Se.unsuite okI) nd hk hkind z
        cases fl with
        | next => obtain ⟨_, _, Se, z⟩ := done; exact away Se fun _ Jz => ⟨_, _, Jz, z⟩
        | brk => obtain ⟨_, _, Se, z⟩ := done; exact away Se fun _ Jz => ⟨_, _, Jz, z⟩
        | cont => obtain ⟨_, _, Se, z⟩ := done; exact away Se fun _ Jz => ⟨_, _, Jz, z⟩
        | ret u => obtain ⟨_, _, _, Se, r, z⟩ := done; exact away Se fun _ Jz => ⟨_, _, _, Jz, r, z⟩
      | false =>
        refine wpAny_handleBy_nil ?_
        obtain ⟨_, _, _, oe, vs, T, oT, _, he, _, hd, first, _⟩ := id fb
        unfold PySem.passOn
        refine wpAny_bind (wpAny_field he hd first ?_)
        rw [if_neg (show ¬ ((Value.ref T == Value.none) = true) from by simp)]
        have out : wpAny (model X.prog X.w) X.A (setFlight (.ref a) X.env.frame) (fun _ t4 => wpAny (model X.prog X.w) X.A (throw (.ref a) : Sem Flow) (SP X pins D) X.xe t4) X.xe { t with heap := hb } := by
          rw [hfm]
          exact HandSPX.setFlight_upZ fb fun hc sky2 uc => wpAny_throw (tk _ _ ⟨a, B, sI, pins, σ1, H1, cls, d, rfl, J, nb, (up1.trans ub).trans uc, .inr (.inr (by rw [hst]; exact sky2)), free, ocs, agr, ifNo rfl⟩)
        first
          | exact wpAny_bind (wpAny_pure (wpAny_bind out))
          | exact wpAny_bind out
    · cases fl with
      | next => obtain ⟨σ1, H1, J, z⟩ := done; exact hels.run pins t σ1 H1 D (J.ofTry okI) z
      | brk => obtain ⟨σ1, H1, J, z⟩ := done; exact ⟨σ1, H1, J.ofTry okI, z⟩
      | cont => obtain ⟨σ1, H1, J, z⟩ := done; exact ⟨σ1, H1, J.ofTry okI, z⟩
      | ret u => obtain ⟨v, σ1, H1, J, r, z⟩ := done; exact ⟨v, σ1, H1, J.ofTry okI, r, z⟩⟩
end

set_option Elab.async false
set_option linter.all false
set_option maxRecDepth 100000
set_option maxHeartbeats 4000000
open PySem PySem.Spec PyProof.Rows L2
/-! # what a suite of except may do: min and max of two ints, calls -/
section
variable {prog : Program} {w : World} {A : Around} {E : Value → Shared → Prop} {s : Shared}
theorem tup_end_hot {it t x1 : Addr} {i : Nat} {items : Array Value} {Q : Option Value → Shared → Prop} (hot : HotX.HotAt A x1 s.heap) (ne : x1 ≠ it) (hit : s.heap.IsTupleIter it t i) (ht : s.heap.IsTuple t items) (none_ : items[i]? = none)
    (q : ∀ h', Heap.ExtBut it s.heap h' → Q none { s with heap := h' }) : wpAny (model prog w) A (pyNext (.ref it)) Q E s := by
  obtain ⟨hh, o1, v1, g1, d1, c1⟩ := hot
  obtain ⟨o, ho, hc, hd⟩ := id hit
  obtain ⟨ol, hol, _, nl, hdl⟩ := ht
  unfold pyNext
  refine wpAny_bind (wpAny_attempt (wpAny_callSpecial?_slot (name := Str.ofString "__next__") hit.typeIs F.slot_tuple_iterator_next
    (wpAny_call_entry F.slot_tuple_iterator_next hit.typeIs F.entry_tuple_iterator_next ?_ (F.args_tuple_iterator_next_1 _))))
  refine wpAny_bind (m := field (.ref it) 0) (wpAny_field ho hd (x := .ref t) rfl ?_)
  rw [if_neg (show ¬ ((Value.ref t == Value.none) = true) from Bool.false_ne_true)]
  refine wpAny_bind (m := field (.ref it) 1) (wpAny_field ho hd (x := .int i 0) rfl ?_)
  refine wpAny_bind (m := seqItems? (.ref t)) (wpAny_seqItems hol hdl ?_)
  simp only [Int.toNat_natCast, none_]
  refine wpAny_bind (wpAny_rule (wpAny_bind (wpAny_setField ho hd (by simp) ?_)))
  refine wpAny_bind (m := newExc (.type "StopIteration") []) ?_
  simp only [newExc, newTuple]
  refine wpAny_bind (wpAny_newObj_type ?_ (by size_fits))
  refine wpAny_bind (m := firstArgMember _ _) (wpAny_of_eq (a := Value.none) (by first | rfl | (simp only [firstArgMember]; rfl)) ?_)
  refine wpAny_newObj_type ?_ (by size_fits)
  have old : ∀ {b : Addr} {u : Obj}, b ≠ it → s.heap.get? b = some u → (s.heap.update it (Obj.mapFields (·.setIfInBounds 0 .none))).get? b = some u := fun nb e => (Heap.get?_update_other _ _ (Ne.symm nb)).trans e
  refine HotX.raiseNew_hot ⟨hh, o1, v1, Heap.get?_push_of_some _ (Heap.get?_push_of_some _ (old ne g1)), d1, c1⟩ (Nat.ne_of_lt (Heap.lt_size (Heap.get?_push_of_some _ (old ne g1)))) (Heap.get?_push_size _ rfl) rfl (by first | (simp; done) | (simp; omega) | (simp only [Array.size_append]; simp; omega)) ?_
  refine wpAny_bind (wpAny_isInstance (T := "StopIteration") (b := true) ⟨_, Heap.get?_update_self _ (Heap.get?_push_size _ rfl) rfl, rfl⟩ isSubtype_stop ?_)
  refine wpAny_pure (q _ fun b u nb e => ?_)
  rw [Heap.get?_update_other _ _ (Nat.ne_of_gt (Heap.lt_size (Heap.get?_push_of_some _ (old nb e))))]
  exact Heap.get?_push_of_some _ (Heap.get?_push_of_some _ (old nb e))
/-- a tuple's walk while an exception is handled -/
theorem walks_tup_hot {x1 : Addr} {o1 : Obj} {v1 : Array Value} (hh : A.handled = some (.ref x1)) (d1 : o1.data = .fields v1) (c1 : v1[2]? = some .none) (I ax : Addr) (n1 : ax ≠ I) (n2 : x1 ≠ I) (items : Array Value) :
    Walks prog w A I [I, ax, x1] [I] items.size (fun i v => items[i]? = some v) (fun i h => (h.IsTupleIter I ax i ∧ h.IsTuple ax items) ∧ h.get? x1 = some o1) where
  sub := fun b hb => by simp at hb; simp [hb]
  frame := fun _ _ _ st k => ⟨⟨st.1.1.at fun o e => k I (by simp) o e, st.1.2.at fun o e => k ax (by simp) o e⟩, k x1 (by simp) _ st.2⟩
  item := fun i s Q E hi st q => by
    refine wpAny_pyNext_tuple_item st.1.1 st.1.2 (x := items[i]) (by simp [hi]) fun h' hit' hs' => ?_
    exact q _ h' s.toks (by simp [hi]) ⟨⟨hit', st.1.2.extBut hs'.extBut n1⟩, hs'.extBut x1 o1 n2 st.2⟩ fun b o hb e => hs'.extBut b o (fun h => hb (by simp [h])) e
  done := fun s Q E st q => tup_end_hot ⟨hh, o1, v1, st.2, d1, c1⟩ n2 st.1.1 st.1.2 (by simp) fun h' he => q h' s.toks fun b o hb e => he b o (fun h => hb (by simp [h])) e
  self := fun _ _ _ _ st q => wpAny_pyIter_tupleiter st.1.1 q
theorem min2_hot {x1 : Addr} {a b : Int} {t u : Tok} {Q : Value → Shared → Prop} (hot : HotX.HotAt A x1 s.heap) (q : ∀ h' tk, (∀ c o, s.heap.get? c = some o → h'.get? c = some o) → Q (if b < a then .int b u else .int a t) { s with heap := h', toks := tk }) :
    wpAny (model prog w) A (call (.builtin "min") [.int a t, .int b u]) Q E s := by
  obtain ⟨hh, o1, v1, g1, d1, c1⟩ := hot
  have hT : (s.heap.push { cls := .type "tuple", data := .seq #[.int a t, .int b u] }).IsTuple s.heap.objs.size (intItems #[(a, t), (b, u)]) := ⟨_, Heap.get?_push_size _ rfl, rfl, 0, by simp [intItems]⟩
  have hsz : (s.heap.push { cls := .type "tuple", data := .seq #[.int a t, .int b u] }).objs.size = s.heap.objs.size + 1 := Heap.size_push ..
  have l1 := Heap.lt_size g1
  refine call_min_two (wpAny_pyIter_tuple hT ?_)
  refine ⟨_, _, _, _, _, _, _, rfl, walks_tup_hot (A := A.in1) hh d1 c1 _ s.heap.objs.size (by rw [hsz]; exact Nat.ne_of_lt (Nat.lt_succ_self _)) (by rw [hsz]; exact Nat.ne_of_lt (Nat.lt_succ_of_lt l1)) (intItems #[(a, t), (b, u)]),
    ⟨⟨⟨_, Heap.get?_push_size _ rfl, rfl, rfl⟩, hT.push _⟩, Heap.get?_push_of_some _ (Heap.get?_push_of_some _ g1)⟩, fun c hc => ?_, by simp [intItems], CmpOf.ints_lt (numAt #[(a, t), (b, u)]) (fun _ _ => intItems_at), fun v h' tk hP hk => ?_⟩
  · have sz : ((s.heap.push { cls := .type "tuple", data := .seq #[.int a t, .int b u] }).push { cls := .type "tuple_iterator", data := .fields #[.ref s.heap.objs.size, .int (0 : Nat) 0] }).objs.size = s.heap.objs.size + 2 := by rw [Heap.size_push, hsz]
    have lt : c < s.heap.objs.size + 2 := by
      simp only [List.mem_cons, List.not_mem_nil, or_false] at hc
      rcases hc with e | e | e
      · rw [e, hsz]; exact Nat.lt_succ_self _
      · rw [e]; exact Nat.lt_succ_of_lt (Nat.lt_succ_self _)
      · rw [e]; exact Nat.lt_succ_of_lt (Nat.lt_succ_of_lt l1)
    exact sz ▸ lt
  · have old : ∀ c o, s.heap.get? c = some o → h'.get? c = some o := fun c o e => hk c o (fun hm => by
      have := Heap.lt_size e
      rw [List.mem_singleton.mp hm, hsz] at this
      exact absurd (Nat.lt_of_succ_lt this) (Nat.lt_irrefl _)) (Heap.get?_push_of_some _ (Heap.get?_push_of_some _ e))
    have hv : v = if b < a then Value.int b u else Value.int a t := by
      have e1 : (intItems #[(a, t), (b, u)]).size - 1 = 1 := by simp [intItems]
      rw [e1] at hP
      by_cases c : b < a
      · have e : argBest (fun i j => decide (numAt #[(a, t), (b, u)] i < numAt #[(a, t), (b, u)] j)) 1 = 1 := by simp [argBest, numAt, c]
        rw [e] at hP
        simpa [intItems, c] using hP.symm
      · have e : argBest (fun i j => decide (numAt #[(a, t), (b, u)] i < numAt #[(a, t), (b, u)] j)) 1 = 0 := by simp [argBest, numAt, c]
        rw [e] at hP
        simpa [intItems, c] using hP.symm
    rw [hv]
    exact q h' tk old
theorem max2_hot {x1 : Addr} {a b : Int} {t u : Tok} {Q : Value → Shared → Prop} (hot : HotX.HotAt A x1 s.heap) (q : ∀ h' tk, (∀ c o, s.heap.get? c = some o → h'.get? c = some o) → Q (if b > a then .int b u else .int a t) { s with heap := h', toks := tk }) :
    wpAny (model prog w) A (call (.builtin "max") [.int a t, .int b u]) Q E s := by
  obtain ⟨hh, o1, v1, g1, d1, c1⟩ := hot
  have hT : (s.heap.push { cls := .type "tuple", data := .seq #[.int a t, .int b u] }).IsTuple s.heap.objs.size (intItems #[(a, t), (b, u)]) := ⟨_, Heap.get?_push_size _ rfl, rfl, 0, by simp [intItems]⟩
  have hsz : (s.heap.push { cls := .type "tuple", data := .seq #[.int a t, .int b u] }).objs.size = s.heap.objs.size + 1 := Heap.size_push ..
  have l1 := Heap.lt_size g1
  refine call_max_two (wpAny_pyIter_tuple hT ?_)
  refine ⟨_, _, _, _, _, _, _, rfl, walks_tup_hot (A := A.in1) hh d1 c1 _ s.heap.objs.size (by rw [hsz]; exact Nat.ne_of_lt (Nat.lt_succ_self _)) (by rw [hsz]; exact Nat.ne_of_lt (Nat.lt_succ_of_lt l1)) (intItems #[(a, t), (b, u)]),
    ⟨⟨⟨_, Heap.get?_push_size _ rfl, rfl, rfl⟩, hT.push _⟩, Heap.get?_push_of_some _ (Heap.get?_push_of_some _ g1)⟩, fun c hc => ?_, by simp [intItems], CmpOf.ints_gt (numAt #[(a, t), (b, u)]) (fun _ _ => intItems_at), fun v h' tk hP hk => ?_⟩
  · have sz : ((s.heap.push { cls := .type "tuple", data := .seq #[.int a t, .int b u] }).push { cls := .type "tuple_iterator", data := .fields #[.ref s.heap.objs.size, .int (0 : Nat) 0] }).objs.size = s.heap.objs.size + 2 := by rw [Heap.size_push, hsz]
    have lt : c < s.heap.objs.size + 2 := by
      simp only [List.mem_cons, List.not_mem_nil, or_false] at hc
      rcases hc with e | e | e
      · rw [e, hsz]; exact Nat.lt_succ_self _
      · rw [e]; exact Nat.lt_succ_of_lt (Nat.lt_succ_self _)
      · rw [e]; exact Nat.lt_succ_of_lt (Nat.lt_succ_of_lt l1)
    exact sz ▸ lt
  · have old : ∀ c o, s.heap.get? c = some o → h'.get? c = some o := fun c o e => hk c o (fun hm => by
      have := Heap.lt_size e
      rw [List.mem_singleton.mp hm, hsz] at this
      exact absurd (Nat.lt_of_succ_lt this) (Nat.lt_irrefl _)) (Heap.get?_push_of_some _ (Heap.get?_push_of_some _ e))
    have hv : v = if b > a then Value.int b u else Value.int a t := by
      have e1 : (intItems #[(a, t), (b, u)]).size - 1 = 1 := by simp [intItems]
      rw [e1] at hP
      by_cases c : b > a
      · have e : argBest (fun i j => decide (numAt #[(a, t), (b, u)] i > numAt #[(a, t), (b, u)] j)) 1 = 1 := by first | (simp [argBest, numAt, c]; done) | (simp [argBest, numAt]; omega)
        rw [e] at hP
        simpa [intItems, c] using hP.symm
      · have e : argBest (fun i j => decide (numAt #[(a, t), (b, u)] i > numAt #[(a, t), (b, u)] j)) 1 = 0 := by first | (simp [argBest, numAt, c]; done) | (simp [argBest, numAt]; omega)
        rw [e] at hP
        simpa [intItems, c] using hP.symm
    rw [hv]
    exact q h' tk old
end
section
variable {X : Cx}
theorem call_min2H (hc : L2H.HotC X) : CallR X (.builtin "min") rMin2 := by
  intro pins s σ H xs us Q I r h
  obtain ⟨i, j, rfl, q⟩ := h
  obtain ⟨u, w', rfl, ⟨t, rfl⟩, ⟨t', rfl⟩⟩ := vals2 r
  obtain ⟨x1, hot⟩ := hc.at I
  refine min2_hot hot fun h' tk k => ⟨_, H, I.kept k, ?_, q⟩
  by_cases c : j < i
  · rw [if_pos c, if_pos c]; exact ⟨_, rfl⟩
  · rw [if_neg c, if_neg c]; exact ⟨_, rfl⟩
theorem call_max2H (hc : L2H.HotC X) : CallR X (.builtin "max") rMax2 := by
  intro pins s σ H xs us Q I r h
  obtain ⟨i, j, rfl, q⟩ := h
  obtain ⟨u, w', rfl, ⟨t, rfl⟩, ⟨t', rfl⟩⟩ := vals2 r
  obtain ⟨x1, hot⟩ := hc.at I
  refine max2_hot hot fun h' tk k => ⟨_, H, I.kept k, ?_, q⟩
  by_cases c : j > i
  · rw [if_pos c, if_pos c]; exact ⟨_, rfl⟩
  · rw [if_neg c, if_neg c]; exact ⟨_, rfl⟩
theorem op_inPH {k : Nat} (hr : L2H.RoomH k X.A) : OpR X (compareOp .In) (rInP X.K) := by
  intro pins s σ H x y v u Q I rx ry h
  obtain ⟨p, b, xs, ps, hx, rfl, hb, hp, q⟩ := h
  obtain ⟨as, r1⟩ := Dp.reads I (prD2 p) x v hx.dp rx
  obtain ⟨bs, r2⟩ := Dp.reads I (.tuple (ps.map prD2)) (.ref b) u (.tup hb hp.dps) ry
  exact SeqAt.in_tuple_reads r2 r1 (prD2s_lay ps) (prD2_lay p) (roomP (by have := hr.un; omega) p) ⟨.bl _, H, I, rfl, by rw [prD2s_any]; exact q⟩
theorem op_inPHK {K : PySem.W.Frag} {k : Nat} (h : X.K = K) (hr : L2H.RoomH k X.A) : OpR X (compareOp .In) (rInP K) := h ▸ op_inPH hr
end
section
variable {P : Program} {w : World} {K : PySem.W.Frag} {mg : Str → Option Value} {base : Heap}
/-- a def called in a suite of except -/
theorem okH {x qual : Str} {st : Stmt} {f : Addr} {fd : FuncData} {N ps : List Str} {k : Nat} {sp : Sp} {CX : CXT} (F : Fun K x qual st f fd) (S : FnScope N ps (defScope st)) (len : ∀ vs H Q E, sp vs H Q E → vs.length = ps.length)
    (body : ∀ (cdv : Value) (A : Around) (outer : List Env) (s : Shared) (H : Hp) (vs : List V) (Q : VK) (E : XK) (p : Addr × Obj), L2H.Hot1 A p → L2H.RoomH k (A.deeper (envOfC qual (defScope st) s.heap.objs.size f cdv)) → sp vs H Q E →
      ∃ t, PSs (L2H.cxH CX P w K mg base N qual (defScope st) f cdv A outer s H E p) (defBody st) t ∧ t { nx := fun _ H' => Q .non H', rt := Q } (L2.start N vs) H) : L2H.FnH P w K mg base CX (k + 1) f fd ps sp := by
  obtain ⟨oc, od, kV, doc, pm, an, cdv, ct, osl, rfl, lk, hcd⟩ := F.ex
  exact L2H.fn_ofH lk hcd S len fun A outer s H vs Q E p hot hr hsp => body cdv A outer s H vs Q E p hot hr hsp
theorem pass0H {X : Cx} (σ : L2.St) : PassesAt CX0 X σ (fun _ _ _ => False) := fun _ _ _ _ _ _ h => h.elim
/-- a def that lets out errors whose context is None -/
theorem okN {x qual : Str} {st : Stmt} {f : Addr} {fd : FuncData} {N ps : List Str} {k : Nat} {sp : Sp} (F : Fun K x qual st f fd) (S : FnScope N ps (defScope st)) (len : ∀ vs H Q E, sp vs H Q E → vs.length = ps.length)
    (body : ∀ (cdv : Value) (A : Around) (outer : List Env) (s : Shared) (H : Hp) (vs : List V) (Q : VK) (E : XK), Room k (A.deeper (envOfC qual (defScope st) s.heap.objs.size f cdv)) → sp vs H Q E →
      ∃ t, PSs (cxOf (L2N.CX P w) P w K mg base N qual (defScope st) f cdv A outer s H E) (defBody st) t ∧ t { nx := fun _ H' => Q .non H', rt := Q } (L2.start N vs) H) : FnOk P w K mg base (L2N.CX P w) (k + 1) f fd ps sp := by
  obtain ⟨oc, od, kV, doc, pm, an, cdv, ct, osl, rfl, lk, hcd⟩ := F.ex
  exact fn_of lk hcd S len fun A outer s H vs Q E hr hsp => body cdv A outer s H vs Q E hr hsp
theorem takesN0 {X : Cx} : L2N.Takes X (fun _ _ _ _ => False) := fun _ _ x => by
  obtain ⟨_, _, _, _, _, _, _, _, _, _, _, _, _, _, _, _, z⟩ := x
  exact z.elim
/-- the suite knows the handled exception -/
theorem hot_suite {X : Cx} {a : Addr} {oe : Obj} {cls : Value} {d : Option Addr} {pn : List (Addr × Obj)} (hz : L2N.Zn cls d oe) (hf : ∃ vs, oe.data = .fields vs) : L2H.HotC (X.suite a ((a, oe) :: pn)) := by
  obtain ⟨vs, e⟩ := hf
  exact ⟨(a, oe), ⟨rfl, vs, e, hz.2.2 vs e⟩, List.mem_cons_self⟩
theorem roomH_suite {k : Nat} {X : Cx} {a : Addr} {pn : List (Addr × Obj)} (r : Room k X.A) : L2H.RoomH k (X.suite a pn).A := ⟨r.dp, r.un⟩
end

set_option Elab.async false
set_option linter.all false
set_option maxRecDepth 100000
set_option maxHeartbeats 4000000
open PySem PySem.Spec PyProof.Rows L2
/-- an expression that is never reached -/
def tDead : TE := fun _ _ _ => False
theorem pe_dead {X : Cx} {e : Expr} : PE X e tDead := ⟨fun _ _ _ _ _ _ h => (show False from h).elim⟩
section
variable {K : PySem.W.Frag} {H : Hp} {Q : VK}
theorem r_neSame {x y : V} {t : PyData} (hx : Dp K H x t) (hy : Dp K H y t) (c : t.canLay0 = true) (d : t.depth ≤ 64) (q : Q (.bl false) H) : rNeD K x y H Q := by
  have e : SeqAt.shaped t = true := shaped_of c d
  refine ⟨t, t, hx, hy, e, e, ?_⟩
  rw [PySem.SeqAt.eqv_refl t c]
  exact q
end

set_option Elab.async false
set_option linter.all false
set_option maxRecDepth 100000
set_option maxHeartbeats 4000000
open PySem PySem.Spec PyProof.Rows L2
/-! # sets as the bits of a number -/
structure Msk (x : Int) (S : Int → Prop) : Prop where
  nn : 0 ≤ x
  bits : ∀ i : Nat, x.toNat.testBit i = true ↔ S i
theorem Msk.zero : Msk 0 (fun _ => False) := ⟨by omega, fun i => by simp⟩
theorem Msk.shl {v : Int} (h : 0 ≤ v) : Msk (1 * 2 ^ v.toNat) (fun i => i = v) := by
  have e : (1 * 2 ^ v.toNat : Int) = ((2 ^ v.toNat : Nat) : Int) := by
    rw [Int.one_mul]
    exact (PySem.W.kbt_cast v.toNat).symm
  rw [e]
  refine ⟨Int.natCast_nonneg _, fun i => ?_⟩
  rw [Int.toNat_natCast, Nat.testBit_two_pow, decide_eq_true_eq]
  omega
theorem Msk.or {x y : Int} {S T : Int → Prop} (a : Msk x S) (b : Msk y T) : Msk (Builtin.bitOr x y) (fun i => S i ∨ T i) := by
  rw [Bits.bitOr_pp a.nn b.nn]
  refine ⟨Int.natCast_nonneg _, fun i => ?_⟩
  rw [Int.toNat_natCast, Nat.testBit_or, Bool.or_eq_true, a.bits, b.bits]
theorem Msk.and {x y : Int} {S T : Int → Prop} (a : Msk x S) (b : Msk y T) : Msk (Builtin.bitAnd x y) (fun i => S i ∧ T i) := by
  rw [bitAnd_pp a.nn b.nn]
  refine ⟨Int.natCast_nonneg _, fun i => ?_⟩
  rw [Int.toNat_natCast, Nat.testBit_and, Bool.and_eq_true, a.bits, b.bits]
theorem Msk.congr {x : Int} {S T : Int → Prop} (a : Msk x S) (h : ∀ i : Nat, S i ↔ T i) : Msk x T := ⟨a.nn, fun i => (a.bits i).trans (h i)⟩
theorem Msk.ne0 {x : Int} {S : Int → Prop} (a : Msk x S) : x ≠ 0 ↔ ∃ i : Nat, S i := by
  constructor
  · intro h
    have : x.toNat ≠ 0 := by have := a.nn; omega
    obtain ⟨i, hi⟩ := Nat.exists_testBit_of_ne_zero this
    exact ⟨i, (a.bits i).mp hi⟩
  · rintro ⟨i, hi⟩ e
    have := (a.bits i).mpr hi
    rw [e] at this
    simp at this
theorem Msk.uniq {x y : Int} {S : Int → Prop} (a : Msk x S) (b : Msk y S) : x = y := by
  have : x.toNat = y.toNat := Nat.eq_of_testBit_eq fun i => by
    have h1 := a.bits i
    have h2 := b.bits i
    cases c : x.toNat.testBit i <;> cases d : y.toNat.testBit i <;> simp_all
  have := a.nn
  have := b.nn
  omega
/-- what ors do: a mask of the items of a list -/
theorem Msk.snoc {x v : Int} {ns : List Int} (a : Msk x (fun i => i ∈ ns)) (h : 0 ≤ v) : Msk (Builtin.bitOr x (1 * 2 ^ v.toNat)) (fun i => i ∈ ns ++ [v]) :=
  (a.or (.shl h)).congr fun i => by rw [List.mem_append, List.mem_singleton]
theorem Msk.nil : Msk 0 (fun i => i ∈ ([] : List Int)) := Msk.zero.congr fun i => by simp
/-! ## ints as data -/
theorem dps_int {K : PySem.W.Frag} {H : Hp} : ∀ ns : List Int, DpAll K H (ns.map V.int) (ns.map PyData.int)
  | [] => .nil
  | _ :: ns => .cons (.int _) (dps_int ns)
theorem layI : ∀ ns : List Int, PyData.canLayAll0 (ns.map PyData.int) = true
  | [] => by simp [PyData.canLayAll0]
  | n :: ns => by
    rw [List.map_cons]
    simp only [PyData.canLayAll0, PyData.canLay0, Bool.true_and]
    exact layI ns
theorem depI : ∀ ns : List Int, PyData.depthAll (ns.map PyData.int) ≤ 0
  | [] => by simp [PyData.depthAll]
  | n :: ns => by
    have := depI ns
    rw [List.map_cons]
    simp only [PyData.depthAll, PyData.depth]
    omega
theorem tupI_lay (ns : List Int) : (PyData.tuple (ns.map PyData.int)).canLay0 = true := by
  simp only [PyData.canLay0]
  exact layI ns
theorem tupI_depth (ns : List Int) : (PyData.tuple (ns.map PyData.int)).depth ≤ 1 := by
  have := depI ns
  simp only [PyData.depth]
  omega
theorem lstI_lay (ns : List Int) : (PyData.list (ns.map PyData.int)).canLay0 = true := by
  simp only [PyData.canLay0]
  exact layI ns
theorem lstI_depth (ns : List Int) : (PyData.list (ns.map PyData.int)).depth ≤ 1 := by
  have := depI ns
  simp only [PyData.depth]
  omega
theorem eqvI : ∀ ns ms : List Int, PyData.eqvAll (ns.map PyData.int) (ms.map PyData.int) = decide (ns = ms)
  | [], [] => by simp [PyData.eqvAll]
  | [], _ :: _ => by simp [PyData.eqvAll]
  | _ :: _, [] => by simp [PyData.eqvAll]
  | n :: ns, m :: ms => by
    rw [List.map_cons, List.map_cons]
    simp only [PyData.eqvAll, PyData.eqv]
    rw [eqvI ns ms]
    by_cases h1 : n = m <;> by_cases h2 : ns = ms <;> simp [h1, h2]
theorem tupI_eqv (ns ms : List Int) : PyData.eqv (.tuple (ns.map PyData.int)) (.tuple (ms.map PyData.int)) = decide (ns = ms) := by
  simp only [PyData.eqv]
  exact eqvI ns ms
/-- ints ascending, each once -/
structure DedI (qs fs : List Int) : Prop where
  asc : fs.Pairwise (· < ·)
  mem : ∀ z, z ∈ fs ↔ z ∈ qs
  last : fs.getLast? = qs.getLast?
theorem DedI.nil : DedI [] [] := ⟨.nil, fun _ => Iff.rfl, rfl⟩
theorem DedI.same {qs fs : List Int} {q : Int} (D : DedI qs fs) (h : fs.getLast? = some q) : DedI (qs ++ [q]) fs := by
  refine ⟨D.asc, fun z => ?_, by rw [h, List.getLast?_append]; simp⟩
  rw [List.mem_append, ← D.mem, List.mem_singleton]
  refine ⟨.inl, fun c => c.elim id fun e => ?_⟩
  rw [e]
  exact List.mem_of_getLast? h
theorem DedI.more {qs fs : List Int} {q : Int} (D : DedI qs fs) (hl : (qs ++ [q]).Pairwise (· ≤ ·)) (h : fs.getLast? ≠ some q) : DedI (qs ++ [q]) (fs ++ [q]) := by
  obtain ⟨p1, p2, p3⟩ := List.pairwise_append.mp hl
  refine ⟨List.pairwise_append.mpr ⟨D.asc, by simp, fun a ha b hb => ?_⟩, fun z => by rw [List.mem_append, List.mem_append, D.mem], by rw [List.getLast?_append, List.getLast?_append]; simp⟩
  rw [List.mem_singleton.mp hb]
  have le := p3 a ((D.mem a).mp ha) q List.mem_cons_self
  rcases Int.lt_or_eq_of_le le with e | e
  · exact e
  refine absurd ?_ h
  subst e
  obtain ⟨b, hb'⟩ : ∃ b, fs.getLast? = some b := by
    cases q9 : fs.getLast? with
    | some r => exact ⟨r, rfl⟩
    | none =>
      rw [List.getLast?_eq_none_iff.mp q9] at ha
      cases ha
  have hbq := p3 b ((D.mem b).mp (List.mem_of_getLast? hb')) a List.mem_cons_self
  have hab : a ≤ b := by
    obtain ⟨ys, e⟩ := List.getLast?_eq_some_iff.mp hb'
    rw [e] at ha
    have pw := D.asc
    rw [e] at pw
    rcases List.mem_append.mp ha with c | c
    · have := (List.pairwise_append.mp pw).2.2 a c b List.mem_cons_self
      omega
    · rw [List.mem_singleton.mp c]
      omega
  rw [hb', show b = a by omega]
section
variable {X : Cx} {K : PySem.W.Frag} {σ : L2.St} {H : Hp} {Q : VK}
theorem r_eqNilI {f e : Addr} {ns : List Int} (h : H f = some (.lst (ns.map V.int))) (he : H e = some (.lst [])) (q : Q (.bl (decide (ns = []))) H) : rEqD K (.ref f) (.ref e) H Q := by
  refine ⟨.list (ns.map PyData.int), .list [], .lst (.inl (.inl h)) (dps_int ns), .lst (.inl (.inl he)) .nil, shaped_of (lstI_lay ns) (by have := lstI_depth ns; omega), shaped_of (lstI_lay []) (by have := lstI_depth []; simp only [List.map_nil] at this; omega), ?_⟩
  cases ns with
  | nil => exact q
  | cons p ps => exact q
theorem r_neTI {f e : Addr} {ns ms : List Int} (h : SqT K H f (ns.map V.int)) (he : SqT K H e (ms.map V.int)) (q : Q (.bl (!decide (ns = ms))) H) : rNeD K (.ref f) (.ref e) H Q := by
  refine ⟨.tuple (ns.map PyData.int), .tuple (ms.map PyData.int), .tup h (dps_int ns), .tup he (dps_int ms), shaped_of (tupI_lay ns) (by have := tupI_depth ns; omega), shaped_of (tupI_lay ms) (by have := tupI_depth ms; omega), ?_⟩
  rw [tupI_eqv]
  exact q
theorem r_sortI {a : Addr} {ns : List Int} {R : VK} (h : SqL K H a (ns.map V.int)) (l : ns.length < 64) (q : ∀ (ms : List Int) (p : Addr), ms.Perm ns → ms.Pairwise (· ≤ ·) → H p = none → R (.ref p) (upd H p (.lst (ms.map V.int)))) : rSorted K [.ref a] H R := ⟨a, ns, rfl, h, l, q⟩
theorem op_inDK (h : X.K = K) (hu : X.A.units + 65 < cLine) : OpR X (compareOp .In) (rInD K) := h ▸ op_inD hu
theorem op_notInDK (h : X.K = K) (hu : X.A.units + 65 < cLine) : OpR X (compareOp .NotIn) (rNotInD K) := h ▸ op_notInD hu
theorem cr_allK (h : X.K = K) (hc : X.calm = true) : CallR X (.builtin "all") (rAll K) := h ▸ cr_all hc
theorem r_all {a : Addr} {bs : List Bool} (h : H a = some (.lst (bs.map V.bl))) (q : Q (.bl (bs.all id)) H) : rAll K [.ref a] H Q := ⟨a, bs, rfl, .inl (.inl h), q⟩
def AugN (i : Nat) (ti : TIp) (σ : L2.St) (nx : L2.St → Hp → Prop) (x : V) : VK := fun y H1 => ti x y H1 fun z H2 => nx (σ.set i (some z)) H2
theorem r_aug {i : Nat} {te : TE} {ti : TIp} {nx bk ct : L2.St → Hp → Prop} {x : V} (e : σ[i]? = some (some x)) (h : te σ H (AugN i ti σ nx x)) : tAug i te ti ⟨nx, Q, bk, ct⟩ σ H := ⟨x, e, h⟩
theorem r_augOr {i : Nat} {nx : L2.St → Hp → Prop} {a b : Int} {σ' : L2.St} (e : σ.set i (some (.int (Builtin.bitOr a b))) = σ') (h : nx σ' H) : AugN i (rI0 fun i j => .int (Builtin.bitOr i j)) σ nx (.int a) (.int b) H := ⟨a, b, rfl, rfl, by subst e; exact h⟩
end

set_option Elab.async false
set_option linter.all false
set_option maxRecDepth 100000
set_option maxHeartbeats 4000000
open PySem PySem.Spec PyProof.Rows L2
/-! # sets of ints: {x}, and a def that knows its code -/
section
variable {P : Program} {w : World} {A : Around} {E : Value → Shared → Prop} {s : Shared} {a : Addr} {S : Int → Bool} {n : Nat}
theorem put_int {k : Int} {tk : Tok} {Q : Bool → Shared → Prop} (R : SetR w s.heap a S n) (room : n + 1 < scanBound)
    (h : ∀ h', Heap.SameBut a s.heap h' → SetR w h' a (fun j => S j || decide (j = k)) (if S k = true then n else n + 1) → Q (!S k) { s with heap := h', toks := s.toks + 1 }) : wpAny (model P w) A (setAdd a (.int k tk)) Q E s := by
  unfold setAdd
  exact wpAny_holding (wpAny_bind ((intKind P w).pyHash (intKind_is P w k tk) (setR_add_hashed (s := { s with toks := s.toks + 1 }) R room h)))
end
section
variable {X : Cx}
/-- {x}: the set first, then the item -/
def tSet1 (w : World) (te : TE) : TE := fun σ H Q => ∀ p, H p = none → te σ (upd H p (SetO w p (fun _ => false) 0)) fun x H1 => ∃ k, x = .int k ∧ H1 p = some (SetO w p (fun _ => false) 0) ∧ Q (.ref p) (upd H1 p (SetO w p (fun j => decide (j = k)) 1))
theorem pe_set1 {e : Expr} {te : TE} {pos : Pos} (hcd : PySem.W.kdsCode X.K X.env.code = true) (he : PE X e te) (hst : starEach [e] X.env = [(false, eval e X.env)] := by rfl) : PE X (.Set [e] 0 pos) (tSet1 X.w te) := by
  refine ⟨fun pins s σ H Q I h => ?_⟩
  rw [arm_eval_Set]
  refine wpAny_bind (wpAny_standAt ?_)
  refine wpAny_bind (PySem.W.kds_main (I.kIn) hcd fun b => ?_)
  rw [hst]
  have hroad : displayRoad 0 [e] = .oneByOne := rfl
  rw [hroad]
  show wpAny (model X.prog X.w) X.A (setDisplay .oneByOne b [(false, (eval e X.env >>= fun v => standAt pos >>= fun _ => pure v : Sem Value))]) _ _ s
  generalize hact : (eval e X.env >>= fun v => standAt pos >>= fun _ => pure v : Sem Value) = act
  unfold setDisplay
  have t1 : (if ([(false, act)] : List (Bool × Sem Value)).length > 30 then 0 else (([(false, act)] : List (Bool × Sem Value)).findIdx? (·.1)).getD ([(false, act)] : List (Bool × Sem Value)).length) = 1 := rfl
  dsimp only
  rw [if_neg (by decide)]
  refine wpAny_bind (PpSet.newSet_ok ?_)
  dsimp only
  rw [t1]
  refine wpAny_bind (wpAny_holding ?_)
  show wpAny (model X.prog X.w) X.A (evalAll [act] >>= _) _ _ _
  generalize hD : s.heap.objs.size = D
  have dn : H D = none := I.hok.fresh (Nat.le_of_eq hD)
  have new : SetR X.w (s.heap.push { cls := .type "set", dict := none, data := .set #[] 0 (.fresh 0 0 (!X.w.params.followText "set-order")) }) D (fun _ => false) 0 := by
    rw [← hD]
    exact setR_fresh X.w
  have I1 : Inv X pins σ (upd H D (SetO X.w D (fun _ => false) 0)) { s with heap := s.heap.push { cls := .type "set", dict := none, data := .set #[] 0 (.fresh 0 0 (!X.w.params.followText "set-order")) } } :=
    I.laid (t' := s.toks) (fun b u e => Heap.get?_push_of_some _ e) (Nat.le_of_eq hD) (setO_new new)
  refine wpAny_bind (wpAny_evalAll_cons ?_)
  rw [← hact]
  refine wpAny_bind (thn (he.run pins _ σ _ _ I1 (h D dn)) fun v s1 ⟨x, H1, I2, r1, k, e1, hs, q⟩ => ?_)
  subst e1
  obtain ⟨tk, rfl⟩ := r1
  refine wpAny_bind (wpAny_standAt (wpAny_pure ?_))
  refine wpAny_evalAll_nil ?_
  rw [List.forIn_cons]
  have R1 := setO_get I2 hs
  refine wpAny_bind (wpAny_holding ?_)
  refine wpAny_bind (wpAny_bind (wpAny_bind (put_int R1 (by decide) fun h' sb new => wpAny_pure ?_)))
  dsimp only
  rw [List.forIn_nil]
  refine wpAny_pure ?_
  rw [if_neg (by decide)]
  refine wpAny_pure ?_
  show wpAny (model X.prog X.w) X.A (forIn ([] : List (Bool × Sem Value)) PUnit.unit _ >>= _) _ _ _
  rw [List.forIn_nil]
  refine wpAny_bind (wpAny_pure (wpAny_pure (wpAny_pure ?_)))
  have he : ∃ u, h'.get? D = some u := by
    have ⟨o, _, _, _, ho, _⟩ := new
    exact ⟨o, ho⟩
  have efn : (fun j : Int => (fun _ => false) j || decide (j = k)) = fun j => decide (j = k) := by funext j; simp
  have e1 : (if (fun _ : Int => false) k = true then 0 else 0 + 1) = 1 := by simp
  rw [efn, e1] at new
  exact ⟨.ref D, upd H1 D (SetO X.w D (fun j => decide (j = k)) 1), I2.write (e := D) (t' := s1.toks + 1) (by rw [hs]; trivial) (.inl rfl) (fun b u hb hu => (sb.2 b hb).trans hu) he (setO_new new), rfl, q⟩
end
section
variable {P : Program} {w : World} {K : PySem.W.Frag} {mg : Str → Option Value} {base : Heap}
/-- a def's body, its own code at hand -/
theorem okC {x qual : Str} {st : Stmt} {f : Addr} {fd : FuncData} {N ps : List Str} {k : Nat} {sp : Sp} (F : Fun K x qual st f fd) (S : FnScope N ps (defScope st)) (len : ∀ vs H Q E, sp vs H Q E → vs.length = ps.length)
    (body : ∀ (cdv : Value) (A : Around) (outer : List Env) (s : Shared) (H : Hp) (vs : List V) (Q : VK) (E : XK), PySem.W.kdsCode K cdv = true → Room k (A.deeper (envOfC qual (defScope st) s.heap.objs.size f cdv)) → sp vs H Q E →
      ∃ t, PSs (cxOf CX0 P w K mg base N qual (defScope st) f cdv A outer s H E).nox (defBody st) t ∧ t { nx := fun _ H' => Q .non H', rt := Q } (L2.start N vs) H) : FnOk P w K mg base CX0 (k + 1) f fd ps sp := by
  obtain ⟨oc, od, kV, doc, pm, an, cdv, ct, osl, rfl, lk, hcd⟩ := F.ex
  exact fn_of lk hcd S len fun A outer s H vs Q E hr hsp => by
    obtain ⟨t, h, q⟩ := body cdv A outer s H vs Q E (kdsCode_of hcd) hr hsp
    exact ⟨t, h.nox, q⟩
end
section
variable {X : Cx} {w : World} {σ : L2.St} {H : Hp} {Q : VK}
theorem cr_set0W (h : X.w = w) : CallR X (.type "set") (rSet0 w) := h ▸ cr_set0
theorem cr_sortedSetW (h : X.w = w) (hc : X.calm = true) : CallR X (.builtin "sorted") (rSortedSet w) := h ▸ cr_sortedSet hc
theorem op_sinW (h : X.w = w) : OpR X (compareOp .In) (rSIn w) := h ▸ or_sin
theorem op_sninW (h : X.w = w) : OpR X (compareOp .NotIn) (rSNotIn w) := h ▸ or_snotin
theorem PE.saddW {e : Expr} {to : TE} {t : TA} (h : X.w = w) (p : PE X e (tSAdd X.w to t)) : PE X e (tSAdd w to t) := h ▸ p
theorem PE.set1W {e : Expr} {te : TE} (h : X.w = w) (p : PE X e (tSet1 X.w te)) : PE X e (tSet1 w te) := h ▸ p
def SAddN (w : World) (t : TA) (σ : L2.St) (Q : VK) : VK := fun x H1 => (∃ a S n, x = V.ref a ∧ H1 a = some (SetO w a S n)) ∧ t σ H1 fun xs H2 => rSAdd w x xs H2 Q
theorem r_sadd {to : TE} {t : TA} (h : to σ H (SAddN w t σ Q)) : tSAdd w to t σ H Q := h
theorem r_saddN {t : TA} {a : Addr} {S : Int → Bool} {n : Nat} (h : H a = some (SetO w a S n)) (q : t σ H fun xs H2 => rSAdd w (.ref a) xs H2 Q) : SAddN w t σ Q (.ref a) H := ⟨⟨a, S, n, rfl, h⟩, q⟩
end

set_option Elab.async false
set_option linter.all false
set_option maxRecDepth 100000
set_option maxHeartbeats 4000000
open PySem PySem.Spec PyProof.Rows L2
/-! # list.extend of a tuple, len of a set -/
section
open PySem.AutoSeq1 in
theorem ext_tup_meets (l b : Addr) (its us : Array Value) (n m : Nat) (d : Option Addr) (sl : Array (Option Value)) (h0 : ¬(!its.isEmpty && Builtin.List.listTooLong (its.size + us.size)) = true) (h1 : its.size ≤ sizeLine) (h2 : its.size + us.size ≤ sizeLine + 1) :
    Meets (Builtin.«list.extend» ⟨[.ref l, .ref b], []⟩) (fun _ R s => s.heap.get? l = some { cls := .type "list", dict := none, data := .seq its n, slots := #[] } ∧ s.heap.get? b = some { cls := .type "tuple", dict := d, data := .seq us m, slots := sl } ∧
      R (.ok (.ret Value.none)) { s with heap := s.heap.update l (Obj.mapSeq fun x => x ++ us), toks := s.toks }) := by
  refine .of_wp fun prog w A R s h => ?_
  obtain ⟨hp, g, dr, tk, os⟩ := s
  obtain ⟨hl, hb, h⟩ := h
  have f1 := idx_int
  have f2 := AutoSeq1.sub_tuple_tuple
  have f3 := AutoSeq1.sub_list_list
  have f4 := AutoSeq1.sub_tuple_list
  have f5 := AutoSeq1.sub_list_tuple
  have hz : (its ++ us).size ≤ sizeLine + 1 := by
    rw [Array.size_append]
    exact h2
  wp_walk using (wpAny_updateSeq hl rfl (hz := h1) (_hz' := hz)), wpAny_loadPart' hl, wpAny_loadPart' hb
  exact ⟨_, rfl, h⟩
end
section
variable {X : Cx} {K : PySem.W.Frag} {w : World}
def rExtT (K : PySem.W.Frag) : V → List V → Hp → VK → Prop := fun x vs H Q => ∃ l b xs zs, x = .ref l ∧ vs = [.ref b] ∧ H l = some (.lst xs) ∧ SqT K H b zs ∧ xs.length + zs.length ≤ sizeLine ∧ Q .non (upd H l (.lst (xs ++ zs)))
theorem mt_extT : MtM X "list.extend" (rExtT X.K) := by
  intro pins s σ H x vs v us Q I rx rv h
  obtain ⟨l, b, xs, zs, rfl, rfl, hH, hB, hz, q⟩ := h
  cases rx
  obtain ⟨u, rfl, ru⟩ := rv.one
  cases ru
  obtain ⟨z, its, n, r, hl, e⟩ := I.lstM hH
  obtain ⟨us, r2, ⟨o, ho, hc, m, hd⟩, z2⟩ := I.tuple hB
  have hl2 := r2.length
  obtain ⟨cls, dict, data, slots⟩ := o
  simp only at hc hd
  subst hc hd
  have hsz : its.toArray.size + us.toArray.size ≤ sizeLine := by
    rw [List.size_toArray, List.size_toArray]
    omega
  have short : ¬ (!its.toArray.isEmpty && Builtin.List.listTooLong (its.toArray.size + us.toArray.size)) = true := by
    rw [notLongL hsz, Bool.and_false]
    exact Bool.false_ne_true
  refine call_meets F.slot_list_extend ⟨_, e, rfl⟩ F.entry_list_extend (F.args_list_extend_2 _ _) (ext_tup_meets l b its.toArray us.toArray n m dict slots short (by rw [List.size_toArray]; omega) (by omega)) ⟨e, ho, ?_⟩
  refine ⟨.non, _, I.lset (its' := its ++ us) hH e (by simp) (r.append r2) ?_, rfl, q⟩
  rw [List.length_append]
  omega
theorem mt_extTK (h : X.K = K) : MtM X "list.extend" (rExtT K) := h ▸ mt_extT
theorem r_extT {H : Hp} {Q : VK} {l b : Addr} {xs zs : List V} (h : H l = some (.lst xs)) (hb : SqT K H b zs) (hz : xs.length + zs.length ≤ 100000) (q : Q .non (upd H l (.lst (xs ++ zs)))) : rExtT K (.ref l) [.ref b] H Q := ⟨l, b, xs, zs, rfl, rfl, h, hb, small_len hz, q⟩
theorem r_ext {H : Hp} {Q : VK} {l b : Addr} {xs zs : List V} (h : H l = some (.lst xs)) (hb : H b = some (.lst zs)) (hz : xs.length + zs.length ≤ 100000) (q : Q .non (upd H l (.lst (xs ++ zs)))) : rExtend (.ref l) [.ref b] H Q := ⟨l, b, xs, zs, rfl, rfl, h, hb, small_len hz, q⟩
def rLenSet (w : World) : List V → Hp → VK → Prop := fun vs H Q => ∃ (a : Addr) (S : Int → Bool) (n : Nat), vs = [V.ref a] ∧ H a = some (SetO w a S n) ∧ Q (.int n) H
theorem call_lenSet (hw : X.w = w) : CallR X (.builtin "len") (rLenSet w) := by
  subst hw
  intro pins s σ H vs us Q I r h
  obtain ⟨a, S, n, rfl, ha, q⟩ := h
  rw [Vals.ref1 r]
  obtain ⟨o, es, ep, t, ho, hex, hd, _, _, _, hb, hf, hn, _⟩ := setO_get I ha
  refine call_len_set ho hex hd hf (by have : (scanBound : Int) = 4096 := rfl; omega) ?_
  exact ⟨.int n, H, I.kept (t' := s.toks + 1 + 1) fun _ _ e => e, by rw [hn]; exact ⟨_, rfl⟩, q⟩
end

set_option Elab.async false
set_option linter.all false
set_option maxRecDepth 100000
set_option maxHeartbeats 4000000
open PySem PySem.Spec PyProof.Rows L2
/-! # truth of lists, pop(), while, two clauses over lists -/
section
variable {X : Cx} {K : PySem.W.Frag} {w : World} {σ : L2.St} {H : Hp} {Q : VK}
theorem rel_str {x : PySem.Str} {t : Tok} : RelV (.str x) (.str x t) := ⟨t, rfl⟩
def TruN (K : PySem.W.Frag) (Q : Bool → Hp → Prop) : VK := fun x H' => ∃ k, TruV K x H' k ∧ Q k H'
def tTruth (K : PySem.W.Frag) (ta : TE) : TT := fun σ H Q => ta σ H (TruN K Q)
theorem pt_truthK {a : Expr} {ta : TE} (h : X.K = K) (ha : PE X a ta) (he : ∀ whole, isTrue a X.env whole = (do let v ← whole; standAt a.pos; holding [v] (truthy v))) : PT X a (tTruth K ta) := by
  subst h
  exact pt_truth ha he
theorem r_truth {ta : TE} {Q : Bool → Hp → Prop} (h : ta σ H (TruN K Q)) : tTruth K ta σ H Q := h
theorem r_truL {Q : Bool → Hp → Prop} {l : Addr} {xs : List V} (h : H l = some (.lst xs)) (q : Q (!xs.isEmpty) H) : TruN K Q (.ref l) H := ⟨_, .inl ⟨xs, .inl (.inl h), rfl⟩, q⟩
def Bm0 (K : PySem.W.Frag) (T : String) (r : V → List V → Hp → VK → Prop) (Q : VK) : VK := fun x H1 => tyV K T x H1 ∧ r x [] H1 Q
theorem PE.bm0K {e : Expr} {T : String} {r : V → List V → Hp → VK → Prop} {to : TE} (h : X.K = K) (p : PE X e (tBM0 X.K T r to)) : PE X e (tBM0 K T r to) := h ▸ p
theorem r_bm0 {T : String} {r : V → List V → Hp → VK → Prop} {te : TE} (h : te σ H (Bm0 K T r Q)) : tBM0 K T r te σ H Q := h
theorem r_bm0L {r : V → List V → Hp → VK → Prop} {p : Addr} {xs : List V} (h : SqL K H p xs) (q : r (.ref p) [] H Q) : Bm0 K "list" r Q (.ref p) H := ⟨.inl ⟨rfl, _, h⟩, q⟩
/-- xs.pop() -/
theorem r_popL {l : Addr} {xs : List V} {y : V} (h : H l = some (.lst (xs ++ [y]))) (q : Q y (upd H l (.lst xs))) : rPop (.ref l) [] H Q := ⟨l, xs ++ [y], y, rfl, rfl, h, by simp, by rw [List.dropLast_concat]; exact q⟩
variable {nx bk ct : L2.St → Hp → Prop}
theorem r_while {tc : TT} {tb : TS} (W : Nat → L2.St → Hp → Prop) (m0 : Nat) (h0 : W m0 σ H)
    (hs : ∀ m σ H, W m σ H → tc σ H fun b H1 => if b = true then ∃ N : L2.St → Hp → Prop, (∀ σ' H', N σ' H' → ∃ m', m' < m ∧ W m' σ' H') ∧ tb ⟨N, Q, nx, N⟩ σ H1 else nx σ H1) : tWhile tc tb ⟨nx, Q, bk, ct⟩ σ H := ⟨W, ⟨m0, h0⟩, hs⟩
theorem r_whGo {tb : TS} {W : Nat → L2.St → Hp → Prop} {m : Nat} (h : tb ⟨fun σ' H' => ∃ m', m' < m ∧ W m' σ' H', Q, nx, fun σ' H' => ∃ m', m' < m ∧ W m' σ' H'⟩ σ H) : ∃ N : L2.St → Hp → Prop, (∀ σ' H', N σ' H' → ∃ m', m' < m ∧ W m' σ' H') ∧ tb ⟨N, Q, nx, N⟩ σ H := ⟨_, fun _ _ z => z, h⟩
theorem lnR_list {D a : Addr} {xs : List V} {g1 : TG} {tt1 : TT} {te : TE} {vs1 : List Nat} {σ2 σw : L2.St} {Nx : Hp → Prop} (Pv : Nat → Hp → Prop) (ew : wipe σ2 vs1 = σw) (h0 : Pv 0 H) (hl : ∀ i H, i ≤ xs.length → Pv i H → SqL K H a xs)
    (hs : ∀ (i : Nat) x H, xs[i]? = some x → Pv i H → g1 x σw H fun σ3 H5 => wipe σ3 vs1 = σw ∧ tt1 σ3 H5 fun b H6 => if b = true then te σ3 H6 (LcE D (Pv (i + 1))) else Pv (i + 1) H6) (hd : ∀ H, Pv xs.length H → Nx H) : LnR (Itl K a) g1 tt1 te vs1 σ2 D Nx H := by
  subst ew
  refine ⟨fun i m H => (m = xs.length - i ∧ i ≤ xs.length) ∧ Pv i H, ⟨_, ⟨rfl, Nat.zero_le _⟩, h0⟩, fun i m H ⟨⟨em, hi⟩, p⟩ => ?_⟩
  subst em
  have hq := hl i H hi p
  rcases Nat.lt_or_ge i xs.length with c | c
  · exact .inr ⟨⟨xs, xs[i], hq, List.getElem?_eq_getElem c⟩, Pv (i + 1), fun H' p' => ⟨_, by omega, ⟨rfl, c⟩, p'⟩, fun x H' ⟨e, y⟩ => e ▸ hs i x _ (y xs hq) p⟩
  · have e : i = xs.length := by omega
    exact .inl ⟨⟨xs, hq, c⟩, hd H (e ▸ p)⟩
theorem lc2R_list {D a : Addr} {xs : List V} {wi1 : TI} {g g1 : TG} {tt tt1 : TT} {te : TE} {vs vs1 : List Nat} {σw : L2.St} (Pv : Nat → Hp → Prop) (ew : wipe σ vs = σw) (h0 : Pv 0 (upd H D (.lst []))) (hl : ∀ i H, i ≤ xs.length → Pv i H → SqL K H a xs)
    (hs : ∀ (i : Nat) x H, xs[i]? = some x → Pv i H → g x σw H fun σ2 H2 => wipe σ2 vs = σw ∧ tt σ2 H2 fun b H3 => if b = true then wi1 σ2 H3 fun J1 H4 => LnR J1 g1 tt1 te vs1 σ2 D (Pv (i + 1)) H4 else Pv (i + 1) H3) (hd : ∀ H, Pv xs.length H → Q (.ref D) H) : Lc2R (Itl K a) g tt wi1 g1 tt1 te vs vs1 σ D Q H := by
  subst ew
  refine ⟨fun i m H => (m = xs.length - i ∧ i ≤ xs.length) ∧ Pv i H, ⟨_, ⟨rfl, Nat.zero_le _⟩, h0⟩, fun i m H ⟨⟨em, hi⟩, p⟩ => ?_⟩
  subst em
  have hq := hl i H hi p
  rcases Nat.lt_or_ge i xs.length with c | c
  · exact .inr ⟨⟨xs, xs[i], hq, List.getElem?_eq_getElem c⟩, Pv (i + 1), fun H' p' => ⟨_, by omega, ⟨rfl, c⟩, p'⟩, fun x H' ⟨e, y⟩ => e ▸ hs i x _ (y xs hq) p⟩
  · have e : i = xs.length := by omega
    exact .inl ⟨⟨xs, hq, c⟩, hd H (e ▸ p)⟩
theorem r_eqLI {f e : Addr} {ns ms : List Int} (h : SqL K H f (ns.map V.int)) (he : SqL K H e (ms.map V.int)) (q : Q (.bl (decide (ns = ms))) H) : rEqD K (.ref f) (.ref e) H Q := by
  refine ⟨.list (ns.map PyData.int), .list (ms.map PyData.int), .lst h (dps_int ns), .lst he (dps_int ms), shaped_of (lstI_lay ns) (by have := lstI_depth ns; omega), shaped_of (lstI_lay ms) (by have := lstI_depth ms; omega), ?_⟩
  simp only [PyData.eqv]
  rw [eqvI]
  exact q
/-- sets of ints -/
theorem r_set0W (q : ∀ p, H p = none → Q (.ref p) (upd H p (SetO w p (fun _ => false) 0))) : rSet0 w [] H Q := ⟨rfl, q⟩
theorem r_snin {k : Int} {a : Addr} {S : Int → Bool} {n : Nat} (h : H a = some (SetO w a S n)) (q : Q (.bl (!S k)) H) : rSNotIn w (.int k) (.ref a) H Q := ⟨k, a, S, n, rfl, rfl, h, q⟩
theorem r_saddI {k : Int} {a : Addr} {S : Int → Bool} {n : Nat} (h : H a = some (SetO w a S n)) (s : n + 1 < 4096) (q : Q .non (upd H a (SetO w a (fun j => S j || decide (j = k)) (if S k = true then n else n + 1)))) : rSAdd w (.ref a) [.int k] H Q := ⟨a, k, S, n, rfl, rfl, h, s, q⟩
theorem r_lenSet {a : Addr} {S : Int → Bool} {n : Nat} (h : H a = some (SetO w a S n)) (q : Q (.int n) H) : rLenSet w [.ref a] H Q := ⟨a, S, n, rfl, h, q⟩
/-- t[:i], t[j:] -/
theorem cut_to (xs : List V) (k : Nat) (h : k ≤ xs.length) : cutV xs none (some (k : Int)) = xs.take k := by
  unfold cutV
  rw [HT.sIx_none, HT.sIx_nat, List.drop_zero, Nat.sub_zero, Nat.min_eq_left h]
theorem cut_from (xs : List V) (k : Nat) (h : k ≤ xs.length) : cutV xs (some (k : Int)) none = xs.drop k := by
  unfold cutV
  rw [HT.sIx_none, HT.sIx_nat, Nat.min_eq_left h]
  exact List.take_of_length_le (by rw [List.length_drop]; omega)
theorem r_slTo {a : Addr} {xs : List V} {k : Int} (h : H a = some (.tup xs)) (h0 : 0 ≤ k) (h1 : k < xs.length) (q : ∀ p, H p = none → Q (.ref p) (upd H p (.tup (xs.take k.toNat)))) : rSlT K (.ref a) none (some k) H Q := by
  obtain ⟨j, rfl⟩ : ∃ j : Nat, k = j := ⟨k.toNat, by omega⟩
  refine ⟨a, xs, rfl, .inl (.inl h), fun z => ?_, fun p hp => by rw [cut_to xs j (by omega)]; exact q p hp⟩
  rw [HT.sIx_nat] at z
  omega
theorem r_slFrom {a : Addr} {xs : List V} {k : Int} (h : H a = some (.tup xs)) (h0 : 1 ≤ k) (h1 : k ≤ xs.length) (q : ∀ p, H p = none → Q (.ref p) (upd H p (.tup (xs.drop k.toNat)))) : rSlT K (.ref a) (some k) none H Q := by
  obtain ⟨j, rfl⟩ : ∃ j : Nat, k = j := ⟨k.toNat, by omega⟩
  refine ⟨a, xs, rfl, .inl (.inl h), fun z => ?_, fun p hp => by rw [cut_from xs j (by omega)]; exact q p hp⟩
  rw [HT.sIx_nat] at z
  omega
end

set_option Elab.async false
set_option linter.all false
set_option maxRecDepth 100000
set_option maxHeartbeats 4000000
open PySem PySem.Spec PyProof.Rows L2
/-! # sorted of tuples of ints of any lengths -/
def lexI : List Int → List Int → Bool
  | [], [] => false
  | [], _ :: _ => true
  | _ :: _, [] => false
  | a :: as, b :: bs => if a = b then lexI as bs else decide (a < b)
theorem lexI_asym : ∀ x y : List Int, lexI x y = true → lexI y x = false
  | [], [], h => by simp [lexI] at h
  | [], _ :: _, _ => by simp [lexI]
  | _ :: _, [], h => by simp [lexI] at h
  | a :: as, b :: bs, h => by
    simp only [lexI] at h ⊢
    by_cases c : a = b
    · rw [if_pos c] at h
      rw [if_pos c.symm]
      exact lexI_asym as bs h
    · rw [if_neg c] at h
      rw [if_neg (fun z => c z.symm)]
      have := of_decide_eq_true h
      exact decide_eq_false (by omega)
theorem lexI_tr : ∀ x y z : List Int, lexI y x = false → lexI z y = false → lexI z x = false
  | [], _, [], _, _ => by simp [lexI]
  | [], _, _ :: _, _, _ => by simp [lexI]
  | _ :: _, [], _, h, _ => by simp [lexI] at h
  | _ :: _, _ :: _, [], _, h => by simp [lexI] at h
  | a :: as, b :: bs, c :: cs, h1, h2 => by
    simp only [lexI] at h1 h2 ⊢
    by_cases e1 : b = a
    · rw [if_pos e1] at h1
      by_cases e2 : c = b
      · rw [if_pos e2] at h2
        rw [if_pos (e2.trans e1)]
        exact lexI_tr as bs cs h1 h2
      · rw [if_neg e2] at h2
        have := of_decide_eq_false h2
        rw [if_neg (fun z => e2 (z.trans e1.symm))]
        exact decide_eq_false (by omega)
    · rw [if_neg e1] at h1
      have q1 := of_decide_eq_false h1
      by_cases e2 : c = b
      · rw [if_neg (fun z => e1 (e2.symm.trans z))]
        exact decide_eq_false (by omega)
      · rw [if_neg e2] at h2
        have q2 := of_decide_eq_false h2
        rw [if_neg (by omega)]
        exact decide_eq_false (by omega)
theorem lexI_eq : ∀ x y : List Int, lexI x y = false → lexI y x = false → x = y
  | [], [], _, _ => rfl
  | [], _ :: _, h, _ => by simp [lexI] at h
  | _ :: _, [], _, h => by simp [lexI] at h
  | a :: as, b :: bs, h1, h2 => by
    simp only [lexI] at h1 h2
    by_cases c : a = b
    · rw [if_pos c] at h1
      rw [if_pos c.symm] at h2
      rw [c, lexI_eq as bs h1 h2]
    · rw [if_neg c] at h1
      rw [if_neg (fun z => c z.symm)] at h2
      have := of_decide_eq_false h1
      have := of_decide_eq_false h2
      omega
theorem swoI {α : Type} (k : α → List Int) : SrtO.Swo fun v u => lexI (k v) (k u) := ⟨fun x y h => lexI_asym _ _ h, fun x y z h1 h2 => lexI_tr _ _ _ h1 h2⟩
section
variable {prog : Program} {w : World} {A : Around} {E : Value → Shared → Prop} {s : Shared}
theorem lex_go {b fin : Bool} {Q : Bool → Shared → Prop} : ∀ (ns ms : List Int) (us vs : List Value) (i : Nat), IntsAre us ns → IntsAre vs ms → fin = decide (ns.length < ms.length) → Q (lexI ns ms) s → PySem.W.KatLex prog w A b fin Q (us.zip vs) i s
  | _, _, _, _, _, .nil, .nil, e, h => by
    subst e
    exact PySem.W.kat_nil h
  | _, _, _, _, _, .nil, .cons _ _ _, e, h => by
    subst e
    rw [List.zip_nil_left]
    refine PySem.W.kat_nil ?_
    rw [decide_eq_true (by simp)]
    exact h
  | _, _, _, _, _, .cons _ _ _, .nil, e, h => by
    subst e
    rw [List.zip_nil_right]
    refine PySem.W.kat_nil ?_
    rw [decide_eq_false (by simp)]
    exact h
  | _, _, _, _, i, .cons p t hx, .cons q u hy, e, h => by
    rw [List.zip_cons_cons]
    refine PySem.W.kat_cons (wpAny_eqBool_int ?_)
    simp only [lexI] at h
    by_cases c : p = q
    · rw [if_pos c] at h
      rw [beq_iff_eq.mpr c]
      refine PySem.W.kat_yes (lex_go _ _ _ _ (i + 1) hx hy ?_ h)
      rw [e]
      simp
    · rw [if_neg c] at h
      rw [beq_eq_false_iff_ne.mpr c]
      exact PySem.W.kat_no (TS.oneLt_ints _ h)
theorem cmpI {b : Bool} {vs : List Value} {k : Value → List Int} (hp : ∀ v ∈ vs, TS.TupInts s.heap v (k v)) : SrtO.Cmp prog w A s (tuples' b) (fun p => p.1 ∈ vs) (SrtO.lt2 fun v u => lexI (k v) (k u)) := by
  intro p q hm hm'
  obtain ⟨a1, us1, e1, ⟨o1, g1, c1, n1, d1⟩, i1⟩ := hp _ hm
  obtain ⟨a2, us2, e2, ⟨o2, g2, c2, n2, d2⟩, i2⟩ := hp _ hm'
  show wpAny (model prog w) A (keyLt' (tuples' b) p.1 q.1) (fun r s' => s' = s ∧ r = lexI (k p.1) (k q.1)) (fun _ _ => False) s
  generalize k p.1 = ns at i1 ⊢
  generalize k q.1 = ms at i2 ⊢
  rw [e1, e2]
  refine PySem.W.kat_lt g1 d1 g2 d2 (lex_go ns ms _ _ 0 i1 i2 ?_ ⟨rfl, rfl⟩)
  have l1 := i1.length
  have l2 := i2.length
  rw [Array.length_toList] at l1 l2
  rw [l1, l2]
theorem firstsI {h : Heap} {k : Value → List Int} : ∀ vs : List Value, (∀ v ∈ vs, TS.TupInts h v (k v) ∧ k v ≠ []) → ∃ fs, PySem.W.KatTups h vs fs ∧ fs.length = vs.length ∧ ∀ f ∈ fs, ∃ n t, f = Value.int n t
  | [], _ => ⟨[], PySem.W.KatTups.nil, rfl, fun f hf => (nomatch hf)⟩
  | v :: vs, hv => by
    obtain ⟨fs, kt, lf, hi⟩ := firstsI vs fun u hu => hv u (List.mem_cons_of_mem _ hu)
    obtain ⟨⟨a, us, rfl, ⟨o, ho, hc, n, hd⟩, i⟩, ne⟩ := hv v List.mem_cons_self
    generalize k (Value.ref a) = ns at i ne
    generalize e : us.toList = ul at i
    cases i with
    | nil => exact absurd rfl ne
    | @cons m t ul' ns' it =>
      refine ⟨Value.int m t :: fs, PySem.W.KatTups.cons ho hc hd ?_ kt, by simp [lf], fun f hf => ?_⟩
      · have z := congrArg (fun l : List Value => l[0]?) e
        simpa using z
      · rcases List.mem_cons.mp hf with c | c
        · exact ⟨m, t, c⟩
        · exact hi f c
theorem sortedI {l : Addr} {vs : List Value} {k : Value → List Int} {Q : Value → Shared → Prop} (hl : s.heap.IsList l vs.toArray) (hz : vs.length ≤ sizeLine) (hp : ∀ v ∈ vs, TS.TupInts s.heap v (k v) ∧ k v ≠ [])
    (h : ∀ (h' : Heap) (d : Addr) (out : List Value), SrtO.Srtd (fun v u => lexI (k v) (k u)) out → SrtO.Stb (fun v u => lexI (k v) (k u)) out vs → (∀ b o, s.heap.get? b = some o → h'.get? b = some o) → s.heap.objs.size ≤ d → (∃ n, h'.get? d = some (seqObj "list" out.toArray n)) → Q (.ref d) { s with heap := h' }) :
    wpAny (model prog w) A (call (.builtin "sorted") [.ref l]) Q E s := by
  refine SrtO.sorted_ord (swoI k) hl hz (fun h2 h₁ a ha kk => ?_) fun out hs hb => h _ _ out hs hb (fun b o e => sortedAll_old e) (Nat.le_succ _) (sortedAll_at s.heap vs out.toArray)
  intro h' keep
  have hp' : ∀ v ∈ vs, TS.TupInts h' v (k v) ∧ k v ≠ [] := fun v hm => ⟨(hp v hm).1.keeps fun b o e _ => keep b o (kk b o e).1 (kk b o e).2, (hp v hm).2⟩
  obtain ⟨fs, f1, f2, f3⟩ := firstsI vs hp'
  refine ⟨tuples' (Value.type "int" != Value.type "tuple"), fun Q E hq => ?_, cmpI fun v hv => (hp' v hv).1⟩
  refine PySem.W.kat_kind (T := .type "int") f1 (by omega) (fun f hm => ?_) (by rfl) hq
  obtain ⟨x, t, rfl⟩ := f3 f hm
  exact PySem.W.Looks.now
end
/-- the ints of a tracked tuple -/
def kI (H : Hp) : V → List Int
  | .ref t => match H t with
    | some (.tup ys) => ys.filterMap fun y => match y with
      | .int i => some i
      | _ => none
    | _ => []
  | _ => []
theorem kI_ints : ∀ ns : List Int, (ns.map V.int).filterMap (fun y => match y with | .int i => some i | _ => none) = ns
  | [] => rfl
  | n :: ns => by
    rw [List.map_cons, List.filterMap_cons]
    show n :: _ = _
    rw [kI_ints ns]
theorem kI_at {H : Hp} {t : Addr} {ns : List Int} (h : H t = some (.tup (ns.map V.int))) : kI H (.ref t) = ns := by
  unfold kI
  simp only [h]
  exact kI_ints ns
def rSortL (K : PySem.W.Frag) : List V → Hp → VK → Prop := fun vs H Q => ∃ (a : Addr) (xs : List V), vs = [V.ref a] ∧ SqL K H a xs ∧ (∀ x ∈ xs, ∃ t ns, x = V.ref t ∧ H t = some (.tup (ns.map V.int)) ∧ ns ≠ []) ∧
  ∀ ys p, ys.Pairwise (fun x y => lexI (kI H y) (kI H x) = false) → ys.Perm xs → H p = none → Q (.ref p) (upd H p (.lst ys))
section
variable {X : Cx} {K : PySem.W.Frag}
theorem cr_sortL : CallR X (.builtin "sorted") (rSortL X.K) := by
  intro pins s σ H vs us Q I r h
  obtain ⟨a, xs, rfl, hs, hx, q⟩ := h
  obtain ⟨its, rv, hl, hz⟩ := I.list hs
  rw [Vals.ref1 r]
  obtain ⟨e1, e2⟩ := refs_back rv fun x m => by
    obtain ⟨t, _, e, _⟩ := hx x m
    exact ⟨t, e⟩
  refine sortedI (k := fun u => kI H (backV u)) hl.isList (by rw [← rv.length]; exact hz) (fun v hv => ?_) fun h' d out h1 h2 kp hd hn => ?_
  · obtain ⟨t, rfl⟩ := e2 v hv
    have hm : V.ref t ∈ xs := by
      rw [e1]
      exact List.mem_map.mpr ⟨_, hv, rfl⟩
    obtain ⟨t', ns, e, ht, ne⟩ := hx _ hm
    cases e
    have ek : kI H (backV (Value.ref t)) = ns := kI_at ht
    obtain ⟨us, ru, hT, _⟩ := I.tuple (.inl (.inl ht) : SqT X.K H t (ns.map V.int))
    rw [ek]
    exact ⟨⟨t, us.toArray, rfl, hT, by simpa using ru.ints⟩, ne⟩
  · have h3 : ∀ u ∈ out, ∃ a, u = Value.ref a := fun u hu => e2 u (h2.perm.mem_iff.mp hu)
    obtain ⟨n, hn⟩ := hn
    have hp : (out.map backV).Perm xs := by
      rw [e1]
      exact h2.perm.map backV
    refine ⟨.ref d, upd H d (.lst (out.map backV)), I.laid (t' := s.toks) kp hd ⟨?_, out, n, vals_back h3, hn⟩, rfl, q _ d (List.pairwise_map.mpr h1) hp (I.hok.fresh hd)⟩
    rw [hp.length_eq]
    exact hz
theorem cr_sortLK (h : X.K = K) : CallR X (.builtin "sorted") (rSortL K) := h ▸ cr_sortL
end

set_option Elab.async false
set_option linter.all false
set_option maxRecDepth 100000
set_option maxHeartbeats 4000000
open PySem PySem.Spec PyProof.Rows L2
/-! # what is connected -/
inductive Con (R : Int → Int → Prop) (v : Int) : Int → Prop
  | refl : Con R v v
  | step {a b : Int} (h : Con R v a) (r : R a b) : Con R v b
theorem Con.trans {R : Int → Int → Prop} {u v z : Int} (h : Con R u v) (k : Con R v z) : Con R u z := by
  induction k with
  | refl => exact h
  | step _ r ih => exact .step ih r
theorem Con.symm {R : Int → Int → Prop} (hs : ∀ a b, R a b → R b a) {u v : Int} (h : Con R u v) : Con R v u := by
  induction h with
  | refl => exact .refl
  | step _ r ih => exact Con.trans (.step .refl (hs _ _ r)) ih
theorem Con.closed {R : Int → Int → Prop} {v : Int} {S : Int → Prop} (h0 : S v) (hc : ∀ a b, S a → R a b → S b) {z : Int} (h : Con R v z) : S z := by
  induction h with
  | refl => exact h0
  | step _ r ih => exact hc _ _ ih r
theorem lexI_irr : ∀ x : List Int, lexI x x = false
  | [] => rfl
  | a :: as => by simp [lexI, lexI_irr as]
theorem asc_eqL : ∀ {ps qs : List (List Int)}, ps.Pairwise (fun x y => lexI x y = true) → qs.Pairwise (fun x y => lexI x y = true) → (∀ p, p ∈ ps ↔ p ∈ qs) → ps = qs
  | [], [], _, _, _ => rfl
  | [], q :: qs, _, _, h => absurd ((h q).mpr List.mem_cons_self) (by simp)
  | p :: ps, [], _, _, h => absurd ((h p).mp List.mem_cons_self) (by simp)
  | p :: ps, q :: qs, h1, h2, h => by
    obtain ⟨a1, b1⟩ := List.pairwise_cons.mp h1
    obtain ⟨a2, b2⟩ := List.pairwise_cons.mp h2
    have e : p = q := by
      rcases List.mem_cons.mp ((h p).mp List.mem_cons_self) with e | e
      · exact e
      · rcases List.mem_cons.mp ((h q).mpr List.mem_cons_self) with e' | e'
        · exact e'.symm
        · have c1 := a2 p e
          have c2 := lexI_asym _ _ (a1 q e')
          rw [c1] at c2
          cases c2
    subst e
    refine congrArg (p :: ·) (asc_eqL b1 b2 fun z => ⟨fun hz => ?_, fun hz => ?_⟩)
    · rcases List.mem_cons.mp ((h z).mp (List.mem_cons_of_mem _ hz)) with e | e
      · have c := a1 z hz
        rw [e, lexI_irr] at c
        cases c
      · exact e
    · rcases List.mem_cons.mp ((h z).mpr (List.mem_cons_of_mem _ hz)) with e | e
      · have c := a2 z hz
        rw [e, lexI_irr] at c
        cases c
      · exact e
theorem asc_eqZ : ∀ {ps qs : List Int}, ps.Pairwise (· < ·) → qs.Pairwise (· < ·) → (∀ p, p ∈ ps ↔ p ∈ qs) → ps = qs
  | [], [], _, _, _ => rfl
  | [], q :: qs, _, _, h => absurd ((h q).mpr List.mem_cons_self) (by simp)
  | p :: ps, [], _, _, h => absurd ((h p).mp List.mem_cons_self) (by simp)
  | p :: ps, q :: qs, h1, h2, h => by
    obtain ⟨a1, b1⟩ := List.pairwise_cons.mp h1
    obtain ⟨a2, b2⟩ := List.pairwise_cons.mp h2
    have e : p = q := by
      rcases List.mem_cons.mp ((h p).mp List.mem_cons_self) with e | e
      · exact e
      · rcases List.mem_cons.mp ((h q).mpr List.mem_cons_self) with e' | e'
        · exact e'.symm
        · have := a2 p e
          have := a1 q e'
          omega
    subst e
    refine congrArg (p :: ·) (asc_eqZ b1 b2 fun z => ⟨fun hz => ?_, fun hz => ?_⟩)
    · rcases List.mem_cons.mp ((h z).mp (List.mem_cons_of_mem _ hz)) with e | e
      · have := a1 z hz
        omega
      · exact e
    · rcases List.mem_cons.mp ((h z).mpr (List.mem_cons_of_mem _ hz)) with e | e
      · have := a2 z hz
        omega
      · exact e
/-- neighbours within some vertices -/
def RWi (ns : List Int) (ps : List (Int × Int)) (a b : Int) : Prop := a ∈ ns ∧ b ∈ ns ∧ nrm (a, b) ∈ ps
theorem nrm_cm (u v : Int) : nrm (u, v) = nrm (v, u) := by
  unfold nrm
  exact Prod.ext (by dsimp only; omega) (by dsimp only; omega)
theorem RWi.symm {ns : List Int} {ps : List (Int × Int)} (a b : Int) (h : RWi ns ps a b) : RWi ns ps b a := ⟨h.2.1, h.1, nrm_cm a b ▸ h.2.2⟩
theorem Con.inn {ns : List Int} {ps : List (Int × Int)} {v z : Int} (hv : v ∈ ns) (h : Con (RWi ns ps) v z) : z ∈ ns := Con.closed (S := fun z => z ∈ ns) hv (fun _ _ _ r => r.2.1) h
/-- the classes of a graph: what the components are -/
structure Parts (ns : List Int) (ps : List (Int × Int)) (qs : List (List Int)) : Prop where
  asc : qs.Pairwise (fun x y => lexI x y = true)
  cls : ∀ c, c ∈ qs ↔ ∃ v ∈ ns, c.Pairwise (· < ·) ∧ ∀ z, z ∈ c ↔ Con (RWi ns ps) v z
theorem Parts.uniq {ns : List Int} {ps : List (Int × Int)} {qs rs : List (List Int)} (h : Parts ns ps qs) (k : Parts ns ps rs) : qs = rs := asc_eqL h.asc k.asc fun c => (h.cls c).trans (k.cls c).symm
/-- one part: all are connected with the first -/
theorem Parts.one {z : Int} {ns : List Int} {ps : List (Int × Int)} {qs : List (List Int)} (h : Parts (z :: ns) ps qs) (mk : ∀ v ∈ z :: ns, ∃ c ∈ qs, v ∈ c) : qs.length = 1 ↔ ∀ v ∈ z :: ns, Con (RWi (z :: ns) ps) z v := by
  obtain ⟨c0, hc0, z0⟩ := mk z List.mem_cons_self
  constructor
  · intro e v hv
    obtain ⟨c, hc, vc⟩ := mk v hv
    obtain ⟨x, rfl⟩ := List.length_eq_one_iff.mp e
    rw [List.mem_singleton.mp hc0] at z0
    rw [List.mem_singleton.mp hc] at vc
    obtain ⟨u, hu, _, mem⟩ := (h.cls x).mp List.mem_cons_self
    exact ((mem z).mp z0).symm (RWi.symm) |>.trans ((mem v).mp vc)
  · intro all
    have same : ∀ c ∈ qs, c = c0 := fun c hc => by
      obtain ⟨u, hu, a1, m1⟩ := (h.cls c).mp hc
      obtain ⟨u0, hu0, a2, m2⟩ := (h.cls c0).mp hc0
      refine asc_eqZ a1 a2 fun y => (m1 y).trans (Iff.trans ⟨fun k => ?_, fun k => ?_⟩ (m2 y).symm)
      · exact ((all u0 hu0).symm RWi.symm).trans ((all u hu).trans k)
      · exact ((all u hu).symm RWi.symm).trans ((all u0 hu0).trans k)
    match qs, hc0, same, h.asc with
    | [], hc, _, _ => cases hc
    | [_], _, _, _ => rfl
    | a :: b :: r, _, s, pw =>
      have e1 := s a List.mem_cons_self
      have e2 := s b (List.mem_cons_of_mem _ List.mem_cons_self)
      have := (List.pairwise_cons.mp pw).1 b List.mem_cons_self
      rw [e1, e2, lexI_irr] at this
      cases this

set_option Elab.async false
set_option linter.all false
set_option maxRecDepth 100000
set_option maxHeartbeats 4000000
open PySem PySem.Spec PyProof.Rows L2
/-! # t.index(x), t of ints -/
def rTIdx (K : PySem.W.Frag) : V → List V → Hp → VK → Prop := fun x xs H Q => ∃ (p : Addr) (ns : List Int) (k : Int), x = .ref p ∧ xs = [.int k] ∧ SqT K H p (ns.map V.int) ∧ k ∈ ns ∧ Q (.int (ns.idxOf k : Nat)) H
section
variable {X : Cx} {K : PySem.W.Frag}
theorem mt_tupIdx : MtR X "tuple.index" (rTIdx X.K) := by
  intro pins s σ H x xs v us Q I rx rs h
  obtain ⟨p, ns, k, rfl, rfl, hq, hk, q⟩ := h
  cases rx
  obtain ⟨u, rfl, t, rfl⟩ := vals1 rs
  obtain ⟨its, r, pl, hz⟩ := I.tuple hq
  exact SeqAt.tuple_index_ints (show s.heap.IsTuple p its.toArray from pl) r.ints hk ⟨.int _, H, I.tok _, ⟨_, rfl⟩, q⟩
theorem mt_tupIdxK (h : X.K = K) : MtR X "tuple.index" (rTIdx K) := h ▸ mt_tupIdx
end

set_option Elab.async false
set_option linter.all false
set_option maxRecDepth 100000
set_option maxHeartbeats 4000000
open PySem PySem.Spec PyProof.Rows L2
/-! # the bits of any whole number -/
def Bit (x : Int) (i : Nat) : Bool := if 0 ≤ x then x.toNat.testBit i else !(Builtin.bitNot x).toNat.testBit i
theorem Bit_nn {x : Int} (h : 0 ≤ x) (i : Nat) : Bit x i = x.toNat.testBit i := if_pos h
theorem Bit_neg {x : Int} (h : x < 0) (i : Nat) : Bit x i = !(Builtin.bitNot x).toNat.testBit i := if_neg (by omega)
theorem bitNot_not (x : Int) : Builtin.bitNot (Builtin.bitNot x) = x := by unfold Builtin.bitNot; omega
theorem Bit_not (x : Int) (i : Nat) : Bit (Builtin.bitNot x) i = !Bit x i := by
  by_cases h : 0 ≤ x
  · rw [Bit_nn h, Bit_neg (by unfold Builtin.bitNot; omega), bitNot_not]
  · rw [Bit_neg (x := x) (by omega), Bit_nn (by unfold Builtin.bitNot; omega), Bool.not_not]
theorem sub_and_bits (a b i : Nat) : (a - (a &&& b)).testBit i = (a.testBit i && !b.testBit i) := by
  have e : a - (a &&& b) = a ^^^ (a &&& b) := by
    have h1 := Bits.bitXor_pp (x := a) (y := ((a &&& b : Nat) : Int)) (by omega) (by omega)
    have h2 := bitXor_and (a : Int) ((a &&& b : Nat) : Int)
    rw [bitAnd_pp (x := a) (y := ((a &&& b : Nat) : Int)) (by omega) (by omega)] at h2
    rw [Int.toNat_natCast, Int.toNat_natCast] at h1 h2
    have e3 : a &&& (a &&& b) = a &&& b := by
      apply Nat.eq_of_testBit_eq
      intro j
      rw [Nat.testBit_and, Nat.testBit_and]
      cases a.testBit j <;> simp
    rw [e3] at h2
    have : a &&& b ≤ a := Nat.and_le_left
    omega
  rw [e, Nat.testBit_xor, Nat.testBit_and]
  cases a.testBit i <;> cases b.testBit i <;> rfl
theorem bitAnd_pn {x y : Int} (hx : 0 ≤ x) (hy : y < 0) : Builtin.bitAnd x y = ((x.toNat - (x.toNat &&& (Builtin.bitNot y).toNat) : Nat) : Int) := by
  have h : x.toNat &&& (Builtin.bitNot y).toNat ≤ x.toNat := Nat.and_le_left
  have : Builtin.bitAnd x y = x - ((x.toNat &&& (Builtin.bitNot y).toNat : Nat) : Int) := by
    unfold Builtin.bitAnd
    rw [decide_eq_true hx, decide_eq_false (by omega : ¬ 0 ≤ y)]
  omega
theorem bitAnd_np {x y : Int} (hx : x < 0) (hy : 0 ≤ y) : Builtin.bitAnd x y = ((y.toNat - (y.toNat &&& (Builtin.bitNot x).toNat) : Nat) : Int) := by
  have h : y.toNat &&& (Builtin.bitNot x).toNat ≤ y.toNat := Nat.and_le_left
  have : Builtin.bitAnd x y = y - ((y.toNat &&& (Builtin.bitNot x).toNat : Nat) : Int) := by
    unfold Builtin.bitAnd
    rw [decide_eq_false (by omega : ¬ 0 ≤ x), decide_eq_true hy]
  omega
theorem bitAnd_nn {x y : Int} (hx : x < 0) (hy : y < 0) : Builtin.bitAnd x y = Builtin.bitNot (((Builtin.bitNot x).toNat ||| (Builtin.bitNot y).toNat : Nat) : Int) := by
  unfold Builtin.bitAnd
  rw [decide_eq_false (by omega : ¬ 0 ≤ x), decide_eq_false (by omega : ¬ 0 ≤ y)]
theorem Bit_and (x y : Int) (i : Nat) : Bit (Builtin.bitAnd x y) i = (Bit x i && Bit y i) := by
  by_cases hx : 0 ≤ x <;> by_cases hy : 0 ≤ y
  · rw [bitAnd_pp hx hy, Bit_nn (by omega), Bit_nn hx, Bit_nn hy, Int.toNat_natCast, Nat.testBit_and]
  · rw [bitAnd_pn hx (by omega), Bit_nn (by omega), Bit_nn hx, Bit_neg (by omega), Int.toNat_natCast, sub_and_bits]
  · rw [bitAnd_np (by omega) hy, Bit_nn (by omega), Bit_nn hy, Bit_neg (by omega), Int.toNat_natCast, sub_and_bits, Bool.and_comm]
  · rw [bitAnd_nn (by omega) (by omega), Bit_not, Bit_nn (by omega), Bit_neg (by omega), Bit_neg (by omega), Int.toNat_natCast, Nat.testBit_or, Bool.not_or]
theorem Bit_or (x y : Int) (i : Nat) : Bit (Builtin.bitOr x y) i = (Bit x i || Bit y i) := by
  show Bit (Builtin.bitNot (Builtin.bitAnd (Builtin.bitNot x) (Builtin.bitNot y))) i = _
  rw [Bit_not, Bit_and, Bit_not, Bit_not, Bool.not_and, Bool.not_not, Bool.not_not]
theorem bitAnd_left {x y : Int} (hx : 0 ≤ x) : 0 ≤ Builtin.bitAnd x y := by
  by_cases hy : 0 ≤ y
  · rw [bitAnd_pp hx hy]; omega
  · rw [bitAnd_pn hx (by omega)]; omega
theorem bitAnd_right {x y : Int} (hy : 0 ≤ y) : 0 ≤ Builtin.bitAnd x y := by
  by_cases hx : 0 ≤ x
  · rw [bitAnd_pp hx hy]; omega
  · rw [bitAnd_np (by omega) hy]; omega
/-- the lowest bit -/
theorem low_nat : ∀ n : Nat, 0 < n → ∃ k, n.testBit k = true ∧ (∀ i, i < k → n.testBit i = false) ∧ 2 ^ k ≤ n ∧ n &&& (n - 1) = n - 2 ^ k := by
  intro n
  induction n using Nat.strongRecOn with
  | _ n ih =>
    intro h
    by_cases c : n % 2 = 1
    · refine ⟨0, by rw [Nat.testBit_zero]; exact decide_eq_true c, fun i hi => absurd hi (Nat.not_lt_zero _), by rw [Nat.pow_zero]; exact h, ?_⟩
      rw [Nat.pow_zero]
      apply Nat.eq_of_testBit_eq
      intro j
      rw [Nat.testBit_and]
      cases j with
      | zero =>
        rw [Nat.testBit_zero, Nat.testBit_zero, decide_eq_true c, Bool.true_and]
      | succ j =>
        rw [Nat.testBit_succ, Nat.testBit_succ, show (n - 1) / 2 = n / 2 by omega, Bool.and_self]
    · obtain ⟨k, h1, h2, h3, h4⟩ := ih (n / 2) (by omega) (by omega)
      have e2 : 2 ^ (k + 1) = 2 * 2 ^ k := by rw [Nat.pow_succ]; omega
      refine ⟨k + 1, by rw [Nat.testBit_succ]; exact h1, fun i hi => ?_, by omega, ?_⟩
      · cases i with
        | zero => rw [Nat.testBit_zero]; exact decide_eq_false c
        | succ i => rw [Nat.testBit_succ]; exact h2 i (by omega)
      · have e3 : n - 2 ^ (k + 1) = 2 * (n / 2 - 2 ^ k) := by omega
        rw [e3, ← h4]
        apply Nat.eq_of_testBit_eq
        intro j
        rw [Nat.testBit_and]
        cases j with
        | zero =>
          rw [Nat.testBit_zero, Nat.testBit_zero, Nat.testBit_zero, decide_eq_false c, Bool.false_and]
          exact (decide_eq_false (by omega)).symm
        | succ j =>
          rw [Nat.testBit_succ, Nat.testBit_succ, Nat.testBit_succ, show (n - 1) / 2 = n / 2 - 1 by omega, show 2 * (n / 2 &&& (n / 2 - 1)) / 2 = (n / 2 &&& (n / 2 - 1)) by omega, Nat.testBit_and]
/-- x & -x, and what is left of x without it -/
theorem low_bit {x : Int} (h : 0 < x) : ∃ k : Nat, Builtin.bitAnd x (-x) = ((2 ^ k : Nat) : Int) ∧ Bit x k = true ∧ (∀ i, i < k → Bit x i = false) ∧ 0 ≤ Builtin.bitXor x (Builtin.bitAnd x (-x)) ∧ Builtin.bitXor x (Builtin.bitAnd x (-x)) < x ∧
    ∀ i, Bit (Builtin.bitXor x (Builtin.bitAnd x (-x))) i = (Bit x i && !decide (i = k)) := by
  obtain ⟨k, h1, h2, h3, h4⟩ := low_nat x.toNat (by omega)
  have p0 : 0 < 2 ^ k := Nat.two_pow_pos k
  have tb : ∀ j, (2 ^ k).testBit j = decide (k = j) := fun j => Nat.testBit_two_pow
  refine ⟨k, ?_⟩
  generalize 2 ^ k = p at *
  have e : Builtin.bitAnd x (-x) = (p : Int) := by
    rw [bitAnd_pn (by omega) (by omega), show (Builtin.bitNot (-x)).toNat = x.toNat - 1 by unfold Builtin.bitNot; omega, h4]
    omega
  have e5 : x.toNat ^^^ p = x.toNat - p := by
    rw [← h4]
    apply Nat.eq_of_testBit_eq
    intro j
    rw [Nat.testBit_xor, tb]
    by_cases c : k = j
    · subst c
      rw [h1, decide_eq_true rfl, Nat.testBit_and, h1]
      have h9 := sub_and_bits x.toNat (x.toNat - 1) k
      rw [h4, show x.toNat - (x.toNat - p) = p by omega, tb, decide_eq_true rfl, h1] at h9
      revert h9
      cases (x.toNat - 1).testBit k <;> simp
    · have h9 := sub_and_bits x.toNat (x.toNat - 1) j
      rw [h4, show x.toNat - (x.toNat - p) = p by omega, tb, decide_eq_false c] at h9
      rw [decide_eq_false c, Nat.testBit_and]
      revert h9
      cases x.toNat.testBit j <;> cases (x.toNat - 1).testBit j <;> simp
  have e7 : Builtin.bitXor x (p : Int) = ((x.toNat ^^^ p : Nat) : Int) := by
    rw [Bits.bitXor_pp (by omega) (by omega), Int.toNat_natCast]
  rw [e, e7]
  refine ⟨rfl, by rw [Bit_nn (by omega)]; exact h1, fun i hi => by rw [Bit_nn (by omega)]; exact h2 i hi, by omega, by rw [e5]; omega, fun i => ?_⟩
  rw [Bit_nn (by omega), Int.toNat_natCast, Nat.testBit_xor, tb, Bit_nn (by omega)]
  by_cases c : i = k
  · subst c
    rw [h1]
    simp
  · rw [decide_eq_false c, decide_eq_false (fun z => c z.symm)]
    cases x.toNat.testBit i <;> rfl
theorem intBits_pow (k : Nat) : Builtin.Int.intBits ((2 ^ k : Nat) : Int) = k + 1 := by
  unfold Builtin.Int.intBits
  have p : 0 < 2 ^ k := Nat.two_pow_pos k
  rw [Int.natAbs_natCast, Nat.log2_two_pow, if_neg]
  generalize 2 ^ k = q at *
  rw [beq_iff_eq]
  omega

set_option Elab.async false
set_option linter.all false
set_option maxRecDepth 100000
set_option maxHeartbeats 4000000
open PySem PySem.Spec PyProof.Rows L2
/-! # masks: their lowest bit, what is not in them -/
def Bts (x : Int) (S : Int → Prop) : Prop := ∀ i : Nat, Bit x i = true ↔ S i
theorem Msk.bts {x : Int} {S : Int → Prop} (a : Msk x S) : Bts x S := fun i => by rw [Bit_nn a.nn]; exact a.bits i
theorem Msk.of {x : Int} {S : Int → Prop} (h : 0 ≤ x) (b : Bts x S) : Msk x S := ⟨h, fun i => by rw [← Bit_nn h]; exact b i⟩
theorem Bts.not {x : Int} {S : Int → Prop} (a : Bts x S) : Bts (Builtin.bitNot x) (fun i => ¬ S i) := fun i => by
  show Bit (Builtin.bitNot x) i = true ↔ ¬ S i
  rw [Bit_not, ← a i]
  cases Bit x i <;> simp
theorem Bts.and {x y : Int} {S T : Int → Prop} (a : Bts x S) (b : Bts y T) : Bts (Builtin.bitAnd x y) (fun i => S i ∧ T i) := fun i => by
  rw [Bit_and, Bool.and_eq_true, a i, b i]
theorem Bts.or {x y : Int} {S T : Int → Prop} (a : Bts x S) (b : Bts y T) : Bts (Builtin.bitOr x y) (fun i => S i ∨ T i) := fun i => by
  rw [Bit_or, Bool.or_eq_true, a i, b i]
theorem Msk.andB {x y : Int} {S T : Int → Prop} (a : Msk x S) (b : Bts y T) : Msk (Builtin.bitAnd x y) (fun i => S i ∧ T i) := .of (bitAnd_left a.nn) (a.bts.and b)
theorem Msk.bAnd {x y : Int} {S T : Int → Prop} (a : Bts x S) (b : Msk y T) : Msk (Builtin.bitAnd x y) (fun i => S i ∧ T i) := .of (bitAnd_right b.nn) (a.and b.bts)
/-- all vertices below n -/
theorem Msk.full {n : Int} (h : 0 ≤ n) : Msk (1 * 2 ^ n.toNat - 1) (fun i => i < n) := by
  have e : (1 * 2 ^ n.toNat - 1 : Int) = ((2 ^ n.toNat - 1 : Nat) : Int) := by
    have p := Nat.two_pow_pos n.toNat
    have c := PySem.W.kbt_cast n.toNat
    generalize 2 ^ n.toNat = q at *
    omega
  rw [e]
  refine ⟨Int.natCast_nonneg _, fun i => ?_⟩
  rw [Int.toNat_natCast, Nat.testBit_two_pow_sub_one, decide_eq_true_eq]
  omega
theorem Msk.sub {x y : Int} {S T : Int → Prop} (a : Msk x S) (b : Msk y T) (h : ∀ i : Nat, S i ↔ T i) : x = y := (a.congr h).uniq b
theorem Msk.eq_iff {x y : Int} {S T : Int → Prop} (a : Msk x S) (b : Msk y T) : x = y ↔ ∀ i : Nat, S i ↔ T i := by
  refine ⟨fun e i => ?_, a.sub b⟩
  subst e
  exact (a.bits i).symm.trans (b.bits i)
/-- x.bit_length() -/
def rBitLen : V → List V → Hp → VK → Prop := fun x xs H Q => ∃ i : Int, x = .int i ∧ xs = [] ∧ Q (.int (Builtin.Int.intBits i)) H
theorem mt_bitlen {X : Cx} : MtR X "int.bit_length" rBitLen := by
  intro pins s σ H x xs v us Q I rx rv h
  obtain ⟨i, rfl, rfl, q⟩ := h
  obtain ⟨t, rfl⟩ := rx
  have hus : us = [] := rv.zero
  subst hus
  exact call_int_bit_length ⟨.int _, H, I.tok _, ⟨_, rfl⟩, q⟩
section
variable {K : PySem.W.Frag} {σ : L2.St} {H : Hp} {Q : VK}
theorem r_bm0I {r : V → List V → Hp → VK → Prop} {i : Int} (q : r (.int i) [] H Q) : Bm0 K "int" r Q (.int i) H := ⟨rfl, q⟩
theorem r_bitlen {i : Int} (q : Q (.int (Builtin.Int.intBits i)) H) : rBitLen (.int i) [] H Q := ⟨i, rfl, rfl, q⟩
theorem r_augI {i : Nat} {f : Int → Int → V} {nx : L2.St → Hp → Prop} {a b : Int} {σ' : L2.St} (e : σ.set i (some (f a b)) = σ') (h : nx σ' H) : AugN i (rI0 f) σ nx (.int a) (.int b) H := ⟨a, b, rfl, rfl, by subst e; exact h⟩
end

set_option Elab.async false
set_option linter.all false
set_option maxRecDepth 100000
set_option maxHeartbeats 4000000
open PySem PySem.Spec PySem.W PyProof.Rows L2
/-! # the least of a list of data -/
theorem min_go : ∀ (ds : List PyData) (d : PyData), minD d ds ∈ d :: ds ∧ ∀ y ∈ d :: ds, dataLt y (minD d ds) = false := by
  intro ds
  induction ds with
  | nil =>
    intro d
    refine ⟨List.mem_cons_self, fun y hy => ?_⟩
    rw [List.mem_singleton.mp hy]
    exact lex_irrefl (O := itemOrd) _
  | cons e ds ih =>
    intro d
    have step : minD d (e :: ds) = minD (if dataLt e d then e else d) ds := rfl
    rw [step]
    by_cases c : dataLt e d = true
    · rw [if_pos c]
      obtain ⟨h1, h2⟩ := ih e
      refine ⟨List.mem_cons_of_mem _ h1, fun y hy => ?_⟩
      rcases List.mem_cons.mp hy with rfl | hy
      · have h3 := h2 e List.mem_cons_self
        cases q : dataLt y (minD e ds) with
        | false => rfl
        | true =>
          have := lex_trans (O := itemOrd) _ _ _ c q
          exact absurd (h3.symm.trans this) Bool.false_ne_true
      · exact h2 y hy
    · rw [if_neg c]
      obtain ⟨h1, h2⟩ := ih d
      refine ⟨?_, fun y hy => ?_⟩
      · rcases List.mem_cons.mp h1 with h | h
        · rw [h]
          exact List.mem_cons_self
        · exact List.mem_cons_of_mem _ (List.mem_cons_of_mem _ h)
      · rcases List.mem_cons.mp hy with rfl | hy
        · exact h2 y List.mem_cons_self
        · rcases List.mem_cons.mp hy with rfl | hy
          · cases q : dataLt y (minD d ds) with
            | false => rfl
            | true =>
              rcases lex_negTrans (O := itemOrd) _ (keyToks d) _ q with z | z
              · exact absurd z c
              · exact absurd ((h2 d List.mem_cons_self).symm.trans z) Bool.false_ne_true
          · exact h2 y (List.mem_cons_of_mem _ hy)
def rMinD (K : PySem.W.Frag) : List V → Hp → VK → Prop := fun vs H Q => ∃ (a : Addr) (xs : List V) (d : PyData) (ds : List PyData), vs = [.ref a] ∧ SqL K H a xs ∧ DpAll K H xs (d :: ds) ∧ AlikeAll (d :: ds) ∧ PyData.depthAll (d :: ds) ≤ 60 ∧
  ∀ (i : Nat) (x : V), xs[i]? = some x → (d :: ds)[i]? = some (minD d ds) → Q x H
section
variable {X : Cx}
theorem dpall_at {K : PySem.W.Frag} {H : Hp} : ∀ {xs : List V} {ds : List PyData} (i : Nat) {x : V}, DpAll K H xs ds → xs[i]? = some x → ∃ d, ds[i]? = some d ∧ Dp K H x d
  | _, _, _, _, .nil, h => by simp at h
  | _, _, 0, _, .cons h _, e => ⟨_, rfl, by
    have := Option.some.inj e
    exact this ▸ h⟩
  | _, _, i + 1, _, .cons _ t, e => dpall_at i t e
theorem cr_minD (hc : X.calm = true) (hu : X.A.units + 64 < cLine) : CallR X (.builtin "min") (rMinD X.K) := by
  intro pins s σ H vs us Q I r h
  obtain ⟨a, xs, d, ds, rfl, hl, hd, al, dep, q⟩ := h
  rw [Vals.ref1 r]
  obtain ⟨its, rv, hL, hz⟩ := I.list hl
  obtain ⟨as, ra⟩ := Dp.readsAll I (d :: ds) xs its hd rv
  refine min_list_data (I.ok.hd hc) hL.isList (by simpa using ra) al (by omega) fun i v h' tk bs hi rd hk => ?_
  have hi' : its[i]? = some v := by simpa using hi
  obtain ⟨x, hx, rx⟩ := pd_get2 rv hi'
  obtain ⟨d', hd', dx⟩ := dpall_at i hd hx
  obtain ⟨bs', rd'⟩ := Dp.reads I d' x v dx rx
  have e := (reads_det (fun b o z _ => hk b o z) rd' rd).1
  exact ⟨x, H, I.kept hk, rx, q i x hx (e ▸ hd')⟩
theorem cr_minDK {K : PySem.W.Frag} (h : X.K = K) (hc : X.calm = true) (hu : X.A.units + 64 < cLine) : CallR X (.builtin "min") (rMinD K) := h ▸ cr_minD hc hu
end

set_option Elab.async false
set_option linter.all false
set_option maxRecDepth 100000
set_option maxHeartbeats 4000000
open PySem PySem.Spec PyProof.Rows L2
/-! # ranges downwards, methods of tuples, slices of lists -/
section
variable {X : Cx} {K : PySem.W.Frag} {σ : L2.St} {H : Hp} {Q : VK}
def Rg3N (R : It → Hp → Prop) (vs : List V) (H1 : Hp) : Prop := ∃ (i j c : Int) (n : Nat), vs = [.int i, .int j, .int c] ∧ RgC i j c n ∧ R (Itc i c n) H1
theorem r_rng3 {ta : TA} {R : It → Hp → Prop} (h : ta σ H (Rg3N R)) : iRng3 ta σ H R := h
theorem r_rg3 {i j : Int} {R : It → Hp → Prop} (h1 : -4611686018427387904 ≤ i ∧ i < 4611686018427387904 ∧ -4611686018427387904 ≤ j ∧ j < 4611686018427387904) (h : R (Itc i (-1) (i - j).toNat) H) : Rg3N R [V.int i, V.int j, V.int (-1)] H :=
  ⟨i, j, -1, _, rfl, RgC.neg h1.1 h1.2.1 h1.2.2.1 h1.2.2.2, h⟩
theorem forR_rangeC {lo c : Int} {n : Nat} {g : TG} {tb : TS} {nx : L2.St → Hp → Prop} (Pv : Nat → L2.St → Hp → Prop) (h0 : Pv 0 σ H)
    (hs : ∀ (i : Nat) σ H, i < n → Pv i σ H → g (.int (lo + (i : Nat) * c)) σ H fun σ2 H2 => tb ⟨Pv (i + 1), Q, nx, Pv (i + 1)⟩ σ2 H2) (hd : ∀ σ H, Pv n σ H → nx σ H) : ForR (Itc lo c n) g tb nx Q σ H :=
  for_rangeC (D := ⟨nx, Q, nx, nx⟩) Pv h0 hs hd
/-- tuple(l), its object known not to have a dict -/
def rTupF (K : PySem.W.Frag) : List V → Hp → VK → Prop := fun vs H Q => ∃ (p : Addr) (ys : List V), vs = [V.ref p] ∧ SqL K H p ys ∧ ∀ (l : Addr) (o : Obj), H l = none → o.dict = none → Q (.ref l) (upd H l (.frz o (.tup ys)))
theorem cr_tupF : CallR X (.type "tuple") (rTupF X.K) := by
  intro pins s σ H xs us Q I r h
  obtain ⟨p, ys, rfl, hq, q⟩ := h
  rw [Vals.ref1 r]
  obtain ⟨its, rv, pl, hz⟩ := I.list hq
  have len := rv.length
  refine call_tuple_list pl.isList (fun h' kp => ?_) (by rw [List.size_toArray, ← len]; exact hz)
  have I1 : Inv X pins σ H { s with heap := h' } := I.kept kp
  have new : ObjOk X.prog X.w (upd H h'.objs.size (.frz { cls := .type "tuple", data := .seq its.toArray } (.tup ys))) (h'.push { cls := .type "tuple", data := .seq its.toArray }) h'.objs.size (.frz { cls := .type "tuple", data := .seq its.toArray } (.tup ys)) :=
    ⟨Heap.get?_push_size _ rfl, hz, its, rv, IsTup.new _ _⟩
  exact ⟨.ref h'.objs.size, _, I1.laid (fun b o e => Heap.get?_push_of_some _ e) (Nat.le_refl _) new, rfl, q _ _ (I1.hok.fresh (Nat.le_refl _)) rfl⟩
theorem cr_tupFK (h : X.K = K) : CallR X (.type "tuple") (rTupF K) := h ▸ cr_tupF
theorem cr_sortedK (h : X.K = K) : CallR X (.builtin "sorted") (rSorted K) := h ▸ cr_sorted
/-- a method of such a tuple, with arguments -/
def FrT (H : Hp) (p : Addr) (ys : List V) : Prop := ∃ o : Obj, H p = some (.frz o (.tup ys)) ∧ o.dict = none
def tBU (r : V → List V → Hp → VK → Prop) (to : TE) (t : TA) : TE := fun σ H Q => to σ H fun x H1 => (∃ p ys, x = V.ref p ∧ FrT H1 p ys) ∧ t σ H1 fun xs H2 => r x xs H2 Q
theorem tup_type {pins : List (Addr × Obj)} {s : Shared} {p : Addr} {ys : List V} (I : Inv X pins σ H s) (h : FrT H p ys) : s.TypeIs (.ref p) "tuple" ∧ ∀ a, Value.ref p = .ref a → ∃ ob, s.heap.get? a = some ob ∧ ob.dict = none := by
  obtain ⟨o, ho, nd⟩ := h
  obtain ⟨g, _, its, _, ⟨o', ho', hc, _⟩⟩ := I.hok p _ ho
  have e : o' = o := Option.some.inj (ho'.symm.trans g)
  subst e
  refine ⟨⟨o', ho', hc⟩, fun a e => ?_⟩
  cases e
  exact ⟨o', ho', nd⟩
theorem pe_bu {ob ar : Expr} {rest : List Expr} {to : TE} {t : TA} {nm : Str} {ap cp : Pos} {id : String} {r : V → List V → Hp → VK → Prop} (pa : PlainAttrs "tuple") (sl : Slot "tuple" nm id) (ty : typeOf (.builtin id) = pure (.type "method_descriptor")) (hm : MtR X id r) (ho : PE X ob to) (ha : PA X (ar :: rest) t)
    (hb : attributeBase ob nm X.env (eval ob X.env) = eval ob X.env := by rfl)
    (hf : ((backTo cp (starEach (ar :: rest) X.env)).all (fun x => !x.1) && (backToKw cp (keywordEach [] X.env)).all (fun x => x.1.isSome) && decide ((ar :: rest).length + ([] : List Keyword).length + (if ([] : List Keyword).isEmpty then 0 else 1) < 30)) = true := by rfl)
    (hl : (ap.endLine == cp.line) = true := by rfl) (hs : starEach (ar :: rest) X.env = (false, eval ar X.env) :: starEach rest X.env := by rfl) (hp : (backTo cp (starEach rest X.env)).any (·.1) = false := by rfl) : PE X (.Call (.Attribute ob nm ap) (ar :: rest) [] cp) (tBU r to t) := by
  refine ⟨fun pins s σ H Q I h => ?_⟩
  refine wpAny_Call_method_late hb hf hl rfl (thn (ho.run pins s σ H _ I h) fun v s1 z => ?_)
  obtain ⟨x, H1, I1, r1, ⟨p, ys, e, hq⟩, q1⟩ := z
  subst e
  cases r1
  obtain ⟨t1, t2⟩ := tup_type I1 hq
  refine ⟨"tuple", id, pa, sl, ty, t1, t2, ?_⟩
  have hA := ha.run cp pins s1 σ H1 _ I1 q1
  rw [hs] at hA ⊢
  refine Calls.callWith_builtin (by show (false || (backTo cp (starEach rest X.env)).any (·.1)) = false; rw [hp]; rfl) (Calls.evalArgs_plain ?_)
  exact thn hA fun us s2 ⟨vs, H2, I2, r2, q2⟩ => hm pins s2 σ H2 _ vs _ us Q I2 (show L2.RelV (V.ref p) (Value.ref p) from rfl) r2 q2
def BuN (r : V → List V → Hp → VK → Prop) (t : TA) (σ : L2.St) (Q : VK) : VK := fun x H1 => (∃ p ys, x = V.ref p ∧ FrT H1 p ys) ∧ t σ H1 fun xs H2 => r x xs H2 Q
theorem r_bu {r : V → List V → Hp → VK → Prop} {to : TE} {t : TA} (h : to σ H (BuN r t σ Q)) : tBU r to t σ H Q := h
theorem r_buT {r : V → List V → Hp → VK → Prop} {t : TA} {p : Addr} {ys : List V} (h : FrT H p ys) (q : t σ H fun xs H2 => r (.ref p) xs H2 Q) : BuN r t σ Q (.ref p) H := ⟨⟨p, ys, rfl, h⟩, q⟩
theorem r_tupF {p : Addr} {ys : List V} (h : SqL K H p ys) (q : ∀ (l : Addr) (o : Obj), H l = none → o.dict = none → Q (.ref l) (upd H l (.frz o (.tup ys)))) : rTupF K [.ref p] H Q := ⟨p, ys, rfl, h, q⟩
theorem FrT.sq {p : Addr} {ys : List V} (h : FrT H p ys) : SqT K H p ys := by
  obtain ⟨o, h, _⟩ := h
  exact .inl (.inr ⟨o, h⟩)
theorem r_name14 {x0 x1 x2 x3 x4 x5 x6 x7 x8 x9 x10 x11 x12 x13 x14 : Option V} {σ : L2.St} {v : V} {q : L2.St → Hp → Prop} (h : q (x0 :: x1 :: x2 :: x3 :: x4 :: x5 :: x6 :: x7 :: x8 :: x9 :: x10 :: x11 :: x12 :: x13 :: some v :: σ) H) : gName 14 v (x0 :: x1 :: x2 :: x3 :: x4 :: x5 :: x6 :: x7 :: x8 :: x9 :: x10 :: x11 :: x12 :: x13 :: x14 :: σ) H q := h
theorem r_name15 {x0 x1 x2 x3 x4 x5 x6 x7 x8 x9 x10 x11 x12 x13 x14 x15 : Option V} {σ : L2.St} {v : V} {q : L2.St → Hp → Prop} (h : q (x0 :: x1 :: x2 :: x3 :: x4 :: x5 :: x6 :: x7 :: x8 :: x9 :: x10 :: x11 :: x12 :: x13 :: x14 :: some v :: σ) H) : gName 15 v (x0 :: x1 :: x2 :: x3 :: x4 :: x5 :: x6 :: x7 :: x8 :: x9 :: x10 :: x11 :: x12 :: x13 :: x14 :: x15 :: σ) H q := h
theorem r_name16 {x0 x1 x2 x3 x4 x5 x6 x7 x8 x9 x10 x11 x12 x13 x14 x15 x16 : Option V} {σ : L2.St} {v : V} {q : L2.St → Hp → Prop} (h : q (x0 :: x1 :: x2 :: x3 :: x4 :: x5 :: x6 :: x7 :: x8 :: x9 :: x10 :: x11 :: x12 :: x13 :: x14 :: x15 :: some v :: σ) H) : gName 16 v (x0 :: x1 :: x2 :: x3 :: x4 :: x5 :: x6 :: x7 :: x8 :: x9 :: x10 :: x11 :: x12 :: x13 :: x14 :: x15 :: x16 :: σ) H q := h
theorem r_name17 {x0 x1 x2 x3 x4 x5 x6 x7 x8 x9 x10 x11 x12 x13 x14 x15 x16 x17 : Option V} {σ : L2.St} {v : V} {q : L2.St → Hp → Prop} (h : q (x0 :: x1 :: x2 :: x3 :: x4 :: x5 :: x6 :: x7 :: x8 :: x9 :: x10 :: x11 :: x12 :: x13 :: x14 :: x15 :: x16 :: some v :: σ) H) : gName 17 v (x0 :: x1 :: x2 :: x3 :: x4 :: x5 :: x6 :: x7 :: x8 :: x9 :: x10 :: x11 :: x12 :: x13 :: x14 :: x15 :: x16 :: x17 :: σ) H q := h
theorem r_name18 {x0 x1 x2 x3 x4 x5 x6 x7 x8 x9 x10 x11 x12 x13 x14 x15 x16 x17 x18 : Option V} {σ : L2.St} {v : V} {q : L2.St → Hp → Prop} (h : q (x0 :: x1 :: x2 :: x3 :: x4 :: x5 :: x6 :: x7 :: x8 :: x9 :: x10 :: x11 :: x12 :: x13 :: x14 :: x15 :: x16 :: x17 :: some v :: σ) H) : gName 18 v (x0 :: x1 :: x2 :: x3 :: x4 :: x5 :: x6 :: x7 :: x8 :: x9 :: x10 :: x11 :: x12 :: x13 :: x14 :: x15 :: x16 :: x17 :: x18 :: σ) H q := h
theorem r_name19 {x0 x1 x2 x3 x4 x5 x6 x7 x8 x9 x10 x11 x12 x13 x14 x15 x16 x17 x18 x19 : Option V} {σ : L2.St} {v : V} {q : L2.St → Hp → Prop} (h : q (x0 :: x1 :: x2 :: x3 :: x4 :: x5 :: x6 :: x7 :: x8 :: x9 :: x10 :: x11 :: x12 :: x13 :: x14 :: x15 :: x16 :: x17 :: x18 :: some v :: σ) H) : gName 19 v (x0 :: x1 :: x2 :: x3 :: x4 :: x5 :: x6 :: x7 :: x8 :: x9 :: x10 :: x11 :: x12 :: x13 :: x14 :: x15 :: x16 :: x17 :: x18 :: x19 :: σ) H q := h
theorem r_tidx {p : Addr} {ns : List Int} {k : Int} (h : SqT K H p (ns.map V.int)) (hk : k ∈ ns) (q : Q (.int (ns.idxOf k : Nat)) H) : rTIdx K (.ref p) [.int k] H Q := ⟨p, ns, k, rfl, rfl, h, hk, q⟩
/-- xs[:k], xs[k:-1] -/
theorem r_slLTo {a : Addr} {xs : List V} {k : Nat} (h : SqL K H a xs) (hk : k ≤ xs.length) (q : ∀ p, H p = none → Q (.ref p) (upd H p (.lst (xs.take k)))) : rSlL K (.ref a) none (some (k : Int)) H Q :=
  ⟨a, xs, rfl, h, by rw [cut_to xs k hk]; exact q⟩
theorem cut_mid (xs : List V) (k : Nat) (h : k < xs.length) : cutV xs (some (k : Int)) (some (-1)) = xs.dropLast.drop k := by
  unfold cutV
  have e : HT.sIx xs.length xs.length (some (-1)) = xs.length - 1 := by
    show (if (-1 : Int) < 0 then ((-1 : Int) + (xs.length : Int)).toNat else min (-1 : Int).toNat xs.length) = xs.length - 1
    rw [if_pos (by omega)]
    omega
  rw [e, HT.sIx_nat, Nat.min_eq_left (by omega), List.dropLast_eq_take, List.drop_take]
theorem r_slLMid {a : Addr} {xs : List V} {k : Nat} (h : SqL K H a xs) (hk : k < xs.length) (q : ∀ p, H p = none → Q (.ref p) (upd H p (.lst (xs.dropLast.drop k)))) : rSlL K (.ref a) (some (k : Int)) (some (-1)) H Q :=
  ⟨a, xs, rfl, h, by rw [cut_mid xs k hk]; exact q⟩
theorem r_slTFrom {a : Addr} {x : V} {xs : List V} (h : SqT K H a (x :: xs)) (q : ∀ p, H p = none → Q (.ref p) (upd H p (.tup xs))) : rSlT K (.ref a) (some 1) none H Q := by
  refine ⟨a, x :: xs, rfl, h, ?_, ?_⟩
  · have e : HT.sIx (x :: xs).length 0 (some 1) = 1 := by
      rw [show (1 : Int) = ((1 : Nat) : Int) from rfl, HT.sIx_nat]
      simp
    rw [e]
    exact fun z => absurd z.1 (by decide)
  · have e := cut_from (x :: xs) 1 (by simp)
    rw [show ((1 : Nat) : Int) = 1 from rfl] at e
    rw [e]
    exact q
end

set_option Elab.async false
set_option linter.all false
set_option maxRecDepth 100000
set_option maxHeartbeats 4000000
/-! # modules of a relation, strong ones, and those right below a strong one -/
structure Mdl (R : Int → Int → Prop) (V S : Int → Prop) : Prop where
  some : ∃ z, S z
  sub : ∀ z, S z → V z
  uni : ∀ v, V v → ¬ S v → (∀ u, S u → R u v) ∨ (∀ u, S u → ¬ R u v)
structure Strg (R : Int → Int → Prop) (V S : Int → Prop) : Prop where
  mdl : Mdl R V S
  strg : ∀ T, Mdl R V T → (∀ z, S z → T z) ∨ (∀ z, T z → S z) ∨ ∀ z, S z → ¬ T z
/-- the relation within M -/
def Wn (R : Int → Int → Prop) (M : Int → Prop) (a b : Int) : Prop := M a ∧ M b ∧ R a b
section
variable {R : Int → Int → Prop} {V M S : Int → Prop}
/-- a module of a module -/
theorem Mdl.trans (m : Mdl R V M) (s : Mdl R M S) : Mdl R V S := by
  refine ⟨s.some, fun z h => m.sub z (s.sub z h), fun v hv hs => ?_⟩
  by_cases c : M v
  · exact s.uni v c hs
  · rcases m.uni v hv c with h | h
    · exact .inl fun u hu => h u (s.sub u hu)
    · exact .inr fun u hu => h u (s.sub u hu)
theorem Mdl.within (s : Mdl R V S) (sub : ∀ z, S z → M z) (mv : ∀ z, M z → V z) : Mdl R M S := ⟨s.some, sub, fun v hv hs => s.uni v (mv v hv) hs⟩
theorem con_in {u z : Int} (hu : M u) (h : Con (Wn R M) u z) : M z := Con.closed (S := M) hu (fun _ _ _ r => r.2.1) h
theorem wn_symm (sy : ∀ a b, R a b → R b a) (a b : Int) (h : Wn R M a b) : Wn R M b a := ⟨h.2.1, h.1, sy _ _ h.2.2⟩
/-- components of a strong module are strong -/
theorem comp_mdl (sy : ∀ a b, R a b → R b a) (m : Mdl R V M) {u : Int} (hu : M u) : Mdl R V (Con (Wn R M) u) := by
  refine m.trans ⟨⟨u, .refl⟩, fun z h => con_in hu h, fun v hv hn => .inr fun w hw r => hn (.step hw ⟨con_in hu hw, hv, r⟩)⟩
theorem comp_strg (sy : ∀ a b, R a b → R b a) (m : Strg R V M) {u : Int} (hu : M u) : Strg R V (Con (Wn R M) u) := by
  refine ⟨comp_mdl sy m.mdl hu, fun T t => ?_⟩
  by_cases dj : ∀ z, Con (Wn R M) u z → ¬ T z
  · exact .inr (.inr dj)
  obtain ⟨z0, c0, t0⟩ : ∃ z, Con (Wn R M) u z ∧ T z := Classical.byContradiction fun h => dj fun z hz ht => h ⟨z, hz, ht⟩
  rcases m.strg T t with h | h | h
  · exact .inl fun z hz => h z (con_in hu hz)
  · by_cases c : ∀ z, T z → Con (Wn R M) u z
    · exact .inr (.inl c)
    obtain ⟨x, tx, cx⟩ : ∃ x, T x ∧ ¬ Con (Wn R M) u x := Classical.byContradiction fun h9 => c fun z hz => Classical.byContradiction fun n => h9 ⟨z, hz, n⟩
    refine .inl fun z hz => ?_
    have p : Con (Wn R M) z0 z := (Con.symm (wn_symm sy) c0).trans hz
    have q : Con (Wn R M) u z ∧ T z := Con.closed (S := fun z => Con (Wn R M) u z ∧ T z) ⟨c0, t0⟩ (fun a b ha r => by
      refine ⟨.step ha.1 r, Classical.byContradiction fun n => ?_⟩
      rcases t.uni b (m.mdl.sub b r.2.1) n with g | g
      · have := g x tx
        exact cx (.step (.step ha.1 r) ⟨r.2.1, h x tx, sy _ _ this⟩)
      · exact g a ha.2 r.2.2) p
    exact q.2
  · exact absurd t0 (h z0 (con_in hu c0))
/-- a strong module below M lies in one component -/
theorem comp_below (sy : ∀ a b, R a b → R b a) (m : Strg R V M) (s : Strg R V S) (sub : ∀ z, S z → M z) (ne : ∃ y, M y ∧ ¬ S y) : ∃ u, M u ∧ ∀ z, S z → Con (Wn R M) u z := by
  obtain ⟨u, su⟩ := s.mdl.some
  have hu := sub u su
  refine ⟨u, hu, fun x sx => Classical.byContradiction fun cx => ?_⟩
  obtain ⟨y, my, ny⟩ := ne
  have cu : ∀ z, Con (Wn R M) u z → S z := by
    rcases s.strg _ (comp_mdl sy m.mdl hu) with h | h | h
    · exact absurd (h x sx) cx
    · exact h
    · exact absurd .refl (h u su)
  have dy : ∀ z, S z → ¬ Con (Wn R M) y z := by
    rcases s.strg _ (comp_mdl sy m.mdl my) with h | h | h
    · exact absurd ((Con.symm (wn_symm sy) (h u su)).trans (h x sx)) cx
    · exact absurd (h y .refl) ny
    · exact h
  have md : Mdl R V (fun z => Con (Wn R M) u z ∨ Con (Wn R M) y z) := by
    refine m.mdl.trans ⟨⟨u, .inl .refl⟩, fun z h => h.elim (con_in hu) (con_in my), fun v hv hn => .inr fun w hw r => hn ?_⟩
    rcases hw with hw | hw
    · exact .inl (.step hw ⟨con_in hu hw, hv, r⟩)
    · exact .inr (.step hw ⟨con_in my hw, hv, r⟩)
  rcases s.strg _ md with h | h | h
  · rcases h x sx with h | h
    · exact cx h
    · exact dy x sx h
  · exact ny (h y (.inr .refl))
  · exact h u su (.inl .refl)
/-! ## the other side -/
theorem mdl_other {R' : Int → Int → Prop} (o : ∀ a b, V a → V b → a ≠ b → (R' a b ↔ ¬ R a b)) (s : Mdl R V S) : Mdl R' V S := by
  refine ⟨s.some, s.sub, fun v hv hs => ?_⟩
  have key : ∀ u, S u → (R' u v ↔ ¬ R u v) := fun u hu => o u v (s.sub u hu) hv fun e => hs (e ▸ hu)
  rcases s.uni v hv hs with h | h
  · exact .inr fun u hu r => (key u hu).mp r (h u hu)
  · exact .inl fun u hu => (key u hu).mpr (h u hu)
theorem other_symm {R' : Int → Int → Prop} (o : ∀ a b, V a → V b → a ≠ b → (R' a b ↔ ¬ R a b)) : ∀ a b, V a → V b → a ≠ b → (R a b ↔ ¬ R' a b) := fun a b ha hb ne => by
  rw [o a b ha hb ne]
  exact ⟨fun h n => n h, fun h => Classical.byContradiction h⟩
theorem strg_other {R' : Int → Int → Prop} (o : ∀ a b, V a → V b → a ≠ b → (R' a b ↔ ¬ R a b)) (s : Strg R V S) : Strg R' V S := ⟨mdl_other o s.mdl, fun T t => s.strg T (mdl_other (other_symm o) t)⟩
/-! ## where both sides are connected -/
/-- two modules that meet and are not all: neither is both together -/
theorem both_mdl {A B : Int → Prop} (a : Mdl R M A) (b : Mdl R M B) {z : Int} (az : A z) (bz : B z) : Mdl R M (fun v => A v ∨ B v) := by
  refine ⟨⟨z, .inl az⟩, fun v h => h.elim (a.sub v) (b.sub v), fun v hv hn => ?_⟩
  rcases a.uni v hv (fun h => hn (.inl h)) with h1 | h1 <;> rcases b.uni v hv (fun h => hn (.inr h)) with h2 | h2
  · exact .inl fun u hu => hu.elim (h1 u) (h2 u)
  · exact absurd (h1 z az) (h2 z bz)
  · exact absurd (h2 z bz) (h1 z az)
  · exact .inr fun u hu => hu.elim (h1 u) (h2 u)
theorem both_proper {R' : Int → Int → Prop} {A B : Int → Prop} (sy : ∀ a b, R a b → R b a) (o : ∀ a b, M a → M b → a ≠ b → (R' a b ↔ ¬ R a b)) (cn : ∀ a b, M a → M b → Con (Wn R M) a b) (cn' : ∀ a b, M a → M b → Con (Wn R' M) a b)
    (a : Mdl R M A) (b : Mdl R M B) (pa : ∃ y, M y ∧ ¬ A y) (pb : ∃ y, M y ∧ ¬ B y) {z : Int} (az : A z) (bz : B z) : ∃ y, M y ∧ ¬ (A y ∨ B y) := by
  refine Classical.byContradiction fun no => ?_
  have all : ∀ y, M y → A y ∨ B y := fun y hy => Classical.byContradiction fun n => no ⟨y, hy, n⟩
  obtain ⟨b0, mb0, nb0⟩ := pa
  obtain ⟨a0, ma0, na0⟩ := pb
  have bb0 := (all b0 mb0).resolve_left nb0
  have aa0 := (all a0 ma0).resolve_right na0
  rcases a.uni b0 mb0 nb0 with h | h
  · have key : ∀ x, A x → ¬ B x → ∀ y, B y → R y x := fun x ax nx y hy => by
      rcases b.uni x (a.sub x ax) nx with g | g
      · exact g y hy
      · exact absurd (sy _ _ (h x ax)) (g b0 bb0)
    have q : A b0 ∧ ¬ B b0 := Con.closed (S := fun z => A z ∧ ¬ B z) ⟨aa0, na0⟩ (fun x y hx r => by
      have ny : ¬ B y := fun hy => by
        have ne : x ≠ y := fun e => hx.2 (e ▸ hy)
        exact (o x y r.1 r.2.1 ne).mp r.2.2 (sy _ _ (key x hx.1 hx.2 y hy))
      exact ⟨(all y r.2.1).resolve_right ny, ny⟩) (cn' a0 b0 ma0 mb0)
    exact q.2 bb0
  · have key : ∀ x, A x → ¬ B x → ∀ y, B y → ¬ R y x := fun x ax nx y hy => by
      rcases b.uni x (a.sub x ax) nx with g | g
      · exact absurd (sy _ _ (g b0 bb0)) (h x ax)
      · exact g y hy
    have q : A b0 ∧ ¬ B b0 := Con.closed (S := fun z => A z ∧ ¬ B z) ⟨aa0, na0⟩ (fun x y hx r => by
      have ny : ¬ B y := fun hy => key x hx.1 hx.2 y hy (sy _ _ r.2.2)
      exact ⟨(all y r.2.1).resolve_right ny, ny⟩) (cn a0 b0 ma0 mb0)
    exact q.2 bb0
/-- those that a module which is not all has in common with x -/
def Cls (R : Int → Int → Prop) (M : Int → Prop) (x v : Int) : Prop := ∃ N : Int → Prop, Mdl R M N ∧ (∃ y, M y ∧ ¬ N y) ∧ N x ∧ N v
/-- both sides are connected, and M is finite and has two -/
structure Prm (R R' : Int → Int → Prop) (M : Int → Prop) : Prop where
  sy : ∀ a b, R a b → R b a
  oth : ∀ a b, M a → M b → a ≠ b → (R' a b ↔ ¬ R a b)
  con : ∀ a b, M a → M b → Con (Wn R M) a b
  con' : ∀ a b, M a → M b → Con (Wn R' M) a b
  fin : ∃ l : List Int, ∀ z, M z ↔ z ∈ l
  two : ∀ x, ∃ y, M y ∧ y ≠ x
section
variable {R' : Int → Int → Prop} (p : Prm R R' M)
include p
theorem cls_self {x : Int} (hx : M x) : Cls R M x x := by
  obtain ⟨y, hy, ne⟩ := p.two x
  refine ⟨fun z => z = x, ⟨⟨x, rfl⟩, fun z e => e ▸ hx, fun v hv hn => ?_⟩, ⟨y, hy, ne⟩, rfl, rfl⟩
  by_cases c : R x v
  · exact .inl fun u e => e ▸ c
  · exact .inr fun u e => e ▸ c
theorem cls_in {x v : Int} (h : Cls R M x v) : M v := by
  obtain ⟨N, n, _, _, nv⟩ := h
  exact n.sub v nv
theorem cls_many {x : Int} (hx : M x) : ∀ l : List Int, (∀ v ∈ l, Cls R M x v) → ∃ N : Int → Prop, Mdl R M N ∧ (∃ y, M y ∧ ¬ N y) ∧ N x ∧ ∀ v ∈ l, N v
  | [], _ => by
    obtain ⟨N, n, q, nx, _⟩ := cls_self p hx
    exact ⟨N, n, q, nx, fun v h => nomatch h⟩
  | v :: l, h => by
    obtain ⟨N, n, q, nx, nl⟩ := cls_many hx l fun w hw => h w (List.mem_cons_of_mem _ hw)
    obtain ⟨N', n', q', nx', nv'⟩ := h v List.mem_cons_self
    refine ⟨fun z => N z ∨ N' z, both_mdl n n' nx nx', both_proper p.sy p.oth p.con p.con' n n' q q' nx nx', .inl nx, fun w hw => ?_⟩
    rcases List.mem_cons.mp hw with rfl | hw
    · exact .inr nv'
    · exact .inl (nl w hw)
theorem cls_mdl {x : Int} (hx : M x) : Mdl R M (Cls R M x) := by
  refine ⟨⟨x, cls_self p hx⟩, fun z => cls_in p, fun w hw hn => ?_⟩
  by_cases c : R x w
  · refine .inl fun u hu => ?_
    obtain ⟨N, n, q, nx, nu⟩ := hu
    rcases n.uni w hw (fun h => hn ⟨N, n, q, nx, h⟩) with h | h
    · exact h u nu
    · exact absurd c (h x nx)
  · refine .inr fun u hu => ?_
    obtain ⟨N, n, q, nx, nu⟩ := hu
    rcases n.uni w hw (fun h => hn ⟨N, n, q, nx, h⟩) with h | h
    · exact absurd (h x nx) c
    · exact h u nu
theorem cls_proper {x : Int} (hx : M x) : ∃ y, M y ∧ ¬ Cls R M x y := by
  refine Classical.byContradiction fun no => ?_
  obtain ⟨l, hl⟩ := p.fin
  obtain ⟨N, n, ⟨y, hy, ny⟩, _, nl⟩ := cls_many p hx l fun v hv => Classical.byContradiction fun c => no ⟨v, (hl v).mpr hv, c⟩
  exact ny (nl y ((hl y).mp hy))
theorem cls_symm {x v : Int} (h : Cls R M x v) : Cls R M v x := by
  obtain ⟨N, n, q, nx, nv⟩ := h
  exact ⟨N, n, q, nv, nx⟩
theorem cls_trans {x v w : Int} (h : Cls R M x v) (k : Cls R M v w) : Cls R M x w := by
  obtain ⟨N, n, q, nx, nv⟩ := h
  obtain ⟨N', n', q', nv', nw'⟩ := k
  exact ⟨fun z => N z ∨ N' z, both_mdl n n' nv nv', both_proper p.sy p.oth p.con p.con' n n' q q' nv nv', .inl nx, .inr nw'⟩
theorem cls_strg (m : Strg R V M) {x : Int} (hx : M x) : Strg R V (Cls R M x) := by
  refine ⟨m.mdl.trans (cls_mdl p hx), fun T t => ?_⟩
  by_cases dj : ∀ z, Cls R M x z → ¬ T z
  · exact .inr (.inr dj)
  obtain ⟨y, cy, ty⟩ : ∃ z, Cls R M x z ∧ T z := Classical.byContradiction fun h => dj fun z hz ht => h ⟨z, hz, ht⟩
  rcases m.strg T t with h | h | h
  · exact .inl fun z hz => h z (cls_in p hz)
  · by_cases c : ∃ w, M w ∧ ¬ T w
    · refine .inr (.inl fun z hz => ?_)
      exact cls_trans p cy ⟨T, t.within h m.mdl.sub, c, ty, hz⟩
    · exact .inl fun z hz => Classical.byContradiction fun n => c ⟨z, cls_in p hz, n⟩
  · exact absurd ty (h y (cls_in p cy))
theorem cls_below (m : Strg R V M) (s : Strg R V S) (sub : ∀ z, S z → M z) (ne : ∃ y, M y ∧ ¬ S y) : ∃ u, M u ∧ ∀ z, S z → Cls R M u z := by
  obtain ⟨u, su⟩ := s.mdl.some
  exact ⟨u, sub u su, fun z hz => ⟨S, s.mdl.within sub m.mdl.sub, ne, su, hz⟩⟩
end
end

set_option Elab.async false
set_option linter.all false
set_option maxRecDepth 100000
set_option maxHeartbeats 4000000
open PySem PySem.Spec PyProof.Rows L2
local macro_rules | `(tactic| walk_at "zs") => `(tactic| first | decide | omega | (dsimp only; omega) | (unfold CMul; omega) | (unfold CDivW; decide) | assumption)
local macro_rules | `(tactic| walk_at "zh") => `(tactic| first | assumption | with_reducible exact upd_same | ((with_reducible refine' (upd_ne ?zn).trans ?zr); (case zn => walk_at "zne"); (case zr => walk_at "zh")))
local macro_rules | `(tactic| walk_at "zw") => `(tactic| (simp only [wipe, List.map_cons, List.map_nil, List.set_cons_succ, List.set_cons_zero]; rfl))
local macro_rules | `(tactic| walk_at "zne") => `(tactic| first | assumption | (apply Ne.symm; assumption) | (refine' ne_of_none ?zh1 ?zh2; (case zh2 => assumption); (case zh1 => walk_at "zh")) | (apply Ne.symm; refine' ne_of_none ?zh1 ?zh2; (case zh2 => assumption); (case zh1 => walk_at "zh")))
local macro_rules | `(tactic| walk_at "zl") => `(tactic| first | assumption | exact Or.inl (Or.inl (by walk_at "zh")))
local macro_rules | `(tactic| walk_at "zat") => `(tactic| first | assumption | exact rfl | exact atI_nat (j := 0) (by rfl))
local macro_rules | `(tactic| walk_at "z1") => `(tactic| first
  | with_reducible refine r_seq ?_
  | with_reducible refine r_asg ?_
  | with_reducible refine r_name0 ?_
  | with_reducible refine r_name1 ?_
  | with_reducible refine r_name2 ?_
  | with_reducible refine r_name3 ?_
  | with_reducible refine r_name4 ?_
  | with_reducible refine r_name5 ?_
  | with_reducible refine r_name6 ?_
  | with_reducible refine r_name7 ?_
  | with_reducible refine r_name8 ?_
  | with_reducible refine r_name9 ?_
  | with_reducible refine r_name10 ?_
  | with_reducible refine r_name11 ?_
  | with_reducible refine r_name12 ?_
  | with_reducible refine r_name13 ?_
  | with_reducible refine r_name14 ?_
  | with_reducible refine r_name15 ?_
  | with_reducible refine r_name16 ?_
  | with_reducible refine r_name17 ?_
  | with_reducible refine r_name18 ?_
  | with_reducible refine r_name19 ?_
  | ((with_reducible show tVar _ _ _ _); refine r_var rfl ?_)
  | with_reducible refine r_c ?_
  | with_reducible refine r_op ?_
  | with_reducible refine r_i0 ?_
  | with_reducible refine r_eqI ?_
  | with_reducible refine r_neI ?_
  | with_reducible refine r_i (by walk_at "zs") ?_
  | with_reducible refine r_cons ?_
  | with_reducible refine r_nil ?_
  | with_reducible refine r_call ?_
  | with_reducible refine r_cb ?_
  | with_reducible refine r_test ?_
  | with_reducible refine r_tB ?_
  | with_reducible refine r_k ?_
  | with_reducible refine r_int1 ?_
  | with_reducible refine r_int1b ?_
  | with_reducible refine r_min2 ?_
  | with_reducible refine r_max2 ?_
  | with_reducible refine r_ret ?_
  | with_reducible refine r_ifS ?_
  | with_reducible refine r_tup ?_
  | with_reducible refine r_lst ?_
  | with_reducible refine r_un ?_
  | with_reducible refine r_u ?_
  | with_reducible refine r_eqB ?_
  | with_reducible refine r_neB ?_
  | with_reducible refine r_not ?_
  | with_reducible refine r_and ?_
  | with_reducible refine r_or ?_
  | with_reducible refine r_if ?_
  | with_reducible refine r_bm ?_
  | with_reducible refine r_lstRg ?_
  | with_reducible refine r_tRg1 ?_
  | with_reducible refine r_r1N ?_
  | with_reducible refine r_sl ?_
  | with_reducible refine r_part ?_
  | with_reducible refine r_partN ?_
  | with_reducible refine r_noPart ?_
  | with_reducible refine r_andV ?_
  | with_reducible refine r_orV ?_
  | with_reducible refine r_notV ?_
  | with_reducible refine r_andN ?_
  | with_reducible refine r_orN ?_
  | with_reducible refine r_notN ?_
  | with_reducible refine r_next ?_
  | with_reducible refine r_drop ?_
  | with_reducible refine r_sub ?_
  | with_reducible refine r_for ?_
  | with_reducible refine r_rng1 ?_
  | with_reducible refine r_rng2 ?_
  | with_reducible refine r_ilist ?_
  | with_reducible refine r_itup ?_
  | with_reducible refine r_lc ?_
  | with_reducible refine r_yes ?_
  | with_reducible refine r_gcons ?_
  | with_reducible refine r_gnil ?_
  | ((with_reducible show Bm _ "list" _ _ _ _ (V.ref _) _); refine' r_bmL ?zh ?zq; (case zh => walk_at "zl"))
  | with_reducible refine iteF ?_
  | with_reducible refine iteT ?_
  | ((with_reducible show rIxL _ (V.ref _) (V.int _) _ _); refine' r_ixL ?zh ?za ?zq; (case zh => walk_at "zl"); (case za => walk_at "zat"))
  | ((with_reducible show rIxT _ (V.ref _) (V.int _) _ _); refine' r_ixT ?zh ?za ?zq; (case zh => walk_at "zl"); (case za => walk_at "zat"))
  | with_reducible refine r_dget ?_
  | with_reducible refine r_star ?_
  | with_reducible refine r_match ?_
  | with_reducible refine r_enumT ?_
  | with_reducible refine r_dnot ?_
  | with_reducible refine r_chain ?_
  | with_reducible refine r_chn ?_
  | with_reducible refine r_callS ?_
  | with_reducible refine r_truth ?_
  | with_reducible refine r_bm0 ?_
  | with_reducible refine r_sadd ?_
  | ((with_reducible show Bm0 _ "list" _ _ (V.ref _) _); refine' r_bm0L ?zh ?zq; (case zh => walk_at "zl"))
  | with_reducible refine r_bm0I ?_
  | with_reducible refine r_bu ?_
  | with_reducible refine r_rng3 ?_
  | with_reducible refine r_bitlen ?_
  | with_reducible refine r_set0u ?_
  | with_reducible refine r_set1u ?_
  | with_reducible refine r_set2u ?_
  | with_reducible refine r_set3u ?_
  | with_reducible refine r_set4u ?_
  | ((with_reducible show rSetL (V.ref _) (V.int 0) _ _ _); refine' r_set0 ?zh ?zq; (case zh => walk_at "zh"))
  | ((with_reducible show rSetL (V.ref _) (V.int 1) _ _ _); refine' r_set1 ?zh ?zq; (case zh => walk_at "zh"))
  | ((with_reducible show rSetL (V.ref _) (V.int 2) _ _ _); refine' r_set2 ?zh ?zq; (case zh => walk_at "zh"))
  | ((with_reducible show rSetL (V.ref _) (V.int 3) _ _ _); refine' r_set3 ?zh ?zq; (case zh => walk_at "zh"))
  | ((with_reducible show rSetL (V.ref _) (V.int 4) _ _ _); refine' r_set4 ?zh ?zq; (case zh => walk_at "zh"))
  | ((with_reducible show rLen _ [V.ref _] _ _); refine' r_lenL ?zh ?zq; (case zh => walk_at "zl"))
  | ((with_reducible show rLen _ [V.ref _] _ _); refine' r_lenT ?zh ?zq; (case zh => walk_at "zl")))
local macro_rules | `(tactic| walk_at "z") => `(tactic| repeat (walk_at "z1"))

def topS (i : Nat) : Stmt := PySem.Challenge.pw_trellis_k41_trees_of_modules.main.body.getD i (.Pass ⟨0, 0, 0, 0⟩)
/-- a def of the text and where it stands -/
structure DefAt (K : PySem.W.Frag) (mg : Str → Option Value) (x : Str) (st : Stmt) (ps : List Str) where
  f : Addr
  fd : FuncData
  F : Fun K x x st f fd
  b : Binds K fd ps []
  g : mg x = some (.ref f)
/-- the built-ins' names are not the module's own -/
structure Blt (mg : Str → Option Value) : Prop where
  len : mg "len" = none
  range : mg "range" = none
  list : mg "list" = none
  tuple : mg "tuple" = none
  int : mg "int" = none
  min : mg "min" = none
  max : mg "max" = none
  sorted : mg "sorted" = none
  isinstance : mg "isinstance" = none
  bool : mg "bool" = none
  str : mg "str" = none
  enumerate : mg "enumerate" = none
/-! ## the pool -/
def Pool (H : Hp) (a s : Addr) : Prop := ∃ (ns : List Int) (p v c salt : Int), H a = some (.lst [.ref s, .int p, .int v, .int c, .int salt]) ∧ H s = some (.lst (ns.map V.int)) ∧ 0 ≤ p ∧ s ≠ a
theorem Pool.lst {H : Hp} {a s : Addr} (h : Pool H a s) : ∃ xs, H a = some (.lst xs) := by
  obtain ⟨ns, p, v, c, salt, h, _⟩ := h
  exact ⟨_, h⟩
theorem Pool.mono {H H' : Hp} {a s : Addr} (h : Pool H a s) (k : Same H H') : Pool H' a s := by
  obtain ⟨ns, p, v, c, salt, h1, h2, h3, h4⟩ := h
  exact ⟨ns, p, v, c, salt, k _ _ h1, k _ _ h2, h3, h4⟩
theorem Pool.ne {H : Hp} {a s : Addr} (h : Pool H a s) : H a ≠ none := by
  obtain ⟨xs, e⟩ := h.lst
  rw [e]
  exact fun z => nomatch z
theorem Gr.tk {a s : Addr} {H H' : Hp} (g : Gr a H H') (h : Pool H a s) : TK H H' := by
  obtain ⟨xs, e⟩ := h.lst
  exact .of_gr g e
theorem new_ne {H : Hp} {a s l : Addr} (h : Pool H a s) (n : H l = none) : l ≠ a ∧ l ≠ s := by
  obtain ⟨ns, p, v, c, salt, h1, h2, h3, h4⟩ := h
  exact ⟨ne_of_none h1 n |> Ne.symm, ne_of_none h2 n |> Ne.symm⟩
theorem Pool.upd {H : Hp} {a s l : Addr} {o : HO} (h : Pool H a s) (n : l ≠ a ∧ l ≠ s) : Pool (upd H l o) a s := by
  obtain ⟨ns, p, v, c, salt, h1, h2, h3, h4⟩ := h
  exact ⟨ns, p, v, c, salt, (upd_ne (Ne.symm n.1)).trans h1, (upd_ne (Ne.symm n.2)).trans h2, h3, h4⟩
abbrev s_law_spread : Stmt := topS 24
theorem sc_law_spread : FnScope ["cell", "mixed", "total", "k"] ["cell"] (defScope s_law_spread) := ⟨rfl, rfl, rfl, by decide +kernel, rfl, by decide +kernel, by decide +kernel⟩

abbrev s_law_draw : Stmt := topS 25
theorem sc_law_draw : FnScope ["pool", "many", "cell", "mixed", "value"] ["pool", "many"] (defScope s_law_draw) := ⟨rfl, rfl, rfl, by decide +kernel, rfl, by decide +kernel, by decide +kernel⟩

section
variable {P : Program} {w : World} {K : PySem.W.Frag} {mg : Str → Option Value} {base : Heap}
def spSpread : Sp := fun vs H Q _ => ∃ n : Int, vs = [.int n] ∧ ∀ r : Int, Q (.int r) H
theorem ok_spread (T : Blt mg) (D : DefAt K mg "_law_spread" s_law_spread ["cell"]) : FnOk P w K mg base CX0 1 D.f D.fd ["cell"] spSpread := by
  refine D.F.ok sc_law_spread (fun vs H Q E h => ?_) (fun cdv A outer s H vs Q E hr h => ?_)
  · obtain ⟨n, rfl, _⟩ := h
    rfl
  · obtain ⟨n, rfl, q⟩ := h
    refine ⟨_, (pss_cons (ps_set (i := 1) sc_law_spread.nd rfl (Or.inl rfl) (pe_op op_mod (pe_callTy call_int1' (by rfl) T.int (by decide +kernel) (pa_cons (pv 0) pa_nil)) pe_int))
      (pss_cons (ps_set (i := 2) sc_law_spread.nd rfl (Or.inl rfl) pe_int)
      (pss_cons (ps_for PassesOwn.never (by rfl) (pi_range1 (by rfl) T.range (pa_cons pe_int pa_nil)) (pg_name (i := 3) sc_law_spread.nd rfl (Or.inl rfl))
        (pss_cons (ps_set (i := 1) sc_law_spread.nd rfl (Or.inl rfl) (pe_op op_mod (pe_callTy call_int1' (by rfl) T.int (by decide +kernel) (pa_cons (pe_op op_add (pe_op op_add (pe_op op_mul (pv 1) pe_int) pe_int) (pv 3)) pa_nil)) pe_int))
        (pss_one (ps_set (i := 2) sc_law_spread.nd rfl (Or.inl rfl) (pe_op op_add (pe_op op_mul (pv 2) pe_int) (pv 1))))))
      (pss_one (ps_ret (pv 2)))))), ?_⟩
    refine r_at (σ := [some _, none, none, none]) rfl ?_
    walk_at "z"
    refine r_rg1 (by decide) (forR_range (fun _ σ' H' => H' = H ∧ ∃ a b c : Int, ∃ x, σ' = [some (.int a), some (.int b), some (.int c), x]) ⟨rfl, _, _, _, _, rfl⟩ (fun i σ' H' _ ⟨eH, a, b, c, x, eσ⟩ => ?_) fun σ' H' ⟨eH, a, b, c, x, eσ⟩ => ?_)
    · subst eH eσ
      walk_at "z"
      exact ⟨rfl, _, _, _, _, rfl⟩
    · subst eH eσ
      walk_at "z"
      exact q _
/-- a draw: a number from 0 up to the bound; the pool stays a pool; all else stands -/
def spDraw : Sp := fun vs H Q _ => ∃ (a s : Addr) (m : Int), vs = [.ref a, .int m] ∧ Pool H a s ∧ 0 < m ∧ m < 1000000 ∧ ∀ (r : Int) (H' : Hp), 0 ≤ r → r < m → Pool H' a s → Gr a H H' → Q (.int r) H'
theorem ok_draw (T : Blt mg) (D : DefAt K mg "_law_draw" s_law_draw ["pool", "many"]) (D_law_spread : DefAt K mg "_law_spread" s_law_spread ["cell"]) (G_law_spread : FnOk P w K mg base CX0 1 D_law_spread.f D_law_spread.fd ["cell"] spSpread) : FnOk P w K mg base CX0 2 D.f D.fd ["pool", "many"] spDraw := by
  refine D.F.ok sc_law_draw (fun vs H Q E h => ?_) (fun cdv A outer s H vs Q E hr h => ?_)
  · obtain ⟨a, _, m, rfl, _⟩ := h
    rfl
  · obtain ⟨a, s0, m, rfl, ⟨ns, p, v, c, salt, ha, hs, hp, hsa⟩, m0, m1, q⟩ := h
    refine ⟨_, (pss_cons (ps_if (PW.pt (pw_and (pt_cmpR op_le (pe_ix (ix_listK (K := K) rfl) (pv 0) pe_int (fun _ _ => rfl)) pe_int (nomark _)) (pw_and1 (pt_cmpR op_lt (pe_ix (ix_listK (K := K) rfl) (pv 0) pe_int (fun _ _ => rfl)) (pe_callB (call_lenK (K := K) rfl) (by rfl) T.len (by decide +kernel) (pa_cons (pe_ix (ix_listK (K := K) rfl) (pv 0) pe_int (fun _ _ => rfl)) pa_nil)) (nomark _)))))
        (pss_cons (ps_set (i := 2) sc_law_draw.nd rfl (Or.inl rfl) (pe_ix (ix_listK (K := K) rfl) (pe_ix (ix_listK (K := K) rfl) (pv 0) pe_int (fun _ _ => rfl)) (pe_ix (ix_listK (K := K) rfl) (pv 0) pe_int (fun _ _ => rfl)) (fun _ _ => rfl)))
        (pss_cons (ps_asg (pe_op op_add (pe_ix (ix_listK (K := K) rfl) (pv 0) pe_int (fun _ _ => rfl)) pe_int) (pg_sub (pv 0) pe_int set_list))
        (pss_cons (ps_asg (pv 2) (pg_sub (pv 0) pe_int set_list))
        (pss_one (ps_if (pt_cmpR op_lt (pv 2) pe_int (nomark _))
          (pss_one (ps_asg (pe_call G_law_spread (hr.mono (by first | decide | omega)) (by rfl) D_law_spread.g D_law_spread.F.kp D_law_spread.b .nil pass0 (pa_cons (pv 2) pa_nil)) (pg_sub (pv 0) pe_int set_list)))
          pss_nil)))))
        pss_nil)
      (pss_cons (ps_asg (pe_op op_add (pe_ix (ix_listK (K := K) rfl) (pv 0) pe_int (fun _ _ => rfl)) pe_int) (pg_sub (pv 0) pe_int set_list))
      (pss_cons (ps_if (pt_cmpR op_le (pe_ix (ix_listK (K := K) rfl) (pv 0) pe_int (fun _ _ => rfl)) pe_int (nomark _))
        (pss_cons (ps_set (i := 3) sc_law_draw.nd rfl (Or.inl rfl) (pe_op op_mod (pe_callTy call_int1' (by rfl) T.int (by decide +kernel) (pa_cons (pe_op op_add (pe_op op_add (pe_op op_mul (pe_ix (ix_listK (K := K) rfl) (pv 0) pe_int (fun _ _ => rfl)) pe_int) (pe_op op_mul (pe_ix (ix_listK (K := K) rfl) (pv 0) pe_int (fun _ _ => rfl)) pe_int)) pe_int) pa_nil)) pe_int))
        (pss_cons (ps_set (i := 3) sc_law_draw.nd rfl (Or.inl rfl) (pe_op op_mod (pe_callTy call_int1' (by rfl) T.int (by decide +kernel) (pa_cons (pe_op op_add (pe_op op_mul (pv 3) pe_int) (pe_ix (ix_listK (K := K) rfl) (pv 0) pe_int (fun _ _ => rfl))) pa_nil)) pe_int))
        (pss_one (ps_ret (pe_op op_mod (pe_op op_fdivW (pv 3) pe_int) (pv 1))))))
        pss_nil)
      (pss_cons (ps_set (i := 4) sc_law_draw.nd rfl (Or.inl rfl) (pe_op op_mod (pe_callTy call_int1' (by rfl) T.int (by decide +kernel) (pa_cons (pe_ix (ix_listK (K := K) rfl) (pv 0) pe_int (fun _ _ => rfl)) pa_nil)) (pv 1)))
      (pss_cons (ps_asg (pe_op op_fdivW (pe_ix (ix_listK (K := K) rfl) (pv 0) pe_int (fun _ _ => rfl)) (pv 1)) (pg_sub (pv 0) pe_int set_list))
      (pss_one (ps_ret (pv 4)))))))), ?_⟩
    refine r_at (σ := [some _, some _, none, none, none]) rfl ?_
    refine r_seqW (fun σ' H' => ∃ (p v c : Int) (x2 : Option V), σ' = [some (.ref a), some (.int m), x2, none, none] ∧ H' a = some (.lst [.ref s0, .int p, .int v, .int c, .int salt]) ∧ 0 ≤ p ∧ H' s0 = some (.lst (ns.map V.int)) ∧ Gr a H H') ?tail (fun B hB => ?head)
    case head =>
      have sa : s0 ≠ a := hsa
      walk_at "z"
      refine r_ite (fun hv => ?_) (fun hv => ?_)
      · walk_at "z"
        refine r_ite (fun hl => ?_) (fun hl => ?_)
        · rw [List.length_map] at hl
          obtain ⟨cell, _, hc⟩ := at_int hp hl
          walk_at "z"
          have key : ∀ r : Int, B [some (V.ref a), some (V.int m), some (V.int cell), none, none] (upd H a (.lst [.ref s0, .int (p + 1), .int r, .int c, .int salt])) := fun r => hB _ _ ⟨p + 1, r, c, _, rfl, upd_same, by omega, (upd_ne sa).trans hs, .self⟩
          refine r_ite (fun hb => ?_) (fun hb => ?_)
          · walk_at "z"
            refine ⟨_, rfl, fun r => ?_⟩
            walk_at "z"
            exact key _
          · walk_at "z"
            exact key _
        · walk_at "z"
          exact hB _ _ ⟨p, v, c, _, rfl, ha, hp, hs, .refl a H⟩
      · walk_at "z"
        exact hB _ _ ⟨p, v, c, _, rfl, ha, hp, hs, .refl a H⟩
    case tail =>
      rintro σ' H' ⟨p', v', c', x2, rfl, ha', hp', hs', g⟩
      have md : ∀ z : Int, 0 ≤ z % m ∧ z % m < m := fun z => ⟨Int.emod_nonneg z (by omega), Int.emod_lt_of_pos z m0⟩
      have fin : ∀ (z v2 : Int), Q (V.int (z % m)) (upd H' a (.lst [.ref s0, .int p', .int v2, .int (c' + 1), .int salt])) := fun z v2 =>
        q _ _ (md z).1 (md z).2 ⟨ns, p', v2, c' + 1, salt, upd_same, (upd_ne hsa).trans hs', hp', hsa⟩ (g.trans .self)
      walk_at "z"
      refine r_ite (fun hv => ?_) (fun hv => ?_)
      · walk_at "z"
        exact fin _ _
      · walk_at "z"
        refine r_i ⟨m0, (wide_div (i := 0) m0 (b := 20) (by omega) (by decide) (by decide)).2⟩ ?_
        walk_at "z"
        exact fin _ _
/-- the pool of a script -/
abbrev s_law_pool : Stmt := topS 23
theorem sc_law_pool : FnScope ["script", "salt", "cell"] ["script"] (defScope s_law_pool) := ⟨rfl, rfl, rfl, by decide +kernel, rfl, by decide +kernel, by decide +kernel⟩

def spPool (K : PySem.W.Frag) : Sp := fun vs H Q _ => ∃ (l : Addr) (ns : List Int), vs = [.ref l] ∧ SqL K H l (ns.map V.int) ∧ ∀ (a s : Addr) (H' : Hp), H a = none → Same H H' → Pool H' a s → Q (.ref a) H'
theorem cut_ints (ns : List Int) (lo hi : Option Int) : ∃ ms : List Int, cutV (ns.map V.int) lo hi = ms.map V.int ∧ ms.length ≤ ns.length := by
  refine ⟨(ns.drop (HT.sIx ns.length 0 lo)).take (HT.sIx ns.length ns.length hi - HT.sIx ns.length 0 lo), ?_, ?_⟩
  · unfold cutV
    rw [List.length_map, List.map_take, List.map_drop]
  · rw [List.length_take, List.length_drop]
    omega
theorem ok_pool (T : Blt mg) (D : DefAt K mg "_law_pool" s_law_pool ["script"]) : FnOk P w K mg base CX0 1 D.f D.fd ["script"] (spPool K) := by
  refine D.F.ok sc_law_pool (fun vs H Q E h => ?_) (fun cdv A outer s H vs Q E hr h => ?_)
  · obtain ⟨a, m, rfl, _⟩ := h
    rfl
  · obtain ⟨l, ns, rfl, hl, q⟩ := h
    refine ⟨_, (pss_cons (ps_set (i := 1) sc_law_pool.nd rfl (Or.inl rfl) pe_int)
      (pss_cons (ps_for PassesOwn.never (by rfl) (PI.listK (K := K) rfl (pi_list (pe_slice (sl_listK (K := K) rfl) (pv 0) po_none (po_some pe_int)))) (pg_name (i := 2) sc_law_pool.nd rfl (Or.inl rfl))
        (pss_one (ps_set (i := 1) sc_law_pool.nd rfl (Or.inl rfl) (pe_op op_mod (pe_callTy call_int1' (by rfl) T.int (by decide +kernel) (pa_cons (pe_op op_add (pe_op op_mul (pv 1) pe_int) (pv 2)) pa_nil)) pe_int))))
      (pss_one (ps_ret (pe_lst (pa_cons (pe_callTy (call_listK (K := K) rfl) (by rfl) T.list (by decide +kernel) (pa_cons (pv 0) pa_nil)) (pa_cons pe_int (pa_cons pe_int (pa_cons pe_int (pa_cons (pv 1) pa_nil)))))))))), ?_⟩
    refine r_at (σ := [some _, none, none]) rfl ?_
    walk_at "z"
    obtain ⟨ms, em, _⟩ := cut_ints ns none (some 63)
    refine ⟨l, _, rfl, hl, fun c hc => ?_⟩
    have sc : Same H (upd H c (.lst (ms.map V.int))) := same_new hc
    rw [em]
    refine r_il (.inl (.inl upd_same)) (forR_list (xs := ms.map V.int) (fun i σ' H' => H' = upd H c (.lst (ms.map V.int)) ∧ ∃ (z : Int) (x : Option V), σ' = [some (.ref l), some (.int z), x]) ⟨rfl, _, _, rfl⟩ (fun i σ' H' _ ⟨eH, _⟩ => ?_) (fun i x σ' H' hx ⟨eH, z, y, eσ⟩ => ?_) fun σ' H' ⟨eH, z, y, eσ⟩ => ?_)
    · rw [eH]
      exact .inl (.inl upd_same)
    · subst eH eσ
      rw [List.getElem?_map] at hx
      obtain ⟨n, _, rfl⟩ := Option.map_eq_some_iff.mp hx
      walk_at "z"
      exact ⟨rfl, _, _, rfl⟩
    · subst eH eσ
      walk_at "z"
      refine r_listL (sc.seq hl) fun b hb => ?_
      walk_at "z"
      refine r_lstN (by show 5 ≤ sizeLine; decide) fun a ha => ?_
      have sb := sc.trans (same_new (o := .lst (ns.map V.int)) hb)
      exact q a b _ (sb.free ha) (sb.trans (same_new ha)) ⟨ns, 0, 0, 0, z, upd_same, (upd_ne (ne_of_none upd_same ha)).trans upd_same, by omega, ne_of_none upd_same ha⟩
end

set_option Elab.async false
set_option linter.all false
set_option maxRecDepth 100000
set_option maxHeartbeats 4000000
open PySem PySem.Spec PyProof.Rows L2

abbrev s_law_pairs : Stmt := topS 28
theorem sc_law_pairs : FnScope ["n", "found", "u", "v"] ["n"] (defScope s_law_pairs) := ⟨rfl, rfl, rfl, by decide +kernel, rfl, by decide +kernel, by decide +kernel⟩

abbrev s_law_distinct : Stmt := topS 27
theorem sc_law_distinct : FnScope ["rows", "found", "row"] ["rows"] (defScope s_law_distinct) := ⟨rfl, rfl, rfl, by decide +kernel, rfl, by decide +kernel, by decide +kernel⟩

section
variable {P : Program} {w : World} {K : PySem.W.Frag} {mg : Str → Option Value} {base : Heap}
theorem prs_push {H : Hp} {l t : Addr} {xs : List V} {ps : List (Int × Int)} {a b : Int} (hl : H l = some (.lst xs)) (hp : Prs H xs ps) (ht : H t = none) :
    Prs (upd (upd H t (.tup [.int a, .int b])) l (.lst (xs ++ [.ref t]))) (xs ++ [.ref t]) (ps ++ [(a, b)]) := by
  have n : t ≠ l := (ne_of_none hl ht).symm
  have k : TK H (upd (upd H t (.tup [.int a, .int b])) l (.lst (xs ++ [.ref t]))) := fun c ys e => by
    rw [upd_ne (fun z => by rw [z, hl] at e; cases e), upd_ne (ne_of_none e ht)]
    exact e
  exact (hp.tk k).snoc ⟨t, rfl, by rw [upd_ne n]; exact upd_same⟩
/-- all pairs u < v below n -/
def spPairs : Sp := fun vs H Q _ => ∃ n : Nat, vs = [.int (n : Int)] ∧ n ≤ 100 ∧ ∀ (l : Addr) (xs : List V) (H' : Hp), H l = none → Same H H' → H' l = some (.lst xs) → Prs H' xs (allP n) → Q (.ref l) H'
theorem ok_pairs (T : Blt mg) (D : DefAt K mg "_law_pairs" s_law_pairs ["n"]) : FnOk P w K mg base CX0 1 D.f D.fd ["n"] spPairs := by
  refine D.F.ok sc_law_pairs (fun vs H Q E h => ?_) (fun cdv A outer s H vs Q E hr h => ?_)
  · obtain ⟨n, rfl, _⟩ := h
    rfl
  · obtain ⟨n, rfl, hn, q⟩ := h
    refine ⟨_, (pss_cons (ps_set (i := 1) sc_law_pairs.nd rfl (Or.inl rfl) (pe_lst pa_nil))
      (pss_cons (ps_for PassesOwn.never (by rfl) (pi_range1 (by rfl) T.range (pa_cons (pv 0) pa_nil)) (pg_name (i := 2) sc_law_pairs.nd rfl (Or.inl rfl))
        (pss_one (ps_for PassesOwn.never (by rfl) (pi_range2 (by rfl) T.range (pa_cons (pe_op op_add (pv 2) pe_int) (pa_cons (pv 0) pa_nil))) (pg_name (i := 3) sc_law_pairs.nd rfl (Or.inl rfl))
          (pss_one (ps_expr (PE.bmK (K := K) rfl (pe_bm PySem.F.plainAttrs_list PySem.F.slot_list_append PySem.F.type_list_append mt_append (pv 1) (pa_cons (pe_tup (pa_cons (pv 2) (pa_cons (pv 3) pa_nil))) pa_nil))))))))
      (pss_one (ps_ret (pv 1))))), ?_⟩
    refine r_at (σ := [some _, none, none, none]) rfl ?_
    walk_at "z"
    refine r_lstN (by decide) fun f hf => ?_
    walk_at "z"
    refine r_rg1 (by omega) (forR_range (fun i σ' H' => (∃ x2 x3, σ' = [some (.int (n : Int)), some (.ref f), x2, x3]) ∧ Same H H' ∧ ∃ xs, H' f = some (.lst xs) ∧ Prs H' xs (preP n i)) ⟨⟨_, _, rfl⟩, same_new hf, [], upd_same, .nil⟩ ?_ ?_)
    · rintro i σ' H' hi ⟨⟨x2, x3, rfl⟩, sm, xs, hx, hp⟩
      walk_at "z"
      refine r_rg2 (by omega) (forR_range (fun j σ' H' => (∃ x3, σ' = [some (.int (n : Int)), some (.ref f), some (.int (0 + (i : Int))), x3]) ∧ Same H H' ∧ ∃ xs, H' f = some (.lst xs) ∧ Prs H' xs (preP n i ++ rowP i ((i : Int) + 1) j)) ⟨⟨_, rfl⟩, sm, xs, hx, ?_⟩ ?_ ?_)
      · rw [show rowP (i : Int) ((i : Int) + 1) 0 = [] from rfl, List.append_nil]
        exact hp
      · rintro j σ' H' hj ⟨⟨x3, rfl⟩, sm, xs, hx, hp⟩
        walk_at "z"
        refine r_tupN sz2 fun t ht => ?_
        walk_at "z"
        refine r_appT (by walk_at "zh") (small_lt ?_) ?_
        · rw [hp.length, List.length_append, rowP_len]
          have h1 := preP_len (n := n) (i := i)
          have h2 : i * n ≤ 100 * 100 := Nat.mul_le_mul (by omega) hn
          omega
        · refine ⟨⟨_, rfl⟩, same_mut (sm.trans (same_new ht)) hf, _, upd_same, ?_⟩
          rw [rowP_succ, ← List.append_assoc]
          have e1 : (0 : Int) + (i : Int) = i := by omega
          have e2 : (0 : Int) + (i : Int) + 1 + (j : Int) = (i : Int) + 1 + j := by omega
          rw [e2, e1]
          exact prs_push hx hp ht
      · rintro σ' H' ⟨⟨x3, rfl⟩, sm, xs, hx, hp⟩
        refine ⟨⟨_, _, rfl⟩, sm, xs, hx, ?_⟩
        have e : ((n : Int) - (0 + (i : Int) + 1)).toNat = n - 1 - i := by omega
        rw [e] at hp
        exact hp
    · rintro σ' H' ⟨⟨x2, x3, rfl⟩, sm, xs, hx, hp⟩
      walk_at "z"
      exact q f xs H' hf sm hx hp
/-- the rows ascending, each once -/
def spDistinct (K : PySem.W.Frag) : Sp := fun vs H Q _ => ∃ (l : Addr) (xs : List V) (ps : List (Int × Int)), vs = [.ref l] ∧ SqL K H l xs ∧ Prs H xs ps ∧ ps.length ≤ 10000 ∧
  ∀ (f : Addr) (ys : List V) (qs : List (Int × Int)) (H' : Hp), H f = none → Same H H' → H' f = some (.lst ys) → Prs H' ys qs → qs.Pairwise ltP → (∀ p, p ∈ qs ↔ p ∈ ps) → Q (.ref f) H'
theorem ok_distinct (T : Blt mg) (D : DefAt K mg "_law_distinct" s_law_distinct ["rows"]) : FnOk P w K mg base CX0 2 D.f D.fd ["rows"] (spDistinct K) := by
  refine D.F.ok sc_law_distinct (fun vs H Q E h => ?_) (fun cdv A outer s H vs Q E hr h => ?_)
  · obtain ⟨l, xs, ps, rfl, _⟩ := h
    rfl
  · obtain ⟨l, xs, ps, rfl, hl, hp, hlen, q⟩ := h
    refine ⟨_, (pss_cons (ps_set (i := 1) sc_law_distinct.nd rfl (Or.inl rfl) (pe_lst pa_nil))
      (pss_cons (ps_for PassesOwn.never (by rfl) (PI.listK (K := K) rfl (pi_list (pe_callB (cr_sortPrK (K := K) rfl) (by rfl) T.sorted (by decide +kernel) (pa_cons (pv 0) pa_nil)))) (pg_name (i := 2) sc_law_distinct.nd rfl (Or.inl rfl))
        (pss_one (ps_if (PW.pt (pw_or (pt_cmpR (op_eqDK (K := K) rfl hr.units) (pv 1) (pe_lst pa_nil) (nomark _)) (pw_or1 (pt_cmpR (op_neDK (K := K) rfl hr.units) (pe_ix (ix_listK (K := K) rfl) (pv 1) (pe_un un_neg pe_int) (fun _ _ => rfl)) (pv 2) (nomark _)))))
          (pss_one (ps_expr (PE.bmK (K := K) rfl (pe_bm PySem.F.plainAttrs_list PySem.F.slot_list_append PySem.F.type_list_append mt_append (pv 1) (pa_cons (pv 2) pa_nil)))))
          pss_nil)))
      (pss_one (ps_ret (pv 1))))), ?_⟩
    refine r_at (σ := [some _, none, none]) rfl ?_
    walk_at "z"
    refine r_lstN (by decide) fun f hf => ?_
    walk_at "z"
    have s1 : Same H (upd H f (.lst [])) := same_new hf
    refine ⟨l, xs, ps, rfl, s1.seq hl, hp.tk (.of_same s1), fun ys qs p pm hy pw hn => ?_⟩
    have s2 : Same H (upd (upd H f (.lst [])) p (.lst ys)) := s1.trans (same_new hn)
    have pf : f ≠ p := ne_of_none upd_same hn
    refine r_il (.inl (.inl upd_same)) (forR_list (xs := ys) (fun i σ' H' => (∃ x2, σ' = [some (.ref l), some (.ref f), x2]) ∧ Same H H' ∧ H' p = some (.lst ys) ∧ Prs H' ys qs ∧ ∃ zs fs, H' f = some (.lst zs) ∧ Prs H' zs fs ∧ Ded (qs.take i) fs)
      ⟨⟨_, rfl⟩, s2, upd_same, hy.tk (.new hn), [], [], (upd_ne pf).trans upd_same, .nil, .nil⟩ ?_ ?_ ?_)
    · rintro i σ' H' _ ⟨_, _, h, _⟩
      exact .inl (.inl h)
    · rintro i x σ' H' hx ⟨⟨x2, rfl⟩, sm, hpl, hys, zs, fs, hz, hfs, D0⟩
      obtain ⟨r, hr', hxr⟩ := pd_get hys hx
      have tk : qs.take (i + 1) = qs.take i ++ [r] := take_next hr'
      walk_at "z"
      refine r_lstN (by decide) fun e he => ?_
      have ef : f ≠ e := ne_of_none hz he
      have s3 : Same H' (upd H' e (.lst [])) := same_new he
      refine r_eqNil ((upd_ne ef).trans hz) upd_same (hfs.tk (.of_same s3)) ?_
      walk_at "z"
      have pl : ((qs.take i) ++ [r]).Pairwise leP := by
        rw [← tk]
        exact pw.take
      have lens : zs.length < sizeLine := small_lt (by
        have h1 : fs.length ≤ ps.length := by
          have nd := asc_nodup D0.asc
          have sub : ∀ z ∈ fs, z ∈ ps := fun z hz => pm.mem_iff.mp (List.mem_of_mem_take ((D0.mem z).mp hz))
          exact nodup_le _ _ nd sub
        have h2 := hfs.length
        omega)
      -- the row goes behind
      have push : ∀ H2 : Hp, Same H' H2 → H2 f = some (.lst zs) → fs.getLast? ≠ some r → (∃ x2_1, [some (V.ref l), some (V.ref f), some x] = [some (V.ref l), some (V.ref f), x2_1]) ∧ Same H (upd H2 f (.lst (zs ++ [x]))) ∧ (upd H2 f (.lst (zs ++ [x]))) p = some (.lst ys) ∧ Prs (upd H2 f (.lst (zs ++ [x]))) ys qs ∧ ∃ zs_1 fs_1, (upd H2 f (.lst (zs ++ [x]))) f = some (.lst zs_1) ∧ Prs (upd H2 f (.lst (zs ++ [x]))) zs_1 fs_1 ∧ Ded (qs.take (i + 1)) fs_1 := fun H2 sx hf2 hne => by
        have kk : TK H' (upd H2 f (.lst (zs ++ [x]))) := (TK.of_same sx).trans (.lst hf2)
        refine ⟨⟨_, rfl⟩, same_mut (sm.trans sx) hf, ?_, hys.tk kk, _, _, upd_same, (hfs.tk kk).snoc (hxr.tk kk), ?_⟩
        · rw [upd_ne (Ne.symm pf)]
          exact sx _ _ hpl
        · rw [tk]
          exact D0.more pl hne
      refine r_ite (fun h0 => ?_) (fun h0 => ?_)
      · walk_at "z"
        refine r_appT (by walk_at "zh") lens ?_
        refine push _ s3 ((upd_ne ef).trans hz) ?_
        rw [h0]
        exact fun z => nomatch z
      · walk_at "z"
        obtain ⟨r', hr2⟩ : ∃ r', fs.getLast? = some r' := by
          cases q9 : fs.getLast? with
          | some r' => exact ⟨r', rfl⟩
          | none => exact absurd (List.getLast?_eq_none_iff.mp q9) h0
        obtain ⟨x', hx', fx'⟩ := pd_last hfs hr2
        refine r_ixL (.inl (.inl ((upd_ne ef).trans hz))) (at_last hx') ?_
        walk_at "z"
        refine r_neP (fx'.tk (.of_same s3)) (hxr.tk (.of_same s3)) ?_
        walk_at "z"
        refine r_iteN (fun h1 => ?_) (fun h1 => ?_)
        · walk_at "z"
          refine r_appT (by walk_at "zh") lens ?_
          refine push _ s3 ((upd_ne ef).trans hz) ?_
          rw [hr2]
          exact fun z => h1 (Option.some.inj z)
        · walk_at "z"
          refine ⟨⟨_, rfl⟩, sm.trans s3, s3 _ _ hpl, hys.tk (.of_same s3), zs, fs, s3 _ _ hz, hfs.tk (.of_same s3), ?_⟩
          rw [tk]
          exact D0.same (by rw [hr2, h1])
    · rintro σ' H' ⟨⟨x2, rfl⟩, sm, hpl, hys, zs, fs, hz, hfs, D0⟩
      walk_at "z"
      rw [hys.length, List.take_length] at D0
      exact q f zs fs H' hf sm hz hfs D0.asc fun z => (D0.mem z).trans pm.mem_iff
end

set_option Elab.async false
set_option linter.all false
set_option maxRecDepth 100000
set_option maxHeartbeats 4000000
open PySem PySem.Spec PyProof.Rows L2

abbrev s_law_of : Stmt := topS 29
theorem sc_law_of : FnScope ["n", "pairs", "pair"] ["n", "pairs"] (defScope s_law_of) := ⟨rfl, rfl, rfl, by decide +kernel, rfl, by decide +kernel, by decide +kernel⟩

abbrev s_law_met : Stmt := topS 30
theorem sc_law_met : FnScope ["graph", "u", "v"] ["graph", "u", "v"] (defScope s_law_met) := ⟨rfl, rfl, rfl, by decide +kernel, rfl, by decide +kernel, by decide +kernel⟩

abbrev s_law_near : Stmt := topS 31
theorem sc_law_near : FnScope ["graph", "v", "u"] ["graph", "v"] (defScope s_law_near) := ⟨rfl, rfl, rfl, by decide +kernel, rfl, by decide +kernel, by decide +kernel⟩

section
variable {P : Program} {w : World} {K : PySem.W.Frag} {mg : Str → Option Value} {base : Heap}
/-- the edges stand as a tuple of pairs at e -/
def EdgesAt (H : Hp) (e : Addr) (ps : List (Int × Int)) : Prop := ∃ xs, H e = some (.tup xs) ∧ Prs H xs ps
theorem EdgesAt.tk {H H' : Hp} (k : TK H H') {e : Addr} {ps : List (Int × Int)} (h : EdgesAt H e ps) : EdgesAt H' e ps := by
  obtain ⟨xs, h1, h2⟩ := h
  exact ⟨xs, k _ _ h1, h2.tk k⟩
/-- v is the graph of n and these edges -/
def GrAt (H : Hp) (v : V) (n : Int) (ps : List (Int × Int)) : Prop := ∃ g e, v = .ref g ∧ H g = some (.tup [.int n, .ref e]) ∧ EdgesAt H e ps
theorem GrAt.tk {H H' : Hp} (k : TK H H') {v : V} {n : Int} {ps : List (Int × Int)} (h : GrAt H v n ps) : GrAt H' v n ps := by
  obtain ⟨g, e, h1, h2, h3⟩ := h
  exact ⟨g, e, h1, k _ _ h2, h3.tk k⟩
/-- (n, tuple of distinct(..)) -/
def spOf (K : PySem.W.Frag) : Sp := fun vs H Q _ => ∃ (n : Int) (l : Addr) (xs : List V) (ps : List (Int × Int)), vs = [.int n, .ref l] ∧ SqL K H l xs ∧ Prs H xs ps ∧ ps.length ≤ 10000 ∧
  ∀ (v : V) (qs : List (Int × Int)) (H' : Hp), Same H H' → GrAt H' v n qs → qs.Pairwise ltP → (∀ p, p ∈ qs ↔ ∃ r ∈ ps, p = nrm r) → Q v H'
theorem r_minP {x : V} {p : Int × Int} {H : Hp} {Q : VK} (h : IsP H x p) (q : Q (.int (min p.1 p.2)) H) : rMinT [x] H Q := ⟨x, p, rfl, h, q⟩
theorem r_maxP {x : V} {p : Int × Int} {H : Hp} {Q : VK} (h : IsP H x p) (q : Q (.int (max p.1 p.2)) H) : rMaxT [x] H Q := ⟨x, p, rfl, h, q⟩
theorem ok_of (T : Blt mg) (D : DefAt K mg "_law_of" s_law_of ["n", "pairs"]) (D_law_distinct : DefAt K mg "_law_distinct" s_law_distinct ["rows"]) (G_law_distinct : FnOk P w K mg base CX0 2 D_law_distinct.f D_law_distinct.fd ["rows"] (spDistinct K)) :
    FnOk P w K mg base CX0 3 D.f D.fd ["n", "pairs"] (spOf K) := by
  refine D.F.ok sc_law_of (fun vs H Q E h => ?_) (fun cdv A outer s H vs Q E hr h => ?_)
  · obtain ⟨n, l, xs, ps, rfl, _⟩ := h
    rfl
  · obtain ⟨n, l, xs, ps, rfl, hl, hp, hlen, q⟩ := h
    refine ⟨_, (pss_one (ps_ret (pe_tup (pa_cons (pv 0) (pa_cons (pe_callTy (call_tupleK (K := K) rfl) (by rfl) T.tuple (by decide +kernel) (pa_cons (pe_call G_law_distinct (hr.mono (by first | decide | omega)) (by rfl) D_law_distinct.g D_law_distinct.F.kp D_law_distinct.b .nil pass0 (pa_cons (pe_lc (own := [("pair", 2)]) (by rfl) sc_law_of.nd (PI.listK (K := K) rfl (pi_list (pv 1))) (blkOk_by (own := [("pair", 2)]) (N := ["n", "pairs", "pair"]) (sc := (defScope s_law_of)) (by decide +kernel)) (fun _ _ _ _ _ => (pg_name (i := 2) sc_law_of.nd rfl (Or.inl rfl))) (fun _ _ _ _ _ => pts_nil) (fun _ _ _ _ _ => (pe_tup (pa_cons (pe_callB (cr_minT rfl) (by rfl) T.min (by decide +kernel) (pa_cons (pv 2) pa_nil)) (pa_cons (pe_callB (cr_maxT rfl) (by rfl) T.max (by decide +kernel) (pa_cons (pv 2) pa_nil)) pa_nil))))) pa_nil)) pa_nil)) pa_nil))))), ?_⟩
    refine r_at (σ := [some _, some _, none]) rfl ?_
    walk_at "z"
    refine r_il hl fun d hd => lcR_list (xs := xs) (fun i H' => Same H H' ∧ ∃ ys, H' d = some (.lst ys) ∧ Prs H' ys ((ps.take i).map nrm)) (by walk_at "zw") ⟨same_new hd, [], upd_same, .nil⟩ (fun i H' _ ⟨s1, _⟩ => s1.seq hl) ?_ ?_
    · rintro i x H' hx ⟨s1, ys, hy, hys⟩
      obtain ⟨p, hpi, hxp⟩ := pd_get (hp.tk (.of_same s1)) hx
      walk_at "z"
      refine ⟨rfl, ?_⟩
      walk_at "z"
      refine r_minP hxp ?_
      walk_at "z"
      refine r_maxP hxp ?_
      walk_at "z"
      refine r_tupN sz2 fun t ht => ?_
      refine r_lce (by walk_at "zh") (small_lt ?_) ⟨same_mut (s1.trans (same_new ht)) hd, _, upd_same, ?_⟩
      · rw [hys.length, List.length_map, List.length_take]
        omega
      · rw [take_next hpi, List.map_append]
        exact prs_push hy hys ht
    · rintro H' ⟨s1, ys, hy, hys⟩
      rw [hp.length, List.take_length] at hys
      walk_at "z"
      refine ⟨d, ys, _, rfl, .inl (.inl hy), hys, by rw [List.length_map]; exact hlen, fun f zs qs H2 hf s2 hz hzs asc mem => ?_⟩
      walk_at "z"
      refine r_tupL (.inl (.inl hz)) fun e he => ?_
      walk_at "z"
      refine r_tupN sz2 fun g hg => ?_
      have s3 : Same H2 (upd H2 e (.tup zs)) := same_new he
      have s4 := s3.trans (same_new (o := .tup [.int n, .ref e]) hg)
      refine q _ qs _ ((s1.trans s2).trans s4) ⟨g, e, rfl, upd_same, zs, (upd_ne (ne_of_none upd_same hg)).trans upd_same, hzs.tk (.of_same s4)⟩ asc fun p => ?_
      rw [mem, List.mem_map]
      constructor
      · rintro ⟨r, hr, rfl⟩
        exact ⟨r, hr, rfl⟩
      · rintro ⟨r, hr, rfl⟩
        exact ⟨r, hr, rfl⟩
/-- are u and v neighbours? -/
def spMet : Sp := fun vs H Q _ => ∃ (g : V) (n u v : Int) (ps : List (Int × Int)), vs = [g, .int u, .int v] ∧ GrAt H g n ps ∧ ∀ H', Same H H' → Q (.bl (decide (nrm (u, v) ∈ ps))) H'
theorem ok_met (T : Blt mg) (D : DefAt K mg "_law_met" s_law_met ["graph", "u", "v"]) : FnOk P w K mg base CX0 2 D.f D.fd ["graph", "u", "v"] spMet := by
  refine D.F.ok sc_law_met (fun vs H Q E h => ?_) (fun cdv A outer s H vs Q E hr h => ?_)
  · obtain ⟨g, n, u, v, ps, rfl, _⟩ := h
    rfl
  · obtain ⟨g, n, u, v, ps, rfl, ⟨ga, e, rfl, hg, xs, he, hp⟩, q⟩ := h
    refine ⟨_, (pss_one (ps_ret (pe_cmpR (op_inPK (K := K) rfl hr) (pe_tup (pa_cons (pe_callB (call_min2' rfl) (by rfl) T.min (by decide +kernel) (pa_cons (pv 1) (pa_cons (pv 2) pa_nil))) (pa_cons (pe_callB (call_max2' rfl) (by rfl) T.max (by decide +kernel) (pa_cons (pv 1) (pa_cons (pv 2) pa_nil))) pa_nil))) (pe_ix (ix_tupK (K := K) rfl) (pv 0) pe_int (fun _ _ => rfl)) (by rfl)))), ?_⟩
    refine r_at (σ := [some _, some _, some _]) rfl ?_
    walk_at "z"
    refine r_tupN sz2 fun t ht => ?_
    have s1 : Same H (upd H t (.tup [.int (min u v), .int (max u v)])) := same_new ht
    walk_at "z"
    refine ⟨(min u v, max u v), e, xs, ps, ⟨t, rfl, upd_same⟩, rfl, .inl (.inl (s1 _ _ he)), hp.tk (.of_same s1), ?_⟩
    exact q _ s1
/-- the neighbours, ascending -/
def nearL (n : Int) (ps : List (Int × Int)) (v : Int) (k : Nat) : List Int := ((List.range k).map fun (i : Nat) => (i : Int)).filter fun u => decide (u ≠ v ∧ nrm (u, v) ∈ ps)
def spNear : Sp := fun vs H Q _ => ∃ (g : V) (n v : Int) (ps : List (Int × Int)), vs = [g, .int v] ∧ GrAt H g n ps ∧ 0 ≤ n ∧ n ≤ 100 ∧ ∀ (l : Addr) (H' : Hp), H l = none → Same H H' → H' l = some (.lst ((nearL n ps v n.toNat).map V.int)) → Q (.ref l) H'
theorem ok_near (T : Blt mg) (D : DefAt K mg "_law_near" s_law_near ["graph", "v"]) (D_law_met : DefAt K mg "_law_met" s_law_met ["graph", "u", "v"]) (G_law_met : FnOk P w K mg base CX0 2 D_law_met.f D_law_met.fd ["graph", "u", "v"] spMet) :
    FnOk P w K mg base CX0 3 D.f D.fd ["graph", "v"] spNear := by
  refine D.F.ok sc_law_near (fun vs H Q E h => ?_) (fun cdv A outer s H vs Q E hr h => ?_)
  · obtain ⟨g, n, v, ps, rfl, _⟩ := h
    rfl
  · obtain ⟨g, n, v, ps, rfl, hgr, n0, n1, q⟩ := h
    obtain ⟨ga, e, rfl, hg, he⟩ := id hgr
    refine ⟨_, (pss_one (ps_ret (pe_lc (own := [("u", 2)]) (by rfl) sc_law_near.nd (pi_range1 (by rfl) T.range (pa_cons (pe_ix (ix_tupK (K := K) rfl) (pv 0) pe_int (fun _ _ => rfl)) pa_nil)) (blkOk_by (own := [("u", 2)]) (N := ["graph", "v", "u"]) (sc := (defScope s_law_near)) (by decide +kernel)) (fun _ _ _ _ _ => (pg_name (i := 2) sc_law_near.nd rfl (Or.inl rfl))) (fun _ _ _ _ _ => (pts_one (PW.pt (pw_and (pt_cmpR op_ne (pv 2) (pv 1) (nomark _)) (pw_and1 (pt_val (pe_call G_law_met (hr.mono (by first | decide | omega)) (by rfl) D_law_met.g D_law_met.F.kp D_law_met.b .nil pass0 (pa_cons (pv 0) (pa_cons (pv 2) (pa_cons (pv 1) pa_nil)))))))))) (fun _ _ _ _ _ => (pv 2))))), ?_⟩
    refine r_at (σ := [some _, some _, none]) rfl ?_
    walk_at "z"
    refine r_rg1 (by omega) fun d hd => lcR_range (fun i H' => Same H H' ∧ H' d = some (.lst ((nearL n ps v i).map V.int))) (by walk_at "zw") ⟨same_new hd, upd_same⟩ ?_ ?_
    · rintro i H' hi ⟨s1, hl⟩
      have g1 := hgr.tk (.of_same s1)
      have suc : nearL n ps v (i + 1) = nearL n ps v i ++ (if decide ((i : Int) ≠ v ∧ nrm ((i : Int), v) ∈ ps) = true then [(i : Int)] else []) := by
        unfold nearL
        rw [List.range_succ, List.map_append, List.filter_append]
        simp only [List.map_cons, List.map_nil, List.filter_cons, List.filter_nil]
      have e0 : (0 : Int) + (i : Int) = i := by omega
      walk_at "z"
      refine ⟨rfl, ?_⟩
      walk_at "z"
      rw [e0]
      refine r_iteN (fun h1 => ?_) (fun h1 => ?_)
      · walk_at "z"
        refine ⟨_, n, (i : Int), v, ps, rfl, g1, fun H2 s2 => ?_⟩
        walk_at "z"
        refine r_ite (fun h2 => ?_) (fun h2 => ?_)
        · walk_at "z"
          refine r_lce (s2 _ _ hl) (small_lt ?_) ⟨same_mut (s1.trans s2) hd, ?_⟩
          · rw [List.length_map]
            unfold nearL
            have := List.length_filter_le (fun u => decide (u ≠ v ∧ nrm (u, v) ∈ ps)) ((List.range i).map fun (i : Nat) => (i : Int))
            rw [List.length_map, List.length_range] at this
            omega
          · rw [suc, if_pos (decide_eq_true ⟨h1, h2⟩), List.map_append]
            exact upd_same
        · refine ⟨s1.trans s2, ?_⟩
          rw [suc, if_neg (by simp [h2]), List.append_nil]
          exact s2 _ _ hl
      · walk_at "z"
        refine ⟨s1, ?_⟩
        rw [suc, if_neg (by simp [h1]), List.append_nil]
        exact hl
    · rintro H' ⟨s1, hl⟩
      exact q d H' hd s1 hl
end

set_option Elab.async false
set_option linter.all false
set_option maxRecDepth 100000
set_option maxHeartbeats 4000000
open PySem PySem.Spec PyProof.Rows L2

abbrev s_law_shuffled : Stmt := topS 32
theorem sc_law_shuffled : FnScope ["pool", "items", "rest", "found", "k"] ["pool", "items"] (defScope s_law_shuffled) := ⟨rfl, rfl, rfl, by decide +kernel, rfl, by decide +kernel, by decide +kernel⟩

abbrev s_law_moved : Stmt := topS 33
theorem sc_law_moved : FnScope ["graph", "order", "pair"] ["graph", "order"] (defScope s_law_moved) := ⟨rfl, rfl, rfl, by decide +kernel, rfl, by decide +kernel, by decide +kernel⟩

abbrev s_law_other : Stmt := topS 34
theorem sc_law_other : FnScope ["graph", "pair"] ["graph"] (defScope s_law_other) := ⟨rfl, rfl, rfl, by decide +kernel, rfl, by decide +kernel, by decide +kernel⟩

section
variable {P : Program} {w : World} {K : PySem.W.Frag} {mg : Str → Option Value} {base : Heap}
theorem r_popAt {H : Hp} {Q : VK} {l : Addr} {xs : List V} {i : Int} {k : Nat} {y : V} (h : H l = some (.lst xs)) (e : i = (k : Int)) (hk : k < 1000000) (hy : xs[k]? = some y) (q : Q y (upd H l (.lst (xs.eraseIdx k)))) : rPopAt (.ref l) [.int i] H Q := by
  have hlt : k < xs.length := (List.getElem?_eq_some_iff.mp hy).1
  refine ⟨l, xs, i, k, y, rfl, rfl, h, by omega, by omega, ?_, hy, q⟩
  subst e
  unfold seqIndex?
  simp only [show ¬ ((k : Int) < 0) by omega, if_false]
  rw [if_pos (by simp; omega)]
  rfl
theorem map_erase {α β : Type} (f : α → β) : ∀ (l : List α) (k : Nat), (l.map f).eraseIdx k = (l.eraseIdx k).map f
  | [], _ => by simp
  | _ :: _, 0 => rfl
  | x :: l, k + 1 => by
    show f x :: (l.map f).eraseIdx k = f x :: (l.eraseIdx k).map f
    rw [map_erase f l k]
theorem get_erase_perm {α : Type} : ∀ (l : List α) {k : Nat} {x : α}, l[k]? = some x → (x :: l.eraseIdx k).Perm l
  | [], _, _, h => by simp at h
  | y :: l, 0, x, h => by
    have e : y = x := Option.some.inj h
    subst e
    exact .refl _
  | y :: l, k + 1, x, h => by
    have ih := get_erase_perm l (k := k) h
    show (x :: y :: l.eraseIdx k).Perm (y :: l)
    exact (List.Perm.swap y x _).trans (ih.cons y)
/-- the items in some order -/
def spShuf (K : PySem.W.Frag) : Sp := fun vs H Q _ => ∃ (a s l : Addr) (ns : List Int), vs = [.ref a, .ref l] ∧ Pool H a s ∧ l ≠ a ∧ H l = some (.lst (ns.map V.int)) ∧ ns.length ≤ 1000 ∧
  ∀ (f : Addr) (ms : List Int) (H' : Hp), H f = none → f ≠ a → Pool H' a s → Gr a H H' → H' f = some (.lst (ms.map V.int)) → ms.Perm ns → Q (.ref f) H'
theorem ok_shuffled (T : Blt mg) (D : DefAt K mg "_law_shuffled" s_law_shuffled ["pool", "items"]) (D_law_draw : DefAt K mg "_law_draw" s_law_draw ["pool", "many"]) (G_law_draw : FnOk P w K mg base CX0 2 D_law_draw.f D_law_draw.fd ["pool", "many"] spDraw) :
    FnOk P w K mg base CX0 3 D.f D.fd ["pool", "items"] (spShuf K) := by
  refine D.F.ok sc_law_shuffled (fun vs H Q E h => ?_) (fun cdv A outer s H vs Q E hr h => ?_)
  · obtain ⟨a, s, l, ns, rfl, _⟩ := h
    rfl
  · obtain ⟨a, s0, l, ns, rfl, hP, hla, hl, hlen, q⟩ := h
    refine ⟨_, (pss_cons (ps_set (i := 2) sc_law_shuffled.nd rfl (Or.inl rfl) (pe_callTy (call_listK (K := K) rfl) (by rfl) T.list (by decide +kernel) (pa_cons (pv 1) pa_nil)))
      (pss_cons (ps_set (i := 3) sc_law_shuffled.nd rfl (Or.inl rfl) (pe_lst pa_nil))
      (pss_cons (ps_for PassesOwn.never (by rfl) (pi_range1 (by rfl) T.range (pa_cons (pe_callB (call_lenK (K := K) rfl) (by rfl) T.len (by decide +kernel) (pa_cons (pv 2) pa_nil)) pa_nil)) (pg_name (i := 4) sc_law_shuffled.nd rfl (Or.inl rfl))
        (pss_one (ps_expr (PE.bmK (K := K) rfl (pe_bm PySem.F.plainAttrs_list PySem.F.slot_list_append PySem.F.type_list_append mt_append (pv 3) (pa_cons (PE.bmK (K := K) rfl (pe_bm PySem.F.plainAttrs_list PySem.F.slot_list_pop PySem.F.type_list_pop mt_popAt (pv 2) (pa_cons (pe_call G_law_draw (hr.mono (by first | decide | omega)) (by rfl) D_law_draw.g D_law_draw.F.kp D_law_draw.b .nil pass0 (pa_cons (pv 0) (pa_cons (pe_callB (call_lenK (K := K) rfl) (by rfl) T.len (by decide +kernel) (pa_cons (pv 2) pa_nil)) pa_nil))) pa_nil))) pa_nil))))))
      (pss_one (ps_ret (pv 3)))))), ?_⟩
    refine r_at (σ := [some _, some _, none, none, none]) rfl ?_
    walk_at "z"
    refine r_listL (.inl (.inl hl)) fun r hr1 => ?_
    walk_at "z"
    refine r_lstN (by decide) fun f hf => ?_
    have rf : r ≠ f := ne_of_none upd_same hf
    have hf0 : H f = none := (same_new hr1).free hf
    walk_at "z"
    rw [List.length_map]
    refine r_rg1 (by omega) (forR_range (fun i σ' H' => (∃ x4, σ' = [some (.ref a), some (.ref l), some (.ref r), some (.ref f), x4]) ∧ Pool H' a s0 ∧ Gr a H H' ∧ ∃ xs ys : List Int, H' r = some (.lst (xs.map V.int)) ∧ H' f = some (.lst (ys.map V.int)) ∧ (xs ++ ys).Perm ns ∧ ys.length = i)
      ⟨⟨_, rfl⟩, (hP.mono (same_new hr1)).mono (same_new hf), (Gr.new hr1).trans (.new hf), ns, [], (upd_ne rf).trans upd_same, upd_same, by rw [List.append_nil], rfl⟩ ?_ ?_)
    · rintro i σ' H' hi ⟨⟨x4, rfl⟩, hP', g, xs, ys, hx, hy, pm, hlen2⟩
      have hi : i < ns.length := by omega
      have lx : xs.length + i = ns.length := by
        have := pm.length_eq
        rw [List.length_append] at this
        omega
      walk_at "z"
      rw [List.length_map]
      refine ⟨a, s0, _, rfl, hP', by omega, by omega, fun c H2 c0 c1 hP2 g2 => ?_⟩
      walk_at "z"
      have hx2 := g2 _ _ (new_ne hP hr1).1 hx
      have hy2 := g2 _ _ (new_ne hP hf0).1 hy
      have hc : c.toNat < xs.length := by omega
      have gx : xs[c.toNat]? = some xs[c.toNat] := List.getElem?_eq_getElem hc
      refine r_popAt hx2 (k := c.toNat) (y := V.int xs[c.toNat]) (by omega) (by omega) (by rw [List.getElem?_map, gx]; rfl) ?_
      rw [map_erase]
      walk_at "z"
      refine r_appT ((upd_ne (Ne.symm rf)).trans hy2) (small_lt ?_) ?_
      · rw [List.length_map]
        omega
      · refine ⟨⟨_, rfl⟩, (hP2.upd (new_ne hP hr1)).upd (new_ne hP hf0), ((g.trans g2).mut hr1).mut hf0, xs.eraseIdx c.toNat, ys ++ [xs[c.toNat]], ?_, ?_, ?_, ?_⟩
        · rw [upd_ne rf]
          exact upd_same
        · rw [List.map_append]
          exact upd_same
        · refine List.Perm.trans ?_ pm
          have p1 : (xs.eraseIdx c.toNat ++ (ys ++ [xs[c.toNat]])).Perm ([xs[c.toNat]] ++ (xs.eraseIdx c.toNat ++ ys)) := by
            rw [← List.append_assoc]
            exact List.perm_append_comm
          exact p1.trans ((get_erase_perm xs gx).append_right ys)
        · rw [List.length_append, hlen2]
          rfl
    · rintro σ' H' ⟨⟨x4, rfl⟩, hP', g, xs, ys, hx, hy, pm, hlen2⟩
      walk_at "z"
      have lx : xs = [] := by
        have := pm.length_eq
        rw [List.length_append] at this
        exact List.eq_nil_of_length_eq_zero (by omega)
      subst lx
      exact q f ys H' hf0 (new_ne hP hf0).1 hP' g hy pm
/-- the graph whose vertices have other numbers -/
def ordP (o : List Int) (p : Int × Int) : Int × Int := (o.getD p.1.toNat 0, o.getD p.2.toNat 0)
def spMoved (K : PySem.W.Frag) : Sp := fun vs H Q _ => ∃ (g : V) (l : Addr) (n : Int) (ps : List (Int × Int)) (o : List Int), vs = [g, .ref l] ∧ GrAt H g n ps ∧ (SqL K H l (o.map V.int) ∨ SqT K H l (o.map V.int)) ∧ ps.length ≤ 10000 ∧
  (∀ p ∈ ps, 0 ≤ p.1 ∧ p.1 < o.length ∧ 0 ≤ p.2 ∧ p.2 < o.length) ∧
  ∀ (v : V) (qs : List (Int × Int)) (H' : Hp), Same H H' → GrAt H' v n qs → qs.Pairwise ltP → (∀ p, p ∈ qs ↔ ∃ r ∈ ps, p = nrm (ordP o r)) → Q v H'
theorem Same.seqT {K : PySem.W.Frag} {H H' : Hp} {a : Addr} {xs : List V} (e : Same H H') (h : SqT K H a xs) : SqT K H' a xs := by
  rcases h with (h | ⟨o, h⟩) | h
  · exact .inl (.inl (e _ _ h))
  · exact .inl (.inr ⟨o, e _ _ h⟩)
  · exact .inr h
theorem at_ord {o : List Int} {z : Int} (h0 : 0 ≤ z) (h1 : z < o.length) : atI (o.map V.int) z = some (.int (o.getD z.toNat 0)) := by
  have hlt : z.toNat < o.length := by omega
  refine at_of (j := z.toNat) (by omega) ?_
  rw [List.getElem?_map, List.getElem?_eq_getElem hlt, List.getD_eq_getElem?_getD, List.getElem?_eq_getElem hlt]
  rfl
theorem ok_moved (T : Blt mg) (D : DefAt K mg "_law_moved" s_law_moved ["graph", "order"]) (D_law_of : DefAt K mg "_law_of" s_law_of ["n", "pairs"]) (G_law_of : FnOk P w K mg base CX0 3 D_law_of.f D_law_of.fd ["n", "pairs"] (spOf K)) :
    FnOk P w K mg base CX0 4 D.f D.fd ["graph", "order"] (spMoved K) := by
  refine D.F.ok sc_law_moved (fun vs H Q E h => ?_) (fun cdv A outer s H vs Q E hr h => ?_)
  · obtain ⟨g, l, n, ps, o, rfl, _⟩ := h
    rfl
  · obtain ⟨g, l, n, ps, o, rfl, ⟨ga, e, rfl, hg, xs, he, hp⟩, ho, hlen, bd, q⟩ := h
    refine ⟨_, (pss_one (ps_ret (pe_call G_law_of (hr.mono (by first | decide | omega)) (by rfl) D_law_of.g D_law_of.F.kp D_law_of.b .nil pass0 (pa_cons (pe_ix (ix_tupK (K := K) rfl) (pv 0) pe_int (fun _ _ => rfl)) (pa_cons (pe_lc (own := [("pair", 2)]) (by rfl) sc_law_moved.nd (PI.tupK (K := K) rfl (pi_tup (pe_ix (ix_tupK (K := K) rfl) (pv 0) pe_int (fun _ _ => rfl)))) (blkOk_by (own := [("pair", 2)]) (N := ["graph", "order", "pair"]) (sc := (defScope s_law_moved)) (by decide +kernel)) (fun _ _ _ _ _ => (pg_name (i := 2) sc_law_moved.nd rfl (Or.inl rfl))) (fun _ _ _ _ _ => pts_nil) (fun _ _ _ _ _ => (pe_tup (pa_cons (pe_ix (ix_eitherK (K := K) rfl) (pv 1) (pe_ix (ix_tupK (K := K) rfl) (pv 2) pe_int (fun _ _ => rfl)) (fun _ _ => rfl)) (pa_cons (pe_ix (ix_eitherK (K := K) rfl) (pv 1) (pe_ix (ix_tupK (K := K) rfl) (pv 2) pe_int (fun _ _ => rfl)) (fun _ _ => rfl)) pa_nil))))) pa_nil))))), ?_⟩
    refine r_at (σ := [some _, some _, none]) rfl ?_
    walk_at "z"
    refine r_it (.inl (.inl he)) fun d hd => lcR_tup (xs := xs) (fun i H' => Same H H' ∧ ∃ ys, H' d = some (.lst ys) ∧ Prs H' ys ((ps.take i).map (ordP o))) (by walk_at "zw") ⟨same_new hd, [], upd_same, .nil⟩ (fun i H' _ ⟨s1, _⟩ => .inl (.inl (s1 _ _ he))) ?_ ?_
    · rintro i x H' hx ⟨s1, ys, hy, hys⟩
      obtain ⟨p, hpi, hxp⟩ := pd_get (hp.tk (.of_same s1)) hx
      obtain ⟨t, rfl, ht⟩ := hxp
      obtain ⟨b1, b2, b3, b4⟩ := bd p (List.mem_of_getElem? hpi)
      have ho' : SqL K H' l (o.map V.int) ∨ SqT K H' l (o.map V.int) := ho.imp s1.seq (Same.seqT s1)
      walk_at "z"
      refine ⟨rfl, ?_⟩
      walk_at "z"
      refine r_ixE ho' (at_ord b1 b2) ?_
      walk_at "z"
      refine r_ixE ho' (at_ord b3 b4) ?_
      walk_at "z"
      refine r_tupN sz2 fun t2 ht2 => ?_
      refine r_lce (by walk_at "zh") (small_lt ?_) ⟨same_mut (s1.trans (same_new ht2)) hd, _, upd_same, ?_⟩
      · rw [hys.length, List.length_map, List.length_take]
        omega
      · rw [take_next hpi, List.map_append]
        exact prs_push hy hys ht2
    · rintro H' ⟨s1, ys, hy, hys⟩
      rw [hp.length, List.take_length] at hys
      walk_at "z"
      refine ⟨n, d, ys, _, rfl, .inl (.inl hy), hys, by rw [List.length_map]; exact hlen, fun v qs H2 s2 hv asc mem => ?_⟩
      refine q v qs H2 (s1.trans s2) hv asc fun p => ?_
      rw [mem]
      constructor
      · rintro ⟨r, hr, rfl⟩
        obtain ⟨r', hr', rfl⟩ := List.mem_map.mp hr
        exact ⟨r', hr', rfl⟩
      · rintro ⟨r, hr, rfl⟩
        exact ⟨_, List.mem_map.mpr ⟨r, hr, rfl⟩, rfl⟩
/-- the graph of the pairs that are none -/
def spOther : Sp := fun vs H Q _ => ∃ (g : V) (n : Nat) (ps : List (Int × Int)), vs = [g] ∧ GrAt H g (n : Int) ps ∧ n ≤ 100 ∧
  ∀ (v : V) (H' : Hp), Same H H' → GrAt H' v (n : Int) ((allP n).filter fun p => decide (p ∉ ps)) → Q v H'
theorem ok_other (T : Blt mg) (D : DefAt K mg "_law_other" s_law_other ["graph"]) (D_law_pairs : DefAt K mg "_law_pairs" s_law_pairs ["n"]) (G_law_pairs : FnOk P w K mg base CX0 1 D_law_pairs.f D_law_pairs.fd ["n"] spPairs) :
    FnOk P w K mg base CX0 2 D.f D.fd ["graph"] spOther := by
  refine D.F.ok sc_law_other (fun vs H Q E h => ?_) (fun cdv A outer s H vs Q E hr h => ?_)
  · obtain ⟨g, n, ps, rfl, _⟩ := h
    rfl
  · obtain ⟨g, n, ps, rfl, ⟨ga, e, rfl, hg, xs, he, hp⟩, hn, q⟩ := h
    refine ⟨_, (pss_one (ps_ret (pe_tup (pa_cons (pe_ix (ix_tupK (K := K) rfl) (pv 0) pe_int (fun _ _ => rfl)) (pa_cons (pe_callTy (call_tupleK (K := K) rfl) (by rfl) T.tuple (by decide +kernel) (pa_cons (pe_lc (own := [("pair", 1)]) (by rfl) sc_law_other.nd (PI.listK (K := K) rfl (pi_list (pe_call G_law_pairs (hr.mono (by first | decide | omega)) (by rfl) D_law_pairs.g D_law_pairs.F.kp D_law_pairs.b .nil pass0 (pa_cons (pe_ix (ix_tupK (K := K) rfl) (pv 0) pe_int (fun _ _ => rfl)) pa_nil)))) (blkOk_by (own := [("pair", 1)]) (N := ["graph", "pair"]) (sc := (defScope s_law_other)) (by decide +kernel)) (fun _ _ _ _ _ => (pg_name (i := 1) sc_law_other.nd rfl (Or.inl rfl))) (fun _ _ _ _ _ => (pts_one (pt_cmpR (op_ninPK (K := K) rfl hr) (pv 1) (pe_ix (ix_tupK (K := K) rfl) (pv 0) pe_int (fun _ _ => rfl)) (by rfl)))) (fun _ _ _ _ _ => (pv 1))) pa_nil)) pa_nil))))), ?_⟩
    refine r_at (σ := [some _, none]) rfl ?_
    walk_at "z"
    refine ⟨n, rfl, hn, fun l zs H1 hl s1 hz hzs => ?_⟩
    refine r_il (.inl (.inl hz)) fun d hd => lcR_list (xs := zs) (fun i H' => Same H1 H' ∧ ∃ ys, H' d = some (.lst ys) ∧ Prs H' ys (((allP n).take i).filter fun p => decide (p ∉ ps))) (by walk_at "zw") ⟨same_new hd, [], upd_same, .nil⟩ (fun i H' _ ⟨s2, _⟩ => .inl (.inl (s2 _ _ hz))) ?_ ?_
    · rintro i x H' hx ⟨s2, ys, hy, hys⟩
      obtain ⟨p, hpi, hxp⟩ := pd_get (hzs.tk (.of_same s2)) hx
      have sm := s1.trans s2
      walk_at "z"
      refine ⟨rfl, ?_⟩
      have hg' := sm _ _ hg
      have he' := sm _ _ he
      walk_at "z"
      refine ⟨p, e, xs, ps, hxp, rfl, .inl (.inl he'), hp.tk (.of_same sm), ?_⟩
      walk_at "z"
      have suc : ((allP n).take (i + 1)).filter (fun p => decide (p ∉ ps)) = ((allP n).take i).filter (fun p => decide (p ∉ ps)) ++ (if p ∉ ps then [p] else []) := by
        rw [take_next hpi, List.filter_append, List.filter_cons, List.filter_nil]
        by_cases h : p ∈ ps <;> simp [h]
      refine r_iteN (fun h => ?_) (fun h => ?_)
      · walk_at "z"
        refine r_lce hy (small_lt ?_) ⟨same_mut s2 hd, _, upd_same, ?_⟩
        · have h1 := hys.length
          have h2 := List.length_filter_le (fun p => decide (p ∉ ps)) ((allP n).take i)
          have h3 : ((allP n).take i).length ≤ (allP n).length := by
            rw [List.length_take]
            omega
          have h4 := preP_len (n := n) (i := n)
          have h5 : n * n ≤ 100 * 100 := Nat.mul_le_mul hn hn
          unfold allP at *
          omega
        · rw [suc, if_pos h]
          have kk : TK H' (upd H' d (.lst (ys ++ [x]))) := .lst hy
          exact (hys.tk kk).snoc (hxp.tk kk)
      · refine ⟨s2, ys, hy, ?_⟩
        rw [suc, if_neg (fun z => z h), List.append_nil]
        exact hys
    · rintro H' ⟨s2, ys, hy, hys⟩
      rw [hzs.length, List.take_length] at hys
      walk_at "z"
      refine r_tupL (.inl (.inl hy)) fun e2 he2 => ?_
      walk_at "z"
      refine r_tupN sz2 fun g2 hg2 => ?_
      have s3 : Same H' (upd H' e2 (.tup ys)) := same_new he2
      have s4 := s3.trans (same_new (o := .tup [.int (n : Int), .ref e2]) hg2)
      exact q _ _ ((s1.trans s2).trans s4) ⟨g2, e2, rfl, upd_same, ys, (upd_ne (ne_of_none upd_same hg2)).trans upd_same, hys.tk (.of_same s4)⟩
end

set_option Elab.async false
set_option linter.all false
set_option maxRecDepth 100000
set_option maxHeartbeats 4000000
open PySem PySem.Spec PyProof.Rows L2

abbrev s_law_random_graph : Stmt := topS 36
theorem sc_law_random_graph : FnScope ["pool", "most", "n", "dense", "pair"] ["pool", "most"] (defScope s_law_random_graph) := ⟨rfl, rfl, rfl, by decide +kernel, rfl, by decide +kernel, by decide +kernel⟩

section
variable {P : Program} {w : World} {K : PySem.W.Frag} {mg : Str → Option Value} {base : Heap}
theorem r_pick2 {H : Hp} {Q : VK} {l : Addr} {i j : Int} {b : Bool} (h : H l = some (.lst [.int i, .int j])) (q : ∀ m, m = i ∨ m = j → Q (.int m) H) : rIxL K (.ref l) (.int (if b = true then 1 else 0)) H Q := by
  cases b with
  | true => exact r_ixL (.inl (.inl h)) rfl (q j (.inr rfl))
  | false => exact r_ixL (.inl (.inl h)) rfl (q i (.inl rfl))
theorem good_filter {n : Nat} (h : 1 ≤ n) (c : Int × Int → Bool) : GoodG (n : Int) ((allP n).filter c) :=
  ⟨by omega, (allP_asc n).filter _, fun p hp => mem_allP.mp (List.mem_filter.mp hp).1⟩
theorem allP_small {n : Nat} (h : n ≤ 100) : (allP n).length ≤ 10000 := by
  have h4 := preP_len (n := n) (i := n)
  have h5 : n * n ≤ 100 * 100 := Nat.mul_le_mul h h
  unfold allP
  omega
/-- a drawn graph of n vertices -/
def GenQ (a s : Addr) (H : Hp) (n : Int) (Q : VK) : Prop := ∀ (v : V) (qs : List (Int × Int)) (H' : Hp), Pool H' a s → Gr a H H' → GrAt H' v n qs → GoodG n qs → Q v H'
def spRandom : Sp := fun vs H Q _ => ∃ (a s : Addr) (most : Int), vs = [.ref a, .int most] ∧ Pool H a s ∧ 1 ≤ most ∧ most ≤ 100 ∧ ∀ n : Int, 1 ≤ n → n ≤ most → GenQ a s H n Q
theorem ok_random (T : Blt mg) (D : DefAt K mg "_law_random_graph" s_law_random_graph ["pool", "most"]) (D_law_draw : DefAt K mg "_law_draw" s_law_draw ["pool", "many"]) (G_law_draw : FnOk P w K mg base CX0 2 D_law_draw.f D_law_draw.fd ["pool", "many"] spDraw)
    (D_law_pairs : DefAt K mg "_law_pairs" s_law_pairs ["n"]) (G_law_pairs : FnOk P w K mg base CX0 1 D_law_pairs.f D_law_pairs.fd ["n"] spPairs) :
    FnOk P w K mg base CX0 3 D.f D.fd ["pool", "most"] spRandom := by
  refine D.F.ok sc_law_random_graph (fun vs H Q E h => ?_) (fun cdv A outer s H vs Q E hr h => ?_)
  · obtain ⟨a, s, most, rfl, _⟩ := h
    rfl
  · obtain ⟨a, s0, most, rfl, hP, m1, m2, q⟩ := h
    refine ⟨_, (pss_cons (ps_set (i := 2) sc_law_random_graph.nd rfl (Or.inl rfl) (pe_ix (ix_listK (K := K) rfl) (pe_lst (pa_cons (pv 1) (pa_cons (pe_op op_add pe_int (pe_call G_law_draw (hr.mono (by first | decide | omega)) (by rfl) D_law_draw.g D_law_draw.F.kp D_law_draw.b .nil pass0 (pa_cons (pv 0) (pa_cons (pv 1) pa_nil)))) pa_nil))) (pe_callTy call_int1' (by rfl) T.int (by decide +kernel) (pa_cons (pe_cmpR op_eq (pe_call G_law_draw (hr.mono (by first | decide | omega)) (by rfl) D_law_draw.g D_law_draw.F.kp D_law_draw.b .nil pass0 (pa_cons (pv 0) (pa_cons pe_int pa_nil))) pe_int (nomark _)) pa_nil)) (fun _ _ => rfl)))
      (pss_cons (ps_set (i := 3) sc_law_random_graph.nd rfl (Or.inr rfl) (pe_op op_add pe_int (pe_call G_law_draw (hr.mono (by first | decide | omega)) (by rfl) D_law_draw.g D_law_draw.F.kp D_law_draw.b .nil pass0 (pa_cons (pv 0) (pa_cons pe_int pa_nil)))))
      (pss_one (ps_ret (pe_tup (pa_cons (pv 2) (pa_cons (pe_callTy (call_tupleK (K := K) rfl) (by rfl) T.tuple (by decide +kernel) (pa_cons (pe_lc (own := [("pair", 4)]) (by rfl) sc_law_random_graph.nd (PI.listK (K := K) rfl (pi_list (pe_call G_law_pairs (hr.mono (by first | decide | omega)) (by rfl) D_law_pairs.g D_law_pairs.F.kp D_law_pairs.b .nil pass0 (pa_cons (pv 2) pa_nil)))) (blkOk_by (own := [("pair", 4)]) (N := ["pool", "most", "n", "dense", "pair"]) (sc := (defScope s_law_random_graph)) (by decide +kernel)) (fun _ _ _ _ _ => (pg_name (i := 4) sc_law_random_graph.nd rfl (Or.inl rfl))) (fun _ _ _ _ _ => (pts_one (pt_cmpR op_lt (pe_call G_law_draw (hr.mono (by first | decide | omega)) (by rfl) D_law_draw.g D_law_draw.F.kp D_law_draw.b .nil pass0 (pa_cons (pv 0) (pa_cons pe_int pa_nil))) (pv 3) (nomark _)))) (fun _ _ _ _ _ => (pv 4))) pa_nil)) pa_nil))))))), ?_⟩
    refine r_at (σ := [some _, some _, none, none, none]) rfl ?_
    walk_at "z"
    refine ⟨a, s0, most, rfl, hP, by omega, by omega, fun r H1 r0 r1 hP1 g1 => ?_⟩
    walk_at "z"
    refine r_lstN sz2 fun l hl => ?_
    walk_at "z"
    refine ⟨a, s0, 3, rfl, hP1.mono (same_new hl), by omega, by omega, fun r2 H2 _ _ hP2 g2 => ?_⟩
    have hl2 := g2 _ _ (new_ne hP1 hl).1 upd_same
    walk_at "z"
    refine r_pick2 hl2 fun n hn => ?_
    have g3 : Gr a H H2 := (g1.trans (.new hl)).trans g2
    walk_at "z"
    refine ⟨a, s0, 5, rfl, hP2, by omega, by omega, fun r3 H3 _ _ hP3 g4 => ?_⟩
    walk_at "z"
    obtain ⟨n', rfl⟩ : ∃ n' : Nat, n = (n' : Int) := ⟨n.toNat, by omega⟩
    refine ⟨n', rfl, by omega, fun f xs H4 hf s4 hx hp => ?_⟩
    have hP4 := hP3.mono s4
    have g5 : Gr a H H4 := (g3.trans g4).trans (.of_same s4)
    refine r_il (.inl (.inl hx)) fun d hd => lcR_list (xs := xs) (fun i H' => Pool H' a s0 ∧ Gr a H4 H' ∧ ∃ ys c, H' d = some (.lst ys) ∧ Prs H' ys (((allP n').take i).filter c)) (by walk_at "zw") ⟨hP4.mono (same_new hd), .new hd, [], fun _ => true, upd_same, .nil⟩ (fun i H' _ ⟨_, g, _⟩ => .inl (.inl (g _ _ (new_ne hP3 hf).1 hx))) ?_ ?_
    · rintro i x H' hx2 ⟨hP', g, ys, c, hy, hys⟩
      obtain ⟨p, hpi, hxp⟩ := pd_get (hp.tk (g.tk hP4)) hx2
      walk_at "z"
      refine ⟨rfl, ?_⟩
      walk_at "z"
      refine ⟨a, s0, 6, rfl, hP', by omega, by omega, fun r4 H5 _ _ hP5 g6 => ?_⟩
      have hy5 := g6 _ _ (new_ne hP4 hd).1 hy
      have kk := g6.tk hP'
      have pn : p ∉ (allP n').take i := fun z => by
        have nd := asc_nodup (allP_asc n')
        have e := take_next hpi
        have nd2 : ((allP n').take (i + 1)).Nodup := nd.sublist (List.take_sublist _ _)
        rw [e] at nd2
        exact (List.nodup_append.mp nd2).2.2 p z p (List.mem_singleton.mpr rfl) rfl
      -- the test's answer at this pair
      have ext : ∀ b : Bool, ((allP n').take (i + 1)).filter (fun z => if z = p then b else c z) = ((allP n').take i).filter c ++ (if b = true then [p] else []) := fun b => by
        rw [take_next hpi, List.filter_append]
        congr 1
        · refine List.filter_congr fun z hz => ?_
          rw [if_neg (fun e => pn (by rw [← e]; exact hz))]
        · cases b <;> simp
      walk_at "z"
      refine r_ite (fun h => ?_) (fun h => ?_)
      · walk_at "z"
        refine r_lce hy5 (small_lt ?_) ⟨hP5.upd (new_ne hP4 hd), (g.trans g6).mut hd, _, fun z => if z = p then true else c z, upd_same, ?_⟩
        · have h1 := hys.length
          have h2 := List.length_filter_le c ((allP n').take i)
          have h3 := allP_small (n := n') (by omega)
          rw [List.length_take] at h2
          omega
        · rw [ext true, if_pos rfl]
          have k2 : TK H5 (upd H5 d (.lst (ys ++ [x]))) := .lst hy5
          exact ((hys.tk kk).tk k2).snoc ((hxp.tk kk).tk k2)
      · refine ⟨hP5, g.trans g6, ys, fun z => if z = p then false else c z, hy5, ?_⟩
        rw [ext false, if_neg Bool.false_ne_true, List.append_nil]
        exact hys.tk kk
    · rintro H' ⟨hP', g, ys, c, hy, hys⟩
      rw [hp.length, List.take_length] at hys
      walk_at "z"
      refine r_tupL (.inl (.inl hy)) fun e he => ?_
      walk_at "z"
      refine r_tupN sz2 fun t ht => ?_
      have s5 : Same H' (upd H' e (.tup ys)) := same_new he
      have s6 := s5.trans (same_new (o := .tup [.int (n' : Int), .ref e]) ht)
      exact q _ (by omega) (by omega) _ _ _ (hP'.mono s6) ((g5.trans g).trans (.of_same s6)) ⟨t, e, rfl, upd_same, ys, (upd_ne (ne_of_none upd_same ht)).trans upd_same, hys.tk (.of_same s6)⟩ (good_filter (by omega) c)
end

set_option Elab.async false
set_option linter.all false
set_option maxRecDepth 100000
set_option maxHeartbeats 4000000
open PySem PySem.Spec PyProof.Rows L2

abbrev s_law_interval_rows : Stmt := topS 37
theorem sc_law_interval_rows : FnScope ["pool", "n", "rows", "k", "start"] ["pool", "n"] (defScope s_law_interval_rows) := ⟨rfl, rfl, rfl, by decide +kernel, rfl, by decide +kernel, by decide +kernel⟩

abbrev s_law_interval_graph : Stmt := topS 38
theorem sc_law_interval_graph : FnScope ["rows", "pair"] ["rows"] (defScope s_law_interval_graph) := ⟨rfl, rfl, rfl, by decide +kernel, rfl, by decide +kernel, by decide +kernel⟩

section
variable {P : Program} {w : World} {K : PySem.W.Frag} {mg : Str → Option Value} {base : Heap}
theorem flt_next {n i : Nat} {p : Int × Int} (h : (allP n)[i]? = some p) (c : Int × Int → Bool) (b : Bool) : ∃ c' : Int × Int → Bool, ((allP n).take (i + 1)).filter c' = ((allP n).take i).filter c ++ (if b = true then [p] else []) := by
  have pn : p ∉ (allP n).take i := fun z => by
    have nd := asc_nodup (allP_asc n)
    have e := take_next h
    have nd2 : ((allP n).take (i + 1)).Nodup := nd.sublist (List.take_sublist _ _)
    rw [e] at nd2
    exact (List.nodup_append.mp nd2).2.2 p z p (List.mem_singleton.mpr rfl) rfl
  refine ⟨fun z => if z = p then b else c z, ?_⟩
  rw [take_next h, List.filter_append]
  congr 1
  · refine List.filter_congr fun z hz => ?_
    rw [if_neg (fun e => pn (by rw [← e]; exact hz))]
  · cases b <;> simp
theorem flt_small {n i : Nat} (hn : n ≤ 100) (c : Int × Int → Bool) : (((allP n).take i).filter c).length < 100000 := by
  have h2 := List.length_filter_le c ((allP n).take i)
  have h3 := allP_small hn
  rw [List.length_take] at h2
  omega
theorem at_pd {α : Type} {F : V → α → Prop} {xs : List V} {ps : List α} {z : Int} (h : Paired F xs ps) (h0 : 0 ≤ z) (h1 : z < ps.length) : ∃ y r, atI xs z = some y ∧ ps[z.toNat]? = some r ∧ F y r := by
  have hlt : z.toNat < ps.length := by omega
  obtain ⟨y, hy, f⟩ := pd_get2 h (List.getElem?_eq_getElem hlt)
  exact ⟨y, _, at_of (j := z.toNat) (by omega) hy, List.getElem?_eq_getElem hlt, f⟩
/-- n drawn intervals -/
def spRows : Sp := fun vs H Q _ => ∃ (a s : Addr) (n : Int), vs = [.ref a, .int n] ∧ Pool H a s ∧ 0 ≤ n ∧ n ≤ 100 ∧ ∀ (f : Addr) (xs : List V) (ps : List (Int × Int)) (H' : Hp), H f = none → Pool H' a s → Gr a H H' → H' f = some (.lst xs) → Prs H' xs ps → ps.length = n.toNat → Q (.ref f) H'
theorem ok_rows (T : Blt mg) (D : DefAt K mg "_law_interval_rows" s_law_interval_rows ["pool", "n"]) (D_law_draw : DefAt K mg "_law_draw" s_law_draw ["pool", "many"]) (G_law_draw : FnOk P w K mg base CX0 2 D_law_draw.f D_law_draw.fd ["pool", "many"] spDraw) :
    FnOk P w K mg base CX0 3 D.f D.fd ["pool", "n"] spRows := by
  refine D.F.ok sc_law_interval_rows (fun vs H Q E h => ?_) (fun cdv A outer s H vs Q E hr h => ?_)
  · obtain ⟨a, s, n, rfl, _⟩ := h
    rfl
  · obtain ⟨a, s0, n, rfl, hP, n0, n1, q⟩ := h
    refine ⟨_, (pss_cons (ps_set (i := 2) sc_law_interval_rows.nd rfl (Or.inl rfl) (pe_lst pa_nil))
      (pss_cons (ps_for PassesOwn.never (by rfl) (pi_range1 (by rfl) T.range (pa_cons (pv 1) pa_nil)) (pg_name (i := 3) sc_law_interval_rows.nd rfl (Or.inl rfl))
        (pss_cons (ps_set (i := 4) sc_law_interval_rows.nd rfl (Or.inl rfl) (pe_op op_sub (pe_call G_law_draw (hr.mono (by first | decide | omega)) (by rfl) D_law_draw.g D_law_draw.F.kp D_law_draw.b .nil pass0 (pa_cons (pv 0) (pa_cons pe_int pa_nil))) pe_int))
        (pss_one (ps_expr (PE.bmK (K := K) rfl (pe_bm PySem.F.plainAttrs_list PySem.F.slot_list_append PySem.F.type_list_append mt_append (pv 2) (pa_cons (pe_tup (pa_cons (pv 4) (pa_cons (pe_op op_add (pv 4) (pe_call G_law_draw (hr.mono (by first | decide | omega)) (by rfl) D_law_draw.g D_law_draw.F.kp D_law_draw.b .nil pass0 (pa_cons (pv 0) (pa_cons (pe_ix (ix_listK (K := K) rfl) (pe_lst (pa_cons pe_int (pa_cons pe_int (pa_cons pe_int pa_nil)))) (pe_call G_law_draw (hr.mono (by first | decide | omega)) (by rfl) D_law_draw.g D_law_draw.F.kp D_law_draw.b .nil pass0 (pa_cons (pv 0) (pa_cons pe_int pa_nil))) (fun _ _ => rfl)) pa_nil)))) pa_nil))) pa_nil)))))))
      (pss_one (ps_ret (pv 2))))), ?_⟩
    refine r_at (σ := [some _, some _, none, none, none]) rfl ?_
    walk_at "z"
    refine r_lstN (by decide) fun f hf => ?_
    have fa := new_ne hP hf
    walk_at "z"
    refine r_rg1 (by omega) (forR_range (fun i σ' H' => (∃ x3 x4, σ' = [some (.ref a), some (.int n), some (.ref f), x3, x4]) ∧ Pool H' a s0 ∧ Gr a H H' ∧ ∃ xs ps, H' f = some (.lst xs) ∧ Prs H' xs ps ∧ ps.length = i) ⟨⟨_, _, rfl⟩, hP.mono (same_new hf), .new hf, [], [], upd_same, .nil, rfl⟩ ?_ ?_)
    · rintro i σ' H' hi ⟨⟨x3, x4, rfl⟩, hP', g, xs, ps, hx, hp, hl⟩
      walk_at "z"
      refine ⟨a, s0, 9, rfl, hP', by omega, by omega, fun r H1 _ _ hP1 g1 => ?_⟩
      have hx1 := g1 _ _ fa.1 hx
      walk_at "z"
      refine r_lstN sz3 fun l hl3 => ?_
      walk_at "z"
      refine ⟨a, s0, 3, rfl, hP1.mono (same_new hl3), by omega, by omega, fun r2 H2 b0 b1 hP2 g2 => ?_⟩
      have hl2 := g2 _ _ (new_ne hP1 hl3).1 upd_same
      obtain ⟨m, hm, m0, m1⟩ : ∃ m : Int, atI [V.int 1, V.int 3, V.int 6] r2 = some (.int m) ∧ 0 < m ∧ m < 10 := by
        have e : r2 = 0 ∨ r2 = 1 ∨ r2 = 2 := by omega
        rcases e with e | e | e <;> subst e
        · exact ⟨1, rfl, by omega, by omega⟩
        · exact ⟨3, rfl, by omega, by omega⟩
        · exact ⟨6, rfl, by omega, by omega⟩
      walk_at "z"
      refine ⟨a, s0, m, rfl, hP2, by omega, by omega, fun r3 H3 _ _ hP3 g3 => ?_⟩
      walk_at "z"
      have g4 : Gr a H' H3 := ((g1.trans (.new hl3)).trans g2).trans g3
      have hx3 := g4 _ _ fa.1 hx
      refine r_tupN sz2 fun t ht => ?_
      walk_at "z"
      refine r_appT (by walk_at "zh") (small_lt ?_) ?_
      · rw [hp.length, hl]
        omega
      · refine ⟨⟨_, _, rfl⟩, (hP3.mono (same_new ht)).upd fa, ((g.trans g4).trans (.new ht)).mut hf, _, ps ++ [_], upd_same, prs_push hx3 (hp.tk (g4.tk hP')) ht, ?_⟩
        rw [List.length_append, hl]
        rfl
    · rintro σ' H' ⟨⟨x3, x4, rfl⟩, hP', g, xs, ps, hx, hp, hl⟩
      walk_at "z"
      exact q f xs ps H' hf hP' g hx hp hl
/-- the graph of intervals -/
def spIvGraph (K : PySem.W.Frag) : Sp := fun vs H Q _ => ∃ (l : Addr) (xs : List V) (ps : List (Int × Int)), vs = [.ref l] ∧ SqL K H l xs ∧ Prs H xs ps ∧ ps.length ≤ 100 ∧
  ∀ (v : V) (c : Int × Int → Bool) (H' : Hp), Same H H' → GrAt H' v (ps.length : Int) ((allP ps.length).filter c) → Q v H'
theorem ok_ivgraph (T : Blt mg) (D : DefAt K mg "_law_interval_graph" s_law_interval_graph ["rows"]) (D_law_pairs : DefAt K mg "_law_pairs" s_law_pairs ["n"]) (G_law_pairs : FnOk P w K mg base CX0 1 D_law_pairs.f D_law_pairs.fd ["n"] spPairs) :
    FnOk P w K mg base CX0 2 D.f D.fd ["rows"] (spIvGraph K) := by
  refine D.F.ok sc_law_interval_graph (fun vs H Q E h => ?_) (fun cdv A outer s H vs Q E hr h => ?_)
  · obtain ⟨l, xs, ps, rfl, _⟩ := h
    rfl
  · obtain ⟨l, xs, ps, rfl, hl, hp, hlen, q⟩ := h
    refine ⟨_, (pss_one (ps_ret (pe_tup (pa_cons (pe_callB (call_lenK (K := K) rfl) (by rfl) T.len (by decide +kernel) (pa_cons (pv 0) pa_nil)) (pa_cons (pe_callTy (call_tupleK (K := K) rfl) (by rfl) T.tuple (by decide +kernel) (pa_cons (pe_lc (own := [("pair", 1)]) (by rfl) sc_law_interval_graph.nd (PI.listK (K := K) rfl (pi_list (pe_call G_law_pairs (hr.mono (by first | decide | omega)) (by rfl) D_law_pairs.g D_law_pairs.F.kp D_law_pairs.b .nil pass0 (pa_cons (pe_callB (call_lenK (K := K) rfl) (by rfl) T.len (by decide +kernel) (pa_cons (pv 0) pa_nil)) pa_nil)))) (blkOk_by (own := [("pair", 1)]) (N := ["rows", "pair"]) (sc := (defScope s_law_interval_graph)) (by decide +kernel)) (fun _ _ _ _ _ => (pg_name (i := 1) sc_law_interval_graph.nd rfl (Or.inl rfl))) (fun _ _ _ _ _ => (pts_one (PW.pt (pw_and (pt_cmpR op_le (pe_ix (ix_tupK (K := K) rfl) (pe_ix (ix_listK (K := K) rfl) (pv 0) (pe_ix (ix_tupK (K := K) rfl) (pv 1) pe_int (fun _ _ => rfl)) (fun _ _ => rfl)) pe_int (fun _ _ => rfl)) (pe_ix (ix_tupK (K := K) rfl) (pe_ix (ix_listK (K := K) rfl) (pv 0) (pe_ix (ix_tupK (K := K) rfl) (pv 1) pe_int (fun _ _ => rfl)) (fun _ _ => rfl)) pe_int (fun _ _ => rfl)) (nomark _)) (pw_and1 (pt_cmpR op_le (pe_ix (ix_tupK (K := K) rfl) (pe_ix (ix_listK (K := K) rfl) (pv 0) (pe_ix (ix_tupK (K := K) rfl) (pv 1) pe_int (fun _ _ => rfl)) (fun _ _ => rfl)) pe_int (fun _ _ => rfl)) (pe_ix (ix_tupK (K := K) rfl) (pe_ix (ix_listK (K := K) rfl) (pv 0) (pe_ix (ix_tupK (K := K) rfl) (pv 1) pe_int (fun _ _ => rfl)) (fun _ _ => rfl)) pe_int (fun _ _ => rfl)) (nomark _))))))) (fun _ _ _ _ _ => (pv 1))) pa_nil)) pa_nil))))), ?_⟩
    refine r_at (σ := [some _, none]) rfl ?_
    walk_at "z"
    rw [hp.length]
    refine ⟨ps.length, rfl, hlen, fun f zs H1 hf s1 hz hzs => ?_⟩
    refine r_il (.inl (.inl hz)) fun d hd => lcR_list (xs := zs) (fun i H' => Same H1 H' ∧ ∃ ys c, H' d = some (.lst ys) ∧ Prs H' ys (((allP ps.length).take i).filter c)) (by walk_at "zw") ⟨same_new hd, [], fun _ => true, upd_same, .nil⟩ (fun i H' _ ⟨s2, _⟩ => .inl (.inl (s2 _ _ hz))) ?_ ?_
    · rintro i x H' hx ⟨s2, ys, c, hy, hys⟩
      obtain ⟨p, hpi, hxp⟩ := pd_get (hzs.tk (.of_same s2)) hx
      obtain ⟨b1, b2, b3⟩ := mem_allP.mp (List.mem_of_getElem? hpi)
      obtain ⟨t, rfl, ht⟩ := id hxp
      have sm := s1.trans s2
      have hl' := sm.seq hl
      have hp' := hp.tk (.of_same sm)
      obtain ⟨y1, r1, e1, _, t1, rfl, f1⟩ := at_pd hp' b1 (by omega)
      obtain ⟨y2, r2, e2, _, t2, rfl, f2⟩ := at_pd hp' (show 0 ≤ p.2 by omega) (by omega)
      -- the turn's end
      have yes : LcE d (fun H' => Same H1 H' ∧ ∃ ys c, H' d = some (.lst ys) ∧ Prs H' ys (((allP ps.length).take (i + 1)).filter c)) (V.ref t) H' := by
        obtain ⟨c', e⟩ := flt_next hpi c true
        refine r_lce hy (small_lt (by rw [hys.length]; exact flt_small hlen c)) ⟨same_mut s2 hd, _, c', upd_same, ?_⟩
        rw [e, if_pos rfl]
        exact (hys.tk (.lst hy)).snoc (hxp.tk (.lst hy))
      have no : Same H1 H' ∧ ∃ ys c, H' d = some (.lst ys) ∧ Prs H' ys (((allP ps.length).take (i + 1)).filter c) := by
        obtain ⟨c', e⟩ := flt_next hpi c false
        refine ⟨s2, ys, c', hy, ?_⟩
        rw [e, if_neg Bool.false_ne_true, List.append_nil]
        exact hys
      walk_at "z"
      refine ⟨rfl, ?_⟩
      walk_at "z"
      refine r_ite (fun h => ?_) (fun h => ?_)
      · walk_at "z"
        refine r_ite (fun h => ?_) (fun h => ?_)
        · walk_at "z"
          exact yes
        · exact no
      · walk_at "z"
        exact no
    · rintro H' ⟨s2, ys, c, hy, hys⟩
      rw [hzs.length, List.take_length] at hys
      walk_at "z"
      refine r_tupL (.inl (.inl hy)) fun e he => ?_
      walk_at "z"
      refine r_tupN sz2 fun t ht => ?_
      have s5 : Same H' (upd H' e (.tup ys)) := same_new he
      have s6 := s5.trans (same_new (o := .tup [.int (ps.length : Int), .ref e]) ht)
      exact q _ c _ ((s1.trans s2).trans s6) ⟨t, e, rfl, upd_same, ys, (upd_ne (ne_of_none upd_same ht)).trans upd_same, hys.tk (.of_same s6)⟩
end

set_option Elab.async false
set_option linter.all false
set_option maxRecDepth 100000
set_option maxHeartbeats 4000000
open PySem PySem.Spec PyProof.Rows L2

abbrev s_law_ringed : Stmt := topS 53
theorem sc_law_ringed : FnScope ["pool", "n", "m", "pairs", "v", "k", "u"] ["pool", "n"] (defScope s_law_ringed) := ⟨rfl, rfl, rfl, by decide +kernel, rfl, by decide +kernel, by decide +kernel⟩

abbrev s_law_clique_graph : Stmt := topS 41
theorem sc_law_clique_graph : FnScope ["pool", "n", "cliques", "pairs", "v", "base", "kept", "u"] ["pool", "n"] (defScope s_law_clique_graph) := ⟨rfl, rfl, rfl, by decide +kernel, rfl, by decide +kernel, by decide +kernel⟩

section
variable {P : Program} {w : World} {K : PySem.W.Frag} {mg : Str → Option Value} {base : Heap}
theorem idx_spec : ∀ {ns : List Int} {z : Int}, z ∈ ns → ns[ns.idxOf z]? = some z ∧ ∀ m, m < ns.idxOf z → ns[m]? ≠ some z
  | [], _, h => by cases h
  | x :: ns, z, h => by
    rw [List.idxOf_cons]
    by_cases e : x = z
    · subst e
      simp
    · have hz : z ∈ ns := by
        rcases List.mem_cons.mp h with q | q
        · exact absurd q.symm e
        · exact q
      obtain ⟨h1, h2⟩ := idx_spec hz
      have eb : (x == z) = false := by simp [e]
      rw [eb]
      simp only [cond_false]
      refine ⟨by simpa using h1, fun m hm => ?_⟩
      cases m with
      | zero => simp [e]
      | succ m =>
        have := h2 m (by omega)
        simpa using this
theorem flat_ints (ns : List Int) : (ns.map V.int).all flatV = true := by
  rw [List.all_eq_true]
  intro x hx
  obtain ⟨n, _, rfl⟩ := List.mem_map.mp hx
  rfl
theorem eqV_int (i j : Int) : eqV (.int i) (.int j) = decide (i = j) := by
  show (i == j) = decide (i = j)
  exact int_beq i j
theorem r_index {H : Hp} {Q : VK} {l : Addr} {ns : List Int} {z : Int} (h : SqL K H l (ns.map V.int)) (hm : z ∈ ns) (q : Q (.int (ns.idxOf z : Nat)) H) : rIndex K (.ref l) [.int z] H Q := by
  obtain ⟨h1, h2⟩ := idx_spec hm
  refine ⟨l, ns.map V.int, .int z, ns.idxOf z, .int z, rfl, rfl, h, rfl, flat_ints ns, by rw [List.getElem?_map, h1]; rfl, by rw [eqV_int]; simp, fun m z' hm hz => ?_, q⟩
  rw [List.getElem?_map] at hz
  obtain ⟨y, hy, rfl⟩ := Option.map_eq_some_iff.mp hz
  rw [eqV_int]
  refine decide_eq_false fun e => h2 m hm ?_
  rw [hy, e]
abbrev s_law_turned_graph : Stmt := topS 39
theorem sc_law_turned_graph : FnScope ["one", "two", "first", "second", "found", "u", "v"] ["one", "two"] (defScope s_law_turned_graph) := ⟨rfl, rfl, rfl, by decide +kernel, rfl, by decide +kernel, by decide +kernel⟩

/-- the pairs that stand in another order in both -/
def spTurned (K : PySem.W.Frag) : Sp := fun vs H Q _ => ∃ (l1 l2 : Addr) (ns ms : List Int), vs = [.ref l1, .ref l2] ∧ SqL K H l1 (ns.map V.int) ∧ SqL K H l2 (ms.map V.int) ∧ ns.length ≤ 100 ∧ (∀ z : Int, 0 ≤ z → z < ns.length → z ∈ ns ∧ z ∈ ms) ∧
  ∀ (v : V) (c : Int × Int → Bool) (H' : Hp), Same H H' → GrAt H' v (ns.length : Int) ((allP ns.length).filter c) → Q v H'
theorem ok_turned (T : Blt mg) (D : DefAt K mg "_law_turned_graph" s_law_turned_graph ["one", "two"]) (D_law_pairs : DefAt K mg "_law_pairs" s_law_pairs ["n"]) (G_law_pairs : FnOk P w K mg base CX0 1 D_law_pairs.f D_law_pairs.fd ["n"] spPairs) :
    FnOk P w K mg base CX0 2 D.f D.fd ["one", "two"] (spTurned K) := by
  refine D.F.ok sc_law_turned_graph (fun vs H Q E h => ?_) (fun cdv A outer s H vs Q E hr h => ?_)
  · obtain ⟨l1, l2, ns, ms, rfl, _⟩ := h
    rfl
  · obtain ⟨l1, l2, ns, ms, rfl, hl1, hl2, hlen, hall, q⟩ := h
    refine ⟨_, (pss_cons (ps_set (i := 2) sc_law_turned_graph.nd rfl (Or.inl rfl) (pe_callTy (call_listK (K := K) rfl) (by rfl) T.list (by decide +kernel) (pa_cons (pv 0) pa_nil)))
      (pss_cons (ps_set (i := 3) sc_law_turned_graph.nd rfl (Or.inl rfl) (pe_callTy (call_listK (K := K) rfl) (by rfl) T.list (by decide +kernel) (pa_cons (pv 1) pa_nil)))
      (pss_cons (ps_set (i := 4) sc_law_turned_graph.nd rfl (Or.inl rfl) (pe_lst pa_nil))
      (pss_cons (ps_for PassesOwn.never (by rfl) (PI.listK (K := K) rfl (pi_list (pe_call G_law_pairs (hr.mono (by first | decide | omega)) (by rfl) D_law_pairs.g D_law_pairs.F.kp D_law_pairs.b .nil pass0 (pa_cons (pe_callB (call_lenK (K := K) rfl) (by rfl) T.len (by decide +kernel) (pa_cons (pv 2) pa_nil)) pa_nil)))) (PG.tupK (K := K) rfl (pg_tup (n := 2) rfl (pgs_cons (pg_name (i := 5) sc_law_turned_graph.nd rfl (Or.inl rfl)) (pgs_cons (pg_name (i := 6) sc_law_turned_graph.nd rfl (Or.inl rfl)) pgs_nil))))
        (pss_one (ps_if (pt_cmpR op_ne (pe_cmpR op_lt (PE.bmK (K := K) rfl (pe_bm PySem.F.plainAttrs_list PySem.F.slot_list_index PySem.F.type_list_index (mt_indexK (K := K) rfl) (pv 2) (pa_cons (pv 5) pa_nil))) (PE.bmK (K := K) rfl (pe_bm PySem.F.plainAttrs_list PySem.F.slot_list_index PySem.F.type_list_index (mt_indexK (K := K) rfl) (pv 2) (pa_cons (pv 6) pa_nil))) (nomark _)) (pe_cmpR op_lt (PE.bmK (K := K) rfl (pe_bm PySem.F.plainAttrs_list PySem.F.slot_list_index PySem.F.type_list_index (mt_indexK (K := K) rfl) (pv 3) (pa_cons (pv 5) pa_nil))) (PE.bmK (K := K) rfl (pe_bm PySem.F.plainAttrs_list PySem.F.slot_list_index PySem.F.type_list_index (mt_indexK (K := K) rfl) (pv 3) (pa_cons (pv 6) pa_nil))) (nomark _)) (nomark _))
          (pss_one (ps_expr (PE.bmK (K := K) rfl (pe_bm PySem.F.plainAttrs_list PySem.F.slot_list_append PySem.F.type_list_append mt_append (pv 4) (pa_cons (pe_tup (pa_cons (pv 5) (pa_cons (pv 6) pa_nil))) pa_nil)))))
          pss_nil)))
      (pss_one (ps_ret (pe_tup (pa_cons (pe_callB (call_lenK (K := K) rfl) (by rfl) T.len (by decide +kernel) (pa_cons (pv 2) pa_nil)) (pa_cons (pe_callTy (call_tupleK (K := K) rfl) (by rfl) T.tuple (by decide +kernel) (pa_cons (pv 4) pa_nil)) pa_nil))))))))), ?_⟩
    refine r_at (σ := [some _, some _, none, none, none, none, none]) rfl ?_
    walk_at "z"
    refine r_listL hl1 fun f1 hf1 => ?_
    have sa : Same H (upd H f1 (.lst (ns.map V.int))) := same_new hf1
    walk_at "z"
    refine r_listL (sa.seq hl2) fun f2 hf2 => ?_
    have sb := sa.trans (same_new (o := .lst (ms.map V.int)) hf2)
    walk_at "z"
    refine r_lstN (by decide) fun f hf => ?_
    have sc := sb.trans (same_new (o := .lst []) hf)
    have n12 : f1 ≠ f2 := ne_of_none upd_same hf2
    have n1f : f1 ≠ f := ne_of_none ((upd_ne n12).trans upd_same) hf
    have n2f : f2 ≠ f := ne_of_none upd_same hf
    walk_at "z"
    rw [List.length_map]
    refine ⟨ns.length, rfl, hlen, fun l zs H1 hl s1 hz hzs => ?_⟩
    have h1 : H1 f1 = some (.lst (ns.map V.int)) := s1 _ _ ((upd_ne n1f).trans ((upd_ne n12).trans upd_same))
    have h2 : H1 f2 = some (.lst (ms.map V.int)) := s1 _ _ ((upd_ne n2f).trans upd_same)
    have hff : H1 f = some (.lst []) := s1 _ _ upd_same
    have nlf : l ≠ f := fun e => by
      rw [e, upd_same] at hl
      cases hl
    have hf0 : H f = none := sb.free hf
    -- the lists that stand
    refine r_il (.inl (.inl hz)) (forR_list (xs := zs) (fun i σ' H' => (∃ x5 x6, σ' = [some (.ref l1), some (.ref l2), some (.ref f1), some (.ref f2), some (.ref f), x5, x6]) ∧ Same H H' ∧ TK H1 H' ∧ H' l = some (.lst zs) ∧ H' f1 = some (.lst (ns.map V.int)) ∧ H' f2 = some (.lst (ms.map V.int)) ∧ ∃ ys c, H' f = some (.lst ys) ∧ Prs H' ys (((allP ns.length).take i).filter c))
      ⟨⟨_, _, rfl⟩, sc.trans s1, .refl _, hz, h1, h2, [], fun _ => true, hff, .nil⟩ (fun i σ' H' _ ⟨_, _, _, h, _⟩ => .inl (.inl h)) ?_ ?_)
    · rintro i x σ' H' hx ⟨⟨x5, x6, rfl⟩, sm, tk, hl', g1, g2, ys, c, hy, hys⟩
      obtain ⟨p, hpi, hxp⟩ := pd_get (hzs.tk tk) hx
      obtain ⟨b1, b2, b3⟩ := mem_allP.mp (List.mem_of_getElem? hpi)
      obtain ⟨t, rfl, ht⟩ := id hxp
      obtain ⟨m1, m2⟩ := hall p.1 b1 (by omega)
      obtain ⟨m3, m4⟩ := hall p.2 (by omega) (by omega)
      refine r_gtup (.inl (.inl ht)) rfl ?_
      walk_at "z"
      refine r_index (.inl (.inl g1)) m1 ?_
      walk_at "z"
      refine r_index (.inl (.inl g1)) m3 ?_
      walk_at "z"
      refine r_index (.inl (.inl g2)) m2 ?_
      walk_at "z"
      refine r_index (.inl (.inl g2)) m4 ?_
      walk_at "z"
      refine r_iteB (fun h => ?_) (fun h => ?_)
      · walk_at "z"
        refine r_tupN sz2 fun t2 ht2 => ?_
        walk_at "z"
        obtain ⟨c', e⟩ := flt_next hpi c true
        refine r_appT (by walk_at "zh") (small_lt (by rw [hys.length]; exact flt_small hlen c)) ?_
        have kk : TK H' (upd (upd H' t2 (.tup [.int p.1, .int p.2])) f (.lst (ys ++ [.ref t2]))) := (TK.new ht2).trans (.lst (by walk_at "zh"))
        have old : ∀ (b : Addr) (o : HO), b ≠ f → H' b = some o → (upd (upd H' t2 (.tup [.int p.1, .int p.2])) f (.lst (ys ++ [.ref t2]))) b = some o := fun b o n e => by
          rw [upd_ne n, upd_ne (ne_of_none e ht2)]
          exact e
        refine ⟨⟨_, _, rfl⟩, same_mut (sm.trans (same_new ht2)) hf0, tk.trans kk, old _ _ nlf hl', old _ _ n1f g1, old _ _ n2f g2, _, c', upd_same, ?_⟩
        rw [e, if_pos rfl]
        exact prs_push hy hys ht2
      · walk_at "z"
        obtain ⟨c', e⟩ := flt_next hpi c false
        refine ⟨⟨_, _, rfl⟩, sm, tk, hl', g1, g2, ys, c', hy, ?_⟩
        rw [e, if_neg Bool.false_ne_true, List.append_nil]
        exact hys
    · rintro σ' H' ⟨⟨x5, x6, rfl⟩, sm, tk, hl', g1, g2, ys, c, hy, hys⟩
      rw [hzs.length, List.take_length] at hys
      walk_at "z"
      rw [List.length_map]
      refine r_tupL (.inl (.inl hy)) fun e he => ?_
      walk_at "z"
      refine r_tupN sz2 fun t ht => ?_
      have s5 : Same H' (upd H' e (.tup ys)) := same_new he
      have s6 := s5.trans (same_new (o := .tup [.int (ns.length : Int), .ref e]) ht)
      exact q _ c _ (sm.trans s6) ⟨t, e, rfl, upd_same, ys, (upd_ne (ne_of_none upd_same ht)).trans upd_same, hys.tk (.of_same s6)⟩
theorem good_of {n : Int} {ps qs : List (Int × Int)} (h1 : 1 ≤ n) (bd : ∀ r ∈ ps, 0 ≤ r.1 ∧ r.1 < n ∧ 0 ≤ r.2 ∧ r.2 < n ∧ r.1 ≠ r.2) (asc : qs.Pairwise ltP) (mem : ∀ p, p ∈ qs ↔ ∃ r ∈ ps, p = nrm r) : GoodG n qs := by
  refine ⟨h1, asc, fun p hp => ?_⟩
  obtain ⟨r, hr, rfl⟩ := (mem p).mp hp
  obtain ⟨b1, b2, b3, b4, b5⟩ := bd r hr
  unfold nrm
  simp only
  omega
/-- a ring and more -/
def spRinged : Sp := fun vs H Q _ => ∃ (a s : Addr) (n : Int), vs = [.ref a, .int n] ∧ Pool H a s ∧ 1 ≤ n ∧ n ≤ 60 ∧ GenQ a s H n Q
theorem r_cat {H : Hp} {Q : VK} {l b : Addr} {xs zs : List V} (h1 : H l = some (.lst xs)) (h2 : H b = some (.lst zs)) (hz : xs.length + zs.length ≤ 100000) (q : ∀ p, H p = none → Q (.ref p) (upd H p (.lst (xs ++ zs)))) : rCat (.ref l) (.ref b) H Q := ⟨l, b, xs, zs, rfl, rfl, h1, h2, small_len hz, q⟩
theorem ok_ringed (T : Blt mg) (D : DefAt K mg "_law_ringed" s_law_ringed ["pool", "n"]) (D_law_draw : DefAt K mg "_law_draw" s_law_draw ["pool", "many"]) (G_law_draw : FnOk P w K mg base CX0 2 D_law_draw.f D_law_draw.fd ["pool", "many"] spDraw)
    (D_law_of : DefAt K mg "_law_of" s_law_of ["n", "pairs"]) (G_law_of : FnOk P w K mg base CX0 3 D_law_of.f D_law_of.fd ["n", "pairs"] (spOf K)) :
    FnOk P w K mg base CX0 4 D.f D.fd ["pool", "n"] spRinged := by
  refine D.F.ok sc_law_ringed (fun vs H Q E h => ?_) (fun cdv A outer s H vs Q E hr h => ?_)
  · obtain ⟨a, s, n, rfl, _⟩ := h
    rfl
  · obtain ⟨a, s0, n, rfl, hP, n0, n1, q⟩ := h
    refine ⟨_, (pss_cons (ps_set (i := 2) sc_law_ringed.nd rfl (Or.inr rfl) (pe_op op_sub (pv 1) (pe_call G_law_draw (hr.mono (by first | decide | omega)) (by rfl) D_law_draw.g D_law_draw.F.kp D_law_draw.b .nil pass0 (pa_cons (pv 0) (pa_cons (pe_callB (call_max2' rfl) (by rfl) T.max (by decide +kernel) (pa_cons pe_int (pa_cons (pe_op op_sub (pv 1) pe_int) pa_nil))) pa_nil)))))
      (pss_cons (ps_setLc (i := 3) (own := [("k", 5)]) (by rfl) sc_law_ringed.nd rfl rfl (sw_true rfl rfl rfl (by decide +kernel)) (pi_range1 (by rfl) T.range (pa_cons (pv 2) pa_nil)) (blkOk_by (own := [("k", 5)]) (N := ["pool", "n", "m", "pairs", "v", "k", "u"]) (sc := (defScope s_law_ringed)) (by decide +kernel)) (fun _ _ _ _ _ => (pg_name (i := 5) sc_law_ringed.nd rfl (Or.inl rfl))) (fun _ _ _ _ _ => (pts_one (pt_cmpR op_gt (pv 2) pe_int (nomark _)))) (fun _ _ _ _ _ => (pe_tup (pa_cons (pv 5) (pa_cons (pe_op op_mod (pe_op op_add (pv 5) pe_int) (pv 2)) pa_nil)))))
      (pss_cons (ps_for PassesOwn.never (by rfl) (pi_range2 (by rfl) T.range (pa_cons (pv 2) (pa_cons (pv 1) pa_nil))) (pg_name (i := 4) sc_law_ringed.nd rfl (Or.inr rfl))
        (pss_one (ps_set (i := 3) sc_law_ringed.nd rfl (Or.inl rfl) (pe_op op_cat (pv 3) (pe_lc (own := [("u", 6)]) (by rfl) sc_law_ringed.nd (pi_range1 (by rfl) T.range (pa_cons (pv 4) pa_nil)) (blkOk_by (own := [("u", 6)]) (N := ["pool", "n", "m", "pairs", "v", "k", "u"]) (sc := (defScope s_law_ringed)) (by decide +kernel)) (fun _ _ _ _ _ => (pg_name (i := 6) sc_law_ringed.nd rfl (Or.inl rfl))) (fun _ _ _ _ _ => (pts_one (pt_cmpR op_eq (pe_call G_law_draw (hr.mono (by first | decide | omega)) (by rfl) D_law_draw.g D_law_draw.F.kp D_law_draw.b .nil pass0 (pa_cons (pv 0) (pa_cons pe_int pa_nil))) pe_int (nomark _)))) (fun _ _ _ _ _ => (pe_tup (pa_cons (pv 6) (pa_cons (pv 4) pa_nil)))))))))
      (pss_one (ps_ret (pe_call G_law_of (hr.mono (by first | decide | omega)) (by rfl) D_law_of.g D_law_of.F.kp D_law_of.b .nil pass0 (pa_cons (pv 1) (pa_cons (pv 3) pa_nil)))))))), ?_⟩
    refine r_at (σ := [some _, some _, none, none, none, none, none]) rfl ?_
    walk_at "z"
    refine ⟨a, s0, _, rfl, hP, by omega, by omega, fun r H1 r0 r1 hP1 g1 => ?_⟩
    walk_at "z"
    obtain ⟨m, hm⟩ : ∃ m : Nat, n - r = (m : Int) := ⟨(n - r).toNat, by omega⟩
    rw [hm]
    have m1 : 1 ≤ m := by omega
    have m2 : m ≤ n.toNat := by omega
    let Bd : List (Int × Int) → Prop := fun ps => ∀ p ∈ ps, 0 ≤ p.1 ∧ p.1 < n ∧ 0 ≤ p.2 ∧ p.2 < n ∧ p.1 ≠ p.2
    have bd1 : ∀ {ps : List (Int × Int)} {u v : Int}, Bd ps → 0 ≤ u → u < n → 0 ≤ v → v < n → u ≠ v → Bd (ps ++ [(u, v)]) := fun {ps u v} h h1 h2 h3 h4 h5 p hp => by
      rcases List.mem_append.mp hp with z | z
      · exact h p z
      · rw [List.mem_singleton.mp z]
        exact ⟨h1, h2, h3, h4, h5⟩
    refine r_rg1 (by omega) fun d hd => lcR_range (fun i H' => Same H1 H' ∧ ∃ ys ps, H' d = some (.lst ys) ∧ Prs H' ys ps ∧ Bd ps ∧ ps.length ≤ i) (by walk_at "zw") ⟨same_new hd, [], [], upd_same, .nil, (fun p hp => by cases hp), Nat.le_refl _⟩ ?_ ?_
    · rintro i H' hi ⟨sm, ys, ps, hy, hys, bd, hl⟩
      have hi : i < m := by omega
      walk_at "z"
      refine ⟨rfl, ?_⟩
      walk_at "z"
      refine r_ite (fun h => ?_) (fun h => ?_)
      · walk_at "z"
        refine r_tupN sz2 fun t ht => ?_
        have hmod : 0 ≤ (0 + (i : Int) + 1) % (m : Int) ∧ (0 + (i : Int) + 1) % (m : Int) < m := ⟨Int.emod_nonneg _ (by omega), Int.emod_lt_of_pos _ (by omega)⟩
        have hne : (0 + (i : Int)) ≠ (0 + (i : Int) + 1) % (m : Int) := by
          by_cases e : i + 1 = m
          · have : (0 + (i : Int) + 1) % (m : Int) = 0 := by
              rw [show (0 : Int) + (i : Int) + 1 = (m : Int) by omega]
              exact Int.emod_self
            omega
          · have : (0 + (i : Int) + 1) % (m : Int) = 0 + (i : Int) + 1 := Int.emod_eq_of_lt (by omega) (by omega)
            omega
        refine r_lce (by walk_at "zh") (small_lt (by rw [hys.length]; omega)) ⟨same_mut (sm.trans (same_new ht)) hd, _, _, upd_same, prs_push hy hys ht, bd1 bd (by omega) (by omega) hmod.1 (by omega) hne, by rw [List.length_append]; simp only [List.length_cons, List.length_nil]; omega⟩
      · exact ⟨sm, ys, ps, hy, hys, bd, by omega⟩
    · rintro H' ⟨sm, ys, ps, hy, hys, bd, hl⟩
      walk_at "z"
      have g2 : Gr a H H' := g1.trans (.of_same sm)
      refine r_rg2 (by omega) (forR_range (fun i σ' H' => (∃ b x4, σ' = [some (.ref a), some (.int n), some (.int (m : Int)), some (.ref b), x4, none, none] ∧ (b ≠ a ∧ b ≠ s0) ∧ ∃ ys ps, H' b = some (.lst ys) ∧ Prs H' ys ps ∧ Bd ps ∧ ps.length ≤ 60 + 60 * i) ∧ Pool H' a s0 ∧ Gr a H H') ⟨⟨d, _, rfl, new_ne hP1 hd, ys, ps, hy, hys, bd, by omega⟩, hP1.mono sm, g2⟩ ?_ ?_)
      · rintro i σ' H' hi ⟨⟨b, x4, rfl, ba, ys, ps, hy, hys, bd, hl⟩, hP', g⟩
        have hi : m + i < n.toNat := by omega
        walk_at "z"
        refine r_rg1 (by omega) fun c hc => lcR_range (fun j H3 => Pool H3 a s0 ∧ Gr a H' H3 ∧ ∃ zs rs, H3 c = some (.lst zs) ∧ Prs H3 zs rs ∧ Bd rs ∧ rs.length ≤ j) (by walk_at "zw") ⟨hP'.mono (same_new hc), .new hc, [], [], upd_same, .nil, (fun p hp => by cases hp), Nat.le_refl _⟩ ?_ ?_
        · rintro j H3 hj ⟨hP3, g3, zs, rs, hz, hzs, bdr, hlr⟩
          have hj : j < m + i := by omega
          walk_at "z"
          refine ⟨rfl, ?_⟩
          walk_at "z"
          refine ⟨a, s0, 3, rfl, hP3, by omega, by omega, fun r2 H4 _ _ hP4 g4 => ?_⟩
          have ca := new_ne hP' hc
          have hz4 := g4 _ _ ca.1 hz
          walk_at "z"
          refine r_ite (fun h => ?_) (fun h => ?_)
          · walk_at "z"
            refine r_tupN sz2 fun t ht => ?_
            refine r_lce (by walk_at "zh") (small_lt (by rw [hzs.length]; omega)) ⟨(hP4.mono (same_new ht)).upd ca, ((g3.trans g4).trans (.new ht)).mut hc, _, _, upd_same, prs_push hz4 (hzs.tk (g4.tk hP3)) ht, bd1 bdr (by omega) (by omega) (by omega) (by omega) (by omega), by rw [List.length_append]; simp only [List.length_cons, List.length_nil]; omega⟩
          · exact ⟨hP4, g3.trans g4, zs, rs, hz4, hzs.tk (g4.tk hP3), bdr, by omega⟩
        · rintro H3 ⟨hP3, g3, zs, rs, hz, hzs, bdr, hlr⟩
          have hy3 := g3 _ _ ba.1 hy
          refine r_cat hy3 hz (by rw [hys.length, hzs.length]; omega) fun e he => ?_
          walk_at "z"
          refine ⟨⟨e, _, rfl, new_ne hP3 he, _, ps ++ rs, upd_same, Prs.tk (.new he) (pd_append (hys.tk (g3.tk hP')) hzs), fun p hp => ?_, ?_⟩, hP3.mono (same_new he), (g.trans g3).trans (.new he)⟩
          · rcases List.mem_append.mp hp with z | z
            · exact bd p z
            · exact bdr p z
          · rw [List.length_append]
            omega
      · rintro σ' H' ⟨⟨b, x4, rfl, ba, ys, ps, hy, hys, bd, hl⟩, hP', g⟩
        walk_at "z"
        refine ⟨n, b, ys, ps, rfl, .inl (.inl hy), hys, by omega, fun v qs H2 s2 hv asc mem => ?_⟩
        exact q v qs H2 (hP'.mono s2) (g.trans (.of_same s2)) hv (good_of n0 bd asc mem)
theorem lt_of_le_nodup {ps : List (Int × Int)} (h1 : ps.Pairwise leP) (h2 : ps.Nodup) : ps.Pairwise ltP := (List.pairwise_and_iff.mpr ⟨h1, h2⟩).imp fun {p q} h => ltP_of_le_ne h.1 h.2
/-- a graph of cliques -/
def spClique : Sp := fun vs H Q _ => ∃ (a s : Addr) (n : Int), vs = [.ref a, .int n] ∧ Pool H a s ∧ 1 ≤ n ∧ n ≤ 60 ∧ GenQ a s H n Q
/-- lists of different vertices below i -/
def Clq (H : Hp) (C a s : Addr) (as : List Addr) (i : Nat) : Prop := ∀ x ∈ as, x ≠ C ∧ x ≠ a ∧ x ≠ s ∧ ∃ ns : List Int, H x = some (.lst (ns.map V.int)) ∧ ns.Nodup ∧ (∀ z ∈ ns, 0 ≤ z ∧ z < i) ∧ ns.length ≤ i
theorem ok_clique (T : Blt mg) (D : DefAt K mg "_law_clique_graph" s_law_clique_graph ["pool", "n"]) (D_law_draw : DefAt K mg "_law_draw" s_law_draw ["pool", "many"]) (G_law_draw : FnOk P w K mg base CX0 2 D_law_draw.f D_law_draw.fd ["pool", "many"] spDraw) :
    FnOk P w K mg base CX0 4 D.f D.fd ["pool", "n"] spClique := by
  refine D.F.ok sc_law_clique_graph (fun vs H Q E h => ?_) (fun cdv A outer s H vs Q E hr h => ?_)
  · obtain ⟨a, s, n, rfl, _⟩ := h
    rfl
  · obtain ⟨a, s0, n, rfl, hP, n0, n1, q⟩ := h
    refine ⟨_, (pss_cons (ps_set (i := 2) sc_law_clique_graph.nd rfl (Or.inl rfl) (pe_lst (pa_cons (pe_lst pa_nil) pa_nil)))
      (pss_cons (ps_set (i := 3) sc_law_clique_graph.nd rfl (Or.inl rfl) (pe_lst pa_nil))
      (pss_cons (ps_for PassesOwn.never (by rfl) (pi_range1 (by rfl) T.range (pa_cons (pv 1) pa_nil)) (pg_name (i := 4) sc_law_clique_graph.nd rfl (Or.inr rfl))
        (pss_cons (ps_set (i := 5) sc_law_clique_graph.nd rfl (Or.inl rfl) (pe_ix (ix_listK (K := K) rfl) (pv 2) (pe_call G_law_draw (hr.mono (by first | decide | omega)) (by rfl) D_law_draw.g D_law_draw.F.kp D_law_draw.b .nil pass0 (pa_cons (pv 0) (pa_cons (pe_callB (call_lenK (K := K) rfl) (by rfl) T.len (by decide +kernel) (pa_cons (pv 2) pa_nil)) pa_nil))) (fun _ _ => rfl)))
        (pss_cons (ps_setLc (i := 6) (own := [("u", 7)]) (by rfl) sc_law_clique_graph.nd rfl rfl (sw_true rfl rfl rfl (by decide +kernel)) (PI.listK (K := K) rfl (pi_list (pv 5))) (blkOk_by (own := [("u", 7)]) (N := ["pool", "n", "cliques", "pairs", "v", "base", "kept", "u"]) (sc := (defScope s_law_clique_graph)) (by decide +kernel)) (fun _ _ _ _ _ => (pg_name (i := 7) sc_law_clique_graph.nd rfl (Or.inl rfl))) (fun _ _ _ _ _ => (pts_one (pt_cmpR op_gt (pe_call G_law_draw (hr.mono (by first | decide | omega)) (by rfl) D_law_draw.g D_law_draw.F.kp D_law_draw.b .nil pass0 (pa_cons (pv 0) (pa_cons pe_int pa_nil))) pe_int (nomark _)))) (fun _ _ _ _ _ => (pv 7)))
        (pss_cons (ps_set (i := 3) sc_law_clique_graph.nd rfl (Or.inl rfl) (pe_op op_cat (pv 3) (pe_lc (own := [("u", 7)]) (by rfl) sc_law_clique_graph.nd (PI.listK (K := K) rfl (pi_list (pv 6))) (blkOk_by (own := [("u", 7)]) (N := ["pool", "n", "cliques", "pairs", "v", "base", "kept", "u"]) (sc := (defScope s_law_clique_graph)) (by decide +kernel)) (fun _ _ _ _ _ => (pg_name (i := 7) sc_law_clique_graph.nd rfl (Or.inl rfl))) (fun _ _ _ _ _ => pts_nil) (fun _ _ _ _ _ => (pe_tup (pa_cons (pv 7) (pa_cons (pv 4) pa_nil)))))))
        (pss_one (ps_expr (PE.bmK (K := K) rfl (pe_bm PySem.F.plainAttrs_list PySem.F.slot_list_append PySem.F.type_list_append mt_append (pv 2) (pa_cons (pe_op op_cat (pv 6) (pe_lst (pa_cons (pv 4) pa_nil))) pa_nil)))))))))
      (pss_one (ps_ret (pe_tup (pa_cons (pv 1) (pa_cons (pe_callTy (call_tupleK (K := K) rfl) (by rfl) T.tuple (by decide +kernel) (pa_cons (pe_callB (cr_sortPrK (K := K) rfl) (by rfl) T.sorted (by decide +kernel) (pa_cons (pv 3) pa_nil)) pa_nil)) pa_nil)))))))), ?_⟩
    refine r_at (σ := [some _, some _, none, none, none, none, none, none]) rfl ?_
    walk_at "z"
    refine r_lstN (by decide) fun c0 hc0 => ?_
    walk_at "z"
    refine r_lstN sz1 fun C hC => ?_
    have hC0 : H C = none := (same_new hc0).free hC
    walk_at "z"
    refine r_lstN (by decide) fun q0 hq0 => ?_
    walk_at "z"
    have nC := new_ne hP hC0
    have n0C : c0 ≠ C := ne_of_none upd_same hC
    have nqC : C ≠ q0 := ne_of_none upd_same hq0
    have n0q : c0 ≠ q0 := ne_of_none ((upd_ne n0C).trans upd_same) hq0
    refine r_rg1 (by omega) (forR_range (fun i σ' H' => (∃ b x4 x5 x6, σ' = [some (.ref a), some (.int n), some (.ref C), some (.ref b), x4, x5, x6, none] ∧ (b ≠ a ∧ b ≠ s0 ∧ b ≠ C) ∧ ∃ ys ps, H' b = some (.lst ys) ∧ Prs H' ys ps ∧ ps.Nodup ∧ (∀ p ∈ ps, 0 ≤ p.1 ∧ p.1 < p.2 ∧ p.2 < i) ∧ ps.length ≤ 60 * i) ∧ Pool H' a s0 ∧ Gr a H H' ∧
        ∃ as : List Addr, H' C = some (.lst (as.map V.ref)) ∧ as.length = i + 1 ∧ Clq H' C a s0 as i) ⟨⟨q0, _, _, _, rfl, ?_, [], [], upd_same, .nil, .nil, (fun p hp => by cases hp), Nat.zero_le _⟩, ?_, ?_, [c0], ?_, rfl, ?_⟩ ?_ ?_)
    · have h1 : H q0 = none := ((same_new hc0).trans (same_new hC)).free hq0
      exact ⟨(new_ne hP h1).1, (new_ne hP h1).2, Ne.symm nqC⟩
    · exact ((hP.mono (same_new hc0)).mono (same_new hC)).mono (same_new hq0)
    · exact ((Gr.new hc0).trans (.new hC)).trans (.new hq0)
    · exact (upd_ne nqC).trans upd_same
    · intro x hx
      rw [List.mem_singleton.mp hx]
      exact ⟨n0C, (new_ne hP hc0).1, (new_ne hP hc0).2, [], (upd_ne n0q).trans ((upd_ne n0C).trans upd_same), .nil, (fun z hz => by cases hz), Nat.zero_le _⟩
    · rintro i σ' H' hi ⟨⟨b, x4, x5, x6, rfl, ⟨ba, bs, bC⟩, ys, ps, hy, hys, nd, bd, hl⟩, hP', g, as, hcs, hlen, hclq⟩
      have hi : i < n.toNat := by omega
      walk_at "z"
      rw [List.length_map, hlen]
      refine ⟨a, s0, _, rfl, hP', by omega, by omega, fun r H1 r0 r1 hP1 g1 => ?_⟩
      have hcs1 := g1 _ _ nC.1 hcs
      have hrt : r.toNat < as.length := by omega
      obtain ⟨x, hx⟩ : ∃ x, as[r.toNat]? = some x := ⟨_, List.getElem?_eq_getElem hrt⟩
      obtain ⟨xC, xa, xs, ns, hns, nns, bns, lns⟩ := hclq x (List.mem_of_getElem? hx)
      refine r_ixL (.inl (.inl hcs1)) (v := V.ref x) (at_of (j := r.toNat) (by omega) (by rw [List.getElem?_map, hx]; rfl)) ?_
      walk_at "z"
      have hx1 := g1 _ _ xa hns
      -- kept
      refine r_il (.inl (.inl hx1)) fun d hd => lcR_list (xs := ns.map V.int) (fun j H2 => Pool H2 a s0 ∧ Gr a H1 H2 ∧ ∃ ms : List Int, H2 d = some (.lst (ms.map V.int)) ∧ ms.Sublist (ns.take j)) (by walk_at "zw") ⟨hP1.mono (same_new hd), .new hd, [], upd_same, List.nil_sublist _⟩ (fun j H2 _ ⟨_, g2, _⟩ => .inl (.inl (g2 _ _ xa hx1))) ?_ ?_
      · rintro j y H2 hy2 ⟨hP2, g2, ms, hms, sub⟩
        rw [List.getElem?_map] at hy2
        obtain ⟨z, hz, rfl⟩ := Option.map_eq_some_iff.mp hy2
        walk_at "z"
        refine ⟨rfl, ?_⟩
        walk_at "z"
        refine ⟨a, s0, 4, rfl, hP2, by omega, by omega, fun r2 H3 _ _ hP3 g3 => ?_⟩
        have hms3 := g3 _ _ (new_ne hP1 hd).1 hms
        have sl : ms.length ≤ 60 := by
          have h1 := sub.length_le
          rw [List.length_take] at h1
          omega
        walk_at "z"
        refine r_ite (fun h => ?_) (fun h => ?_)
        · walk_at "z"
          refine r_lce hms3 (small_lt (by rw [List.length_map]; omega)) ⟨hP3.upd (new_ne hP1 hd), (g2.trans g3).mut hd, ms ++ [z], by rw [List.map_append]; exact upd_same, ?_⟩
          rw [take_next hz]
          exact sub.append (List.Sublist.refl _)
        · refine ⟨hP3, g2.trans g3, ms, hms3, ?_⟩
          rw [take_next hz]
          exact sub.trans (List.sublist_append_left _ _)
      · rintro H2 ⟨hP2, g2, ms, hms, sub⟩
        rw [List.length_map, List.take_length] at sub
        have nms : ms.Nodup := nns.sublist sub
        have bms : ∀ z ∈ ms, 0 ≤ z ∧ z < i := fun z hz => bns z (sub.subset hz)
        have lms : ms.length ≤ i := Nat.le_trans sub.length_le lns
        have dne := new_ne hP1 hd
        have dC : d ≠ C := (ne_of_none hcs1 hd).symm
        have db : d ≠ b := (ne_of_none (g1 _ _ ba hy) hd).symm
        have hy2 := g2 _ _ ba (g1 _ _ ba hy)
        have kk : TK H' H2 := (g1.tk hP').trans (g2.tk hP1)
        have hys2 := Prs.tk kk hys
        walk_at "z"
        -- the pairs of kept and v
        refine r_il (.inl (.inl hms)) fun e he => lcR_list (xs := ms.map V.int) (fun j H3 => Same H2 H3 ∧ ∃ zs, H3 e = some (.lst zs) ∧ Prs H3 zs ((ms.take j).map fun u => (u, 0 + (i : Int)))) (by walk_at "zw") ⟨same_new he, [], upd_same, .nil⟩ (fun j H3 _ ⟨s3, _⟩ => .inl (.inl (s3 _ _ hms))) ?_ ?_
        · rintro j y H3 hy3 ⟨s3, zs, hz, hzs⟩
          rw [List.getElem?_map] at hy3
          obtain ⟨z, hzj, rfl⟩ := Option.map_eq_some_iff.mp hy3
          walk_at "z"
          refine ⟨rfl, ?_⟩
          walk_at "z"
          refine r_tupN sz2 fun t ht => ?_
          refine r_lce (by walk_at "zh") (small_lt ?_) ⟨same_mut (s3.trans (same_new ht)) he, _, upd_same, ?_⟩
          · rw [hzs.length, List.length_map, List.length_take]
            omega
          · rw [take_next hzj, List.map_append]
            exact prs_push hz hzs ht
        · rintro H3 ⟨s3, zs, hz, hzs⟩
          rw [List.length_map, List.take_length] at hzs
          have hy3 := s3 _ _ hy2
          refine r_cat hy3 hz (by rw [hys.length, hzs.length, List.length_map]; omega) fun b2 hb2 => ?_
          have s4 : Same H2 (upd H3 b2 (.lst (ys ++ zs))) := s3.trans (same_new hb2)
          have hC2 := g2 _ _ nC.1 hcs1
          have b2C : b2 ≠ C := (ne_of_none (s3 _ _ hC2) hb2).symm
          have hms4 := s4 _ _ hms
          have hC4 := s4 _ _ hC2
          walk_at "z"
          refine r_lstN sz1 fun v1 hv1 => ?_
          have s5 := s4.trans (same_new (o := .lst [V.int (0 + (i : Int))]) hv1)
          refine r_cat (s5 _ _ hms) upd_same (by rw [List.length_map]; simp only [List.length_cons, List.length_nil]; omega) fun k2 hk2 => ?_
          have s6 := s5.trans (same_new (o := .lst (ms.map V.int ++ [V.int (0 + (i : Int))])) hk2)
          walk_at "z"
          refine r_appT (s6 _ _ hC2) (small_lt (by rw [List.length_map]; omega)) ?_
          have hP6 := hP2.mono s6
          have k2C : k2 ≠ C := (ne_of_none (s5 _ _ hC2) hk2).symm
          have k2ne := new_ne (hP2.mono s5) hk2
          have b2ne := new_ne (hP2.mono s3) hb2
          have eC : e ≠ C := (ne_of_none hC2 he).symm
          -- what stood at H2, stands, but for C
          let HE := upd (upd (upd (upd H3 b2 (.lst (ys ++ zs))) v1 (.lst [V.int (0 + (i : Int))])) k2 (.lst (ms.map V.int ++ [V.int (0 + (i : Int))]))) C (.lst (as.map V.ref ++ [.ref k2]))
          have old : ∀ (x : Addr) (o : HO), x ≠ C → H2 x = some o → HE x = some o := fun x o n e => (upd_ne n).trans (s6 _ _ e)
          have old3 : ∀ (x : Addr) (o : HO), x ≠ C → H3 x = some o → HE x = some o := fun x o n e => (upd_ne n).trans ((same_new hk2) _ _ ((same_new hv1) _ _ ((same_new hb2) _ _ e)))
          have k3 : TK H3 HE := fun x o e => old3 x _ (fun z => by rw [z, s3 _ _ hC2] at e; cases e) e
          have b2v : b2 ≠ v1 := ne_of_none upd_same hv1
          have b2k : b2 ≠ k2 := ne_of_none ((upd_ne b2v).trans upd_same) hk2
          refine ⟨⟨b2, _, _, _, rfl, ⟨b2ne.1, b2ne.2, b2C⟩, ys ++ zs, ps ++ ms.map (fun u => (u, 0 + (i : Int))), ?_, ?_, ?_, ?_, ?_⟩, hP6.upd nC, (((g.trans g1).trans g2).trans (.of_same s6)).mut hC0, as ++ [k2], ?_, ?_, ?_⟩
          · exact (upd_ne b2C).trans ((upd_ne b2k).trans ((upd_ne b2v).trans upd_same))
          · exact Prs.tk k3 (pd_append (Prs.tk (.of_same s3) hys2) hzs)
          · refine List.nodup_append.mpr ⟨nd, ?_, fun p hp r hr => ?_⟩
            · exact List.pairwise_map.mpr (nms.imp fun {x y} hne e => hne (by injection e))
            · obtain ⟨u, hu, rfl⟩ := List.mem_map.mp hr
              intro e
              have := (bd p hp).2.2
              rw [e] at this
              simp only at this
              omega
          · intro p hp
            rcases List.mem_append.mp hp with z | z
            · have := bd p z
              omega
            · obtain ⟨u, hu, rfl⟩ := List.mem_map.mp z
              have := bms u hu
              simp only
              omega
          · rw [List.length_append, List.length_map]
            omega
          · rw [List.map_append]
            exact upd_same
          · rw [List.length_append, hlen]
            rfl
          · intro y hy4
            rcases List.mem_append.mp hy4 with z | z
            · obtain ⟨z1, z2, z3, ns', z4, z5, z6, z7⟩ := hclq y z
              exact ⟨z1, z2, z3, ns', old _ _ z1 (g2 _ _ z2 (g1 _ _ z2 z4)), z5, fun q9 h9 => by have := z6 q9 h9; omega, by omega⟩
            · rw [List.mem_singleton.mp z]
              refine ⟨k2C, k2ne.1, k2ne.2, ms ++ [0 + (i : Int)], ?_, ?_, ?_, ?_⟩
              · rw [List.map_append]
                exact (upd_ne k2C).trans upd_same
              · refine List.nodup_append.mpr ⟨nms, List.pairwise_singleton _ _, fun u hu r hr e => ?_⟩
                rw [List.mem_singleton.mp hr] at e
                have := bms u hu
                omega
              · intro u hu
                rcases List.mem_append.mp hu with z | z
                · have := bms u z
                  omega
                · rw [List.mem_singleton.mp z]
                  omega
              · rw [List.length_append]
                simp only [List.length_cons, List.length_nil]
                omega
    · rintro σ' H' ⟨⟨b, x4, x5, x6, rfl, ⟨ba, bs, bC⟩, ys, ps, hy, hys, nd, bd, hl⟩, hP', g, _⟩
      walk_at "z"
      refine ⟨b, ys, ps, rfl, .inl (.inl hy), hys, fun zs qs f pm hz pw hf => ?_⟩
      walk_at "z"
      refine r_tupL (.inl (.inl upd_same)) fun e he => ?_
      walk_at "z"
      refine r_tupN sz2 fun t ht => ?_
      have s4 := ((same_new (o := .lst zs) hf).trans (same_new (o := .tup zs) he)).trans (same_new (o := .tup [.int n, .ref e]) ht)
      refine q _ qs _ (hP'.mono s4) (g.trans (.of_same s4)) ⟨t, e, rfl, upd_same, zs, (upd_ne (ne_of_none upd_same ht)).trans upd_same, Prs.tk (.of_same s4) hz⟩ ⟨n0, lt_of_le_nodup pw (pm.nodup_iff.mpr nd), fun p hp => ?_⟩
      have := bd p (pm.mem_iff.mp hp)
      omega
end

set_option Elab.async false
set_option linter.all false
set_option maxRecDepth 100000
set_option maxHeartbeats 4000000
open PySem PySem.Spec PyProof.Rows L2

abbrev s_law_ordered_graph : Stmt := topS 40
theorem sc_law_ordered_graph : FnScope ["pool", "n", "u", "v", "above", "w", "pair"] ["pool", "n"] (defScope s_law_ordered_graph) := ⟨rfl, rfl, rfl, by decide +kernel, rfl, by decide +kernel, by decide +kernel⟩

theorem ixN_nat {n j : Nat} (h : j < n) : ixN n (j : Int) = some j := by
  unfold ixN
  rw [if_pos (by omega), if_pos (by omega)]
  rfl
/-- n rows of n truth values at b, unknown to H0 -/
def Mat (H0 H : Hp) (b : Addr) (n : Nat) : Prop := ∃ as : List Addr, H b = some (.lst (as.map V.ref)) ∧ as.length = n ∧ ∀ x ∈ as, x ≠ b ∧ H0 x = none ∧ ∃ bs : List Bool, H x = some (.lst (bs.map V.bl)) ∧ bs.length = n
/-- a place read -/
theorem Mat.at {H0 H : Hp} {b : Addr} {n i j : Nat} (M : Mat H0 H b n) (hi : i < n) (hj : j < n) : ∃ (rows : List V) (x : Addr) (row : List V) (c : Bool), H b = some (.lst rows) ∧ atI rows (i : Int) = some (.ref x) ∧ H x = some (.lst row) ∧ atI row (j : Int) = some (.bl c) := by
  obtain ⟨as, hb, hl, hx⟩ := M
  have hlt : i < as.length := by omega
  obtain ⟨_, _, bs, h1, h2⟩ := hx as[i] (List.getElem_mem hlt)
  refine ⟨_, as[i], _, bs[j]'(by omega), hb, atI_nat (by rw [List.getElem?_map, List.getElem?_eq_getElem hlt]; rfl), h1, atI_nat (by rw [List.getElem?_map, List.getElem?_eq_getElem (by omega)]; rfl)⟩
/-- a place written -/
theorem Mat.set {H0 H : Hp} {b x : Addr} {n i j : Nat} {rows row : List V} {c : Bool} (M : Mat H0 H b n) (hi : i < n) (hb : H b = some (.lst rows)) (hx : atI rows (i : Int) = some (.ref x)) (hr : H x = some (.lst row)) :
    row.length = n ∧ H0 x = none ∧ Mat H0 (upd H x (.lst (row.set j (.bl c)))) b n := by
  obtain ⟨as, hb2, hl, hall⟩ := M
  rw [hb2] at hb
  cases hb
  have hlt : i < as.length := by omega
  have e : as[i] = x := by
    rw [atI_nat (v := V.ref as[i]) (by rw [List.getElem?_map, List.getElem?_eq_getElem hlt]; rfl)] at hx
    injection (Option.some.inj hx)
  have hm : x ∈ as := by rw [← e]; exact List.getElem_mem hlt
  obtain ⟨n1, n2, bs, h1, h2⟩ := hall x hm
  rw [h1] at hr
  cases hr
  refine ⟨by rw [List.length_map]; exact h2, n2, as, (upd_ne (Ne.symm n1)).trans hb2, hl, fun y hy => ?_⟩
  obtain ⟨m1, m2, cs, k1, k2⟩ := hall y hy
  refine ⟨m1, m2, ?_⟩
  by_cases e2 : y = x
  · subst e2
    exact ⟨bs.set j c, by rw [List.map_set]; exact upd_same, by rw [List.length_set]; exact h2⟩
  · exact ⟨cs, (upd_ne e2).trans k1, k2⟩
section
variable {P : Program} {w : World} {K : PySem.W.Frag} {mg : Str → Option Value} {base : Heap}
def spOrdered : Sp := fun vs H Q _ => ∃ (a s : Addr) (n : Int), vs = [.ref a, .int n] ∧ Pool H a s ∧ 1 ≤ n ∧ n ≤ 60 ∧ GenQ a s H n Q
theorem ok_ordered (T : Blt mg) (D : DefAt K mg "_law_ordered_graph" s_law_ordered_graph ["pool", "n"]) (D_law_draw : DefAt K mg "_law_draw" s_law_draw ["pool", "many"]) (G_law_draw : FnOk P w K mg base CX0 2 D_law_draw.f D_law_draw.fd ["pool", "many"] spDraw)
    (D_law_pairs : DefAt K mg "_law_pairs" s_law_pairs ["n"]) (G_law_pairs : FnOk P w K mg base CX0 1 D_law_pairs.f D_law_pairs.fd ["n"] spPairs) :
    FnOk P w K mg base CX0 4 D.f D.fd ["pool", "n"] spOrdered := by
  refine D.F.ok sc_law_ordered_graph (fun vs H Q E h => ?_) (fun cdv A outer s H vs Q E hr h => ?_)
  · obtain ⟨a, s, n, rfl, _⟩ := h
    rfl
  · obtain ⟨a, s0, n, rfl, hP, n0, n1, q⟩ := h
    refine ⟨_, (pss_cons (ps_set (i := 4) sc_law_ordered_graph.nd rfl (Or.inr rfl) (pe_lc (own := [("u", 2)]) (by rfl) sc_law_ordered_graph.nd (pi_range1 (by rfl) T.range (pa_cons (pv 1) pa_nil)) (blkOk_by (own := [("u", 2)]) (N := ["pool", "n", "u", "v", "above", "w", "pair"]) (sc := (defScope s_law_ordered_graph)) (by decide +kernel)) (fun _ _ _ _ _ => (pg_name (i := 2) sc_law_ordered_graph.nd rfl (Or.inr rfl))) (fun _ _ _ _ _ => pts_nil) (fun _ _ _ _ _ => (pe_lc (own := [("v", 3)]) (by rfl) sc_law_ordered_graph.nd (pi_range1 (by rfl) T.range (pa_cons (pv 1) pa_nil)) (blkOk_by (own := [("v", 3)]) (N := ["pool", "n", "u", "v", "above", "w", "pair"]) (sc := ({ kind := .function, names := [(PySem.Str.ofString ".0", PySem.NameKind.local), (PySem.Str.ofString "u", PySem.NameKind.cell), (PySem.Str.ofString "range", PySem.NameKind.globalImplicit), (PySem.Str.ofString "n", PySem.NameKind.cell), (PySem.Str.ofString "pool", PySem.NameKind.cell)], isGenerator := false, isCoroutine := false, more := [] } : PySem.Scope)) (by decide +kernel)) (fun _ _ _ _ _ => (pg_name (i := 3) sc_law_ordered_graph.nd rfl (Or.inl rfl))) (fun _ _ _ _ _ => pts_nil) (fun _ _ _ _ _ => (pe_and (pe_cmpR op_lt (pv 2) (pv 3) (nomark _)) (pe_one (pe_cmpR op_eq (pe_call G_law_draw (hr.mono (by first | decide | omega)) (by rfl) D_law_draw.g D_law_draw.F.kp D_law_draw.b .nil pass0 (pa_cons (pv 0) (pa_cons pe_int pa_nil))) pe_int (nomark _)))))))))
      (pss_cons (ps_for PassesOwn.never (by rfl) (pi_range1 (by rfl) T.range (pa_cons (pv 1) pa_nil)) (pg_name (i := 5) sc_law_ordered_graph.nd rfl (Or.inl rfl))
        (pss_one (ps_for PassesOwn.never (by rfl) (pi_range1 (by rfl) T.range (pa_cons (pv 1) pa_nil)) (pg_name (i := 2) sc_law_ordered_graph.nd rfl (Or.inl rfl))
          (pss_one (ps_for PassesOwn.never (by rfl) (pi_range1 (by rfl) T.range (pa_cons (pv 1) pa_nil)) (pg_name (i := 3) sc_law_ordered_graph.nd rfl (Or.inl rfl))
            (pss_one (ps_asg (pe_or (pe_ix (ix_listK (K := K) rfl) (pe_ix (ix_listK (K := K) rfl) (pv 4) (pv 2) (fun _ _ => rfl)) (pv 3) (fun _ _ => rfl)) (pe_one (pe_and (pe_ix (ix_listK (K := K) rfl) (pe_ix (ix_listK (K := K) rfl) (pv 4) (pv 2) (fun _ _ => rfl)) (pv 5) (fun _ _ => rfl)) (pe_one (pe_ix (ix_listK (K := K) rfl) (pe_ix (ix_listK (K := K) rfl) (pv 4) (pv 5) (fun _ _ => rfl)) (pv 3) (fun _ _ => rfl)))))) (pg_sub (pe_ix (ix_listK (K := K) rfl) (pv 4) (pv 2) (fun _ _ => rfl)) (pv 3) set_list))))))))
      (pss_one (ps_ret (pe_tup (pa_cons (pv 1) (pa_cons (pe_callTy (call_tupleK (K := K) rfl) (by rfl) T.tuple (by decide +kernel) (pa_cons (pe_lc (own := [("pair", 6)]) (by rfl) sc_law_ordered_graph.nd (PI.listK (K := K) rfl (pi_list (pe_call G_law_pairs (hr.mono (by first | decide | omega)) (by rfl) D_law_pairs.g D_law_pairs.F.kp D_law_pairs.b .nil pass0 (pa_cons (pv 1) pa_nil)))) (blkOk_by (own := [("pair", 6)]) (N := ["pool", "n", "u", "v", "above", "w", "pair"]) (sc := (defScope s_law_ordered_graph)) (by decide +kernel)) (fun _ _ _ _ _ => (pg_name (i := 6) sc_law_ordered_graph.nd rfl (Or.inl rfl))) (fun _ _ _ _ _ => (pts_one (pt_val (pe_ix (ix_listK (K := K) rfl) (pe_ix (ix_listK (K := K) rfl) (pv 4) (pe_ix (ix_tupK (K := K) rfl) (pv 6) pe_int (fun _ _ => rfl)) (fun _ _ => rfl)) (pe_ix (ix_tupK (K := K) rfl) (pv 6) pe_int (fun _ _ => rfl)) (fun _ _ => rfl))))) (fun _ _ _ _ _ => (pv 6))) pa_nil)) pa_nil))))))), ?_⟩
    refine r_at (σ := [some _, some _, none, none, none, none, none]) rfl ?_
    walk_at "z"
    refine r_rg1 (by omega) fun d hd => lcR_range (fun i H' => Pool H' a s0 ∧ Gr a H H' ∧ ∃ as : List Addr, H' d = some (.lst (as.map V.ref)) ∧ as.length = i ∧ ∀ x ∈ as, x ≠ d ∧ H x = none ∧ ∃ bs : List Bool, H' x = some (.lst (bs.map V.bl)) ∧ bs.length = n.toNat)
      (by walk_at "zw") ⟨hP.mono (same_new hd), .new hd, [], upd_same, rfl, fun x hx => by cases hx⟩ ?_ ?_
    · rintro i H' hi ⟨hP', g, as, hds, hl, hall⟩
      have dne := new_ne hP hd
      walk_at "z"
      refine ⟨rfl, ?_⟩
      walk_at "z"
      -- the row
      refine r_rg1 (by omega) fun e he => lcR_range (fun j H2 => Pool H2 a s0 ∧ Gr a H' H2 ∧ ∃ bs : List Bool, H2 e = some (.lst (bs.map V.bl)) ∧ bs.length = j) (by walk_at "zw") ⟨hP'.mono (same_new he), .new he, [], upd_same, rfl⟩ ?_ ?_
      · rintro j H2 hj ⟨hP2, g2, bs, hbs, hlb⟩
        have ene := new_ne hP' he
        walk_at "z"
        refine ⟨rfl, ?_⟩
        walk_at "z"
        refine r_ite (fun h => ?_) (fun h => ?_)
        · walk_at "z"
          refine ⟨a, s0, 3, rfl, hP2, by omega, by omega, fun r H3 _ _ hP3 g3 => ?_⟩
          have hb3 := g3 _ _ ene.1 hbs
          walk_at "z"
          refine r_lce hb3 (small_lt (by rw [List.length_map]; omega)) ⟨hP3.upd ene, (g2.trans g3).mut he, bs ++ [_], by rw [List.map_append]; exact upd_same, by rw [List.length_append, hlb]; rfl⟩
        · walk_at "z"
          refine r_lce hbs (small_lt (by rw [List.length_map]; omega)) ⟨hP2.upd ene, g2.mut he, bs ++ [false], by rw [List.map_append]; exact upd_same, by rw [List.length_append, hlb]; rfl⟩
      · rintro H2 ⟨hP2, g2, bs, hbs, hlb⟩
        have ene := new_ne hP' he
        have hd2 := g2 _ _ dne.1 hds
        have ed : e ≠ d := (ne_of_none hds he).symm
        refine r_lce hd2 (small_lt (by rw [List.length_map]; omega)) ⟨hP2.upd dne, (g.trans g2).mut hd, as ++ [e], by rw [List.map_append]; exact upd_same, by rw [List.length_append, hl]; rfl, fun x hx => ?_⟩
        rcases List.mem_append.mp hx with z | z
        · obtain ⟨z1, z2, cs, z3, z4⟩ := hall x z
          exact ⟨z1, z2, cs, (upd_ne z1).trans (g2 _ _ (new_ne hP z2).1 z3), z4⟩
        · rw [List.mem_singleton.mp z]
          exact ⟨ed, g.free hP'.ne he, bs, (upd_ne ed).trans hbs, hlb⟩
    · rintro H1 ⟨hP1, g1, as, hds, hl, hall⟩
      have M1 : Mat H H1 d n.toNat := ⟨as, hds, hl, hall⟩
      walk_at "z"
      refine r_rg1 (by omega) (forR_range (fun k σ' H' => (∃ x2 x3 x5, σ' = [some (.ref a), some (.int n), x2, x3, some (.ref d), x5, none]) ∧ Pool H' a s0 ∧ Gr a H H' ∧ Mat H H' d n.toNat) ⟨⟨_, _, _, rfl⟩, hP1, g1, M1⟩ ?_ ?_)
      · rintro k σ' H' hk ⟨⟨x2, x3, x5, rfl⟩, hP', g, M⟩
        walk_at "z"
        refine r_rg1 (by omega) (forR_range (fun i σ' H' => (∃ x2 x3, σ' = [some (.ref a), some (.int n), x2, x3, some (.ref d), some (.int (0 + (k : Int))), none]) ∧ Pool H' a s0 ∧ Gr a H H' ∧ Mat H H' d n.toNat) ⟨⟨_, _, rfl⟩, hP', g, M⟩ ?_ ?_)
        · rintro i σ' H' hi ⟨⟨x2, x3, rfl⟩, hP', g, M⟩
          walk_at "z"
          refine r_rg1 (by omega) (forR_range (fun j σ' H' => (∃ x3, σ' = [some (.ref a), some (.int n), some (.int (0 + (i : Int))), x3, some (.ref d), some (.int (0 + (k : Int))), none]) ∧ Pool H' a s0 ∧ Gr a H H' ∧ Mat H H' d n.toNat) ⟨⟨_, rfl⟩, hP', g, M⟩ ?_ ?_)
          · rintro j σ' H' hj ⟨⟨x3, rfl⟩, hP', g, M⟩
            have e0 : ∀ z : Nat, (0 : Int) + (z : Int) = z := fun z => by omega
            obtain ⟨rows, x, row, c1, hb, hx, hr1, hc1⟩ := M.at hi hj
            obtain ⟨rows2, y, row2, c2, hb2, hx2, hr2, hc2⟩ := M.at hi hk
            obtain ⟨rows3, w3, row3, c3, hb3, hx3, hr3, hc3⟩ := M.at hk hj
            simp only [e0]
            rw [hb] at hb2 hb3
            cases hb2
            cases hb3
            rw [hx] at hx2
            cases hx2
            rw [hr1] at hr2
            cases hr2
            have fin : ∀ c : Bool, (∃ x3, [some (V.ref a), some (V.int n), some (V.int (i : Int)), some (V.int (j : Int)), some (V.ref d), some (V.int (k : Int)), none] = [some (V.ref a), some (V.int n), some (V.int (i : Int)), x3, some (V.ref d), some (V.int (k : Int)), none]) ∧ Pool (upd H' x (.lst (row.set j (.bl c)))) a s0 ∧ Gr a H (upd H' x (.lst (row.set j (.bl c)))) ∧ Mat H (upd H' x (.lst (row.set j (.bl c)))) d n.toNat := fun c => by
              obtain ⟨_, hn, M'⟩ := M.set (c := c) hi hb hx hr1 (j := j)
              exact ⟨⟨_, rfl⟩, hP'.upd (new_ne hP hn), g.mut hn, M'⟩
            have lr : j < row.length := by
              obtain ⟨h1, _, _⟩ := M.set (c := true) hi hb hx hr1 (j := j)
              omega
            walk_at "z"
            refine r_iteB (fun h => ?_) (fun h => ?_)
            · walk_at "z"
              refine r_setL hr1 (ixN_nat lr) ?_
              exact fin true
            · walk_at "z"
              refine r_iteB (fun h => ?_) (fun h => ?_)
              · walk_at "z"
                refine r_setL hr1 (ixN_nat lr) ?_
                exact fin c3
              · walk_at "z"
                refine r_setL hr1 (ixN_nat lr) ?_
                exact fin false
          · rintro σ' H' ⟨⟨x3, rfl⟩, hP', g, M⟩
            exact ⟨⟨_, _, rfl⟩, hP', g, M⟩
        · rintro σ' H' ⟨⟨x2, x3, rfl⟩, hP', g, M⟩
          exact ⟨⟨_, _, _, rfl⟩, hP', g, M⟩
      · rintro σ' H2 ⟨⟨x2, x3, x5, rfl⟩, hP2, g2, M⟩
        walk_at "z"
        obtain ⟨n', rfl⟩ : ∃ n' : Nat, n = (n' : Int) := ⟨n.toNat, by omega⟩
        refine ⟨n', rfl, by omega, fun f xs H4 hf s4 hx hp => ?_⟩
        have hP4 := hP2.mono s4
        have g5 : Gr a H H4 := g2.trans (.of_same s4)
        have M4 : Mat H H4 d n' := by
          obtain ⟨as, h1, h2, h3⟩ := M
          exact ⟨as, s4 _ _ h1, h2, fun y hy => by
            obtain ⟨z1, z2, cs, z3, z4⟩ := h3 y hy
            exact ⟨z1, z2, cs, s4 _ _ z3, z4⟩⟩
        refine r_il (.inl (.inl hx)) fun e he => lcR_list (xs := xs) (fun i H' => Same H4 H' ∧ ∃ ys c, H' e = some (.lst ys) ∧ Prs H' ys (((allP n').take i).filter c)) (by walk_at "zw") ⟨same_new he, [], fun _ => true, upd_same, .nil⟩ (fun i H' _ ⟨s5, _⟩ => .inl (.inl (s5 _ _ hx))) ?_ ?_
        · rintro i x H' hxi ⟨s5, ys, c, hy, hys⟩
          obtain ⟨p, hpi, hxp⟩ := pd_get (Prs.tk (.of_same s5) hp) hxi
          obtain ⟨b1, b2, b3⟩ := mem_allP.mp (List.mem_of_getElem? hpi)
          obtain ⟨t, rfl, ht⟩ := id hxp
          obtain ⟨i1, hi1⟩ : ∃ i1 : Nat, p.1 = (i1 : Int) := ⟨p.1.toNat, by omega⟩
          obtain ⟨j1, hj1⟩ : ∃ j1 : Nat, p.2 = (j1 : Int) := ⟨p.2.toNat, by omega⟩
          obtain ⟨rows, y, row, c1, hb, hx1, hr1, hc1⟩ := M4.at (i := i1) (j := j1) (by omega) (by omega)
          walk_at "z"
          refine ⟨rfl, ?_⟩
          walk_at "z"
          rw [hi1]
          refine r_ixL (.inl (.inl (s5 _ _ hb))) hx1 ?_
          walk_at "z"
          rw [hj1]
          refine r_ixL (.inl (.inl (s5 _ _ hr1))) hc1 ?_
          walk_at "z"
          obtain ⟨c', ec⟩ := flt_next hpi c c1
          refine r_iteB (fun h => ?_) (fun h => ?_)
          · walk_at "z"
            refine r_lce hy (small_lt (by rw [hys.length]; exact flt_small (by omega) c)) ⟨same_mut s5 he, _, c', upd_same, ?_⟩
            rw [ec, if_pos h]
            exact (Prs.tk (.lst hy) hys).snoc (hxp.tk (.lst hy))
          · refine ⟨s5, ys, c', hy, ?_⟩
            rw [ec, if_neg (by rw [h]; exact Bool.false_ne_true), List.append_nil]
            exact hys
        · rintro H' ⟨s5, ys, c, hy, hys⟩
          rw [hp.length, List.take_length] at hys
          walk_at "z"
          refine r_tupL (.inl (.inl hy)) fun e2 he2 => ?_
          walk_at "z"
          refine r_tupN sz2 fun t ht => ?_
          have s6 : Same H' (upd H' e2 (.tup ys)) := same_new he2
          have s7 := s6.trans (same_new (o := .tup [.int (n' : Int), .ref e2]) ht)
          exact q _ _ _ (((hP4.mono s5)).mono s7) ((g5.trans (.of_same s5)).trans (.of_same s7)) ⟨t, e2, rfl, upd_same, ys, (upd_ne (ne_of_none upd_same ht)).trans upd_same, Prs.tk (.of_same s7) hys⟩ (good_filter (by omega) c)
end

set_option Elab.async false
set_option linter.all false
set_option maxRecDepth 100000
set_option maxHeartbeats 4000000
open PySem PySem.Spec PyProof.Rows L2

abbrev s_law_drawn_tree : Stmt := topS 42
theorem sc_law_drawn_tree : FnScope ["pool", "leaves", "trees", "k", "many", "parts", "j"] ["pool", "leaves"] (defScope s_law_drawn_tree) := ⟨rfl, rfl, rfl, by decide +kernel, rfl, by decide +kernel, by decide +kernel⟩

abbrev s_law_leaves : Stmt := topS 43
theorem sc_law_leaves : FnScope ["tree", "found", "part"] ["tree"] (defScope s_law_leaves) := ⟨rfl, rfl, rfl, by decide +kernel, rfl, by decide +kernel, by decide +kernel⟩

abbrev s_law_tree_pairs : Stmt := topS 44
theorem sc_law_tree_pairs : FnScope ["tree", "found", "before", "part", "leaves", "u", "v"] ["tree"] (defScope s_law_tree_pairs) := ⟨rfl, rfl, rfl, by decide +kernel, rfl, by decide +kernel, by decide +kernel⟩

/-! ## trees -/
inductive Tr where
  | leaf (z : Int)
  | node (w : Bool) (ts : List Tr)
def wd (w : Bool) : PySem.Str := if w then "join" else "union"
mutual
def lv : Tr → List Int
  | .leaf z => [z]
  | .node _ ts => lvs ts
def lvs : List Tr → List Int
  | [] => []
  | t :: ts => lv t ++ lvs ts
end
mutual
def dp : Tr → Nat
  | .leaf _ => 0
  | .node _ ts => dps ts + 1
def dps : List Tr → Nat
  | [] => 0
  | t :: ts => max (dp t) (dps ts)
end
mutual
/-- every node has two trees or more -/
def wf : Tr → Prop
  | .leaf _ => True
  | .node _ ts => 2 ≤ ts.length ∧ wfs ts
def wfs : List Tr → Prop
  | [] => True
  | t :: ts => wf t ∧ wfs ts
end
mutual
inductive TreeAt (H : Hp) : V → Tr → Prop
  | leaf (z : Int) : TreeAt H (.int z) (.leaf z)
  | node {a : Addr} {xs : List V} {ts : List Tr} (w : Bool) (h : H a = some (.tup (.str (wd w) :: xs))) (t : TreesAt H xs ts) : TreeAt H (.ref a) (.node w ts)
inductive TreesAt (H : Hp) : List V → List Tr → Prop
  | nil : TreesAt H [] []
  | cons {x : V} {xs : List V} {t : Tr} {ts : List Tr} (h : TreeAt H x t) (r : TreesAt H xs ts) : TreesAt H (x :: xs) (t :: ts)
end
mutual
theorem TreeAt.tk {H H' : Hp} (k : TK H H') : ∀ (t : Tr) {v : V}, TreeAt H v t → TreeAt H' v t
  | .leaf _, _, .leaf z => .leaf z
  | .node _ ts, _, .node w h t => .node w (k _ _ h) (TreesAt.tk k ts t)
theorem TreesAt.tk {H H' : Hp} (k : TK H H') : ∀ (ts : List Tr) {vs : List V}, TreesAt H vs ts → TreesAt H' vs ts
  | [], _, .nil => .nil
  | t :: ts, _, .cons h r => .cons (TreeAt.tk k t h) (TreesAt.tk k ts r)
end
theorem TreesAt.pd {H : Hp} : ∀ (ts : List Tr) {vs : List V}, TreesAt H vs ts → Paired (TreeAt H) vs ts
  | [], _, .nil => .nil
  | _ :: ts, _, .cons h r => .cons h (TreesAt.pd ts r)
theorem TreesAt.of {H : Hp} : ∀ {ts : List Tr} {vs : List V}, Paired (TreeAt H) vs ts → TreesAt H vs ts
  | _, _, .nil => .nil
  | _, _, .cons h r => .cons h (TreesAt.of r)
theorem lvs_append : ∀ (ts us : List Tr), lvs (ts ++ us) = lvs ts ++ lvs us
  | [], us => by simp [lvs]
  | t :: ts, us => by simp only [List.cons_append, lvs, lvs_append ts us, List.append_assoc]
theorem wfs_mem : ∀ {ts : List Tr}, wfs ts ↔ ∀ t ∈ ts, wf t
  | [] => by simp [wfs]
  | t :: ts => by simp [wfs, wfs_mem (ts := ts)]
theorem lvs_perm {ts us : List Tr} (h : ts.Perm us) : (lvs ts).Perm (lvs us) := by
  induction h with
  | nil => exact .refl _
  | cons x _ ih => simp only [lvs]; exact ih.append_left _
  | swap x y l =>
    simp only [lvs, ← List.append_assoc]
    exact List.perm_append_comm.append_right _
  | trans _ _ h1 h2 => exact h1.trans h2
mutual
/-- depth and leaves -/
theorem dp_lv : ∀ (t : Tr), wf t → dp t + 1 ≤ (lv t).length
  | .leaf _, _ => by simp [dp, lv]
  | .node _ ts, h => by
    simp only [wf] at h
    have := dps_lvs ts h.2
    simp only [dp, lv]
    omega
theorem dps_lvs : ∀ (ts : List Tr), wfs ts → dps ts + ts.length ≤ (lvs ts).length
  | [], _ => by simp [dps, lvs]
  | t :: ts, h => by
    simp only [wfs] at h
    have h1 := dp_lv t h.1
    have h2 := dps_lvs ts h.2
    simp only [dps, lvs, List.length_append, List.length_cons]
    omega
end
theorem dps_mem : ∀ {ts : List Tr} {t : Tr}, t ∈ ts → dp t ≤ dps ts
  | [], _, h => by cases h
  | u :: ts, t, h => by
    simp only [dps]
    rcases List.mem_cons.mp h with e | e
    · rw [e]
      omega
    · have := dps_mem e
      omega
theorem wd_len (w : Bool) : True := trivial
section
variable {P : Program} {w : World} {K : PySem.W.Frag} {mg : Str → Option Value} {base : Heap}
theorem r_isiInt {H : Hp} {Q : VK} {i : Int} (q : Q (.bl false) H) : rIsi K [.int i, .ty "tuple"] H Q := ⟨.int i, .ty "tuple", .type "int", .type "tuple", false, rfl, .ty _, .base (.int i), kit_ty (by decide +kernel), q⟩
theorem r_isiTup {H : Hp} {Q : VK} {a : Addr} {xs : List V} (h : H a = some (.tup xs)) (q : Q (.bl true) H) : rIsi K [.ref a, .ty "tuple"] H Q := ⟨.ref a, .ty "tuple", .type "tuple", .type "tuple", true, rfl, .ty _, .base (.tup h), kit_ty (by decide +kernel), q⟩
theorem cut_tail (x : V) (xs : List V) : cutV (x :: xs) (some 1) none = xs := by
  unfold cutV
  have e : HT.sIx (x :: xs).length 0 (some 1) = 1 := by
    rw [show (1 : Int) = ((1 : Nat) : Int) from rfl, HT.sIx_nat]
    simp only [List.length_cons]
    omega
  rw [e, HT.sIx_none]
  simp only [List.drop_succ_cons, List.drop_zero, List.length_cons, Nat.add_sub_cancel]
  exact List.take_length
/-- t[1:] -/
theorem r_tail {H : Hp} {Q : VK} {a : Addr} {x : V} {xs : List V} (h : H a = some (.tup (x :: xs))) (q : ∀ p, H p = none → Q (.ref p) (upd H p (.tup xs))) : rSlT K (.ref a) (some 1) none H Q := by
  refine ⟨a, x :: xs, rfl, .inl (.inl h), fun z => ?_, fun p hp => by rw [cut_tail]; exact q p hp⟩
  have e : HT.sIx (x :: xs).length 0 (some 1) = 1 := by
    rw [show (1 : Int) = ((1 : Nat) : Int) from rfl, HT.sIx_nat]
    simp only [List.length_cons]
    omega
  rw [e] at z
  exact absurd z.1 (by decide)
/-- the leaves from the left -/
def spLeaves (d : Nat) : Sp := fun vs H Q _ => ∃ (v : V) (t : Tr), vs = [v] ∧ TreeAt H v t ∧ dp t < d ∧ (lv t).length ≤ 100 ∧ ∀ (l : Addr) (H' : Hp), Same H H' → H' l = some (.lst ((lv t).map V.int)) → Q (.ref l) H'
theorem lv_pos : ∀ t : Tr, True := fun _ => trivial
theorem ok_leaves (T : Blt mg) (D_law_leaves : DefAt K mg "_law_leaves" s_law_leaves ["tree"]) : ∀ d : Nat, FnOk P w K mg base CX0 d D_law_leaves.f D_law_leaves.fd ["tree"] (spLeaves d)
  | 0 => fn_none.imp fun vs H Q E h => by
    obtain ⟨_, _, _, _, h, _⟩ := h
    omega
  | d + 1 => by
    have G_law_leaves := ok_leaves T D_law_leaves d
    refine D_law_leaves.F.ok sc_law_leaves (fun vs H Q E h => ?_) (fun cdv A outer s H vs Q E hr h => ?_)
    · obtain ⟨v, t, rfl, _⟩ := h
      rfl
    · obtain ⟨v, t, rfl, ht, hd, hl, q⟩ := h
      refine ⟨_, (pss_cons (ps_if (pt_not (pt_val (pe_callB (call_isiK (K := K) rfl) (by rfl) T.isinstance (by decide +kernel) (pa_cons (pv 0) (pa_cons (pe_bltn (v := .ty "tuple") (u := .type "tuple") (by rfl) T.tuple (by decide +kernel) rfl) pa_nil)))))
        (pss_one (ps_ret (pe_lst (pa_cons (pv 0) pa_nil))))
        pss_nil)
      (pss_cons (ps_set (i := 1) sc_law_leaves.nd rfl (Or.inl rfl) (pe_lst pa_nil))
      (pss_cons (ps_for PassesOwn.never (by rfl) (PI.tupK (K := K) rfl (pi_tup (pe_slice (sl_tupK (K := K) rfl) (pv 0) (po_some pe_int) po_none))) (pg_name (i := 2) sc_law_leaves.nd rfl (Or.inl rfl))
        (pss_one (ps_set (i := 1) sc_law_leaves.nd rfl (Or.inl rfl) (pe_op op_cat (pv 1) (pe_call G_law_leaves (hr.mono (by first | decide | omega)) (by rfl) D_law_leaves.g D_law_leaves.F.kp D_law_leaves.b .nil pass0 (pa_cons (pv 2) pa_nil))))))
      (pss_one (ps_ret (pv 1)))))), ?_⟩
      refine r_at (σ := [some _, none, none]) rfl ?_
      cases ht with
      | leaf z =>
        walk_at "z"
        refine r_isiInt ?_
        walk_at "z"
        refine iteT ?_
        walk_at "z"
        refine r_lstN sz1 fun l hl => ?_
        exact q l _ (same_new hl) upd_same
      | @node a xs ts w0 ha hts =>
        walk_at "z"
        refine r_isiTup ha ?_
        walk_at "z"
        refine iteF ?_
        walk_at "z"
        refine r_lstN (by decide) fun f hf => ?_
        walk_at "z"
        have ha1 : (upd H f (.lst [])) a = some (.tup (.str (wd w0) :: xs)) := same_new hf _ _ ha
        refine r_tail ha1 fun p hp => ?_
        have fp : f ≠ p := ne_of_none upd_same hp
        have sp : Same H (upd (upd H f (.lst [])) p (.tup xs)) := (same_new hf).trans (same_new hp)
        have pr := hts.pd
        refine r_it (.inl (.inl upd_same)) (forR_tup (xs := xs) (fun i σ' H' => (∃ b x2, σ' = [some (.ref a), some (.ref b), x2] ∧ H' b = some (.lst ((lvs (ts.take i)).map V.int))) ∧ Same H H' ∧ H' p = some (.tup xs)) ⟨⟨f, _, rfl, (upd_ne fp).trans upd_same⟩, sp, upd_same⟩ (fun i σ' H' _ ⟨_, _, h⟩ => .inl (.inl h)) ?_ ?_)
        · rintro i x σ' H' hx ⟨⟨b, x2, rfl, hb⟩, sm, hp'⟩
          obtain ⟨t, hti, hxt⟩ := pd_get pr hx
          have hm := List.mem_of_getElem? hti
          have h1 : dp t < d := by
            have := dps_mem hm
            simp only [dp] at hd
            omega
          have e1 : ts.take (i + 1) = ts.take i ++ [t] := take_next hti
          have e2 : lvs (ts.take (i + 1)) = lvs (ts.take i) ++ lv t := by
            rw [e1, lvs_append]
            simp [lvs]
          have le : (lvs (ts.take i)).length + (lv t).length ≤ 100 := by
            have e3 : lvs ts = lvs (ts.take (i + 1)) ++ lvs (ts.drop (i + 1)) := by rw [← lvs_append, List.take_append_drop]
            have e4 := congrArg List.length e3
            rw [e2] at e4
            simp only [List.length_append] at e4
            simp only [lv] at hl
            omega
          walk_at "z"
          refine ⟨x, t, rfl, hxt.tk (.of_same sm), h1, by omega, fun l H2 s2 hll => ?_⟩
          walk_at "z"
          refine r_cat (s2 _ _ hb) hll (by simp only [List.length_map]; omega) fun c hc => ?_
          walk_at "z"
          refine ⟨⟨c, _, rfl, ?_⟩, (sm.trans s2).trans (same_new hc), same_new hc _ _ (s2 _ _ hp')⟩
          rw [e2, List.map_append]
          exact upd_same
        · rintro σ' H' ⟨⟨b, x2, rfl, hb⟩, sm, hp'⟩
          walk_at "z"
          rw [pr.length, List.take_length] at hb
          exact q b H' sm hb
/-- all leaves of a tree that stands -/
theorem wfs_nil : wfs [] := by simp [wfs]
/-- the pairs that a join joins -/
def spTreePairs (d : Nat) : Sp := fun vs H Q _ => ∃ (v : V) (t : Tr), vs = [v] ∧ TreeAt H v t ∧ dp t < d ∧ (lv t).length ≤ 60 ∧ (lv t).Nodup ∧ ∀ (l : Addr) (xs : List V) (ps : List (Int × Int)) (H' : Hp), Same H H' → H' l = some (.lst xs) → Prs H' xs ps →
  (∀ p ∈ ps, p.1 ∈ lv t ∧ p.2 ∈ lv t ∧ p.1 ≠ p.2) → ps.length ≤ (lv t).length * (lv t).length → Q (.ref l) H'
theorem r_eqJoin {H : Hp} {Q : VK} {w0 : Bool} (q : Q (.bl w0) H) : rEq (.str (wd w0)) (.str "join") H Q := by
  refine ⟨rfl, ?_⟩
  cases w0 with
  | true => exact q
  | false => exact q
theorem ok_tree_pairs (T : Blt mg) (D_law_tree_pairs : DefAt K mg "_law_tree_pairs" s_law_tree_pairs ["tree"]) (D_law_leaves : DefAt K mg "_law_leaves" s_law_leaves ["tree"]) : ∀ d : Nat, FnOk P w K mg base CX0 (d + 1) D_law_tree_pairs.f D_law_tree_pairs.fd ["tree"] (spTreePairs d)
  | 0 => fn_none.imp fun vs H Q E h => by
    obtain ⟨_, _, _, _, h, _⟩ := h
    omega
  | d + 1 => by
    have G_law_tree_pairs := ok_tree_pairs T D_law_tree_pairs D_law_leaves d
    have G_law_leaves : FnOk P w K mg base CX0 d D_law_leaves.f D_law_leaves.fd ["tree"] (spLeaves d) := ok_leaves T D_law_leaves d
    refine D_law_tree_pairs.F.ok sc_law_tree_pairs (fun vs H Q E h => ?_) (fun cdv A outer s H vs Q E hr h => ?_)
    · obtain ⟨v, t, rfl, _⟩ := h
      rfl
    · obtain ⟨v, t, rfl, ht, hd, hl, nd, q⟩ := h
      refine ⟨_, (pss_cons (ps_if (pt_not (pt_val (pe_callB (call_isiK (K := K) rfl) (by rfl) T.isinstance (by decide +kernel) (pa_cons (pv 0) (pa_cons (pe_bltn (v := .ty "tuple") (u := .type "tuple") (by rfl) T.tuple (by decide +kernel) rfl) pa_nil)))))
        (pss_one (ps_ret (pe_lst pa_nil)))
        pss_nil)
      (pss_cons (ps_set (i := 1) sc_law_tree_pairs.nd rfl (Or.inl rfl) (pe_lst pa_nil))
      (pss_cons (ps_set (i := 2) sc_law_tree_pairs.nd rfl (Or.inl rfl) (pe_lst pa_nil))
      (pss_cons (ps_for PassesOwn.never (by rfl) (PI.tupK (K := K) rfl (pi_tup (pe_slice (sl_tupK (K := K) rfl) (pv 0) (po_some pe_int) po_none))) (pg_name (i := 3) sc_law_tree_pairs.nd rfl (Or.inl rfl))
        (pss_cons (ps_set (i := 1) sc_law_tree_pairs.nd rfl (Or.inl rfl) (pe_op op_cat (pv 1) (pe_call G_law_tree_pairs (hr.mono (by first | decide | omega)) (by rfl) D_law_tree_pairs.g D_law_tree_pairs.F.kp D_law_tree_pairs.b .nil pass0 (pa_cons (pv 3) pa_nil))))
        (pss_cons (ps_set (i := 4) sc_law_tree_pairs.nd rfl (Or.inl rfl) (pe_call G_law_leaves (hr.mono (by first | decide | omega)) (by rfl) D_law_leaves.g D_law_leaves.F.kp D_law_leaves.b .nil pass0 (pa_cons (pv 3) pa_nil)))
        (pss_cons (ps_if (pt_cmpR op_eq (pe_ix (ix_tupK (K := K) rfl) (pv 0) pe_int (fun _ _ => rfl)) pe_str (nomark _))
          (pss_one (ps_for PassesOwn.never (by rfl) (PI.listK (K := K) rfl (pi_list (pv 2))) (pg_name (i := 5) sc_law_tree_pairs.nd rfl (Or.inr rfl))
            (pss_one (ps_set (i := 1) sc_law_tree_pairs.nd rfl (Or.inl rfl) (pe_op op_cat (pv 1) (pe_lc (own := [("v", 6)]) (by rfl) sc_law_tree_pairs.nd (PI.listK (K := K) rfl (pi_list (pv 4))) (blkOk_by (own := [("v", 6)]) (N := ["tree", "found", "before", "part", "leaves", "u", "v"]) (sc := (defScope s_law_tree_pairs)) (by decide +kernel)) (fun _ _ _ _ _ => (pg_name (i := 6) sc_law_tree_pairs.nd rfl (Or.inl rfl))) (fun _ _ _ _ _ => pts_nil) (fun _ _ _ _ _ => (pe_tup (pa_cons (pe_callB (call_min2' rfl) (by rfl) T.min (by decide +kernel) (pa_cons (pv 5) (pa_cons (pv 6) pa_nil))) (pa_cons (pe_callB (call_max2' rfl) (by rfl) T.max (by decide +kernel) (pa_cons (pv 5) (pa_cons (pv 6) pa_nil))) pa_nil))))))))))
          pss_nil)
        (pss_one (ps_set (i := 2) sc_law_tree_pairs.nd rfl (Or.inl rfl) (pe_op op_cat (pv 2) (pv 4))))))))
      (pss_one (ps_ret (pv 1))))))), ?_⟩
      refine r_at (σ := [some _, none, none, none, none, none, none]) rfl ?_
      cases ht with
      | leaf z =>
        walk_at "z"
        refine r_isiInt ?_
        walk_at "z"
        refine iteT ?_
        walk_at "z"
        refine r_lstN (by decide) fun l hl => ?_
        exact q l [] [] _ (same_new hl) upd_same .nil (fun p hp => by cases hp) (Nat.zero_le _)
      | @node a xs ts w0 ha hts =>
        walk_at "z"
        refine r_isiTup ha ?_
        walk_at "z"
        refine iteF ?_
        walk_at "z"
        refine r_lstN (by decide) fun f hf => ?_
        walk_at "z"
        refine r_lstN (by decide) fun b0 hb0 => ?_
        have sb := (same_new (o := .lst []) hf).trans (same_new (o := .lst []) hb0)
        have ha1 := sb _ _ ha
        have fb : f ≠ b0 := ne_of_none upd_same hb0
        walk_at "z"
        refine r_tail ha1 fun p hp => ?_
        have sp := sb.trans (same_new (o := .tup xs) hp)
        have bp : b0 ≠ p := ne_of_none upd_same hp
        have fp : f ≠ p := ne_of_none ((upd_ne fb).trans upd_same) hp
        have pr := hts.pd
        simp only [lv] at hl nd q
        refine r_it (.inl (.inl upd_same)) (forR_tup (xs := xs) (fun i σ' H' => (∃ f b x3 x4 x5, σ' = [some (.ref a), some (.ref f), some (.ref b), x3, x4, x5, none] ∧ H' b = some (.lst ((lvs (ts.take i)).map V.int)) ∧ ∃ ys ps, H' f = some (.lst ys) ∧ Prs H' ys ps ∧ (∀ p ∈ ps, p.1 ∈ lvs (ts.take i) ∧ p.2 ∈ lvs (ts.take i) ∧ p.1 ≠ p.2) ∧ ps.length ≤ (lvs (ts.take i)).length * (lvs (ts.take i)).length) ∧ Same H H' ∧ H' p = some (.tup xs))
          ⟨⟨f, b0, _, _, _, rfl, (upd_ne bp).trans upd_same, [], [], (upd_ne fp).trans ((upd_ne fb).trans upd_same), .nil, (fun p hp => by cases hp), Nat.zero_le _⟩, sp, upd_same⟩ (fun i σ' H' _ ⟨_, _, h⟩ => .inl (.inl h)) ?_ ?_)
        · rintro i x σ' H' hx ⟨⟨f, b, x3, x4, x5, rfl, hb, ys, ps, hy, hys, mem, len⟩, sm, hp'⟩
          obtain ⟨t, hti, hxt⟩ := pd_get pr hx
          have hm := List.mem_of_getElem? hti
          have h1 : dp t < d := by
            have := dps_mem hm
            simp only [dp] at hd
            omega
          have e1 : ts.take (i + 1) = ts.take i ++ [t] := take_next hti
          have e2 : lvs (ts.take (i + 1)) = lvs (ts.take i) ++ lv t := by
            rw [e1, lvs_append]
            simp [lvs]
          have e3 : lvs ts = lvs (ts.take i) ++ lv t ++ lvs (ts.drop (i + 1)) := by rw [← e2, ← lvs_append, List.take_append_drop]
          have le : (lvs (ts.take i)).length + (lv t).length ≤ 60 := by
            have e4 := congrArg List.length e3
            simp only [List.length_append] at e4
            omega
          rw [e3] at nd
          obtain ⟨nd1, _, _⟩ := List.nodup_append.mp nd
          obtain ⟨_, ndt, dis⟩ := List.nodup_append.mp nd1
          walk_at "z"
          refine ⟨x, t, rfl, hxt.tk (.of_same sm), h1, by omega, ndt, fun l zs rs H2 s2 hz hzs memr lenr => ?_⟩
          walk_at "z"
          have hy2 := s2 _ _ hy
          have hb2 := s2 _ _ hb
          have lps : ps.length ≤ 60 * 60 := Nat.le_trans len (Nat.mul_le_mul (by omega) (by omega))
          have lrs : rs.length ≤ 60 * 60 := Nat.le_trans lenr (Nat.mul_le_mul (by omega) (by omega))
          refine r_cat hy2 hz (by rw [hys.length, hzs.length]; omega) fun c hc => ?_
          have s3 : Same H2 (upd H2 c (.lst (ys ++ zs))) := same_new hc
          have sm2 := sm.trans s2
          have sm3 := sm2.trans s3
          have prc := pd_append (Prs.tk (.of_same (s2.trans s3)) hys) (Prs.tk (.of_same s3) hzs)
          walk_at "z"
          refine ⟨x, t, rfl, hxt.tk (.of_same sm3), h1, by omega, fun l3 H3 s4 hl4 => ?_⟩
          have sm4 := sm3.trans s4
          have ha4 := sm4 _ _ ha
          have hb4 := s4 _ _ (s3 _ _ hb2)
          have hc4 : H3 c = some (.lst (ys ++ zs)) := s4 _ _ upd_same
          have hp4 := s4 _ _ (s3 _ _ (s2 _ _ hp'))
          have prc4 := Prs.tk (.of_same s4) prc
          have memB : ∀ z ∈ lvs (ts.take i), z ∈ lvs (ts.take (i + 1)) := fun z hz => by rw [e2]; exact List.mem_append_left _ hz
          have memL : ∀ z ∈ lv t, z ∈ lvs (ts.take (i + 1)) := fun z hz => by rw [e2]; exact List.mem_append_right _ hz
          have memc : ∀ p ∈ ps ++ rs, p.1 ∈ lvs (ts.take (i + 1)) ∧ p.2 ∈ lvs (ts.take (i + 1)) ∧ p.1 ≠ p.2 := fun p hp => by
            rcases List.mem_append.mp hp with z | z
            · obtain ⟨m1, m2, m3⟩ := mem p z
              exact ⟨memB _ m1, memB _ m2, m3⟩
            · obtain ⟨m1, m2, m3⟩ := memr p z
              exact ⟨memL _ m1, memL _ m2, m3⟩
          have sq : (lvs (ts.take (i + 1))).length * (lvs (ts.take (i + 1))).length = (lvs (ts.take i)).length * (lvs (ts.take i)).length + (lv t).length * (lv t).length + 2 * ((lvs (ts.take i)).length * (lv t).length) := by
            rw [e2, List.length_append, Nat.add_mul, Nat.mul_add, Nat.mul_add, Nat.mul_comm (lv t).length (lvs (ts.take i)).length]
            omega
          have bnd : (lvs (ts.take i)).length * (lv t).length ≤ 60 * 60 := Nat.mul_le_mul (by omega) (by omega)
          walk_at "z"
          refine r_eqJoin ?_
          walk_at "z"
          refine r_iteB (fun hw => ?_) (fun hw => ?_)
          · walk_at "z"
            refine r_il (.inl (.inl hb4)) (forR_list (xs := (lvs (ts.take i)).map V.int) (fun j σ' H' => (∃ f x5, σ' = [some (.ref a), some (.ref f), some (.ref b), some x, some (.ref l3), x5, none] ∧ ∃ ys ps, H' f = some (.lst ys) ∧ Prs H' ys ps ∧ (∀ p ∈ ps, p.1 ∈ lvs (ts.take (i + 1)) ∧ p.2 ∈ lvs (ts.take (i + 1)) ∧ p.1 ≠ p.2) ∧ ps.length ≤ (lvs (ts.take i)).length * (lvs (ts.take i)).length + (lv t).length * (lv t).length + j * (lv t).length) ∧ Same H3 H')
              ⟨⟨c, _, rfl, _, _, hc4, prc4, memc, by rw [List.length_append]; omega⟩, .refl _⟩ (fun j σ' H' _ ⟨_, s5⟩ => .inl (.inl (s5 _ _ hb4))) ?_ ?_)
            · rintro j u0 σ' H' hu ⟨⟨f, x5, rfl, ys, ps, hy, hys, mem2, len2⟩, s5⟩
              rw [List.getElem?_map] at hu
              obtain ⟨u, hu2, rfl⟩ := Option.map_eq_some_iff.mp hu
              have uB := List.mem_of_getElem? hu2
              have jl : j < (lvs (ts.take i)).length := (List.getElem?_eq_some_iff.mp hu2).1
              have jb : j * (lv t).length ≤ 60 * 60 := Nat.mul_le_mul (by omega) (by omega)
              have bb : (lvs (ts.take i)).length * (lvs (ts.take i)).length ≤ 60 * 60 := Nat.mul_le_mul (by omega) (by omega)
              have ll : (lv t).length * (lv t).length ≤ 60 * 60 := Nat.mul_le_mul (by omega) (by omega)
              walk_at "z"
              refine r_il (.inl (.inl (s5 _ _ hl4))) fun e he => lcR_list (xs := (lv t).map V.int) (fun k H6 => Same H' H6 ∧ ∃ zs, H6 e = some (.lst zs) ∧ Prs H6 zs (((lv t).take k).map fun v => (min u v, max u v))) (by walk_at "zw") ⟨same_new he, [], upd_same, .nil⟩ (fun k H6 _ ⟨s6, _⟩ => .inl (.inl (s6 _ _ (s5 _ _ hl4)))) ?_ ?_
              · rintro k v0 H6 hv ⟨s6, zs, hz, hzs⟩
                rw [List.getElem?_map] at hv
                obtain ⟨v, hv2, rfl⟩ := Option.map_eq_some_iff.mp hv
                walk_at "z"
                refine ⟨rfl, ?_⟩
                walk_at "z"
                refine r_tupN sz2 fun t2 ht2 => ?_
                refine r_lce (by walk_at "zh") (small_lt ?_) ⟨same_mut (s6.trans (same_new ht2)) he, _, upd_same, ?_⟩
                · rw [hzs.length, List.length_map, List.length_take]
                  omega
                · rw [take_next hv2, List.map_append]
                  exact prs_push hz hzs ht2
              · rintro H6 ⟨s6, zs, hz, hzs⟩
                rw [List.length_map, List.take_length] at hzs
                refine r_cat (s6 _ _ hy) hz (by rw [hys.length, hzs.length, List.length_map]; omega) fun g hg => ?_
                walk_at "z"
                refine ⟨⟨g, _, rfl, _, _, upd_same, Prs.tk (.new hg) (pd_append (Prs.tk (.of_same s6) hys) hzs), fun p hp => ?_, ?_⟩, (s5.trans s6).trans (same_new hg)⟩
                · rcases List.mem_append.mp hp with z | z
                  · exact mem2 p z
                  · obtain ⟨v, hv, rfl⟩ := List.mem_map.mp z
                    have ne := dis u uB v hv
                    have mu := memB u uB
                    have mv := memL v hv
                    rcases Int.lt_or_lt_of_ne ne with q1 | q1
                    · rw [Int.min_eq_left (Int.le_of_lt q1), Int.max_eq_right (Int.le_of_lt q1)]
                      exact ⟨mu, mv, ne⟩
                    · rw [Int.min_eq_right (Int.le_of_lt q1), Int.max_eq_left (Int.le_of_lt q1)]
                      exact ⟨mv, mu, ne.symm⟩
                · rw [List.length_append, List.length_map, Nat.succ_mul]
                  omega
            · rintro σ' H' ⟨⟨f, x5, rfl, ys, ps, hy, hys, mem2, len2⟩, s5⟩
              walk_at "z"
              rw [List.length_map] at len2
              refine r_cat (s5 _ _ hb4) (s5 _ _ hl4) (by simp only [List.length_map]; omega) fun g hg => ?_
              walk_at "z"
              refine ⟨⟨f, g, _, _, _, rfl, ?_, ys, ps, same_new hg _ _ hy, Prs.tk (.new hg) hys, mem2, ?_⟩, (sm4.trans s5).trans (same_new hg), same_new hg _ _ (s5 _ _ hp4)⟩
              · rw [e2, List.map_append]
                exact upd_same
              · rw [sq]
                omega
          · walk_at "z"
            refine r_cat hb4 hl4 (by simp only [List.length_map]; omega) fun g hg => ?_
            walk_at "z"
            refine ⟨⟨c, g, _, _, _, rfl, ?_, _, _, same_new hg _ _ hc4, Prs.tk (.new hg) prc4, memc, ?_⟩, sm4.trans (same_new hg), same_new hg _ _ hp4⟩
            · rw [e2, List.map_append]
              exact upd_same
            · rw [sq, List.length_append]
              omega
        · rintro σ' H' ⟨⟨f, b, x3, x4, x5, rfl, hb, ys, ps, hy, hys, mem, len⟩, sm, hp'⟩
          walk_at "z"
          rw [pr.length, List.take_length] at mem len
          exact q f ys ps H' sm hy hys mem len
/-- a drawn tree over some of the leaves -/
def spDrawn : Sp := fun vs H Q _ => ∃ (a s l : Addr) (ns : List Int), vs = [.ref a, .ref l] ∧ Pool H a s ∧ H l = some (.lst (ns.map V.int)) ∧ 1 ≤ ns.length ∧ ns.length ≤ 60 ∧
  ∀ (v : V) (t : Tr) (H' : Hp), Pool H' a s → Gr a H H' → TreeAt H' v t → wf t → (∃ ms, (lv t ++ ms).Perm ns) → Q v H'
theorem leafs {H : Hp} : ∀ ns : List Int, Paired (TreeAt H) (ns.map V.int) (ns.map Tr.leaf)
  | [] => .nil
  | n :: ns => .cons (.leaf n) (leafs ns)
theorem lvs_leafs : ∀ ns : List Int, lvs (ns.map Tr.leaf) = ns
  | [] => rfl
  | n :: ns => by simp [lvs, lv, lvs_leafs ns]
theorem pdT_tk {H H' : Hp} (k : TK H H') {vs : List V} {ts : List Tr} (h : Paired (TreeAt H) vs ts) : Paired (TreeAt H') vs ts := (TreesAt.tk k ts (TreesAt.of h)).pd
theorem pd_erase {α β : Type} {F : α → β → Prop} : ∀ {xs : List α} {ps : List β} (k : Nat), Paired F xs ps → Paired F (xs.eraseIdx k) (ps.eraseIdx k)
  | _, _, _, .nil => .nil
  | _, _, 0, .cons _ t => t
  | _, _, k + 1, .cons f t => .cons f (pd_erase k t)
theorem ok_drawn (T : Blt mg) (D : DefAt K mg "_law_drawn_tree" s_law_drawn_tree ["pool", "leaves"]) (D_law_draw : DefAt K mg "_law_draw" s_law_draw ["pool", "many"]) (G_law_draw : FnOk P w K mg base CX0 2 D_law_draw.f D_law_draw.fd ["pool", "many"] spDraw) :
    FnOk P w K mg base CX0 4 D.f D.fd ["pool", "leaves"] spDrawn := by
  refine D.F.ok sc_law_drawn_tree (fun vs H Q E h => ?_) (fun cdv A outer s H vs Q E hr h => ?_)
  · obtain ⟨a, s, l, ns, rfl, _⟩ := h
    rfl
  · obtain ⟨a, s0, l, ns, rfl, hP, hl, l1, l2, q⟩ := h
    refine ⟨_, (pss_cons (ps_set (i := 2) sc_law_drawn_tree.nd rfl (Or.inr rfl) (pe_callTy (call_listK (K := K) rfl) (by rfl) T.list (by decide +kernel) (pa_cons (pv 1) pa_nil)))
      (pss_cons (ps_for PassesOwn.never (by rfl) (pi_range1 (by rfl) T.range (pa_cons (pe_op op_sub (pe_callB (call_lenK (K := K) rfl) (by rfl) T.len (by decide +kernel) (pa_cons (pv 2) pa_nil)) pe_int) pa_nil)) (pg_name (i := 3) sc_law_drawn_tree.nd rfl (Or.inl rfl))
        (pss_one (ps_if (pt_cmpR op_gt (pe_callB (call_lenK (K := K) rfl) (by rfl) T.len (by decide +kernel) (pa_cons (pv 2) pa_nil)) pe_int (nomark _))
          (pss_cons (ps_set (i := 4) sc_law_drawn_tree.nd rfl (Or.inl rfl) (pe_callB (call_min2' rfl) (by rfl) T.min (by decide +kernel) (pa_cons (pe_callB (call_lenK (K := K) rfl) (by rfl) T.len (by decide +kernel) (pa_cons (pv 2) pa_nil)) (pa_cons (pe_op op_add pe_int (pe_call G_law_draw (hr.mono (by first | decide | omega)) (by rfl) D_law_draw.g D_law_draw.F.kp D_law_draw.b .nil pass0 (pa_cons (pv 0) (pa_cons pe_int pa_nil)))) pa_nil))))
          (pss_cons (ps_setLc (i := 5) (own := [("j", 6)]) (by rfl) sc_law_drawn_tree.nd rfl rfl (sw_true rfl rfl rfl (by decide +kernel)) (pi_range1 (by rfl) T.range (pa_cons (pv 4) pa_nil)) (blkOk_by (own := [("j", 6)]) (N := ["pool", "leaves", "trees", "k", "many", "parts", "j"]) (sc := (defScope s_law_drawn_tree)) (by decide +kernel)) (fun _ _ _ _ _ => (pg_name (i := 6) sc_law_drawn_tree.nd rfl (Or.inl rfl))) (fun _ _ _ _ _ => pts_nil) (fun _ _ _ _ _ => (PE.bmK (K := K) rfl (pe_bm PySem.F.plainAttrs_list PySem.F.slot_list_pop PySem.F.type_list_pop mt_popAt (pv 2) (pa_cons (pe_call G_law_draw (hr.mono (by first | decide | omega)) (by rfl) D_law_draw.g D_law_draw.F.kp D_law_draw.b .nil pass0 (pa_cons (pv 0) (pa_cons (pe_callB (call_lenK (K := K) rfl) (by rfl) T.len (by decide +kernel) (pa_cons (pv 2) pa_nil)) pa_nil))) pa_nil)))))
          (pss_one (ps_expr (PE.bmK (K := K) rfl (pe_bm PySem.F.plainAttrs_list PySem.F.slot_list_append PySem.F.type_list_append mt_append (pv 2) (pa_cons (pe_op (op_catTK (K := K) rfl) (pe_tup (pa_cons (pe_ix (ix_listK (K := K) rfl) (pe_lst (pa_cons pe_str (pa_cons pe_str pa_nil))) (pe_call G_law_draw (hr.mono (by first | decide | omega)) (by rfl) D_law_draw.g D_law_draw.F.kp D_law_draw.b .nil pass0 (pa_cons (pv 0) (pa_cons pe_int pa_nil))) (fun _ _ => rfl)) pa_nil)) (pe_callTy (call_tupleK (K := K) rfl) (by rfl) T.tuple (by decide +kernel) (pa_cons (pv 5) pa_nil))) pa_nil)))))))
          pss_nil)))
      (pss_one (ps_ret (pe_ix (ix_listK (K := K) rfl) (pv 2) pe_int (fun _ _ => rfl)))))), ?_⟩
    refine r_at (σ := [some _, some _, none, none, none, none, none]) rfl ?_
    walk_at "z"
    refine r_listL (.inl (.inl hl)) fun r hr0 => ?_
    have rne := new_ne hP hr0
    walk_at "z"
    rw [List.length_map]
    refine r_rg1 (by omega) (forR_range (fun i σ' H' => (∃ x3 x4 x5, σ' = [some (.ref a), some (.ref l), some (.ref r), x3, x4, x5, none]) ∧ Pool H' a s0 ∧ Gr a H H' ∧ ∃ vs ts, H' r = some (.lst vs) ∧ Paired (TreeAt H') vs ts ∧ (lvs ts).Perm ns ∧ (∀ t ∈ ts, wf t) ∧ 1 ≤ ts.length ∧ ts.length ≤ 60)
      ⟨⟨_, _, _, rfl⟩, hP.mono (same_new hr0), .new hr0, _, ns.map Tr.leaf, upd_same, leafs ns, by rw [lvs_leafs], ?_, by rw [List.length_map]; exact l1, by rw [List.length_map]; exact l2⟩ ?_ ?_)
    · intro t ht
      obtain ⟨z, _, rfl⟩ := List.mem_map.mp ht
      simp [wf]
    · rintro i σ' H' hi ⟨⟨x3, x4, x5, rfl⟩, hP', g, vs, ts, hv, hvt, pm, hwf, t1, t2⟩
      walk_at "z"
      rw [hvt.length]
      refine r_ite (fun h => ?_) (fun h => ?_)
      · walk_at "z"
        refine ⟨a, s0, 2, rfl, hP', by omega, by omega, fun c H1 c0 c1 hP1 g1 => ?_⟩
        have hv1 := g1 _ _ rne.1 hv
        have hvt1 := pdT_tk (g1.tk hP') hvt
        walk_at "z"
        rw [hvt.length]
        obtain ⟨m, hm⟩ : ∃ m : Nat, min (ts.length : Int) (2 + c) = (m : Int) := ⟨(min (ts.length : Int) (2 + c)).toNat, by omega⟩
        rw [hm]
        refine r_rg1 (by omega) fun d hd => lcR_range (fun j H2 => Pool H2 a s0 ∧ Gr a H H2 ∧ ∃ vs2 ts2 us qs, H2 r = some (.lst vs2) ∧ Paired (TreeAt H2) vs2 ts2 ∧ H2 d = some (.lst us) ∧ Paired (TreeAt H2) us qs ∧ (ts2 ++ qs).Perm ts ∧ qs.length = j)
          (by walk_at "zw") ⟨hP1.mono (same_new hd), (g.trans g1).trans (.new hd), vs, ts, [], [], same_new hd _ _ hv1, pdT_tk (.new hd) hvt1, upd_same, .nil, by rw [List.append_nil], rfl⟩ ?_ ?_
        · rintro j H2 hj ⟨hP2, g2, vs2, ts2, us, qs, hv2, hvt2, hu, hut, pm2, hlq⟩
          have dne := new_ne hP1 hd
          have dr : d ≠ r := (ne_of_none hv1 hd).symm
          have lts : ts2.length + j = ts.length := by
            have := pm2.length_eq
            rw [List.length_append, hlq] at this
            omega
          walk_at "z"
          refine ⟨rfl, ?_⟩
          walk_at "z"
          rw [hvt2.length]
          refine ⟨a, s0, _, rfl, hP2, by omega, by omega, fun b H3 b0 b1 hP3 g3 => ?_⟩
          have hv3 := g3 _ _ rne.1 hv2
          have hvt3 := pdT_tk (g3.tk hP2) hvt2
          have hu3 := g3 _ _ dne.1 hu
          have hut3 := pdT_tk (g3.tk hP2) hut
          walk_at "z"
          have hb : b.toNat < ts2.length := by omega
          have gt : ts2[b.toNat]? = some ts2[b.toNat] := List.getElem?_eq_getElem hb
          obtain ⟨y, hy, hyt⟩ := pd_get2 hvt3 gt
          refine r_popAt hv3 (k := b.toNat) (y := y) (by omega) (by omega) hy ?_
          have k4 : TK H3 (upd H3 r (.lst (vs2.eraseIdx b.toNat))) := .lst hv3
          have k5 : TK H3 (upd (upd H3 r (.lst (vs2.eraseIdx b.toNat))) d (.lst (us ++ [y]))) := k4.trans (.lst ((upd_ne dr).trans hu3))
          refine r_lce ((upd_ne dr).trans hu3) (small_lt (by rw [hut.length]; omega)) ⟨(hP3.upd rne).upd dne, ((g2.trans g3).mut hr0).mut ((g.trans g1).free hP1.ne hd), vs2.eraseIdx b.toNat, ts2.eraseIdx b.toNat, us ++ [y], qs ++ [ts2[b.toNat]], (upd_ne (Ne.symm dr)).trans upd_same, pdT_tk k5 (pd_erase _ hvt3), upd_same, (pdT_tk k5 hut3).snoc (TreeAt.tk k5 _ hyt), ?_, by rw [List.length_append, hlq]; rfl⟩
          refine List.Perm.trans ?_ pm2
          have p1 : (ts2.eraseIdx b.toNat ++ (qs ++ [ts2[b.toNat]])).Perm ([ts2[b.toNat]] ++ (ts2.eraseIdx b.toNat ++ qs)) := by
            rw [← List.append_assoc]
            exact List.perm_append_comm
          exact p1.trans ((get_erase_perm ts2 gt).append_right qs)
        · rintro H2 ⟨hP2, g2, vs2, ts2, us, qs, hv2, hvt2, hu, hut, pm2, hlq⟩
          have dne := new_ne hP1 hd
          walk_at "z"
          refine r_lstN sz2 fun e he => ?_
          have hP3 := hP2.mono (same_new (o := .lst [.str "union", .str "join"]) he)
          walk_at "z"
          refine ⟨a, s0, 2, rfl, hP3, by omega, by omega, fun b H3 b0 b1 hP4 g3 => ?_⟩
          have he3 := g3 _ _ (new_ne hP2 he).1 upd_same
          obtain ⟨w0, hw⟩ : ∃ w0 : Bool, atI [V.str "union", V.str "join"] b = some (.str (wd w0)) := by
            have e : b = 0 ∨ b = 1 := by omega
            rcases e with e | e <;> subst e
            · exact ⟨false, rfl⟩
            · exact ⟨true, rfl⟩
          have s1 : Gr a H2 H3 := (Gr.new he).trans g3
          have hv3 := s1 _ _ rne.1 hv2
          have hu3 := s1 _ _ dne.1 hu
          walk_at "z"
          refine r_tupN sz1 fun t3 ht3 => ?_
          have k3 : Same H3 (upd H3 t3 (.tup [.str (wd w0)])) := same_new ht3
          have hu4 := k3 _ _ hu3
          walk_at "z"
          refine r_tupL (.inl (.inl hu4)) fun t4 ht4 => ?_
          have k4 := k3.trans (same_new (o := .tup us) ht4)
          have t34 : t3 ≠ t4 := ne_of_none upd_same ht4
          have lus : us.length = m := by rw [hut.length, hlq]; omega
          have une : us ≠ [] := fun z => by
            rw [z] at lus
            simp only [List.length_nil] at lus
            omega
          refine ⟨t3, t4, [.str (wd w0)], us, rfl, rfl, .inl (.inl ((upd_ne t34).trans upd_same)),   .inl (.inl upd_same), List.cons_ne_nil _ _, small_len (by simp only [List.length_cons, List.length_nil]; omega), fun z => absurd z une, fun _ t5 ht5 => ?_⟩
          have k5 := k4.trans (same_new (o := .tup ([.str (wd w0)] ++ us)) ht5)
          walk_at "z"
          refine r_appT (k5 _ _ hv3) (small_lt (by rw [hvt2.length]; have := pm2.length_eq; rw [List.length_append] at this; omega)) ?_
          have kk : TK H2 (upd (upd (upd (upd H3 t3 (.tup [.str (wd w0)])) t4 (.tup us)) t5 (.tup ([.str (wd w0)] ++ us))) r (.lst (vs2 ++ [.ref t5]))) := (s1.tk hP2).trans ((TK.of_same k5).trans (.lst (k5 _ _ hv3)))
          have r5 : t5 ≠ r := (ne_of_none (k4 _ _ hv3) ht5).symm
          refine ⟨⟨_, _, _, rfl⟩, (hP4.mono k5).upd rne, ((g2.trans s1).trans (.of_same k5)).mut hr0, _, ts2 ++ [.node w0 qs], upd_same, (pdT_tk kk hvt2).snoc (show TreeAt (upd (upd (upd (upd H3 t3 (.tup [.str (wd w0)])) t4 (.tup us)) t5 (.tup ([.str (wd w0)] ++ us))) r (.lst (vs2 ++ [.ref t5]))) (.ref t5) (.node w0 qs) from TreeAt.node w0 (xs := us) ((upd_ne r5).trans upd_same) (TreesAt.of (pdT_tk kk hut))), ?_, fun t ht => ?_, ?_, ?_⟩
          · have e : lvs (ts2 ++ [.node w0 qs]) = lvs (ts2 ++ qs) := by
              rw [lvs_append, lvs_append]
              simp [lvs, lv]
            rw [e]
            exact (lvs_perm pm2).trans pm
          · rcases List.mem_append.mp ht with z | z
            · exact hwf t (pm2.mem_iff.mp (List.mem_append_left _ z))
            · rw [List.mem_singleton.mp z]
              simp only [wf]
              exact ⟨by omega, wfs_mem.mpr fun t2 ht2 => hwf t2 (pm2.mem_iff.mp (List.mem_append_right _ ht2))⟩
          · rw [List.length_append]
            simp
          · have := pm2.length_eq
            rw [List.length_append] at this ⊢
            simp only [List.length_cons, List.length_nil]
            omega
      · exact ⟨⟨_, _, _, rfl⟩, hP', g, vs, ts, hv, hvt, pm, hwf, t1, t2⟩
    · rintro σ' H' ⟨⟨x3, x4, x5, rfl⟩, hP', g, vs, ts, hv, hvt, pm, hwf, t1, t2⟩
      walk_at "z"
      obtain ⟨t, ht⟩ : ∃ t, ts[0]? = some t := ⟨_, List.getElem?_eq_getElem (by omega)⟩
      obtain ⟨y, hy, hyt⟩ := pd_get2 hvt ht
      refine r_ixL (.inl (.inl hv)) (atI_nat (j := 0) hy) ?_
      obtain ⟨rest, e⟩ : ∃ rest, ts = t :: rest := by
        cases ts with
        | nil => simp at t1
        | cons u us =>
          have : u = t := Option.some.inj ht
          exact ⟨us, by rw [this]⟩
      refine q y t H' hP' g hyt (hwf t (List.mem_of_getElem? ht)) ⟨lvs rest, ?_⟩
      rw [e] at pm
      exact pm
end

set_option Elab.async false
set_option linter.all false
set_option maxRecDepth 100000
set_option maxHeartbeats 4000000
open PySem PySem.Spec PyProof.Rows L2

abbrev s_law_graph : Stmt := topS 45
theorem sc_law_graph : FnScope ["pool", "most", "way", "n", "graph"] ["pool", "most"] (defScope s_law_graph) := ⟨rfl, rfl, rfl, by decide +kernel, rfl, by decide +kernel, by decide +kernel⟩

section
variable {P : Program} {w : World} {K : PySem.W.Frag} {mg : Str → Option Value} {base : Heap}
theorem moved_good {n : Int} {o : List Int} {ps qs : List (Int × Int)} (g : GoodG n ps) (ho : o.Perm (rgI n)) (asc : qs.Pairwise ltP) (mem : ∀ p, p ∈ qs ↔ ∃ r ∈ ps, p = nrm (ordP o r)) : GoodG n qs := by
  have hl : o.length = n.toNat := by rw [ho.length_eq, rgI_len]
  have nd : o.Nodup := ho.nodup_iff.mpr (rgI_nodup n)
  have bd : ∀ z : Int, 0 ≤ z → z < n → 0 ≤ o.getD z.toNat 0 ∧ o.getD z.toNat 0 < n := fun z h0 h1 => by
    have hlt : z.toNat < o.length := by omega
    rw [List.getD_eq_getElem?_getD, List.getElem?_eq_getElem hlt]
    exact mem_rgI.mp (ho.mem_iff.mp (List.getElem_mem hlt))
  refine good_of g.one (ps := ps.map (ordP o)) (fun r hr => ?_) asc fun p => (mem p).trans ⟨?_, ?_⟩
  · obtain ⟨r0, hr0, rfl⟩ := List.mem_map.mp hr
    obtain ⟨b1, b2, b3⟩ := g.inn r0 hr0
    have h1 := bd r0.1 b1 (by omega)
    have h2 := bd r0.2 (by omega) b3
    refine ⟨h1.1, h1.2, h2.1, h2.2, fun e => ?_⟩
    have l1 : r0.1.toNat < o.length := by omega
    have l2 : r0.2.toNat < o.length := by omega
    unfold ordP at e
    simp only [List.getD_eq_getElem?_getD, List.getElem?_eq_getElem l1, List.getElem?_eq_getElem l2, Option.getD_some] at e
    have := (List.getElem_inj nd).mp e
    omega
  · rintro ⟨r, hr, rfl⟩
    exact ⟨_, List.mem_map.mpr ⟨r, hr, rfl⟩, rfl⟩
  · rintro ⟨r, hr, rfl⟩
    obtain ⟨r0, hr0, rfl⟩ := List.mem_map.mp hr
    exact ⟨r0, hr0, rfl⟩
/-- a drawn graph -/
def spGraph : Sp := fun vs H Q _ => ∃ (a s : Addr) (most : Int), vs = [.ref a, .int most] ∧ Pool H a s ∧ 1 ≤ most ∧ most ≤ 60 ∧ ∀ n : Int, 1 ≤ n → n ≤ most → GenQ a s H n Q
theorem ok_graph (T : Blt mg) (D : DefAt K mg "_law_graph" s_law_graph ["pool", "most"])
    (D_law_draw : DefAt K mg "_law_draw" s_law_draw ["pool", "many"]) (G_law_draw : FnOk P w K mg base CX0 2 D_law_draw.f D_law_draw.fd ["pool", "many"] spDraw)
    (D_law_interval_rows : DefAt K mg "_law_interval_rows" s_law_interval_rows ["pool", "n"]) (G_law_interval_rows : FnOk P w K mg base CX0 3 D_law_interval_rows.f D_law_interval_rows.fd ["pool", "n"] spRows)
    (D_law_interval_graph : DefAt K mg "_law_interval_graph" s_law_interval_graph ["rows"]) (G_law_interval_graph : FnOk P w K mg base CX0 2 D_law_interval_graph.f D_law_interval_graph.fd ["rows"] (spIvGraph K))
    (D_law_turned_graph : DefAt K mg "_law_turned_graph" s_law_turned_graph ["one", "two"]) (G_law_turned_graph : FnOk P w K mg base CX0 2 D_law_turned_graph.f D_law_turned_graph.fd ["one", "two"] (spTurned K))
    (D_law_shuffled : DefAt K mg "_law_shuffled" s_law_shuffled ["pool", "items"]) (G_law_shuffled : FnOk P w K mg base CX0 3 D_law_shuffled.f D_law_shuffled.fd ["pool", "items"] (spShuf K))
    (D_law_ordered_graph : DefAt K mg "_law_ordered_graph" s_law_ordered_graph ["pool", "n"]) (G_law_ordered_graph : FnOk P w K mg base CX0 4 D_law_ordered_graph.f D_law_ordered_graph.fd ["pool", "n"] spOrdered)
    (D_law_clique_graph : DefAt K mg "_law_clique_graph" s_law_clique_graph ["pool", "n"]) (G_law_clique_graph : FnOk P w K mg base CX0 4 D_law_clique_graph.f D_law_clique_graph.fd ["pool", "n"] spClique)
    (D_law_of : DefAt K mg "_law_of" s_law_of ["n", "pairs"]) (G_law_of : FnOk P w K mg base CX0 3 D_law_of.f D_law_of.fd ["n", "pairs"] (spOf K))
    (D_law_tree_pairs : DefAt K mg "_law_tree_pairs" s_law_tree_pairs ["tree"]) (G_law_tree_pairs : FnOk P w K mg base CX0 62 D_law_tree_pairs.f D_law_tree_pairs.fd ["tree"] (spTreePairs 61))
    (D_law_drawn_tree : DefAt K mg "_law_drawn_tree" s_law_drawn_tree ["pool", "leaves"]) (G_law_drawn_tree : FnOk P w K mg base CX0 4 D_law_drawn_tree.f D_law_drawn_tree.fd ["pool", "leaves"] spDrawn)
    (D_law_ringed : DefAt K mg "_law_ringed" s_law_ringed ["pool", "n"]) (G_law_ringed : FnOk P w K mg base CX0 4 D_law_ringed.f D_law_ringed.fd ["pool", "n"] spRinged)
    (D_law_other : DefAt K mg "_law_other" s_law_other ["graph"]) (G_law_other : FnOk P w K mg base CX0 2 D_law_other.f D_law_other.fd ["graph"] spOther)
    (D_law_random_graph : DefAt K mg "_law_random_graph" s_law_random_graph ["pool", "most"]) (G_law_random_graph : FnOk P w K mg base CX0 3 D_law_random_graph.f D_law_random_graph.fd ["pool", "most"] spRandom)
    (D_law_moved : DefAt K mg "_law_moved" s_law_moved ["graph", "order"]) (G_law_moved : FnOk P w K mg base CX0 4 D_law_moved.f D_law_moved.fd ["graph", "order"] (spMoved K)) :
    FnOk P w K mg base CX0 63 D.f D.fd ["pool", "most"] spGraph := by
  refine D.F.ok sc_law_graph (fun vs H Q E h => ?_) (fun cdv A outer s H vs Q E hr h => ?_)
  · obtain ⟨a, s, most, rfl, _⟩ := h
    rfl
  · obtain ⟨a, s0, most, rfl, hP, m1, m2, q⟩ := h
    refine ⟨_, (pss_cons (ps_set (i := 2) sc_law_graph.nd rfl (Or.inl rfl) (pe_call G_law_draw (hr.mono (by first | decide | omega)) (by rfl) D_law_draw.g D_law_draw.F.kp D_law_draw.b .nil pass0 (pa_cons (pv 0) (pa_cons pe_int pa_nil))))
      (pss_cons (ps_set (i := 3) sc_law_graph.nd rfl (Or.inl rfl) (pe_ix (ix_listK (K := K) rfl) (pe_lst (pa_cons (pv 1) (pa_cons (pe_op op_add pe_int (pe_call G_law_draw (hr.mono (by first | decide | omega)) (by rfl) D_law_draw.g D_law_draw.F.kp D_law_draw.b .nil pass0 (pa_cons (pv 0) (pa_cons (pv 1) pa_nil)))) pa_nil))) (pe_callTy call_int1' (by rfl) T.int (by decide +kernel) (pa_cons (pe_cmpR op_eq (pe_call G_law_draw (hr.mono (by first | decide | omega)) (by rfl) D_law_draw.g D_law_draw.F.kp D_law_draw.b .nil pass0 (pa_cons (pv 0) (pa_cons pe_int pa_nil))) pe_int (nomark _)) pa_nil)) (fun _ _ => rfl)))
      (pss_cons (ps_if (pt_cmpR op_eq (pv 2) pe_int (nomark _))
        (pss_one (ps_set (i := 4) sc_law_graph.nd rfl (Or.inl rfl) (pe_call G_law_interval_graph (hr.mono (by first | decide | omega)) (by rfl) D_law_interval_graph.g D_law_interval_graph.F.kp D_law_interval_graph.b .nil pass0 (pa_cons (pe_call G_law_interval_rows (hr.mono (by first | decide | omega)) (by rfl) D_law_interval_rows.g D_law_interval_rows.F.kp D_law_interval_rows.b .nil pass0 (pa_cons (pv 0) (pa_cons (pv 3) pa_nil))) pa_nil))))
        (pss_one (ps_if (pt_cmpR op_eq (pv 2) pe_int (nomark _))
          (pss_one (ps_set (i := 4) sc_law_graph.nd rfl (Or.inl rfl) (pe_call G_law_turned_graph (hr.mono (by first | decide | omega)) (by rfl) D_law_turned_graph.g D_law_turned_graph.F.kp D_law_turned_graph.b .nil pass0 (pa_cons (pe_listRg rfl (by rfl) T.list (prg_1 (by rfl) T.range (pv 3))) (pa_cons (pe_call G_law_shuffled (hr.mono (by first | decide | omega)) (by rfl) D_law_shuffled.g D_law_shuffled.F.kp D_law_shuffled.b .nil pass0 (pa_cons (pv 0) (pa_cons (pe_listRg rfl (by rfl) T.list (prg_1 (by rfl) T.range (pv 3))) pa_nil))) pa_nil)))))
          (pss_one (ps_if (pt_cmpR op_eq (pv 2) pe_int (nomark _))
            (pss_one (ps_set (i := 4) sc_law_graph.nd rfl (Or.inl rfl) (pe_call G_law_ordered_graph (hr.mono (by first | decide | omega)) (by rfl) D_law_ordered_graph.g D_law_ordered_graph.F.kp D_law_ordered_graph.b .nil pass0 (pa_cons (pv 0) (pa_cons (pv 3) pa_nil)))))
            (pss_one (ps_if (pt_cmpR op_eq (pv 2) pe_int (nomark _))
              (pss_one (ps_set (i := 4) sc_law_graph.nd rfl (Or.inl rfl) (pe_call G_law_clique_graph (hr.mono (by first | decide | omega)) (by rfl) D_law_clique_graph.g D_law_clique_graph.F.kp D_law_clique_graph.b .nil pass0 (pa_cons (pv 0) (pa_cons (pv 3) pa_nil)))))
              (pss_one (ps_if (pt_cmpR op_eq (pv 2) pe_int (nomark _))
                (pss_one (ps_set (i := 4) sc_law_graph.nd rfl (Or.inl rfl) (pe_call G_law_of (hr.mono (by first | decide | omega)) (by rfl) D_law_of.g D_law_of.F.kp D_law_of.b .nil pass0 (pa_cons (pv 3) (pa_cons (pe_call G_law_tree_pairs (hr.mono (by first | decide | omega)) (by rfl) D_law_tree_pairs.g D_law_tree_pairs.F.kp D_law_tree_pairs.b .nil pass0 (pa_cons (pe_call G_law_drawn_tree (hr.mono (by first | decide | omega)) (by rfl) D_law_drawn_tree.g D_law_drawn_tree.F.kp D_law_drawn_tree.b .nil pass0 (pa_cons (pv 0) (pa_cons (pe_listRg rfl (by rfl) T.list (prg_1 (by rfl) T.range (pv 3))) pa_nil))) pa_nil)) pa_nil)))))
                (pss_one (ps_if (pt_cmpR op_lt (pv 2) pe_int (nomark _))
                  (pss_one (ps_set (i := 4) sc_law_graph.nd rfl (Or.inl rfl) (pe_call G_law_ringed (hr.mono (by first | decide | omega)) (by rfl) D_law_ringed.g D_law_ringed.F.kp D_law_ringed.b .nil pass0 (pa_cons (pv 0) (pa_cons (pv 3) pa_nil)))))
                  (pss_one (ps_if (pt_cmpR op_eq (pv 2) pe_int (nomark _))
                    (pss_one (ps_set (i := 4) sc_law_graph.nd rfl (Or.inl rfl) (pe_call G_law_other (hr.mono (by first | decide | omega)) (by rfl) D_law_other.g D_law_other.F.kp D_law_other.b .nil pass0 (pa_cons (pe_call G_law_clique_graph (hr.mono (by first | decide | omega)) (by rfl) D_law_clique_graph.g D_law_clique_graph.F.kp D_law_clique_graph.b .nil pass0 (pa_cons (pv 0) (pa_cons (pv 3) pa_nil))) pa_nil))))
                    (pss_one (ps_set (i := 4) sc_law_graph.nd rfl (Or.inl rfl) (pe_call G_law_random_graph (hr.mono (by first | decide | omega)) (by rfl) D_law_random_graph.g D_law_random_graph.F.kp D_law_random_graph.b .nil pass0 (pa_cons (pv 0) (pa_cons (pv 1) pa_nil))))))))))))))))))
      (pss_cons (ps_if (pt_cmpR op_eq (pe_call G_law_draw (hr.mono (by first | decide | omega)) (by rfl) D_law_draw.g D_law_draw.F.kp D_law_draw.b .nil pass0 (pa_cons (pv 0) (pa_cons pe_int pa_nil))) pe_int (nomark _))
        (pss_one (ps_set (i := 4) sc_law_graph.nd rfl (Or.inl rfl) (pe_call G_law_other (hr.mono (by first | decide | omega)) (by rfl) D_law_other.g D_law_other.F.kp D_law_other.b .nil pass0 (pa_cons (pv 4) pa_nil))))
        pss_nil)
      (pss_cons (ps_if (pt_cmpR op_gt (pe_call G_law_draw (hr.mono (by first | decide | omega)) (by rfl) D_law_draw.g D_law_draw.F.kp D_law_draw.b .nil pass0 (pa_cons (pv 0) (pa_cons pe_int pa_nil))) pe_int (nomark _))
        (pss_one (ps_set (i := 4) sc_law_graph.nd rfl (Or.inl rfl) (pe_call G_law_moved (hr.mono (by first | decide | omega)) (by rfl) D_law_moved.g D_law_moved.F.kp D_law_moved.b .nil pass0 (pa_cons (pv 4) (pa_cons (pe_call G_law_shuffled (hr.mono (by first | decide | omega)) (by rfl) D_law_shuffled.g D_law_shuffled.F.kp D_law_shuffled.b .nil pass0 (pa_cons (pv 0) (pa_cons (pe_listRg rfl (by rfl) T.list (prg_1 (by rfl) T.range (pe_ix (ix_tupK (K := K) rfl) (pv 4) pe_int (fun _ _ => rfl)))) pa_nil))) pa_nil)))))
        pss_nil)
      (pss_one (ps_ret (pv 4)))))))), ?_⟩
    refine r_at (σ := [some _, some _, none, none, none]) rfl ?_
    let W : L2.St → Hp → Prop := fun σ' H' => ∃ (x2 x3 : Option V) (v : V) (n : Int) (qs : List (Int × Int)), σ' = [some (.ref a), some (.int most), x2, x3, some v] ∧ Pool H' a s0 ∧ Gr a H H' ∧ GrAt H' v n qs ∧ GoodG n qs ∧ n ≤ most
    walk_at "z"
    refine ⟨a, s0, 14, rfl, hP, by omega, by omega, fun way H1 w0 w1 hP1 g1 => ?_⟩
    walk_at "z"
    refine ⟨a, s0, most, rfl, hP1, by omega, by omega, fun r H2 r0 r1 hP2 g2 => ?_⟩
    walk_at "z"
    refine r_lstN sz2 fun l hl => ?_
    walk_at "z"
    refine ⟨a, s0, 3, rfl, hP2.mono (same_new hl), by omega, by omega, fun r2 H3 _ _ hP3 g3 => ?_⟩
    have hl2 := g3 _ _ (new_ne hP2 hl).1 upd_same
    walk_at "z"
    refine r_pick2 hl2 fun n hn => ?_
    have g : Gr a H H3 := ((g1.trans g2).trans (.new hl)).trans g3
    have n0 : 1 ≤ n := by omega
    have n1 : n ≤ most := by omega
    walk_at "z1"
    refine r_seqW W ?tail fun B hB => ?head
    case head =>
      -- what each way gives is enough
      have fin : ∀ (v : V) (qs : List (Int × Int)) (H' : Hp), Pool H' a s0 → Gr a H3 H' → GrAt H' v n qs → GoodG n qs → B [some (.ref a), some (.int most), some (.int way), some (.int n), some v] H' := fun v qs H' p' g' hv hg =>
        hB _ _ ⟨_, _, v, n, qs, rfl, p', g.trans g', hv, hg, n1⟩
      have nn : ((n.toNat : Nat) : Int) = n := by omega
      have flt : ∀ (v : V) (c : Int × Int → Bool) (H' : Hp), Pool H' a s0 → Gr a H3 H' → GrAt H' v n ((allP n.toNat).filter c) → B [some (.ref a), some (.int most), some (.int way), some (.int n), some v] H' := fun v c H' p' g' hv =>
        fin v _ H' p' g' hv (by have := good_filter (n := n.toNat) (by omega) c; rw [nn] at this; exact this)
      walk_at "z"
      refine r_ite (fun h0 => ?_) (fun h0 => ?_)
      · walk_at "z"
        refine ⟨a, s0, n, rfl, hP3, by omega, by omega, fun f xs ps H4 hf hP4 g4 hx hp hlen => ?_⟩
        walk_at "z"
        refine ⟨f, xs, ps, rfl, .inl (.inl hx), hp, by omega, fun v c H5 s5 hv => ?_⟩
        walk_at "z"
        rw [hlen] at hv
        exact flt v c H5 (hP4.mono s5) (g4.trans (.of_same s5)) (by rw [nn] at hv; exact hv)
      walk_at "z"
      refine r_ite (fun h0 => ?_) (fun h0 => ?_)
      · walk_at "z"
        refine r_lRg (by omega) (by omega) fun l1 hl1 => ?_
        walk_at "z"
        refine r_lRg (by omega) (by omega) fun l2 hl2 => ?_
        walk_at "z"
        have hP4 := hP3.mono (same_new (o := .lst ((rgI n).map V.int)) hl1)
        have hP5 := hP4.mono (same_new (o := .lst ((rgI n).map V.int)) hl2)
        have n12 : l1 ≠ l2 := ne_of_none upd_same hl2
        refine ⟨a, s0, l2, rgI n, rfl, hP5, (new_ne hP4 hl2).1, upd_same, by rw [rgI_len]; omega, fun f ms H4 hf hfa hP6 g6 hms pm => ?_⟩
        walk_at "z"
        have h1 := g6 _ _ (new_ne hP3 hl1).1 ((upd_ne n12).trans upd_same)
        refine ⟨l1, f, rgI n, ms, rfl, .inl (.inl h1), .inl (.inl hms), by rw [rgI_len]; omega, fun z z0 z1 => ?_, fun v c H5 s5 hv => ?_⟩
        · rw [rgI_len] at z1
          have hm : z ∈ rgI n := mem_rgI.mpr ⟨z0, by omega⟩
          exact ⟨hm, pm.mem_iff.mpr hm⟩
        · walk_at "z"
          rw [rgI_len] at hv
          exact flt v c H5 (hP6.mono s5) ((((Gr.new hl1).trans (.new hl2)).trans g6).trans (.of_same s5)) (by rw [nn] at hv; exact hv)
      walk_at "z"
      refine r_ite (fun h0 => ?_) (fun h0 => ?_)
      · walk_at "z"
        refine ⟨a, s0, n, rfl, hP3, by omega, by omega, fun v qs H4 hP4 g4 hv hg => ?_⟩
        walk_at "z"
        exact fin v qs H4 hP4 g4 hv hg
      walk_at "z"
      refine r_ite (fun h0 => ?_) (fun h0 => ?_)
      · walk_at "z"
        refine ⟨a, s0, n, rfl, hP3, by omega, by omega, fun v qs H4 hP4 g4 hv hg => ?_⟩
        walk_at "z"
        exact fin v qs H4 hP4 g4 hv hg
      walk_at "z"
      refine r_ite (fun h0 => ?_) (fun h0 => ?_)
      · walk_at "z"
        refine r_lRg (by omega) (by omega) fun l1 hl1 => ?_
        walk_at "z"
        have hP4 := hP3.mono (same_new (o := .lst ((rgI n).map V.int)) hl1)
        refine ⟨a, s0, l1, rgI n, rfl, hP4, upd_same, by rw [rgI_len]; omega, by rw [rgI_len]; omega, fun v t H4 hP5 g5 ht hwf ⟨ms, pm⟩ => ?_⟩
        walk_at "z"
        have nd : (lv t).Nodup := (List.nodup_append.mp (pm.nodup_iff.mpr (rgI_nodup n))).1
        have ll : (lv t).length ≤ 60 := by
          have := pm.length_eq
          rw [List.length_append, rgI_len] at this
          omega
        have mem : ∀ z ∈ lv t, 0 ≤ z ∧ z < n := fun z hz => mem_rgI.mp (pm.mem_iff.mp (List.mem_append_left _ hz))
        refine ⟨v, t, rfl, ht, by have := dp_lv t hwf; omega, ll, nd, fun f xs ps H5 s5 hx hp hm hlen => ?_⟩
        walk_at "z"
        have sq : (lv t).length * (lv t).length ≤ 60 * 60 := Nat.mul_le_mul ll ll
        refine ⟨n, f, xs, ps, rfl, .inl (.inl hx), hp, by omega, fun v2 qs H6 s6 hv asc memq => ?_⟩
        walk_at "z"
        refine fin v2 qs H6 ((hP5.mono s5).mono s6) ((((Gr.new hl1).trans g5).trans (.of_same s5)).trans (.of_same s6)) hv (good_of n0 (fun r hr => ?_) asc memq)
        obtain ⟨k1, k2, k3⟩ := hm r hr
        have := mem r.1 k1
        have := mem r.2 k2
        omega
      walk_at "z"
      refine r_ite (fun h0 => ?_) (fun h0 => ?_)
      · walk_at "z"
        refine ⟨a, s0, n, rfl, hP3, by omega, by omega, fun v qs H4 hP4 g4 hv hg => ?_⟩
        walk_at "z"
        exact fin v qs H4 hP4 g4 hv hg
      walk_at "z"
      refine r_ite (fun h0 => ?_) (fun h0 => ?_)
      · walk_at "z"
        refine ⟨a, s0, n, rfl, hP3, by omega, by omega, fun v qs H4 hP4 g4 hv hg => ?_⟩
        walk_at "z"
        refine ⟨v, n.toNat, qs, rfl, by rw [nn]; exact hv, by omega, fun v2 H5 s5 hv2 => ?_⟩
        walk_at "z"
        exact flt v2 _ H5 (hP4.mono s5) (g4.trans (.of_same s5)) (by rw [nn] at hv2; exact hv2)
      · walk_at "z"
        refine ⟨a, s0, most, rfl, hP3, m1, by omega, fun n2 k1 k2 v qs H4 hP4 g4 hv hg => ?_⟩
        walk_at "z"
        exact hB _ _ ⟨_, _, v, n2, qs, rfl, hP4, g.trans g4, hv, hg, k2⟩
    case tail =>
      rintro σ' H4 ⟨x2, x3, v, n2, qs, rfl, hP4, g4, hv, hg, hn2⟩
      refine r_seqW W ?tail2 fun B hB => ?head2
      case head2 =>
        walk_at "z"
        refine ⟨a, s0, 4, rfl, hP4, by omega, by omega, fun c H5 _ _ hP5 g5 => ?_⟩
        have hv5 := hv.tk (g5.tk hP4)
        walk_at "z"
        refine r_ite (fun h0 => ?_) (fun h0 => ?_)
        · walk_at "z"
          have nn : ((n2.toNat : Nat) : Int) = n2 := by have := hg.one; omega
          refine ⟨v, n2.toNat, qs, rfl, by rw [nn]; exact hv5, by omega, fun v2 H6 s6 hv2 => ?_⟩
          walk_at "z"
          have gf := good_filter (n := n2.toNat) (by have := hg.one; omega) fun p => decide (p ∉ qs)
          rw [nn] at hv2 gf
          exact hB _ _ ⟨_, _, v2, n2, _, rfl, hP5.mono s6, (g4.trans g5).trans (.of_same s6), hv2, gf, hn2⟩
        · walk_at "z"
          exact hB _ _ ⟨_, _, v, n2, qs, rfl, hP5, g4.trans g5, hv5, hg, hn2⟩
      case tail2 =>
        rintro σ' H4 ⟨x2, x3, v, n2, qs, rfl, hP4, g4, hv, hg, hn2⟩
        refine r_seqW W ?tail3 fun B hB => ?head3
        case head3 =>
          walk_at "z"
          refine ⟨a, s0, 3, rfl, hP4, by omega, by omega, fun c H5 _ _ hP5 g5 => ?_⟩
          have hv5 := hv.tk (g5.tk hP4)
          walk_at "z"
          refine r_ite (fun h0 => ?_) (fun h0 => ?_)
          · obtain ⟨ga, e, rfl, hga, he⟩ := id hv5
            walk_at "z"
            refine r_lRg (by have := hg.one; omega) (by omega) fun l1 hl1 => ?_
            walk_at "z"
            have hP6 := hP5.mono (same_new (o := .lst ((rgI n2).map V.int)) hl1)
            refine ⟨a, s0, l1, rgI n2, rfl, hP6, (new_ne hP5 hl1).1, upd_same, by rw [rgI_len]; omega, fun f ms H6 hf hfa hP7 g7 hms pm => ?_⟩
            have gk : Gr a H5 H6 := (Gr.new hl1).trans g7
            have hv6 := hv5.tk (gk.tk hP5)
            walk_at "z"
            have lms : ms.length = n2.toNat := by rw [pm.length_eq, rgI_len]
            have lqs : qs.length ≤ 10000 := by
              have h1 := nodup_le qs (allP n2.toNat) (asc_nodup hg.asc) fun p hp => by
                obtain ⟨b1, b2, b3⟩ := hg.inn p hp
                exact mem_allP.mpr ⟨b1, b2, by omega⟩
              have h2 := allP_small (n := n2.toNat) (by omega)
              omega
            refine ⟨.ref ga, f, n2, qs, ms, rfl, hv6, .inl (.inl (.inl hms)), lqs, fun p hp => ?_, fun v2 rs H7 s7 hv7 asc mem => ?_⟩
            · obtain ⟨b1, b2, b3⟩ := hg.inn p hp
              omega
            · walk_at "z"
              exact hB _ _ ⟨_, _, v2, n2, rs, rfl, hP7.mono s7, ((g4.trans g5).trans gk).trans (.of_same s7), hv7, moved_good hg pm asc mem, hn2⟩
          · walk_at "z"
            exact hB _ _ ⟨_, _, v, n2, qs, rfl, hP5, g4.trans g5, hv5, hg, hn2⟩
        case tail3 =>
          rintro σ' H4 ⟨x2, x3, v, n2, qs, rfl, hP4, g4, hv, hg, hn2⟩
          walk_at "z"
          exact q n2 hg.one hn2 v qs H4 hP4 g4 hv hg
end

set_option Elab.async false
set_option linter.all false
set_option maxRecDepth 100000
set_option maxHeartbeats 4000000
open PySem PySem.Spec PyProof.Rows L2

abbrev s_law_same : Stmt := topS 26
theorem sc_law_same : FnScope ["actual", "due", "k"] ["actual", "due"] (defScope s_law_same) := ⟨rfl, rfl, rfl, by decide +kernel, rfl, by decide +kernel, by decide +kernel⟩

/-! ## values that are alike -/
def kd : PyData → String
  | .none => "NoneType"
  | .bool _ => "bool"
  | .int _ => "int"
  | .str _ => "str"
  | .list _ => "list"
  | .tuple _ => "tuple"
  | .dict _ => "dict"
/-- no deeper than d, and nowhere long -/
def sm : Nat → PyData → Prop
  | 0, _ => False
  | _ + 1, .none => True
  | _ + 1, .bool _ => True
  | _ + 1, .int _ => True
  | _ + 1, .str x => x.cps.all (· < 0x110000) = true
  | d + 1, .list xs => xs.length ≤ 100000 ∧ ∀ x ∈ xs, sm d x
  | d + 1, .tuple xs => xs.length ≤ 100000 ∧ ∀ x ∈ xs, sm d x
  | _ + 1, .dict _ => False
section
variable {P : Program} {w : World} {K : PySem.W.Frag} {mg : Str → Option Value} {base : Heap}
theorem DpAll.pd {H : Hp} : ∀ (ds : List PyData) {vs : List V}, DpAll K H vs ds → Paired (Dp K H) vs ds
  | [], _, .nil => .nil
  | _ :: ds, _, .cons h r => .cons h (DpAll.pd ds r)
theorem DpAll.of {H : Hp} : ∀ {ds : List PyData} {vs : List V}, Paired (Dp K H) vs ds → DpAll K H vs ds
  | _, _, .nil => .nil
  | _, _, .cons h r => .cons h (DpAll.of r)
theorem ty_dp {H : Hp} {x : V} {t : PyData} (h : Dp K H x t) : TyX K H x (.type (kd t)) := by
  cases h with
  | non => exact .base .non
  | bl b => exact .base (.bl b)
  | int i => exact .base (.int i)
  | str s => exact .base (.str s)
  | lst h _ =>
    rcases h with (h | ⟨ob, h⟩) | ⟨o, its, n, h1, h2, _⟩
    · exact .base (.lst h)
    · exact .base (.frz h)
    · exact .kList h1 h2
  | tup h _ =>
    rcases h with (h | ⟨ob, h⟩) | ⟨o, its, n, h1, h2, _⟩
    · exact .base (.tup h)
    · exact .fTuple h
    · exact .kTuple h1 h2
theorem r_isiD {H : Hp} {Q : VK} {x : V} {t : PyData} {c k : String} {b : Bool} (h : Dp K H x t) (e1 : kd t = k) (e : kitB k c = some b) (q : Q (.bl b) H) : rIsi K [x, .ty c] H Q :=
  ⟨x, .ty c, .type k, .type c, b, rfl, .ty _, e1 ▸ ty_dp h, kit_ty e, q⟩
theorem r_eqD {H : Hp} {Q : VK} {x y : V} {t : PyData} (hx : Dp K H x t) (hy : Dp K H y t) (c : t.canLay0 = true) (d : t.depth ≤ 64) (q : Q (.bl true) H) : rEqD K x y H Q := by
  have e : SeqAt.shaped t = true := by
    unfold SeqAt.shaped
    rw [c, decide_eq_true d]
    rfl
  refine ⟨t, t, hx, hy, e, e, ?_⟩
  rw [PySem.SeqAt.eqv_refl t c]
  exact q
theorem r_isN {H : Hp} {Q : VK} {x : V} (q : Q (.bl (decide (x = .non))) H) : (fun (x y : V) (H : Hp) (Q : VK) => y = .non ∧ Q (.bl (decide (x = .non))) H) x .non H Q := ⟨rfl, q⟩
def spSame (K : PySem.W.Frag) (d : Nat) : Sp := fun vs H Q _ => ∃ (x y : V) (t : PyData), vs = [x, y] ∧ Dp K H x t ∧ Dp K H y t ∧ sm d t ∧ Q (.bl true) H
theorem ok_same (T : Blt mg) (D_law_same : DefAt K mg "_law_same" s_law_same ["actual", "due"]) : ∀ d : Nat, FnOk P w K mg base CX0 d D_law_same.f D_law_same.fd ["actual", "due"] (spSame K d)
  | 0 => fn_none.imp fun vs H Q E h => by
    obtain ⟨_, _, _, _, _, _, h, _⟩ := h
    exact h
  | d + 1 => by
    have G_law_same := ok_same T D_law_same d
    refine D_law_same.F.ok sc_law_same (fun vs H Q E h => ?_) (fun cdv A outer s H vs Q E hr h => ?_)
    · obtain ⟨x, y, t, rfl, _⟩ := h
      rfl
    · obtain ⟨x, y, t, rfl, hx, hy, hd, q⟩ := h
      refine ⟨_, (pss_cons (ps_if (PW.pt (pw_or (pt_val (pe_callB (call_isiK (K := K) rfl) (by rfl) T.isinstance (by decide +kernel) (pa_cons (pv 1) (pa_cons (pe_bltn (v := .ty "tuple") (u := .type "tuple") (by rfl) T.tuple (by decide +kernel) rfl) pa_nil)))) (pw_or1 (pt_val (pe_callB (call_isiK (K := K) rfl) (by rfl) T.isinstance (by decide +kernel) (pa_cons (pv 1) (pa_cons (pe_bltn (v := .ty "list") (u := .type "list") (by rfl) T.list (by decide +kernel) rfl) pa_nil)))))))
        (pss_cons (ps_if (PW.pt (pw_or (pt_cmpR op_ne (pe_callB (call_isiK (K := K) rfl) (by rfl) T.isinstance (by decide +kernel) (pa_cons (pv 1) (pa_cons (pe_bltn (v := .ty "tuple") (u := .type "tuple") (by rfl) T.tuple (by decide +kernel) rfl) pa_nil))) (pe_callB (call_isiK (K := K) rfl) (by rfl) T.isinstance (by decide +kernel) (pa_cons (pv 0) (pa_cons (pe_bltn (v := .ty "tuple") (u := .type "tuple") (by rfl) T.tuple (by decide +kernel) rfl) pa_nil))) (nomark _)) (pw_or1 (pt_cmpR op_ne (pe_callB (call_isiK (K := K) rfl) (by rfl) T.isinstance (by decide +kernel) (pa_cons (pv 1) (pa_cons (pe_bltn (v := .ty "list") (u := .type "list") (by rfl) T.list (by decide +kernel) rfl) pa_nil))) (pe_callB (call_isiK (K := K) rfl) (by rfl) T.isinstance (by decide +kernel) (pa_cons (pv 0) (pa_cons (pe_bltn (v := .ty "list") (u := .type "list") (by rfl) T.list (by decide +kernel) rfl) pa_nil))) (nomark _)))))
          (pss_one (ps_ret pe_bl))
          pss_nil)
        (pss_cons (ps_if (pt_cmpR op_ne (pe_callB (call_lenK (K := K) rfl) (by rfl) T.len (by decide +kernel) (pa_cons (pv 0) pa_nil)) (pe_callB (call_lenK (K := K) rfl) (by rfl) T.len (by decide +kernel) (pa_cons (pv 1) pa_nil)) (nomark _))
          (pss_one (ps_ret pe_bl))
          pss_nil)
        (pss_cons (ps_for PassesOwn.never (by rfl) (pi_range1 (by rfl) T.range (pa_cons (pe_callB (call_lenK (K := K) rfl) (by rfl) T.len (by decide +kernel) (pa_cons (pv 1) pa_nil)) pa_nil)) (pg_name (i := 2) sc_law_same.nd rfl (Or.inl rfl))
          (pss_one (ps_if (pt_not (pt_val (pe_call G_law_same (hr.mono (by first | decide | omega)) (by rfl) D_law_same.g D_law_same.F.kp D_law_same.b .nil pass0 (pa_cons (pe_ix (ix_eitherK (K := K) rfl) (pv 0) (pv 2) (fun _ _ => rfl)) (pa_cons (pe_ix (ix_eitherK (K := K) rfl) (pv 1) (pv 2) (fun _ _ => rfl)) pa_nil)))))
            (pss_one (ps_ret pe_bl))
            pss_nil)))
        (pss_one (ps_ret pe_bl)))))
        pss_nil)
      (pss_cons (ps_if (pt_cmpR op_isN (pv 1) pe_non (nomark _))
        (pss_one (ps_ret (pe_cmpR op_isN (pv 0) pe_non (nomark _))))
        pss_nil)
      (pss_cons (ps_if (pt_val (pe_callB (call_isiK (K := K) rfl) (by rfl) T.isinstance (by decide +kernel) (pa_cons (pv 1) (pa_cons (pe_bltn (v := .ty "bool") (u := .type "bool") (by rfl) T.bool (by decide +kernel) rfl) pa_nil))))
        (pss_one (ps_ret (pe_and (pe_callB (call_isiK (K := K) rfl) (by rfl) T.isinstance (by decide +kernel) (pa_cons (pv 0) (pa_cons (pe_bltn (v := .ty "bool") (u := .type "bool") (by rfl) T.bool (by decide +kernel) rfl) pa_nil))) (pe_one (pe_cmpR (op_eqDK (K := K) rfl hr.units) (pv 0) (pv 1) (nomark _))))))
        pss_nil)
      (pss_cons (ps_if (pt_val (pe_callB (call_isiK (K := K) rfl) (by rfl) T.isinstance (by decide +kernel) (pa_cons (pv 1) (pa_cons (pe_bltn (v := .ty "int") (u := .type "int") (by rfl) T.int (by decide +kernel) rfl) pa_nil))))
        (pss_one (ps_ret (pe_and (pe_callB (call_isiK (K := K) rfl) (by rfl) T.isinstance (by decide +kernel) (pa_cons (pv 0) (pa_cons (pe_bltn (v := .ty "int") (u := .type "int") (by rfl) T.int (by decide +kernel) rfl) pa_nil))) (pe_and (pe_not (pe_callB (call_isiK (K := K) rfl) (by rfl) T.isinstance (by decide +kernel) (pa_cons (pv 0) (pa_cons (pe_bltn (v := .ty "bool") (u := .type "bool") (by rfl) T.bool (by decide +kernel) rfl) pa_nil)))) (pe_one (pe_cmpR (op_eqDK (K := K) rfl hr.units) (pv 0) (pv 1) (nomark _)))))))
        pss_nil)
      (pss_one (ps_ret (pe_and (pe_callB (call_isiK (K := K) rfl) (by rfl) T.isinstance (by decide +kernel) (pa_cons (pv 0) (pa_cons (pe_bltn (v := .ty "str") (u := .type "str") (by rfl) T.str (by decide +kernel) rfl) pa_nil))) (pe_one (pe_cmpR (op_eqDK (K := K) rfl hr.units) (pv 0) (pv 1) (nomark _)))))))))), ?_⟩
      refine r_at (σ := [some _, some _, none]) rfl ?_
      cases t with
      | none =>
        cases hx; cases hy
        walk_at "z"
        refine r_isiD .non (k := "NoneType") rfl (b := false) (by decide +kernel) ?_
        walk_at "z"
        refine r_isiD .non (k := "NoneType") rfl (b := false) (by decide +kernel) ?_
        walk_at "z"
        refine r_isN ?_
        walk_at "z"
        refine iteT ?_
        walk_at "z"
        refine r_isN ?_
        exact q
      | bool b =>
        cases hx; cases hy
        walk_at "z"
        refine r_isiD (.bl b) (k := "bool") rfl (b := false) (by decide +kernel) ?_
        walk_at "z"
        refine r_isiD (.bl b) (k := "bool") rfl (b := false) (by decide +kernel) ?_
        walk_at "z"
        refine r_isN ?_
        walk_at "z"
        refine iteF ?_
        walk_at "z"
        refine r_isiD (.bl b) (k := "bool") rfl (b := true) (by decide +kernel) ?_
        walk_at "z"
        refine r_isiD (.bl b) (k := "bool") rfl (b := true) (by decide +kernel) ?_
        walk_at "z"
        exact r_eqD (.bl b) (.bl b) (by simp [PyData.canLay0]) (by simp [PyData.depth]) q
      | int i =>
        cases hx; cases hy
        walk_at "z"
        refine r_isiD (.int i) (k := "int") rfl (b := false) (by decide +kernel) ?_
        walk_at "z"
        refine r_isiD (.int i) (k := "int") rfl (b := false) (by decide +kernel) ?_
        walk_at "z"
        refine r_isN ?_
        walk_at "z"
        refine iteF ?_
        walk_at "z"
        refine r_isiD (.int i) (k := "int") rfl (b := false) (by decide +kernel) ?_
        walk_at "z"
        refine r_isiD (.int i) (k := "int") rfl (b := true) (by decide +kernel) ?_
        walk_at "z"
        refine r_isiD (.int i) (k := "int") rfl (b := true) (by decide +kernel) ?_
        walk_at "z"
        refine r_isiD (.int i) (k := "int") rfl (b := false) (by decide +kernel) ?_
        walk_at "z"
        refine iteT ?_
        walk_at "z"
        exact r_eqD (.int i) (.int i) (by simp [PyData.canLay0]) (by simp [PyData.depth]) q
      | str z =>
        cases hx; cases hy
        walk_at "z"
        refine r_isiD (.str z) (k := "str") rfl (b := false) (by decide +kernel) ?_
        walk_at "z"
        refine r_isiD (.str z) (k := "str") rfl (b := false) (by decide +kernel) ?_
        walk_at "z"
        refine r_isN ?_
        walk_at "z"
        refine iteF ?_
        walk_at "z"
        refine r_isiD (.str z) (k := "str") rfl (b := false) (by decide +kernel) ?_
        walk_at "z"
        refine r_isiD (.str z) (k := "str") rfl (b := false) (by decide +kernel) ?_
        walk_at "z"
        refine r_isiD (.str z) (k := "str") rfl (b := true) (by decide +kernel) ?_
        walk_at "z"
        exact r_eqD (.str z) (.str z) (by unfold PyData.canLay0; exact hd) (by simp [PyData.depth]) q
      | list ds =>
        obtain ⟨hn, hm⟩ := hd
        cases id hx with
        | @lst a xs _ hxs hxd =>
        cases id hy with
        | @lst b ys _ hys hyd =>
        have px := DpAll.pd _ hxd
        have py := DpAll.pd _ hyd
        have lx := px.length
        have ly := py.length
        walk_at "z"
        refine r_isiD hy (k := "list") rfl (b := false) (by decide +kernel) ?_
        walk_at "z"
        refine r_isiD hy (k := "list") rfl (b := true) (by decide +kernel) ?_
        walk_at "z"
        refine r_isiD hy (k := "list") rfl (b := false) (by decide +kernel) ?_
        walk_at "z"
        refine r_isiD hx (k := "list") rfl (b := false) (by decide +kernel) ?_
        walk_at "z"
        refine iteF ?_
        walk_at "z"
        refine r_isiD hy (k := "list") rfl (b := true) (by decide +kernel) ?_
        walk_at "z"
        refine r_isiD hx (k := "list") rfl (b := true) (by decide +kernel) ?_
        walk_at "z"
        refine iteF ?_
        walk_at "z"
        refine r_iteN (fun h => absurd (by omega) h) (fun _ => ?_)
        walk_at "z"
        walk_at "z"
        refine r_rg1 (by omega) (forR_range (fun i σ' H' => H' = H ∧ ∃ x2, σ' = [some (.ref a), some (.ref b), x2]) ⟨rfl, _, rfl⟩ ?_ ?_)
        · rintro i σ' H' hi ⟨rfl, x2, rfl⟩
          have hi' : i < ds.length := by omega
          obtain ⟨x, hxi, hxt⟩ := pd_get2 px (List.getElem?_eq_getElem hi')
          obtain ⟨y, hyi, hyt⟩ := pd_get2 py (List.getElem?_eq_getElem hi')
          have e0 : (0 : Int) + (i : Int) = i := by omega
          walk_at "z"
          rw [e0]
          refine r_ixE (.inl hxs) (atI_nat hxi) ?_
          walk_at "z"
          refine r_ixE (.inl hys) (atI_nat hyi) ?_
          walk_at "z"
          refine ⟨x, y, ds[i], rfl, hxt, hyt, hm _ (List.getElem_mem hi'), ?_⟩
          walk_at "z"
          refine iteF ?_
          exact ⟨rfl, _, rfl⟩
        · rintro σ' H' ⟨rfl, x2, rfl⟩
          walk_at "z"
          exact q
      | tuple ds =>
        obtain ⟨hn, hm⟩ := hd
        cases id hx with
        | @tup a xs _ hxs hxd =>
        cases id hy with
        | @tup b ys _ hys hyd =>
        have px := DpAll.pd _ hxd
        have py := DpAll.pd _ hyd
        have lx := px.length
        have ly := py.length
        walk_at "z"
        refine r_isiD hy (k := "tuple") rfl (b := true) (by decide +kernel) ?_
        walk_at "z"
        refine r_isiD hy (k := "tuple") rfl (b := true) (by decide +kernel) ?_
        walk_at "z"
        refine r_isiD hx (k := "tuple") rfl (b := true) (by decide +kernel) ?_
        walk_at "z"
        refine iteF ?_
        walk_at "z"
        refine r_isiD hy (k := "tuple") rfl (b := false) (by decide +kernel) ?_
        walk_at "z"
        refine r_isiD hx (k := "tuple") rfl (b := false) (by decide +kernel) ?_
        walk_at "z"
        refine iteF ?_
        walk_at "z"
        refine r_iteN (fun h => absurd (by omega) h) (fun _ => ?_)
        walk_at "z"
        walk_at "z"
        refine r_rg1 (by omega) (forR_range (fun i σ' H' => H' = H ∧ ∃ x2, σ' = [some (.ref a), some (.ref b), x2]) ⟨rfl, _, rfl⟩ ?_ ?_)
        · rintro i σ' H' hi ⟨rfl, x2, rfl⟩
          have hi' : i < ds.length := by omega
          obtain ⟨x, hxi, hxt⟩ := pd_get2 px (List.getElem?_eq_getElem hi')
          obtain ⟨y, hyi, hyt⟩ := pd_get2 py (List.getElem?_eq_getElem hi')
          have e0 : (0 : Int) + (i : Int) = i := by omega
          walk_at "z"
          rw [e0]
          refine r_ixE (.inr hxs) (atI_nat hxi) ?_
          walk_at "z"
          refine r_ixE (.inr hys) (atI_nat hyi) ?_
          walk_at "z"
          refine ⟨x, y, ds[i], rfl, hxt, hyt, hm _ (List.getElem_mem hi'), ?_⟩
          walk_at "z"
          refine iteF ?_
          exact ⟨rfl, _, rfl⟩
        · rintro σ' H' ⟨rfl, x2, rfl⟩
          walk_at "z"
          exact q
      | dict ds => exact hd.elim
end

set_option Elab.async false
set_option linter.all false
set_option maxRecDepth 100000
set_option maxHeartbeats 4000000
open PySem PySem.Spec PyProof.Rows L2

section
variable {P : Program} {w : World} {K : PySem.W.Frag} {mg : Str → Option Value} {base : Heap}
/-- (u, v) or (v, u) -/
def spEdge : Sp := fun vs H Q _ => ∃ u v : Int, vs = [.int u, .int v] ∧ ∀ x H', Same H H' → IsP H' x (nrm (u, v)) → Q x H'
theorem flt_take {α : Type} {ps : List α} {i : Nat} {p : α} (h : ps[i]? = some p) (c : α → Bool) : (ps.take (i + 1)).filter c = (ps.take i).filter c ++ (if c p = true then [p] else []) := by
  rw [take_next h, List.filter_append, List.filter_cons, List.filter_nil]
theorem flt_len {α : Type} {ps : List α} {i k : Nat} (c : α → Bool) (h : ps.length ≤ k) : ((ps.take i).filter c).length ≤ k := by
  have h1 := List.length_filter_le c (ps.take i)
  rw [List.length_take] at h1
  omega
def spAre : Sp := fun vs H Q _ => ∃ (g : V) (n u v : Int) (ps : List (Int × Int)), vs = [g, .int u, .int v] ∧ GrAt H g n ps ∧ ∀ H', Same H H' → Q (.bl (decide (nrm (u, v) ∈ ps))) H'
end

set_option Elab.async false
set_option linter.all false
set_option maxRecDepth 100000
set_option maxHeartbeats 4000000
open PySem PySem.Spec PyProof.Rows L2

section
variable {P : Program} {w : World} {K : PySem.W.Frag} {mg : Str → Option Value} {base : Heap}
theorem inV_ints (ns : List Int) (z : Int) : inV (.int z) (ns.map V.int) = decide (z ∈ ns) := by
  unfold inV
  rw [List.any_map]
  refine Bool.eq_iff_iff.mpr ?_
  rw [List.any_eq_true, decide_eq_true_eq]
  constructor
  · rintro ⟨y, hy, h⟩
    have h1 : eqV (.int y) (.int z) = true := h
    rw [eqV_int] at h1
    rw [← of_decide_eq_true h1]
    exact hy
  · intro h
    refine ⟨z, h, ?_⟩
    show eqV (.int z) (.int z) = true
    rw [eqV_int]
    exact decide_eq_true rfl
theorem r_ninI {H : Hp} {Q : VK} {m : Addr} {ns : List Int} {z : Int} (h : SqL K H m (ns.map V.int) ∨ SqT K H m (ns.map V.int)) (q : Q (.bl (!decide (z ∈ ns))) H) : rIn K true (.int z) (.ref m) H Q := ⟨m, _, rfl, h, rfl, flat_ints ns, by
  rw [if_pos rfl, inV_ints]
  exact q⟩
theorem r_inI {H : Hp} {Q : VK} {m : Addr} {ns : List Int} {z : Int} (h : SqL K H m (ns.map V.int) ∨ SqT K H m (ns.map V.int)) (q : Q (.bl (decide (z ∈ ns))) H) : rIn K false (.int z) (.ref m) H Q := ⟨m, _, rfl, h, rfl, flat_ints ns, by
  rw [if_neg Bool.false_ne_true, inV_ints]
  exact q⟩
/-- the edges with both ends in a set -/
def inL (ns : List Int) (ps : List (Int × Int)) : List (Int × Int) := ps.filter fun p => decide (p.1 ∈ ns) && decide (p.2 ∈ ns)
def spEin (K : PySem.W.Frag) : Sp := fun vs H Q _ => ∃ (g : V) (n : Int) (m : Addr) (ns : List Int) (ps : List (Int × Int)), vs = [g, .ref m] ∧ GrAt H g n ps ∧ ps.length ≤ 10000 ∧ (SqL K H m (ns.map V.int) ∨ SqT K H m (ns.map V.int)) ∧
  ∀ (l : Addr) (ys : List V) (H' : Hp), H l = none → Same H H' → H' l = some (.lst ys) → Prs H' ys (inL ns ps) → Q (.ref l) H'
def spIns (K : PySem.W.Frag) : Sp := fun vs H Q _ => ∃ (g : V) (n : Int) (m : Addr) (ns : List Int) (ps : List (Int × Int)), vs = [g, .ref m] ∧ GrAt H g n ps ∧ ps.length ≤ 10000 ∧ (SqL K H m (ns.map V.int) ∨ SqT K H m (ns.map V.int)) ∧
  ∀ (H' : Hp), Same H H' → Q (.int ((inL ns ps).length : Nat)) H'
end

set_option Elab.async false
set_option linter.all false
set_option maxRecDepth 100000
set_option maxHeartbeats 4000000
open PySem PySem.Spec PyProof.Rows L2

theorem asc_extI : ∀ {ps qs : List Int}, ps.Pairwise (· < ·) → qs.Pairwise (· < ·) → (∀ p, p ∈ ps ↔ p ∈ qs) → ps = qs
  | [], [], _, _, _ => rfl
  | [], q :: qs, _, _, h => absurd ((h q).mpr List.mem_cons_self) (by simp)
  | p :: ps, [], _, _, h => absurd ((h p).mp List.mem_cons_self) (by simp)
  | p :: ps, q :: qs, h1, h2, h => by
    obtain ⟨a1, b1⟩ := List.pairwise_cons.mp h1
    obtain ⟨a2, b2⟩ := List.pairwise_cons.mp h2
    have e : p = q := by
      rcases List.mem_cons.mp ((h p).mp List.mem_cons_self) with e | e
      · exact e
      · rcases List.mem_cons.mp ((h q).mpr List.mem_cons_self) with e' | e'
        · exact e'.symm
        · have := a2 p e
          have := a1 q e'
          omega
    subst e
    refine congrArg (p :: ·) (asc_extI b1 b2 fun z => ⟨fun hz => ?_, fun hz => ?_⟩)
    · rcases List.mem_cons.mp ((h z).mp (List.mem_cons_of_mem _ hz)) with e | e
      · have := a1 z hz
        omega
      · exact e
    · rcases List.mem_cons.mp ((h z).mpr (List.mem_cons_of_mem _ hz)) with e | e
      · have := a2 z hz
        omega
      · exact e
theorem rg_asc (k : Nat) : ((List.range k).map fun (i : Nat) => (i : Int)).Pairwise (· < ·) := by
  rw [List.pairwise_map]
  exact List.pairwise_lt_range.imp fun h => by omega
theorem GoodG.len {n : Int} {ps : List (Int × Int)} (g : GoodG n ps) (h : n ≤ 100) : ps.length ≤ 10000 := by
  have h1 := g.one
  refine Nat.le_trans (nodup_le ps (allP n.toNat) (asc_nodup g.asc) fun p hp => ?_) (allP_small (n := n.toNat) (by omega))
  obtain ⟨b1, b2, b3⟩ := g.inn p hp
  exact mem_allP.mpr ⟨b1, b2, by omega⟩
/-- those before, those behind -/
def lowL (ps : List (Int × Int)) (v : Int) : List Int := (ps.filter fun p => decide (p.2 = v)).map fun p => p.1
def highL (ps : List (Int × Int)) (v : Int) : List Int := (ps.filter fun p => decide (p.1 = v)).map fun p => p.2
theorem near_eq {n : Int} {ps : List (Int × Int)} (g : GoodG n ps) (v : Int) : lowL ps v ++ highL ps v = nearL n ps v n.toNat := by
  refine asc_extI ?_ ((rg_asc n.toNat).filter _) fun u => ?_
  · refine List.pairwise_append.mpr ⟨?_, ?_, ?_⟩
    · refine List.pairwise_map.mpr (List.Pairwise.imp_of_mem ?_ (g.asc.filter _))
      intro a b ha hb h
      have h1 := of_decide_eq_true (List.mem_filter.mp ha).2
      have h2 := of_decide_eq_true (List.mem_filter.mp hb).2
      unfold ltP at h
      omega
    · refine List.pairwise_map.mpr (List.Pairwise.imp_of_mem ?_ (g.asc.filter _))
      intro a b ha hb h
      have h1 := of_decide_eq_true (List.mem_filter.mp ha).2
      have h2 := of_decide_eq_true (List.mem_filter.mp hb).2
      unfold ltP at h
      omega
    · intro a ha b hb
      obtain ⟨p, hp, rfl⟩ := List.mem_map.mp ha
      obtain ⟨r, hr, rfl⟩ := List.mem_map.mp hb
      have h1 := of_decide_eq_true (List.mem_filter.mp hp).2
      have h2 := of_decide_eq_true (List.mem_filter.mp hr).2
      have h3 := g.inn p (List.mem_filter.mp hp).1
      have h4 := g.inn r (List.mem_filter.mp hr).1
      show p.1 < r.2
      omega
  · have e : u ∈ nearL n ps v n.toNat ↔ (0 ≤ u ∧ u < n) ∧ u ≠ v ∧ nrm (u, v) ∈ ps := by
      unfold nearL
      rw [List.mem_filter, decide_eq_true_eq]
      exact and_congr mem_rgI Iff.rfl
    have e1 : u ∈ lowL ps v ↔ (u, v) ∈ ps := by
      unfold lowL
      rw [List.mem_map]
      constructor
      · rintro ⟨p, hp, rfl⟩
        have h1 := of_decide_eq_true (List.mem_filter.mp hp).2
        rw [← h1]
        exact (List.mem_filter.mp hp).1
      · exact fun h => ⟨_, List.mem_filter.mpr ⟨h, decide_eq_true rfl⟩, rfl⟩
    have e2 : u ∈ highL ps v ↔ (v, u) ∈ ps := by
      unfold highL
      rw [List.mem_map]
      constructor
      · rintro ⟨p, hp, rfl⟩
        have h1 := of_decide_eq_true (List.mem_filter.mp hp).2
        rw [← h1]
        exact (List.mem_filter.mp hp).1
      · exact fun h => ⟨_, List.mem_filter.mpr ⟨h, decide_eq_true rfl⟩, rfl⟩
    rw [List.mem_append, e, e1, e2]
    unfold nrm
    constructor
    · rintro (h | h)
      · obtain ⟨b1, b2, b3⟩ := g.inn _ h
        dsimp only at b1 b2 b3
        refine ⟨⟨by omega, by omega⟩, by omega, ?_⟩
        rw [show (min (u, v).1 (u, v).2, max (u, v).1 (u, v).2) = (u, v) from Prod.ext (by dsimp only; omega) (by dsimp only; omega)]
        exact h
      · obtain ⟨b1, b2, b3⟩ := g.inn _ h
        dsimp only at b1 b2 b3
        refine ⟨⟨by omega, by omega⟩, by omega, ?_⟩
        rw [show (min (u, v).1 (u, v).2, max (u, v).1 (u, v).2) = (v, u) from Prod.ext (by dsimp only; omega) (by dsimp only; omega)]
        exact h
    · rintro ⟨_, h1, h2⟩
      by_cases c : u < v
      · rw [show (min (u, v).1 (u, v).2, max (u, v).1 (u, v).2) = (u, v) from Prod.ext (by dsimp only; omega) (by dsimp only; omega)] at h2
        exact .inl h2
      · rw [show (min (u, v).1 (u, v).2, max (u, v).1 (u, v).2) = (v, u) from Prod.ext (by dsimp only; omega) (by dsimp only; omega)] at h2
        exact .inr h2
section
variable {P : Program} {w : World} {K : PySem.W.Frag} {mg : Str → Option Value} {base : Heap}
def spNbrs : Sp := fun vs H Q _ => ∃ (g : V) (n v : Int) (ps : List (Int × Int)), vs = [g, .int v] ∧ GrAt H g n ps ∧ GoodG n ps ∧ n ≤ 100 ∧ ∀ (l : Addr) (H' : Hp), H l = none → Same H H' → H' l = some (.lst ((nearL n ps v n.toNat).map V.int)) → Q (.ref l) H'
end

set_option Elab.async false
set_option linter.all false
set_option maxRecDepth 100000
set_option maxHeartbeats 4000000
open PySem PySem.Spec PyProof.Rows L2
/-! graphs and pairs as data -/
def pT (p : Int × Int) : PyData := .tuple [.int p.1, .int p.2]
def gT (n : Int) (ps : List (Int × Int)) : PyData := .tuple [.int n, .tuple (ps.map pT)]
section
variable {K : PySem.W.Frag} {H : Hp} {Q : VK}
theorem dp_pair {x : V} {p : Int × Int} (h : IsP H x p) : Dp K H x (pT p) := by
  obtain ⟨t, rfl, ht⟩ := h
  exact .tup (.inl (.inl ht)) (.cons (.int _) (.cons (.int _) .nil))
theorem dp_prs : ∀ {xs : List V} {ps : List (Int × Int)}, Prs H xs ps → DpAll K H xs (ps.map pT)
  | _, _, .nil => .nil
  | _, _, .cons h r => .cons (dp_pair h) (dp_prs r)
theorem dp_list {l : Addr} {xs : List V} {ps : List (Int × Int)} (h : SqL K H l xs) (hp : Prs H xs ps) : Dp K H (.ref l) (.list (ps.map pT)) := .lst h (dp_prs hp)
theorem dp_graph {v : V} {n : Int} {ps : List (Int × Int)} (h : GrAt H v n ps) : Dp K H v (gT n ps) := by
  obtain ⟨g, e, rfl, hg, xs, he, hp⟩ := h
  exact .tup (.inl (.inl hg)) (.cons (.int _) (.cons (.tup (.inl (.inl he)) (dp_prs hp)) .nil))
theorem sm_pT (d : Nat) (p : Int × Int) : sm (d + 2) (pT p) := by
  refine ⟨by simp, fun x hx => ?_⟩
  rcases List.mem_cons.mp hx with e | e
  · rw [e]; exact trivial
  · rw [List.mem_singleton.mp e]; exact trivial
theorem sm_gT {n : Int} {ps : List (Int × Int)} (h : ps.length ≤ 100000) : sm 4 (gT n ps) := by
  refine ⟨by simp, fun x hx => ?_⟩
  rcases List.mem_cons.mp hx with e | e
  · rw [e]; exact trivial
  · rw [List.mem_singleton.mp e]
    refine ⟨by rw [List.length_map]; exact h, fun y hy => ?_⟩
    obtain ⟨p, _, rfl⟩ := List.mem_map.mp hy
    exact sm_pT 0 p
theorem lay_pT : ∀ ps : List (Int × Int), PyData.canLayAll0 (ps.map pT) = true
  | [] => by simp [PyData.canLayAll0]
  | p :: ps => by
    rw [List.map_cons]
    simp only [PyData.canLayAll0, pT, PyData.canLay0, Bool.and_self, Bool.true_and]
    exact lay_pT ps
theorem deep_pT : ∀ ps : List (Int × Int), PyData.depthAll (ps.map pT) ≤ 1
  | [] => by simp [PyData.depthAll]
  | p :: ps => by
    have := deep_pT ps
    rw [List.map_cons]
    simp only [PyData.depthAll, pT, PyData.depth]
    omega
theorem r_eqPs {l m : Addr} {xs ys : List V} {ps : List (Int × Int)} (h1 : SqL K H l xs) (p1 : Prs H xs ps) (h2 : SqL K H m ys) (p2 : Prs H ys ps) (q : Q (.bl true) H) : rEqD K (.ref l) (.ref m) H Q := by
  refine r_eqD (dp_list h1 p1) (dp_list h2 p2) (by unfold PyData.canLay0; exact lay_pT ps) ?_ q
  have := deep_pT ps
  unfold PyData.depth
  omega
theorem r_pickI {l : Addr} {ns : List Int} {r : Int} (h : H l = some (.lst (ns.map V.int))) (h0 : 0 ≤ r) (h1 : r < ns.length) (q : ∀ c ∈ ns, Q (.int c) H) : rIxL K (.ref l) (.int r) H Q := by
  obtain ⟨c, hc, e⟩ := at_int h0 h1
  exact r_ixL (.inl (.inl h)) e (q c hc)
theorem pd_intsT {H : Hp} : ∀ ns : List Int, Paired (Dp K H) (ns.map V.int) (ns.map PyData.int)
  | [] => .nil
  | n :: ns => .cons (.int n) (pd_intsT ns)
theorem Prs0 (H : Hp) : Prs H [] [] := .nil
theorem prs_new {H : Hp} {t : Addr} {xs : List V} {ps : List (Int × Int)} {a b : Int} (hp : Prs H xs ps) (ht : H t = none) : Prs (upd H t (.tup [.int a, .int b])) (xs ++ [.ref t]) (ps ++ [(a, b)]) := (hp.tk (.new ht)).snoc ⟨t, rfl, upd_same⟩
/-- one of a list of pairs -/
theorem r_pickP {l : Addr} {xs : List V} {ps : List (Int × Int)} {r : Int} (h : H l = some (.lst xs)) (hp : Prs H xs ps) (h0 : 0 ≤ r) (h1 : r < ps.length) (q : ∀ x, ∀ p ∈ ps, IsP H x p → Q x H) : rIxL K (.ref l) (.int r) H Q := by
  have hr : ((r.toNat : Nat) : Int) = r := by omega
  have h2 : r.toNat < ps.length := by omega
  obtain ⟨x, hx, hxp⟩ := pd_get2 hp (List.getElem?_eq_getElem h2)
  rw [← hr]
  exact r_ixL (.inl (.inl h)) (atI_nat hx) (q x _ (List.getElem_mem h2) hxp)
end

set_option Elab.async false
set_option linter.all false
set_option maxRecDepth 100000
set_option maxHeartbeats 4000000
open PySem PySem.Spec PyProof.Rows L2

abbrev s_complement : Stmt := topS 10
theorem sc_complement : FnScope ["graph", "n", "edges", "present", "edge", "u", "v"] ["graph"] (defScope s_complement) := ⟨rfl, rfl, rfl, by decide +kernel, rfl, by decide +kernel, by decide +kernel⟩

section
variable {P : Program} {w : World} {K : PySem.W.Frag} {mg : Str → Option Value} {base : Heap}
/-- the graph in another order -/
def spRen (K : PySem.W.Frag) : Sp := fun vs H Q _ => ∃ (g : V) (l : Addr) (n : Int) (ps : List (Int × Int)) (o : List Int), vs = [g, .ref l] ∧ GrAt H g n ps ∧ SqT K H l (o.map V.int) ∧ ps.length ≤ 60 ∧
  (∀ p ∈ ps, 0 ≤ p.1 ∧ p.1 < o.length ∧ 0 ≤ p.2 ∧ p.2 < o.length) ∧ (∀ p ∈ ps, 0 ≤ (ordP o p).1 ∧ (ordP o p).1 < 64 ∧ 0 ≤ (ordP o p).2 ∧ (ordP o p).2 < 64) ∧
  ∀ (v : V) (qs : List (Int × Int)) (H' : Hp), Same H H' → GrAt H' v n qs → qs.Pairwise ltP → (∀ p, p ∈ qs ↔ ∃ r ∈ ps, p = nrm (ordP o r)) → Q v H'
/-- which pairs a dict has as keys -/
def HasP (kvs : List (List L2.Key × V)) (ps : List (Int × Int)) : Prop := ∀ p : Int × Int, (valV kvs [.inl p.1, .inl p.2]).isSome = decide (p ∈ ps)
theorem HasP.put {kvs : List (List L2.Key × V)} {ps : List (Int × Int)} (h : HasP kvs ps) (p : Int × Int) (z : V) : HasP (putK kvs [.inl p.1, .inl p.2] z) (ps ++ [p]) := fun r => by
  rw [valV_put]
  by_cases c : r = p
  · subst c
    simp
  · have ne : ¬ ([.inl r.1, .inl r.2] : List L2.Key) = [.inl p.1, .inl p.2] := fun e => by
      injection e with e1 e2
      injection e2 with e2 _
      exact c (Prod.ext (Sum.inl.inj e1) (Sum.inl.inj e2))
    rw [if_neg ne, h r]
    simp [c]
def spCpl : Sp := fun vs H Q _ => ∃ (g : V) (n : Nat) (ps : List (Int × Int)), vs = [g] ∧ GrAt H g (n : Int) ps ∧ n ≤ 100 ∧ ps.length ≤ 10000 ∧
  ∀ (v : V) (H' : Hp), Same H H' → GrAt H' v (n : Int) ((allP n).filter fun p => !decide (p ∈ ps)) → Q v H'
theorem ok_cpl (T : Blt mg) (D : DefAt K mg "complement" s_complement ["graph"]) : FnOk P w K mg base CX0 1 D.f D.fd ["graph"] spCpl := by
  refine D.F.ok sc_complement (fun vs H Q E h => ?_) (fun cdv A outer s H vs Q E hr h => ?_)
  · obtain ⟨g, n, ps, rfl, _⟩ := h
    rfl
  · obtain ⟨g, n, ps, rfl, ⟨ga, e, rfl, hg, xs, he, hp⟩, hn, hlen, q⟩ := h
    refine ⟨_, (pss_cons (ps_asg (pv 0) (PG.tupK (K := K) rfl (pg_tup (n := 2) rfl (pgs_cons (pg_name (i := 1) sc_complement.nd rfl (Or.inr rfl)) (pgs_cons (pg_name (i := 2) sc_complement.nd rfl (Or.inl rfl)) pgs_nil)))))
      (pss_cons (ps_set (i := 3) sc_complement.nd rfl (Or.inr rfl) (pe_dcT hr.units (own := [("edge", 4)]) (by rfl) sc_complement.nd (PI.tupK (K := K) rfl (pi_tup (pv 2))) (blkOk_by (own := [("edge", 4)]) (N := ["graph", "n", "edges", "present", "edge", "u", "v"]) (sc := (defScope s_complement)) (by decide +kernel)) (fun _ _ _ _ _ => (pg_name (i := 4) sc_complement.nd rfl (Or.inl rfl))) (fun _ _ _ _ _ => pts_nil) (fun _ _ _ _ _ => (pv 4)) (fun _ _ _ _ _ => pe_bl)))
      (pss_one (ps_ret (pe_tup (pa_cons (pv 1) (pa_cons (pe_callTy (call_tupleK (K := K) rfl) (by rfl) T.tuple (by decide +kernel) (pa_cons (pe_lc2 (own := [("u", 5), ("v", 6)]) (vs1 := [6]) (by rfl) sc_complement.nd (pi_range1 (by rfl) T.range (pa_cons (pv 1) pa_nil)) (blkOk_by (own := [("u", 5), ("v", 6)]) (N := ["graph", "n", "edges", "present", "edge", "u", "v"]) (sc := (defScope s_complement)) (by decide +kernel)) (by decide) (fun _ _ _ _ _ => (pg_name (i := 5) sc_complement.nd rfl (Or.inl rfl))) (fun _ _ _ _ _ => pts_nil) (fun _ _ _ _ _ => (pi_range2 (by rfl) T.range (pa_cons (pe_op op_add (pv 5) pe_int) (pa_cons (pv 1) pa_nil)))) (fun _ _ _ _ _ => (pg_name (i := 6) sc_complement.nd rfl (Or.inl rfl))) (fun _ _ _ _ _ => (pts_one (pt_cmp (pc_dnotin (hu_of hr) (pe_tup (pa_cons (pv 5) (pa_cons (pv 6) pa_nil))) (pv 3))))) (fun _ _ _ _ _ => (pe_tup (pa_cons (pv 5) (pa_cons (pv 6) pa_nil))))) pa_nil)) pa_nil))))))), ?_⟩
    refine r_at (σ := [some _, none, none, none, none, none, none]) rfl ?_
    walk_at "z"
    refine r_gtup (.inl (.inl hg)) rfl ?_
    walk_at "z"
    refine r_dcT ?_
    walk_at "z"
    refine r_it (.inl (.inl he)) fun d hd => dcR_tup (xs := xs) (fun i H' => Same H H' ∧ ∃ kvs, H' d = some (.dT kvs) ∧ kvs.length ≤ i ∧ HasP kvs (ps.take i)) (by walk_at "zw") ⟨same_new hd, [], upd_same, Nat.le_refl 0, fun p => by simp [valV_nil]⟩ (fun i H' _ ⟨s1, _⟩ => .inl (.inl (s1 _ _ he))) ?_ ?_
    · rintro i x H' hx ⟨s1, kvs, hk, lk, has⟩
      obtain ⟨p, hpi, t, rfl, ht⟩ := pd_get (hp.tk (.of_same s1)) hx
      have il : i < xs.length := (List.getElem?_eq_some_iff.mp hx).1
      have xl := hp.length
      walk_at "z"
      refine ⟨rfl, ?_⟩
      walk_at "z"
      refine ⟨kvs, [.inl p.1, .inl p.2], t, rfl, hk, ht, small_lt (by omega), same_mut s1 hd, _, upd_same, ?_, ?_⟩
      · have := length_putK kvs [.inl p.1, .inl p.2] (V.bl true)
        omega
      · rw [take_next hpi]
        exact has.put p _
    · rintro H1 ⟨s1, kvs, hk, lk, has⟩
      rw [hp.length, List.take_length] at has
      walk_at "z"
      refine r_lc2 ?_
      walk_at "z"
      have cl : ∀ (i j : Nat), i ≤ n → ((preP n i ++ rowP (i : Int) ((i : Int) + 1) j).filter fun p => !decide (p ∈ ps)).length ≤ 10000 + j := fun i j hi => by
        have h1 := List.length_filter_le (fun p => !decide (p ∈ ps)) (preP n i ++ rowP (i : Int) ((i : Int) + 1) j)
        rw [List.length_append, rowP_len] at h1
        have h2 := preP_len (n := n) (i := i)
        have h3 : i * n ≤ 100 * 100 := Nat.mul_le_mul (by omega) hn
        omega
      refine r_rg1 (by omega) fun d2 hd2 => ?_
      rw [show (n : Int).toNat = n by omega]
      refine lc2R_range (fun i H' => Same H1 H' ∧ ∃ ys, H' d2 = some (.lst ys) ∧ Prs H' ys ((preP n i).filter fun p => !decide (p ∈ ps))) (by walk_at "zw") ⟨same_new hd2, [], upd_same, .nil⟩ ?_ ?_
      · rintro i H' hi ⟨s2, ys, hy, hys⟩
        walk_at "z"
        refine ⟨rfl, ?_⟩
        walk_at "z"
        refine r_rg2 (by omega) ?_
        refine lnR_range (fun j H' => Same H1 H' ∧ ∃ ys, H' d2 = some (.lst ys) ∧ Prs H' ys ((preP n i ++ rowP (i : Int) ((i : Int) + 1) j).filter fun p => !decide (p ∈ ps))) (by walk_at "zw") ⟨s2, ys, hy, by simpa [rowP] using hys⟩ ?_ ?_
        · rintro j H2 hj ⟨s3, zs, hz, hzs⟩
          have hk2 := s3 _ _ hk
          have e1 : (0 : Int) + (i : Int) + 1 + (j : Int) = (i : Int) + 1 + j := by omega
          have e0 : (0 : Int) + (i : Int) = i := by omega
          have suc : ((preP n i ++ rowP (i : Int) ((i : Int) + 1) (j + 1)).filter fun p => !decide (p ∈ ps)) = ((preP n i ++ rowP (i : Int) ((i : Int) + 1) j).filter fun p => !decide (p ∈ ps)) ++ (if ((i : Int), (i : Int) + 1 + j) ∈ ps then [] else [((i : Int), (i : Int) + 1 + (j : Int))]) := by
            rw [rowP_succ, ← List.append_assoc, List.filter_append, List.filter_cons, List.filter_nil]
            by_cases h : ((i : Int), (i : Int) + 1 + (j : Int)) ∈ ps <;> simp [h]
          have jn : j < n := by omega
          walk_at "z"
          refine ⟨rfl, ?_⟩
          walk_at "z"
          rw [e1, e0]
          refine r_tupN sz2 fun t ht => ?_
          walk_at "z"
          refine r_dnT (k := [.inl (i : Int), .inl ((i : Int) + 1 + j)]) (same_new ht _ _ hk2) upd_same ?_
          rw [has ((i : Int), (i : Int) + 1 + j)]
          walk_at "z"
          have sN : Same H2 (upd H2 t (.tup [.int (i : Int), .int ((i : Int) + 1 + j)])) := same_new ht
          refine r_iteN (fun h => ?_) (fun h => ?_)
          · walk_at "z"
            refine r_tupN sz2 fun t2 ht2 => ?_
            have hz2 := sN _ _ hz
            refine r_lce (same_new ht2 _ _ hz2) (small_lt ?_) ⟨same_mut ((s3.trans sN).trans (same_new ht2)) hd2, _, upd_same, ?_⟩
            · rw [hzs.length]
              have := cl i j (by omega)
              omega
            · rw [suc, if_neg h]
              exact prs_push hz2 (hzs.tk (.of_same sN)) ht2
          · refine ⟨s3.trans sN, zs, sN _ _ hz, ?_⟩
            rw [suc, if_pos h, List.append_nil]
            exact hzs.tk (.of_same sN)
        · rintro H2 ⟨s3, zs, hz, hzs⟩
          refine ⟨s3, zs, hz, ?_⟩
          have e2 : ((n : Int) - (0 + (i : Int) + 1)).toNat = n - 1 - i := by omega
          rw [e2] at hzs
          exact hzs
      · rintro H2 ⟨s2, zs, hz, hzs⟩
        walk_at "z"
        refine r_tupL (.inl (.inl hz)) fun e2 he2 => ?_
        walk_at "z"
        refine r_tupN sz2 fun t ht => ?_
        have s5 : Same H2 (upd H2 e2 (.tup zs)) := same_new he2
        have s6 := s5.trans (same_new (o := .tup [.int (n : Int), .ref e2]) ht)
        exact q _ _ ((s1.trans s2).trans s6) ⟨t, e2, rfl, upd_same, zs, (upd_ne (ne_of_none upd_same ht)).trans upd_same, hzs.tk (.of_same s6)⟩
/-- the places of both ends -/
def ixP (ns : List Int) (r : Int × Int) : Int × Int := ((ns.idxOf r.1 : Nat), (ns.idxOf r.2 : Nat))
theorem idx_here {ns : List Int} {i : Nat} {z : Int} (nd : ns.Nodup) (h : ns[i]? = some z) : ns.idxOf z = i := by
  obtain ⟨h1, h2⟩ := idx_spec (List.mem_of_getElem? h)
  rcases Nat.lt_trichotomy (ns.idxOf z) i with c | c | c
  · obtain ⟨l1, e1⟩ := List.getElem?_eq_some_iff.mp h1
    obtain ⟨l2, e2⟩ := List.getElem?_eq_some_iff.mp h
    exact (List.getElem_inj nd).mp (e1.trans e2.symm)
  · exact c
  · exact absurd h (h2 i c)
theorem idx_lt {ns : List Int} {z : Int} (h : z ∈ ns) : ns.idxOf z < ns.length := by
  obtain ⟨h1, _⟩ := idx_spec h
  exact (List.getElem?_eq_some_iff.mp h1).1
theorem inL_mem {ns : List Int} {ps : List (Int × Int)} {p : Int × Int} (h : p ∈ inL ns ps) : p ∈ ps ∧ p.1 ∈ ns ∧ p.2 ∈ ns := by
  unfold inL at h
  rw [List.mem_filter, Bool.and_eq_true, decide_eq_true_eq, decide_eq_true_eq] at h
  exact h
def spInd (K : PySem.W.Frag) : Sp := fun vs H Q _ => ∃ (g : V) (n : Int) (m : Addr) (ns : List Int) (ps : List (Int × Int)), vs = [g, .ref m] ∧ GrAt H g n ps ∧ SqT K H m (ns.map V.int) ∧ ns.Nodup ∧ ns.length ≤ 60 ∧ ps.length ≤ 10000 ∧ (inL ns ps).length ≤ 60 ∧
  ∀ (v : V) (qs : List (Int × Int)) (H' : Hp), Same H H' → GrAt H' v (ns.length : Nat) qs → qs.Pairwise ltP → (∀ p, p ∈ qs ↔ ∃ r ∈ inL ns ps, p = nrm (ixP ns r)) → Q v H'
end

set_option Elab.async false
set_option linter.all false
set_option maxRecDepth 100000
set_option maxHeartbeats 4000000
open PySem PySem.Spec PyProof.Rows L2

abbrev s_law_part : Stmt := topS 35
theorem sc_law_part : FnScope ["graph", "members", "rows", "edges", "pair"] ["graph", "members"] (defScope s_law_part) := ⟨rfl, rfl, rfl, by decide +kernel, rfl, by decide +kernel, by decide +kernel⟩

section
variable {P : Program} {w : World} {K : PySem.W.Frag} {mg : Str → Option Value} {base : Heap}
theorem r_listE {H : Hp} {Q : VK} {p : Addr} {ys : List V} (h : SqL K H p ys ∨ SqT K H p ys) (q : ∀ l, H l = none → Q (.ref l) (upd H l (.lst ys))) : rListOf K [.ref p] H Q := by
  rcases h with h | h
  · exact r_listL h q
  · exact r_listT h q
def spPart (K : PySem.W.Frag) : Sp := fun vs H Q _ => ∃ (g : V) (n : Int) (m : Addr) (ns : List Int) (ps : List (Int × Int)), vs = [g, .ref m] ∧ GrAt H g n ps ∧ (SqL K H m (ns.map V.int) ∨ SqT K H m (ns.map V.int)) ∧ ns.length ≤ 1000 ∧ ps.length ≤ 10000 ∧
  ∀ (v : V) (qs : List (Int × Int)) (H' : Hp), Same H H' → GrAt H' v (ns.length : Nat) qs → qs.Pairwise ltP → (∀ p, p ∈ qs ↔ ∃ r ∈ inL ns ps, p = nrm (ixP ns r)) → Q v H'
theorem ok_part (T : Blt mg) (D : DefAt K mg "_law_part" s_law_part ["graph", "members"]) (D_law_of : DefAt K mg "_law_of" s_law_of ["n", "pairs"]) (G_law_of : FnOk P w K mg base CX0 3 D_law_of.f D_law_of.fd ["n", "pairs"] (spOf K)) :
    FnOk P w K mg base CX0 4 D.f D.fd ["graph", "members"] (spPart K) := by
  refine D.F.ok sc_law_part (fun vs H Q E h => ?_) (fun cdv A outer s H vs Q E hr h => ?_)
  · obtain ⟨g, n, m, ns, ps, rfl, _⟩ := h
    rfl
  · obtain ⟨g, n, m, ns, ps, rfl, ⟨ga, e, rfl, hg, xs, he, hp⟩, hm, hn, hlen, q⟩ := h
    refine ⟨_, (pss_cons (ps_set (i := 2) sc_law_part.nd rfl (Or.inr rfl) (pe_callTy (call_listK (K := K) rfl) (by rfl) T.list (by decide +kernel) (pa_cons (pv 1) pa_nil)))
      (pss_cons (ps_setLc (i := 3) (own := [("pair", 4)]) (by rfl) sc_law_part.nd rfl rfl (sw_true rfl rfl rfl (by decide +kernel)) (PI.tupK (K := K) rfl (pi_tup (pe_ix (ix_tupK (K := K) rfl) (pv 0) pe_int (fun _ _ => rfl)))) (blkOk_by (own := [("pair", 4)]) (N := ["graph", "members", "rows", "edges", "pair"]) (sc := (defScope s_law_part)) (by decide +kernel)) (fun _ _ _ _ _ => (pg_name (i := 4) sc_law_part.nd rfl (Or.inl rfl))) (fun _ _ _ _ _ => (pts_one (PW.pt (pw_and (pt_cmpR (op_inSeqK (K := K) rfl) (pe_ix (ix_tupK (K := K) rfl) (pv 4) pe_int (fun _ _ => rfl)) (pv 2) (by rfl)) (pw_and1 (pt_cmpR (op_inSeqK (K := K) rfl) (pe_ix (ix_tupK (K := K) rfl) (pv 4) pe_int (fun _ _ => rfl)) (pv 2) (by rfl))))))) (fun _ _ _ _ _ => (pv 4)))
      (pss_one (ps_ret (pe_call G_law_of (hr.mono (by first | decide | omega)) (by rfl) D_law_of.g D_law_of.F.kp D_law_of.b .nil pass0 (pa_cons (pe_callB (call_lenK (K := K) rfl) (by rfl) T.len (by decide +kernel) (pa_cons (pv 2) pa_nil)) (pa_cons (pe_lc (own := [("pair", 4)]) (by rfl) sc_law_part.nd (PI.listK (K := K) rfl (pi_list (pv 3))) (blkOk_by (own := [("pair", 4)]) (N := ["graph", "members", "rows", "edges", "pair"]) (sc := (defScope s_law_part)) (by decide +kernel)) (fun _ _ _ _ _ => (pg_name (i := 4) sc_law_part.nd rfl (Or.inl rfl))) (fun _ _ _ _ _ => pts_nil) (fun _ _ _ _ _ => (pe_tup (pa_cons (PE.bmK (K := K) rfl (pe_bm PySem.F.plainAttrs_list PySem.F.slot_list_index PySem.F.type_list_index (mt_indexK (K := K) rfl) (pv 2) (pa_cons (pe_ix (ix_tupK (K := K) rfl) (pv 4) pe_int (fun _ _ => rfl)) pa_nil))) (pa_cons (PE.bmK (K := K) rfl (pe_bm PySem.F.plainAttrs_list PySem.F.slot_list_index PySem.F.type_list_index (mt_indexK (K := K) rfl) (pv 2) (pa_cons (pe_ix (ix_tupK (K := K) rfl) (pv 4) pe_int (fun _ _ => rfl)) pa_nil))) pa_nil))))) pa_nil))))))), ?_⟩
    refine r_at (σ := [some _, some _, none, none, none]) rfl ?_
    walk_at "z"
    refine r_listE hm fun l hl => ?_
    have sL : Same H (upd H l (.lst (ns.map V.int))) := same_new hl
    have hg0 := sL _ _ hg
    have he0 := sL _ _ he
    have hl0 : (upd H l (.lst (ns.map V.int))) l = some (.lst (ns.map V.int)) := upd_same
    have hp0 := hp.tk (.of_same sL)
    generalize hH0 : upd H l (.lst (ns.map V.int)) = H0 at sL hg0 he0 hl0 hp0 ⊢
    walk_at "z"
    refine r_it (.inl (.inl he0)) fun d hd => lcR_tup (xs := xs) (fun i H' => Same H0 H' ∧ ∃ ys, H' d = some (.lst ys) ∧ Prs H' ys ((ps.take i).filter fun p => decide (p.1 ∈ ns) && decide (p.2 ∈ ns))) (by walk_at "zw") ⟨same_new hd, [], upd_same, .nil⟩ (fun i H' _ ⟨s1, _⟩ => .inl (.inl (s1 _ _ he0))) ?_ ?_
    · rintro i x H' hx ⟨s1, ys, hy, hys⟩
      obtain ⟨p, hpi, t, rfl, ht⟩ := pd_get (hp0.tk (.of_same s1)) hx
      have suc := flt_take hpi (fun p => decide (p.1 ∈ ns) && decide (p.2 ∈ ns))
      have hm1 : SqL K H' l (ns.map V.int) ∨ SqT K H' l (ns.map V.int) := .inl (.inl (.inl (s1 _ _ hl0)))
      walk_at "z"
      refine ⟨rfl, ?_⟩
      walk_at "z"
      refine r_inI hm1 ?_
      walk_at "z"
      refine r_ite (fun h1 => ?_) (fun h1 => ?_)
      · walk_at "z"
        refine r_inI hm1 ?_
        walk_at "z"
        refine r_ite (fun h2 => ?_) (fun h2 => ?_)
        · walk_at "z"
          refine r_lce hy (small_lt ?_) ⟨same_mut s1 hd, _, upd_same, ?_⟩
          · rw [hys.length]
            have := flt_len (i := i) (fun p : Int × Int => decide (p.1 ∈ ns) && decide (p.2 ∈ ns)) hlen
            omega
          · rw [suc, if_pos (by simp [h1, h2])]
            exact (hys.tk (.lst hy)).snoc (IsP.tk (.lst hy) ⟨t, rfl, ht⟩)
        · refine ⟨s1, ys, hy, ?_⟩
          rw [suc, if_neg (by simp [h2]), List.append_nil]
          exact hys
      · walk_at "z"
        refine ⟨s1, ys, hy, ?_⟩
        rw [suc, if_neg (by simp [h1]), List.append_nil]
        exact hys
    · rintro H1 ⟨s1, ys, hy, hys⟩
      rw [hp0.length, List.take_length] at hys
      have hl1 := s1 _ _ hl0
      walk_at "z"
      refine r_il (.inl (.inl hy)) fun d3 hd3 => lcR_list (xs := ys) (fun i H' => Same H1 H' ∧ ∃ zs, H' d3 = some (.lst zs) ∧ Prs H' zs (((inL ns ps).take i).map (ixP ns))) (by walk_at "zw") ⟨same_new hd3, [], upd_same, .nil⟩ (fun i H' _ ⟨s3, _⟩ => .inl (.inl (s3 _ _ hy))) ?_ ?_
      · rintro i x H' hx ⟨s3, zs, hz, hzs⟩
        obtain ⟨p, hpi, t, rfl, ht⟩ := pd_get (hys.tk (.of_same s3)) hx
        obtain ⟨_, p1, p2⟩ := inL_mem (List.mem_of_getElem? hpi)
        have hl3 := s3 _ _ hl1
        walk_at "z"
        refine ⟨rfl, ?_⟩
        walk_at "z"
        refine r_index (.inl (.inl hl3)) p1 ?_
        walk_at "z"
        refine r_index (.inl (.inl hl3)) p2 ?_
        walk_at "z"
        refine r_tupN sz2 fun t2 ht2 => ?_
        have fl := flt_len (ps := ps) (i := ps.length) (fun p : Int × Int => decide (p.1 ∈ ns) && decide (p.2 ∈ ns)) hlen
        rw [List.take_length] at fl
        refine r_lce (same_new ht2 _ _ hz) (small_lt ?_) ⟨same_mut (s3.trans (same_new ht2)) hd3, _, upd_same, ?_⟩
        · rw [hzs.length, List.length_map, List.length_take]
          unfold inL
          omega
        · have hpi' : (inL ns ps)[i]? = some p := hpi
          rw [take_next hpi', List.map_append]
          exact prs_push hz hzs ht2
      · rintro H3 ⟨s3, zs, hz, hzs⟩
        rw [hys.length] at hzs
        have fl := flt_len (ps := ps) (i := ps.length) (fun p : Int × Int => decide (p.1 ∈ ns) && decide (p.2 ∈ ns)) hlen
        rw [List.take_length] at fl
        have tl : (inL ns ps).take (ps.filter fun p => decide (p.1 ∈ ns) && decide (p.2 ∈ ns)).length = inL ns ps := List.take_length
        rw [tl] at hzs
        walk_at "z"
        rw [List.length_map]
        refine ⟨_, d3, zs, _, rfl, .inl (.inl hz), hzs, by rw [List.length_map]; exact fl, fun v qs H4 s4 hg4 asc mem => q v qs H4 (((sL.trans s1).trans s3).trans s4) hg4 asc fun p => ?_⟩
        rw [mem]
        constructor
        · rintro ⟨r, hr, rfl⟩
          obtain ⟨r0, hr0, rfl⟩ := List.mem_map.mp hr
          exact ⟨r0, hr0, rfl⟩
        · rintro ⟨r, hr, rfl⟩
          exact ⟨_, List.mem_map.mpr ⟨r, hr, rfl⟩, rfl⟩
/-- moved up -/
def upP (n : Int) (p : Int × Int) : Int × Int := (n + p.1, n + p.2)
def spBes (C : Addr) : Sp := fun vs H Q E => ∃ (g1 g2 : V) (n1 n2 : Int) (ps1 ps2 : List (Int × Int)), vs = [g1, g2] ∧ GrAt H g1 n1 ps1 ∧ GrAt H g2 n2 ps2 ∧ ps1.length ≤ 10000 ∧ ps2.length ≤ 10000 ∧
  (60 < n1 + n2 → E (.ref C) none H) ∧ (¬ 60 < n1 + n2 → ∀ (v : V) (H' : Hp), Same H H' → GrAt H' v (n1 + n2) (ps1 ++ ps2.map (upP n1)) → Q v H')
end

set_option Elab.async false
set_option linter.all false
set_option maxRecDepth 100000
set_option maxHeartbeats 4000000
open PySem PySem.Spec PyProof.Rows L2

abbrev s_neighbour_lists : Stmt := topS 1
theorem sc_neighbour_lists : FnScope ["graph", "n", "edges", "around", "u", "v", "_"] ["graph"] (defScope s_neighbour_lists) := ⟨rfl, rfl, rfl, by decide +kernel, rfl, by decide +kernel, by decide +kernel⟩

abbrev s_neighbour_masks : Stmt := topS 2
theorem sc_neighbour_masks : FnScope ["graph", "others"] ["graph"] (defScope s_neighbour_masks) := ⟨rfl, rfl, rfl, by decide +kernel, rfl, by decide +kernel, by decide +kernel⟩

abbrev s_mask_of : Stmt := topS 3
theorem sc_mask_of : FnScope ["members", "mask", "v"] ["members"] (defScope s_mask_of) := ⟨rfl, rfl, rfl, by decide +kernel, rfl, by decide +kernel, by decide +kernel⟩

/-- the neighbours of v in the order of the edges -/
def adjL (ps : List (Int × Int)) (v : Nat) : List Int := ps.flatMap fun p => (if p.1 = (v : Int) then [p.2] else []) ++ (if p.2 = (v : Int) then [p.1] else [])
theorem adjL_next {ps : List (Int × Int)} {j v : Nat} {p : Int × Int} (h : ps[j]? = some p) : adjL (ps.take (j + 1)) v = adjL (ps.take j) v ++ ((if p.1 = (v : Int) then [p.2] else []) ++ (if p.2 = (v : Int) then [p.1] else [])) := by
  unfold adjL
  rw [take_next h, List.flatMap_append]
  simp
theorem adjL_len (ps : List (Int × Int)) (v : Nat) : (adjL ps v).length ≤ 2 * ps.length := by
  unfold adjL
  induction ps with
  | nil => simp
  | cons p ps ih =>
    rw [List.flatMap_cons, List.length_append, List.length_append, List.length_cons]
    have h1 : (if p.1 = (v : Int) then [p.2] else []).length ≤ 1 := by split <;> simp
    have h2 : (if p.2 = (v : Int) then [p.1] else []).length ≤ 1 := by split <;> simp
    omega
theorem mem_adjL {ps : List (Int × Int)} {v : Nat} {u : Int} : u ∈ adjL ps v ↔ ((v : Int), u) ∈ ps ∨ (u, (v : Int)) ∈ ps := by
  unfold adjL
  rw [List.mem_flatMap]
  constructor
  · rintro ⟨p, hp, h⟩
    rcases List.mem_append.mp h with h | h
    · split at h
      · rename_i c
        rw [List.mem_singleton.mp h, ← c]
        exact .inl hp
      · cases h
    · split at h
      · rename_i c
        rw [List.mem_singleton.mp h, ← c]
        exact .inr hp
      · cases h
  · rintro (h | h)
    · exact ⟨_, h, by simp⟩
    · exact ⟨_, h, by simp⟩
section
variable {P : Program} {w : World} {K : PySem.W.Frag} {mg : Str → Option Value} {base : Heap}
/-- a list of lists of neighbours -/
def spNLists : Sp := fun vs H Q _ => ∃ (g : V) (n : Nat) (ps : List (Int × Int)), vs = [g] ∧ GrAt H g (n : Int) ps ∧ n ≤ 100 ∧ ps.length ≤ 10000 ∧ (∀ p ∈ ps, 0 ≤ p.1 ∧ p.1 < p.2 ∧ p.2 < (n : Int)) ∧
  ∀ (l : Addr) (as : List Addr) (H' : Hp), Same H H' → H' l = some (.lst (as.map V.ref)) → as.length = n → (∀ i a, as[i]? = some a → H' a = some (.lst ((adjL ps i).map V.int))) → Q (.ref l) H'
theorem ok_nlists (T : Blt mg) (D : DefAt K mg "neighbour_lists" s_neighbour_lists ["graph"]) : FnOk P w K mg base CX0 1 D.f D.fd ["graph"] spNLists := by
  refine D.F.ok sc_neighbour_lists (fun vs H Q E h => ?_) (fun cdv A outer s H vs Q E hr h => ?_)
  · obtain ⟨g, n, ps, rfl, _⟩ := h
    rfl
  · obtain ⟨g, n, ps, rfl, ⟨ga, e, rfl, hg, xs, he, hp⟩, hn, hlen, inn, q⟩ := h
    refine ⟨_, (pss_cons (ps_asg (pv 0) (PG.tupK (K := K) rfl (pg_tup (n := 2) rfl (pgs_cons (pg_name (i := 1) sc_neighbour_lists.nd rfl (Or.inl rfl)) (pgs_cons (pg_name (i := 2) sc_neighbour_lists.nd rfl (Or.inl rfl)) pgs_nil)))))
      (pss_cons (ps_setLc (i := 3) (own := [("_", 6)]) (by rfl) sc_neighbour_lists.nd rfl rfl (sw_true rfl rfl rfl (by decide +kernel)) (pi_range1 (by rfl) T.range (pa_cons (pv 1) pa_nil)) (blkOk_by (own := [("_", 6)]) (N := ["graph", "n", "edges", "around", "u", "v", "_"]) (sc := (defScope s_neighbour_lists)) (by decide +kernel)) (fun _ _ _ _ _ => (pg_name (i := 6) sc_neighbour_lists.nd rfl (Or.inl rfl))) (fun _ _ _ _ _ => pts_nil) (fun _ _ _ _ _ => (pe_lst pa_nil)))
      (pss_cons (ps_for PassesOwn.never (by rfl) (PI.tupK (K := K) rfl (pi_tup (pv 2))) (PG.tupK (K := K) rfl (pg_tup (n := 2) rfl (pgs_cons (pg_name (i := 4) sc_neighbour_lists.nd rfl (Or.inl rfl)) (pgs_cons (pg_name (i := 5) sc_neighbour_lists.nd rfl (Or.inl rfl)) pgs_nil))))
        (pss_cons (ps_expr (PE.bmK (K := K) rfl (pe_bm PySem.F.plainAttrs_list PySem.F.slot_list_append PySem.F.type_list_append mt_append (pe_ix (ix_listK (K := K) rfl) (pv 3) (pv 4) (fun _ _ => rfl)) (pa_cons (pv 5) pa_nil))))
        (pss_one (ps_expr (PE.bmK (K := K) rfl (pe_bm PySem.F.plainAttrs_list PySem.F.slot_list_append PySem.F.type_list_append mt_append (pe_ix (ix_listK (K := K) rfl) (pv 3) (pv 5) (fun _ _ => rfl)) (pa_cons (pv 4) pa_nil)))))))
      (pss_one (ps_ret (pv 3)))))), ?_⟩
    refine r_at (σ := [some _, none, none, none, none, none, none]) rfl ?_
    walk_at "z"
    refine r_gtup (.inl (.inl hg)) rfl ?_
    walk_at "z"
    refine r_rg1 (by omega) fun d hd => lcR_range (fun i H' => Same H H' ∧ ∃ as : List Addr, H' d = some (.lst (as.map V.ref)) ∧ as.length = i ∧ as.Nodup ∧ ∀ a ∈ as, H a = none ∧ a ≠ d ∧ H' a = some (.lst [])) (by walk_at "zw") ⟨same_new hd, [], upd_same, rfl, .nil, fun a h => nomatch h⟩ ?_ ?_
    · rintro i H' hi ⟨s1, as, hD, la, nd, ho⟩
      walk_at "z"
      refine ⟨rfl, ?_⟩
      walk_at "z"
      refine r_lstN (Nat.zero_le _) fun t ht => ?_
      have tD : d ≠ t := ne_of_none hD ht
      refine r_lce ((upd_ne tD).trans hD) (small_lt (by rw [List.length_map]; omega)) ⟨same_mut (s1.trans (same_new ht)) hd, as ++ [t], by rw [List.map_append]; exact upd_same, by rw [List.length_append, la]; rfl, ?_, ?_⟩
      · refine List.nodup_append.mpr ⟨nd, by simp, fun a ha b hb => ?_⟩
        rw [List.mem_singleton.mp hb]
        exact ne_of_none (ho a ha).2.2 ht
      · intro a ha
        rcases List.mem_append.mp ha with c | c
        · obtain ⟨o1, o2, o3⟩ := ho a c
          exact ⟨o1, o2, (upd_ne o2).trans ((upd_ne (ne_of_none o3 ht)).trans o3)⟩
        · rw [List.mem_singleton.mp c]
          exact ⟨s1.free ht, tD.symm, (upd_ne tD.symm).trans upd_same⟩
    · rintro H1 ⟨s1, as, hD, la, nd, ho⟩
      rw [show (n : Int).toNat = n by omega] at la
      walk_at "z"
      refine r_it (.inl (.inl (s1 _ _ he))) (forR_tup (xs := xs) (fun j σ' H' => (∃ x4 x5 x6, σ' = [some (.ref ga), some (.int n), some (.ref e), some (.ref d), x4, x5, x6]) ∧ Same H H' ∧ H' d = some (.lst (as.map V.ref)) ∧ ∀ i a, as[i]? = some a → H' a = some (.lst ((adjL (ps.take j) i).map V.int))) ⟨⟨_, _, _, rfl⟩, s1, hD, fun i a h => (ho a (List.mem_of_getElem? h)).2.2⟩ (fun i σ' H' _ ⟨_, s2, _⟩ => .inl (.inl (s2 _ _ he))) ?_ ?_)
      · rintro j x σ' H' hx ⟨⟨x4, x5, x6, rfl⟩, s2, hD2, adj⟩
        obtain ⟨p, hpj, t, rfl, ht⟩ := pd_get (hp.tk (.of_same s2)) hx
        obtain ⟨b0, b1, b2⟩ := inn p (List.mem_of_getElem? hpj)
        obtain ⟨au, hau⟩ : ∃ a, as[p.1.toNat]? = some a := ⟨_, List.getElem?_eq_getElem (by omega)⟩
        obtain ⟨av, hav⟩ : ∃ a, as[p.2.toNat]? = some a := ⟨_, List.getElem?_eq_getElem (by omega)⟩
        obtain ⟨u1, u2, _⟩ := ho au (List.mem_of_getElem? hau)
        obtain ⟨v1, v2, _⟩ := ho av (List.mem_of_getElem? hav)
        have idx : ∀ {i k : Nat} {a : Addr}, as[i]? = some a → as[k]? = some a → i = k := fun {i k a} h1 h2 => by
          obtain ⟨l1, e1⟩ := List.getElem?_eq_some_iff.mp h1
          obtain ⟨l2, e2⟩ := List.getElem?_eq_some_iff.mp h2
          exact (List.getElem_inj nd).mp (e1.trans e2.symm)
        have ne : av ≠ au := fun z => by
          have := idx hau (z ▸ hav)
          omega
        have lens : ∀ i, ((adjL (ps.take j) i).map V.int).length < sizeLine := fun i => small_lt (by
          rw [List.length_map]
          have := adjL_len (ps.take j) i
          rw [List.length_take] at this
          omega)
        have hU := adj _ _ hau
        have hV := adj _ _ hav
        have eD : ∀ a, (as.map V.ref)[a]? = (as[a]?).map V.ref := fun a => by rw [List.getElem?_map]
        refine r_gtup (.inl (.inl ht)) rfl ?_
        walk_at "z"
        refine r_ixL (.inl (.inl hD2)) (at_of (j := p.1.toNat) (by omega) (by rw [eD, hau]; rfl)) ?_
        walk_at "z"
        refine r_appT hU (lens _) ?_
        walk_at "z"
        refine r_ixL (.inl (.inl ((upd_ne u2.symm).trans hD2))) (at_of (j := p.2.toNat) (by omega) (by rw [eD, hav]; rfl)) ?_
        have hV2 := (upd_ne (H := H') (o := .lst ((adjL (ps.take j) p.1.toNat).map V.int ++ [.int p.2])) ne).trans hV
        walk_at "z"
        refine r_appT hV2 (lens _) ?_
        refine ⟨⟨_, _, _, rfl⟩, same_mut (same_mut s2 u1) v1, (upd_ne v2.symm).trans ((upd_ne u2.symm).trans hD2), fun i a h => ?_⟩
        rw [adjL_next hpj]
        by_cases c2 : a = av
        · subst c2
          have e2 := idx h hav
          subst e2
          rw [if_neg (by omega), if_pos (by omega), upd_same, List.nil_append, List.map_append]
          rfl
        · rw [upd_ne c2]
          by_cases c1 : a = au
          · subst c1
            have e1 := idx h hau
            subst e1
            rw [if_pos (by omega), if_neg (by omega), upd_same, List.append_nil, List.map_append]
            rfl
          · have n1 : p.1 ≠ (i : Int) := fun z => c1 (by
              have e : p.1.toNat = i := by omega
              rw [e, h] at hau
              exact Option.some.inj hau)
            have n2 : p.2 ≠ (i : Int) := fun z => c2 (by
              have e : p.2.toNat = i := by omega
              rw [e, h] at hav
              exact Option.some.inj hav)
            rw [upd_ne c1, if_neg n1, if_neg n2, List.append_nil, List.append_nil]
            exact adj i a h
      · rintro σ' H' ⟨⟨x4, x5, x6, rfl⟩, s2, hD2, adj⟩
        rw [hp.length, List.take_length] at adj
        walk_at "z"
        exact q d as H' s2 hD2 la adj
/-- the bits of a list or tuple -/
def spMask (K : PySem.W.Frag) : Sp := fun vs H Q _ => ∃ (l : Addr) (ns : List Int), vs = [.ref l] ∧ (SqL K H l (ns.map V.int) ∨ SqT K H l (ns.map V.int)) ∧ (∀ v ∈ ns, 0 ≤ v ∧ v < 1000) ∧ ∀ x : Int, Msk x (fun i => i ∈ ns) → Q (.int x) H
theorem ok_mask (T : Blt mg) (D : DefAt K mg "mask_of" s_mask_of ["members"]) : FnOk P w K mg base CX0 1 D.f D.fd ["members"] (spMask K) := by
  refine D.F.ok sc_mask_of (fun vs H Q E h => ?_) (fun cdv A outer s H vs Q E hr h => ?_)
  · obtain ⟨l, ns, rfl, _⟩ := h
    rfl
  · obtain ⟨l, ns, rfl, hl, bd, q⟩ := h
    have step : ∀ (i : Nat) (v x : Int), ns[i]? = some v → Msk x (fun z => z ∈ ns.take i) → Msk (Builtin.bitOr x (1 * 2 ^ v.toNat)) (fun z => z ∈ ns.take (i + 1)) := fun i v x hv m => by
      rw [take_next hv]
      exact m.snoc (bd v (List.mem_of_getElem? hv)).1
    rcases hl with hl | hl
    · refine ⟨_, (pss_cons (ps_set (i := 1) sc_mask_of.nd rfl (Or.inl rfl) pe_int)
      (pss_cons (ps_for PassesOwn.never (by rfl) (PI.listK (K := K) rfl (pi_list (pv 0))) (pg_name (i := 2) sc_mask_of.nd rfl (Or.inl rfl))
        (pss_one (ps_aug (i := 1) sc_mask_of.nd rfl (Or.inl rfl) (pe_op op_shl pe_int (pv 2)) iop_or)))
      (pss_one (ps_ret (pv 1))))), ?_⟩
      refine r_at (σ := [some _, none, none]) rfl ?_
      walk_at "z"
      refine r_il hl (forR_list (xs := ns.map V.int) (fun i σ' H' => H' = H ∧ ∃ (x : Int) (z : Option V), σ' = [some (.ref l), some (.int x), z] ∧ Msk x (fun z => z ∈ ns.take i)) ⟨rfl, _, _, rfl, .nil⟩ (fun i σ' H' _ ⟨eH, _⟩ => eH ▸ hl) ?_ ?_)
      · rintro i v σ' H' hv ⟨rfl, x, z, rfl, m⟩
        rw [List.getElem?_map] at hv
        obtain ⟨v, hv9, rfl⟩ := Option.map_eq_some_iff.mp hv
        obtain ⟨b0, b1⟩ := bd v (List.mem_of_getElem? hv9)
        walk_at "z"
        refine r_aug rfl ?_
        walk_at "z"
        refine r_i ⟨by omega, by omega, by decide⟩ ?_
        refine r_augOr rfl ?_
        exact ⟨rfl, _, _, rfl, step i v x hv9 m⟩
      · rintro σ' H' ⟨rfl, x, z, rfl, m⟩
        rw [List.length_map, List.take_length] at m
        walk_at "z"
        exact q x m
    · refine ⟨_, (pss_cons (ps_set (i := 1) sc_mask_of.nd rfl (Or.inl rfl) pe_int)
      (pss_cons (ps_for PassesOwn.never (by rfl) (PI.tupK (K := K) rfl (pi_tup (pv 0))) (pg_name (i := 2) sc_mask_of.nd rfl (Or.inl rfl))
        (pss_one (ps_aug (i := 1) sc_mask_of.nd rfl (Or.inl rfl) (pe_op op_shl pe_int (pv 2)) iop_or)))
      (pss_one (ps_ret (pv 1))))), ?_⟩
      refine r_at (σ := [some _, none, none]) rfl ?_
      walk_at "z"
      refine r_it hl (forR_tup (xs := ns.map V.int) (fun i σ' H' => H' = H ∧ ∃ (x : Int) (z : Option V), σ' = [some (.ref l), some (.int x), z] ∧ Msk x (fun z => z ∈ ns.take i)) ⟨rfl, _, _, rfl, .nil⟩ (fun i σ' H' _ ⟨eH, _⟩ => eH ▸ hl) ?_ ?_)
      · rintro i v σ' H' hv ⟨rfl, x, z, rfl, m⟩
        rw [List.getElem?_map] at hv
        obtain ⟨v, hv9, rfl⟩ := Option.map_eq_some_iff.mp hv
        obtain ⟨b0, b1⟩ := bd v (List.mem_of_getElem? hv9)
        walk_at "z"
        refine r_aug rfl ?_
        walk_at "z"
        refine r_i ⟨by omega, by omega, by decide⟩ ?_
        refine r_augOr rfl ?_
        exact ⟨rfl, _, _, rfl, step i v x hv9 m⟩
      · rintro σ' H' ⟨rfl, x, z, rfl, m⟩
        rw [List.length_map, List.take_length] at m
        walk_at "z"
        exact q x m
def spNMasks : Sp := fun vs H Q _ => ∃ (g : V) (n : Nat) (ps : List (Int × Int)), vs = [g] ∧ GrAt H g (n : Int) ps ∧ n ≤ 100 ∧ ps.length ≤ 10000 ∧ (∀ p ∈ ps, 0 ≤ p.1 ∧ p.1 < p.2 ∧ p.2 < (n : Int)) ∧
  ∀ (l : Addr) (ms : List Int) (H' : Hp), Same H H' → H' l = some (.lst (ms.map V.int)) → ms.length = n → (∀ i m, ms[i]? = some m → Msk m (fun z => z ∈ adjL ps i)) → Q (.ref l) H'
theorem ok_nmasks (T : Blt mg) (D : DefAt K mg "neighbour_masks" s_neighbour_masks ["graph"]) (D_neighbour_lists : DefAt K mg "neighbour_lists" s_neighbour_lists ["graph"]) (G_neighbour_lists : FnOk P w K mg base CX0 1 D_neighbour_lists.f D_neighbour_lists.fd ["graph"] spNLists)
    (D_mask_of : DefAt K mg "mask_of" s_mask_of ["members"]) (G_mask_of : FnOk P w K mg base CX0 1 D_mask_of.f D_mask_of.fd ["members"] (spMask K)) : FnOk P w K mg base CX0 2 D.f D.fd ["graph"] spNMasks := by
  refine D.F.ok sc_neighbour_masks (fun vs H Q E h => ?_) (fun cdv A outer s H vs Q E hr h => ?_)
  · obtain ⟨g, n, ps, rfl, _⟩ := h
    rfl
  · obtain ⟨g, n, ps, rfl, hgr, hn, hlen, inn, q⟩ := h
    refine ⟨_, (pss_one (ps_ret (pe_lc (own := [("others", 1)]) (by rfl) sc_neighbour_masks.nd (PI.listK (K := K) rfl (pi_list (pe_call G_neighbour_lists (hr.mono (by first | decide | omega)) (by rfl) D_neighbour_lists.g D_neighbour_lists.F.kp D_neighbour_lists.b .nil pass0 (pa_cons (pv 0) pa_nil)))) (blkOk_by (own := [("others", 1)]) (N := ["graph", "others"]) (sc := (defScope s_neighbour_masks)) (by decide +kernel)) (fun _ _ _ _ _ => (pg_name (i := 1) sc_neighbour_masks.nd rfl (Or.inl rfl))) (fun _ _ _ _ _ => pts_nil) (fun _ _ _ _ _ => (pe_call G_mask_of (hr.mono (by first | decide | omega)) (by rfl) D_mask_of.g D_mask_of.F.kp D_mask_of.b .nil pass0 (pa_cons (pv 1) pa_nil)))))), ?_⟩
    refine r_at (σ := [some _, none]) rfl ?_
    walk_at "z"
    refine ⟨g, n, ps, rfl, hgr, hn, hlen, inn, fun l as H1 s1 hl la adj => ?_⟩
    walk_at "z"
    refine r_il (.inl (.inl hl)) fun d hd => lcR_list (xs := as.map V.ref) (fun i H' => Same H1 H' ∧ ∃ ms : List Int, H' d = some (.lst (ms.map V.int)) ∧ ms.length = i ∧ ∀ j m, ms[j]? = some m → Msk m (fun z => z ∈ adjL ps j)) (by walk_at "zw") ⟨same_new hd, [], upd_same, rfl, fun j m h => by simp at h⟩ (fun i H' _ ⟨s2, _⟩ => .inl (.inl (s2 _ _ hl))) ?_ ?_
    · rintro i x H' hx ⟨s2, ms, hm, lm, mk⟩
      rw [List.getElem?_map] at hx
      obtain ⟨a, ha, rfl⟩ := Option.map_eq_some_iff.mp hx
      have hi : i < as.length := (List.getElem?_eq_some_iff.mp ha).1
      walk_at "z"
      refine ⟨rfl, ?_⟩
      walk_at "z"
      refine ⟨a, adjL ps i, rfl, .inl (.inl (.inl (s2 _ _ (adj i a ha)))), fun z hz => ?_, fun x m => ?_⟩
      · rcases mem_adjL.mp hz with c | c
        · have := inn _ c; dsimp only at this; omega
        · have := inn _ c; dsimp only at this; omega
      · refine r_lce hm (small_lt (by rw [List.length_map]; omega)) ⟨same_mut s2 hd, ms ++ [x], by rw [List.map_append]; exact upd_same, by rw [List.length_append, lm]; rfl, fun j y hy => ?_⟩
        rcases Nat.lt_or_ge j ms.length with c | c
        · rw [List.getElem?_append_left c] at hy
          exact mk j y hy
        · rw [List.getElem?_append_right c] at hy
          have : j - ms.length = 0 := by
            have := (List.getElem?_eq_some_iff.mp hy).1
            simp at this
            omega
          rw [this] at hy
          have e1 : x = y := Option.some.inj hy
          have e2 : j = i := by omega
          rw [← e1, e2]
          exact m
    · rintro H' ⟨s2, ms, hm, lm, mk⟩
      rw [List.length_map] at lm
      exact q d ms H' (s1.trans s2) hm (by omega) mk
end

set_option Elab.async false
set_option linter.all false
set_option maxRecDepth 100000
set_option maxHeartbeats 4000000
open PySem PySem.Spec PyProof.Rows L2

abbrev s_members_of : Stmt := topS 4
theorem sc_members_of : FnScope ["mask", "found", "low"] ["mask"] (defScope s_members_of) := ⟨rfl, rfl, rfl, by decide +kernel, rfl, by decide +kernel, by decide +kernel⟩

abbrev s_near_of : Stmt := topS 5
theorem sc_near_of : FnScope ["around", "mask", "near", "v"] ["around", "mask"] (defScope s_near_of) := ⟨rfl, rfl, rfl, by decide +kernel, rfl, by decide +kernel, by decide +kernel⟩

/-- a tuple of ints -/
def ITup (H : Hp) (x : V) (ns : List Int) : Prop := ∃ t, x = .ref t ∧ H t = some (.tup (ns.map V.int))
theorem ITup.tk {H H' : Hp} (k : TK H H') {x : V} {ns : List Int} (h : ITup H x ns) : ITup H' x ns := by
  obtain ⟨t, e, h⟩ := h
  exact ⟨t, e, k _ _ h⟩
abbrev ITups (H : Hp) : List V → List (List Int) → Prop := Paired (ITup H)
theorem ITups.tk {H H' : Hp} (k : TK H H') : ∀ {xs : List V} {ps : List (List Int)}, ITups H xs ps → ITups H' xs ps
  | _, _, .nil => .nil
  | _, _, .cons h t => .cons (h.tk k) (ITups.tk k t)
/-- two sets touch -/
def TouchP (ps : List (Int × Int)) (one two : List Int) : Prop := ∃ u ∈ one, ∃ v ∈ two, u = v ∨ nrm (u, v) ∈ ps
theorem nrm_comm (u v : Int) : nrm (u, v) = nrm (v, u) := by
  unfold nrm
  exact Prod.ext (by dsimp only; omega) (by dsimp only; omega)
theorem TouchP.symm {ps : List (Int × Int)} {one two : List Int} (h : TouchP ps one two) : TouchP ps two one := by
  obtain ⟨u, hu, v, hv, h⟩ := h
  refine ⟨v, hv, u, hu, ?_⟩
  rcases h with h | h
  · exact .inl h.symm
  · exact .inr (nrm_comm u v ▸ h)
theorem touch_comm {ps : List (Int × Int)} {one two : List Int} : TouchP ps one two ↔ TouchP ps two one := ⟨.symm, .symm⟩
theorem mem_adj_nrm {ps : List (Int × Int)} {n : Int} (inn : ∀ p ∈ ps, 0 ≤ p.1 ∧ p.1 < p.2 ∧ p.2 < n) {v : Nat} {u : Int} (ne : u ≠ (v : Int)) : u ∈ adjL ps v ↔ nrm (u, (v : Int)) ∈ ps := by
  rw [mem_adjL]
  unfold nrm
  dsimp only
  rcases Int.lt_or_gt_of_ne ne with c | c
  · rw [show min u (v : Int) = u by omega, show max u (v : Int) = v by omega]
    refine ⟨fun h => h.elim (fun h => ?_) id, .inr⟩
    have := inn _ h
    dsimp only at this
    omega
  · rw [show min u (v : Int) = v by omega, show max u (v : Int) = u by omega]
    refine ⟨fun h => h.elim id (fun h => ?_), .inl⟩
    have := inn _ h
    dsimp only at this
    omega
section
variable {P : Program} {w : World} {K : PySem.W.Frag} {mg : Str → Option Value} {base : Heap}
/-- the set of a mask, ascending -/
def spMem : Sp := fun vs H Q _ => ∃ (x : Int) (S : Int → Prop), vs = [.int x] ∧ Msk x S ∧ (∀ i : Nat, S i → i < 1000) ∧
  ∀ (p : Addr) (ns : List Int) (H' : Hp), Same H H' → H' p = some (.tup (ns.map V.int)) → H p = none → ns.Pairwise (· < ·) → (∀ z, z ∈ ns ↔ 0 ≤ z ∧ S z) → Q (.ref p) H'
theorem asc_len {n : Nat} {ns : List Int} (asc : ns.Pairwise (· < ·)) (h : ∀ v ∈ ns, 0 ≤ v ∧ v < (n : Int)) : ns.length ≤ n := by
  have nd : ns.Nodup := asc.imp fun {a b} h => by omega
  have := nodup_le ns (rgI (n : Int)) nd fun v hv => mem_rgI.mpr (h v hv)
  rw [rgI_len] at this
  omega
theorem ok_members (T : Blt mg) (D : DefAt K mg "members_of" s_members_of ["mask"]) : FnOk P w K mg base CX0 1 D.f D.fd ["mask"] spMem := by
  refine D.F.ok sc_members_of (fun vs H Q E h => ?_) (fun cdv A outer s H vs Q E hr h => ?_)
  · obtain ⟨x, S, rfl, _⟩ := h
    rfl
  · obtain ⟨x, S, rfl, m, bd, q⟩ := h
    refine ⟨_, (pss_cons (ps_set (i := 1) sc_members_of.nd rfl (Or.inl rfl) (pe_lst pa_nil))
      (pss_cons (ps_while PassesOwn.never (pt_cmpR op_gt (pv 0) pe_int (nomark _))
        (pss_cons (ps_set (i := 2) sc_members_of.nd rfl (Or.inl rfl) (pe_op op_and (pv 0) (pe_un un_neg (pv 0))))
        (pss_cons (ps_expr (PE.bmK (K := K) rfl (pe_bm PySem.F.plainAttrs_list PySem.F.slot_list_append PySem.F.type_list_append mt_append (pv 1) (pa_cons (pe_op op_sub (PE.bm0K (K := K) rfl (pe_bm0 PySem.F.plainAttrs_int PySem.F.slot_int_bit_length PySem.F.type_int_bit_length mt_bitlen (pv 2))) pe_int) pa_nil))))
        (pss_one (ps_aug (i := 0) sc_members_of.nd rfl (Or.inl rfl) (pv 2) iop_xor)))))
      (pss_one (ps_ret (pe_callTy (call_tupleK (K := K) rfl) (by rfl) T.tuple (by decide +kernel) (pa_cons (pv 1) pa_nil)))))), ?_⟩
    refine r_at (σ := [some _, none, none]) rfl ?_
    walk_at "z"
    refine r_lstN (by decide) fun f hf => ?_
    walk_at "z"
    let W : Nat → L2.St → Hp → Prop := fun k σ' H' => ∃ (y : Int) (ns : List Int) (x3 : Option V), σ' = [some (.int y), some (.ref f), x3] ∧ k = y.toNat ∧ Same H H' ∧ H' f = some (.lst (ns.map V.int)) ∧ ns.Pairwise (· < ·) ∧ Msk y (fun i => S i ∧ i ∉ ns) ∧ (∀ v ∈ ns, 0 ≤ v ∧ v < 1000 ∧ S v) ∧ (∀ v ∈ ns, ∀ i : Nat, Bit y i = true → v < i)
    have start : W x.toNat [some (.int x), some (.ref f), none] (upd H f (.lst [])) := ⟨x, [], none, rfl, rfl, same_new hf, upd_same, .nil, m.congr fun i => by simp, fun v h => (nomatch h), fun v h => (nomatch h)⟩
    refine r_while W _ start ?_
    rintro k σ' H1 ⟨y, ns, x3, rfl, rfl, s1, hF, asc, my, sub, low⟩
    have y0 := my.nn
    walk_at "z"
    refine r_ite (fun c => ?_) (fun c => ?_)
    · refine r_whGo ?_
      obtain ⟨b, e1, e2, e3, e4, e5, e6⟩ := low_bit (x := y) (by omega)
      have hb := (my.bts b).mp e2
      have b1 := bd b hb.1
      walk_at "z"
      refine r_appT hF (small_lt (by
        have := asc_len (n := 1000) asc fun v hv => ⟨(sub v hv).1, (sub v hv).2.1⟩
        rw [List.length_map]
        omega)) ?_
      walk_at "z"
      refine r_aug rfl ?_
      walk_at "z"
      refine r_augI rfl ?_
      have eb : ((Builtin.Int.intBits (Builtin.bitAnd y (-y)) : Nat) : Int) - 1 = (b : Int) := by
        rw [e1, intBits_pow]
        omega
      rw [eb]
      refine ⟨(Builtin.bitXor y (Builtin.bitAnd y (-y))).toNat, by omega, _, ns ++ [(b : Int)], _, rfl, rfl, same_mut s1 hf, by rw [List.map_append]; exact upd_same, ?_, .of e4 fun i => ?_, fun v hv => ?_, fun v hv i hi => ?_⟩
      · refine List.pairwise_append.mpr ⟨asc, by simp, fun a ha c hc => ?_⟩
        rw [List.mem_singleton.mp hc]
        exact low a ha b e2
      · rw [e6, Bool.and_eq_true, my.bts i, Bool.not_eq_true', decide_eq_false_iff_not, List.mem_append, List.mem_singleton]
        constructor
        · rintro ⟨⟨h1, h2⟩, h3⟩
          exact ⟨h1, fun z => z.elim h2 fun z => h3 (by omega)⟩
        · rintro ⟨h1, h2⟩
          exact ⟨⟨h1, fun z => h2 (.inl z)⟩, fun z => h2 (.inr (by omega))⟩
      · rcases List.mem_append.mp hv with h | h
        · exact sub v h
        · rw [List.mem_singleton.mp h]
          exact ⟨by omega, by omega, hb.1⟩
      · rw [e6, Bool.and_eq_true, Bool.not_eq_true', decide_eq_false_iff_not] at hi
        rcases List.mem_append.mp hv with h | h
        · exact low v h i hi.1
        · rw [List.mem_singleton.mp h]
          rcases Nat.lt_or_ge i b with z | z
          · rw [e3 i z] at hi
            exact absurd hi.1 Bool.false_ne_true
          · have := hi.2
            omega
    · walk_at "z"
      refine r_tupL (.inl (.inl hF)) fun p hp => ?_
      have e : y = 0 := by omega
      subst e
      refine q p ns _ (s1.trans (same_new hp)) upd_same (s1.free hp) asc fun z => ⟨fun h => ⟨(sub z h).1, (sub z h).2.2⟩, fun ⟨h1, h2⟩ => ?_⟩
      refine Classical.byContradiction fun n => ?_
      have := my.ne0.mpr ⟨z.toNat, by
        rw [show ((z.toNat : Nat) : Int) = z by omega]
        exact ⟨h2, n⟩⟩
      exact this rfl
/-- the mask of the neighbours of a mask -/
def spNearM : Sp := fun vs H Q _ => ∃ (l : Addr) (x : Int) (ms : List Int) (S : Int → Prop) (A : Nat → List Int), vs = [.ref l, .int x] ∧ H l = some (.lst (ms.map V.int)) ∧ Msk x S ∧ (∀ i : Nat, S i → i < ms.length ∧ i < 1000) ∧
  (∀ i m, ms[i]? = some m → Msk m (fun z => z ∈ A i)) ∧ ∀ (y : Int) (H' : Hp), Same H H' → Msk y (fun i => ∃ v : Nat, S v ∧ i ∈ A v) → Q (.int y) H'
theorem ok_nearM (T : Blt mg) (D : DefAt K mg "near_of" s_near_of ["around", "mask"]) (D_members_of : DefAt K mg "members_of" s_members_of ["mask"]) (G_members_of : FnOk P w K mg base CX0 1 D_members_of.f D_members_of.fd ["mask"] spMem) :
    FnOk P w K mg base CX0 2 D.f D.fd ["around", "mask"] spNearM := by
  refine D.F.ok sc_near_of (fun vs H Q E h => ?_) (fun cdv A outer s H vs Q E hr h => ?_)
  · obtain ⟨l, x, ms, S, B, rfl, _⟩ := h
    rfl
  · obtain ⟨l, x, ms, S, B, rfl, hl, mx, bd, mk, q⟩ := h
    refine ⟨_, (pss_cons (ps_set (i := 2) sc_near_of.nd rfl (Or.inl rfl) pe_int)
      (pss_cons (ps_for PassesOwn.never (by rfl) (PI.tupK (K := K) rfl (pi_tup (pe_call G_members_of (hr.mono (by first | decide | omega)) (by rfl) D_members_of.g D_members_of.F.kp D_members_of.b .nil pass0 (pa_cons (pv 1) pa_nil)))) (pg_name (i := 3) sc_near_of.nd rfl (Or.inl rfl))
        (pss_one (ps_aug (i := 2) sc_near_of.nd rfl (Or.inl rfl) (pe_ix (ix_listK (K := K) rfl) (pv 0) (pv 3) (fun _ _ => rfl)) iop_or)))
      (pss_one (ps_ret (pv 2))))), ?_⟩
    refine r_at (σ := [some _, some _, none, none]) rfl ?_
    walk_at "z"
    refine ⟨x, S, rfl, mx, fun i h => (bd i h).2, fun p ns H1 s1 hp hp0 asc mem => ?_⟩
    walk_at "z"
    refine r_it (.inl (.inl hp)) (forR_tup (xs := ns.map V.int) (fun j σ' H' => H' = H1 ∧ ∃ (y : Int) (z : Option V), σ' = [some (.ref l), some (.int x), some (.int y), z] ∧ Msk y (fun i => ∃ v ∈ ns.take j, i ∈ B v.toNat)) ⟨rfl, _, _, rfl, Msk.zero.congr fun i => by simp⟩ (fun i σ' H' _ ⟨eH, _⟩ => .inl (.inl (eH ▸ hp))) ?_ ?_)
    · rintro j v σ' H' hv ⟨rfl, y, z, rfl, m⟩
      rw [List.getElem?_map] at hv
      obtain ⟨v, hv9, rfl⟩ := Option.map_eq_some_iff.mp hv
      obtain ⟨v0, vS⟩ := (mem v).mp (List.mem_of_getElem? hv9)
      have ev : ((v.toNat : Nat) : Int) = v := by omega
      obtain ⟨c1, c2⟩ := bd v.toNat (by rw [ev]; exact vS)
      obtain ⟨k, hk⟩ : ∃ k, ms[v.toNat]? = some k := ⟨_, List.getElem?_eq_getElem c1⟩
      walk_at "z"
      refine r_aug rfl ?_
      walk_at "z"
      refine r_ixL (.inl (.inl (s1 _ _ hl))) (at_of (j := v.toNat) (by omega) (by rw [List.getElem?_map, hk]; rfl)) ?_
      refine r_augOr rfl ?_
      refine ⟨rfl, _, _, rfl, (m.or (mk _ _ hk)).congr fun i => ?_⟩
      rw [take_next hv9]
      constructor
      · rintro (⟨v', h1, h2⟩ | h)
        · exact ⟨v', List.mem_append_left _ h1, h2⟩
        · exact ⟨v, List.mem_append_right _ (List.mem_singleton.mpr rfl), h⟩
      · rintro ⟨v', h1, h2⟩
        rcases List.mem_append.mp h1 with c | c
        · exact .inl ⟨v', c, h2⟩
        · exact .inr (List.mem_singleton.mp c ▸ h2)
    · rintro σ' H' ⟨rfl, y, z, rfl, m⟩
      rw [List.length_map, List.take_length] at m
      walk_at "z"
      refine q y _ s1 (m.congr fun i => ⟨fun ⟨v, h1, h2⟩ => ?_, fun ⟨v, h1, h2⟩ => ⟨(v : Int), (mem _).mpr ⟨by omega, h1⟩, by rw [Int.toNat_natCast]; exact h2⟩⟩)
      obtain ⟨v0, vS⟩ := (mem v).mp h1
      exact ⟨v.toNat, by rw [show ((v.toNat : Nat) : Int) = v by omega]; exact vS, h2⟩
def spTouch (K : PySem.W.Frag) : Sp := fun vs H Q _ => ∃ (g : V) (n : Nat) (ps : List (Int × Int)) (a b : Addr) (one two : List Int), vs = [g, .ref a, .ref b] ∧ GrAt H g (n : Int) ps ∧ n ≤ 100 ∧ ps.length ≤ 10000 ∧ (∀ p ∈ ps, 0 ≤ p.1 ∧ p.1 < p.2 ∧ p.2 < (n : Int)) ∧
  SqT K H a (one.map V.int) ∧ SqT K H b (two.map V.int) ∧ (∀ v ∈ one, 0 ≤ v ∧ v < (n : Int)) ∧ (∀ v ∈ two, 0 ≤ v ∧ v < (n : Int)) ∧ ∀ (r : Bool) (H' : Hp), Same H H' → (r = true ↔ TouchP ps one two) → Q (.bl r) H'
def HitsP (ns : List Int) (oss : List (List Int)) : Prop := ∀ o ∈ oss, ∃ v ∈ ns, v ∈ o
def spHits (K : PySem.W.Frag) : Sp := fun vs H Q _ => ∃ (a b : Addr) (ns : List Int) (xs : List V) (oss : List (List Int)), vs = [.ref a, .ref b] ∧ SqT K H a (ns.map V.int) ∧ H b = some (.tup xs) ∧ ITups H xs oss ∧ oss.length ≤ 10000 ∧ (∀ v ∈ ns, 0 ≤ v ∧ v < 1000) ∧ (∀ o ∈ oss, ∀ v ∈ o, 0 ≤ v ∧ v < 1000) ∧
  ∀ (r : Bool) (H' : Hp), Same H H' → (r = true ↔ HitsP ns oss) → Q (.bl r) H'
end

set_option Elab.async false
set_option linter.all false
set_option maxRecDepth 100000
set_option maxHeartbeats 4000000
open PySem PySem.Spec PyProof.Rows L2

abbrev s_full_mask : Stmt := topS 8
theorem sc_full_mask : FnScope ["n"] ["n"] (defScope s_full_mask) := ⟨rfl, rfl, rfl, by decide +kernel, rfl, by decide +kernel, by decide +kernel⟩

abbrev s_parting : Stmt := topS 16
theorem sc_parting : FnScope ["around", "whole", "mask", "some", "every", "v"] ["around", "whole", "mask"] (defScope s_parting) := ⟨rfl, rfl, rfl, by decide +kernel, rfl, by decide +kernel, by decide +kernel⟩

abbrev s_least : Stmt := topS 15
theorem sc_least : FnScope ["around", "whole", "mask", "parting"] ["around", "whole", "mask"] (defScope s_least) := ⟨rfl, rfl, rfl, by decide +kernel, rfl, by decide +kernel, by decide +kernel⟩

/-- u and v are neighbours -/
def Nb (ps : List (Int × Int)) (u v : Int) : Prop := (u, v) ∈ ps ∨ (v, u) ∈ ps
instance {ps : List (Int × Int)} {u v : Int} : Decidable (Nb ps u v) := inferInstanceAs (Decidable (_ ∨ _))
theorem mem_adjN {ps : List (Int × Int)} {a z : Int} (h : 0 ≤ a) : z ∈ adjL ps a.toNat ↔ Nb ps a z := by
  rw [mem_adjL, show ((a.toNat : Nat) : Int) = a by omega]
  exact Iff.rfl
theorem Nb.nn {ps : List (Int × Int)} {n a z : Int} (inn : ∀ p ∈ ps, 0 ≤ p.1 ∧ p.1 < p.2 ∧ p.2 < n) (h : Nb ps a z) : 0 ≤ z ∧ z < n ∧ z ≠ a := by
  rcases h with h | h
  · have := inn _ h
    dsimp only at this
    omega
  · have := inn _ h
    dsimp only at this
    omega
theorem Nb.nrm {ps : List (Int × Int)} {n a z : Int} (inn : ∀ p ∈ ps, 0 ≤ p.1 ∧ p.1 < p.2 ∧ p.2 < n) (ne : a ≠ z) : nrm (a, z) ∈ ps ↔ Nb ps a z := by
  unfold Z.nrm Nb
  dsimp only
  rcases Int.lt_or_gt_of_ne ne with c | c
  · rw [show min a z = a by omega, show max a z = z by omega]
    refine ⟨.inl, fun h => h.elim id fun h => ?_⟩
    have := inn _ h
    dsimp only at this
    omega
  · rw [show min a z = z by omega, show max a z = a by omega]
    refine ⟨.inr, fun h => h.elim (fun h => ?_) id⟩
    have := inn _ h
    dsimp only at this
    omega
/-- i is outside, a neighbour of some within and not of all -/
def SplP (n : Nat) (ps : List (Int × Int)) (M : Int → Prop) (i : Int) : Prop := (i < n ∧ ¬ M i) ∧ (∃ v, M v ∧ Nb ps v i) ∧ ∃ v, M v ∧ ¬ Nb ps v i
def Uns (n : Nat) (ps : List (Int × Int)) (M : Int → Prop) : Prop := ∀ i : Int, 0 ≤ i → ¬ SplP n ps M i
/-- the least unsplit set about S -/
structure LeastM (n : Nat) (ps : List (Int × Int)) (S M : Int → Prop) : Prop where
  inn : ∀ v, M v → 0 ≤ v ∧ v < n
  sub : ∀ v, S v → M v
  uns : Uns n ps M
  least : ∀ T : Int → Prop, (∀ v, S v → T v) → Uns n ps T → ∀ v, M v → T v
theorem spl_in {n : Nat} {ps : List (Int × Int)} {M T : Int → Prop} (h : ∀ v, M v → T v) (u : Uns n ps T) {i : Int} (i0 : 0 ≤ i) (s : SplP n ps M i) : T i := by
  refine Classical.byContradiction fun c => u i i0 ⟨⟨s.1.1, c⟩, ?_, ?_⟩
  · obtain ⟨v, h1, h2⟩ := s.2.1
    exact ⟨v, h v h1, h2⟩
  · obtain ⟨v, h1, h2⟩ := s.2.2
    exact ⟨v, h v h1, h2⟩
section
variable {P : Program} {w : World} {K : PySem.W.Frag} {mg : Str → Option Value} {base : Heap}
def spFull : Sp := fun vs H Q _ => ∃ n : Int, vs = [.int n] ∧ 0 ≤ n ∧ n ≤ 1000 ∧ Q (.int (1 * 2 ^ n.toNat - 1)) H
theorem ok_full (T : Blt mg) (D : DefAt K mg "full_mask" s_full_mask ["n"]) : FnOk P w K mg base CX0 1 D.f D.fd ["n"] spFull := by
  refine D.F.ok sc_full_mask (fun vs H Q E h => ?_) (fun cdv A outer s H vs Q E hr h => ?_)
  · obtain ⟨n, rfl, _⟩ := h
    rfl
  · obtain ⟨n, rfl, n0, n1, q⟩ := h
    refine ⟨_, (pss_one (ps_ret (pe_op op_sub (pe_op op_shl pe_int (pv 0)) pe_int))), ?_⟩
    refine r_at (σ := [some _]) rfl ?_
    walk_at "z"
    refine r_i ⟨by omega, by omega, by decide⟩ ?_
    walk_at "z"
    exact q
/-- the vertices that split a set -/
def spParting : Sp := fun vs H Q _ => ∃ (l : Addr) (wh x : Int) (ms : List Int) (S : Int → Prop) (ps : List (Int × Int)), vs = [.ref l, .int wh, .int x] ∧ H l = some (.lst (ms.map V.int)) ∧ ms.length ≤ 60 ∧ Msk wh (fun i => i < ms.length) ∧ Msk x S ∧ (∀ v, S v → 0 ≤ v ∧ v < ms.length) ∧
  (∀ i m, ms[i]? = some m → Msk m (fun z => z ∈ adjL ps i)) ∧ ∀ (y : Int) (H' : Hp), Same H H' → Msk y (SplP ms.length ps S) → Q (.int y) H'
theorem ok_parting (T : Blt mg) (D : DefAt K mg "_parting" s_parting ["around", "whole", "mask"]) (D_members_of : DefAt K mg "members_of" s_members_of ["mask"]) (G_members_of : FnOk P w K mg base CX0 1 D_members_of.f D_members_of.fd ["mask"] spMem) :
    FnOk P w K mg base CX0 2 D.f D.fd ["around", "whole", "mask"] spParting := by
  refine D.F.ok sc_parting (fun vs H Q E h => ?_) (fun cdv A outer s H vs Q E hr h => ?_)
  · obtain ⟨l, wh, x, ms, S, ps, rfl, _⟩ := h
    rfl
  · obtain ⟨l, wh, x, ms, S, ps, rfl, hl, m60, mw, mx, bd, mk, q⟩ := h
    refine ⟨_, (pss_cons (ps_set (i := 3) sc_parting.nd rfl (Or.inl rfl) pe_int)
      (pss_cons (ps_set (i := 4) sc_parting.nd rfl (Or.inl rfl) (pv 1))
      (pss_cons (ps_for PassesOwn.never (by rfl) (PI.tupK (K := K) rfl (pi_tup (pe_call G_members_of (hr.mono (by first | decide | omega)) (by rfl) D_members_of.g D_members_of.F.kp D_members_of.b .nil pass0 (pa_cons (pv 2) pa_nil)))) (pg_name (i := 5) sc_parting.nd rfl (Or.inl rfl))
        (pss_cons (ps_aug (i := 3) sc_parting.nd rfl (Or.inl rfl) (pe_ix (ix_listK (K := K) rfl) (pv 0) (pv 5) (fun _ _ => rfl)) iop_or)
        (pss_one (ps_aug (i := 4) sc_parting.nd rfl (Or.inl rfl) (pe_ix (ix_listK (K := K) rfl) (pv 0) (pv 5) (fun _ _ => rfl)) iop_and))))
      (pss_one (ps_ret (pe_op op_and (pe_op op_and (pe_op op_and (pv 3) (pe_un un_inv (pv 4))) (pv 1)) (pe_un un_inv (pv 2)))))))), ?_⟩
    refine r_at (σ := [some _, some _, some _, none, none, none]) rfl ?_
    walk_at "z"
    refine ⟨x, S, rfl, mx, fun i h => by have := bd _ h; omega, fun p ns H1 s1 hp hp0 asc mem => ?_⟩
    walk_at "z"
    refine r_it (.inl (.inl hp)) (forR_tup (xs := ns.map V.int) (fun j σ' H' => H' = H1 ∧ ∃ (a b : Int) (z : Option V), σ' = [some (.ref l), some (.int wh), some (.int x), some (.int a), some (.int b), z] ∧ Msk a (fun i => ∃ v ∈ ns.take j, Nb ps v i) ∧ Msk b (fun i => i < ms.length ∧ ∀ v ∈ ns.take j, Nb ps v i)) ⟨rfl, _, _, _, rfl, Msk.zero.congr fun i => by simp, mw.congr fun i => by simp⟩ (fun i σ' H' _ ⟨eH, _⟩ => .inl (.inl (eH ▸ hp))) ?_ ?_)
    · rintro j v σ' H' hv ⟨rfl, a, b, z, rfl, ma, mb⟩
      rw [List.getElem?_map] at hv
      obtain ⟨v, hv9, rfl⟩ := Option.map_eq_some_iff.mp hv
      obtain ⟨v0, vS⟩ := (mem v).mp (List.mem_of_getElem? hv9)
      have vb := bd v vS
      obtain ⟨k, hk⟩ : ∃ k, ms[v.toNat]? = some k := ⟨_, List.getElem?_eq_getElem (by omega)⟩
      have kk := (mk _ _ hk).congr fun i => mem_adjN (z := i) v0
      have ix : atI (ms.map V.int) v = some (.int k) := at_of (j := v.toNat) (by omega) (by rw [List.getElem?_map, hk]; rfl)
      have hl1 := s1 _ _ hl
      walk_at "z"
      refine r_aug rfl ?_
      walk_at "z"
      refine r_augI rfl ?_
      walk_at "z"
      refine r_aug rfl ?_
      walk_at "z"
      refine r_augI rfl ?_
      refine ⟨rfl, _, _, _, rfl, (ma.or kk).congr fun i => ?_, (mb.and kk).congr fun i => ?_⟩
      · rw [take_next hv9]
        constructor
        · rintro (⟨v', h1, h2⟩ | h)
          · exact ⟨v', List.mem_append_left _ h1, h2⟩
          · exact ⟨v, List.mem_append_right _ (List.mem_singleton.mpr rfl), h⟩
        · rintro ⟨v', h1, h2⟩
          rcases List.mem_append.mp h1 with c | c
          · exact .inl ⟨v', c, h2⟩
          · exact .inr (List.mem_singleton.mp c ▸ h2)
      · rw [take_next hv9]
        constructor
        · rintro ⟨⟨h0, h1⟩, h2⟩
          refine ⟨h0, fun v' hv' => ?_⟩
          rcases List.mem_append.mp hv' with c | c
          · exact h1 v' c
          · exact List.mem_singleton.mp c ▸ h2
        · rintro ⟨h0, h1⟩
          exact ⟨⟨h0, fun v' hv' => h1 v' (List.mem_append_left _ hv')⟩, h1 v (List.mem_append_right _ (List.mem_singleton.mpr rfl))⟩
    · rintro σ' H' ⟨rfl, a, b, z, rfl, ma, mb⟩
      rw [List.length_map, List.take_length] at ma mb
      walk_at "z"
      refine q _ _ s1 (Msk.congr (((ma.andB mb.bts.not).and mw).andB mx.bts.not) fun i => ?_)
      unfold SplP
      constructor
      · rintro ⟨⟨⟨⟨v, h1, h2⟩, h3⟩, h4⟩, h5⟩
        refine ⟨⟨h4, h5⟩, ⟨v, ((mem v).mp h1).2, h2⟩, ?_⟩
        refine Classical.byContradiction fun c => h3 ⟨h4, fun v' hv' => Classical.byContradiction fun d => c ⟨v', ((mem v').mp hv').2, d⟩⟩
      · rintro ⟨⟨h4, h5⟩, ⟨v, h1, h2⟩, v', h1', h3⟩
        exact ⟨⟨⟨⟨v, (mem v).mpr ⟨(bd v h1).1, h1⟩, h2⟩, fun c => h3 (c.2 v' ((mem v').mpr ⟨(bd v' h1').1, h1'⟩))⟩, h4⟩, h5⟩
def spLeast : Sp := fun vs H Q _ => ∃ (l : Addr) (wh x : Int) (ms : List Int) (S : Int → Prop) (ps : List (Int × Int)), vs = [.ref l, .int wh, .int x] ∧ H l = some (.lst (ms.map V.int)) ∧ ms.length ≤ 60 ∧ Msk wh (fun i => i < ms.length) ∧ Msk x S ∧ (∀ v, S v → 0 ≤ v ∧ v < ms.length) ∧
  (∀ i m, ms[i]? = some m → Msk m (fun z => z ∈ adjL ps i)) ∧ ∀ (y : Int) (M : Int → Prop) (H' : Hp), Same H H' → Msk y M → LeastM ms.length ps S M → Q (.int y) H'
theorem msk_le {x y : Int} {S T : Int → Prop} (a : Msk x S) (b : Msk y T) (h : ∀ i : Nat, S i → T i) : x ≤ y := by
  have e : x = Builtin.bitAnd x y := a.sub (a.and b) fun i => ⟨fun s => ⟨s, h i s⟩, And.left⟩
  rw [bitAnd_pp a.nn b.nn] at e
  have h1 : x.toNat &&& y.toNat ≤ y.toNat := Nat.and_le_right
  have := b.nn
  omega
theorem ok_least (T : Blt mg) (D : DefAt K mg "_least" s_least ["around", "whole", "mask"]) (D_parting : DefAt K mg "_parting" s_parting ["around", "whole", "mask"]) (G_parting : FnOk P w K mg base CX0 2 D_parting.f D_parting.fd ["around", "whole", "mask"] spParting) :
    FnOk P w K mg base CX0 3 D.f D.fd ["around", "whole", "mask"] spLeast := by
  refine D.F.ok sc_least (fun vs H Q E h => ?_) (fun cdv A outer s H vs Q E hr h => ?_)
  · obtain ⟨l, wh, x, ms, S, ps, rfl, _⟩ := h
    rfl
  · obtain ⟨l, wh, x, ms, S, ps, rfl, hl, m60, mw, mx, bd, mk, q⟩ := h
    refine ⟨_, (pss_cons (ps_set (i := 3) sc_least.nd rfl (Or.inl rfl) (pe_call G_parting (hr.mono (by first | decide | omega)) (by rfl) D_parting.g D_parting.F.kp D_parting.b .nil pass0 (pa_cons (pv 0) (pa_cons (pv 1) (pa_cons (pv 2) pa_nil)))))
      (pss_cons (ps_while PassesOwn.never (pt_cmpR op_ne (pv 3) pe_int (nomark _))
        (pss_cons (ps_aug (i := 2) sc_least.nd rfl (Or.inl rfl) (pv 3) iop_or)
        (pss_one (ps_set (i := 3) sc_least.nd rfl (Or.inl rfl) (pe_call G_parting (hr.mono (by first | decide | omega)) (by rfl) D_parting.g D_parting.F.kp D_parting.b .nil pass0 (pa_cons (pv 0) (pa_cons (pv 1) (pa_cons (pv 2) pa_nil))))))))
      (pss_one (ps_ret (pv 2))))), ?_⟩
    refine r_at (σ := [some _, some _, some _, none]) rfl ?_
    walk_at "z"
    refine ⟨l, wh, x, ms, S, ps, rfl, hl, m60, mw, mx, bd, mk, fun y0 H1 s1 my0 => ?_⟩
    walk_at "z"
    let W : Nat → L2.St → Hp → Prop := fun k σ' H' => ∃ (a p : Int) (M : Int → Prop), σ' = [some (.ref l), some (.int wh), some (.int a), some (.int p)] ∧ k = (wh - a).toNat ∧ Same H H' ∧ Msk a M ∧ Msk p (SplP ms.length ps M) ∧ (∀ v, M v → 0 ≤ v ∧ v < ms.length) ∧ (∀ v, S v → M v) ∧ (∀ T : Int → Prop, (∀ v, S v → T v) → Uns ms.length ps T → ∀ v, M v → T v)
    refine r_while W _ ⟨x, y0, S, rfl, rfl, s1, mx, my0, bd, fun _ h => h, fun T h _ => h⟩ ?_
    rintro k σ' H2 ⟨a, p, M, rfl, rfl, s2, ma, mp, bM, sM, lM⟩
    walk_at "z"
    refine r_iteN (fun c => ?_) (fun c => ?_)
    · refine r_whGo ?_
      have mo := ma.or mp
      have bM' : ∀ v, (M v ∨ (0 ≤ v ∧ SplP ms.length ps M v)) → 0 ≤ v ∧ v < ms.length := fun v h => h.elim (bM v) fun h => ⟨h.1, h.2.1.1⟩
      have mo' : Msk (Builtin.bitOr a p) (fun v => M v ∨ (0 ≤ v ∧ SplP ms.length ps M v)) := mo.congr fun i => or_congr_right ⟨fun h => ⟨by omega, h⟩, And.right⟩
      walk_at "z"
      refine r_aug rfl ?_
      walk_at "z"
      refine r_augI rfl ?_
      walk_at "z"
      refine ⟨l, wh, _, ms, _, ps, rfl, s2 _ _ hl, m60, mw, mo', bM', mk, fun y1 H3 s3 my1 => ?_⟩
      walk_at "z"
      have le := msk_le mo' mw fun i h => (bM' _ h).2
      have e0 : Builtin.bitAnd a p = 0 := (ma.and mp).sub Msk.zero fun i => ⟨fun h => h.2.1.2 h.1, False.elim⟩
      have ad : Builtin.bitOr a p = a + p := by
        have := bitOr_and a p
        omega
      have p0 := mp.nn
      refine ⟨(wh - Builtin.bitOr a p).toNat, by omega, _, y1, _, rfl, rfl, s2.trans s3, mo', my1, bM', fun v h => .inl (sM v h), fun T h u v hv => ?_⟩
      rcases hv with hv | ⟨v0, hv⟩
      · exact lM T h u v hv
      · exact spl_in (lM T h u) u v0 hv
    · subst c
      walk_at "z"
      refine q a M H2 s2 ma ⟨bM, sM, fun i i0 sp => ?_, lM⟩
      refine (mp.ne0.mpr ⟨i.toNat, ?_⟩) rfl
      rw [show ((i.toNat : Nat) : Int) = i by omega]
      exact sp
def spIsMod (K : PySem.W.Frag) : Sp := fun vs H Q _ => ∃ (g x : V) (n : Nat) (ps : List (Int × Int)) (ns : List Int), vs = [g, x] ∧ GrAt H g (n : Int) ps ∧ 1 ≤ n ∧ n ≤ 60 ∧ ps.length ≤ 10000 ∧ (∀ p ∈ ps, 0 ≤ p.1 ∧ p.1 < p.2 ∧ p.2 < (n : Int)) ∧ ITup H x ns ∧ (∀ v ∈ ns, 0 ≤ v ∧ v < (n : Int)) ∧
  ∀ (b : Bool) (H' : Hp), Same H H' → (b = true ↔ ns ≠ [] ∧ Uns n ps (fun v => v ∈ ns)) → Q (.bl b) H'
def spLeastMod (K : PySem.W.Frag) : Sp := fun vs H Q _ => ∃ (g x : V) (n : Nat) (ps : List (Int × Int)) (ns : List Int), vs = [g, x] ∧ GrAt H g (n : Int) ps ∧ 1 ≤ n ∧ n ≤ 60 ∧ ps.length ≤ 10000 ∧ (∀ p ∈ ps, 0 ≤ p.1 ∧ p.1 < p.2 ∧ p.2 < (n : Int)) ∧ ITup H x ns ∧ (∀ v ∈ ns, 0 ≤ v ∧ v < (n : Int)) ∧
  ∀ (y : V) (ks : List Int) (H' : Hp), Same H H' → ITup H' y ks → ks.Pairwise (· < ·) → LeastM n ps (fun v => v ∈ ns) (fun v => v ∈ ks) → Q y H'
end

set_option Elab.async false
set_option linter.all false
set_option maxRecDepth 100000
set_option maxHeartbeats 4000000
open PySem PySem.Spec PyProof.Rows L2

abbrev s_law_subsets : Stmt := topS 46
theorem sc_law_subsets : FnScope ["items", "found", "item", "one"] ["items"] (defScope s_law_subsets) := ⟨rfl, rfl, rfl, by decide +kernel, rfl, by decide +kernel, by decide +kernel⟩

section
variable {P : Program} {w : World} {K : PySem.W.Frag} {mg : Str → Option Value} {base : Heap}
/-- ints ascending, each once -/
def spDistI (K : PySem.W.Frag) : Sp := fun vs H Q _ => ∃ (l : Addr) (ns : List Int), vs = [.ref l] ∧ SqL K H l (ns.map V.int) ∧ ns.length < 64 ∧
  ∀ (f : Addr) (qs : List Int) (H' : Hp), Same H H' → H' f = some (.lst (qs.map V.int)) → qs.Pairwise (· < ·) → (∀ p, p ∈ qs ↔ p ∈ ns) → Q (.ref f) H'
theorem ok_distI (T : Blt mg) (D : DefAt K mg "_law_distinct" s_law_distinct ["rows"]) : FnOk P w K mg base CX0 2 D.f D.fd ["rows"] (spDistI K) := by
  refine D.F.ok sc_law_distinct (fun vs H Q E h => ?_) (fun cdv A outer s H vs Q E hr h => ?_)
  · obtain ⟨l, ns, rfl, _⟩ := h
    rfl
  · obtain ⟨l, ns, rfl, hl, hlen, q⟩ := h
    refine ⟨_, (pss_cons (ps_set (i := 1) sc_law_distinct.nd rfl (Or.inl rfl) (pe_lst pa_nil))
      (pss_cons (ps_for PassesOwn.never (by rfl) (PI.listK (K := K) rfl (pi_list (pe_callB cr_sorted (by rfl) T.sorted (by decide +kernel) (pa_cons (pv 0) pa_nil)))) (pg_name (i := 2) sc_law_distinct.nd rfl (Or.inl rfl))
        (pss_one (ps_if (PW.pt (pw_or (pt_cmpR (op_eqDK (K := K) rfl hr.units) (pv 1) (pe_lst pa_nil) (nomark _)) (pw_or1 (pt_cmpR op_ne (pe_ix (ix_listK (K := K) rfl) (pv 1) (pe_un un_neg pe_int) (fun _ _ => rfl)) (pv 2) (nomark _)))))
          (pss_one (ps_expr (PE.bmK (K := K) rfl (pe_bm PySem.F.plainAttrs_list PySem.F.slot_list_append PySem.F.type_list_append mt_append (pv 1) (pa_cons (pv 2) pa_nil)))))
          pss_nil)))
      (pss_one (ps_ret (pv 1))))), ?_⟩
    refine r_at (σ := [some _, none, none]) rfl ?_
    walk_at "z"
    refine r_lstN (by decide) fun f hf => ?_
    walk_at "z"
    have s1 : Same H (upd H f (.lst [])) := same_new hf
    refine r_sortI (s1.seq hl) hlen fun ms p pm pw hn => ?_
    have s2 : Same H (upd (upd H f (.lst [])) p (.lst (ms.map V.int))) := s1.trans (same_new hn)
    have pf : f ≠ p := ne_of_none upd_same hn
    refine r_il (.inl (.inl upd_same)) (forR_list (xs := ms.map V.int) (fun i σ' H' => (∃ x2, σ' = [some (.ref l), some (.ref f), x2]) ∧ Same H H' ∧ H' p = some (.lst (ms.map V.int)) ∧ ∃ fs : List Int, H' f = some (.lst (fs.map V.int)) ∧ fs.length ≤ i ∧ DedI (ms.take i) fs)
      ⟨⟨_, rfl⟩, s2, upd_same, [], (upd_ne pf).trans upd_same, Nat.le_refl 0, .nil⟩ ?_ ?_ ?_)
    · rintro i σ' H' _ ⟨_, _, h, _⟩
      exact .inl (.inl h)
    · rintro i x σ' H' hx ⟨⟨x2, rfl⟩, sm, hpl, fs, hz, lf, D0⟩
      rw [List.getElem?_map] at hx
      obtain ⟨r, hr', rfl⟩ := Option.map_eq_some_iff.mp hx
      have il := (List.getElem?_eq_some_iff.mp hr').1
      have pl := pm.length_eq
      have tk : ms.take (i + 1) = ms.take i ++ [r] := take_next hr'
      walk_at "z"
      refine r_lstN (by decide) fun e he => ?_
      have ef : f ≠ e := ne_of_none hz he
      have s3 : Same H' (upd H' e (.lst [])) := same_new he
      refine r_eqNilI ((upd_ne ef).trans hz) upd_same ?_
      walk_at "z"
      have lens : (fs.map V.int).length < sizeLine := small_lt (by rw [List.length_map]; omega)
      have pwl : (ms.take i ++ [r]).Pairwise (· ≤ ·) := by
        rw [← tk]
        exact pw.take
      have push : ∀ H2 : Hp, Same H' H2 → H2 f = some (.lst (fs.map V.int)) → fs.getLast? ≠ some r → (∃ x2_1, [some (V.ref l), some (V.ref f), some (V.int r)] = [some (V.ref l), some (V.ref f), x2_1]) ∧ Same H (upd H2 f (.lst (fs.map V.int ++ [.int r]))) ∧ (upd H2 f (.lst (fs.map V.int ++ [.int r]))) p = some (.lst (ms.map V.int)) ∧ ∃ fs_1 : List Int, (upd H2 f (.lst (fs.map V.int ++ [.int r]))) f = some (.lst (fs_1.map V.int)) ∧ fs_1.length ≤ i + 1 ∧ DedI (ms.take (i + 1)) fs_1 := fun H2 sx hf2 hne => by
        refine ⟨⟨_, rfl⟩, same_mut (sm.trans sx) hf, ?_, fs ++ [r], ?_, by rw [List.length_append]; simp only [List.length_cons, List.length_nil]; omega, ?_⟩
        · rw [upd_ne (Ne.symm pf)]
          exact sx _ _ hpl
        · rw [List.map_append]
          exact upd_same
        · rw [tk]
          exact D0.more pwl hne
      refine r_ite (fun h0 => ?_) (fun h0 => ?_)
      · walk_at "z"
        refine r_appT (by walk_at "zh") lens ?_
        refine push _ s3 ((upd_ne ef).trans hz) ?_
        rw [h0]
        exact fun z => nomatch z
      · walk_at "z"
        obtain ⟨r', hr2⟩ : ∃ r', fs.getLast? = some r' := by
          cases q9 : fs.getLast? with
          | some r' => exact ⟨r', rfl⟩
          | none => exact absurd (List.getLast?_eq_none_iff.mp q9) h0
        have hx' : (fs.map V.int).getLast? = some (.int r') := by rw [List.getLast?_map, hr2]; rfl
        refine r_ixL (.inl (.inl ((upd_ne ef).trans hz))) (at_last hx') ?_
        walk_at "z"
        refine r_iteN (fun h1 => ?_) (fun h1 => ?_)
        · walk_at "z"
          refine r_appT (by walk_at "zh") lens ?_
          refine push _ s3 ((upd_ne ef).trans hz) ?_
          rw [hr2]
          exact fun z => h1 (Option.some.inj z)
        · walk_at "z"
          refine ⟨⟨_, rfl⟩, sm.trans s3, s3 _ _ hpl, fs, s3 _ _ hz, by omega, ?_⟩
          rw [tk]
          exact D0.same (by rw [hr2, h1])
    · rintro σ' H' ⟨⟨x2, rfl⟩, sm, hpl, fs, hz, lf, D0⟩
      walk_at "z"
      rw [List.length_map, List.take_length] at D0
      exact q f fs H' sm hz D0.asc fun z => (D0.mem z).trans pm.mem_iff
/-- what is reached from v within some vertices -/
def spReach (K : PySem.W.Frag) : Sp := fun vs H Q _ => ∃ (g : V) (n v : Int) (ps : List (Int × Int)) (l : Addr) (ns : List Int), vs = [g, .int v, .ref l] ∧ GrAt H g n ps ∧ H l = some (.lst (ns.map V.int)) ∧ ns.Nodup ∧ ns.length ≤ 60 ∧
  ∀ (t : Addr) (qs : List Int) (H' : Hp), Same H H' → H' t = some (.tup (qs.map V.int)) → qs.Pairwise (· < ·) → v ∈ qs → (∀ z ∈ qs, z = v ∨ z ∈ ns) → Q (.ref t) H'
end

set_option Elab.async false
set_option linter.all false
set_option maxRecDepth 100000
set_option maxHeartbeats 4000000
open PySem PySem.Spec PyProof.Rows L2

/-- all subsets, in the order in which the law makes them -/
def subF (f : List (List Int)) (ns : List Int) : List (List Int) := ns.foldl (fun f x => f ++ f.map (· ++ [x])) f
def subL (ns : List Int) : List (List Int) := subF [[]] ns
theorem subF_len : ∀ (ns : List Int) (f : List (List Int)), (subF f ns).length = f.length * 2 ^ ns.length
  | [], f => by simp [subF]
  | n :: ns, f => by
    have := subF_len ns (f ++ f.map (· ++ [n]))
    show (subF (f ++ f.map (· ++ [n])) ns).length = _
    rw [this, List.length_append, List.length_map, List.length_cons, Nat.pow_succ, Nat.mul_comm (2 ^ ns.length) 2, ← Nat.mul_assoc]
    congr 1
    omega
theorem subF_sub : ∀ (ns : List Int) (f : List (List Int)) (pre : List Int), (∀ o ∈ f, o.Sublist pre) → ∀ o ∈ subF f ns, o.Sublist (pre ++ ns)
  | [], f, pre, h => fun o ho => by rw [List.append_nil]; exact h o ho
  | n :: ns, f, pre, h => fun o ho => by
    have := subF_sub ns (f ++ f.map (· ++ [n])) (pre ++ [n]) (fun o ho => by
      rcases List.mem_append.mp ho with c | c
      · exact (h o c).trans (List.sublist_append_left _ _)
      · obtain ⟨o', ho', rfl⟩ := List.mem_map.mp c
        exact (h o' ho').append (List.Sublist.refl _)) o ho
    rw [List.append_assoc] at this
    exact this
theorem subL_sub {ns o : List Int} (h : o ∈ subL ns) : o.Sublist ns := subF_sub ns [[]] [] (fun o ho => by rw [List.mem_singleton.mp ho]; exact List.Sublist.refl _) o h
theorem subF_mono : ∀ (ns : List Int) (f : List (List Int)), ∀ o ∈ f, o ∈ subF f ns
  | [], f => fun o ho => ho
  | n :: ns, f => fun o ho => subF_mono ns _ o (List.mem_append_left _ ho)
theorem subL_first (z : Int) (ns : List Int) : [z] ∈ subL (z :: ns) := subF_mono ns ([[]] ++ [[]].map (· ++ [z])) [z] (by simp)
theorem subL_next {ns : List Int} {j : Nat} {x : Int} (h : ns[j]? = some x) : subL (ns.take (j + 1)) = subL (ns.take j) ++ (subL (ns.take j)).map (· ++ [x]) := by
  unfold subL subF
  rw [take_next h, List.foldl_append]
  rfl
theorem subL_len (ns : List Int) : (subL ns).length = 2 ^ ns.length := by
  unfold subL
  rw [subF_len]
  simp
section
variable {P : Program} {w : World} {K : PySem.W.Frag} {mg : Str → Option Value} {base : Heap}
def spJoined : Sp := fun vs H Q _ => ∃ (g x : V) (n : Int) (ps : List (Int × Int)) (ns : List Int), vs = [g, x] ∧ GrAt H g n ps ∧ ITup H x ns ∧ ns.Nodup ∧ ns.length ≤ 60 ∧
  ∀ (b : Bool) (H' : Hp), Same H H' → (b = true → ns ≠ []) → (∀ z, ns = [z] → b = true) → Q (.bl b) H'
def spSubs : Sp := fun vs H Q _ => ∃ (l : Addr) (ns : List Int), vs = [.ref l] ∧ H l = some (.lst (ns.map V.int)) ∧ ns.length ≤ 10 ∧ ∀ (f : Addr) (xs : List V) (H' : Hp), Same H H' → H' f = some (.lst xs) → ITups H' xs (subL ns) → Q (.ref f) H'
theorem itups_new {H : Hp} {t : Addr} {o : HO} {xs : List V} {es : List (List Int)} {ed : List Int} (h : ITups H xs es) (ht : H t = none) (e : ITup (upd H t o) (.ref t) ed) : ITups (upd H t o) (xs ++ [.ref t]) (es ++ [ed]) := (ITups.tk (.new ht) h).snoc e
theorem ok_subs (T : Blt mg) (D : DefAt K mg "_law_subsets" s_law_subsets ["items"]) : FnOk P w K mg base CX0 1 D.f D.fd ["items"] spSubs := by
  refine D.F.ok sc_law_subsets (fun vs H Q E h => ?_) (fun cdv A outer s H vs Q E hr h => ?_)
  · obtain ⟨l, ns, rfl, _⟩ := h
    rfl
  · obtain ⟨l, ns, rfl, hl, hn, q⟩ := h
    refine ⟨_, (pss_cons (ps_set (i := 1) sc_law_subsets.nd rfl (Or.inl rfl) (pe_lst (pa_cons (pe_tup pa_nil) pa_nil)))
      (pss_cons (ps_for PassesOwn.never (by rfl) (PI.listK (K := K) rfl (pi_list (pv 0))) (pg_name (i := 2) sc_law_subsets.nd rfl (Or.inr rfl))
        (pss_one (ps_set (i := 1) sc_law_subsets.nd rfl (Or.inl rfl) (pe_op op_cat (pv 1) (pe_lc (own := [("one", 3)]) (by rfl) sc_law_subsets.nd (PI.listK (K := K) rfl (pi_list (pv 1))) (blkOk_by (own := [("one", 3)]) (N := ["items", "found", "item", "one"]) (sc := (defScope s_law_subsets)) (by decide +kernel)) (fun _ _ _ _ _ => (pg_name (i := 3) sc_law_subsets.nd rfl (Or.inl rfl))) (fun _ _ _ _ _ => pts_nil) (fun _ _ _ _ _ => (pe_op (op_catAK (K := K) rfl) (pv 3) (pe_tup (pa_cons (pv 2) pa_nil)))))))))
      (pss_one (ps_ret (pv 1))))), ?_⟩
    refine r_at (σ := [some _, none, none, none]) rfl ?_
    walk_at "z"
    refine r_tupN (Nat.zero_le _) fun t0 ht0 => ?_
    walk_at "z"
    refine r_lstN sz1 fun f0 hf0 => ?_
    have s1 : Same H (upd (upd H t0 (.tup [])) f0 (.lst [.ref t0])) := (same_new ht0).trans (same_new hf0)
    have p0 : ITups (upd (upd H t0 (.tup [])) f0 (.lst [.ref t0])) [.ref t0] [[]] := .cons ⟨t0, rfl, same_new hf0 _ _ upd_same⟩ .nil
    have h0 : (upd (upd H t0 (.tup [])) f0 (.lst [.ref t0])) f0 = some (.lst [.ref t0]) := upd_same
    generalize upd (upd H t0 (.tup [])) f0 (.lst [.ref t0]) = H1 at s1 p0 h0 ⊢
    have hl1 := s1 _ _ hl
    walk_at "z"
    have lens : ∀ j, (subL (ns.take j)).length ≤ 1024 := fun j => by
      rw [subL_len, List.length_take]
      exact Nat.pow_le_pow_right (by omega) (show min j ns.length ≤ 10 by omega)
    refine r_il (.inl (.inl hl1)) (forR_list (xs := ns.map V.int) (fun j σ' H' => ∃ (f : Addr) (xs : List V) (x2 x3 : Option V), σ' = [some (.ref l), some (.ref f), x2, x3] ∧ Same H1 H' ∧ H' f = some (.lst xs) ∧ ITups H' xs (subL (ns.take j))) ⟨f0, _, _, _, rfl, fun _ _ z => z, h0, p0⟩ (fun j σ' H' _ ⟨f, xs, x2, x3, _, s2, _⟩ => .inl (.inl (s2 _ _ hl1))) ?_ ?_)
    · rintro j x σ' H' hx ⟨f, xs, x2, x3, rfl, s2, hf, pr⟩
      rw [List.getElem?_map] at hx
      obtain ⟨u, hu, rfl⟩ := Option.map_eq_some_iff.mp hx
      have lj := lens j
      walk_at "z"
      refine r_il (.inl (.inl hf)) fun d hd => lcR_list (xs := xs) (fun i H3 => Same H' H3 ∧ ∃ ys, H3 d = some (.lst ys) ∧ ITups H3 ys (((subL (ns.take j)).take i).map (· ++ [u]))) (by walk_at "zw") ⟨same_new hd, [], upd_same, .nil⟩ (fun i H3 _ ⟨s3, _⟩ => .inl (.inl (s3 _ _ hf))) ?_ ?_
      · rintro i y H3 hy ⟨s3, ys, hys, pys⟩
        obtain ⟨o, ho, t, rfl, ht⟩ := pd_get (ITups.tk (.of_same s3) pr) hy
        have il := (List.getElem?_eq_some_iff.mp ho).1
        have ol := (subL_sub (List.mem_of_getElem? ho)).length_le
        rw [List.length_take] at ol
        walk_at "z"
        refine ⟨rfl, ?_⟩
        walk_at "z"
        refine r_tupN sz1 fun t2 ht2 => ?_
        have s4 : Same H3 (upd H3 t2 (.tup [.int u])) := same_new ht2
        refine r_catA (s4 _ _ ht) upd_same (by rw [List.length_map]; simp only [List.length_cons, List.length_nil]; omega) fun p H5 s5 hp5 => ?_
        have s35 := s4.trans s5
        have hy5 := s35 _ _ hys
        refine r_lce hy5 (small_lt ?_) ⟨same_mut (s3.trans s35) hd, _, upd_same, ?_⟩
        · rw [pys.length, List.length_map, List.length_take]
          omega
        · rw [take_next ho, List.map_append]
          refine Paired.snoc (ITups.tk (.lst hy5) (ITups.tk (.of_same s35) pys)) (ITup.tk (.lst hy5) ⟨p, rfl, ?_⟩)
          rw [hp5, List.map_append]
          rfl
      · rintro H3 ⟨s3, ys, hys, pys⟩
        rw [pr.length, List.take_length] at pys
        have e1 := pr.length
        have e2 := pys.length
        rw [List.length_map] at e2
        walk_at "z"
        refine r_cat (s3 _ _ hf) hys (by omega) fun c hc => ?_
        refine ⟨c, _, _, _, rfl, (s2.trans s3).trans (same_new hc), upd_same, ?_⟩
        rw [subL_next hu]
        exact pd_append (ITups.tk (.of_same (s3.trans (same_new hc))) pr) (ITups.tk (.new hc) pys)
    · rintro σ' H' ⟨f, xs, x2, x3, rfl, s2, hf, pr⟩
      rw [List.length_map, List.take_length] at pr
      walk_at "z"
      exact q f xs H' (s1.trans s2) hf pr
def spLTouch : Sp := fun vs H Q _ => ∃ (g x y : V) (n : Int) (ps : List (Int × Int)) (one two : List Int), vs = [g, x, y] ∧ GrAt H g n ps ∧ ITup H x one ∧ ITup H y two ∧ two.length ≤ 1000 ∧ ∀ (r : Bool) (H' : Hp), Same H H' → (r = true ↔ TouchP ps one two) → Q (.bl r) H'
def spLHits : Sp := fun vs H Q _ => ∃ (x : V) (b : Addr) (ns : List Int) (xs : List V) (oss : List (List Int)), vs = [x, .ref b] ∧ ITup H x ns ∧ H b = some (.tup xs) ∧ ITups H xs oss ∧ oss.length ≤ 10000 ∧ (∀ o ∈ oss, o.length ≤ 10000) ∧
  ∀ (r : Bool) (H' : Hp), Same H H' → (r = true ↔ HitsP ns oss) → Q (.bl r) H'
end

set_option Elab.async false
set_option linter.all false
set_option maxRecDepth 100000
set_option maxHeartbeats 4000000
open PySem PySem.Spec PyProof.Rows L2

abbrev s_law_splits : Stmt := topS 47
theorem sc_law_splits : FnScope ["graph", "v", "members", "near", "u"] ["graph", "v", "members"] (defScope s_law_splits) := ⟨rfl, rfl, rfl, by decide +kernel, rfl, by decide +kernel, by decide +kernel⟩

abbrev s_law_is_module : Stmt := topS 48
theorem sc_law_is_module : FnScope ["graph", "members", "v"] ["graph", "members"] (defScope s_law_is_module) := ⟨rfl, rfl, rfl, by decide +kernel, rfl, by decide +kernel, by decide +kernel⟩

abbrev s_law_modules : Stmt := topS 49
theorem sc_law_modules : FnScope ["graph", "one"] ["graph"] (defScope s_law_modules) := ⟨rfl, rfl, rfl, by decide +kernel, rfl, by decide +kernel, by decide +kernel⟩

abbrev s_law_substituted : Stmt := topS 52
theorem sc_law_substituted : FnScope ["pool", "most", "base", "v", "inner", "u", "pairs", "rows", "pair", "w"] ["pool", "most"] (defScope s_law_substituted) := ⟨rfl, rfl, rfl, by decide +kernel, rfl, by decide +kernel, by decide +kernel⟩

theorem subF_app {o pre : List Int} {f : List (List Int)} : ∀ (ns : List Int), o.Sublist ns → ∀ (f : List (List Int)), pre ∈ f → pre ++ o ∈ subF f ns := by
  intro ns h
  induction h generalizing pre with
  | slnil =>
    intro f hp
    rw [List.append_nil]
    exact hp
  | cons a h ih =>
    intro f hp
    exact ih (f ++ f.map (· ++ [a])) (List.mem_append_left _ hp)
  | cons_cons a h ih =>
    intro f hp
    have := ih (pre := pre ++ [a]) (f ++ f.map (· ++ [a])) (List.mem_append_right _ (List.mem_map.mpr ⟨pre, hp, rfl⟩))
    rw [List.append_assoc] at this
    exact this
theorem subL_of {o ns : List Int} (h : o.Sublist ns) : o ∈ subL ns := by
  exact subF_app (pre := []) (f := [[]]) ns h [[]] (List.mem_singleton.mpr rfl)
/-- ascending lists with members among those of another -/
theorem asc_sub : ∀ {ms ns : List Int}, ms.Pairwise (· < ·) → ns.Pairwise (· < ·) → (∀ z ∈ ms, z ∈ ns) → ms.Sublist ns
  | [], _, _, _, _ => List.nil_sublist _
  | m :: ms, [], _, _, h => by cases h m List.mem_cons_self
  | m :: ms, n :: ns, h1, h2, h => by
    obtain ⟨a1, b1⟩ := List.pairwise_cons.mp h1
    obtain ⟨a2, b2⟩ := List.pairwise_cons.mp h2
    by_cases e : m = n
    · subst e
      refine List.Sublist.cons_cons _ (asc_sub b1 b2 fun z hz => ?_)
      rcases List.mem_cons.mp (h z (List.mem_cons_of_mem _ hz)) with e | e
      · have := a1 z hz
        omega
      · exact e
    · refine List.Sublist.cons _ (asc_sub h1 b2 fun z hz => ?_)
      rcases List.mem_cons.mp (h z hz) with e' | e'
      · subst e'
        rcases List.mem_cons.mp hz with q | q
        · exact absurd q.symm e
        · have := a1 z q
          rcases List.mem_cons.mp (h m List.mem_cons_self) with e3 | e3
          · exact absurd e3 e
          · have := a2 m e3
            omega
      · exact e'
section
variable {P : Program} {w : World} {K : PySem.W.Frag} {mg : Str → Option Value} {base : Heap}
/-- v tells the members apart -/
def SplL (ps : List (Int × Int)) (v : Int) (ns : List Int) : Prop := (∃ u ∈ ns, nrm (u, v) ∈ ps) ∧ ∃ u ∈ ns, nrm (u, v) ∉ ps
def spSplits : Sp := fun vs H Q _ => ∃ (g x : V) (n v : Int) (ps : List (Int × Int)) (ns : List Int), vs = [g, .int v, x] ∧ GrAt H g n ps ∧ ITup H x ns ∧ ns.length ≤ 1000 ∧ ∀ (b : Bool) (H' : Hp), Same H H' → (b = true ↔ SplL ps v ns) → Q (.bl b) H'
theorem ok_splits (T : Blt mg) (D : DefAt K mg "_law_splits" s_law_splits ["graph", "v", "members"]) (D_law_met : DefAt K mg "_law_met" s_law_met ["graph", "u", "v"]) (G_law_met : FnOk P w K mg base CX0 2 D_law_met.f D_law_met.fd ["graph", "u", "v"] spMet) :
    FnOk P w K mg base CX0 3 D.f D.fd ["graph", "v", "members"] spSplits := by
  refine D.F.ok sc_law_splits (fun vs H Q E h => ?_) (fun cdv A outer s H vs Q E hr h => ?_)
  · obtain ⟨g, x, n, v, ps, ns, rfl, _⟩ := h
    rfl
  · obtain ⟨g, x, n, v, ps, ns, rfl, hgr, ⟨t, rfl, ht⟩, hlen, q⟩ := h
    refine ⟨_, (pss_cons (ps_setLc (i := 3) (own := [("u", 4)]) (by rfl) sc_law_splits.nd rfl rfl (sw_true rfl rfl rfl (by decide +kernel)) (PI.tupK (K := K) rfl (pi_tup (pv 2))) (blkOk_by (own := [("u", 4)]) (N := ["graph", "v", "members", "near", "u"]) (sc := (defScope s_law_splits)) (by decide +kernel)) (fun _ _ _ _ _ => (pg_name (i := 4) sc_law_splits.nd rfl (Or.inl rfl))) (fun _ _ _ _ _ => (pts_one (pt_val (pe_call G_law_met (hr.mono (by first | decide | omega)) (by rfl) D_law_met.g D_law_met.F.kp D_law_met.b .nil pass0 (pa_cons (pv 0) (pa_cons (pv 4) (pa_cons (pv 1) pa_nil))))))) (fun _ _ _ _ _ => (pv 4)))
      (pss_one (ps_ret (pe_chain op_lt op_lt pe_int (pe_callB (call_lenK (K := K) rfl) (by rfl) T.len (by decide +kernel) (pa_cons (pv 3) pa_nil)) (pe_callB (call_lenK (K := K) rfl) (by rfl) T.len (by decide +kernel) (pa_cons (pv 2) pa_nil)))))), ?_⟩
    refine r_at (σ := [some _, some _, some _, none, none]) rfl ?_
    walk_at "z"
    refine r_it (.inl (.inl ht)) fun d hd => lcR_tup (xs := ns.map V.int) (fun i H' => Same H H' ∧ H' d = some (.lst (((ns.take i).filter fun u => decide (nrm (u, v) ∈ ps)).map V.int))) (by walk_at "zw") ⟨same_new hd, upd_same⟩ (fun i H' _ ⟨s1, _⟩ => .inl (.inl (s1 _ _ ht))) ?_ ?_
    · rintro i y H' hy ⟨s1, hd1⟩
      rw [List.getElem?_map] at hy
      obtain ⟨u, hu, rfl⟩ := Option.map_eq_some_iff.mp hy
      have il := (List.getElem?_eq_some_iff.mp hu).1
      walk_at "z"
      refine ⟨rfl, ?_⟩
      walk_at "z"
      refine ⟨g, n, u, v, ps, rfl, hgr.tk (.of_same s1), fun H3 s3 => ?_⟩
      walk_at "z"
      refine r_ite (fun h => ?_) (fun h => ?_)
      · walk_at "z"
        refine r_lce (s3 _ _ hd1) (small_lt (by
          have := List.length_filter_le (fun u => decide (nrm (u, v) ∈ ps)) (ns.take i)
          rw [List.length_take] at this
          rw [List.length_map]
          omega)) ⟨same_mut (s1.trans s3) hd, ?_⟩
        rw [take_next hu, List.filter_append, List.filter_cons, if_pos (decide_eq_true h), List.filter_nil, List.map_append]
        exact upd_same
      · refine ⟨s1.trans s3, ?_⟩
        rw [take_next hu, List.filter_append, List.filter_cons, if_neg (by simp [h]), List.filter_nil, List.append_nil]
        exact s3 _ _ hd1
    · rintro H1 ⟨s1, hd1⟩
      rw [List.length_map, List.take_length] at hd1
      have ht1 := s1 _ _ ht
      walk_at "z"
      rw [List.length_map]
      have key : (decide ((0 : Int) < ((ns.filter fun u => decide (nrm (u, v) ∈ ps)).length : Int)) = true ↔ ∃ u ∈ ns, nrm (u, v) ∈ ps) := by
        rw [decide_eq_true_eq]
        constructor
        · intro h
          obtain ⟨u, hu⟩ := List.exists_mem_of_length_pos (l := ns.filter fun u => decide (nrm (u, v) ∈ ps)) (by omega)
          obtain ⟨h1, h2⟩ := List.mem_filter.mp hu
          exact ⟨u, h1, of_decide_eq_true h2⟩
        · rintro ⟨u, h1, h2⟩
          have := List.length_pos_of_mem (List.mem_filter.mpr ⟨h1, decide_eq_true h2⟩ : u ∈ ns.filter fun u => decide (nrm (u, v) ∈ ps))
          omega
      have key2 : (decide (((ns.filter fun u => decide (nrm (u, v) ∈ ps)).length : Int) < (ns.length : Int)) = true ↔ ∃ u ∈ ns, nrm (u, v) ∉ ps) := by
        rw [decide_eq_true_eq]
        constructor
        · intro h
          refine Classical.byContradiction fun c => ?_
          have : ns.filter (fun u => decide (nrm (u, v) ∈ ps)) = ns := List.filter_eq_self.mpr fun u hu => decide_eq_true (Classical.byContradiction fun z => c ⟨u, hu, z⟩)
          rw [this] at h
          omega
        · rintro ⟨u, h1, h2⟩
          have : (ns.filter fun u => decide (nrm (u, v) ∈ ps)).length < ns.length := List.length_filter_lt_length_iff_exists.mpr ⟨u, h1, by simp [h2]⟩
          omega
      refine r_ite (fun c => ?_) (fun c => ?_)
      · walk_at "z"
        rw [List.length_map]
        refine q _ H1 s1 ?_
        rw [key2]
        exact ⟨fun h => ⟨key.mp (decide_eq_true c), h⟩, And.right⟩
      · refine q _ H1 s1 ⟨fun h => absurd h Bool.false_ne_true, fun h => absurd (of_decide_eq_true (key.mpr h.1)) c⟩
/-- no vertex outside tells the members apart -/
def LMod (n : Nat) (ps : List (Int × Int)) (ns : List Int) : Prop := ∀ v : Int, 0 ≤ v → v < n → v ∉ ns → ¬ SplL ps v ns
theorem lmod_uns {n : Nat} {ps : List (Int × Int)} {ns : List Int} (inn : ∀ p ∈ ps, 0 ≤ p.1 ∧ p.1 < p.2 ∧ p.2 < (n : Int)) : LMod n ps ns ↔ Uns n ps (fun v => v ∈ ns) := by
  have key : ∀ v u : Int, v ∉ ns → u ∈ ns → (nrm (u, v) ∈ ps ↔ Nb ps u v) := fun v u h1 h2 => Nb.nrm inn fun e => h1 (e ▸ h2)
  constructor
  · rintro h i i0 ⟨⟨h1, h2⟩, ⟨u, h3, h4⟩, w, h5, h6⟩
    exact h i i0 h1 h2 ⟨⟨u, h3, (key i u h2 h3).mpr h4⟩, w, h5, fun z => h6 ((key i w h2 h5).mp z)⟩
  · rintro h i i0 h1 h2 ⟨⟨u, h3, h4⟩, w, h5, h6⟩
    exact h i i0 ⟨⟨h1, h2⟩, ⟨u, h3, (key i u h2 h3).mp h4⟩, w, h5, fun z => h6 ((key i w h2 h5).mpr z)⟩
def spLIsMod : Sp := fun vs H Q _ => ∃ (g x : V) (n : Nat) (ps : List (Int × Int)) (ns : List Int), vs = [g, x] ∧ GrAt H g (n : Int) ps ∧ n ≤ 60 ∧ ITup H x ns ∧ ns.length ≤ 1000 ∧ ∀ (b : Bool) (H' : Hp), Same H H' → (b = true ↔ LMod n ps ns) → Q (.bl b) H'
theorem ok_lismod (T : Blt mg) (D : DefAt K mg "_law_is_module" s_law_is_module ["graph", "members"]) (D_law_splits : DefAt K mg "_law_splits" s_law_splits ["graph", "v", "members"]) (G_law_splits : FnOk P w K mg base CX0 3 D_law_splits.f D_law_splits.fd ["graph", "v", "members"] spSplits) :
    FnOk P w K mg base CX0 4 D.f D.fd ["graph", "members"] spLIsMod := by
  refine D.F.ok sc_law_is_module (fun vs H Q E h => ?_) (fun cdv A outer s H vs Q E hr h => ?_)
  · obtain ⟨g, x, n, ps, ns, rfl, _⟩ := h
    rfl
  · obtain ⟨g, x, n, ps, ns, rfl, hgr, n60, ⟨t, rfl, ht⟩, hlen, q⟩ := h
    obtain ⟨ga, e, rfl, hg, he⟩ := id hgr
    refine ⟨_, (pss_one (ps_ret (pe_cmpR op_eq (pe_callB (call_lenK (K := K) rfl) (by rfl) T.len (by decide +kernel) (pa_cons (pe_lc (own := [("v", 2)]) (by rfl) sc_law_is_module.nd (pi_range1 (by rfl) T.range (pa_cons (pe_ix (ix_tupK (K := K) rfl) (pv 0) pe_int (fun _ _ => rfl)) pa_nil)) (blkOk_by (own := [("v", 2)]) (N := ["graph", "members", "v"]) (sc := (defScope s_law_is_module)) (by decide +kernel)) (fun _ _ _ _ _ => (pg_name (i := 2) sc_law_is_module.nd rfl (Or.inl rfl))) (fun _ _ _ _ _ => (pts_one (PW.pt (pw_and (pt_cmpR (op_ninSeqK (K := K) rfl) (pv 2) (pv 1) (by rfl)) (pw_and1 (pt_val (pe_call G_law_splits (hr.mono (by first | decide | omega)) (by rfl) D_law_splits.g D_law_splits.F.kp D_law_splits.b .nil pass0 (pa_cons (pv 0) (pa_cons (pv 2) (pa_cons (pv 1) pa_nil)))))))))) (fun _ _ _ _ _ => (pv 2))) pa_nil)) pe_int (nomark _)))), ?_⟩
    refine r_at (σ := [some _, some _, none]) rfl ?_
    walk_at "z"
    refine r_rg1 (by omega) fun d hd => lcR_range (fun i H' => Same H H' ∧ ∃ es : List Int, H' d = some (.lst (es.map V.int)) ∧ es.length ≤ i ∧ (es = [] ↔ ∀ v : Int, 0 ≤ v → v < i → v ∉ ns → ¬ SplL ps v ns)) (by walk_at "zw") ⟨same_new hd, [], upd_same, Nat.le_refl 0, ⟨fun _ v v0 v1 => by omega, fun _ => rfl⟩⟩ ?_ ?_
    · rintro i H' hi ⟨s1, es, hes, le, iff⟩
      have e0 : (0 : Int) + (i : Int) = i := by omega
      have hi : i < n := by omega
      have yes : ∀ H3 : Hp, Same H' H3 → (i : Int) ∉ ns → SplL ps i ns → LcE d (fun H' => Same H H' ∧ ∃ es : List Int, H' d = some (.lst (es.map V.int)) ∧ es.length ≤ i + 1 ∧ (es = [] ↔ ∀ v : Int, 0 ≤ v → v < ((i + 1 : Nat) : Int) → v ∉ ns → ¬ SplL ps v ns)) (.int (i : Int)) H3 := fun H3 s3 h1 h2 => by
        refine r_lce (s3 _ _ hes) (small_lt (by rw [List.length_map]; omega)) ⟨same_mut (s1.trans s3) hd, es ++ [(i : Int)], by rw [List.map_append]; exact upd_same, by rw [List.length_append]; simp only [List.length_cons, List.length_nil]; omega, ⟨fun z => absurd z (by simp), fun z => absurd h2 (z i (by omega) (by omega) h1)⟩⟩
      have no : ∀ H3 : Hp, Same H' H3 → ((i : Int) ∉ ns → ¬ SplL ps i ns) → Same H H3 ∧ ∃ es : List Int, H3 d = some (.lst (es.map V.int)) ∧ es.length ≤ i + 1 ∧ (es = [] ↔ ∀ v : Int, 0 ≤ v → v < ((i + 1 : Nat) : Int) → v ∉ ns → ¬ SplL ps v ns) := fun H3 s3 h => by
        refine ⟨s1.trans s3, es, s3 _ _ hes, by omega, iff.trans ⟨fun z v v0 v1 => ?_, fun z v v0 v1 => z v v0 (by omega)⟩⟩
        by_cases c : v = i
        · subst c
          exact h
        · exact z v v0 (by omega)
      walk_at "z"
      refine ⟨rfl, ?_⟩
      rw [e0]
      walk_at "z"
      refine r_ninI (ns := ns) (.inr (.inl (.inl (s1 _ _ ht)))) ?_
      walk_at "z"
      refine r_iteN (fun h1 => ?_) (fun h1 => ?_)
      · walk_at "z"
        refine ⟨_, _, n, i, ps, ns, rfl, hgr.tk (.of_same s1), ⟨t, rfl, s1 _ _ ht⟩, hlen, fun b H3 s3 hb => ?_⟩
        walk_at "z"
        cases b with
        | true =>
          refine iteT ?_
          walk_at "z"
          exact yes H3 s3 h1 (hb.mp rfl)
        | false =>
          refine iteF ?_
          exact no H3 s3 fun _ z => Bool.false_ne_true (hb.mpr z)
      · first | exact no H' (fun _ _ z => z) fun z => absurd h1 z | (rw [if_neg Bool.false_ne_true]; exact no H' (fun _ _ z => z) fun z => absurd h1 z)
    · rintro H1 ⟨s1, es, hes, le, iff⟩
      rw [show (n : Int).toNat = n by omega] at iff
      walk_at "z"
      rw [List.length_map]
      refine q _ H1 s1 ?_
      rw [decide_eq_true_eq]
      refine Iff.trans ⟨fun h => List.eq_nil_of_length_eq_zero (by omega), fun h => by rw [h]; rfl⟩ iff
def spLMods : Sp := fun vs H Q _ => ∃ (g : V) (n : Nat) (ps : List (Int × Int)), vs = [g] ∧ GrAt H g (n : Int) ps ∧ n ≤ 10 ∧ ∀ (l : Addr) (xs : List V) (oss : List (List Int)) (H' : Hp), H l = none → Same H H' → H' l = some (.lst xs) → ITups H' xs oss → oss.length ≤ 1024 → oss.Sublist (subL (rgI (n : Int))) → (∀ o, o ∈ oss ↔ o.Sublist (rgI (n : Int)) ∧ o ≠ [] ∧ LMod n ps o) → Q (.ref l) H'
theorem ok_lmods (T : Blt mg) (D : DefAt K mg "_law_modules" s_law_modules ["graph"]) (D_law_subsets : DefAt K mg "_law_subsets" s_law_subsets ["items"]) (G_law_subsets : FnOk P w K mg base CX0 1 D_law_subsets.f D_law_subsets.fd ["items"] spSubs)
    (D_law_is_module : DefAt K mg "_law_is_module" s_law_is_module ["graph", "members"]) (G_law_is_module : FnOk P w K mg base CX0 4 D_law_is_module.f D_law_is_module.fd ["graph", "members"] spLIsMod) :
    FnOk P w K mg base CX0 5 D.f D.fd ["graph"] spLMods := by
  refine D.F.ok sc_law_modules (fun vs H Q E h => ?_) (fun cdv A outer s H vs Q E hr h => ?_)
  · obtain ⟨g, n, ps, rfl, _⟩ := h
    rfl
  · obtain ⟨g, n, ps, rfl, hgr, n10, q⟩ := h
    obtain ⟨ga, e, rfl, hg, he⟩ := id hgr
    refine ⟨_, (pss_one (ps_ret (pe_lc (own := [("one", 1)]) (by rfl) sc_law_modules.nd (PI.listK (K := K) rfl (pi_list (pe_call G_law_subsets (hr.mono (by first | decide | omega)) (by rfl) D_law_subsets.g D_law_subsets.F.kp D_law_subsets.b .nil pass0 (pa_cons (pe_listRg rfl (by rfl) T.list (prg_1 (by rfl) T.range (pe_ix (ix_tupK (K := K) rfl) (pv 0) pe_int (fun _ _ => rfl)))) pa_nil)))) (blkOk_by (own := [("one", 1)]) (N := ["graph", "one"]) (sc := (defScope s_law_modules)) (by decide +kernel)) (fun _ _ _ _ _ => (pg_name (i := 1) sc_law_modules.nd rfl (Or.inl rfl))) (fun _ _ _ _ _ => (pts_one (PW.pt (pw_and (pt_cmpR (op_neDK (K := K) rfl hr.units) (pv 1) (pe_tup pa_nil) (nomark _)) (pw_and1 (pt_val (pe_call G_law_is_module (hr.mono (by first | decide | omega)) (by rfl) D_law_is_module.g D_law_is_module.F.kp D_law_is_module.b .nil pass0 (pa_cons (pv 0) (pa_cons (pv 1) pa_nil))))))))) (fun _ _ _ _ _ => (pv 1))))), ?_⟩
    refine r_at (σ := [some _, none]) rfl ?_
    walk_at "z"
    refine r_lRg (by omega) (by omega) fun p hp => ?_
    have s0 : Same H (upd H p (.lst ((rgI (n : Int)).map V.int))) := same_new hp
    have hp0 : (upd H p (.lst ((rgI (n : Int)).map V.int))) p = some (.lst ((rgI (n : Int)).map V.int)) := upd_same
    generalize upd H p (.lst ((rgI (n : Int)).map V.int)) = H0 at s0 hp0 ⊢
    walk_at "z"
    refine ⟨p, rgI (n : Int), rfl, hp0, by rw [rgI_len]; omega, fun f xs H1 s1 hf pxs => ?_⟩
    have len : (subL (rgI (n : Int))).length ≤ 1024 := by
      rw [subL_len, rgI_len]
      exact Nat.pow_le_pow_right (by omega) (show (n : Int).toNat ≤ 10 by omega)
    have hgr1 := hgr.tk (.of_same (s0.trans s1))
    walk_at "z"
    refine r_il (.inl (.inl hf)) fun d hd => lcR_list (xs := xs) (fun i H' => Same H1 H' ∧ ∃ ys oss, H' d = some (.lst ys) ∧ ITups H' ys oss ∧ oss.length ≤ i ∧ oss.Sublist ((subL (rgI (n : Int))).take i) ∧ ∀ o, o ∈ oss ↔ o ∈ (subL (rgI (n : Int))).take i ∧ o ≠ [] ∧ LMod n ps o) (by walk_at "zw") ⟨same_new hd, [], [], upd_same, .nil, Nat.le_refl 0, List.nil_sublist _, fun o => by simp⟩ (fun i H' _ ⟨s2, _⟩ => .inl (.inl (s2 _ _ hf))) ?_ ?_
    · rintro i y H' hy ⟨s2, ys, oss, hys, pys, lo, sbl, mem⟩
      obtain ⟨o, ho, t, rfl, ht⟩ := pd_get (ITups.tk (.of_same s2) pxs) hy
      have il := (List.getElem?_eq_some_iff.mp ho).1
      have ol : o.length ≤ 60 := by
        have := (subL_sub (List.mem_of_getElem? ho)).length_le
        rw [rgI_len] at this
        omega
      have yes : ∀ H3 : Hp, Same H' H3 → o ≠ [] → LMod n ps o → LcE d (fun H' => Same H1 H' ∧ ∃ ys oss, H' d = some (.lst ys) ∧ ITups H' ys oss ∧ oss.length ≤ i + 1 ∧ oss.Sublist ((subL (rgI (n : Int))).take (i + 1)) ∧ ∀ o, o ∈ oss ↔ o ∈ (subL (rgI (n : Int))).take (i + 1) ∧ o ≠ [] ∧ LMod n ps o) (.ref t) H3 := fun H3 s3 h1 h2 => by
        have hys3 := s3 _ _ hys
        refine r_lce hys3 (small_lt (by rw [pys.length]; omega)) ⟨same_mut (s2.trans s3) hd, _, oss ++ [o], upd_same, (ITups.tk (.lst hys3) (ITups.tk (.of_same s3) pys)).snoc (ITup.tk (.lst hys3) ⟨t, rfl, s3 _ _ ht⟩), by rw [List.length_append]; simp only [List.length_cons, List.length_nil]; omega, by rw [take_next ho]; exact sbl.append (List.Sublist.refl _), fun z => ?_⟩
        rw [take_next ho, List.mem_append, List.mem_append, mem, List.mem_singleton]
        constructor
        · rintro (⟨h, k⟩ | rfl)
          · exact ⟨.inl h, k⟩
          · exact ⟨.inr rfl, h1, h2⟩
        · rintro ⟨h | h, k⟩
          · exact .inl ⟨h, k⟩
          · exact .inr h
      have no : ∀ H3 : Hp, Same H' H3 → (o ≠ [] → ¬ LMod n ps o) → Same H1 H3 ∧ ∃ ys oss, H3 d = some (.lst ys) ∧ ITups H3 ys oss ∧ oss.length ≤ i + 1 ∧ oss.Sublist ((subL (rgI (n : Int))).take (i + 1)) ∧ ∀ o, o ∈ oss ↔ o ∈ (subL (rgI (n : Int))).take (i + 1) ∧ o ≠ [] ∧ LMod n ps o := fun H3 s3 h => by
        refine ⟨s2.trans s3, ys, oss, s3 _ _ hys, ITups.tk (.of_same s3) pys, by omega, by rw [take_next ho]; exact sbl.trans (List.sublist_append_left _ _), fun z => ?_⟩
        rw [take_next ho, List.mem_append, mem, List.mem_singleton]
        constructor
        · rintro ⟨h, k⟩
          exact ⟨.inl h, k⟩
        · rintro ⟨h' | rfl, k⟩
          · exact ⟨h', k⟩
          · exact absurd k.2 (h k.1)
      walk_at "z"
      refine ⟨rfl, ?_⟩
      walk_at "z"
      refine r_tupN (Nat.zero_le _) fun t0 ht0 => ?_
      have st := same_new (o := .tup []) ht0
      refine r_neTI (ns := o) (ms := []) (.inl (.inl (st _ _ ht))) (.inl (.inl upd_same)) ?_
      walk_at "z"
      refine r_iteN (fun h1 => ?_) (fun h1 => ?_)
      · walk_at "z"
        refine ⟨_, _, n, ps, o, rfl, hgr1.tk (.of_same (s2.trans st)), by omega, ⟨t, rfl, st _ _ ht⟩, by omega, fun b H3 s3 hb => ?_⟩
        walk_at "z"
        cases b with
        | true =>
          refine iteT ?_
          walk_at "z"
          exact yes H3 (st.trans s3) h1 (hb.mp rfl)
        | false =>
          refine iteF ?_
          exact no H3 (st.trans s3) fun _ z => Bool.false_ne_true (hb.mpr z)
      · first | exact no _ st fun z => absurd h1 z | (rw [if_neg Bool.false_ne_true]; exact no _ st fun z => absurd h1 z)
    · rintro H2 ⟨s2, ys, oss, hys, pys, lo, sbl, mem⟩
      rw [pxs.length, List.take_length] at mem sbl
      have l2 := pxs.length
      walk_at "z"
      exact q d ys oss H2 ((s0.trans s1).free hd) ((s0.trans s1).trans s2) hys pys (by omega) sbl fun o => (mem o).trans (and_congr_left fun _ => ⟨subL_sub, subL_of⟩)
end

set_option Elab.async false
set_option linter.all false
set_option maxRecDepth 100000
set_option maxHeartbeats 4000000
open PySem PySem.Spec PyProof.Rows L2

theorem ix_getG {ns : List Int} {z : Int} (h : z ∈ ns) : ns[ns.idxOf z]? = some z := (idx_spec h).1
/-- the graph of some vertices, numbered anew, is one -/
theorem part_goodG {n : Nat} {ps qs : List (Int × Int)} {ns : List Int} (g : GoodG n ps) (one : 1 ≤ ns.length) (asc : qs.Pairwise ltP) (mem : ∀ p, p ∈ qs ↔ ∃ r ∈ inL ns ps, p = nrm (ixP ns r)) : GoodG (ns.length : Nat) qs ∧ qs.length ≤ ps.length := by
  refine ⟨⟨by omega, asc, fun p hp => ?_⟩, ?_⟩
  · obtain ⟨r, hr, rfl⟩ := (mem p).mp hp
    obtain ⟨r0, r1, r2⟩ := inL_mem hr
    obtain ⟨b1, b2, b3⟩ := g.inn r r0
    have a1 := idx_lt r1
    have a2 := idx_lt r2
    have ne : ns.idxOf r.1 ≠ ns.idxOf r.2 := fun e => by
      have e1 := ix_getG r1
      rw [e, ix_getG r2] at e1
      have := Option.some.inj e1
      omega
    unfold ixP nrm
    dsimp only
    omega
  · refine Nat.le_trans (nodup_le qs ((inL ns ps).map fun r => nrm (ixP ns r)) (asc_nodup asc) fun p hp => ?_) (by rw [List.length_map]; exact List.length_filter_le _ _)
    obtain ⟨r, hr, e⟩ := (mem p).mp hp
    exact List.mem_map.mpr ⟨r, hr, e.symm⟩

theorem nearL_lenG (n : Int) (ps : List (Int × Int)) (v : Int) (k : Nat) : (nearL n ps v k).length ≤ k := by
  unfold nearL
  have := List.length_filter_le (fun u => decide (u ≠ v ∧ nrm (u, v) ∈ ps)) ((List.range k).map fun (i : Nat) => (i : Int))
  rw [List.length_map, List.length_range] at this
  exact this
theorem gd_len20 {n : Int} {ps : List (Int × Int)} (g : GoodG n ps) (h : n ≤ 20) : ps.length ≤ 400 := by
  have h1 := g.one
  have h2 := nodup_le ps (allP n.toNat) (asc_nodup g.asc) fun p hp => by
    obtain ⟨b1, b2, b3⟩ := g.inn p hp
    exact mem_allP.mpr ⟨b1, b2, by omega⟩
  have h3 := preP_len (n := n.toNat) (i := n.toNat)
  have h4 : n.toNat * n.toNat ≤ 20 * 20 := Nat.mul_le_mul (by omega) (by omega)
  unfold allP at h2
  omega
section
variable {P : Program} {w : World} {K : PySem.W.Frag} {mg : Str → Option Value} {base : Heap}
/-- a graph with a graph in the place of a vertex -/
def spSubst : Sp := fun vs H Q _ => ∃ (a s : Addr) (most : Int), vs = [.ref a, .int most] ∧ Pool H a s ∧ 1 ≤ most ∧ most ≤ 10 ∧ ∀ n : Int, 1 ≤ n → n ≤ most + 2 → GenQ a s H n Q
theorem ok_subst (T : Blt mg) (D : DefAt K mg "_law_substituted" s_law_substituted ["pool", "most"])
    (D_law_draw : DefAt K mg "_law_draw" s_law_draw ["pool", "many"]) (G_law_draw : FnOk P w K mg base CX0 2 D_law_draw.f D_law_draw.fd ["pool", "many"] spDraw)
    (D_law_random_graph : DefAt K mg "_law_random_graph" s_law_random_graph ["pool", "most"]) (G_law_random_graph : FnOk P w K mg base CX0 3 D_law_random_graph.f D_law_random_graph.fd ["pool", "most"] spRandom)
    (D_law_near : DefAt K mg "_law_near" s_law_near ["graph", "v"]) (G_law_near : FnOk P w K mg base CX0 3 D_law_near.f D_law_near.fd ["graph", "v"] spNear)
    (D_law_of : DefAt K mg "_law_of" s_law_of ["n", "pairs"]) (G_law_of : FnOk P w K mg base CX0 3 D_law_of.f D_law_of.fd ["n", "pairs"] (spOf K))
    (D_law_part : DefAt K mg "_law_part" s_law_part ["graph", "members"]) (G_law_part : FnOk P w K mg base CX0 4 D_law_part.f D_law_part.fd ["graph", "members"] (spPart K))
    (D_law_shuffled : DefAt K mg "_law_shuffled" s_law_shuffled ["pool", "items"]) (G_law_shuffled : FnOk P w K mg base CX0 3 D_law_shuffled.f D_law_shuffled.fd ["pool", "items"] (spShuf K))
    (D_law_moved : DefAt K mg "_law_moved" s_law_moved ["graph", "order"]) (G_law_moved : FnOk P w K mg base CX0 4 D_law_moved.f D_law_moved.fd ["graph", "order"] (spMoved K)) :
    FnOk P w K mg base CX0 5 D.f D.fd ["pool", "most"] spSubst := by
  refine D.F.ok sc_law_substituted (fun vs H Q E h => ?_) (fun cdv A outer s H vs Q E hr h => ?_)
  · obtain ⟨a, s, most, rfl, _⟩ := h
    rfl
  · obtain ⟨a, s0, most, rfl, hP, m1, m2, q⟩ := h
    refine ⟨_, (pss_cons (ps_set (i := 2) sc_law_substituted.nd rfl (Or.inr rfl) (pe_call G_law_random_graph (hr.mono (by first | decide | omega)) (by rfl) D_law_random_graph.g D_law_random_graph.F.kp D_law_random_graph.b .nil pass0 (pa_cons (pv 0) (pa_cons (pv 1) pa_nil))))
      (pss_cons (ps_set (i := 3) sc_law_substituted.nd rfl (Or.inr rfl) (pe_call G_law_draw (hr.mono (by first | decide | omega)) (by rfl) D_law_draw.g D_law_draw.F.kp D_law_draw.b .nil pass0 (pa_cons (pv 0) (pa_cons (pe_ix (ix_tupK (K := K) rfl) (pv 2) pe_int (fun _ _ => rfl)) pa_nil))))
      (pss_cons (ps_set (i := 4) sc_law_substituted.nd rfl (Or.inl rfl) (pe_call G_law_random_graph (hr.mono (by first | decide | omega)) (by rfl) D_law_random_graph.g D_law_random_graph.F.kp D_law_random_graph.b .nil pass0 (pa_cons (pv 0) (pa_cons pe_int pa_nil))))
      (pss_cons (ps_set (i := 6) sc_law_substituted.nd rfl (Or.inl rfl) (pe_op op_cat (pe_lc (own := [("pair", 8)]) (by rfl) sc_law_substituted.nd (PI.tupK (K := K) rfl (pi_tup (pe_ix (ix_tupK (K := K) rfl) (pv 2) pe_int (fun _ _ => rfl)))) (blkOk_by (own := [("pair", 8)]) (N := ["pool", "most", "base", "v", "inner", "u", "pairs", "rows", "pair", "w"]) (sc := (defScope s_law_substituted)) (by decide +kernel)) (fun _ _ _ _ _ => (pg_name (i := 8) sc_law_substituted.nd rfl (Or.inl rfl))) (fun _ _ _ _ _ => (pts_one (pt_cmpR (op_ninSeqK (K := K) rfl) (pv 3) (pv 8) (by rfl)))) (fun _ _ _ _ _ => (pv 8))) (pe_lc (own := [("u", 5), ("w", 9)]) (by rfl) sc_law_substituted.nd (PI.tupK (K := K) rfl (pi_tup (pe_ix (ix_tupK (K := K) rfl) (pv 4) pe_int (fun _ _ => rfl)))) (blkOk_by (own := [("u", 5), ("w", 9)]) (N := ["pool", "most", "base", "v", "inner", "u", "pairs", "rows", "pair", "w"]) (sc := (defScope s_law_substituted)) (by decide +kernel)) (fun _ _ _ _ _ => (PG.tupK (K := K) rfl (pg_tup (n := 2) rfl (pgs_cons (pg_name (i := 5) sc_law_substituted.nd rfl (Or.inl rfl)) (pgs_cons (pg_name (i := 9) sc_law_substituted.nd rfl (Or.inl rfl)) pgs_nil))))) (fun _ _ _ _ _ => pts_nil) (fun _ _ _ _ _ => (pe_tup (pa_cons (pe_op op_add (pe_ix (ix_tupK (K := K) rfl) (pv 2) pe_int (fun _ _ => rfl)) (pv 5)) (pa_cons (pe_op op_add (pe_ix (ix_tupK (K := K) rfl) (pv 2) pe_int (fun _ _ => rfl)) (pv 9)) pa_nil)))))))
      (pss_cons (ps_for PassesOwn.never (by rfl) (PI.listK (K := K) rfl (pi_list (pe_call G_law_near (hr.mono (by first | decide | omega)) (by rfl) D_law_near.g D_law_near.F.kp D_law_near.b .nil pass0 (pa_cons (pv 2) (pa_cons (pv 3) pa_nil))))) (pg_name (i := 5) sc_law_substituted.nd rfl (Or.inr rfl))
        (pss_one (ps_set (i := 6) sc_law_substituted.nd rfl (Or.inl rfl) (pe_op op_cat (pv 6) (pe_lc (own := [("w", 9)]) (by rfl) sc_law_substituted.nd (pi_range1 (by rfl) T.range (pa_cons (pe_ix (ix_tupK (K := K) rfl) (pv 4) pe_int (fun _ _ => rfl)) pa_nil)) (blkOk_by (own := [("w", 9)]) (N := ["pool", "most", "base", "v", "inner", "u", "pairs", "rows", "pair", "w"]) (sc := (defScope s_law_substituted)) (by decide +kernel)) (fun _ _ _ _ _ => (pg_name (i := 9) sc_law_substituted.nd rfl (Or.inl rfl))) (fun _ _ _ _ _ => pts_nil) (fun _ _ _ _ _ => (pe_tup (pa_cons (pv 5) (pa_cons (pe_op op_add (pe_ix (ix_tupK (K := K) rfl) (pv 2) pe_int (fun _ _ => rfl)) (pv 9)) pa_nil)))))))))
      (pss_cons (ps_setLc (i := 7) (own := [("u", 5)]) (by rfl) sc_law_substituted.nd rfl rfl (sw_true rfl rfl rfl (by decide +kernel)) (pi_range1 (by rfl) T.range (pa_cons (pe_op op_add (pe_ix (ix_tupK (K := K) rfl) (pv 2) pe_int (fun _ _ => rfl)) (pe_ix (ix_tupK (K := K) rfl) (pv 4) pe_int (fun _ _ => rfl))) pa_nil)) (blkOk_by (own := [("u", 5)]) (N := ["pool", "most", "base", "v", "inner", "u", "pairs", "rows", "pair", "w"]) (sc := (defScope s_law_substituted)) (by decide +kernel)) (fun _ _ _ _ _ => (pg_name (i := 5) sc_law_substituted.nd rfl (Or.inl rfl))) (fun _ _ _ _ _ => (pts_one (pt_cmpR op_ne (pv 5) (pv 3) (nomark _)))) (fun _ _ _ _ _ => (pv 5)))
      (pss_one (ps_ret (pe_call G_law_moved (hr.mono (by first | decide | omega)) (by rfl) D_law_moved.g D_law_moved.F.kp D_law_moved.b .nil pass0 (pa_cons (pe_call G_law_part (hr.mono (by first | decide | omega)) (by rfl) D_law_part.g D_law_part.F.kp D_law_part.b .nil pass0 (pa_cons (pe_call G_law_of (hr.mono (by first | decide | omega)) (by rfl) D_law_of.g D_law_of.F.kp D_law_of.b .nil pass0 (pa_cons (pe_op op_add (pe_ix (ix_tupK (K := K) rfl) (pv 2) pe_int (fun _ _ => rfl)) (pe_ix (ix_tupK (K := K) rfl) (pv 4) pe_int (fun _ _ => rfl))) (pa_cons (pv 6) pa_nil))) (pa_cons (pv 7) pa_nil))) (pa_cons (pe_call G_law_shuffled (hr.mono (by first | decide | omega)) (by rfl) D_law_shuffled.g D_law_shuffled.F.kp D_law_shuffled.b .nil pass0 (pa_cons (pv 0) (pa_cons (pe_listRg rfl (by rfl) T.list (prg_1 (by rfl) T.range (pe_callB (call_lenK (K := K) rfl) (by rfl) T.len (by decide +kernel) (pa_cons (pv 7) pa_nil)))) pa_nil))) pa_nil))))))))))), ?_⟩
    refine r_at (σ := [some _, some _, none, none, none, none, none, none, none, none]) rfl ?_
    walk_at "z"
    refine ⟨a, s0, most, rfl, hP, by omega, by omega, fun bn b1 b2 bv bq H1 hP1 g1 hbv gb => ?_⟩
    obtain ⟨ba, be, rfl, hbg, hbe'⟩ := id hbv
    walk_at "z"
    refine ⟨a, s0, _, rfl, hP1, by omega, by omega, fun vv H2 v0 v1 hP2 g2 => ?_⟩
    walk_at "z"
    refine ⟨a, s0, 3, rfl, hP2, by omega, by omega, fun jn j1 j2 jv jq H3 hP3 g3 hjv gj => ?_⟩
    have tk3 := (g2.tk hP1).trans (g3.tk hP2)
    have g03 := (g1.trans g2).trans g3
    have hbv3 := hbv.tk tk3
    obtain ⟨_, _, e9, hbg3, bxs, hbe3, hbp3⟩ := id hbv3
    cases e9
    obtain ⟨ja, je, rfl, hjg3, jxs, hje3, hjp3⟩ := id hjv
    have lb := gd_len20 gb (by omega)
    have lj := gd_len20 gj (by omega)
    let Bd : List (Int × Int) → Prop := fun ps => ∀ p ∈ ps, 0 ≤ p.1 ∧ p.1 < bn + jn ∧ 0 ≤ p.2 ∧ p.2 < bn + jn ∧ p.1 ≠ p.2
    have bd1 : ∀ {ps : List (Int × Int)} {u v : Int}, Bd ps → 0 ≤ u → u < bn + jn → 0 ≤ v → v < bn + jn → u ≠ v → Bd (ps ++ [(u, v)]) := fun {ps u v} h h1 h2 h3 h4 h5 p hp => by
      rcases List.mem_append.mp hp with c | c
      · exact h p c
      · rw [List.mem_singleton.mp c]
        exact ⟨h1, h2, h3, h4, h5⟩
    walk_at "z"
    refine r_it (.inl (.inl hbe3)) fun d hd => lcR_tup (xs := bxs) (fun i H' => Same H3 H' ∧ ∃ ys ps, H' d = some (.lst ys) ∧ Prs H' ys ps ∧ Bd ps ∧ ps.length ≤ i) (by walk_at "zw") ⟨same_new hd, [], [], upd_same, .nil, (fun p hp => by cases hp), Nat.le_refl _⟩ (fun i H' _ ⟨s4, _⟩ => .inl (.inl (s4 _ _ hbe3))) ?_ ?_
    · rintro i y H' hy ⟨s4, ys, ps, hys, pys, bdp, lp⟩
      obtain ⟨p, hpi, t, rfl, ht⟩ := pd_get (hbp3.tk (.of_same s4)) hy
      have il := (List.getElem?_eq_some_iff.mp hpi).1
      obtain ⟨p1, p2, p3⟩ := gb.inn p (List.mem_of_getElem? hpi)
      walk_at "z"
      refine ⟨rfl, ?_⟩
      walk_at "z"
      refine r_ninI (ns := [p.1, p.2]) (.inr (.inl (.inl ht))) ?_
      walk_at "z"
      refine r_iteN (fun h => ?_) (fun h => ?_)
      · walk_at "z"
        exact r_lce hys (small_lt (by rw [pys.length]; omega)) ⟨same_mut s4 hd, _, ps ++ [p], upd_same, (Prs.tk (.lst hys) pys).snoc (IsP.tk (.lst hys) ⟨t, rfl, ht⟩), bd1 bdp (by omega) (by omega) (by omega) (by omega) (by omega), by rw [List.length_append]; simp only [List.length_cons, List.length_nil]; omega⟩
      · exact ⟨s4, ys, ps, hys, pys, bdp, by omega⟩
    · rintro H4 ⟨s4, ys, ps, hys, pys, bdp, lp⟩
      have lbx := hbp3.length
      have hjg4 := s4 _ _ hjg3
      have hje4 := s4 _ _ hje3
      have hjp4 := hjp3.tk (.of_same s4)
      have hbg4 := s4 _ _ hbg3
      walk_at "z"
      refine r_it (.inl (.inl hje4)) fun d2 hd2 => lcR_tup (xs := jxs) (fun i H' => Same H4 H' ∧ ∃ zs rs, H' d2 = some (.lst zs) ∧ Prs H' zs rs ∧ Bd rs ∧ rs.length ≤ i) (by walk_at "zw") ⟨same_new hd2, [], [], upd_same, .nil, (fun p hp => by cases hp), Nat.le_refl _⟩ (fun i H' _ ⟨s5, _⟩ => .inl (.inl (s5 _ _ hje4))) ?_ ?_
      · rintro i y H' hy ⟨s5, zs, rs, hzs, pzs, bdr, lr⟩
        obtain ⟨p, hpi, t, rfl, ht⟩ := pd_get (hjp4.tk (.of_same s5)) hy
        have il := (List.getElem?_eq_some_iff.mp hpi).1
        obtain ⟨p1, p2, p3⟩ := gj.inn p (List.mem_of_getElem? hpi)
        have hbg5 := s5 _ _ hbg4
        refine r_gtup (.inl (.inl ht)) rfl ?_
        walk_at "z"
        refine ⟨rfl, ?_⟩
        walk_at "z"
        refine r_tupN sz2 fun t2 ht2 => ?_
        refine r_lce (by walk_at "zh") (small_lt (by rw [pzs.length]; omega)) ⟨same_mut (s5.trans (same_new ht2)) hd2, _, rs ++ [(bn + p.1, bn + p.2)], upd_same, prs_push hzs pzs ht2, bd1 bdr (by omega) (by omega) (by omega) (by omega) (by omega), by rw [List.length_append]; simp only [List.length_cons, List.length_nil]; omega⟩
      · rintro H5 ⟨s5, zs, rs, hzs, pzs, bdr, lr⟩
        have ljx := hjp4.length
        have hys5 := s5 _ _ hys
        have pys5 := pys.tk (.of_same s5)
        walk_at "z"
        refine r_cat hys5 hzs (by rw [pys5.length, pzs.length]; omega) fun c hc => ?_
        have sc5 : Same H3 (upd H5 c (.lst (ys ++ zs))) := (s4.trans s5).trans (same_new hc)
        have hcc : (upd H5 c (.lst (ys ++ zs))) c = some (.lst (ys ++ zs)) := upd_same
        have pcc : Prs (upd H5 c (.lst (ys ++ zs))) (ys ++ zs) (ps ++ rs) := Prs.tk (.new hc) (pd_append pys5 pzs)
        have bdc : Bd (ps ++ rs) := fun p hp => (List.mem_append.mp hp).elim (bdp p) (bdr p)
        generalize upd H5 c (.lst (ys ++ zs)) = H6 at sc5 hcc pcc ⊢
        walk_at "z"
        refine ⟨_, bn, vv, bq, rfl, hbv3.tk (.of_same sc5), by omega, by omega, fun l H7 hl70 s7 hl7 => ?_⟩
        have ln := nearL_lenG bn bq vv bn.toNat
        have s37 := sc5.trans s7
        refine r_il (.inl (.inl hl7)) (forR_list (xs := (nearL bn bq vv bn.toNat).map V.int) (fun j σ' H' => (∃ (b : Addr) (x5 : Option V), σ' = [some (.ref a), some (.int most), some (.ref ba), some (.int vv), some (.ref ja), x5, some (.ref b), none, none, none] ∧ ∃ ys ps, H' b = some (.lst ys) ∧ Prs H' ys ps ∧ Bd ps ∧ ps.length ≤ 800 + 3 * j) ∧ Same H7 H') ⟨⟨c, _, rfl, _, _, s7 _ _ hcc, pcc.tk (.of_same s7), bdc, by rw [List.length_append]; omega⟩, fun _ _ z => z⟩ (fun j σ' H' _ ⟨_, s8⟩ => .inl (.inl (s8 _ _ hl7))) ?_ ?_)
        · rintro j x σ' H8 hx ⟨⟨b, x5, rfl, ys, ps, hys, pys, bdp, lp⟩, s8⟩
          rw [List.getElem?_map] at hx
          obtain ⟨u, hu, rfl⟩ := Option.map_eq_some_iff.mp hx
          have jl := (List.getElem?_eq_some_iff.mp hu).1
          have ub : 0 ≤ u ∧ u < bn := by
            have := List.mem_of_getElem? hu
            unfold nearL at this
            exact mem_rgI.mp (List.mem_filter.mp this).1
          have hbg8 := s8 _ _ (s37 _ _ hbg3)
          have hjg8 := s8 _ _ (s37 _ _ hjg3)
          walk_at "z"
          refine r_rg1 (by omega) fun d3 hd3 => lcR_range (fun i H' => Same H8 H' ∧ ∃ zs rs, H' d3 = some (.lst zs) ∧ Prs H' zs rs ∧ Bd rs ∧ rs.length ≤ i) (by walk_at "zw") ⟨same_new hd3, [], [], upd_same, .nil, (fun p hp => by cases hp), Nat.le_refl _⟩ ?_ ?_
          · rintro i H' hi ⟨s9, zs, rs, hzs, pzs, bdr, lr⟩
            have hbg9 := s9 _ _ hbg8
            walk_at "z"
            refine ⟨rfl, ?_⟩
            walk_at "z"
            refine r_tupN sz2 fun t2 ht2 => ?_
            refine r_lce (by walk_at "zh") (small_lt (by rw [pzs.length]; omega)) ⟨same_mut (s9.trans (same_new ht2)) hd3, _, rs ++ [(u, bn + (0 + (i : Int)))], upd_same, prs_push hzs pzs ht2, bd1 bdr (by omega) (by omega) (by omega) (by omega) (by omega), by rw [List.length_append]; simp only [List.length_cons, List.length_nil]; omega⟩
          · rintro H9 ⟨s9, zs, rs, hzs, pzs, bdr, lr⟩
            have hys9 := s9 _ _ hys
            have pys9 := pys.tk (.of_same s9)
            walk_at "z"
            refine r_cat hys9 hzs (by rw [pys9.length, pzs.length]; omega) fun c hc => ?_
            exact ⟨⟨c, _, rfl, _, _, upd_same, Prs.tk (.new hc) (pd_append pys9 pzs), fun p hp => (List.mem_append.mp hp).elim (bdp p) (bdr p), by rw [List.length_append]; omega⟩, (s8.trans s9).trans (same_new hc)⟩
        · rintro σ' H8 ⟨⟨b, x5, rfl, ys, ps, hys, pys, bdp, lp⟩, s8⟩
          rw [List.length_map] at lp
          have s38 := s37.trans s8
          have hbg8 := s38 _ _ hbg3
          have hjg8 := s38 _ _ hjg3
          walk_at "z"
          refine r_rg1 (by omega) fun d3 hd3 => lcR_range (fun i H' => Same H8 H' ∧ ∃ rs : List Int, H' d3 = some (.lst (rs.map V.int)) ∧ rs.length + (if vv < (i : Int) then 1 else 0) = i) (by walk_at "zw") ⟨same_new hd3, [], upd_same, by simp; omega⟩ ?_ ?_
          · rintro i H' hi ⟨s9, rs, hrs, lr⟩
            walk_at "z"
            refine ⟨rfl, ?_⟩
            walk_at "z"
            refine r_iteN (fun h => ?_) (fun h => ?_)
            · walk_at "z"
              refine r_lce hrs (small_lt (by rw [List.length_map]; omega)) ⟨same_mut s9 hd3, rs ++ [0 + (i : Int)], by rw [List.map_append]; exact upd_same, ?_⟩
              rw [List.length_append]
              simp only [List.length_cons, List.length_nil]
              split at lr <;> split <;> omega
            · refine ⟨s9, rs, hrs, ?_⟩
              split at lr <;> split <;> omega
          · rintro H9 ⟨s9, rs, hrs, lr⟩
            have hys9 := s9 _ _ hys
            have pys9 := pys.tk (.of_same s9)
            have hbg9 := s9 _ _ hbg8
            have hjg9 := s9 _ _ hjg8
            rw [if_pos (by omega)] at lr
            walk_at "z"
            refine ⟨bn + jn, b, ys, ps, rfl, .inl (.inl hys9), pys9, by omega, fun v10 q10 H10 s10 hv10 asc10 mem10 => ?_⟩
            have gd10 := good_of (by omega) bdp asc10 mem10
            have l10 := gd_len20 gd10 (by omega)
            have hrs10 := s10 _ _ hrs
            walk_at "z"
            obtain ⟨N, hN⟩ : ∃ N : Nat, bn + jn = N := ⟨(bn + jn).toNat, by omega⟩
            rw [hN] at gd10 hv10
            refine ⟨v10, N, d3, rs, q10, rfl, hv10, .inl (.inl (.inl hrs10)), by omega, by omega, fun v11 q11 H11 s11 hv11 asc11 mem11 => ?_⟩
            obtain ⟨gd11, l11⟩ := part_goodG gd10 (by omega) asc11 mem11
            have hrs11 := s11 _ _ hrs10
            have hP11 := (((hP3.mono s38).mono s9).mono s10).mono s11
            walk_at "z"
            rw [List.length_map]
            refine r_lRg (by omega) (by omega) fun l1 hl1 => ?_
            have hP12 := hP11.mono (same_new (o := .lst ((rgI (rs.length : Int)).map V.int)) hl1)
            walk_at "z"
            refine ⟨a, s0, l1, rgI (rs.length : Int), rfl, hP12, (new_ne hP11 hl1).1, upd_same, by rw [rgI_len]; omega, fun f ms H13 hf hfa hP13 g13 hms pm => ?_⟩
            have gk : Gr a H11 H13 := (Gr.new hl1).trans g13
            have hv13 := hv11.tk (gk.tk hP11)
            have lms : ms.length = rs.length := by rw [pm.length_eq, rgI_len]; omega
            walk_at "z"
            refine ⟨v11, f, _, q11, ms, rfl, hv13, .inl (.inl (.inl hms)), by omega, fun p hp => ?_, fun v14 q14 H14 s14 hv14 asc14 mem14 => ?_⟩
            · obtain ⟨c1, c2, c3⟩ := gd11.inn p hp
              omega
            · exact q _ (by omega) (by omega) v14 q14 H14 (hP13.mono s14) (((g03.trans (.of_same (((s38.trans s9).trans s10).trans s11))).trans gk).trans (.of_same s14)) hv14 (moved_good gd11 pm asc14 mem14)
end

set_option Elab.async false
set_option linter.all false
set_option maxRecDepth 100000
set_option maxHeartbeats 4000000
open PySem PySem.Spec PyProof.Rows L2

abbrev s_connected_to : Stmt := topS 7
theorem sc_connected_to : FnScope ["around", "mask", "fresh", "seen"] ["around", "mask"] (defScope s_connected_to) := ⟨rfl, rfl, rfl, by decide +kernel, rfl, by decide +kernel, by decide +kernel⟩

/-- i is in W and outside, a neighbour of some within and not of all -/
def SplW (W : Int → Prop) (ps : List (Int × Int)) (M : Int → Prop) (i : Int) : Prop := (W i ∧ ¬ M i) ∧ (∃ v, M v ∧ Nb ps v i) ∧ ∃ v, M v ∧ ¬ Nb ps v i
def UnsW (W : Int → Prop) (ps : List (Int × Int)) (M : Int → Prop) : Prop := ∀ i : Int, 0 ≤ i → ¬ SplW W ps M i
structure LeastW (W : Int → Prop) (ps : List (Int × Int)) (S M : Int → Prop) : Prop where
  inn : ∀ v, M v → W v
  sub : ∀ v, S v → M v
  uns : UnsW W ps M
  least : ∀ T : Int → Prop, (∀ v, S v → T v) → UnsW W ps T → ∀ v, M v → T v
theorem splW_in {W : Int → Prop} {ps : List (Int × Int)} {M T : Int → Prop} (h : ∀ v, M v → T v) (u : UnsW W ps T) {i : Int} (i0 : 0 ≤ i) (s : SplW W ps M i) : T i := by
  refine Classical.byContradiction fun c => u i i0 ⟨⟨s.1.1, c⟩, ?_, ?_⟩
  · obtain ⟨v, h1, h2⟩ := s.2.1
    exact ⟨v, h v h1, h2⟩
  · obtain ⟨v, h1, h2⟩ := s.2.2
    exact ⟨v, h v h1, h2⟩
/-- unsplit sets are the modules -/
theorem uns_mdl {W M : Int → Prop} {ps : List (Int × Int)} (w0 : ∀ v, W v → 0 ≤ v) (ne : ∃ z, M z) (sub : ∀ z, M z → W z) : UnsW W ps M ↔ Mdl (Nb ps) W M := by
  constructor
  · intro u
    refine ⟨ne, sub, fun v hv hn => ?_⟩
    by_cases c : ∃ x, M x ∧ Nb ps x v
    · refine .inl fun x hx => Classical.byContradiction fun n => u v (w0 v hv) ⟨⟨hv, hn⟩, c, x, hx, n⟩
    · exact .inr fun x hx r => c ⟨x, hx, r⟩
  · rintro m i i0 ⟨⟨h1, h2⟩, ⟨a, h3, h4⟩, b, h5, h6⟩
    rcases m.uni i h1 h2 with h | h
    · exact h6 (h b h5)
    · exact h a h3 h4
section
variable {P : Program} {w : World} {K : PySem.W.Frag} {mg : Str → Option Value} {base : Heap}
/-- the vertices that split a set -/
def spPartW : Sp := fun vs H Q _ => ∃ (l : Addr) (wh x : Int) (ms : List Int) (W S : Int → Prop) (ps : List (Int × Int)), vs = [.ref l, .int wh, .int x] ∧ H l = some (.lst (ms.map V.int)) ∧ ms.length ≤ 60 ∧ Msk wh W ∧ (∀ v, W v → 0 ≤ v ∧ v < ms.length) ∧ Msk x S ∧ (∀ v, S v → W v) ∧
  (∀ i m, ms[i]? = some m → Msk m (fun z => z ∈ adjL ps i)) ∧ ∀ (y : Int) (H' : Hp), Same H H' → Msk y (SplW W ps S) → Q (.int y) H'
theorem ok_partW (T : Blt mg) (D : DefAt K mg "_parting" s_parting ["around", "whole", "mask"]) (D_members_of : DefAt K mg "members_of" s_members_of ["mask"]) (G_members_of : FnOk P w K mg base CX0 1 D_members_of.f D_members_of.fd ["mask"] spMem) :
    FnOk P w K mg base CX0 2 D.f D.fd ["around", "whole", "mask"] spPartW := by
  refine D.F.ok sc_parting (fun vs H Q E h => ?_) (fun cdv A outer s H vs Q E hr h => ?_)
  · obtain ⟨l, wh, x, ms, W, S, ps, rfl, _⟩ := h
    rfl
  · obtain ⟨l, wh, x, ms, W, S, ps, rfl, hl, m60, mw, bw, mx, sw, mk, q⟩ := h
    have bd : ∀ v, S v → 0 ≤ v ∧ v < ms.length := fun v h => bw v (sw v h)
    refine ⟨_, (pss_cons (ps_set (i := 3) sc_parting.nd rfl (Or.inl rfl) pe_int)
      (pss_cons (ps_set (i := 4) sc_parting.nd rfl (Or.inl rfl) (pv 1))
      (pss_cons (ps_for PassesOwn.never (by rfl) (PI.tupK (K := K) rfl (pi_tup (pe_call G_members_of (hr.mono (by first | decide | omega)) (by rfl) D_members_of.g D_members_of.F.kp D_members_of.b .nil pass0 (pa_cons (pv 2) pa_nil)))) (pg_name (i := 5) sc_parting.nd rfl (Or.inl rfl))
        (pss_cons (ps_aug (i := 3) sc_parting.nd rfl (Or.inl rfl) (pe_ix (ix_listK (K := K) rfl) (pv 0) (pv 5) (fun _ _ => rfl)) iop_or)
        (pss_one (ps_aug (i := 4) sc_parting.nd rfl (Or.inl rfl) (pe_ix (ix_listK (K := K) rfl) (pv 0) (pv 5) (fun _ _ => rfl)) iop_and))))
      (pss_one (ps_ret (pe_op op_and (pe_op op_and (pe_op op_and (pv 3) (pe_un un_inv (pv 4))) (pv 1)) (pe_un un_inv (pv 2)))))))), ?_⟩
    refine r_at (σ := [some _, some _, some _, none, none, none]) rfl ?_
    walk_at "z"
    refine ⟨x, S, rfl, mx, fun i h => by have := bd _ h; omega, fun p ns H1 s1 hp hp0 asc mem => ?_⟩
    walk_at "z"
    refine r_it (.inl (.inl hp)) (forR_tup (xs := ns.map V.int) (fun j σ' H' => H' = H1 ∧ ∃ (a b : Int) (z : Option V), σ' = [some (.ref l), some (.int wh), some (.int x), some (.int a), some (.int b), z] ∧ Msk a (fun i => ∃ v ∈ ns.take j, Nb ps v i) ∧ Msk b (fun i => W i ∧ ∀ v ∈ ns.take j, Nb ps v i)) ⟨rfl, _, _, _, rfl, Msk.zero.congr fun i => by simp, mw.congr fun i => by simp⟩ (fun i σ' H' _ ⟨eH, _⟩ => .inl (.inl (eH ▸ hp))) ?_ ?_)
    · rintro j v σ' H' hv ⟨rfl, a, b, z, rfl, ma, mb⟩
      rw [List.getElem?_map] at hv
      obtain ⟨v, hv9, rfl⟩ := Option.map_eq_some_iff.mp hv
      obtain ⟨v0, vS⟩ := (mem v).mp (List.mem_of_getElem? hv9)
      have vb := bd v vS
      obtain ⟨k, hk⟩ : ∃ k, ms[v.toNat]? = some k := ⟨_, List.getElem?_eq_getElem (by omega)⟩
      have kk := (mk _ _ hk).congr fun i => mem_adjN (z := i) v0
      have ix : atI (ms.map V.int) v = some (.int k) := at_of (j := v.toNat) (by omega) (by rw [List.getElem?_map, hk]; rfl)
      have hl1 := s1 _ _ hl
      walk_at "z"
      refine r_aug rfl ?_
      walk_at "z"
      refine r_augI rfl ?_
      walk_at "z"
      refine r_aug rfl ?_
      walk_at "z"
      refine r_augI rfl ?_
      refine ⟨rfl, _, _, _, rfl, (ma.or kk).congr fun i => ?_, (mb.and kk).congr fun i => ?_⟩
      · rw [take_next hv9]
        constructor
        · rintro (⟨v', h1, h2⟩ | h)
          · exact ⟨v', List.mem_append_left _ h1, h2⟩
          · exact ⟨v, List.mem_append_right _ (List.mem_singleton.mpr rfl), h⟩
        · rintro ⟨v', h1, h2⟩
          rcases List.mem_append.mp h1 with c | c
          · exact .inl ⟨v', c, h2⟩
          · exact .inr (List.mem_singleton.mp c ▸ h2)
      · rw [take_next hv9]
        constructor
        · rintro ⟨⟨h0, h1⟩, h2⟩
          refine ⟨h0, fun v' hv' => ?_⟩
          rcases List.mem_append.mp hv' with c | c
          · exact h1 v' c
          · exact List.mem_singleton.mp c ▸ h2
        · rintro ⟨h0, h1⟩
          exact ⟨⟨h0, fun v' hv' => h1 v' (List.mem_append_left _ hv')⟩, h1 v (List.mem_append_right _ (List.mem_singleton.mpr rfl))⟩
    · rintro σ' H' ⟨rfl, a, b, z, rfl, ma, mb⟩
      rw [List.length_map, List.take_length] at ma mb
      walk_at "z"
      refine q _ _ s1 (Msk.congr (((ma.andB mb.bts.not).and mw).andB mx.bts.not) fun i => ?_)
      unfold SplW
      constructor
      · rintro ⟨⟨⟨⟨v, h1, h2⟩, h3⟩, h4⟩, h5⟩
        refine ⟨⟨h4, h5⟩, ⟨v, ((mem v).mp h1).2, h2⟩, ?_⟩
        refine Classical.byContradiction fun c => h3 ⟨h4, fun v' hv' => Classical.byContradiction fun d => c ⟨v', ((mem v').mp hv').2, d⟩⟩
      · rintro ⟨⟨h4, h5⟩, ⟨v, h1, h2⟩, v', h1', h3⟩
        exact ⟨⟨⟨⟨v, (mem v).mpr ⟨(bd v h1).1, h1⟩, h2⟩, fun c => h3 (c.2 v' ((mem v').mpr ⟨(bd v' h1').1, h1'⟩))⟩, h4⟩, h5⟩
def spLeastW : Sp := fun vs H Q _ => ∃ (l : Addr) (wh x : Int) (ms : List Int) (W S : Int → Prop) (ps : List (Int × Int)), vs = [.ref l, .int wh, .int x] ∧ H l = some (.lst (ms.map V.int)) ∧ ms.length ≤ 60 ∧ Msk wh W ∧ (∀ v, W v → 0 ≤ v ∧ v < ms.length) ∧ Msk x S ∧ (∀ v, S v → W v) ∧
  (∀ i m, ms[i]? = some m → Msk m (fun z => z ∈ adjL ps i)) ∧ ∀ (y : Int) (M : Int → Prop) (H' : Hp), Same H H' → Msk y M → LeastW W ps S M → Q (.int y) H'
theorem msk_leW {x y : Int} {S T : Int → Prop} (a : Msk x S) (b : Msk y T) (h : ∀ i : Nat, S i → T i) : x ≤ y := by
  have e : x = Builtin.bitAnd x y := a.sub (a.and b) fun i => ⟨fun s => ⟨s, h i s⟩, And.left⟩
  rw [bitAnd_pp a.nn b.nn] at e
  have h1 : x.toNat &&& y.toNat ≤ y.toNat := Nat.and_le_right
  have := b.nn
  omega
theorem ok_leastW (T : Blt mg) (D : DefAt K mg "_least" s_least ["around", "whole", "mask"]) (D_parting : DefAt K mg "_parting" s_parting ["around", "whole", "mask"]) (G_parting : FnOk P w K mg base CX0 2 D_parting.f D_parting.fd ["around", "whole", "mask"] spPartW) :
    FnOk P w K mg base CX0 3 D.f D.fd ["around", "whole", "mask"] spLeastW := by
  refine D.F.ok sc_least (fun vs H Q E h => ?_) (fun cdv A outer s H vs Q E hr h => ?_)
  · obtain ⟨l, wh, x, ms, W, S, ps, rfl, _⟩ := h
    rfl
  · obtain ⟨l, wh, x, ms, W, S, ps, rfl, hl, m60, mw, bw, mx, sw, mk, q⟩ := h
    have bd : ∀ v, S v → 0 ≤ v ∧ v < ms.length := fun v h => bw v (sw v h)
    refine ⟨_, (pss_cons (ps_set (i := 3) sc_least.nd rfl (Or.inl rfl) (pe_call G_parting (hr.mono (by first | decide | omega)) (by rfl) D_parting.g D_parting.F.kp D_parting.b .nil pass0 (pa_cons (pv 0) (pa_cons (pv 1) (pa_cons (pv 2) pa_nil)))))
      (pss_cons (ps_while PassesOwn.never (pt_cmpR op_ne (pv 3) pe_int (nomark _))
        (pss_cons (ps_aug (i := 2) sc_least.nd rfl (Or.inl rfl) (pv 3) iop_or)
        (pss_one (ps_set (i := 3) sc_least.nd rfl (Or.inl rfl) (pe_call G_parting (hr.mono (by first | decide | omega)) (by rfl) D_parting.g D_parting.F.kp D_parting.b .nil pass0 (pa_cons (pv 0) (pa_cons (pv 1) (pa_cons (pv 2) pa_nil))))))))
      (pss_one (ps_ret (pv 2))))), ?_⟩
    refine r_at (σ := [some _, some _, some _, none]) rfl ?_
    walk_at "z"
    refine ⟨l, wh, x, ms, W, S, ps, rfl, hl, m60, mw, bw, mx, sw, mk, fun y0 H1 s1 my0 => ?_⟩
    walk_at "z"
    let I9 : Nat → L2.St → Hp → Prop := fun k σ' H' => ∃ (a p : Int) (M : Int → Prop), σ' = [some (.ref l), some (.int wh), some (.int a), some (.int p)] ∧ k = (wh - a).toNat ∧ Same H H' ∧ Msk a M ∧ Msk p (SplW W ps M) ∧ (∀ v, M v → W v) ∧ (∀ v, S v → M v) ∧ (∀ T : Int → Prop, (∀ v, S v → T v) → UnsW W ps T → ∀ v, M v → T v)
    refine r_while I9 _ ⟨x, y0, S, rfl, rfl, s1, mx, my0, sw, fun _ h => h, fun T h _ => h⟩ ?_
    rintro k σ' H2 ⟨a, p, M, rfl, rfl, s2, ma, mp, bM, sM, lM⟩
    walk_at "z"
    refine r_iteN (fun c => ?_) (fun c => ?_)
    · refine r_whGo ?_
      have mo := ma.or mp
      have bM' : ∀ v, (M v ∨ (0 ≤ v ∧ SplW W ps M v)) → W v := fun v h => h.elim (bM v) fun h => h.2.1.1
      have mo' : Msk (Builtin.bitOr a p) (fun v => M v ∨ (0 ≤ v ∧ SplW W ps M v)) := mo.congr fun i => or_congr_right ⟨fun h => ⟨by omega, h⟩, And.right⟩
      walk_at "z"
      refine r_aug rfl ?_
      walk_at "z"
      refine r_augI rfl ?_
      walk_at "z"
      refine ⟨l, wh, _, ms, W, _, ps, rfl, s2 _ _ hl, m60, mw, bw, mo', bM', mk, fun y1 H3 s3 my1 => ?_⟩
      walk_at "z"
      have le := msk_leW mo' mw fun i h => bM' _ h
      have e0 : Builtin.bitAnd a p = 0 := (ma.and mp).sub Msk.zero fun i => ⟨fun h => h.2.1.2 h.1, False.elim⟩
      have ad : Builtin.bitOr a p = a + p := by
        have := bitOr_and a p
        omega
      have p0 := mp.nn
      refine ⟨(wh - Builtin.bitOr a p).toNat, by omega, _, y1, _, rfl, rfl, s2.trans s3, mo', my1, bM', fun v h => .inl (sM v h), fun T h u v hv => ?_⟩
      rcases hv with hv | ⟨v0, hv⟩
      · exact lM T h u v hv
      · exact splW_in (lM T h u) u v0 hv
    · subst c
      walk_at "z"
      refine q a M H2 s2 ma ⟨bM, sM, fun i i0 sp => ?_, lM⟩
      refine (mp.ne0.mpr ⟨i.toNat, ?_⟩) rfl
      rw [show ((i.toNat : Nat) : Int) = i by omega]
      exact sp
/-- the component of the least vertex of a mask -/
def spConn : Sp := fun vs H Q _ => ∃ (l : Addr) (x : Int) (ms : List Int) (S : Int → Prop) (ps : List (Int × Int)), vs = [.ref l, .int x] ∧ H l = some (.lst (ms.map V.int)) ∧ ms.length ≤ 60 ∧ x ≠ 0 ∧ Msk x S ∧ (∀ v, S v → 0 ≤ v ∧ v < ms.length) ∧
  (∀ i m, ms[i]? = some m → Msk m (fun z => z ∈ adjL ps i)) ∧ ∀ (y : Int) (u : Int) (H' : Hp), Same H H' → S u → (∀ z, S z → u ≤ z) → Msk y (Con (Wn (Nb ps) S) u) → Q (.int y) H'
theorem ok_conn2 (T : Blt mg) (D : DefAt K mg "_connected_to" s_connected_to ["around", "mask"]) (D_near_of : DefAt K mg "near_of" s_near_of ["around", "mask"]) (G_near_of : FnOk P w K mg base CX0 2 D_near_of.f D_near_of.fd ["around", "mask"] spNearM) :
    FnOk P w K mg base CX0 3 D.f D.fd ["around", "mask"] spConn := by
  refine D.F.ok sc_connected_to (fun vs H Q E h => ?_) (fun cdv A outer s H vs Q E hr h => ?_)
  · obtain ⟨l, x, ms, S, ps, rfl, _⟩ := h
    rfl
  · obtain ⟨l, x, ms, S, ps, rfl, hl, m60, x0, mx, bd, mk, q⟩ := h
    have xn := mx.nn
    obtain ⟨k, e1, e2, e3, _⟩ := low_bit (x := x) (by omega)
    have su : S (k : Int) := (mx.bts k).mp e2
    have klow : ∀ z, S z → (k : Int) ≤ z := fun z hz => by
      have z0 := (bd z hz).1
      refine Int.not_lt.mp fun c => ?_
      have h1 := e3 z.toNat (by omega)
      have h2 := (mx.bts z.toNat).mpr (by rw [show ((z.toNat : Nat) : Int) = z by omega]; exact hz)
      rw [h1] at h2
      exact Bool.false_ne_true h2
    have m1 : Msk (Builtin.bitAnd x (-x)) (fun i => i = (k : Int)) := by
      rw [e1]
      refine ⟨Int.natCast_nonneg _, fun i => ?_⟩
      rw [Int.toNat_natCast, Nat.testBit_two_pow, decide_eq_true_eq]
      omega
    refine ⟨_, (pss_cons (ps_set (i := 2) sc_connected_to.nd rfl (Or.inl rfl) (pe_op op_and (pv 1) (pe_un un_neg (pv 1))))
      (pss_cons (ps_set (i := 3) sc_connected_to.nd rfl (Or.inl rfl) (pv 2))
      (pss_cons (ps_while PassesOwn.never (pt_cmpR op_ne (pv 2) pe_int (nomark _))
        (pss_cons (ps_set (i := 2) sc_connected_to.nd rfl (Or.inl rfl) (pe_op op_and (pe_op op_and (pe_call G_near_of (hr.mono (by first | decide | omega)) (by rfl) D_near_of.g D_near_of.F.kp D_near_of.b .nil pass0 (pa_cons (pv 0) (pa_cons (pv 2) pa_nil))) (pv 1)) (pe_un un_inv (pv 3))))
        (pss_one (ps_aug (i := 3) sc_connected_to.nd rfl (Or.inl rfl) (pv 2) iop_or))))
      (pss_one (ps_ret (pv 3)))))), ?_⟩
    refine r_at (σ := [some _, some _, none, none]) rfl ?_
    walk_at "z"
    let I9 : Nat → L2.St → Hp → Prop := fun m σ' H' => ∃ (f d : Int) (F Dn : Int → Prop), σ' = [some (.ref l), some (.int x), some (.int f), some (.int d)] ∧ m = 2 * (x - d).toNat + (if f = 0 then 0 else 1) ∧ Same H H' ∧ Msk f F ∧ Msk d Dn ∧ (∀ v, F v → Dn v) ∧ (∀ v, Dn v → Con (Wn (Nb ps) S) (k : Int) v) ∧ Dn (k : Int) ∧ (∀ a, Dn a → ¬ F a → ∀ b, Wn (Nb ps) S a b → Dn b)
    refine r_while I9 _ ⟨_, _, _, _, rfl, rfl, fun _ _ z => z, m1, m1, fun _ h => h, fun v h => h ▸ .refl, rfl, fun a h n => absurd h n⟩ ?_
    rintro m σ' H1 ⟨f, d, F, Dn, rfl, rfl, s1, mf, md, fd, dc, dk, cl⟩
    have inS : ∀ v, Dn v → S v := fun v h => con_in su (dc v h)
    have d0 := md.nn
    have f0 := mf.nn
    have dle := msk_leW md mx fun i h => inS _ h
    walk_at "z"
    refine r_iteN (fun c => ?_) (fun c => ?_)
    · refine r_whGo ?_
      walk_at "z"
      refine ⟨l, f, ms, F, adjL ps, rfl, s1 _ _ hl, mf, fun i h => by have := bd _ (inS _ (fd _ h)); omega, mk, fun y H2 s2 my => ?_⟩
      have mF := ((my.and mx).andB md.bts.not).congr (T := fun i => (0 ≤ i ∧ (∃ v, F v ∧ Nb ps v i)) ∧ S i ∧ ¬ Dn i) fun i => by
        constructor
        · rintro ⟨⟨⟨v, h1, h2⟩, h3⟩, h4⟩
          exact ⟨⟨by omega, (v : Int), h1, (mem_adjN (a := (v : Int)) (by omega)).mp (by rw [Int.toNat_natCast]; exact h2)⟩, h3, h4⟩
        · rintro ⟨⟨_, v, h1, h2⟩, h3, h4⟩
          have v0 := (bd v (inS v (fd v h1))).1
          exact ⟨⟨⟨v.toNat, by rw [show ((v.toNat : Nat) : Int) = v by omega]; exact h1, (mem_adjN v0).mpr h2⟩, h3⟩, h4⟩
      walk_at "z"
      refine r_aug rfl ?_
      walk_at "z"
      refine r_augI rfl ?_
      generalize Builtin.bitAnd (Builtin.bitAnd y x) (Builtin.bitNot d) = f' at mF ⊢
      have mD := md.or mF
      have inS' : ∀ v, (Dn v ∨ ((0 ≤ v ∧ (∃ u, F u ∧ Nb ps u v)) ∧ S v ∧ ¬ Dn v)) → S v := fun v h => h.elim (inS v) fun h => h.2.1
      have le := msk_leW mD mx fun i h => inS' _ h
      have ad : Builtin.bitOr d f' = d + f' := by
        have e0 : Builtin.bitAnd d f' = 0 := (md.and mF).sub Msk.zero fun i => ⟨fun h => h.2.2.2 h.1, False.elim⟩
        have := bitOr_and d f'
        omega
      have fn := mF.nn
      refine ⟨2 * (x - Builtin.bitOr d f').toNat + (if f' = 0 then 0 else 1), ?_, f', _, _, _, rfl, rfl, s1.trans s2, mF, mD, fun v h => .inr h, fun v h => ?_, .inl dk, fun a h n b r => ?_⟩
      · rw [if_neg c, ad]
        split <;> omega
      · rcases h with h | ⟨⟨_, u, h1, h2⟩, h3, _⟩
        · exact dc v h
        · exact .step (dc u (fd u h1)) ⟨inS u (fd u h1), h3, h2⟩
      · have hd : Dn a := h.resolve_right n
        by_cases ca : F a
        · by_cases cb : Dn b
          · exact .inl cb
          · exact .inr ⟨⟨(bd b r.2.1).1, a, ca, r.2.2⟩, r.2.1, cb⟩
        · exact .inl (cl a hd ca b r)
    · subst c
      walk_at "z"
      refine q d (k : Int) H1 s1 su klow (md.congr fun i => ⟨dc _, fun h => ?_⟩)
      exact Con.closed (S := Dn) dk (fun a b ha r => cl a ha (fun hf => (mf.ne0.mpr ⟨a.toNat, by
        rw [show ((a.toNat : Nat) : Int) = a by have := (bd a r.1).1; omega]
        exact hf⟩) rfl) b r) h
end

set_option Elab.async false
set_option linter.all false
set_option maxRecDepth 100000
set_option maxHeartbeats 4000000
open PySem PySem.Spec PyProof.Rows L2

abbrev s_parts_of : Stmt := topS 6
theorem sc_parts_of : FnScope ["around", "mask", "parts", "part"] ["around", "mask"] (defScope s_parts_of) := ⟨rfl, rfl, rfl, by decide +kernel, rfl, by decide +kernel, by decide +kernel⟩

abbrev s_prime_parts : Stmt := topS 21
theorem sc_prime_parts : FnScope ["around", "mask", "parts", "left", "first", "near", "v"] ["around", "mask"] (defScope s_prime_parts) := ⟨rfl, rfl, rfl, by decide +kernel, rfl, by decide +kernel, by decide +kernel⟩



theorem nb_symm {ps : List (Int × Int)} : ∀ a b, Nb ps a b → Nb ps b a := fun _ _ h => h.symm
theorem con_sub {R : Int → Int → Prop} {S T : Int → Prop} (h : ∀ v, S v → T v) {u z : Int} (c : Con (Wn R S) u z) : Con (Wn R T) u z := by
  induction c with
  | refl => exact .refl
  | step _ r ih => exact .step ih ⟨h _ r.1, h _ r.2.1, r.2.2⟩
theorem con_cl {R : Int → Int → Prop} {S T : Int → Prop} (cl : ∀ a b, S a → Wn R T a b → S b) {u z : Int} (hu : S u) (c : Con (Wn R T) u z) : S z ∧ Con (Wn R S) u z := by
  induction c with
  | refl => exact ⟨hu, .refl⟩
  | step _ r ih => exact ⟨cl _ _ ih.1 r, .step ih.2 ⟨ih.1, cl _ _ ih.1 r, r.2.2⟩⟩
section
variable {P : Program} {w : World} {K : PySem.W.Frag} {mg : Str → Option Value} {base : Heap}
/-- the components of a mask -/
def spPartsOf : Sp := fun vs H Q _ => ∃ (l : Addr) (x : Int) (ms : List Int) (S : Int → Prop) (ps : List (Int × Int)), vs = [.ref l, .int x] ∧ H l = some (.lst (ms.map V.int)) ∧ ms.length ≤ 60 ∧ Msk x S ∧ (∀ v, S v → 0 ≤ v ∧ v < ms.length) ∧
  (∀ i m, ms[i]? = some m → Msk m (fun z => z ∈ adjL ps i)) ∧ ∀ (f : Addr) (ks us : List Int) (H' : Hp), Same H H' → H f = none → H' f = some (.lst (ks.map V.int)) → Paired (fun k u => Msk k (Con (Wn (Nb ps) S) u)) ks us → (∀ u ∈ us, S u) → (∀ v, S v → ∃ u ∈ us, Con (Wn (Nb ps) S) u v) → us.Pairwise (fun u v => ¬ Con (Wn (Nb ps) S) u v) → us.Pairwise (· < ·) → (∀ u ∈ us, ∀ z, Con (Wn (Nb ps) S) u z → u ≤ z) → us.length ≤ 60 → Q (.ref f) H'
theorem ok_partsof (T : Blt mg) (D : DefAt K mg "parts_of" s_parts_of ["around", "mask"]) (D_connected_to : DefAt K mg "_connected_to" s_connected_to ["around", "mask"]) (G_connected_to : FnOk P w K mg base CX0 3 D_connected_to.f D_connected_to.fd ["around", "mask"] spConn) :
    FnOk P w K mg base CX0 4 D.f D.fd ["around", "mask"] spPartsOf := by
  refine D.F.ok sc_parts_of (fun vs H Q E h => ?_) (fun cdv A outer s H vs Q E hr h => ?_)
  · obtain ⟨l, x, ms, S, ps, rfl, _⟩ := h
    rfl
  · obtain ⟨l, x, ms, S, ps, rfl, hl, m60, mx, bd, mk, q⟩ := h
    refine ⟨_, (pss_cons (ps_set (i := 2) sc_parts_of.nd rfl (Or.inl rfl) (pe_lst pa_nil))
      (pss_cons (ps_while PassesOwn.never (pt_cmpR op_ne (pv 1) pe_int (nomark _))
        (pss_cons (ps_set (i := 3) sc_parts_of.nd rfl (Or.inl rfl) (pe_call G_connected_to (hr.mono (by first | decide | omega)) (by rfl) D_connected_to.g D_connected_to.F.kp D_connected_to.b .nil pass0 (pa_cons (pv 0) (pa_cons (pv 1) pa_nil))))
        (pss_cons (ps_expr (PE.bmK (K := K) rfl (pe_bm PySem.F.plainAttrs_list PySem.F.slot_list_append PySem.F.type_list_append mt_append (pv 2) (pa_cons (pv 3) pa_nil))))
        (pss_one (ps_aug (i := 1) sc_parts_of.nd rfl (Or.inl rfl) (pe_un un_inv (pv 3)) iop_and)))))
      (pss_one (ps_ret (pv 2))))), ?_⟩
    refine r_at (σ := [some _, some _, none, none]) rfl ?_
    walk_at "z"
    refine r_lstN (by decide) fun f hf => ?_
    walk_at "z"
    let I9 : Nat → L2.St → Hp → Prop := fun m σ' H' => ∃ (y : Int) (x4 : Option V) (ks us : List Int) (Sr : Int → Prop), σ' = [some (.ref l), some (.int y), some (.ref f), x4] ∧ m = y.toNat ∧ Same H H' ∧ H' f = some (.lst (ks.map V.int)) ∧ Msk y Sr ∧ (∀ v, Sr v → S v) ∧ (∀ a b, Sr a → Wn (Nb ps) S a b → Sr b) ∧ Paired (fun k u => Msk k (Con (Wn (Nb ps) S) u)) ks us ∧ (∀ u ∈ us, S u) ∧ (∀ v, S v → Sr v ∨ ∃ u ∈ us, Con (Wn (Nb ps) S) u v) ∧ (∀ u ∈ us, ∀ v, Con (Wn (Nb ps) S) u v → ¬ Sr v) ∧ us.Pairwise (fun u v => ¬ Con (Wn (Nb ps) S) u v) ∧ us.Pairwise (· < ·) ∧ (∀ u ∈ us, ∀ z, Con (Wn (Nb ps) S) u z → u ≤ z) ∧ (∀ u ∈ us, ∀ z, Sr z → u < z)
    refine r_while I9 _ ⟨x, none, [], [], S, rfl, rfl, same_new hf, upd_same, mx, fun _ h => h, fun a b _ r => r.2.1, .nil, fun u h => (nomatch h), fun v h => .inl h, fun u h => (nomatch h), .nil, .nil, fun u h => (nomatch h), fun u h => (nomatch h)⟩ ?_
    rintro m σ' H1 ⟨y, x4, ks, us, Sr, rfl, rfl, s1, hF, my, sS, cl, pk, uS, cov, away, dj, uas, ule, ult⟩
    have few : us.length ≤ ms.length := by
      have nd : us.Nodup := dj.imp fun {a b} h (e : a = b) => h (e ▸ Con.refl)
      have := nodup_le us (rgI (ms.length : Int)) nd fun u hu => mem_rgI.mpr (bd u (uS u hu))
      rw [rgI_len] at this
      omega
    have y0 := my.nn
    walk_at "z"
    refine r_iteN (fun c => ?_) (fun c => ?_)
    · refine r_whGo ?_
      walk_at "z"
      refine ⟨l, y, ms, Sr, ps, rfl, s1 _ _ hl, m60, c, my, fun v h => bd v (sS v h), mk, fun p u H2 s2 su ulow mp => ?_⟩
      have eqc : ∀ z, Con (Wn (Nb ps) Sr) u z ↔ Con (Wn (Nb ps) S) u z := fun z => ⟨con_sub sS, fun h => (con_cl cl su h).2⟩
      have mp := mp.congr fun i => eqc i
      have hF2 := s2 _ _ hF
      walk_at "z"
      refine r_appT hF2 (small_lt (by rw [List.length_map, pk.length]; omega)) ?_
      walk_at "z"
      refine r_aug rfl ?_
      walk_at "z"
      refine r_augI rfl ?_
      have mn := my.andB mp.bts.not
      have le := msk_leW mn my fun i h => h.1
      have ne : Builtin.bitAnd y (Builtin.bitNot p) ≠ y := fun e => by
        have u0 := (bd u (sS u su)).1
        have := ((mn.eq_iff my).mp e u.toNat).mpr (by rw [show ((u.toNat : Nat) : Int) = u by omega]; exact su)
        rw [show ((u.toNat : Nat) : Int) = u by omega] at this
        exact this.2 .refl
      have n0 := mn.nn
      refine ⟨_, by omega, _, _, ks ++ [p], us ++ [u], _, rfl, rfl, same_mut (s1.trans s2) hf, by rw [List.map_append]; exact upd_same, mn, fun v h => sS v h.1, fun a b ha r => ⟨cl a b ha.1 r, fun h => ha.2 (h.trans (Con.symm (wn_symm nb_symm) (.step .refl r)))⟩, pk.snoc mp, fun v hv => ?_, fun v hv => ?_, fun v hv z hz hn => ?_, ?_, ?_, fun v hv z hz => ?_, fun v hv z hz => ?_⟩
      · rcases List.mem_append.mp hv with h | h
        · exact uS v h
        · rw [List.mem_singleton.mp h]
          exact sS u su
      · rcases cov v hv with h | ⟨a, h1, h2⟩
        · by_cases cc : Con (Wn (Nb ps) S) u v
          · exact .inr ⟨u, List.mem_append_right _ (List.mem_singleton.mpr rfl), cc⟩
          · exact .inl ⟨h, cc⟩
        · exact .inr ⟨a, List.mem_append_left _ h1, h2⟩
      · rcases List.mem_append.mp hv with h | h
        · exact away v h z hz hn.1
        · rw [List.mem_singleton.mp h] at hz
          exact hn.2 hz
      · refine List.pairwise_append.mpr ⟨dj, by simp, fun a ha b hb => ?_⟩
        rw [List.mem_singleton.mp hb]
        exact fun h => away a ha u h su
      · refine List.pairwise_append.mpr ⟨uas, by simp, fun a ha b hb => ?_⟩
        rw [List.mem_singleton.mp hb]
        exact ult a ha u su
      · rcases List.mem_append.mp hv with h | h
        · exact ule v h z hz
        · rw [List.mem_singleton.mp h] at hz ⊢
          exact ulow z (con_cl cl su hz).1
      · rcases List.mem_append.mp hv with h | h
        · exact ult v h z hz.1
        · rw [List.mem_singleton.mp h]
          have h1 := ulow z hz.1
          have h2 : z ≠ u := fun e => hz.2 (e ▸ Con.refl)
          omega
    · subst c
      walk_at "z"
      refine q f ks us H1 s1 hf hF pk uS (fun v hv => ?_) dj uas ule (by omega)
      rcases cov v hv with h | h
      · have v0 := (bd v hv).1
        exact absurd rfl (my.ne0.mpr ⟨v.toNat, by rw [show ((v.toNat : Nat) : Int) = v by omega]; exact h⟩)
      · exact h
/-- the largest modules, where both sides are connected -/
def spPrime : Sp := fun vs H Q _ => ∃ (l : Addr) (x : Int) (ms : List Int) (S : Int → Prop) (ps : List (Int × Int)) (R' : Int → Int → Prop), vs = [.ref l, .int x] ∧ H l = some (.lst (ms.map V.int)) ∧ ms.length ≤ 60 ∧ Msk x S ∧ (∀ v, S v → 0 ≤ v ∧ v < ms.length) ∧ Prm (Nb ps) R' S ∧
  (∀ i m, ms[i]? = some m → Msk m (fun z => z ∈ adjL ps i)) ∧ ∀ (f : Addr) (ks us : List Int) (H' : Hp), Same H H' → H f = none → H' f = some (.lst (ks.map V.int)) → Paired (fun k u => Msk k (Cls (Nb ps) S u)) ks us → (∀ u ∈ us, S u) → (∀ v, S v → ∃ u ∈ us, Cls (Nb ps) S u v) → us.Pairwise (fun u v => ¬ Cls (Nb ps) S u v) → us.Pairwise (· < ·) → (∀ u ∈ us, ∀ z, Cls (Nb ps) S u z → u ≤ z) → us.length ≤ 60 → Q (.ref f) H'
theorem ok_prime (T : Blt mg) (D : DefAt K mg "_prime_parts" s_prime_parts ["around", "mask"]) (D_members_of : DefAt K mg "members_of" s_members_of ["mask"]) (G_members_of : FnOk P w K mg base CX0 1 D_members_of.f D_members_of.fd ["mask"] spMem)
    (D_least : DefAt K mg "_least" s_least ["around", "whole", "mask"]) (G_least : FnOk P w K mg base CX0 3 D_least.f D_least.fd ["around", "whole", "mask"] spLeastW)
    (D_mask_of : DefAt K mg "mask_of" s_mask_of ["members"]) (G_mask_of : FnOk P w K mg base CX0 1 D_mask_of.f D_mask_of.fd ["members"] (spMask K)) :
    FnOk P w K mg base CX0 4 D.f D.fd ["around", "mask"] spPrime := by
  refine D.F.ok sc_prime_parts (fun vs H Q E h => ?_) (fun cdv A outer s H vs Q E hr h => ?_)
  · obtain ⟨l, x, ms, S, ps, R', rfl, _⟩ := h
    rfl
  · obtain ⟨l, x, ms, S, ps, R', rfl, hl, m60, mx, bd, pr, mk, q⟩ := h
    refine ⟨_, (pss_cons (ps_set (i := 2) sc_prime_parts.nd rfl (Or.inl rfl) (pe_lst pa_nil))
      (pss_cons (ps_set (i := 3) sc_prime_parts.nd rfl (Or.inl rfl) (pv 1))
      (pss_cons (ps_while PassesOwn.never (pt_cmpR op_ne (pv 3) pe_int (nomark _))
        (pss_cons (ps_set (i := 4) sc_prime_parts.nd rfl (Or.inr rfl) (pe_op op_and (pv 3) (pe_un un_neg (pv 3))))
        (pss_cons (ps_setLc (i := 5) (own := [("v", 6)]) (by rfl) sc_prime_parts.nd rfl rfl (sw_true rfl rfl rfl (by decide +kernel)) (PI.tupK (K := K) rfl (pi_tup (pe_call G_members_of (hr.mono (by first | decide | omega)) (by rfl) D_members_of.g D_members_of.F.kp D_members_of.b .nil pass0 (pa_cons (pv 3) pa_nil)))) (blkOk_by (own := [("v", 6)]) (N := ["around", "mask", "parts", "left", "first", "near", "v"]) (sc := (defScope s_prime_parts)) (by decide +kernel)) (fun _ _ _ _ _ => (pg_name (i := 6) sc_prime_parts.nd rfl (Or.inl rfl))) (fun _ _ _ _ _ => (pts_one (pt_cmpR op_ne (pe_call G_least (hr.mono (by first | decide | omega)) (by rfl) D_least.g D_least.F.kp D_least.b .nil pass0 (pa_cons (pv 0) (pa_cons (pv 1) (pa_cons (pe_op op_or (pv 4) (pe_op op_shl pe_int (pv 6))) pa_nil)))) (pv 1) (nomark _)))) (fun _ _ _ _ _ => (pv 6)))
        (pss_cons (ps_expr (PE.bmK (K := K) rfl (pe_bm PySem.F.plainAttrs_list PySem.F.slot_list_append PySem.F.type_list_append mt_append (pv 2) (pa_cons (pe_call G_mask_of (hr.mono (by first | decide | omega)) (by rfl) D_mask_of.g D_mask_of.F.kp D_mask_of.b .nil pass0 (pa_cons (pv 5) pa_nil)) pa_nil))))
        (pss_one (ps_aug (i := 3) sc_prime_parts.nd rfl (Or.inl rfl) (pe_un un_inv (pe_ix (ix_listK (K := K) rfl) (pv 2) (pe_un un_neg pe_int) (fun _ _ => rfl))) iop_and))))))
      (pss_one (ps_ret (pv 2)))))), ?_⟩
    refine r_at (σ := [some _, some _, none, none, none, none, none]) rfl ?_
    walk_at "z"
    refine r_lstN (by decide) fun f hf => ?_
    walk_at "z"
    let I9 : Nat → L2.St → Hp → Prop := fun m σ' H' => ∃ (y : Int) (x5 x6 : Option V) (ks us : List Int) (Sr : Int → Prop), σ' = [some (.ref l), some (.int x), some (.ref f), some (.int y), x5, x6, none] ∧ m = y.toNat ∧ Same H H' ∧ H' f = some (.lst (ks.map V.int)) ∧ Msk y Sr ∧ (∀ v, Sr v ↔ S v ∧ ∀ u ∈ us, ¬ Cls (Nb ps) S u v) ∧ Paired (fun k u => Msk k (Cls (Nb ps) S u)) ks us ∧ (∀ u ∈ us, S u) ∧ us.Pairwise (fun u v => ¬ Cls (Nb ps) S u v) ∧ us.Pairwise (· < ·) ∧ (∀ u ∈ us, ∀ z, Cls (Nb ps) S u z → u ≤ z) ∧ (∀ u ∈ us, ∀ z, Sr z → u < z)
    refine r_while I9 _ ⟨x, none, none, [], [], S, rfl, rfl, same_new hf, upd_same, mx, fun v => ⟨fun h => ⟨h, fun u z => (nomatch z)⟩, And.left⟩, .nil, fun u h => (nomatch h), .nil, .nil, fun u h => (nomatch h), fun u h => (nomatch h)⟩ ?_
    rintro m σ' H1 ⟨y, x5, x6, ks, us, Sr, rfl, rfl, s1, hF, my, eS, pk, uS, dj, uas, ule, ult⟩
    have few : us.length ≤ ms.length := by
      have nd : us.Nodup := by
        refine List.Pairwise.imp_of_mem ?_ dj
        intro a b ha _ h e
        exact h (e ▸ cls_self pr (uS a ha))
      have := nodup_le us (rgI (ms.length : Int)) nd fun u hu => mem_rgI.mpr (bd u (uS u hu))
      rw [rgI_len] at this
      omega
    have y0 := my.nn
    walk_at "z"
    refine r_iteN (fun c => ?_) (fun c => ?_)
    · refine r_whGo ?_
      obtain ⟨k, e1, e2, e3, _⟩ := low_bit (x := y) (by omega)
      have kS : Sr (k : Int) := (my.bts k).mp e2
      obtain ⟨kM, kn⟩ := (eS _).mp kS
      have klow : ∀ z, Sr z → (k : Int) ≤ z := fun z hz => by
        have z0 := (bd z ((eS z).mp hz).1).1
        refine Int.not_lt.mp fun c => ?_
        have h1 := e3 z.toNat (by omega)
        have h2 := (my.bts z.toNat).mpr (by rw [show ((z.toNat : Nat) : Int) = z by omega]; exact hz)
        rw [h1] at h2
        exact Bool.false_ne_true h2
      have m1 : Msk (Builtin.bitAnd y (-y)) (fun i => i = (k : Int)) := by
        rw [e1]
        refine ⟨Int.natCast_nonneg _, fun i => ?_⟩
        rw [Int.toNat_natCast, Nat.testBit_two_pow, decide_eq_true_eq]
        omega
      have kb := bd _ kM
      walk_at "z"
      refine ⟨y, Sr, rfl, my, fun i h => by have := bd _ ((eS _).mp h).1; omega, fun p ns H2 s2 hp hp0 asc mem => ?_⟩
      have nb : ns.length ≤ 60 := asc_len (n := 60) asc fun v hv => by
        have := bd v ((eS v).mp ((mem v).mp hv).2).1
        omega
      walk_at "z"
      refine r_it (.inl (.inl hp)) fun d hd => lcR_tup (xs := ns.map V.int) (fun i H' => Same H2 H' ∧ ∃ es : List Int, H' d = some (.lst (es.map V.int)) ∧ es.length ≤ i ∧ ∀ z, z ∈ es ↔ z ∈ ns.take i ∧ Cls (Nb ps) S (k : Int) z) (by walk_at "zw") ⟨same_new hd, [], upd_same, Nat.le_refl 0, fun z => by simp⟩ (fun i H' _ ⟨s3, _⟩ => .inl (.inl (s3 _ _ hp))) ?_ ?_
      · rintro i v H3 hv ⟨s3, es, hes, les, emem⟩
        rw [List.getElem?_map] at hv
        obtain ⟨v, hv9, rfl⟩ := Option.map_eq_some_iff.mp hv
        have il := (List.getElem?_eq_some_iff.mp hv9).1
        obtain ⟨v0, vS⟩ := (mem v).mp (List.mem_of_getElem? hv9)
        have vM := ((eS v).mp vS).1
        have vb := bd v vM
        have m2 := m1.or (Msk.shl v0)
        walk_at "z"
        refine ⟨rfl, ?_⟩
        walk_at "z"
        refine r_i ⟨by omega, by omega, by decide⟩ ?_
        walk_at "z"
        refine ⟨l, x, _, ms, S, _, ps, rfl, s3 _ _ (s2 _ _ (s1 _ _ hl)), m60, mx, bd, m2, fun z hz => ?_, mk, fun yy Mm H4 s4 myy L => ?_⟩
        · rcases hz with h | h
          · exact h ▸ kM
          · exact h ▸ vM
        · have key : yy = x ↔ ¬ Cls (Nb ps) S (k : Int) v := by
            rw [myy.eq_iff mx]
            have mdl : Mdl (Nb ps) S Mm := (uns_mdl (fun z h => (bd z h).1) ⟨(k : Int), L.sub _ (.inl rfl)⟩ L.inn).mp L.uns
            constructor
            · rintro h ⟨N, n, ⟨w9, hw, nw⟩, nk, nv⟩
              have uN : UnsW S ps N := (uns_mdl (fun z h => (bd z h).1) n.some n.sub).mpr n
              have sub := L.least N (fun z hz => hz.elim (fun e => e ▸ nk) (fun e => e ▸ nv)) uN
              have w0 := (bd w9 hw).1
              have := (h w9.toNat).mpr (by rw [show ((w9.toNat : Nat) : Int) = w9 by omega]; exact hw)
              rw [show ((w9.toNat : Nat) : Int) = w9 by omega] at this
              exact nw (sub w9 this)
            · intro h i
              refine ⟨L.inn _, fun hi => Classical.byContradiction fun n => h ⟨Mm, mdl, ⟨i, hi, n⟩, L.sub _ (.inl rfl), L.sub _ (.inr rfl)⟩⟩
          walk_at "z"
          refine r_iteN (fun h => ?_) (fun h => ?_)
          · have hc : Cls (Nb ps) S (k : Int) v := Classical.byContradiction fun n => h (key.mpr n)
            walk_at "z"
            refine r_lce (s4 _ _ hes) (small_lt (by rw [List.length_map]; omega)) ⟨same_mut (s3.trans s4) hd, es ++ [v], by rw [List.map_append]; exact upd_same, by rw [List.length_append]; simp only [List.length_cons, List.length_nil]; omega, fun z => ?_⟩
            rw [take_next hv9, List.mem_append, List.mem_append, emem, List.mem_singleton]
            constructor
            · rintro (⟨h1, h2⟩ | rfl)
              · exact ⟨.inl h1, h2⟩
              · exact ⟨.inr rfl, hc⟩
            · rintro ⟨h1 | h1, h2⟩
              · exact .inl ⟨h1, h2⟩
              · exact .inr h1
          · refine ⟨s3.trans s4, es, s4 _ _ hes, by omega, fun z => ?_⟩
            rw [take_next hv9, List.mem_append, emem, List.mem_singleton]
            constructor
            · rintro ⟨h1, h2⟩
              exact ⟨.inl h1, h2⟩
            · rintro ⟨h1 | rfl, h2⟩
              · exact ⟨h1, h2⟩
              · exact absurd h2 (key.mp h)
      · rintro H3 ⟨s3, es, hes, les, emem⟩
        rw [List.length_map, List.take_length] at emem
        have s13 := s2.trans s3
        have hF3 := s13 _ _ hF
        have cin : ∀ z, Cls (Nb ps) S (k : Int) z → Sr z := fun z hz => (eS z).mpr ⟨cls_in pr hz, fun u hu h => kn u hu (cls_trans pr h (cls_symm pr hz))⟩
        have emem2 : ∀ z, z ∈ es ↔ Cls (Nb ps) S (k : Int) z := fun z => (emem z).trans ⟨And.right, fun h => ⟨(mem z).mpr ⟨(bd z (cls_in pr h)).1, cin z h⟩, h⟩⟩
        walk_at "z"
        refine ⟨d, es, rfl, .inl (.inl (.inl hes)), fun v hv => by have := bd v (cls_in pr ((emem2 v).mp hv)); omega, fun pm mpm => ?_⟩
        have mp : Msk pm (Cls (Nb ps) S (k : Int)) := mpm.congr fun i => emem2 i
        walk_at "z"
        refine r_appT hF3 (small_lt (by rw [List.length_map, pk.length]; omega)) ?_
        have hF4 : (upd H3 f (.lst (ks.map V.int ++ [.int pm]))) f = some (.lst (ks.map V.int ++ [.int pm])) := upd_same
        have s4 : Same H (upd H3 f (.lst (ks.map V.int ++ [.int pm]))) := same_mut (s1.trans s13) hf
        generalize upd H3 f (.lst (ks.map V.int ++ [.int pm])) = H4 at hF4 s4 ⊢
        walk_at "z"
        refine r_aug rfl ?_
        walk_at "z"
        refine r_ixL (.inl (.inl hF4)) (at_last (last_snoc _ _)) ?_
        walk_at "z"
        refine r_augI rfl ?_
        have mn := my.andB mp.bts.not
        have le := msk_leW mn my fun i h => h.1
        have ne : Builtin.bitAnd y (Builtin.bitNot pm) ≠ y := fun e => by
          have := ((mn.eq_iff my).mp e k).mpr kS
          exact this.2 (cls_self pr kM)
        have n0 := mn.nn
        refine ⟨_, by omega, _, _, _, ks ++ [pm], us ++ [(k : Int)], _, rfl, rfl, s4, by rw [List.map_append]; exact hF4, mn, fun v => ?_, pk.snoc mp, fun v hv => ?_, ?_, ?_, fun v hv z hz => ?_, fun v hv z hz => ?_⟩
        · show (Sr v ∧ ¬ Cls (Nb ps) S (k : Int) v) ↔ _
          rw [eS]
          constructor
          · rintro ⟨⟨h1, h2⟩, h3⟩
            refine ⟨h1, fun u hu => ?_⟩
            rcases List.mem_append.mp hu with h | h
            · exact h2 u h
            · rw [List.mem_singleton.mp h]
              exact h3
          · rintro ⟨h1, h2⟩
            exact ⟨⟨h1, fun u hu => h2 u (List.mem_append_left _ hu)⟩, h2 _ (List.mem_append_right _ (List.mem_singleton.mpr rfl))⟩
        · rcases List.mem_append.mp hv with h | h
          · exact uS v h
          · rw [List.mem_singleton.mp h]
            exact kM
        · refine List.pairwise_append.mpr ⟨dj, by simp, fun a ha b hb => ?_⟩
          rw [List.mem_singleton.mp hb]
          exact kn a ha
        · refine List.pairwise_append.mpr ⟨uas, by simp, fun a ha b hb => ?_⟩
          rw [List.mem_singleton.mp hb]
          exact ult a ha _ kS
        · rcases List.mem_append.mp hv with h | h
          · exact ule v h z hz
          · rw [List.mem_singleton.mp h] at hz ⊢
            exact klow z (cin z hz)
        · rcases List.mem_append.mp hv with h | h
          · exact ult v h z hz.1
          · rw [List.mem_singleton.mp h]
            have h1 := klow z hz.1
            have h2 : z ≠ (k : Int) := fun e => hz.2 (by rw [e]; exact cls_self pr kM)
            omega
    · subst c
      walk_at "z"
      refine q f ks us H1 s1 hf hF pk uS (fun v hv => Classical.byContradiction fun n => ?_) dj uas ule (by omega)
      have v0 := (bd v hv).1
      exact absurd rfl (my.ne0.mpr ⟨v.toNat, by
        rw [show ((v.toNat : Nat) : Int) = v by omega]
        exact (eS v).mpr ⟨hv, fun u hu h => n ⟨u, hu, h⟩⟩⟩)
end

set_option Elab.async false
set_option linter.all false
set_option maxRecDepth 100000
set_option maxHeartbeats 4000000
open PySem PySem.Spec PyProof.Rows L2

abbrev s_largest_inside : Stmt := topS 20
theorem sc_largest_inside : FnScope ["tables", "mask", "around", "opposite", "parts"] ["tables", "mask"] (defScope s_largest_inside) := ⟨rfl, rfl, rfl, by decide +kernel, rfl, by decide +kernel, by decide +kernel⟩

abbrev s_both_tables : Stmt := topS 19
theorem sc_both_tables : FnScope ["graph"] ["graph"] (defScope s_both_tables) := ⟨rfl, rfl, rfl, by decide +kernel, rfl, by decide +kernel, by decide +kernel⟩

/-- what lies right below a strong module -/
structure Kids (R : Int → Int → Prop) (V M : Int → Prop) (cs : List (Int → Prop)) : Prop where
  strg : ∀ c ∈ cs, Strg R V c
  sub : ∀ c ∈ cs, ∀ z, c z → M z
  prop : ∀ c ∈ cs, ∃ y, M y ∧ ¬ c y
  dj : cs.Pairwise (fun c d => ∀ z, c z → ¬ d z)
  below : ∀ S, Strg R V S → (∀ z, S z → M z) → (∃ y, M y ∧ ¬ S y) → ∃ c ∈ cs, ∀ z, S z → c z
theorem kids_cls {R : Int → Int → Prop} {V M : Int → Prop} {C : Int → Int → Prop} {us : List Int} (st : ∀ u, M u → Strg R V (C u)) (sub : ∀ u z, M u → C u z → M z) (pr : ∀ u ∈ us, ∃ y, M y ∧ ¬ C u y) (sy : ∀ u v, C u v → C v u) (tr : ∀ u v w, C u v → C v w → C u w)
    (uS : ∀ u ∈ us, M u) (cov : ∀ v, M v → ∃ u ∈ us, C u v) (dj : us.Pairwise (fun u v => ¬ C u v)) (below : ∀ S, Strg R V S → (∀ z, S z → M z) → (∃ y, M y ∧ ¬ S y) → ∃ u, M u ∧ ∀ z, S z → C u z) : Kids R V M (us.map C) := by
  refine ⟨fun c hc => ?_, fun c hc z hz => ?_, fun c hc => ?_, ?_, fun S s h1 h2 => ?_⟩
  · obtain ⟨u, hu, rfl⟩ := List.mem_map.mp hc
    exact st u (uS u hu)
  · obtain ⟨u, hu, rfl⟩ := List.mem_map.mp hc
    exact sub u z (uS u hu) hz
  · obtain ⟨u, hu, rfl⟩ := List.mem_map.mp hc
    exact pr u hu
  · refine List.pairwise_map.mpr (dj.imp fun {a b} h z ha hb => h (tr _ _ _ ha (sy _ _ hb)))
  · obtain ⟨u, hu, h⟩ := below S s h1 h2
    obtain ⟨a, ha, h3⟩ := cov u hu
    exact ⟨C a, List.mem_map.mpr ⟨a, ha, rfl⟩, fun z hz => tr _ _ _ h3 (h z hz)⟩
/-- two components and more -/
theorem kids_comp {R : Int → Int → Prop} {V M : Int → Prop} {us : List Int} (sy : ∀ a b, R a b → R b a) (m : Strg R V M) (uS : ∀ u ∈ us, M u) (cov : ∀ v, M v → ∃ u ∈ us, Con (Wn R M) u v) (dj : us.Pairwise (fun u v => ¬ Con (Wn R M) u v)) (two : 1 < us.length) : Kids R V M (us.map (Con (Wn R M))) := by
  refine kids_cls (fun u hu => comp_strg sy m hu) (fun u z hu hz => con_in hu hz) (fun u hu => ?_) (fun u v h => Con.symm (wn_symm sy) h) (fun u v w h k => h.trans k) uS cov dj fun S s h1 h2 => comp_below sy m s h1 h2
  refine Classical.byContradiction fun no => ?_
  have all : ∀ y, M y → Con (Wn R M) u y := fun y hy => Classical.byContradiction fun n => no ⟨y, hy, n⟩
  match us, two with
  | a :: b :: _, _ =>
    obtain ⟨h1, _⟩ := List.pairwise_cons.mp dj
    exact h1 b List.mem_cons_self ((Con.symm (wn_symm sy) (all a (uS a List.mem_cons_self))).trans (all b (uS b (List.mem_cons_of_mem _ List.mem_cons_self))))
theorem one_comp {R : Int → Int → Prop} {M : Int → Prop} {us : List Int} (sy : ∀ a b, R a b → R b a) (cov : ∀ v, M v → ∃ u ∈ us, Con (Wn R M) u v) (one : ¬ 1 < us.length) : ∀ a b, M a → M b → Con (Wn R M) a b := fun a b ha hb => by
  obtain ⟨u, hu, h1⟩ := cov a ha
  obtain ⟨v, hv, h2⟩ := cov b hb
  have e : u = v := by
    match us, one with
    | [], _ => cases hu
    | [x], _ => rw [List.mem_singleton.mp hu, List.mem_singleton.mp hv]
    | x :: y :: l, h => exact absurd (by simp) h
  subst e
  exact (Con.symm (wn_symm sy) h1).trans h2
theorem kids_prm {R R' : Int → Int → Prop} {V M : Int → Prop} {us : List Int} (p : Prm R R' M) (m : Strg R V M) (uS : ∀ u ∈ us, M u) (cov : ∀ v, M v → ∃ u ∈ us, Cls R M u v) (dj : us.Pairwise (fun u v => ¬ Cls R M u v)) : Kids R V M (us.map (Cls R M)) :=
  kids_cls (fun u hu => cls_strg p m hu) (fun u z hu hz => cls_in p hz) (fun u hu => cls_proper p (uS u hu)) (fun u v h => cls_symm p h) (fun u v w h k => cls_trans p h k) uS cov dj fun S s h1 h2 => cls_below p m s h1 h2
theorem kids_other {R R' : Int → Int → Prop} {V M : Int → Prop} {cs : List (Int → Prop)} (o : ∀ a b, V a → V b → a ≠ b → (R' a b ↔ ¬ R a b)) (k : Kids R' V M cs) : Kids R V M cs :=
  ⟨fun c hc => strg_other (other_symm o) (k.strg c hc), k.sub, k.prop, k.dj, fun S s h1 h2 => k.below S (strg_other o s) h1 h2⟩
theorem kids_one {R : Int → Int → Prop} {V M : Int → Prop} {x : Int} (h : ∀ z, M z → z = x) : Kids R V M [] := by
  refine ⟨fun c hc => (nomatch hc), fun c hc => (nomatch hc), fun c hc => (nomatch hc), .nil, fun S s h1 h2 => ?_⟩
  obtain ⟨y, hy, ny⟩ := h2
  obtain ⟨z, hz⟩ := s.mdl.some
  rw [h y hy] at ny
  rw [h z (h1 z hz)] at hz
  exact absurd hz ny
def opL (n : Nat) (ps : List (Int × Int)) : List (Int × Int) := (allP n).filter fun p => !decide (p ∈ ps)
theorem nb_op {n : Nat} {ps : List (Int × Int)} (g : GoodG n ps) : ∀ a b : Int, (0 ≤ a ∧ a < n) → (0 ≤ b ∧ b < n) → a ≠ b → (Nb (opL n ps) a b ↔ ¬ Nb ps a b) := fun a b ha hb ne => by
  have mem : ∀ p, p ∈ opL n ps ↔ (0 ≤ p.1 ∧ p.1 < p.2 ∧ p.2 < n) ∧ p ∉ ps := fun p => by
    unfold opL
    rw [List.mem_filter, mem_allP, Bool.not_eq_true', decide_eq_false_iff_not]
  unfold Nb
  rw [mem, mem]
  dsimp only
  constructor
  · rintro (⟨h1, h2⟩ | ⟨h1, h2⟩) (h | h)
    · exact h2 h
    · have := g.inn _ h
      dsimp only at this
      omega
    · have := g.inn _ h
      dsimp only at this
      omega
    · exact h2 h
  · intro h
    rcases Int.lt_or_gt_of_ne ne with c | c
    · exact .inl ⟨⟨ha.1, c, hb.2⟩, fun z => h (.inl z)⟩
    · exact .inr ⟨⟨hb.1, c, ha.2⟩, fun z => h (.inr z)⟩
section
variable {P : Program} {w : World} {K : PySem.W.Frag} {mg : Str → Option Value} {base : Heap}
def VN (n : Nat) (z : Int) : Prop := 0 ≤ z ∧ z < (n : Int)
theorem pd_split {α β : Type} {F : α → β → Prop} : ∀ {xs ys : List α} {ps qs : List β}, xs.length = ps.length → Paired F (xs ++ ys) (ps ++ qs) → Paired F xs ps ∧ Paired F ys qs
  | [], _, [], _, _, h => ⟨.nil, h⟩
  | [], _, _ :: _, _, l, _ => by simp at l
  | _ :: _, _, [], _, l, _ => by simp at l
  | x :: xs, ys, p :: ps, qs, l, h => by
    cases h with
    | cons a t =>
      obtain ⟨h1, h2⟩ := pd_split (by simpa using l) t
      exact ⟨.cons a h1, h2⟩
/-- both tables stand -/
def TabAt (H : Hp) (t : Addr) (n : Nat) (ps : List (Int × Int)) : Prop := ∃ (l1 l2 : Addr) (ms1 ms2 : List Int), H t = some (.tup [.ref l1, .ref l2]) ∧ H l1 = some (.lst (ms1.map V.int)) ∧ H l2 = some (.lst (ms2.map V.int)) ∧ ms1.length = n ∧ ms2.length = n ∧ (∀ i m, ms1[i]? = some m → Msk m (fun z => z ∈ adjL ps i)) ∧ (∀ i m, ms2[i]? = some m → Msk m (fun z => z ∈ adjL (opL n ps) i))
theorem TabAt.same {H H' : Hp} (s : Same H H') {t : Addr} {n : Nat} {ps : List (Int × Int)} (h : TabAt H t n ps) : TabAt H' t n ps := by
  obtain ⟨l1, l2, ms1, ms2, h1, h2, h3, h4⟩ := h
  exact ⟨l1, l2, ms1, ms2, s _ _ h1, s _ _ h2, s _ _ h3, h4⟩
def spTables : Sp := fun vs H Q _ => ∃ (g : V) (n : Nat) (ps : List (Int × Int)), vs = [g] ∧ GrAt H g (n : Int) ps ∧ GoodG n ps ∧ n ≤ 60 ∧ ∀ (t : Addr) (H' : Hp), Same H H' → TabAt H' t n ps → Q (.ref t) H'
theorem ok_tables (T : Blt mg) (D : DefAt K mg "_both_tables" s_both_tables ["graph"]) (D_neighbour_masks : DefAt K mg "neighbour_masks" s_neighbour_masks ["graph"]) (G_neighbour_masks : FnOk P w K mg base CX0 2 D_neighbour_masks.f D_neighbour_masks.fd ["graph"] spNMasks)
    (D_complement : DefAt K mg "complement" s_complement ["graph"]) (G_complement : FnOk P w K mg base CX0 1 D_complement.f D_complement.fd ["graph"] spCpl) :
    FnOk P w K mg base CX0 3 D.f D.fd ["graph"] spTables := by
  refine D.F.ok sc_both_tables (fun vs H Q E h => ?_) (fun cdv A outer s H vs Q E hr h => ?_)
  · obtain ⟨g, n, ps, rfl, _⟩ := h
    rfl
  · obtain ⟨g, n, ps, rfl, hg, gd, n60, q⟩ := h
    have g1 := gd.one
    have go : GoodG (n : Int) (opL n ps) := good_filter (by omega) _
    refine ⟨_, (pss_one (ps_ret (pe_tup (pa_cons (pe_call G_neighbour_masks (hr.mono (by first | decide | omega)) (by rfl) D_neighbour_masks.g D_neighbour_masks.F.kp D_neighbour_masks.b .nil pass0 (pa_cons (pv 0) pa_nil)) (pa_cons (pe_call G_neighbour_masks (hr.mono (by first | decide | omega)) (by rfl) D_neighbour_masks.g D_neighbour_masks.F.kp D_neighbour_masks.b .nil pass0 (pa_cons (pe_call G_complement (hr.mono (by first | decide | omega)) (by rfl) D_complement.g D_complement.F.kp D_complement.b .nil pass0 (pa_cons (pv 0) pa_nil)) pa_nil)) pa_nil))))), ?_⟩
    refine r_at (σ := [some _]) rfl ?_
    walk_at "z"
    refine ⟨g, n, ps, rfl, hg, by omega, gd.len (by omega), gd.inn, fun l1 ms1 H1 s1 hl1 lm1 mk1 => ?_⟩
    walk_at "z"
    refine ⟨g, n, ps, rfl, hg.tk (.of_same s1), by omega, gd.len (by omega), fun v H2 s2 hv => ?_⟩
    walk_at "z"
    refine ⟨v, n, opL n ps, rfl, hv, by omega, go.len (by omega), go.inn, fun l2 ms2 H3 s3 hl2 lm2 mk2 => ?_⟩
    walk_at "z"
    refine r_tupN sz2 fun t ht => ?_
    have s4 := same_new (o := .tup [.ref l1, .ref l2]) ht
    exact q t _ (((s1.trans s2).trans s3).trans s4) ⟨l1, l2, ms1, ms2, upd_same, s4 _ _ (s3 _ _ (s2 _ _ hl1)), s4 _ _ hl2, lm1, lm2, mk1, mk2⟩
/-- the word of a node, by the least vertices of its parts -/
def WdU (R : Int → Int → Prop) (us : List Int) (wd : PySem.Str) : Prop := us = [] ∨ (2 ≤ us.length ∧ ((wd = "union" ∧ ∀ a ∈ us, ∀ b ∈ us, a ≠ b → ¬ R a b) ∨ (wd = "join" ∧ ∀ a ∈ us, ∀ b ∈ us, a ≠ b → R a b) ∨ (wd = "prime" ∧ (∃ a ∈ us, ∃ b ∈ us, a ≠ b ∧ R a b) ∧ ∃ a ∈ us, ∃ b ∈ us, a ≠ b ∧ ¬ R a b)))
theorem edge_prm {R R' Q : Int → Int → Prop} {M : Int → Prop} {us : List Int} (p : Prm R R' M) (qs : ∀ a b, Q a b → Q b a) (mq : ∀ x, M x → Mdl Q M (Cls R M x)) (cq : ∀ a b, M a → M b → Con (Wn Q M) a b) (uS : ∀ u ∈ us, M u) (cov : ∀ v, M v → ∃ u ∈ us, Cls R M u v) (dj : us.Pairwise (fun u v => ¬ Cls R M u v)) : ∃ a ∈ us, ∃ b ∈ us, a ≠ b ∧ Q a b := by
  refine Classical.byContradiction fun no => ?_
  have diff : ∀ a ∈ us, ∀ b ∈ us, a ≠ b → ¬ Cls R M a b := fun a ha b hb ne => by
    obtain ⟨i, hi, rfl⟩ := List.mem_iff_getElem.mp ha
    obtain ⟨j, hj, rfl⟩ := List.mem_iff_getElem.mp hb
    have pw := List.pairwise_iff_getElem.mp dj
    rcases Nat.lt_trichotomy i j with c | c | c
    · exact pw i j hi hj c
    · exact absurd (by subst c; rfl) ne
    · exact fun h => pw j i hj hi c (cls_symm p h)
  obtain ⟨x, hx, _⟩ := p.two 0
  obtain ⟨a, ha, _⟩ := cov x hx
  obtain ⟨y, hy, ny⟩ := cls_proper p (uS a ha)
  refine ny (Con.closed (S := Cls R M a) (cls_self p (uS a ha)) (fun v w hv r => Classical.byContradiction fun nw => ?_) (cq a y (uS a ha) hy))
  obtain ⟨b, hb, hw⟩ := cov w r.2.1
  have ne : a ≠ b := fun e => nw (e ▸ hw)
  have nab := diff a ha b hb ne
  have qaw : Q a w := by
    rcases (mq a (uS a ha)).uni w r.2.1 nw with h | h
    · exact h a (cls_self p (uS a ha))
    · exact absurd r.2.2 (h v hv)
  have qba : Q b a := by
    rcases (mq b (uS b hb)).uni a (uS a ha) (fun h => nab (cls_symm p h)) with h | h
    · exact h b (cls_self p (uS b hb))
    · exact absurd (qs _ _ qaw) (h w hw)
  exact no ⟨a, ha, b, hb, ne, qs _ _ qba⟩
def spInside : Sp := fun vs H Q _ => ∃ (t : Addr) (x : Int) (n : Nat) (M : Int → Prop) (ps : List (Int × Int)), vs = [.ref t, .int x] ∧ TabAt H t n ps ∧ GoodG n ps ∧ n ≤ 60 ∧ Msk x M ∧ Strg (Nb ps) (VN n) M ∧
  ∀ (t2 f : Addr) (wd : PySem.Str) (ks : List Int) (cs : List (Int → Prop)) (H' : Hp), Same H H' → H' t2 = some (.tup [.str wd, .ref f]) → H' f = some (.lst (ks.map V.int)) → Paired (fun k c => Msk k c) ks cs → Kids (Nb ps) (VN n) M cs → cs.length ≤ 60 → (∀ us : List Int, Paired (fun (c : Int → Prop) (u : Int) => c u ∧ ∀ z, c z → u ≤ z) cs us → us.Pairwise (· < ·) ∧ WdU (Nb ps) us wd) → (cs = [] ↔ ∃ x, ∀ z, M z ↔ z = x) → Q (.ref t2) H'
theorem low_uniq {cs : List (Int → Prop)} {us vs : List Int} (h : Paired (fun (c : Int → Prop) (u : Int) => c u ∧ ∀ z, c z → u ≤ z) cs us) (k : Paired (fun (c : Int → Prop) (u : Int) => c u ∧ ∀ z, c z → u ≤ z) cs vs) : us = vs := by
  induction h generalizing vs with
  | nil => cases k; rfl
  | cons a t ih =>
    cases k with
    | cons b r =>
      rw [ih r]
      congr 1
      have := a.2 _ b.1
      have := b.2 _ a.1
      omega
theorem low_map {C : Int → Int → Prop} : ∀ {us : List Int}, (∀ u ∈ us, C u u) → (∀ u ∈ us, ∀ z, C u z → u ≤ z) → Paired (fun (c : Int → Prop) (u : Int) => c u ∧ ∀ z, c z → u ≤ z) (us.map C) us
  | [], _, _ => .nil
  | u :: us, h1, h2 => .cons ⟨h1 u List.mem_cons_self, h2 u List.mem_cons_self⟩ (low_map (fun v hv => h1 v (List.mem_cons_of_mem _ hv)) fun v hv => h2 v (List.mem_cons_of_mem _ hv))
theorem pd_mapR {α β γ : Type} {F : α → β → Prop} {G : α → γ → Prop} (f : γ → β) (h : ∀ a c, G a c → F a (f c)) : ∀ {xs : List α} {cs : List γ}, Paired G xs cs → Paired F xs (cs.map f)
  | _, _, .nil => .nil
  | _, _, .cons a t => .cons (h _ _ a) (pd_mapR f h t)
theorem ok_inside (T : Blt mg) {tkU tkJ tkP : Tok} (C_UNION : mg "UNION" = some (.str "union" tkU)) (C_JOIN : mg "JOIN" = some (.str "join" tkJ)) (C_PRIME : mg "PRIME" = some (.str "prime" tkP)) (D : DefAt K mg "_largest_inside" s_largest_inside ["tables", "mask"])
    (D_members_of : DefAt K mg "members_of" s_members_of ["mask"]) (G_members_of : FnOk P w K mg base CX0 1 D_members_of.f D_members_of.fd ["mask"] spMem)
    (D_parts_of : DefAt K mg "parts_of" s_parts_of ["around", "mask"]) (G_parts_of : FnOk P w K mg base CX0 4 D_parts_of.f D_parts_of.fd ["around", "mask"] spPartsOf)
    (D_prime_parts : DefAt K mg "_prime_parts" s_prime_parts ["around", "mask"]) (G_prime_parts : FnOk P w K mg base CX0 4 D_prime_parts.f D_prime_parts.fd ["around", "mask"] spPrime) :
    FnOk P w K mg base CX0 5 D.f D.fd ["tables", "mask"] spInside := by
  refine D.F.ok sc_largest_inside (fun vs H Q E h => ?_) (fun cdv A outer s H vs Q E hr h => ?_)
  · obtain ⟨t, x, n, M, ps, rfl, _⟩ := h
    rfl
  · obtain ⟨t, x, n, M, ps, rfl, hT, gd, n60, mx, st, q⟩ := h
    have bd : ∀ v, M v → 0 ≤ v ∧ v < (n : Int) := st.mdl.sub
    have oth := nb_op gd
    refine ⟨_, (pss_cons (ps_if (pt_cmpR op_eq (pe_callB (call_lenK (K := K) rfl) (by rfl) T.len (by decide +kernel) (pa_cons (pe_call G_members_of (hr.mono (by first | decide | omega)) (by rfl) D_members_of.g D_members_of.F.kp D_members_of.b .nil pass0 (pa_cons (pv 1) pa_nil)) pa_nil)) pe_int (nomark _))
        (pss_one (ps_ret (pe_tup (pa_cons (pe_glob rfl C_PRIME rel_str) (pa_cons (pe_lst pa_nil) pa_nil)))))
        pss_nil)
      (pss_cons (ps_asg (pv 0) (PG.tupK (K := K) rfl (pg_tup (n := 2) rfl (pgs_cons (pg_name (i := 2) sc_largest_inside.nd rfl (Or.inl rfl)) (pgs_cons (pg_name (i := 3) sc_largest_inside.nd rfl (Or.inl rfl)) pgs_nil)))))
      (pss_cons (ps_set (i := 4) sc_largest_inside.nd rfl (Or.inl rfl) (pe_call G_parts_of (hr.mono (by first | decide | omega)) (by rfl) D_parts_of.g D_parts_of.F.kp D_parts_of.b .nil pass0 (pa_cons (pv 2) (pa_cons (pv 1) pa_nil))))
      (pss_cons (ps_if (pt_cmpR op_gt (pe_callB (call_lenK (K := K) rfl) (by rfl) T.len (by decide +kernel) (pa_cons (pv 4) pa_nil)) pe_int (nomark _))
        (pss_one (ps_ret (pe_tup (pa_cons (pe_glob rfl C_UNION rel_str) (pa_cons (pv 4) pa_nil)))))
        pss_nil)
      (pss_cons (ps_set (i := 4) sc_largest_inside.nd rfl (Or.inl rfl) (pe_call G_parts_of (hr.mono (by first | decide | omega)) (by rfl) D_parts_of.g D_parts_of.F.kp D_parts_of.b .nil pass0 (pa_cons (pv 3) (pa_cons (pv 1) pa_nil))))
      (pss_cons (ps_if (pt_cmpR op_gt (pe_callB (call_lenK (K := K) rfl) (by rfl) T.len (by decide +kernel) (pa_cons (pv 4) pa_nil)) pe_int (nomark _))
        (pss_one (ps_ret (pe_tup (pa_cons (pe_glob rfl C_JOIN rel_str) (pa_cons (pv 4) pa_nil)))))
        pss_nil)
      (pss_one (ps_ret (pe_tup (pa_cons (pe_glob rfl C_PRIME rel_str) (pa_cons (pe_call G_prime_parts (hr.mono (by first | decide | omega)) (by rfl) D_prime_parts.g D_prime_parts.F.kp D_prime_parts.b .nil pass0 (pa_cons (pv 2) (pa_cons (pv 1) pa_nil))) pa_nil))))))))))), ?_⟩
    refine r_at (σ := [some _, some _, none, none, none]) rfl ?_
    walk_at "z"
    refine ⟨x, M, rfl, mx, fun i h => by have := bd _ h; omega, fun p ns H1 s1 hp hp0 asc mem => ?_⟩
    have mem' : ∀ z, z ∈ ns ↔ M z := fun z => (mem z).trans ⟨And.right, fun h => ⟨(bd z h).1, h⟩⟩
    have hT1 := hT.same s1
    obtain ⟨l1, l2, ms1, ms2, ht, hl1, hl2, lm1, lm2, mk1, mk2⟩ := hT1
    walk_at "z"
    rw [List.length_map]
    refine r_ite (fun c => ?_) (fun c => ?_)
    · walk_at "z"
      refine r_lstN (by decide) fun f hf => ?_
      walk_at "z"
      refine r_tupN sz2 fun t2 ht2 => ?_
      obtain ⟨z0, hz0⟩ : ∃ z0, ns = [z0] := List.length_eq_one_iff.mp (by omega)
      refine q t2 f _ [] [] _ (s1.trans ((same_new hf).trans (same_new ht2))) upd_same ((upd_ne (ne_of_none upd_same ht2)).trans upd_same) .nil (kids_one (x := z0) fun z hz => ?_) (Nat.zero_le _) (fun us hu => by cases hu; exact ⟨.nil, .inl rfl⟩) ⟨fun _ => ⟨z0, fun z => by rw [← mem', hz0, List.mem_singleton]⟩, fun _ => rfl⟩
      have := (mem' z).mpr hz
      rw [hz0] at this
      exact List.mem_singleton.mp this
    · have two : ∀ a, ∃ y, M y ∧ y ≠ a := fun a => by
        refine Classical.byContradiction fun no => ?_
        have all : ∀ y ∈ ns, y = a := fun y hy => Classical.byContradiction fun h => no ⟨y, (mem' y).mp hy, h⟩
        have nd : ns.Nodup := asc.imp fun {a b} h => by omega
        have l1 := nodup_le ns [a] nd fun y hy => List.mem_singleton.mpr (all y hy)
        obtain ⟨z, hz⟩ := st.mdl.some
        have l2 := List.length_pos_of_mem ((mem' z).mpr hz)
        simp only [List.length_cons, List.length_nil] at l1
        omega
      walk_at "z"
      refine r_gtup (.inl (.inl ht)) rfl ?_
      walk_at "z"
      refine ⟨l1, x, ms1, M, ps, rfl, hl1, by omega, mx, fun v h => by have := bd v h; omega, mk1, fun f1 k1 u1 H2 s2 hf10 hf1 pk1 uS1 cov1 dj1 uas1 ule1 few1 => ?_⟩
      have notone : ¬ ∃ x, ∀ z, M z ↔ z = x := fun ⟨x9, h9⟩ => by
        obtain ⟨y, hy, ne⟩ := two x9
        exact ne ((h9 y).mp hy)
      walk_at "z"
      rw [List.length_map, pk1.length]
      refine r_ite (fun c1 => ?_) (fun c1 => ?_)
      · walk_at "z"
        refine r_tupN sz2 fun t2 ht2 => ?_
        exact q t2 f1 _ k1 _ _ ((s1.trans s2).trans (same_new ht2)) upd_same (same_new ht2 _ _ hf1) (pd_mapR (Con (Wn (Nb ps) M)) (fun _ _ h => h) pk1) (kids_comp nb_symm st uS1 cov1 dj1 (by omega)) (by rw [List.length_map]; exact few1) (fun us hu => by
          have e := low_uniq hu (low_map (fun u _ => .refl) ule1)
          subst e
          refine ⟨uas1, .inr ⟨by omega, .inl ⟨rfl, fun a ha b hb ne r => ?_⟩⟩⟩
          have sym : ∀ i j : Nat, ∀ (hi : i < us.length) (hj : j < us.length), i < j → ¬ Con (Wn (Nb ps) M) us[i] us[j] := List.pairwise_iff_getElem.mp dj1
          have cab : Con (Wn (Nb ps) M) a b := .step .refl ⟨uS1 a ha, uS1 b hb, r⟩
          obtain ⟨i, hi, rfl⟩ := List.mem_iff_getElem.mp ha
          obtain ⟨j, hj, rfl⟩ := List.mem_iff_getElem.mp hb
          rcases Nat.lt_trichotomy i j with c | c | c
          · exact sym i j hi hj c cab
          · exact ne (by subst c; rfl)
          · exact sym j i hj hi c (Con.symm (wn_symm nb_symm) cab)) ⟨fun h => by rw [List.map_eq_nil_iff] at h; rw [h] at c1; exact absurd c1 (by decide), fun h => absurd h notone⟩
      · have hl2b := s2 _ _ hl2
        have hl1b := s2 _ _ hl1
        walk_at "z"
        refine ⟨l2, x, ms2, M, opL n ps, rfl, hl2b, by omega, mx, fun v h => by have := bd v h; omega, mk2, fun f2 k2 u2 H3 s3 hf20 hf2 pk2 uS2 cov2 dj2 uas2 ule2 few2 => ?_⟩
        walk_at "z"
        rw [List.length_map, pk2.length]
        refine r_ite (fun c2 => ?_) (fun c2 => ?_)
        · walk_at "z"
          refine r_tupN sz2 fun t2 ht2 => ?_
          exact q t2 f2 _ k2 _ _ (((s1.trans s2).trans s3).trans (same_new ht2)) upd_same (same_new ht2 _ _ hf2) (pd_mapR (Con (Wn (Nb (opL n ps)) M)) (fun _ _ h => h) pk2) (kids_other oth (kids_comp nb_symm (strg_other oth st) uS2 cov2 dj2 (by omega))) (by rw [List.length_map]; exact few2) (fun us hu => by
            have e := low_uniq hu (low_map (fun u _ => .refl) ule2)
            subst e
            refine ⟨uas2, .inr ⟨by omega, .inr (.inl ⟨rfl, fun a ha b hb ne => ?_⟩)⟩⟩
            have sym : ∀ i j : Nat, ∀ (hi : i < us.length) (hj : j < us.length), i < j → ¬ Con (Wn (Nb (opL n ps)) M) us[i] us[j] := List.pairwise_iff_getElem.mp dj2
            refine Classical.byContradiction fun r => ?_
            have r' := (oth a b (bd a (uS2 a ha)) (bd b (uS2 b hb)) ne).mpr r
            have cab : Con (Wn (Nb (opL n ps)) M) a b := .step .refl ⟨uS2 a ha, uS2 b hb, r'⟩
            obtain ⟨i, hi, rfl⟩ := List.mem_iff_getElem.mp ha
            obtain ⟨j, hj, rfl⟩ := List.mem_iff_getElem.mp hb
            rcases Nat.lt_trichotomy i j with c | c | c
            · exact sym i j hi hj c cab
            · exact ne (by subst c; rfl)
            · exact sym j i hj hi c (Con.symm (wn_symm nb_symm) cab)) ⟨fun h => by rw [List.map_eq_nil_iff] at h; rw [h] at c2; exact absurd c2 (by decide), fun h => absurd h notone⟩
        · have pr : Prm (Nb ps) (Nb (opL n ps)) M := ⟨nb_symm, fun a b ha hb ne => oth a b (bd a ha) (bd b hb) ne, one_comp nb_symm cov1 (by omega), one_comp nb_symm cov2 (by omega), ⟨ns, fun z => (mem' z).symm⟩, two⟩
          walk_at "z"
          refine ⟨l1, x, ms1, M, ps, _, rfl, s3 _ _ hl1b, by omega, mx, fun v h => by have := bd v h; omega, pr, mk1, fun f3 k3 u3 H4 s4 hf30 hf3 pk3 uS3 cov3 dj3 uas3 ule3 few3 => ?_⟩
          walk_at "z"
          refine r_tupN sz2 fun t2 ht2 => ?_
          exact q t2 f3 _ k3 _ _ ((((s1.trans s2).trans s3).trans s4).trans (same_new ht2)) upd_same (same_new ht2 _ _ hf3) (pd_mapR (Cls (Nb ps) M) (fun _ _ h => h) pk3) (kids_prm pr st uS3 cov3 dj3) (by rw [List.length_map]; exact few3) (fun us hu => by
            have e := low_uniq hu (low_map (fun u h => cls_self pr (uS3 u h)) ule3)
            subst e
            obtain ⟨a, ha, b, hb, ne, r⟩ := edge_prm pr nb_symm (fun x hx => cls_mdl pr hx) pr.con uS3 cov3 dj3
            obtain ⟨a', ha', b', hb', ne', r'⟩ := edge_prm (Q := Nb (opL n ps)) pr nb_symm (fun x hx => mdl_other (fun a b ha hb ne => oth a b (bd a ha) (bd b hb) ne) (cls_mdl pr hx)) pr.con' uS3 cov3 dj3
            refine ⟨uas3, .inr ⟨?_, .inr (.inr ⟨rfl, ⟨a, ha, b, hb, ne, r⟩, a', ha', b', hb', ne', (oth a' b' (bd _ (uS3 _ ha')) (bd _ (uS3 _ hb')) ne').mp r'⟩)⟩⟩
            match us, ha, hb with
            | [], ha, _ => cases ha
            | [x], ha, hb => exact absurd ((List.mem_singleton.mp ha).trans (List.mem_singleton.mp hb).symm) ne
            | _ :: _ :: _, _, _ => simp) (Iff.intro (fun h => by
              rw [List.map_eq_nil_iff] at h
              obtain ⟨z9, hz9⟩ := st.mdl.some
              obtain ⟨u9, hu9, _⟩ := cov3 z9 hz9
              rw [h] at hu9
              exact absurd hu9 (List.not_mem_nil)) (fun h => absurd h notone))
/-! ## the strong modules -/
theorem itsH_k {H : Hp} : ∀ {zs : List V}, (∀ z ∈ zs, ∃ ns, ITup H z ns) → ITups H zs (zs.map (kI H))
  | [], _ => .nil
  | z :: zs, h => by
    obtain ⟨ns, t, rfl, ht⟩ := h z List.mem_cons_self
    exact .cons ⟨t, rfl, by rw [kI_at ht]; exact ht⟩ (itsH_k fun y hy => h y (List.mem_cons_of_mem _ hy))
theorem itsH_map {H : Hp} : ∀ {xs : List V} {ps : List (List Int)}, ITups H xs ps → xs.map (kI H) = ps
  | _, _, .nil => rfl
  | _, _, .cons ⟨t, e, h⟩ r => by
    subst e
    rw [List.map_cons, kI_at h, itsH_map r]
theorem pdH_mem {α β : Type} {F : α → β → Prop} : ∀ {xs : List α} {ps : List β}, Paired F xs ps → ∀ {x : α}, x ∈ xs → ∃ p ∈ ps, F x p
  | _, _, .nil, _, h => by cases h
  | _, _, .cons a t, x, h => by
    rcases List.mem_cons.mp h with rfl | h
    · exact ⟨_, List.mem_cons_self, a⟩
    · obtain ⟨p, m, f⟩ := pdH_mem t h
      exact ⟨p, List.mem_cons_of_mem _ m, f⟩
/-- sorted, of tuples that are all different -/
theorem r_sortH {H : Hp} {Q : VK} {a : Addr} {xs : List V} {os : List (List Int)} (h : H a = some (.lst xs)) (hx : ITups H xs os) (ne : ∀ o ∈ os, o ≠ []) (nd : os.Nodup)
    (q : ∀ (ys : List V) (rs : List (List Int)) (p : Addr), H p = none → ITups H ys rs → rs.Pairwise (fun x y => lexI x y = true) → (∀ o, o ∈ rs ↔ o ∈ os) → rs.length = os.length → Q (.ref p) (upd H p (.lst ys))) : rSortL K [.ref a] H Q := by
  refine ⟨a, xs, rfl, .inl (.inl h), fun x m => ?_, fun zs p pw pm hp => ?_⟩
  · obtain ⟨o, ho, t, e, ht⟩ := pdH_mem hx m
    exact ⟨t, o, e, ht, ne o ho⟩
  · have ez : ITups H zs (zs.map (kI H)) := itsH_k fun z hz => by
      obtain ⟨o, _, h⟩ := pdH_mem hx (pm.mem_iff.mp hz)
      exact ⟨o, h⟩
    have pmd : (zs.map (kI H)).Perm os := by
      rw [← itsH_map hx]
      exact pm.map _
    refine q zs _ p hp ez ?_ (fun o => pmd.mem_iff) pmd.length_eq
    refine (List.pairwise_and_iff.mpr ⟨(List.pairwise_map (f := kI H) (R := fun x y => lexI y x = false)).mpr pw, pmd.nodup_iff.mpr nd⟩).imp fun {x y} h => ?_
    cases c : lexI x y with
    | true => rfl
    | false => exact absurd (lexI_eq x y c h.1) h.2
def spStrong : Sp := fun vs H Q _ => ∃ (g : V) (n : Nat) (ps : List (Int × Int)), vs = [g] ∧ GrAt H g (n : Int) ps ∧ GoodG n ps ∧ n ≤ 10 ∧
  ∀ (l : Addr) (xs : List V) (rs : List (List Int)) (H' : Hp), H l = none → Same H H' → H' l = some (.lst xs) → ITups H' xs rs → rs.Pairwise (fun x y => lexI x y = true) → rs.length ≤ 1024 → (∀ o, o ∈ rs ↔ o.Pairwise (· < ·) ∧ Strg (Nb ps) (VN n) (fun z => z ∈ o)) → Q (.ref l) H'
theorem strg_all {R : Int → Int → Prop} {V : Int → Prop} (h : ∃ z, V z) : Strg R V V := ⟨⟨h, fun _ h => h, fun v hv hn => absurd hv hn⟩, fun T t => .inr (.inl t.sub)⟩
theorem strg_eqv {R : Int → Int → Prop} {V S T : Int → Prop} (e : ∀ z, S z ↔ T z) (s : Strg R V S) : Strg R V T := by
  have : S = T := funext fun z => propext (e z)
  exact this ▸ s
end

set_option Elab.async false
set_option linter.all false
set_option maxRecDepth 100000
set_option maxHeartbeats 4000000
open PySem PySem.Spec PyProof.Rows L2

abbrev s_law_strong : Stmt := topS 50
theorem sc_law_strong : FnScope ["graph", "found", "kept", "one", "good", "two", "common", "v"] ["graph"] (defScope s_law_strong) := ⟨rfl, rfl, rfl, by decide +kernel, rfl, by decide +kernel, by decide +kernel⟩

theorem subF_nodup : ∀ (ns : List Int) (f : List (List Int)), f.Nodup → ns.Nodup → (∀ o ∈ f, ∀ x ∈ ns, x ∉ o) → (subF f ns).Nodup
  | [], f, h, _, _ => h
  | x :: ns, f, h, hn, hx => by
    obtain ⟨n1, n2⟩ := List.nodup_cons.mp hn
    refine subF_nodup ns (f ++ f.map (· ++ [x])) ?_ n2 fun o ho y hy => ?_
    · refine List.nodup_append.mpr ⟨h, ?_, fun a ha b hb e => ?_⟩
      · exact List.pairwise_map.mpr (h.imp fun {a b} ne e => ne (List.append_cancel_right e))
      · obtain ⟨c, _, rfl⟩ := List.mem_map.mp hb
        exact hx a ha x List.mem_cons_self (e ▸ List.mem_append_right _ (List.mem_singleton.mpr rfl))
    · rcases List.mem_append.mp ho with c | c
      · exact hx o c y (List.mem_cons_of_mem _ hy)
      · obtain ⟨a, ha, rfl⟩ := List.mem_map.mp c
        intro hz
        rcases List.mem_append.mp hz with z | z
        · exact hx a ha y (List.mem_cons_of_mem _ hy) z
        · exact n1 (List.mem_singleton.mp z ▸ hy)
theorem subL_nodup {ns : List Int} (h : ns.Nodup) : (subL ns).Nodup := subF_nodup ns [[]] (by simp) h fun o ho x _ => by rw [List.mem_singleton.mp ho]; simp
/-- what the law asks of two modules -/
def CndS (one two : List Int) : Prop := (one.filter fun v => decide (v ∈ two)).length = 0 ∨ (one.filter fun v => decide (v ∈ two)).length = one.length ∨ (one.filter fun v => decide (v ∈ two)).length = two.length
theorem cndS_iff {one two : List Int} (h1 : one.Nodup) (h2 : two.Nodup) : CndS one two ↔ (∀ z ∈ one, z ∈ two) ∨ (∀ z ∈ two, z ∈ one) ∨ ∀ z ∈ one, z ∉ two := by
  unfold CndS
  have a : (one.filter fun v => decide (v ∈ two)).length = 0 ↔ ∀ z ∈ one, z ∉ two := by
    rw [List.length_eq_zero_iff, List.filter_eq_nil_iff]
    exact ⟨fun h z hz c => h z hz (decide_eq_true c), fun h z hz c => h z hz (of_decide_eq_true c)⟩
  have b : (one.filter fun v => decide (v ∈ two)).length = one.length ↔ ∀ z ∈ one, z ∈ two := by
    constructor
    · intro h z hz
      refine Classical.byContradiction fun c => ?_
      have : (one.filter fun v => decide (v ∈ two)).length < one.length := List.length_filter_lt_length_iff_exists.mpr ⟨z, hz, by simp [c]⟩
      omega
    · intro h
      rw [List.filter_eq_self.mpr fun z hz => decide_eq_true (h z hz)]
  have c : (one.filter fun v => decide (v ∈ two)).length = two.length ↔ ∀ z ∈ two, z ∈ one := by
    have nf : (one.filter fun v => decide (v ∈ two)).Nodup := h1.filter _
    constructor
    · intro h z hz
      refine Classical.byContradiction fun n => ?_
      have := nodup_le (z :: one.filter fun v => decide (v ∈ two)) two (List.nodup_cons.mpr ⟨fun k => n (List.mem_filter.mp k).1, nf⟩) fun y hy => by
        rcases List.mem_cons.mp hy with rfl | hy
        · exact hz
        · exact of_decide_eq_true (List.mem_filter.mp hy).2
      simp only [List.length_cons] at this
      omega
    · intro h
      have l1 := nodup_le (one.filter fun v => decide (v ∈ two)) two nf fun y hy => of_decide_eq_true (List.mem_filter.mp hy).2
      have l2 := nodup_le two (one.filter fun v => decide (v ∈ two)) h2 fun y hy => List.mem_filter.mpr ⟨h y hy, decide_eq_true hy⟩
      omega
  rw [a, b, c]
  constructor
  · rintro (h | h | h)
    · exact .inr (.inr h)
    · exact .inl h
    · exact .inr (.inl h)
  · rintro (h | h | h)
    · exact .inr (.inl h)
    · exact .inr (.inr h)
    · exact .inl h
/-- strong modules, as the law finds them -/
theorem strong_is {n : Nat} {ps : List (Int × Int)} {oss : List (List Int)} (g : GoodG n ps) (mem : ∀ o, o ∈ oss ↔ o.Sublist (rgI (n : Int)) ∧ o ≠ [] ∧ LMod n ps o) (o : List Int) : (o ∈ oss ∧ ∀ t ∈ oss, CndS o t) ↔ o.Pairwise (· < ·) ∧ Strg (Nb ps) (VN n) (fun z => z ∈ o) := by
  have asc : ∀ t ∈ oss, t.Pairwise (· < ·) := fun t ht => (rg_asc (n : Int).toNat).sublist ((mem t).mp ht).1
  have nd : ∀ t ∈ oss, t.Nodup := fun t ht => (asc t ht).imp fun {a b} h => by omega
  have mdl : ∀ t, t ∈ oss → Mdl (Nb ps) (VN n) (fun z => z ∈ t) := fun t ht => by
    obtain ⟨h1, h2, h3⟩ := (mem t).mp ht
    have ne : ∃ z, z ∈ t := by
      cases t with
      | nil => exact absurd rfl h2
      | cons z t => exact ⟨z, List.mem_cons_self⟩
    have sub : ∀ z, z ∈ t → VN n z := fun z hz => mem_rgI.mp (h1.subset hz)
    refine (uns_mdl (W := VN n) (fun v h => h.1) ne sub).mp fun i i0 s => ?_
    exact (lmod_uns g.inn).mp h3 i i0 ⟨⟨s.1.1.2, s.1.2⟩, s.2.1, s.2.2⟩
  have back : ∀ T : Int → Prop, Mdl (Nb ps) (VN n) T → ∀ t : List Int, t.Pairwise (· < ·) → (∀ z, z ∈ t ↔ T z) → t ∈ oss := fun T m t ta te => by
    have hT : (fun z => z ∈ t) = T := funext fun z => propext (te z)
    subst hT
    refine (mem t).mpr ⟨asc_sub ta (rg_asc (n : Int).toNat) fun z hz => mem_rgI.mpr (m.sub z hz), fun e => ?_, ?_⟩
    · obtain ⟨z, hz⟩ := m.some
      rw [e] at hz
      cases hz
    · refine (lmod_uns g.inn).mpr fun i i0 s => ?_
      exact (uns_mdl (W := VN n) (fun v h => h.1) m.some m.sub).mpr m i i0 ⟨⟨⟨i0, s.1.1⟩, s.1.2⟩, s.2.1, s.2.2⟩
  constructor
  · rintro ⟨h1, h2⟩
    refine ⟨asc o h1, mdl o h1, fun T m => ?_⟩
    classical
    have te : ∀ z, z ∈ (rgI (n : Int)).filter (fun z => decide (T z)) ↔ T z := fun z => by
      rw [List.mem_filter, decide_eq_true_eq]
      exact ⟨And.right, fun h => ⟨mem_rgI.mpr (m.sub z h), h⟩⟩
    have tin := back T m _ ((rg_asc (n : Int).toNat).filter _) te
    rcases (cndS_iff (nd o h1) (nd _ tin)).mp (h2 _ tin) with h | h | h
    · exact .inl fun z hz => (te z).mp (h z hz)
    · exact .inr (.inl fun z hz => h z ((te z).mpr hz))
    · exact .inr (.inr fun z hz hT => h z hz ((te z).mpr hT))
  · rintro ⟨h1, st⟩
    have oin := back _ st.mdl o h1 fun z => Iff.rfl
    refine ⟨oin, fun t ht => (cndS_iff (nd o oin) (nd t ht)).mpr ?_⟩
    exact st.strg _ (mdl t ht)
section
variable {P : Program} {w : World} {K : PySem.W.Frag} {mg : Str → Option Value} {base : Heap}
theorem ok_lstrong (T : Blt mg) (D : DefAt K mg "_law_strong" s_law_strong ["graph"]) (D_law_modules : DefAt K mg "_law_modules" s_law_modules ["graph"]) (G_law_modules : FnOk P w K mg base CX0 5 D_law_modules.f D_law_modules.fd ["graph"] spLMods) :
    FnOk P w K mg base CX0 6 D.f D.fd ["graph"] spStrong := by
  refine D.F.ok sc_law_strong (fun vs H Q E h => ?_) (fun cdv A outer s H vs Q E hr h => ?_)
  · obtain ⟨g, n, ps, rfl, _⟩ := h
    rfl
  · obtain ⟨g, n, ps, rfl, hg, gd, n10, q⟩ := h
    refine ⟨_, (pss_cons (ps_set (i := 1) sc_law_strong.nd rfl (Or.inl rfl) (pe_call G_law_modules (hr.mono (by first | decide | omega)) (by rfl) D_law_modules.g D_law_modules.F.kp D_law_modules.b .nil pass0 (pa_cons (pv 0) pa_nil)))
      (pss_cons (ps_set (i := 2) sc_law_strong.nd rfl (Or.inl rfl) (pe_lst pa_nil))
      (pss_cons (ps_for PassesOwn.never (by rfl) (PI.listK (K := K) rfl (pi_list (pv 1))) (pg_name (i := 3) sc_law_strong.nd rfl (Or.inl rfl))
        (pss_cons (ps_set (i := 4) sc_law_strong.nd rfl (Or.inl rfl) pe_bl)
        (pss_cons (ps_for PassesOwn.never (by rfl) (PI.listK (K := K) rfl (pi_list (pv 1))) (pg_name (i := 5) sc_law_strong.nd rfl (Or.inr rfl))
          (pss_cons (ps_set (i := 6) sc_law_strong.nd rfl (Or.inl rfl) (pe_callB (call_lenK (K := K) rfl) (by rfl) T.len (by decide +kernel) (pa_cons (pe_lc (own := [("v", 7)]) (by rfl) sc_law_strong.nd (PI.tupK (K := K) rfl (pi_tup (pv 3))) (blkOk_by (own := [("v", 7)]) (N := ["graph", "found", "kept", "one", "good", "two", "common", "v"]) (sc := (defScope s_law_strong)) (by decide +kernel)) (fun _ _ _ _ _ => (pg_name (i := 7) sc_law_strong.nd rfl (Or.inl rfl))) (fun _ _ _ _ _ => (pts_one (pt_cmpR (op_inSeqK (K := K) rfl) (pv 7) (pv 5) (by rfl)))) (fun _ _ _ _ _ => (pv 7))) pa_nil)))
          (pss_one (ps_set (i := 4) sc_law_strong.nd rfl (Or.inl rfl) (pe_and (pv 4) (pe_one (pe_or (pe_cmpR op_eq (pv 6) pe_int (nomark _)) (pe_or (pe_cmpR op_eq (pv 6) (pe_callB (call_lenK (K := K) rfl) (by rfl) T.len (by decide +kernel) (pa_cons (pv 3) pa_nil)) (nomark _)) (pe_one (pe_cmpR op_eq (pv 6) (pe_callB (call_lenK (K := K) rfl) (by rfl) T.len (by decide +kernel) (pa_cons (pv 5) pa_nil)) (nomark _)))))))))))
        (pss_one (ps_if (pt_val (pv 4))
          (pss_one (ps_expr (PE.bmK (K := K) rfl (pe_bm PySem.F.plainAttrs_list PySem.F.slot_list_append PySem.F.type_list_append mt_append (pv 2) (pa_cons (pv 3) pa_nil)))))
          pss_nil)))))
      (pss_one (ps_ret (pe_callB (cr_sortLK (K := K) rfl) (by rfl) T.sorted (by decide +kernel) (pa_cons (pv 2) pa_nil))))))), ?_⟩
    refine r_at (σ := [some _, none, none, none, none, none, none, none]) rfl ?_
    walk_at "z"
    refine ⟨g, n, ps, rfl, hg, n10, fun f xs oss H1 hf0 s1 hf pxs lo sbl mem => ?_⟩
    have ndo : oss.Nodup := (subL_nodup (rgI_nodup _)).sublist sbl
    walk_at "z"
    refine r_lstN (by decide) fun kp hkp => ?_
    have s2 : Same H1 (upd H1 kp (.lst [])) := same_new hkp
    have kp0 : H kp = none := s1.free hkp
    have hk2 : (upd H1 kp (.lst [])) kp = some (.lst []) := upd_same
    generalize upd H1 kp (.lst []) = H2 at s2 hk2 ⊢
    walk_at "z"
    refine r_il (.inl (.inl (s2 _ _ hf))) (forR_list (xs := xs) (fun i σ' H' => (∃ x3 x4 x5 x6, σ' = [some g, some (.ref f), some (.ref kp), x3, x4, x5, x6, none]) ∧ Same H1 H' ∧ ∃ ys os, H' kp = some (.lst ys) ∧ ITups H' ys os ∧ os.length ≤ i ∧ os.Sublist (oss.take i) ∧ ∀ o, o ∈ os ↔ o ∈ oss.take i ∧ ∀ t ∈ oss, CndS o t) ⟨⟨_, _, _, _, rfl⟩, s2, [], [], hk2, .nil, Nat.le_refl 0, List.nil_sublist _, fun o => by simp⟩ (fun i σ' H' _ ⟨_, s3, _⟩ => .inl (.inl (s3 _ _ hf))) ?_ ?_)
    · rintro i x σ' H3 hx ⟨⟨x3, x4, x5, x6, rfl⟩, s3, ys, os, hys, pys, los, sbo, memo⟩
      obtain ⟨one, ho, to, rfl, hto⟩ := pd_get (ITups.tk (.of_same s3) pxs) hx
      have il := (List.getElem?_eq_some_iff.mp ho).1
      have ol : one.length ≤ 100 := by
        have h := (((mem one).mp (List.mem_of_getElem? ho)).1).length_le
        rw [rgI_len] at h
        omega
      walk_at "z"
      refine r_il (.inl (.inl (s3 _ _ hf))) (forR_list (xs := xs) (fun j σ' H' => (∃ (b : Bool) (x5 x6 : Option V), σ' = [some g, some (.ref f), some (.ref kp), some (.ref to), some (.bl b), x5, x6, none] ∧ (b = true ↔ ∀ t ∈ oss.take j, CndS one t)) ∧ Same H3 H') ⟨⟨true, _, _, rfl, ⟨fun _ t ht => (by simp at ht), fun _ => rfl⟩⟩, fun _ _ z => z⟩ (fun j σ' H' _ ⟨_, s4⟩ => .inl (.inl (s4 _ _ (s3 _ _ hf)))) ?_ ?_)
      · rintro j x σ' H4 hx2 ⟨⟨b, x5, x6, rfl, hb⟩, s4⟩
        obtain ⟨two, ht2, tt, rfl, htt⟩ := pd_get (ITups.tk (.of_same (s3.trans s4)) pxs) hx2
        have jl := (List.getElem?_eq_some_iff.mp ht2).1
        have hto4 := s4 _ _ hto
        walk_at "z"
        refine r_it (.inl (.inl hto4)) fun d hd => lcR_tup (xs := one.map V.int) (fun i H' => Same H4 H' ∧ H' d = some (.lst (((one.take i).filter fun v => decide (v ∈ two)).map V.int))) (by walk_at "zw") ⟨same_new hd, upd_same⟩ (fun i H' _ ⟨s5, _⟩ => .inl (.inl (s5 _ _ hto4))) ?_ ?_
        · rintro k y H5 hy ⟨s5, hd5⟩
          rw [List.getElem?_map] at hy
          obtain ⟨v, hv, rfl⟩ := Option.map_eq_some_iff.mp hy
          have kl := (List.getElem?_eq_some_iff.mp hv).1
          walk_at "z"
          refine ⟨rfl, ?_⟩
          walk_at "z"
          refine r_inI (ns := two) (.inr (.inl (.inl (s5 _ _ htt)))) ?_
          walk_at "z"
          refine r_ite (fun h => ?_) (fun h => ?_)
          · walk_at "z"
            refine r_lce hd5 (small_lt (by
              have := List.length_filter_le (fun v => decide (v ∈ two)) (one.take k)
              rw [List.length_take] at this
              rw [List.length_map]
              omega)) ⟨same_mut s5 hd, ?_⟩
            rw [take_next hv, List.filter_append, List.filter_cons, if_pos (decide_eq_true h), List.filter_nil, List.map_append]
            exact upd_same
          · refine ⟨s5, ?_⟩
            rw [take_next hv, List.filter_append, List.filter_cons, if_neg (by simp [h]), List.filter_nil, List.append_nil]
            exact hd5
        · rintro H5 ⟨s5, hd5⟩
          rw [List.length_map, List.take_length] at hd5
          have hto5 := s5 _ _ hto4
          have htt5 := s5 _ _ htt
          have fin : ∀ (b' : Bool), (b' = true ↔ b = true ∧ CndS one two) → (b' = true ↔ ∀ t ∈ oss.take (j + 1), CndS one t) := fun b' h => by
            rw [h, hb, take_next ht2]
            constructor
            · rintro ⟨h1, h2⟩ t ht
              rcases List.mem_append.mp ht with c | c
              · exact h1 t c
              · rw [List.mem_singleton.mp c]
                exact h2
            · intro h
              exact ⟨fun t ht => h t (List.mem_append_left _ ht), h two (List.mem_append_right _ (List.mem_singleton.mpr rfl))⟩
          walk_at "z"
          rw [List.length_map]
          cases b with
          | false =>
            refine iteF ?_
            walk_at "z"
            exact ⟨⟨false, _, _, rfl, fin false ⟨fun h => (nomatch h), fun h => h.1⟩⟩, s4.trans s5⟩
          | true =>
            refine iteT ?_
            walk_at "z"
            refine r_ite (fun c1 => ?_) (fun c1 => ?_)
            · walk_at "z"
              exact ⟨⟨true, _, _, rfl, fin true ⟨fun _ => ⟨rfl, .inl (by omega)⟩, fun _ => rfl⟩⟩, s4.trans s5⟩
            · walk_at "z"
              rw [List.length_map]
              refine r_ite (fun c2 => ?_) (fun c2 => ?_)
              · walk_at "z"
                exact ⟨⟨true, _, _, rfl, fin true ⟨fun _ => ⟨rfl, .inr (.inl (by omega))⟩, fun _ => rfl⟩⟩, s4.trans s5⟩
              · walk_at "z"
                rw [List.length_map]
                refine ⟨⟨_, _, _, rfl, fin _ ⟨fun h => ⟨rfl, .inr (.inr (by have := of_decide_eq_true h; omega))⟩, fun h => decide_eq_true ?_⟩⟩, s4.trans s5⟩
                rcases h.2 with h | h | h
                · exact absurd (by omega) c1
                · exact absurd (by omega) c2
                · omega
      · rintro σ' H4 ⟨⟨b, x5, x6, rfl, hb⟩, s4⟩
        rw [pxs.length, List.take_length] at hb
        have hys4 := s4 _ _ hys
        have pys4 := ITups.tk (.of_same s4) pys
        walk_at "z"
        cases b with
        | true =>
          refine iteT ?_
          walk_at "z"
          refine r_appT hys4 (small_lt (by rw [pys.length]; have := pxs.length; omega)) ?_
          have k5 : TK H4 (upd H4 kp (.lst (ys ++ [.ref to]))) := .lst hys4
          refine ⟨⟨_, _, _, _, rfl⟩, same_mut (s3.trans s4) hkp, _, os ++ [one], upd_same, (ITups.tk k5 pys4).snoc (ITup.tk k5 ⟨to, rfl, s4 _ _ hto⟩), by rw [List.length_append]; simp only [List.length_cons, List.length_nil]; omega, by rw [take_next ho]; exact sbo.append (List.Sublist.refl _), fun z => ?_⟩
          rw [take_next ho, List.mem_append, List.mem_append, memo, List.mem_singleton]
          constructor
          · rintro (⟨h1, h2⟩ | rfl)
            · exact ⟨.inl h1, h2⟩
            · exact ⟨.inr rfl, hb.mp rfl⟩
          · rintro ⟨h1 | h1, h2⟩
            · exact .inl ⟨h1, h2⟩
            · exact .inr h1
        | false =>
          refine iteF ?_
          walk_at "z"
          refine ⟨⟨_, _, _, _, rfl⟩, s3.trans s4, ys, os, hys4, pys4, by omega, by rw [take_next ho]; exact sbo.trans (List.sublist_append_left _ _), fun z => ?_⟩
          rw [take_next ho, List.mem_append, memo, List.mem_singleton]
          constructor
          · rintro ⟨h1, h2⟩
            exact ⟨.inl h1, h2⟩
          · rintro ⟨h1 | rfl, h2⟩
            · exact ⟨h1, h2⟩
            · exact absurd (hb.mpr h2) Bool.false_ne_true
    · rintro σ' H3 ⟨⟨x3, x4, x5, x6, rfl⟩, s3, ys, os, hys, pys, los, sbo, memo⟩
      rw [pxs.length, List.take_length] at memo sbo
      have lx := pxs.length
      walk_at "z"
      have is := strong_is gd mem
      refine r_sortH hys pys (fun o ho => ((mem o).mp ((memo o).mp ho).1).2.1) (ndo.sublist sbo) fun zs rs p hp pzs asc rmem rlen => ?_
      exact q p zs rs _ ((s1.trans s3).free hp) ((s1.trans s3).trans (same_new hp)) upd_same (ITups.tk (.new hp) pzs) asc (by omega) fun o => (rmem o).trans ((memo o).trans (is o))
end

set_option Elab.async false
set_option linter.all false
set_option maxRecDepth 100000
set_option maxHeartbeats 4000000
open PySem PySem.Spec PyProof.Rows L2
/-! # the tree of the strong modules is one -/
abbrev LowF (c : Int → Prop) (u : Int) : Prop := c u ∧ ∀ z, c z → u ≤ z
def MT (R : Int → Int → Prop) (V : Int → Prop) : Nat → (Int → Prop) → PyData → Prop
  | 0, _, _ => False
  | k + 1, M, d => (∃ x, (∀ z, M z ↔ z = x) ∧ d = .int x) ∨ ∃ (cs : List (Int → Prop)) (us : List Int) (wd : PySem.Str) (ds : List PyData), cs ≠ [] ∧ (¬ ∃ x, ∀ z, M z ↔ z = x) ∧ Kids R V M cs ∧ Paired LowF cs us ∧ us.Pairwise (· < ·) ∧ WdU R us wd ∧ Paired (MT R V k) cs ds ∧ d = .tuple (.str wd :: ds)
theorem pw_same {cs : List (Int → Prop)} (dj : cs.Pairwise (fun c d => ∀ z, c z → ¬ d z)) {c d : Int → Prop} (hc : c ∈ cs) (hd : d ∈ cs) {z : Int} (h1 : c z) (h2 : d z) : c = d := by
  obtain ⟨i, hi, rfl⟩ := List.mem_iff_getElem.mp hc
  obtain ⟨j, hj, rfl⟩ := List.mem_iff_getElem.mp hd
  have pw := List.pairwise_iff_getElem.mp dj
  rcases Nat.lt_trichotomy i j with c | c | c
  · exact absurd h2 (pw i j hi hj c z h1)
  · subst c
    rfl
  · exact absurd h1 (pw j i hj hi c z h2)
theorem kids_same {R : Int → Int → Prop} {V M : Int → Prop} {cs cs' : List (Int → Prop)} (k : Kids R V M cs) (k' : Kids R V M cs') {c : Int → Prop} (hc : c ∈ cs) : c ∈ cs' := by
  obtain ⟨c', h1, s1⟩ := k'.below c (k.strg c hc) (k.sub c hc) (k.prop c hc)
  obtain ⟨c2, h2, s2⟩ := k.below c' (k'.strg c' h1) (k'.sub c' h1) (k'.prop c' h1)
  obtain ⟨z, hz⟩ := (k.strg c hc).mdl.some
  have e := pw_same k.dj hc h2 hz (s2 z (s1 z hz))
  have e2 : c = c' := funext fun z => propext ⟨s1 z, fun h => by rw [e]; exact s2 z h⟩
  rw [e2]
  exact h1
theorem low_memB {cs : List (Int → Prop)} {us : List Int} (h : Paired LowF cs us) {u : Int} (hu : u ∈ us) : ∃ c ∈ cs, LowF c u := by
  induction h with
  | nil => cases hu
  | cons a t ih =>
    rcases List.mem_cons.mp hu with rfl | hu
    · exact ⟨_, List.mem_cons_self, a⟩
    · obtain ⟨c, m, f⟩ := ih hu
      exact ⟨c, List.mem_cons_of_mem _ m, f⟩
theorem low_sub {cs cs' : List (Int → Prop)} {us us' : List Int} (h : Paired LowF cs us) (h' : Paired LowF cs' us') (s : ∀ c ∈ cs, c ∈ cs') : ∀ u ∈ us, u ∈ us' := fun u hu => by
  obtain ⟨c, hc, f⟩ := low_memB h hu
  obtain ⟨u', hu', f'⟩ := pdH_mem h' (s c hc)
  have e : u = u' := by
    have := f.2 _ f'.1
    have := f'.2 _ f.1
    omega
  exact e ▸ hu'
theorem low_eqC {CS : List (Int → Prop)} (dj : CS.Pairwise (fun c d => ∀ z, c z → ¬ d z)) : ∀ {us : List Int} {cs cs' : List (Int → Prop)}, Paired LowF cs us → Paired LowF cs' us → (∀ c ∈ cs, c ∈ CS) → (∀ c ∈ cs', c ∈ CS) → cs = cs'
  | [], _, _, .nil, .nil, _, _ => rfl
  | _ :: _, _, _, .cons a t, .cons a' t', h, h' => by
    rw [low_eqC dj t t' (fun c m => h c (List.mem_cons_of_mem _ m)) fun c m => h' c (List.mem_cons_of_mem _ m)]
    rw [pw_same dj (h _ List.mem_cons_self) (h' _ List.mem_cons_self) a.1 a'.1]
theorem two_of {us : List Int} (as : us.Pairwise (· < ·)) (h : 2 ≤ us.length) : ∃ a ∈ us, ∃ b ∈ us, a ≠ b := by
  match us, h, as with
  | a :: b :: l, _, as =>
    obtain ⟨h1, _⟩ := List.pairwise_cons.mp as
    exact ⟨a, List.mem_cons_self, b, List.mem_cons_of_mem _ List.mem_cons_self, by have := h1 b List.mem_cons_self; omega⟩
theorem wd_uniq {R : Int → Int → Prop} {us : List Int} {w1 w2 : PySem.Str} (as : us.Pairwise (· < ·)) (ne : us ≠ []) (h1 : WdU R us w1) (h2 : WdU R us w2) : w1 = w2 := by
  rcases h1 with h1 | ⟨l, h1⟩
  · exact absurd h1 ne
  rcases h2 with h2 | ⟨_, h2⟩
  · exact absurd h2 ne
  obtain ⟨a, ha, b, hb, nab⟩ := two_of as l
  rcases h1 with ⟨rfl, h1⟩ | ⟨rfl, h1⟩ | ⟨rfl, ⟨c, hc, d, hd, ncd, rcd⟩, e, he, f, hf, nef, ref⟩ <;> rcases h2 with ⟨rfl, h2⟩ | ⟨rfl, h2⟩ | ⟨rfl, ⟨c', hc', d', hd', ncd', rcd'⟩, e', he', f', hf', nef', ref'⟩
  · rfl
  · exact absurd (h2 a ha b hb nab) (h1 a ha b hb nab)
  · exact absurd rcd' (h1 c' hc' d' hd' ncd')
  · exact absurd (h1 a ha b hb nab) (h2 a ha b hb nab)
  · rfl
  · exact absurd (h1 e' he' f' hf' nef') ref'
  · exact absurd rcd (h2 c hc d hd ncd)
  · exact absurd (h2 e he f hf nef) ref
  · rfl
theorem pd_uniq {F G : (Int → Prop) → PyData → Prop} (h : ∀ c d d', F c d → G c d' → d = d') : ∀ {cs : List (Int → Prop)} {ds ds' : List PyData}, Paired F cs ds → Paired G cs ds' → ds = ds'
  | [], _, _, .nil, .nil => rfl
  | _ :: _, _, _, .cons a t, .cons a' t' => by rw [h _ _ _ a a', pd_uniq h t t']
theorem mt_uniq {R : Int → Int → Prop} {V : Int → Prop} : ∀ (k k' : Nat) {M : Int → Prop} {d d' : PyData}, MT R V k M d → MT R V k' M d' → d = d'
  | 0, _, _, _, _, h, _ => h.elim
  | _ + 1, 0, _, _, _, _, h => h.elim
  | k + 1, k' + 1, M, d, d', h, h' => by
    rcases h with ⟨x, h1, rfl⟩ | ⟨cs, us, wd, ds, ne, no, kd, lw, as, wu, pt, rfl⟩ <;> rcases h' with ⟨x', h1', rfl⟩ | ⟨cs', us', wd', ds', ne', no', kd', lw', as', wu', pt', rfl⟩
    · rw [(h1' x).mp ((h1 x).mpr rfl)]
    · exact absurd ⟨x, h1⟩ no'
    · exact absurd ⟨x', h1'⟩ no
    · have s1 : ∀ c ∈ cs, c ∈ cs' := fun c hc => kids_same kd kd' hc
      have s2 : ∀ c ∈ cs', c ∈ cs := fun c hc => kids_same kd' kd hc
      have eu : us = us' := asc_eqZ as as' fun u => ⟨low_sub lw lw' s1 u, low_sub lw' lw s2 u⟩
      subst eu
      have ec : cs = cs' := low_eqC kd.dj lw lw' (fun _ h => h) s2
      subst ec
      have nu : us ≠ [] := fun e => by
        subst e
        cases lw
        exact ne rfl
      rw [wd_uniq as nu wu wu', pd_uniq (F := MT R V k) (G := MT R V k') (fun c d d' h h' => mt_uniq k k' h h') pt pt']
theorem wd_cps {R : Int → Int → Prop} {us : List Int} {wd : PySem.Str} (ne : us ≠ []) (h : WdU R us wd) : wd.cps.all (· < 0x110000) = true := by
  rcases h with h | ⟨_, ⟨rfl, _⟩ | ⟨rfl, _⟩ | ⟨rfl, _⟩⟩
  · exact absurd h ne
  · decide +kernel
  · decide +kernel
  · decide +kernel
theorem pd_all {F : (Int → Prop) → PyData → Prop} {S : PyData → Prop} : ∀ {cs : List (Int → Prop)} {ds : List PyData}, (∀ c ∈ cs, ∀ d, F c d → S d) → Paired F cs ds → ∀ d ∈ ds, S d
  | [], _, _, .nil => fun d h => (nomatch h)
  | c :: cs, _, h, .cons a t => fun d hd => by
    rcases List.mem_cons.mp hd with rfl | hd
    · exact h c List.mem_cons_self _ a
    · exact pd_all (fun c m => h c (List.mem_cons_of_mem _ m)) t d hd
theorem mt_sm {R : Int → Int → Prop} {n : Nat} (n60 : n ≤ 60) : ∀ (k : Nat) {M : Int → Prop} {d : PyData}, (∀ z, M z → VN n z) → MT R (VN n) k M d → sm k d
  | 0, _, _, _, h => h.elim
  | k + 1, M, d, hM, h => by
    rcases h with ⟨x, _, rfl⟩ | ⟨cs, us, wd, ds, ne, no, kd, lw, as, wu, pt, rfl⟩
    · exact trivial
    · have nu : us ≠ [] := fun e => by
        subst e
        cases lw
        exact ne rfl
      have ul : us.length ≤ n := asc_len as fun u hu => by
        obtain ⟨c, hc, f⟩ := low_memB lw hu
        exact hM u (kd.sub c hc u f.1)
      have dl : ds.length = us.length := by rw [← pt.length, ← lw.length]
      refine ⟨by rw [List.length_cons]; omega, fun x hx => ?_⟩
      rcases List.mem_cons.mp hx with rfl | hx
      · cases k with
        | zero =>
          cases pt with
          | nil => exact absurd rfl ne
          | cons a t => exact a.elim
        | succ k => exact wd_cps nu wu
      · exact pd_all (fun c hc d hd => mt_sm n60 k (fun z hz => hM z (kd.sub c hc z hz)) hd) pt x hx
/-! ## trees on the heap -/
mutual
inductive TD (H : Hp) : V → PyData → Prop
  | leaf (z : Int) : TD H (.int z) (.int z)
  | node {a : Addr} {wd : PySem.Str} {xs : List V} {ds : List PyData} (h : H a = some (.tup (.str wd :: xs))) (t : TDs H xs ds) : TD H (.ref a) (.tuple (.str wd :: ds))
inductive TDs (H : Hp) : List V → List PyData → Prop
  | nil : TDs H [] []
  | cons {x : V} {xs : List V} {d : PyData} {ds : List PyData} (h : TD H x d) (r : TDs H xs ds) : TDs H (x :: xs) (d :: ds)
end
mutual
theorem TD.same {H H' : Hp} (s : Same H H') : ∀ {v : V} {d : PyData}, TD H v d → TD H' v d
  | _, _, .leaf z => .leaf z
  | _, _, .node h t => .node (s _ _ h) (TDs.same s t)
theorem TDs.same {H H' : Hp} (s : Same H H') : ∀ {v : List V} {d : List PyData}, TDs H v d → TDs H' v d
  | _, _, .nil => .nil
  | _, _, .cons h t => .cons (TD.same s h) (TDs.same s t)
end
mutual
theorem TD.tk {H H' : Hp} (s : TK H H') : ∀ {v : V} {d : PyData}, TD H v d → TD H' v d
  | _, _, .leaf z => .leaf z
  | _, _, .node h t => .node (s _ _ h) (TDs.tk s t)
theorem TDs.tk {H H' : Hp} (s : TK H H') : ∀ {v : List V} {d : List PyData}, TDs H v d → TDs H' v d
  | _, _, .nil => .nil
  | _, _, .cons h t => .cons (TD.tk s h) (TDs.tk s t)
end
mutual
theorem TD.dp {K : PySem.W.Frag} {H : Hp} : ∀ {v : V} {d : PyData}, TD H v d → Dp K H v d
  | _, _, .leaf z => .int z
  | _, _, .node h t => .tup (.inl (.inl h)) (.cons (.str _) (TDs.dp t))
theorem TDs.dp {K : PySem.W.Frag} {H : Hp} : ∀ {v : List V} {d : List PyData}, TDs H v d → DpAll K H v d
  | _, _, .nil => .nil
  | _, _, .cons h t => .cons (TD.dp h) (TDs.dp t)
end
theorem TDs.snoc {H : Hp} {y : V} {e : PyData} (h : TD H y e) : ∀ {xs : List V} {ds : List PyData}, TDs H xs ds → TDs H (xs ++ [y]) (ds ++ [e])
  | _, _, .nil => .cons h .nil
  | _, _, .cons a t => .cons a (TDs.snoc h t)
theorem TDs.length {H : Hp} : ∀ {xs : List V} {ds : List PyData}, TDs H xs ds → xs.length = ds.length
  | _, _, .nil => rfl
  | _, _, .cons _ t => by rw [List.length_cons, List.length_cons, TDs.length t]

set_option Elab.async false
set_option linter.all false
set_option maxRecDepth 100000
set_option maxHeartbeats 4000000
open PySem PySem.Spec PyProof.Rows L2
/-! # the parts of a strong module, as the law finds them -/
theorem cnt_all {one two : List Int} : (one.filter fun v => decide (v ∈ two)).length = one.length ↔ ∀ z ∈ one, z ∈ two := by
  constructor
  · intro h z hz
    refine Classical.byContradiction fun c => ?_
    have : (one.filter fun v => decide (v ∈ two)).length < one.length := List.length_filter_lt_length_iff_exists.mpr ⟨z, hz, by simp [c]⟩
    omega
  · intro h
    rw [List.filter_eq_self.mpr fun z hz => decide_eq_true (h z hz)]
def Inn (rs : List (List Int)) (ms o : List Int) : Prop := o ∈ rs ∧ o ≠ ms ∧ ∀ z ∈ o, z ∈ ms
def Prt (rs : List (List Int)) (ms o : List Int) : Prop := Inn rs ms o ∧ ∀ t, Inn rs ms t → t ≠ o → ¬ ∀ z ∈ o, z ∈ t
theorem strg_single {R : Int → Int → Prop} {V : Int → Prop} {x : Int} (h : V x) : Strg R V (fun z => z = x) := by
  refine ⟨⟨⟨x, rfl⟩, fun z hz => hz ▸ h, fun v hv hn => ?_⟩, fun T t => ?_⟩
  · by_cases c : R x v
    · exact .inl fun u hu => by rw [hu]; exact c
    · exact .inr fun u hu => by rw [hu]; exact c
  · by_cases c : T x
    · exact .inl fun z hz => by rw [hz]; exact c
    · exact .inr (.inr fun z hz => by rw [hz]; exact c)
section
variable {R : Int → Int → Prop} {V : Int → Prop} {rs : List (List Int)} {ms : List Int}
theorem prt_up (ams : ms.Pairwise (· < ·)) (mem : ∀ o, o ∈ rs ↔ o.Pairwise (· < ·) ∧ Strg R V (fun z => z ∈ o)) : ∀ (k : Nat) (o : List Int), ms.length ≤ o.length + k → Inn rs ms o → ∃ p, Prt rs ms p ∧ ∀ z ∈ o, z ∈ p
  | 0, o, l, h => by
    have ao := ((mem o).mp h.1).1
    have nd : o.Nodup := ao.imp fun {a b} h => by omega
    have e : o = ms := asc_eqZ ao ams fun z => ⟨h.2.2 z, fun hz => Classical.byContradiction fun nz => by
      have := nodup_le (z :: o) ms (List.nodup_cons.mpr ⟨nz, nd⟩) fun y hy => by
        rcases List.mem_cons.mp hy with rfl | hy
        · exact hz
        · exact h.2.2 y hy
      simp only [List.length_cons] at this
      omega⟩
    exact absurd e h.2.1
  | k + 1, o, l, h => by
    by_cases c : ∃ t, Inn rs ms t ∧ t ≠ o ∧ ∀ z ∈ o, z ∈ t
    · obtain ⟨t, ht, ne, st⟩ := c
      have ao := ((mem o).mp h.1).1
      have at' := ((mem t).mp ht.1).1
      have nd : o.Nodup := ao.imp fun {a b} h => by omega
      have lt : o.length < t.length := by
        refine Classical.byContradiction fun nl => ?_
        refine ne (asc_eqZ at' ao fun z => ⟨fun hz => Classical.byContradiction fun nz => ?_, st z⟩)
        have := nodup_le (z :: o) t (List.nodup_cons.mpr ⟨nz, nd⟩) fun y hy => by
          rcases List.mem_cons.mp hy with rfl | hy
          · exact hz
          · exact st y hy
        simp only [List.length_cons] at this
        omega
      obtain ⟨p, hp, sp⟩ := prt_up ams mem k t (by omega) ht
      exact ⟨p, hp, fun z hz => sp z (st z hz)⟩
    · exact ⟨o, ⟨h, fun t ht ne st => c ⟨t, ht, ne, st⟩⟩, fun z hz => hz⟩
theorem prt_dj (mem : ∀ o, o ∈ rs ↔ o.Pairwise (· < ·) ∧ Strg R V (fun z => z ∈ o)) {a b : List Int} (ha : Prt rs ms a) (hb : Prt rs ms b) (ne : a ≠ b) (z : Int) (h1 : z ∈ a) : z ∉ b := fun h2 => by
  rcases ((mem a).mp ha.1.1).2.strg _ ((mem b).mp hb.1.1).2.mdl with h | h | h
  · exact ha.2 b hb.1 (Ne.symm ne) h
  · exact hb.2 a ha.1 ne h
  · exact h z h1 h2
theorem prt_kids {prs : List (List Int)} (ams : ms.Pairwise (· < ·)) (mem : ∀ o, o ∈ rs ↔ o.Pairwise (· < ·) ∧ Strg R V (fun z => z ∈ o)) (pm : ∀ o, o ∈ prs ↔ Prt rs ms o) (nd : prs.Nodup) : Kids R V (fun z => z ∈ ms) (prs.map fun o z => z ∈ o) := by
  refine ⟨fun c hc => ?_, fun c hc z hz => ?_, fun c hc => ?_, ?_, fun S s h1 h2 => ?_⟩
  · obtain ⟨o, ho, rfl⟩ := List.mem_map.mp hc
    exact ((mem o).mp ((pm o).mp ho).1.1).2
  · obtain ⟨o, ho, rfl⟩ := List.mem_map.mp hc
    exact ((pm o).mp ho).1.2.2 z hz
  · obtain ⟨o, ho, rfl⟩ := List.mem_map.mp hc
    obtain ⟨⟨h1, h2, h3⟩, _⟩ := (pm o).mp ho
    refine Classical.byContradiction fun no => h2 (asc_eqZ ((mem o).mp h1).1 ams fun z => ⟨h3 z, fun hz => Classical.byContradiction fun n => no ⟨z, hz, n⟩⟩)
  · refine List.pairwise_map.mpr ?_
    refine List.Pairwise.imp_of_mem ?_ nd
    intro a b ha hb ne z h1 h2
    exact prt_dj mem ((pm a).mp ha) ((pm b).mp hb) ne z h1 h2
  · classical
    have te : ∀ z, z ∈ ms.filter (fun z => decide (S z)) ↔ S z := fun z => by
      rw [List.mem_filter, decide_eq_true_eq]
      exact ⟨And.right, fun h => ⟨h1 z h, h⟩⟩
    have as : (ms.filter fun z => decide (S z)).Pairwise (· < ·) := ams.filter _
    have hS : (fun z => z ∈ ms.filter fun z => decide (S z)) = S := funext fun z => propext (te z)
    have inn : Inn rs ms (ms.filter fun z => decide (S z)) := by
      refine ⟨(mem _).mpr ⟨as, by rw [hS]; exact s⟩, fun e => ?_, fun z hz => h1 z ((te z).mp hz)⟩
      obtain ⟨y, hy, ny⟩ := h2
      rw [← e] at hy
      exact ny ((te y).mp hy)
    obtain ⟨p, hp, sp⟩ := prt_up ams mem ms.length _ (by omega) inn
    exact ⟨_, List.mem_map.mpr ⟨p, (pm p).mpr hp, rfl⟩, fun z hz => sp z ((te z).mpr hz)⟩
theorem head_low {o : List Int} (a : o.Pairwise (· < ·)) (ne : o ≠ []) : o.headD 0 ∈ o ∧ ∀ z ∈ o, o.headD 0 ≤ z := by
  cases o with
  | nil => exact absurd rfl ne
  | cons u o =>
    obtain ⟨h1, _⟩ := List.pairwise_cons.mp a
    refine ⟨List.mem_cons_self, fun z hz => ?_⟩
    show u ≤ z
    rcases List.mem_cons.mp hz with rfl | hz
    · exact Int.le_refl _
    · have := h1 z hz
      omega
theorem lows_of : ∀ {prs : List (List Int)}, (∀ o ∈ prs, o.Pairwise (· < ·) ∧ o ≠ []) → Paired LowF (prs.map fun o z => z ∈ o) (prs.map fun o => o.headD 0)
  | [], _ => .nil
  | o :: prs, h => .cons (head_low (h o List.mem_cons_self).1 (h o List.mem_cons_self).2) (lows_of fun p hp => h p (List.mem_cons_of_mem _ hp))
theorem lows_asc {prs : List (List Int)} (lx : prs.Pairwise (fun x y => lexI x y = true)) (ne : ∀ o ∈ prs, o.Pairwise (· < ·) ∧ o ≠ []) (dj : ∀ a ∈ prs, ∀ b ∈ prs, a ≠ b → ∀ z ∈ a, z ∉ b) : (prs.map fun o => o.headD 0).Pairwise (· < ·) := by
  refine List.pairwise_map.mpr (List.Pairwise.imp_of_mem ?_ lx)
  intro a b ha hb h
  have nab : a ≠ b := fun e => by
    rw [e, lexI_irr] at h
    cases h
  have na := (ne a ha).2
  have nb := (ne b hb).2
  have d := dj a ha b hb nab
  cases a with
  | nil => exact absurd rfl na
  | cons x a =>
    cases b with
    | nil => exact absurd rfl nb
    | cons y b =>
      show x < y
      have nxy : x ≠ y := fun e => d x List.mem_cons_self (e ▸ List.mem_cons_self)
      unfold lexI at h
      rw [if_neg nxy] at h
      exact of_decide_eq_true h
/-- two parts at least -/
theorem prt_two {prs : List (List Int)} (ams : ms.Pairwise (· < ·)) (hV : ∀ z ∈ ms, V z) (l2 : ms.length ≠ 1) (hne : ms ≠ []) (mem : ∀ o, o ∈ rs ↔ o.Pairwise (· < ·) ∧ Strg R V (fun z => z ∈ o)) (pm : ∀ o, o ∈ prs ↔ Prt rs ms o) : 2 ≤ prs.length := by
  have sg : ∀ x ∈ ms, ∃ p ∈ prs, x ∈ p := fun x hx => by
    have inn : Inn rs ms [x] := by
      refine ⟨(mem _).mpr ⟨List.pairwise_singleton _ _, ?_⟩, fun e => l2 (by rw [← e]; rfl), fun z hz => by rw [List.mem_singleton.mp hz]; exact hx⟩
      have e : (fun z => z ∈ [x]) = fun z => z = x := funext fun z => propext List.mem_singleton
      rw [e]
      exact strg_single (hV x hx)
    obtain ⟨p, hp, sp⟩ := prt_up ams mem ms.length _ (by omega) inn
    exact ⟨p, (pm p).mpr hp, sp x (List.mem_singleton.mpr rfl)⟩
  obtain ⟨x, hx⟩ := List.exists_mem_of_ne_nil ms hne
  obtain ⟨p, hp, xp⟩ := sg x hx
  obtain ⟨⟨h1, h2, h3⟩, _⟩ := (pm p).mp hp
  obtain ⟨y, hy, ny⟩ : ∃ y ∈ ms, y ∉ p := Classical.byContradiction fun no => h2 (asc_eqZ ((mem p).mp h1).1 ams fun z => ⟨h3 z, fun hz => Classical.byContradiction fun n => no ⟨z, hz, n⟩⟩)
  obtain ⟨p', hp', yp⟩ := sg y hy
  match prs, hp, hp' with
  | [], hp, _ => cases hp
  | [a], hp, hp' =>
    rw [List.mem_singleton.mp hp] at ny
    rw [List.mem_singleton.mp hp'] at yp
    exact absurd yp ny
  | _ :: _ :: _, _, _ => simp
end
theorem getD_lt {us : List Int} {i : Nat} (h : i < us.length) : us.getD i 0 = us[i] := by
  rw [List.getD_eq_getElem?_getD, List.getElem?_eq_getElem h]
  rfl
/-- the word by the list of the law -/
theorem wd_of {R : Int → Int → Prop} {us : List Int} {js : List Bool} (two : 2 ≤ us.length) (hj : ∀ b, b ∈ js ↔ ∃ a ∈ us, ∃ c ∈ us, a ≠ c ∧ (b = true ↔ R a c)) :
    (true ∉ js → WdU R us "union") ∧ (false ∉ js → WdU R us "join") ∧ (true ∈ js → false ∈ js → WdU R us "prime") := by
  refine ⟨fun h => .inr ⟨two, .inl ⟨rfl, fun a ha b hb ne r => h ((hj true).mpr ⟨a, ha, b, hb, ne, ⟨fun _ => r, fun _ => rfl⟩⟩)⟩⟩, fun h => .inr ⟨two, .inr (.inl ⟨rfl, fun a ha b hb ne => Classical.byContradiction fun r => h ((hj false).mpr ⟨a, ha, b, hb, ne, ⟨fun h => (nomatch h), fun k => absurd k r⟩⟩)⟩)⟩, fun h1 h2 => .inr ⟨two, .inr (.inr ⟨rfl, ?_, ?_⟩)⟩⟩
  · obtain ⟨a, ha, c, hc, ne, h⟩ := (hj true).mp h1
    exact ⟨a, ha, c, hc, ne, h.mp rfl⟩
  · obtain ⟨a, ha, c, hc, ne, h⟩ := (hj false).mp h2
    exact ⟨a, ha, c, hc, ne, fun r => (nomatch h.mpr r)⟩
theorem js_mem {n : Int} {ps : List (Int × Int)} (inn : ∀ p ∈ ps, 0 ≤ p.1 ∧ p.1 < p.2 ∧ p.2 < n) {us : List Int} (as : us.Pairwise (· < ·)) (b : Bool) :
    b ∈ ((allP us.length).map fun p => decide (nrm (us.getD p.1.toNat 0, us.getD p.2.toNat 0) ∈ ps)) ↔ ∃ a ∈ us, ∃ c ∈ us, a ≠ c ∧ (b = true ↔ Nb ps a c) := by
  have pw := List.pairwise_iff_getElem.mp as
  rw [List.mem_map]
  constructor
  · rintro ⟨⟨i, j⟩, h, rfl⟩
    obtain ⟨h0, h1, h2⟩ := mem_allP.mp h
    dsimp only at h0 h1 h2 ⊢
    have hi : i.toNat < us.length := by omega
    have hj : j.toNat < us.length := by omega
    rw [getD_lt hi, getD_lt hj]
    have lt := pw _ _ hi hj (by omega)
    have ne : us[i.toNat] ≠ us[j.toNat] := by omega
    exact ⟨_, List.getElem_mem hi, _, List.getElem_mem hj, ne, by rw [decide_eq_true_eq]; exact Nb.nrm inn ne⟩
  · have one : ∀ (i j : Nat) (hi : i < us.length) (hj : j < us.length), i < j → (b = true ↔ Nb ps us[i] us[j]) → ∃ a, a ∈ allP us.length ∧ decide (nrm (us.getD a.1.toNat 0, us.getD a.2.toNat 0) ∈ ps) = b := fun i j hi hj lt h => by
      have ne : us[i] ≠ us[j] := by
        have := pw _ _ hi hj lt
        omega
      refine ⟨((i : Int), (j : Int)), mem_allP.mpr ⟨by dsimp only; omega, by dsimp only; omega, by dsimp only; omega⟩, ?_⟩
      dsimp only
      rw [Int.toNat_natCast, Int.toNat_natCast, getD_lt hi, getD_lt hj, Bool.eq_iff_iff, decide_eq_true_eq, Nb.nrm inn ne]
      exact h.symm
    rintro ⟨a, ha, c, hc, ne, h⟩
    obtain ⟨i, hi, rfl⟩ := List.mem_iff_getElem.mp ha
    obtain ⟨j, hj, rfl⟩ := List.mem_iff_getElem.mp hc
    rcases Nat.lt_trichotomy i j with l | l | l
    · exact one i j hi hj l h
    · exact absurd (by subst l; rfl) ne
    · exact one j i hj hi l (h.trans ⟨nb_symm _ _, nb_symm _ _⟩)
/-- a node of the law is a node of the tree -/
theorem mt_law {n : Nat} {ps : List (Int × Int)} {rs prs : List (List Int)} {ms : List Int} {d : Nat} {wd : PySem.Str} {ds : List PyData} (ams : ms.Pairwise (· < ·)) (hV : ∀ z ∈ ms, VN n z) (l2 : ms.length ≠ 1) (hne : ms ≠ []) (mem : ∀ o, o ∈ rs ↔ o.Pairwise (· < ·) ∧ Strg (Nb ps) (VN n) (fun z => z ∈ o)) (pm : ∀ o, o ∈ prs ↔ Prt rs ms o) (lx : prs.Pairwise (fun x y => lexI x y = true))
    (wu : WdU (Nb ps) (prs.map fun o => o.headD 0) wd) (pt : Paired (MT (Nb ps) (VN n) d) (prs.map fun o z => z ∈ o) ds) : MT (Nb ps) (VN n) (d + 1) (fun z => z ∈ ms) (.tuple (.str wd :: ds)) := by
  have ok : ∀ o ∈ prs, o.Pairwise (· < ·) ∧ o ≠ [] := fun o ho => by
    obtain ⟨h1, h2⟩ := (mem o).mp ((pm o).mp ho).1.1
    refine ⟨h1, fun e => ?_⟩
    obtain ⟨z, hz⟩ := h2.mdl.some
    rw [e] at hz
    cases hz
  have nd : prs.Nodup := lx.imp fun {a b} h e => by
    rw [e, lexI_irr] at h
    cases h
  have two := prt_two ams hV l2 hne mem pm
  refine .inr ⟨_, _, wd, ds, fun e => ?_, fun ⟨x, hx⟩ => ?_, prt_kids ams mem pm nd, lows_of ok, lows_asc lx ok fun a ha b hb ne z hz => prt_dj mem ((pm a).mp ha) ((pm b).mp hb) ne z hz, wu, pt, rfl⟩
  · rw [List.map_eq_nil_iff] at e
    rw [e] at two
    exact absurd two (by decide)
  · refine l2 ?_
    rw [asc_eqZ ams (List.pairwise_singleton (· < ·) x) fun z => (hx z).trans List.mem_singleton.symm]
    rfl

set_option Elab.async false
set_option linter.all false
set_option maxRecDepth 100000
set_option maxHeartbeats 4000000
open PySem PySem.Spec PyProof.Rows L2

abbrev s_tree : Stmt := topS 18
theorem sc_tree : FnScope ["tables", "mask", "word", "parts", "part"] ["tables", "mask"] (defScope s_tree) := ⟨rfl, rfl, rfl, by decide +kernel, rfl, by decide +kernel, by decide +kernel⟩

abbrev s_module_tree : Stmt := topS 17
theorem sc_module_tree : FnScope ["graph"] ["graph"] (defScope s_module_tree) := ⟨rfl, rfl, rfl, by decide +kernel, rfl, by decide +kernel, by decide +kernel⟩

theorem low_one {c : Int → Prop} (h : ∃ z, c z) (b : ∀ z, c z → 0 ≤ z) : ∃ u, c u ∧ ∀ z, c z → u ≤ z := by
  obtain ⟨z, hz⟩ := h
  have : ∀ k : Nat, ∀ z : Int, z < (k : Int) → c z → ∃ u, c u ∧ ∀ z, c z → u ≤ z := fun k => by
    induction k with
    | zero => exact fun z h1 h2 => absurd (b z h2) (by omega)
    | succ k ih =>
      intro z h1 h2
      by_cases h3 : ∃ y, c y ∧ y < (k : Int)
      · obtain ⟨y, h4, h5⟩ := h3
        exact ih y h5 h4
      · refine ⟨z, h2, fun y hy => Classical.byContradiction fun n => h3 ⟨y, hy, by omega⟩⟩
  exact this (z.toNat + 1) z (by have := b z hz; omega) hz
theorem low_ex : ∀ {cs : List (Int → Prop)}, (∀ c ∈ cs, ∃ z, c z) → (∀ c ∈ cs, ∀ z, c z → 0 ≤ z) → ∃ us, Paired (fun (c : Int → Prop) (u : Int) => c u ∧ ∀ z, c z → u ≤ z) cs us
  | [], _, _ => ⟨[], .nil⟩
  | c :: cs, h, b => by
    obtain ⟨u, hu⟩ := low_one (h c List.mem_cons_self) (b c List.mem_cons_self)
    obtain ⟨us, hus⟩ := low_ex (fun c m => h c (List.mem_cons_of_mem _ m)) fun c m => b c (List.mem_cons_of_mem _ m)
    exact ⟨u :: us, .cons hu hus⟩
section
variable {P : Program} {w : World} {K : PySem.W.Frag} {mg : Str → Option Value} {base : Heap}
theorem pd_takeM {F : (Int → Prop) → PyData → Prop} {cs : List (Int → Prop)} {ds : List PyData} {i : Nat} {c : Int → Prop} {e : PyData} (h : Paired F (cs.take i) ds) (hc : cs[i]? = some c) (f : F c e) : Paired F (cs.take (i + 1)) (ds ++ [e]) := by
  rw [take_next hc]
  exact h.snoc f
/-- a proper part of an ascending list is shorter -/
theorem len_lt {ns ms : List Int} (h : ∀ z ∈ ns, z ∈ ms) (nd : ns.Nodup) {y : Int} (hy : y ∈ ms) (ny : y ∉ ns) : ns.length < ms.length := by
  have := nodup_le (y :: ns) ms (List.nodup_cons.mpr ⟨ny, nd⟩) fun z hz => by
    rcases List.mem_cons.mp hz with rfl | hz
    · exact hy
    · exact h z hz
  simp only [List.length_cons] at this
  omega
/-- no more than d members -/
def Upto (n : Nat) (M : Int → Prop) (d : Nat) : Prop := (((List.range n).map Int.ofNat).filter fun z => @decide (M z) (Classical.propDecidable _)).length ≤ d
theorem upto_mem {n : Nat} {M : Int → Prop} {z : Int} : z ∈ (((List.range n).map Int.ofNat).filter fun z => @decide (M z) (Classical.propDecidable _)) ↔ VN n z ∧ M z := by
  rw [List.mem_filter, List.mem_map, @decide_eq_true_iff _ (Classical.propDecidable _)]
  constructor
  · rintro ⟨⟨k, hk, rfl⟩, h⟩
    have := List.mem_range.mp hk
    exact ⟨⟨Int.natCast_nonneg k, by show ((k : Nat) : Int) < n; omega⟩, h⟩
  · rintro ⟨⟨h1, h2⟩, h⟩
    exact ⟨⟨z.toNat, List.mem_range.mpr (by omega), by show ((z.toNat : Nat) : Int) = z; omega⟩, h⟩
theorem upto_all (n : Nat) (M : Int → Prop) : Upto n M n := by
  unfold Upto
  refine Nat.le_trans (List.length_filter_le _ _) ?_
  rw [List.length_map, List.length_range]
  exact Nat.le_refl n
theorem upto_nodup (n : Nat) (M : Int → Prop) : (((List.range n).map Int.ofNat).filter fun z => @decide (M z) (Classical.propDecidable _)).Nodup := by
  exact (List.pairwise_map.mpr (List.nodup_range.imp fun {i j} h e => h (by have e2 : (i : Int) = (j : Int) := e; omega))).filter _
theorem upto_sub {n d : Nat} {M c : Int → Prop} (h : Upto n M (d + 1)) (sub : ∀ z, c z → M z) (mv : ∀ z, M z → VN n z) (pr : ∃ y, M y ∧ ¬ c y) : Upto n c d := by
  obtain ⟨y, hy, ny⟩ := pr
  have := len_lt (ns := ((List.range n).map Int.ofNat).filter fun z => @decide (c z) (Classical.propDecidable _)) (ms := ((List.range n).map Int.ofNat).filter fun z => @decide (M z) (Classical.propDecidable _)) (fun z hz => upto_mem.mpr ⟨(upto_mem.mp hz).1, sub z (upto_mem.mp hz).2⟩) (upto_nodup n c) (upto_mem.mpr ⟨mv y hy, hy⟩) (fun k => ny (upto_mem.mp k).2)
  unfold Upto at h ⊢
  omega
theorem upto_zero {n : Nat} {M : Int → Prop} (h : Upto n M 0) {z : Int} (hz : M z) (mv : ∀ z, M z → VN n z) : False := by
  have := List.length_pos_of_mem (upto_mem.mpr ⟨mv z hz, hz⟩)
  unfold Upto at h
  omega
def spTree (d : Nat) : Sp := fun vs H Q _ => ∃ (t : Addr) (x : Int) (n : Nat) (M : Int → Prop) (ps : List (Int × Int)), vs = [.ref t, .int x] ∧ TabAt H t n ps ∧ GoodG n ps ∧ n ≤ 60 ∧ Msk x M ∧ Strg (Nb ps) (VN n) M ∧ Upto n M d ∧
  ∀ (v : V) (D : PyData) (H' : Hp), Same H H' → TD H' v D → MT (Nb ps) (VN n) d M D → Q v H'
theorem r_stNL {t : TA} {σ : L2.St} {H : Hp} {Q : List V → Hp → Prop} {p : Addr} {xs : List V} (h : H p = some (.lst xs)) (q : t σ H fun ys H2 => Q (xs ++ ys) H2) : StN K t σ Q (.ref p) H := ⟨p, xs, rfl, .inr (.inl (.inl h)), q⟩
theorem ok_tree (T : Blt mg) (D_tree : DefAt K mg "_tree" s_tree ["tables", "mask"])
    (D_members_of : DefAt K mg "members_of" s_members_of ["mask"]) (G_members_of : FnOk P w K mg base CX0 1 D_members_of.f D_members_of.fd ["mask"] spMem)
    (D_largest_inside : DefAt K mg "_largest_inside" s_largest_inside ["tables", "mask"]) (G_largest_inside : FnOk P w K mg base CX0 5 D_largest_inside.f D_largest_inside.fd ["tables", "mask"] spInside) :
    ∀ d : Nat, FnOk P w K mg base CX0 (d + 5) D_tree.f D_tree.fd ["tables", "mask"] (spTree d)
  | 0 => fn_none.imp fun vs H Q E h => by
    obtain ⟨t, x, n, M, ps, _, _, _, _, _, st, u, _⟩ := h
    obtain ⟨z, hz⟩ := st.mdl.some
    exact upto_zero u hz st.mdl.sub
  | d + 1 => by
    have G_tree := ok_tree T D_tree D_members_of G_members_of D_largest_inside G_largest_inside d
    refine D_tree.F.ok sc_tree (fun vs H Q E h => ?_) (fun cdv A outer s H vs Q E hr h => ?_)
    · obtain ⟨t, x, n, M, ps, rfl, _⟩ := h
      rfl
    · obtain ⟨t, x, n, M, ps, rfl, hT, gd, n60, mx, st, up, q⟩ := h
      have bd : ∀ v, M v → 0 ≤ v ∧ v < (n : Int) := st.mdl.sub
      refine ⟨_, (pss_cons (ps_asg (pe_call G_largest_inside (hr.mono (by first | decide | omega)) (by rfl) D_largest_inside.g D_largest_inside.F.kp D_largest_inside.b .nil pass0 (pa_cons (pv 0) (pa_cons (pv 1) pa_nil))) (PG.tupK (K := K) rfl (pg_tup (n := 2) rfl (pgs_cons (pg_name (i := 2) sc_tree.nd rfl (Or.inl rfl)) (pgs_cons (pg_name (i := 3) sc_tree.nd rfl (Or.inl rfl)) pgs_nil)))))
      (pss_cons (ps_if (pt_not (pt_truthK (K := K) rfl (pv 3) (by intro _; rfl)))
        (pss_one (ps_ret (pe_ix (ix_tupK (K := K) rfl) (pe_call G_members_of (hr.mono (by first | decide | omega)) (by rfl) D_members_of.g D_members_of.F.kp D_members_of.b .nil pass0 (pa_cons (pv 1) pa_nil)) pe_int (fun _ _ => rfl))))
        pss_nil)
      (pss_one (ps_ret (pe_tup (pa_cons (pv 2) (pa_starK (K := K) rfl (pe_lc (own := [("part", 4)]) (by rfl) sc_tree.nd (PI.listK (K := K) rfl (pi_list (pv 3))) (blkOk_by (own := [("part", 4)]) (N := ["tables", "mask", "word", "parts", "part"]) (sc := (defScope s_tree)) (by decide +kernel)) (fun _ _ _ _ _ => (pg_name (i := 4) sc_tree.nd rfl (Or.inl rfl))) (fun _ _ _ _ _ => pts_nil) (fun _ _ _ _ _ => (pe_call G_tree (hr.mono (by first | decide | omega)) (by rfl) D_tree.g D_tree.F.kp D_tree.b .nil pass0 (pa_cons (pv 0) (pa_cons (pv 4) pa_nil))))) pa_nil))))))), ?_⟩
      refine r_at (σ := [some _, some _, none, none, none]) rfl ?_
      walk_at "z"
      refine ⟨t, x, n, M, ps, rfl, hT, gd, n60, mx, st, fun t2 f wd ks cs H1 s1 ht2 hf pks kd few lw one => ?_⟩
      walk_at "z"
      refine r_gtup (.inl (.inl ht2)) rfl ?_
      walk_at "z"
      refine r_truL hf ?_
      have lk := pks.length
      by_cases e1 : cs = []
      · have ek : ks = [] := List.length_eq_zero_iff.mp (by rw [lk, e1]; rfl)
        subst ek
        refine iteT ?_
        obtain ⟨x0, hx0⟩ := one.mp e1
        walk_at "z"
        refine ⟨x, M, rfl, mx, fun i h => by have := bd _ h; omega, fun p ns H2 s2 hp hp0 asc mem => ?_⟩
        have mem' : ∀ z, z ∈ ns ↔ M z := fun z => (mem z).trans ⟨And.right, fun h => ⟨(bd z h).1, h⟩⟩
        have en : ns = [x0] := asc_eqZ asc (List.pairwise_singleton _ _) fun z => by rw [mem', hx0, List.mem_singleton]
        subst en
        walk_at "z"
        exact q (.int x0) (.int x0) _ (s1.trans s2) (.leaf x0) (.inl ⟨x0, hx0, rfl⟩)
      · have ek : ks ≠ [] := fun e => e1 (List.length_eq_zero_iff.mp (by rw [← lk, e]; rfl))
        have ee : (!(!(ks.map V.int).isEmpty)) = false := by
          cases ks with
          | nil => exact absurd rfl ek
          | cons _ _ => rfl
        rw [ee]
        refine iteF ?_
        walk_at "z"
        refine r_il (.inl (.inl hf)) fun dd hdd => lcR_list (xs := ks.map V.int) (fun i H' => Same H1 H' ∧ ∃ xs ds, H' dd = some (.lst xs) ∧ TDs H' xs ds ∧ ds.length = i ∧ Paired (MT (Nb ps) (VN n) d) (cs.take i) ds) (by walk_at "zw") ⟨same_new hdd, [], [], upd_same, .nil, rfl, .nil⟩ (fun i H' _ ⟨s2, _⟩ => .inl (.inl (s2 _ _ hf))) ?_ ?_
        · rintro i y H' hy ⟨s2, xs, ds, hxs, txs, ld, pt⟩
          rw [List.getElem?_map] at hy
          obtain ⟨k, hk, rfl⟩ := Option.map_eq_some_iff.mp hy
          obtain ⟨c, hc, mk⟩ := pd_get pks hk
          have hcm := List.mem_of_getElem? hc
          have il := (List.getElem?_eq_some_iff.mp hc).1
          walk_at "z"
          refine ⟨rfl, ?_⟩
          walk_at "z"
          refine ⟨t, k, n, c, ps, rfl, hT.same (s1.trans s2), gd, n60, mk, kd.strg c hcm, upto_sub up (kd.sub c hcm) bd (kd.prop c hcm), fun v D H3 s3 tv mt => ?_⟩
          have hxs3 := s3 _ _ hxs
          walk_at "z"
          refine r_lce hxs3 (small_lt (by rw [txs.length]; omega)) ⟨same_mut (s2.trans s3) hdd, xs ++ [v], ds ++ [D], upd_same, TDs.snoc (tv.tk (.lst hxs3)) ((txs.same s3).tk (.lst hxs3)), by rw [List.length_append, ld]; rfl, pd_takeM pt hc mt⟩
        · rintro H2 ⟨s2, xs, ds, hxs, txs, ld, pt⟩
          rw [List.length_map, lk, List.take_length] at pt
          rw [List.length_map] at ld
          walk_at "z"
          refine r_stNL hxs ?_
          walk_at "z"
          rw [List.append_nil]
          refine r_tupN (by rw [List.length_cons, txs.length, ld]; exact small_lt (by omega)) fun t0 ht0 => ?_
          have nu : ∃ us, Paired (fun (c : Int → Prop) (u : Int) => c u ∧ ∀ z, c z → u ≤ z) cs us := low_ex (fun c hc => (kd.strg c hc).mdl.some) (fun c hc z hz => (bd z (kd.sub c hc z hz)).1)
          obtain ⟨us, pus⟩ := nu
          obtain ⟨asu, wu⟩ := lw us pus
          exact q (.ref t0) _ _ ((s1.trans s2).trans (same_new ht0)) (.node upd_same (txs.same (same_new ht0))) (.inr ⟨cs, us, wd, ds, e1, fun h => e1 (one.mpr h), kd, pus, asu, wu, pt, rfl⟩)
def spMTree : Sp := fun vs H Q _ => ∃ (g : V) (n : Nat) (ps : List (Int × Int)), vs = [g] ∧ GrAt H g (n : Int) ps ∧ GoodG n ps ∧ n ≤ 12 ∧ ∀ (v : V) (D : PyData) (H' : Hp), Same H H' → TD H' v D → MT (Nb ps) (VN n) 12 (VN n) D → Q v H'
theorem ok_mtree (T : Blt mg) (D : DefAt K mg "module_tree" s_module_tree ["graph"])
    (D_both_tables : DefAt K mg "_both_tables" s_both_tables ["graph"]) (G_both_tables : FnOk P w K mg base CX0 3 D_both_tables.f D_both_tables.fd ["graph"] spTables)
    (D_full_mask : DefAt K mg "full_mask" s_full_mask ["n"]) (G_full_mask : FnOk P w K mg base CX0 1 D_full_mask.f D_full_mask.fd ["n"] spFull)
    (D_tree : DefAt K mg "_tree" s_tree ["tables", "mask"]) (G_tree : FnOk P w K mg base CX0 17 D_tree.f D_tree.fd ["tables", "mask"] (spTree 12)) :
    FnOk P w K mg base CX0 18 D.f D.fd ["graph"] spMTree := by
  refine D.F.ok sc_module_tree (fun vs H Q E h => ?_) (fun cdv A outer s H vs Q E hr h => ?_)
  · obtain ⟨g, n, ps, rfl, _⟩ := h
    rfl
  · obtain ⟨g, n, ps, rfl, hg, gd, n12, q⟩ := h
    have g1 := gd.one
    refine ⟨_, (pss_one (ps_ret (pe_call G_tree (hr.mono (by first | decide | omega)) (by rfl) D_tree.g D_tree.F.kp D_tree.b .nil pass0 (pa_cons (pe_call G_both_tables (hr.mono (by first | decide | omega)) (by rfl) D_both_tables.g D_both_tables.F.kp D_both_tables.b .nil pass0 (pa_cons (pv 0) pa_nil)) (pa_cons (pe_call G_full_mask (hr.mono (by first | decide | omega)) (by rfl) D_full_mask.g D_full_mask.F.kp D_full_mask.b .nil pass0 (pa_cons (pe_ix (ix_tupK (K := K) rfl) (pv 0) pe_int (fun _ _ => rfl)) pa_nil)) pa_nil))))), ?_⟩
    refine r_at (σ := [some _]) rfl ?_
    walk_at "z"
    refine ⟨g, n, ps, rfl, hg, gd, by omega, fun t H1 s1 hT => ?_⟩
    obtain ⟨ga, e, rfl, hga, he⟩ := hg.tk (.of_same s1)
    walk_at "z"
    refine ⟨_, rfl, by omega, by omega, ?_⟩
    have mf : Msk (1 * 2 ^ (n : Int).toNat - 1) (VN n) := (Msk.full (by omega)).congr fun i => ⟨fun h => ⟨by omega, h⟩, And.right⟩
    walk_at "z"
    exact ⟨t, _, n, VN n, ps, rfl, hT, gd, by omega, mf, strg_all ⟨0, by unfold VN; omega⟩, Nat.le_trans (upto_all n _) n12, fun v D H' s2 tv mt => q v D H' (s1.trans s2) tv mt⟩
end

set_option Elab.async false
set_option linter.all false
set_option maxRecDepth 100000
set_option maxHeartbeats 4000000
open PySem PySem.Spec PyProof.Rows L2

abbrev s_law_tree_of : Stmt := topS 51
theorem sc_law_tree_of : FnScope ["graph", "members", "strong", "one", "inner", "parts", "joins", "word", "pair", "part", "two", "v"] ["graph", "members", "strong"] (defScope s_law_tree_of) := ⟨rfl, rfl, rfl, by decide +kernel, rfl, by decide +kernel, by decide +kernel⟩

section
variable {P : Program} {w : World} {K : PySem.W.Frag} {mg : Str → Option Value} {base : Heap}
theorem flat_bools (bs : List Bool) : (bs.map V.bl).all flatV = true := by
  rw [List.all_eq_true]
  intro x hx
  obtain ⟨b, _, rfl⟩ := List.mem_map.mp hx
  rfl
theorem inV_bools (bs : List Bool) (z : Bool) : inV (.bl z) (bs.map V.bl) = decide (z ∈ bs) := by
  unfold inV
  rw [List.any_map]
  refine Bool.eq_iff_iff.mpr ?_
  rw [List.any_eq_true, decide_eq_true_eq]
  constructor
  · rintro ⟨y, hy, h⟩
    have h1 : eqV (.bl y) (.bl z) = true := h
    have e : y = z := by
      cases y <;> cases z <;> first | rfl | (revert h1; decide)
    exact e ▸ hy
  · intro h
    refine ⟨z, h, ?_⟩
    show eqV (.bl z) (.bl z) = true
    cases z <;> decide
theorem r_ninB {H : Hp} {Q : VK} {m : Addr} {bs : List Bool} {z : Bool} (h : H m = some (.lst (bs.map V.bl))) (q : Q (.bl (!decide (z ∈ bs))) H) : rIn K true (.bl z) (.ref m) H Q := ⟨m, _, rfl, .inl (.inl (.inl h)), rfl, flat_bools bs, by
  rw [if_pos rfl, inV_bools]
  exact q⟩
def spLTree (d : Nat) : Sp := fun vs H Q _ => ∃ (g : V) (n : Nat) (ps : List (Int × Int)) (t st : Addr) (ms : List Int) (xs : List V) (rs : List (List Int)), vs = [g, .ref t, .ref st] ∧ GrAt H g (n : Int) ps ∧ GoodG n ps ∧ n ≤ 12 ∧ H t = some (.tup (ms.map V.int)) ∧ ms.Pairwise (· < ·) ∧ Strg (Nb ps) (VN n) (fun z => z ∈ ms) ∧ H st = some (.lst xs) ∧ ITups H xs rs ∧ rs.Pairwise (fun x y => lexI x y = true) ∧ rs.length ≤ 1024 ∧
  (∀ o, o ∈ rs ↔ o.Pairwise (· < ·) ∧ Strg (Nb ps) (VN n) (fun z => z ∈ o)) ∧ ms.length ≤ d ∧ ∀ (v : V) (D : PyData) (H' : Hp), Same H H' → TD H' v D → MT (Nb ps) (VN n) d (fun z => z ∈ ms) D → Q v H'
theorem ok_ltree (T : Blt mg) (D_law_tree_of : DefAt K mg "_law_tree_of" s_law_tree_of ["graph", "members", "strong"])
    (D_law_pairs : DefAt K mg "_law_pairs" s_law_pairs ["n"]) (G_law_pairs : FnOk P w K mg base CX0 1 D_law_pairs.f D_law_pairs.fd ["n"] spPairs)
    (D_law_met : DefAt K mg "_law_met" s_law_met ["graph", "u", "v"]) (G_law_met : FnOk P w K mg base CX0 2 D_law_met.f D_law_met.fd ["graph", "u", "v"] spMet) :
    ∀ d : Nat, FnOk P w K mg base CX0 (d + 2) D_law_tree_of.f D_law_tree_of.fd ["graph", "members", "strong"] (spLTree d)
  | 0 => fn_none.imp fun vs H Q E h => by
    obtain ⟨g, n, ps, t, st, ms, xs, rs, _, _, _, _, _, _, s, _, _, _, _, _, l, _⟩ := h
    obtain ⟨z, hz⟩ := s.mdl.some
    have := List.length_pos_of_mem hz
    omega
  | d + 1 => by
    have G_law_tree_of := ok_ltree T D_law_tree_of D_law_pairs G_law_pairs D_law_met G_law_met d
    refine D_law_tree_of.F.ok sc_law_tree_of (fun vs H Q E h => ?_) (fun cdv A outer s H vs Q E hr h => ?_)
    · obtain ⟨g, n, ps, t, st, ms, xs, rs, rfl, _⟩ := h
      rfl
    · obtain ⟨g, n, ps, t, st, ms, xs, rs, rfl, hg, gd, n12, ht, ams, stg, hst, pxs, lxr, lr, mem, ld, q⟩ := h
      have bd : ∀ v ∈ ms, 0 ≤ v ∧ v < (n : Int) := stg.mdl.sub
      have sl : ∀ o ∈ rs, o.length ≤ 60 := fun o h => by
        have h := (mem o).mp h
        have := asc_len (n := n) h.1 h.2.mdl.sub
        omega
      have lm := asc_len ams bd
      have hne : ms ≠ [] := fun e => by
        obtain ⟨z, hz⟩ := stg.mdl.some
        rw [e] at hz
        cases hz
      refine ⟨_, (pss_cons (ps_if (pt_cmpR op_eq (pe_callB (call_lenK (K := K) rfl) (by rfl) T.len (by decide +kernel) (pa_cons (pv 1) pa_nil)) pe_int (nomark _))
        (pss_one (ps_ret (pe_ix (ix_tupK (K := K) rfl) (pv 1) pe_int (fun _ _ => rfl))))
        pss_nil)
      (pss_cons (ps_setLc (i := 4) (own := [("one", 3)]) (by rfl) sc_law_tree_of.nd rfl rfl (sw_true rfl rfl rfl (by decide +kernel)) (PI.listK (K := K) rfl (pi_list (pv 2))) (blkOk_by (own := [("one", 3)]) (N := ["graph", "members", "strong", "one", "inner", "parts", "joins", "word", "pair", "part", "two", "v"]) (sc := (defScope s_law_tree_of)) (by decide +kernel)) (fun _ _ _ _ _ => (pg_name (i := 3) sc_law_tree_of.nd rfl (Or.inl rfl))) (fun _ _ _ _ _ => (pts_one (PW.pt (pw_and (pt_cmpR (op_neDK (K := K) rfl hr.units) (pv 3) (pv 1) (nomark _)) (pw_and1 (pt_cmpR op_eq (pe_callB (call_lenK (K := K) rfl) (by rfl) T.len (by decide +kernel) (pa_cons (pe_lc (own := [("v", 11)]) (by rfl) sc_law_tree_of.nd (PI.tupK (K := K) rfl (pi_tup (pv 3))) (blkOk_by (own := [("v", 11)]) (N := ["graph", "members", "strong", "one", "inner", "parts", "joins", "word", "pair", "part", "two", "v"]) (sc := ({ kind := .function, names := [(PySem.Str.ofString ".0", PySem.NameKind.local), (PySem.Str.ofString "one", PySem.NameKind.local), (PySem.Str.ofString "len", PySem.NameKind.globalImplicit), (PySem.Str.ofString "members", PySem.NameKind.cell)], isGenerator := false, isCoroutine := false, more := [] } : PySem.Scope)) (by decide +kernel)) (fun _ _ _ _ _ => (pg_name (i := 11) sc_law_tree_of.nd rfl (Or.inl rfl))) (fun _ _ _ _ _ => (pts_one (pt_cmpR (op_inSeqK (K := K) rfl) (pv 11) (pv 1) (by rfl)))) (fun _ _ _ _ _ => (pv 11))) pa_nil)) (pe_callB (call_lenK (K := K) rfl) (by rfl) T.len (by decide +kernel) (pa_cons (pv 3) pa_nil)) (nomark _))))))) (fun _ _ _ _ _ => (pv 3)))
      (pss_cons (ps_set (i := 5) sc_law_tree_of.nd rfl (Or.inr rfl) (pe_lst pa_nil))
      (pss_cons (ps_for PassesOwn.never (by rfl) (PI.listK (K := K) rfl (pi_list (pv 4))) (pg_name (i := 3) sc_law_tree_of.nd rfl (Or.inr rfl))
        (pss_one (ps_if (pt_cmpR op_eq (pe_callB (call_lenK (K := K) rfl) (by rfl) T.len (by decide +kernel) (pa_cons (pe_lc (own := [("two", 10)]) (by rfl) sc_law_tree_of.nd (PI.listK (K := K) rfl (pi_list (pv 4))) (blkOk_by (own := [("two", 10)]) (N := ["graph", "members", "strong", "one", "inner", "parts", "joins", "word", "pair", "part", "two", "v"]) (sc := (defScope s_law_tree_of)) (by decide +kernel)) (fun _ _ _ _ _ => (pg_name (i := 10) sc_law_tree_of.nd rfl (Or.inr rfl))) (fun _ _ _ _ _ => (pts_one (PW.pt (pw_and (pt_cmpR (op_neDK (K := K) rfl hr.units) (pv 10) (pv 3) (nomark _)) (pw_and1 (pt_cmpR op_eq (pe_callB (call_lenK (K := K) rfl) (by rfl) T.len (by decide +kernel) (pa_cons (pe_lc (own := [("v", 11)]) (by rfl) sc_law_tree_of.nd (PI.tupK (K := K) rfl (pi_tup (pv 3))) (blkOk_by (own := [("v", 11)]) (N := ["graph", "members", "strong", "one", "inner", "parts", "joins", "word", "pair", "part", "two", "v"]) (sc := ({ kind := .function, names := [(PySem.Str.ofString ".0", PySem.NameKind.local), (PySem.Str.ofString "two", PySem.NameKind.cell), (PySem.Str.ofString "len", PySem.NameKind.globalImplicit), (PySem.Str.ofString "one", PySem.NameKind.cell)], isGenerator := false, isCoroutine := false, more := [] } : PySem.Scope)) (by decide +kernel)) (fun _ _ _ _ _ => (pg_name (i := 11) sc_law_tree_of.nd rfl (Or.inl rfl))) (fun _ _ _ _ _ => (pts_one (pt_cmpR (op_inSeqK (K := K) rfl) (pv 11) (pv 10) (by rfl)))) (fun _ _ _ _ _ => (pv 11))) pa_nil)) (pe_callB (call_lenK (K := K) rfl) (by rfl) T.len (by decide +kernel) (pa_cons (pv 3) pa_nil)) (nomark _))))))) (fun _ _ _ _ _ => (pv 10))) pa_nil)) pe_int (nomark _))
          (pss_one (ps_expr (PE.bmK (K := K) rfl (pe_bm PySem.F.plainAttrs_list PySem.F.slot_list_append PySem.F.type_list_append mt_append (pv 5) (pa_cons (pv 3) pa_nil)))))
          pss_nil)))
      (pss_cons (ps_set (i := 5) sc_law_tree_of.nd rfl (Or.inr rfl) (pe_callB (cr_sortLK (K := K) rfl) (by rfl) T.sorted (by decide +kernel) (pa_cons (pv 5) pa_nil)))
      (pss_cons (ps_setLc (i := 6) (own := [("pair", 8)]) (by rfl) sc_law_tree_of.nd rfl rfl (sw_true rfl rfl rfl (by decide +kernel)) (PI.listK (K := K) rfl (pi_list (pe_call G_law_pairs (hr.mono (by first | decide | omega)) (by rfl) D_law_pairs.g D_law_pairs.F.kp D_law_pairs.b .nil pass0 (pa_cons (pe_callB (call_lenK (K := K) rfl) (by rfl) T.len (by decide +kernel) (pa_cons (pv 5) pa_nil)) pa_nil)))) (blkOk_by (own := [("pair", 8)]) (N := ["graph", "members", "strong", "one", "inner", "parts", "joins", "word", "pair", "part", "two", "v"]) (sc := (defScope s_law_tree_of)) (by decide +kernel)) (fun _ _ _ _ _ => (pg_name (i := 8) sc_law_tree_of.nd rfl (Or.inl rfl))) (fun _ _ _ _ _ => pts_nil) (fun _ _ _ _ _ => (pe_call G_law_met (hr.mono (by first | decide | omega)) (by rfl) D_law_met.g D_law_met.F.kp D_law_met.b .nil pass0 (pa_cons (pv 0) (pa_cons (pe_ix (ix_tupK (K := K) rfl) (pe_ix (ix_listK (K := K) rfl) (pv 5) (pe_ix (ix_tupK (K := K) rfl) (pv 8) pe_int (fun _ _ => rfl)) (fun _ _ => rfl)) pe_int (fun _ _ => rfl)) (pa_cons (pe_ix (ix_tupK (K := K) rfl) (pe_ix (ix_listK (K := K) rfl) (pv 5) (pe_ix (ix_tupK (K := K) rfl) (pv 8) pe_int (fun _ _ => rfl)) (fun _ _ => rfl)) pe_int (fun _ _ => rfl)) pa_nil))))))
      (pss_cons (ps_set (i := 7) sc_law_tree_of.nd rfl (Or.inl rfl) pe_str)
      (pss_cons (ps_if (pt_cmpR (op_ninSeqK (K := K) rfl) pe_bl (pv 6) (by rfl))
        (pss_one (ps_set (i := 7) sc_law_tree_of.nd rfl (Or.inl rfl) pe_str))
        (pss_one (ps_if (pt_cmpR (op_ninSeqK (K := K) rfl) pe_bl (pv 6) (by rfl))
          (pss_one (ps_set (i := 7) sc_law_tree_of.nd rfl (Or.inl rfl) pe_str))
          pss_nil)))
      (pss_one (ps_ret (pe_op (op_catTK (K := K) rfl) (pe_tup (pa_cons (pv 7) pa_nil)) (pe_callTy (call_tupleK (K := K) rfl) (by rfl) T.tuple (by decide +kernel) (pa_cons (pe_lc (own := [("part", 9)]) (by rfl) sc_law_tree_of.nd (PI.listK (K := K) rfl (pi_list (pv 5))) (blkOk_by (own := [("part", 9)]) (N := ["graph", "members", "strong", "one", "inner", "parts", "joins", "word", "pair", "part", "two", "v"]) (sc := (defScope s_law_tree_of)) (by decide +kernel)) (fun _ _ _ _ _ => (pg_name (i := 9) sc_law_tree_of.nd rfl (Or.inl rfl))) (fun _ _ _ _ _ => pts_nil) (fun _ _ _ _ _ => (pe_call G_law_tree_of (hr.mono (by first | decide | omega)) (by rfl) D_law_tree_of.g D_law_tree_of.F.kp D_law_tree_of.b .nil pass0 (pa_cons (pv 0) (pa_cons (pv 9) (pa_cons (pv 2) pa_nil)))))) pa_nil))))))))))))), ?_⟩
      refine r_at (σ := [some _, some _, some _, none, none, none, none, none, none, none, none, none]) rfl ?_
      walk_at "z"
      rw [List.length_map]
      refine r_ite (fun c => ?_) (fun c => ?_)
      · obtain ⟨z0, rfl⟩ : ∃ z0, ms = [z0] := List.length_eq_one_iff.mp (by omega)
        walk_at "z"
        exact q (.int z0) (.int z0) _ (fun _ _ h => h) (.leaf z0) (.inl ⟨z0, fun z => List.mem_singleton, rfl⟩)
      · walk_at "z"
        refine r_il (.inl (.inl hst)) fun d1 hd1 => lcR_list (xs := xs) (fun i H' => Same H H' ∧ ∃ ys os, H' d1 = some (.lst ys) ∧ ITups H' ys os ∧ os.length ≤ i ∧ os.Sublist (rs.take i) ∧ ∀ o, o ∈ os ↔ o ∈ rs.take i ∧ o ≠ ms ∧ ∀ z ∈ o, z ∈ ms) (by walk_at "zw") ⟨same_new hd1, [], [], upd_same, .nil, Nat.le_refl 0, List.nil_sublist _, fun o => by simp⟩ (fun i H' _ ⟨s2, _⟩ => .inl (.inl (s2 _ _ hst))) ?_ ?_
        · rintro i y H1 hy ⟨s1, ys, os, hys, pys, los, sbo, memo⟩
          obtain ⟨one, ho, to, rfl, hto⟩ := pd_get (ITups.tk (.of_same s1) pxs) hy
          have il := (List.getElem?_eq_some_iff.mp ho).1
          have ol := sl one (List.mem_of_getElem? ho)
          have no : ∀ H3 : Hp, Same H1 H3 → (one ≠ ms → ¬ ∀ z ∈ one, z ∈ ms) → Same H H3 ∧ ∃ ys os, H3 d1 = some (.lst ys) ∧ ITups H3 ys os ∧ os.length ≤ i + 1 ∧ os.Sublist (rs.take (i + 1)) ∧ ∀ o, o ∈ os ↔ o ∈ rs.take (i + 1) ∧ o ≠ ms ∧ ∀ z ∈ o, z ∈ ms := fun H3 s3 h => by
            refine ⟨s1.trans s3, ys, os, s3 _ _ hys, ITups.tk (.of_same s3) pys, by omega, by rw [take_next ho]; exact sbo.trans (List.sublist_append_left _ _), fun z => ?_⟩
            rw [take_next ho, List.mem_append, memo, List.mem_singleton]
            constructor
            · rintro ⟨h, k⟩
              exact ⟨.inl h, k⟩
            · rintro ⟨h' | rfl, k⟩
              · exact ⟨h', k⟩
              · exact absurd k.2 (h k.1)
          walk_at "z"
          refine ⟨rfl, ?_⟩
          walk_at "z"
          refine r_neTI (ns := one) (ms := ms) (.inl (.inl hto)) (.inl (.inl (s1 _ _ ht))) ?_
          walk_at "z"
          refine r_iteN (fun h1 => ?_) (fun h1 => ?_)
          · walk_at "z"
            refine r_it (.inl (.inl hto)) fun d2 hd2 => lcR_tup (xs := one.map V.int) (fun j H' => Same H1 H' ∧ H' d2 = some (.lst (((one.take j).filter fun v => decide (v ∈ ms)).map V.int))) (by walk_at "zw") ⟨same_new hd2, upd_same⟩ (fun j H' _ ⟨s2, _⟩ => .inl (.inl (s2 _ _ hto))) ?_ ?_
            · rintro k y H2 hy ⟨s2, hd⟩
              rw [List.getElem?_map] at hy
              obtain ⟨v, hv, rfl⟩ := Option.map_eq_some_iff.mp hy
              have kl := (List.getElem?_eq_some_iff.mp hv).1
              walk_at "z"
              refine ⟨rfl, ?_⟩
              walk_at "z"
              refine r_inI (ns := ms) (.inr (.inl (.inl (s2 _ _ (s1 _ _ ht))))) ?_
              walk_at "z"
              refine r_ite (fun h => ?_) (fun h => ?_)
              · walk_at "z"
                refine r_lce hd (small_lt (by
                  have := List.length_filter_le (fun v => decide (v ∈ ms)) (one.take k)
                  rw [List.length_take] at this
                  rw [List.length_map]
                  omega)) ⟨same_mut s2 hd2, ?_⟩
                rw [take_next hv, List.filter_append, List.filter_cons, if_pos (decide_eq_true h), List.filter_nil, List.map_append]
                exact upd_same
              · refine ⟨s2, ?_⟩
                rw [take_next hv, List.filter_append, List.filter_cons, if_neg (by simp [h]), List.filter_nil, List.append_nil]
                exact hd
            · rintro H2 ⟨s2, hd⟩
              rw [List.length_map, List.take_length] at hd
              have hto2 := s2 _ _ hto
              walk_at "z"
              rw [List.length_map, List.length_map]
              refine r_ite (fun h2 => ?_) (fun h2 => ?_)
              · have al := cnt_all.mp (by omega : (one.filter fun v => decide (v ∈ ms)).length = one.length)
                have hys2 := s2 _ _ hys
                walk_at "z"
                refine r_lce hys2 (small_lt (by rw [pys.length]; have := pxs.length; omega)) ⟨same_mut (s1.trans s2) hd1, _, os ++ [one], upd_same, (ITups.tk (.lst hys2) (ITups.tk (.of_same s2) pys)).snoc (ITup.tk (.lst hys2) ⟨to, rfl, hto2⟩), by rw [List.length_append]; simp only [List.length_cons, List.length_nil]; omega, by rw [take_next ho]; exact sbo.append (List.Sublist.refl _), fun z => ?_⟩
                rw [take_next ho, List.mem_append, List.mem_append, memo, List.mem_singleton]
                constructor
                · rintro (⟨h, k⟩ | rfl)
                  · exact ⟨.inl h, k⟩
                  · exact ⟨.inr rfl, h1, al⟩
                · rintro ⟨h | h, k⟩
                  · exact .inl ⟨h, k⟩
                  · exact .inr h
              · exact no _ s2 fun _ z => h2 (by have := cnt_all.mpr z; omega)
          · first | exact no _ (fun _ _ h => h) fun z => absurd h1 z | (rw [if_neg Bool.false_ne_true]; exact no _ (fun _ _ h => h) fun z => absurd h1 z)
        · rintro H1 ⟨s1, ys, os, hys, pys, los, sbo, memo⟩
          rw [pxs.length, List.take_length] at memo sbo
          have ndr : rs.Nodup := lxr.imp fun {a b} h e => by
            rw [e, lexI_irr] at h
            cases h
          have ndo := ndr.sublist sbo
          have lo : os.length ≤ 1024 := Nat.le_trans sbo.length_le lr
          walk_at "z"
          refine r_lstN (by decide) fun pp hpp => ?_
          have s2 : Same H1 (upd H1 pp (.lst [])) := same_new hpp
          have pp0 : H pp = none := s1.free hpp
          have hp2 : (upd H1 pp (.lst [])) pp = some (.lst []) := upd_same
          generalize upd H1 pp (.lst []) = H2 at s2 hp2 ⊢
          walk_at "z"
          have hys2 := s2 _ _ hys
          have pys2 := ITups.tk (.of_same s2) pys
          refine r_il (.inl (.inl hys2)) (forR_list (xs := ys) (fun i σ' H' => (∃ x3, σ' = [some g, some (.ref t), some (.ref st), x3, some (.ref d1), some (.ref pp), none, none, none, none, none, none]) ∧ Same H1 H' ∧ ∃ zs qs, H' pp = some (.lst zs) ∧ ITups H' zs qs ∧ qs.length ≤ i ∧ qs.Sublist (os.take i) ∧ ∀ o, o ∈ qs ↔ o ∈ os.take i ∧ ∀ t ∈ os, t ≠ o → ¬ ∀ z ∈ o, z ∈ t) ⟨⟨_, rfl⟩, s2, [], [], hp2, .nil, Nat.le_refl 0, List.nil_sublist _, fun o => by simp⟩ (fun i σ' H' _ ⟨_, s3, _⟩ => .inl (.inl (s3 _ _ hys))) ?_ ?_)
          · rintro i y σ' H3 hy ⟨⟨x3, rfl⟩, s3, zs, qs, hzs, pzs, lqs, sbq, memq⟩
            obtain ⟨one, ho, to, rfl, hto⟩ := pd_get (ITups.tk (.of_same s3) pys) hy
            have il := (List.getElem?_eq_some_iff.mp ho).1
            have olr := ((memo one).mp (List.mem_of_getElem? ho)).1
            have ol := sl one olr
            walk_at "z"
            refine r_il (.inl (.inl (s3 _ _ hys))) fun d2 hd2 => lcR_list (xs := ys) (fun j H' => Same H3 H' ∧ ∃ (us : List V) (ks : List (List Int)), H' d2 = some (.lst us) ∧ us.length = ks.length ∧ ks.length ≤ j ∧ ∀ o, o ∈ ks ↔ o ∈ os.take j ∧ o ≠ one ∧ ∀ z ∈ one, z ∈ o) (by walk_at "zw") ⟨same_new hd2, [], [], upd_same, rfl, Nat.le_refl 0, fun o => by simp⟩ (fun j H' _ ⟨s4, _⟩ => .inl (.inl (s4 _ _ (s3 _ _ hys)))) ?_ ?_
            · rintro j y H4 hy2 ⟨s4, us, ks, hus, lus, lks, memk⟩
              obtain ⟨two, ht2, tt, rfl, htt⟩ := pd_get (ITups.tk (.of_same (s3.trans s4)) pys) hy2
              have jl := (List.getElem?_eq_some_iff.mp ht2).1
              have hto4 := s4 _ _ hto
              have no : ∀ H5 : Hp, Same H4 H5 → (two ≠ one → ¬ ∀ z ∈ one, z ∈ two) → Same H3 H5 ∧ ∃ (us : List V) (ks : List (List Int)), H5 d2 = some (.lst us) ∧ us.length = ks.length ∧ ks.length ≤ j + 1 ∧ ∀ o, o ∈ ks ↔ o ∈ os.take (j + 1) ∧ o ≠ one ∧ ∀ z ∈ one, z ∈ o := fun H5 s5 h => by
                refine ⟨s4.trans s5, us, ks, s5 _ _ hus, lus, by omega, fun z => ?_⟩
                rw [take_next ht2, List.mem_append, memk, List.mem_singleton]
                constructor
                · rintro ⟨h, k⟩
                  exact ⟨.inl h, k⟩
                · rintro ⟨h' | rfl, k⟩
                  · exact ⟨h', k⟩
                  · exact absurd k.2 (h k.1)
              walk_at "z"
              refine ⟨rfl, ?_⟩
              walk_at "z"
              refine r_neTI (ns := two) (ms := one) (.inl (.inl htt)) (.inl (.inl hto4)) ?_
              walk_at "z"
              refine r_iteN (fun h1 => ?_) (fun h1 => ?_)
              · walk_at "z"
                refine r_it (.inl (.inl hto4)) fun d3 hd3 => lcR_tup (xs := one.map V.int) (fun k H' => Same H4 H' ∧ H' d3 = some (.lst (((one.take k).filter fun v => decide (v ∈ two)).map V.int))) (by walk_at "zw") ⟨same_new hd3, upd_same⟩ (fun k H' _ ⟨s5, _⟩ => .inl (.inl (s5 _ _ hto4))) ?_ ?_
                · rintro k y H5 hy ⟨s5, hd⟩
                  rw [List.getElem?_map] at hy
                  obtain ⟨v, hv, rfl⟩ := Option.map_eq_some_iff.mp hy
                  have kl := (List.getElem?_eq_some_iff.mp hv).1
                  walk_at "z"
                  refine ⟨rfl, ?_⟩
                  walk_at "z"
                  refine r_inI (ns := two) (.inr (.inl (.inl (s5 _ _ htt)))) ?_
                  walk_at "z"
                  refine r_ite (fun h => ?_) (fun h => ?_)
                  · walk_at "z"
                    refine r_lce hd (small_lt (by
                      have := List.length_filter_le (fun v => decide (v ∈ two)) (one.take k)
                      rw [List.length_take] at this
                      rw [List.length_map]
                      omega)) ⟨same_mut s5 hd3, ?_⟩
                    rw [take_next hv, List.filter_append, List.filter_cons, if_pos (decide_eq_true h), List.filter_nil, List.map_append]
                    exact upd_same
                  · refine ⟨s5, ?_⟩
                    rw [take_next hv, List.filter_append, List.filter_cons, if_neg (by simp [h]), List.filter_nil, List.append_nil]
                    exact hd
                · rintro H5 ⟨s5, hd⟩
                  rw [List.length_map, List.take_length] at hd
                  have hto5 := s5 _ _ hto4
                  walk_at "z"
                  rw [List.length_map, List.length_map]
                  refine r_ite (fun h2 => ?_) (fun h2 => ?_)
                  · have al := cnt_all.mp (by omega : (one.filter fun v => decide (v ∈ two)).length = one.length)
                    have hus5 := s5 _ _ hus
                    walk_at "z"
                    refine r_lce hus5 (small_lt (by have := pys.length; omega)) ⟨same_mut (s4.trans s5) hd2, _, ks ++ [two], upd_same, by rw [List.length_append, List.length_append, lus]; rfl, by rw [List.length_append]; simp only [List.length_cons, List.length_nil]; omega, fun z => ?_⟩
                    rw [take_next ht2, List.mem_append, List.mem_append, memk, List.mem_singleton]
                    constructor
                    · rintro (⟨h, k⟩ | rfl)
                      · exact ⟨.inl h, k⟩
                      · exact ⟨.inr rfl, h1, al⟩
                    · rintro ⟨h | h, k⟩
                      · exact .inl ⟨h, k⟩
                      · exact .inr h
                  · exact no _ s5 fun _ z => h2 (by have := cnt_all.mpr z; omega)
              · first | exact no _ (fun _ _ h => h) fun z => absurd h1 z | (rw [if_neg Bool.false_ne_true]; exact no _ (fun _ _ h => h) fun z => absurd h1 z)
            · rintro H4 ⟨s4, us, ks, hus, lus, lks, memk⟩
              rw [pys.length, List.take_length] at memk
              have hzs4 := s4 _ _ hzs
              have pzs4 := ITups.tk (.of_same s4) pzs
              have hto4 := s4 _ _ hto
              have kz : ks.length = 0 ↔ ∀ t ∈ os, t ≠ one → ¬ ∀ z ∈ one, z ∈ t := by
                rw [List.length_eq_zero_iff]
                constructor
                · intro e t h1 h2 h3
                  have := (memk t).mpr ⟨h1, h2, h3⟩
                  rw [e] at this
                  cases this
                · intro h
                  cases ks with
                  | nil => rfl
                  | cons o ks =>
                    obtain ⟨h1, h2, h3⟩ := (memk o).mp List.mem_cons_self
                    exact absurd h3 (h o h1 h2)
              walk_at "z"
              refine r_ite (fun c1 => ?_) (fun c1 => ?_)
              · have good := kz.mp (by omega)
                walk_at "z"
                refine r_appT hzs4 (small_lt (by rw [pzs.length]; have := pys.length; omega)) ?_
                have k5 : TK H4 (upd H4 pp (.lst (zs ++ [.ref to]))) := .lst hzs4
                refine ⟨⟨_, rfl⟩, same_mut (s3.trans s4) hpp, _, qs ++ [one], upd_same, (ITups.tk k5 pzs4).snoc (ITup.tk k5 ⟨to, rfl, hto4⟩), by rw [List.length_append]; simp only [List.length_cons, List.length_nil]; omega, by rw [take_next ho]; exact sbq.append (List.Sublist.refl _), fun z => ?_⟩
                rw [take_next ho, List.mem_append, List.mem_append, memq, List.mem_singleton]
                constructor
                · rintro (⟨h, k⟩ | rfl)
                  · exact ⟨.inl h, k⟩
                  · exact ⟨.inr rfl, good⟩
                · rintro ⟨h | h, k⟩
                  · exact .inl ⟨h, k⟩
                  · exact .inr h
              · walk_at "z"
                refine ⟨⟨_, rfl⟩, s3.trans s4, zs, qs, hzs4, pzs4, by omega, by rw [take_next ho]; exact sbq.trans (List.sublist_append_left _ _), fun z => ?_⟩
                rw [take_next ho, List.mem_append, memq, List.mem_singleton]
                constructor
                · rintro ⟨h, k⟩
                  exact ⟨.inl h, k⟩
                · rintro ⟨h' | rfl, k⟩
                  · exact ⟨h', k⟩
                  · exact absurd (by have := kz.mpr k; omega) c1
          · rintro σ' H3 ⟨⟨x3, rfl⟩, s3, zs, qs, hzs, pzs, lqs, sbq, memq⟩
            rw [pys.length, List.take_length] at memq sbq
            have ndq := ndo.sublist sbq
            have lq : qs.length ≤ 1024 := Nat.le_trans sbq.length_le lo
            have pmq : ∀ o, o ∈ qs ↔ Prt rs ms o := fun o => by
              rw [memq, memo]
              constructor
              · rintro ⟨h1, h2⟩
                exact ⟨h1, fun t ht ne => h2 t ((memo t).mpr ht) ne⟩
              · rintro ⟨h1, h2⟩
                exact ⟨h1, fun t ht ne => h2 t ((memo t).mp ht) ne⟩
            walk_at "z"
            refine r_sortH hzs pzs (fun o ho e => ?_) ndq fun ss prs sp hsp pss asc memp lenp => ?_
            · obtain ⟨z, hz⟩ := ((mem o).mp ((pmq o).mp ho).1.1).2.mdl.some
              rw [e] at hz
              cases hz
            have pm : ∀ o, o ∈ prs ↔ Prt rs ms o := fun o => (memp o).trans (pmq o)
            have s4 : Same H3 (upd H3 sp (.lst ss)) := same_new hsp
            have hs4 : (upd H3 sp (.lst ss)) sp = some (.lst ss) := upd_same
            have pss4 := ITups.tk (.of_same s4) pss
            generalize upd H3 sp (.lst ss) = H4 at s4 hs4 pss4 ⊢
            have s04 : Same H H4 := (s1.trans s3).trans s4
            have okp : ∀ o ∈ prs, o.Pairwise (· < ·) ∧ o ≠ [] := fun o ho => by
              obtain ⟨h1, h2⟩ := (mem o).mp ((pm o).mp ho).1.1
              refine ⟨h1, fun e => ?_⟩
              obtain ⟨z, hz⟩ := h2.mdl.some
              rw [e] at hz
              cases hz
            have uas := lows_asc asc okp fun a ha b hb ne z hz => prt_dj mem ((pm a).mp ha) ((pm b).mp hb) ne z hz
            have two := prt_two ams bd (by omega) hne mem pm
            have ul : (prs.map fun o => o.headD 0).length ≤ n := asc_len uas fun u hu => by
              obtain ⟨o, ho, rfl⟩ := List.mem_map.mp hu
              exact bd _ (((pm o).mp ho).1.2.2 _ (head_low (okp o ho).1 (okp o ho).2).1)
            rw [List.length_map] at ul
            have lss := pss.length
            walk_at "z"
            rw [lss]
            refine ⟨prs.length, rfl, by omega, fun f1 zs1 H5 hf10 s5 hf1 pzs1 => ?_⟩
            have hs5 := s5 _ _ hs4
            have pss5 := ITups.tk (.of_same s5) pss4
            have hg5 := hg.tk (.of_same (s04.trans s5))
            walk_at "z"
            refine r_il (.inl (.inl hf1)) fun jj hjj => lcR_list (xs := zs1) (fun i H' => Same H5 H' ∧ H' jj = some (.lst ((((allP prs.length).take i).map fun p => decide (nrm ((prs.map fun o => o.headD 0).getD p.1.toNat 0, (prs.map fun o => o.headD 0).getD p.2.toNat 0) ∈ ps)).map V.bl))) (by walk_at "zw") ⟨same_new hjj, upd_same⟩ (fun i H' _ ⟨s6, _⟩ => .inl (.inl (s6 _ _ hf1))) ?_ ?_
            · rintro i y H6 hy ⟨s6, hj6⟩
              obtain ⟨⟨a, b⟩, hab, hp⟩ := pd_get pzs1 hy
              obtain ⟨tp, rfl, htp⟩ := hp
              obtain ⟨a0, a1, a2⟩ := mem_allP.mp (List.mem_of_getElem? hab)
              have il := (List.getElem?_eq_some_iff.mp hab).1
              have small : ∀ k, k ≤ 12 → (allP k).length ≤ 100 := by decide
              have l3 := small prs.length (by omega)
              dsimp only at a0 a1 a2 htp
              have ga : ∀ c : Int, 0 ≤ c → c < (prs.length : Int) → ∃ (tc : Addr) (o : List Int), atI ss c = some (.ref tc) ∧ H6 tc = some (.tup (o.map V.int)) ∧ atI (o.map V.int) 0 = some (.int (o.headD 0)) ∧ (prs.map fun o => o.headD 0).getD c.toNat 0 = o.headD 0 := fun c c0 c1 => by
                have hl : c.toNat < prs.length := by omega
                obtain ⟨x, hx, tc, rfl, htc⟩ := pd_get2 (ITups.tk (.of_same s6) pss5) (List.getElem?_eq_getElem hl)
                refine ⟨tc, prs[c.toNat], ?_, htc, ?_, ?_⟩
                · have := atI_nat hx
                  rwa [show ((c.toNat : Nat) : Int) = c by omega] at this
                · have ne := (okp _ (List.getElem_mem hl)).2
                  cases e : prs[c.toNat] with
                  | nil => exact absurd e ne
                  | cons u o => exact atI_nat (j := 0) rfl
                · rw [getD_lt (by rw [List.length_map]; exact hl), List.getElem_map]
              obtain ⟨t1, o1, h11, h12, h13, h14⟩ := ga a a0 (by omega)
              obtain ⟨t2, o2, h21, h22, h23, h24⟩ := ga b (by omega) a2
              have htp6 := s6 _ _ htp
              have hs6 := s6 _ _ hs5
              walk_at "z"
              refine ⟨rfl, ?_⟩
              walk_at "z"
              refine ⟨g, (n : Int), o1.headD 0, o2.headD 0, ps, rfl, hg5.tk (.of_same s6), fun H7 s7 => ?_⟩
              have hj7 := s7 _ _ hj6
              walk_at "z"
              refine r_lce hj7 (small_lt (by rw [List.length_map, List.length_map, List.length_take]; omega)) ⟨same_mut (s6.trans s7) hjj, ?_⟩
              rw [take_next hab, List.map_append, List.map_append, List.map_cons, List.map_nil, List.map_cons, List.map_nil]
              dsimp only
              rw [h14, h24]
              exact upd_same
            · rintro H6 ⟨s6, hj6⟩
              rw [pzs1.length, List.take_length] at hj6
              have wdf := wd_of (R := Nb ps) (us := prs.map fun o => o.headD 0) (by rw [List.length_map]; exact two) (js_mem gd.inn uas)
              rw [List.length_map] at wdf
              generalize (allP prs.length).map (fun p => decide (nrm ((prs.map fun o => o.headD 0).getD p.1.toNat 0, (prs.map fun o => o.headD 0).getD p.2.toNat 0) ∈ ps)) = js at hj6 wdf
              obtain ⟨w1, w2, w3⟩ := wdf
              walk_at "z1"
              walk_at "z1"
              walk_at "z1"
              let W : L2.St → Hp → Prop := fun σ' H' => ∃ wd : PySem.Str, σ' = [some g, some (.ref t), some (.ref st), x3, some (.ref d1), some (.ref sp), some (.ref jj), some (.str wd), none, none, none, none] ∧ WdU (Nb ps) (prs.map fun o => o.headD 0) wd ∧ H' = H6
              refine r_seqW W ?tlA fun B hB => ?hdA
              case hdA =>
                walk_at "z"
                refine r_ninB hj6 ?_
                walk_at "z"
                refine r_iteN (fun c1 => ?_) (fun c1 => ?_)
                · walk_at "z"
                  exact hB _ _ ⟨_, rfl, w1 c1, rfl⟩
                · walk_at "z"
                  refine r_ninB hj6 ?_
                  walk_at "z"
                  refine r_iteN (fun c2 => ?_) (fun c2 => ?_)
                  · walk_at "z"
                    exact hB _ _ ⟨_, rfl, w2 c2, rfl⟩
                  · walk_at "z"
                    exact hB _ _ ⟨_, rfl, w3 c1 c2, rfl⟩
              case tlA =>
                rintro σ' H7 ⟨wd, rfl, wu, rfl⟩
                walk_at "z"
                refine r_tupN sz1 fun t3 ht3 => ?_
                have s7 : Same H7 (upd H7 t3 (.tup [.str wd])) := same_new ht3
                have h37 : (upd H7 t3 (.tup [.str wd])) t3 = some (.tup [.str wd]) := upd_same
                generalize upd H7 t3 (.tup [.str wd]) = H8 at s7 h37 ⊢
                have s58 := s6.trans s7
                have s08 : Same H H8 := (s04.trans s5).trans s58
                have hs8 := s58 _ _ hs5
                walk_at "z"
                refine r_il (.inl (.inl hs8)) fun dd hdd => lcR_list (xs := ss) (fun i H' => Same H8 H' ∧ ∃ vs ds, H' dd = some (.lst vs) ∧ TDs H' vs ds ∧ ds.length = i ∧ Paired (MT (Nb ps) (VN n) d) ((prs.map fun o z => z ∈ o).take i) ds) (by walk_at "zw") ⟨same_new hdd, [], [], upd_same, .nil, rfl, .nil⟩ (fun i H' _ ⟨s9, _⟩ => .inl (.inl (s9 _ _ hs8))) ?_ ?_
                · rintro i y H9 hy ⟨s9, vs, ds, hvs, tvs, ldd, pt⟩
                  obtain ⟨o, ho, to, rfl, hto⟩ := pd_get (ITups.tk (.of_same (s58.trans s9)) pss5) hy
                  have hom := List.mem_of_getElem? ho
                  have il := (List.getElem?_eq_some_iff.mp ho).1
                  obtain ⟨⟨i1, i2, i3⟩, _⟩ := (pm o).mp hom
                  obtain ⟨as', sg'⟩ := (mem o).mp i1
                  have lt : o.length < ms.length := by
                    obtain ⟨y, hy, ny⟩ : ∃ y ∈ ms, y ∉ o := Classical.byContradiction fun no => i2 (asc_eqZ as' ams fun z => ⟨i3 z, fun hz => Classical.byContradiction fun n => no ⟨z, hz, n⟩⟩)
                    exact len_lt i3 (as'.imp fun {a b} h => by omega) hy ny
                  have s09 := s08.trans s9
                  walk_at "z"
                  refine ⟨rfl, ?_⟩
                  walk_at "z"
                  refine ⟨g, n, ps, to, st, o, xs, rs, rfl, hg.tk (.of_same s09), gd, n12, hto, as', sg', s09 _ _ hst, ITups.tk (.of_same s09) pxs, lxr, lr, mem, by omega, fun v D H10 s10 tv mt => ?_⟩
                  have hvs10 := s10 _ _ hvs
                  walk_at "z"
                  refine r_lce hvs10 (small_lt (by rw [tvs.length]; omega)) ⟨same_mut (s9.trans s10) hdd, vs ++ [v], ds ++ [D], upd_same, TDs.snoc (tv.tk (.lst hvs10)) ((tvs.same s10).tk (.lst hvs10)), by rw [List.length_append, ldd]; rfl, pd_takeM pt (by rw [List.getElem?_map, ho]; rfl) mt⟩
                · rintro H9 ⟨s9, vs, ds, hvs, tvs, ldd, pt⟩
                  rw [lss, List.take_of_length_le (by rw [List.length_map]; omega)] at pt
                  rw [lss] at ldd
                  walk_at "z"
                  refine r_tupL (.inl (.inl hvs)) fun t4 ht4 => ?_
                  have s10 : Same H9 (upd H9 t4 (.tup vs)) := same_new ht4
                  have h39 := s10 _ _ (s9 _ _ h37)
                  have lv := tvs.length
                  walk_at "z"
                  refine ⟨t3, t4, [.str wd], vs, rfl, rfl, .inl (.inl h39), .inl (.inl upd_same), List.cons_ne_nil _ _, small_len (by simp only [List.length_cons, List.length_nil]; omega), fun z => ?_, fun _ t5 ht5 => ?_⟩
                  · rw [z] at lv
                    simp only [List.length_nil] at lv
                    omega
                  · have s11 := same_new (o := .tup ([.str wd] ++ vs)) ht5
                    exact q (.ref t5) _ _ (((s08.trans s9).trans s10).trans s11) (.node upd_same (tvs.same (s10.trans s11))) (mt_law ams bd (by omega) hne mem pm asc wu pt)
end

set_option Elab.async false
set_option linter.all false
set_option maxRecDepth 100000
set_option maxHeartbeats 4000000
open PySem PySem.Spec PyProof.Rows L2

abbrev s_law : Stmt := topS 54
theorem sc_law : FnScope ["script", "pool", "graph"] ["script"] (defScope s_law) := ⟨rfl, rfl, rfl, by decide +kernel, rfl, by decide +kernel, by decide +kernel⟩

section
variable {P : Program} {w : World} {K : PySem.W.Frag} {mg : Str → Option Value} {base : Heap}
def TRgN (Q : VK) (a b : Int) (H1 : Hp) : Prop := RgOk a b ∧ ∀ q, H1 q = none → Q (.ref q) (upd H1 q (.tup (rgV a b)))
theorem r_tupRgN {t : L2.St → Hp → (Int → Int → Hp → Prop) → Prop} {σ : L2.St} {H : Hp} {Q : VK} (h : t σ H (TRgN Q)) : tTupRg t σ H Q := h
theorem r_tRgN {H : Hp} {Q : VK} {n : Int} (h0 : 0 ≤ n) (h1 : n ≤ 10000) (q : ∀ p, H p = none → Q (.ref p) (upd H p (.tup ((rgI n).map V.int)))) : TRgN Q 0 n H := ⟨.of_le (by omega) (by omega) (by omega) h0, fun p hp => by
  rw [rgV_rgI]
  exact q p hp⟩
def spLaw (K : PySem.W.Frag) : Sp := fun vs H Q _ => ∃ (l : Addr) (ns : List Int), vs = [.ref l] ∧ SqL K H l (ns.map V.int) ∧ ∀ H', Q (.bl true) H'
theorem ok_law (T : Blt mg) (D : DefAt K mg "law" s_law ["script"])
    (D_law_pool : DefAt K mg "_law_pool" s_law_pool ["script"]) (G_law_pool : FnOk P w K mg base CX0 1 D_law_pool.f D_law_pool.fd ["script"] (spPool K))
    (D_law_graph : DefAt K mg "_law_graph" s_law_graph ["pool", "most"]) (G_law_graph : FnOk P w K mg base CX0 63 D_law_graph.f D_law_graph.fd ["pool", "most"] spGraph)
    (D_law_draw : DefAt K mg "_law_draw" s_law_draw ["pool", "many"]) (G_law_draw : FnOk P w K mg base CX0 2 D_law_draw.f D_law_draw.fd ["pool", "many"] spDraw)
    (D_law_substituted : DefAt K mg "_law_substituted" s_law_substituted ["pool", "most"]) (G_law_substituted : FnOk P w K mg base CX0 5 D_law_substituted.f D_law_substituted.fd ["pool", "most"] spSubst)
    (D_law_of : DefAt K mg "_law_of" s_law_of ["n", "pairs"]) (G_law_of : FnOk P w K mg base CX0 3 D_law_of.f D_law_of.fd ["n", "pairs"] (spOf K))
    (D_law_tree_pairs : DefAt K mg "_law_tree_pairs" s_law_tree_pairs ["tree"]) (G_law_tree_pairs : FnOk P w K mg base CX0 62 D_law_tree_pairs.f D_law_tree_pairs.fd ["tree"] (spTreePairs 61))
    (D_law_drawn_tree : DefAt K mg "_law_drawn_tree" s_law_drawn_tree ["pool", "leaves"]) (G_law_drawn_tree : FnOk P w K mg base CX0 4 D_law_drawn_tree.f D_law_drawn_tree.fd ["pool", "leaves"] spDrawn)
    (D_law_strong : DefAt K mg "_law_strong" s_law_strong ["graph"]) (G_law_strong : FnOk P w K mg base CX0 6 D_law_strong.f D_law_strong.fd ["graph"] spStrong)
    (D_law_tree_of : DefAt K mg "_law_tree_of" s_law_tree_of ["graph", "members", "strong"]) (G_law_tree_of : FnOk P w K mg base CX0 14 D_law_tree_of.f D_law_tree_of.fd ["graph", "members", "strong"] (spLTree 12))
    (D_module_tree : DefAt K mg "module_tree" s_module_tree ["graph"]) (G_module_tree : FnOk P w K mg base CX0 18 D_module_tree.f D_module_tree.fd ["graph"] spMTree)
    (D_law_same : DefAt K mg "_law_same" s_law_same ["actual", "due"]) (G_law_same : FnOk P w K mg base CX0 12 D_law_same.f D_law_same.fd ["actual", "due"] (spSame K 12)) :
    FnOk P w K mg base CX0 64 D.f D.fd ["script"] (spLaw K) := by
  refine D.F.ok sc_law (fun vs H Q E h => ?_) (fun cdv A outer s H vs Q E hr h => ?_)
  · obtain ⟨l, ns, rfl, _⟩ := h
    rfl
  · obtain ⟨l, ns, rfl, hl, q⟩ := h
    refine ⟨_, (pss_cons (ps_set (i := 1) sc_law.nd rfl (Or.inl rfl) (pe_call G_law_pool (hr.mono (by first | decide | omega)) (by rfl) D_law_pool.g D_law_pool.F.kp D_law_pool.b .nil pass0 (pa_cons (pv 0) pa_nil)))
      (pss_cons (ps_set (i := 2) sc_law.nd rfl (Or.inl rfl) (pe_ix (ix_listK (K := K) rfl) (pe_lst (pa_cons (pe_call G_law_graph (hr.mono (by first | decide | omega)) (by rfl) D_law_graph.g D_law_graph.F.kp D_law_graph.b .nil pass0 (pa_cons (pv 1) (pa_cons pe_int pa_nil))) (pa_cons (pe_call G_law_substituted (hr.mono (by first | decide | omega)) (by rfl) D_law_substituted.g D_law_substituted.F.kp D_law_substituted.b .nil pass0 (pa_cons (pv 1) (pa_cons pe_int pa_nil))) (pa_cons (pe_call G_law_of (hr.mono (by first | decide | omega)) (by rfl) D_law_of.g D_law_of.F.kp D_law_of.b .nil pass0 (pa_cons pe_int (pa_cons (pe_call G_law_tree_pairs (hr.mono (by first | decide | omega)) (by rfl) D_law_tree_pairs.g D_law_tree_pairs.F.kp D_law_tree_pairs.b .nil pass0 (pa_cons (pe_call G_law_drawn_tree (hr.mono (by first | decide | omega)) (by rfl) D_law_drawn_tree.g D_law_drawn_tree.F.kp D_law_drawn_tree.b .nil pass0 (pa_cons (pv 1) (pa_cons (pe_lst (pa_cons pe_int (pa_cons pe_int (pa_cons pe_int (pa_cons pe_int (pa_cons pe_int (pa_cons pe_int pa_nil))))))) pa_nil))) pa_nil)) pa_nil))) pa_nil)))) (pe_call G_law_draw (hr.mono (by first | decide | omega)) (by rfl) D_law_draw.g D_law_draw.F.kp D_law_draw.b .nil pass0 (pa_cons (pv 1) (pa_cons pe_int pa_nil))) (fun _ _ => rfl)))
      (pss_one (ps_ret (pe_call G_law_same (hr.mono (by first | decide | omega)) (by rfl) D_law_same.g D_law_same.F.kp D_law_same.b .nil pass0 (pa_cons (pe_call G_module_tree (hr.mono (by first | decide | omega)) (by rfl) D_module_tree.g D_module_tree.F.kp D_module_tree.b .nil pass0 (pa_cons (pv 2) pa_nil)) (pa_cons (pe_call G_law_tree_of (hr.mono (by first | decide | omega)) (by rfl) D_law_tree_of.g D_law_tree_of.F.kp D_law_tree_of.b .nil pass0 (pa_cons (pv 2) (pa_cons (pe_tupRg rfl (by rfl) T.tuple (prg_1 (by rfl) T.range (pe_ix (ix_tupK (K := K) rfl) (pv 2) pe_int (fun _ _ => rfl)))) (pa_cons (pe_call G_law_strong (hr.mono (by first | decide | omega)) (by rfl) D_law_strong.g D_law_strong.F.kp D_law_strong.b .nil pass0 (pa_cons (pv 2) pa_nil)) pa_nil)))) pa_nil))))))), ?_⟩
    refine r_at (σ := [some _, none, none]) rfl ?_
    walk_at "z"
    refine ⟨l, ns, rfl, hl, fun a s0 H1 ha s1 hP1 => ?_⟩
    walk_at "z"
    refine ⟨a, s0, 6, rfl, hP1, by omega, by omega, fun n1 n10 n11 v1 p1 H2 hP2 g2 hg1 gd1 => ?_⟩
    walk_at "z"
    refine ⟨a, s0, 4, rfl, hP2, by omega, by omega, fun n2 n20 n21 v2 p2 H3 hP3 g3 hg2 gd2 => ?_⟩
    walk_at "z"
    refine r_lstN (by decide) fun l1 hl1 => ?_
    have hP4 := hP3.mono (same_new (o := .lst [.int 0, .int 1, .int 2, .int 3, .int 4, .int 5]) hl1)
    walk_at "z"
    refine ⟨a, s0, l1, [0, 1, 2, 3, 4, 5], rfl, hP4, upd_same, by decide, by decide, fun tv t H4 hP5 g5 ht hwf ⟨ms, pm⟩ => ?_⟩
    have nd : (lv t).Nodup := (List.nodup_append.mp (pm.nodup_iff.mpr (by decide))).1
    have ll : (lv t).length ≤ 6 := by
      have := pm.length_eq
      rw [List.length_append] at this
      simp only [List.length_cons, List.length_nil] at this
      omega
    have memt : ∀ z ∈ lv t, 0 ≤ z ∧ z < 6 := fun z hz => by
      have := pm.mem_iff.mp (List.mem_append_left _ hz)
      simp only [List.mem_cons, List.not_mem_nil, or_false] at this
      omega
    walk_at "z"
    refine ⟨tv, t, rfl, ht, by have := dp_lv t hwf; omega, by omega, nd, fun f xs ps H5 s5 hx hp hm hlen => ?_⟩
    have sq : (lv t).length * (lv t).length ≤ 6 * 6 := Nat.mul_le_mul ll ll
    walk_at "z"
    refine ⟨6, f, xs, ps, rfl, .inl (.inl hx), hp, by omega, fun v3 p3 H6 s6 hg3 asc3 mem3 => ?_⟩
    have gd3 : GoodG 6 p3 := good_of (by decide) (fun r hr => by
      obtain ⟨k1, k2, k3⟩ := hm r hr
      have := memt r.1 k1
      have := memt r.2 k2
      omega) asc3 mem3
    have t23 : TK H2 H3 := g3.tk hP2
    have t36 : TK H3 H6 := (((TK.of_same (same_new (o := .lst [.int 0, .int 1, .int 2, .int 3, .int 4, .int 5]) hl1)).trans (g5.tk hP4)).trans (.of_same s5)).trans (.of_same s6)
    have hg16 := hg1.tk (t23.trans t36)
    have hg26 := hg2.tk t36
    have hP6 := (hP5.mono s5).mono s6
    walk_at "z"
    refine r_lstN (small_len (by simp only [List.length_cons, List.length_nil]; omega)) fun l2 hl2 => ?_
    have s7 : Same H6 (upd H6 l2 (.lst [v1, v2, v3])) := same_new hl2
    have hl27 : (upd H6 l2 (.lst [v1, v2, v3])) l2 = some (.lst [v1, v2, v3]) := upd_same
    have hP7 := hP6.mono s7
    have l2a := (new_ne hP6 hl2).1
    generalize upd H6 l2 (.lst [v1, v2, v3]) = H7 at s7 hl27 hP7 ⊢
    walk_at "z"
    refine ⟨a, s0, 3, rfl, hP7, by omega, by omega, fun r H8 r0 r1 hP8 g8 => ?_⟩
    have hl28 := g8 _ _ l2a hl27
    have t68 : TK H6 H8 := (TK.of_same s7).trans (g8.tk hP7)
    obtain ⟨v, n, ps, hat, hgr, gd, n6⟩ : ∃ (v : V) (n : Nat) (ps : List (Int × Int)), atI [v1, v2, v3] r = some v ∧ GrAt H8 v (n : Int) ps ∧ GoodG (n : Int) ps ∧ n ≤ 6 := by
      have e1 : ((n1.toNat : Nat) : Int) = n1 := by omega
      have e2 : ((n2.toNat : Nat) : Int) = n2 := by omega
      rcases (by omega : r = 0 ∨ r = 1 ∨ r = 2) with rfl | rfl | rfl
      · exact ⟨v1, n1.toNat, p1, rfl, by rw [e1]; exact hg16.tk t68, by rw [e1]; exact gd1, by omega⟩
      · exact ⟨v2, n2.toNat, p2, rfl, by rw [e2]; exact hg26.tk t68, by rw [e2]; exact gd2, by omega⟩
      · exact ⟨v3, 6, p3, rfl, hg3.tk t68, gd3, by omega⟩
    walk_at "z"
    refine ⟨v, n, ps, rfl, hgr, gd, by omega, fun x1 D1 H9 s9 td1 mt1 => ?_⟩
    have hgr9 := hgr.tk (.of_same s9)
    obtain ⟨ga, ea, rfl, hga, hea⟩ := hgr9
    walk_at "z"
    refine r_tupRgN ?_
    walk_at "z"
    refine r_tRgN (by omega) (by omega) fun tm htm => ?_
    have s10 : Same H9 (upd H9 tm (.tup ((rgI (n : Int)).map V.int))) := same_new htm
    have hm10 : (upd H9 tm (.tup ((rgI (n : Int)).map V.int))) tm = some (.tup ((rgI (n : Int)).map V.int)) := upd_same
    generalize upd H9 tm (.tup ((rgI (n : Int)).map V.int)) = H10 at s10 hm10 ⊢
    have hgr10 := hgr.tk (.of_same (s9.trans s10))
    walk_at "z"
    refine ⟨_, n, ps, rfl, hgr10, gd, by omega, fun d1 xs1 rs1 H11 hd10 s11 hd1 px1 as1 ln1 me1 => ?_⟩
    have eM : (fun z => z ∈ rgI (n : Int)) = VN n := funext fun z => propext mem_rgI
    have ll2 := rgI_len (n : Int)
    walk_at "z"
    refine ⟨_, n, ps, tm, d1, rgI (n : Int), xs1, rs1, rfl, hgr10.tk (.of_same s11), gd, by omega, s11 _ _ hm10, rg_asc (n : Int).toNat, by rw [eM]; exact strg_all ⟨0, by have := gd.one; unfold VN; omega⟩, hd1, px1, as1, ln1, me1, by omega, fun x2 D2 H12 s12 td2 mt2 => ?_⟩
    rw [eM] at mt2
    have e := mt_uniq 12 12 mt2 mt1
    subst e
    walk_at "z"
    exact ⟨_, _, D2, rfl, (td1.same ((s10.trans s11).trans s12)).dp, td2.dp, mt_sm (by omega) 12 (fun z hz => hz) mt1, q _⟩
end

set_option Elab.async false
set_option linter.all false
set_option maxRecDepth 100000
set_option maxHeartbeats 4000000
open PySem PySem.Spec PyProof.Rows L2
/-- a def that the top has written -/
def mkDef {K : PySem.W.Frag} {h : Heap} {mg : Str → Option Value} {x : Str} {st : Stmt} {ps : List Str} {f : Addr} {od an : Option Addr} {sl : Array (Option Value)} {oc kV dc pm cd ct : Value} (X : K.In h) (G : h.Ns mainGlobals mg)
    (a : PySem.W.nsIn K mainGlobals x = some (some (.ref f))) (l : K.lookup f = some ⟨oc, od, .func (PySem.W.fnOf x x (defArgs st) (defBody st) (defScope st) .none kV dc pm an cd ct), sl⟩) (c : PySem.W.codeIn K cd x = true) (k : PySem.W.keepIn K (.ref f) = true)
    (b : Binds K (PySem.W.fnOf x x (defArgs st) (defBody st) (defScope st) .none kV dc pm an cd ct) ps []) : DefAt K mg x st ps :=
  ⟨f, PySem.W.fnOf x x (defArgs st) (defBody st) (defScope st) .none kV dc pm an cd ct, fun_mk l c k, b, PySem.W.mg_of X G a⟩
set_option maxHeartbeats 0 in
theorem all_mk {P : Program} {w : World} {K : PySem.W.Frag} {h : Heap} {mg : Str → Option Value} {fa : Addr} (X : K.In h) (G : h.Ns mainGlobals mg) (hfa : mg "law" = some (.ref fa))
    {od0 an0 : Option Addr} {sl0 : Array (Option Value)} {oc0 kV0 dc0 pm0 cd0 ct0 : Value} {f0 : Addr}
    (a0 : PySem.W.nsIn K mainGlobals "neighbour_lists" = some (some (.ref f0))) (l0 : K.lookup f0 = some ⟨oc0, od0, .func (PySem.W.fnOf "neighbour_lists" "neighbour_lists" (defArgs s_neighbour_lists) (defBody s_neighbour_lists) (defScope s_neighbour_lists) .none kV0 dc0 pm0 an0 cd0 ct0), sl0⟩) (c0 : PySem.W.codeIn K cd0 "neighbour_lists" = true) (k0 : PySem.W.keepIn K (.ref f0) = true)
    {od1 an1 : Option Addr} {sl1 : Array (Option Value)} {oc1 kV1 dc1 pm1 cd1 ct1 : Value} {f1 : Addr}
    (a1 : PySem.W.nsIn K mainGlobals "neighbour_masks" = some (some (.ref f1))) (l1 : K.lookup f1 = some ⟨oc1, od1, .func (PySem.W.fnOf "neighbour_masks" "neighbour_masks" (defArgs s_neighbour_masks) (defBody s_neighbour_masks) (defScope s_neighbour_masks) .none kV1 dc1 pm1 an1 cd1 ct1), sl1⟩) (c1 : PySem.W.codeIn K cd1 "neighbour_masks" = true) (k1 : PySem.W.keepIn K (.ref f1) = true)
    {od2 an2 : Option Addr} {sl2 : Array (Option Value)} {oc2 kV2 dc2 pm2 cd2 ct2 : Value} {f2 : Addr}
    (a2 : PySem.W.nsIn K mainGlobals "mask_of" = some (some (.ref f2))) (l2 : K.lookup f2 = some ⟨oc2, od2, .func (PySem.W.fnOf "mask_of" "mask_of" (defArgs s_mask_of) (defBody s_mask_of) (defScope s_mask_of) .none kV2 dc2 pm2 an2 cd2 ct2), sl2⟩) (c2 : PySem.W.codeIn K cd2 "mask_of" = true) (k2 : PySem.W.keepIn K (.ref f2) = true)
    {od3 an3 : Option Addr} {sl3 : Array (Option Value)} {oc3 kV3 dc3 pm3 cd3 ct3 : Value} {f3 : Addr}
    (a3 : PySem.W.nsIn K mainGlobals "members_of" = some (some (.ref f3))) (l3 : K.lookup f3 = some ⟨oc3, od3, .func (PySem.W.fnOf "members_of" "members_of" (defArgs s_members_of) (defBody s_members_of) (defScope s_members_of) .none kV3 dc3 pm3 an3 cd3 ct3), sl3⟩) (c3 : PySem.W.codeIn K cd3 "members_of" = true) (k3 : PySem.W.keepIn K (.ref f3) = true)
    {od4 an4 : Option Addr} {sl4 : Array (Option Value)} {oc4 kV4 dc4 pm4 cd4 ct4 : Value} {f4 : Addr}
    (a4 : PySem.W.nsIn K mainGlobals "near_of" = some (some (.ref f4))) (l4 : K.lookup f4 = some ⟨oc4, od4, .func (PySem.W.fnOf "near_of" "near_of" (defArgs s_near_of) (defBody s_near_of) (defScope s_near_of) .none kV4 dc4 pm4 an4 cd4 ct4), sl4⟩) (c4 : PySem.W.codeIn K cd4 "near_of" = true) (k4 : PySem.W.keepIn K (.ref f4) = true)
    {od5 an5 : Option Addr} {sl5 : Array (Option Value)} {oc5 kV5 dc5 pm5 cd5 ct5 : Value} {f5 : Addr}
    (a5 : PySem.W.nsIn K mainGlobals "parts_of" = some (some (.ref f5))) (l5 : K.lookup f5 = some ⟨oc5, od5, .func (PySem.W.fnOf "parts_of" "parts_of" (defArgs s_parts_of) (defBody s_parts_of) (defScope s_parts_of) .none kV5 dc5 pm5 an5 cd5 ct5), sl5⟩) (c5 : PySem.W.codeIn K cd5 "parts_of" = true) (k5 : PySem.W.keepIn K (.ref f5) = true)
    {od6 an6 : Option Addr} {sl6 : Array (Option Value)} {oc6 kV6 dc6 pm6 cd6 ct6 : Value} {f6 : Addr}
    (a6 : PySem.W.nsIn K mainGlobals "_connected_to" = some (some (.ref f6))) (l6 : K.lookup f6 = some ⟨oc6, od6, .func (PySem.W.fnOf "_connected_to" "_connected_to" (defArgs s_connected_to) (defBody s_connected_to) (defScope s_connected_to) .none kV6 dc6 pm6 an6 cd6 ct6), sl6⟩) (c6 : PySem.W.codeIn K cd6 "_connected_to" = true) (k6 : PySem.W.keepIn K (.ref f6) = true)
    {od7 an7 : Option Addr} {sl7 : Array (Option Value)} {oc7 kV7 dc7 pm7 cd7 ct7 : Value} {f7 : Addr}
    (a7 : PySem.W.nsIn K mainGlobals "full_mask" = some (some (.ref f7))) (l7 : K.lookup f7 = some ⟨oc7, od7, .func (PySem.W.fnOf "full_mask" "full_mask" (defArgs s_full_mask) (defBody s_full_mask) (defScope s_full_mask) .none kV7 dc7 pm7 an7 cd7 ct7), sl7⟩) (c7 : PySem.W.codeIn K cd7 "full_mask" = true) (k7 : PySem.W.keepIn K (.ref f7) = true)
    {od8 an8 : Option Addr} {sl8 : Array (Option Value)} {oc8 kV8 dc8 pm8 cd8 ct8 : Value} {f8 : Addr}
    (a8 : PySem.W.nsIn K mainGlobals "complement" = some (some (.ref f8))) (l8 : K.lookup f8 = some ⟨oc8, od8, .func (PySem.W.fnOf "complement" "complement" (defArgs s_complement) (defBody s_complement) (defScope s_complement) .none kV8 dc8 pm8 an8 cd8 ct8), sl8⟩) (c8 : PySem.W.codeIn K cd8 "complement" = true) (k8 : PySem.W.keepIn K (.ref f8) = true)
    {od9 an9 : Option Addr} {sl9 : Array (Option Value)} {oc9 kV9 dc9 pm9 cd9 ct9 : Value} {f9 : Addr}
    (a9 : PySem.W.nsIn K mainGlobals "_least" = some (some (.ref f9))) (l9 : K.lookup f9 = some ⟨oc9, od9, .func (PySem.W.fnOf "_least" "_least" (defArgs s_least) (defBody s_least) (defScope s_least) .none kV9 dc9 pm9 an9 cd9 ct9), sl9⟩) (c9 : PySem.W.codeIn K cd9 "_least" = true) (k9 : PySem.W.keepIn K (.ref f9) = true)
    {od10 an10 : Option Addr} {sl10 : Array (Option Value)} {oc10 kV10 dc10 pm10 cd10 ct10 : Value} {f10 : Addr}
    (a10 : PySem.W.nsIn K mainGlobals "_parting" = some (some (.ref f10))) (l10 : K.lookup f10 = some ⟨oc10, od10, .func (PySem.W.fnOf "_parting" "_parting" (defArgs s_parting) (defBody s_parting) (defScope s_parting) .none kV10 dc10 pm10 an10 cd10 ct10), sl10⟩) (c10 : PySem.W.codeIn K cd10 "_parting" = true) (k10 : PySem.W.keepIn K (.ref f10) = true)
    {od11 an11 : Option Addr} {sl11 : Array (Option Value)} {oc11 kV11 dc11 pm11 cd11 ct11 : Value} {f11 : Addr}
    (a11 : PySem.W.nsIn K mainGlobals "module_tree" = some (some (.ref f11))) (l11 : K.lookup f11 = some ⟨oc11, od11, .func (PySem.W.fnOf "module_tree" "module_tree" (defArgs s_module_tree) (defBody s_module_tree) (defScope s_module_tree) .none kV11 dc11 pm11 an11 cd11 ct11), sl11⟩) (c11 : PySem.W.codeIn K cd11 "module_tree" = true) (k11 : PySem.W.keepIn K (.ref f11) = true)
    {od12 an12 : Option Addr} {sl12 : Array (Option Value)} {oc12 kV12 dc12 pm12 cd12 ct12 : Value} {f12 : Addr}
    (a12 : PySem.W.nsIn K mainGlobals "_tree" = some (some (.ref f12))) (l12 : K.lookup f12 = some ⟨oc12, od12, .func (PySem.W.fnOf "_tree" "_tree" (defArgs s_tree) (defBody s_tree) (defScope s_tree) .none kV12 dc12 pm12 an12 cd12 ct12), sl12⟩) (c12 : PySem.W.codeIn K cd12 "_tree" = true) (k12 : PySem.W.keepIn K (.ref f12) = true)
    {od13 an13 : Option Addr} {sl13 : Array (Option Value)} {oc13 kV13 dc13 pm13 cd13 ct13 : Value} {f13 : Addr}
    (a13 : PySem.W.nsIn K mainGlobals "_both_tables" = some (some (.ref f13))) (l13 : K.lookup f13 = some ⟨oc13, od13, .func (PySem.W.fnOf "_both_tables" "_both_tables" (defArgs s_both_tables) (defBody s_both_tables) (defScope s_both_tables) .none kV13 dc13 pm13 an13 cd13 ct13), sl13⟩) (c13 : PySem.W.codeIn K cd13 "_both_tables" = true) (k13 : PySem.W.keepIn K (.ref f13) = true)
    {od14 an14 : Option Addr} {sl14 : Array (Option Value)} {oc14 kV14 dc14 pm14 cd14 ct14 : Value} {f14 : Addr}
    (a14 : PySem.W.nsIn K mainGlobals "_largest_inside" = some (some (.ref f14))) (l14 : K.lookup f14 = some ⟨oc14, od14, .func (PySem.W.fnOf "_largest_inside" "_largest_inside" (defArgs s_largest_inside) (defBody s_largest_inside) (defScope s_largest_inside) .none kV14 dc14 pm14 an14 cd14 ct14), sl14⟩) (c14 : PySem.W.codeIn K cd14 "_largest_inside" = true) (k14 : PySem.W.keepIn K (.ref f14) = true)
    {od15 an15 : Option Addr} {sl15 : Array (Option Value)} {oc15 kV15 dc15 pm15 cd15 ct15 : Value} {f15 : Addr}
    (a15 : PySem.W.nsIn K mainGlobals "_prime_parts" = some (some (.ref f15))) (l15 : K.lookup f15 = some ⟨oc15, od15, .func (PySem.W.fnOf "_prime_parts" "_prime_parts" (defArgs s_prime_parts) (defBody s_prime_parts) (defScope s_prime_parts) .none kV15 dc15 pm15 an15 cd15 ct15), sl15⟩) (c15 : PySem.W.codeIn K cd15 "_prime_parts" = true) (k15 : PySem.W.keepIn K (.ref f15) = true)
    {od16 an16 : Option Addr} {sl16 : Array (Option Value)} {oc16 kV16 dc16 pm16 cd16 ct16 : Value} {f16 : Addr}
    (a16 : PySem.W.nsIn K mainGlobals "_law_pool" = some (some (.ref f16))) (l16 : K.lookup f16 = some ⟨oc16, od16, .func (PySem.W.fnOf "_law_pool" "_law_pool" (defArgs s_law_pool) (defBody s_law_pool) (defScope s_law_pool) .none kV16 dc16 pm16 an16 cd16 ct16), sl16⟩) (c16 : PySem.W.codeIn K cd16 "_law_pool" = true) (k16 : PySem.W.keepIn K (.ref f16) = true)
    {od17 an17 : Option Addr} {sl17 : Array (Option Value)} {oc17 kV17 dc17 pm17 cd17 ct17 : Value} {f17 : Addr}
    (a17 : PySem.W.nsIn K mainGlobals "_law_spread" = some (some (.ref f17))) (l17 : K.lookup f17 = some ⟨oc17, od17, .func (PySem.W.fnOf "_law_spread" "_law_spread" (defArgs s_law_spread) (defBody s_law_spread) (defScope s_law_spread) .none kV17 dc17 pm17 an17 cd17 ct17), sl17⟩) (c17 : PySem.W.codeIn K cd17 "_law_spread" = true) (k17 : PySem.W.keepIn K (.ref f17) = true)
    {od18 an18 : Option Addr} {sl18 : Array (Option Value)} {oc18 kV18 dc18 pm18 cd18 ct18 : Value} {f18 : Addr}
    (a18 : PySem.W.nsIn K mainGlobals "_law_draw" = some (some (.ref f18))) (l18 : K.lookup f18 = some ⟨oc18, od18, .func (PySem.W.fnOf "_law_draw" "_law_draw" (defArgs s_law_draw) (defBody s_law_draw) (defScope s_law_draw) .none kV18 dc18 pm18 an18 cd18 ct18), sl18⟩) (c18 : PySem.W.codeIn K cd18 "_law_draw" = true) (k18 : PySem.W.keepIn K (.ref f18) = true)
    {od19 an19 : Option Addr} {sl19 : Array (Option Value)} {oc19 kV19 dc19 pm19 cd19 ct19 : Value} {f19 : Addr}
    (a19 : PySem.W.nsIn K mainGlobals "_law_same" = some (some (.ref f19))) (l19 : K.lookup f19 = some ⟨oc19, od19, .func (PySem.W.fnOf "_law_same" "_law_same" (defArgs s_law_same) (defBody s_law_same) (defScope s_law_same) .none kV19 dc19 pm19 an19 cd19 ct19), sl19⟩) (c19 : PySem.W.codeIn K cd19 "_law_same" = true) (k19 : PySem.W.keepIn K (.ref f19) = true)
    {od20 an20 : Option Addr} {sl20 : Array (Option Value)} {oc20 kV20 dc20 pm20 cd20 ct20 : Value} {f20 : Addr}
    (a20 : PySem.W.nsIn K mainGlobals "_law_distinct" = some (some (.ref f20))) (l20 : K.lookup f20 = some ⟨oc20, od20, .func (PySem.W.fnOf "_law_distinct" "_law_distinct" (defArgs s_law_distinct) (defBody s_law_distinct) (defScope s_law_distinct) .none kV20 dc20 pm20 an20 cd20 ct20), sl20⟩) (c20 : PySem.W.codeIn K cd20 "_law_distinct" = true) (k20 : PySem.W.keepIn K (.ref f20) = true)
    {od21 an21 : Option Addr} {sl21 : Array (Option Value)} {oc21 kV21 dc21 pm21 cd21 ct21 : Value} {f21 : Addr}
    (a21 : PySem.W.nsIn K mainGlobals "_law_pairs" = some (some (.ref f21))) (l21 : K.lookup f21 = some ⟨oc21, od21, .func (PySem.W.fnOf "_law_pairs" "_law_pairs" (defArgs s_law_pairs) (defBody s_law_pairs) (defScope s_law_pairs) .none kV21 dc21 pm21 an21 cd21 ct21), sl21⟩) (c21 : PySem.W.codeIn K cd21 "_law_pairs" = true) (k21 : PySem.W.keepIn K (.ref f21) = true)
    {od22 an22 : Option Addr} {sl22 : Array (Option Value)} {oc22 kV22 dc22 pm22 cd22 ct22 : Value} {f22 : Addr}
    (a22 : PySem.W.nsIn K mainGlobals "_law_of" = some (some (.ref f22))) (l22 : K.lookup f22 = some ⟨oc22, od22, .func (PySem.W.fnOf "_law_of" "_law_of" (defArgs s_law_of) (defBody s_law_of) (defScope s_law_of) .none kV22 dc22 pm22 an22 cd22 ct22), sl22⟩) (c22 : PySem.W.codeIn K cd22 "_law_of" = true) (k22 : PySem.W.keepIn K (.ref f22) = true)
    {od23 an23 : Option Addr} {sl23 : Array (Option Value)} {oc23 kV23 dc23 pm23 cd23 ct23 : Value} {f23 : Addr}
    (a23 : PySem.W.nsIn K mainGlobals "_law_met" = some (some (.ref f23))) (l23 : K.lookup f23 = some ⟨oc23, od23, .func (PySem.W.fnOf "_law_met" "_law_met" (defArgs s_law_met) (defBody s_law_met) (defScope s_law_met) .none kV23 dc23 pm23 an23 cd23 ct23), sl23⟩) (c23 : PySem.W.codeIn K cd23 "_law_met" = true) (k23 : PySem.W.keepIn K (.ref f23) = true)
    {od24 an24 : Option Addr} {sl24 : Array (Option Value)} {oc24 kV24 dc24 pm24 cd24 ct24 : Value} {f24 : Addr}
    (a24 : PySem.W.nsIn K mainGlobals "_law_near" = some (some (.ref f24))) (l24 : K.lookup f24 = some ⟨oc24, od24, .func (PySem.W.fnOf "_law_near" "_law_near" (defArgs s_law_near) (defBody s_law_near) (defScope s_law_near) .none kV24 dc24 pm24 an24 cd24 ct24), sl24⟩) (c24 : PySem.W.codeIn K cd24 "_law_near" = true) (k24 : PySem.W.keepIn K (.ref f24) = true)
    {od25 an25 : Option Addr} {sl25 : Array (Option Value)} {oc25 kV25 dc25 pm25 cd25 ct25 : Value} {f25 : Addr}
    (a25 : PySem.W.nsIn K mainGlobals "_law_shuffled" = some (some (.ref f25))) (l25 : K.lookup f25 = some ⟨oc25, od25, .func (PySem.W.fnOf "_law_shuffled" "_law_shuffled" (defArgs s_law_shuffled) (defBody s_law_shuffled) (defScope s_law_shuffled) .none kV25 dc25 pm25 an25 cd25 ct25), sl25⟩) (c25 : PySem.W.codeIn K cd25 "_law_shuffled" = true) (k25 : PySem.W.keepIn K (.ref f25) = true)
    {od26 an26 : Option Addr} {sl26 : Array (Option Value)} {oc26 kV26 dc26 pm26 cd26 ct26 : Value} {f26 : Addr}
    (a26 : PySem.W.nsIn K mainGlobals "_law_moved" = some (some (.ref f26))) (l26 : K.lookup f26 = some ⟨oc26, od26, .func (PySem.W.fnOf "_law_moved" "_law_moved" (defArgs s_law_moved) (defBody s_law_moved) (defScope s_law_moved) .none kV26 dc26 pm26 an26 cd26 ct26), sl26⟩) (c26 : PySem.W.codeIn K cd26 "_law_moved" = true) (k26 : PySem.W.keepIn K (.ref f26) = true)
    {od27 an27 : Option Addr} {sl27 : Array (Option Value)} {oc27 kV27 dc27 pm27 cd27 ct27 : Value} {f27 : Addr}
    (a27 : PySem.W.nsIn K mainGlobals "_law_other" = some (some (.ref f27))) (l27 : K.lookup f27 = some ⟨oc27, od27, .func (PySem.W.fnOf "_law_other" "_law_other" (defArgs s_law_other) (defBody s_law_other) (defScope s_law_other) .none kV27 dc27 pm27 an27 cd27 ct27), sl27⟩) (c27 : PySem.W.codeIn K cd27 "_law_other" = true) (k27 : PySem.W.keepIn K (.ref f27) = true)
    {od28 an28 : Option Addr} {sl28 : Array (Option Value)} {oc28 kV28 dc28 pm28 cd28 ct28 : Value} {f28 : Addr}
    (a28 : PySem.W.nsIn K mainGlobals "_law_part" = some (some (.ref f28))) (l28 : K.lookup f28 = some ⟨oc28, od28, .func (PySem.W.fnOf "_law_part" "_law_part" (defArgs s_law_part) (defBody s_law_part) (defScope s_law_part) .none kV28 dc28 pm28 an28 cd28 ct28), sl28⟩) (c28 : PySem.W.codeIn K cd28 "_law_part" = true) (k28 : PySem.W.keepIn K (.ref f28) = true)
    {od29 an29 : Option Addr} {sl29 : Array (Option Value)} {oc29 kV29 dc29 pm29 cd29 ct29 : Value} {f29 : Addr}
    (a29 : PySem.W.nsIn K mainGlobals "_law_random_graph" = some (some (.ref f29))) (l29 : K.lookup f29 = some ⟨oc29, od29, .func (PySem.W.fnOf "_law_random_graph" "_law_random_graph" (defArgs s_law_random_graph) (defBody s_law_random_graph) (defScope s_law_random_graph) .none kV29 dc29 pm29 an29 cd29 ct29), sl29⟩) (c29 : PySem.W.codeIn K cd29 "_law_random_graph" = true) (k29 : PySem.W.keepIn K (.ref f29) = true)
    {od30 an30 : Option Addr} {sl30 : Array (Option Value)} {oc30 kV30 dc30 pm30 cd30 ct30 : Value} {f30 : Addr}
    (a30 : PySem.W.nsIn K mainGlobals "_law_interval_rows" = some (some (.ref f30))) (l30 : K.lookup f30 = some ⟨oc30, od30, .func (PySem.W.fnOf "_law_interval_rows" "_law_interval_rows" (defArgs s_law_interval_rows) (defBody s_law_interval_rows) (defScope s_law_interval_rows) .none kV30 dc30 pm30 an30 cd30 ct30), sl30⟩) (c30 : PySem.W.codeIn K cd30 "_law_interval_rows" = true) (k30 : PySem.W.keepIn K (.ref f30) = true)
    {od31 an31 : Option Addr} {sl31 : Array (Option Value)} {oc31 kV31 dc31 pm31 cd31 ct31 : Value} {f31 : Addr}
    (a31 : PySem.W.nsIn K mainGlobals "_law_interval_graph" = some (some (.ref f31))) (l31 : K.lookup f31 = some ⟨oc31, od31, .func (PySem.W.fnOf "_law_interval_graph" "_law_interval_graph" (defArgs s_law_interval_graph) (defBody s_law_interval_graph) (defScope s_law_interval_graph) .none kV31 dc31 pm31 an31 cd31 ct31), sl31⟩) (c31 : PySem.W.codeIn K cd31 "_law_interval_graph" = true) (k31 : PySem.W.keepIn K (.ref f31) = true)
    {od32 an32 : Option Addr} {sl32 : Array (Option Value)} {oc32 kV32 dc32 pm32 cd32 ct32 : Value} {f32 : Addr}
    (a32 : PySem.W.nsIn K mainGlobals "_law_turned_graph" = some (some (.ref f32))) (l32 : K.lookup f32 = some ⟨oc32, od32, .func (PySem.W.fnOf "_law_turned_graph" "_law_turned_graph" (defArgs s_law_turned_graph) (defBody s_law_turned_graph) (defScope s_law_turned_graph) .none kV32 dc32 pm32 an32 cd32 ct32), sl32⟩) (c32 : PySem.W.codeIn K cd32 "_law_turned_graph" = true) (k32 : PySem.W.keepIn K (.ref f32) = true)
    {od33 an33 : Option Addr} {sl33 : Array (Option Value)} {oc33 kV33 dc33 pm33 cd33 ct33 : Value} {f33 : Addr}
    (a33 : PySem.W.nsIn K mainGlobals "_law_ordered_graph" = some (some (.ref f33))) (l33 : K.lookup f33 = some ⟨oc33, od33, .func (PySem.W.fnOf "_law_ordered_graph" "_law_ordered_graph" (defArgs s_law_ordered_graph) (defBody s_law_ordered_graph) (defScope s_law_ordered_graph) .none kV33 dc33 pm33 an33 cd33 ct33), sl33⟩) (c33 : PySem.W.codeIn K cd33 "_law_ordered_graph" = true) (k33 : PySem.W.keepIn K (.ref f33) = true)
    {od34 an34 : Option Addr} {sl34 : Array (Option Value)} {oc34 kV34 dc34 pm34 cd34 ct34 : Value} {f34 : Addr}
    (a34 : PySem.W.nsIn K mainGlobals "_law_clique_graph" = some (some (.ref f34))) (l34 : K.lookup f34 = some ⟨oc34, od34, .func (PySem.W.fnOf "_law_clique_graph" "_law_clique_graph" (defArgs s_law_clique_graph) (defBody s_law_clique_graph) (defScope s_law_clique_graph) .none kV34 dc34 pm34 an34 cd34 ct34), sl34⟩) (c34 : PySem.W.codeIn K cd34 "_law_clique_graph" = true) (k34 : PySem.W.keepIn K (.ref f34) = true)
    {od35 an35 : Option Addr} {sl35 : Array (Option Value)} {oc35 kV35 dc35 pm35 cd35 ct35 : Value} {f35 : Addr}
    (a35 : PySem.W.nsIn K mainGlobals "_law_drawn_tree" = some (some (.ref f35))) (l35 : K.lookup f35 = some ⟨oc35, od35, .func (PySem.W.fnOf "_law_drawn_tree" "_law_drawn_tree" (defArgs s_law_drawn_tree) (defBody s_law_drawn_tree) (defScope s_law_drawn_tree) .none kV35 dc35 pm35 an35 cd35 ct35), sl35⟩) (c35 : PySem.W.codeIn K cd35 "_law_drawn_tree" = true) (k35 : PySem.W.keepIn K (.ref f35) = true)
    {od36 an36 : Option Addr} {sl36 : Array (Option Value)} {oc36 kV36 dc36 pm36 cd36 ct36 : Value} {f36 : Addr}
    (a36 : PySem.W.nsIn K mainGlobals "_law_leaves" = some (some (.ref f36))) (l36 : K.lookup f36 = some ⟨oc36, od36, .func (PySem.W.fnOf "_law_leaves" "_law_leaves" (defArgs s_law_leaves) (defBody s_law_leaves) (defScope s_law_leaves) .none kV36 dc36 pm36 an36 cd36 ct36), sl36⟩) (c36 : PySem.W.codeIn K cd36 "_law_leaves" = true) (k36 : PySem.W.keepIn K (.ref f36) = true)
    {od37 an37 : Option Addr} {sl37 : Array (Option Value)} {oc37 kV37 dc37 pm37 cd37 ct37 : Value} {f37 : Addr}
    (a37 : PySem.W.nsIn K mainGlobals "_law_tree_pairs" = some (some (.ref f37))) (l37 : K.lookup f37 = some ⟨oc37, od37, .func (PySem.W.fnOf "_law_tree_pairs" "_law_tree_pairs" (defArgs s_law_tree_pairs) (defBody s_law_tree_pairs) (defScope s_law_tree_pairs) .none kV37 dc37 pm37 an37 cd37 ct37), sl37⟩) (c37 : PySem.W.codeIn K cd37 "_law_tree_pairs" = true) (k37 : PySem.W.keepIn K (.ref f37) = true)
    {od38 an38 : Option Addr} {sl38 : Array (Option Value)} {oc38 kV38 dc38 pm38 cd38 ct38 : Value} {f38 : Addr}
    (a38 : PySem.W.nsIn K mainGlobals "_law_graph" = some (some (.ref f38))) (l38 : K.lookup f38 = some ⟨oc38, od38, .func (PySem.W.fnOf "_law_graph" "_law_graph" (defArgs s_law_graph) (defBody s_law_graph) (defScope s_law_graph) .none kV38 dc38 pm38 an38 cd38 ct38), sl38⟩) (c38 : PySem.W.codeIn K cd38 "_law_graph" = true) (k38 : PySem.W.keepIn K (.ref f38) = true)
    {od39 an39 : Option Addr} {sl39 : Array (Option Value)} {oc39 kV39 dc39 pm39 cd39 ct39 : Value} {f39 : Addr}
    (a39 : PySem.W.nsIn K mainGlobals "_law_subsets" = some (some (.ref f39))) (l39 : K.lookup f39 = some ⟨oc39, od39, .func (PySem.W.fnOf "_law_subsets" "_law_subsets" (defArgs s_law_subsets) (defBody s_law_subsets) (defScope s_law_subsets) .none kV39 dc39 pm39 an39 cd39 ct39), sl39⟩) (c39 : PySem.W.codeIn K cd39 "_law_subsets" = true) (k39 : PySem.W.keepIn K (.ref f39) = true)
    {od40 an40 : Option Addr} {sl40 : Array (Option Value)} {oc40 kV40 dc40 pm40 cd40 ct40 : Value} {f40 : Addr}
    (a40 : PySem.W.nsIn K mainGlobals "_law_splits" = some (some (.ref f40))) (l40 : K.lookup f40 = some ⟨oc40, od40, .func (PySem.W.fnOf "_law_splits" "_law_splits" (defArgs s_law_splits) (defBody s_law_splits) (defScope s_law_splits) .none kV40 dc40 pm40 an40 cd40 ct40), sl40⟩) (c40 : PySem.W.codeIn K cd40 "_law_splits" = true) (k40 : PySem.W.keepIn K (.ref f40) = true)
    {od41 an41 : Option Addr} {sl41 : Array (Option Value)} {oc41 kV41 dc41 pm41 cd41 ct41 : Value} {f41 : Addr}
    (a41 : PySem.W.nsIn K mainGlobals "_law_is_module" = some (some (.ref f41))) (l41 : K.lookup f41 = some ⟨oc41, od41, .func (PySem.W.fnOf "_law_is_module" "_law_is_module" (defArgs s_law_is_module) (defBody s_law_is_module) (defScope s_law_is_module) .none kV41 dc41 pm41 an41 cd41 ct41), sl41⟩) (c41 : PySem.W.codeIn K cd41 "_law_is_module" = true) (k41 : PySem.W.keepIn K (.ref f41) = true)
    {od42 an42 : Option Addr} {sl42 : Array (Option Value)} {oc42 kV42 dc42 pm42 cd42 ct42 : Value} {f42 : Addr}
    (a42 : PySem.W.nsIn K mainGlobals "_law_modules" = some (some (.ref f42))) (l42 : K.lookup f42 = some ⟨oc42, od42, .func (PySem.W.fnOf "_law_modules" "_law_modules" (defArgs s_law_modules) (defBody s_law_modules) (defScope s_law_modules) .none kV42 dc42 pm42 an42 cd42 ct42), sl42⟩) (c42 : PySem.W.codeIn K cd42 "_law_modules" = true) (k42 : PySem.W.keepIn K (.ref f42) = true)
    {od43 an43 : Option Addr} {sl43 : Array (Option Value)} {oc43 kV43 dc43 pm43 cd43 ct43 : Value} {f43 : Addr}
    (a43 : PySem.W.nsIn K mainGlobals "_law_strong" = some (some (.ref f43))) (l43 : K.lookup f43 = some ⟨oc43, od43, .func (PySem.W.fnOf "_law_strong" "_law_strong" (defArgs s_law_strong) (defBody s_law_strong) (defScope s_law_strong) .none kV43 dc43 pm43 an43 cd43 ct43), sl43⟩) (c43 : PySem.W.codeIn K cd43 "_law_strong" = true) (k43 : PySem.W.keepIn K (.ref f43) = true)
    {od44 an44 : Option Addr} {sl44 : Array (Option Value)} {oc44 kV44 dc44 pm44 cd44 ct44 : Value} {f44 : Addr}
    (a44 : PySem.W.nsIn K mainGlobals "_law_tree_of" = some (some (.ref f44))) (l44 : K.lookup f44 = some ⟨oc44, od44, .func (PySem.W.fnOf "_law_tree_of" "_law_tree_of" (defArgs s_law_tree_of) (defBody s_law_tree_of) (defScope s_law_tree_of) .none kV44 dc44 pm44 an44 cd44 ct44), sl44⟩) (c44 : PySem.W.codeIn K cd44 "_law_tree_of" = true) (k44 : PySem.W.keepIn K (.ref f44) = true)
    {od45 an45 : Option Addr} {sl45 : Array (Option Value)} {oc45 kV45 dc45 pm45 cd45 ct45 : Value} {f45 : Addr}
    (a45 : PySem.W.nsIn K mainGlobals "_law_substituted" = some (some (.ref f45))) (l45 : K.lookup f45 = some ⟨oc45, od45, .func (PySem.W.fnOf "_law_substituted" "_law_substituted" (defArgs s_law_substituted) (defBody s_law_substituted) (defScope s_law_substituted) .none kV45 dc45 pm45 an45 cd45 ct45), sl45⟩) (c45 : PySem.W.codeIn K cd45 "_law_substituted" = true) (k45 : PySem.W.keepIn K (.ref f45) = true)
    {od46 an46 : Option Addr} {sl46 : Array (Option Value)} {oc46 kV46 dc46 pm46 cd46 ct46 : Value} {f46 : Addr}
    (a46 : PySem.W.nsIn K mainGlobals "_law_ringed" = some (some (.ref f46))) (l46 : K.lookup f46 = some ⟨oc46, od46, .func (PySem.W.fnOf "_law_ringed" "_law_ringed" (defArgs s_law_ringed) (defBody s_law_ringed) (defScope s_law_ringed) .none kV46 dc46 pm46 an46 cd46 ct46), sl46⟩) (c46 : PySem.W.codeIn K cd46 "_law_ringed" = true) (k46 : PySem.W.keepIn K (.ref f46) = true)
    {od47 an47 : Option Addr} {sl47 : Array (Option Value)} {oc47 kV47 dc47 pm47 cd47 ct47 : Value} {f47 : Addr}
    (a47 : PySem.W.nsIn K mainGlobals "law" = some (some (.ref f47))) (l47 : K.lookup f47 = some ⟨oc47, od47, .func (PySem.W.fnOf "law" "law" (defArgs s_law) (defBody s_law) (defScope s_law) .none kV47 dc47 pm47 an47 cd47 ct47), sl47⟩) (c47 : PySem.W.codeIn K cd47 "law" = true) (k47 : PySem.W.keepIn K (.ref f47) = true)
    {tk_UNION : Tok} (sv_UNION : PySem.W.nsIn K mainGlobals "UNION" = some (some (.str "union" tk_UNION)))
    {tk_JOIN : Tok} (sv_JOIN : PySem.W.nsIn K mainGlobals "JOIN" = some (some (.str "join" tk_JOIN)))
    {tk_PRIME : Tok} (sv_PRIME : PySem.W.nsIn K mainGlobals "PRIME" = some (some (.str "prime" tk_PRIME)))
    (z_len : PySem.W.nsIn K mainGlobals "len" = some none)
    (z_range : PySem.W.nsIn K mainGlobals "range" = some none)
    (z_list : PySem.W.nsIn K mainGlobals "list" = some none)
    (z_tuple : PySem.W.nsIn K mainGlobals "tuple" = some none)
    (z_int : PySem.W.nsIn K mainGlobals "int" = some none)
    (z_min : PySem.W.nsIn K mainGlobals "min" = some none)
    (z_max : PySem.W.nsIn K mainGlobals "max" = some none)
    (z_sorted : PySem.W.nsIn K mainGlobals "sorted" = some none)
    (z_isinstance : PySem.W.nsIn K mainGlobals "isinstance" = some none)
    (z_bool : PySem.W.nsIn K mainGlobals "bool" = some none)
    (z_str : PySem.W.nsIn K mainGlobals "str" = some none)
    (z_enumerate : PySem.W.nsIn K mainGlobals "enumerate" = some none)
    (z_all : PySem.W.nsIn K mainGlobals "all" = some none)
    (z_set : PySem.W.nsIn K mainGlobals "set" = some none) :
    ∃ fd : FuncData, (∀ (s : Shared) (v : Value), BindsTo s fd ⟨[v], []⟩ [("script", v)]) ∧ ∀ base : Heap, K.In base → base.Ns mainGlobals mg → FnOk P w K mg base CX0 64 fa fd ["script"] (spLaw K) := by
  have e := hfa.symm.trans (PySem.W.mg_of X G a47)
  cases e
  have T : Blt mg := ⟨PySem.W.mg_none_of X G z_len, PySem.W.mg_none_of X G z_range, PySem.W.mg_none_of X G z_list, PySem.W.mg_none_of X G z_tuple, PySem.W.mg_none_of X G z_int, PySem.W.mg_none_of X G z_min, PySem.W.mg_none_of X G z_max, PySem.W.mg_none_of X G z_sorted, PySem.W.mg_none_of X G z_isinstance, PySem.W.mg_none_of X G z_bool, PySem.W.mg_none_of X G z_str, PySem.W.mg_none_of X G z_enumerate⟩
  have D_neighbour_lists : DefAt K mg "neighbour_lists" s_neighbour_lists ["graph"] := mkDef X G a0 l0 c0 k0 ((fun_mk (st := s_neighbour_lists) l0 c0 k0).binds (ps := ["graph"]) fun _ _ _ _ _ _ us hl => match us, hl with | [_], _ => rfl)
  have D_neighbour_masks : DefAt K mg "neighbour_masks" s_neighbour_masks ["graph"] := mkDef X G a1 l1 c1 k1 ((fun_mk (st := s_neighbour_masks) l1 c1 k1).binds (ps := ["graph"]) fun _ _ _ _ _ _ us hl => match us, hl with | [_], _ => rfl)
  have D_mask_of : DefAt K mg "mask_of" s_mask_of ["members"] := mkDef X G a2 l2 c2 k2 ((fun_mk (st := s_mask_of) l2 c2 k2).binds (ps := ["members"]) fun _ _ _ _ _ _ us hl => match us, hl with | [_], _ => rfl)
  have D_members_of : DefAt K mg "members_of" s_members_of ["mask"] := mkDef X G a3 l3 c3 k3 ((fun_mk (st := s_members_of) l3 c3 k3).binds (ps := ["mask"]) fun _ _ _ _ _ _ us hl => match us, hl with | [_], _ => rfl)
  have D_near_of : DefAt K mg "near_of" s_near_of ["around", "mask"] := mkDef X G a4 l4 c4 k4 ((fun_mk (st := s_near_of) l4 c4 k4).binds (ps := ["around", "mask"]) fun _ _ _ _ _ _ us hl => match us, hl with | [_, _], _ => rfl)
  have D_parts_of : DefAt K mg "parts_of" s_parts_of ["around", "mask"] := mkDef X G a5 l5 c5 k5 ((fun_mk (st := s_parts_of) l5 c5 k5).binds (ps := ["around", "mask"]) fun _ _ _ _ _ _ us hl => match us, hl with | [_, _], _ => rfl)
  have D_connected_to : DefAt K mg "_connected_to" s_connected_to ["around", "mask"] := mkDef X G a6 l6 c6 k6 ((fun_mk (st := s_connected_to) l6 c6 k6).binds (ps := ["around", "mask"]) fun _ _ _ _ _ _ us hl => match us, hl with | [_, _], _ => rfl)
  have D_full_mask : DefAt K mg "full_mask" s_full_mask ["n"] := mkDef X G a7 l7 c7 k7 ((fun_mk (st := s_full_mask) l7 c7 k7).binds (ps := ["n"]) fun _ _ _ _ _ _ us hl => match us, hl with | [_], _ => rfl)
  have D_complement : DefAt K mg "complement" s_complement ["graph"] := mkDef X G a8 l8 c8 k8 ((fun_mk (st := s_complement) l8 c8 k8).binds (ps := ["graph"]) fun _ _ _ _ _ _ us hl => match us, hl with | [_], _ => rfl)
  have D_least : DefAt K mg "_least" s_least ["around", "whole", "mask"] := mkDef X G a9 l9 c9 k9 ((fun_mk (st := s_least) l9 c9 k9).binds (ps := ["around", "whole", "mask"]) fun _ _ _ _ _ _ us hl => match us, hl with | [_, _, _], _ => rfl)
  have D_parting : DefAt K mg "_parting" s_parting ["around", "whole", "mask"] := mkDef X G a10 l10 c10 k10 ((fun_mk (st := s_parting) l10 c10 k10).binds (ps := ["around", "whole", "mask"]) fun _ _ _ _ _ _ us hl => match us, hl with | [_, _, _], _ => rfl)
  have D_module_tree : DefAt K mg "module_tree" s_module_tree ["graph"] := mkDef X G a11 l11 c11 k11 ((fun_mk (st := s_module_tree) l11 c11 k11).binds (ps := ["graph"]) fun _ _ _ _ _ _ us hl => match us, hl with | [_], _ => rfl)
  have D_tree : DefAt K mg "_tree" s_tree ["tables", "mask"] := mkDef X G a12 l12 c12 k12 ((fun_mk (st := s_tree) l12 c12 k12).binds (ps := ["tables", "mask"]) fun _ _ _ _ _ _ us hl => match us, hl with | [_, _], _ => rfl)
  have D_both_tables : DefAt K mg "_both_tables" s_both_tables ["graph"] := mkDef X G a13 l13 c13 k13 ((fun_mk (st := s_both_tables) l13 c13 k13).binds (ps := ["graph"]) fun _ _ _ _ _ _ us hl => match us, hl with | [_], _ => rfl)
  have D_largest_inside : DefAt K mg "_largest_inside" s_largest_inside ["tables", "mask"] := mkDef X G a14 l14 c14 k14 ((fun_mk (st := s_largest_inside) l14 c14 k14).binds (ps := ["tables", "mask"]) fun _ _ _ _ _ _ us hl => match us, hl with | [_, _], _ => rfl)
  have D_prime_parts : DefAt K mg "_prime_parts" s_prime_parts ["around", "mask"] := mkDef X G a15 l15 c15 k15 ((fun_mk (st := s_prime_parts) l15 c15 k15).binds (ps := ["around", "mask"]) fun _ _ _ _ _ _ us hl => match us, hl with | [_, _], _ => rfl)
  have D_law_pool : DefAt K mg "_law_pool" s_law_pool ["script"] := mkDef X G a16 l16 c16 k16 ((fun_mk (st := s_law_pool) l16 c16 k16).binds (ps := ["script"]) fun _ _ _ _ _ _ us hl => match us, hl with | [_], _ => rfl)
  have D_law_spread : DefAt K mg "_law_spread" s_law_spread ["cell"] := mkDef X G a17 l17 c17 k17 ((fun_mk (st := s_law_spread) l17 c17 k17).binds (ps := ["cell"]) fun _ _ _ _ _ _ us hl => match us, hl with | [_], _ => rfl)
  have D_law_draw : DefAt K mg "_law_draw" s_law_draw ["pool", "many"] := mkDef X G a18 l18 c18 k18 ((fun_mk (st := s_law_draw) l18 c18 k18).binds (ps := ["pool", "many"]) fun _ _ _ _ _ _ us hl => match us, hl with | [_, _], _ => rfl)
  have D_law_same : DefAt K mg "_law_same" s_law_same ["actual", "due"] := mkDef X G a19 l19 c19 k19 ((fun_mk (st := s_law_same) l19 c19 k19).binds (ps := ["actual", "due"]) fun _ _ _ _ _ _ us hl => match us, hl with | [_, _], _ => rfl)
  have D_law_distinct : DefAt K mg "_law_distinct" s_law_distinct ["rows"] := mkDef X G a20 l20 c20 k20 ((fun_mk (st := s_law_distinct) l20 c20 k20).binds (ps := ["rows"]) fun _ _ _ _ _ _ us hl => match us, hl with | [_], _ => rfl)
  have D_law_pairs : DefAt K mg "_law_pairs" s_law_pairs ["n"] := mkDef X G a21 l21 c21 k21 ((fun_mk (st := s_law_pairs) l21 c21 k21).binds (ps := ["n"]) fun _ _ _ _ _ _ us hl => match us, hl with | [_], _ => rfl)
  have D_law_of : DefAt K mg "_law_of" s_law_of ["n", "pairs"] := mkDef X G a22 l22 c22 k22 ((fun_mk (st := s_law_of) l22 c22 k22).binds (ps := ["n", "pairs"]) fun _ _ _ _ _ _ us hl => match us, hl with | [_, _], _ => rfl)
  have D_law_met : DefAt K mg "_law_met" s_law_met ["graph", "u", "v"] := mkDef X G a23 l23 c23 k23 ((fun_mk (st := s_law_met) l23 c23 k23).binds (ps := ["graph", "u", "v"]) fun _ _ _ _ _ _ us hl => match us, hl with | [_, _, _], _ => rfl)
  have D_law_near : DefAt K mg "_law_near" s_law_near ["graph", "v"] := mkDef X G a24 l24 c24 k24 ((fun_mk (st := s_law_near) l24 c24 k24).binds (ps := ["graph", "v"]) fun _ _ _ _ _ _ us hl => match us, hl with | [_, _], _ => rfl)
  have D_law_shuffled : DefAt K mg "_law_shuffled" s_law_shuffled ["pool", "items"] := mkDef X G a25 l25 c25 k25 ((fun_mk (st := s_law_shuffled) l25 c25 k25).binds (ps := ["pool", "items"]) fun _ _ _ _ _ _ us hl => match us, hl with | [_, _], _ => rfl)
  have D_law_moved : DefAt K mg "_law_moved" s_law_moved ["graph", "order"] := mkDef X G a26 l26 c26 k26 ((fun_mk (st := s_law_moved) l26 c26 k26).binds (ps := ["graph", "order"]) fun _ _ _ _ _ _ us hl => match us, hl with | [_, _], _ => rfl)
  have D_law_other : DefAt K mg "_law_other" s_law_other ["graph"] := mkDef X G a27 l27 c27 k27 ((fun_mk (st := s_law_other) l27 c27 k27).binds (ps := ["graph"]) fun _ _ _ _ _ _ us hl => match us, hl with | [_], _ => rfl)
  have D_law_part : DefAt K mg "_law_part" s_law_part ["graph", "members"] := mkDef X G a28 l28 c28 k28 ((fun_mk (st := s_law_part) l28 c28 k28).binds (ps := ["graph", "members"]) fun _ _ _ _ _ _ us hl => match us, hl with | [_, _], _ => rfl)
  have D_law_random_graph : DefAt K mg "_law_random_graph" s_law_random_graph ["pool", "most"] := mkDef X G a29 l29 c29 k29 ((fun_mk (st := s_law_random_graph) l29 c29 k29).binds (ps := ["pool", "most"]) fun _ _ _ _ _ _ us hl => match us, hl with | [_, _], _ => rfl)
  have D_law_interval_rows : DefAt K mg "_law_interval_rows" s_law_interval_rows ["pool", "n"] := mkDef X G a30 l30 c30 k30 ((fun_mk (st := s_law_interval_rows) l30 c30 k30).binds (ps := ["pool", "n"]) fun _ _ _ _ _ _ us hl => match us, hl with | [_, _], _ => rfl)
  have D_law_interval_graph : DefAt K mg "_law_interval_graph" s_law_interval_graph ["rows"] := mkDef X G a31 l31 c31 k31 ((fun_mk (st := s_law_interval_graph) l31 c31 k31).binds (ps := ["rows"]) fun _ _ _ _ _ _ us hl => match us, hl with | [_], _ => rfl)
  have D_law_turned_graph : DefAt K mg "_law_turned_graph" s_law_turned_graph ["one", "two"] := mkDef X G a32 l32 c32 k32 ((fun_mk (st := s_law_turned_graph) l32 c32 k32).binds (ps := ["one", "two"]) fun _ _ _ _ _ _ us hl => match us, hl with | [_, _], _ => rfl)
  have D_law_ordered_graph : DefAt K mg "_law_ordered_graph" s_law_ordered_graph ["pool", "n"] := mkDef X G a33 l33 c33 k33 ((fun_mk (st := s_law_ordered_graph) l33 c33 k33).binds (ps := ["pool", "n"]) fun _ _ _ _ _ _ us hl => match us, hl with | [_, _], _ => rfl)
  have D_law_clique_graph : DefAt K mg "_law_clique_graph" s_law_clique_graph ["pool", "n"] := mkDef X G a34 l34 c34 k34 ((fun_mk (st := s_law_clique_graph) l34 c34 k34).binds (ps := ["pool", "n"]) fun _ _ _ _ _ _ us hl => match us, hl with | [_, _], _ => rfl)
  have D_law_drawn_tree : DefAt K mg "_law_drawn_tree" s_law_drawn_tree ["pool", "leaves"] := mkDef X G a35 l35 c35 k35 ((fun_mk (st := s_law_drawn_tree) l35 c35 k35).binds (ps := ["pool", "leaves"]) fun _ _ _ _ _ _ us hl => match us, hl with | [_, _], _ => rfl)
  have D_law_leaves : DefAt K mg "_law_leaves" s_law_leaves ["tree"] := mkDef X G a36 l36 c36 k36 ((fun_mk (st := s_law_leaves) l36 c36 k36).binds (ps := ["tree"]) fun _ _ _ _ _ _ us hl => match us, hl with | [_], _ => rfl)
  have D_law_tree_pairs : DefAt K mg "_law_tree_pairs" s_law_tree_pairs ["tree"] := mkDef X G a37 l37 c37 k37 ((fun_mk (st := s_law_tree_pairs) l37 c37 k37).binds (ps := ["tree"]) fun _ _ _ _ _ _ us hl => match us, hl with | [_], _ => rfl)
  have D_law_graph : DefAt K mg "_law_graph" s_law_graph ["pool", "most"] := mkDef X G a38 l38 c38 k38 ((fun_mk (st := s_law_graph) l38 c38 k38).binds (ps := ["pool", "most"]) fun _ _ _ _ _ _ us hl => match us, hl with | [_, _], _ => rfl)
  have D_law_subsets : DefAt K mg "_law_subsets" s_law_subsets ["items"] := mkDef X G a39 l39 c39 k39 ((fun_mk (st := s_law_subsets) l39 c39 k39).binds (ps := ["items"]) fun _ _ _ _ _ _ us hl => match us, hl with | [_], _ => rfl)
  have D_law_splits : DefAt K mg "_law_splits" s_law_splits ["graph", "v", "members"] := mkDef X G a40 l40 c40 k40 ((fun_mk (st := s_law_splits) l40 c40 k40).binds (ps := ["graph", "v", "members"]) fun _ _ _ _ _ _ us hl => match us, hl with | [_, _, _], _ => rfl)
  have D_law_is_module : DefAt K mg "_law_is_module" s_law_is_module ["graph", "members"] := mkDef X G a41 l41 c41 k41 ((fun_mk (st := s_law_is_module) l41 c41 k41).binds (ps := ["graph", "members"]) fun _ _ _ _ _ _ us hl => match us, hl with | [_, _], _ => rfl)
  have D_law_modules : DefAt K mg "_law_modules" s_law_modules ["graph"] := mkDef X G a42 l42 c42 k42 ((fun_mk (st := s_law_modules) l42 c42 k42).binds (ps := ["graph"]) fun _ _ _ _ _ _ us hl => match us, hl with | [_], _ => rfl)
  have D_law_strong : DefAt K mg "_law_strong" s_law_strong ["graph"] := mkDef X G a43 l43 c43 k43 ((fun_mk (st := s_law_strong) l43 c43 k43).binds (ps := ["graph"]) fun _ _ _ _ _ _ us hl => match us, hl with | [_], _ => rfl)
  have D_law_tree_of : DefAt K mg "_law_tree_of" s_law_tree_of ["graph", "members", "strong"] := mkDef X G a44 l44 c44 k44 ((fun_mk (st := s_law_tree_of) l44 c44 k44).binds (ps := ["graph", "members", "strong"]) fun _ _ _ _ _ _ us hl => match us, hl with | [_, _, _], _ => rfl)
  have D_law_substituted : DefAt K mg "_law_substituted" s_law_substituted ["pool", "most"] := mkDef X G a45 l45 c45 k45 ((fun_mk (st := s_law_substituted) l45 c45 k45).binds (ps := ["pool", "most"]) fun _ _ _ _ _ _ us hl => match us, hl with | [_, _], _ => rfl)
  have D_law_ringed : DefAt K mg "_law_ringed" s_law_ringed ["pool", "n"] := mkDef X G a46 l46 c46 k46 ((fun_mk (st := s_law_ringed) l46 c46 k46).binds (ps := ["pool", "n"]) fun _ _ _ _ _ _ us hl => match us, hl with | [_, _], _ => rfl)
  let D_law : DefAt K mg "law" s_law ["script"] := mkDef X G a47 l47 c47 k47 ((fun_mk (st := s_law) l47 c47 k47).binds (ps := ["script"]) fun _ _ _ _ _ _ us hl => match us, hl with | [_], _ => rfl)
  have C_UNION := PySem.W.mg_of X G sv_UNION
  have C_JOIN := PySem.W.mg_of X G sv_JOIN
  have C_PRIME := PySem.W.mg_of X G sv_PRIME
  have Z_all := PySem.W.mg_none_of X G z_all
  have Z_set := PySem.W.mg_none_of X G z_set
  refine ⟨PySem.W.fnOf "law" "law" (defArgs s_law) (defBody s_law) (defScope s_law) .none kV47 dc47 pm47 an47 cd47 ct47, fun s v => .of_eq rfl, fun base _ _ => ?_⟩
  have G_spread := ok_spread (P := P) (w := w) (base := base) T D_law_spread
  have G_draw := ok_draw T D_law_draw D_law_spread G_spread
  have G_pool := ok_pool (P := P) (w := w) (base := base) T D_law_pool
  have G_pairs := ok_pairs (P := P) (w := w) (base := base) T D_law_pairs
  have G_distinct := ok_distinct (P := P) (w := w) (base := base) T D_law_distinct
  have G_of := ok_of T D_law_of D_law_distinct G_distinct
  have G_shuf := ok_shuffled T D_law_shuffled D_law_draw G_draw
  have G_moved := ok_moved T D_law_moved D_law_of G_of
  have G_other := ok_other T D_law_other D_law_pairs G_pairs
  have G_random := ok_random T D_law_random_graph D_law_draw G_draw D_law_pairs G_pairs
  have G_rows := ok_rows T D_law_interval_rows D_law_draw G_draw
  have G_iv := ok_ivgraph T D_law_interval_graph D_law_pairs G_pairs
  have G_turned := ok_turned T D_law_turned_graph D_law_pairs G_pairs
  have G_ringed := ok_ringed T D_law_ringed D_law_draw G_draw D_law_of G_of
  have G_ordered := ok_ordered T D_law_ordered_graph D_law_draw G_draw D_law_pairs G_pairs
  have G_clique := ok_clique T D_law_clique_graph D_law_draw G_draw
  have G_drawn := ok_drawn T D_law_drawn_tree D_law_draw G_draw
  have G_tp := ok_tree_pairs (P := P) (w := w) (base := base) T D_law_tree_pairs D_law_leaves 61
  have G_graph := ok_graph T D_law_graph D_law_draw G_draw D_law_interval_rows G_rows D_law_interval_graph G_iv D_law_turned_graph G_turned D_law_shuffled G_shuf D_law_ordered_graph G_ordered D_law_clique_graph G_clique D_law_of G_of D_law_tree_pairs G_tp D_law_drawn_tree G_drawn D_law_ringed G_ringed D_law_other G_other D_law_random_graph G_random D_law_moved G_moved
  have G_same := ok_same (P := P) (w := w) (base := base) T D_law_same 12
  have G_met := ok_met (P := P) (w := w) (base := base) (K := K) T D_law_met
  have G_near := ok_near T D_law_near D_law_met G_met
  have G_part := ok_part T D_law_part D_law_of G_of
  have G_subs := ok_subs (P := P) (w := w) (base := base) (K := K) T D_law_subsets
  have G_splits := ok_splits T D_law_splits D_law_met G_met
  have G_lim := ok_lismod T D_law_is_module D_law_splits G_splits
  have G_lms := ok_lmods T D_law_modules D_law_subsets G_subs D_law_is_module G_lim
  have G_subst := ok_subst T D_law_substituted D_law_draw G_draw D_law_random_graph G_random D_law_near G_near D_law_of G_of D_law_part G_part D_law_shuffled G_shuf D_law_moved G_moved
  have G_nl := ok_nlists (P := P) (w := w) (base := base) (K := K) T D_neighbour_lists
  have G_mask := ok_mask (P := P) (w := w) (base := base) (K := K) T D_mask_of
  have G_nm := ok_nmasks T D_neighbour_masks D_neighbour_lists G_nl D_mask_of G_mask
  have G_mem := ok_members (P := P) (w := w) (base := base) (K := K) T D_members_of
  have G_full := ok_full (P := P) (w := w) (base := base) (K := K) T D_full_mask
  have G_nearM := ok_nearM T D_near_of D_members_of G_mem
  have G_partW := ok_partW T D_parting D_members_of G_mem
  have G_leastW := ok_leastW T D_least D_parting G_partW
  have G_conn := ok_conn2 T D_connected_to D_near_of G_nearM
  have G_parts := ok_partsof T D_parts_of D_connected_to G_conn
  have G_prime := ok_prime T D_prime_parts D_members_of G_mem D_least G_leastW D_mask_of G_mask
  have G_cpl := ok_cpl (P := P) (w := w) (base := base) (K := K) T D_complement
  have G_tab := ok_tables T D_both_tables D_neighbour_masks G_nm D_complement G_cpl
  have G_inside := ok_inside T C_UNION C_JOIN C_PRIME D_largest_inside D_members_of G_mem D_parts_of G_parts D_prime_parts G_prime
  have G_tree := ok_tree T D_tree D_members_of G_mem D_largest_inside G_inside 12
  have G_mtree := ok_mtree T D_module_tree D_both_tables G_tab D_full_mask G_full D_tree G_tree
  have G_ltree := ok_ltree T D_law_tree_of D_law_pairs G_pairs D_law_met G_met 12
  have G_lstrong := ok_lstrong T D_law_strong D_law_modules G_lms
  exact ok_law T D_law D_law_pool G_pool D_law_graph G_graph D_law_draw G_draw D_law_substituted G_subst D_law_of G_of D_law_tree_pairs G_tp D_law_drawn_tree G_drawn D_law_strong G_lstrong D_law_tree_of G_ltree D_module_tree G_mtree D_law_same G_same

end Z
set_option Elab.async false
set_option linter.all false
set_option maxRecDepth 100000
open PySem PySem.W PyProof.Rows
set_option maxHeartbeats 0 in
theorem PySem.Challenge.cw_trellis_k41_trees_of_modules_holds : PySem.Challenge.rw_trellis_k41_trees_of_modules.Holds := by
  w_on; o_law; k_head; (case hw => w_witness2)
  k_fill
  refine L2.walk_of (l := PySem.Challenge.rw_trellis_k41_trees_of_modules) (n := 63) (k := 64) (x := "script") (CX := fun _ => L2.CX0) (sp := fun w => Z.spLaw _) rfl (by decide) rfl ⟨rfl, by decide, by decide⟩ (fun w h Y => PySem.W.kIn_of Y) ?F (fun _ _ a ns hl _ hS => ⟨a, ns, rfl, hS, fun _ => rfl⟩) (fun _ _ _ _ _ h => h)
  case F =>
    intro w mg fa h KX G hmg
    refine' Z.all_mk KX G hmg ?a0 ?l0 ?c0 ?k0 ?a1 ?l1 ?c1 ?k1 ?a2 ?l2 ?c2 ?k2 ?a3 ?l3 ?c3 ?k3 ?a4 ?l4 ?c4 ?k4 ?a5 ?l5 ?c5 ?k5 ?a6 ?l6 ?c6 ?k6 ?a7 ?l7 ?c7 ?k7 ?a8 ?l8 ?c8 ?k8 ?a9 ?l9 ?c9 ?k9 ?a10 ?l10 ?c10 ?k10 ?a11 ?l11 ?c11 ?k11 ?a12 ?l12 ?c12 ?k12 ?a13 ?l13 ?c13 ?k13 ?a14 ?l14 ?c14 ?k14 ?a15 ?l15 ?c15 ?k15 ?a16 ?l16 ?c16 ?k16 ?a17 ?l17 ?c17 ?k17 ?a18 ?l18 ?c18 ?k18 ?a19 ?l19 ?c19 ?k19 ?a20 ?l20 ?c20 ?k20 ?a21 ?l21 ?c21 ?k21 ?a22 ?l22 ?c22 ?k22 ?a23 ?l23 ?c23 ?k23 ?a24 ?l24 ?c24 ?k24 ?a25 ?l25 ?c25 ?k25 ?a26 ?l26 ?c26 ?k26 ?a27 ?l27 ?c27 ?k27 ?a28 ?l28 ?c28 ?k28 ?a29 ?l29 ?c29 ?k29 ?a30 ?l30 ?c30 ?k30 ?a31 ?l31 ?c31 ?k31 ?a32 ?l32 ?c32 ?k32 ?a33 ?l33 ?c33 ?k33 ?a34 ?l34 ?c34 ?k34 ?a35 ?l35 ?c35 ?k35 ?a36 ?l36 ?c36 ?k36 ?a37 ?l37 ?c37 ?k37 ?a38 ?l38 ?c38 ?k38 ?a39 ?l39 ?c39 ?k39 ?a40 ?l40 ?c40 ?k40 ?a41 ?l41 ?c41 ?k41 ?a42 ?l42 ?c42 ?k42 ?a43 ?l43 ?c43 ?k43 ?a44 ?l44 ?c44 ?k44 ?a45 ?l45 ?c45 ?k45 ?a46 ?l46 ?c46 ?k46 ?a47 ?l47 ?c47 ?k47 ?sv_UNION ?sv_JOIN ?sv_PRIME ?z_len ?z_range ?z_list ?z_tuple ?z_int ?z_min ?z_max ?z_sorted ?z_isinstance ?z_bool ?z_str ?z_enumerate ?z_all ?z_set
    (case a0 => k_is); (case l0 => k_is); (case c0 => k_is); (case k0 => k_is); (case a1 => k_is); (case l1 => k_is); (case c1 => k_is); (case k1 => k_is); (case a2 => k_is); (case l2 => k_is); (case c2 => k_is); (case k2 => k_is); (case a3 => k_is); (case l3 => k_is); (case c3 => k_is); (case k3 => k_is); (case a4 => k_is); (case l4 => k_is); (case c4 => k_is); (case k4 => k_is); (case a5 => k_is); (case l5 => k_is); (case c5 => k_is); (case k5 => k_is); (case a6 => k_is); (case l6 => k_is); (case c6 => k_is); (case k6 => k_is); (case a7 => k_is); (case l7 => k_is); (case c7 => k_is); (case k7 => k_is); (case a8 => k_is); (case l8 => k_is); (case c8 => k_is); (case k8 => k_is); (case a9 => k_is); (case l9 => k_is); (case c9 => k_is); (case k9 => k_is); (case a10 => k_is); (case l10 => k_is); (case c10 => k_is); (case k10 => k_is); (case a11 => k_is); (case l11 => k_is); (case c11 => k_is); (case k11 => k_is); (case a12 => k_is); (case l12 => k_is); (case c12 => k_is); (case k12 => k_is); (case a13 => k_is); (case l13 => k_is); (case c13 => k_is); (case k13 => k_is); (case a14 => k_is); (case l14 => k_is); (case c14 => k_is); (case k14 => k_is); (case a15 => k_is); (case l15 => k_is); (case c15 => k_is); (case k15 => k_is); (case a16 => k_is); (case l16 => k_is); (case c16 => k_is); (case k16 => k_is); (case a17 => k_is); (case l17 => k_is); (case c17 => k_is); (case k17 => k_is); (case a18 => k_is); (case l18 => k_is); (case c18 => k_is); (case k18 => k_is); (case a19 => k_is); (case l19 => k_is); (case c19 => k_is); (case k19 => k_is); (case a20 => k_is); (case l20 => k_is); (case c20 => k_is); (case k20 => k_is); (case a21 => k_is); (case l21 => k_is); (case c21 => k_is); (case k21 => k_is); (case a22 => k_is); (case l22 => k_is); (case c22 => k_is); (case k22 => k_is); (case a23 => k_is); (case l23 => k_is); (case c23 => k_is); (case k23 => k_is); (case a24 => k_is); (case l24 => k_is); (case c24 => k_is); (case k24 => k_is); (case a25 => k_is); (case l25 => k_is); (case c25 => k_is); (case k25 => k_is); (case a26 => k_is); (case l26 => k_is); (case c26 => k_is); (case k26 => k_is); (case a27 => k_is); (case l27 => k_is); (case c27 => k_is); (case k27 => k_is); (case a28 => k_is); (case l28 => k_is); (case c28 => k_is); (case k28 => k_is); (case a29 => k_is); (case l29 => k_is); (case c29 => k_is); (case k29 => k_is); (case a30 => k_is); (case l30 => k_is); (case c30 => k_is); (case k30 => k_is); (case a31 => k_is); (case l31 => k_is); (case c31 => k_is); (case k31 => k_is); (case a32 => k_is); (case l32 => k_is); (case c32 => k_is); (case k32 => k_is); (case a33 => k_is); (case l33 => k_is); (case c33 => k_is); (case k33 => k_is); (case a34 => k_is); (case l34 => k_is); (case c34 => k_is); (case k34 => k_is); (case a35 => k_is); (case l35 => k_is); (case c35 => k_is); (case k35 => k_is); (case a36 => k_is); (case l36 => k_is); (case c36 => k_is); (case k36 => k_is); (case a37 => k_is); (case l37 => k_is); (case c37 => k_is); (case k37 => k_is); (case a38 => k_is); (case l38 => k_is); (case c38 => k_is); (case k38 => k_is); (case a39 => k_is); (case l39 => k_is); (case c39 => k_is); (case k39 => k_is); (case a40 => k_is); (case l40 => k_is); (case c40 => k_is); (case k40 => k_is); (case a41 => k_is); (case l41 => k_is); (case c41 => k_is); (case k41 => k_is); (case a42 => k_is); (case l42 => k_is); (case c42 => k_is); (case k42 => k_is); (case a43 => k_is); (case l43 => k_is); (case c43 => k_is); (case k43 => k_is); (case a44 => k_is); (case l44 => k_is); (case c44 => k_is); (case k44 => k_is); (case a45 => k_is); (case l45 => k_is); (case c45 => k_is); (case k45 => k_is); (case a46 => k_is); (case l46 => k_is); (case c46 => k_is); (case k46 => k_is); (case a47 => k_is); (case l47 => k_is); (case c47 => k_is); (case k47 => k_is); (case sv_UNION => k_is); (case sv_JOIN => k_is); (case sv_PRIME => k_is); (case z_len => k_is); (case z_range => k_is); (case z_list => k_is); (case z_tuple => k_is); (case z_int => k_is); (case z_min => k_is); (case z_max => k_is); (case z_sorted => k_is); (case z_isinstance => k_is); (case z_bool => k_is); (case z_str => k_is); (case z_enumerate => k_is); (case z_all => k_is); (case z_set => k_is)
