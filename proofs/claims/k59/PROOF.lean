import PyProof.Rows.All
import Wide.All
import OpenK.AllK
import Wide.FinOn
import HandS.ForMost
import HandS.Wide
import HandS.TupSets
import HandS.Deep
import HandS.IsInst
import HandS.Conv
import HandS.SortRule
import PyProof.WalkInts
import HandS.SetBool
import HandS.ExcOwn
import HandS.WordsExc
import HandS.ExcIs
import HandS.TryOnly
import HandS.TryElse
import HandS.More
import KE.GoesEnum
import KE.GoesMore
import HandS.DictTup
import HandS.DictComp
import HandS.Iter
import HandS.TupAny
import PyProof.Rows.MatchSeqLen
import PyProof.RulesMatch
import HandS.Star
import HandS.ExcCtx
import HandS.Hot
import HandS.HotCalls
import PyProof.MinMaxWalk
import HandS.Text
import HandS.Strs
import HandS.SetIn
import KE.KSetDisp
import PyProof.SetRoads
import HandS.SortOrd
import KE.KIndexOf
import KE.DataMinMax
import KE.SortData
import PyProof.Rows.RowBridgeK
import KE.KRevSl
import HandS.Style
import KE.DataFind
import KE.KUnpack
import HandS.SetFor
import HandS.Lambda
import HandS.EndTab
import HandS.AnyAll
import HandS.GenOver
import HandS.Zip
import PyProof.EqKinds
import KE.SortKeyHeap
import HandS.SortKw
import PyProof.NeData
import HandS.FStr
import KE.DataMinKey
import PySem.Challenge.RW_trellis_k59_least_hitting_sets
set_option Elab.async false
set_option linter.all false
set_option maxRecDepth 100000
set_option maxHeartbeats 2000000
namespace Z
open PySem PySem.Spec PyProof.Rows L2

/-! ## heaps -/
/-- all but what stands at a is as it was -/
def Gr (a : Addr) (H H' : Hp) : Prop := ∀ b o, b ≠ a → H b = some o → H' b = some o
theorem Gr.refl (a : Addr) (H : Hp) : Gr a H H := fun _ _ _ h => h
theorem Gr.trans {a : Addr} {H H1 H2 : Hp} (x : Gr a H H1) (y : Gr a H1 H2) : Gr a H H2 := fun b o n h => y b o n (x b o n h)
theorem Gr.of_same {a : Addr} {H H' : Hp} (x : Same H H') : Gr a H H' := fun b o _ h => x b o h
theorem same_new {H : Hp} {p : Addr} {o : HO} (h : H p = none) : Same H (upd H p o) := fun b u e => by
  rw [upd_ne (ne_of_none e h)]
  exact e
theorem Gr.new {a : Addr} {H : Hp} {p : Addr} {o : HO} (h : H p = none) : Gr a H (upd H p o) := .of_same (same_new h)
/-- the object at a itself is written -/
theorem Gr.self {a : Addr} {H : Hp} {o : HO} : Gr a H (upd H a o) := fun b u n e => by
  rw [upd_ne n]
  exact e
/-- an object that H did not know is written -/
theorem Gr.mut {a : Addr} {H H' : Hp} {p : Addr} {o : HO} (x : Gr a H H') (h : H p = none) : Gr a H (upd H' p o) := fun b u n e => by
  rw [upd_ne (ne_of_none e h)]
  exact x b u n e
theorem same_mut {H H' : Hp} {p : Addr} {o : HO} (x : Same H H') (h : H p = none) : Same H (upd H' p o) := fun b u e => by
  rw [upd_ne (ne_of_none e h)]
  exact x b u e
/-- what is free now was free then -/
theorem Gr.free {a : Addr} {H H' : Hp} (x : Gr a H H') (ha : H' a ≠ none) {p : Addr} (h : H' p = none) : H p = none := by
  cases e : H p with
  | none => rfl
  | some o =>
    by_cases n : p = a
    · rw [n] at h
      exact absurd h ha
    · rw [x p o n e] at h
      cases h
/-- the tuples stand -/
def TK (H H' : Hp) : Prop := ∀ b xs, H b = some (.tup xs) → H' b = some (.tup xs)
theorem TK.refl (H : Hp) : TK H H := fun _ _ h => h
theorem TK.trans {H H1 H2 : Hp} (x : TK H H1) (y : TK H1 H2) : TK H H2 := fun b o h => y b o (x b o h)
theorem TK.of_same {H H' : Hp} (x : Same H H') : TK H H' := fun b o h => x b _ h
theorem TK.of_gr {a : Addr} {H H' : Hp} {xs : List V} (x : Gr a H H') (h : H a = some (.lst xs)) : TK H H' := fun b o e => x b _ (fun n => by
  rw [n, h] at e
  cases e) e
theorem TK.lst {H : Hp} {p : Addr} {xs ys : List V} (h : H p = some (.lst xs)) : TK H (upd H p (.lst ys)) := fun b o e => by
  rw [upd_ne (fun n => by rw [n, h] at e; cases e)]
  exact e
theorem TK.new {H : Hp} {p : Addr} {o : HO} (h : H p = none) : TK H (upd H p o) := .of_same (same_new h)

/-! ## pairs -/
/-- x is the tuple of these two ints -/
def IsP (H : Hp) (x : V) (p : Int × Int) : Prop := ∃ t, x = .ref t ∧ H t = some (.tup [.int p.1, .int p.2])
theorem IsP.tk {H H' : Hp} (k : TK H H') {x : V} {p : Int × Int} (h : IsP H x p) : IsP H' x p := by
  obtain ⟨t, e, h⟩ := h
  exact ⟨t, e, k _ _ h⟩
abbrev Prs (H : Hp) : List V → List (Int × Int) → Prop := Paired (IsP H)
theorem Prs.tk {H H' : Hp} (k : TK H H') : ∀ {xs : List V} {ps : List (Int × Int)}, Prs H xs ps → Prs H' xs ps
  | _, _, .nil => .nil
  | _, _, .cons h t => .cons (h.tk k) (Prs.tk k t)
theorem pd_get {α β : Type} {F : α → β → Prop} : ∀ {xs : List α} {ps : List β} {i : Nat} {x : α}, Paired F xs ps → xs[i]? = some x → ∃ p, ps[i]? = some p ∧ F x p
  | _, _, _, _, .nil, h => by simp at h
  | _, _, 0, _, .cons f _, h => by
    have e := Option.some.inj h
    subst e
    exact ⟨_, rfl, f⟩
  | _, _, i + 1, _, .cons _ t, h => pd_get (i := i) t h
theorem pd_get2 {α β : Type} {F : α → β → Prop} : ∀ {xs : List α} {ps : List β} {i : Nat} {p : β}, Paired F xs ps → ps[i]? = some p → ∃ x, xs[i]? = some x ∧ F x p
  | _, _, _, _, .nil, h => by simp at h
  | _, _, 0, _, .cons f _, h => by
    have e := Option.some.inj h
    subst e
    exact ⟨_, rfl, f⟩
  | _, _, i + 1, _, .cons _ t, h => pd_get2 (i := i) t h
theorem pd_mem {α β : Type} {F : α → β → Prop} {xs : List α} {ps : List β} {x : α} (h : Paired F xs ps) (hx : x ∈ xs) : ∃ p ∈ ps, F x p := by
  obtain ⟨i, hi, e⟩ := List.mem_iff_getElem.mp hx
  obtain ⟨p, hp, f⟩ := pd_get h (List.getElem?_eq_some_iff.mpr ⟨hi, e⟩)
  exact ⟨p, List.mem_of_getElem? hp, f⟩
theorem pd_append {α β : Type} {F : α → β → Prop} : ∀ {xs ys : List α} {ps qs : List β}, Paired F xs ps → Paired F ys qs → Paired F (xs ++ ys) (ps ++ qs)
  | _, _, _, _, .nil, h => h
  | _, _, _, _, .cons f t, h => .cons f (pd_append t h)
/-! ## data, for == and in -/
theorem IsP.dp {K : PySem.W.Frag} {H : Hp} {x : V} {p : Int × Int} (h : IsP H x p) : Dp K H x (.tuple [.int p.1, .int p.2]) := by
  obtain ⟨t, rfl, h⟩ := h
  exact .tup (.inl (.inl h)) (.cons (.int _) (.cons (.int _) .nil))
def prD2 (p : Int × Int) : PyData := .tuple [.int p.1, .int p.2]
theorem Prs.dps {K : PySem.W.Frag} {H : Hp} : ∀ {xs : List V} {ps : List (Int × Int)}, Prs H xs ps → DpAll K H xs (ps.map prD2)
  | _, _, .nil => .nil
  | _, _, .cons h t => .cons h.dp (Prs.dps t)
theorem prD2_lay (z : Int × Int) : (prD2 z).canLay0 = true := by simp [prD2, PyData.canLay0, PyData.canLayAll0]
theorem prD2_depth (z : Int × Int) : (prD2 z).depth = 1 := by simp [prD2, PyData.depth, PyData.depthAll]
theorem prD2s_lay : ∀ zs : List (Int × Int), PyData.canLayAll0 (zs.map prD2) = true
  | [] => by simp [PyData.canLayAll0]
  | z :: zs => by simp [PyData.canLayAll0, prD2_lay z, prD2s_lay zs]
theorem prD2s_depth : ∀ zs : List (Int × Int), PyData.depthAll (zs.map prD2) ≤ 1
  | [] => by simp [PyData.depthAll]
  | z :: zs => by
    have h1 := prD2s_depth zs
    have h2 := prD2_depth z
    simp only [List.map_cons, PyData.depthAll]
    omega
theorem shaped_of {d : PyData} (h1 : d.canLay0 = true) (h2 : d.depth ≤ 64) : SeqAt.shaped d = true := by
  show (d.canLay0 && decide (d.depth ≤ 64)) = true
  rw [Bool.and_eq_true]
  exact ⟨h1, decide_eq_true h2⟩
theorem prD2_shaped (z : Int × Int) : SeqAt.shaped (prD2 z) = true := shaped_of (prD2_lay z) (by rw [prD2_depth]; omega)
theorem prD2s_shL (zs : List (Int × Int)) : SeqAt.shaped (.list (zs.map prD2)) = true := shaped_of (by simp only [PyData.canLay0]; exact prD2s_lay zs) (by
  have h := prD2s_depth zs
  simp only [PyData.depth]
  omega)
theorem prD2_eqv (z w : Int × Int) : PyData.eqv (prD2 z) (prD2 w) = decide (z = w) := by
  obtain ⟨a, b⟩ := z
  obtain ⟨c, d⟩ := w
  have e : PyData.eqv (prD2 (a, b)) (prD2 (c, d)) = ((a == c) && ((b == d) && true)) := by simp only [prD2, PyData.eqv, PyData.eqvAll]
  rw [e]
  by_cases h1 : a = c <;> by_cases h2 : b = d <;> simp [h1, h2]
theorem prD2s_any (zs : List (Int × Int)) (w : Int × Int) : ((zs.map prD2).any fun z => PyData.eqv z (prD2 w)) = decide (w ∈ zs) := by
  induction zs with
  | nil => simp
  | cons z zs ih =>
    rw [List.map_cons, List.any_cons, ih, prD2_eqv]
    by_cases h : z = w
    · simp [h]
    · have h' : ¬ w = z := fun q => h q.symm
      simp [h, h']

/-! ## rules of my own -/
section
variable {X : Cx}
/-- x in t, t a tuple of pairs -/
def rInP (K : PySem.W.Frag) : R2 := fun x y H Q => ∃ (p : Int × Int) (b : Addr) (xs : List V) (ps : List (Int × Int)), IsP H x p ∧ y = .ref b ∧ SqT K H b xs ∧ Prs H xs ps ∧ Q (.bl (decide (p ∈ ps))) H
def rNinP (K : PySem.W.Frag) : R2 := fun x y H Q => ∃ (p : Int × Int) (b : Addr) (xs : List V) (ps : List (Int × Int)), IsP H x p ∧ y = .ref b ∧ SqT K H b xs ∧ Prs H xs ps ∧ Q (.bl (!decide (p ∈ ps))) H
theorem units65 {k : Nat} {A : Around} (r : Room k A) : A.units + 65 < cLine := by have := r.un; omega
theorem roomP {A : Around} {ds : List PyData} (h : A.units + 64 < cLine) (p : Int × Int) : A.units + 1 + min (PyData.depthAll ds) (prD2 p).depth < cLine := by
  have := Nat.min_le_right (PyData.depthAll ds) (prD2 p).depth
  rw [prD2_depth] at this
  rw [prD2_depth]
  omega
theorem op_inTD {k : Nat} (hr : Room k X.A) : OpR X (compareOp .In) (rInP X.K) := by
  intro pins s σ H x y v u Q I rx ry h
  obtain ⟨p, b, xs, ps, hx, rfl, hb, hp, q⟩ := h
  obtain ⟨as, r1⟩ := Dp.reads I (prD2 p) x v hx.dp rx
  obtain ⟨bs, r2⟩ := Dp.reads I (.tuple (ps.map prD2)) (.ref b) u (.tup hb hp.dps) ry
  exact SeqAt.in_tuple_reads r2 r1 (prD2s_lay ps) (prD2_lay p) (roomP hr.units p) ⟨.bl _, H, I, rfl, by rw [prD2s_any]; exact q⟩
theorem op_notInTD {k : Nat} (hr : Room k X.A) : OpR X (compareOp .NotIn) (rNinP X.K) := by
  intro pins s σ H x y v u Q I rx ry h
  obtain ⟨p, b, xs, ps, hx, rfl, hb, hp, q⟩ := h
  obtain ⟨as, r1⟩ := Dp.reads I (prD2 p) x v hx.dp rx
  obtain ⟨bs, r2⟩ := Dp.reads I (.tuple (ps.map prD2)) (.ref b) u (.tup hb hp.dps) ry
  exact SeqAt.notIn_tuple_reads r2 r1 (prD2s_lay ps) (prD2_lay p) (roomP hr.units p) ⟨.bl _, H, I, rfl, by rw [prD2s_any]; exact q⟩
/-- min, max of a pair -/
def rMinT : List V → Hp → VK → Prop := fun vs H Q => ∃ (x : V) (p : Int × Int), vs = [x] ∧ IsP H x p ∧ Q (.int (min p.1 p.2)) H
def rMaxT : List V → Hp → VK → Prop := fun vs H Q => ∃ (x : V) (p : Int × Int), vs = [x] ∧ IsP H x p ∧ Q (.int (max p.1 p.2)) H
theorem pair_raw {pins : List (Addr × Obj)} {σ : L2.St} {H : Hp} {s : Shared} {t : Addr} {i j : Int} (I : Inv X pins σ H s) (h : H t = some (.tup [.int i, .int j])) :
    ∃ a b, s.heap.IsTuple t (intItems #[(i, a), (j, b)]) := by
  obtain ⟨its, rv, ⟨o, ho, hc, n, hd⟩, _⟩ := I.tuple (SqT.of (K := X.K) h)
  obtain ⟨u, w, e, r1, r2⟩ := vals2 rv
  obtain ⟨a, rfl⟩ := r1
  obtain ⟨b, rfl⟩ := r2
  subst e
  exact ⟨a, b, o, ho, hc, n, by simpa [intItems] using hd⟩
theorem cr_minT (hc : X.calm = true) : CallR X (.builtin "min") rMinT := by
  intro pins s σ H vs us Q I r h
  obtain ⟨x, ⟨i, j⟩, rfl, ⟨t, rfl, ht⟩, q⟩ := h
  rw [Vals.ref1 r]
  obtain ⟨a, b, hT⟩ := pair_raw I ht
  have hlt : t < s.heap.objs.size := by
    obtain ⟨o, ho, _⟩ := hT
    exact Heap.lt_size ho
  refine call_min_walk (wpAny_pyIter_tuple hT ?_)
  refine ⟨_, _, _, _, _, _, _, rfl, Walks.tuple (A := X.A.in1) (I.ok.hd hc) s.heap.objs.size t (Nat.ne_of_lt hlt) (intItems #[(i, a), (j, b)]),
    ⟨⟨_, Heap.get?_push_size _ rfl, rfl, rfl⟩, hT.push _⟩, fun c hm => ?_, by simp [intItems], CmpOf.ints_lt (numAt #[(i, a), (j, b)]) (fun _ _ => intItems_at), fun v h' tk hP hk => ?_⟩
  · show c < (s.heap.push _).objs.size
    rw [Heap.size_push]
    rcases List.mem_cons.mp hm with e | hm
    · rw [e]
      exact Nat.lt_succ_self _
    · rw [List.mem_singleton.mp hm]
      exact Nat.lt_succ_of_lt hlt
  · obtain ⟨tt, rfl⟩ := intItems_at hP
    obtain ⟨h1, h2⟩ := argBest_lt (numAt #[(i, a), (j, b)]) ((intItems #[(i, a), (j, b)]).size - 1)
    have e1 : (intItems #[(i, a), (j, b)]).size - 1 = 1 := by simp [intItems]
    rw [e1] at h1 h2 ⊢
    have n0 : numAt #[(i, a), (j, b)] 0 = i := rfl
    have n1 : numAt #[(i, a), (j, b)] 1 = j := rfl
    have g0 := h2 0 (by omega)
    have g1 := h2 1 (by omega)
    rw [n0] at g0
    rw [n1] at g1
    have ev : numAt #[(i, a), (j, b)] (argBest (fun k l => decide (numAt #[(i, a), (j, b)] k < numAt #[(i, a), (j, b)] l)) 1) = min i j := by
      generalize argBest (fun k l => decide (numAt #[(i, a), (j, b)] k < numAt #[(i, a), (j, b)] l)) 1 = z at h1 g0 g1 ⊢
      have hz : z = 0 ∨ z = 1 := by omega
      rcases hz with e | e
      · subst e; rw [n0] at g0 g1 ⊢; omega
      · subst e; rw [n1] at g0 g1 ⊢; omega
    refine ⟨.int (min i j), H, I.kept (t' := tk) fun b u e => hk b u (fun hmem => ?_) (Heap.get?_push_of_some _ e), ⟨tt, by rw [ev]⟩, q⟩
    have e2 := Heap.lt_size e
    rw [List.mem_singleton.mp hmem] at e2
    exact absurd e2 (Nat.lt_irrefl _)
theorem cr_maxT (hc : X.calm = true) : CallR X (.builtin "max") rMaxT := by
  intro pins s σ H vs us Q I r h
  obtain ⟨x, ⟨i, j⟩, rfl, ⟨t, rfl, ht⟩, q⟩ := h
  rw [Vals.ref1 r]
  obtain ⟨a, b, hT⟩ := pair_raw I ht
  have hlt : t < s.heap.objs.size := by
    obtain ⟨o, ho, _⟩ := hT
    exact Heap.lt_size ho
  refine call_max_walk (wpAny_pyIter_tuple hT ?_)
  refine ⟨_, _, _, _, _, _, _, rfl, Walks.tuple (A := X.A.in1) (I.ok.hd hc) s.heap.objs.size t (Nat.ne_of_lt hlt) (intItems #[(i, a), (j, b)]),
    ⟨⟨_, Heap.get?_push_size _ rfl, rfl, rfl⟩, hT.push _⟩, fun c hm => ?_, by simp [intItems], CmpOf.ints_gt (numAt #[(i, a), (j, b)]) (fun _ _ => intItems_at), fun v h' tk hP hk => ?_⟩
  · show c < (s.heap.push _).objs.size
    rw [Heap.size_push]
    rcases List.mem_cons.mp hm with e | hm
    · rw [e]
      exact Nat.lt_succ_self _
    · rw [List.mem_singleton.mp hm]
      exact Nat.lt_succ_of_lt hlt
  · obtain ⟨tt, rfl⟩ := intItems_at hP
    obtain ⟨h1, h2⟩ := argBest_gt (numAt #[(i, a), (j, b)]) ((intItems #[(i, a), (j, b)]).size - 1)
    have e1 : (intItems #[(i, a), (j, b)]).size - 1 = 1 := by simp [intItems]
    rw [e1] at h1 h2 ⊢
    have n0 : numAt #[(i, a), (j, b)] 0 = i := rfl
    have n1 : numAt #[(i, a), (j, b)] 1 = j := rfl
    have g0 := h2 0 (by omega)
    have g1 := h2 1 (by omega)
    rw [n0] at g0
    rw [n1] at g1
    have ev : numAt #[(i, a), (j, b)] (argBest (fun k l => decide (numAt #[(i, a), (j, b)] k > numAt #[(i, a), (j, b)] l)) 1) = max i j := by
      generalize argBest (fun k l => decide (numAt #[(i, a), (j, b)] k > numAt #[(i, a), (j, b)] l)) 1 = z at h1 g0 g1 ⊢
      have hz : z = 0 ∨ z = 1 := by omega
      rcases hz with e | e
      · subst e; rw [n0] at g0 g1 ⊢; omega
      · subst e; rw [n1] at g0 g1 ⊢; omega
    refine ⟨.int (max i j), H, I.kept (t' := tk) fun b u e => hk b u (fun hmem => ?_) (Heap.get?_push_of_some _ e), ⟨tt, by rw [ev]⟩, q⟩
    have e2 := Heap.lt_size e
    rw [List.mem_singleton.mp hmem] at e2
    exact absurd e2 (Nat.lt_irrefl _)
/-- the order of pairs -/
def leP (p q : Int × Int) : Prop := p.1 < q.1 ∨ (p.1 = q.1 ∧ p.2 ≤ q.2)
def ltP (p q : Int × Int) : Prop := p.1 < q.1 ∨ (p.1 = q.1 ∧ p.2 < q.2)
/-- which pair stands at x -/
def kP (H : Hp) : V → Int × Int
  | .ref t => match H t with
    | some (.tup [.int i, .int j]) => (i, j)
    | _ => (0, 0)
  | _ => (0, 0)
theorem IsP.k {H : Hp} {x : V} {p : Int × Int} (h : IsP H x p) : kP H x = p := by
  obtain ⟨t, rfl, h⟩ := h
  simp only [kP, h]
/-- sorted(xs), xs a list of pairs -/
def rSortPr (K : PySem.W.Frag) : List V → Hp → VK → Prop := fun vs H Q => ∃ (a : Addr) (xs : List V) (ps : List (Int × Int)), vs = [V.ref a] ∧ SqL K H a xs ∧ Prs H xs ps ∧
  ∀ (ys : List V) (qs : List (Int × Int)) (p : Addr), qs.Perm ps → Prs H ys qs → qs.Pairwise leP → H p = none → Q (.ref p) (upd H p (.lst ys))
theorem prs_of_k {H : Hp} : ∀ {ys : List V}, (∀ y ∈ ys, IsP H y (kP H y)) → Prs H ys (ys.map (kP H))
  | [], _ => .nil
  | y :: ys, h => .cons (h y List.mem_cons_self) (prs_of_k fun z hz => h z (List.mem_cons_of_mem _ hz))
theorem prs_k {H : Hp} : ∀ {xs : List V} {ps : List (Int × Int)}, Prs H xs ps → xs.map (kP H) = ps
  | _, _, .nil => rfl
  | _, _, .cons h t => by rw [List.map_cons, h.k, prs_k t]
theorem cr_sortPr : CallR X (.builtin "sorted") (rSortPr X.K) := by
  intro pins s σ H vs us Q I r h
  obtain ⟨a, xs, ps, rfl, hs, hp, q⟩ := h
  have at_ : ∀ x ∈ xs, IsP H x (kP H x) := fun x hx => by
    obtain ⟨p, _, f⟩ := pd_mem hp hx
    rw [f.k]
    exact f
  refine cr_sortedPO pins s σ H [V.ref a] us Q I r ⟨a, xs, kP H, rfl, hs, fun x hx => ?_, fun ys p sr st hn => ?_⟩
  · obtain ⟨t, e, h⟩ := at_ x hx
    exact ⟨t, e, h⟩
  · refine q ys (ys.map (kP H)) p ?_ (prs_of_k fun y hy => at_ y (st.perm.mem_iff.mp hy)) ?_ hn
    · rw [← prs_k hp]
      exact st.perm.map _
    · refine List.pairwise_map.mpr (List.Pairwise.imp (fun {x y} h => ?_) sr)
      have h2 := SrtO.lexB_no.mp h
      unfold leP
      omega
end

set_option Elab.async false
set_option linter.all false
set_option maxRecDepth 100000
set_option maxHeartbeats 2000000
open PySem PySem.Spec PyProof.Rows L2
/-! ## steps of a reading -/
theorem int_beq (i j : Int) : (i == j) = decide (i = j) := by
  by_cases h : i = j <;> simp [h]
def rInt1 : List V → Hp → VK → Prop := fun xs H Q => (∃ i, xs = [.int i] ∧ Q (.int i) H) ∨ ∃ k, xs = [.bl k] ∧ Q (.int (if k then 1 else 0)) H
def rMin2 : List V → Hp → VK → Prop := fun xs H Q => ∃ i j, xs = [.int i, .int j] ∧ Q (.int (if j < i then j else i)) H
def rMax2 : List V → Hp → VK → Prop := fun xs H Q => ∃ i j, xs = [.int i, .int j] ∧ Q (.int (if j > i then j else i)) H
def rLen (K : PySem.W.Frag) : List V → Hp → VK → Prop := fun xs H Q => ∃ p ys, xs = [.ref p] ∧ (SqL K H p ys ∨ SqT K H p ys) ∧ Q (.int ys.length) H
def rListOf (K : PySem.W.Frag) : List V → Hp → VK → Prop := fun xs H Q => ∃ p ys, xs = [.ref p] ∧ (SqL K H p ys ∨ SqT K H p ys) ∧ ∀ l, H l = none → Q (.ref l) (upd H l (.lst ys))
def rTupOf (K : PySem.W.Frag) : List V → Hp → VK → Prop := fun xs H Q => ∃ p ys, xs = [.ref p] ∧ ((SqL K H p ys ∧ ∀ l, H l = none → Q (.ref l) (upd H l (.tup ys))) ∨ (SqT K H p ys ∧ Q (.ref p) H))
section
variable {X : Cx}
variable {K : PySem.W.Frag}
theorem ix_listK (h : X.K = K) : IxR X (rIxL K) := h ▸ ix_list
theorem ix_tupK (h : X.K = K) : IxR X (rIxT K) := h ▸ ix_tup
theorem ix_eitherK (h : X.K = K) : IxR X (fun x y H Q => rIxL K x y H Q ∨ rIxT K x y H Q) := h ▸ ix_list.or ix_tup
theorem sl_listK (h : X.K = K) : SlR X (rSlL K) := h ▸ sl_list
theorem sl_tupK (h : X.K = K) : SlR X (rSlT K) := h ▸ sl_tup
theorem op_inSeqK (h : X.K = K) : OpR X (compareOp .In) (rIn K false) := h ▸ op_in_seq
theorem op_ninSeqK (h : X.K = K) : OpR X (compareOp .NotIn) (rIn K true) := h ▸ op_notIn_seq
theorem op_inPK {k : Nat} (h : X.K = K) (hr : Room k X.A) : OpR X (compareOp .In) (rInP K) := h ▸ op_inTD hr
theorem op_ninPK {k : Nat} (h : X.K = K) (hr : Room k X.A) : OpR X (compareOp .NotIn) (rNinP K) := h ▸ op_notInTD hr
theorem op_eqDK (h : X.K = K) (hu : X.A.units + 64 < cLine) : OpR X (compareOp .Eq) (rEqD K) := h ▸ op_eqD hu
theorem op_neDK (h : X.K = K) (hu : X.A.units + 64 < cLine) : OpR X (compareOp .NotEq) (rNeD K) := h ▸ op_neD hu
theorem op_catTK (h : X.K = K) : OpR X (binaryOp .Add) (rCatT K) := h ▸ op_catT
theorem PE.bmK {e : Expr} {T : String} {r : V → List V → Hp → VK → Prop} {to : TE} {t : TA} (h : X.K = K) (p : PE X e (tBM X.K T r to t)) : PE X e (tBM K T r to t) := h ▸ p
theorem PG.tupK {e : Expr} {n : Nat} {t : TGs} (h : X.K = K) (p : PG X e (gTup X.K n t)) : PG X e (gTup K n t) := h ▸ p
theorem PI.listK {tg e : Expr} {tl : TE} (h : X.K = K) (p : PI X tg e (iList X.K tl)) : PI X tg e (iList K tl) := h ▸ p
theorem PI.tupK {tg e : Expr} {tl : TE} (h : X.K = K) (p : PI X tg e (iTup X.K tl)) : PI X tg e (iTup K tl) := h ▸ p
theorem mt_indexK (h : X.K = K) : MtR X "list.index" (rIndex K) := h ▸ mt_index
theorem cr_sortPrK (h : X.K = K) : CallR X (.builtin "sorted") (rSortPr K) := h ▸ cr_sortPr
theorem call_isiK (h : X.K = K) : CallR X (.builtin "isinstance") (rIsi K) := h ▸ call_isi
theorem call_lenK (h : X.K = K) : CallR X (.builtin "len") (rLen K) := h ▸ call_len_seq
theorem call_listK (h : X.K = K) : CallR X (.type "list") (rListOf K) := h ▸ call_list_of
theorem call_tupleK (h : X.K = K) : CallR X (.type "tuple") (rTupOf K) := h ▸ call_tuple_of
theorem call_int1' : CallR X (.type "int") rInt1 := call_int1
theorem call_min2' (hc : X.calm = true) : CallR X (.builtin "min") rMin2 := call_min2 hc
theorem call_max2' (hc : X.calm = true) : CallR X (.builtin "max") rMax2 := call_max2 hc
end
section
variable {K : PySem.W.Frag} {σ : L2.St} {H : Hp} {Q : VK} {ta tb tc te : TE} {t u : TT}
theorem r_var {i : Nat} {v : V} (h : σ[i]? = some (some v)) (q : Q v H) : tVar i σ H Q := ⟨v, h, q⟩
theorem r_c {v : V} (q : Q v H) : tC v σ H Q := q
theorem r_op {r : R2} (h : ta σ H fun x H1 => tb σ H1 fun y H2 => r x y H2 Q) : tOp r ta tb σ H Q := h
theorem r_un {r : V → Hp → VK → Prop} (h : ta σ H fun x H1 => r x H1 Q) : tUn r ta σ H Q := h
theorem r_i0 {g : Int → Int → V} {i j : Int} (q : Q (g i j) H) : rI0 g (.int i) (.int j) H Q := ⟨i, j, rfl, rfl, q⟩
theorem r_i {C : Int → Int → Prop} {g : Int → Int → V} {i j : Int} (c : C i j) (q : Q (g i j) H) : rI C g (.int i) (.int j) H Q := ⟨i, j, rfl, rfl, c, q⟩
theorem r_u {g : Int → V} {i : Int} (q : Q (g i) H) : rU g (.int i) H Q := ⟨i, rfl, q⟩
theorem r_eqI {i j : Int} (q : Q (.bl (decide (i = j))) H) : rEq (.int i) (.int j) H Q := ⟨rfl, by rw [dec_int, int_beq]; exact q⟩
theorem r_neI {i j : Int} (q : Q (.bl (!decide (i = j))) H) : rNe (.int i) (.int j) H Q := ⟨rfl, by rw [dec_int, int_beq]; exact q⟩
theorem r_neB {i j : Bool} (q : Q (.bl (!(i == j))) H) : rNe (.bl i) (.bl j) H Q := ⟨rfl, by rw [dec_bl]; exact q⟩
def TupN (Q : VK) (xs : List V) (H1 : Hp) : Prop := xs.length ≤ sizeLine ∧ ∀ p, H1 p = none → Q (.ref p) (upd H1 p (.tup xs))
def LstN (Q : VK) (xs : List V) (H1 : Hp) : Prop := xs.length ≤ sizeLine ∧ ∀ p, H1 p = none → Q (.ref p) (upd H1 p (.lst xs))
theorem r_tup {ta : TA} (h : ta σ H (TupN Q)) : tTup ta σ H Q := h
theorem r_lst {ta : TA} (h : ta σ H (LstN Q)) : tLst ta σ H Q := h
theorem r_tupN {xs : List V} (l : xs.length ≤ sizeLine) (q : ∀ p, H p = none → Q (.ref p) (upd H p (.tup xs))) : TupN Q xs H := ⟨l, q⟩
theorem r_lstN {xs : List V} (l : xs.length ≤ sizeLine) (q : ∀ p, H p = none → Q (.ref p) (upd H p (.lst xs))) : LstN Q xs H := ⟨l, q⟩
theorem r_nil {Q : List V → Hp → Prop} (q : Q [] H) : tNil σ H Q := q
theorem r_cons {tr : TA} {Q : List V → Hp → Prop} (h : ta σ H fun x H1 => tr σ H1 fun xs H2 => Q (x :: xs) H2) : tCons ta tr σ H Q := h
theorem r_call {sp : Sp} {dvs : List V} {E : XK} {ta : TA} (h : ta σ H fun vs H1 => sp (vs ++ dvs) H1 Q E) : tCall sp dvs E ta σ H Q := h
theorem r_cb {r : List V → Hp → VK → Prop} {ta : TA} (h : ta σ H fun vs H1 => r vs H1 Q) : tCB r ta σ H Q := h
def KB (Q : Bool → Hp → Prop) (x : V) (H : Hp) : Prop := ∃ k, x = .bl k ∧ Q k H
theorem r_test {Q : Bool → Hp → Prop} (h : te σ H fun x H1 => KB Q x H1) : tTest te σ H Q := h
theorem r_tB {Q : Bool → Hp → Prop} (h : te σ H fun x H1 => KB Q x H1) : tB te σ H Q := h
theorem r_k {Q : Bool → Hp → Prop} {b : Bool} (q : Q b H) : KB Q (.bl b) H := ⟨b, rfl, q⟩
theorem r_not {Q : Bool → Hp → Prop} (h : t σ H fun c H1 => Q (!c) H1) : tNot t σ H Q := h
theorem r_and {Q : Bool → Hp → Prop} (h : t σ H fun c H1 => if c = true then u σ H1 Q else Q false H1) : tAnd t u σ H Q := h
theorem r_or {Q : Bool → Hp → Prop} (h : t σ H fun c H1 => if c = true then Q true H1 else u σ H1 Q) : tOr t u σ H Q := h
def Bm (K : PySem.W.Frag) (T : String) (r : V → List V → Hp → VK → Prop) (ta : TA) (σ : L2.St) (Q : VK) (x : V) (H1 : Hp) : Prop := tyV K T x H1 ∧ ta σ H1 fun xs H2 => r x xs H2 Q
theorem r_bm {T : String} {r : V → List V → Hp → VK → Prop} {ta : TA} (h : te σ H (Bm K T r ta σ Q)) : tBM K T r te ta σ H Q := h
def AndN (tb : TE) (σ : L2.St) (Q : VK) (x : V) (H1 : Hp) : Prop := ∃ c, x = .bl c ∧ if c = true then tb σ H1 Q else Q (.bl false) H1
def OrN (tb : TE) (σ : L2.St) (Q : VK) (x : V) (H1 : Hp) : Prop := ∃ c, x = .bl c ∧ if c = true then Q (.bl true) H1 else tb σ H1 Q
def NotN (Q : VK) (x : V) (H1 : Hp) : Prop := ∃ c, x = .bl c ∧ Q (.bl (!c)) H1
theorem r_andV (h : ta σ H (AndN tb σ Q)) : tAndV ta tb σ H Q := h
theorem r_orV (h : ta σ H (OrN tb σ Q)) : tOrV ta tb σ H Q := h
theorem r_notV (h : ta σ H (NotN Q)) : tNotV ta σ H Q := h
theorem r_andN {c : Bool} (h : if c = true then tb σ H Q else Q (.bl false) H) : AndN tb σ Q (.bl c) H := ⟨c, rfl, h⟩
theorem r_orN {c : Bool} (h : if c = true then Q (.bl true) H else tb σ H Q) : OrN tb σ Q (.bl c) H := ⟨c, rfl, h⟩
theorem r_notN {c : Bool} (q : Q (.bl (!c)) H) : NotN Q (.bl c) H := ⟨c, rfl, q⟩
def PartN (Q : Option Int → Hp → Prop) (x : V) (H1 : Hp) : Prop := ∃ i, x = .int i ∧ Q (some i) H1
theorem r_sl {r : V → Option Int → Option Int → Hp → VK → Prop} {tl th : TO} (h : te σ H fun x H1 => tl σ H1 fun l H2 => th σ H2 fun u H3 => r x l u H3 Q) : tSl r te tl th σ H Q := h
theorem r_part {Q : Option Int → Hp → Prop} (h : te σ H (PartN Q)) : tPart te σ H Q := h
theorem r_partN {Q : Option Int → Hp → Prop} {i : Int} (q : Q (some i) H) : PartN Q (.int i) H := ⟨i, rfl, q⟩
theorem r_noPart {Q : Option Int → Hp → Prop} (q : Q none H) : tNoPart σ H Q := q
def LRg (Q : VK) (a b : Int) (H1 : Hp) : Prop := RgOk a b ∧ ∀ q, H1 q = none → Q (.ref q) (upd H1 q (.lst (rgV a b)))
def R1N (Q : Int → Int → Hp → Prop) (x : V) (H1 : Hp) : Prop := ∃ n, x = .int n ∧ Q 0 n H1
theorem r_lstRg {t : L2.St → Hp → (Int → Int → Hp → Prop) → Prop} (h : t σ H (LRg Q)) : tLstRg t σ H Q := h
theorem r_tRg1 {Q : Int → Int → Hp → Prop} (h : ta σ H (R1N Q)) : tRg1 ta σ H Q := h
theorem r_r1N {Q : Int → Int → Hp → Prop} {n : Int} (q : Q 0 n H) : R1N Q (.int n) H := ⟨n, rfl, q⟩
theorem r_bmL {r : V → List V → Hp → VK → Prop} {ta : TA} {p : Addr} {xs : List V} (h : SqL K H p xs) (q : ta σ H fun xs H2 => r (.ref p) xs H2 Q) : Bm K "list" r ta σ Q (.ref p) H := ⟨.inl ⟨rfl, _, h⟩, q⟩
theorem r_ixL {p : Addr} {xs : List V} {i : Int} {v : V} (h : SqL K H p xs) (a : atI xs i = some v) (q : Q v H) : rIxL K (.ref p) (.int i) H Q := ⟨p, xs, i, v, rfl, rfl, h, a, q⟩
theorem r_ixT {p : Addr} {xs : List V} {i : Int} {v : V} (h : SqT K H p xs) (a : atI xs i = some v) (q : Q v H) : rIxT K (.ref p) (.int i) H Q := ⟨p, xs, i, v, rfl, rfl, h, a, q⟩
variable {nx bk ct : L2.St → Hp → Prop} {a b : TS}
theorem r_next (q : nx σ H) : tNext ⟨nx, Q, bk, ct⟩ σ H := q
theorem r_seq (h : a ⟨b ⟨nx, Q, bk, ct⟩, Q, bk, ct⟩ σ H) : tSeq a b ⟨nx, Q, bk, ct⟩ σ H := h
/-- a block's tail, once for all ways that lead to it -/
theorem r_seqW (W : L2.St → Hp → Prop) (tail : ∀ σ' H', W σ' H' → b ⟨nx, Q, bk, ct⟩ σ' H') (head : ∀ B : L2.St → Hp → Prop, (∀ σ' H', W σ' H' → B σ' H') → a ⟨B, Q, bk, ct⟩ σ H) : tSeq a b ⟨nx, Q, bk, ct⟩ σ H := head _ tail
theorem r_ret (h : te σ H Q) : tRet te ⟨nx, Q, bk, ct⟩ σ H := h
theorem r_drop (h : te σ H fun _ H1 => nx σ H1) : tDrop te ⟨nx, Q, bk, ct⟩ σ H := h
theorem r_ifS (h : t σ H fun c H1 => if c = true then a ⟨nx, Q, bk, ct⟩ σ H1 else b ⟨nx, Q, bk, ct⟩ σ H1) : tIfS t a b ⟨nx, Q, bk, ct⟩ σ H := h
theorem r_asg {g : TG} (h : te σ H fun x H1 => g x σ H1 nx) : tAsg te g ⟨nx, Q, bk, ct⟩ σ H := h
theorem r_name1 {x0 x1 : Option V} {σ : L2.St} {v : V} {q : L2.St → Hp → Prop} (h : q (x0 :: some v :: σ) H) : gName 1 v (x0 :: x1 :: σ) H q := h
theorem r_name2 {x0 x1 x2 : Option V} {σ : L2.St} {v : V} {q : L2.St → Hp → Prop} (h : q (x0 :: x1 :: some v :: σ) H) : gName 2 v (x0 :: x1 :: x2 :: σ) H q := h
theorem r_name3 {x0 x1 x2 x3 : Option V} {σ : L2.St} {v : V} {q : L2.St → Hp → Prop} (h : q (x0 :: x1 :: x2 :: some v :: σ) H) : gName 3 v (x0 :: x1 :: x2 :: x3 :: σ) H q := h
theorem r_name4 {x0 x1 x2 x3 x4 : Option V} {σ : L2.St} {v : V} {q : L2.St → Hp → Prop} (h : q (x0 :: x1 :: x2 :: x3 :: some v :: σ) H) : gName 4 v (x0 :: x1 :: x2 :: x3 :: x4 :: σ) H q := h
theorem r_name5 {x0 x1 x2 x3 x4 x5 : Option V} {σ : L2.St} {v : V} {q : L2.St → Hp → Prop} (h : q (x0 :: x1 :: x2 :: x3 :: x4 :: some v :: σ) H) : gName 5 v (x0 :: x1 :: x2 :: x3 :: x4 :: x5 :: σ) H q := h
theorem r_name6 {x0 x1 x2 x3 x4 x5 x6 : Option V} {σ : L2.St} {v : V} {q : L2.St → Hp → Prop} (h : q (x0 :: x1 :: x2 :: x3 :: x4 :: x5 :: some v :: σ) H) : gName 6 v (x0 :: x1 :: x2 :: x3 :: x4 :: x5 :: x6 :: σ) H q := h
theorem r_name7 {x0 x1 x2 x3 x4 x5 x6 x7 : Option V} {σ : L2.St} {v : V} {q : L2.St → Hp → Prop} (h : q (x0 :: x1 :: x2 :: x3 :: x4 :: x5 :: x6 :: some v :: σ) H) : gName 7 v (x0 :: x1 :: x2 :: x3 :: x4 :: x5 :: x6 :: x7 :: σ) H q := h
theorem r_sub {to ti : TE} {ts : TSet} {v : V} {q : L2.St → Hp → Prop} (h : to σ H fun o H1 => ti σ H1 fun i H2 => ts o i v H2 fun H3 => q σ H3) : gSub to ti ts v σ H q := h
theorem r_setL {p : Addr} {xs : List V} {k : Int} {j : Nat} {v : V} {q : Hp → Prop} (h : H p = some (.lst xs)) (e : ixN xs.length k = some j) (s : q (upd H p (.lst (xs.set j v)))) : rSetL (.ref p) (.int k) v H q := ⟨p, xs, k, j, rfl, rfl, h, e, s⟩
theorem r_set1 {p : Addr} {x0 x1 : V} {xs : List V} {v : V} {q : Hp → Prop} (h : H p = some (.lst (x0 :: x1 :: xs))) (s : q (upd H p (.lst (x0 :: v :: xs)))) : rSetL (.ref p) (.int 1) v H q := ⟨p, _, 1, 1, rfl, rfl, h, by
  unfold ixN
  rw [if_pos (by decide), if_pos (by simp only [List.length_cons]; omega)]
  rfl, s⟩
theorem r_set2 {p : Addr} {x0 x1 x2 : V} {xs : List V} {v : V} {q : Hp → Prop} (h : H p = some (.lst (x0 :: x1 :: x2 :: xs))) (s : q (upd H p (.lst (x0 :: x1 :: v :: xs)))) : rSetL (.ref p) (.int 2) v H q := ⟨p, _, 2, 2, rfl, rfl, h, by
  unfold ixN
  rw [if_pos (by decide), if_pos (by simp only [List.length_cons]; omega)]
  rfl, s⟩
theorem r_set2u {p : Addr} {x0 x1 x2 : V} {xs : List V} {v : V} {q : Hp → Prop} (s : q (upd H p (.lst (x0 :: x1 :: v :: xs)))) : rSetL (.ref p) (.int 2) v (upd H p (.lst (x0 :: x1 :: x2 :: xs))) q := r_set2 upd_same (by
  rw [upd_upd]
  exact s)
theorem r_set3 {p : Addr} {x0 x1 x2 x3 : V} {xs : List V} {v : V} {q : Hp → Prop} (h : H p = some (.lst (x0 :: x1 :: x2 :: x3 :: xs))) (s : q (upd H p (.lst (x0 :: x1 :: x2 :: v :: xs)))) : rSetL (.ref p) (.int 3) v H q := ⟨p, _, 3, 3, rfl, rfl, h, by
  unfold ixN
  rw [if_pos (by decide), if_pos (by simp only [List.length_cons]; omega)]
  rfl, s⟩
theorem r_gtup {n : Nat} {g : TGs} {p : Addr} {xs : List V} {q : L2.St → Hp → Prop} (h : SqT K H p xs) (l : xs.length = n) (s : g xs σ H q) : gTup K n g (.ref p) σ H q := ⟨p, xs, rfl, h, l, s⟩
theorem r_gcons {g : TG} {gs : TGs} {v : V} {r : List V} {q : L2.St → Hp → Prop} (h : g v σ H fun σ' H' => gs r σ' H' q) : gCons g gs (v :: r) σ H q := ⟨v, r, rfl, h⟩
theorem r_gnil {q : L2.St → Hp → Prop} (h : q σ H) : gNil [] σ H q := ⟨rfl, h⟩
/-- a test whose answer is open, or known -/
theorem r_ite {p : Prop} [Decidable p] {A B : Prop} (h1 : p → A) (h2 : ¬ p → B) : if decide p = true then A else B := by
  by_cases h : p
  · rw [decide_eq_true h, if_pos rfl]
    exact h1 h
  · rw [decide_eq_false h, if_neg Bool.false_ne_true]
    exact h2 h
theorem r_iteN {p : Prop} [Decidable p] {A B : Prop} (h1 : ¬ p → A) (h2 : p → B) : if (!decide p) = true then A else B := by
  by_cases h : p
  · rw [decide_eq_true h]
    exact iteF (h2 h)
  · rw [decide_eq_false h]
    exact iteT (h1 h)
theorem r_iteB {b : Bool} {A B : Prop} (h1 : b = true → A) (h2 : b = false → B) : if b = true then A else B := by
  cases b with
  | true => exact iteT (h1 rfl)
  | false => exact iteF (h2 rfl)
/-! loops: what is left once the iterated thing is there -/
def ForR (J : It) (g : TG) (tb : TS) (nx : L2.St → Hp → Prop) (Q : VK) (σ : L2.St) (H : Hp) : Prop := ∃ W : Nat → Nat → L2.St → Hp → Prop, (∃ m, W 0 m σ H) ∧ ∀ i m σ H, W i m σ H →
  (J.stop i H ∧ nx σ H) ∨ (J.go i H ∧ ∃ N : L2.St → Hp → Prop, (∀ σ' H', N σ' H' → ∃ m', m' < m ∧ W (i + 1) m' σ' H') ∧ ∀ x H', J.yld i H x H' → g x σ H' fun σ2 H2 => tb ⟨N, Q, nx, N⟩ σ2 H2)
theorem r_for {wi : TI} {g : TG} {tb : TS} (h : wi σ H fun J H1 => ForR J g tb nx Q σ H1) : tFor wi g tb ⟨nx, Q, bk, ct⟩ σ H := h
def Rg1 (R : It → Hp → Prop) (vs : List V) (H : Hp) : Prop := ∃ j : Int, vs = [.int j] ∧ -(2 ^ 62) ≤ j ∧ j < 2 ^ 62 ∧ R (Itr 0 j.toNat) H
def Rg2 (R : It → Hp → Prop) (vs : List V) (H : Hp) : Prop := ∃ i j : Int, vs = [.int i, .int j] ∧ (-(2 ^ 62) ≤ i ∧ i < 2 ^ 62 ∧ -(2 ^ 62) ≤ j ∧ j < 2 ^ 62) ∧ R (Itr i (j - i).toNat) H
theorem r_rng1 {ta : TA} {R : It → Hp → Prop} (h : ta σ H (Rg1 R)) : iRng1 ta σ H R := h
theorem r_rng2 {ta : TA} {R : It → Hp → Prop} (h : ta σ H (Rg2 R)) : iRng2 ta σ H R := h
theorem r_rg1 {j : Int} {R : It → Hp → Prop} (h1 : -4611686018427387904 ≤ j ∧ j < 4611686018427387904) (h : R (Itr 0 j.toNat) H) : Rg1 R [V.int j] H := ⟨j, rfl, h1.1, h1.2, h⟩
theorem r_rg2 {i j : Int} {R : It → Hp → Prop} (h1 : -4611686018427387904 ≤ i ∧ i < 4611686018427387904 ∧ -4611686018427387904 ≤ j ∧ j < 4611686018427387904) (h : R (Itr i (j - i).toNat) H) : Rg2 R [V.int i, V.int j] H := ⟨i, j, rfl, h1, h⟩
def Il (K : PySem.W.Frag) (R : It → Hp → Prop) (x : V) (H : Hp) : Prop := ∃ a, x = .ref a ∧ (∃ xs, SqL K H a xs) ∧ R (Itl K a) H
def Itp (K : PySem.W.Frag) (R : It → Hp → Prop) (x : V) (H : Hp) : Prop := ∃ a, x = .ref a ∧ (∃ xs, SqT K H a xs) ∧ R (Itt K a) H
theorem r_ilist {R : It → Hp → Prop} (h : te σ H (Il K R)) : iList K te σ H R := h
theorem r_itup {R : It → Hp → Prop} (h : te σ H (Itp K R)) : iTup K te σ H R := h
theorem r_il {a : Addr} {xs : List V} {R : It → Hp → Prop} (h : SqL K H a xs) (q : R (Itl K a) H) : Il K R (.ref a) H := ⟨a, rfl, ⟨xs, h⟩, q⟩
theorem r_it {a : Addr} {xs : List V} {R : It → Hp → Prop} (h : SqT K H a xs) (q : R (Itt K a) H) : Itp K R (.ref a) H := ⟨a, rfl, ⟨xs, h⟩, q⟩
theorem forR_range {lo : Int} {n : Nat} {g : TG} {tb : TS} (Pv : Nat → L2.St → Hp → Prop) (h0 : Pv 0 σ H)
    (hs : ∀ (i : Nat) σ H, i < n → Pv i σ H → g (.int (lo + i)) σ H fun σ2 H2 => tb ⟨Pv (i + 1), Q, nx, Pv (i + 1)⟩ σ2 H2) (hd : ∀ σ H, Pv n σ H → nx σ H) : ForR (Itr lo n) g tb nx Q σ H :=
  for_range (D := ⟨nx, Q, nx, nx⟩) Pv h0 hs hd
theorem forR_list {a : Addr} {xs : List V} {g : TG} {tb : TS} (Pv : Nat → L2.St → Hp → Prop) (h0 : Pv 0 σ H) (hl : ∀ i σ H, i ≤ xs.length → Pv i σ H → SqL K H a xs)
    (hs : ∀ (i : Nat) x σ H, xs[i]? = some x → Pv i σ H → g x σ H fun σ2 H2 => tb ⟨Pv (i + 1), Q, nx, Pv (i + 1)⟩ σ2 H2) (hd : ∀ σ H, Pv xs.length σ H → nx σ H) : ForR (Itl K a) g tb nx Q σ H :=
  for_list (D := ⟨nx, Q, nx, nx⟩) Pv h0 hl hs hd
theorem forR_tup {a : Addr} {xs : List V} {g : TG} {tb : TS} (Pv : Nat → L2.St → Hp → Prop) (h0 : Pv 0 σ H) (hl : ∀ i σ H, i ≤ xs.length → Pv i σ H → SqT K H a xs)
    (hs : ∀ (i : Nat) x σ H, xs[i]? = some x → Pv i σ H → g x σ H fun σ2 H2 => tb ⟨Pv (i + 1), Q, nx, Pv (i + 1)⟩ σ2 H2) (hd : ∀ σ H, Pv xs.length σ H → nx σ H) : ForR (Itt K a) g tb nx Q σ H :=
  for_tup (D := ⟨nx, Q, nx, nx⟩) Pv h0 hl hs hd
/-! comprehensions likewise -/
def LcR (J : It) (g : TG) (tt : TT) (te : TE) (vs : List Nat) (σ : L2.St) (D : Addr) (Q : VK) (H1 : Hp) : Prop := ∃ W : Nat → Nat → Hp → Prop, (∃ m, W 0 m (upd H1 D (.lst []))) ∧ ∀ i m H, W i m H →
  (J.stop i H ∧ Q (.ref D) H) ∨ (J.go i H ∧ ∃ Nx : Hp → Prop, (∀ H', Nx H' → ∃ m', m' < m ∧ W (i + 1) m' H') ∧ ∀ x H', J.yld i H x H' → g x (wipe σ vs) H' fun σ2 H2 => wipe σ2 vs = wipe σ vs ∧ tt σ2 H2 fun b H3 =>
    if b = true then te σ2 H3 fun y H4 => ∃ acc, H4 D = some (.lst acc) ∧ acc.length < sizeLine ∧ Nx (upd H4 D (.lst (acc ++ [y]))) else Nx H3)
theorem r_lc {wi : TI} {g : TG} {tt : TT} {vs : List Nat} (h : wi σ H fun J H1 => ∀ D, H1 D = none → LcR J g tt te vs σ D Q H1) : tLc wi g tt te vs σ H Q := h
/-- one turn's end of a comprehension: the item goes to D -/
def LcE (D : Addr) (N : Hp → Prop) (y : V) (H4 : Hp) : Prop := ∃ acc, H4 D = some (.lst acc) ∧ acc.length < sizeLine ∧ N (upd H4 D (.lst (acc ++ [y])))
theorem lcR_range {lo : Int} {n : Nat} {g : TG} {tt : TT} {vs : List Nat} {D : Addr} {σw : L2.St} (Pv : Nat → Hp → Prop) (ew : wipe σ vs = σw) (h0 : Pv 0 (upd H D (.lst [])))
    (hs : ∀ (i : Nat) H, i < n → Pv i H → g (.int (lo + i)) σw H fun σ2 H2 => wipe σ2 vs = σw ∧ tt σ2 H2 fun b H3 => if b = true then te σ2 H3 (LcE D (Pv (i + 1))) else Pv (i + 1) H3) (hd : ∀ H, Pv n H → Q (.ref D) H) :
    LcR (Itr lo n) g tt te vs σ D Q H := by
  subst ew
  exact lc_range (Qd := Q (.ref D)) Pv h0 hs hd
theorem lcR_list {a : Addr} {xs : List V} {g : TG} {tt : TT} {vs : List Nat} {D : Addr} {σw : L2.St} (Pv : Nat → Hp → Prop) (ew : wipe σ vs = σw) (h0 : Pv 0 (upd H D (.lst []))) (hl : ∀ i H, i ≤ xs.length → Pv i H → SqL K H a xs)
    (hs : ∀ (i : Nat) x H, xs[i]? = some x → Pv i H → g x σw H fun σ2 H2 => wipe σ2 vs = σw ∧ tt σ2 H2 fun b H3 => if b = true then te σ2 H3 (LcE D (Pv (i + 1))) else Pv (i + 1) H3) (hd : ∀ H, Pv xs.length H → Q (.ref D) H) :
    LcR (Itl K a) g tt te vs σ D Q H := by
  subst ew
  exact lc_list (Qd := Q (.ref D)) Pv h0 hl hs hd
theorem lcR_tup {a : Addr} {xs : List V} {g : TG} {tt : TT} {vs : List Nat} {D : Addr} {σw : L2.St} (Pv : Nat → Hp → Prop) (ew : wipe σ vs = σw) (h0 : Pv 0 (upd H D (.lst []))) (hl : ∀ i H, i ≤ xs.length → Pv i H → SqT K H a xs)
    (hs : ∀ (i : Nat) x H, xs[i]? = some x → Pv i H → g x σw H fun σ2 H2 => wipe σ2 vs = σw ∧ tt σ2 H2 fun b H3 => if b = true then te σ2 H3 (LcE D (Pv (i + 1))) else Pv (i + 1) H3) (hd : ∀ H, Pv xs.length H → Q (.ref D) H) :
    LcR (Itt K a) g tt te vs σ D Q H := by
  subst ew
  exact lc_tup (Qd := Q (.ref D)) Pv h0 hl hs hd
theorem r_yes {Q : Bool → Hp → Prop} (q : Q true H) : tYes σ H Q := q
theorem r_lce {D : Addr} {N : Hp → Prop} {y : V} {acc : List V} (h : H D = some (.lst acc)) (l : acc.length < sizeLine) (q : N (upd H D (.lst (acc ++ [y])))) : LcE D N y H := ⟨acc, h, l, q⟩
theorem r_int1 {i : Int} (q : Q (.int i) H) : rInt1 [.int i] H Q := .inl ⟨i, rfl, q⟩
theorem r_int1b {b : Bool} (q : Q (.int (if b then 1 else 0)) H) : rInt1 [.bl b] H Q := .inr ⟨b, rfl, q⟩
theorem r_min2 {i j : Int} (q : Q (.int (min i j)) H) : rMin2 [.int i, .int j] H Q := ⟨i, j, rfl, by
  rw [show (if j < i then j else i) = min i j by split <;> omega]
  exact q⟩
theorem r_max2 {i j : Int} (q : Q (.int (max i j)) H) : rMax2 [.int i, .int j] H Q := ⟨i, j, rfl, by
  rw [show (if j > i then j else i) = max i j by split <;> omega]
  exact q⟩
theorem r_lenL {p : Addr} {ys : List V} (h : SqL K H p ys) (q : Q (.int ys.length) H) : rLen K [.ref p] H Q := ⟨p, ys, rfl, .inl h, q⟩
theorem r_lenT {p : Addr} {ys : List V} (h : SqT K H p ys) (q : Q (.int ys.length) H) : rLen K [.ref p] H Q := ⟨p, ys, rfl, .inr h, q⟩
theorem r_listL {p : Addr} {ys : List V} (h : SqL K H p ys) (q : ∀ l, H l = none → Q (.ref l) (upd H l (.lst ys))) : rListOf K [.ref p] H Q := ⟨p, ys, rfl, .inl h, q⟩
theorem r_listT {p : Addr} {ys : List V} (h : SqT K H p ys) (q : ∀ l, H l = none → Q (.ref l) (upd H l (.lst ys))) : rListOf K [.ref p] H Q := ⟨p, ys, rfl, .inr h, q⟩
theorem r_tupL {p : Addr} {ys : List V} (h : SqL K H p ys) (q : ∀ l, H l = none → Q (.ref l) (upd H l (.tup ys))) : rTupOf K [.ref p] H Q := ⟨p, ys, rfl, .inl ⟨h, q⟩⟩
theorem r_at {N : List PySem.Str} {vs : List V} {t : TS} {D : Ends} (e : L2.start N vs = σ) (h : t D σ H) : t D (L2.start N vs) H := by
  rw [e]
  exact h
/-! methods of lists -/
theorem r_appT {l : Addr} {xs : List V} {y : V} (h : H l = some (.lst xs)) (s : xs.length < sizeLine) (q : Q .non (upd H l (.lst (xs ++ [y])))) : rAppend (.ref l) [y] H Q := ⟨l, xs, y, rfl, rfl, h, s, q⟩
end
theorem at_int {ns : List Int} {p : Int} (h0 : 0 ≤ p) (h1 : p < ns.length) : ∃ c ∈ ns, atI (ns.map V.int) p = some (.int c) := by
  have hlt : p.toNat < ns.length := by omega
  refine ⟨ns[p.toNat], List.getElem_mem hlt, at_of (j := p.toNat) (by omega) ?_⟩
  rw [List.getElem?_map, List.getElem?_eq_getElem hlt]
  rfl
/-- 0 .. n - 1 -/
def rgI (n : Int) : List Int := (List.range n.toNat).map fun (i : Nat) => (i : Int)
theorem rgI_len (n : Int) : (rgI n).length = n.toNat := by
  unfold rgI
  rw [List.length_map, List.length_range]
theorem mem_rgI {n z : Int} : z ∈ rgI n ↔ 0 ≤ z ∧ z < n := by
  unfold rgI
  rw [List.mem_map]
  constructor
  · rintro ⟨i, hi, rfl⟩
    rw [List.mem_range] at hi
    omega
  · rintro ⟨h1, h2⟩
    exact ⟨z.toNat, List.mem_range.mpr (by omega), by omega⟩
theorem rgI_nodup (n : Int) : (rgI n).Nodup := by
  unfold rgI
  exact List.pairwise_map.mpr (List.nodup_range.imp fun {i j} h e => h (by omega))
theorem rgV_rgI (n : Int) : rgV 0 n = (rgI n).map V.int := by
  unfold rgV rgI
  rw [List.map_map, Int.sub_zero]
  refine List.map_congr_left fun i _ => ?_
  show V.int (0 + (i : Int)) = V.int (i : Int)
  rw [Int.zero_add]
theorem r_lRg {H : Hp} {Q : VK} {n : Int} (h0 : 0 ≤ n) (h1 : n ≤ 10000) (q : ∀ p, H p = none → Q (.ref p) (upd H p (.lst ((rgI n).map V.int)))) : LRg Q 0 n H := ⟨.of_le (by omega) (by omega) (by omega) h0, fun p hp => by
  rw [rgV_rgI]
  exact q p hp⟩
theorem small_len {n : Nat} (h : n ≤ 100000) : n ≤ sizeLine := Nat.le_trans h (by decide)
theorem small_lt {n : Nat} (h : n < 100000) : n < sizeLine := Nat.lt_of_lt_of_le h (by decide)

set_option Elab.async false
set_option linter.all false
open PySem PySem.Spec PyProof.Rows L2
/-! ## the mathematics of pairs -/
def rowP (u lo : Int) (k : Nat) : List (Int × Int) := (List.range k).map fun (j : Nat) => (u, lo + (j : Int))
theorem rowP_succ (u lo : Int) (k : Nat) : rowP u lo (k + 1) = rowP u lo k ++ [(u, lo + (k : Int))] := by
  unfold rowP
  rw [List.range_succ, List.map_append]
  rfl
theorem mem_rowP {u lo : Int} {k : Nat} {p : Int × Int} : p ∈ rowP u lo k ↔ p.1 = u ∧ lo ≤ p.2 ∧ p.2 < lo + k := by
  unfold rowP
  rw [List.mem_map]
  constructor
  · rintro ⟨j, hj, rfl⟩
    rw [List.mem_range] at hj
    exact ⟨rfl, by show lo ≤ lo + (j : Int); omega, by show lo + (j : Int) < lo + k; omega⟩
  · obtain ⟨a, b⟩ := p
    rintro ⟨h1, h2, h3⟩
    refine ⟨(b - lo).toNat, List.mem_range.mpr (by simp only at h2 h3; omega), ?_⟩
    simp only at h1 h2 h3 ⊢
    rw [h1, show lo + ((b - lo).toNat : Int) = b by omega]
theorem rowP_asc (u lo : Int) : ∀ k, (rowP u lo k).Pairwise ltP
  | 0 => List.Pairwise.nil
  | k + 1 => by
    rw [rowP_succ]
    refine List.pairwise_append.mpr ⟨rowP_asc u lo k, List.pairwise_singleton _ _, fun p hp q hq => ?_⟩
    obtain ⟨h1, h2, h3⟩ := mem_rowP.mp hp
    rw [List.mem_singleton.mp hq]
    exact .inr ⟨h1, h3⟩
theorem rowP_len (u lo : Int) (k : Nat) : (rowP u lo k).length = k := by
  unfold rowP
  rw [List.length_map, List.length_range]
def preP (n : Nat) : Nat → List (Int × Int)
  | 0 => []
  | i + 1 => preP n i ++ rowP (i : Int) ((i : Int) + 1) (n - 1 - i)
def allP (n : Nat) : List (Int × Int) := preP n n
theorem mem_preP {n : Nat} {p : Int × Int} : ∀ {i : Nat}, i ≤ n → (p ∈ preP n i ↔ 0 ≤ p.1 ∧ p.1 < i ∧ p.1 < p.2 ∧ p.2 < n)
  | 0, _ => by
    constructor
    · intro h
      cases h
    · rintro ⟨h1, h2, _⟩
      have h2 : p.1 < 0 := h2
      omega
  | i + 1, hi => by
    show p ∈ preP n i ++ rowP (i : Int) ((i : Int) + 1) (n - 1 - i) ↔ _
    rw [List.mem_append, mem_preP (by omega : i ≤ n), mem_rowP]
    constructor
    · rintro (⟨h1, h2, h3, h4⟩ | ⟨h1, h2, h3⟩)
      · exact ⟨h1, by omega, h3, h4⟩
      · exact ⟨by omega, by omega, by omega, by omega⟩
    · rintro ⟨h1, h2, h3, h4⟩
      by_cases e : p.1 = (i : Int)
      · exact .inr ⟨e, by omega, by omega⟩
      · exact .inl ⟨h1, by omega, h3, h4⟩
theorem mem_allP {n : Nat} {p : Int × Int} : p ∈ allP n ↔ 0 ≤ p.1 ∧ p.1 < p.2 ∧ p.2 < n := by
  unfold allP
  rw [mem_preP (Nat.le_refl n)]
  omega
theorem preP_asc {n : Nat} : ∀ {i : Nat}, i ≤ n → (preP n i).Pairwise ltP
  | 0, _ => .nil
  | i + 1, hi => by
    show (preP n i ++ rowP (i : Int) ((i : Int) + 1) (n - 1 - i)).Pairwise ltP
    refine List.pairwise_append.mpr ⟨preP_asc (by omega), rowP_asc _ _ _, fun p hp q hq => ?_⟩
    have h1 := (mem_preP (by omega : i ≤ n)).mp hp
    have h2 := mem_rowP.mp hq
    exact .inl (by omega)
theorem allP_asc (n : Nat) : (allP n).Pairwise ltP := preP_asc (Nat.le_refl n)
theorem preP_len {n : Nat} : ∀ {i : Nat}, (preP n i).length ≤ i * n
  | 0 => Nat.zero_le _
  | i + 1 => by
    show (preP n i ++ rowP (i : Int) ((i : Int) + 1) (n - 1 - i)).length ≤ _
    rw [List.length_append, rowP_len, Nat.succ_mul]
    have := preP_len (n := n) (i := i)
    omega
theorem ltP_irrefl (p : Int × Int) : ¬ ltP p p := by
  unfold ltP
  omega
theorem ltP_trans {p q r : Int × Int} (h1 : ltP p q) (h2 : ltP q r) : ltP p r := by
  unfold ltP at *
  omega
theorem ltP_of_le_ne {p q : Int × Int} (h : leP p q) (n : p ≠ q) : ltP p q := by
  obtain ⟨a, b⟩ := p
  obtain ⟨c, d⟩ := q
  unfold leP at h
  unfold ltP
  simp only at *
  by_cases h2 : a = c
  · by_cases h3 : b = d
    · exact absurd (by rw [h2, h3]) n
    · omega
  · omega
theorem asc_nodup {ps : List (Int × Int)} (h : ps.Pairwise ltP) : ps.Nodup := by
  refine List.Pairwise.imp (R := ltP) (fun {p q} h => ?_) h
  intro e
  rw [e] at h
  exact ltP_irrefl q h
theorem nodup_le {α : Type} [DecidableEq α] : ∀ (l m : List α), l.Nodup → (∀ x ∈ l, x ∈ m) → l.length ≤ m.length
  | [], _, _, _ => Nat.zero_le _
  | x :: l, m, hn, hs => by
    obtain ⟨h1, h2⟩ := List.nodup_cons.mp hn
    have hx : x ∈ m := hs x List.mem_cons_self
    have ih := nodup_le l (m.erase x) h2 fun y hy => by
      have hne : y ≠ x := by
        intro e
        rw [e] at hy
        exact h1 hy
      exact (List.mem_erase_of_ne hne).2 (hs y (List.mem_cons_of_mem _ hy))
    have e := List.length_erase_of_mem hx
    have p := List.length_pos_of_mem hx
    simp only [List.length_cons]
    omega
/-- what the walk over the sorted rows keeps: ascending, the same members, the same last one -/
structure Ded (qs fs : List (Int × Int)) : Prop where
  asc : fs.Pairwise ltP
  mem : ∀ p, p ∈ fs ↔ p ∈ qs
  last : fs.getLast? = qs.getLast?
theorem Ded.nil : Ded [] [] := ⟨.nil, fun _ => Iff.rfl, rfl⟩
theorem last_snoc {α : Type} (l : List α) (x : α) : (l ++ [x]).getLast? = some x := by simp
/-- the last row again -/
theorem Ded.same {qs fs : List (Int × Int)} {q : Int × Int} (D : Ded qs fs) (h : fs.getLast? = some q) : Ded (qs ++ [q]) fs := by
  refine ⟨D.asc, fun p => ?_, by rw [last_snoc, h]⟩
  rw [List.mem_append, List.mem_singleton, D.mem]
  constructor
  · exact .inl
  · rintro (z | z)
    · exact z
    · rw [z, ← D.mem]
      exact List.mem_of_getLast? h
/-- another one -/
theorem Ded.more {qs fs : List (Int × Int)} {q : Int × Int} (D : Ded qs fs) (hl : (qs ++ [q]).Pairwise leP) (h : fs.getLast? ≠ some q) : Ded (qs ++ [q]) (fs ++ [q]) := by
  refine ⟨?_, fun p => ?_, by rw [last_snoc, last_snoc]⟩
  · refine List.pairwise_append.mpr ⟨D.asc, List.pairwise_singleton _ _, fun p hp r hr => ?_⟩
    rw [List.mem_singleton.mp hr]
    obtain ⟨l1, _, l3⟩ := List.pairwise_append.mp hl
    have hle : ∀ z ∈ qs, leP z q := fun z hz => l3 z hz q (List.mem_singleton.mpr rfl)
    -- fs is not empty; its last one is not q
    obtain ⟨z, hz⟩ : ∃ z, fs.getLast? = some z := by
      cases e : fs.getLast? with
      | some z => exact ⟨z, rfl⟩
      | none =>
        rw [List.getLast?_eq_none_iff] at e
        rw [e] at hp
        cases hp
    have zq : ltP z q := ltP_of_le_ne (hle z ((D.mem z).mp (List.mem_of_getLast? hz))) fun e => h (by rw [hz, e])
    obtain ⟨pre, e⟩ : ∃ pre, fs = pre ++ [z] := by
      obtain ⟨hne, e⟩ := List.getLast?_eq_some_iff.mp hz
      exact ⟨_, e⟩
    rw [e] at hp
    rcases List.mem_append.mp hp with h1 | h1
    · have a := D.asc
      rw [e] at a
      exact ltP_trans ((List.pairwise_append.mp a).2.2 p h1 z (List.mem_singleton.mpr rfl)) zq
    · rw [List.mem_singleton.mp h1]
      exact zq
  · rw [List.mem_append, List.mem_append, D.mem]
theorem sz1 {a : V} : [a].length ≤ sizeLine := by show 1 ≤ sizeLine; decide
theorem sz2 {a b : V} : [a, b].length ≤ sizeLine := by show 2 ≤ sizeLine; decide
theorem sz3 {a b c : V} : [a, b, c].length ≤ sizeLine := by show 3 ≤ sizeLine; decide
theorem at_last {zs : List V} {z : V} (h : zs.getLast? = some z) : atI zs (-1) = some z := by
  obtain ⟨pre, e⟩ := List.getLast?_eq_some_iff.mp h
  rw [e]
  exact atI_last _ _
theorem pd_last {α β : Type} {F : α → β → Prop} {xs : List α} {ps : List β} {p : β} (h : Paired F xs ps) (hp : ps.getLast? = some p) : ∃ x, xs.getLast? = some x ∧ F x p := by
  rw [List.getLast?_eq_getElem?] at hp
  obtain ⟨x, hx, f⟩ := pd_get2 h hp
  refine ⟨x, ?_, f⟩
  rw [List.getLast?_eq_getElem?, h.length]
  exact hx
section
variable {K : PySem.W.Frag} {H : Hp} {Q : VK}
theorem r_eqNil {f e : Addr} {xs : List V} {ps : List (Int × Int)} (h : H f = some (.lst xs)) (he : H e = some (.lst [])) (hp : Prs H xs ps) (q : Q (.bl (decide (ps = []))) H) : rEqD K (.ref f) (.ref e) H Q := by
  refine ⟨.list (ps.map prD2), .list [], .lst (.inl (.inl h)) hp.dps, .lst (.inl (.inl he)) .nil, prD2s_shL ps, prD2s_shL [], ?_⟩
  cases ps with
  | nil => exact q
  | cons p ps => exact q
theorem r_neP {x y : V} {p r : Int × Int} (hx : IsP H x p) (hy : IsP H y r) (q : Q (.bl (!decide (p = r))) H) : rNeD K x y H Q :=
  ⟨prD2 p, prD2 r, hx.dp, hy.dp, prD2_shaped p, prD2_shaped r, by rw [prD2_eqv]; exact q⟩
end
/-- a pair with its less end first -/
def nrm (p : Int × Int) : Int × Int := (min p.1 p.2, max p.1 p.2)
/-- a graph: the number of vertices, the ascending edges -/
structure GoodG (n : Int) (ps : List (Int × Int)) : Prop where
  one : 1 ≤ n
  asc : ps.Pairwise ltP
  inn : ∀ p ∈ ps, 0 ≤ p.1 ∧ p.1 < p.2 ∧ p.2 < n

set_option Elab.async false
set_option linter.all false
set_option maxRecDepth 100000
set_option maxHeartbeats 4000000
open PySem PySem.Spec PyProof.Rows L2
/-! # sets of tuples that a comprehension lays -/
section
variable {X : Cx}
/-- D takes the tuple y in -/
def AdT (K : PySem.W.Frag) (P : Program) (w : World) (D : Addr) (N : Hp → Prop) : V → Hp → Prop := fun y H => ∃ (b : Addr) (k : List Int) (L : List (Addr × List Int)), y = .ref b ∧ SqT K H b (k.map V.int) ∧ H D = some (SetTO P w D L) ∧
  (∀ p ∈ L, SqT K H p.1 (p.2.map V.int)) ∧ L.length + 1 < 64 ∧ ∀ L', (k ∈ L.map (·.2) → L' = L) → (k ∉ L.map (·.2) → L'.Perm ((b, k) :: L)) → N (upd H D (SetTO P w D L'))
/-- the set's own reading: what is met, turn by turn -/
def ScR (K : PySem.W.Frag) (P : Program) (w : World) (J : It) (g : TG) (tt : TT) (te : TE) (vs : List Nat) (σ : L2.St) (D : Addr) (Q : VK) (H1 : Hp) : Prop := ∃ W : Nat → Nat → Hp → Prop, (∃ m0, W 0 m0 (upd H1 D (SetTO P w D []))) ∧ ∀ i m H, W i m H →
  (J.stop i H ∧ Q (.ref D) H) ∨ (J.go i H ∧ ∃ Nx : Hp → Prop, (∀ H', Nx H' → ∃ m', m' < m ∧ W (i + 1) m' H') ∧ ∀ x H', J.yld i H x H' → g x (wipe σ vs) H' fun σ2 H2 => wipe σ2 vs = wipe σ vs ∧ tt σ2 H2 fun b H3 => if b = true then te σ2 H3 (AdT K P w D Nx) else Nx H3)
def tST (K : PySem.W.Frag) (P : Program) (w : World) (wi : TI) (g : TG) (tt : TT) (te : TE) (vs : List Nat) : TE := fun σ H Q => wi σ H fun J H1 => ∀ D, H1 D = none → ScR K P w J g tt te vs σ D Q H1
variable {elt tg iter : Expr} {ifs : List Expr} {scope : Scope} {own : List (PySem.Str × Nat)} {pos : Pos} {wi : TI} {g : TG} {tt : TT} {te : TE}
end
section
variable {X : Cx} {K : PySem.W.Frag} {P : Program} {w : World}
variable {σ : L2.St} {H : Hp} {Q : VK}
/-- the set of these pairs -/
def SetP (P : Program) (w : World) (H : Hp) (D : Addr) (qs : List (Int × Int)) : Prop := ∃ L, H D = some (SetTO P w D L) ∧ (∀ p ∈ L, H p.1 = some (.tup (p.2.map V.int))) ∧ (∀ k, k ∈ L.map (·.2) ↔ ∃ q ∈ qs, k = [q.1, q.2]) ∧ L.length ≤ qs.length
end
section
variable {P : Program} {w : World} {K : PySem.W.Frag} {mg : Str → Option Value} {base : Heap}
/-- a promise that nothing keeps to is kept -/
theorem fn_none {k : Nat} {f : Addr} {fd : FuncData} {ps : List PySem.Str} {CX : CXT} : FnOk P w K mg base CX k f fd ps (fun _ _ _ _ => False) := ⟨fun _ _ _ _ h => h.elim, fun _ _ _ _ _ _ _ _ _ _ _ _ _ h => h.elim⟩
theorem r_ixE {H : Hp} {Q : VK} {l : Addr} {xs : List V} {i : Int} {v : V} (h : SqL K H l xs ∨ SqT K H l xs) (e : atI xs i = some v) (q : Q v H) : rIxL K (.ref l) (.int i) H Q ∨ rIxT K (.ref l) (.int i) H Q := by
  rcases h with h | h
  · exact .inl (r_ixL h e q)
  · exact .inr (r_ixT h e q)
end

set_option Elab.async false
set_option linter.all false
set_option maxRecDepth 100000
set_option maxHeartbeats 4000000
open PySem PySem.Spec PyProof.Rows L2
/-- an own error's class -/
structure ExcD (K : PySem.W.Frag) (mg : Str → Option Value) (x : Str) where
  C : Addr
  g : mg x = some (.ref C)
  k : PySem.W.keepIn K (.ref C) = true
  q : PySem.W.excIn K C [.type "ValueError", .type "Exception", .type "BaseException", .type "object"] "ValueError.__new__" = true
  ex : PySem.W.subIn K (.ref C) (.type "BaseException") = some true
  ty : PySem.W.typeIn K (.ref C) = some (.type "type")
  me : PySem.W.subIn K (.ref C) (.ref C) = some true
  cc : ExcC K C
section
variable {K : PySem.W.Frag} {mg : Str → Option Value} {x : Str}
/-- isinstance(e, ..) of what was caught -/
def rIsEc (K : PySem.W.Frag) (D a : Addr) (cls : Value) (d : Option Addr) : List V → Hp → VK → Prop := fun xs H Q => cls = .ref D ∧ d = none ∧ rIsE K D a xs H Q
variable {σ : L2.St} {H : Hp} {Q : VK}
/-! chains of comparisons -/
def ChN (r' : R2) (tc : TE) (σ : L2.St) (Q : VK) (y : V) : VK := fun z H3 => ∃ k, z = .bl k ∧ (if k = true then tc σ H3 fun w' H4 => r' y w' H4 Q else Q (.bl false) H3)
theorem r_chain {r r' : R2} {ta tb tc : TE} (h : ta σ H fun x H1 => tb σ H1 fun y H2 => r x y H2 (ChN r' tc σ Q y)) : tChain r r' ta tb tc σ H Q := h
theorem r_chn {r' : R2} {tc : TE} {y : V} {b : Bool} (h : if b = true then tc σ H fun w' H4 => r' y w' H4 Q else Q (.bl false) H) : ChN r' tc σ Q y (.bl b) H := ⟨b, rfl, h⟩
def rInsN : V → List V → Hp → VK → Prop := fun x vs H Q => ∃ (l : Addr) (xs : List V) (i : Int) (y : V), x = .ref l ∧ vs = [.int i, y] ∧ H l = some (.lst xs) ∧ xs.length < sizeLine ∧ 0 ≤ i ∧ i < 2 ^ 63 ∧ Q .non (upd H l (.lst (xs.take i.toNat ++ [y] ++ xs.drop i.toNat)))
end

set_option Elab.async false
set_option linter.all false
set_option maxRecDepth 100000
set_option maxHeartbeats 4000000
open PySem PySem.Spec PyProof.Rows L2
/-! # enumerate over a tuple -/
section
variable {prog : Program} {w : World} {A : Around} {E : Value → Shared → Prop} {s : Shared}
end
/-- the tuple at a, its items in new pairs -/
def IteT (K : PySem.W.Frag) (a : Addr) : It :=
  ⟨fun i H => ∃ (xs : List V) (x : V), SqT K H a xs ∧ xs[i]? = some x, fun i H v H' => ∃ T x, v = .ref T ∧ H T = none ∧ H' = upd H T (.tup [.int (i : Nat), x]) ∧ ∀ xs, SqT K H a xs → xs[i]? = some x, fun i H => ∃ xs : List V, SqT K H a xs ∧ xs.length ≤ i⟩
def iEnumT (K : PySem.W.Frag) (ta : TA) : TI := fun σ H R => ta σ H fun vs H1 => ∃ a xs, vs = [.ref a] ∧ SqT K H1 a xs ∧ R (IteT K a) H1
/-! # dicts whose keys are tuples, laid by a comprehension -/
section
variable {X : Cx}
def PutT (D : Addr) (N : Hp → Prop) (y z : V) (H : Hp) : Prop := ∃ (kvs : List (List L2.Key × V)) (k : List L2.Key) (b : Addr), y = .ref b ∧ H D = some (.dT kvs) ∧ H b = some (.tup (k.map kV)) ∧ kvs.length < sizeLine ∧ N (upd H D (.dT (putK kvs k z)))
def DcR (J : It) (g : TG) (tt : TT) (tk tv : TE) (vs : List Nat) (σ : L2.St) (D : Addr) (Q : VK) (H1 : Hp) : Prop := ∃ W : Nat → Nat → Hp → Prop, (∃ m0, W 0 m0 (upd H1 D (.dT []))) ∧ ∀ i m H, W i m H →
  (J.stop i H ∧ Q (.ref D) H) ∨ (J.go i H ∧ ∃ Nx : Hp → Prop, (∀ H', Nx H' → ∃ m', m' < m ∧ W (i + 1) m' H') ∧ ∀ x H', J.yld i H x H' → g x (wipe σ vs) H' fun σ2 H2 => wipe σ2 vs = wipe σ vs ∧ tt σ2 H2 fun b H3 => if b = true then tk σ2 H3 fun y H4 => tv σ2 H4 (PutT D Nx y) else Nx H3)
def tDcT (wi : TI) (g : TG) (tt : TT) (tk tv : TE) (vs : List Nat) : TE := fun σ H Q => wi σ H fun J H1 => ∀ D, H1 D = none → DcR J g tt tk tv vs σ D Q H1
variable {kx vx tg iter : Expr} {ifs : List Expr} {scope : Scope} {own : List (PySem.Str × Nat)} {pos : Pos} {wi : TI} {g : TG} {tt : TT} {tk tv : TE}
end

set_option Elab.async false
set_option linter.all false
set_option maxRecDepth 100000
set_option maxHeartbeats 4000000
open PySem PySem.Spec PyProof.Rows L2
section
variable {X : Cx} {K : PySem.W.Frag} {P : Program} {w : World} {σ : L2.St} {H : Hp} {Q : VK} {D : Addr}
def EnT (K : PySem.W.Frag) (R : It → Hp → Prop) : List V → Hp → Prop := fun vs H1 => ∃ a xs, vs = [.ref a] ∧ SqT K H1 a xs ∧ R (IteT K a) H1
/-! ## number dicts -/
def PutK (D : Addr) (N : Hp → Prop) (y z : V) (H : Hp) : Prop := ∃ (kvs : List (L2.Key × V)) (k : L2.Key), y = kV k ∧ H D = some (.dK kvs) ∧ kvs.length < sizeLine ∧ N (upd H D (.dK (putK kvs k z)))
def KcR (J : It) (g : TG) (tt : TT) (tk tv : TE) (vs : List Nat) (σ : L2.St) (D : Addr) (Q : VK) (H1 : Hp) : Prop := ∃ W : Nat → Nat → Hp → Prop, (∃ m0, W 0 m0 (upd H1 D (.dK []))) ∧ ∀ i m H, W i m H →
  (J.stop i H ∧ Q (.ref D) H) ∨ (J.go i H ∧ ∃ Nx : Hp → Prop, (∀ H', Nx H' → ∃ m', m' < m ∧ W (i + 1) m' H') ∧ ∀ x H', J.yld i H x H' → g x (wipe σ vs) H' fun σ2 H2 => wipe σ2 vs = wipe σ vs ∧ tt σ2 H2 fun b H3 => if b = true then tk σ2 H3 fun y H4 => tv σ2 H4 (fun z H5 => PutK D Nx y z H5) else Nx H3)
/-! ## two clauses -/
def LnR (J1 : It) (g1 : TG) (tt1 : TT) (te : TE) (vs1 : List Nat) (σ2 : L2.St) (D : Addr) (Nx : Hp → Prop) (H4 : Hp) : Prop := ∃ W1 : Nat → Nat → Hp → Prop, (∃ m1, W1 0 m1 H4) ∧ ∀ j k H, W1 j k H →
  (J1.stop j H ∧ Nx H) ∨ (J1.go j H ∧ ∃ Nx1 : Hp → Prop, (∀ H', Nx1 H' → ∃ k', k' < k ∧ W1 (j + 1) k' H') ∧ ∀ x H', J1.yld j H x H' → g1 x (wipe σ2 vs1) H' fun σ3 H5 => wipe σ3 vs1 = wipe σ2 vs1 ∧ tt1 σ3 H5 fun b H6 => if b = true then te σ3 H6 (LcE D Nx1) else Nx1 H6)
def Lc2R (J : It) (g : TG) (tt : TT) (wi1 : TI) (g1 : TG) (tt1 : TT) (te : TE) (vs vs1 : List Nat) (σ : L2.St) (D : Addr) (Q : VK) (H1 : Hp) : Prop := ∃ W : Nat → Nat → Hp → Prop, (∃ m0, W 0 m0 (upd H1 D (.lst []))) ∧ ∀ i m H, W i m H →
  (J.stop i H ∧ Q (.ref D) H) ∨ (J.go i H ∧ ∃ Nx : Hp → Prop, (∀ H', Nx H' → ∃ m', m' < m ∧ W (i + 1) m' H') ∧ ∀ x H', J.yld i H x H' → g x (wipe σ vs) H' fun σ2 H2 => wipe σ2 vs = wipe σ vs ∧ tt σ2 H2 fun b H3 => if b = true then wi1 σ2 H3 fun J1 H4 => LnR J1 g1 tt1 te vs1 σ2 D Nx H4 else Nx H3)
/-! ## what dicts hold -/
def DgN (Q : VK) (x : V) : VK := fun y H2 => ∃ a v, x = .ref a ∧ DGet H2 a y (some v) ∧ Q v H2
def DnN (Q : VK) (y : V) : VK := fun x H2 => ∃ a o, x = .ref a ∧ DGet H2 a y o ∧ Q (.bl (!o.isSome)) H2
theorem op_catAK (h : X.K = K) : OpR X (binaryOp .Add) (rCatA K) := h ▸ op_catA
theorem r_catA {l b : Addr} {xs zs : List V} (h1 : H l = some (.tup xs)) (h2 : H b = some (.tup zs)) (hz : xs.length + zs.length ≤ 100000) (q : ∀ p H', Same H H' → H' p = some (.tup (xs ++ zs)) → Q (.ref p) H') : rCatA K (.ref l) (.ref b) H Q := by
  refine ⟨l, b, xs, zs, rfl, rfl, .inl (.inl h1), .inl (.inl h2), small_len hz, fun e => ?_, fun e1 e2 => ?_, fun e1 e2 p hp => q p _ (same_new hp) upd_same⟩
  · subst e
    exact q b H (fun _ _ h => h) h2
  · subst e2
    refine q l H (fun _ _ h => h) ?_
    rw [List.append_nil]
    exact h1
end

set_option Elab.async false
set_option linter.all false
set_option maxRecDepth 100000
set_option maxHeartbeats 4000000
open PySem PySem.Spec PyProof.Rows L2
/-! # match on tuples: a word, then names -/
/-- each pattern of these is a bare name -/
inductive Caps : List Pattern → List PySem.Str → Prop where
  | nil : Caps [] []
  | cons {ps : List Pattern} {ns : List PySem.Str} (n : PySem.Str) (p : Pos) (r : Caps ps ns) : Caps (.MatchAs none (some n) p :: ps) (n :: ns)
section
variable {M : Model} {A : Around} {E : Value → Shared → Prop} {env : Env}
end
section
variable {X : Cx}
/-- names that are bound, one after another -/
structure PBn (X : Cx) (ns : List PySem.Str) (t : TGs) : Prop where
  run : ∀ (pins : List (Addr × Obj)) (s : Shared) (σ : L2.St) (H : Hp) (vs : List V) (us : List Value) (Q : L2.St → Hp → Prop), Inv X pins σ H s → Vals vs us → t vs σ H Q → wpAny (model X.prog X.w) X.A (assignInOrder (ns.map (bindName X.env)) us) (fun _ s' => ∃ σ' H', Inv X pins σ' H' s' ∧ Q σ' H') X.xe s
/-- the cases of a match, behind the subject -/
structure PMc (X : Cx) (cs : List MatchCase) (t : V → TS) : Prop where
  run : ∀ (pins : List (Addr × Obj)) (s : Shared) (σ : L2.St) (H : Hp) (D : Ends) (v : V) (u : Value) (first : Bool), Inv X pins σ H s → RelV v u → t v D σ H → wpAny (model X.prog X.w) X.A (matchCases cs X.env u first) (SP X pins D) X.xe s
def tMatch (te : TE) (t : V → TS) : TS := fun D σ H => te σ H fun v H1 => t v D σ H1
/-- case [z, n1, ..] -/
def tWord (K : PySem.W.Frag) (z : PySem.Str) (n : Nat) (g : TGs) (tb : TS) (rest : V → TS) : V → TS := fun v D σ H => ∃ (a : Addr) (y : PySem.Str) (xs : List V), v = .ref a ∧ SqT K H a (.str y :: xs) ∧ (xs.length ≠ n → rest v D σ H) ∧
  (xs.length = n → (y = z → g xs σ H fun σ' H' => tb D σ' H') ∧ (y ≠ z → rest v D σ H))
variable {K : PySem.W.Frag} {σ : L2.St} {H : Hp} {D : Ends}
def StN (K : PySem.W.Frag) (t : TA) (σ : L2.St) (Q : List V → Hp → Prop) : VK := fun x H1 => ∃ p xs, x = V.ref p ∧ (SqT K H1 p xs ∨ SqL K H1 p xs) ∧ t σ H1 fun ys H2 => Q (xs ++ ys) H2
end

set_option Elab.async false
set_option linter.all false
set_option maxRecDepth 100000
set_option maxHeartbeats 4000000
open PySem PySem.Spec PyProof.Rows L2
/-! # try .. except X as e: .. else: .. -/
section
variable {X : Cx} {cx nm : Str} {cv : Value} {k : Nat} {bd su : List Stmt} {b0 : Stmt} {p1 p2 p3 : Pos} {tb : WX → TS} {ts : Addr → Value → Option Addr → TS} {Wo : WX}
end

set_option Elab.async false
set_option linter.all false
set_option maxRecDepth 100000
set_option maxHeartbeats 4000000
open PySem PySem.Spec PyProof.Rows L2
/-! # what a suite of except may do: min and max of two ints, calls -/
section
variable {prog : Program} {w : World} {A : Around} {E : Value → Shared → Prop} {s : Shared}
end
section
variable {X : Cx}
end
section
variable {P : Program} {w : World} {K : PySem.W.Frag} {mg : Str → Option Value} {base : Heap}
end

set_option Elab.async false
set_option linter.all false
set_option maxRecDepth 100000
set_option maxHeartbeats 4000000
open PySem PySem.Spec PyProof.Rows L2
/-- an expression that is never reached -/
def tDead : TE := fun _ _ _ => False
section
variable {K : PySem.W.Frag} {H : Hp} {Q : VK}
end

set_option Elab.async false
set_option linter.all false
set_option maxRecDepth 100000
set_option maxHeartbeats 4000000
open PySem PySem.Spec PyProof.Rows L2
/-! # sets as the bits of a number -/
structure Msk (x : Int) (S : Int → Prop) : Prop where
  nn : 0 ≤ x
  bits : ∀ i : Nat, x.toNat.testBit i = true ↔ S i
theorem Msk.zero : Msk 0 (fun _ => False) := ⟨by omega, fun i => by simp⟩
theorem Msk.shl {v : Int} (h : 0 ≤ v) : Msk (1 * 2 ^ v.toNat) (fun i => i = v) := by
  have e : (1 * 2 ^ v.toNat : Int) = ((2 ^ v.toNat : Nat) : Int) := by
    rw [Int.one_mul]
    exact (PySem.W.kbt_cast v.toNat).symm
  rw [e]
  refine ⟨Int.natCast_nonneg _, fun i => ?_⟩
  rw [Int.toNat_natCast, Nat.testBit_two_pow, decide_eq_true_eq]
  omega
theorem Msk.or {x y : Int} {S T : Int → Prop} (a : Msk x S) (b : Msk y T) : Msk (Builtin.bitOr x y) (fun i => S i ∨ T i) := by
  rw [Bits.bitOr_pp a.nn b.nn]
  refine ⟨Int.natCast_nonneg _, fun i => ?_⟩
  rw [Int.toNat_natCast, Nat.testBit_or, Bool.or_eq_true, a.bits, b.bits]
theorem Msk.and {x y : Int} {S T : Int → Prop} (a : Msk x S) (b : Msk y T) : Msk (Builtin.bitAnd x y) (fun i => S i ∧ T i) := by
  rw [bitAnd_pp a.nn b.nn]
  refine ⟨Int.natCast_nonneg _, fun i => ?_⟩
  rw [Int.toNat_natCast, Nat.testBit_and, Bool.and_eq_true, a.bits, b.bits]
theorem Msk.congr {x : Int} {S T : Int → Prop} (a : Msk x S) (h : ∀ i : Nat, S i ↔ T i) : Msk x T := ⟨a.nn, fun i => (a.bits i).trans (h i)⟩
theorem Msk.ne0 {x : Int} {S : Int → Prop} (a : Msk x S) : x ≠ 0 ↔ ∃ i : Nat, S i := by
  constructor
  · intro h
    have : x.toNat ≠ 0 := by have := a.nn; omega
    obtain ⟨i, hi⟩ := Nat.exists_testBit_of_ne_zero this
    exact ⟨i, (a.bits i).mp hi⟩
  · rintro ⟨i, hi⟩ e
    have := (a.bits i).mpr hi
    rw [e] at this
    simp at this
theorem Msk.uniq {x y : Int} {S : Int → Prop} (a : Msk x S) (b : Msk y S) : x = y := by
  have : x.toNat = y.toNat := Nat.eq_of_testBit_eq fun i => by
    have h1 := a.bits i
    have h2 := b.bits i
    cases c : x.toNat.testBit i <;> cases d : y.toNat.testBit i <;> simp_all
  have := a.nn
  have := b.nn
  omega
/-- what ors do: a mask of the items of a list -/
theorem Msk.snoc {x v : Int} {ns : List Int} (a : Msk x (fun i => i ∈ ns)) (h : 0 ≤ v) : Msk (Builtin.bitOr x (1 * 2 ^ v.toNat)) (fun i => i ∈ ns ++ [v]) :=
  (a.or (.shl h)).congr fun i => by rw [List.mem_append, List.mem_singleton]
theorem Msk.nil : Msk 0 (fun i => i ∈ ([] : List Int)) := Msk.zero.congr fun i => by simp
/-! ## ints as data -/
theorem dps_int {K : PySem.W.Frag} {H : Hp} : ∀ ns : List Int, DpAll K H (ns.map V.int) (ns.map PyData.int)
  | [] => .nil
  | _ :: ns => .cons (.int _) (dps_int ns)
theorem layI : ∀ ns : List Int, PyData.canLayAll0 (ns.map PyData.int) = true
  | [] => by simp [PyData.canLayAll0]
  | n :: ns => by
    rw [List.map_cons]
    simp only [PyData.canLayAll0, PyData.canLay0, Bool.true_and]
    exact layI ns
theorem depI : ∀ ns : List Int, PyData.depthAll (ns.map PyData.int) ≤ 0
  | [] => by simp [PyData.depthAll]
  | n :: ns => by
    have := depI ns
    rw [List.map_cons]
    simp only [PyData.depthAll, PyData.depth]
    omega
theorem tupI_lay (ns : List Int) : (PyData.tuple (ns.map PyData.int)).canLay0 = true := by
  simp only [PyData.canLay0]
  exact layI ns
theorem tupI_depth (ns : List Int) : (PyData.tuple (ns.map PyData.int)).depth ≤ 1 := by
  have := depI ns
  simp only [PyData.depth]
  omega
theorem lstI_lay (ns : List Int) : (PyData.list (ns.map PyData.int)).canLay0 = true := by
  simp only [PyData.canLay0]
  exact layI ns
theorem lstI_depth (ns : List Int) : (PyData.list (ns.map PyData.int)).depth ≤ 1 := by
  have := depI ns
  simp only [PyData.depth]
  omega
/-- ints ascending, each once -/
structure DedI (qs fs : List Int) : Prop where
  asc : fs.Pairwise (· < ·)
  mem : ∀ z, z ∈ fs ↔ z ∈ qs
  last : fs.getLast? = qs.getLast?
theorem DedI.nil : DedI [] [] := ⟨.nil, fun _ => Iff.rfl, rfl⟩
theorem DedI.same {qs fs : List Int} {q : Int} (D : DedI qs fs) (h : fs.getLast? = some q) : DedI (qs ++ [q]) fs := by
  refine ⟨D.asc, fun z => ?_, by rw [h, List.getLast?_append]; simp⟩
  rw [List.mem_append, ← D.mem, List.mem_singleton]
  refine ⟨.inl, fun c => c.elim id fun e => ?_⟩
  rw [e]
  exact List.mem_of_getLast? h
theorem DedI.more {qs fs : List Int} {q : Int} (D : DedI qs fs) (hl : (qs ++ [q]).Pairwise (· ≤ ·)) (h : fs.getLast? ≠ some q) : DedI (qs ++ [q]) (fs ++ [q]) := by
  obtain ⟨p1, p2, p3⟩ := List.pairwise_append.mp hl
  refine ⟨List.pairwise_append.mpr ⟨D.asc, by simp, fun a ha b hb => ?_⟩, fun z => by rw [List.mem_append, List.mem_append, D.mem], by rw [List.getLast?_append, List.getLast?_append]; simp⟩
  rw [List.mem_singleton.mp hb]
  have le := p3 a ((D.mem a).mp ha) q List.mem_cons_self
  rcases Int.lt_or_eq_of_le le with e | e
  · exact e
  refine absurd ?_ h
  subst e
  obtain ⟨b, hb'⟩ : ∃ b, fs.getLast? = some b := by
    cases q9 : fs.getLast? with
    | some r => exact ⟨r, rfl⟩
    | none =>
      rw [List.getLast?_eq_none_iff.mp q9] at ha
      cases ha
  have hbq := p3 b ((D.mem b).mp (List.mem_of_getLast? hb')) a List.mem_cons_self
  have hab : a ≤ b := by
    obtain ⟨ys, e⟩ := List.getLast?_eq_some_iff.mp hb'
    rw [e] at ha
    have pw := D.asc
    rw [e] at pw
    rcases List.mem_append.mp ha with c | c
    · have := (List.pairwise_append.mp pw).2.2 a c b List.mem_cons_self
      omega
    · rw [List.mem_singleton.mp c]
      omega
  rw [hb', show b = a by omega]
section
variable {X : Cx} {K : PySem.W.Frag} {σ : L2.St} {H : Hp} {Q : VK}
theorem r_eqNilI {f e : Addr} {ns : List Int} (h : H f = some (.lst (ns.map V.int))) (he : H e = some (.lst [])) (q : Q (.bl (decide (ns = []))) H) : rEqD K (.ref f) (.ref e) H Q := by
  refine ⟨.list (ns.map PyData.int), .list [], .lst (.inl (.inl h)) (dps_int ns), .lst (.inl (.inl he)) .nil, shaped_of (lstI_lay ns) (by have := lstI_depth ns; omega), shaped_of (lstI_lay []) (by have := lstI_depth []; simp only [List.map_nil] at this; omega), ?_⟩
  cases ns with
  | nil => exact q
  | cons p ps => exact q
theorem r_sortI {a : Addr} {ns : List Int} {R : VK} (h : SqL K H a (ns.map V.int)) (l : ns.length < 64) (q : ∀ (ms : List Int) (p : Addr), ms.Perm ns → ms.Pairwise (· ≤ ·) → H p = none → R (.ref p) (upd H p (.lst (ms.map V.int)))) : rSorted K [.ref a] H R := ⟨a, ns, rfl, h, l, q⟩
theorem op_notInDK (h : X.K = K) (hu : X.A.units + 65 < cLine) : OpR X (compareOp .NotIn) (rNotInD K) := h ▸ op_notInD hu
def AugN (i : Nat) (ti : TIp) (σ : L2.St) (nx : L2.St → Hp → Prop) (x : V) : VK := fun y H1 => ti x y H1 fun z H2 => nx (σ.set i (some z)) H2
theorem r_aug {i : Nat} {te : TE} {ti : TIp} {nx bk ct : L2.St → Hp → Prop} {x : V} (e : σ[i]? = some (some x)) (h : te σ H (AugN i ti σ nx x)) : tAug i te ti ⟨nx, Q, bk, ct⟩ σ H := ⟨x, e, h⟩
theorem r_augOr {i : Nat} {nx : L2.St → Hp → Prop} {a b : Int} {σ' : L2.St} (e : σ.set i (some (.int (Builtin.bitOr a b))) = σ') (h : nx σ' H) : AugN i (rI0 fun i j => .int (Builtin.bitOr i j)) σ nx (.int a) (.int b) H := ⟨a, b, rfl, rfl, by subst e; exact h⟩
end

set_option Elab.async false
set_option linter.all false
set_option maxRecDepth 100000
set_option maxHeartbeats 4000000
open PySem PySem.Spec PyProof.Rows L2
/-! # sets of ints: {x}, and a def that knows its code -/
section
variable {P : Program} {w : World} {A : Around} {E : Value → Shared → Prop} {s : Shared} {a : Addr} {S : Int → Bool} {n : Nat}
end
section
variable {X : Cx}
/-- {x}: the set first, then the item -/
def tSet1 (w : World) (te : TE) : TE := fun σ H Q => ∀ p, H p = none → te σ (upd H p (SetO w p (fun _ => false) 0)) fun x H1 => ∃ k, x = .int k ∧ H1 p = some (SetO w p (fun _ => false) 0) ∧ Q (.ref p) (upd H1 p (SetO w p (fun j => decide (j = k)) 1))
end
section
variable {P : Program} {w : World} {K : PySem.W.Frag} {mg : Str → Option Value} {base : Heap}
end
section
variable {X : Cx} {w : World} {σ : L2.St} {H : Hp} {Q : VK}
def SAddN (w : World) (t : TA) (σ : L2.St) (Q : VK) : VK := fun x H1 => (∃ a S n, x = V.ref a ∧ H1 a = some (SetO w a S n)) ∧ t σ H1 fun xs H2 => rSAdd w x xs H2 Q
end

set_option Elab.async false
set_option linter.all false
set_option maxRecDepth 100000
set_option maxHeartbeats 4000000
open PySem PySem.Spec PyProof.Rows L2
/-! # list.extend of a tuple, len of a set -/
section
open PySem.AutoSeq1 in
end
section
variable {X : Cx} {K : PySem.W.Frag} {w : World}
def rExtT (K : PySem.W.Frag) : V → List V → Hp → VK → Prop := fun x vs H Q => ∃ l b xs zs, x = .ref l ∧ vs = [.ref b] ∧ H l = some (.lst xs) ∧ SqT K H b zs ∧ xs.length + zs.length ≤ sizeLine ∧ Q .non (upd H l (.lst (xs ++ zs)))
def rLenSet (w : World) : List V → Hp → VK → Prop := fun vs H Q => ∃ (a : Addr) (S : Int → Bool) (n : Nat), vs = [V.ref a] ∧ H a = some (SetO w a S n) ∧ Q (.int n) H
end

set_option Elab.async false
set_option linter.all false
set_option maxRecDepth 100000
set_option maxHeartbeats 4000000
open PySem PySem.Spec PyProof.Rows L2
/-! # truth of lists, pop(), while, two clauses over lists -/
section
variable {X : Cx} {K : PySem.W.Frag} {w : World} {σ : L2.St} {H : Hp} {Q : VK}
def TruN (K : PySem.W.Frag) (Q : Bool → Hp → Prop) : VK := fun x H' => ∃ k, TruV K x H' k ∧ Q k H'
def tTruth (K : PySem.W.Frag) (ta : TE) : TT := fun σ H Q => ta σ H (TruN K Q)
theorem pt_truthK {a : Expr} {ta : TE} (h : X.K = K) (ha : PE X a ta) (he : ∀ whole, isTrue a X.env whole = (do let v ← whole; standAt a.pos; holding [v] (truthy v))) : PT X a (tTruth K ta) := by
  subst h
  exact pt_truth ha he
theorem r_truth {ta : TE} {Q : Bool → Hp → Prop} (h : ta σ H (TruN K Q)) : tTruth K ta σ H Q := h
theorem r_truL {Q : Bool → Hp → Prop} {l : Addr} {xs : List V} (h : H l = some (.lst xs)) (q : Q (!xs.isEmpty) H) : TruN K Q (.ref l) H := ⟨_, .inl ⟨xs, .inl (.inl h), rfl⟩, q⟩
def Bm0 (K : PySem.W.Frag) (T : String) (r : V → List V → Hp → VK → Prop) (Q : VK) : VK := fun x H1 => tyV K T x H1 ∧ r x [] H1 Q
theorem PE.bm0K {e : Expr} {T : String} {r : V → List V → Hp → VK → Prop} {to : TE} (h : X.K = K) (p : PE X e (tBM0 X.K T r to)) : PE X e (tBM0 K T r to) := h ▸ p
theorem r_bm0 {T : String} {r : V → List V → Hp → VK → Prop} {te : TE} (h : te σ H (Bm0 K T r Q)) : tBM0 K T r te σ H Q := h
variable {nx bk ct : L2.St → Hp → Prop}
theorem r_while {tc : TT} {tb : TS} (W : Nat → L2.St → Hp → Prop) (m0 : Nat) (h0 : W m0 σ H)
    (hs : ∀ m σ H, W m σ H → tc σ H fun b H1 => if b = true then ∃ N : L2.St → Hp → Prop, (∀ σ' H', N σ' H' → ∃ m', m' < m ∧ W m' σ' H') ∧ tb ⟨N, Q, nx, N⟩ σ H1 else nx σ H1) : tWhile tc tb ⟨nx, Q, bk, ct⟩ σ H := ⟨W, ⟨m0, h0⟩, hs⟩
theorem r_whGo {tb : TS} {W : Nat → L2.St → Hp → Prop} {m : Nat} (h : tb ⟨fun σ' H' => ∃ m', m' < m ∧ W m' σ' H', Q, nx, fun σ' H' => ∃ m', m' < m ∧ W m' σ' H'⟩ σ H) : ∃ N : L2.St → Hp → Prop, (∀ σ' H', N σ' H' → ∃ m', m' < m ∧ W m' σ' H') ∧ tb ⟨N, Q, nx, N⟩ σ H := ⟨_, fun _ _ z => z, h⟩
end

set_option Elab.async false
set_option linter.all false
set_option maxRecDepth 100000
set_option maxHeartbeats 4000000
open PySem PySem.Spec PyProof.Rows L2
/-! # sorted of tuples of ints of any lengths -/
def lexI : List Int → List Int → Bool
  | [], [] => false
  | [], _ :: _ => true
  | _ :: _, [] => false
  | a :: as, b :: bs => if a = b then lexI as bs else decide (a < b)
section
variable {prog : Program} {w : World} {A : Around} {E : Value → Shared → Prop} {s : Shared}
end
/-- the ints of a tracked tuple -/
def kI (H : Hp) : V → List Int
  | .ref t => match H t with
    | some (.tup ys) => ys.filterMap fun y => match y with
      | .int i => some i
      | _ => none
    | _ => []
  | _ => []
def rSortL (K : PySem.W.Frag) : List V → Hp → VK → Prop := fun vs H Q => ∃ (a : Addr) (xs : List V), vs = [V.ref a] ∧ SqL K H a xs ∧ (∀ x ∈ xs, ∃ t ns, x = V.ref t ∧ H t = some (.tup (ns.map V.int)) ∧ ns ≠ []) ∧
  ∀ ys p, ys.Pairwise (fun x y => lexI (kI H y) (kI H x) = false) → ys.Perm xs → H p = none → Q (.ref p) (upd H p (.lst ys))
section
variable {X : Cx} {K : PySem.W.Frag}
end

set_option Elab.async false
set_option linter.all false
set_option maxRecDepth 100000
set_option maxHeartbeats 4000000
open PySem PySem.Spec PyProof.Rows L2
/-! # what is connected -/
inductive Con (R : Int → Int → Prop) (v : Int) : Int → Prop
  | refl : Con R v v
  | step {a b : Int} (h : Con R v a) (r : R a b) : Con R v b
theorem asc_eqZ : ∀ {ps qs : List Int}, ps.Pairwise (· < ·) → qs.Pairwise (· < ·) → (∀ p, p ∈ ps ↔ p ∈ qs) → ps = qs
  | [], [], _, _, _ => rfl
  | [], q :: qs, _, _, h => absurd ((h q).mpr List.mem_cons_self) (by simp)
  | p :: ps, [], _, _, h => absurd ((h p).mp List.mem_cons_self) (by simp)
  | p :: ps, q :: qs, h1, h2, h => by
    obtain ⟨a1, b1⟩ := List.pairwise_cons.mp h1
    obtain ⟨a2, b2⟩ := List.pairwise_cons.mp h2
    have e : p = q := by
      rcases List.mem_cons.mp ((h p).mp List.mem_cons_self) with e | e
      · exact e
      · rcases List.mem_cons.mp ((h q).mpr List.mem_cons_self) with e' | e'
        · exact e'.symm
        · have := a2 p e
          have := a1 q e'
          omega
    subst e
    refine congrArg (p :: ·) (asc_eqZ b1 b2 fun z => ⟨fun hz => ?_, fun hz => ?_⟩)
    · rcases List.mem_cons.mp ((h z).mp (List.mem_cons_of_mem _ hz)) with e | e
      · have := a1 z hz
        omega
      · exact e
    · rcases List.mem_cons.mp ((h z).mpr (List.mem_cons_of_mem _ hz)) with e | e
      · have := a2 z hz
        omega
      · exact e
/-- neighbours within some vertices -/
def RWi (ns : List Int) (ps : List (Int × Int)) (a b : Int) : Prop := a ∈ ns ∧ b ∈ ns ∧ nrm (a, b) ∈ ps
/-- the classes of a graph: what the components are -/
structure Parts (ns : List Int) (ps : List (Int × Int)) (qs : List (List Int)) : Prop where
  asc : qs.Pairwise (fun x y => lexI x y = true)
  cls : ∀ c, c ∈ qs ↔ ∃ v ∈ ns, c.Pairwise (· < ·) ∧ ∀ z, z ∈ c ↔ Con (RWi ns ps) v z
set_option Elab.async false
set_option linter.all false
set_option maxRecDepth 100000
set_option maxHeartbeats 4000000
open PySem PySem.Spec PyProof.Rows L2
/-! # t.index(x), t of ints -/
def rTIdx (K : PySem.W.Frag) : V → List V → Hp → VK → Prop := fun x xs H Q => ∃ (p : Addr) (ns : List Int) (k : Int), x = .ref p ∧ xs = [.int k] ∧ SqT K H p (ns.map V.int) ∧ k ∈ ns ∧ Q (.int (ns.idxOf k : Nat)) H
section
variable {X : Cx} {K : PySem.W.Frag}
end

set_option Elab.async false
set_option linter.all false
set_option maxRecDepth 100000
set_option maxHeartbeats 4000000
open PySem PySem.Spec PyProof.Rows L2
/-! # the bits of any whole number -/
def Bit (x : Int) (i : Nat) : Bool := if 0 ≤ x then x.toNat.testBit i else !(Builtin.bitNot x).toNat.testBit i
theorem Bit_nn {x : Int} (h : 0 ≤ x) (i : Nat) : Bit x i = x.toNat.testBit i := if_pos h
theorem Bit_neg {x : Int} (h : x < 0) (i : Nat) : Bit x i = !(Builtin.bitNot x).toNat.testBit i := if_neg (by omega)
theorem bitNot_not (x : Int) : Builtin.bitNot (Builtin.bitNot x) = x := by unfold Builtin.bitNot; omega
theorem Bit_not (x : Int) (i : Nat) : Bit (Builtin.bitNot x) i = !Bit x i := by
  by_cases h : 0 ≤ x
  · rw [Bit_nn h, Bit_neg (by unfold Builtin.bitNot; omega), bitNot_not]
  · rw [Bit_neg (x := x) (by omega), Bit_nn (by unfold Builtin.bitNot; omega), Bool.not_not]
theorem sub_and_bits (a b i : Nat) : (a - (a &&& b)).testBit i = (a.testBit i && !b.testBit i) := by
  have e : a - (a &&& b) = a ^^^ (a &&& b) := by
    have h1 := Bits.bitXor_pp (x := a) (y := ((a &&& b : Nat) : Int)) (by omega) (by omega)
    have h2 := bitXor_and (a : Int) ((a &&& b : Nat) : Int)
    rw [bitAnd_pp (x := a) (y := ((a &&& b : Nat) : Int)) (by omega) (by omega)] at h2
    rw [Int.toNat_natCast, Int.toNat_natCast] at h1 h2
    have e3 : a &&& (a &&& b) = a &&& b := by
      apply Nat.eq_of_testBit_eq
      intro j
      rw [Nat.testBit_and, Nat.testBit_and]
      cases a.testBit j <;> simp
    rw [e3] at h2
    have : a &&& b ≤ a := Nat.and_le_left
    omega
  rw [e, Nat.testBit_xor, Nat.testBit_and]
  cases a.testBit i <;> cases b.testBit i <;> rfl
theorem bitAnd_pn {x y : Int} (hx : 0 ≤ x) (hy : y < 0) : Builtin.bitAnd x y = ((x.toNat - (x.toNat &&& (Builtin.bitNot y).toNat) : Nat) : Int) := by
  have h : x.toNat &&& (Builtin.bitNot y).toNat ≤ x.toNat := Nat.and_le_left
  have : Builtin.bitAnd x y = x - ((x.toNat &&& (Builtin.bitNot y).toNat : Nat) : Int) := by
    unfold Builtin.bitAnd
    rw [decide_eq_true hx, decide_eq_false (by omega : ¬ 0 ≤ y)]
  omega
theorem bitAnd_np {x y : Int} (hx : x < 0) (hy : 0 ≤ y) : Builtin.bitAnd x y = ((y.toNat - (y.toNat &&& (Builtin.bitNot x).toNat) : Nat) : Int) := by
  have h : y.toNat &&& (Builtin.bitNot x).toNat ≤ y.toNat := Nat.and_le_left
  have : Builtin.bitAnd x y = y - ((y.toNat &&& (Builtin.bitNot x).toNat : Nat) : Int) := by
    unfold Builtin.bitAnd
    rw [decide_eq_false (by omega : ¬ 0 ≤ x), decide_eq_true hy]
  omega
theorem bitAnd_nn {x y : Int} (hx : x < 0) (hy : y < 0) : Builtin.bitAnd x y = Builtin.bitNot (((Builtin.bitNot x).toNat ||| (Builtin.bitNot y).toNat : Nat) : Int) := by
  unfold Builtin.bitAnd
  rw [decide_eq_false (by omega : ¬ 0 ≤ x), decide_eq_false (by omega : ¬ 0 ≤ y)]
theorem Bit_and (x y : Int) (i : Nat) : Bit (Builtin.bitAnd x y) i = (Bit x i && Bit y i) := by
  by_cases hx : 0 ≤ x <;> by_cases hy : 0 ≤ y
  · rw [bitAnd_pp hx hy, Bit_nn (by omega), Bit_nn hx, Bit_nn hy, Int.toNat_natCast, Nat.testBit_and]
  · rw [bitAnd_pn hx (by omega), Bit_nn (by omega), Bit_nn hx, Bit_neg (by omega), Int.toNat_natCast, sub_and_bits]
  · rw [bitAnd_np (by omega) hy, Bit_nn (by omega), Bit_nn hy, Bit_neg (by omega), Int.toNat_natCast, sub_and_bits, Bool.and_comm]
  · rw [bitAnd_nn (by omega) (by omega), Bit_not, Bit_nn (by omega), Bit_neg (by omega), Bit_neg (by omega), Int.toNat_natCast, Nat.testBit_or, Bool.not_or]
theorem bitAnd_left {x y : Int} (hx : 0 ≤ x) : 0 ≤ Builtin.bitAnd x y := by
  by_cases hy : 0 ≤ y
  · rw [bitAnd_pp hx hy]; omega
  · rw [bitAnd_pn hx (by omega)]; omega
/-- the lowest bit -/
theorem low_nat : ∀ n : Nat, 0 < n → ∃ k, n.testBit k = true ∧ (∀ i, i < k → n.testBit i = false) ∧ 2 ^ k ≤ n ∧ n &&& (n - 1) = n - 2 ^ k := by
  intro n
  induction n using Nat.strongRecOn with
  | _ n ih =>
    intro h
    by_cases c : n % 2 = 1
    · refine ⟨0, by rw [Nat.testBit_zero]; exact decide_eq_true c, fun i hi => absurd hi (Nat.not_lt_zero _), by rw [Nat.pow_zero]; exact h, ?_⟩
      rw [Nat.pow_zero]
      apply Nat.eq_of_testBit_eq
      intro j
      rw [Nat.testBit_and]
      cases j with
      | zero =>
        rw [Nat.testBit_zero, Nat.testBit_zero, decide_eq_true c, Bool.true_and]
      | succ j =>
        rw [Nat.testBit_succ, Nat.testBit_succ, show (n - 1) / 2 = n / 2 by omega, Bool.and_self]
    · obtain ⟨k, h1, h2, h3, h4⟩ := ih (n / 2) (by omega) (by omega)
      have e2 : 2 ^ (k + 1) = 2 * 2 ^ k := by rw [Nat.pow_succ]; omega
      refine ⟨k + 1, by rw [Nat.testBit_succ]; exact h1, fun i hi => ?_, by omega, ?_⟩
      · cases i with
        | zero => rw [Nat.testBit_zero]; exact decide_eq_false c
        | succ i => rw [Nat.testBit_succ]; exact h2 i (by omega)
      · have e3 : n - 2 ^ (k + 1) = 2 * (n / 2 - 2 ^ k) := by omega
        rw [e3, ← h4]
        apply Nat.eq_of_testBit_eq
        intro j
        rw [Nat.testBit_and]
        cases j with
        | zero =>
          rw [Nat.testBit_zero, Nat.testBit_zero, Nat.testBit_zero, decide_eq_false c, Bool.false_and]
          exact (decide_eq_false (by omega)).symm
        | succ j =>
          rw [Nat.testBit_succ, Nat.testBit_succ, Nat.testBit_succ, show (n - 1) / 2 = n / 2 - 1 by omega, show 2 * (n / 2 &&& (n / 2 - 1)) / 2 = (n / 2 &&& (n / 2 - 1)) by omega, Nat.testBit_and]
/-- x & -x, and what is left of x without it -/
theorem low_bit {x : Int} (h : 0 < x) : ∃ k : Nat, Builtin.bitAnd x (-x) = ((2 ^ k : Nat) : Int) ∧ Bit x k = true ∧ (∀ i, i < k → Bit x i = false) ∧ 0 ≤ Builtin.bitXor x (Builtin.bitAnd x (-x)) ∧ Builtin.bitXor x (Builtin.bitAnd x (-x)) < x ∧
    ∀ i, Bit (Builtin.bitXor x (Builtin.bitAnd x (-x))) i = (Bit x i && !decide (i = k)) := by
  obtain ⟨k, h1, h2, h3, h4⟩ := low_nat x.toNat (by omega)
  have p0 : 0 < 2 ^ k := Nat.two_pow_pos k
  have tb : ∀ j, (2 ^ k).testBit j = decide (k = j) := fun j => Nat.testBit_two_pow
  refine ⟨k, ?_⟩
  generalize 2 ^ k = p at *
  have e : Builtin.bitAnd x (-x) = (p : Int) := by
    rw [bitAnd_pn (by omega) (by omega), show (Builtin.bitNot (-x)).toNat = x.toNat - 1 by unfold Builtin.bitNot; omega, h4]
    omega
  have e5 : x.toNat ^^^ p = x.toNat - p := by
    rw [← h4]
    apply Nat.eq_of_testBit_eq
    intro j
    rw [Nat.testBit_xor, tb]
    by_cases c : k = j
    · subst c
      rw [h1, decide_eq_true rfl, Nat.testBit_and, h1]
      have h9 := sub_and_bits x.toNat (x.toNat - 1) k
      rw [h4, show x.toNat - (x.toNat - p) = p by omega, tb, decide_eq_true rfl, h1] at h9
      revert h9
      cases (x.toNat - 1).testBit k <;> simp
    · have h9 := sub_and_bits x.toNat (x.toNat - 1) j
      rw [h4, show x.toNat - (x.toNat - p) = p by omega, tb, decide_eq_false c] at h9
      rw [decide_eq_false c, Nat.testBit_and]
      revert h9
      cases x.toNat.testBit j <;> cases (x.toNat - 1).testBit j <;> simp
  have e7 : Builtin.bitXor x (p : Int) = ((x.toNat ^^^ p : Nat) : Int) := by
    rw [Bits.bitXor_pp (by omega) (by omega), Int.toNat_natCast]
  rw [e, e7]
  refine ⟨rfl, by rw [Bit_nn (by omega)]; exact h1, fun i hi => by rw [Bit_nn (by omega)]; exact h2 i hi, by omega, by rw [e5]; omega, fun i => ?_⟩
  rw [Bit_nn (by omega), Int.toNat_natCast, Nat.testBit_xor, tb, Bit_nn (by omega)]
  by_cases c : i = k
  · subst c
    rw [h1]
    simp
  · rw [decide_eq_false c, decide_eq_false (fun z => c z.symm)]
    cases x.toNat.testBit i <;> rfl
theorem intBits_pow (k : Nat) : Builtin.Int.intBits ((2 ^ k : Nat) : Int) = k + 1 := by
  unfold Builtin.Int.intBits
  have p : 0 < 2 ^ k := Nat.two_pow_pos k
  rw [Int.natAbs_natCast, Nat.log2_two_pow, if_neg]
  generalize 2 ^ k = q at *
  rw [beq_iff_eq]
  omega

set_option Elab.async false
set_option linter.all false
set_option maxRecDepth 100000
set_option maxHeartbeats 4000000
open PySem PySem.Spec PyProof.Rows L2
/-! # masks: their lowest bit, what is not in them -/
def Bts (x : Int) (S : Int → Prop) : Prop := ∀ i : Nat, Bit x i = true ↔ S i
theorem Msk.bts {x : Int} {S : Int → Prop} (a : Msk x S) : Bts x S := fun i => by rw [Bit_nn a.nn]; exact a.bits i
theorem Msk.of {x : Int} {S : Int → Prop} (h : 0 ≤ x) (b : Bts x S) : Msk x S := ⟨h, fun i => by rw [← Bit_nn h]; exact b i⟩
theorem Bts.not {x : Int} {S : Int → Prop} (a : Bts x S) : Bts (Builtin.bitNot x) (fun i => ¬ S i) := fun i => by
  show Bit (Builtin.bitNot x) i = true ↔ ¬ S i
  rw [Bit_not, ← a i]
  cases Bit x i <;> simp
theorem Bts.and {x y : Int} {S T : Int → Prop} (a : Bts x S) (b : Bts y T) : Bts (Builtin.bitAnd x y) (fun i => S i ∧ T i) := fun i => by
  rw [Bit_and, Bool.and_eq_true, a i, b i]
theorem Msk.andB {x y : Int} {S T : Int → Prop} (a : Msk x S) (b : Bts y T) : Msk (Builtin.bitAnd x y) (fun i => S i ∧ T i) := .of (bitAnd_left a.nn) (a.bts.and b)
theorem Msk.sub {x y : Int} {S T : Int → Prop} (a : Msk x S) (b : Msk y T) (h : ∀ i : Nat, S i ↔ T i) : x = y := (a.congr h).uniq b
theorem Msk.eq_iff {x y : Int} {S T : Int → Prop} (a : Msk x S) (b : Msk y T) : x = y ↔ ∀ i : Nat, S i ↔ T i := by
  refine ⟨fun e i => ?_, a.sub b⟩
  subst e
  exact (a.bits i).symm.trans (b.bits i)
/-- x.bit_length() -/
def rBitLen : V → List V → Hp → VK → Prop := fun x xs H Q => ∃ i : Int, x = .int i ∧ xs = [] ∧ Q (.int (Builtin.Int.intBits i)) H
theorem mt_bitlen {X : Cx} : MtR X "int.bit_length" rBitLen := by
  intro pins s σ H x xs v us Q I rx rv h
  obtain ⟨i, rfl, rfl, q⟩ := h
  obtain ⟨t, rfl⟩ := rx
  have hus : us = [] := rv.zero
  subst hus
  exact call_int_bit_length ⟨.int _, H, I.tok _, ⟨_, rfl⟩, q⟩
section
variable {K : PySem.W.Frag} {σ : L2.St} {H : Hp} {Q : VK}
theorem r_bm0I {r : V → List V → Hp → VK → Prop} {i : Int} (q : r (.int i) [] H Q) : Bm0 K "int" r Q (.int i) H := ⟨rfl, q⟩
theorem r_bitlen {i : Int} (q : Q (.int (Builtin.Int.intBits i)) H) : rBitLen (.int i) [] H Q := ⟨i, rfl, rfl, q⟩
theorem r_augI {i : Nat} {f : Int → Int → V} {nx : L2.St → Hp → Prop} {a b : Int} {σ' : L2.St} (e : σ.set i (some (f a b)) = σ') (h : nx σ' H) : AugN i (rI0 f) σ nx (.int a) (.int b) H := ⟨a, b, rfl, rfl, by subst e; exact h⟩
end

set_option Elab.async false
set_option linter.all false
set_option maxRecDepth 100000
set_option maxHeartbeats 4000000
open PySem PySem.Spec PySem.W PyProof.Rows L2
/-! # the least of a list of data -/
def rMinD (K : PySem.W.Frag) : List V → Hp → VK → Prop := fun vs H Q => ∃ (a : Addr) (xs : List V) (d : PyData) (ds : List PyData), vs = [.ref a] ∧ SqL K H a xs ∧ DpAll K H xs (d :: ds) ∧ AlikeAll (d :: ds) ∧ PyData.depthAll (d :: ds) ≤ 60 ∧
  ∀ (i : Nat) (x : V), xs[i]? = some x → (d :: ds)[i]? = some (minD d ds) → Q x H
section
variable {X : Cx}
end

set_option Elab.async false
set_option linter.all false
set_option maxRecDepth 100000
set_option maxHeartbeats 4000000
open PySem PySem.Spec PyProof.Rows L2
/-! # ranges downwards, methods of tuples, slices of lists -/
section
variable {X : Cx} {K : PySem.W.Frag} {σ : L2.St} {H : Hp} {Q : VK}
def Rg3N (R : It → Hp → Prop) (vs : List V) (H1 : Hp) : Prop := ∃ (i j c : Int) (n : Nat), vs = [.int i, .int j, .int c] ∧ RgC i j c n ∧ R (Itc i c n) H1
/-- tuple(l), its object known not to have a dict -/
def rTupF (K : PySem.W.Frag) : List V → Hp → VK → Prop := fun vs H Q => ∃ (p : Addr) (ys : List V), vs = [V.ref p] ∧ SqL K H p ys ∧ ∀ (l : Addr) (o : Obj), H l = none → o.dict = none → Q (.ref l) (upd H l (.frz o (.tup ys)))
/-- a method of such a tuple, with arguments -/
def FrT (H : Hp) (p : Addr) (ys : List V) : Prop := ∃ o : Obj, H p = some (.frz o (.tup ys)) ∧ o.dict = none
def tBU (r : V → List V → Hp → VK → Prop) (to : TE) (t : TA) : TE := fun σ H Q => to σ H fun x H1 => (∃ p ys, x = V.ref p ∧ FrT H1 p ys) ∧ t σ H1 fun xs H2 => r x xs H2 Q
def BuN (r : V → List V → Hp → VK → Prop) (t : TA) (σ : L2.St) (Q : VK) : VK := fun x H1 => (∃ p ys, x = V.ref p ∧ FrT H1 p ys) ∧ t σ H1 fun xs H2 => r x xs H2 Q
end

set_option Elab.async false
set_option linter.all false
set_option maxRecDepth 100000
set_option maxHeartbeats 4000000
open PySem PySem.Spec PySem.W PyProof.Rows L2
/-! # sorted of a list of data -/
theorem dLe_trans (a b c : PyData) (h1 : (!dataLt b a) = true) (h2 : (!dataLt c b) = true) : (!dataLt c a) = true := by
  cases q : dataLt c a with
  | false => rfl
  | true =>
    rw [Bool.not_eq_true'] at h1 h2
    rcases lex_negTrans (O := itemOrd) _ (keyToks b) _ q with z | z
    · exact absurd (h2.symm.trans z) Bool.false_ne_true
    · exact absurd (h1.symm.trans z) Bool.false_ne_true
theorem dLe_total (a b : PyData) : (!dataLt b a || !dataLt a b) = true := by
  cases p : dataLt b a with
  | false => rfl
  | true =>
    cases q : dataLt a b with
    | false => rfl
    | true =>
      have h := lex_trans (O := itemOrd) _ _ _ p q
      exact absurd ((lex_irrefl (O := itemOrd) _).symm.trans h) Bool.false_ne_true
theorem zip_snd {K : PySem.W.Frag} {H : Hp} : ∀ {xs : List V} {ds : List PyData}, DpAll K H xs ds → (xs.zip ds).map Prod.snd = ds
  | _, _, .nil => rfl
  | _, _, .cons _ t => by rw [List.zip_cons_cons, List.map_cons, zip_snd t]
theorem dp_len {K : PySem.W.Frag} {H : Hp} : ∀ {xs : List V} {ds : List PyData}, DpAll K H xs ds → xs.length = ds.length
  | _, _, .nil => rfl
  | _, _, .cons _ t => by rw [List.length_cons, List.length_cons, dp_len t]
theorem zip_dp {K : PySem.W.Frag} {H : Hp} : ∀ {xs : List V} {ds : List PyData}, DpAll K H xs ds → ∀ b ∈ xs.zip ds, Dp K H b.1 b.2
  | _, _, .nil, b, h => by cases h
  | _, _, .cons a t, b, h => by
    rw [List.zip_cons_cons] at h
    rcases List.mem_cons.mp h with rfl | h
    · exact a
    · exact zip_dp t b h
theorem dp_zip {K : PySem.W.Frag} {H : Hp} : ∀ {bs : List (V × PyData)}, (∀ b ∈ bs, Dp K H b.1 b.2) → DpAll K H (bs.map Prod.fst) (bs.map Prod.snd)
  | [], _ => .nil
  | b :: bs, h => .cons (h b List.mem_cons_self) (dp_zip fun c hc => h c (List.mem_cons_of_mem _ hc))
theorem zip_back : ∀ bs : List (V × PyData), (bs.map Prod.fst).zip (bs.map Prod.snd) = bs
  | [] => rfl
  | b :: bs => by rw [List.map_cons, List.map_cons, List.zip_cons_cons, zip_back bs]
theorem deep_mem {ds : List PyData} {d : PyData} (h : d ∈ ds) : d.depth ≤ PyData.depthAll ds := by
  induction ds with
  | nil => cases h
  | cons e ds ih =>
    simp only [PyData.depthAll]
    rcases List.mem_cons.mp h with rfl | h
    · omega
    · have := ih h
      omega
def rSortD (K : PySem.W.Frag) : List V → Hp → VK → Prop := fun vs H Q => ∃ (a : Addr) (xs : List V) (ds : List PyData), vs = [.ref a] ∧ SqL K H a xs ∧ DpAll K H xs ds ∧ AllAlike ds ∧ Sortable ds ∧ PyData.depthAll ds ≤ 60 ∧
  ∀ (ys : List V) (es : List PyData) (p : Addr), (ys.zip es).Perm (xs.zip ds) → ys.length = es.length → ys.Perm xs → es.Perm ds → DpAll K H ys es → es.Pairwise (fun d e => dataLt e d = false) → H p = none → Q (.ref p) (upd H p (.lst ys))
section
variable {X : Cx}
theorem each_of {pins : List (Addr × Obj)} {s : Shared} {σ : L2.St} {H : Hp} (I : Inv X pins σ H s) : ∀ {xs : List V} {its : List Value} {ds : List PyData}, Vals xs its → DpAll X.K H xs ds →
    EachIs (fun v (b : V × PyData) => RelV b.1 v) its (xs.zip ds) ∧ EachIs (fun v (b : V × PyData) => ∃ as, Reads s.heap v b.2 as) its (xs.zip ds)
  | _, _, _, .nil, .nil => ⟨.nil, .nil⟩
  | _, _, _, .cons r rs, .cons h t => by
    obtain ⟨h1, h2⟩ := each_of I rs t
    exact ⟨.cons r h1, .cons (Dp.reads I _ _ _ h r) h2⟩
theorem vals_each : ∀ {out : List Value} {bs : List (V × PyData)}, EachIs (fun v (b : V × PyData) => RelV b.1 v) out bs → Vals (bs.map Prod.fst) out
  | _, _, .nil => .nil
  | _, _, .cons h t => .cons h (vals_each t)
end

set_option Elab.async false
set_option linter.all false
set_option maxRecDepth 100000
set_option maxHeartbeats 4000000
open PySem PySem.Spec PyProof.Rows L2
/-! # is a tuple in a set of tuples -/
section
variable {P : Program} {w : World} {A : Around} {E : Value → Shared → Prop} {s : Shared} {a : Addr} {L : List (Addr × List Int)} {es : Array (Int × Value)} {ep : Nat} {t : SetTable}
/-- the step of the way on which the look begins -/
def way0 (t : SetTable) (h : Int) : SetTable.Probe := runAt t.mask (SetTable.bits h % (t.mask + 1)) (SetTable.bits h)
end
section
variable {X : Cx} {K : PySem.W.Frag} {P : Program} {w : World} {σ : L2.St} {H : Hp} {Q : VK}
/-- set(), to hold tuples -/
def rSet0T (P : Program) (w : World) : List V → Hp → VK → Prop := fun xs H Q => xs = [] ∧ ∀ p, H p = none → Q (.ref p) (upd H p (SetTO P w p []))
/-- s.add(t) -/
def rSAddT (K : PySem.W.Frag) (P : Program) (w : World) : V → List V → Hp → VK → Prop := fun x xs H Q => ∃ (D : Addr) (y : V), x = .ref D ∧ xs = [y] ∧ AdT K P w D (fun H' => Q .non H') y H
def tSAddT (K : PySem.W.Frag) (P : Program) (w : World) (to : TE) (t : TA) : TE := fun σ H Q => to σ H fun x H1 => (∃ D L, x = V.ref D ∧ H1 D = some (SetTO P w D L)) ∧ t σ H1 fun xs H2 => rSAddT K P w x xs H2 Q
variable {o e : Expr} {es : List Expr} {to : TE} {t : TA} {apos cpos : Pos}
/-- t in s, t not in s -/
def rInT (K : PySem.W.Frag) (P : Program) (w : World) (neg : Bool) : V → V → Hp → VK → Prop := fun x y H Q => ∃ (b D : Addr) (k : List Int) (L : List (Addr × List Int)), x = .ref b ∧ y = .ref D ∧ SqT K H b (k.map V.int) ∧ H D = some (SetTO P w D L) ∧ (∀ p ∈ L, SqT K H p.1 (p.2.map V.int)) ∧ Q (.bl (xor neg (decide (k ∈ L.map (·.2))))) H
/-- named readings -/
def SAddTN (K : PySem.W.Frag) (P : Program) (w : World) (t : TA) (σ : L2.St) (Q : VK) : VK := fun x H1 => (∃ D L, x = V.ref D ∧ H1 D = some (SetTO P w D L)) ∧ t σ H1 fun xs H2 => rSAddT K P w x xs H2 Q
end

set_option Elab.async false
set_option linter.all false
set_option maxRecDepth 100000
set_option maxHeartbeats 4000000
/-! # orbits of a map that turns a list around, and the list of them -/
section
variable {α : Type} [DecidableEq α]
def itf (f : α → α) : Nat → α → α
  | 0, a => a
  | k + 1, a => f (itf f k a)
/-- f turns A around -/
structure Trn (f : α → α) (A : List α) : Prop where
  nd : A.Nodup
  cl : ∀ a ∈ A, f a ∈ A
  inj : ∀ a ∈ A, ∀ b ∈ A, f a = f b → a = b
variable {f : α → α} {A : List α}
/-- o is the walk around from a -/
def Orb (f : α → α) (a : α) (o : List α) : Prop := ∃ k, 0 < k ∧ o = (List.range k).map (fun i => itf f i a) ∧ itf f k a = a ∧ ∀ j, 0 < j → j < k → itf f j a ≠ a
/-- the walks around, each from its first place in the list; what the law does -/
inductive Wks (f : α → α) : List α → List (List α) → Prop
  | nil : Wks f [] []
  | cons {a : α} {l o : List α} {ws : List (List α)} (h : Orb f a o) (t : Wks f ((a :: l).filter fun z => !decide (z ∈ o)) ws) : Wks f (a :: l) (o :: ws)
/-- what the program does -/
inductive Wkp (f : α → α) : List α → List α → List (List α) → Prop
  | nil {pl : List α} : Wkp f pl [] []
  | skip {a : α} {l pl : List α} {ws : List (List α)} (h : a ∈ pl) (t : Wkp f pl l ws) : Wkp f pl (a :: l) ws
  | take {a : α} {l pl o : List α} {ws : List (List α)} (n : a ∉ pl) (h : Orb f a o) (t : Wkp f (pl ++ o) l ws) : Wkp f pl (a :: l) (o :: ws)
/-! ## the walks the other way around -/
end

set_option Elab.async false
set_option linter.all false
set_option maxRecDepth 100000
set_option maxHeartbeats 4000000
/-! # the arrow behind an arrow, by a rotation -/
/-- the one behind u in l, around -/
def sucL (l : List Int) (u : Int) : Int := l.getD ((l.idxOf u + 1) % l.length) 0
def nxtR (rot : List (List Int)) (p : Int × Int) : Int × Int := (p.2, sucL (rot.getD p.2.toNat []) p.1)
/-- each vertex's item holds its neighbours, each once -/
structure RotOk (N : Int → Int → Prop) (n : Nat) (rot : List (List Int)) : Prop where
  len : rot.length = n
  nd : ∀ l ∈ rot, l.Nodup
  mem : ∀ (v : Nat) (l : List Int), rot[v]? = some l → ∀ u, u ∈ l ↔ N (v : Int) u
def swP (p : Int × Int) : Int × Int := (p.2, p.1)
set_option Elab.async false
set_option linter.all false
set_option maxRecDepth 100000
set_option maxHeartbeats 4000000
open PySem PySem.Spec PyProof.Rows L2
/-! # t[::-1] of a tuple -/
section
variable {prog : Program} {w : World} {A : Around} {E : Value → Shared → Prop} {s : Shared}
open HT in
end
section
variable {X : Cx} {K : PySem.W.Frag} {σ : L2.St} {H : Hp} {Q : VK}
def RevTN (K : PySem.W.Frag) (Q : VK) : VK := fun x H1 => ∃ a xs, x = V.ref a ∧ SqT K H1 a xs ∧ ∀ (p : Addr) (o : Obj), H1 p = none → o.dict = none → Q (.ref p) (upd H1 p (.frz o (.tup xs.reverse)))
def tRevT (K : PySem.W.Frag) (te : TE) : TE := fun σ H Q => te σ H (RevTN K Q)
def RevLN (K : PySem.W.Frag) (Q : VK) : VK := fun x H1 => ∃ a xs, x = V.ref a ∧ SqL K H1 a xs ∧ ∀ p, H1 p = none → Q (.ref p) (upd H1 p (.lst xs.reverse))
end

set_option Elab.async false
set_option linter.all false
set_option maxRecDepth 100000
set_option maxHeartbeats 4000000
open PySem PySem.Spec PySem.W PySem.Calls PyProof.Rows L2
/-! # sorted of a tuple of data -/
section
variable {prog : Program} {w : World} {A : Around} {E : Value → Shared → Prop} {s : Shared}
theorem collect_tup {l : Addr} {vs : List Value} {Q : List Value → Shared → Prop} (hl : IsTup s.heap l vs.toArray)
    (h : Q vs { s with heap := (s.heap.push (seqObj "list" #[] 0)).update s.heap.objs.size (Obj.mapSeq (· ++ vs.toArray)) }) (hsz : vs.length ≤ sizeLine) :
    wpAny (model prog w) A (collect (.ref l)) Q E s := by
  obtain ⟨o, ho, hc, n, hd⟩ := id hl
  unfold collect
  refine wpAny_bind (wpAny_runValue (codeAny_builtin entry_proto_collect' ?_))
  show wpAny _ _ (do again (.builtin "list.__iadd__" ⟨[← newList [], .ref l], []⟩)) _ _ s
  refine wpAny_bind (wpAny_newList (wpAny_pure ⟨Code.quiet_builtin _ (by decide +kernel), codeAny_builtin entry_list_iadd' ?_⟩))
  show wpAny _ _ (Builtin.List.listExtendWith (.ref s.heap.objs.size) (.ref l) (.ref s.heap.objs.size)) _ _ { s with heap := s.heap.push (seqObj "list" #[] 0) }
  unfold Builtin.List.listExtendWith
  have ho' : (s.heap.push (seqObj "list" #[] 0)).get? l = some o := Heap.get?_push_of_some _ ho
  refine wpAny_bind (wpAny_typeOf (T := "tuple") ⟨o, ho', hc⟩ ?_)
  have ht : (Value.type "tuple" == Value.type "tuple") = true := by rfl
  rw [if_pos (by rw [ht]; simp)]
  refine wpAny_bind (listItems_at ho' hd ?_)
  refine wpAny_bind (listItems_at (xs := #[]) (n := 0) (Heap.get?_push_size _ rfl) rfl ?_)
  rw [if_neg (by simp)]
  refine wpAny_bind (listUpdate_at (xs := #[]) (n := 0) (Heap.get?_push_size _ rfl) rfl ?_ (Nat.zero_le _) (by show (#[] ++ vs.toArray).size ≤ sizeLine + 1; simp only [Array.size_append, List.size_toArray, List.length_nil]; omega))
  refine wpAny_pure ?_
  show wpAny (model prog w) A (do
      let o ← load s.heap.objs.size
      match o.data with
      | .seq xs _ => pure xs.toList
      | _ => unsupported "internal:collect") Q E { s with heap := (s.heap.push (seqObj "list" #[] 0)).update s.heap.objs.size (Obj.mapSeq (· ++ vs.toArray)) }
  refine wpAny_bind (wpAny_load (get?_update_seq (Heap.get?_push_size _ rfl) _) ?_)
  show wpAny _ _ (pure ((#[] : Array Value) ++ vs.toArray).toList) Q E _
  rw [show ((#[] : Array Value) ++ vs.toArray).toList = vs by simp]
  exact wpAny_pure h
theorem sorted_of_sortT {l : Addr} {vs : List Value} {Q : Value → Shared → Prop} (hl : IsTup s.heap l vs.toArray) (hL : vs.length ≤ sizeLine)
    (body : ∀ E' : Value → Shared → Prop, wpAny (model prog w) A.in1.in1 (Builtin.«list.sort» ⟨[.ref (s.heap.objs.size + 1)], []⟩) (fun f s' => f = .done (.ret .none) ∧ Q (.ref (s.heap.objs.size + 1)) s') E' { s with heap := copyHeap s.heap vs }) :
    wpAny (model prog w) A (call (.builtin "sorted") [.ref l]) Q E s := by
  refine call_function_entry_kw kind_sorted plain_sorted entry_sorted (args_sorted1 _) ?_
  unfold Builtin.«sorted»
  refine wpAny_bind (m := checkCount "sorted" 1 1 _) (wpAny_pure ?_)
  refine wpAny_bind (collect_tup hl ?_ hL)
  refine wpAny_bind (wpAny_newList ?_ hL)
  have hsz : ((s.heap.push (seqObj "list" #[] 0)).update s.heap.objs.size (Obj.mapSeq (· ++ vs.toArray))).objs.size = s.heap.objs.size + 1 := by
    rw [Heap.size_update, size_push']
  show wpAny _ _ _ _ _ { s with heap := copyHeap s.heap vs }
  rw [hsz]
  refine wpAny_bind (wpAny_holding (wpAny_call_entry_kw slot_list_sort ⟨_, copyHeap_at s.heap vs, rfl⟩ entry_list_sort ?body (args_list_sort _)))
  case body =>
    show wpAny (model prog w) A.in1.in1 (Builtin.«list.sort» ⟨[.ref (s.heap.objs.size + 1)], []⟩) _ _ _
    refine wpAny_mono (body _) (fun f s' hf => ?_) fun _ _ e => e
    obtain ⟨rfl, hq⟩ := hf
    exact ⟨_, rfl, wpAny_pure ⟨_, rfl, hq⟩⟩
theorem sorted_dataT {β : Type} {R : Value → β → Prop} {enc : β → PyData} {vs : List Value} {bs : List β} {l : Addr} {Q : Value → Shared → Prop} (hl : IsTup s.heap l vs.toArray) (e : EachIs R vs bs) (er : EachIs (fun v b => ∃ as, Reads s.heap v (enc b) as) vs bs) (hal : AllAlike (bs.map enc)) (hk : Sortable (bs.map enc)) (hL : bs.length ≤ sizeLine)
    (hu : ∀ b, b ∈ bs → A.units + 2 + (enc b).depth < cLine) (h : ∀ out, out.length = bs.length → EachIs R out (bs.mergeSort (dataLe false enc)) → Q (.ref (s.heap.objs.size + 1)) { s with heap := sortedAll s.heap vs (List.toArray out) }) :
    wpAny (model prog w) A (call (.builtin "sorted") [.ref l]) Q E s := by
  have er' : EachIs (fun v b => ∃ as, Reads (sortingHeap (copyHeap s.heap vs) (s.heap.objs.size + 1) vs) v (enc b) as) vs bs := er.mono fun _ _ ⟨as, r⟩ => ⟨as, PyProof.Rows.Reads.keeps (fun _ _ => sorting_copy_old) r⟩
  have lv : vs.length ≤ sizeLine := by
    rw [e.length]
    exact hL
  exact sorted_of_sortT hl lv fun _ => list_sort_vals (s := { s with heap := copyHeap s.heap vs }) (copyHeap_at s.heap vs) (SortsAt.data (s := { s with heap := sortingHeap (copyHeap s.heap vs) (s.heap.objs.size + 1) vs }) (each_map (R := fun v d => ∃ as, Reads (sortingHeap (copyHeap s.heap vs) (s.heap.objs.size + 1) vs) v d as) enc er') hal hk (bound_map hu)) lv ⟨rfl, h _ (by rw [sortVals_length false rfl]; exact e.length) (sortVals_data false e er' hal)⟩
end
/-- sorted of a tuple -/
def rSortDT (K : PySem.W.Frag) : List V → Hp → VK → Prop := fun vs H Q => ∃ (a : Addr) (xs : List V) (ds : List PyData), vs = [.ref a] ∧ SqT K H a xs ∧ DpAll K H xs ds ∧ AllAlike ds ∧ Sortable ds ∧ PyData.depthAll ds ≤ 60 ∧
  ∀ (ys : List V) (es : List PyData) (p : Addr), (ys.zip es).Perm (xs.zip ds) → ys.length = es.length → ys.Perm xs → es.Perm ds → DpAll K H ys es → es.Pairwise (fun d e => dataLt e d = false) → H p = none → Q (.ref p) (upd H p (.lst ys))
section
variable {X : Cx}
theorem cr_sortDT (hu : X.A.units + 64 < cLine) : CallR X (.builtin "sorted") (rSortDT X.K) := by
  intro pins s σ H vs us Q I r h
  obtain ⟨a, xs, ds, rfl, hl, hd, al, sb, dep, q⟩ := h
  rw [Vals.ref1 r]
  obtain ⟨its, rv, hL, hz⟩ := I.tuple hl
  obtain ⟨e1, e2⟩ := each_of I rv hd
  have es := zip_snd hd
  have lz : (xs.zip ds).length = xs.length := by
    have := dp_len hd
    rw [List.length_zip]
    omega
  refine sorted_dataT (enc := Prod.snd) hL e1 e2 (by rw [es]; exact al) (by rw [es]; exact sb) (by rw [lz]; exact hz) (fun b hb => ?_) fun out lo ho => ?_
  · have := deep_mem (ds := ds) (d := b.2) (by rw [← es]; exact List.mem_map.mpr ⟨b, hb, rfl⟩)
    show X.A.units + 2 + b.2.depth < cLine
    generalize b.2.depth = k at this ⊢
    omega
  · have pm : ((xs.zip ds).mergeSort (dataLe false Prod.snd)).Perm (xs.zip ds) := List.mergeSort_perm _ _
    have pw : ((xs.zip ds).mergeSort (dataLe false Prod.snd)).Pairwise (fun a b => dataLe false Prod.snd a b = true) := List.pairwise_mergeSort (fun a b c h1 h2 => by
      rw [dataLe_eq] at *
      exact dLe_trans _ _ _ h1 h2) (fun a b => by
      rw [dataLe_eq]
      exact dLe_total _ _) _
    have hv := vals_each ho
    generalize (xs.zip ds).mergeSort (dataLe false Prod.snd) = bs at pm pw hv
    have p1 : (bs.map Prod.fst).Perm xs := by
      have z := pm.map Prod.fst
      have l2 : ds.length = xs.length := by rw [← es, List.length_map, lz]
      rwa [List.map_fst_zip (by omega)] at z
    have p2 : (bs.map Prod.snd).Perm ds := by
      have z := pm.map Prod.snd
      rwa [es] at z
    obtain ⟨n, hn⟩ := sortedAll_at s.heap its out.toArray
    refine ⟨.ref (s.heap.objs.size + 1), upd H (s.heap.objs.size + 1) (.lst (bs.map Prod.fst)), I.laid (t' := s.toks) (fun b o e => sortedAll_old e) (Nat.le_succ _) ⟨?_, out, n, hv, hn⟩, rfl, q _ (bs.map Prod.snd) _ (by rw [zip_back]; exact pm) (by rw [List.length_map, List.length_map]) p1 p2 (dp_zip fun b hb => zip_dp hd b (pm.mem_iff.mp hb)) ?_ (I.hok.fresh (Nat.le_succ _))⟩
    · rw [p1.length_eq]
      exact hz
    · refine List.pairwise_map.mpr (pw.imp fun {a b} h => ?_)
      rw [dataLe_eq] at h
      have h : (!dataLt b.2 a.2) = true := h
      rwa [Bool.not_eq_true'] at h
theorem cr_sortDTK {K : PySem.W.Frag} (h : X.K = K) (hu : X.A.units + 64 < cLine) : CallR X (.builtin "sorted") (rSortDT K) := h ▸ cr_sortDT hu
end
/-! # one sorted list alone -/
/-- data that their signs tell apart -/
def Told (ds : List PyData) : Prop := ∀ d ∈ ds, ∀ e ∈ ds, keyToks d = keyToks e → d = e
theorem perm_sorted_eq {α : Type} {lt : α → α → Prop} : ∀ {xs ys : List α}, xs.Perm ys → xs.Pairwise lt → ys.Pairwise lt → (∀ a ∈ xs, ∀ b ∈ xs, lt a b → lt b a → a = b) → xs = ys
  | [], ys, p, _, _, _ => (List.Perm.nil_eq p)
  | x :: xs, [], p, _, _, _ => absurd p.length_eq (by simp)
  | x :: xs, y :: ys, p, h1, h2, an => by
    have e : x = y := by
      have mx : x ∈ y :: ys := p.mem_iff.mp List.mem_cons_self
      have my : y ∈ x :: xs := p.mem_iff.mpr List.mem_cons_self
      rcases List.mem_cons.mp mx with h | h
      · exact h
      · rcases List.mem_cons.mp my with h' | h'
        · exact h'.symm
        · exact an x List.mem_cons_self y my ((List.pairwise_cons.mp h1).1 y h') ((List.pairwise_cons.mp h2).1 x h)
    subst e
    rw [perm_sorted_eq (List.Perm.cons_inv p) (List.pairwise_cons.mp h1).2 (List.pairwise_cons.mp h2).2 fun a ha b hb => an a (List.mem_cons_of_mem _ ha) b (List.mem_cons_of_mem _ hb)]
theorem sortedD_uniq {ds es : List PyData} (p : ds.Perm es) (t : Told ds) (h1 : ds.Pairwise (fun d e => dataLt e d = false)) (h2 : es.Pairwise (fun d e => dataLt e d = false)) : ds = es :=
  perm_sorted_eq p h1 h2 fun a ha b hb x y => t a ha b hb (lex_total (O := itemOrd) _ _ y x)

set_option Elab.async false
set_option linter.all false
set_option maxRecDepth 100000
set_option maxHeartbeats 4000000
/-! # decompositions -/
/-- linked, both in S -/
def RL (S : Int → Prop) (L : List (Int × Int)) (a b : Int) : Prop := S a ∧ S b ∧ ((a, b) ∈ L ∨ (b, a) ∈ L)
def nodeI (m : Nat) (i : Int) : Prop := 0 ≤ i ∧ i < (m : Int)
def bagAt (bags : List (List Int)) (i : Int) : List Int := bags.getD i.toNat []
def hasV (bags : List (List Int)) (v : Int) (i : Int) : Prop := nodeI bags.length i ∧ v ∈ bagAt bags i
/-- a decomposition of the graph -/
structure Tdc (n : Int) (ps : List (Int × Int)) (bags : List (List Int)) (L : List (Int × Int)) : Prop where
  ne : 0 < bags.length
  st : ∀ b ∈ bags, b.Pairwise (· < ·) ∧ b ≠ [] ∧ ∀ v ∈ b, 0 ≤ v ∧ v < n
  inn : ∀ l ∈ L, nodeI bags.length l.1 ∧ nodeI bags.length l.2 ∧ l.1 ≠ l.2
  cnt : L.length + 1 = bags.length
  con : ∀ a b, nodeI bags.length a → nodeI bags.length b → Con (RL (nodeI bags.length) L) a b
  ed : ∀ p ∈ ps, ∃ b ∈ bags, p.1 ∈ b ∧ p.2 ∈ b
  ve : ∀ v, 0 ≤ v → v < n → ∃ b ∈ bags, v ∈ b
  vc : ∀ v a b, hasV bags v a → hasV bags v b → Con (RL (hasV bags v) L) a b
section
variable {n : Int} {ps L : List (Int × Int)} {bags : List (List Int)}
/-! ## a bag within a linked one goes -/
def mvI (s t a : Int) : Int := let y := if a = s then t else a; if s < y then y - 1 else y
end

set_option Elab.async false
set_option linter.all false
set_option maxRecDepth 100000
set_option maxHeartbeats 4000000
/-! # the decomposition that an order gives -/
def crossP (l : List Int) : List (Int × Int) := (allP l.length).map fun p => nrm (l.getD p.1.toNat 0, l.getD p.2.toNat 0)
def laterL (q : List (Int × Int)) (v : Int) (o : List Int) : List Int := o.filter fun u => decide (nrm (u, v) ∈ q)
def fillL : List (Int × Int) → List Int → List (List Int)
  | _, [] => []
  | q, v :: o => laterL q v o :: fillL (q ++ crossP (laterL q v o)) o
/-- the bag that k's bag is linked to -/
def parO (o : List Int) (rows : List (List Int)) (k : Nat) : Nat := match rows[k]? with
  | some (u :: _) => o.idxOf u
  | _ => k + 1
section
variable {n : Nat} {ps : List (Int × Int)} {o : List Int}
end

set_option Elab.async false
set_option linter.all false
set_option maxRecDepth 100000
set_option maxHeartbeats 4000000
open PySem PySem.Spec PySem.W PySem.Calls PyProof.Rows L2
/-! # list.remove of data; (a, b) = a list -/
section
variable {X : Cx}
/-- (a, b, ..) = a list of that length -/
def gLstT (K : PySem.W.Frag) (n : Nat) (t : TGs) : TG := fun v σ H Q => ∃ a xs, v = .ref a ∧ SqL K H a xs ∧ xs.length = n ∧ t xs σ H Q
/-- xs.remove(y): the first that equals y goes -/
def rRemD (K : PySem.W.Frag) : V → List V → Hp → VK → Prop := fun x xs H Q => ∃ (l : Addr) (ys : List V) (y : V) (ds : List PyData) (d : PyData) (j : Nat), x = .ref l ∧ xs = [y] ∧ H l = some (.lst ys) ∧ DpAll K H ys ds ∧ Dp K H y d ∧ PyData.plainAll ds = true ∧ d.plain = true ∧ d.depth ≤ 60 ∧
  SeqAt.dataPlace ds d = some j ∧ Q .non (upd H l (.lst (ys.eraseIdx j)))
end
def tI (ns : List Int) : PyData := .tuple (ns.map PyData.int)
section
variable {K : PySem.W.Frag} {σ : L2.St} {H : Hp} {Q : VK} {te : TE}
end
set_option Elab.async false
set_option linter.all false
set_option maxRecDepth 100000
set_option maxHeartbeats 4000000
open PySem PySem.Spec PySem.W PySem.Calls PyProof.Rows L2
/-! # a op b op c op d, as a test -/
section
variable {X : Cx} {a b c d : Expr} {ta tb tc td : TE} {pos : Pos}
def tChain3 (r r' r'' : R2) (ta tb tc td : TE) : TE := fun σ H Q => ta σ H fun x H1 => tb σ H1 fun y H2 => r x y H2 fun z H3 => ∃ k, z = .bl k ∧
  (if k = true then tc σ H3 fun w H4 => r' y w H4 fun z' H5 => ∃ k', z' = .bl k' ∧ (if k' = true then td σ H5 fun u H6 => r'' w u H6 Q else Q (.bl false) H5) else Q (.bl false) H3)
end
section
variable {σ : L2.St} {H : Hp} {Q : VK} {ta tb tc td : TE} {r r' r'' : R2}
def Ch3N (r' r'' : R2) (tc td : TE) (σ : L2.St) (Q : VK) (y z : V) (H3 : Hp) : Prop := ∃ k, z = .bl k ∧ (if k = true then tc σ H3 fun w H4 => r' y w H4 fun z' H5 => ∃ k', z' = .bl k' ∧ (if k' = true then td σ H5 fun u H6 => r'' w u H6 Q else Q (.bl false) H5) else Q (.bl false) H3)
def Ch3M (r'' : R2) (td : TE) (σ : L2.St) (Q : VK) (w z : V) (H3 : Hp) : Prop := ∃ k, z = .bl k ∧ (if k = true then td σ H3 fun u H6 => r'' w u H6 Q else Q (.bl false) H3)
end

set_option Elab.async false
set_option linter.all false
set_option maxRecDepth 100000
set_option maxHeartbeats 4000000
open PySem PySem.Spec PyProof.Rows L2 LamX
/-! # a lambda of one parameter, handed to a def of two -/
/-- one parameter; else captured names and globals -/
structure LamS1 (x : Str) (sc scope : Scope) : Prop where
  kind : scope.kind = .function
  co : scope.isCoroutine = false
  gen : scope.isGenerator = false
  own : ∀ y ∈ scope.names, (y.2 = .local → y.1 = x) ∧ y.2 ≠ .cell
  par : scope.names.lookup x = some .local
  free : ∀ y ∈ scope.names, y.2 = .free → sc.names.lookup y.1 = some .cell ∨ sc.names.lookup y.1 = some .free
def lamS1B (x : Str) (sc scope : Scope) : Bool :=
  decide (scope.kind = .function) && !scope.isCoroutine && !scope.isGenerator && decide (scope.names.lookup x = some .local) && scope.names.all fun y => (!decide (y.2 = .local) || decide (y.1 = x)) && !decide (y.2 = .cell) && (!decide (y.2 = .free) || decide (sc.names.lookup y.1 = some .cell) || decide (sc.names.lookup y.1 = some .free))
section
variable {X : Cx} {pins : List (Addr × Obj)} {σ : L2.St} {H HZ : Hp} {s s1 : Shared}
end
/-- the def that calls what it got: TT tells what it makes of the lambda's reading (by the argument) and of its own second argument -/
def GivesTo2 (X : Cx) (Ng : List Str) (x : Str) (sg : Scope) (g : Addr) (cdg : Value) (bg : List Stmt) (a : Str) (q : Str) (k : Nat) (TT : (V → Hp → VK → Prop) → V → Hp → VK → Prop) : Prop :=
  ∀ (f c' : Addr) (s : Shared) (H : Hp) (Q : VK) (v2 : V) (tl : V → Hp → VK → Prop), Room (k + 1) (X.A.deeper (envOfC x sg s.heap.objs.size g cdg)) →
    (∀ (arg : Expr) (ta : TE) (p1 p2 : Pos), PE (cxOf C8.CX0 X.prog X.w X.K X.mg X.base Ng x sg g cdg X.A X.stack s H C8.E0).nox arg ta →
      starEach [arg] (envOfC x sg s.heap.objs.size g cdg) = (false, eval arg (envOfC x sg s.heap.objs.size g cdg)) :: starEach [] (envOfC x sg s.heap.objs.size g cdg) →
      PE (cxOf C8.CX0 X.prog X.w X.K X.mg X.base Ng x sg g cdg X.A X.stack s H C8.E0).nox (.Call (.Name a p1) [arg] [] p2) (fun σZ HZ Q => σZ[0]? = some (some (.ref f)) ∧ ta σZ HZ fun xv H1 => H1 c' = some (CodeO c' q) ∧ tl xv H1 Q)) →
    H c' = some (CodeO c' q) → TT tl v2 H Q →
    ∃ t, PSs (cxOf C8.CX0 X.prog X.w X.K X.mg X.base Ng x sg g cdg X.A X.stack s H C8.E0).nox bg t ∧ t { nx := fun _ H' => Q .non H', rt := Q } (L2.start Ng [.ref f, v2]) H
def tLam2 (T : List (Addr × Str)) (TT : (V → Hp → VK → Prop) → V → Hp → VK → Prop) (ix j : Nat) (t : TE) : TE := fun σ H Q => Tabs T H ∧ ∃ v2, σ[j]? = some (some v2) ∧ ∀ H1, ExtN H H1 → Tabs T H1 → TT (fun xv H' Q' => t (σ.set ix (some xv)) H' Q') v2 H1 Q
section
variable {X : Cx}
end

set_option Elab.async false
set_option linter.all false
set_option maxRecDepth 100000
set_option maxHeartbeats 4000000
open PySem PySem.Spec PySem.W PySem.Calls PyProof.Rows L2
/-! # dicts whose keys are tuples: {k: v}, sorted(d) -/
section
variable {X : Cx}
def tDisp1 (tk tv : TE) : TE := fun σ H Q => ∀ p, H p = none → tk σ (upd H p (.dT [])) fun y H1 => tv σ H1 fun z H2 => PutT p (Q (.ref p)) y z H2
end
/-- sorted of a dict with tuples as keys -/
def rSortDd (K : PySem.W.Frag) : List V → Hp → VK → Prop := fun vs H Q => ∃ (d : Addr) (kvs : List (List L2.Key × V)) (ds : List PyData), vs = [.ref d] ∧ H d = some (.dT kvs) ∧ (∀ bs : List Addr, IsKeys H kvs bs → DpAll K H (bs.map V.ref) ds) ∧ AllAlike ds ∧ Sortable ds ∧ PyData.depthAll ds ≤ 60 ∧
  ∀ (bs : List Addr) (ys : List V) (es : List PyData) (p : Addr), IsKeys H kvs bs → (ys.zip es).Perm ((bs.map V.ref).zip ds) → ys.length = es.length → ys.Perm (bs.map V.ref) → es.Perm ds → DpAll K H ys es → es.Pairwise (fun d e => dataLt e d = false) → H p = none → Q (.ref p) (upd H p (.lst ys))
section
variable {X : Cx}
end

set_option Elab.async false
set_option linter.all false
set_option maxRecDepth 100000
set_option maxHeartbeats 4000000
open PySem PySem.Spec PySem.W PyProof.Rows L2 LamX
/-! # all but the tables stand -/
/-! # dicts with pairs as keys -/
def kk (p : Int × Int) : List L2.Key := [.inl p.1, .inl p.2]
section
variable {X : Cx} {σ : L2.St} {H : Hp} {Q : VK} {D : L2.Ends}
def DputN (D : L2.Ends) (σ : L2.St) (v x : V) : VK := fun y H3 => ∃ a H4, x = .ref a ∧ DPut H3 a y v H4 ∧ D.nx σ H4
end
/-! # a dict's keys in order -/
/-! # what can be reached -/
inductive Rch {α : Type} (R : α → α → Prop) (a : α) : α → Prop
  | refl : Rch R a a
  | step {b c : α} : Rch R a b → R b c → Rch R a c
set_option Elab.async false
set_option linter.all false
set_option maxRecDepth 100000
set_option maxHeartbeats 4000000
open PySem PySem.Spec PySem.W PyProof.Rows L2 LamX
/-! # dicts with ints as keys -/
section
variable {X : Cx} {σ : L2.St} {H : Hp} {Q : VK} {D : L2.Ends}
def DinN (Q : VK) (y : V) : VK := fun x H2 => ∃ a o, x = .ref a ∧ DGet H2 a y o ∧ Q (.bl o.isSome) H2
/-- {k: v} with ints -/
def DispN (Q : VK) (p : Addr) (x y : V) : Hp → Prop := fun H2 => H2 p = some (.dK []) ∧ ∃ kvs : List (L2.Key × V), [(x, y)] = kvs.map (fun kv => (kV kv.1, kv.2)) ∧ kvs.length ≤ 15 ∧ Q (.ref p) (upd H2 p (.dK (mergeK [] kvs)))
end
/-! # enumerate over a list -/
section
variable {X : Cx} {K : PySem.W.Frag} {σ : L2.St} {H : Hp} {Q : VK} {nx : L2.St → Hp → Prop}
def EnL (K : PySem.W.Frag) (R : It → Hp → Prop) : List V → Hp → Prop := fun vs H1 => ∃ a xs, vs = [.ref a] ∧ SqL K H1 a xs ∧ R (Ite K a) H1
end
/-! # a def that knows its own code -/
/-- the name of a lambda in the def x -/
def lamN (x : Str) : Str := (envOfC x default 0 0 .none).qual ++ "<lambda>"
set_option Elab.async false
set_option linter.all false
set_option maxRecDepth 100000
set_option maxHeartbeats 4000000
open PySem PySem.Spec PyProof.Rows L2 LamX
/-! # all(.. for x in ..) over anything that PI serves -/
/-- the generator's own scope: its name, the walked thing, captured names, globals -/
structure GenS1 (x : Str) (sc scope : Scope) : Prop where
  kind : scope.kind = .function
  co : scope.isCoroutine = false
  own : ∀ y ∈ scope.names, (y.2 = .local → y.1 = x ∨ y.1 = (".0" : Str)) ∧ y.2 ≠ .cell
  dot : scope.names.lookup (".0" : Str) = some .local
  par : scope.names.lookup x = some .local
  free : ∀ y ∈ scope.names, y.2 = .free → sc.names.lookup y.1 = some .cell ∨ sc.names.lookup y.1 = some .free
def genS1B (x : Str) (sc scope : Scope) : Bool :=
  decide (scope.kind = .function) && !scope.isCoroutine && decide (scope.names.lookup (".0" : Str) = some .local) && decide (scope.names.lookup x = some .local) && scope.names.all fun y => (!decide (y.2 = .local) || decide (y.1 = x) || decide (y.1 = (".0" : Str))) && !decide (y.2 = .cell) && (!decide (y.2 = .free) || decide (sc.names.lookup y.1 = some .cell) || decide (sc.names.lookup y.1 = some .free))
abbrev gEnv (X : Cx) (scope : Scope) (C : Addr) (code : Value) : Env := genEnv scope (cloFrom X.env.cells scope.names []) C code builtinsNs X.env
/-- the context of the element, entered at s -/
def genCx (X : Cx) (A : Around) (s : Shared) (H : Hp) (scope : Scope) (C : Addr) (code : Value) (fp : List Addr) : Cx where
  prog := X.prog
  w := X.w
  K := X.K
  mg := X.mg
  base := X.base
  A := A
  N := X.N
  s_0 := s
  H_0 := H
  env := gEnv X scope C code
  outer := X.stack
  stack := gEnv X scope C code :: X.stack
  ex := fp
  fn := fun _ => false
  calm := true
  pn := []
  xe := fun _ _ => False
section
variable {X : Cx} {pins : List (Addr × Obj)} {σ : L2.St} {H : Hp} {s : Shared}
end
/-- what is left once the iterated thing is there -/
def GAll (J : It) (g : TG) (te : TE) (ix : Nat) (σ : L2.St) (Q : VK) (H2 : Hp) : Prop := ∃ W : Nat → Nat → Hp → Prop, (∃ m, W 0 m H2) ∧ ∀ i m H, W i m H → (J.stop i H ∧ Q (.bl true) H) ∨
  (J.go i H ∧ ∃ Nx : Hp → Prop, (∀ H', Nx H' → ∃ m', m' < m ∧ W (i + 1) m' H') ∧ ∀ x H', J.yld i H x H' → g x (wipe σ [ix]) H' fun σ2 H3 => wipe σ2 [ix] = wipe σ [ix] ∧ te σ2 H3 fun y H4 => ∃ b, y = .bl b ∧ if b = true then Nx H4 else Q (.bl false) H4)
def tGenAll (T : List (Addr × Str)) (wi : TI) (g : TG) (te : TE) (ix : Nat) : TE := fun σ H Q => wi σ H fun J H1 => Tabs T H1 ∧ ∀ H2, ExtN H1 H2 → Tabs T H2 → GAll J g te ix σ Q H2
/-- the generator's object -/
abbrev gObj (n : Nat) (q : Str) (t : Tok) : Obj := { cls := .type "generator", data := .fields #[.int n 0, .str "<genexpr>" (t + 1), .str q (t + 1 + 1)] }
section
variable {X : Cx} {elt iter : Expr} {x : Str} {px : Pos} {scope : Scope} {pos : Pos}
abbrev lCode (elt iter : Expr) (x : Str) (px : Pos) (scope : Scope) (pos : Pos) (it : Value) (ce : Env) : Code := .compLoop (.GeneratorExp elt [⟨.Name x px, iter, [], 0⟩] scope pos) 0 it .none ce
/-- between two items all but the generators' table stands -/
structure Still (s s' : Shared) : Prop where
  heap : s'.heap = s.heap
  os : s'.os = s.os
  bare : AllBare s'.gens
/-- what a turn's end says, by the answer b; kap: the way on -/
def GYp (Z : Cx) (pg : List (Addr × Obj)) (Q : VK) : Protocol := fun _ _ v s kap => ∃ (b : Bool), v = .bool b ∧ AllBare s.gens ∧ (∃ σ' H', Inv Z pg σ' H' s ∧ (b = false → Q (.bl false) H')) ∧ (b = true → ∀ s', Still s s' → kap (.send .none) s')
def GRp (Z : Cx) (pg : List (Addr × Obj)) (Q : VK) (s₁ : Shared) : Prop := ∃ σ' H', Inv Z pg σ' H' s₁ ∧ Q (.bl true) H'
end
section
variable {X : Cx}
end

set_option Elab.async false
set_option linter.all false
set_option maxRecDepth 100000
set_option maxHeartbeats 4000000
open PySem PySem.Spec PyProof.Rows L2 LamX
/-! # the readings of all(.. for x in ..) -/
section
variable {K : PySem.W.Frag} {σ : L2.St} {H H2 : Hp} {Q : VK} {g : TG} {te : TE} {ix : Nat}
def GenN (T : List (Addr × Str)) (g : TG) (te : TE) (ix : Nat) (σ : L2.St) (Q : VK) (J : It) (H1 : Hp) : Prop := Tabs T H1 ∧ ∀ H2, ExtN H1 H2 → Tabs T H2 → GAll J g te ix σ Q H2
/-- a turn's end -/
def GenE (N : Hp → Prop) (Q : VK) : VK := fun y H4 => ∃ b, y = .bl b ∧ if b = true then N H4 else Q (.bl false) H4
end
/-! # set(t) of a tuple of ints, repetitions too -/
def rSetTI (K : PySem.W.Frag) (w : World) : List V → Hp → VK → Prop := fun vs H Q => ∃ (l : Addr) (ns : List Int), vs = [.ref l] ∧ SqT K H l (ns.map V.int) ∧ ns.length ≤ 1000 ∧
  ∀ (p : Addr) (ks : List Int), H p = none → ks.Nodup → (∀ k, k ∈ ks ↔ k ∈ ns) → Q (.ref p) (upd H p (SetO w p (fun j => decide (j ∈ ns)) ks.length))
set_option Elab.async false
set_option linter.all false
set_option maxRecDepth 100000
set_option maxHeartbeats 4000000
open PySem PySem.Spec PyProof.Rows L2 LamX RZ
/-! # data of any kind, none of whose lists stands at a -/
mutual
inductive DA (a : Addr) (H : Hp) : V → PyData → Prop
  | non : DA a H .non .none
  | bl (b : Bool) : DA a H (.bl b) (.bool b)
  | int (i : Int) : DA a H (.int i) (.int i)
  | str (x : Str) : DA a H (.str x) (.str x)
  | lst {p : Addr} {xs : List V} {ds : List PyData} : p ≠ a → H p = some (.lst xs) → DAs a H xs ds → DA a H (.ref p) (.list ds)
  | tup {p : Addr} {xs : List V} {ds : List PyData} : H p = some (.tup xs) → DAs a H xs ds → DA a H (.ref p) (.tuple ds)
inductive DAs (a : Addr) (H : Hp) : List V → List PyData → Prop
  | nil : DAs a H [] []
  | cons {v : V} {vs : List V} {d : PyData} {ds : List PyData} : DA a H v d → DAs a H vs ds → DAs a H (v :: vs) (d :: ds)
end
/-- no deeper than d, nowhere longer than L -/
def lim : Nat → Nat → PyData → Prop
  | _, _, .none => True
  | _, _, .bool _ => True
  | _, _, .int _ => True
  | _, _, .str x => x.cps.all (· < 0x110000) = true
  | 0, _, .list _ => False
  | 0, _, .tuple _ => False
  | d + 1, L, .list xs => xs.length ≤ L ∧ ∀ x ∈ xs, lim d L x
  | d + 1, L, .tuple xs => xs.length ≤ L ∧ ∀ x ∈ xs, lim d L x
  | _, _, .dict _ => False
/-! ## what a value is -/
def intD : PyData → Bool
  | .int _ => true
  | _ => false
def verD (n : Int) : PyData → Bool
  | .int i => decide (0 ≤ i ∧ i < n)
  | _ => false
def versD (n : Int) : PyData → Bool
  | .tuple ds => ds.all (verD n)
  | _ => false
/-! # slices of tuples, the whole too -/
section
variable {X : Cx} {K : PySem.W.Frag} {H : Hp} {Q : VK}
/-! # zip, d.items() -/
def ZipN (K : PySem.W.Frag) (R : It → Hp → Prop) (vs : List V) (H1 : Hp) : Prop := ∃ a b xs ys, vs = [.ref a, .ref b] ∧ ((SqL K H1 a xs ∧ SqL K H1 b ys ∧ R (Itz K a b) H1) ∨ (SqT K H1 a xs ∧ SqT K H1 b ys ∧ R (ItzT K a b) H1))
/-- a dict that nobody will write is locked -/
def tLk (td : TE) : TE := fun σ H Q => td σ H fun x H1 => ∃ d kvs, x = .ref d ∧ H1 d = some (.dK kvs) ∧ ∀ o, Q (.ref d) (upd H1 d (.frz o (.dK kvs)))
def ItemsN (R : It → Hp → Prop) (x : V) (H1 : Hp) : Prop := ∃ d kvs, x = .ref d ∧ H1 d = some (.dK kvs) ∧ ∀ o0, ∃ d' o kvs', V.ref d = .ref d' ∧ (upd H1 d (.frz o0 (.dK kvs))) d' = some (.frz o (.dK kvs')) ∧ R (Iti d' o kvs') (upd H1 d (.frz o0 (.dK kvs)))
end

set_option Elab.async false
set_option linter.all false
set_option maxRecDepth 100000
set_option maxHeartbeats 4000000
open PySem PySem.Spec PyProof.Rows PySem.SeqAt

open L2
section
variable {X : Cx}
def rOr2 (r1 r2 : R2) : R2 := fun x y H Q => r1 x y H Q ∨ r2 x y H Q
/-- t == (): by length alone -/
def rEqTE (K : PySem.W.Frag) : R2 := fun x y H Q => ∃ a b xs, x = .ref a ∧ y = .ref b ∧ SqT K H a xs ∧ SqT K H b [] ∧ Q (.bl xs.isEmpty) H
/-- {..} == i -/
def rEqDI : R2 := fun x y H Q => ∃ a kvs i, x = .ref a ∧ y = .int i ∧ H a = some (.dK kvs) ∧ Q (.bl false) H
/-- [..] == i -/
def rEqLI : R2 := fun x y H Q => ∃ a xs i, x = .ref a ∧ y = .int i ∧ H a = some (.lst xs) ∧ Q (.bl false) H
/-- what is asked of a drawn value -/
def rEqX (K : PySem.W.Frag) : R2 := rOr2 (rEqTE K) (rOr2 rEqDI (rOr2 rEqLI (rEqD K)))
/-- i < j, or of tuples of ints -/
def rLtIT (K : PySem.W.Frag) : R2 := rOr2 (rI0 fun i j => .bl (decide (i < j))) (rLtT K)
end
section
variable {K : PySem.W.Frag} {H : Hp} {Q : VK}
end

set_option Elab.async false
set_option linter.all false
set_option maxRecDepth 100000
set_option maxHeartbeats 4000000
open PySem PySem.Spec PyProof.Rows L2 LamX RZ
/-- a tuple on the heap -/
abbrev ST (H : Hp) (p : Addr) (xs : List V) : Prop := H p = some (.tup xs) ∨ ∃ o, H p = some (.frz o (.tup xs))
/-! # data of any kind, empty dicts too; none of whose lists and dicts stands at a -/
mutual
inductive DX (a : Addr) (H : Hp) : V → PyData → Prop
  | non : DX a H .non .none
  | bl (b : Bool) : DX a H (.bl b) (.bool b)
  | int (i : Int) : DX a H (.int i) (.int i)
  | str (x : Str) : DX a H (.str x) (.str x)
  | lst {p : Addr} {xs : List V} {ds : List PyData} : p ≠ a → H p = some (.lst xs) → DXs a H xs ds → DX a H (.ref p) (.list ds)
  | tup {p : Addr} {xs : List V} {ds : List PyData} : ST H p xs → DXs a H xs ds → DX a H (.ref p) (.tuple ds)
  | dk {p : Addr} : p ≠ a → H p = some (.dK []) → DX a H (.ref p) (.dict [])
inductive DXs (a : Addr) (H : Hp) : List V → List PyData → Prop
  | nil : DXs a H [] []
  | cons {v : V} {vs : List V} {d : PyData} {ds : List PyData} : DX a H v d → DXs a H vs ds → DXs a H (v :: vs) (d :: ds)
end
/-- no deeper than d, nowhere longer than L -/
def limX : Nat → Nat → PyData → Prop
  | _, _, .none => True
  | _, _, .bool _ => True
  | _, _, .int _ => True
  | _, _, .str x => x.cps.all (· < 0x110000) = true
  | 0, _, .list _ => False
  | 0, _, .tuple _ => False
  | d + 1, L, .list xs => xs.length ≤ L ∧ ∀ x ∈ xs, limX d L x
  | d + 1, L, .tuple xs => xs.length ≤ L ∧ ∀ x ∈ xs, limX d L x
  | _, _, .dict _ => True
section
variable {K : PySem.W.Frag} {H : Hp} {Q : VK}
end

set_option Elab.async false
set_option linter.all false
set_option maxRecDepth 100000
set_option maxHeartbeats 4000000
open PySem PySem.Spec PySem.W PySem.Calls PyProof.Rows L2 LamX
/-! # sorted(xs, key=f), the keys ints: what f keeps is told by J -/
theorem pick_heap (g : Heap) (c : Addr) : ∃ G : Heap, G.get? c = none ∧ ∀ b, b ≠ c → G.get? b = g.get? b := by
  obtain ⟨G, h1, h2⟩ := restrict g (fun b => decide (b ≠ c))
  exact ⟨G, h2 c (by simp), fun b hb => h1 b (by simpa using hb)⟩
theorem ints_alike (kz : List Int) : AllAlike (kz.map PyData.int) := AllAlike.of fun _ _ => by simp [alike]
theorem ints_sortable (kz : List Int) : Sortable (kz.map PyData.int) := Sortable.others fun _ => ⟨(fun z => nomatch z), (fun _ z => nomatch z)⟩
section
variable {prog : Program} {w : World} {A : Around}
theorem key_rest {f : Value} {a kS : Addr} {e1 : Nat} {vs : List Value} {kz : List Int} {J : Shared → Prop} {P : PySem.Fin → Shared → Prop} {E : Value → Shared → Prop} {s : Shared}
    (hJ : J s) (nk : s.heap.get? kS = some (seqObj "list" #[] 0)) (na : s.heap.get? a = some (seqObj "list" #[] e1)) (hka : kS ≠ a) (hlen : kz.length = vs.length) (hZ : vs.length ≤ sizeLine) (hu : A.units < cLine)
    (quiet : ∀ (s1 : Shared) (g : Heap) (tk : Nat), J s1 → (∀ b o, b ≠ kS → s1.heap.get? b = some o → g.get? b = some o) → J { s1 with heap := g, toks := tk })
    (turn : ∀ (i : Nat) (v : Value) (k : Int), vs[i]? = some v → kz[i]? = some k → ∀ (s1 : Shared) (kA : Array Value) (e : Nat), J s1 → s1.heap.get? kS = some (seqObj "list" kA e) → s1.heap.get? a = some (seqObj "list" #[] e1) →
      wpAny (model prog w) A (call f [v]) (fun u s2 => (∃ t, u = .int k t) ∧ J s2 ∧ s2.heap.get? kS = some (seqObj "list" kA e) ∧ s2.heap.get? a = some (seqObj "list" #[] e1)) (fun _ _ => False) s1)
    (h : ∀ (s1 : Shared) (g : Heap) (tk : Nat) (out : List Value) (c : Nat), J s1 → (∀ b o, b ≠ a → b ≠ kS → s1.heap.get? b = some o → g.get? b = some o) → g.get? a = some (seqObj "list" out.toArray c) → KeyedOut false (kz.map PyData.int) vs out → P (.done (.ret .none)) { s1 with heap := g, toks := tk }) :
    wpAny (model prog w) A (ksk_rest a f false vs.toArray e1 (.ref kS)) P E s := by
  unfold ksk_rest
  refine wpAny_bind (wpAny_rule ?_)
  first
    | rw [List.forIn_toArray]
    | (rw [← Array.forIn_toList]; simp only [List.toList_toArray])
    | rw [← Array.forIn_toList]
  refine wpAny_bind (ksk_fold (fun i s1 => ∃ (kA : Array Value) (e : Nat), J s1 ∧ s1.heap.get? kS = some (seqObj "list" kA e) ∧ s1.heap.get? a = some (seqObj "list" #[] e1) ∧ EachIs (fun (u : Value) (k : Int) => ∃ t, u = .int k t) kA.toList (kz.take i)) vs 0 s ⟨#[], 0, hJ, nk, na, by rw [List.take_zero]; exact .nil⟩ ?stp ?fin)
  case stp =>
    rintro j x s1 hx ⟨kA, e, hJ1, nk1, na1, ek⟩
    simp only [Nat.zero_add] at ek ⊢
    have hj : j < vs.length := (List.getElem?_eq_some_iff.mp hx).1
    obtain ⟨k, hk⟩ : ∃ k, kz[j]? = some k := ⟨_, List.getElem?_eq_getElem (by omega)⟩
    have hsz : kA.size ≤ vs.length := by
      have l1 := ek.length
      rw [Array.length_toList, List.length_take] at l1
      omega
    refine wpAny_bind (wpAny_attempt (wpAny_mono (turn j x k hx hk s1 kA e hJ1 nk1 na1) (fun u s2 h2 => ?_) fun _ _ z => z.elim))
    obtain ⟨⟨t, rfl⟩, hJ2, nk2, na2⟩ := h2
    try dsimp only
    obtain ⟨c2, hc2⟩ : ∃ c2, (s2.heap.update kS (Obj.mapSeq (·.push (.int k t)))).get? kS = some (seqObj "list" (kA.push (.int k t)) c2) := ⟨_, get?_update_seq nk2 (·.push (.int k t))⟩
    have oth : ∀ b o, b ≠ kS → s2.heap.get? b = some o → (s2.heap.update kS (Obj.mapSeq (·.push (.int k t)))).get? b = some o := fun b o hb q => (Heap.get?_update_ne _ _ _ _ hb).trans q
    refine wpAny_bind (listUpdate_at nk2 rfl ?_ (Nat.le_trans hsz hZ) (Nat.le_trans (Nat.le_of_eq (Array.size_push ..)) (Nat.succ_le_succ (Nat.le_trans hsz hZ))))
    refine wpAny_pure ⟨rfl, kA.push (.int k t), c2, quiet s2 _ s2.toks hJ2 oth, hc2, oth _ _ hka.symm na2, ?_⟩
    rw [show (kA.push (Value.int k t)).toList = kA.toList ++ [.int k t] by simp, show kz.take (j + 1) = kz.take j ++ [k] by rw [List.take_add_one, hk]; simp]
    exact each_snoc (R := fun (u : Value) (k : Int) => ∃ t, u = .int k t) ⟨t, rfl⟩ ek
  case fin =>
    rintro s1 ⟨kA, e, hJ1, nk1, na1, ek⟩
    rw [show kz.take (0 + vs.length) = kz from List.take_of_length_le (by omega)] at ek
    have ksz : kA.size = vs.length := by
      have l1 := ek.length
      rw [Array.length_toList] at l1
      omega
    have rd : EachIs (fun v d => ∃ as, Reads s1.heap v d as) kA.toList (kz.map PyData.int) := each_map (R := fun v d => ∃ as, Reads s1.heap v d as) PyData.int (ek.mono fun v k q => by
      obtain ⟨t, rfl⟩ := q
      exact ⟨[], .int k t⟩)
    obtain ⟨G, G1, G2⟩ := pick_heap s1.heap kS
    try dsimp only
    refine wpAny_bind (listItems_at nk1 rfl ?_)
    refine keyH_end (κ := dataKind s1.heap (kz.map PyData.int)) (h₁ := G) (fun b o hb q => ?_) G1 nk1 na1 hka (SortsAt.data rd (ints_alike kz) (ints_sortable kz) fun d hd => ?_) ksz hZ fun g tk c kp ng => h s1 g tk _ c hJ1 (fun b o b1 b2 q => kp b o b1 ((G2 b b2).trans q)) ng ⟨s1.heap, kA.toList, ints_alike kz, rfl, rd⟩
    · have bk : b ≠ kS := fun z => by rw [z, G1] at q; cases q
      rw [← G2 b bk]
      exact q
    · obtain ⟨k, _, rfl⟩ := List.mem_map.mp hd
      show A.units + 0 < cLine
      exact hu
theorem key_tree {f : Value} {a : Addr} {n : Nat} {vs : List Value} {kz : List Int} {J : Shared → Prop} {P : PySem.Fin → Shared → Prop} {E : Value → Shared → Prop} {s : Shared}
    (ho : s.heap.get? a = some (seqObj "list" vs.toArray n)) (hlen : kz.length = vs.length) (hZ : vs.length ≤ sizeLine) (hu : A.units < cLine)
    (J0 : ∀ g : Heap, (∀ b o, b ≠ a → s.heap.get? b = some o → g.get? b = some o) → J { s with heap := g })
    (quiet : ∀ (kS : Addr) (s1 : Shared) (g : Heap) (tk : Nat), s.heap.objs.size ≤ kS → J s1 → (∀ b o, b ≠ kS → s1.heap.get? b = some o → g.get? b = some o) → J { s1 with heap := g, toks := tk })
    (turn : ∀ (kS : Addr) (e1 i : Nat) (v : Value) (k : Int), s.heap.objs.size ≤ kS → vs[i]? = some v → kz[i]? = some k → ∀ (s1 : Shared) (kA : Array Value) (e : Nat), J s1 → s1.heap.get? kS = some (seqObj "list" kA e) → s1.heap.get? a = some (seqObj "list" #[] e1) →
      wpAny (model prog w) A (call f [v]) (fun u s2 => (∃ t, u = .int k t) ∧ J s2 ∧ s2.heap.get? kS = some (seqObj "list" kA e) ∧ s2.heap.get? a = some (seqObj "list" #[] e1)) (fun _ _ => False) s1)
    (h : ∀ (kS : Addr) (s1 : Shared) (g : Heap) (tk : Nat) (out : List Value) (c : Nat), s.heap.objs.size ≤ kS → J s1 → (∀ b o, b ≠ a → b ≠ kS → s1.heap.get? b = some o → g.get? b = some o) → g.get? a = some (seqObj "list" out.toArray c) → KeyedOut false (kz.map PyData.int) vs out → P (.done (.ret .none)) { s1 with heap := g, toks := tk }) :
    wpAny (model prog w) A (ksk_tree a f false) P E s := by
  have ha : a < s.heap.objs.size := Heap.lt_size ho
  obtain ⟨e1, ho1⟩ : ∃ e1, (s.heap.update a (Obj.mapSeq fun _ => (#[] : Array Value))).get? a = some (seqObj "list" #[] e1) := ⟨_, get?_update_seq ho fun _ => #[]⟩
  have sK : ((s.heap.update a (Obj.mapSeq fun _ => (#[] : Array Value))).push (seqObj "tuple" vs.toArray 0)).objs.size = s.heap.objs.size + 1 := by rw [size_push', Heap.size_update]
  unfold ksk_tree
  refine wpAny_bind (listItems_at ho rfl ?_)
  refine wpAny_bind (listUpdate_at ho rfl ?_ (by rw [List.size_toArray]; exact hZ) (Nat.zero_le _))
  refine wpAny_bind (seqEpoch_at ho1 rfl ?_)
  refine wpAny_bind (wpAny_newTuple ?_ (by show vs.length ≤ _; exact hZ))
  refine wpAny_bind (wpAny_newList ?_ (Nat.zero_le _))
  refine wpAny_holding ?_
  refine key_rest (kz := kz) (J := J) (s := { s with heap := ((s.heap.update a (Obj.mapSeq fun _ => (#[] : Array Value))).push (seqObj "tuple" vs.toArray 0)).push (seqObj "list" #[] 0) }) (kS := ((s.heap.update a (Obj.mapSeq fun _ => (#[] : Array Value))).push (seqObj "tuple" vs.toArray 0)).objs.size)
    (J0 _ fun b o hb q => sortingHeap_old hb q) (Heap.get?_push_size _ rfl) (Heap.get?_push_of_some _ (Heap.get?_push_of_some _ ho1)) (by rw [sK]; exact Nat.ne_of_gt (Nat.lt_succ_of_lt ha)) hlen hZ hu
    (fun s1 g tk => quiet _ s1 g tk (by rw [sK]; exact Nat.le_succ _)) (fun i v k => turn _ e1 i v k (by rw [sK]; exact Nat.le_succ _)) fun s1 g tk out c => h _ s1 g tk out c (by rw [sK]; exact Nat.le_succ _)
/-- sorted(t, ..) of a tuple, by keywords -/
theorem sorted_of_sortTK {l : Addr} {vs : List Value} {kw : List (Str × Value)} {Q E : Value → Shared → Prop} {s : Shared} (hl : IsTup s.heap l vs.toArray) (hL : vs.length ≤ sizeLine) (ha1 : argsOk "sorted" ⟨[.ref l], kw⟩) (ha2 : ∀ x, argsOk "list.sort" ⟨[.ref x], kw⟩)
    (body : ∀ E' : Value → Shared → Prop, wpAny (model prog w) A.in1.in1 (Builtin.«list.sort» ⟨[.ref (s.heap.objs.size + 1)], kw⟩) (fun f s' => f = .done (.ret .none) ∧ Q (.ref (s.heap.objs.size + 1)) s') E' { s with heap := copyHeap s.heap vs }) :
    wpAny (model prog w) A (call (.builtin "sorted") [.ref l] kw) Q E s := by
  refine call_function_entry_kw kind_sorted plain_sorted entry_sorted ha1 ?_
  unfold Builtin.«sorted»
  refine wpAny_bind (m := checkCount "sorted" 1 1 _) (wpAny_pure ?_)
  refine wpAny_bind (collect_tup hl ?_ hL)
  refine wpAny_bind (wpAny_newList ?_ hL)
  have hsz : ((s.heap.push (seqObj "list" #[] 0)).update s.heap.objs.size (Obj.mapSeq (· ++ vs.toArray))).objs.size = s.heap.objs.size + 1 := by
    rw [Heap.size_update, size_push']
  show wpAny _ _ _ _ _ { s with heap := copyHeap s.heap vs }
  rw [hsz]
  refine wpAny_bind (wpAny_holding (wpAny_call_entry_kw slot_list_sort ⟨_, copyHeap_at s.heap vs, rfl⟩ entry_list_sort ?body (ha2 _)))
  case body =>
    show wpAny (model prog w) A.in1.in1 (Builtin.«list.sort» ⟨[.ref (s.heap.objs.size + 1)], kw⟩) _ _ _
    refine wpAny_mono (body _) (fun f s' hf => ?_) fun _ _ e => e
    obtain ⟨rfl, hq⟩ := hf
    exact ⟨_, rfl, wpAny_pure ⟨_, rfl, hq⟩⟩
end
/-! # in the layer -/
section
variable {X : Cx} {pins : List (Addr × Obj)} {σ : L2.St} {H : Hp} {s : Shared}
/-- f(x) gives the int k and keeps all that is known -/
def KeyT (X : Cx) (pins : List (Addr × Obj)) (σ : L2.St) (H : Hp) (u : Value) (x : V) (k : Int) : Prop :=
  ∀ (s1 : Shared) (more : List (Addr × Obj)), Inv X (pins ++ more) σ H s1 → ∀ v, RelV x v → wpAny (model X.prog X.w) X.A.in1.in1 (call u [v]) (fun y s2 => (∃ t, y = .int k t) ∧ Inv X (pins ++ more) σ H s2) (fun _ _ => False) s1
/-- scratch objects -/
structure Own (X : Cx) (pins : List (Addr × Obj)) (H : Hp) (c : Addr) : Prop where
  n : H c = none
  l : c ≠ X.env.locals
  z : X.s_0.heap.objs.size ≤ c
  cl : ∀ x d, X.env.cells.lookup x = some d → d ≠ c
  p : ∀ p ∈ X.pn ++ pins, p.1 ≠ c
  f : c ∉ X.fs
theorem own_of (I : Inv X pins σ H s) {c : Addr} (h : s.heap.objs.size ≤ c) : Own X pins H c := by
  have no : ∀ {b : Addr} {o : Obj}, s.heap.get? b = some o → b ≠ c := fun {b o} e z => by
    have := Heap.lt_size e
    rw [z] at this
    exact Nat.lt_irrefl _ (Nat.lt_of_lt_of_le this h)
  refine ⟨I.hok.fresh h, fun e => ?_, Nat.le_trans I.sz h, fun x d e => ?_, fun p hp => no (I.pin p hp).1, I.nofs h⟩
  · have := I.lt
    rw [← e] at this
    exact Nat.lt_irrefl _ (Nat.lt_of_lt_of_le this h)
  · obtain ⟨v, o, ho, _⟩ := I.cell x d e
    exact no ho
theorem inv_end {a kS : Addr} {g : Heap} {tk : Nat} {ys : List V} {out : List Value} {n : Nat} (I : Inv X pins σ H s) (oa : Own X pins H a) (ok : Own X pins H kS) (k : ∀ b o, b ≠ a → b ≠ kS → s.heap.get? b = some o → g.get? b = some o)
    (hv : Vals ys out) (hn : g.get? a = some (seqObj "list" out.toArray n)) (len : ys.length ≤ sizeLine) : Inv X pins σ (upd H a (.lst ys)) { s with heap := g, toks := tk } := by
  have no : ∀ {b : Addr} {u : HO}, H b = some u → b ≠ a ∧ b ≠ kS := fun {b u} e => ⟨ne_of_none e oa.n, ne_of_none e ok.n⟩
  have up : ∀ {b : Addr} {u : HO}, H b = some u → upd H a (.lst ys) b = some u := fun {b u} e => (upd_ne (no e).1).trans e
  have nch : ∀ {b : Addr}, b ∉ [a, kS] → b ≠ a ∧ b ≠ kS := fun {b} hb => ⟨fun z => hb (by simp [z]), fun z => hb (by simp [z])⟩
  refine I.step (g' := s.gens) (d' := s.drawn) (ch := [a, kS]) (fun b hb => ?_) (fun b o _ _ hc e _ => k b o (nch hc).1 (nch hc).2 e) (fun b o _ _ hc e _ => ⟨o.slots, k b o (nch hc).1 (nch hc).2 e⟩) (fun b o hc _ e => ?_) (fun b o hc e => ⟨o, k b o (nch hc).1 (nch hc).2 e⟩)
    (fun b xs e => up e) (fun b o u e => up e) (fun b ps e => ⟨#[], by rw [up e]; simp⟩) (fun m hm => ?_) (fun b u e => ?_) I.bare
  · have oo : Own X pins H b := by
      rcases List.mem_cons.mp hb with z | z
      · rw [z]; exact oa
      · rw [List.mem_singleton.mp z]; exact ok
    exact ⟨.inr oo.z, oo.l, oo.cl, oo.p⟩
  · rw [upd_ne (nch hc).1]
    exact e
  · obtain ⟨o, es, ep, ho, r⟩ := hm
    exact ⟨o, es, ep, k _ o (Ne.symm oa.l) (Ne.symm ok.l) ho, r⟩
  · by_cases hb : b = a
    · rw [hb, upd_same] at e
      cases e
      rw [hb]
      exact ⟨len, out, n, hv, hn⟩
    · rw [upd_ne hb] at e
      refine (I.hok b u e).stay (fun c v hc q => ?_) (fun c q => up q) fun c xs q => up q
      rcases hc with z | z
      · rw [z] at q ⊢
        exact k _ _ hb (no e).2 q
      · exact k _ _ (no z).1 (no z).2 q
theorem each_zip : ∀ {xs : List V} {vs : List Value} {kz : List Int}, Vals xs vs → kz.length = xs.length → EachIs (fun v (b : V × Int) => RelV b.1 v) vs (xs.zip kz)
  | _, _, [], .nil, _ => .nil
  | _, _, k :: kz, .cons r t, h => .cons r (each_zip t (by simpa using h))
theorem vals_each2 : ∀ {out : List Value} {bs : List (V × Int)}, EachIs (fun v (b : V × Int) => RelV b.1 v) out bs → Vals (bs.map Prod.fst) out
  | _, _, .nil => .nil
  | _, _, .cons h t => .cons h (vals_each2 t)
theorem sort_main {l q : Addr} {xs : List V} {kz : List Int} {Q : VK} {E : Value → Shared → Prop} (hu : X.A.units + 2 < cLine) (I : Inv X pins σ H s) (hl : SqL X.K H l xs ∨ SqT X.K H l xs) (hz : kz.length = xs.length)
    (turn : ∀ (i : Nat) x k, xs[i]? = some x → kz[i]? = some k → KeyT X pins σ H (.ref q) x k)
    (h : ∀ (p : Addr) (zs : List (V × Int)), zs.Perm (xs.zip kz) → zs.Pairwise (fun a b => a.2 ≤ b.2) → H p = none → Q (.ref p) (upd H p (.lst (zs.map Prod.fst)))) :
    wpAny (model X.prog X.w) X.A (call (.builtin "sorted") [.ref l] [(Str.ofString "key", .ref q)]) (EP X pins σ Q) E s := by
  obtain ⟨vs, rv, lz, hl⟩ : ∃ vs : List Value, Vals xs vs ∧ xs.length ≤ sizeLine ∧ (s.heap.IsList l vs.toArray ∨ IsTup s.heap l vs.toArray) := by
    rcases hl with hl | hl
    · obtain ⟨its, r, p, z⟩ := I.list hl
      exact ⟨its, r, z, .inl p.isList⟩
    · obtain ⟨its, r, p, z⟩ := I.tuple hl
      exact ⟨its, r, z, .inr p⟩
  have lv : vs.length = xs.length := rv.length.symm
  have oa : Own X pins H (s.heap.objs.size + 1) := own_of I (Nat.le_succ _)
  have csz : s.heap.objs.size ≤ (copyHeap s.heap vs).objs.size := Nat.le_of_lt (Nat.lt_of_succ_lt (Heap.lt_size (copyHeap_at s.heap vs)))
  have body : ∀ E' : Value → Shared → Prop, wpAny (model X.prog X.w) X.A.in1.in1 (Builtin.«list.sort» ⟨[.ref (s.heap.objs.size + 1)], [(Str.ofString "key", .ref q)]⟩) (fun f s' => f = .done (.ret .none) ∧ EP X pins σ Q (.ref (s.heap.objs.size + 1)) s') E' { s with heap := copyHeap s.heap vs } := fun E' => by
    rw [ksk_t1]
    refine key_tree (kz := kz) (J := Inv X pins σ H) (copyHeap_at s.heap vs) (by omega) (by omega) hu (fun g hg => ?_) (fun kS s1 g tk hk I1 hg => ?_) (fun kS e1 i v k hk hv hkz s1 kA e I1 nk na => ?_) fun kS s1 g tk out c hk I1 hg hn ko => ⟨rfl, ?_⟩
    · exact I.kept (t' := s.toks) fun b o e => hg b o (Nat.ne_of_lt (Nat.lt_succ_of_lt (Heap.lt_size e))) (copyHeap_old e)
    · have ow := own_of I (Nat.le_trans csz hk)
      exact I1.turned hg ow.n ow.l (.inr ow.z) ow.cl ow.p
    · have ow := own_of I (Nat.le_trans csz hk)
      obtain ⟨x, hx, rx⟩ := pd_get2 rv hv
      have I2 : Inv X (pins ++ [(s.heap.objs.size + 1, seqObj "list" #[] e1), (kS, seqObj "list" kA e)]) σ H s1 := I1.pins_of fun p hp => by
        rcases List.mem_append.mp hp with z | z
        · exact I1.pin p (List.mem_append_right _ z)
        · rcases List.mem_cons.mp z with z | z
          · rw [z]
            exact ⟨na, oa.n, oa.l, oa.f, fun v z => nomatch z⟩
          · rw [List.mem_singleton.mp z]
            exact ⟨nk, ow.n, ow.l, ow.f, fun v z => nomatch z⟩
      refine wpAny_mono (turn i x k hx hkz s1 _ I2 v rx) (fun u s2 ⟨hk2, I3⟩ => ⟨hk2, I3.unpinned, ?_, ?_⟩) fun _ _ z => z
      · exact (I3.pin (kS, seqObj "list" kA e) (by simp)).1
      · exact (I3.pin (s.heap.objs.size + 1, seqObj "list" #[] e1) (by simp)).1
    · have ow := own_of I (Nat.le_trans csz hk)
      have es : ((xs.zip kz).map fun b => PyData.int b.2) = kz.map PyData.int := by
        rw [show (fun b : V × Int => PyData.int b.2) = PyData.int ∘ Prod.snd from rfl, ← List.map_map, List.map_snd_zip (by omega)]
      have ho := keyedOut_each (bs := xs.zip kz) (fun b => PyData.int b.2) (by rw [es]; exact ko) (each_zip rv hz)
      have pm : ((xs.zip kz).mergeSort (dataLe false fun b => PyData.int b.2)).Perm (xs.zip kz) := List.mergeSort_perm _ _
      have pw : ((xs.zip kz).mergeSort (dataLe false fun b => PyData.int b.2)).Pairwise (fun a b => dataLe false (fun b : V × Int => PyData.int b.2) a b = true) := List.pairwise_mergeSort (fun a b c h1 h2 => by
        rw [dataLe_int, decide_eq_true_eq] at *
        omega) (fun a b => by
        rw [dataLe_int]
        simp only [Bool.or_eq_true, decide_eq_true_eq]
        omega) _
      generalize (xs.zip kz).mergeSort (dataLe false fun b => PyData.int b.2) = zs at ho pm pw
      refine ⟨.ref (s.heap.objs.size + 1), _, inv_end (n := c) I1 oa ow hg (vals_each2 ho) hn ?_, rfl, h _ zs pm (pw.imp fun {a b} z => ?_) oa.n⟩
      · rw [List.length_map, pm.length_eq, List.length_zip]
        omega
      · rw [dataLe_int] at z
        exact of_decide_eq_true z
  rcases hl with hl | hl
  · exact sorted_of_sort hl (by omega) (ksk_s1 _ _) (fun _ => ksk_l1 _ _) body
  · exact sorted_of_sortTK hl (by omega) (ksk_s1 _ _) (fun _ => ksk_l1 _ _) body
end
/-- sorted(e, key=lambda y: ..) -/
def SortN (K : PySem.W.Frag) (T : List (Addr × Str)) (t : TE) (ix : Nat) (σ : L2.St) (Q : VK) (vs : List V) (H1 : Hp) : Prop := Tabs T H1 ∧ ∃ (l : Addr) (xs : List V) (kz : List Int), vs = [.ref l] ∧ (SqL K H1 l xs ∨ SqT K H1 l xs) ∧ kz.length = xs.length ∧ ∀ H2, ExtN H1 H2 → Tabs T H2 →
  (∀ (i : Nat) x k, xs[i]? = some x → kz[i]? = some k → t (σ.set ix (some x)) H2 fun y H3 => y = .int k ∧ H3 = H2) ∧ ∀ (p : Addr) (zs : List (V × Int)), zs.Perm (xs.zip kz) → zs.Pairwise (fun a b => a.2 ≤ b.2) → H2 p = none → Q (.ref p) (upd H2 p (.lst (zs.map Prod.fst)))
def tSortLam (K : PySem.W.Frag) (T : List (Addr × Str)) (ta : TA) (t : TE) (ix : Nat) : TE := fun σ H Q => ta σ H (SortN K T t ix σ Q)
section
variable {X : Cx} {pins : List (Addr × Obj)} {σ : L2.St} {H : Hp} {s : Shared}
end

set_option Elab.async false
set_option linter.all false
set_option maxRecDepth 100000
set_option maxHeartbeats 4000000
/-! # forests -/
/-- joined by some of L -/
abbrev Cn (L : List (Int × Int)) : Int → Int → Prop := Con (fun x y => (x, y) ∈ L ∨ (y, x) ∈ L)
/-- none of L closes a cycle with those before it -/
def Acy (L : List (Int × Int)) : Prop := ∀ (i : Nat) p q, L[i]? = some (p, q) → ¬ Cn (L.take i) p q
/-! # union-find -/
/-- par: who stands above; rt: who stands on top -/
structure UF (m : Nat) (L : List (Int × Int)) (par rt : Int → Int) (dd : Int → Nat) : Prop where
  pin : ∀ v, nodeI m v → nodeI m (par v)
  rin : ∀ v, nodeI m v → nodeI m (rt v)
  up : ∀ v, nodeI m v → rt (par v) = rt v
  top : ∀ v, nodeI m v → par (rt v) = rt v
  fix : ∀ v, nodeI m v → par v = v → rt v = v
  lt : ∀ v, nodeI m v → par v ≠ v → dd (par v) < dd v
  cn : ∀ a b, nodeI m a → nodeI m b → (Cn L a b ↔ rt a = rt b)
set_option Elab.async false
set_option linter.all false
set_option maxRecDepth 100000
set_option maxHeartbeats 4000000
open PySem PySem.Spec PySem.W PySem.Calls PyProof.Rows L2 LamX
/-! # o[i] op= e, over a list -/
section
variable {X : Cx}
def rGetL (K : PySem.W.Frag) : V → V → Hp → VK → Prop := fun x y H Q => ∃ (p : Addr) (xs : List V) (j : Nat) (v : V), x = .ref p ∧ y = .int (j : Nat) ∧ SqL K H p xs ∧ xs[j]? = some v ∧ Q v H
theorem pg_list : PGet X (rGetL X.K) := by
  intro pins s σ H o i ov iv Q I ro ri h
  obtain ⟨p, xs, j, v, rfl, rfl, hl, hv, q⟩ := h
  obtain rfl : ov = Value.ref p := ro
  obtain ⟨t, rfl⟩ := ri
  obtain ⟨its, r, pl, hz⟩ := I.list hl
  obtain ⟨w, ew, rw'⟩ := r.get hv
  have hn := line63
  have jl := (List.getElem?_eq_some_iff.mp hv).1
  exact wpAny_getItem_list pl.isList (by omega) (by omega) (by simpa using ew) ⟨v, H, I, rw', q⟩
theorem pg_listK {K : PySem.W.Frag} (h : X.K = K) : PGet X (rGetL K) := h ▸ pg_list
theorem cr_anyK {K : PySem.W.Frag} (h : X.K = K) (hc : X.calm = true) : CallR X (.builtin "any") (rAny K) := h ▸ cr_any hc
theorem cr_maxLK {K : PySem.W.Frag} (h : X.K = K) (hc : X.calm = true) : CallR X (.builtin "max") (rMax K) := h ▸ cr_max hc
end
section
variable {K : PySem.W.Frag} {σ : L2.St} {H : Hp} {Q : VK} {nx bk ct : L2.St → Hp → Prop}
/-- behind the object and the index -/
def AugSI (te : TE) (tget : V → V → Hp → VK → Prop) (tip : TIp) (tset : TSet) (σ : L2.St) (nx : L2.St → Hp → Prop) (o i : V) (H2 : Hp) : Prop := tget o i H2 fun x H3 => te σ H3 fun y H4 => tip x y H4 fun z H5 => tset o i z H5 fun H6 => nx σ H6
def AugSV (tip : TIp) (tset : TSet) (σ : L2.St) (nx : L2.St → Hp → Prop) (o i x y : V) (H4 : Hp) : Prop := tip x y H4 fun z H5 => tset o i z H5 fun H6 => nx σ H6
theorem r_augS {to ti te : TE} {tget : V → V → Hp → VK → Prop} {tip : TIp} {tset : TSet} (h : to σ H fun o H1 => ti σ H1 fun i H2 => AugSI te tget tip tset σ nx o i H2) : tAugS to ti te tget tip tset ⟨nx, Q, bk, ct⟩ σ H := h
theorem r_augSI {te : TE} {tip : TIp} {tset : TSet} {p : Addr} {xs : List V} {j : Nat} {v : V} (hl : H p = some (.lst xs)) (hv : xs[j]? = some v) (h : te σ H fun y H4 => AugSV tip tset σ nx (.ref p) (.int (j : Nat)) v y H4) : AugSI te (rGetL K) tip tset σ nx (.ref p) (.int (j : Nat)) H :=
  ⟨p, xs, j, v, rfl, rfl, .inl (.inl hl), hv, h⟩
theorem r_augSV {f : Int → Int → V} {p : Addr} {xs : List V} {j : Nat} {a b : Int} (hl : H p = some (.lst xs)) (hj : j < xs.length) (h : nx σ (upd H p (.lst (xs.set j (f a b))))) : AugSV (rI0 f) rSetL σ nx (.ref p) (.int (j : Nat)) (.int a) (.int b) H :=
  ⟨a, b, rfl, rfl, r_setL hl (j := j) (by
    unfold ixN
    rw [if_pos (by omega), if_pos (by omega)]
    rfl) h⟩
theorem r_maxL {a : Addr} {ns : List Int} (hl : SqL K H a (ns.map V.int)) (ne : 0 < ns.length) (q : ∀ m, m ∈ ns → (∀ y, y ∈ ns → y ≤ m) → Q (.int m) H) : rMax K [.ref a] H Q := ⟨a, ns, rfl, hl, ne, q⟩
end
/-! # name = {..} on one line, the name a local -/
section
variable {X : Cx}
end
/-- x is not True -/
def rNB : R2 := fun x y H Q => ∃ a b, x = .bl a ∧ y = .bl b ∧ Q (.bl (!(a == b))) H
/-- t != (): by length alone -/
def rNeTE (K : PySem.W.Frag) : R2 := fun x y H Q => ∃ a b xs, x = .ref a ∧ y = .ref b ∧ SqT K H a xs ∧ SqT K H b [] ∧ Q (.bl (!xs.isEmpty)) H
def rNeX (K : PySem.W.Frag) : R2 := rOr2 (rNeTE K) (rNeD K)
theorem r_repK {H : Hp} {Q : VK} {l : Addr} {v : V} {k : Nat} (h : H l = some (.lst [v])) (hk : k ≤ 1000) (q : ∀ p, H p = none → Q (.ref p) (upd H p (.lst (List.replicate k v)))) : rRep (.ref l) (.int (k : Int)) H Q := by
  refine ⟨l, k, [v], rfl, rfl, h, by omega, by omega, by simp only [List.length_cons, List.length_nil]; exact small_len (by omega), fun p hp => ?_⟩
  have e : (List.replicate (k : Int).toNat [v]).flatten = List.replicate k v := by
    rw [show (k : Int).toNat = k by omega]
    clear q h hk hp
    induction k with
    | zero => rfl
    | succ k ih => rw [List.replicate_succ, List.flatten_cons, ih, List.replicate_succ]; rfl
  rw [e]
  exact q p hp
/-! # a op b op c op d, as a value -/
section
variable {X : Cx} {a b c d : Expr} {ta tb tc td : TE} {pos : Pos}
end

set_option Elab.async false
set_option linter.all false
set_option maxRecDepth 100000
set_option maxHeartbeats 4000000
open PySem PySem.Spec PyProof.Rows L2
/-! # f'{m:b}' of a small m, and how many ones it has -/
def binS (m : Nat) : Str := ⟨((Nat.toDigits 2 m).map Char.toNat).toArray⟩
/-- how many members a mask has -/
def pop (m : Nat) : Nat := ((List.range 8).filter fun k => m.testBit k).length
def FmtB (m : Nat) : Prop := ∀ t u, Builtin.«int.__format__» { pos := [Value.int (m : Nat) t, Value.str (Str.ofString "b") u] } = retStr (binS m)
def AllB (P : Nat → Prop) : Nat → Prop
  | 0 => True
  | n + 1 => P n ∧ AllB P n
theorem AllB.get {P : Nat → Prop} : ∀ {n : Nat}, AllB P n → ∀ m < n, P m
  | n + 1, h, m, l => by
    by_cases c : m = n
    · rw [c]
      exact h.1
    · exact AllB.get h.2 m (by omega)
theorem fmt_all : AllB FmtB 128 := by
  repeat refine And.intro (by intro t u; kernel_rfl) ?_
  exact True.intro
theorem gives_fmtB {m : Nat} (h : m < 128) (t u : Tok) : Gives (Builtin.«int.__format__» { pos := [Value.int (m : Nat) t, Value.str (Str.ofString "b") u] }) (Made.str (binS m)) := by
  rw [AllB.get fmt_all m h t u]
  exact gives_retStr _
theorem binS_len : ∀ m < 128, (binS m).length ≤ 8 := by decide +kernel
theorem binS_count : ∀ m < 128, Txt.count (binS m) (Str.ofString "1") = (pop m : Nat) := by decide +kernel
def tFmtB (te : TE) : TE := fun σ H Q => te σ H fun x H1 => ∃ m : Nat, x = .int (m : Nat) ∧ m < 128 ∧ Q (.str (binS m)) H1
theorem pe_fmtB {X : Cx} {e : Expr} {te : TE} {j : Nat} {p1 p2 pos : Pos} (he : PE X e te) : PE X (.FormattedValue e (-1) (some (.JoinedStr [.Constant (.str (Str.ofString "b")) j p1] p2)) pos) (tFmtB te) where
  run pins s σ H Q I h := by
    refine wpAny_FormattedValue_spec (thn (he.run pins s σ H _ I h) fun v s1 hv => ?_)
    obtain ⟨x, H1, I1, r1, m, rfl, lm, q⟩ := hv
    obtain ⟨t, rfl⟩ := r1
    refine thn ((pe_joined1 (pe_str (x := Str.ofString "b"))).run pins s1 σ H1 (fun y H2 => y = .str (Str.ofString "b") ∧ H2 = H1) I1 ⟨rfl, rfl⟩) fun r s2 hr => ?_
    obtain ⟨y, H2, I2, r2, rfl, rfl⟩ := hr
    obtain ⟨t2, rfl⟩ := r2
    refine ⟨_, _, rfl, wpAny_formatField_spec (by rfl) (fun s' => typeIs_int s' _ _) F.slot_int_format F.entry_int_format F.args_int_format_2 (fun u => gives_fmtB lm t u) ?_ (by decide) (Nat.le_trans (binS_len m lm) (by decide))⟩
    exact ⟨.str (binS m), H2, I2.tok _, ⟨_, rfl⟩, q⟩

set_option Elab.async false
set_option linter.all false
set_option maxRecDepth 100000
set_option maxHeartbeats 4000000
open PySem PySem.Spec PySem.W PySem.Calls PyProof.Rows L2 LamX
/-! # sorted(xs, key=a def) -/
section
variable {X : Cx} {pins : List (Addr × Obj)} {σ : L2.St} {H : Hp} {s : Shared}
theorem key_fn {k : Nat} {f : Addr} {fd : FuncData} {p : Str} {sp : Sp} {x : V} {z : Int} (F : FnOk X.prog X.w X.K X.mg X.base CX0 k f fd [p] sp) (hr : Room (k + 2) X.A) (hb : Binds X.K fd [p] []) (h : sp [x] H (fun y H3 => y = .int z ∧ H3 = H) E0) : KeyT X pins σ H (.ref f) x z := by
  intro s1 more I v rx
  have rc := F.run X.A.in1.in1 X.stack s1 H ⟨[v], []⟩ [v] [x] _ E0 hr.in1.in1 ⟨I.ok.frames, I.ok.mod, I.bs, Nat.le_trans I.ok.bsz I.sz, I.stack, I.stkFree, I.hok, I.bare⟩ (by
    have := hb s1 [v] I.kIn rfl
    rwa [List.append_nil] at this) (.cons rx .nil) h
  refine wpAny_call (codeAny_mono rc fun r s' hq => ?_)
  cases r with
  | error e => obtain ⟨_, _, _, _, _, _, _, _, _, _, _, _, z⟩ := hq
  | ok fl =>
    cases fl with
    | ret u =>
      obtain ⟨v', H', I', r', e1, e2⟩ := I.after hq
      subst e1
      subst e2
      exact ⟨r', I'⟩
    | next => exact False.elim hq
    | brk => exact False.elim hq
    | cont => exact False.elim hq
end
/-- sorted(e, key=f) -/
def SortF (K : PySem.W.Frag) (sp : Sp) (Q : VK) (vs : List V) (H1 : Hp) : Prop := ∃ (l : Addr) (xs : List V) (kz : List Int), vs = [.ref l] ∧ (SqL K H1 l xs ∨ SqT K H1 l xs) ∧ kz.length = xs.length ∧
  (∀ (i : Nat) x k, xs[i]? = some x → kz[i]? = some k → sp [x] H1 (fun y H3 => y = .int k ∧ H3 = H1) E0) ∧ ∀ (p : Addr) (zs : List (V × Int)), zs.Perm (xs.zip kz) → zs.Pairwise (fun a b => a.2 ≤ b.2) → H1 p = none → Q (.ref p) (upd H1 p (.lst (zs.map Prod.fst)))
def tSortF (K : PySem.W.Frag) (sp : Sp) (ta : TA) : TE := fun σ H Q => ta σ H (SortF K sp Q)
theorem r_sortF {K : PySem.W.Frag} {sp : Sp} {ta : TA} {σ : L2.St} {H : Hp} {Q : VK} (h : ta σ H (SortF K sp Q)) : tSortF K sp ta σ H Q := h
theorem pe_sortF {X : Cx} {K : PySem.W.Frag} {k : Nat} {f : Addr} {fd : FuncData} {x : Str} {pp : Str} {sp : Sp} {e : Expr} {ta : TA} {p p2 kpos pos : Pos} (F : FnOk X.prog X.w X.K X.mg X.base CX0 k f fd [pp] sp) (hK : X.K = K) (hr : Room (k + 2) X.A) (hg : Gl X "sorted") (hm : X.mg "sorted" = none)
    (hgf : Gl X x) (hmf : X.mg x = some (.ref f)) (hb : Binds X.K fd [pp] []) (ha : PA X [e] ta) (hdb : (x == Str.ofString "__debug__") = false := by rfl)
    (hst : backTo pos (starEach [e] X.env) = (false, eval e X.env) :: backTo pos (starEach [] X.env) := by rfl) (hpl : (backTo pos (starEach [e] X.env)).any (·.1) = false := by rfl) :
    PE X (.Call (.Name "sorted" p) [e] [⟨some "key", .Name x p2, kpos⟩] pos) (tSortF K sp ta) := by
  subst hK
  refine ⟨fun pins s σ H Q I h => ?_⟩
  refine wpAny_Call_Name_kw (ld_blt I hg hm (by rfl) ?_)
  refine PyProof.Rows.callWith_kw (thn (ha.run pos pins s σ H _ I h) fun us s1 ⟨vs, H1, I1, r1, l, xs, kz, e1, hl, hz, kq, q⟩ => ?_) hst hpl rfl rfl
  subst e1
  rw [Vals.ref1 r1]
  show wpAny _ _ (evalAll [(do let v ← eval (.Name x p2) X.env; standAt pos; pure v)]) _ _ s1
  refine wpAny_evalAll_cons (wpAny_bind (ld_glob I1 hgf hmf ?_ hdb))
  refine wpAny_bind (wpAny_standAt (wpAny_pure (wpAny_evalAll_nil ?_)))
  exact sort_main (E := X.xe) (by have := hr.un; omega) I1 hl hz (fun i x k hx hk => key_fn F hr hb (kq i x k hx hk)) q

set_option Elab.async false
set_option linter.all false
set_option maxRecDepth 100000
set_option maxHeartbeats 4000000
open PySem PySem.Spec PySem.W PySem.Calls PyProof.Rows L2 LamX
/-! # min(xs, key=a def), xs a list -/
section
variable {prog : Program} {w : World} {A : Around}
def StL (I l : Addr) (xs : List V) (i : Nat) (s : Shared) : Prop := s.heap.IsListIter I l i ∧ ∃ its : Array Value, Vals xs its.toList ∧ s.heap.IsList l its
theorem walks_vals (hd : A.handled = none) (I l : Addr) (hne : l ≠ I) (xs : List V) : WalksS prog w A I [I, l] [I] (fun a b => b = a) xs.length (fun i v => ∃ x, xs[i]? = some x ∧ RelV x v) (StL I l xs) where
  sub := by simp
  grefl := fun _ => rfl
  gtrans := fun a b c h1 h2 => h2.trans h1
  frame := fun i s h' tk ⟨h1, its, hv, h2⟩ ht hk => by
    have := ((Walks.list (prog := prog) (w := w) hd I l hne its).toS).frame i s h' tk ⟨h1, h2⟩ ht hk
    exact ⟨this.1, its, hv, this.2⟩
  item := fun i s Q E hi ⟨h1, its, hv, h2⟩ q => by
    have sz : xs.length = its.size := by rw [hv.length, Array.length_toList]
    refine ((Walks.list (prog := prog) (w := w) hd I l hne its).toS).item i s Q E (by omega) ⟨h1, h2⟩ fun v s' hp hs m => q v s' ?_ ⟨hs.1, its, hv, hs.2⟩ m
    obtain ⟨x, hx, r⟩ := pd_get2 hv (show its.toList[i]? = some v by rw [Array.getElem?_toList]; exact hp)
    exact ⟨x, hx, r⟩
  done := fun s Q E ⟨h1, its, hv, h2⟩ q => by
    have sz : xs.length = its.size := by rw [hv.length, Array.length_toList]
    exact ((Walks.list (prog := prog) (w := w) hd I l hne its).toS).done s Q E (by rw [← sz]; exact ⟨h1, h2⟩) q
  self := fun i s Q E ⟨h1, its, hv, h2⟩ q => ((Walks.list (prog := prog) (w := w) hd I l hne its).toS).self i s Q E ⟨h1, h2⟩ q
end
section
variable {X : Cx} {pins : List (Addr × Obj)} {σ : L2.St} {H : Hp} {s : Shared}
/-- f(x) gives the int k, keeps all that is known, and all that is not known too -/
def KeyU (X : Cx) (pins : List (Addr × Obj)) (σ : L2.St) (H : Hp) (u : Value) (x : V) (k : Int) : Prop :=
  ∀ (s1 : Shared), Inv X pins σ H s1 → ∀ v, RelV x v → wpAny (model X.prog X.w) X.A.in1 (call u [v]) (fun y s2 => (∃ t, y = .int k t) ∧ Inv X pins σ H s2 ∧ ∀ c o, H c = none → c ∉ frs X.stack → s1.heap.get? c = some o → s2.heap.get? c = some o) (fun _ _ => False) s1
theorem Own.frs (I : Inv X pins σ H s) {c : Addr} (o : Own X pins H c) : c ∉ frs X.stack := fun h => by
  rcases I.ok.stk with e | ⟨e, ef⟩
  · rw [e] at h
    exact o.f h
  · rw [e] at h
    unfold L2.frs at h
    rw [List.filterMap_cons, ef] at h
    rcases List.mem_cons.mp h with z | z
    · exact o.l z
    · exact o.f z
theorem keyU_fn {k : Nat} {f : Addr} {fd : FuncData} {p : Str} {sp : Sp} {x : V} {z : Int} (F : FnOk X.prog X.w X.K X.mg X.base CX0 k f fd [p] sp) (hr : Room (k + 2) X.A) (hb : Binds X.K fd [p] []) (h : sp [x] H (fun y H3 => y = .int z ∧ H3 = H) E0) : KeyU X pins σ H (.ref f) x z := by
  intro s1 I v rx
  have rc := F.run X.A.in1 X.stack s1 H ⟨[v], []⟩ [v] [x] _ E0 (hr.mono (by omega)).in1 ⟨I.ok.frames, I.ok.mod, I.bs, Nat.le_trans I.ok.bsz I.sz, I.stack, I.stkFree, I.hok, I.bare⟩ (by
    have := hb s1 [v] I.kIn rfl
    rwa [List.append_nil] at this) (.cons rx .nil) h
  refine wpAny_call (codeAny_mono rc fun r s' hq => ?_)
  cases r with
  | error e => obtain ⟨_, _, _, _, _, _, _, _, _, _, _, _, z⟩ := hq
  | ok fl =>
    cases fl with
    | ret u =>
      have hq2 := hq
      obtain ⟨v2, H2, _, _, un, _⟩ := hq2
      obtain ⟨v', H', I', r', e1, e2⟩ := I.after hq
      subst e1
      subst e2
      exact ⟨r', I', fun c o n nf g => un.keep c o g n nf (fun z => nomatch z)⟩
    | next => exact False.elim hq
    | brk => exact False.elim hq
    | cont => exact False.elim hq
theorem inv_moved {a b : Addr} {s' : Shared} (I : Inv X pins σ H s) (oa : Own X pins H a) (ob : Own X pins H b) (m : Moved [b, a] (fun x y => y = x) s s') : Inv X pins σ H s' := by
  obtain ⟨G, G1, G2⟩ := pick_heap s.heap a
  have I1 := I.turned (h' := G) (t' := s.toks) (it := a) (fun c o hc q => (G2 c hc).trans q) oa.n oa.l (.inr oa.z) oa.cl oa.p
  have I2 := I1.turned (h' := s'.heap) (t' := s'.toks) (it := b) (fun c o hc q => by
    have ca : c ≠ a := fun z => by
      have q : G.get? c = some o := q
      rw [z, G1] at q
      cases q
    exact m.heap c o (by simp [hc, ca]) ((G2 c ca).symm.trans q)) ob.n ob.l (.inr ob.z) ob.cl ob.p
  have e : s' = { heap := s'.heap, gens := s.gens, drawn := s.drawn, toks := s'.toks, os := s.os } := by
    obtain ⟨h1, h2, h3, h4, h5⟩ := m
    cases s'
    simp only at h2 h3 h4
    rw [h2, h3, h4]
  rw [e]
  exact I2
theorem min_main {l q : Addr} {xs : List V} {kz : List Int} {Q : VK} {E : Value → Shared → Prop} (hc : X.calm = true) (I : Inv X pins σ H s) (hl : SqL X.K H l xs) (hz : kz.length = xs.length) (ne : 0 < xs.length)
    (turn : ∀ (i : Nat) x k, xs[i]? = some x → kz[i]? = some k → KeyU X pins σ H (.ref q) x k)
    (h : ∀ (i : Nat) x k, xs[i]? = some x → kz[i]? = some k → (∀ k' ∈ kz, k ≤ k') → Q x H) :
    wpAny (model X.prog X.w) X.A (call (.builtin "min") [.ref l] [(Str.ofString "key", .ref q)]) (EP X pins σ Q) E s := by
  obtain ⟨vs, rv, p, lz⟩ := I.list hl
  have hl1 : s.heap.IsList l vs.toArray := p.isList
  have lt : l < s.heap.objs.size := by
    obtain ⟨o, ho, _⟩ := hl1
    exact Heap.lt_size ho
  have oI : Own X pins H s.heap.objs.size := own_of I (Nat.le_refl _)
  have oS : Own X pins H (s.heap.objs.size + 1) := own_of I (Nat.le_succ _)
  have num : ∀ i, i < xs.length → kz[i]? = some (kz.getD i 0) := fun i hi => by
    rw [List.getD_eq_getElem?_getD, List.getElem?_eq_getElem (by omega)]
    rfl
  refine call_min_walkK (wpAny_pyIter_list hl1 ?_)
  have sz : (s.heap.push { cls := Value.type "list_iterator", data := Data.fields #[Value.ref l, Value.int 0 0] }).objs.size = s.heap.objs.size + 1 := size_push' ..
  have I0 : Inv X pins σ H { s with heap := s.heap.push { cls := Value.type "list_iterator", data := Data.fields #[Value.ref l, Value.int 0 0] } } := I.kept (t' := s.toks) fun b o e => Heap.get?_push_of_some _ e
  have obt := argBest_lt (fun i => kz.getD i 0) (xs.length - 1)
  refine ⟨s.heap.objs.size, [s.heap.objs.size, l], [s.heap.objs.size], fun a b => b = a, xs.length, fun i v => ∃ x, xs[i]? = some x ∧ RelV x v, StL s.heap.objs.size l xs, Inv X pins σ H, fun i k _ => ∃ t, k = .int (kz.getD i 0) t, fun i j => decide (kz.getD i 0 < kz.getD j 0), rfl,
    walks_vals (A := X.A.in1) (I.ok.hd hc) _ _ (Nat.ne_of_lt lt) xs, ⟨⟨_, Heap.get?_push_size _ rfl, rfl, rfl⟩, vs.toArray, by simpa using rv, hl1.push _⟩, fun b hb => ?_, ne, ⟨fun s1 s2 J m => ?_, fun i k s1 s2 hV _ => hV, fun i v s1 o Q1 E1 hi hP J hSt hS q1 => ?_, fun i j ki kj s1 Q1 E1 _ h1 h2 q1 => ?_⟩, I0, fun v s' hP J => ?_⟩
  · show b < (s.heap.push _).objs.size
    rw [sz]
    rcases List.mem_cons.mp hb with e | hb
    · rw [e]
      exact Nat.lt_succ_self _
    · rw [List.mem_singleton.mp hb]
      exact Nat.lt_succ_of_lt lt
  · refine inv_moved J oI oS ?_
    have m : Moved ((s.heap.push { cls := Value.type "list_iterator", data := Data.fields #[Value.ref l, Value.int 0 0] }).objs.size :: [s.heap.objs.size]) (fun a b => b = a) s1 s2 := m
    rw [sz] at m
    exact m
  · obtain ⟨x, hx, rx⟩ := hP
    have hS : s1.heap.get? (s.heap.push { cls := Value.type "list_iterator", data := Data.fields #[Value.ref l, Value.int 0 0] }).objs.size = some o := hS
    rw [sz] at hS
    refine wpAny_mono (turn i x _ hx (num i hi) s1 J v rx) (fun y s2 ⟨hk, J2, kp⟩ => q1 y s2 J2 ⟨?_, ?_⟩ ?_ hk fun j k' hV => hV) fun _ _ z => z.elim
    · obtain ⟨⟨o9, g1, g2, g3⟩, _⟩ := hSt
      exact ⟨o9, kp _ _ oI.n (oI.frs J) g1, g2, g3⟩
    · obtain ⟨its, r, p2, _⟩ := J2.list hl
      exact ⟨its.toArray, by simpa using r, p2.isList⟩
    · show s2.heap.get? (s.heap.push { cls := Value.type "list_iterator", data := Data.fields #[Value.ref l, Value.int 0 0] }).objs.size = some o
      rw [sz]
      exact kp _ _ oS.n (oS.frs J) hS
  · exact CmpOf.ints_lt (fun i => kz.getD i 0) (P := fun i v => ∃ t, v = .int (kz.getD i 0) t) (fun i v z => z) i j ki kj s1 Q1 E1 h1 h2 q1
  · obtain ⟨x, hx, rx⟩ := hP
    have hi := obt.1
    refine ⟨x, H, J, rx, h _ x _ hx (num _ (by omega)) fun k' hk => ?_⟩
    obtain ⟨j, hj, rfl⟩ := List.mem_iff_getElem.mp hk
    have := obt.2 j (by omega)
    rw [show kz.getD j 0 = kz[j] by rw [List.getD_eq_getElem?_getD, List.getElem?_eq_getElem hj]; rfl] at this
    exact this
end
/-- min(e, key=f) -/
def MinF (K : PySem.W.Frag) (sp : Sp) (Q : VK) (vs : List V) (H1 : Hp) : Prop := ∃ (l : Addr) (xs : List V) (kz : List Int), vs = [.ref l] ∧ SqL K H1 l xs ∧ kz.length = xs.length ∧ 0 < xs.length ∧
  (∀ (i : Nat) x k, xs[i]? = some x → kz[i]? = some k → sp [x] H1 (fun y H3 => y = .int k ∧ H3 = H1) E0) ∧ ∀ (i : Nat) x k, xs[i]? = some x → kz[i]? = some k → (∀ k' ∈ kz, k ≤ k') → Q x H1
def tMinF (K : PySem.W.Frag) (sp : Sp) (ta : TA) : TE := fun σ H Q => ta σ H (MinF K sp Q)
theorem r_minF {K : PySem.W.Frag} {sp : Sp} {ta : TA} {σ : L2.St} {H : Hp} {Q : VK} (h : ta σ H (MinF K sp Q)) : tMinF K sp ta σ H Q := h
theorem pe_minF {X : Cx} {K : PySem.W.Frag} {k : Nat} {f : Addr} {fd : FuncData} {x : Str} {pp : Str} {sp : Sp} {e : Expr} {ta : TA} {p p2 kpos pos : Pos} (F : FnOk X.prog X.w X.K X.mg X.base CX0 k f fd [pp] sp) (hK : X.K = K) (hc : X.calm = true) (hr : Room (k + 2) X.A) (hg : Gl X "min") (hm : X.mg "min" = none)
    (hgf : Gl X x) (hmf : X.mg x = some (.ref f)) (hb : Binds X.K fd [pp] []) (ha : PA X [e] ta) (hdb : (x == Str.ofString "__debug__") = false := by rfl)
    (hst : backTo pos (starEach [e] X.env) = (false, eval e X.env) :: backTo pos (starEach [] X.env) := by rfl) (hpl : (backTo pos (starEach [e] X.env)).any (·.1) = false := by rfl) :
    PE X (.Call (.Name "min" p) [e] [⟨some "key", .Name x p2, kpos⟩] pos) (tMinF K sp ta) := by
  subst hK
  refine ⟨fun pins s σ H Q I h => ?_⟩
  refine wpAny_Call_Name_kw (ld_blt I hg hm (by rfl) ?_)
  refine PyProof.Rows.callWith_kw (thn (ha.run pos pins s σ H _ I h) fun us s1 ⟨vs, H1, I1, r1, l, xs, kz, e1, hl, hz, ne, kq, q⟩ => ?_) hst hpl rfl rfl
  subst e1
  rw [Vals.ref1 r1]
  show wpAny _ _ (evalAll [(do let v ← eval (.Name x p2) X.env; standAt pos; pure v)]) _ _ s1
  refine wpAny_evalAll_cons (wpAny_bind (ld_glob I1 hgf hmf ?_ hdb))
  refine wpAny_bind (wpAny_standAt (wpAny_pure (wpAny_evalAll_nil ?_)))
  exact min_main (E := X.xe) hc I1 hl hz ne (fun i x k hx hk => keyU_fn F hr hb (kq i x k hx hk)) q

set_option Elab.async false
set_option linter.all false
set_option maxRecDepth 100000
set_option maxHeartbeats 4000000
open PySem PySem.Spec PySem.W PySem.Calls PyProof.Rows L2 LamX
/-! # max(xs, default=d), xs a list of ints -/
def rMaxDef (K : PySem.W.Frag) (vs zs : List V) (H : Hp) (Q : VK) : Prop := ∃ (l : Addr) (ns : List Int) (d : Int), vs = [.ref l] ∧ zs = [.int d] ∧ SqL K H l (ns.map V.int) ∧ ∀ m : Int, (ns = [] → m = d) → (ns ≠ [] → m ∈ ns ∧ ∀ k ∈ ns, k ≤ m) → Q (.int m) H
theorem foldl_max : ∀ (n : Int) (ns : List Int), ns.foldl max n ∈ n :: ns ∧ ∀ k ∈ n :: ns, k ≤ ns.foldl max n
  | n, [] => ⟨List.mem_cons_self, fun k hk => by rw [List.mem_singleton.mp hk]; exact Int.le_refl _⟩
  | n, m :: ns => by
    obtain ⟨h1, h2⟩ := foldl_max (max n m) ns
    rw [List.foldl_cons]
    refine ⟨?_, fun k hk => ?_⟩
    · rcases List.mem_cons.mp h1 with e | e
      · rw [e]
        rcases Int.le_total n m with c | c
        · rw [Int.max_eq_right c]
          exact List.mem_cons_of_mem _ List.mem_cons_self
        · rw [Int.max_eq_left c]
          exact List.mem_cons_self
      · exact List.mem_cons_of_mem _ (List.mem_cons_of_mem _ e)
    · have h3 := h2 (max n m) List.mem_cons_self
      rcases List.mem_cons.mp hk with e | e
      · rw [e]
        omega
      · rcases List.mem_cons.mp e with e | e
        · rw [e]
          omega
        · exact h2 k (List.mem_cons_of_mem _ e)
theorem reads_ints {h : Heap} : ∀ {ns : List Int} {vs : List Value}, Vals (ns.map V.int) vs → ReadsAll h vs (ns.map PyData.int) []
  | [], _, .nil => .nil
  | n :: ns, _, .cons ⟨t, e⟩ r => by
    subst e
    exact .cons (as := []) (bs := []) (.int n t) (reads_ints r)
theorem alike_ints (ns : List Int) : AlikeAll (ns.map PyData.int) := ⟨fun x hx y hy => by
  obtain ⟨i, _, rfl⟩ := List.mem_map.mp hx
  obtain ⟨j, _, rfl⟩ := List.mem_map.mp hy
  simp [alike], fun x hx => by
  obtain ⟨i, _, rfl⟩ := List.mem_map.mp hx
  exact fun z => nomatch z⟩
theorem vals_at {ns : List Int} {vs : List Value} (r : Vals (ns.map V.int) vs) {i : Nat} {v : Value} (h : vs[i]? = some v) : ∃ k t, v = .int k t ∧ ns[i]? = some k := by
  obtain ⟨x, hx, rx⟩ := pd_get2 r h
  rw [List.getElem?_map] at hx
  obtain ⟨k, hk, rfl⟩ := Option.map_eq_some_iff.mp hx
  obtain ⟨t, rfl⟩ := rx
  exact ⟨k, t, rfl, hk⟩
theorem cr_maxDef {X : Cx} (hc : X.calm = true) (hu : X.A.units + 2 < cLine) : CallRK X (.builtin "max") [Str.ofString "default"] (rMaxDef X.K) := by
  intro pins s σ H xs zs us ws Q I r rz h
  obtain ⟨l, ns, d, rfl, rfl, hs, q⟩ := h
  obtain ⟨its, rv, hl, _⟩ := I.list hs
  rw [Vals.ref1 r]
  cases rz with
  | cons rd rn =>
    cases rn
    obtain ⟨t, rfl⟩ := rd
    show wpAny _ _ (call (.builtin "max") [.ref l] [(Str.ofString "default", .int d t)]) _ _ _
    refine max_list_default (I.ok.hd hc) hl.isList (by simpa using reads_ints rv) (alike_ints ns) (by have := depI ns; omega) (fun e h' tk hk => ?_) fun y ys i v h' tk bs e hv hr hk => ?_
    · have e0 : ns = [] := List.map_eq_nil_iff.mp e
      exact ⟨.int d, H, I.kept hk, ⟨t, rfl⟩, q d (fun _ => rfl) fun z => absurd e0 z⟩
    · cases ns with
      | nil => cases e
      | cons n ns =>
        rw [List.map_cons] at e
        injection e with e1 e2
        rw [← e1, ← e2, maxD_ints] at hr
        obtain ⟨k, t2, rfl, hk2⟩ := vals_at rv (show its[i]? = some v by simpa using hv)
        have ek : k = ns.foldl max n := by
          cases hr
          rfl
        obtain ⟨m1, m2⟩ := foldl_max n ns
        exact ⟨.int k, H, I.kept hk, ⟨t2, rfl⟩, q k (fun z => nomatch z) fun _ => by rw [ek]; exact ⟨m1, m2⟩⟩
theorem cr_maxDefK {X : Cx} {K : PySem.W.Frag} (h : X.K = K) (hc : X.calm = true) (hu : X.A.units + 64 < cLine) : CallRK X (.builtin "max") [Str.ofString "default"] (rMaxDef K) := h ▸ cr_maxDef hc (by omega)
theorem cr_sortRevK {X : Cx} {K : PySem.W.Frag} (h : X.K = K) : CallRK X (.builtin "sorted") [Str.ofString "reverse"] (rSortedKw K true [.bl true]) := h ▸ cr_sortedRev

set_option Elab.async false
set_option linter.all false
set_option maxRecDepth 100000
set_option maxHeartbeats 4000000
open PySem PySem.Spec PyProof.Rows L2
/-! # least sets of bits that meet given sets of bits, below 2^7 -/
def Hit (X : Nat) (ms : List Nat) : Prop := ∀ m ∈ ms, X &&& m ≠ 0
theorem pop_xor : ∀ X < 128, ∀ v < 7, X.testBit v = true → X ^^^ 2 ^ v < 128 ∧ pop (X ^^^ 2 ^ v) + 1 = pop X := by decide +kernel
theorem pop_or1 : ∀ X < 128, ∀ v < 7, X ||| 2 ^ v < 128 ∧ pop (X ||| 2 ^ v) ≤ pop X + 1 := by decide +kernel
theorem pop_disj : ∀ a < 128, ∀ b < 128, a &&& b = 0 → b ≠ 0 → pop a + 1 ≤ pop (a ||| b) := by decide +kernel
theorem pop_and : ∀ a < 128, ∀ b < 128, pop (a &&& b) ≤ pop a := by decide +kernel
theorem pop_le : ∀ a < 128, pop a ≤ 7 := by decide +kernel
theorem pop_zero : pop 0 = 0 := by decide
theorem bit_lt {a v : Nat} (h : a < 128) (t : a.testBit v = true) : v < 7 := by
  refine Nat.lt_of_not_le fun c => ?_
  have : a.testBit v = false := Nat.testBit_lt_two_pow (Nat.lt_of_lt_of_le h (show 2 ^ 7 ≤ 2 ^ v from Nat.pow_le_pow_right (by decide) c))
  rw [t] at this
  cases this
theorem and_lt {a b : Nat} (h : a < 128) : a &&& b < 128 := Nat.lt_of_le_of_lt Nat.and_le_left h
theorem or_lt {a b : Nat} (h : a < 128) (k : b < 128) : a ||| b < 128 := Nat.or_lt_two_pow (n := 7) h k
theorem and_ne {a b : Nat} : a &&& b ≠ 0 ↔ ∃ v : Nat, a.testBit v = true ∧ b.testBit v = true := by
  constructor
  · intro h
    obtain ⟨v, hv⟩ := Nat.exists_testBit_of_ne_zero h
    rw [Nat.testBit_and, Bool.and_eq_true] at hv
    exact ⟨v, hv⟩
  · rintro ⟨v, h1, h2⟩ e
    have : (a &&& b).testBit v = true := by rw [Nat.testBit_and, h1, h2]; rfl
    rw [e] at this
    simp at this
theorem and_eqz {a b : Nat} (h : ∀ v : Nat, a.testBit v = true → b.testBit v = true → False) : a &&& b = 0 := Classical.byContradiction fun c => by
  obtain ⟨v, h1, h2⟩ := and_ne.mp c
  exact h v h1 h2
/-- a within b -/
def Wi (a b : Nat) : Prop := ∀ v : Nat, a.testBit v = true → b.testBit v = true
/-- how many sets, each apart from those before -/
def needA : List Nat → Nat × Nat → Nat × Nat
  | [], p => p
  | m :: ms, p => needA ms (if m &&& p.2 = 0 then (p.1 + 1, p.2 ||| m) else p)
theorem needA_snoc : ∀ (ms : List Nat) (m : Nat) (p : Nat × Nat), needA (ms ++ [m]) p = (if m &&& (needA ms p).2 = 0 then ((needA ms p).1 + 1, (needA ms p).2 ||| m) else needA ms p)
  | [], _, _ => rfl
  | _ :: ms, m, p => needA_snoc ms m _
theorem needA_ok {X : Nat} (hX : X < 128) : ∀ (ms : List Nat) (p : Nat × Nat), (∀ m ∈ ms, m < 128) → p.2 < 128 → Hit X ms → p.1 ≤ pop (X &&& p.2) → (needA ms p).1 ≤ pop X
  | [], p, _, h, _, k => Nat.le_trans k (pop_and X hX _ h)
  | m :: ms, p, hm, h, ht, k => by
    have h1 := hm m List.mem_cons_self
    refine needA_ok hX ms _ (fun k hk => hm k (List.mem_cons_of_mem _ hk)) ?_ (fun k hk => ht k (List.mem_cons_of_mem _ hk)) ?_
    · split
      · exact or_lt h h1
      · exact h
    · split
      · next c =>
        have d := pop_disj (X &&& p.2) (and_lt hX) (X &&& m) (and_lt hX) (and_eqz fun v a b => by
          rw [Nat.testBit_and, Bool.and_eq_true] at a b
          exact and_ne.mpr ⟨v, b.2, a.2⟩ c) (ht m List.mem_cons_self)
        rw [← Nat.and_or_distrib_left] at d
        show p.1 + 1 ≤ pop (X &&& (p.2 ||| m))
        omega
      · exact k
theorem needA_pos {m : Nat} {ms : List Nat} : 1 ≤ (needA (m :: ms) (0, 0)).1 := by
  have mono : ∀ (ms : List Nat) (p : Nat × Nat), p.1 ≤ (needA ms p).1 := fun ms => by
    induction ms with
    | nil => exact fun p => Nat.le_refl _
    | cons m ms ih =>
      intro p
      refine Nat.le_trans ?_ (ih _)
      split
      · exact Nat.le_succ _
      · exact Nat.le_refl _
  show 1 ≤ (needA ms (if m &&& 0 = 0 then (0 + 1, 0 ||| m) else (0, 0))).1
  rw [if_pos (Nat.and_zero m)]
  exact mono ms (0 + 1, 0 ||| m)
/-! ## how often a bit stands in the sets -/
def cntB (ms : List Nat) (v : Nat) : Nat := (ms.filter fun m => m.testBit v).length
def memB (X : Nat) : List Nat := (List.range 8).filter fun k => X.testBit k
theorem memB_mem {X v : Nat} (h : X < 128) : v ∈ memB X ↔ X.testBit v = true := by
  unfold memB
  rw [List.mem_filter, List.mem_range]
  exact ⟨fun h => h.2, fun t => ⟨by have := bit_lt h t; omega, t⟩⟩
theorem memB_nodup (X : Nat) : (memB X).Nodup := List.nodup_range.sublist List.filter_sublist
theorem cntB_cons (m : Nat) (ms : List Nat) (v : Nat) : cntB (m :: ms) v = cntB ms v + (if m.testBit v = true then 1 else 0) := by
  unfold cntB
  rw [List.filter_cons]
  by_cases c : m.testBit v = true
  · rw [if_pos c, if_pos c]
    rfl
  · rw [if_neg c, if_neg c]
    rfl
theorem sum_add (l : List Nat) (f g : Nat → Nat) : (l.map fun v => f v + g v).sum = (l.map f).sum + (l.map g).sum := by
  induction l with
  | nil => rfl
  | cons a l ih =>
    simp only [List.map_cons, List.sum_cons, ih]
    omega
theorem sum_ge {l : List Nat} {f : Nat → Nat} {v : Nat} (h : v ∈ l) : f v ≤ (l.map f).sum := by
  induction l with
  | nil => cases h
  | cons a l ih =>
    rw [List.map_cons, List.sum_cons]
    rcases List.mem_cons.mp h with e | e
    · rw [e]
      omega
    · have := ih e
      omega
theorem hit_sum {X : Nat} (hX : X < 128) : ∀ {ms : List Nat}, Hit X ms → ms.length ≤ ((memB X).map (cntB ms)).sum
  | [], _ => Nat.zero_le _
  | m :: ms, h => by
    have ih := hit_sum hX (ms := ms) fun k hk => h k (List.mem_cons_of_mem _ hk)
    have e : cntB (m :: ms) = fun v => cntB ms v + (if m.testBit v = true then 1 else 0) := funext (cntB_cons m ms)
    rw [e, sum_add, List.length_cons]
    obtain ⟨v, v1, v2⟩ := and_ne.mp (h m List.mem_cons_self)
    have := sum_ge (f := fun v => if m.testBit v = true then 1 else 0) ((memB_mem hX).mpr v1)
    rw [if_pos v2] at this
    omega
/-! ## the greatest k of a list -/
theorem take_skip {a : Int} : ∀ {S : List Int} (k : Nat), S.Pairwise (fun x y => y ≤ x) → (∀ x ∈ S, x ≤ a) → 0 ≤ a → (∀ x ∈ S, 0 ≤ x) → (S.take k).sum ≤ ((a :: S).take k).sum
  | _, 0, _, _, _, _ => by simp
  | [], k + 1, _, _, h, _ => by simpa using h
  | b :: S, k + 1, pw, hb, ha, h0 => by
    rw [List.take_succ_cons, List.take_succ_cons, List.sum_cons, List.sum_cons]
    have h1 := (List.pairwise_cons.mp pw)
    have := take_skip (a := b) (S := S) k h1.2 (fun x hx => h1.1 x hx) (h0 b List.mem_cons_self) fun x hx => h0 x (List.mem_cons_of_mem _ hx)
    have := hb b List.mem_cons_self
    omega
theorem sub_top : ∀ {B S : List Int} (k : Nat), B.Sublist S → S.Pairwise (fun x y => y ≤ x) → (∀ x ∈ S, 0 ≤ x) → B.length ≤ k → B.sum ≤ (S.take k).sum
  | _, _, k, .slnil, _, _, _ => by simp
  | B, _ :: S, k, .cons a h, pw, h0, l => by
    have h1 := (List.pairwise_cons.mp pw)
    have h0' : ∀ x ∈ S, 0 ≤ x := fun x hx => h0 x (List.mem_cons_of_mem _ hx)
    exact Int.le_trans (sub_top k h h1.2 h0' l) (take_skip k h1.2 (fun x hx => h1.1 x hx) (h0 a List.mem_cons_self) h0')
  | _ :: B, _ :: S, 0, .cons₂ a h, pw, h0, l => by simp at l
  | _ :: B, _ :: S, k + 1, .cons₂ a h, pw, h0, l => by
    have h1 := (List.pairwise_cons.mp pw)
    have := sub_top k h h1.2 (fun x hx => h0 x (List.mem_cons_of_mem _ hx)) (by simpa using l)
    rw [List.take_succ_cons, List.sum_cons, List.sum_cons]
    omega
theorem perm_sum {a b : List Int} (h : a.Perm b) : a.sum = b.sum := by
  induction h with
  | nil => rfl
  | cons x _ ih => rw [List.sum_cons, List.sum_cons, ih]
  | swap x y l =>
    simp only [List.sum_cons]
    omega
  | trans _ _ i1 i2 => exact i1.trans i2
/-- distinct places of a list sum to no more than its greatest -/
theorem top_sum {C S : List Int} {I : List Nat} {k : Nat} (pm : S.Perm C) (pw : S.Pairwise fun x y => y ≤ x) (h0 : ∀ x ∈ C, 0 ≤ x) (nd : I.Nodup) (lt : ∀ i ∈ I, i < C.length) (l : I.length ≤ k) : (I.map fun i => C.getD i 0).sum ≤ (S.take k).sum := by
  have eC : (List.range C.length).map (fun i => C.getD i 0) = C := List.ext_getElem (by simp) fun i h1 h2 => by
    rw [List.getElem_map, List.getElem_range, List.getD_eq_getElem?_getD, List.getElem?_eq_getElem h2]
    rfl
  have pI : I.Perm ((List.range C.length).filter fun i => decide (i ∈ I)) := (List.perm_ext_iff_of_nodup nd (List.nodup_range.sublist List.filter_sublist)).mpr fun i => by
    rw [List.mem_filter, List.mem_range, decide_eq_true_iff]
    exact ⟨fun h => ⟨lt i h, h⟩, fun h => h.2⟩
  have sub : (((List.range C.length).filter fun i => decide (i ∈ I)).map fun i => C.getD i 0).Sublist C := by
    have := (List.filter_sublist (l := List.range C.length) (p := fun i => decide (i ∈ I))).map fun i => C.getD i 0
    rwa [eC] at this
  obtain ⟨B, pB, sB⟩ := List.exists_perm_sublist sub pm.symm
  rw [perm_sum ((pI.map _).trans pB.symm)]
  refine sub_top k sB pw (fun x hx => h0 x (pm.mem_iff.mp hx)) ?_
  rw [pB.length_eq, List.length_map, ← pI.length_eq]
  exact l
/-! ## what the search finds -/
/-- no set within a of at most k bits meets all -/
def NoHit (ms : List Nat) (a : Nat) (k : Int) : Prop := ∀ X < 128, Wi X a → (pop X : Int) ≤ k → ¬ Hit X ms
def IsHit (ms : List Nat) (a : Nat) (k : Int) (X : Nat) : Prop := X < 128 ∧ Wi X a ∧ (pop X : Int) ≤ k ∧ Hit X ms
theorem hit_and {X a : Nat} {ms : List Nat} (w : Wi X a) : Hit X (ms.map (· &&& a)) ↔ Hit X ms := by
  unfold Hit
  constructor
  · intro h m hm
    obtain ⟨v, v1, v2⟩ := and_ne.mp (h _ (List.mem_map.mpr ⟨m, hm, rfl⟩))
    rw [Nat.testBit_and, Bool.and_eq_true] at v2
    exact and_ne.mpr ⟨v, v1, v2.1⟩
  · intro h m hm
    obtain ⟨m', hm', rfl⟩ := List.mem_map.mp hm
    obtain ⟨v, v1, v2⟩ := and_ne.mp (h m' hm')
    exact and_ne.mpr ⟨v, v1, by rw [Nat.testBit_and, v2, w v v1]; rfl⟩
/-- without the bit v -/
theorem no_step {L : List Nat} {b v : Nat} {k : Int} (hL : ∀ m ∈ L, m < 128) (hv : v < 7) (no : NoHit (L.filter fun m => !m.testBit v) b (k - 1)) {X : Nat} (hX : X < 128) (w : Wi X b) (pk : (pop X : Int) ≤ k) (ht : Hit X L) : X.testBit v = false := by
  cases c : X.testBit v with
  | false => rfl
  | true =>
    obtain ⟨p1, p2⟩ := pop_xor X hX v hv c
    have bit : ∀ u : Nat, (X ^^^ 2 ^ v).testBit u = true → X.testBit u = true ∧ u ≠ v := fun u hu => by
      rw [Nat.testBit_xor, Nat.testBit_two_pow] at hu
      by_cases e : v = u
      · rw [← e, c] at hu
        simp at hu
      · simp [e] at hu
        exact ⟨hu, fun z => e z.symm⟩
    refine absurd ?_ (no (X ^^^ 2 ^ v) p1 (fun u hu => w u (bit u hu).1) (by omega))
    intro m hm
    obtain ⟨m1, m2⟩ := List.mem_filter.mp hm
    obtain ⟨u, u1, u2⟩ := and_ne.mp (ht m m1)
    refine and_ne.mpr ⟨u, ?_, u2⟩
    rw [Nat.testBit_xor, Nat.testBit_two_pow, u1]
    have ne : v ≠ u := fun e => by
      rw [e, u2] at m2
      cases m2
    simp [ne]
theorem yes_step {L : List Nat} {b v X : Nat} {k : Int} (hv : v < 7) (h : IsHit (L.filter fun m => !m.testBit v) b (k - 1) X) : X ||| 2 ^ v < 128 ∧ (∀ u : Nat, (X ||| 2 ^ v).testBit u = true → X.testBit u = true ∨ u = v) ∧ (pop (X ||| 2 ^ v) : Int) ≤ k ∧ Hit (X ||| 2 ^ v) L := by
  obtain ⟨hX, w, pk, ht⟩ := h
  obtain ⟨p1, p2⟩ := pop_or1 X hX v hv
  refine ⟨p1, fun u hu => ?_, by omega, fun m hm => ?_⟩
  · rw [Nat.testBit_or, Nat.testBit_two_pow, Bool.or_eq_true, decide_eq_true_iff] at hu
    exact hu.imp id fun e => e.symm
  · cases c : m.testBit v with
    | true => exact and_ne.mpr ⟨v, by rw [Nat.testBit_or, Nat.testBit_two_pow]; simp, c⟩
    | false =>
      obtain ⟨u, u1, u2⟩ := and_ne.mp (ht m (List.mem_filter.mpr ⟨hm, by rw [c]; rfl⟩))
      exact and_ne.mpr ⟨u, by rw [Nat.testBit_or, u1]; rfl, u2⟩

set_option Elab.async false
set_option linter.all false
set_option maxRecDepth 100000
set_option maxHeartbeats 4000000
open PySem PySem.Spec PyProof.Rows L2
local macro_rules | `(tactic| walk_at "zs") => `(tactic| first | decide | omega | (dsimp only; omega) | (unfold CMul; omega) | (unfold CDivW; decide) | assumption)
local macro_rules | `(tactic| walk_at "zh") => `(tactic| first | assumption | with_reducible exact upd_same | ((with_reducible refine' (upd_ne ?zn).trans ?zr); (case zn => walk_at "zne"); (case zr => walk_at "zh")))
local macro_rules | `(tactic| walk_at "zw") => `(tactic| (simp only [wipe, List.map_cons, List.map_nil, List.set_cons_succ, List.set_cons_zero]; rfl))
local macro_rules | `(tactic| walk_at "zne") => `(tactic| first | assumption | (apply Ne.symm; assumption) | (refine' ne_of_none ?zh1 ?zh2; (case zh2 => assumption); (case zh1 => walk_at "zh")) | (apply Ne.symm; refine' ne_of_none ?zh1 ?zh2; (case zh2 => assumption); (case zh1 => walk_at "zh")))
local macro_rules | `(tactic| walk_at "zl") => `(tactic| first | assumption | exact Or.inl (Or.inl (by walk_at "zh")))
local macro_rules | `(tactic| walk_at "zat") => `(tactic| first | assumption | exact rfl | exact atI_nat (j := 0) (by rfl))
local macro_rules | `(tactic| walk_at "z1") => `(tactic| first
  | with_reducible refine r_seq ?_
  | with_reducible refine r_asg ?_
  | with_reducible refine r_name0 ?_
  | with_reducible refine r_name1 ?_
  | with_reducible refine r_name2 ?_
  | with_reducible refine r_name3 ?_
  | with_reducible refine r_name4 ?_
  | with_reducible refine r_name5 ?_
  | with_reducible refine r_name6 ?_
  | with_reducible refine r_name7 ?_
  | with_reducible refine r_name8 ?_
  | with_reducible refine r_name9 ?_
  | with_reducible refine r_name10 ?_
  | with_reducible refine r_name11 ?_
  | with_reducible refine r_name12 ?_
  | with_reducible refine r_name13 ?_
  | with_reducible refine r_name14 ?_
  | with_reducible refine r_name15 ?_
  | with_reducible refine r_name16 ?_
  | with_reducible refine r_name17 ?_
  | with_reducible refine r_name18 ?_
  | with_reducible refine r_name19 ?_
  | ((with_reducible show tVar _ _ _ _); refine r_var rfl ?_)
  | with_reducible refine r_c ?_
  | with_reducible refine r_op ?_
  | with_reducible refine r_i0 ?_
  | with_reducible refine r_eqI ?_
  | with_reducible refine r_neI ?_
  | with_reducible refine r_i (by walk_at "zs") ?_
  | with_reducible refine r_cons ?_
  | with_reducible refine r_nil ?_
  | with_reducible refine r_call ?_
  | with_reducible refine r_cb ?_
  | with_reducible refine r_test ?_
  | with_reducible refine r_tB ?_
  | with_reducible refine r_k ?_
  | with_reducible refine r_int1 ?_
  | with_reducible refine r_int1b ?_
  | with_reducible refine r_min2 ?_
  | with_reducible refine r_max2 ?_
  | with_reducible refine r_ret ?_
  | with_reducible refine r_ifS ?_
  | with_reducible refine r_tup ?_
  | with_reducible refine r_lst ?_
  | with_reducible refine r_un ?_
  | with_reducible refine r_u ?_
  | with_reducible refine r_eqB ?_
  | with_reducible refine r_neB ?_
  | with_reducible refine r_not ?_
  | with_reducible refine r_and ?_
  | with_reducible refine r_or ?_
  | with_reducible refine r_if ?_
  | with_reducible refine r_bm ?_
  | with_reducible refine r_lstRg ?_
  | with_reducible refine r_tRg1 ?_
  | with_reducible refine r_r1N ?_
  | with_reducible refine r_sl ?_
  | with_reducible refine r_part ?_
  | with_reducible refine r_partN ?_
  | with_reducible refine r_noPart ?_
  | with_reducible refine r_andV ?_
  | with_reducible refine r_orV ?_
  | with_reducible refine r_notV ?_
  | with_reducible refine r_andN ?_
  | with_reducible refine r_orN ?_
  | with_reducible refine r_notN ?_
  | with_reducible refine r_next ?_
  | with_reducible refine r_drop ?_
  | with_reducible refine r_sub ?_
  | with_reducible refine r_for ?_
  | with_reducible refine r_rng1 ?_
  | with_reducible refine r_rng2 ?_
  | with_reducible refine r_ilist ?_
  | with_reducible refine r_itup ?_
  | with_reducible refine r_lc ?_
  | with_reducible refine r_yes ?_
  | with_reducible refine r_gcons ?_
  | with_reducible refine r_gnil ?_
  | ((with_reducible show Bm _ "list" _ _ _ _ (V.ref _) _); refine' r_bmL ?zh ?zq; (case zh => walk_at "zl"))
  | with_reducible refine iteF ?_
  | with_reducible refine iteT ?_
  | ((with_reducible show rIxL _ (V.ref _) (V.int _) _ _); refine' r_ixL ?zh ?za ?zq; (case zh => walk_at "zl"); (case za => walk_at "zat"))
  | ((with_reducible show rIxT _ (V.ref _) (V.int _) _ _); refine' r_ixT ?zh ?za ?zq; (case zh => walk_at "zl"); (case za => walk_at "zat"))
  | with_reducible refine r_dget ?_
  | with_reducible refine r_star ?_
  | with_reducible refine r_match ?_
  | with_reducible refine r_enumT ?_
  | with_reducible refine r_dnot ?_
  | with_reducible refine r_chain ?_
  | with_reducible refine r_chn ?_
  | with_reducible refine r_callS ?_
  | with_reducible refine r_truth ?_
  | with_reducible refine r_bm0 ?_
  | with_reducible refine r_sadd ?_
  | with_reducible refine r_saddT ?_
  | ((with_reducible show Bm0 _ "list" _ _ (V.ref _) _); refine' r_bm0L ?zh ?zq; (case zh => walk_at "zl"))
  | with_reducible refine r_bm0I ?_
  | with_reducible refine r_bu ?_
  | with_reducible refine r_rng3 ?_
  | with_reducible refine r_bitlen ?_
  | with_reducible refine r_genAll ?_
  | with_reducible refine r_zipA ?_
  | with_reducible refine r_items ?_
  | with_reducible refine r_sortLam ?_
  | with_reducible refine r_augS ?_
  | with_reducible refine r_set0u ?_
  | with_reducible refine r_set1u ?_
  | with_reducible refine r_set2u ?_
  | with_reducible refine r_set3u ?_
  | with_reducible refine r_set4u ?_
  | ((with_reducible show rSetL (V.ref _) (V.int 0) _ _ _); refine' r_set0 ?zh ?zq; (case zh => walk_at "zh"))
  | ((with_reducible show rSetL (V.ref _) (V.int 1) _ _ _); refine' r_set1 ?zh ?zq; (case zh => walk_at "zh"))
  | ((with_reducible show rSetL (V.ref _) (V.int 2) _ _ _); refine' r_set2 ?zh ?zq; (case zh => walk_at "zh"))
  | ((with_reducible show rSetL (V.ref _) (V.int 3) _ _ _); refine' r_set3 ?zh ?zq; (case zh => walk_at "zh"))
  | ((with_reducible show rSetL (V.ref _) (V.int 4) _ _ _); refine' r_set4 ?zh ?zq; (case zh => walk_at "zh"))
  | ((with_reducible show rLen _ [V.ref _] _ _); refine' r_lenL ?zh ?zq; (case zh => walk_at "zl"))
  | ((with_reducible show rLen _ [V.ref _] _ _); refine' r_lenT ?zh ?zq; (case zh => walk_at "zl")))
local macro_rules | `(tactic| walk_at "z") => `(tactic| repeat (walk_at "z1"))

def topS (i : Nat) : Stmt := PySem.Challenge.pw_trellis_k59_least_hitting_sets.main.body.getD i (.Pass ⟨0, 0, 0, 0⟩)
/-- a def of the text and where it stands -/
structure DefAt (K : PySem.W.Frag) (mg : Str → Option Value) (x : Str) (st : Stmt) (ps : List Str) where
  f : Addr
  fd : FuncData
  F : Fun K x x st f fd
  b : Binds K fd ps []
  g : mg x = some (.ref f)
/-- the built-ins' names are not the module's own -/
structure Blt (mg : Str → Option Value) : Prop where
  len : mg "len" = none
  range : mg "range" = none
  list : mg "list" = none
  tuple : mg "tuple" = none
  int : mg "int" = none
  min : mg "min" = none
  max : mg "max" = none
  sorted : mg "sorted" = none
  isinstance : mg "isinstance" = none
  bool : mg "bool" = none
  str : mg "str" = none
  enumerate : mg "enumerate" = none
/-! ## the pool -/
def Pool (H : Hp) (a s : Addr) : Prop := ∃ (ns : List Int) (p v c salt : Int), H a = some (.lst [.ref s, .int p, .int v, .int c, .int salt]) ∧ H s = some (.lst (ns.map V.int)) ∧ 0 ≤ p ∧ s ≠ a
theorem Pool.lst {H : Hp} {a s : Addr} (h : Pool H a s) : ∃ xs, H a = some (.lst xs) := by
  obtain ⟨ns, p, v, c, salt, h, _⟩ := h
  exact ⟨_, h⟩
theorem Pool.mono {H H' : Hp} {a s : Addr} (h : Pool H a s) (k : Same H H') : Pool H' a s := by
  obtain ⟨ns, p, v, c, salt, h1, h2, h3, h4⟩ := h
  exact ⟨ns, p, v, c, salt, k _ _ h1, k _ _ h2, h3, h4⟩
theorem Pool.ne {H : Hp} {a s : Addr} (h : Pool H a s) : H a ≠ none := by
  obtain ⟨xs, e⟩ := h.lst
  rw [e]
  exact fun z => nomatch z
theorem Gr.tk {a s : Addr} {H H' : Hp} (g : Gr a H H') (h : Pool H a s) : TK H H' := by
  obtain ⟨xs, e⟩ := h.lst
  exact .of_gr g e
theorem new_ne {H : Hp} {a s l : Addr} (h : Pool H a s) (n : H l = none) : l ≠ a ∧ l ≠ s := by
  obtain ⟨ns, p, v, c, salt, h1, h2, h3, h4⟩ := h
  exact ⟨ne_of_none h1 n |> Ne.symm, ne_of_none h2 n |> Ne.symm⟩
theorem Pool.upd {H : Hp} {a s l : Addr} {o : HO} (h : Pool H a s) (n : l ≠ a ∧ l ≠ s) : Pool (upd H l o) a s := by
  obtain ⟨ns, p, v, c, salt, h1, h2, h3, h4⟩ := h
  exact ⟨ns, p, v, c, salt, (upd_ne (Ne.symm n.1)).trans h1, (upd_ne (Ne.symm n.2)).trans h2, h3, h4⟩
abbrev s_law_spread : Stmt := topS 19
theorem sc_law_spread : FnScope ["cell", "mixed", "total", "k"] ["cell"] (defScope s_law_spread) := ⟨rfl, rfl, rfl, by decide +kernel, rfl, by decide +kernel, by decide +kernel⟩

abbrev s_law_draw : Stmt := topS 20
theorem sc_law_draw : FnScope ["pool", "many", "cell", "mixed", "value"] ["pool", "many"] (defScope s_law_draw) := ⟨rfl, rfl, rfl, by decide +kernel, rfl, by decide +kernel, by decide +kernel⟩

section
variable {P : Program} {w : World} {K : PySem.W.Frag} {mg : Str → Option Value} {base : Heap}
def spSpread : Sp := fun vs H Q _ => ∃ n : Int, vs = [.int n] ∧ ∀ r : Int, Q (.int r) H
theorem ok_spread (T : Blt mg) (D : DefAt K mg "_law_spread" s_law_spread ["cell"]) : FnOk P w K mg base CX0 1 D.f D.fd ["cell"] spSpread := by
  refine D.F.ok sc_law_spread (fun vs H Q E h => ?_) (fun cdv A outer s H vs Q E hr h => ?_)
  · obtain ⟨n, rfl, _⟩ := h
    rfl
  · obtain ⟨n, rfl, q⟩ := h
    refine ⟨_, (pss_cons (ps_set (i := 1) sc_law_spread.nd rfl (Or.inl rfl) (pe_op op_mod (pe_callTy call_int1' (by rfl) T.int (by decide +kernel) (pa_cons (pv 0) pa_nil)) pe_int))
      (pss_cons (ps_set (i := 2) sc_law_spread.nd rfl (Or.inl rfl) pe_int)
      (pss_cons (ps_for PassesOwn.never (by rfl) (pi_range1 (by rfl) T.range (pa_cons pe_int pa_nil)) (pg_name (i := 3) sc_law_spread.nd rfl (Or.inl rfl))
        (pss_cons (ps_set (i := 1) sc_law_spread.nd rfl (Or.inl rfl) (pe_op op_mod (pe_callTy call_int1' (by rfl) T.int (by decide +kernel) (pa_cons (pe_op op_add (pe_op op_add (pe_op op_mul (pv 1) pe_int) pe_int) (pv 3)) pa_nil)) pe_int))
        (pss_one (ps_set (i := 2) sc_law_spread.nd rfl (Or.inl rfl) (pe_op op_add (pe_op op_mul (pv 2) pe_int) (pv 1))))))
      (pss_one (ps_ret (pv 2)))))), ?_⟩
    refine r_at (σ := [some _, none, none, none]) rfl ?_
    walk_at "z"
    refine r_rg1 (by decide) (forR_range (fun _ σ' H' => H' = H ∧ ∃ a b c : Int, ∃ x, σ' = [some (.int a), some (.int b), some (.int c), x]) ⟨rfl, _, _, _, _, rfl⟩ (fun i σ' H' _ ⟨eH, a, b, c, x, eσ⟩ => ?_) fun σ' H' ⟨eH, a, b, c, x, eσ⟩ => ?_)
    · subst eH eσ
      walk_at "z"
      exact ⟨rfl, _, _, _, _, rfl⟩
    · subst eH eσ
      walk_at "z"
      exact q _
/-- a draw: a number from 0 up to the bound; the pool stays a pool; all else stands -/
def spDraw : Sp := fun vs H Q _ => ∃ (a s : Addr) (m : Int), vs = [.ref a, .int m] ∧ Pool H a s ∧ 0 < m ∧ m < 1000000 ∧ ∀ (r : Int) (H' : Hp), 0 ≤ r → r < m → Pool H' a s → Gr a H H' → Q (.int r) H'
theorem ok_draw (T : Blt mg) (D : DefAt K mg "_law_draw" s_law_draw ["pool", "many"]) (D_law_spread : DefAt K mg "_law_spread" s_law_spread ["cell"]) (G_law_spread : FnOk P w K mg base CX0 1 D_law_spread.f D_law_spread.fd ["cell"] spSpread) : FnOk P w K mg base CX0 2 D.f D.fd ["pool", "many"] spDraw := by
  refine D.F.ok sc_law_draw (fun vs H Q E h => ?_) (fun cdv A outer s H vs Q E hr h => ?_)
  · obtain ⟨a, _, m, rfl, _⟩ := h
    rfl
  · obtain ⟨a, s0, m, rfl, ⟨ns, p, v, c, salt, ha, hs, hp, hsa⟩, m0, m1, q⟩ := h
    refine ⟨_, (pss_cons (ps_if (PW.pt (pw_and (pt_cmpR op_le (pe_ix (ix_listK (K := K) rfl) (pv 0) pe_int (fun _ _ => rfl)) pe_int (nomark _)) (pw_and1 (pt_cmpR op_lt (pe_ix (ix_listK (K := K) rfl) (pv 0) pe_int (fun _ _ => rfl)) (pe_callB (call_lenK (K := K) rfl) (by rfl) T.len (by decide +kernel) (pa_cons (pe_ix (ix_listK (K := K) rfl) (pv 0) pe_int (fun _ _ => rfl)) pa_nil)) (nomark _)))))
        (pss_cons (ps_set (i := 2) sc_law_draw.nd rfl (Or.inl rfl) (pe_ix (ix_listK (K := K) rfl) (pe_ix (ix_listK (K := K) rfl) (pv 0) pe_int (fun _ _ => rfl)) (pe_ix (ix_listK (K := K) rfl) (pv 0) pe_int (fun _ _ => rfl)) (fun _ _ => rfl)))
        (pss_cons (ps_asg (pe_op op_add (pe_ix (ix_listK (K := K) rfl) (pv 0) pe_int (fun _ _ => rfl)) pe_int) (pg_sub (pv 0) pe_int set_list))
        (pss_cons (ps_asg (pv 2) (pg_sub (pv 0) pe_int set_list))
        (pss_one (ps_if (pt_cmpR op_lt (pv 2) pe_int (nomark _))
          (pss_one (ps_asg (pe_call G_law_spread (hr.mono (by first | decide | omega)) (by rfl) D_law_spread.g D_law_spread.F.kp D_law_spread.b .nil pass0 (pa_cons (pv 2) pa_nil)) (pg_sub (pv 0) pe_int set_list)))
          pss_nil)))))
        pss_nil)
      (pss_cons (ps_asg (pe_op op_add (pe_ix (ix_listK (K := K) rfl) (pv 0) pe_int (fun _ _ => rfl)) pe_int) (pg_sub (pv 0) pe_int set_list))
      (pss_cons (ps_if (pt_cmpR op_le (pe_ix (ix_listK (K := K) rfl) (pv 0) pe_int (fun _ _ => rfl)) pe_int (nomark _))
        (pss_cons (ps_set (i := 3) sc_law_draw.nd rfl (Or.inl rfl) (pe_op op_mod (pe_callTy call_int1' (by rfl) T.int (by decide +kernel) (pa_cons (pe_op op_add (pe_op op_add (pe_op op_mul (pe_ix (ix_listK (K := K) rfl) (pv 0) pe_int (fun _ _ => rfl)) pe_int) (pe_op op_mul (pe_ix (ix_listK (K := K) rfl) (pv 0) pe_int (fun _ _ => rfl)) pe_int)) pe_int) pa_nil)) pe_int))
        (pss_cons (ps_set (i := 3) sc_law_draw.nd rfl (Or.inl rfl) (pe_op op_mod (pe_callTy call_int1' (by rfl) T.int (by decide +kernel) (pa_cons (pe_op op_add (pe_op op_mul (pv 3) pe_int) (pe_ix (ix_listK (K := K) rfl) (pv 0) pe_int (fun _ _ => rfl))) pa_nil)) pe_int))
        (pss_one (ps_ret (pe_op op_mod (pe_op op_fdivW (pv 3) pe_int) (pv 1))))))
        pss_nil)
      (pss_cons (ps_set (i := 4) sc_law_draw.nd rfl (Or.inl rfl) (pe_op op_mod (pe_callTy call_int1' (by rfl) T.int (by decide +kernel) (pa_cons (pe_ix (ix_listK (K := K) rfl) (pv 0) pe_int (fun _ _ => rfl)) pa_nil)) (pv 1)))
      (pss_cons (ps_asg (pe_op op_fdivW (pe_ix (ix_listK (K := K) rfl) (pv 0) pe_int (fun _ _ => rfl)) (pv 1)) (pg_sub (pv 0) pe_int set_list))
      (pss_one (ps_ret (pv 4)))))))), ?_⟩
    refine r_at (σ := [some _, some _, none, none, none]) rfl ?_
    refine r_seqW (fun σ' H' => ∃ (p v c : Int) (x2 : Option V), σ' = [some (.ref a), some (.int m), x2, none, none] ∧ H' a = some (.lst [.ref s0, .int p, .int v, .int c, .int salt]) ∧ 0 ≤ p ∧ H' s0 = some (.lst (ns.map V.int)) ∧ Gr a H H') ?tail (fun B hB => ?head)
    case head =>
      have sa : s0 ≠ a := hsa
      walk_at "z"
      refine r_ite (fun hv => ?_) (fun hv => ?_)
      · walk_at "z"
        refine r_ite (fun hl => ?_) (fun hl => ?_)
        · rw [List.length_map] at hl
          obtain ⟨cell, _, hc⟩ := at_int hp hl
          walk_at "z"
          have key : ∀ r : Int, B [some (V.ref a), some (V.int m), some (V.int cell), none, none] (upd H a (.lst [.ref s0, .int (p + 1), .int r, .int c, .int salt])) := fun r => hB _ _ ⟨p + 1, r, c, _, rfl, upd_same, by omega, (upd_ne sa).trans hs, .self⟩
          refine r_ite (fun hb => ?_) (fun hb => ?_)
          · walk_at "z"
            refine ⟨_, rfl, fun r => ?_⟩
            walk_at "z"
            exact key _
          · walk_at "z"
            exact key _
        · walk_at "z"
          exact hB _ _ ⟨p, v, c, _, rfl, ha, hp, hs, .refl a H⟩
      · walk_at "z"
        exact hB _ _ ⟨p, v, c, _, rfl, ha, hp, hs, .refl a H⟩
    case tail =>
      rintro σ' H' ⟨p', v', c', x2, rfl, ha', hp', hs', g⟩
      have md : ∀ z : Int, 0 ≤ z % m ∧ z % m < m := fun z => ⟨Int.emod_nonneg z (by omega), Int.emod_lt_of_pos z m0⟩
      have fin : ∀ (z v2 : Int), Q (V.int (z % m)) (upd H' a (.lst [.ref s0, .int p', .int v2, .int (c' + 1), .int salt])) := fun z v2 =>
        q _ _ (md z).1 (md z).2 ⟨ns, p', v2, c' + 1, salt, upd_same, (upd_ne hsa).trans hs', hp', hsa⟩ (g.trans .self)
      walk_at "z"
      refine r_ite (fun hv => ?_) (fun hv => ?_)
      · walk_at "z"
        exact fin _ _
      · walk_at "z"
        refine r_i ⟨m0, (wide_div (i := 0) m0 (b := 20) (by omega) (by decide) (by decide)).2⟩ ?_
        walk_at "z"
        exact fin _ _
/-- the pool of a script -/
abbrev s_law_pool : Stmt := topS 18
theorem sc_law_pool : FnScope ["script", "salt", "cell"] ["script"] (defScope s_law_pool) := ⟨rfl, rfl, rfl, by decide +kernel, rfl, by decide +kernel, by decide +kernel⟩

def spPool (K : PySem.W.Frag) : Sp := fun vs H Q _ => ∃ (l : Addr) (ns : List Int), vs = [.ref l] ∧ SqL K H l (ns.map V.int) ∧ ∀ (a s : Addr) (H' : Hp), H a = none → Same H H' → Pool H' a s → Q (.ref a) H'
theorem cut_ints (ns : List Int) (lo hi : Option Int) : ∃ ms : List Int, cutV (ns.map V.int) lo hi = ms.map V.int ∧ ms.length ≤ ns.length := by
  refine ⟨(ns.drop (HT.sIx ns.length 0 lo)).take (HT.sIx ns.length ns.length hi - HT.sIx ns.length 0 lo), ?_, ?_⟩
  · unfold cutV
    rw [List.length_map, List.map_take, List.map_drop]
  · rw [List.length_take, List.length_drop]
    omega
theorem ok_pool (T : Blt mg) (D : DefAt K mg "_law_pool" s_law_pool ["script"]) : FnOk P w K mg base CX0 1 D.f D.fd ["script"] (spPool K) := by
  refine D.F.ok sc_law_pool (fun vs H Q E h => ?_) (fun cdv A outer s H vs Q E hr h => ?_)
  · obtain ⟨a, m, rfl, _⟩ := h
    rfl
  · obtain ⟨l, ns, rfl, hl, q⟩ := h
    refine ⟨_, (pss_cons (ps_set (i := 1) sc_law_pool.nd rfl (Or.inl rfl) pe_int)
      (pss_cons (ps_for PassesOwn.never (by rfl) (PI.listK (K := K) rfl (pi_list (pe_slice (sl_listK (K := K) rfl) (pv 0) po_none (po_some pe_int)))) (pg_name (i := 2) sc_law_pool.nd rfl (Or.inl rfl))
        (pss_one (ps_set (i := 1) sc_law_pool.nd rfl (Or.inl rfl) (pe_op op_mod (pe_callTy call_int1' (by rfl) T.int (by decide +kernel) (pa_cons (pe_op op_add (pe_op op_mul (pv 1) pe_int) (pv 2)) pa_nil)) pe_int))))
      (pss_one (ps_ret (pe_lst (pa_cons (pe_callTy (call_listK (K := K) rfl) (by rfl) T.list (by decide +kernel) (pa_cons (pv 0) pa_nil)) (pa_cons pe_int (pa_cons pe_int (pa_cons pe_int (pa_cons (pv 1) pa_nil)))))))))), ?_⟩
    refine r_at (σ := [some _, none, none]) rfl ?_
    walk_at "z"
    obtain ⟨ms, em, _⟩ := cut_ints ns none (some 63)
    refine ⟨l, _, rfl, hl, fun c hc => ?_⟩
    have sc : Same H (upd H c (.lst (ms.map V.int))) := same_new hc
    rw [em]
    refine r_il (.inl (.inl upd_same)) (forR_list (xs := ms.map V.int) (fun i σ' H' => H' = upd H c (.lst (ms.map V.int)) ∧ ∃ (z : Int) (x : Option V), σ' = [some (.ref l), some (.int z), x]) ⟨rfl, _, _, rfl⟩ (fun i σ' H' _ ⟨eH, _⟩ => ?_) (fun i x σ' H' hx ⟨eH, z, y, eσ⟩ => ?_) fun σ' H' ⟨eH, z, y, eσ⟩ => ?_)
    · rw [eH]
      exact .inl (.inl upd_same)
    · subst eH eσ
      rw [List.getElem?_map] at hx
      obtain ⟨n, _, rfl⟩ := Option.map_eq_some_iff.mp hx
      walk_at "z"
      exact ⟨rfl, _, _, rfl⟩
    · subst eH eσ
      walk_at "z"
      refine r_listL (sc.seq hl) fun b hb => ?_
      walk_at "z"
      refine r_lstN (by show 5 ≤ sizeLine; decide) fun a ha => ?_
      have sb := sc.trans (same_new (o := .lst (ns.map V.int)) hb)
      exact q a b _ (sb.free ha) (sb.trans (same_new ha)) ⟨ns, 0, 0, 0, z, upd_same, (upd_ne (ne_of_none upd_same ha)).trans upd_same, by omega, ne_of_none upd_same ha⟩
end

set_option Elab.async false
set_option linter.all false
set_option maxRecDepth 100000
set_option maxHeartbeats 4000000
open PySem PySem.Spec PyProof.Rows L2

abbrev s_law_pairs : Stmt := topS 23
theorem sc_law_pairs : FnScope ["n", "found", "u", "v"] ["n"] (defScope s_law_pairs) := ⟨rfl, rfl, rfl, by decide +kernel, rfl, by decide +kernel, by decide +kernel⟩

abbrev s_law_distinct : Stmt := topS 22
theorem sc_law_distinct : FnScope ["rows", "found", "row"] ["rows"] (defScope s_law_distinct) := ⟨rfl, rfl, rfl, by decide +kernel, rfl, by decide +kernel, by decide +kernel⟩

section
variable {P : Program} {w : World} {K : PySem.W.Frag} {mg : Str → Option Value} {base : Heap}
theorem prs_push {H : Hp} {l t : Addr} {xs : List V} {ps : List (Int × Int)} {a b : Int} (hl : H l = some (.lst xs)) (hp : Prs H xs ps) (ht : H t = none) :
    Prs (upd (upd H t (.tup [.int a, .int b])) l (.lst (xs ++ [.ref t]))) (xs ++ [.ref t]) (ps ++ [(a, b)]) := by
  have n : t ≠ l := (ne_of_none hl ht).symm
  have k : TK H (upd (upd H t (.tup [.int a, .int b])) l (.lst (xs ++ [.ref t]))) := fun c ys e => by
    rw [upd_ne (fun z => by rw [z, hl] at e; cases e), upd_ne (ne_of_none e ht)]
    exact e
  exact (hp.tk k).snoc ⟨t, rfl, by rw [upd_ne n]; exact upd_same⟩
/-- all pairs u < v below n -/
def spPairs : Sp := fun vs H Q _ => ∃ n : Nat, vs = [.int (n : Int)] ∧ n ≤ 100 ∧ ∀ (l : Addr) (xs : List V) (H' : Hp), H l = none → Same H H' → H' l = some (.lst xs) → Prs H' xs (allP n) → Q (.ref l) H'
theorem ok_pairs (T : Blt mg) (D : DefAt K mg "_law_pairs" s_law_pairs ["n"]) : FnOk P w K mg base CX0 1 D.f D.fd ["n"] spPairs := by
  refine D.F.ok sc_law_pairs (fun vs H Q E h => ?_) (fun cdv A outer s H vs Q E hr h => ?_)
  · obtain ⟨n, rfl, _⟩ := h
    rfl
  · obtain ⟨n, rfl, hn, q⟩ := h
    refine ⟨_, (pss_cons (ps_set (i := 1) sc_law_pairs.nd rfl (Or.inl rfl) (pe_lst pa_nil))
      (pss_cons (ps_for PassesOwn.never (by rfl) (pi_range1 (by rfl) T.range (pa_cons (pv 0) pa_nil)) (pg_name (i := 2) sc_law_pairs.nd rfl (Or.inl rfl))
        (pss_one (ps_for PassesOwn.never (by rfl) (pi_range2 (by rfl) T.range (pa_cons (pe_op op_add (pv 2) pe_int) (pa_cons (pv 0) pa_nil))) (pg_name (i := 3) sc_law_pairs.nd rfl (Or.inl rfl))
          (pss_one (ps_expr (PE.bmK (K := K) rfl (pe_bm PySem.F.plainAttrs_list PySem.F.slot_list_append PySem.F.type_list_append mt_append (pv 1) (pa_cons (pe_tup (pa_cons (pv 2) (pa_cons (pv 3) pa_nil))) pa_nil))))))))
      (pss_one (ps_ret (pv 1))))), ?_⟩
    refine r_at (σ := [some _, none, none, none]) rfl ?_
    walk_at "z"
    refine r_lstN (by decide) fun f hf => ?_
    walk_at "z"
    refine r_rg1 (by omega) (forR_range (fun i σ' H' => (∃ x2 x3, σ' = [some (.int (n : Int)), some (.ref f), x2, x3]) ∧ Same H H' ∧ ∃ xs, H' f = some (.lst xs) ∧ Prs H' xs (preP n i)) ⟨⟨_, _, rfl⟩, same_new hf, [], upd_same, .nil⟩ ?_ ?_)
    · rintro i σ' H' hi ⟨⟨x2, x3, rfl⟩, sm, xs, hx, hp⟩
      walk_at "z"
      refine r_rg2 (by omega) (forR_range (fun j σ' H' => (∃ x3, σ' = [some (.int (n : Int)), some (.ref f), some (.int (0 + (i : Int))), x3]) ∧ Same H H' ∧ ∃ xs, H' f = some (.lst xs) ∧ Prs H' xs (preP n i ++ rowP i ((i : Int) + 1) j)) ⟨⟨_, rfl⟩, sm, xs, hx, ?_⟩ ?_ ?_)
      · rw [show rowP (i : Int) ((i : Int) + 1) 0 = [] from rfl, List.append_nil]
        exact hp
      · rintro j σ' H' hj ⟨⟨x3, rfl⟩, sm, xs, hx, hp⟩
        walk_at "z"
        refine r_tupN sz2 fun t ht => ?_
        walk_at "z"
        refine r_appT (by walk_at "zh") (small_lt ?_) ?_
        · rw [hp.length, List.length_append, rowP_len]
          have h1 := preP_len (n := n) (i := i)
          have h2 : i * n ≤ 100 * 100 := Nat.mul_le_mul (by omega) hn
          omega
        · refine ⟨⟨_, rfl⟩, same_mut (sm.trans (same_new ht)) hf, _, upd_same, ?_⟩
          rw [rowP_succ, ← List.append_assoc]
          have e1 : (0 : Int) + (i : Int) = i := by omega
          have e2 : (0 : Int) + (i : Int) + 1 + (j : Int) = (i : Int) + 1 + j := by omega
          rw [e2, e1]
          exact prs_push hx hp ht
      · rintro σ' H' ⟨⟨x3, rfl⟩, sm, xs, hx, hp⟩
        refine ⟨⟨_, _, rfl⟩, sm, xs, hx, ?_⟩
        have e : ((n : Int) - (0 + (i : Int) + 1)).toNat = n - 1 - i := by omega
        rw [e] at hp
        exact hp
    · rintro σ' H' ⟨⟨x2, x3, rfl⟩, sm, xs, hx, hp⟩
      walk_at "z"
      exact q f xs H' hf sm hx hp
/-- the rows ascending, each once -/
def spDistinct (K : PySem.W.Frag) : Sp := fun vs H Q _ => ∃ (l : Addr) (xs : List V) (ps : List (Int × Int)), vs = [.ref l] ∧ SqL K H l xs ∧ Prs H xs ps ∧ ps.length ≤ 10000 ∧
  ∀ (f : Addr) (ys : List V) (qs : List (Int × Int)) (H' : Hp), H f = none → Same H H' → H' f = some (.lst ys) → Prs H' ys qs → qs.Pairwise ltP → (∀ p, p ∈ qs ↔ p ∈ ps) → Q (.ref f) H'
theorem ok_distinct (T : Blt mg) (D : DefAt K mg "_law_distinct" s_law_distinct ["rows"]) : FnOk P w K mg base CX0 2 D.f D.fd ["rows"] (spDistinct K) := by
  refine D.F.ok sc_law_distinct (fun vs H Q E h => ?_) (fun cdv A outer s H vs Q E hr h => ?_)
  · obtain ⟨l, xs, ps, rfl, _⟩ := h
    rfl
  · obtain ⟨l, xs, ps, rfl, hl, hp, hlen, q⟩ := h
    refine ⟨_, (pss_cons (ps_set (i := 1) sc_law_distinct.nd rfl (Or.inl rfl) (pe_lst pa_nil))
      (pss_cons (ps_for PassesOwn.never (by rfl) (PI.listK (K := K) rfl (pi_list (pe_callB (cr_sortPrK (K := K) rfl) (by rfl) T.sorted (by decide +kernel) (pa_cons (pv 0) pa_nil)))) (pg_name (i := 2) sc_law_distinct.nd rfl (Or.inl rfl))
        (pss_one (ps_if (PW.pt (pw_or (pt_cmpR (op_eqDK (K := K) rfl hr.units) (pv 1) (pe_lst pa_nil) (nomark _)) (pw_or1 (pt_cmpR (op_neDK (K := K) rfl hr.units) (pe_ix (ix_listK (K := K) rfl) (pv 1) (pe_un un_neg pe_int) (fun _ _ => rfl)) (pv 2) (nomark _)))))
          (pss_one (ps_expr (PE.bmK (K := K) rfl (pe_bm PySem.F.plainAttrs_list PySem.F.slot_list_append PySem.F.type_list_append mt_append (pv 1) (pa_cons (pv 2) pa_nil)))))
          pss_nil)))
      (pss_one (ps_ret (pv 1))))), ?_⟩
    refine r_at (σ := [some _, none, none]) rfl ?_
    walk_at "z"
    refine r_lstN (by decide) fun f hf => ?_
    walk_at "z"
    have s1 : Same H (upd H f (.lst [])) := same_new hf
    refine ⟨l, xs, ps, rfl, s1.seq hl, hp.tk (.of_same s1), fun ys qs p pm hy pw hn => ?_⟩
    have s2 : Same H (upd (upd H f (.lst [])) p (.lst ys)) := s1.trans (same_new hn)
    have pf : f ≠ p := ne_of_none upd_same hn
    refine r_il (.inl (.inl upd_same)) (forR_list (xs := ys) (fun i σ' H' => (∃ x2, σ' = [some (.ref l), some (.ref f), x2]) ∧ Same H H' ∧ H' p = some (.lst ys) ∧ Prs H' ys qs ∧ ∃ zs fs, H' f = some (.lst zs) ∧ Prs H' zs fs ∧ Ded (qs.take i) fs)
      ⟨⟨_, rfl⟩, s2, upd_same, hy.tk (.new hn), [], [], (upd_ne pf).trans upd_same, .nil, .nil⟩ ?_ ?_ ?_)
    · rintro i σ' H' _ ⟨_, _, h, _⟩
      exact .inl (.inl h)
    · rintro i x σ' H' hx ⟨⟨x2, rfl⟩, sm, hpl, hys, zs, fs, hz, hfs, D0⟩
      obtain ⟨r, hr', hxr⟩ := pd_get hys hx
      have tk : qs.take (i + 1) = qs.take i ++ [r] := take_next hr'
      walk_at "z"
      refine r_lstN (by decide) fun e he => ?_
      have ef : f ≠ e := ne_of_none hz he
      have s3 : Same H' (upd H' e (.lst [])) := same_new he
      refine r_eqNil ((upd_ne ef).trans hz) upd_same (hfs.tk (.of_same s3)) ?_
      walk_at "z"
      have pl : ((qs.take i) ++ [r]).Pairwise leP := by
        rw [← tk]
        exact pw.take
      have lens : zs.length < sizeLine := small_lt (by
        have h1 : fs.length ≤ ps.length := by
          have nd := asc_nodup D0.asc
          have sub : ∀ z ∈ fs, z ∈ ps := fun z hz => pm.mem_iff.mp (List.mem_of_mem_take ((D0.mem z).mp hz))
          exact nodup_le _ _ nd sub
        have h2 := hfs.length
        omega)
      -- the row goes behind
      have push : ∀ H2 : Hp, Same H' H2 → H2 f = some (.lst zs) → fs.getLast? ≠ some r → (∃ x2_1, [some (V.ref l), some (V.ref f), some x] = [some (V.ref l), some (V.ref f), x2_1]) ∧ Same H (upd H2 f (.lst (zs ++ [x]))) ∧ (upd H2 f (.lst (zs ++ [x]))) p = some (.lst ys) ∧ Prs (upd H2 f (.lst (zs ++ [x]))) ys qs ∧ ∃ zs_1 fs_1, (upd H2 f (.lst (zs ++ [x]))) f = some (.lst zs_1) ∧ Prs (upd H2 f (.lst (zs ++ [x]))) zs_1 fs_1 ∧ Ded (qs.take (i + 1)) fs_1 := fun H2 sx hf2 hne => by
        have kk : TK H' (upd H2 f (.lst (zs ++ [x]))) := (TK.of_same sx).trans (.lst hf2)
        refine ⟨⟨_, rfl⟩, same_mut (sm.trans sx) hf, ?_, hys.tk kk, _, _, upd_same, (hfs.tk kk).snoc (hxr.tk kk), ?_⟩
        · rw [upd_ne (Ne.symm pf)]
          exact sx _ _ hpl
        · rw [tk]
          exact D0.more pl hne
      refine r_ite (fun h0 => ?_) (fun h0 => ?_)
      · walk_at "z"
        refine r_appT (by walk_at "zh") lens ?_
        refine push _ s3 ((upd_ne ef).trans hz) ?_
        rw [h0]
        exact fun z => nomatch z
      · walk_at "z"
        obtain ⟨r', hr2⟩ : ∃ r', fs.getLast? = some r' := by
          cases q9 : fs.getLast? with
          | some r' => exact ⟨r', rfl⟩
          | none => exact absurd (List.getLast?_eq_none_iff.mp q9) h0
        obtain ⟨x', hx', fx'⟩ := pd_last hfs hr2
        refine r_ixL (.inl (.inl ((upd_ne ef).trans hz))) (at_last hx') ?_
        walk_at "z"
        refine r_neP (fx'.tk (.of_same s3)) (hxr.tk (.of_same s3)) ?_
        walk_at "z"
        refine r_iteN (fun h1 => ?_) (fun h1 => ?_)
        · walk_at "z"
          refine r_appT (by walk_at "zh") lens ?_
          refine push _ s3 ((upd_ne ef).trans hz) ?_
          rw [hr2]
          exact fun z => h1 (Option.some.inj z)
        · walk_at "z"
          refine ⟨⟨_, rfl⟩, sm.trans s3, s3 _ _ hpl, hys.tk (.of_same s3), zs, fs, s3 _ _ hz, hfs.tk (.of_same s3), ?_⟩
          rw [tk]
          exact D0.same (by rw [hr2, h1])
    · rintro σ' H' ⟨⟨x2, rfl⟩, sm, hpl, hys, zs, fs, hz, hfs, D0⟩
      walk_at "z"
      rw [hys.length, List.take_length] at D0
      exact q f zs fs H' hf sm hz hfs D0.asc fun z => (D0.mem z).trans pm.mem_iff
end

set_option Elab.async false
set_option linter.all false
set_option maxRecDepth 100000
set_option maxHeartbeats 4000000
open PySem PySem.Spec PyProof.Rows L2

abbrev s_law_of : Stmt := topS 24
theorem sc_law_of : FnScope ["n", "pairs", "pair"] ["n", "pairs"] (defScope s_law_of) := ⟨rfl, rfl, rfl, by decide +kernel, rfl, by decide +kernel, by decide +kernel⟩

abbrev s_law_met : Stmt := topS 25
theorem sc_law_met : FnScope ["graph", "u", "v"] ["graph", "u", "v"] (defScope s_law_met) := ⟨rfl, rfl, rfl, by decide +kernel, rfl, by decide +kernel, by decide +kernel⟩

section
variable {P : Program} {w : World} {K : PySem.W.Frag} {mg : Str → Option Value} {base : Heap}
/-- the edges stand as a tuple of pairs at e -/
def EdgesAt (H : Hp) (e : Addr) (ps : List (Int × Int)) : Prop := ∃ xs, H e = some (.tup xs) ∧ Prs H xs ps
theorem EdgesAt.tk {H H' : Hp} (k : TK H H') {e : Addr} {ps : List (Int × Int)} (h : EdgesAt H e ps) : EdgesAt H' e ps := by
  obtain ⟨xs, h1, h2⟩ := h
  exact ⟨xs, k _ _ h1, h2.tk k⟩
/-- v is the graph of n and these edges -/
def GrAt (H : Hp) (v : V) (n : Int) (ps : List (Int × Int)) : Prop := ∃ g e, v = .ref g ∧ H g = some (.tup [.int n, .ref e]) ∧ EdgesAt H e ps
theorem GrAt.tk {H H' : Hp} (k : TK H H') {v : V} {n : Int} {ps : List (Int × Int)} (h : GrAt H v n ps) : GrAt H' v n ps := by
  obtain ⟨g, e, h1, h2, h3⟩ := h
  exact ⟨g, e, h1, k _ _ h2, h3.tk k⟩
/-- (n, tuple of distinct(..)) -/
def spOf (K : PySem.W.Frag) : Sp := fun vs H Q _ => ∃ (n : Int) (l : Addr) (xs : List V) (ps : List (Int × Int)), vs = [.int n, .ref l] ∧ SqL K H l xs ∧ Prs H xs ps ∧ ps.length ≤ 10000 ∧
  ∀ (v : V) (qs : List (Int × Int)) (H' : Hp), Same H H' → GrAt H' v n qs → qs.Pairwise ltP → (∀ p, p ∈ qs ↔ ∃ r ∈ ps, p = nrm r) → Q v H'
theorem r_minP {x : V} {p : Int × Int} {H : Hp} {Q : VK} (h : IsP H x p) (q : Q (.int (min p.1 p.2)) H) : rMinT [x] H Q := ⟨x, p, rfl, h, q⟩
theorem r_maxP {x : V} {p : Int × Int} {H : Hp} {Q : VK} (h : IsP H x p) (q : Q (.int (max p.1 p.2)) H) : rMaxT [x] H Q := ⟨x, p, rfl, h, q⟩
theorem ok_of (T : Blt mg) (D : DefAt K mg "_law_of" s_law_of ["n", "pairs"]) (D_law_distinct : DefAt K mg "_law_distinct" s_law_distinct ["rows"]) (G_law_distinct : FnOk P w K mg base CX0 2 D_law_distinct.f D_law_distinct.fd ["rows"] (spDistinct K)) :
    FnOk P w K mg base CX0 3 D.f D.fd ["n", "pairs"] (spOf K) := by
  refine D.F.ok sc_law_of (fun vs H Q E h => ?_) (fun cdv A outer s H vs Q E hr h => ?_)
  · obtain ⟨n, l, xs, ps, rfl, _⟩ := h
    rfl
  · obtain ⟨n, l, xs, ps, rfl, hl, hp, hlen, q⟩ := h
    refine ⟨_, (pss_one (ps_ret (pe_tup (pa_cons (pv 0) (pa_cons (pe_callTy (call_tupleK (K := K) rfl) (by rfl) T.tuple (by decide +kernel) (pa_cons (pe_call G_law_distinct (hr.mono (by first | decide | omega)) (by rfl) D_law_distinct.g D_law_distinct.F.kp D_law_distinct.b .nil pass0 (pa_cons (pe_lc (own := [("pair", 2)]) (by rfl) sc_law_of.nd (PI.listK (K := K) rfl (pi_list (pv 1))) (blkOk_by (own := [("pair", 2)]) (N := ["n", "pairs", "pair"]) (sc := (defScope s_law_of)) (by decide +kernel)) (fun _ _ _ _ _ => (pg_name (i := 2) sc_law_of.nd rfl (Or.inl rfl))) (fun _ _ _ _ _ => pts_nil) (fun _ _ _ _ _ => (pe_tup (pa_cons (pe_callB (cr_minT rfl) (by rfl) T.min (by decide +kernel) (pa_cons (pv 2) pa_nil)) (pa_cons (pe_callB (cr_maxT rfl) (by rfl) T.max (by decide +kernel) (pa_cons (pv 2) pa_nil)) pa_nil))))) pa_nil)) pa_nil)) pa_nil))))), ?_⟩
    refine r_at (σ := [some _, some _, none]) rfl ?_
    walk_at "z"
    refine r_il hl fun d hd => lcR_list (xs := xs) (fun i H' => Same H H' ∧ ∃ ys, H' d = some (.lst ys) ∧ Prs H' ys ((ps.take i).map nrm)) (by walk_at "zw") ⟨same_new hd, [], upd_same, .nil⟩ (fun i H' _ ⟨s1, _⟩ => s1.seq hl) ?_ ?_
    · rintro i x H' hx ⟨s1, ys, hy, hys⟩
      obtain ⟨p, hpi, hxp⟩ := pd_get (hp.tk (.of_same s1)) hx
      walk_at "z"
      refine ⟨rfl, ?_⟩
      walk_at "z"
      refine r_minP hxp ?_
      walk_at "z"
      refine r_maxP hxp ?_
      walk_at "z"
      refine r_tupN sz2 fun t ht => ?_
      refine r_lce (by walk_at "zh") (small_lt ?_) ⟨same_mut (s1.trans (same_new ht)) hd, _, upd_same, ?_⟩
      · rw [hys.length, List.length_map, List.length_take]
        omega
      · rw [take_next hpi, List.map_append]
        exact prs_push hy hys ht
    · rintro H' ⟨s1, ys, hy, hys⟩
      rw [hp.length, List.take_length] at hys
      walk_at "z"
      refine ⟨d, ys, _, rfl, .inl (.inl hy), hys, by rw [List.length_map]; exact hlen, fun f zs qs H2 hf s2 hz hzs asc mem => ?_⟩
      walk_at "z"
      refine r_tupL (.inl (.inl hz)) fun e he => ?_
      walk_at "z"
      refine r_tupN sz2 fun g hg => ?_
      have s3 : Same H2 (upd H2 e (.tup zs)) := same_new he
      have s4 := s3.trans (same_new (o := .tup [.int n, .ref e]) hg)
      refine q _ qs _ ((s1.trans s2).trans s4) ⟨g, e, rfl, upd_same, zs, (upd_ne (ne_of_none upd_same hg)).trans upd_same, hzs.tk (.of_same s4)⟩ asc fun p => ?_
      rw [mem, List.mem_map]
      constructor
      · rintro ⟨r, hr, rfl⟩
        exact ⟨r, hr, rfl⟩
      · rintro ⟨r, hr, rfl⟩
        exact ⟨r, hr, rfl⟩
/-- are u and v neighbours? -/
def spMet : Sp := fun vs H Q _ => ∃ (g : V) (n u v : Int) (ps : List (Int × Int)), vs = [g, .int u, .int v] ∧ GrAt H g n ps ∧ ∀ H', Same H H' → Q (.bl (decide (nrm (u, v) ∈ ps))) H'
theorem ok_met (T : Blt mg) (D : DefAt K mg "_law_met" s_law_met ["graph", "u", "v"]) : FnOk P w K mg base CX0 2 D.f D.fd ["graph", "u", "v"] spMet := by
  refine D.F.ok sc_law_met (fun vs H Q E h => ?_) (fun cdv A outer s H vs Q E hr h => ?_)
  · obtain ⟨g, n, u, v, ps, rfl, _⟩ := h
    rfl
  · obtain ⟨g, n, u, v, ps, rfl, ⟨ga, e, rfl, hg, xs, he, hp⟩, q⟩ := h
    refine ⟨_, (pss_one (ps_ret (pe_cmpR (op_inPK (K := K) rfl hr) (pe_tup (pa_cons (pe_callB (call_min2' rfl) (by rfl) T.min (by decide +kernel) (pa_cons (pv 1) (pa_cons (pv 2) pa_nil))) (pa_cons (pe_callB (call_max2' rfl) (by rfl) T.max (by decide +kernel) (pa_cons (pv 1) (pa_cons (pv 2) pa_nil))) pa_nil))) (pe_ix (ix_tupK (K := K) rfl) (pv 0) pe_int (fun _ _ => rfl)) (by rfl)))), ?_⟩
    refine r_at (σ := [some _, some _, some _]) rfl ?_
    walk_at "z"
    refine r_tupN sz2 fun t ht => ?_
    have s1 : Same H (upd H t (.tup [.int (min u v), .int (max u v)])) := same_new ht
    walk_at "z"
    refine ⟨(min u v, max u v), e, xs, ps, ⟨t, rfl, upd_same⟩, rfl, .inl (.inl (s1 _ _ he)), hp.tk (.of_same s1), ?_⟩
    exact q _ s1
/-- the neighbours, ascending -/
def nearL (n : Int) (ps : List (Int × Int)) (v : Int) (k : Nat) : List Int := ((List.range k).map fun (i : Nat) => (i : Int)).filter fun u => decide (u ≠ v ∧ nrm (u, v) ∈ ps)
def spNear : Sp := fun vs H Q _ => ∃ (g : V) (n v : Int) (ps : List (Int × Int)), vs = [g, .int v] ∧ GrAt H g n ps ∧ 0 ≤ n ∧ n ≤ 100 ∧ ∀ (l : Addr) (H' : Hp), H l = none → Same H H' → H' l = some (.lst ((nearL n ps v n.toNat).map V.int)) → Q (.ref l) H'
end

set_option Elab.async false
set_option linter.all false
set_option maxRecDepth 100000
set_option maxHeartbeats 4000000
open PySem PySem.Spec PyProof.Rows L2

abbrev s_law_shuffled : Stmt := topS 26
theorem sc_law_shuffled : FnScope ["pool", "items", "rest", "found", "k"] ["pool", "items"] (defScope s_law_shuffled) := ⟨rfl, rfl, rfl, by decide +kernel, rfl, by decide +kernel, by decide +kernel⟩

abbrev s_law_moved : Stmt := topS 27
theorem sc_law_moved : FnScope ["graph", "order", "pair"] ["graph", "order"] (defScope s_law_moved) := ⟨rfl, rfl, rfl, by decide +kernel, rfl, by decide +kernel, by decide +kernel⟩

abbrev s_law_other : Stmt := topS 28
theorem sc_law_other : FnScope ["graph", "pair"] ["graph"] (defScope s_law_other) := ⟨rfl, rfl, rfl, by decide +kernel, rfl, by decide +kernel, by decide +kernel⟩

section
variable {P : Program} {w : World} {K : PySem.W.Frag} {mg : Str → Option Value} {base : Heap}
theorem r_popAt {H : Hp} {Q : VK} {l : Addr} {xs : List V} {i : Int} {k : Nat} {y : V} (h : H l = some (.lst xs)) (e : i = (k : Int)) (hk : k < 1000000) (hy : xs[k]? = some y) (q : Q y (upd H l (.lst (xs.eraseIdx k)))) : rPopAt (.ref l) [.int i] H Q := by
  have hlt : k < xs.length := (List.getElem?_eq_some_iff.mp hy).1
  refine ⟨l, xs, i, k, y, rfl, rfl, h, by omega, by omega, ?_, hy, q⟩
  subst e
  unfold seqIndex?
  simp only [show ¬ ((k : Int) < 0) by omega, if_false]
  rw [if_pos (by simp; omega)]
  rfl
theorem map_erase {α β : Type} (f : α → β) : ∀ (l : List α) (k : Nat), (l.map f).eraseIdx k = (l.eraseIdx k).map f
  | [], _ => by simp
  | _ :: _, 0 => rfl
  | x :: l, k + 1 => by
    show f x :: (l.map f).eraseIdx k = f x :: (l.eraseIdx k).map f
    rw [map_erase f l k]
theorem get_erase_perm {α : Type} : ∀ (l : List α) {k : Nat} {x : α}, l[k]? = some x → (x :: l.eraseIdx k).Perm l
  | [], _, _, h => by simp at h
  | y :: l, 0, x, h => by
    have e : y = x := Option.some.inj h
    subst e
    exact .refl _
  | y :: l, k + 1, x, h => by
    have ih := get_erase_perm l (k := k) h
    show (x :: y :: l.eraseIdx k).Perm (y :: l)
    exact (List.Perm.swap y x _).trans (ih.cons y)
/-- the items in some order -/
def spShuf (K : PySem.W.Frag) : Sp := fun vs H Q _ => ∃ (a s l : Addr) (ns : List Int), vs = [.ref a, .ref l] ∧ Pool H a s ∧ l ≠ a ∧ H l = some (.lst (ns.map V.int)) ∧ ns.length ≤ 1000 ∧
  ∀ (f : Addr) (ms : List Int) (H' : Hp), H f = none → f ≠ a → Pool H' a s → Gr a H H' → H' f = some (.lst (ms.map V.int)) → ms.Perm ns → Q (.ref f) H'
theorem ok_shuffled (T : Blt mg) (D : DefAt K mg "_law_shuffled" s_law_shuffled ["pool", "items"]) (D_law_draw : DefAt K mg "_law_draw" s_law_draw ["pool", "many"]) (G_law_draw : FnOk P w K mg base CX0 2 D_law_draw.f D_law_draw.fd ["pool", "many"] spDraw) :
    FnOk P w K mg base CX0 3 D.f D.fd ["pool", "items"] (spShuf K) := by
  refine D.F.ok sc_law_shuffled (fun vs H Q E h => ?_) (fun cdv A outer s H vs Q E hr h => ?_)
  · obtain ⟨a, s, l, ns, rfl, _⟩ := h
    rfl
  · obtain ⟨a, s0, l, ns, rfl, hP, hla, hl, hlen, q⟩ := h
    refine ⟨_, (pss_cons (ps_set (i := 2) sc_law_shuffled.nd rfl (Or.inl rfl) (pe_callTy (call_listK (K := K) rfl) (by rfl) T.list (by decide +kernel) (pa_cons (pv 1) pa_nil)))
      (pss_cons (ps_set (i := 3) sc_law_shuffled.nd rfl (Or.inl rfl) (pe_lst pa_nil))
      (pss_cons (ps_for PassesOwn.never (by rfl) (pi_range1 (by rfl) T.range (pa_cons (pe_callB (call_lenK (K := K) rfl) (by rfl) T.len (by decide +kernel) (pa_cons (pv 2) pa_nil)) pa_nil)) (pg_name (i := 4) sc_law_shuffled.nd rfl (Or.inl rfl))
        (pss_one (ps_expr (PE.bmK (K := K) rfl (pe_bm PySem.F.plainAttrs_list PySem.F.slot_list_append PySem.F.type_list_append mt_append (pv 3) (pa_cons (PE.bmK (K := K) rfl (pe_bm PySem.F.plainAttrs_list PySem.F.slot_list_pop PySem.F.type_list_pop mt_popAt (pv 2) (pa_cons (pe_call G_law_draw (hr.mono (by first | decide | omega)) (by rfl) D_law_draw.g D_law_draw.F.kp D_law_draw.b .nil pass0 (pa_cons (pv 0) (pa_cons (pe_callB (call_lenK (K := K) rfl) (by rfl) T.len (by decide +kernel) (pa_cons (pv 2) pa_nil)) pa_nil))) pa_nil))) pa_nil))))))
      (pss_one (ps_ret (pv 3)))))), ?_⟩
    refine r_at (σ := [some _, some _, none, none, none]) rfl ?_
    walk_at "z"
    refine r_listL (.inl (.inl hl)) fun r hr1 => ?_
    walk_at "z"
    refine r_lstN (by decide) fun f hf => ?_
    have rf : r ≠ f := ne_of_none upd_same hf
    have hf0 : H f = none := (same_new hr1).free hf
    walk_at "z"
    rw [List.length_map]
    refine r_rg1 (by omega) (forR_range (fun i σ' H' => (∃ x4, σ' = [some (.ref a), some (.ref l), some (.ref r), some (.ref f), x4]) ∧ Pool H' a s0 ∧ Gr a H H' ∧ ∃ xs ys : List Int, H' r = some (.lst (xs.map V.int)) ∧ H' f = some (.lst (ys.map V.int)) ∧ (xs ++ ys).Perm ns ∧ ys.length = i)
      ⟨⟨_, rfl⟩, (hP.mono (same_new hr1)).mono (same_new hf), (Gr.new hr1).trans (.new hf), ns, [], (upd_ne rf).trans upd_same, upd_same, by rw [List.append_nil], rfl⟩ ?_ ?_)
    · rintro i σ' H' hi ⟨⟨x4, rfl⟩, hP', g, xs, ys, hx, hy, pm, hlen2⟩
      have hi : i < ns.length := by omega
      have lx : xs.length + i = ns.length := by
        have := pm.length_eq
        rw [List.length_append] at this
        omega
      walk_at "z"
      rw [List.length_map]
      refine ⟨a, s0, _, rfl, hP', by omega, by omega, fun c H2 c0 c1 hP2 g2 => ?_⟩
      walk_at "z"
      have hx2 := g2 _ _ (new_ne hP hr1).1 hx
      have hy2 := g2 _ _ (new_ne hP hf0).1 hy
      have hc : c.toNat < xs.length := by omega
      have gx : xs[c.toNat]? = some xs[c.toNat] := List.getElem?_eq_getElem hc
      refine r_popAt hx2 (k := c.toNat) (y := V.int xs[c.toNat]) (by omega) (by omega) (by rw [List.getElem?_map, gx]; rfl) ?_
      rw [map_erase]
      walk_at "z"
      refine r_appT ((upd_ne (Ne.symm rf)).trans hy2) (small_lt ?_) ?_
      · rw [List.length_map]
        omega
      · refine ⟨⟨_, rfl⟩, (hP2.upd (new_ne hP hr1)).upd (new_ne hP hf0), ((g.trans g2).mut hr1).mut hf0, xs.eraseIdx c.toNat, ys ++ [xs[c.toNat]], ?_, ?_, ?_, ?_⟩
        · rw [upd_ne rf]
          exact upd_same
        · rw [List.map_append]
          exact upd_same
        · refine List.Perm.trans ?_ pm
          have p1 : (xs.eraseIdx c.toNat ++ (ys ++ [xs[c.toNat]])).Perm ([xs[c.toNat]] ++ (xs.eraseIdx c.toNat ++ ys)) := by
            rw [← List.append_assoc]
            exact List.perm_append_comm
          exact p1.trans ((get_erase_perm xs gx).append_right ys)
        · rw [List.length_append, hlen2]
          rfl
    · rintro σ' H' ⟨⟨x4, rfl⟩, hP', g, xs, ys, hx, hy, pm, hlen2⟩
      walk_at "z"
      have lx : xs = [] := by
        have := pm.length_eq
        rw [List.length_append] at this
        exact List.eq_nil_of_length_eq_zero (by omega)
      subst lx
      exact q f ys H' hf0 (new_ne hP hf0).1 hP' g hy pm
/-- the graph whose vertices have other numbers -/
def ordP (o : List Int) (p : Int × Int) : Int × Int := (o.getD p.1.toNat 0, o.getD p.2.toNat 0)
def spMoved (K : PySem.W.Frag) : Sp := fun vs H Q _ => ∃ (g : V) (l : Addr) (n : Int) (ps : List (Int × Int)) (o : List Int), vs = [g, .ref l] ∧ GrAt H g n ps ∧ (SqL K H l (o.map V.int) ∨ SqT K H l (o.map V.int)) ∧ ps.length ≤ 10000 ∧
  (∀ p ∈ ps, 0 ≤ p.1 ∧ p.1 < o.length ∧ 0 ≤ p.2 ∧ p.2 < o.length) ∧
  ∀ (v : V) (qs : List (Int × Int)) (H' : Hp), Same H H' → GrAt H' v n qs → qs.Pairwise ltP → (∀ p, p ∈ qs ↔ ∃ r ∈ ps, p = nrm (ordP o r)) → Q v H'
theorem Same.seqT {K : PySem.W.Frag} {H H' : Hp} {a : Addr} {xs : List V} (e : Same H H') (h : SqT K H a xs) : SqT K H' a xs := by
  rcases h with (h | ⟨o, h⟩) | h
  · exact .inl (.inl (e _ _ h))
  · exact .inl (.inr ⟨o, e _ _ h⟩)
  · exact .inr h
theorem at_ord {o : List Int} {z : Int} (h0 : 0 ≤ z) (h1 : z < o.length) : atI (o.map V.int) z = some (.int (o.getD z.toNat 0)) := by
  have hlt : z.toNat < o.length := by omega
  refine at_of (j := z.toNat) (by omega) ?_
  rw [List.getElem?_map, List.getElem?_eq_getElem hlt, List.getD_eq_getElem?_getD, List.getElem?_eq_getElem hlt]
  rfl
theorem ok_moved (T : Blt mg) (D : DefAt K mg "_law_moved" s_law_moved ["graph", "order"]) (D_law_of : DefAt K mg "_law_of" s_law_of ["n", "pairs"]) (G_law_of : FnOk P w K mg base CX0 3 D_law_of.f D_law_of.fd ["n", "pairs"] (spOf K)) :
    FnOk P w K mg base CX0 4 D.f D.fd ["graph", "order"] (spMoved K) := by
  refine D.F.ok sc_law_moved (fun vs H Q E h => ?_) (fun cdv A outer s H vs Q E hr h => ?_)
  · obtain ⟨g, l, n, ps, o, rfl, _⟩ := h
    rfl
  · obtain ⟨g, l, n, ps, o, rfl, ⟨ga, e, rfl, hg, xs, he, hp⟩, ho, hlen, bd, q⟩ := h
    refine ⟨_, (pss_one (ps_ret (pe_call G_law_of (hr.mono (by first | decide | omega)) (by rfl) D_law_of.g D_law_of.F.kp D_law_of.b .nil pass0 (pa_cons (pe_ix (ix_tupK (K := K) rfl) (pv 0) pe_int (fun _ _ => rfl)) (pa_cons (pe_lc (own := [("pair", 2)]) (by rfl) sc_law_moved.nd (PI.tupK (K := K) rfl (pi_tup (pe_ix (ix_tupK (K := K) rfl) (pv 0) pe_int (fun _ _ => rfl)))) (blkOk_by (own := [("pair", 2)]) (N := ["graph", "order", "pair"]) (sc := (defScope s_law_moved)) (by decide +kernel)) (fun _ _ _ _ _ => (pg_name (i := 2) sc_law_moved.nd rfl (Or.inl rfl))) (fun _ _ _ _ _ => pts_nil) (fun _ _ _ _ _ => (pe_tup (pa_cons (pe_ix (ix_eitherK (K := K) rfl) (pv 1) (pe_ix (ix_tupK (K := K) rfl) (pv 2) pe_int (fun _ _ => rfl)) (fun _ _ => rfl)) (pa_cons (pe_ix (ix_eitherK (K := K) rfl) (pv 1) (pe_ix (ix_tupK (K := K) rfl) (pv 2) pe_int (fun _ _ => rfl)) (fun _ _ => rfl)) pa_nil))))) pa_nil))))), ?_⟩
    refine r_at (σ := [some _, some _, none]) rfl ?_
    walk_at "z"
    refine r_it (.inl (.inl he)) fun d hd => lcR_tup (xs := xs) (fun i H' => Same H H' ∧ ∃ ys, H' d = some (.lst ys) ∧ Prs H' ys ((ps.take i).map (ordP o))) (by walk_at "zw") ⟨same_new hd, [], upd_same, .nil⟩ (fun i H' _ ⟨s1, _⟩ => .inl (.inl (s1 _ _ he))) ?_ ?_
    · rintro i x H' hx ⟨s1, ys, hy, hys⟩
      obtain ⟨p, hpi, hxp⟩ := pd_get (hp.tk (.of_same s1)) hx
      obtain ⟨t, rfl, ht⟩ := hxp
      obtain ⟨b1, b2, b3, b4⟩ := bd p (List.mem_of_getElem? hpi)
      have ho' : SqL K H' l (o.map V.int) ∨ SqT K H' l (o.map V.int) := ho.imp s1.seq (Same.seqT s1)
      walk_at "z"
      refine ⟨rfl, ?_⟩
      walk_at "z"
      refine r_ixE ho' (at_ord b1 b2) ?_
      walk_at "z"
      refine r_ixE ho' (at_ord b3 b4) ?_
      walk_at "z"
      refine r_tupN sz2 fun t2 ht2 => ?_
      refine r_lce (by walk_at "zh") (small_lt ?_) ⟨same_mut (s1.trans (same_new ht2)) hd, _, upd_same, ?_⟩
      · rw [hys.length, List.length_map, List.length_take]
        omega
      · rw [take_next hpi, List.map_append]
        exact prs_push hy hys ht2
    · rintro H' ⟨s1, ys, hy, hys⟩
      rw [hp.length, List.take_length] at hys
      walk_at "z"
      refine ⟨n, d, ys, _, rfl, .inl (.inl hy), hys, by rw [List.length_map]; exact hlen, fun v qs H2 s2 hv asc mem => ?_⟩
      refine q v qs H2 (s1.trans s2) hv asc fun p => ?_
      rw [mem]
      constructor
      · rintro ⟨r, hr, rfl⟩
        obtain ⟨r', hr', rfl⟩ := List.mem_map.mp hr
        exact ⟨r', hr', rfl⟩
      · rintro ⟨r, hr, rfl⟩
        exact ⟨_, List.mem_map.mpr ⟨r, hr, rfl⟩, rfl⟩
/-- the graph of the pairs that are none -/
def spOther : Sp := fun vs H Q _ => ∃ (g : V) (n : Nat) (ps : List (Int × Int)), vs = [g] ∧ GrAt H g (n : Int) ps ∧ n ≤ 100 ∧
  ∀ (v : V) (H' : Hp), Same H H' → GrAt H' v (n : Int) ((allP n).filter fun p => decide (p ∉ ps)) → Q v H'
theorem ok_other (T : Blt mg) (D : DefAt K mg "_law_other" s_law_other ["graph"]) (D_law_pairs : DefAt K mg "_law_pairs" s_law_pairs ["n"]) (G_law_pairs : FnOk P w K mg base CX0 1 D_law_pairs.f D_law_pairs.fd ["n"] spPairs) :
    FnOk P w K mg base CX0 2 D.f D.fd ["graph"] spOther := by
  refine D.F.ok sc_law_other (fun vs H Q E h => ?_) (fun cdv A outer s H vs Q E hr h => ?_)
  · obtain ⟨g, n, ps, rfl, _⟩ := h
    rfl
  · obtain ⟨g, n, ps, rfl, ⟨ga, e, rfl, hg, xs, he, hp⟩, hn, q⟩ := h
    refine ⟨_, (pss_one (ps_ret (pe_tup (pa_cons (pe_ix (ix_tupK (K := K) rfl) (pv 0) pe_int (fun _ _ => rfl)) (pa_cons (pe_callTy (call_tupleK (K := K) rfl) (by rfl) T.tuple (by decide +kernel) (pa_cons (pe_lc (own := [("pair", 1)]) (by rfl) sc_law_other.nd (PI.listK (K := K) rfl (pi_list (pe_call G_law_pairs (hr.mono (by first | decide | omega)) (by rfl) D_law_pairs.g D_law_pairs.F.kp D_law_pairs.b .nil pass0 (pa_cons (pe_ix (ix_tupK (K := K) rfl) (pv 0) pe_int (fun _ _ => rfl)) pa_nil)))) (blkOk_by (own := [("pair", 1)]) (N := ["graph", "pair"]) (sc := (defScope s_law_other)) (by decide +kernel)) (fun _ _ _ _ _ => (pg_name (i := 1) sc_law_other.nd rfl (Or.inl rfl))) (fun _ _ _ _ _ => (pts_one (pt_cmpR (op_ninPK (K := K) rfl hr) (pv 1) (pe_ix (ix_tupK (K := K) rfl) (pv 0) pe_int (fun _ _ => rfl)) (by rfl)))) (fun _ _ _ _ _ => (pv 1))) pa_nil)) pa_nil))))), ?_⟩
    refine r_at (σ := [some _, none]) rfl ?_
    walk_at "z"
    refine ⟨n, rfl, hn, fun l zs H1 hl s1 hz hzs => ?_⟩
    refine r_il (.inl (.inl hz)) fun d hd => lcR_list (xs := zs) (fun i H' => Same H1 H' ∧ ∃ ys, H' d = some (.lst ys) ∧ Prs H' ys (((allP n).take i).filter fun p => decide (p ∉ ps))) (by walk_at "zw") ⟨same_new hd, [], upd_same, .nil⟩ (fun i H' _ ⟨s2, _⟩ => .inl (.inl (s2 _ _ hz))) ?_ ?_
    · rintro i x H' hx ⟨s2, ys, hy, hys⟩
      obtain ⟨p, hpi, hxp⟩ := pd_get (hzs.tk (.of_same s2)) hx
      have sm := s1.trans s2
      walk_at "z"
      refine ⟨rfl, ?_⟩
      have hg' := sm _ _ hg
      have he' := sm _ _ he
      walk_at "z"
      refine ⟨p, e, xs, ps, hxp, rfl, .inl (.inl he'), hp.tk (.of_same sm), ?_⟩
      walk_at "z"
      have suc : ((allP n).take (i + 1)).filter (fun p => decide (p ∉ ps)) = ((allP n).take i).filter (fun p => decide (p ∉ ps)) ++ (if p ∉ ps then [p] else []) := by
        rw [take_next hpi, List.filter_append, List.filter_cons, List.filter_nil]
        by_cases h : p ∈ ps <;> simp [h]
      refine r_iteN (fun h => ?_) (fun h => ?_)
      · walk_at "z"
        refine r_lce hy (small_lt ?_) ⟨same_mut s2 hd, _, upd_same, ?_⟩
        · have h1 := hys.length
          have h2 := List.length_filter_le (fun p => decide (p ∉ ps)) ((allP n).take i)
          have h3 : ((allP n).take i).length ≤ (allP n).length := by
            rw [List.length_take]
            omega
          have h4 := preP_len (n := n) (i := n)
          have h5 : n * n ≤ 100 * 100 := Nat.mul_le_mul hn hn
          unfold allP at *
          omega
        · rw [suc, if_pos h]
          have kk : TK H' (upd H' d (.lst (ys ++ [x]))) := .lst hy
          exact (hys.tk kk).snoc (hxp.tk kk)
      · refine ⟨s2, ys, hy, ?_⟩
        rw [suc, if_neg (fun z => z h), List.append_nil]
        exact hys
    · rintro H' ⟨s2, ys, hy, hys⟩
      rw [hzs.length, List.take_length] at hys
      walk_at "z"
      refine r_tupL (.inl (.inl hy)) fun e2 he2 => ?_
      walk_at "z"
      refine r_tupN sz2 fun g2 hg2 => ?_
      have s3 : Same H' (upd H' e2 (.tup ys)) := same_new he2
      have s4 := s3.trans (same_new (o := .tup [.int (n : Int), .ref e2]) hg2)
      exact q _ _ ((s1.trans s2).trans s4) ⟨g2, e2, rfl, upd_same, ys, (upd_ne (ne_of_none upd_same hg2)).trans upd_same, hys.tk (.of_same s4)⟩
end

set_option Elab.async false
set_option linter.all false
set_option maxRecDepth 100000
set_option maxHeartbeats 4000000
open PySem PySem.Spec PyProof.Rows L2

/-! ## values that are alike -/
def kd : PyData → String
  | .none => "NoneType"
  | .bool _ => "bool"
  | .int _ => "int"
  | .str _ => "str"
  | .list _ => "list"
  | .tuple _ => "tuple"
  | .dict _ => "dict"
/-- no deeper than d, and nowhere long -/
def sm : Nat → PyData → Prop
  | 0, _ => False
  | _ + 1, .none => True
  | _ + 1, .bool _ => True
  | _ + 1, .int _ => True
  | _ + 1, .str x => x.cps.all (· < 0x110000) = true
  | d + 1, .list xs => xs.length ≤ 100000 ∧ ∀ x ∈ xs, sm d x
  | d + 1, .tuple xs => xs.length ≤ 100000 ∧ ∀ x ∈ xs, sm d x
  | _ + 1, .dict _ => False
section
variable {P : Program} {w : World} {K : PySem.W.Frag} {mg : Str → Option Value} {base : Heap}
theorem r_eqD {H : Hp} {Q : VK} {x y : V} {t : PyData} (hx : Dp K H x t) (hy : Dp K H y t) (c : t.canLay0 = true) (d : t.depth ≤ 64) (q : Q (.bl true) H) : rEqD K x y H Q := by
  have e : SeqAt.shaped t = true := by
    unfold SeqAt.shaped
    rw [c, decide_eq_true d]
    rfl
  refine ⟨t, t, hx, hy, e, e, ?_⟩
  rw [PySem.SeqAt.eqv_refl t c]
  exact q
def spSame (K : PySem.W.Frag) (d : Nat) : Sp := fun vs H Q _ => ∃ (x y : V) (t : PyData), vs = [x, y] ∧ Dp K H x t ∧ Dp K H y t ∧ sm d t ∧ Q (.bl true) H
end

set_option Elab.async false
set_option linter.all false
set_option maxRecDepth 100000
set_option maxHeartbeats 4000000
open PySem PySem.Spec PyProof.Rows L2

abbrev s_mask_of : Stmt := topS 1
theorem sc_mask_of : FnScope ["members", "mask", "v"] ["members"] (defScope s_mask_of) := ⟨rfl, rfl, rfl, by decide +kernel, rfl, by decide +kernel, by decide +kernel⟩

/-- the neighbours of v in the order of the edges -/
def adjL (ps : List (Int × Int)) (v : Nat) : List Int := ps.flatMap fun p => (if p.1 = (v : Int) then [p.2] else []) ++ (if p.2 = (v : Int) then [p.1] else [])
section
variable {P : Program} {w : World} {K : PySem.W.Frag} {mg : Str → Option Value} {base : Heap}
/-- a list of lists of neighbours -/
def spNLists : Sp := fun vs H Q _ => ∃ (g : V) (n : Nat) (ps : List (Int × Int)), vs = [g] ∧ GrAt H g (n : Int) ps ∧ n ≤ 100 ∧ ps.length ≤ 10000 ∧ (∀ p ∈ ps, 0 ≤ p.1 ∧ p.1 < p.2 ∧ p.2 < (n : Int)) ∧
  ∀ (l : Addr) (as : List Addr) (H' : Hp), Same H H' → H' l = some (.lst (as.map V.ref)) → as.length = n → (∀ i a, as[i]? = some a → H' a = some (.lst ((adjL ps i).map V.int))) → Q (.ref l) H'
/-- the bits of a list or tuple -/
def spMask (K : PySem.W.Frag) : Sp := fun vs H Q _ => ∃ (l : Addr) (ns : List Int), vs = [.ref l] ∧ (SqL K H l (ns.map V.int) ∨ SqT K H l (ns.map V.int)) ∧ (∀ v ∈ ns, 0 ≤ v ∧ v < 1000) ∧ ∀ x : Int, Msk x (fun i => i ∈ ns) → Q (.int x) H
theorem ok_mask (T : Blt mg) (D : DefAt K mg "mask_of" s_mask_of ["members"]) : FnOk P w K mg base CX0 1 D.f D.fd ["members"] (spMask K) := by
  refine D.F.ok sc_mask_of (fun vs H Q E h => ?_) (fun cdv A outer s H vs Q E hr h => ?_)
  · obtain ⟨l, ns, rfl, _⟩ := h
    rfl
  · obtain ⟨l, ns, rfl, hl, bd, q⟩ := h
    have step : ∀ (i : Nat) (v x : Int), ns[i]? = some v → Msk x (fun z => z ∈ ns.take i) → Msk (Builtin.bitOr x (1 * 2 ^ v.toNat)) (fun z => z ∈ ns.take (i + 1)) := fun i v x hv m => by
      rw [take_next hv]
      exact m.snoc (bd v (List.mem_of_getElem? hv)).1
    rcases hl with hl | hl
    · refine ⟨_, (pss_cons (ps_set (i := 1) sc_mask_of.nd rfl (Or.inl rfl) pe_int)
      (pss_cons (ps_for PassesOwn.never (by rfl) (PI.listK (K := K) rfl (pi_list (pv 0))) (pg_name (i := 2) sc_mask_of.nd rfl (Or.inl rfl))
        (pss_one (ps_aug (i := 1) sc_mask_of.nd rfl (Or.inl rfl) (pe_op op_shl pe_int (pv 2)) iop_or)))
      (pss_one (ps_ret (pv 1))))), ?_⟩
      refine r_at (σ := [some _, none, none]) rfl ?_
      walk_at "z"
      refine r_il hl (forR_list (xs := ns.map V.int) (fun i σ' H' => H' = H ∧ ∃ (x : Int) (z : Option V), σ' = [some (.ref l), some (.int x), z] ∧ Msk x (fun z => z ∈ ns.take i)) ⟨rfl, _, _, rfl, .nil⟩ (fun i σ' H' _ ⟨eH, _⟩ => eH ▸ hl) ?_ ?_)
      · rintro i v σ' H' hv ⟨rfl, x, z, rfl, m⟩
        rw [List.getElem?_map] at hv
        obtain ⟨v, hv9, rfl⟩ := Option.map_eq_some_iff.mp hv
        obtain ⟨b0, b1⟩ := bd v (List.mem_of_getElem? hv9)
        walk_at "z"
        refine r_aug rfl ?_
        walk_at "z"
        refine r_i ⟨by omega, by omega, by decide⟩ ?_
        refine r_augOr rfl ?_
        exact ⟨rfl, _, _, rfl, step i v x hv9 m⟩
      · rintro σ' H' ⟨rfl, x, z, rfl, m⟩
        rw [List.length_map, List.take_length] at m
        walk_at "z"
        exact q x m
    · refine ⟨_, (pss_cons (ps_set (i := 1) sc_mask_of.nd rfl (Or.inl rfl) pe_int)
      (pss_cons (ps_for PassesOwn.never (by rfl) (PI.tupK (K := K) rfl (pi_tup (pv 0))) (pg_name (i := 2) sc_mask_of.nd rfl (Or.inl rfl))
        (pss_one (ps_aug (i := 1) sc_mask_of.nd rfl (Or.inl rfl) (pe_op op_shl pe_int (pv 2)) iop_or)))
      (pss_one (ps_ret (pv 1))))), ?_⟩
      refine r_at (σ := [some _, none, none]) rfl ?_
      walk_at "z"
      refine r_it hl (forR_tup (xs := ns.map V.int) (fun i σ' H' => H' = H ∧ ∃ (x : Int) (z : Option V), σ' = [some (.ref l), some (.int x), z] ∧ Msk x (fun z => z ∈ ns.take i)) ⟨rfl, _, _, rfl, .nil⟩ (fun i σ' H' _ ⟨eH, _⟩ => eH ▸ hl) ?_ ?_)
      · rintro i v σ' H' hv ⟨rfl, x, z, rfl, m⟩
        rw [List.getElem?_map] at hv
        obtain ⟨v, hv9, rfl⟩ := Option.map_eq_some_iff.mp hv
        obtain ⟨b0, b1⟩ := bd v (List.mem_of_getElem? hv9)
        walk_at "z"
        refine r_aug rfl ?_
        walk_at "z"
        refine r_i ⟨by omega, by omega, by decide⟩ ?_
        refine r_augOr rfl ?_
        exact ⟨rfl, _, _, rfl, step i v x hv9 m⟩
      · rintro σ' H' ⟨rfl, x, z, rfl, m⟩
        rw [List.length_map, List.take_length] at m
        walk_at "z"
        exact q x m
def spNMasks : Sp := fun vs H Q _ => ∃ (g : V) (n : Nat) (ps : List (Int × Int)), vs = [g] ∧ GrAt H g (n : Int) ps ∧ n ≤ 100 ∧ ps.length ≤ 10000 ∧ (∀ p ∈ ps, 0 ≤ p.1 ∧ p.1 < p.2 ∧ p.2 < (n : Int)) ∧
  ∀ (l : Addr) (ms : List Int) (H' : Hp), Same H H' → H' l = some (.lst (ms.map V.int)) → ms.length = n → (∀ i m, ms[i]? = some m → Msk m (fun z => z ∈ adjL ps i)) → Q (.ref l) H'
end

set_option Elab.async false
set_option linter.all false
set_option maxRecDepth 100000
set_option maxHeartbeats 4000000
open PySem PySem.Spec PyProof.Rows L2

abbrev s_members_of : Stmt := topS 2
theorem sc_members_of : FnScope ["mask", "found", "low"] ["mask"] (defScope s_members_of) := ⟨rfl, rfl, rfl, by decide +kernel, rfl, by decide +kernel, by decide +kernel⟩

/-- a tuple of ints -/
def ITup (H : Hp) (x : V) (ns : List Int) : Prop := ∃ t, x = .ref t ∧ H t = some (.tup (ns.map V.int))
theorem ITup.tk {H H' : Hp} (k : TK H H') {x : V} {ns : List Int} (h : ITup H x ns) : ITup H' x ns := by
  obtain ⟨t, e, h⟩ := h
  exact ⟨t, e, k _ _ h⟩
abbrev ITups (H : Hp) : List V → List (List Int) → Prop := Paired (ITup H)
theorem ITups.tk {H H' : Hp} (k : TK H H') : ∀ {xs : List V} {ps : List (List Int)}, ITups H xs ps → ITups H' xs ps
  | _, _, .nil => .nil
  | _, _, .cons h t => .cons (h.tk k) (ITups.tk k t)
/-- two sets touch -/
def TouchP (ps : List (Int × Int)) (one two : List Int) : Prop := ∃ u ∈ one, ∃ v ∈ two, u = v ∨ nrm (u, v) ∈ ps
section
variable {P : Program} {w : World} {K : PySem.W.Frag} {mg : Str → Option Value} {base : Heap}
/-- the set of a mask, ascending -/
def spMem : Sp := fun vs H Q _ => ∃ (x : Int) (S : Int → Prop), vs = [.int x] ∧ Msk x S ∧ (∀ i : Nat, S i → i < 1000) ∧
  ∀ (p : Addr) (ns : List Int) (H' : Hp), Same H H' → H' p = some (.tup (ns.map V.int)) → H p = none → ns.Pairwise (· < ·) → (∀ z, z ∈ ns ↔ 0 ≤ z ∧ S z) → Q (.ref p) H'
theorem asc_len {n : Nat} {ns : List Int} (asc : ns.Pairwise (· < ·)) (h : ∀ v ∈ ns, 0 ≤ v ∧ v < (n : Int)) : ns.length ≤ n := by
  have nd : ns.Nodup := asc.imp fun {a b} h => by omega
  have := nodup_le ns (rgI (n : Int)) nd fun v hv => mem_rgI.mpr (h v hv)
  rw [rgI_len] at this
  omega
theorem ok_members (T : Blt mg) (D : DefAt K mg "members_of" s_members_of ["mask"]) : FnOk P w K mg base CX0 1 D.f D.fd ["mask"] spMem := by
  refine D.F.ok sc_members_of (fun vs H Q E h => ?_) (fun cdv A outer s H vs Q E hr h => ?_)
  · obtain ⟨x, S, rfl, _⟩ := h
    rfl
  · obtain ⟨x, S, rfl, m, bd, q⟩ := h
    refine ⟨_, (pss_cons (ps_set (i := 1) sc_members_of.nd rfl (Or.inl rfl) (pe_lst pa_nil))
      (pss_cons (ps_while PassesOwn.never (pt_cmpR op_gt (pv 0) pe_int (nomark _))
        (pss_cons (ps_set (i := 2) sc_members_of.nd rfl (Or.inl rfl) (pe_op op_and (pv 0) (pe_un un_neg (pv 0))))
        (pss_cons (ps_expr (PE.bmK (K := K) rfl (pe_bm PySem.F.plainAttrs_list PySem.F.slot_list_append PySem.F.type_list_append mt_append (pv 1) (pa_cons (pe_op op_sub (PE.bm0K (K := K) rfl (pe_bm0 PySem.F.plainAttrs_int PySem.F.slot_int_bit_length PySem.F.type_int_bit_length mt_bitlen (pv 2))) pe_int) pa_nil))))
        (pss_one (ps_aug (i := 0) sc_members_of.nd rfl (Or.inl rfl) (pv 2) iop_xor)))))
      (pss_one (ps_ret (pe_callTy (call_tupleK (K := K) rfl) (by rfl) T.tuple (by decide +kernel) (pa_cons (pv 1) pa_nil)))))), ?_⟩
    refine r_at (σ := [some _, none, none]) rfl ?_
    walk_at "z"
    refine r_lstN (by decide) fun f hf => ?_
    walk_at "z"
    let W : Nat → L2.St → Hp → Prop := fun k σ' H' => ∃ (y : Int) (ns : List Int) (x3 : Option V), σ' = [some (.int y), some (.ref f), x3] ∧ k = y.toNat ∧ Same H H' ∧ H' f = some (.lst (ns.map V.int)) ∧ ns.Pairwise (· < ·) ∧ Msk y (fun i => S i ∧ i ∉ ns) ∧ (∀ v ∈ ns, 0 ≤ v ∧ v < 1000 ∧ S v) ∧ (∀ v ∈ ns, ∀ i : Nat, Bit y i = true → v < i)
    have start : W x.toNat [some (.int x), some (.ref f), none] (upd H f (.lst [])) := ⟨x, [], none, rfl, rfl, same_new hf, upd_same, .nil, m.congr fun i => by simp, fun v h => (nomatch h), fun v h => (nomatch h)⟩
    refine r_while W _ start ?_
    rintro k σ' H1 ⟨y, ns, x3, rfl, rfl, s1, hF, asc, my, sub, low⟩
    have y0 := my.nn
    walk_at "z"
    refine r_ite (fun c => ?_) (fun c => ?_)
    · refine r_whGo ?_
      obtain ⟨b, e1, e2, e3, e4, e5, e6⟩ := low_bit (x := y) (by omega)
      have hb := (my.bts b).mp e2
      have b1 := bd b hb.1
      walk_at "z"
      refine r_appT hF (small_lt (by
        have := asc_len (n := 1000) asc fun v hv => ⟨(sub v hv).1, (sub v hv).2.1⟩
        rw [List.length_map]
        omega)) ?_
      walk_at "z"
      refine r_aug rfl ?_
      walk_at "z"
      refine r_augI rfl ?_
      have eb : ((Builtin.Int.intBits (Builtin.bitAnd y (-y)) : Nat) : Int) - 1 = (b : Int) := by
        rw [e1, intBits_pow]
        omega
      rw [eb]
      refine ⟨(Builtin.bitXor y (Builtin.bitAnd y (-y))).toNat, by omega, _, ns ++ [(b : Int)], _, rfl, rfl, same_mut s1 hf, by rw [List.map_append]; exact upd_same, ?_, .of e4 fun i => ?_, fun v hv => ?_, fun v hv i hi => ?_⟩
      · refine List.pairwise_append.mpr ⟨asc, by simp, fun a ha c hc => ?_⟩
        rw [List.mem_singleton.mp hc]
        exact low a ha b e2
      · rw [e6, Bool.and_eq_true, my.bts i, Bool.not_eq_true', decide_eq_false_iff_not, List.mem_append, List.mem_singleton]
        constructor
        · rintro ⟨⟨h1, h2⟩, h3⟩
          exact ⟨h1, fun z => z.elim h2 fun z => h3 (by omega)⟩
        · rintro ⟨h1, h2⟩
          exact ⟨⟨h1, fun z => h2 (.inl z)⟩, fun z => h2 (.inr (by omega))⟩
      · rcases List.mem_append.mp hv with h | h
        · exact sub v h
        · rw [List.mem_singleton.mp h]
          exact ⟨by omega, by omega, hb.1⟩
      · rw [e6, Bool.and_eq_true, Bool.not_eq_true', decide_eq_false_iff_not] at hi
        rcases List.mem_append.mp hv with h | h
        · exact low v h i hi.1
        · rw [List.mem_singleton.mp h]
          rcases Nat.lt_or_ge i b with z | z
          · rw [e3 i z] at hi
            exact absurd hi.1 Bool.false_ne_true
          · have := hi.2
            omega
    · walk_at "z"
      refine r_tupL (.inl (.inl hF)) fun p hp => ?_
      have e : y = 0 := by omega
      subst e
      refine q p ns _ (s1.trans (same_new hp)) upd_same (s1.free hp) asc fun z => ⟨fun h => ⟨(sub z h).1, (sub z h).2.2⟩, fun ⟨h1, h2⟩ => ?_⟩
      refine Classical.byContradiction fun n => ?_
      have := my.ne0.mpr ⟨z.toNat, by
        rw [show ((z.toNat : Nat) : Int) = z by omega]
        exact ⟨h2, n⟩⟩
      exact this rfl
/-- the mask of the neighbours of a mask -/
def spNearM : Sp := fun vs H Q _ => ∃ (l : Addr) (x : Int) (ms : List Int) (S : Int → Prop) (A : Nat → List Int), vs = [.ref l, .int x] ∧ H l = some (.lst (ms.map V.int)) ∧ Msk x S ∧ (∀ i : Nat, S i → i < ms.length ∧ i < 1000) ∧
  (∀ i m, ms[i]? = some m → Msk m (fun z => z ∈ A i)) ∧ ∀ (y : Int) (H' : Hp), Same H H' → Msk y (fun i => ∃ v : Nat, S v ∧ i ∈ A v) → Q (.int y) H'
def spTouch (K : PySem.W.Frag) : Sp := fun vs H Q _ => ∃ (g : V) (n : Nat) (ps : List (Int × Int)) (a b : Addr) (one two : List Int), vs = [g, .ref a, .ref b] ∧ GrAt H g (n : Int) ps ∧ n ≤ 100 ∧ ps.length ≤ 10000 ∧ (∀ p ∈ ps, 0 ≤ p.1 ∧ p.1 < p.2 ∧ p.2 < (n : Int)) ∧
  SqT K H a (one.map V.int) ∧ SqT K H b (two.map V.int) ∧ (∀ v ∈ one, 0 ≤ v ∧ v < (n : Int)) ∧ (∀ v ∈ two, 0 ≤ v ∧ v < (n : Int)) ∧ ∀ (r : Bool) (H' : Hp), Same H H' → (r = true ↔ TouchP ps one two) → Q (.bl r) H'
def HitsP (ns : List Int) (oss : List (List Int)) : Prop := ∀ o ∈ oss, ∃ v ∈ ns, v ∈ o
def spHits (K : PySem.W.Frag) : Sp := fun vs H Q _ => ∃ (a b : Addr) (ns : List Int) (xs : List V) (oss : List (List Int)), vs = [.ref a, .ref b] ∧ SqT K H a (ns.map V.int) ∧ H b = some (.tup xs) ∧ ITups H xs oss ∧ oss.length ≤ 10000 ∧ (∀ v ∈ ns, 0 ≤ v ∧ v < 1000) ∧ (∀ o ∈ oss, ∀ v ∈ o, 0 ≤ v ∧ v < 1000) ∧
  ∀ (r : Bool) (H' : Hp), Same H H' → (r = true ↔ HitsP ns oss) → Q (.bl r) H'
end

set_option Elab.async false
set_option linter.all false
set_option maxRecDepth 100000
set_option maxHeartbeats 4000000
open PySem PySem.Spec PyProof.Rows L2

abbrev s_law_random_graph : Stmt := topS 29
theorem sc_law_random_graph : FnScope ["pool", "most", "n", "dense", "pair"] ["pool", "most"] (defScope s_law_random_graph) := ⟨rfl, rfl, rfl, by decide +kernel, rfl, by decide +kernel, by decide +kernel⟩

section
variable {P : Program} {w : World} {K : PySem.W.Frag} {mg : Str → Option Value} {base : Heap}
theorem r_pick2 {H : Hp} {Q : VK} {l : Addr} {i j : Int} {b : Bool} (h : H l = some (.lst [.int i, .int j])) (q : ∀ m, m = i ∨ m = j → Q (.int m) H) : rIxL K (.ref l) (.int (if b = true then 1 else 0)) H Q := by
  cases b with
  | true => exact r_ixL (.inl (.inl h)) rfl (q j (.inr rfl))
  | false => exact r_ixL (.inl (.inl h)) rfl (q i (.inl rfl))
theorem good_filter {n : Nat} (h : 1 ≤ n) (c : Int × Int → Bool) : GoodG (n : Int) ((allP n).filter c) :=
  ⟨by omega, (allP_asc n).filter _, fun p hp => mem_allP.mp (List.mem_filter.mp hp).1⟩
theorem allP_small {n : Nat} (h : n ≤ 100) : (allP n).length ≤ 10000 := by
  have h4 := preP_len (n := n) (i := n)
  have h5 : n * n ≤ 100 * 100 := Nat.mul_le_mul h h
  unfold allP
  omega
/-- a drawn graph of n vertices -/
def GenQ (a s : Addr) (H : Hp) (n : Int) (Q : VK) : Prop := ∀ (v : V) (qs : List (Int × Int)) (H' : Hp), Pool H' a s → Gr a H H' → GrAt H' v n qs → GoodG n qs → Q v H'
def spRandom : Sp := fun vs H Q _ => ∃ (a s : Addr) (most : Int), vs = [.ref a, .int most] ∧ Pool H a s ∧ 1 ≤ most ∧ most ≤ 100 ∧ ∀ n : Int, 1 ≤ n → n ≤ most → GenQ a s H n Q
theorem ok_random (T : Blt mg) (D : DefAt K mg "_law_random_graph" s_law_random_graph ["pool", "most"]) (D_law_draw : DefAt K mg "_law_draw" s_law_draw ["pool", "many"]) (G_law_draw : FnOk P w K mg base CX0 2 D_law_draw.f D_law_draw.fd ["pool", "many"] spDraw)
    (D_law_pairs : DefAt K mg "_law_pairs" s_law_pairs ["n"]) (G_law_pairs : FnOk P w K mg base CX0 1 D_law_pairs.f D_law_pairs.fd ["n"] spPairs) :
    FnOk P w K mg base CX0 3 D.f D.fd ["pool", "most"] spRandom := by
  refine D.F.ok sc_law_random_graph (fun vs H Q E h => ?_) (fun cdv A outer s H vs Q E hr h => ?_)
  · obtain ⟨a, s, most, rfl, _⟩ := h
    rfl
  · obtain ⟨a, s0, most, rfl, hP, m1, m2, q⟩ := h
    refine ⟨_, (pss_cons (ps_set (i := 2) sc_law_random_graph.nd rfl (Or.inl rfl) (pe_ix (ix_listK (K := K) rfl) (pe_lst (pa_cons (pv 1) (pa_cons (pe_op op_add pe_int (pe_call G_law_draw (hr.mono (by first | decide | omega)) (by rfl) D_law_draw.g D_law_draw.F.kp D_law_draw.b .nil pass0 (pa_cons (pv 0) (pa_cons (pv 1) pa_nil)))) pa_nil))) (pe_callTy call_int1' (by rfl) T.int (by decide +kernel) (pa_cons (pe_cmpR op_eq (pe_call G_law_draw (hr.mono (by first | decide | omega)) (by rfl) D_law_draw.g D_law_draw.F.kp D_law_draw.b .nil pass0 (pa_cons (pv 0) (pa_cons pe_int pa_nil))) pe_int (nomark _)) pa_nil)) (fun _ _ => rfl)))
      (pss_cons (ps_set (i := 3) sc_law_random_graph.nd rfl (Or.inr rfl) (pe_op op_add pe_int (pe_call G_law_draw (hr.mono (by first | decide | omega)) (by rfl) D_law_draw.g D_law_draw.F.kp D_law_draw.b .nil pass0 (pa_cons (pv 0) (pa_cons pe_int pa_nil)))))
      (pss_one (ps_ret (pe_tup (pa_cons (pv 2) (pa_cons (pe_callTy (call_tupleK (K := K) rfl) (by rfl) T.tuple (by decide +kernel) (pa_cons (pe_lc (own := [("pair", 4)]) (by rfl) sc_law_random_graph.nd (PI.listK (K := K) rfl (pi_list (pe_call G_law_pairs (hr.mono (by first | decide | omega)) (by rfl) D_law_pairs.g D_law_pairs.F.kp D_law_pairs.b .nil pass0 (pa_cons (pv 2) pa_nil)))) (blkOk_by (own := [("pair", 4)]) (N := ["pool", "most", "n", "dense", "pair"]) (sc := (defScope s_law_random_graph)) (by decide +kernel)) (fun _ _ _ _ _ => (pg_name (i := 4) sc_law_random_graph.nd rfl (Or.inl rfl))) (fun _ _ _ _ _ => (pts_one (pt_cmpR op_lt (pe_call G_law_draw (hr.mono (by first | decide | omega)) (by rfl) D_law_draw.g D_law_draw.F.kp D_law_draw.b .nil pass0 (pa_cons (pv 0) (pa_cons pe_int pa_nil))) (pv 3) (nomark _)))) (fun _ _ _ _ _ => (pv 4))) pa_nil)) pa_nil))))))), ?_⟩
    refine r_at (σ := [some _, some _, none, none, none]) rfl ?_
    walk_at "z"
    refine ⟨a, s0, most, rfl, hP, by omega, by omega, fun r H1 r0 r1 hP1 g1 => ?_⟩
    walk_at "z"
    refine r_lstN sz2 fun l hl => ?_
    walk_at "z"
    refine ⟨a, s0, 3, rfl, hP1.mono (same_new hl), by omega, by omega, fun r2 H2 _ _ hP2 g2 => ?_⟩
    have hl2 := g2 _ _ (new_ne hP1 hl).1 upd_same
    walk_at "z"
    refine r_pick2 hl2 fun n hn => ?_
    have g3 : Gr a H H2 := (g1.trans (.new hl)).trans g2
    walk_at "z"
    refine ⟨a, s0, 5, rfl, hP2, by omega, by omega, fun r3 H3 _ _ hP3 g4 => ?_⟩
    walk_at "z"
    obtain ⟨n', rfl⟩ : ∃ n' : Nat, n = (n' : Int) := ⟨n.toNat, by omega⟩
    refine ⟨n', rfl, by omega, fun f xs H4 hf s4 hx hp => ?_⟩
    have hP4 := hP3.mono s4
    have g5 : Gr a H H4 := (g3.trans g4).trans (.of_same s4)
    refine r_il (.inl (.inl hx)) fun d hd => lcR_list (xs := xs) (fun i H' => Pool H' a s0 ∧ Gr a H4 H' ∧ ∃ ys c, H' d = some (.lst ys) ∧ Prs H' ys (((allP n').take i).filter c)) (by walk_at "zw") ⟨hP4.mono (same_new hd), .new hd, [], fun _ => true, upd_same, .nil⟩ (fun i H' _ ⟨_, g, _⟩ => .inl (.inl (g _ _ (new_ne hP3 hf).1 hx))) ?_ ?_
    · rintro i x H' hx2 ⟨hP', g, ys, c, hy, hys⟩
      obtain ⟨p, hpi, hxp⟩ := pd_get (hp.tk (g.tk hP4)) hx2
      walk_at "z"
      refine ⟨rfl, ?_⟩
      walk_at "z"
      refine ⟨a, s0, 6, rfl, hP', by omega, by omega, fun r4 H5 _ _ hP5 g6 => ?_⟩
      have hy5 := g6 _ _ (new_ne hP4 hd).1 hy
      have kk := g6.tk hP'
      have pn : p ∉ (allP n').take i := fun z => by
        have nd := asc_nodup (allP_asc n')
        have e := take_next hpi
        have nd2 : ((allP n').take (i + 1)).Nodup := nd.sublist (List.take_sublist _ _)
        rw [e] at nd2
        exact (List.nodup_append.mp nd2).2.2 p z p (List.mem_singleton.mpr rfl) rfl
      -- the test's answer at this pair
      have ext : ∀ b : Bool, ((allP n').take (i + 1)).filter (fun z => if z = p then b else c z) = ((allP n').take i).filter c ++ (if b = true then [p] else []) := fun b => by
        rw [take_next hpi, List.filter_append]
        congr 1
        · refine List.filter_congr fun z hz => ?_
          rw [if_neg (fun e => pn (by rw [← e]; exact hz))]
        · cases b <;> simp
      walk_at "z"
      refine r_ite (fun h => ?_) (fun h => ?_)
      · walk_at "z"
        refine r_lce hy5 (small_lt ?_) ⟨hP5.upd (new_ne hP4 hd), (g.trans g6).mut hd, _, fun z => if z = p then true else c z, upd_same, ?_⟩
        · have h1 := hys.length
          have h2 := List.length_filter_le c ((allP n').take i)
          have h3 := allP_small (n := n') (by omega)
          rw [List.length_take] at h2
          omega
        · rw [ext true, if_pos rfl]
          have k2 : TK H5 (upd H5 d (.lst (ys ++ [x]))) := .lst hy5
          exact ((hys.tk kk).tk k2).snoc ((hxp.tk kk).tk k2)
      · refine ⟨hP5, g.trans g6, ys, fun z => if z = p then false else c z, hy5, ?_⟩
        rw [ext false, if_neg Bool.false_ne_true, List.append_nil]
        exact hys.tk kk
    · rintro H' ⟨hP', g, ys, c, hy, hys⟩
      rw [hp.length, List.take_length] at hys
      walk_at "z"
      refine r_tupL (.inl (.inl hy)) fun e he => ?_
      walk_at "z"
      refine r_tupN sz2 fun t ht => ?_
      have s5 : Same H' (upd H' e (.tup ys)) := same_new he
      have s6 := s5.trans (same_new (o := .tup [.int (n' : Int), .ref e]) ht)
      exact q _ (by omega) (by omega) _ _ _ (hP'.mono s6) ((g5.trans g).trans (.of_same s6)) ⟨t, e, rfl, upd_same, ys, (upd_ne (ne_of_none upd_same ht)).trans upd_same, hys.tk (.of_same s6)⟩ (good_filter (by omega) c)
end

set_option Elab.async false
set_option linter.all false
set_option maxRecDepth 100000
set_option maxHeartbeats 4000000
open PySem PySem.Spec PyProof.Rows L2

abbrev s_law_interval_rows : Stmt := topS 30
theorem sc_law_interval_rows : FnScope ["pool", "n", "rows", "k", "start"] ["pool", "n"] (defScope s_law_interval_rows) := ⟨rfl, rfl, rfl, by decide +kernel, rfl, by decide +kernel, by decide +kernel⟩

abbrev s_law_interval_graph : Stmt := topS 31
theorem sc_law_interval_graph : FnScope ["rows", "pair"] ["rows"] (defScope s_law_interval_graph) := ⟨rfl, rfl, rfl, by decide +kernel, rfl, by decide +kernel, by decide +kernel⟩

section
variable {P : Program} {w : World} {K : PySem.W.Frag} {mg : Str → Option Value} {base : Heap}
theorem flt_next {n i : Nat} {p : Int × Int} (h : (allP n)[i]? = some p) (c : Int × Int → Bool) (b : Bool) : ∃ c' : Int × Int → Bool, ((allP n).take (i + 1)).filter c' = ((allP n).take i).filter c ++ (if b = true then [p] else []) := by
  have pn : p ∉ (allP n).take i := fun z => by
    have nd := asc_nodup (allP_asc n)
    have e := take_next h
    have nd2 : ((allP n).take (i + 1)).Nodup := nd.sublist (List.take_sublist _ _)
    rw [e] at nd2
    exact (List.nodup_append.mp nd2).2.2 p z p (List.mem_singleton.mpr rfl) rfl
  refine ⟨fun z => if z = p then b else c z, ?_⟩
  rw [take_next h, List.filter_append]
  congr 1
  · refine List.filter_congr fun z hz => ?_
    rw [if_neg (fun e => pn (by rw [← e]; exact hz))]
  · cases b <;> simp
theorem flt_small {n i : Nat} (hn : n ≤ 100) (c : Int × Int → Bool) : (((allP n).take i).filter c).length < 100000 := by
  have h2 := List.length_filter_le c ((allP n).take i)
  have h3 := allP_small hn
  rw [List.length_take] at h2
  omega
theorem at_pd {α : Type} {F : V → α → Prop} {xs : List V} {ps : List α} {z : Int} (h : Paired F xs ps) (h0 : 0 ≤ z) (h1 : z < ps.length) : ∃ y r, atI xs z = some y ∧ ps[z.toNat]? = some r ∧ F y r := by
  have hlt : z.toNat < ps.length := by omega
  obtain ⟨y, hy, f⟩ := pd_get2 h (List.getElem?_eq_getElem hlt)
  exact ⟨y, _, at_of (j := z.toNat) (by omega) hy, List.getElem?_eq_getElem hlt, f⟩
/-- n drawn intervals -/
def spRows : Sp := fun vs H Q _ => ∃ (a s : Addr) (n : Int), vs = [.ref a, .int n] ∧ Pool H a s ∧ 0 ≤ n ∧ n ≤ 100 ∧ ∀ (f : Addr) (xs : List V) (ps : List (Int × Int)) (H' : Hp), H f = none → Pool H' a s → Gr a H H' → H' f = some (.lst xs) → Prs H' xs ps → ps.length = n.toNat → Q (.ref f) H'
theorem ok_rows (T : Blt mg) (D : DefAt K mg "_law_interval_rows" s_law_interval_rows ["pool", "n"]) (D_law_draw : DefAt K mg "_law_draw" s_law_draw ["pool", "many"]) (G_law_draw : FnOk P w K mg base CX0 2 D_law_draw.f D_law_draw.fd ["pool", "many"] spDraw) :
    FnOk P w K mg base CX0 3 D.f D.fd ["pool", "n"] spRows := by
  refine D.F.ok sc_law_interval_rows (fun vs H Q E h => ?_) (fun cdv A outer s H vs Q E hr h => ?_)
  · obtain ⟨a, s, n, rfl, _⟩ := h
    rfl
  · obtain ⟨a, s0, n, rfl, hP, n0, n1, q⟩ := h
    refine ⟨_, (pss_cons (ps_set (i := 2) sc_law_interval_rows.nd rfl (Or.inl rfl) (pe_lst pa_nil))
      (pss_cons (ps_for PassesOwn.never (by rfl) (pi_range1 (by rfl) T.range (pa_cons (pv 1) pa_nil)) (pg_name (i := 3) sc_law_interval_rows.nd rfl (Or.inl rfl))
        (pss_cons (ps_set (i := 4) sc_law_interval_rows.nd rfl (Or.inl rfl) (pe_op op_sub (pe_call G_law_draw (hr.mono (by first | decide | omega)) (by rfl) D_law_draw.g D_law_draw.F.kp D_law_draw.b .nil pass0 (pa_cons (pv 0) (pa_cons pe_int pa_nil))) pe_int))
        (pss_one (ps_expr (PE.bmK (K := K) rfl (pe_bm PySem.F.plainAttrs_list PySem.F.slot_list_append PySem.F.type_list_append mt_append (pv 2) (pa_cons (pe_tup (pa_cons (pv 4) (pa_cons (pe_op op_add (pv 4) (pe_call G_law_draw (hr.mono (by first | decide | omega)) (by rfl) D_law_draw.g D_law_draw.F.kp D_law_draw.b .nil pass0 (pa_cons (pv 0) (pa_cons (pe_ix (ix_listK (K := K) rfl) (pe_lst (pa_cons pe_int (pa_cons pe_int (pa_cons pe_int pa_nil)))) (pe_call G_law_draw (hr.mono (by first | decide | omega)) (by rfl) D_law_draw.g D_law_draw.F.kp D_law_draw.b .nil pass0 (pa_cons (pv 0) (pa_cons pe_int pa_nil))) (fun _ _ => rfl)) pa_nil)))) pa_nil))) pa_nil)))))))
      (pss_one (ps_ret (pv 2))))), ?_⟩
    refine r_at (σ := [some _, some _, none, none, none]) rfl ?_
    walk_at "z"
    refine r_lstN (by decide) fun f hf => ?_
    have fa := new_ne hP hf
    walk_at "z"
    refine r_rg1 (by omega) (forR_range (fun i σ' H' => (∃ x3 x4, σ' = [some (.ref a), some (.int n), some (.ref f), x3, x4]) ∧ Pool H' a s0 ∧ Gr a H H' ∧ ∃ xs ps, H' f = some (.lst xs) ∧ Prs H' xs ps ∧ ps.length = i) ⟨⟨_, _, rfl⟩, hP.mono (same_new hf), .new hf, [], [], upd_same, .nil, rfl⟩ ?_ ?_)
    · rintro i σ' H' hi ⟨⟨x3, x4, rfl⟩, hP', g, xs, ps, hx, hp, hl⟩
      walk_at "z"
      refine ⟨a, s0, 9, rfl, hP', by omega, by omega, fun r H1 _ _ hP1 g1 => ?_⟩
      have hx1 := g1 _ _ fa.1 hx
      walk_at "z"
      refine r_lstN sz3 fun l hl3 => ?_
      walk_at "z"
      refine ⟨a, s0, 3, rfl, hP1.mono (same_new hl3), by omega, by omega, fun r2 H2 b0 b1 hP2 g2 => ?_⟩
      have hl2 := g2 _ _ (new_ne hP1 hl3).1 upd_same
      obtain ⟨m, hm, m0, m1⟩ : ∃ m : Int, atI [V.int 1, V.int 3, V.int 6] r2 = some (.int m) ∧ 0 < m ∧ m < 10 := by
        have e : r2 = 0 ∨ r2 = 1 ∨ r2 = 2 := by omega
        rcases e with e | e | e <;> subst e
        · exact ⟨1, rfl, by omega, by omega⟩
        · exact ⟨3, rfl, by omega, by omega⟩
        · exact ⟨6, rfl, by omega, by omega⟩
      walk_at "z"
      refine ⟨a, s0, m, rfl, hP2, by omega, by omega, fun r3 H3 _ _ hP3 g3 => ?_⟩
      walk_at "z"
      have g4 : Gr a H' H3 := ((g1.trans (.new hl3)).trans g2).trans g3
      have hx3 := g4 _ _ fa.1 hx
      refine r_tupN sz2 fun t ht => ?_
      walk_at "z"
      refine r_appT (by walk_at "zh") (small_lt ?_) ?_
      · rw [hp.length, hl]
        omega
      · refine ⟨⟨_, _, rfl⟩, (hP3.mono (same_new ht)).upd fa, ((g.trans g4).trans (.new ht)).mut hf, _, ps ++ [_], upd_same, prs_push hx3 (hp.tk (g4.tk hP')) ht, ?_⟩
        rw [List.length_append, hl]
        rfl
    · rintro σ' H' ⟨⟨x3, x4, rfl⟩, hP', g, xs, ps, hx, hp, hl⟩
      walk_at "z"
      exact q f xs ps H' hf hP' g hx hp hl
/-- the graph of intervals -/
def spIvGraph (K : PySem.W.Frag) : Sp := fun vs H Q _ => ∃ (l : Addr) (xs : List V) (ps : List (Int × Int)), vs = [.ref l] ∧ SqL K H l xs ∧ Prs H xs ps ∧ ps.length ≤ 100 ∧
  ∀ (v : V) (c : Int × Int → Bool) (H' : Hp), Same H H' → GrAt H' v (ps.length : Int) ((allP ps.length).filter c) → Q v H'
theorem ok_ivgraph (T : Blt mg) (D : DefAt K mg "_law_interval_graph" s_law_interval_graph ["rows"]) (D_law_pairs : DefAt K mg "_law_pairs" s_law_pairs ["n"]) (G_law_pairs : FnOk P w K mg base CX0 1 D_law_pairs.f D_law_pairs.fd ["n"] spPairs) :
    FnOk P w K mg base CX0 2 D.f D.fd ["rows"] (spIvGraph K) := by
  refine D.F.ok sc_law_interval_graph (fun vs H Q E h => ?_) (fun cdv A outer s H vs Q E hr h => ?_)
  · obtain ⟨l, xs, ps, rfl, _⟩ := h
    rfl
  · obtain ⟨l, xs, ps, rfl, hl, hp, hlen, q⟩ := h
    refine ⟨_, (pss_one (ps_ret (pe_tup (pa_cons (pe_callB (call_lenK (K := K) rfl) (by rfl) T.len (by decide +kernel) (pa_cons (pv 0) pa_nil)) (pa_cons (pe_callTy (call_tupleK (K := K) rfl) (by rfl) T.tuple (by decide +kernel) (pa_cons (pe_lc (own := [("pair", 1)]) (by rfl) sc_law_interval_graph.nd (PI.listK (K := K) rfl (pi_list (pe_call G_law_pairs (hr.mono (by first | decide | omega)) (by rfl) D_law_pairs.g D_law_pairs.F.kp D_law_pairs.b .nil pass0 (pa_cons (pe_callB (call_lenK (K := K) rfl) (by rfl) T.len (by decide +kernel) (pa_cons (pv 0) pa_nil)) pa_nil)))) (blkOk_by (own := [("pair", 1)]) (N := ["rows", "pair"]) (sc := (defScope s_law_interval_graph)) (by decide +kernel)) (fun _ _ _ _ _ => (pg_name (i := 1) sc_law_interval_graph.nd rfl (Or.inl rfl))) (fun _ _ _ _ _ => (pts_one (PW.pt (pw_and (pt_cmpR op_le (pe_ix (ix_tupK (K := K) rfl) (pe_ix (ix_listK (K := K) rfl) (pv 0) (pe_ix (ix_tupK (K := K) rfl) (pv 1) pe_int (fun _ _ => rfl)) (fun _ _ => rfl)) pe_int (fun _ _ => rfl)) (pe_ix (ix_tupK (K := K) rfl) (pe_ix (ix_listK (K := K) rfl) (pv 0) (pe_ix (ix_tupK (K := K) rfl) (pv 1) pe_int (fun _ _ => rfl)) (fun _ _ => rfl)) pe_int (fun _ _ => rfl)) (nomark _)) (pw_and1 (pt_cmpR op_le (pe_ix (ix_tupK (K := K) rfl) (pe_ix (ix_listK (K := K) rfl) (pv 0) (pe_ix (ix_tupK (K := K) rfl) (pv 1) pe_int (fun _ _ => rfl)) (fun _ _ => rfl)) pe_int (fun _ _ => rfl)) (pe_ix (ix_tupK (K := K) rfl) (pe_ix (ix_listK (K := K) rfl) (pv 0) (pe_ix (ix_tupK (K := K) rfl) (pv 1) pe_int (fun _ _ => rfl)) (fun _ _ => rfl)) pe_int (fun _ _ => rfl)) (nomark _))))))) (fun _ _ _ _ _ => (pv 1))) pa_nil)) pa_nil))))), ?_⟩
    refine r_at (σ := [some _, none]) rfl ?_
    walk_at "z"
    rw [hp.length]
    refine ⟨ps.length, rfl, hlen, fun f zs H1 hf s1 hz hzs => ?_⟩
    refine r_il (.inl (.inl hz)) fun d hd => lcR_list (xs := zs) (fun i H' => Same H1 H' ∧ ∃ ys c, H' d = some (.lst ys) ∧ Prs H' ys (((allP ps.length).take i).filter c)) (by walk_at "zw") ⟨same_new hd, [], fun _ => true, upd_same, .nil⟩ (fun i H' _ ⟨s2, _⟩ => .inl (.inl (s2 _ _ hz))) ?_ ?_
    · rintro i x H' hx ⟨s2, ys, c, hy, hys⟩
      obtain ⟨p, hpi, hxp⟩ := pd_get (hzs.tk (.of_same s2)) hx
      obtain ⟨b1, b2, b3⟩ := mem_allP.mp (List.mem_of_getElem? hpi)
      obtain ⟨t, rfl, ht⟩ := id hxp
      have sm := s1.trans s2
      have hl' := sm.seq hl
      have hp' := hp.tk (.of_same sm)
      obtain ⟨y1, r1, e1, _, t1, rfl, f1⟩ := at_pd hp' b1 (by omega)
      obtain ⟨y2, r2, e2, _, t2, rfl, f2⟩ := at_pd hp' (show 0 ≤ p.2 by omega) (by omega)
      -- the turn's end
      have yes : LcE d (fun H' => Same H1 H' ∧ ∃ ys c, H' d = some (.lst ys) ∧ Prs H' ys (((allP ps.length).take (i + 1)).filter c)) (V.ref t) H' := by
        obtain ⟨c', e⟩ := flt_next hpi c true
        refine r_lce hy (small_lt (by rw [hys.length]; exact flt_small hlen c)) ⟨same_mut s2 hd, _, c', upd_same, ?_⟩
        rw [e, if_pos rfl]
        exact (hys.tk (.lst hy)).snoc (hxp.tk (.lst hy))
      have no : Same H1 H' ∧ ∃ ys c, H' d = some (.lst ys) ∧ Prs H' ys (((allP ps.length).take (i + 1)).filter c) := by
        obtain ⟨c', e⟩ := flt_next hpi c false
        refine ⟨s2, ys, c', hy, ?_⟩
        rw [e, if_neg Bool.false_ne_true, List.append_nil]
        exact hys
      walk_at "z"
      refine ⟨rfl, ?_⟩
      walk_at "z"
      refine r_ite (fun h => ?_) (fun h => ?_)
      · walk_at "z"
        refine r_ite (fun h => ?_) (fun h => ?_)
        · walk_at "z"
          exact yes
        · exact no
      · walk_at "z"
        exact no
    · rintro H' ⟨s2, ys, c, hy, hys⟩
      rw [hzs.length, List.take_length] at hys
      walk_at "z"
      refine r_tupL (.inl (.inl hy)) fun e he => ?_
      walk_at "z"
      refine r_tupN sz2 fun t ht => ?_
      have s5 : Same H' (upd H' e (.tup ys)) := same_new he
      have s6 := s5.trans (same_new (o := .tup [.int (ps.length : Int), .ref e]) ht)
      exact q _ c _ ((s1.trans s2).trans s6) ⟨t, e, rfl, upd_same, ys, (upd_ne (ne_of_none upd_same ht)).trans upd_same, hys.tk (.of_same s6)⟩
end

set_option Elab.async false
set_option linter.all false
set_option maxRecDepth 100000
set_option maxHeartbeats 4000000
open PySem PySem.Spec PyProof.Rows L2

abbrev s_law_ringed : Stmt := topS 48
theorem sc_law_ringed : FnScope ["pool", "n", "m", "pairs", "v", "k", "u"] ["pool", "n"] (defScope s_law_ringed) := ⟨rfl, rfl, rfl, by decide +kernel, rfl, by decide +kernel, by decide +kernel⟩

abbrev s_law_clique_graph : Stmt := topS 34
theorem sc_law_clique_graph : FnScope ["pool", "n", "cliques", "pairs", "v", "base", "kept", "u"] ["pool", "n"] (defScope s_law_clique_graph) := ⟨rfl, rfl, rfl, by decide +kernel, rfl, by decide +kernel, by decide +kernel⟩

section
variable {P : Program} {w : World} {K : PySem.W.Frag} {mg : Str → Option Value} {base : Heap}
theorem idx_spec : ∀ {ns : List Int} {z : Int}, z ∈ ns → ns[ns.idxOf z]? = some z ∧ ∀ m, m < ns.idxOf z → ns[m]? ≠ some z
  | [], _, h => by cases h
  | x :: ns, z, h => by
    rw [List.idxOf_cons]
    by_cases e : x = z
    · subst e
      simp
    · have hz : z ∈ ns := by
        rcases List.mem_cons.mp h with q | q
        · exact absurd q.symm e
        · exact q
      obtain ⟨h1, h2⟩ := idx_spec hz
      have eb : (x == z) = false := by simp [e]
      rw [eb]
      simp only [cond_false]
      refine ⟨by simpa using h1, fun m hm => ?_⟩
      cases m with
      | zero => simp [e]
      | succ m =>
        have := h2 m (by omega)
        simpa using this
theorem flat_ints (ns : List Int) : (ns.map V.int).all flatV = true := by
  rw [List.all_eq_true]
  intro x hx
  obtain ⟨n, _, rfl⟩ := List.mem_map.mp hx
  rfl
theorem eqV_int (i j : Int) : eqV (.int i) (.int j) = decide (i = j) := by
  show (i == j) = decide (i = j)
  exact int_beq i j
theorem r_index {H : Hp} {Q : VK} {l : Addr} {ns : List Int} {z : Int} (h : SqL K H l (ns.map V.int)) (hm : z ∈ ns) (q : Q (.int (ns.idxOf z : Nat)) H) : rIndex K (.ref l) [.int z] H Q := by
  obtain ⟨h1, h2⟩ := idx_spec hm
  refine ⟨l, ns.map V.int, .int z, ns.idxOf z, .int z, rfl, rfl, h, rfl, flat_ints ns, by rw [List.getElem?_map, h1]; rfl, by rw [eqV_int]; simp, fun m z' hm hz => ?_, q⟩
  rw [List.getElem?_map] at hz
  obtain ⟨y, hy, rfl⟩ := Option.map_eq_some_iff.mp hz
  rw [eqV_int]
  refine decide_eq_false fun e => h2 m hm ?_
  rw [hy, e]
abbrev s_law_turned_graph : Stmt := topS 32
theorem sc_law_turned_graph : FnScope ["one", "two", "first", "second", "found", "u", "v"] ["one", "two"] (defScope s_law_turned_graph) := ⟨rfl, rfl, rfl, by decide +kernel, rfl, by decide +kernel, by decide +kernel⟩

/-- the pairs that stand in another order in both -/
def spTurned (K : PySem.W.Frag) : Sp := fun vs H Q _ => ∃ (l1 l2 : Addr) (ns ms : List Int), vs = [.ref l1, .ref l2] ∧ SqL K H l1 (ns.map V.int) ∧ SqL K H l2 (ms.map V.int) ∧ ns.length ≤ 100 ∧ (∀ z : Int, 0 ≤ z → z < ns.length → z ∈ ns ∧ z ∈ ms) ∧
  ∀ (v : V) (c : Int × Int → Bool) (H' : Hp), Same H H' → GrAt H' v (ns.length : Int) ((allP ns.length).filter c) → Q v H'
theorem ok_turned (T : Blt mg) (D : DefAt K mg "_law_turned_graph" s_law_turned_graph ["one", "two"]) (D_law_pairs : DefAt K mg "_law_pairs" s_law_pairs ["n"]) (G_law_pairs : FnOk P w K mg base CX0 1 D_law_pairs.f D_law_pairs.fd ["n"] spPairs) :
    FnOk P w K mg base CX0 2 D.f D.fd ["one", "two"] (spTurned K) := by
  refine D.F.ok sc_law_turned_graph (fun vs H Q E h => ?_) (fun cdv A outer s H vs Q E hr h => ?_)
  · obtain ⟨l1, l2, ns, ms, rfl, _⟩ := h
    rfl
  · obtain ⟨l1, l2, ns, ms, rfl, hl1, hl2, hlen, hall, q⟩ := h
    refine ⟨_, (pss_cons (ps_set (i := 2) sc_law_turned_graph.nd rfl (Or.inl rfl) (pe_callTy (call_listK (K := K) rfl) (by rfl) T.list (by decide +kernel) (pa_cons (pv 0) pa_nil)))
      (pss_cons (ps_set (i := 3) sc_law_turned_graph.nd rfl (Or.inl rfl) (pe_callTy (call_listK (K := K) rfl) (by rfl) T.list (by decide +kernel) (pa_cons (pv 1) pa_nil)))
      (pss_cons (ps_set (i := 4) sc_law_turned_graph.nd rfl (Or.inl rfl) (pe_lst pa_nil))
      (pss_cons (ps_for PassesOwn.never (by rfl) (PI.listK (K := K) rfl (pi_list (pe_call G_law_pairs (hr.mono (by first | decide | omega)) (by rfl) D_law_pairs.g D_law_pairs.F.kp D_law_pairs.b .nil pass0 (pa_cons (pe_callB (call_lenK (K := K) rfl) (by rfl) T.len (by decide +kernel) (pa_cons (pv 2) pa_nil)) pa_nil)))) (PG.tupK (K := K) rfl (pg_tup (n := 2) rfl (pgs_cons (pg_name (i := 5) sc_law_turned_graph.nd rfl (Or.inl rfl)) (pgs_cons (pg_name (i := 6) sc_law_turned_graph.nd rfl (Or.inl rfl)) pgs_nil))))
        (pss_one (ps_if (pt_cmpR op_ne (pe_cmpR op_lt (PE.bmK (K := K) rfl (pe_bm PySem.F.plainAttrs_list PySem.F.slot_list_index PySem.F.type_list_index (mt_indexK (K := K) rfl) (pv 2) (pa_cons (pv 5) pa_nil))) (PE.bmK (K := K) rfl (pe_bm PySem.F.plainAttrs_list PySem.F.slot_list_index PySem.F.type_list_index (mt_indexK (K := K) rfl) (pv 2) (pa_cons (pv 6) pa_nil))) (nomark _)) (pe_cmpR op_lt (PE.bmK (K := K) rfl (pe_bm PySem.F.plainAttrs_list PySem.F.slot_list_index PySem.F.type_list_index (mt_indexK (K := K) rfl) (pv 3) (pa_cons (pv 5) pa_nil))) (PE.bmK (K := K) rfl (pe_bm PySem.F.plainAttrs_list PySem.F.slot_list_index PySem.F.type_list_index (mt_indexK (K := K) rfl) (pv 3) (pa_cons (pv 6) pa_nil))) (nomark _)) (nomark _))
          (pss_one (ps_expr (PE.bmK (K := K) rfl (pe_bm PySem.F.plainAttrs_list PySem.F.slot_list_append PySem.F.type_list_append mt_append (pv 4) (pa_cons (pe_tup (pa_cons (pv 5) (pa_cons (pv 6) pa_nil))) pa_nil)))))
          pss_nil)))
      (pss_one (ps_ret (pe_tup (pa_cons (pe_callB (call_lenK (K := K) rfl) (by rfl) T.len (by decide +kernel) (pa_cons (pv 2) pa_nil)) (pa_cons (pe_callTy (call_tupleK (K := K) rfl) (by rfl) T.tuple (by decide +kernel) (pa_cons (pv 4) pa_nil)) pa_nil))))))))), ?_⟩
    refine r_at (σ := [some _, some _, none, none, none, none, none]) rfl ?_
    walk_at "z"
    refine r_listL hl1 fun f1 hf1 => ?_
    have sa : Same H (upd H f1 (.lst (ns.map V.int))) := same_new hf1
    walk_at "z"
    refine r_listL (sa.seq hl2) fun f2 hf2 => ?_
    have sb := sa.trans (same_new (o := .lst (ms.map V.int)) hf2)
    walk_at "z"
    refine r_lstN (by decide) fun f hf => ?_
    have sc := sb.trans (same_new (o := .lst []) hf)
    have n12 : f1 ≠ f2 := ne_of_none upd_same hf2
    have n1f : f1 ≠ f := ne_of_none ((upd_ne n12).trans upd_same) hf
    have n2f : f2 ≠ f := ne_of_none upd_same hf
    walk_at "z"
    rw [List.length_map]
    refine ⟨ns.length, rfl, hlen, fun l zs H1 hl s1 hz hzs => ?_⟩
    have h1 : H1 f1 = some (.lst (ns.map V.int)) := s1 _ _ ((upd_ne n1f).trans ((upd_ne n12).trans upd_same))
    have h2 : H1 f2 = some (.lst (ms.map V.int)) := s1 _ _ ((upd_ne n2f).trans upd_same)
    have hff : H1 f = some (.lst []) := s1 _ _ upd_same
    have nlf : l ≠ f := fun e => by
      rw [e, upd_same] at hl
      cases hl
    have hf0 : H f = none := sb.free hf
    -- the lists that stand
    refine r_il (.inl (.inl hz)) (forR_list (xs := zs) (fun i σ' H' => (∃ x5 x6, σ' = [some (.ref l1), some (.ref l2), some (.ref f1), some (.ref f2), some (.ref f), x5, x6]) ∧ Same H H' ∧ TK H1 H' ∧ H' l = some (.lst zs) ∧ H' f1 = some (.lst (ns.map V.int)) ∧ H' f2 = some (.lst (ms.map V.int)) ∧ ∃ ys c, H' f = some (.lst ys) ∧ Prs H' ys (((allP ns.length).take i).filter c))
      ⟨⟨_, _, rfl⟩, sc.trans s1, .refl _, hz, h1, h2, [], fun _ => true, hff, .nil⟩ (fun i σ' H' _ ⟨_, _, _, h, _⟩ => .inl (.inl h)) ?_ ?_)
    · rintro i x σ' H' hx ⟨⟨x5, x6, rfl⟩, sm, tk, hl', g1, g2, ys, c, hy, hys⟩
      obtain ⟨p, hpi, hxp⟩ := pd_get (hzs.tk tk) hx
      obtain ⟨b1, b2, b3⟩ := mem_allP.mp (List.mem_of_getElem? hpi)
      obtain ⟨t, rfl, ht⟩ := id hxp
      obtain ⟨m1, m2⟩ := hall p.1 b1 (by omega)
      obtain ⟨m3, m4⟩ := hall p.2 (by omega) (by omega)
      refine r_gtup (.inl (.inl ht)) rfl ?_
      walk_at "z"
      refine r_index (.inl (.inl g1)) m1 ?_
      walk_at "z"
      refine r_index (.inl (.inl g1)) m3 ?_
      walk_at "z"
      refine r_index (.inl (.inl g2)) m2 ?_
      walk_at "z"
      refine r_index (.inl (.inl g2)) m4 ?_
      walk_at "z"
      refine r_iteB (fun h => ?_) (fun h => ?_)
      · walk_at "z"
        refine r_tupN sz2 fun t2 ht2 => ?_
        walk_at "z"
        obtain ⟨c', e⟩ := flt_next hpi c true
        refine r_appT (by walk_at "zh") (small_lt (by rw [hys.length]; exact flt_small hlen c)) ?_
        have kk : TK H' (upd (upd H' t2 (.tup [.int p.1, .int p.2])) f (.lst (ys ++ [.ref t2]))) := (TK.new ht2).trans (.lst (by walk_at "zh"))
        have old : ∀ (b : Addr) (o : HO), b ≠ f → H' b = some o → (upd (upd H' t2 (.tup [.int p.1, .int p.2])) f (.lst (ys ++ [.ref t2]))) b = some o := fun b o n e => by
          rw [upd_ne n, upd_ne (ne_of_none e ht2)]
          exact e
        refine ⟨⟨_, _, rfl⟩, same_mut (sm.trans (same_new ht2)) hf0, tk.trans kk, old _ _ nlf hl', old _ _ n1f g1, old _ _ n2f g2, _, c', upd_same, ?_⟩
        rw [e, if_pos rfl]
        exact prs_push hy hys ht2
      · walk_at "z"
        obtain ⟨c', e⟩ := flt_next hpi c false
        refine ⟨⟨_, _, rfl⟩, sm, tk, hl', g1, g2, ys, c', hy, ?_⟩
        rw [e, if_neg Bool.false_ne_true, List.append_nil]
        exact hys
    · rintro σ' H' ⟨⟨x5, x6, rfl⟩, sm, tk, hl', g1, g2, ys, c, hy, hys⟩
      rw [hzs.length, List.take_length] at hys
      walk_at "z"
      rw [List.length_map]
      refine r_tupL (.inl (.inl hy)) fun e he => ?_
      walk_at "z"
      refine r_tupN sz2 fun t ht => ?_
      have s5 : Same H' (upd H' e (.tup ys)) := same_new he
      have s6 := s5.trans (same_new (o := .tup [.int (ns.length : Int), .ref e]) ht)
      exact q _ c _ (sm.trans s6) ⟨t, e, rfl, upd_same, ys, (upd_ne (ne_of_none upd_same ht)).trans upd_same, hys.tk (.of_same s6)⟩
theorem good_of {n : Int} {ps qs : List (Int × Int)} (h1 : 1 ≤ n) (bd : ∀ r ∈ ps, 0 ≤ r.1 ∧ r.1 < n ∧ 0 ≤ r.2 ∧ r.2 < n ∧ r.1 ≠ r.2) (asc : qs.Pairwise ltP) (mem : ∀ p, p ∈ qs ↔ ∃ r ∈ ps, p = nrm r) : GoodG n qs := by
  refine ⟨h1, asc, fun p hp => ?_⟩
  obtain ⟨r, hr, rfl⟩ := (mem p).mp hp
  obtain ⟨b1, b2, b3, b4, b5⟩ := bd r hr
  unfold nrm
  simp only
  omega
/-- a ring and more -/
def spRinged : Sp := fun vs H Q _ => ∃ (a s : Addr) (n : Int), vs = [.ref a, .int n] ∧ Pool H a s ∧ 1 ≤ n ∧ n ≤ 60 ∧ GenQ a s H n Q
theorem r_cat {H : Hp} {Q : VK} {l b : Addr} {xs zs : List V} (h1 : H l = some (.lst xs)) (h2 : H b = some (.lst zs)) (hz : xs.length + zs.length ≤ 100000) (q : ∀ p, H p = none → Q (.ref p) (upd H p (.lst (xs ++ zs)))) : rCat (.ref l) (.ref b) H Q := ⟨l, b, xs, zs, rfl, rfl, h1, h2, small_len hz, q⟩
theorem ok_ringed (T : Blt mg) (D : DefAt K mg "_law_ringed" s_law_ringed ["pool", "n"]) (D_law_draw : DefAt K mg "_law_draw" s_law_draw ["pool", "many"]) (G_law_draw : FnOk P w K mg base CX0 2 D_law_draw.f D_law_draw.fd ["pool", "many"] spDraw)
    (D_law_of : DefAt K mg "_law_of" s_law_of ["n", "pairs"]) (G_law_of : FnOk P w K mg base CX0 3 D_law_of.f D_law_of.fd ["n", "pairs"] (spOf K)) :
    FnOk P w K mg base CX0 4 D.f D.fd ["pool", "n"] spRinged := by
  refine D.F.ok sc_law_ringed (fun vs H Q E h => ?_) (fun cdv A outer s H vs Q E hr h => ?_)
  · obtain ⟨a, s, n, rfl, _⟩ := h
    rfl
  · obtain ⟨a, s0, n, rfl, hP, n0, n1, q⟩ := h
    refine ⟨_, (pss_cons (ps_set (i := 2) sc_law_ringed.nd rfl (Or.inr rfl) (pe_op op_sub (pv 1) (pe_call G_law_draw (hr.mono (by first | decide | omega)) (by rfl) D_law_draw.g D_law_draw.F.kp D_law_draw.b .nil pass0 (pa_cons (pv 0) (pa_cons (pe_callB (call_max2' rfl) (by rfl) T.max (by decide +kernel) (pa_cons pe_int (pa_cons (pe_op op_sub (pv 1) pe_int) pa_nil))) pa_nil)))))
      (pss_cons (ps_setLc (i := 3) (own := [("k", 5)]) (by rfl) sc_law_ringed.nd rfl rfl (sw_true rfl rfl rfl (by decide +kernel)) (pi_range1 (by rfl) T.range (pa_cons (pv 2) pa_nil)) (blkOk_by (own := [("k", 5)]) (N := ["pool", "n", "m", "pairs", "v", "k", "u"]) (sc := (defScope s_law_ringed)) (by decide +kernel)) (fun _ _ _ _ _ => (pg_name (i := 5) sc_law_ringed.nd rfl (Or.inl rfl))) (fun _ _ _ _ _ => (pts_one (pt_cmpR op_gt (pv 2) pe_int (nomark _)))) (fun _ _ _ _ _ => (pe_tup (pa_cons (pv 5) (pa_cons (pe_op op_mod (pe_op op_add (pv 5) pe_int) (pv 2)) pa_nil)))))
      (pss_cons (ps_for PassesOwn.never (by rfl) (pi_range2 (by rfl) T.range (pa_cons (pv 2) (pa_cons (pv 1) pa_nil))) (pg_name (i := 4) sc_law_ringed.nd rfl (Or.inr rfl))
        (pss_one (ps_set (i := 3) sc_law_ringed.nd rfl (Or.inl rfl) (pe_op op_cat (pv 3) (pe_lc (own := [("u", 6)]) (by rfl) sc_law_ringed.nd (pi_range1 (by rfl) T.range (pa_cons (pv 4) pa_nil)) (blkOk_by (own := [("u", 6)]) (N := ["pool", "n", "m", "pairs", "v", "k", "u"]) (sc := (defScope s_law_ringed)) (by decide +kernel)) (fun _ _ _ _ _ => (pg_name (i := 6) sc_law_ringed.nd rfl (Or.inl rfl))) (fun _ _ _ _ _ => (pts_one (pt_cmpR op_eq (pe_call G_law_draw (hr.mono (by first | decide | omega)) (by rfl) D_law_draw.g D_law_draw.F.kp D_law_draw.b .nil pass0 (pa_cons (pv 0) (pa_cons pe_int pa_nil))) pe_int (nomark _)))) (fun _ _ _ _ _ => (pe_tup (pa_cons (pv 6) (pa_cons (pv 4) pa_nil)))))))))
      (pss_one (ps_ret (pe_call G_law_of (hr.mono (by first | decide | omega)) (by rfl) D_law_of.g D_law_of.F.kp D_law_of.b .nil pass0 (pa_cons (pv 1) (pa_cons (pv 3) pa_nil)))))))), ?_⟩
    refine r_at (σ := [some _, some _, none, none, none, none, none]) rfl ?_
    walk_at "z"
    refine ⟨a, s0, _, rfl, hP, by omega, by omega, fun r H1 r0 r1 hP1 g1 => ?_⟩
    walk_at "z"
    obtain ⟨m, hm⟩ : ∃ m : Nat, n - r = (m : Int) := ⟨(n - r).toNat, by omega⟩
    rw [hm]
    have m1 : 1 ≤ m := by omega
    have m2 : m ≤ n.toNat := by omega
    let Bd : List (Int × Int) → Prop := fun ps => ∀ p ∈ ps, 0 ≤ p.1 ∧ p.1 < n ∧ 0 ≤ p.2 ∧ p.2 < n ∧ p.1 ≠ p.2
    have bd1 : ∀ {ps : List (Int × Int)} {u v : Int}, Bd ps → 0 ≤ u → u < n → 0 ≤ v → v < n → u ≠ v → Bd (ps ++ [(u, v)]) := fun {ps u v} h h1 h2 h3 h4 h5 p hp => by
      rcases List.mem_append.mp hp with z | z
      · exact h p z
      · rw [List.mem_singleton.mp z]
        exact ⟨h1, h2, h3, h4, h5⟩
    refine r_rg1 (by omega) fun d hd => lcR_range (fun i H' => Same H1 H' ∧ ∃ ys ps, H' d = some (.lst ys) ∧ Prs H' ys ps ∧ Bd ps ∧ ps.length ≤ i) (by walk_at "zw") ⟨same_new hd, [], [], upd_same, .nil, (fun p hp => by cases hp), Nat.le_refl _⟩ ?_ ?_
    · rintro i H' hi ⟨sm, ys, ps, hy, hys, bd, hl⟩
      have hi : i < m := by omega
      walk_at "z"
      refine ⟨rfl, ?_⟩
      walk_at "z"
      refine r_ite (fun h => ?_) (fun h => ?_)
      · walk_at "z"
        refine r_tupN sz2 fun t ht => ?_
        have hmod : 0 ≤ (0 + (i : Int) + 1) % (m : Int) ∧ (0 + (i : Int) + 1) % (m : Int) < m := ⟨Int.emod_nonneg _ (by omega), Int.emod_lt_of_pos _ (by omega)⟩
        have hne : (0 + (i : Int)) ≠ (0 + (i : Int) + 1) % (m : Int) := by
          by_cases e : i + 1 = m
          · have : (0 + (i : Int) + 1) % (m : Int) = 0 := by
              rw [show (0 : Int) + (i : Int) + 1 = (m : Int) by omega]
              exact Int.emod_self
            omega
          · have : (0 + (i : Int) + 1) % (m : Int) = 0 + (i : Int) + 1 := Int.emod_eq_of_lt (by omega) (by omega)
            omega
        refine r_lce (by walk_at "zh") (small_lt (by rw [hys.length]; omega)) ⟨same_mut (sm.trans (same_new ht)) hd, _, _, upd_same, prs_push hy hys ht, bd1 bd (by omega) (by omega) hmod.1 (by omega) hne, by rw [List.length_append]; simp only [List.length_cons, List.length_nil]; omega⟩
      · exact ⟨sm, ys, ps, hy, hys, bd, by omega⟩
    · rintro H' ⟨sm, ys, ps, hy, hys, bd, hl⟩
      walk_at "z"
      have g2 : Gr a H H' := g1.trans (.of_same sm)
      refine r_rg2 (by omega) (forR_range (fun i σ' H' => (∃ b x4, σ' = [some (.ref a), some (.int n), some (.int (m : Int)), some (.ref b), x4, none, none] ∧ (b ≠ a ∧ b ≠ s0) ∧ ∃ ys ps, H' b = some (.lst ys) ∧ Prs H' ys ps ∧ Bd ps ∧ ps.length ≤ 60 + 60 * i) ∧ Pool H' a s0 ∧ Gr a H H') ⟨⟨d, _, rfl, new_ne hP1 hd, ys, ps, hy, hys, bd, by omega⟩, hP1.mono sm, g2⟩ ?_ ?_)
      · rintro i σ' H' hi ⟨⟨b, x4, rfl, ba, ys, ps, hy, hys, bd, hl⟩, hP', g⟩
        have hi : m + i < n.toNat := by omega
        walk_at "z"
        refine r_rg1 (by omega) fun c hc => lcR_range (fun j H3 => Pool H3 a s0 ∧ Gr a H' H3 ∧ ∃ zs rs, H3 c = some (.lst zs) ∧ Prs H3 zs rs ∧ Bd rs ∧ rs.length ≤ j) (by walk_at "zw") ⟨hP'.mono (same_new hc), .new hc, [], [], upd_same, .nil, (fun p hp => by cases hp), Nat.le_refl _⟩ ?_ ?_
        · rintro j H3 hj ⟨hP3, g3, zs, rs, hz, hzs, bdr, hlr⟩
          have hj : j < m + i := by omega
          walk_at "z"
          refine ⟨rfl, ?_⟩
          walk_at "z"
          refine ⟨a, s0, 3, rfl, hP3, by omega, by omega, fun r2 H4 _ _ hP4 g4 => ?_⟩
          have ca := new_ne hP' hc
          have hz4 := g4 _ _ ca.1 hz
          walk_at "z"
          refine r_ite (fun h => ?_) (fun h => ?_)
          · walk_at "z"
            refine r_tupN sz2 fun t ht => ?_
            refine r_lce (by walk_at "zh") (small_lt (by rw [hzs.length]; omega)) ⟨(hP4.mono (same_new ht)).upd ca, ((g3.trans g4).trans (.new ht)).mut hc, _, _, upd_same, prs_push hz4 (hzs.tk (g4.tk hP3)) ht, bd1 bdr (by omega) (by omega) (by omega) (by omega) (by omega), by rw [List.length_append]; simp only [List.length_cons, List.length_nil]; omega⟩
          · exact ⟨hP4, g3.trans g4, zs, rs, hz4, hzs.tk (g4.tk hP3), bdr, by omega⟩
        · rintro H3 ⟨hP3, g3, zs, rs, hz, hzs, bdr, hlr⟩
          have hy3 := g3 _ _ ba.1 hy
          refine r_cat hy3 hz (by rw [hys.length, hzs.length]; omega) fun e he => ?_
          walk_at "z"
          refine ⟨⟨e, _, rfl, new_ne hP3 he, _, ps ++ rs, upd_same, Prs.tk (.new he) (pd_append (hys.tk (g3.tk hP')) hzs), fun p hp => ?_, ?_⟩, hP3.mono (same_new he), (g.trans g3).trans (.new he)⟩
          · rcases List.mem_append.mp hp with z | z
            · exact bd p z
            · exact bdr p z
          · rw [List.length_append]
            omega
      · rintro σ' H' ⟨⟨b, x4, rfl, ba, ys, ps, hy, hys, bd, hl⟩, hP', g⟩
        walk_at "z"
        refine ⟨n, b, ys, ps, rfl, .inl (.inl hy), hys, by omega, fun v qs H2 s2 hv asc mem => ?_⟩
        exact q v qs H2 (hP'.mono s2) (g.trans (.of_same s2)) hv (good_of n0 bd asc mem)
theorem lt_of_le_nodup {ps : List (Int × Int)} (h1 : ps.Pairwise leP) (h2 : ps.Nodup) : ps.Pairwise ltP := (List.pairwise_and_iff.mpr ⟨h1, h2⟩).imp fun {p q} h => ltP_of_le_ne h.1 h.2
/-- a graph of cliques -/
def spClique : Sp := fun vs H Q _ => ∃ (a s : Addr) (n : Int), vs = [.ref a, .int n] ∧ Pool H a s ∧ 1 ≤ n ∧ n ≤ 60 ∧ GenQ a s H n Q
/-- lists of different vertices below i -/
def Clq (H : Hp) (C a s : Addr) (as : List Addr) (i : Nat) : Prop := ∀ x ∈ as, x ≠ C ∧ x ≠ a ∧ x ≠ s ∧ ∃ ns : List Int, H x = some (.lst (ns.map V.int)) ∧ ns.Nodup ∧ (∀ z ∈ ns, 0 ≤ z ∧ z < i) ∧ ns.length ≤ i
theorem ok_clique (T : Blt mg) (D : DefAt K mg "_law_clique_graph" s_law_clique_graph ["pool", "n"]) (D_law_draw : DefAt K mg "_law_draw" s_law_draw ["pool", "many"]) (G_law_draw : FnOk P w K mg base CX0 2 D_law_draw.f D_law_draw.fd ["pool", "many"] spDraw) :
    FnOk P w K mg base CX0 4 D.f D.fd ["pool", "n"] spClique := by
  refine D.F.ok sc_law_clique_graph (fun vs H Q E h => ?_) (fun cdv A outer s H vs Q E hr h => ?_)
  · obtain ⟨a, s, n, rfl, _⟩ := h
    rfl
  · obtain ⟨a, s0, n, rfl, hP, n0, n1, q⟩ := h
    refine ⟨_, (pss_cons (ps_set (i := 2) sc_law_clique_graph.nd rfl (Or.inl rfl) (pe_lst (pa_cons (pe_lst pa_nil) pa_nil)))
      (pss_cons (ps_set (i := 3) sc_law_clique_graph.nd rfl (Or.inl rfl) (pe_lst pa_nil))
      (pss_cons (ps_for PassesOwn.never (by rfl) (pi_range1 (by rfl) T.range (pa_cons (pv 1) pa_nil)) (pg_name (i := 4) sc_law_clique_graph.nd rfl (Or.inr rfl))
        (pss_cons (ps_set (i := 5) sc_law_clique_graph.nd rfl (Or.inl rfl) (pe_ix (ix_listK (K := K) rfl) (pv 2) (pe_call G_law_draw (hr.mono (by first | decide | omega)) (by rfl) D_law_draw.g D_law_draw.F.kp D_law_draw.b .nil pass0 (pa_cons (pv 0) (pa_cons (pe_callB (call_lenK (K := K) rfl) (by rfl) T.len (by decide +kernel) (pa_cons (pv 2) pa_nil)) pa_nil))) (fun _ _ => rfl)))
        (pss_cons (ps_setLc (i := 6) (own := [("u", 7)]) (by rfl) sc_law_clique_graph.nd rfl rfl (sw_true rfl rfl rfl (by decide +kernel)) (PI.listK (K := K) rfl (pi_list (pv 5))) (blkOk_by (own := [("u", 7)]) (N := ["pool", "n", "cliques", "pairs", "v", "base", "kept", "u"]) (sc := (defScope s_law_clique_graph)) (by decide +kernel)) (fun _ _ _ _ _ => (pg_name (i := 7) sc_law_clique_graph.nd rfl (Or.inl rfl))) (fun _ _ _ _ _ => (pts_one (pt_cmpR op_gt (pe_call G_law_draw (hr.mono (by first | decide | omega)) (by rfl) D_law_draw.g D_law_draw.F.kp D_law_draw.b .nil pass0 (pa_cons (pv 0) (pa_cons pe_int pa_nil))) pe_int (nomark _)))) (fun _ _ _ _ _ => (pv 7)))
        (pss_cons (ps_set (i := 3) sc_law_clique_graph.nd rfl (Or.inl rfl) (pe_op op_cat (pv 3) (pe_lc (own := [("u", 7)]) (by rfl) sc_law_clique_graph.nd (PI.listK (K := K) rfl (pi_list (pv 6))) (blkOk_by (own := [("u", 7)]) (N := ["pool", "n", "cliques", "pairs", "v", "base", "kept", "u"]) (sc := (defScope s_law_clique_graph)) (by decide +kernel)) (fun _ _ _ _ _ => (pg_name (i := 7) sc_law_clique_graph.nd rfl (Or.inl rfl))) (fun _ _ _ _ _ => pts_nil) (fun _ _ _ _ _ => (pe_tup (pa_cons (pv 7) (pa_cons (pv 4) pa_nil)))))))
        (pss_one (ps_expr (PE.bmK (K := K) rfl (pe_bm PySem.F.plainAttrs_list PySem.F.slot_list_append PySem.F.type_list_append mt_append (pv 2) (pa_cons (pe_op op_cat (pv 6) (pe_lst (pa_cons (pv 4) pa_nil))) pa_nil)))))))))
      (pss_one (ps_ret (pe_tup (pa_cons (pv 1) (pa_cons (pe_callTy (call_tupleK (K := K) rfl) (by rfl) T.tuple (by decide +kernel) (pa_cons (pe_callB (cr_sortPrK (K := K) rfl) (by rfl) T.sorted (by decide +kernel) (pa_cons (pv 3) pa_nil)) pa_nil)) pa_nil)))))))), ?_⟩
    refine r_at (σ := [some _, some _, none, none, none, none, none, none]) rfl ?_
    walk_at "z"
    refine r_lstN (by decide) fun c0 hc0 => ?_
    walk_at "z"
    refine r_lstN sz1 fun C hC => ?_
    have hC0 : H C = none := (same_new hc0).free hC
    walk_at "z"
    refine r_lstN (by decide) fun q0 hq0 => ?_
    walk_at "z"
    have nC := new_ne hP hC0
    have n0C : c0 ≠ C := ne_of_none upd_same hC
    have nqC : C ≠ q0 := ne_of_none upd_same hq0
    have n0q : c0 ≠ q0 := ne_of_none ((upd_ne n0C).trans upd_same) hq0
    refine r_rg1 (by omega) (forR_range (fun i σ' H' => (∃ b x4 x5 x6, σ' = [some (.ref a), some (.int n), some (.ref C), some (.ref b), x4, x5, x6, none] ∧ (b ≠ a ∧ b ≠ s0 ∧ b ≠ C) ∧ ∃ ys ps, H' b = some (.lst ys) ∧ Prs H' ys ps ∧ ps.Nodup ∧ (∀ p ∈ ps, 0 ≤ p.1 ∧ p.1 < p.2 ∧ p.2 < i) ∧ ps.length ≤ 60 * i) ∧ Pool H' a s0 ∧ Gr a H H' ∧
        ∃ as : List Addr, H' C = some (.lst (as.map V.ref)) ∧ as.length = i + 1 ∧ Clq H' C a s0 as i) ⟨⟨q0, _, _, _, rfl, ?_, [], [], upd_same, .nil, .nil, (fun p hp => by cases hp), Nat.zero_le _⟩, ?_, ?_, [c0], ?_, rfl, ?_⟩ ?_ ?_)
    · have h1 : H q0 = none := ((same_new hc0).trans (same_new hC)).free hq0
      exact ⟨(new_ne hP h1).1, (new_ne hP h1).2, Ne.symm nqC⟩
    · exact ((hP.mono (same_new hc0)).mono (same_new hC)).mono (same_new hq0)
    · exact ((Gr.new hc0).trans (.new hC)).trans (.new hq0)
    · exact (upd_ne nqC).trans upd_same
    · intro x hx
      rw [List.mem_singleton.mp hx]
      exact ⟨n0C, (new_ne hP hc0).1, (new_ne hP hc0).2, [], (upd_ne n0q).trans ((upd_ne n0C).trans upd_same), .nil, (fun z hz => by cases hz), Nat.zero_le _⟩
    · rintro i σ' H' hi ⟨⟨b, x4, x5, x6, rfl, ⟨ba, bs, bC⟩, ys, ps, hy, hys, nd, bd, hl⟩, hP', g, as, hcs, hlen, hclq⟩
      have hi : i < n.toNat := by omega
      walk_at "z"
      rw [List.length_map, hlen]
      refine ⟨a, s0, _, rfl, hP', by omega, by omega, fun r H1 r0 r1 hP1 g1 => ?_⟩
      have hcs1 := g1 _ _ nC.1 hcs
      have hrt : r.toNat < as.length := by omega
      obtain ⟨x, hx⟩ : ∃ x, as[r.toNat]? = some x := ⟨_, List.getElem?_eq_getElem hrt⟩
      obtain ⟨xC, xa, xs, ns, hns, nns, bns, lns⟩ := hclq x (List.mem_of_getElem? hx)
      refine r_ixL (.inl (.inl hcs1)) (v := V.ref x) (at_of (j := r.toNat) (by omega) (by rw [List.getElem?_map, hx]; rfl)) ?_
      walk_at "z"
      have hx1 := g1 _ _ xa hns
      -- kept
      refine r_il (.inl (.inl hx1)) fun d hd => lcR_list (xs := ns.map V.int) (fun j H2 => Pool H2 a s0 ∧ Gr a H1 H2 ∧ ∃ ms : List Int, H2 d = some (.lst (ms.map V.int)) ∧ ms.Sublist (ns.take j)) (by walk_at "zw") ⟨hP1.mono (same_new hd), .new hd, [], upd_same, List.nil_sublist _⟩ (fun j H2 _ ⟨_, g2, _⟩ => .inl (.inl (g2 _ _ xa hx1))) ?_ ?_
      · rintro j y H2 hy2 ⟨hP2, g2, ms, hms, sub⟩
        rw [List.getElem?_map] at hy2
        obtain ⟨z, hz, rfl⟩ := Option.map_eq_some_iff.mp hy2
        walk_at "z"
        refine ⟨rfl, ?_⟩
        walk_at "z"
        refine ⟨a, s0, 4, rfl, hP2, by omega, by omega, fun r2 H3 _ _ hP3 g3 => ?_⟩
        have hms3 := g3 _ _ (new_ne hP1 hd).1 hms
        have sl : ms.length ≤ 60 := by
          have h1 := sub.length_le
          rw [List.length_take] at h1
          omega
        walk_at "z"
        refine r_ite (fun h => ?_) (fun h => ?_)
        · walk_at "z"
          refine r_lce hms3 (small_lt (by rw [List.length_map]; omega)) ⟨hP3.upd (new_ne hP1 hd), (g2.trans g3).mut hd, ms ++ [z], by rw [List.map_append]; exact upd_same, ?_⟩
          rw [take_next hz]
          exact sub.append (List.Sublist.refl _)
        · refine ⟨hP3, g2.trans g3, ms, hms3, ?_⟩
          rw [take_next hz]
          exact sub.trans (List.sublist_append_left _ _)
      · rintro H2 ⟨hP2, g2, ms, hms, sub⟩
        rw [List.length_map, List.take_length] at sub
        have nms : ms.Nodup := nns.sublist sub
        have bms : ∀ z ∈ ms, 0 ≤ z ∧ z < i := fun z hz => bns z (sub.subset hz)
        have lms : ms.length ≤ i := Nat.le_trans sub.length_le lns
        have dne := new_ne hP1 hd
        have dC : d ≠ C := (ne_of_none hcs1 hd).symm
        have db : d ≠ b := (ne_of_none (g1 _ _ ba hy) hd).symm
        have hy2 := g2 _ _ ba (g1 _ _ ba hy)
        have kk : TK H' H2 := (g1.tk hP').trans (g2.tk hP1)
        have hys2 := Prs.tk kk hys
        walk_at "z"
        -- the pairs of kept and v
        refine r_il (.inl (.inl hms)) fun e he => lcR_list (xs := ms.map V.int) (fun j H3 => Same H2 H3 ∧ ∃ zs, H3 e = some (.lst zs) ∧ Prs H3 zs ((ms.take j).map fun u => (u, 0 + (i : Int)))) (by walk_at "zw") ⟨same_new he, [], upd_same, .nil⟩ (fun j H3 _ ⟨s3, _⟩ => .inl (.inl (s3 _ _ hms))) ?_ ?_
        · rintro j y H3 hy3 ⟨s3, zs, hz, hzs⟩
          rw [List.getElem?_map] at hy3
          obtain ⟨z, hzj, rfl⟩ := Option.map_eq_some_iff.mp hy3
          walk_at "z"
          refine ⟨rfl, ?_⟩
          walk_at "z"
          refine r_tupN sz2 fun t ht => ?_
          refine r_lce (by walk_at "zh") (small_lt ?_) ⟨same_mut (s3.trans (same_new ht)) he, _, upd_same, ?_⟩
          · rw [hzs.length, List.length_map, List.length_take]
            omega
          · rw [take_next hzj, List.map_append]
            exact prs_push hz hzs ht
        · rintro H3 ⟨s3, zs, hz, hzs⟩
          rw [List.length_map, List.take_length] at hzs
          have hy3 := s3 _ _ hy2
          refine r_cat hy3 hz (by rw [hys.length, hzs.length, List.length_map]; omega) fun b2 hb2 => ?_
          have s4 : Same H2 (upd H3 b2 (.lst (ys ++ zs))) := s3.trans (same_new hb2)
          have hC2 := g2 _ _ nC.1 hcs1
          have b2C : b2 ≠ C := (ne_of_none (s3 _ _ hC2) hb2).symm
          have hms4 := s4 _ _ hms
          have hC4 := s4 _ _ hC2
          walk_at "z"
          refine r_lstN sz1 fun v1 hv1 => ?_
          have s5 := s4.trans (same_new (o := .lst [V.int (0 + (i : Int))]) hv1)
          refine r_cat (s5 _ _ hms) upd_same (by rw [List.length_map]; simp only [List.length_cons, List.length_nil]; omega) fun k2 hk2 => ?_
          have s6 := s5.trans (same_new (o := .lst (ms.map V.int ++ [V.int (0 + (i : Int))])) hk2)
          walk_at "z"
          refine r_appT (s6 _ _ hC2) (small_lt (by rw [List.length_map]; omega)) ?_
          have hP6 := hP2.mono s6
          have k2C : k2 ≠ C := (ne_of_none (s5 _ _ hC2) hk2).symm
          have k2ne := new_ne (hP2.mono s5) hk2
          have b2ne := new_ne (hP2.mono s3) hb2
          have eC : e ≠ C := (ne_of_none hC2 he).symm
          -- what stood at H2, stands, but for C
          let HE := upd (upd (upd (upd H3 b2 (.lst (ys ++ zs))) v1 (.lst [V.int (0 + (i : Int))])) k2 (.lst (ms.map V.int ++ [V.int (0 + (i : Int))]))) C (.lst (as.map V.ref ++ [.ref k2]))
          have old : ∀ (x : Addr) (o : HO), x ≠ C → H2 x = some o → HE x = some o := fun x o n e => (upd_ne n).trans (s6 _ _ e)
          have old3 : ∀ (x : Addr) (o : HO), x ≠ C → H3 x = some o → HE x = some o := fun x o n e => (upd_ne n).trans ((same_new hk2) _ _ ((same_new hv1) _ _ ((same_new hb2) _ _ e)))
          have k3 : TK H3 HE := fun x o e => old3 x _ (fun z => by rw [z, s3 _ _ hC2] at e; cases e) e
          have b2v : b2 ≠ v1 := ne_of_none upd_same hv1
          have b2k : b2 ≠ k2 := ne_of_none ((upd_ne b2v).trans upd_same) hk2
          refine ⟨⟨b2, _, _, _, rfl, ⟨b2ne.1, b2ne.2, b2C⟩, ys ++ zs, ps ++ ms.map (fun u => (u, 0 + (i : Int))), ?_, ?_, ?_, ?_, ?_⟩, hP6.upd nC, (((g.trans g1).trans g2).trans (.of_same s6)).mut hC0, as ++ [k2], ?_, ?_, ?_⟩
          · exact (upd_ne b2C).trans ((upd_ne b2k).trans ((upd_ne b2v).trans upd_same))
          · exact Prs.tk k3 (pd_append (Prs.tk (.of_same s3) hys2) hzs)
          · refine List.nodup_append.mpr ⟨nd, ?_, fun p hp r hr => ?_⟩
            · exact List.pairwise_map.mpr (nms.imp fun {x y} hne e => hne (by injection e))
            · obtain ⟨u, hu, rfl⟩ := List.mem_map.mp hr
              intro e
              have := (bd p hp).2.2
              rw [e] at this
              simp only at this
              omega
          · intro p hp
            rcases List.mem_append.mp hp with z | z
            · have := bd p z
              omega
            · obtain ⟨u, hu, rfl⟩ := List.mem_map.mp z
              have := bms u hu
              simp only
              omega
          · rw [List.length_append, List.length_map]
            omega
          · rw [List.map_append]
            exact upd_same
          · rw [List.length_append, hlen]
            rfl
          · intro y hy4
            rcases List.mem_append.mp hy4 with z | z
            · obtain ⟨z1, z2, z3, ns', z4, z5, z6, z7⟩ := hclq y z
              exact ⟨z1, z2, z3, ns', old _ _ z1 (g2 _ _ z2 (g1 _ _ z2 z4)), z5, fun q9 h9 => by have := z6 q9 h9; omega, by omega⟩
            · rw [List.mem_singleton.mp z]
              refine ⟨k2C, k2ne.1, k2ne.2, ms ++ [0 + (i : Int)], ?_, ?_, ?_, ?_⟩
              · rw [List.map_append]
                exact (upd_ne k2C).trans upd_same
              · refine List.nodup_append.mpr ⟨nms, List.pairwise_singleton _ _, fun u hu r hr e => ?_⟩
                rw [List.mem_singleton.mp hr] at e
                have := bms u hu
                omega
              · intro u hu
                rcases List.mem_append.mp hu with z | z
                · have := bms u z
                  omega
                · rw [List.mem_singleton.mp z]
                  omega
              · rw [List.length_append]
                simp only [List.length_cons, List.length_nil]
                omega
    · rintro σ' H' ⟨⟨b, x4, x5, x6, rfl, ⟨ba, bs, bC⟩, ys, ps, hy, hys, nd, bd, hl⟩, hP', g, _⟩
      walk_at "z"
      refine ⟨b, ys, ps, rfl, .inl (.inl hy), hys, fun zs qs f pm hz pw hf => ?_⟩
      walk_at "z"
      refine r_tupL (.inl (.inl upd_same)) fun e he => ?_
      walk_at "z"
      refine r_tupN sz2 fun t ht => ?_
      have s4 := ((same_new (o := .lst zs) hf).trans (same_new (o := .tup zs) he)).trans (same_new (o := .tup [.int n, .ref e]) ht)
      refine q _ qs _ (hP'.mono s4) (g.trans (.of_same s4)) ⟨t, e, rfl, upd_same, zs, (upd_ne (ne_of_none upd_same ht)).trans upd_same, Prs.tk (.of_same s4) hz⟩ ⟨n0, lt_of_le_nodup pw (pm.nodup_iff.mpr nd), fun p hp => ?_⟩
      have := bd p (pm.mem_iff.mp hp)
      omega
end

set_option Elab.async false
set_option linter.all false
set_option maxRecDepth 100000
set_option maxHeartbeats 4000000
open PySem PySem.Spec PyProof.Rows L2

abbrev s_law_ordered_graph : Stmt := topS 33
theorem sc_law_ordered_graph : FnScope ["pool", "n", "u", "v", "above", "w", "pair"] ["pool", "n"] (defScope s_law_ordered_graph) := ⟨rfl, rfl, rfl, by decide +kernel, rfl, by decide +kernel, by decide +kernel⟩

theorem ixN_nat {n j : Nat} (h : j < n) : ixN n (j : Int) = some j := by
  unfold ixN
  rw [if_pos (by omega), if_pos (by omega)]
  rfl
/-- n rows of n truth values at b, unknown to H0 -/
def Mat (H0 H : Hp) (b : Addr) (n : Nat) : Prop := ∃ as : List Addr, H b = some (.lst (as.map V.ref)) ∧ as.length = n ∧ ∀ x ∈ as, x ≠ b ∧ H0 x = none ∧ ∃ bs : List Bool, H x = some (.lst (bs.map V.bl)) ∧ bs.length = n
/-- a place read -/
theorem Mat.at {H0 H : Hp} {b : Addr} {n i j : Nat} (M : Mat H0 H b n) (hi : i < n) (hj : j < n) : ∃ (rows : List V) (x : Addr) (row : List V) (c : Bool), H b = some (.lst rows) ∧ atI rows (i : Int) = some (.ref x) ∧ H x = some (.lst row) ∧ atI row (j : Int) = some (.bl c) := by
  obtain ⟨as, hb, hl, hx⟩ := M
  have hlt : i < as.length := by omega
  obtain ⟨_, _, bs, h1, h2⟩ := hx as[i] (List.getElem_mem hlt)
  refine ⟨_, as[i], _, bs[j]'(by omega), hb, atI_nat (by rw [List.getElem?_map, List.getElem?_eq_getElem hlt]; rfl), h1, atI_nat (by rw [List.getElem?_map, List.getElem?_eq_getElem (by omega)]; rfl)⟩
/-- a place written -/
theorem Mat.set {H0 H : Hp} {b x : Addr} {n i j : Nat} {rows row : List V} {c : Bool} (M : Mat H0 H b n) (hi : i < n) (hb : H b = some (.lst rows)) (hx : atI rows (i : Int) = some (.ref x)) (hr : H x = some (.lst row)) :
    row.length = n ∧ H0 x = none ∧ Mat H0 (upd H x (.lst (row.set j (.bl c)))) b n := by
  obtain ⟨as, hb2, hl, hall⟩ := M
  rw [hb2] at hb
  cases hb
  have hlt : i < as.length := by omega
  have e : as[i] = x := by
    rw [atI_nat (v := V.ref as[i]) (by rw [List.getElem?_map, List.getElem?_eq_getElem hlt]; rfl)] at hx
    injection (Option.some.inj hx)
  have hm : x ∈ as := by rw [← e]; exact List.getElem_mem hlt
  obtain ⟨n1, n2, bs, h1, h2⟩ := hall x hm
  rw [h1] at hr
  cases hr
  refine ⟨by rw [List.length_map]; exact h2, n2, as, (upd_ne (Ne.symm n1)).trans hb2, hl, fun y hy => ?_⟩
  obtain ⟨m1, m2, cs, k1, k2⟩ := hall y hy
  refine ⟨m1, m2, ?_⟩
  by_cases e2 : y = x
  · subst e2
    exact ⟨bs.set j c, by rw [List.map_set]; exact upd_same, by rw [List.length_set]; exact h2⟩
  · exact ⟨cs, (upd_ne e2).trans k1, k2⟩
section
variable {P : Program} {w : World} {K : PySem.W.Frag} {mg : Str → Option Value} {base : Heap}
def spOrdered : Sp := fun vs H Q _ => ∃ (a s : Addr) (n : Int), vs = [.ref a, .int n] ∧ Pool H a s ∧ 1 ≤ n ∧ n ≤ 60 ∧ GenQ a s H n Q
theorem ok_ordered (T : Blt mg) (D : DefAt K mg "_law_ordered_graph" s_law_ordered_graph ["pool", "n"]) (D_law_draw : DefAt K mg "_law_draw" s_law_draw ["pool", "many"]) (G_law_draw : FnOk P w K mg base CX0 2 D_law_draw.f D_law_draw.fd ["pool", "many"] spDraw)
    (D_law_pairs : DefAt K mg "_law_pairs" s_law_pairs ["n"]) (G_law_pairs : FnOk P w K mg base CX0 1 D_law_pairs.f D_law_pairs.fd ["n"] spPairs) :
    FnOk P w K mg base CX0 4 D.f D.fd ["pool", "n"] spOrdered := by
  refine D.F.ok sc_law_ordered_graph (fun vs H Q E h => ?_) (fun cdv A outer s H vs Q E hr h => ?_)
  · obtain ⟨a, s, n, rfl, _⟩ := h
    rfl
  · obtain ⟨a, s0, n, rfl, hP, n0, n1, q⟩ := h
    refine ⟨_, (pss_cons (ps_set (i := 4) sc_law_ordered_graph.nd rfl (Or.inr rfl) (pe_lc (own := [("u", 2)]) (by rfl) sc_law_ordered_graph.nd (pi_range1 (by rfl) T.range (pa_cons (pv 1) pa_nil)) (blkOk_by (own := [("u", 2)]) (N := ["pool", "n", "u", "v", "above", "w", "pair"]) (sc := (defScope s_law_ordered_graph)) (by decide +kernel)) (fun _ _ _ _ _ => (pg_name (i := 2) sc_law_ordered_graph.nd rfl (Or.inr rfl))) (fun _ _ _ _ _ => pts_nil) (fun _ _ _ _ _ => (pe_lc (own := [("v", 3)]) (by rfl) sc_law_ordered_graph.nd (pi_range1 (by rfl) T.range (pa_cons (pv 1) pa_nil)) (blkOk_by (own := [("v", 3)]) (N := ["pool", "n", "u", "v", "above", "w", "pair"]) (sc := ({ kind := .function, names := [(PySem.Str.ofString ".0", PySem.NameKind.local), (PySem.Str.ofString "u", PySem.NameKind.cell), (PySem.Str.ofString "range", PySem.NameKind.globalImplicit), (PySem.Str.ofString "n", PySem.NameKind.cell), (PySem.Str.ofString "pool", PySem.NameKind.cell)], isGenerator := false, isCoroutine := false, more := [] } : PySem.Scope)) (by decide +kernel)) (fun _ _ _ _ _ => (pg_name (i := 3) sc_law_ordered_graph.nd rfl (Or.inl rfl))) (fun _ _ _ _ _ => pts_nil) (fun _ _ _ _ _ => (pe_and (pe_cmpR op_lt (pv 2) (pv 3) (nomark _)) (pe_one (pe_cmpR op_eq (pe_call G_law_draw (hr.mono (by first | decide | omega)) (by rfl) D_law_draw.g D_law_draw.F.kp D_law_draw.b .nil pass0 (pa_cons (pv 0) (pa_cons pe_int pa_nil))) pe_int (nomark _)))))))))
      (pss_cons (ps_for PassesOwn.never (by rfl) (pi_range1 (by rfl) T.range (pa_cons (pv 1) pa_nil)) (pg_name (i := 5) sc_law_ordered_graph.nd rfl (Or.inl rfl))
        (pss_one (ps_for PassesOwn.never (by rfl) (pi_range1 (by rfl) T.range (pa_cons (pv 1) pa_nil)) (pg_name (i := 2) sc_law_ordered_graph.nd rfl (Or.inl rfl))
          (pss_one (ps_for PassesOwn.never (by rfl) (pi_range1 (by rfl) T.range (pa_cons (pv 1) pa_nil)) (pg_name (i := 3) sc_law_ordered_graph.nd rfl (Or.inl rfl))
            (pss_one (ps_asg (pe_or (pe_ix (ix_listK (K := K) rfl) (pe_ix (ix_listK (K := K) rfl) (pv 4) (pv 2) (fun _ _ => rfl)) (pv 3) (fun _ _ => rfl)) (pe_one (pe_and (pe_ix (ix_listK (K := K) rfl) (pe_ix (ix_listK (K := K) rfl) (pv 4) (pv 2) (fun _ _ => rfl)) (pv 5) (fun _ _ => rfl)) (pe_one (pe_ix (ix_listK (K := K) rfl) (pe_ix (ix_listK (K := K) rfl) (pv 4) (pv 5) (fun _ _ => rfl)) (pv 3) (fun _ _ => rfl)))))) (pg_sub (pe_ix (ix_listK (K := K) rfl) (pv 4) (pv 2) (fun _ _ => rfl)) (pv 3) set_list))))))))
      (pss_one (ps_ret (pe_tup (pa_cons (pv 1) (pa_cons (pe_callTy (call_tupleK (K := K) rfl) (by rfl) T.tuple (by decide +kernel) (pa_cons (pe_lc (own := [("pair", 6)]) (by rfl) sc_law_ordered_graph.nd (PI.listK (K := K) rfl (pi_list (pe_call G_law_pairs (hr.mono (by first | decide | omega)) (by rfl) D_law_pairs.g D_law_pairs.F.kp D_law_pairs.b .nil pass0 (pa_cons (pv 1) pa_nil)))) (blkOk_by (own := [("pair", 6)]) (N := ["pool", "n", "u", "v", "above", "w", "pair"]) (sc := (defScope s_law_ordered_graph)) (by decide +kernel)) (fun _ _ _ _ _ => (pg_name (i := 6) sc_law_ordered_graph.nd rfl (Or.inl rfl))) (fun _ _ _ _ _ => (pts_one (pt_val (pe_ix (ix_listK (K := K) rfl) (pe_ix (ix_listK (K := K) rfl) (pv 4) (pe_ix (ix_tupK (K := K) rfl) (pv 6) pe_int (fun _ _ => rfl)) (fun _ _ => rfl)) (pe_ix (ix_tupK (K := K) rfl) (pv 6) pe_int (fun _ _ => rfl)) (fun _ _ => rfl))))) (fun _ _ _ _ _ => (pv 6))) pa_nil)) pa_nil))))))), ?_⟩
    refine r_at (σ := [some _, some _, none, none, none, none, none]) rfl ?_
    walk_at "z"
    refine r_rg1 (by omega) fun d hd => lcR_range (fun i H' => Pool H' a s0 ∧ Gr a H H' ∧ ∃ as : List Addr, H' d = some (.lst (as.map V.ref)) ∧ as.length = i ∧ ∀ x ∈ as, x ≠ d ∧ H x = none ∧ ∃ bs : List Bool, H' x = some (.lst (bs.map V.bl)) ∧ bs.length = n.toNat)
      (by walk_at "zw") ⟨hP.mono (same_new hd), .new hd, [], upd_same, rfl, fun x hx => by cases hx⟩ ?_ ?_
    · rintro i H' hi ⟨hP', g, as, hds, hl, hall⟩
      have dne := new_ne hP hd
      walk_at "z"
      refine ⟨rfl, ?_⟩
      walk_at "z"
      -- the row
      refine r_rg1 (by omega) fun e he => lcR_range (fun j H2 => Pool H2 a s0 ∧ Gr a H' H2 ∧ ∃ bs : List Bool, H2 e = some (.lst (bs.map V.bl)) ∧ bs.length = j) (by walk_at "zw") ⟨hP'.mono (same_new he), .new he, [], upd_same, rfl⟩ ?_ ?_
      · rintro j H2 hj ⟨hP2, g2, bs, hbs, hlb⟩
        have ene := new_ne hP' he
        walk_at "z"
        refine ⟨rfl, ?_⟩
        walk_at "z"
        refine r_ite (fun h => ?_) (fun h => ?_)
        · walk_at "z"
          refine ⟨a, s0, 3, rfl, hP2, by omega, by omega, fun r H3 _ _ hP3 g3 => ?_⟩
          have hb3 := g3 _ _ ene.1 hbs
          walk_at "z"
          refine r_lce hb3 (small_lt (by rw [List.length_map]; omega)) ⟨hP3.upd ene, (g2.trans g3).mut he, bs ++ [_], by rw [List.map_append]; exact upd_same, by rw [List.length_append, hlb]; rfl⟩
        · walk_at "z"
          refine r_lce hbs (small_lt (by rw [List.length_map]; omega)) ⟨hP2.upd ene, g2.mut he, bs ++ [false], by rw [List.map_append]; exact upd_same, by rw [List.length_append, hlb]; rfl⟩
      · rintro H2 ⟨hP2, g2, bs, hbs, hlb⟩
        have ene := new_ne hP' he
        have hd2 := g2 _ _ dne.1 hds
        have ed : e ≠ d := (ne_of_none hds he).symm
        refine r_lce hd2 (small_lt (by rw [List.length_map]; omega)) ⟨hP2.upd dne, (g.trans g2).mut hd, as ++ [e], by rw [List.map_append]; exact upd_same, by rw [List.length_append, hl]; rfl, fun x hx => ?_⟩
        rcases List.mem_append.mp hx with z | z
        · obtain ⟨z1, z2, cs, z3, z4⟩ := hall x z
          exact ⟨z1, z2, cs, (upd_ne z1).trans (g2 _ _ (new_ne hP z2).1 z3), z4⟩
        · rw [List.mem_singleton.mp z]
          exact ⟨ed, g.free hP'.ne he, bs, (upd_ne ed).trans hbs, hlb⟩
    · rintro H1 ⟨hP1, g1, as, hds, hl, hall⟩
      have M1 : Mat H H1 d n.toNat := ⟨as, hds, hl, hall⟩
      walk_at "z"
      refine r_rg1 (by omega) (forR_range (fun k σ' H' => (∃ x2 x3 x5, σ' = [some (.ref a), some (.int n), x2, x3, some (.ref d), x5, none]) ∧ Pool H' a s0 ∧ Gr a H H' ∧ Mat H H' d n.toNat) ⟨⟨_, _, _, rfl⟩, hP1, g1, M1⟩ ?_ ?_)
      · rintro k σ' H' hk ⟨⟨x2, x3, x5, rfl⟩, hP', g, M⟩
        walk_at "z"
        refine r_rg1 (by omega) (forR_range (fun i σ' H' => (∃ x2 x3, σ' = [some (.ref a), some (.int n), x2, x3, some (.ref d), some (.int (0 + (k : Int))), none]) ∧ Pool H' a s0 ∧ Gr a H H' ∧ Mat H H' d n.toNat) ⟨⟨_, _, rfl⟩, hP', g, M⟩ ?_ ?_)
        · rintro i σ' H' hi ⟨⟨x2, x3, rfl⟩, hP', g, M⟩
          walk_at "z"
          refine r_rg1 (by omega) (forR_range (fun j σ' H' => (∃ x3, σ' = [some (.ref a), some (.int n), some (.int (0 + (i : Int))), x3, some (.ref d), some (.int (0 + (k : Int))), none]) ∧ Pool H' a s0 ∧ Gr a H H' ∧ Mat H H' d n.toNat) ⟨⟨_, rfl⟩, hP', g, M⟩ ?_ ?_)
          · rintro j σ' H' hj ⟨⟨x3, rfl⟩, hP', g, M⟩
            have e0 : ∀ z : Nat, (0 : Int) + (z : Int) = z := fun z => by omega
            obtain ⟨rows, x, row, c1, hb, hx, hr1, hc1⟩ := M.at hi hj
            obtain ⟨rows2, y, row2, c2, hb2, hx2, hr2, hc2⟩ := M.at hi hk
            obtain ⟨rows3, w3, row3, c3, hb3, hx3, hr3, hc3⟩ := M.at hk hj
            simp only [e0]
            rw [hb] at hb2 hb3
            cases hb2
            cases hb3
            rw [hx] at hx2
            cases hx2
            rw [hr1] at hr2
            cases hr2
            have fin : ∀ c : Bool, (∃ x3, [some (V.ref a), some (V.int n), some (V.int (i : Int)), some (V.int (j : Int)), some (V.ref d), some (V.int (k : Int)), none] = [some (V.ref a), some (V.int n), some (V.int (i : Int)), x3, some (V.ref d), some (V.int (k : Int)), none]) ∧ Pool (upd H' x (.lst (row.set j (.bl c)))) a s0 ∧ Gr a H (upd H' x (.lst (row.set j (.bl c)))) ∧ Mat H (upd H' x (.lst (row.set j (.bl c)))) d n.toNat := fun c => by
              obtain ⟨_, hn, M'⟩ := M.set (c := c) hi hb hx hr1 (j := j)
              exact ⟨⟨_, rfl⟩, hP'.upd (new_ne hP hn), g.mut hn, M'⟩
            have lr : j < row.length := by
              obtain ⟨h1, _, _⟩ := M.set (c := true) hi hb hx hr1 (j := j)
              omega
            walk_at "z"
            refine r_iteB (fun h => ?_) (fun h => ?_)
            · walk_at "z"
              refine r_setL hr1 (ixN_nat lr) ?_
              exact fin true
            · walk_at "z"
              refine r_iteB (fun h => ?_) (fun h => ?_)
              · walk_at "z"
                refine r_setL hr1 (ixN_nat lr) ?_
                exact fin c3
              · walk_at "z"
                refine r_setL hr1 (ixN_nat lr) ?_
                exact fin false
          · rintro σ' H' ⟨⟨x3, rfl⟩, hP', g, M⟩
            exact ⟨⟨_, _, rfl⟩, hP', g, M⟩
        · rintro σ' H' ⟨⟨x2, x3, rfl⟩, hP', g, M⟩
          exact ⟨⟨_, _, _, rfl⟩, hP', g, M⟩
      · rintro σ' H2 ⟨⟨x2, x3, x5, rfl⟩, hP2, g2, M⟩
        walk_at "z"
        obtain ⟨n', rfl⟩ : ∃ n' : Nat, n = (n' : Int) := ⟨n.toNat, by omega⟩
        refine ⟨n', rfl, by omega, fun f xs H4 hf s4 hx hp => ?_⟩
        have hP4 := hP2.mono s4
        have g5 : Gr a H H4 := g2.trans (.of_same s4)
        have M4 : Mat H H4 d n' := by
          obtain ⟨as, h1, h2, h3⟩ := M
          exact ⟨as, s4 _ _ h1, h2, fun y hy => by
            obtain ⟨z1, z2, cs, z3, z4⟩ := h3 y hy
            exact ⟨z1, z2, cs, s4 _ _ z3, z4⟩⟩
        refine r_il (.inl (.inl hx)) fun e he => lcR_list (xs := xs) (fun i H' => Same H4 H' ∧ ∃ ys c, H' e = some (.lst ys) ∧ Prs H' ys (((allP n').take i).filter c)) (by walk_at "zw") ⟨same_new he, [], fun _ => true, upd_same, .nil⟩ (fun i H' _ ⟨s5, _⟩ => .inl (.inl (s5 _ _ hx))) ?_ ?_
        · rintro i x H' hxi ⟨s5, ys, c, hy, hys⟩
          obtain ⟨p, hpi, hxp⟩ := pd_get (Prs.tk (.of_same s5) hp) hxi
          obtain ⟨b1, b2, b3⟩ := mem_allP.mp (List.mem_of_getElem? hpi)
          obtain ⟨t, rfl, ht⟩ := id hxp
          obtain ⟨i1, hi1⟩ : ∃ i1 : Nat, p.1 = (i1 : Int) := ⟨p.1.toNat, by omega⟩
          obtain ⟨j1, hj1⟩ : ∃ j1 : Nat, p.2 = (j1 : Int) := ⟨p.2.toNat, by omega⟩
          obtain ⟨rows, y, row, c1, hb, hx1, hr1, hc1⟩ := M4.at (i := i1) (j := j1) (by omega) (by omega)
          walk_at "z"
          refine ⟨rfl, ?_⟩
          walk_at "z"
          rw [hi1]
          refine r_ixL (.inl (.inl (s5 _ _ hb))) hx1 ?_
          walk_at "z"
          rw [hj1]
          refine r_ixL (.inl (.inl (s5 _ _ hr1))) hc1 ?_
          walk_at "z"
          obtain ⟨c', ec⟩ := flt_next hpi c c1
          refine r_iteB (fun h => ?_) (fun h => ?_)
          · walk_at "z"
            refine r_lce hy (small_lt (by rw [hys.length]; exact flt_small (by omega) c)) ⟨same_mut s5 he, _, c', upd_same, ?_⟩
            rw [ec, if_pos h]
            exact (Prs.tk (.lst hy) hys).snoc (hxp.tk (.lst hy))
          · refine ⟨s5, ys, c', hy, ?_⟩
            rw [ec, if_neg (by rw [h]; exact Bool.false_ne_true), List.append_nil]
            exact hys
        · rintro H' ⟨s5, ys, c, hy, hys⟩
          rw [hp.length, List.take_length] at hys
          walk_at "z"
          refine r_tupL (.inl (.inl hy)) fun e2 he2 => ?_
          walk_at "z"
          refine r_tupN sz2 fun t ht => ?_
          have s6 : Same H' (upd H' e2 (.tup ys)) := same_new he2
          have s7 := s6.trans (same_new (o := .tup [.int (n' : Int), .ref e2]) ht)
          exact q _ _ _ (((hP4.mono s5)).mono s7) ((g5.trans (.of_same s5)).trans (.of_same s7)) ⟨t, e2, rfl, upd_same, ys, (upd_ne (ne_of_none upd_same ht)).trans upd_same, Prs.tk (.of_same s7) hys⟩ (good_filter (by omega) c)
end

set_option Elab.async false
set_option linter.all false
set_option maxRecDepth 100000
set_option maxHeartbeats 4000000
open PySem PySem.Spec PyProof.Rows L2

abbrev s_law_drawn_tree : Stmt := topS 35
theorem sc_law_drawn_tree : FnScope ["pool", "leaves", "trees", "k", "many", "parts", "j"] ["pool", "leaves"] (defScope s_law_drawn_tree) := ⟨rfl, rfl, rfl, by decide +kernel, rfl, by decide +kernel, by decide +kernel⟩

abbrev s_law_leaves : Stmt := topS 36
theorem sc_law_leaves : FnScope ["tree", "found", "part"] ["tree"] (defScope s_law_leaves) := ⟨rfl, rfl, rfl, by decide +kernel, rfl, by decide +kernel, by decide +kernel⟩

abbrev s_law_tree_pairs : Stmt := topS 37
theorem sc_law_tree_pairs : FnScope ["tree", "found", "before", "part", "leaves", "u", "v"] ["tree"] (defScope s_law_tree_pairs) := ⟨rfl, rfl, rfl, by decide +kernel, rfl, by decide +kernel, by decide +kernel⟩

/-! ## trees -/
inductive Tr where
  | leaf (z : Int)
  | node (w : Bool) (ts : List Tr)
def wd (w : Bool) : PySem.Str := if w then "join" else "union"
mutual
def lv : Tr → List Int
  | .leaf z => [z]
  | .node _ ts => lvs ts
def lvs : List Tr → List Int
  | [] => []
  | t :: ts => lv t ++ lvs ts
end
mutual
def dp : Tr → Nat
  | .leaf _ => 0
  | .node _ ts => dps ts + 1
def dps : List Tr → Nat
  | [] => 0
  | t :: ts => max (dp t) (dps ts)
end
mutual
/-- every node has two trees or more -/
def wf : Tr → Prop
  | .leaf _ => True
  | .node _ ts => 2 ≤ ts.length ∧ wfs ts
def wfs : List Tr → Prop
  | [] => True
  | t :: ts => wf t ∧ wfs ts
end
mutual
inductive TreeAt (H : Hp) : V → Tr → Prop
  | leaf (z : Int) : TreeAt H (.int z) (.leaf z)
  | node {a : Addr} {xs : List V} {ts : List Tr} (w : Bool) (h : H a = some (.tup (.str (wd w) :: xs))) (t : TreesAt H xs ts) : TreeAt H (.ref a) (.node w ts)
inductive TreesAt (H : Hp) : List V → List Tr → Prop
  | nil : TreesAt H [] []
  | cons {x : V} {xs : List V} {t : Tr} {ts : List Tr} (h : TreeAt H x t) (r : TreesAt H xs ts) : TreesAt H (x :: xs) (t :: ts)
end
mutual
theorem TreeAt.tk {H H' : Hp} (k : TK H H') : ∀ (t : Tr) {v : V}, TreeAt H v t → TreeAt H' v t
  | .leaf _, _, .leaf z => .leaf z
  | .node _ ts, _, .node w h t => .node w (k _ _ h) (TreesAt.tk k ts t)
theorem TreesAt.tk {H H' : Hp} (k : TK H H') : ∀ (ts : List Tr) {vs : List V}, TreesAt H vs ts → TreesAt H' vs ts
  | [], _, .nil => .nil
  | t :: ts, _, .cons h r => .cons (TreeAt.tk k t h) (TreesAt.tk k ts r)
end
theorem TreesAt.pd {H : Hp} : ∀ (ts : List Tr) {vs : List V}, TreesAt H vs ts → Paired (TreeAt H) vs ts
  | [], _, .nil => .nil
  | _ :: ts, _, .cons h r => .cons h (TreesAt.pd ts r)
theorem TreesAt.of {H : Hp} : ∀ {ts : List Tr} {vs : List V}, Paired (TreeAt H) vs ts → TreesAt H vs ts
  | _, _, .nil => .nil
  | _, _, .cons h r => .cons h (TreesAt.of r)
theorem lvs_append : ∀ (ts us : List Tr), lvs (ts ++ us) = lvs ts ++ lvs us
  | [], us => by simp [lvs]
  | t :: ts, us => by simp only [List.cons_append, lvs, lvs_append ts us, List.append_assoc]
theorem wfs_mem : ∀ {ts : List Tr}, wfs ts ↔ ∀ t ∈ ts, wf t
  | [] => by simp [wfs]
  | t :: ts => by simp [wfs, wfs_mem (ts := ts)]
theorem lvs_perm {ts us : List Tr} (h : ts.Perm us) : (lvs ts).Perm (lvs us) := by
  induction h with
  | nil => exact .refl _
  | cons x _ ih => simp only [lvs]; exact ih.append_left _
  | swap x y l =>
    simp only [lvs, ← List.append_assoc]
    exact List.perm_append_comm.append_right _
  | trans _ _ h1 h2 => exact h1.trans h2
mutual
/-- depth and leaves -/
theorem dp_lv : ∀ (t : Tr), wf t → dp t + 1 ≤ (lv t).length
  | .leaf _, _ => by simp [dp, lv]
  | .node _ ts, h => by
    simp only [wf] at h
    have := dps_lvs ts h.2
    simp only [dp, lv]
    omega
theorem dps_lvs : ∀ (ts : List Tr), wfs ts → dps ts + ts.length ≤ (lvs ts).length
  | [], _ => by simp [dps, lvs]
  | t :: ts, h => by
    simp only [wfs] at h
    have h1 := dp_lv t h.1
    have h2 := dps_lvs ts h.2
    simp only [dps, lvs, List.length_append, List.length_cons]
    omega
end
theorem dps_mem : ∀ {ts : List Tr} {t : Tr}, t ∈ ts → dp t ≤ dps ts
  | [], _, h => by cases h
  | u :: ts, t, h => by
    simp only [dps]
    rcases List.mem_cons.mp h with e | e
    · rw [e]
      omega
    · have := dps_mem e
      omega
section
variable {P : Program} {w : World} {K : PySem.W.Frag} {mg : Str → Option Value} {base : Heap}
theorem r_isiInt {H : Hp} {Q : VK} {i : Int} (q : Q (.bl false) H) : rIsi K [.int i, .ty "tuple"] H Q := ⟨.int i, .ty "tuple", .type "int", .type "tuple", false, rfl, .ty _, .base (.int i), kit_ty (by decide +kernel), q⟩
theorem r_isiTup {H : Hp} {Q : VK} {a : Addr} {xs : List V} (h : H a = some (.tup xs)) (q : Q (.bl true) H) : rIsi K [.ref a, .ty "tuple"] H Q := ⟨.ref a, .ty "tuple", .type "tuple", .type "tuple", true, rfl, .ty _, .base (.tup h), kit_ty (by decide +kernel), q⟩
theorem cut_tail (x : V) (xs : List V) : cutV (x :: xs) (some 1) none = xs := by
  unfold cutV
  have e : HT.sIx (x :: xs).length 0 (some 1) = 1 := by
    rw [show (1 : Int) = ((1 : Nat) : Int) from rfl, HT.sIx_nat]
    simp only [List.length_cons]
    omega
  rw [e, HT.sIx_none]
  simp only [List.drop_succ_cons, List.drop_zero, List.length_cons, Nat.add_sub_cancel]
  exact List.take_length
/-- t[1:] -/
theorem r_tail {H : Hp} {Q : VK} {a : Addr} {x : V} {xs : List V} (h : H a = some (.tup (x :: xs))) (q : ∀ p, H p = none → Q (.ref p) (upd H p (.tup xs))) : rSlT K (.ref a) (some 1) none H Q := by
  refine ⟨a, x :: xs, rfl, .inl (.inl h), fun z => ?_, fun p hp => by rw [cut_tail]; exact q p hp⟩
  have e : HT.sIx (x :: xs).length 0 (some 1) = 1 := by
    rw [show (1 : Int) = ((1 : Nat) : Int) from rfl, HT.sIx_nat]
    simp only [List.length_cons]
    omega
  rw [e] at z
  exact absurd z.1 (by decide)
/-- the leaves from the left -/
def spLeaves (d : Nat) : Sp := fun vs H Q _ => ∃ (v : V) (t : Tr), vs = [v] ∧ TreeAt H v t ∧ dp t < d ∧ (lv t).length ≤ 100 ∧ ∀ (l : Addr) (H' : Hp), Same H H' → H' l = some (.lst ((lv t).map V.int)) → Q (.ref l) H'
theorem ok_leaves (T : Blt mg) (D_law_leaves : DefAt K mg "_law_leaves" s_law_leaves ["tree"]) : ∀ d : Nat, FnOk P w K mg base CX0 d D_law_leaves.f D_law_leaves.fd ["tree"] (spLeaves d)
  | 0 => fn_none.imp fun vs H Q E h => by
    obtain ⟨_, _, _, _, h, _⟩ := h
    omega
  | d + 1 => by
    have G_law_leaves := ok_leaves T D_law_leaves d
    refine D_law_leaves.F.ok sc_law_leaves (fun vs H Q E h => ?_) (fun cdv A outer s H vs Q E hr h => ?_)
    · obtain ⟨v, t, rfl, _⟩ := h
      rfl
    · obtain ⟨v, t, rfl, ht, hd, hl, q⟩ := h
      refine ⟨_, (pss_cons (ps_if (pt_not (pt_val (pe_callB (call_isiK (K := K) rfl) (by rfl) T.isinstance (by decide +kernel) (pa_cons (pv 0) (pa_cons (pe_bltn (v := .ty "tuple") (u := .type "tuple") (by rfl) T.tuple (by decide +kernel) rfl) pa_nil)))))
        (pss_one (ps_ret (pe_lst (pa_cons (pv 0) pa_nil))))
        pss_nil)
      (pss_cons (ps_set (i := 1) sc_law_leaves.nd rfl (Or.inl rfl) (pe_lst pa_nil))
      (pss_cons (ps_for PassesOwn.never (by rfl) (PI.tupK (K := K) rfl (pi_tup (pe_slice (sl_tupK (K := K) rfl) (pv 0) (po_some pe_int) po_none))) (pg_name (i := 2) sc_law_leaves.nd rfl (Or.inl rfl))
        (pss_one (ps_set (i := 1) sc_law_leaves.nd rfl (Or.inl rfl) (pe_op op_cat (pv 1) (pe_call G_law_leaves (hr.mono (by first | decide | omega)) (by rfl) D_law_leaves.g D_law_leaves.F.kp D_law_leaves.b .nil pass0 (pa_cons (pv 2) pa_nil))))))
      (pss_one (ps_ret (pv 1)))))), ?_⟩
      refine r_at (σ := [some _, none, none]) rfl ?_
      cases ht with
      | leaf z =>
        walk_at "z"
        refine r_isiInt ?_
        walk_at "z"
        refine iteT ?_
        walk_at "z"
        refine r_lstN sz1 fun l hl => ?_
        exact q l _ (same_new hl) upd_same
      | @node a xs ts w0 ha hts =>
        walk_at "z"
        refine r_isiTup ha ?_
        walk_at "z"
        refine iteF ?_
        walk_at "z"
        refine r_lstN (by decide) fun f hf => ?_
        walk_at "z"
        have ha1 : (upd H f (.lst [])) a = some (.tup (.str (wd w0) :: xs)) := same_new hf _ _ ha
        refine r_tail ha1 fun p hp => ?_
        have fp : f ≠ p := ne_of_none upd_same hp
        have sp : Same H (upd (upd H f (.lst [])) p (.tup xs)) := (same_new hf).trans (same_new hp)
        have pr := hts.pd
        refine r_it (.inl (.inl upd_same)) (forR_tup (xs := xs) (fun i σ' H' => (∃ b x2, σ' = [some (.ref a), some (.ref b), x2] ∧ H' b = some (.lst ((lvs (ts.take i)).map V.int))) ∧ Same H H' ∧ H' p = some (.tup xs)) ⟨⟨f, _, rfl, (upd_ne fp).trans upd_same⟩, sp, upd_same⟩ (fun i σ' H' _ ⟨_, _, h⟩ => .inl (.inl h)) ?_ ?_)
        · rintro i x σ' H' hx ⟨⟨b, x2, rfl, hb⟩, sm, hp'⟩
          obtain ⟨t, hti, hxt⟩ := pd_get pr hx
          have hm := List.mem_of_getElem? hti
          have h1 : dp t < d := by
            have := dps_mem hm
            simp only [dp] at hd
            omega
          have e1 : ts.take (i + 1) = ts.take i ++ [t] := take_next hti
          have e2 : lvs (ts.take (i + 1)) = lvs (ts.take i) ++ lv t := by
            rw [e1, lvs_append]
            simp [lvs]
          have le : (lvs (ts.take i)).length + (lv t).length ≤ 100 := by
            have e3 : lvs ts = lvs (ts.take (i + 1)) ++ lvs (ts.drop (i + 1)) := by rw [← lvs_append, List.take_append_drop]
            have e4 := congrArg List.length e3
            rw [e2] at e4
            simp only [List.length_append] at e4
            simp only [lv] at hl
            omega
          walk_at "z"
          refine ⟨x, t, rfl, hxt.tk (.of_same sm), h1, by omega, fun l H2 s2 hll => ?_⟩
          walk_at "z"
          refine r_cat (s2 _ _ hb) hll (by simp only [List.length_map]; omega) fun c hc => ?_
          walk_at "z"
          refine ⟨⟨c, _, rfl, ?_⟩, (sm.trans s2).trans (same_new hc), same_new hc _ _ (s2 _ _ hp')⟩
          rw [e2, List.map_append]
          exact upd_same
        · rintro σ' H' ⟨⟨b, x2, rfl, hb⟩, sm, hp'⟩
          walk_at "z"
          rw [pr.length, List.take_length] at hb
          exact q b H' sm hb
/-- the pairs that a join joins -/
def spTreePairs (d : Nat) : Sp := fun vs H Q _ => ∃ (v : V) (t : Tr), vs = [v] ∧ TreeAt H v t ∧ dp t < d ∧ (lv t).length ≤ 60 ∧ (lv t).Nodup ∧ ∀ (l : Addr) (xs : List V) (ps : List (Int × Int)) (H' : Hp), Same H H' → H' l = some (.lst xs) → Prs H' xs ps →
  (∀ p ∈ ps, p.1 ∈ lv t ∧ p.2 ∈ lv t ∧ p.1 ≠ p.2) → ps.length ≤ (lv t).length * (lv t).length → Q (.ref l) H'
theorem r_eqJoin {H : Hp} {Q : VK} {w0 : Bool} (q : Q (.bl w0) H) : rEq (.str (wd w0)) (.str "join") H Q := by
  refine ⟨rfl, ?_⟩
  cases w0 with
  | true => exact q
  | false => exact q
theorem ok_tree_pairs (T : Blt mg) (D_law_tree_pairs : DefAt K mg "_law_tree_pairs" s_law_tree_pairs ["tree"]) (D_law_leaves : DefAt K mg "_law_leaves" s_law_leaves ["tree"]) : ∀ d : Nat, FnOk P w K mg base CX0 (d + 1) D_law_tree_pairs.f D_law_tree_pairs.fd ["tree"] (spTreePairs d)
  | 0 => fn_none.imp fun vs H Q E h => by
    obtain ⟨_, _, _, _, h, _⟩ := h
    omega
  | d + 1 => by
    have G_law_tree_pairs := ok_tree_pairs T D_law_tree_pairs D_law_leaves d
    have G_law_leaves : FnOk P w K mg base CX0 d D_law_leaves.f D_law_leaves.fd ["tree"] (spLeaves d) := ok_leaves T D_law_leaves d
    refine D_law_tree_pairs.F.ok sc_law_tree_pairs (fun vs H Q E h => ?_) (fun cdv A outer s H vs Q E hr h => ?_)
    · obtain ⟨v, t, rfl, _⟩ := h
      rfl
    · obtain ⟨v, t, rfl, ht, hd, hl, nd, q⟩ := h
      refine ⟨_, (pss_cons (ps_if (pt_not (pt_val (pe_callB (call_isiK (K := K) rfl) (by rfl) T.isinstance (by decide +kernel) (pa_cons (pv 0) (pa_cons (pe_bltn (v := .ty "tuple") (u := .type "tuple") (by rfl) T.tuple (by decide +kernel) rfl) pa_nil)))))
        (pss_one (ps_ret (pe_lst pa_nil)))
        pss_nil)
      (pss_cons (ps_set (i := 1) sc_law_tree_pairs.nd rfl (Or.inl rfl) (pe_lst pa_nil))
      (pss_cons (ps_set (i := 2) sc_law_tree_pairs.nd rfl (Or.inl rfl) (pe_lst pa_nil))
      (pss_cons (ps_for PassesOwn.never (by rfl) (PI.tupK (K := K) rfl (pi_tup (pe_slice (sl_tupK (K := K) rfl) (pv 0) (po_some pe_int) po_none))) (pg_name (i := 3) sc_law_tree_pairs.nd rfl (Or.inl rfl))
        (pss_cons (ps_set (i := 1) sc_law_tree_pairs.nd rfl (Or.inl rfl) (pe_op op_cat (pv 1) (pe_call G_law_tree_pairs (hr.mono (by first | decide | omega)) (by rfl) D_law_tree_pairs.g D_law_tree_pairs.F.kp D_law_tree_pairs.b .nil pass0 (pa_cons (pv 3) pa_nil))))
        (pss_cons (ps_set (i := 4) sc_law_tree_pairs.nd rfl (Or.inl rfl) (pe_call G_law_leaves (hr.mono (by first | decide | omega)) (by rfl) D_law_leaves.g D_law_leaves.F.kp D_law_leaves.b .nil pass0 (pa_cons (pv 3) pa_nil)))
        (pss_cons (ps_if (pt_cmpR op_eq (pe_ix (ix_tupK (K := K) rfl) (pv 0) pe_int (fun _ _ => rfl)) pe_str (nomark _))
          (pss_one (ps_for PassesOwn.never (by rfl) (PI.listK (K := K) rfl (pi_list (pv 2))) (pg_name (i := 5) sc_law_tree_pairs.nd rfl (Or.inr rfl))
            (pss_one (ps_set (i := 1) sc_law_tree_pairs.nd rfl (Or.inl rfl) (pe_op op_cat (pv 1) (pe_lc (own := [("v", 6)]) (by rfl) sc_law_tree_pairs.nd (PI.listK (K := K) rfl (pi_list (pv 4))) (blkOk_by (own := [("v", 6)]) (N := ["tree", "found", "before", "part", "leaves", "u", "v"]) (sc := (defScope s_law_tree_pairs)) (by decide +kernel)) (fun _ _ _ _ _ => (pg_name (i := 6) sc_law_tree_pairs.nd rfl (Or.inl rfl))) (fun _ _ _ _ _ => pts_nil) (fun _ _ _ _ _ => (pe_tup (pa_cons (pe_callB (call_min2' rfl) (by rfl) T.min (by decide +kernel) (pa_cons (pv 5) (pa_cons (pv 6) pa_nil))) (pa_cons (pe_callB (call_max2' rfl) (by rfl) T.max (by decide +kernel) (pa_cons (pv 5) (pa_cons (pv 6) pa_nil))) pa_nil))))))))))
          pss_nil)
        (pss_one (ps_set (i := 2) sc_law_tree_pairs.nd rfl (Or.inl rfl) (pe_op op_cat (pv 2) (pv 4))))))))
      (pss_one (ps_ret (pv 1))))))), ?_⟩
      refine r_at (σ := [some _, none, none, none, none, none, none]) rfl ?_
      cases ht with
      | leaf z =>
        walk_at "z"
        refine r_isiInt ?_
        walk_at "z"
        refine iteT ?_
        walk_at "z"
        refine r_lstN (by decide) fun l hl => ?_
        exact q l [] [] _ (same_new hl) upd_same .nil (fun p hp => by cases hp) (Nat.zero_le _)
      | @node a xs ts w0 ha hts =>
        walk_at "z"
        refine r_isiTup ha ?_
        walk_at "z"
        refine iteF ?_
        walk_at "z"
        refine r_lstN (by decide) fun f hf => ?_
        walk_at "z"
        refine r_lstN (by decide) fun b0 hb0 => ?_
        have sb := (same_new (o := .lst []) hf).trans (same_new (o := .lst []) hb0)
        have ha1 := sb _ _ ha
        have fb : f ≠ b0 := ne_of_none upd_same hb0
        walk_at "z"
        refine r_tail ha1 fun p hp => ?_
        have sp := sb.trans (same_new (o := .tup xs) hp)
        have bp : b0 ≠ p := ne_of_none upd_same hp
        have fp : f ≠ p := ne_of_none ((upd_ne fb).trans upd_same) hp
        have pr := hts.pd
        simp only [lv] at hl nd q
        refine r_it (.inl (.inl upd_same)) (forR_tup (xs := xs) (fun i σ' H' => (∃ f b x3 x4 x5, σ' = [some (.ref a), some (.ref f), some (.ref b), x3, x4, x5, none] ∧ H' b = some (.lst ((lvs (ts.take i)).map V.int)) ∧ ∃ ys ps, H' f = some (.lst ys) ∧ Prs H' ys ps ∧ (∀ p ∈ ps, p.1 ∈ lvs (ts.take i) ∧ p.2 ∈ lvs (ts.take i) ∧ p.1 ≠ p.2) ∧ ps.length ≤ (lvs (ts.take i)).length * (lvs (ts.take i)).length) ∧ Same H H' ∧ H' p = some (.tup xs))
          ⟨⟨f, b0, _, _, _, rfl, (upd_ne bp).trans upd_same, [], [], (upd_ne fp).trans ((upd_ne fb).trans upd_same), .nil, (fun p hp => by cases hp), Nat.zero_le _⟩, sp, upd_same⟩ (fun i σ' H' _ ⟨_, _, h⟩ => .inl (.inl h)) ?_ ?_)
        · rintro i x σ' H' hx ⟨⟨f, b, x3, x4, x5, rfl, hb, ys, ps, hy, hys, mem, len⟩, sm, hp'⟩
          obtain ⟨t, hti, hxt⟩ := pd_get pr hx
          have hm := List.mem_of_getElem? hti
          have h1 : dp t < d := by
            have := dps_mem hm
            simp only [dp] at hd
            omega
          have e1 : ts.take (i + 1) = ts.take i ++ [t] := take_next hti
          have e2 : lvs (ts.take (i + 1)) = lvs (ts.take i) ++ lv t := by
            rw [e1, lvs_append]
            simp [lvs]
          have e3 : lvs ts = lvs (ts.take i) ++ lv t ++ lvs (ts.drop (i + 1)) := by rw [← e2, ← lvs_append, List.take_append_drop]
          have le : (lvs (ts.take i)).length + (lv t).length ≤ 60 := by
            have e4 := congrArg List.length e3
            simp only [List.length_append] at e4
            omega
          rw [e3] at nd
          obtain ⟨nd1, _, _⟩ := List.nodup_append.mp nd
          obtain ⟨_, ndt, dis⟩ := List.nodup_append.mp nd1
          walk_at "z"
          refine ⟨x, t, rfl, hxt.tk (.of_same sm), h1, by omega, ndt, fun l zs rs H2 s2 hz hzs memr lenr => ?_⟩
          walk_at "z"
          have hy2 := s2 _ _ hy
          have hb2 := s2 _ _ hb
          have lps : ps.length ≤ 60 * 60 := Nat.le_trans len (Nat.mul_le_mul (by omega) (by omega))
          have lrs : rs.length ≤ 60 * 60 := Nat.le_trans lenr (Nat.mul_le_mul (by omega) (by omega))
          refine r_cat hy2 hz (by rw [hys.length, hzs.length]; omega) fun c hc => ?_
          have s3 : Same H2 (upd H2 c (.lst (ys ++ zs))) := same_new hc
          have sm2 := sm.trans s2
          have sm3 := sm2.trans s3
          have prc := pd_append (Prs.tk (.of_same (s2.trans s3)) hys) (Prs.tk (.of_same s3) hzs)
          walk_at "z"
          refine ⟨x, t, rfl, hxt.tk (.of_same sm3), h1, by omega, fun l3 H3 s4 hl4 => ?_⟩
          have sm4 := sm3.trans s4
          have ha4 := sm4 _ _ ha
          have hb4 := s4 _ _ (s3 _ _ hb2)
          have hc4 : H3 c = some (.lst (ys ++ zs)) := s4 _ _ upd_same
          have hp4 := s4 _ _ (s3 _ _ (s2 _ _ hp'))
          have prc4 := Prs.tk (.of_same s4) prc
          have memB : ∀ z ∈ lvs (ts.take i), z ∈ lvs (ts.take (i + 1)) := fun z hz => by rw [e2]; exact List.mem_append_left _ hz
          have memL : ∀ z ∈ lv t, z ∈ lvs (ts.take (i + 1)) := fun z hz => by rw [e2]; exact List.mem_append_right _ hz
          have memc : ∀ p ∈ ps ++ rs, p.1 ∈ lvs (ts.take (i + 1)) ∧ p.2 ∈ lvs (ts.take (i + 1)) ∧ p.1 ≠ p.2 := fun p hp => by
            rcases List.mem_append.mp hp with z | z
            · obtain ⟨m1, m2, m3⟩ := mem p z
              exact ⟨memB _ m1, memB _ m2, m3⟩
            · obtain ⟨m1, m2, m3⟩ := memr p z
              exact ⟨memL _ m1, memL _ m2, m3⟩
          have sq : (lvs (ts.take (i + 1))).length * (lvs (ts.take (i + 1))).length = (lvs (ts.take i)).length * (lvs (ts.take i)).length + (lv t).length * (lv t).length + 2 * ((lvs (ts.take i)).length * (lv t).length) := by
            rw [e2, List.length_append, Nat.add_mul, Nat.mul_add, Nat.mul_add, Nat.mul_comm (lv t).length (lvs (ts.take i)).length]
            omega
          have bnd : (lvs (ts.take i)).length * (lv t).length ≤ 60 * 60 := Nat.mul_le_mul (by omega) (by omega)
          walk_at "z"
          refine r_eqJoin ?_
          walk_at "z"
          refine r_iteB (fun hw => ?_) (fun hw => ?_)
          · walk_at "z"
            refine r_il (.inl (.inl hb4)) (forR_list (xs := (lvs (ts.take i)).map V.int) (fun j σ' H' => (∃ f x5, σ' = [some (.ref a), some (.ref f), some (.ref b), some x, some (.ref l3), x5, none] ∧ ∃ ys ps, H' f = some (.lst ys) ∧ Prs H' ys ps ∧ (∀ p ∈ ps, p.1 ∈ lvs (ts.take (i + 1)) ∧ p.2 ∈ lvs (ts.take (i + 1)) ∧ p.1 ≠ p.2) ∧ ps.length ≤ (lvs (ts.take i)).length * (lvs (ts.take i)).length + (lv t).length * (lv t).length + j * (lv t).length) ∧ Same H3 H')
              ⟨⟨c, _, rfl, _, _, hc4, prc4, memc, by rw [List.length_append]; omega⟩, .refl _⟩ (fun j σ' H' _ ⟨_, s5⟩ => .inl (.inl (s5 _ _ hb4))) ?_ ?_)
            · rintro j u0 σ' H' hu ⟨⟨f, x5, rfl, ys, ps, hy, hys, mem2, len2⟩, s5⟩
              rw [List.getElem?_map] at hu
              obtain ⟨u, hu2, rfl⟩ := Option.map_eq_some_iff.mp hu
              have uB := List.mem_of_getElem? hu2
              have jl : j < (lvs (ts.take i)).length := (List.getElem?_eq_some_iff.mp hu2).1
              have jb : j * (lv t).length ≤ 60 * 60 := Nat.mul_le_mul (by omega) (by omega)
              have bb : (lvs (ts.take i)).length * (lvs (ts.take i)).length ≤ 60 * 60 := Nat.mul_le_mul (by omega) (by omega)
              have ll : (lv t).length * (lv t).length ≤ 60 * 60 := Nat.mul_le_mul (by omega) (by omega)
              walk_at "z"
              refine r_il (.inl (.inl (s5 _ _ hl4))) fun e he => lcR_list (xs := (lv t).map V.int) (fun k H6 => Same H' H6 ∧ ∃ zs, H6 e = some (.lst zs) ∧ Prs H6 zs (((lv t).take k).map fun v => (min u v, max u v))) (by walk_at "zw") ⟨same_new he, [], upd_same, .nil⟩ (fun k H6 _ ⟨s6, _⟩ => .inl (.inl (s6 _ _ (s5 _ _ hl4)))) ?_ ?_
              · rintro k v0 H6 hv ⟨s6, zs, hz, hzs⟩
                rw [List.getElem?_map] at hv
                obtain ⟨v, hv2, rfl⟩ := Option.map_eq_some_iff.mp hv
                walk_at "z"
                refine ⟨rfl, ?_⟩
                walk_at "z"
                refine r_tupN sz2 fun t2 ht2 => ?_
                refine r_lce (by walk_at "zh") (small_lt ?_) ⟨same_mut (s6.trans (same_new ht2)) he, _, upd_same, ?_⟩
                · rw [hzs.length, List.length_map, List.length_take]
                  omega
                · rw [take_next hv2, List.map_append]
                  exact prs_push hz hzs ht2
              · rintro H6 ⟨s6, zs, hz, hzs⟩
                rw [List.length_map, List.take_length] at hzs
                refine r_cat (s6 _ _ hy) hz (by rw [hys.length, hzs.length, List.length_map]; omega) fun g hg => ?_
                walk_at "z"
                refine ⟨⟨g, _, rfl, _, _, upd_same, Prs.tk (.new hg) (pd_append (Prs.tk (.of_same s6) hys) hzs), fun p hp => ?_, ?_⟩, (s5.trans s6).trans (same_new hg)⟩
                · rcases List.mem_append.mp hp with z | z
                  · exact mem2 p z
                  · obtain ⟨v, hv, rfl⟩ := List.mem_map.mp z
                    have ne := dis u uB v hv
                    have mu := memB u uB
                    have mv := memL v hv
                    rcases Int.lt_or_lt_of_ne ne with q1 | q1
                    · rw [Int.min_eq_left (Int.le_of_lt q1), Int.max_eq_right (Int.le_of_lt q1)]
                      exact ⟨mu, mv, ne⟩
                    · rw [Int.min_eq_right (Int.le_of_lt q1), Int.max_eq_left (Int.le_of_lt q1)]
                      exact ⟨mv, mu, ne.symm⟩
                · rw [List.length_append, List.length_map, Nat.succ_mul]
                  omega
            · rintro σ' H' ⟨⟨f, x5, rfl, ys, ps, hy, hys, mem2, len2⟩, s5⟩
              walk_at "z"
              rw [List.length_map] at len2
              refine r_cat (s5 _ _ hb4) (s5 _ _ hl4) (by simp only [List.length_map]; omega) fun g hg => ?_
              walk_at "z"
              refine ⟨⟨f, g, _, _, _, rfl, ?_, ys, ps, same_new hg _ _ hy, Prs.tk (.new hg) hys, mem2, ?_⟩, (sm4.trans s5).trans (same_new hg), same_new hg _ _ (s5 _ _ hp4)⟩
              · rw [e2, List.map_append]
                exact upd_same
              · rw [sq]
                omega
          · walk_at "z"
            refine r_cat hb4 hl4 (by simp only [List.length_map]; omega) fun g hg => ?_
            walk_at "z"
            refine ⟨⟨c, g, _, _, _, rfl, ?_, _, _, same_new hg _ _ hc4, Prs.tk (.new hg) prc4, memc, ?_⟩, sm4.trans (same_new hg), same_new hg _ _ hp4⟩
            · rw [e2, List.map_append]
              exact upd_same
            · rw [sq, List.length_append]
              omega
        · rintro σ' H' ⟨⟨f, b, x3, x4, x5, rfl, hb, ys, ps, hy, hys, mem, len⟩, sm, hp'⟩
          walk_at "z"
          rw [pr.length, List.take_length] at mem len
          exact q f ys ps H' sm hy hys mem len
/-- a drawn tree over some of the leaves -/
def spDrawn : Sp := fun vs H Q _ => ∃ (a s l : Addr) (ns : List Int), vs = [.ref a, .ref l] ∧ Pool H a s ∧ H l = some (.lst (ns.map V.int)) ∧ 1 ≤ ns.length ∧ ns.length ≤ 60 ∧
  ∀ (v : V) (t : Tr) (H' : Hp), Pool H' a s → Gr a H H' → TreeAt H' v t → wf t → (∃ ms, (lv t ++ ms).Perm ns) → Q v H'
theorem leafs {H : Hp} : ∀ ns : List Int, Paired (TreeAt H) (ns.map V.int) (ns.map Tr.leaf)
  | [] => .nil
  | n :: ns => .cons (.leaf n) (leafs ns)
theorem lvs_leafs : ∀ ns : List Int, lvs (ns.map Tr.leaf) = ns
  | [] => rfl
  | n :: ns => by simp [lvs, lv, lvs_leafs ns]
theorem pdT_tk {H H' : Hp} (k : TK H H') {vs : List V} {ts : List Tr} (h : Paired (TreeAt H) vs ts) : Paired (TreeAt H') vs ts := (TreesAt.tk k ts (TreesAt.of h)).pd
theorem pd_erase {α β : Type} {F : α → β → Prop} : ∀ {xs : List α} {ps : List β} (k : Nat), Paired F xs ps → Paired F (xs.eraseIdx k) (ps.eraseIdx k)
  | _, _, _, .nil => .nil
  | _, _, 0, .cons _ t => t
  | _, _, k + 1, .cons f t => .cons f (pd_erase k t)
theorem ok_drawn (T : Blt mg) (D : DefAt K mg "_law_drawn_tree" s_law_drawn_tree ["pool", "leaves"]) (D_law_draw : DefAt K mg "_law_draw" s_law_draw ["pool", "many"]) (G_law_draw : FnOk P w K mg base CX0 2 D_law_draw.f D_law_draw.fd ["pool", "many"] spDraw) :
    FnOk P w K mg base CX0 4 D.f D.fd ["pool", "leaves"] spDrawn := by
  refine D.F.ok sc_law_drawn_tree (fun vs H Q E h => ?_) (fun cdv A outer s H vs Q E hr h => ?_)
  · obtain ⟨a, s, l, ns, rfl, _⟩ := h
    rfl
  · obtain ⟨a, s0, l, ns, rfl, hP, hl, l1, l2, q⟩ := h
    refine ⟨_, (pss_cons (ps_set (i := 2) sc_law_drawn_tree.nd rfl (Or.inr rfl) (pe_callTy (call_listK (K := K) rfl) (by rfl) T.list (by decide +kernel) (pa_cons (pv 1) pa_nil)))
      (pss_cons (ps_for PassesOwn.never (by rfl) (pi_range1 (by rfl) T.range (pa_cons (pe_op op_sub (pe_callB (call_lenK (K := K) rfl) (by rfl) T.len (by decide +kernel) (pa_cons (pv 2) pa_nil)) pe_int) pa_nil)) (pg_name (i := 3) sc_law_drawn_tree.nd rfl (Or.inl rfl))
        (pss_one (ps_if (pt_cmpR op_gt (pe_callB (call_lenK (K := K) rfl) (by rfl) T.len (by decide +kernel) (pa_cons (pv 2) pa_nil)) pe_int (nomark _))
          (pss_cons (ps_set (i := 4) sc_law_drawn_tree.nd rfl (Or.inl rfl) (pe_callB (call_min2' rfl) (by rfl) T.min (by decide +kernel) (pa_cons (pe_callB (call_lenK (K := K) rfl) (by rfl) T.len (by decide +kernel) (pa_cons (pv 2) pa_nil)) (pa_cons (pe_op op_add pe_int (pe_call G_law_draw (hr.mono (by first | decide | omega)) (by rfl) D_law_draw.g D_law_draw.F.kp D_law_draw.b .nil pass0 (pa_cons (pv 0) (pa_cons pe_int pa_nil)))) pa_nil))))
          (pss_cons (ps_setLc (i := 5) (own := [("j", 6)]) (by rfl) sc_law_drawn_tree.nd rfl rfl (sw_true rfl rfl rfl (by decide +kernel)) (pi_range1 (by rfl) T.range (pa_cons (pv 4) pa_nil)) (blkOk_by (own := [("j", 6)]) (N := ["pool", "leaves", "trees", "k", "many", "parts", "j"]) (sc := (defScope s_law_drawn_tree)) (by decide +kernel)) (fun _ _ _ _ _ => (pg_name (i := 6) sc_law_drawn_tree.nd rfl (Or.inl rfl))) (fun _ _ _ _ _ => pts_nil) (fun _ _ _ _ _ => (PE.bmK (K := K) rfl (pe_bm PySem.F.plainAttrs_list PySem.F.slot_list_pop PySem.F.type_list_pop mt_popAt (pv 2) (pa_cons (pe_call G_law_draw (hr.mono (by first | decide | omega)) (by rfl) D_law_draw.g D_law_draw.F.kp D_law_draw.b .nil pass0 (pa_cons (pv 0) (pa_cons (pe_callB (call_lenK (K := K) rfl) (by rfl) T.len (by decide +kernel) (pa_cons (pv 2) pa_nil)) pa_nil))) pa_nil)))))
          (pss_one (ps_expr (PE.bmK (K := K) rfl (pe_bm PySem.F.plainAttrs_list PySem.F.slot_list_append PySem.F.type_list_append mt_append (pv 2) (pa_cons (pe_op (op_catTK (K := K) rfl) (pe_tup (pa_cons (pe_ix (ix_listK (K := K) rfl) (pe_lst (pa_cons pe_str (pa_cons pe_str pa_nil))) (pe_call G_law_draw (hr.mono (by first | decide | omega)) (by rfl) D_law_draw.g D_law_draw.F.kp D_law_draw.b .nil pass0 (pa_cons (pv 0) (pa_cons pe_int pa_nil))) (fun _ _ => rfl)) pa_nil)) (pe_callTy (call_tupleK (K := K) rfl) (by rfl) T.tuple (by decide +kernel) (pa_cons (pv 5) pa_nil))) pa_nil)))))))
          pss_nil)))
      (pss_one (ps_ret (pe_ix (ix_listK (K := K) rfl) (pv 2) pe_int (fun _ _ => rfl)))))), ?_⟩
    refine r_at (σ := [some _, some _, none, none, none, none, none]) rfl ?_
    walk_at "z"
    refine r_listL (.inl (.inl hl)) fun r hr0 => ?_
    have rne := new_ne hP hr0
    walk_at "z"
    rw [List.length_map]
    refine r_rg1 (by omega) (forR_range (fun i σ' H' => (∃ x3 x4 x5, σ' = [some (.ref a), some (.ref l), some (.ref r), x3, x4, x5, none]) ∧ Pool H' a s0 ∧ Gr a H H' ∧ ∃ vs ts, H' r = some (.lst vs) ∧ Paired (TreeAt H') vs ts ∧ (lvs ts).Perm ns ∧ (∀ t ∈ ts, wf t) ∧ 1 ≤ ts.length ∧ ts.length ≤ 60)
      ⟨⟨_, _, _, rfl⟩, hP.mono (same_new hr0), .new hr0, _, ns.map Tr.leaf, upd_same, leafs ns, by rw [lvs_leafs], ?_, by rw [List.length_map]; exact l1, by rw [List.length_map]; exact l2⟩ ?_ ?_)
    · intro t ht
      obtain ⟨z, _, rfl⟩ := List.mem_map.mp ht
      simp [wf]
    · rintro i σ' H' hi ⟨⟨x3, x4, x5, rfl⟩, hP', g, vs, ts, hv, hvt, pm, hwf, t1, t2⟩
      walk_at "z"
      rw [hvt.length]
      refine r_ite (fun h => ?_) (fun h => ?_)
      · walk_at "z"
        refine ⟨a, s0, 2, rfl, hP', by omega, by omega, fun c H1 c0 c1 hP1 g1 => ?_⟩
        have hv1 := g1 _ _ rne.1 hv
        have hvt1 := pdT_tk (g1.tk hP') hvt
        walk_at "z"
        rw [hvt.length]
        obtain ⟨m, hm⟩ : ∃ m : Nat, min (ts.length : Int) (2 + c) = (m : Int) := ⟨(min (ts.length : Int) (2 + c)).toNat, by omega⟩
        rw [hm]
        refine r_rg1 (by omega) fun d hd => lcR_range (fun j H2 => Pool H2 a s0 ∧ Gr a H H2 ∧ ∃ vs2 ts2 us qs, H2 r = some (.lst vs2) ∧ Paired (TreeAt H2) vs2 ts2 ∧ H2 d = some (.lst us) ∧ Paired (TreeAt H2) us qs ∧ (ts2 ++ qs).Perm ts ∧ qs.length = j)
          (by walk_at "zw") ⟨hP1.mono (same_new hd), (g.trans g1).trans (.new hd), vs, ts, [], [], same_new hd _ _ hv1, pdT_tk (.new hd) hvt1, upd_same, .nil, by rw [List.append_nil], rfl⟩ ?_ ?_
        · rintro j H2 hj ⟨hP2, g2, vs2, ts2, us, qs, hv2, hvt2, hu, hut, pm2, hlq⟩
          have dne := new_ne hP1 hd
          have dr : d ≠ r := (ne_of_none hv1 hd).symm
          have lts : ts2.length + j = ts.length := by
            have := pm2.length_eq
            rw [List.length_append, hlq] at this
            omega
          walk_at "z"
          refine ⟨rfl, ?_⟩
          walk_at "z"
          rw [hvt2.length]
          refine ⟨a, s0, _, rfl, hP2, by omega, by omega, fun b H3 b0 b1 hP3 g3 => ?_⟩
          have hv3 := g3 _ _ rne.1 hv2
          have hvt3 := pdT_tk (g3.tk hP2) hvt2
          have hu3 := g3 _ _ dne.1 hu
          have hut3 := pdT_tk (g3.tk hP2) hut
          walk_at "z"
          have hb : b.toNat < ts2.length := by omega
          have gt : ts2[b.toNat]? = some ts2[b.toNat] := List.getElem?_eq_getElem hb
          obtain ⟨y, hy, hyt⟩ := pd_get2 hvt3 gt
          refine r_popAt hv3 (k := b.toNat) (y := y) (by omega) (by omega) hy ?_
          have k4 : TK H3 (upd H3 r (.lst (vs2.eraseIdx b.toNat))) := .lst hv3
          have k5 : TK H3 (upd (upd H3 r (.lst (vs2.eraseIdx b.toNat))) d (.lst (us ++ [y]))) := k4.trans (.lst ((upd_ne dr).trans hu3))
          refine r_lce ((upd_ne dr).trans hu3) (small_lt (by rw [hut.length]; omega)) ⟨(hP3.upd rne).upd dne, ((g2.trans g3).mut hr0).mut ((g.trans g1).free hP1.ne hd), vs2.eraseIdx b.toNat, ts2.eraseIdx b.toNat, us ++ [y], qs ++ [ts2[b.toNat]], (upd_ne (Ne.symm dr)).trans upd_same, pdT_tk k5 (pd_erase _ hvt3), upd_same, (pdT_tk k5 hut3).snoc (TreeAt.tk k5 _ hyt), ?_, by rw [List.length_append, hlq]; rfl⟩
          refine List.Perm.trans ?_ pm2
          have p1 : (ts2.eraseIdx b.toNat ++ (qs ++ [ts2[b.toNat]])).Perm ([ts2[b.toNat]] ++ (ts2.eraseIdx b.toNat ++ qs)) := by
            rw [← List.append_assoc]
            exact List.perm_append_comm
          exact p1.trans ((get_erase_perm ts2 gt).append_right qs)
        · rintro H2 ⟨hP2, g2, vs2, ts2, us, qs, hv2, hvt2, hu, hut, pm2, hlq⟩
          have dne := new_ne hP1 hd
          walk_at "z"
          refine r_lstN sz2 fun e he => ?_
          have hP3 := hP2.mono (same_new (o := .lst [.str "union", .str "join"]) he)
          walk_at "z"
          refine ⟨a, s0, 2, rfl, hP3, by omega, by omega, fun b H3 b0 b1 hP4 g3 => ?_⟩
          have he3 := g3 _ _ (new_ne hP2 he).1 upd_same
          obtain ⟨w0, hw⟩ : ∃ w0 : Bool, atI [V.str "union", V.str "join"] b = some (.str (wd w0)) := by
            have e : b = 0 ∨ b = 1 := by omega
            rcases e with e | e <;> subst e
            · exact ⟨false, rfl⟩
            · exact ⟨true, rfl⟩
          have s1 : Gr a H2 H3 := (Gr.new he).trans g3
          have hv3 := s1 _ _ rne.1 hv2
          have hu3 := s1 _ _ dne.1 hu
          walk_at "z"
          refine r_tupN sz1 fun t3 ht3 => ?_
          have k3 : Same H3 (upd H3 t3 (.tup [.str (wd w0)])) := same_new ht3
          have hu4 := k3 _ _ hu3
          walk_at "z"
          refine r_tupL (.inl (.inl hu4)) fun t4 ht4 => ?_
          have k4 := k3.trans (same_new (o := .tup us) ht4)
          have t34 : t3 ≠ t4 := ne_of_none upd_same ht4
          have lus : us.length = m := by rw [hut.length, hlq]; omega
          have une : us ≠ [] := fun z => by
            rw [z] at lus
            simp only [List.length_nil] at lus
            omega
          refine ⟨t3, t4, [.str (wd w0)], us, rfl, rfl, .inl (.inl ((upd_ne t34).trans upd_same)),   .inl (.inl upd_same), List.cons_ne_nil _ _, small_len (by simp only [List.length_cons, List.length_nil]; omega), fun z => absurd z une, fun _ t5 ht5 => ?_⟩
          have k5 := k4.trans (same_new (o := .tup ([.str (wd w0)] ++ us)) ht5)
          walk_at "z"
          refine r_appT (k5 _ _ hv3) (small_lt (by rw [hvt2.length]; have := pm2.length_eq; rw [List.length_append] at this; omega)) ?_
          have kk : TK H2 (upd (upd (upd (upd H3 t3 (.tup [.str (wd w0)])) t4 (.tup us)) t5 (.tup ([.str (wd w0)] ++ us))) r (.lst (vs2 ++ [.ref t5]))) := (s1.tk hP2).trans ((TK.of_same k5).trans (.lst (k5 _ _ hv3)))
          have r5 : t5 ≠ r := (ne_of_none (k4 _ _ hv3) ht5).symm
          refine ⟨⟨_, _, _, rfl⟩, (hP4.mono k5).upd rne, ((g2.trans s1).trans (.of_same k5)).mut hr0, _, ts2 ++ [.node w0 qs], upd_same, (pdT_tk kk hvt2).snoc (show TreeAt (upd (upd (upd (upd H3 t3 (.tup [.str (wd w0)])) t4 (.tup us)) t5 (.tup ([.str (wd w0)] ++ us))) r (.lst (vs2 ++ [.ref t5]))) (.ref t5) (.node w0 qs) from TreeAt.node w0 (xs := us) ((upd_ne r5).trans upd_same) (TreesAt.of (pdT_tk kk hut))), ?_, fun t ht => ?_, ?_, ?_⟩
          · have e : lvs (ts2 ++ [.node w0 qs]) = lvs (ts2 ++ qs) := by
              rw [lvs_append, lvs_append]
              simp [lvs, lv]
            rw [e]
            exact (lvs_perm pm2).trans pm
          · rcases List.mem_append.mp ht with z | z
            · exact hwf t (pm2.mem_iff.mp (List.mem_append_left _ z))
            · rw [List.mem_singleton.mp z]
              simp only [wf]
              exact ⟨by omega, wfs_mem.mpr fun t2 ht2 => hwf t2 (pm2.mem_iff.mp (List.mem_append_right _ ht2))⟩
          · rw [List.length_append]
            simp
          · have := pm2.length_eq
            rw [List.length_append] at this ⊢
            simp only [List.length_cons, List.length_nil]
            omega
      · exact ⟨⟨_, _, _, rfl⟩, hP', g, vs, ts, hv, hvt, pm, hwf, t1, t2⟩
    · rintro σ' H' ⟨⟨x3, x4, x5, rfl⟩, hP', g, vs, ts, hv, hvt, pm, hwf, t1, t2⟩
      walk_at "z"
      obtain ⟨t, ht⟩ : ∃ t, ts[0]? = some t := ⟨_, List.getElem?_eq_getElem (by omega)⟩
      obtain ⟨y, hy, hyt⟩ := pd_get2 hvt ht
      refine r_ixL (.inl (.inl hv)) (atI_nat (j := 0) hy) ?_
      obtain ⟨rest, e⟩ : ∃ rest, ts = t :: rest := by
        cases ts with
        | nil => simp at t1
        | cons u us =>
          have : u = t := Option.some.inj ht
          exact ⟨us, by rw [this]⟩
      refine q y t H' hP' g hyt (hwf t (List.mem_of_getElem? ht)) ⟨lvs rest, ?_⟩
      rw [e] at pm
      exact pm
end

set_option Elab.async false
set_option linter.all false
set_option maxRecDepth 100000
set_option maxHeartbeats 4000000
open PySem PySem.Spec PyProof.Rows L2

abbrev s_law_graph : Stmt := topS 38
theorem sc_law_graph : FnScope ["pool", "most", "way", "n", "graph"] ["pool", "most"] (defScope s_law_graph) := ⟨rfl, rfl, rfl, by decide +kernel, rfl, by decide +kernel, by decide +kernel⟩

section
variable {P : Program} {w : World} {K : PySem.W.Frag} {mg : Str → Option Value} {base : Heap}
theorem moved_good {n : Int} {o : List Int} {ps qs : List (Int × Int)} (g : GoodG n ps) (ho : o.Perm (rgI n)) (asc : qs.Pairwise ltP) (mem : ∀ p, p ∈ qs ↔ ∃ r ∈ ps, p = nrm (ordP o r)) : GoodG n qs := by
  have hl : o.length = n.toNat := by rw [ho.length_eq, rgI_len]
  have nd : o.Nodup := ho.nodup_iff.mpr (rgI_nodup n)
  have bd : ∀ z : Int, 0 ≤ z → z < n → 0 ≤ o.getD z.toNat 0 ∧ o.getD z.toNat 0 < n := fun z h0 h1 => by
    have hlt : z.toNat < o.length := by omega
    rw [List.getD_eq_getElem?_getD, List.getElem?_eq_getElem hlt]
    exact mem_rgI.mp (ho.mem_iff.mp (List.getElem_mem hlt))
  refine good_of g.one (ps := ps.map (ordP o)) (fun r hr => ?_) asc fun p => (mem p).trans ⟨?_, ?_⟩
  · obtain ⟨r0, hr0, rfl⟩ := List.mem_map.mp hr
    obtain ⟨b1, b2, b3⟩ := g.inn r0 hr0
    have h1 := bd r0.1 b1 (by omega)
    have h2 := bd r0.2 (by omega) b3
    refine ⟨h1.1, h1.2, h2.1, h2.2, fun e => ?_⟩
    have l1 : r0.1.toNat < o.length := by omega
    have l2 : r0.2.toNat < o.length := by omega
    unfold ordP at e
    simp only [List.getD_eq_getElem?_getD, List.getElem?_eq_getElem l1, List.getElem?_eq_getElem l2, Option.getD_some] at e
    have := (List.getElem_inj nd).mp e
    omega
  · rintro ⟨r, hr, rfl⟩
    exact ⟨_, List.mem_map.mpr ⟨r, hr, rfl⟩, rfl⟩
  · rintro ⟨r, hr, rfl⟩
    obtain ⟨r0, hr0, rfl⟩ := List.mem_map.mp hr
    exact ⟨r0, hr0, rfl⟩
/-- a drawn graph -/
def spGraph : Sp := fun vs H Q _ => ∃ (a s : Addr) (most : Int), vs = [.ref a, .int most] ∧ Pool H a s ∧ 1 ≤ most ∧ most ≤ 60 ∧ ∀ n : Int, 1 ≤ n → n ≤ most → GenQ a s H n Q
theorem ok_graph (T : Blt mg) (D : DefAt K mg "_law_graph" s_law_graph ["pool", "most"])
    (D_law_draw : DefAt K mg "_law_draw" s_law_draw ["pool", "many"]) (G_law_draw : FnOk P w K mg base CX0 2 D_law_draw.f D_law_draw.fd ["pool", "many"] spDraw)
    (D_law_interval_rows : DefAt K mg "_law_interval_rows" s_law_interval_rows ["pool", "n"]) (G_law_interval_rows : FnOk P w K mg base CX0 3 D_law_interval_rows.f D_law_interval_rows.fd ["pool", "n"] spRows)
    (D_law_interval_graph : DefAt K mg "_law_interval_graph" s_law_interval_graph ["rows"]) (G_law_interval_graph : FnOk P w K mg base CX0 2 D_law_interval_graph.f D_law_interval_graph.fd ["rows"] (spIvGraph K))
    (D_law_turned_graph : DefAt K mg "_law_turned_graph" s_law_turned_graph ["one", "two"]) (G_law_turned_graph : FnOk P w K mg base CX0 2 D_law_turned_graph.f D_law_turned_graph.fd ["one", "two"] (spTurned K))
    (D_law_shuffled : DefAt K mg "_law_shuffled" s_law_shuffled ["pool", "items"]) (G_law_shuffled : FnOk P w K mg base CX0 3 D_law_shuffled.f D_law_shuffled.fd ["pool", "items"] (spShuf K))
    (D_law_ordered_graph : DefAt K mg "_law_ordered_graph" s_law_ordered_graph ["pool", "n"]) (G_law_ordered_graph : FnOk P w K mg base CX0 4 D_law_ordered_graph.f D_law_ordered_graph.fd ["pool", "n"] spOrdered)
    (D_law_clique_graph : DefAt K mg "_law_clique_graph" s_law_clique_graph ["pool", "n"]) (G_law_clique_graph : FnOk P w K mg base CX0 4 D_law_clique_graph.f D_law_clique_graph.fd ["pool", "n"] spClique)
    (D_law_of : DefAt K mg "_law_of" s_law_of ["n", "pairs"]) (G_law_of : FnOk P w K mg base CX0 3 D_law_of.f D_law_of.fd ["n", "pairs"] (spOf K))
    (D_law_tree_pairs : DefAt K mg "_law_tree_pairs" s_law_tree_pairs ["tree"]) (G_law_tree_pairs : FnOk P w K mg base CX0 62 D_law_tree_pairs.f D_law_tree_pairs.fd ["tree"] (spTreePairs 61))
    (D_law_drawn_tree : DefAt K mg "_law_drawn_tree" s_law_drawn_tree ["pool", "leaves"]) (G_law_drawn_tree : FnOk P w K mg base CX0 4 D_law_drawn_tree.f D_law_drawn_tree.fd ["pool", "leaves"] spDrawn)
    (D_law_ringed : DefAt K mg "_law_ringed" s_law_ringed ["pool", "n"]) (G_law_ringed : FnOk P w K mg base CX0 4 D_law_ringed.f D_law_ringed.fd ["pool", "n"] spRinged)
    (D_law_other : DefAt K mg "_law_other" s_law_other ["graph"]) (G_law_other : FnOk P w K mg base CX0 2 D_law_other.f D_law_other.fd ["graph"] spOther)
    (D_law_random_graph : DefAt K mg "_law_random_graph" s_law_random_graph ["pool", "most"]) (G_law_random_graph : FnOk P w K mg base CX0 3 D_law_random_graph.f D_law_random_graph.fd ["pool", "most"] spRandom)
    (D_law_moved : DefAt K mg "_law_moved" s_law_moved ["graph", "order"]) (G_law_moved : FnOk P w K mg base CX0 4 D_law_moved.f D_law_moved.fd ["graph", "order"] (spMoved K)) :
    FnOk P w K mg base CX0 63 D.f D.fd ["pool", "most"] spGraph := by
  refine D.F.ok sc_law_graph (fun vs H Q E h => ?_) (fun cdv A outer s H vs Q E hr h => ?_)
  · obtain ⟨a, s, most, rfl, _⟩ := h
    rfl
  · obtain ⟨a, s0, most, rfl, hP, m1, m2, q⟩ := h
    refine ⟨_, (pss_cons (ps_set (i := 2) sc_law_graph.nd rfl (Or.inl rfl) (pe_call G_law_draw (hr.mono (by first | decide | omega)) (by rfl) D_law_draw.g D_law_draw.F.kp D_law_draw.b .nil pass0 (pa_cons (pv 0) (pa_cons pe_int pa_nil))))
      (pss_cons (ps_set (i := 3) sc_law_graph.nd rfl (Or.inl rfl) (pe_ix (ix_listK (K := K) rfl) (pe_lst (pa_cons (pv 1) (pa_cons (pe_op op_add pe_int (pe_call G_law_draw (hr.mono (by first | decide | omega)) (by rfl) D_law_draw.g D_law_draw.F.kp D_law_draw.b .nil pass0 (pa_cons (pv 0) (pa_cons (pv 1) pa_nil)))) pa_nil))) (pe_callTy call_int1' (by rfl) T.int (by decide +kernel) (pa_cons (pe_cmpR op_eq (pe_call G_law_draw (hr.mono (by first | decide | omega)) (by rfl) D_law_draw.g D_law_draw.F.kp D_law_draw.b .nil pass0 (pa_cons (pv 0) (pa_cons pe_int pa_nil))) pe_int (nomark _)) pa_nil)) (fun _ _ => rfl)))
      (pss_cons (ps_if (pt_cmpR op_eq (pv 2) pe_int (nomark _))
        (pss_one (ps_set (i := 4) sc_law_graph.nd rfl (Or.inl rfl) (pe_call G_law_interval_graph (hr.mono (by first | decide | omega)) (by rfl) D_law_interval_graph.g D_law_interval_graph.F.kp D_law_interval_graph.b .nil pass0 (pa_cons (pe_call G_law_interval_rows (hr.mono (by first | decide | omega)) (by rfl) D_law_interval_rows.g D_law_interval_rows.F.kp D_law_interval_rows.b .nil pass0 (pa_cons (pv 0) (pa_cons (pv 3) pa_nil))) pa_nil))))
        (pss_one (ps_if (pt_cmpR op_eq (pv 2) pe_int (nomark _))
          (pss_one (ps_set (i := 4) sc_law_graph.nd rfl (Or.inl rfl) (pe_call G_law_turned_graph (hr.mono (by first | decide | omega)) (by rfl) D_law_turned_graph.g D_law_turned_graph.F.kp D_law_turned_graph.b .nil pass0 (pa_cons (pe_listRg rfl (by rfl) T.list (prg_1 (by rfl) T.range (pv 3))) (pa_cons (pe_call G_law_shuffled (hr.mono (by first | decide | omega)) (by rfl) D_law_shuffled.g D_law_shuffled.F.kp D_law_shuffled.b .nil pass0 (pa_cons (pv 0) (pa_cons (pe_listRg rfl (by rfl) T.list (prg_1 (by rfl) T.range (pv 3))) pa_nil))) pa_nil)))))
          (pss_one (ps_if (pt_cmpR op_eq (pv 2) pe_int (nomark _))
            (pss_one (ps_set (i := 4) sc_law_graph.nd rfl (Or.inl rfl) (pe_call G_law_ordered_graph (hr.mono (by first | decide | omega)) (by rfl) D_law_ordered_graph.g D_law_ordered_graph.F.kp D_law_ordered_graph.b .nil pass0 (pa_cons (pv 0) (pa_cons (pv 3) pa_nil)))))
            (pss_one (ps_if (pt_cmpR op_eq (pv 2) pe_int (nomark _))
              (pss_one (ps_set (i := 4) sc_law_graph.nd rfl (Or.inl rfl) (pe_call G_law_clique_graph (hr.mono (by first | decide | omega)) (by rfl) D_law_clique_graph.g D_law_clique_graph.F.kp D_law_clique_graph.b .nil pass0 (pa_cons (pv 0) (pa_cons (pv 3) pa_nil)))))
              (pss_one (ps_if (pt_cmpR op_eq (pv 2) pe_int (nomark _))
                (pss_one (ps_set (i := 4) sc_law_graph.nd rfl (Or.inl rfl) (pe_call G_law_of (hr.mono (by first | decide | omega)) (by rfl) D_law_of.g D_law_of.F.kp D_law_of.b .nil pass0 (pa_cons (pv 3) (pa_cons (pe_call G_law_tree_pairs (hr.mono (by first | decide | omega)) (by rfl) D_law_tree_pairs.g D_law_tree_pairs.F.kp D_law_tree_pairs.b .nil pass0 (pa_cons (pe_call G_law_drawn_tree (hr.mono (by first | decide | omega)) (by rfl) D_law_drawn_tree.g D_law_drawn_tree.F.kp D_law_drawn_tree.b .nil pass0 (pa_cons (pv 0) (pa_cons (pe_listRg rfl (by rfl) T.list (prg_1 (by rfl) T.range (pv 3))) pa_nil))) pa_nil)) pa_nil)))))
                (pss_one (ps_if (pt_cmpR op_lt (pv 2) pe_int (nomark _))
                  (pss_one (ps_set (i := 4) sc_law_graph.nd rfl (Or.inl rfl) (pe_call G_law_ringed (hr.mono (by first | decide | omega)) (by rfl) D_law_ringed.g D_law_ringed.F.kp D_law_ringed.b .nil pass0 (pa_cons (pv 0) (pa_cons (pv 3) pa_nil)))))
                  (pss_one (ps_if (pt_cmpR op_eq (pv 2) pe_int (nomark _))
                    (pss_one (ps_set (i := 4) sc_law_graph.nd rfl (Or.inl rfl) (pe_call G_law_other (hr.mono (by first | decide | omega)) (by rfl) D_law_other.g D_law_other.F.kp D_law_other.b .nil pass0 (pa_cons (pe_call G_law_clique_graph (hr.mono (by first | decide | omega)) (by rfl) D_law_clique_graph.g D_law_clique_graph.F.kp D_law_clique_graph.b .nil pass0 (pa_cons (pv 0) (pa_cons (pv 3) pa_nil))) pa_nil))))
                    (pss_one (ps_set (i := 4) sc_law_graph.nd rfl (Or.inl rfl) (pe_call G_law_random_graph (hr.mono (by first | decide | omega)) (by rfl) D_law_random_graph.g D_law_random_graph.F.kp D_law_random_graph.b .nil pass0 (pa_cons (pv 0) (pa_cons (pv 1) pa_nil))))))))))))))))))
      (pss_cons (ps_if (pt_cmpR op_eq (pe_call G_law_draw (hr.mono (by first | decide | omega)) (by rfl) D_law_draw.g D_law_draw.F.kp D_law_draw.b .nil pass0 (pa_cons (pv 0) (pa_cons pe_int pa_nil))) pe_int (nomark _))
        (pss_one (ps_set (i := 4) sc_law_graph.nd rfl (Or.inl rfl) (pe_call G_law_other (hr.mono (by first | decide | omega)) (by rfl) D_law_other.g D_law_other.F.kp D_law_other.b .nil pass0 (pa_cons (pv 4) pa_nil))))
        pss_nil)
      (pss_cons (ps_if (pt_cmpR op_gt (pe_call G_law_draw (hr.mono (by first | decide | omega)) (by rfl) D_law_draw.g D_law_draw.F.kp D_law_draw.b .nil pass0 (pa_cons (pv 0) (pa_cons pe_int pa_nil))) pe_int (nomark _))
        (pss_one (ps_set (i := 4) sc_law_graph.nd rfl (Or.inl rfl) (pe_call G_law_moved (hr.mono (by first | decide | omega)) (by rfl) D_law_moved.g D_law_moved.F.kp D_law_moved.b .nil pass0 (pa_cons (pv 4) (pa_cons (pe_call G_law_shuffled (hr.mono (by first | decide | omega)) (by rfl) D_law_shuffled.g D_law_shuffled.F.kp D_law_shuffled.b .nil pass0 (pa_cons (pv 0) (pa_cons (pe_listRg rfl (by rfl) T.list (prg_1 (by rfl) T.range (pe_ix (ix_tupK (K := K) rfl) (pv 4) pe_int (fun _ _ => rfl)))) pa_nil))) pa_nil)))))
        pss_nil)
      (pss_one (ps_ret (pv 4)))))))), ?_⟩
    refine r_at (σ := [some _, some _, none, none, none]) rfl ?_
    let W : L2.St → Hp → Prop := fun σ' H' => ∃ (x2 x3 : Option V) (v : V) (n : Int) (qs : List (Int × Int)), σ' = [some (.ref a), some (.int most), x2, x3, some v] ∧ Pool H' a s0 ∧ Gr a H H' ∧ GrAt H' v n qs ∧ GoodG n qs ∧ n ≤ most
    walk_at "z"
    refine ⟨a, s0, 14, rfl, hP, by omega, by omega, fun way H1 w0 w1 hP1 g1 => ?_⟩
    walk_at "z"
    refine ⟨a, s0, most, rfl, hP1, by omega, by omega, fun r H2 r0 r1 hP2 g2 => ?_⟩
    walk_at "z"
    refine r_lstN sz2 fun l hl => ?_
    walk_at "z"
    refine ⟨a, s0, 3, rfl, hP2.mono (same_new hl), by omega, by omega, fun r2 H3 _ _ hP3 g3 => ?_⟩
    have hl2 := g3 _ _ (new_ne hP2 hl).1 upd_same
    walk_at "z"
    refine r_pick2 hl2 fun n hn => ?_
    have g : Gr a H H3 := ((g1.trans g2).trans (.new hl)).trans g3
    have n0 : 1 ≤ n := by omega
    have n1 : n ≤ most := by omega
    walk_at "z1"
    refine r_seqW W ?tail fun B hB => ?head
    case head =>
      -- what each way gives is enough
      have fin : ∀ (v : V) (qs : List (Int × Int)) (H' : Hp), Pool H' a s0 → Gr a H3 H' → GrAt H' v n qs → GoodG n qs → B [some (.ref a), some (.int most), some (.int way), some (.int n), some v] H' := fun v qs H' p' g' hv hg =>
        hB _ _ ⟨_, _, v, n, qs, rfl, p', g.trans g', hv, hg, n1⟩
      have nn : ((n.toNat : Nat) : Int) = n := by omega
      have flt : ∀ (v : V) (c : Int × Int → Bool) (H' : Hp), Pool H' a s0 → Gr a H3 H' → GrAt H' v n ((allP n.toNat).filter c) → B [some (.ref a), some (.int most), some (.int way), some (.int n), some v] H' := fun v c H' p' g' hv =>
        fin v _ H' p' g' hv (by have := good_filter (n := n.toNat) (by omega) c; rw [nn] at this; exact this)
      walk_at "z"
      refine r_ite (fun h0 => ?_) (fun h0 => ?_)
      · walk_at "z"
        refine ⟨a, s0, n, rfl, hP3, by omega, by omega, fun f xs ps H4 hf hP4 g4 hx hp hlen => ?_⟩
        walk_at "z"
        refine ⟨f, xs, ps, rfl, .inl (.inl hx), hp, by omega, fun v c H5 s5 hv => ?_⟩
        walk_at "z"
        rw [hlen] at hv
        exact flt v c H5 (hP4.mono s5) (g4.trans (.of_same s5)) (by rw [nn] at hv; exact hv)
      walk_at "z"
      refine r_ite (fun h0 => ?_) (fun h0 => ?_)
      · walk_at "z"
        refine r_lRg (by omega) (by omega) fun l1 hl1 => ?_
        walk_at "z"
        refine r_lRg (by omega) (by omega) fun l2 hl2 => ?_
        walk_at "z"
        have hP4 := hP3.mono (same_new (o := .lst ((rgI n).map V.int)) hl1)
        have hP5 := hP4.mono (same_new (o := .lst ((rgI n).map V.int)) hl2)
        have n12 : l1 ≠ l2 := ne_of_none upd_same hl2
        refine ⟨a, s0, l2, rgI n, rfl, hP5, (new_ne hP4 hl2).1, upd_same, by rw [rgI_len]; omega, fun f ms H4 hf hfa hP6 g6 hms pm => ?_⟩
        walk_at "z"
        have h1 := g6 _ _ (new_ne hP3 hl1).1 ((upd_ne n12).trans upd_same)
        refine ⟨l1, f, rgI n, ms, rfl, .inl (.inl h1), .inl (.inl hms), by rw [rgI_len]; omega, fun z z0 z1 => ?_, fun v c H5 s5 hv => ?_⟩
        · rw [rgI_len] at z1
          have hm : z ∈ rgI n := mem_rgI.mpr ⟨z0, by omega⟩
          exact ⟨hm, pm.mem_iff.mpr hm⟩
        · walk_at "z"
          rw [rgI_len] at hv
          exact flt v c H5 (hP6.mono s5) ((((Gr.new hl1).trans (.new hl2)).trans g6).trans (.of_same s5)) (by rw [nn] at hv; exact hv)
      walk_at "z"
      refine r_ite (fun h0 => ?_) (fun h0 => ?_)
      · walk_at "z"
        refine ⟨a, s0, n, rfl, hP3, by omega, by omega, fun v qs H4 hP4 g4 hv hg => ?_⟩
        walk_at "z"
        exact fin v qs H4 hP4 g4 hv hg
      walk_at "z"
      refine r_ite (fun h0 => ?_) (fun h0 => ?_)
      · walk_at "z"
        refine ⟨a, s0, n, rfl, hP3, by omega, by omega, fun v qs H4 hP4 g4 hv hg => ?_⟩
        walk_at "z"
        exact fin v qs H4 hP4 g4 hv hg
      walk_at "z"
      refine r_ite (fun h0 => ?_) (fun h0 => ?_)
      · walk_at "z"
        refine r_lRg (by omega) (by omega) fun l1 hl1 => ?_
        walk_at "z"
        have hP4 := hP3.mono (same_new (o := .lst ((rgI n).map V.int)) hl1)
        refine ⟨a, s0, l1, rgI n, rfl, hP4, upd_same, by rw [rgI_len]; omega, by rw [rgI_len]; omega, fun v t H4 hP5 g5 ht hwf ⟨ms, pm⟩ => ?_⟩
        walk_at "z"
        have nd : (lv t).Nodup := (List.nodup_append.mp (pm.nodup_iff.mpr (rgI_nodup n))).1
        have ll : (lv t).length ≤ 60 := by
          have := pm.length_eq
          rw [List.length_append, rgI_len] at this
          omega
        have mem : ∀ z ∈ lv t, 0 ≤ z ∧ z < n := fun z hz => mem_rgI.mp (pm.mem_iff.mp (List.mem_append_left _ hz))
        refine ⟨v, t, rfl, ht, by have := dp_lv t hwf; omega, ll, nd, fun f xs ps H5 s5 hx hp hm hlen => ?_⟩
        walk_at "z"
        have sq : (lv t).length * (lv t).length ≤ 60 * 60 := Nat.mul_le_mul ll ll
        refine ⟨n, f, xs, ps, rfl, .inl (.inl hx), hp, by omega, fun v2 qs H6 s6 hv asc memq => ?_⟩
        walk_at "z"
        refine fin v2 qs H6 ((hP5.mono s5).mono s6) ((((Gr.new hl1).trans g5).trans (.of_same s5)).trans (.of_same s6)) hv (good_of n0 (fun r hr => ?_) asc memq)
        obtain ⟨k1, k2, k3⟩ := hm r hr
        have := mem r.1 k1
        have := mem r.2 k2
        omega
      walk_at "z"
      refine r_ite (fun h0 => ?_) (fun h0 => ?_)
      · walk_at "z"
        refine ⟨a, s0, n, rfl, hP3, by omega, by omega, fun v qs H4 hP4 g4 hv hg => ?_⟩
        walk_at "z"
        exact fin v qs H4 hP4 g4 hv hg
      walk_at "z"
      refine r_ite (fun h0 => ?_) (fun h0 => ?_)
      · walk_at "z"
        refine ⟨a, s0, n, rfl, hP3, by omega, by omega, fun v qs H4 hP4 g4 hv hg => ?_⟩
        walk_at "z"
        refine ⟨v, n.toNat, qs, rfl, by rw [nn]; exact hv, by omega, fun v2 H5 s5 hv2 => ?_⟩
        walk_at "z"
        exact flt v2 _ H5 (hP4.mono s5) (g4.trans (.of_same s5)) (by rw [nn] at hv2; exact hv2)
      · walk_at "z"
        refine ⟨a, s0, most, rfl, hP3, m1, by omega, fun n2 k1 k2 v qs H4 hP4 g4 hv hg => ?_⟩
        walk_at "z"
        exact hB _ _ ⟨_, _, v, n2, qs, rfl, hP4, g.trans g4, hv, hg, k2⟩
    case tail =>
      rintro σ' H4 ⟨x2, x3, v, n2, qs, rfl, hP4, g4, hv, hg, hn2⟩
      refine r_seqW W ?tail2 fun B hB => ?head2
      case head2 =>
        walk_at "z"
        refine ⟨a, s0, 4, rfl, hP4, by omega, by omega, fun c H5 _ _ hP5 g5 => ?_⟩
        have hv5 := hv.tk (g5.tk hP4)
        walk_at "z"
        refine r_ite (fun h0 => ?_) (fun h0 => ?_)
        · walk_at "z"
          have nn : ((n2.toNat : Nat) : Int) = n2 := by have := hg.one; omega
          refine ⟨v, n2.toNat, qs, rfl, by rw [nn]; exact hv5, by omega, fun v2 H6 s6 hv2 => ?_⟩
          walk_at "z"
          have gf := good_filter (n := n2.toNat) (by have := hg.one; omega) fun p => decide (p ∉ qs)
          rw [nn] at hv2 gf
          exact hB _ _ ⟨_, _, v2, n2, _, rfl, hP5.mono s6, (g4.trans g5).trans (.of_same s6), hv2, gf, hn2⟩
        · walk_at "z"
          exact hB _ _ ⟨_, _, v, n2, qs, rfl, hP5, g4.trans g5, hv5, hg, hn2⟩
      case tail2 =>
        rintro σ' H4 ⟨x2, x3, v, n2, qs, rfl, hP4, g4, hv, hg, hn2⟩
        refine r_seqW W ?tail3 fun B hB => ?head3
        case head3 =>
          walk_at "z"
          refine ⟨a, s0, 3, rfl, hP4, by omega, by omega, fun c H5 _ _ hP5 g5 => ?_⟩
          have hv5 := hv.tk (g5.tk hP4)
          walk_at "z"
          refine r_ite (fun h0 => ?_) (fun h0 => ?_)
          · obtain ⟨ga, e, rfl, hga, he⟩ := id hv5
            walk_at "z"
            refine r_lRg (by have := hg.one; omega) (by omega) fun l1 hl1 => ?_
            walk_at "z"
            have hP6 := hP5.mono (same_new (o := .lst ((rgI n2).map V.int)) hl1)
            refine ⟨a, s0, l1, rgI n2, rfl, hP6, (new_ne hP5 hl1).1, upd_same, by rw [rgI_len]; omega, fun f ms H6 hf hfa hP7 g7 hms pm => ?_⟩
            have gk : Gr a H5 H6 := (Gr.new hl1).trans g7
            have hv6 := hv5.tk (gk.tk hP5)
            walk_at "z"
            have lms : ms.length = n2.toNat := by rw [pm.length_eq, rgI_len]
            have lqs : qs.length ≤ 10000 := by
              have h1 := nodup_le qs (allP n2.toNat) (asc_nodup hg.asc) fun p hp => by
                obtain ⟨b1, b2, b3⟩ := hg.inn p hp
                exact mem_allP.mpr ⟨b1, b2, by omega⟩
              have h2 := allP_small (n := n2.toNat) (by omega)
              omega
            refine ⟨.ref ga, f, n2, qs, ms, rfl, hv6, .inl (.inl (.inl hms)), lqs, fun p hp => ?_, fun v2 rs H7 s7 hv7 asc mem => ?_⟩
            · obtain ⟨b1, b2, b3⟩ := hg.inn p hp
              omega
            · walk_at "z"
              exact hB _ _ ⟨_, _, v2, n2, rs, rfl, hP7.mono s7, ((g4.trans g5).trans gk).trans (.of_same s7), hv7, moved_good hg pm asc mem, hn2⟩
          · walk_at "z"
            exact hB _ _ ⟨_, _, v, n2, qs, rfl, hP5, g4.trans g5, hv5, hg, hn2⟩
        case tail3 =>
          rintro σ' H4 ⟨x2, x3, v, n2, qs, rfl, hP4, g4, hv, hg, hn2⟩
          walk_at "z"
          exact q n2 hg.one hn2 v qs H4 hP4 g4 hv hg
end

set_option Elab.async false
set_option linter.all false
set_option maxRecDepth 100000
set_option maxHeartbeats 4000000
open PySem PySem.Spec PyProof.Rows L2

section
variable {P : Program} {w : World} {K : PySem.W.Frag} {mg : Str → Option Value} {base : Heap}
/-- (u, v) or (v, u) -/
def spEdge : Sp := fun vs H Q _ => ∃ u v : Int, vs = [.int u, .int v] ∧ ∀ x H', Same H H' → IsP H' x (nrm (u, v)) → Q x H'
def spAre : Sp := fun vs H Q _ => ∃ (g : V) (n u v : Int) (ps : List (Int × Int)), vs = [g, .int u, .int v] ∧ GrAt H g n ps ∧ ∀ H', Same H H' → Q (.bl (decide (nrm (u, v) ∈ ps))) H'
end

set_option Elab.async false
set_option linter.all false
set_option maxRecDepth 100000
set_option maxHeartbeats 4000000
open PySem PySem.Spec PyProof.Rows L2

section
variable {P : Program} {w : World} {K : PySem.W.Frag} {mg : Str → Option Value} {base : Heap}
theorem inV_ints (ns : List Int) (z : Int) : inV (.int z) (ns.map V.int) = decide (z ∈ ns) := by
  unfold inV
  rw [List.any_map]
  refine Bool.eq_iff_iff.mpr ?_
  rw [List.any_eq_true, decide_eq_true_eq]
  constructor
  · rintro ⟨y, hy, h⟩
    have h1 : eqV (.int y) (.int z) = true := h
    rw [eqV_int] at h1
    rw [← of_decide_eq_true h1]
    exact hy
  · intro h
    refine ⟨z, h, ?_⟩
    show eqV (.int z) (.int z) = true
    rw [eqV_int]
    exact decide_eq_true rfl
theorem r_ninI {H : Hp} {Q : VK} {m : Addr} {ns : List Int} {z : Int} (h : SqL K H m (ns.map V.int) ∨ SqT K H m (ns.map V.int)) (q : Q (.bl (!decide (z ∈ ns))) H) : rIn K true (.int z) (.ref m) H Q := ⟨m, _, rfl, h, rfl, flat_ints ns, by
  rw [if_pos rfl, inV_ints]
  exact q⟩
theorem r_inI {H : Hp} {Q : VK} {m : Addr} {ns : List Int} {z : Int} (h : SqL K H m (ns.map V.int) ∨ SqT K H m (ns.map V.int)) (q : Q (.bl (decide (z ∈ ns))) H) : rIn K false (.int z) (.ref m) H Q := ⟨m, _, rfl, h, rfl, flat_ints ns, by
  rw [if_neg Bool.false_ne_true, inV_ints]
  exact q⟩
/-- the edges with both ends in a set -/
def inL (ns : List Int) (ps : List (Int × Int)) : List (Int × Int) := ps.filter fun p => decide (p.1 ∈ ns) && decide (p.2 ∈ ns)
def spEin (K : PySem.W.Frag) : Sp := fun vs H Q _ => ∃ (g : V) (n : Int) (m : Addr) (ns : List Int) (ps : List (Int × Int)), vs = [g, .ref m] ∧ GrAt H g n ps ∧ ps.length ≤ 10000 ∧ (SqL K H m (ns.map V.int) ∨ SqT K H m (ns.map V.int)) ∧
  ∀ (l : Addr) (ys : List V) (H' : Hp), H l = none → Same H H' → H' l = some (.lst ys) → Prs H' ys (inL ns ps) → Q (.ref l) H'
def spIns (K : PySem.W.Frag) : Sp := fun vs H Q _ => ∃ (g : V) (n : Int) (m : Addr) (ns : List Int) (ps : List (Int × Int)), vs = [g, .ref m] ∧ GrAt H g n ps ∧ ps.length ≤ 10000 ∧ (SqL K H m (ns.map V.int) ∨ SqT K H m (ns.map V.int)) ∧
  ∀ (H' : Hp), Same H H' → Q (.int ((inL ns ps).length : Nat)) H'
end

set_option Elab.async false
set_option linter.all false
set_option maxRecDepth 100000
set_option maxHeartbeats 4000000
open PySem PySem.Spec PyProof.Rows L2

abbrev s_law_reach : Stmt := topS 39
theorem sc_law_reach : FnScope ["graph", "v", "members", "found", "k", "u", "w"] ["graph", "v", "members"] (defScope s_law_reach) := ⟨rfl, rfl, rfl, by decide +kernel, rfl, by decide +kernel, by decide +kernel⟩

abbrev s_law_joined : Stmt := topS 40
theorem sc_law_joined : FnScope ["graph", "members"] ["graph", "members"] (defScope s_law_joined) := ⟨rfl, rfl, rfl, by decide +kernel, rfl, by decide +kernel, by decide +kernel⟩

abbrev s_law_subsets : Stmt := topS 41
theorem sc_law_subsets : FnScope ["items", "found", "item", "one"] ["items"] (defScope s_law_subsets) := ⟨rfl, rfl, rfl, by decide +kernel, rfl, by decide +kernel, by decide +kernel⟩

abbrev s_law_touch : Stmt := topS 44
theorem sc_law_touch : FnScope ["graph", "one", "two", "u", "v"] ["graph", "one", "two"] (defScope s_law_touch) := ⟨rfl, rfl, rfl, by decide +kernel, rfl, by decide +kernel, by decide +kernel⟩

abbrev s_law_hits : Stmt := topS 45
theorem sc_law_hits : FnScope ["members", "bramble", "part", "v"] ["members", "bramble"] (defScope s_law_hits) := ⟨rfl, rfl, rfl, by decide +kernel, rfl, by decide +kernel, by decide +kernel⟩

section
variable {P : Program} {w : World} {K : PySem.W.Frag} {mg : Str → Option Value} {base : Heap}
/-- ints ascending, each once -/
def spDistI (K : PySem.W.Frag) : Sp := fun vs H Q _ => ∃ (l : Addr) (ns : List Int), vs = [.ref l] ∧ SqL K H l (ns.map V.int) ∧ ns.length < 64 ∧
  ∀ (f : Addr) (qs : List Int) (H' : Hp), Same H H' → H' f = some (.lst (qs.map V.int)) → qs.Pairwise (· < ·) → (∀ p, p ∈ qs ↔ p ∈ ns) → Q (.ref f) H'
theorem ok_distI (T : Blt mg) (D : DefAt K mg "_law_distinct" s_law_distinct ["rows"]) : FnOk P w K mg base CX0 2 D.f D.fd ["rows"] (spDistI K) := by
  refine D.F.ok sc_law_distinct (fun vs H Q E h => ?_) (fun cdv A outer s H vs Q E hr h => ?_)
  · obtain ⟨l, ns, rfl, _⟩ := h
    rfl
  · obtain ⟨l, ns, rfl, hl, hlen, q⟩ := h
    refine ⟨_, (pss_cons (ps_set (i := 1) sc_law_distinct.nd rfl (Or.inl rfl) (pe_lst pa_nil))
      (pss_cons (ps_for PassesOwn.never (by rfl) (PI.listK (K := K) rfl (pi_list (pe_callB cr_sorted (by rfl) T.sorted (by decide +kernel) (pa_cons (pv 0) pa_nil)))) (pg_name (i := 2) sc_law_distinct.nd rfl (Or.inl rfl))
        (pss_one (ps_if (PW.pt (pw_or (pt_cmpR (op_eqDK (K := K) rfl hr.units) (pv 1) (pe_lst pa_nil) (nomark _)) (pw_or1 (pt_cmpR op_ne (pe_ix (ix_listK (K := K) rfl) (pv 1) (pe_un un_neg pe_int) (fun _ _ => rfl)) (pv 2) (nomark _)))))
          (pss_one (ps_expr (PE.bmK (K := K) rfl (pe_bm PySem.F.plainAttrs_list PySem.F.slot_list_append PySem.F.type_list_append mt_append (pv 1) (pa_cons (pv 2) pa_nil)))))
          pss_nil)))
      (pss_one (ps_ret (pv 1))))), ?_⟩
    refine r_at (σ := [some _, none, none]) rfl ?_
    walk_at "z"
    refine r_lstN (by decide) fun f hf => ?_
    walk_at "z"
    have s1 : Same H (upd H f (.lst [])) := same_new hf
    refine r_sortI (s1.seq hl) hlen fun ms p pm pw hn => ?_
    have s2 : Same H (upd (upd H f (.lst [])) p (.lst (ms.map V.int))) := s1.trans (same_new hn)
    have pf : f ≠ p := ne_of_none upd_same hn
    refine r_il (.inl (.inl upd_same)) (forR_list (xs := ms.map V.int) (fun i σ' H' => (∃ x2, σ' = [some (.ref l), some (.ref f), x2]) ∧ Same H H' ∧ H' p = some (.lst (ms.map V.int)) ∧ ∃ fs : List Int, H' f = some (.lst (fs.map V.int)) ∧ fs.length ≤ i ∧ DedI (ms.take i) fs)
      ⟨⟨_, rfl⟩, s2, upd_same, [], (upd_ne pf).trans upd_same, Nat.le_refl 0, .nil⟩ ?_ ?_ ?_)
    · rintro i σ' H' _ ⟨_, _, h, _⟩
      exact .inl (.inl h)
    · rintro i x σ' H' hx ⟨⟨x2, rfl⟩, sm, hpl, fs, hz, lf, D0⟩
      rw [List.getElem?_map] at hx
      obtain ⟨r, hr', rfl⟩ := Option.map_eq_some_iff.mp hx
      have il := (List.getElem?_eq_some_iff.mp hr').1
      have pl := pm.length_eq
      have tk : ms.take (i + 1) = ms.take i ++ [r] := take_next hr'
      walk_at "z"
      refine r_lstN (by decide) fun e he => ?_
      have ef : f ≠ e := ne_of_none hz he
      have s3 : Same H' (upd H' e (.lst [])) := same_new he
      refine r_eqNilI ((upd_ne ef).trans hz) upd_same ?_
      walk_at "z"
      have lens : (fs.map V.int).length < sizeLine := small_lt (by rw [List.length_map]; omega)
      have pwl : (ms.take i ++ [r]).Pairwise (· ≤ ·) := by
        rw [← tk]
        exact pw.take
      have push : ∀ H2 : Hp, Same H' H2 → H2 f = some (.lst (fs.map V.int)) → fs.getLast? ≠ some r → (∃ x2_1, [some (V.ref l), some (V.ref f), some (V.int r)] = [some (V.ref l), some (V.ref f), x2_1]) ∧ Same H (upd H2 f (.lst (fs.map V.int ++ [.int r]))) ∧ (upd H2 f (.lst (fs.map V.int ++ [.int r]))) p = some (.lst (ms.map V.int)) ∧ ∃ fs_1 : List Int, (upd H2 f (.lst (fs.map V.int ++ [.int r]))) f = some (.lst (fs_1.map V.int)) ∧ fs_1.length ≤ i + 1 ∧ DedI (ms.take (i + 1)) fs_1 := fun H2 sx hf2 hne => by
        refine ⟨⟨_, rfl⟩, same_mut (sm.trans sx) hf, ?_, fs ++ [r], ?_, by rw [List.length_append]; simp only [List.length_cons, List.length_nil]; omega, ?_⟩
        · rw [upd_ne (Ne.symm pf)]
          exact sx _ _ hpl
        · rw [List.map_append]
          exact upd_same
        · rw [tk]
          exact D0.more pwl hne
      refine r_ite (fun h0 => ?_) (fun h0 => ?_)
      · walk_at "z"
        refine r_appT (by walk_at "zh") lens ?_
        refine push _ s3 ((upd_ne ef).trans hz) ?_
        rw [h0]
        exact fun z => nomatch z
      · walk_at "z"
        obtain ⟨r', hr2⟩ : ∃ r', fs.getLast? = some r' := by
          cases q9 : fs.getLast? with
          | some r' => exact ⟨r', rfl⟩
          | none => exact absurd (List.getLast?_eq_none_iff.mp q9) h0
        have hx' : (fs.map V.int).getLast? = some (.int r') := by rw [List.getLast?_map, hr2]; rfl
        refine r_ixL (.inl (.inl ((upd_ne ef).trans hz))) (at_last hx') ?_
        walk_at "z"
        refine r_iteN (fun h1 => ?_) (fun h1 => ?_)
        · walk_at "z"
          refine r_appT (by walk_at "zh") lens ?_
          refine push _ s3 ((upd_ne ef).trans hz) ?_
          rw [hr2]
          exact fun z => h1 (Option.some.inj z)
        · walk_at "z"
          refine ⟨⟨_, rfl⟩, sm.trans s3, s3 _ _ hpl, fs, s3 _ _ hz, by omega, ?_⟩
          rw [tk]
          exact D0.same (by rw [hr2, h1])
    · rintro σ' H' ⟨⟨x2, rfl⟩, sm, hpl, fs, hz, lf, D0⟩
      walk_at "z"
      rw [List.length_map, List.take_length] at D0
      exact q f fs H' sm hz D0.asc fun z => (D0.mem z).trans pm.mem_iff
/-- what is reached from v within some vertices -/
def spReach (K : PySem.W.Frag) : Sp := fun vs H Q _ => ∃ (g : V) (n v : Int) (ps : List (Int × Int)) (l : Addr) (ns : List Int), vs = [g, .int v, .ref l] ∧ GrAt H g n ps ∧ H l = some (.lst (ns.map V.int)) ∧ ns.Nodup ∧ ns.length ≤ 60 ∧
  ∀ (t : Addr) (qs : List Int) (H' : Hp), Same H H' → H' t = some (.tup (qs.map V.int)) → qs.Pairwise (· < ·) → v ∈ qs → (∀ z ∈ qs, z = v ∨ z ∈ ns) → Q (.ref t) H'
theorem ok_reach (T : Blt mg) (D : DefAt K mg "_law_reach" s_law_reach ["graph", "v", "members"]) (D_law_met : DefAt K mg "_law_met" s_law_met ["graph", "u", "v"]) (G_law_met : FnOk P w K mg base CX0 2 D_law_met.f D_law_met.fd ["graph", "u", "v"] spMet)
    (D_law_distinct : DefAt K mg "_law_distinct" s_law_distinct ["rows"]) (G_law_distinct : FnOk P w K mg base CX0 2 D_law_distinct.f D_law_distinct.fd ["rows"] (spDistI K)) :
    FnOk P w K mg base CX0 3 D.f D.fd ["graph", "v", "members"] (spReach K) := by
  refine D.F.ok sc_law_reach (fun vs H Q E h => ?_) (fun cdv A outer s H vs Q E hr h => ?_)
  · obtain ⟨g, n, v, ps, l, ns, rfl, _⟩ := h
    rfl
  · obtain ⟨g, n, v, ps, l, ns, rfl, hgr, hl, nd, hn, q⟩ := h
    refine ⟨_, (pss_cons (ps_set (i := 3) sc_law_reach.nd rfl (Or.inr rfl) (pe_lst (pa_cons (pv 1) pa_nil)))
      (pss_cons (ps_for PassesOwn.never (by rfl) (pi_range1 (by rfl) T.range (pa_cons (pe_callB (call_lenK (K := K) rfl) (by rfl) T.len (by decide +kernel) (pa_cons (pv 2) pa_nil)) pa_nil)) (pg_name (i := 4) sc_law_reach.nd rfl (Or.inl rfl))
        (pss_one (ps_for PassesOwn.never (by rfl) (PI.listK (K := K) rfl (pi_list (pe_callTy (call_listK (K := K) rfl) (by rfl) T.list (by decide +kernel) (pa_cons (pv 3) pa_nil)))) (pg_name (i := 5) sc_law_reach.nd rfl (Or.inr rfl))
          (pss_one (ps_set (i := 3) sc_law_reach.nd rfl (Or.inr rfl) (pe_op op_cat (pv 3) (pe_lc (own := [("w", 6)]) (by rfl) sc_law_reach.nd (PI.listK (K := K) rfl (pi_list (pv 2))) (blkOk_by (own := [("w", 6)]) (N := ["graph", "v", "members", "found", "k", "u", "w"]) (sc := (defScope s_law_reach)) (by decide +kernel)) (fun _ _ _ _ _ => (pg_name (i := 6) sc_law_reach.nd rfl (Or.inl rfl))) (fun _ _ _ _ _ => (pts_one (PW.pt (pw_and (pt_cmpR (op_ninSeqK (K := K) rfl) (pv 6) (pv 3) (by rfl)) (pw_and1 (pt_val (pe_call G_law_met (hr.mono (by first | decide | omega)) (by rfl) D_law_met.g D_law_met.F.kp D_law_met.b .nil pass0 (pa_cons (pv 0) (pa_cons (pv 5) (pa_cons (pv 6) pa_nil)))))))))) (fun _ _ _ _ _ => (pv 6)))))))))
      (pss_one (ps_ret (pe_callTy (call_tupleK (K := K) rfl) (by rfl) T.tuple (by decide +kernel) (pa_cons (pe_call G_law_distinct (hr.mono (by first | decide | omega)) (by rfl) D_law_distinct.g D_law_distinct.F.kp D_law_distinct.b .nil pass0 (pa_cons (pv 3) pa_nil)) pa_nil)))))), ?_⟩
    refine r_at (σ := [some _, some _, some _, none, none, none, none]) rfl ?_
    walk_at "z"
    refine r_lstN sz1 fun f0 hf0 => ?_
    -- what is known of the list that is found so far
    have bnd : ∀ fs : List Int, fs.Nodup → (∀ z ∈ fs, z = v ∨ z ∈ ns) → fs.length ≤ ns.length + 1 := fun fs h1 h2 => nodup_le fs (v :: ns) h1 fun z hz => by
      rcases h2 z hz with c | c
      · rw [c]; exact List.mem_cons_self
      · exact List.mem_cons_of_mem _ c
    let I : L2.St → Hp → Prop := fun σ' H' => ∃ (f : Addr) (fs : List Int) (x4 x5 x6 : Option V), σ' = [some g, some (.int v), some (.ref l), some (.ref f), x4, x5, x6] ∧ Same H H' ∧ H' f = some (.lst (fs.map V.int)) ∧ fs.Nodup ∧ v ∈ fs ∧ (∀ z ∈ fs, z = v ∨ z ∈ ns)
    walk_at "z"
    refine r_rg1 (by rw [List.length_map]; omega) (forR_range (fun i σ' H' => I σ' H') ⟨f0, [v], _, _, _, rfl, same_new hf0, upd_same, by simp, List.mem_cons_self, fun z hz => .inl (List.mem_singleton.mp hz)⟩ ?_ ?_)
    · rintro i σ' H1 hi ⟨f, fs, x4, x5, x6, rfl, s1, hf, nf, vf, sub⟩
      walk_at "z"
      refine r_listL (.inl (.inl hf)) fun c hc => ?_
      have s2 := s1.trans (same_new (o := .lst (fs.map V.int)) hc)
      refine r_il (.inl (.inl upd_same)) (forR_list (xs := fs.map V.int) (fun j σ' H' => Same (upd H1 c (.lst (fs.map V.int))) H' ∧ I σ' H') ⟨fun _ _ z => z, f, fs, _, _, _, rfl, s2, same_new hc _ _ hf, nf, vf, sub⟩ (fun j σ' H' _ ⟨s3, _⟩ => .inl (.inl (s3 _ _ upd_same))) ?_ ?_)
      · rintro j x σ' H2 hx ⟨s3, f', gs, x4, x5, x6, rfl, s4, hf', ng, vg, sub'⟩
        rw [List.getElem?_map] at hx
        obtain ⟨u, hu, rfl⟩ := Option.map_eq_some_iff.mp hx
        have lg := bnd gs ng sub'
        have hl2 := s4 _ _ hl
        walk_at "z"
        refine r_il (.inl (.inl hl2)) fun d hd => lcR_list (xs := ns.map V.int) (fun i H' => Same H2 H' ∧ ∃ es : List Int, H' d = some (.lst (es.map V.int)) ∧ es.Nodup ∧ (∀ z ∈ es, z ∉ gs ∧ z ∈ ns.take i)) (by walk_at "zw") ⟨same_new hd, [], upd_same, .nil, fun z h => nomatch h⟩ (fun i H' _ ⟨s5, _⟩ => .inl (.inl (s5 _ _ hl2))) ?_ ?_
        · rintro i x H' hx ⟨s5, es, he, ne, me⟩
          rw [List.getElem?_map] at hx
          obtain ⟨z, hz, rfl⟩ := Option.map_eq_some_iff.mp hx
          have il := (List.getElem?_eq_some_iff.mp hz).1
          have hf5 := s5 _ _ hf'
          have keep : ∀ H3 : Hp, Same H' H3 → Same H2 H3 ∧ ∃ es_1 : List Int, H3 d = some (.lst (es_1.map V.int)) ∧ es_1.Nodup ∧ (∀ z ∈ es_1, z ∉ gs ∧ z ∈ ns.take (i + 1)) := fun H3 s6 => ⟨s5.trans s6, es, s6 _ _ he, ne, fun y hy => ⟨(me y hy).1, by rw [take_next hz]; exact List.mem_append_left _ (me y hy).2⟩⟩
          walk_at "z"
          refine ⟨rfl, ?_⟩
          walk_at "z"
          refine r_ninI (ns := gs) (.inl (.inl (.inl hf5))) ?_
          walk_at "z"
          refine r_iteN (fun h1 => ?_) (fun h1 => ?_)
          · walk_at "z"
            refine ⟨g, n, u, z, ps, rfl, hgr.tk (.of_same (s4.trans s5)), fun H3 s6 => ?_⟩
            have he3 := s6 _ _ he
            walk_at "z"
            refine r_ite (fun h2 => ?_) (fun h2 => ?_)
            · walk_at "z"
              have le : es.length ≤ ns.length := nodup_le es ns ne fun y hy => List.mem_of_mem_take (me y hy).2
              refine r_lce he3 (small_lt (by rw [List.length_map]; omega)) ⟨same_mut (s5.trans s6) hd, es ++ [z], by rw [List.map_append]; exact upd_same, List.nodup_append.mpr ⟨ne, by simp, fun y hy b hb => ?_⟩, fun y hy => ?_⟩
              · rw [List.mem_singleton.mp hb]
                intro e
                subst e
                -- z stands at place i of ns, and not before
                obtain ⟨k, hk, ek⟩ := List.mem_iff_getElem.mp (me y hy).2
                rw [List.length_take] at hk
                rw [List.getElem_take] at ek
                obtain ⟨li, ei⟩ := List.getElem?_eq_some_iff.mp hz
                have := (List.getElem_inj nd).mp (ek.trans ei.symm)
                omega
              · rw [take_next hz]
                rcases List.mem_append.mp hy with c | c
                · exact ⟨(me y c).1, List.mem_append_left _ (me y c).2⟩
                · rw [List.mem_singleton.mp c]
                  exact ⟨h1, List.mem_append_right _ (List.mem_singleton.mpr rfl)⟩
            · exact keep H3 s6
          · walk_at "z"
            exact keep H' fun _ _ z => z
        · rintro H3 ⟨s5, es, he, ne, me⟩
          rw [List.length_map, List.take_length] at me
          have le : es.length ≤ ns.length := nodup_le es ns ne fun y hy => (me y hy).2
          walk_at "z"
          refine r_cat (s5 _ _ hf') he (by rw [List.length_map, List.length_map]; omega) fun c2 hc2 => ?_
          refine ⟨(s3.trans s5).trans (same_new hc2), c2, gs ++ es, _, _, _, rfl, (s4.trans s5).trans (same_new hc2), by rw [List.map_append]; exact upd_same, List.nodup_append.mpr ⟨ng, ne, fun y hy b hb e => (me b hb).1 (e ▸ hy)⟩, List.mem_append_left _ vg, fun y hy => ?_⟩
          rcases List.mem_append.mp hy with c | c
          · exact sub' y c
          · exact .inr (me y c).2
      · rintro σ' H2 ⟨_, h⟩
        exact h
    · rintro σ' H1 ⟨f, fs, x4, x5, x6, rfl, s1, hf, nf, vf, sub⟩
      have lf := bnd fs nf sub
      walk_at "z"
      refine ⟨f, fs, rfl, .inl (.inl hf), by omega, fun f2 qs H2 s2 hf2 asc mem => ?_⟩
      walk_at "z"
      refine r_tupL (.inl (.inl hf2)) fun t ht => ?_
      exact q t qs _ ((s1.trans s2).trans (same_new ht)) upd_same asc ((mem v).mpr vf) fun z hz => sub z ((mem z).mp hz)
end

set_option Elab.async false
set_option linter.all false
set_option maxRecDepth 100000
set_option maxHeartbeats 4000000
open PySem PySem.Spec PyProof.Rows L2

abbrev s_law_drawn_bramble : Stmt := topS 47
theorem sc_law_drawn_bramble : FnScope ["pool", "graph", "parts", "found", "k", "part", "one"] ["pool", "graph"] (defScope s_law_drawn_bramble) := ⟨rfl, rfl, rfl, by decide +kernel, rfl, by decide +kernel, by decide +kernel⟩

/-- all subsets, in the order in which the law makes them -/
def subF (f : List (List Int)) (ns : List Int) : List (List Int) := ns.foldl (fun f x => f ++ f.map (· ++ [x])) f
def subL (ns : List Int) : List (List Int) := subF [[]] ns
theorem subF_len : ∀ (ns : List Int) (f : List (List Int)), (subF f ns).length = f.length * 2 ^ ns.length
  | [], f => by simp [subF]
  | n :: ns, f => by
    have := subF_len ns (f ++ f.map (· ++ [n]))
    show (subF (f ++ f.map (· ++ [n])) ns).length = _
    rw [this, List.length_append, List.length_map, List.length_cons, Nat.pow_succ, Nat.mul_comm (2 ^ ns.length) 2, ← Nat.mul_assoc]
    congr 1
    omega
theorem subF_sub : ∀ (ns : List Int) (f : List (List Int)) (pre : List Int), (∀ o ∈ f, o.Sublist pre) → ∀ o ∈ subF f ns, o.Sublist (pre ++ ns)
  | [], f, pre, h => fun o ho => by rw [List.append_nil]; exact h o ho
  | n :: ns, f, pre, h => fun o ho => by
    have := subF_sub ns (f ++ f.map (· ++ [n])) (pre ++ [n]) (fun o ho => by
      rcases List.mem_append.mp ho with c | c
      · exact (h o c).trans (List.sublist_append_left _ _)
      · obtain ⟨o', ho', rfl⟩ := List.mem_map.mp c
        exact (h o' ho').append (List.Sublist.refl _)) o ho
    rw [List.append_assoc] at this
    exact this
theorem subL_sub {ns o : List Int} (h : o ∈ subL ns) : o.Sublist ns := subF_sub ns [[]] [] (fun o ho => by rw [List.mem_singleton.mp ho]; exact List.Sublist.refl _) o h
theorem subF_mono : ∀ (ns : List Int) (f : List (List Int)), ∀ o ∈ f, o ∈ subF f ns
  | [], f => fun o ho => ho
  | n :: ns, f => fun o ho => subF_mono ns _ o (List.mem_append_left _ ho)
theorem subL_first (z : Int) (ns : List Int) : [z] ∈ subL (z :: ns) := subF_mono ns ([[]] ++ [[]].map (· ++ [z])) [z] (by simp)
theorem subL_next {ns : List Int} {j : Nat} {x : Int} (h : ns[j]? = some x) : subL (ns.take (j + 1)) = subL (ns.take j) ++ (subL (ns.take j)).map (· ++ [x]) := by
  unfold subL subF
  rw [take_next h, List.foldl_append]
  rfl
theorem subL_len (ns : List Int) : (subL ns).length = 2 ^ ns.length := by
  unfold subL
  rw [subF_len]
  simp
section
variable {P : Program} {w : World} {K : PySem.W.Frag} {mg : Str → Option Value} {base : Heap}
def spJoined : Sp := fun vs H Q _ => ∃ (g x : V) (n : Int) (ps : List (Int × Int)) (ns : List Int), vs = [g, x] ∧ GrAt H g n ps ∧ ITup H x ns ∧ ns.Nodup ∧ ns.length ≤ 60 ∧
  ∀ (b : Bool) (H' : Hp), Same H H' → (b = true → ns ≠ []) → (∀ z, ns = [z] → b = true) → Q (.bl b) H'
theorem ok_joined (T : Blt mg) (D : DefAt K mg "_law_joined" s_law_joined ["graph", "members"]) (D_law_reach : DefAt K mg "_law_reach" s_law_reach ["graph", "v", "members"]) (G_law_reach : FnOk P w K mg base CX0 3 D_law_reach.f D_law_reach.fd ["graph", "v", "members"] (spReach K)) :
    FnOk P w K mg base CX0 4 D.f D.fd ["graph", "members"] spJoined := by
  refine D.F.ok sc_law_joined (fun vs H Q E h => ?_) (fun cdv A outer s H vs Q E hr h => ?_)
  · obtain ⟨g, x, n, ps, ns, rfl, _⟩ := h
    rfl
  · obtain ⟨g, x, n, ps, ns, rfl, hgr, ⟨t, rfl, ht⟩, nd, hn, q⟩ := h
    refine ⟨_, (pss_one (ps_ret (pe_and (pe_cmpR op_gt (pe_callB (call_lenK (K := K) rfl) (by rfl) T.len (by decide +kernel) (pa_cons (pv 1) pa_nil)) pe_int (nomark _)) (pe_one (pe_cmpR op_eq (pe_callB (call_lenK (K := K) rfl) (by rfl) T.len (by decide +kernel) (pa_cons (pe_call G_law_reach (hr.mono (by first | decide | omega)) (by rfl) D_law_reach.g D_law_reach.F.kp D_law_reach.b .nil pass0 (pa_cons (pv 0) (pa_cons (pe_ix (ix_tupK (K := K) rfl) (pv 1) pe_int (fun _ _ => rfl)) (pa_cons (pe_callTy (call_listK (K := K) rfl) (by rfl) T.list (by decide +kernel) (pa_cons (pv 1) pa_nil)) pa_nil)))) pa_nil)) (pe_callB (call_lenK (K := K) rfl) (by rfl) T.len (by decide +kernel) (pa_cons (pv 1) pa_nil)) (nomark _)))))), ?_⟩
    refine r_at (σ := [some _, some _]) rfl ?_
    walk_at "z"
    refine r_ite (fun h => ?_) (fun h => ?_)
    · rw [List.length_map] at h
      obtain ⟨z, r, rfl⟩ : ∃ z r, ns = z :: r := by
        cases ns with
        | nil => simp at h
        | cons z r => exact ⟨z, r, rfl⟩
      walk_at "z"
      refine r_listT (.inl (.inl ht)) fun l hl => ?_
      have s1 : Same H (upd H l (.lst ((z :: r).map V.int))) := same_new hl
      have ht1 := s1 _ _ ht
      walk_at "z"
      refine ⟨g, n, z, ps, l, z :: r, rfl, hgr.tk (.of_same s1), upd_same, nd, hn, fun t2 qs H2 s2 ht2 asc zin sub => ?_⟩
      have ht12 := s2 _ _ ht1
      walk_at "z"
      refine q _ H2 (s1.trans s2) (fun _ => by simp) fun y e => ?_
      have e1 : r = [] := by injection e
      subst e1
      have : qs = [z] := by
        cases qs with
        | nil => cases zin
        | cons a as =>
          have ha : a = z := by
            rcases sub a List.mem_cons_self with c | c
            · exact c
            · exact List.mem_singleton.mp c
          cases as with
          | nil => rw [ha]
          | cons b bs =>
            have hb : b = z := by
              rcases sub b (List.mem_cons_of_mem _ List.mem_cons_self) with c | c
              · exact c
              · exact List.mem_singleton.mp c
            have := (List.pairwise_cons.mp asc).1 b List.mem_cons_self
            omega
      rw [this]
      exact decide_eq_true rfl
    · rw [List.length_map] at h
      walk_at "z"
      refine q _ H (fun _ _ z => z) (fun e => Bool.noConfusion e) fun z e => ?_
      rw [e] at h
      simp at h
def spSubs : Sp := fun vs H Q _ => ∃ (l : Addr) (ns : List Int), vs = [.ref l] ∧ H l = some (.lst (ns.map V.int)) ∧ ns.length ≤ 10 ∧ ∀ (f : Addr) (xs : List V) (H' : Hp), Same H H' → H' f = some (.lst xs) → ITups H' xs (subL ns) → Q (.ref f) H'
theorem ok_subs (T : Blt mg) (D : DefAt K mg "_law_subsets" s_law_subsets ["items"]) : FnOk P w K mg base CX0 1 D.f D.fd ["items"] spSubs := by
  refine D.F.ok sc_law_subsets (fun vs H Q E h => ?_) (fun cdv A outer s H vs Q E hr h => ?_)
  · obtain ⟨l, ns, rfl, _⟩ := h
    rfl
  · obtain ⟨l, ns, rfl, hl, hn, q⟩ := h
    refine ⟨_, (pss_cons (ps_set (i := 1) sc_law_subsets.nd rfl (Or.inl rfl) (pe_lst (pa_cons (pe_tup pa_nil) pa_nil)))
      (pss_cons (ps_for PassesOwn.never (by rfl) (PI.listK (K := K) rfl (pi_list (pv 0))) (pg_name (i := 2) sc_law_subsets.nd rfl (Or.inr rfl))
        (pss_one (ps_set (i := 1) sc_law_subsets.nd rfl (Or.inl rfl) (pe_op op_cat (pv 1) (pe_lc (own := [("one", 3)]) (by rfl) sc_law_subsets.nd (PI.listK (K := K) rfl (pi_list (pv 1))) (blkOk_by (own := [("one", 3)]) (N := ["items", "found", "item", "one"]) (sc := (defScope s_law_subsets)) (by decide +kernel)) (fun _ _ _ _ _ => (pg_name (i := 3) sc_law_subsets.nd rfl (Or.inl rfl))) (fun _ _ _ _ _ => pts_nil) (fun _ _ _ _ _ => (pe_op (op_catAK (K := K) rfl) (pv 3) (pe_tup (pa_cons (pv 2) pa_nil)))))))))
      (pss_one (ps_ret (pv 1))))), ?_⟩
    refine r_at (σ := [some _, none, none, none]) rfl ?_
    walk_at "z"
    refine r_tupN (Nat.zero_le _) fun t0 ht0 => ?_
    walk_at "z"
    refine r_lstN sz1 fun f0 hf0 => ?_
    have s1 : Same H (upd (upd H t0 (.tup [])) f0 (.lst [.ref t0])) := (same_new ht0).trans (same_new hf0)
    have p0 : ITups (upd (upd H t0 (.tup [])) f0 (.lst [.ref t0])) [.ref t0] [[]] := .cons ⟨t0, rfl, same_new hf0 _ _ upd_same⟩ .nil
    have h0 : (upd (upd H t0 (.tup [])) f0 (.lst [.ref t0])) f0 = some (.lst [.ref t0]) := upd_same
    generalize upd (upd H t0 (.tup [])) f0 (.lst [.ref t0]) = H1 at s1 p0 h0 ⊢
    have hl1 := s1 _ _ hl
    walk_at "z"
    have lens : ∀ j, (subL (ns.take j)).length ≤ 1024 := fun j => by
      rw [subL_len, List.length_take]
      exact Nat.pow_le_pow_right (by omega) (show min j ns.length ≤ 10 by omega)
    refine r_il (.inl (.inl hl1)) (forR_list (xs := ns.map V.int) (fun j σ' H' => ∃ (f : Addr) (xs : List V) (x2 x3 : Option V), σ' = [some (.ref l), some (.ref f), x2, x3] ∧ Same H1 H' ∧ H' f = some (.lst xs) ∧ ITups H' xs (subL (ns.take j))) ⟨f0, _, _, _, rfl, fun _ _ z => z, h0, p0⟩ (fun j σ' H' _ ⟨f, xs, x2, x3, _, s2, _⟩ => .inl (.inl (s2 _ _ hl1))) ?_ ?_)
    · rintro j x σ' H' hx ⟨f, xs, x2, x3, rfl, s2, hf, pr⟩
      rw [List.getElem?_map] at hx
      obtain ⟨u, hu, rfl⟩ := Option.map_eq_some_iff.mp hx
      have lj := lens j
      walk_at "z"
      refine r_il (.inl (.inl hf)) fun d hd => lcR_list (xs := xs) (fun i H3 => Same H' H3 ∧ ∃ ys, H3 d = some (.lst ys) ∧ ITups H3 ys (((subL (ns.take j)).take i).map (· ++ [u]))) (by walk_at "zw") ⟨same_new hd, [], upd_same, .nil⟩ (fun i H3 _ ⟨s3, _⟩ => .inl (.inl (s3 _ _ hf))) ?_ ?_
      · rintro i y H3 hy ⟨s3, ys, hys, pys⟩
        obtain ⟨o, ho, t, rfl, ht⟩ := pd_get (ITups.tk (.of_same s3) pr) hy
        have il := (List.getElem?_eq_some_iff.mp ho).1
        have ol := (subL_sub (List.mem_of_getElem? ho)).length_le
        rw [List.length_take] at ol
        walk_at "z"
        refine ⟨rfl, ?_⟩
        walk_at "z"
        refine r_tupN sz1 fun t2 ht2 => ?_
        have s4 : Same H3 (upd H3 t2 (.tup [.int u])) := same_new ht2
        refine r_catA (s4 _ _ ht) upd_same (by rw [List.length_map]; simp only [List.length_cons, List.length_nil]; omega) fun p H5 s5 hp5 => ?_
        have s35 := s4.trans s5
        have hy5 := s35 _ _ hys
        refine r_lce hy5 (small_lt ?_) ⟨same_mut (s3.trans s35) hd, _, upd_same, ?_⟩
        · rw [pys.length, List.length_map, List.length_take]
          omega
        · rw [take_next ho, List.map_append]
          refine Paired.snoc (ITups.tk (.lst hy5) (ITups.tk (.of_same s35) pys)) (ITup.tk (.lst hy5) ⟨p, rfl, ?_⟩)
          rw [hp5, List.map_append]
          rfl
      · rintro H3 ⟨s3, ys, hys, pys⟩
        rw [pr.length, List.take_length] at pys
        have e1 := pr.length
        have e2 := pys.length
        rw [List.length_map] at e2
        walk_at "z"
        refine r_cat (s3 _ _ hf) hys (by omega) fun c hc => ?_
        refine ⟨c, _, _, _, rfl, (s2.trans s3).trans (same_new hc), upd_same, ?_⟩
        rw [subL_next hu]
        exact pd_append (ITups.tk (.of_same (s3.trans (same_new hc))) pr) (ITups.tk (.new hc) pys)
    · rintro σ' H' ⟨f, xs, x2, x3, rfl, s2, hf, pr⟩
      rw [List.length_map, List.take_length] at pr
      walk_at "z"
      exact q f xs H' (s1.trans s2) hf pr
def spLTouch : Sp := fun vs H Q _ => ∃ (g x y : V) (n : Int) (ps : List (Int × Int)) (one two : List Int), vs = [g, x, y] ∧ GrAt H g n ps ∧ ITup H x one ∧ ITup H y two ∧ two.length ≤ 1000 ∧ ∀ (r : Bool) (H' : Hp), Same H H' → (r = true ↔ TouchP ps one two) → Q (.bl r) H'
theorem ok_ltouch (T : Blt mg) (D : DefAt K mg "_law_touch" s_law_touch ["graph", "one", "two"]) (D_law_met : DefAt K mg "_law_met" s_law_met ["graph", "u", "v"]) (G_law_met : FnOk P w K mg base CX0 2 D_law_met.f D_law_met.fd ["graph", "u", "v"] spMet) :
    FnOk P w K mg base CX0 3 D.f D.fd ["graph", "one", "two"] spLTouch := by
  refine D.F.ok sc_law_touch (fun vs H Q E h => ?_) (fun cdv A outer s H vs Q E hr h => ?_)
  · obtain ⟨g, x, y, n, ps, one, two, rfl, _⟩ := h
    rfl
  · obtain ⟨g, x, y, n, ps, one, two, rfl, hgr, ⟨a, rfl, ha⟩, ⟨b, rfl, hb⟩, hlen, q⟩ := h
    refine ⟨_, (pss_cons (ps_for PassesOwn.never (by rfl) (PI.tupK (K := K) rfl (pi_tup (pv 1))) (pg_name (i := 3) sc_law_touch.nd rfl (Or.inr rfl))
        (pss_one (ps_if (pt_cmpR op_gt (pe_callB (call_lenK (K := K) rfl) (by rfl) T.len (by decide +kernel) (pa_cons (pe_lc (own := [("v", 4)]) (by rfl) sc_law_touch.nd (PI.tupK (K := K) rfl (pi_tup (pv 2))) (blkOk_by (own := [("v", 4)]) (N := ["graph", "one", "two", "u", "v"]) (sc := (defScope s_law_touch)) (by decide +kernel)) (fun _ _ _ _ _ => (pg_name (i := 4) sc_law_touch.nd rfl (Or.inl rfl))) (fun _ _ _ _ _ => (pts_one (PW.pt (pw_or (pt_cmpR op_eq (pv 3) (pv 4) (nomark _)) (pw_or1 (pt_val (pe_call G_law_met (hr.mono (by first | decide | omega)) (by rfl) D_law_met.g D_law_met.F.kp D_law_met.b .nil pass0 (pa_cons (pv 0) (pa_cons (pv 3) (pa_cons (pv 4) pa_nil)))))))))) (fun _ _ _ _ _ => (pv 4))) pa_nil)) pe_int (nomark _))
          (pss_one (ps_ret pe_bl))
          pss_nil)))
      (pss_one (ps_ret pe_bl))), ?_⟩
    refine r_at (σ := [some _, some _, some _, none, none]) rfl ?_
    walk_at "z"
    refine r_it (.inl (.inl ha)) (forR_tup (xs := one.map V.int) (fun j σ' H' => (∃ x3 x4, σ' = [some g, some (.ref a), some (.ref b), x3, x4]) ∧ Same H H' ∧ ¬ TouchP ps (one.take j) two) ⟨⟨_, _, rfl⟩, fun _ _ z => z, fun ⟨u, hu, _⟩ => nomatch hu⟩ (fun i σ' H' _ ⟨_, s1, _⟩ => .inl (.inl (s1 _ _ ha))) ?_ ?_)
    · rintro j x σ' H1 hx ⟨⟨x3, x4, rfl⟩, s1, no⟩
      rw [List.getElem?_map] at hx
      obtain ⟨u, hu, rfl⟩ := Option.map_eq_some_iff.mp hx
      have hb1 := s1 _ _ hb
      walk_at "z"
      refine r_it (.inl (.inl hb1)) fun d hd => lcR_tup (xs := two.map V.int) (fun i H' => Same H1 H' ∧ ∃ es : List Int, H' d = some (.lst (es.map V.int)) ∧ es.length ≤ i ∧ (0 < es.length ↔ ∃ v ∈ two.take i, u = v ∨ nrm (u, v) ∈ ps)) (by walk_at "zw") ⟨same_new hd, [], upd_same, Nat.le_refl 0, ⟨fun h => absurd h (by simp), fun ⟨v, hv, _⟩ => nomatch hv⟩⟩ (fun i H' _ ⟨s2, _⟩ => .inl (.inl (s2 _ _ hb1))) ?_ ?_
      · rintro i x H' hx ⟨s2, es, he, le, iff⟩
        rw [List.getElem?_map] at hx
        obtain ⟨v, hv, rfl⟩ := Option.map_eq_some_iff.mp hx
        have il := (List.getElem?_eq_some_iff.mp hv).1
        have hit : ∀ H3 : Hp, Same H' H3 → (u = v ∨ nrm (u, v) ∈ ps) → LcE d (fun H' => Same H1 H' ∧ ∃ es : List Int, H' d = some (.lst (es.map V.int)) ∧ es.length ≤ i + 1 ∧ (0 < es.length ↔ ∃ v ∈ two.take (i + 1), u = v ∨ nrm (u, v) ∈ ps)) (.int v) H3 := fun H3 s3 h => by
          refine r_lce (s3 _ _ he) (small_lt (by rw [List.length_map]; omega)) ⟨same_mut (s2.trans s3) hd, es ++ [v], by rw [List.map_append]; exact upd_same, by rw [List.length_append]; simp only [List.length_cons, List.length_nil]; omega, ⟨fun _ => ⟨v, by rw [take_next hv]; exact List.mem_append_right _ (List.mem_singleton.mpr rfl), h⟩, fun _ => by rw [List.length_append]; simp only [List.length_cons, List.length_nil]; omega⟩⟩
        walk_at "z"
        refine ⟨rfl, ?_⟩
        walk_at "z"
        refine r_ite (fun h1 => ?_) (fun h1 => ?_)
        · walk_at "z"
          exact hit H' (fun _ _ z => z) (.inl h1)
        · walk_at "z"
          refine ⟨g, n, u, v, ps, rfl, hgr.tk (.of_same (s1.trans s2)), fun H3 s3 => ?_⟩
          walk_at "z"
          refine r_ite (fun h2 => ?_) (fun h2 => ?_)
          · walk_at "z"
            exact hit H3 s3 (.inr h2)
          · refine ⟨s2.trans s3, es, s3 _ _ he, by omega, iff.trans ⟨fun ⟨v', m, h⟩ => ⟨v', by rw [take_next hv]; exact List.mem_append_left _ m, h⟩, fun ⟨v', m, h⟩ => ?_⟩⟩
            rw [take_next hv] at m
            rcases List.mem_append.mp m with c | c
            · exact ⟨v', c, h⟩
            · rw [List.mem_singleton.mp c] at h
              exact absurd h (fun z => z.elim h1 h2)
      · rintro H' ⟨s2, es, he, le, iff⟩
        rw [List.length_map, List.take_length] at iff
        walk_at "z"
        refine r_ite (fun h => ?_) (fun h => ?_)
        · rw [List.length_map] at h
          obtain ⟨v, hv, hh⟩ := iff.mp (by omega)
          walk_at "z"
          exact q _ H' (s1.trans s2) ⟨fun _ => ⟨u, List.mem_of_getElem? hu, v, hv, hh⟩, fun _ => rfl⟩
        · rw [List.length_map] at h
          walk_at "z"
          refine ⟨⟨_, _, rfl⟩, s1.trans s2, ?_⟩
          rintro ⟨u', m, v, hv, hh⟩
          rw [take_next hu] at m
          rcases List.mem_append.mp m with c | c
          · exact no ⟨u', c, v, hv, hh⟩
          · rw [List.mem_singleton.mp c] at hh
            have := iff.mpr ⟨v, hv, hh⟩
            omega
    · rintro σ' H' ⟨⟨x3, x4, rfl⟩, s1, no⟩
      rw [List.length_map, List.take_length] at no
      walk_at "z"
      exact q _ H' s1 ⟨fun z => Bool.noConfusion z, fun h => absurd h no⟩
def spLHits : Sp := fun vs H Q _ => ∃ (x : V) (b : Addr) (ns : List Int) (xs : List V) (oss : List (List Int)), vs = [x, .ref b] ∧ ITup H x ns ∧ H b = some (.tup xs) ∧ ITups H xs oss ∧ oss.length ≤ 10000 ∧ (∀ o ∈ oss, o.length ≤ 10000) ∧
  ∀ (r : Bool) (H' : Hp), Same H H' → (r = true ↔ HitsP ns oss) → Q (.bl r) H'
theorem ok_lhits (T : Blt mg) (D : DefAt K mg "_law_hits" s_law_hits ["members", "bramble"]) : FnOk P w K mg base CX0 1 D.f D.fd ["members", "bramble"] spLHits := by
  refine D.F.ok sc_law_hits (fun vs H Q E h => ?_) (fun cdv A outer s H vs Q E hr h => ?_)
  · obtain ⟨x, b, ns, xs, oss, rfl, _⟩ := h
    rfl
  · obtain ⟨x, b, ns, xs, oss, rfl, ⟨a, rfl, ha⟩, hb, hx, hlen, hlens, q⟩ := h
    refine ⟨_, (pss_one (ps_ret (pe_cmpR op_eq (pe_callB (call_lenK (K := K) rfl) (by rfl) T.len (by decide +kernel) (pa_cons (pe_lc (own := [("part", 2)]) (by rfl) sc_law_hits.nd (PI.tupK (K := K) rfl (pi_tup (pv 1))) (blkOk_by (own := [("part", 2)]) (N := ["members", "bramble", "part", "v"]) (sc := (defScope s_law_hits)) (by decide +kernel)) (fun _ _ _ _ _ => (pg_name (i := 2) sc_law_hits.nd rfl (Or.inl rfl))) (fun _ _ _ _ _ => (pts_one (pt_cmpR op_eq (pe_callB (call_lenK (K := K) rfl) (by rfl) T.len (by decide +kernel) (pa_cons (pe_lc (own := [("v", 3)]) (by rfl) sc_law_hits.nd (PI.tupK (K := K) rfl (pi_tup (pv 2))) (blkOk_by (own := [("v", 3)]) (N := ["members", "bramble", "part", "v"]) (sc := ({ kind := .function, names := [(PySem.Str.ofString ".0", PySem.NameKind.local), (PySem.Str.ofString "part", PySem.NameKind.local), (PySem.Str.ofString "len", PySem.NameKind.globalImplicit), (PySem.Str.ofString "members", PySem.NameKind.cell)], isGenerator := false, isCoroutine := false, more := [] } : PySem.Scope)) (by decide +kernel)) (fun _ _ _ _ _ => (pg_name (i := 3) sc_law_hits.nd rfl (Or.inl rfl))) (fun _ _ _ _ _ => (pts_one (pt_cmpR (op_inSeqK (K := K) rfl) (pv 3) (pv 0) (by rfl)))) (fun _ _ _ _ _ => (pv 3))) pa_nil)) pe_int (nomark _)))) (fun _ _ _ _ _ => (pv 2))) pa_nil)) pe_int (nomark _)))), ?_⟩
    refine r_at (σ := [some _, some _, none, none]) rfl ?_
    walk_at "z"
    refine r_it (.inl (.inl hb)) fun d hd => lcR_tup (xs := xs) (fun i H' => Same H H' ∧ ∃ ys : List V, H' d = some (.lst ys) ∧ ys.length ≤ i ∧ (ys.length = 0 ↔ HitsP ns (oss.take i))) (by walk_at "zw") ⟨same_new hd, [], upd_same, Nat.le_refl 0, ⟨fun _ o h => (nomatch h), fun _ => rfl⟩⟩ (fun i H' _ ⟨s1, _⟩ => .inl (.inl (s1 _ _ hb))) ?_ ?_
    · rintro i y H1 hy ⟨s1, ys, hys, ly, iff⟩
      obtain ⟨o, ho, t, rfl, ht⟩ := pd_get (ITups.tk (.of_same s1) hx) hy
      have il := (List.getElem?_eq_some_iff.mp ho).1
      have ol := hlens o (List.mem_of_getElem? ho)
      have ha1 := s1 _ _ ha
      have take : HitsP ns (oss.take (i + 1)) ↔ HitsP ns (oss.take i) ∧ ∃ v ∈ ns, v ∈ o := by
        rw [take_next ho]
        constructor
        · intro h
          exact ⟨fun z hz => h z (List.mem_append_left _ hz), h o (List.mem_append_right _ (List.mem_singleton.mpr rfl))⟩
        · rintro ⟨h1, h2⟩ z hz
          rcases List.mem_append.mp hz with c | c
          · exact h1 z c
          · rw [List.mem_singleton.mp c]
            exact h2
      walk_at "z"
      refine ⟨rfl, ?_⟩
      walk_at "z"
      refine r_it (.inl (.inl ht)) fun d2 hd2 => lcR_tup (xs := o.map V.int) (fun j H' => Same H1 H' ∧ ∃ es : List Int, H' d2 = some (.lst (es.map V.int)) ∧ es.length ≤ j ∧ (es.length = 0 ↔ ¬ ∃ v ∈ ns, v ∈ o.take j)) (by walk_at "zw") ⟨same_new hd2, [], upd_same, Nat.le_refl 0, ⟨fun _ ⟨v, _, h⟩ => (nomatch h), fun _ => rfl⟩⟩ (fun j H' _ ⟨s2, _⟩ => .inl (.inl (s2 _ _ ht))) ?_ ?_
      · rintro j z H' hz ⟨s2, es, he, le, iff2⟩
        rw [List.getElem?_map] at hz
        obtain ⟨v, hv, rfl⟩ := Option.map_eq_some_iff.mp hz
        have jl := (List.getElem?_eq_some_iff.mp hv).1
        walk_at "z"
        refine ⟨rfl, ?_⟩
        walk_at "z"
        refine r_inI (ns := ns) (.inr (.inl (.inl (s2 _ _ ha1)))) ?_
        walk_at "z"
        refine r_ite (fun h => ?_) (fun h => ?_)
        · walk_at "z"
          refine r_lce he (small_lt (by rw [List.length_map]; omega)) ⟨same_mut s2 hd2, es ++ [v], by rw [List.map_append]; exact upd_same, by rw [List.length_append]; simp only [List.length_cons, List.length_nil]; omega, ⟨fun z => by simp at z, fun z => absurd ⟨v, h, by rw [take_next hv]; exact List.mem_append_right _ (List.mem_singleton.mpr rfl)⟩ z⟩⟩
        · refine ⟨s2, es, he, by omega, iff2.trans (not_congr ⟨fun ⟨v', m1, m2⟩ => ⟨v', m1, by rw [take_next hv]; exact List.mem_append_left _ m2⟩, fun ⟨v', m1, m2⟩ => ?_⟩)⟩
          rw [take_next hv] at m2
          rcases List.mem_append.mp m2 with c | c
          · exact ⟨v', m1, c⟩
          · exact absurd (List.mem_singleton.mp c ▸ m1) h
      · rintro H2 ⟨s2, es, he, le, iff2⟩
        rw [List.length_map, List.take_length] at iff2
        have hy2 := s2 _ _ hys
        walk_at "z"
        refine r_ite (fun h => ?_) (fun h => ?_)
        · rw [List.length_map] at h
          walk_at "z"
          refine r_lce hy2 (small_lt (by omega)) ⟨same_mut (s1.trans s2) hd, _, upd_same, by rw [List.length_append]; simp only [List.length_cons, List.length_nil]; omega, ⟨fun z => by simp at z, fun z => absurd (take.mp z).2 (iff2.mp (by omega))⟩⟩
        · rw [List.length_map] at h
          refine ⟨s1.trans s2, ys, hy2, by omega, iff.trans ⟨fun z => take.mpr ⟨z, ?_⟩, fun z => (take.mp z).1⟩⟩
          refine Classical.byContradiction fun c => h ?_
          have := iff2.mpr c
          omega
    · rintro H' ⟨s1, ys, hys, ly, iff⟩
      rw [hx.length, List.take_length] at iff
      walk_at "z"
      refine q _ H' s1 (decide_eq_true_iff.trans (Iff.trans ?_ iff))
      omega
end

set_option Elab.async false
set_option linter.all false
set_option maxRecDepth 100000
set_option maxHeartbeats 4000000
open PySem PySem.Spec PyProof.Rows L2

/-- those before, those behind -/
def lowL (ps : List (Int × Int)) (v : Int) : List Int := (ps.filter fun p => decide (p.2 = v)).map fun p => p.1
def highL (ps : List (Int × Int)) (v : Int) : List Int := (ps.filter fun p => decide (p.1 = v)).map fun p => p.2
section
variable {P : Program} {w : World} {K : PySem.W.Frag} {mg : Str → Option Value} {base : Heap}
def spNbrs : Sp := fun vs H Q _ => ∃ (g : V) (n v : Int) (ps : List (Int × Int)), vs = [g, .int v] ∧ GrAt H g n ps ∧ GoodG n ps ∧ n ≤ 100 ∧ ∀ (l : Addr) (H' : Hp), H l = none → Same H H' → H' l = some (.lst ((nearL n ps v n.toNat).map V.int)) → Q (.ref l) H'
end

set_option Elab.async false
set_option linter.all false
set_option maxRecDepth 100000
set_option maxHeartbeats 4000000
open PySem PySem.Spec PyProof.Rows L2
/-! graphs and pairs as data -/
def pT (p : Int × Int) : PyData := .tuple [.int p.1, .int p.2]
def gT (n : Int) (ps : List (Int × Int)) : PyData := .tuple [.int n, .tuple (ps.map pT)]
section
variable {K : PySem.W.Frag} {H : Hp} {Q : VK}
end

set_option Elab.async false
set_option linter.all false
set_option maxRecDepth 100000
set_option maxHeartbeats 4000000
open PySem PySem.Spec PyProof.Rows L2

section
variable {P : Program} {w : World} {K : PySem.W.Frag} {mg : Str → Option Value} {base : Heap}
/-- which pairs are among these, either way round -/
def isE (es : List (Int × Int)) (p : Int × Int) : Bool := decide (p ∈ es) || decide ((p.2, p.1) ∈ es)
def spSorted (K : PySem.W.Frag) : Sp := fun vs H Q _ => ∃ (n : Nat) (l : Addr) (xs : List V) (es : List (Int × Int)), vs = [.int (n : Int), .ref l] ∧ n ≤ 100 ∧ SqL K H l xs ∧ Prs H xs es ∧
  ∀ (v : V) (H' : Hp), Same H H' → GrAt H' v (n : Int) ((allP n).filter (isE es)) → Q v H'
end

set_option Elab.async false
set_option linter.all false
set_option maxRecDepth 100000
set_option maxHeartbeats 4000000
open PySem PySem.Spec PyProof.Rows L2 LamX RZ
theorem cr_sumK {X : Cx} {K : PySem.W.Frag} (h : X.K = K) (hc : X.calm = true) : CallR X (.builtin "sum") (rSum K) := h ▸ cr_sum hc

abbrev s_size_of : Stmt := topS 3
theorem sc_size_of : FnScope ["mask"] ["mask"] (defScope s_size_of) := ⟨rfl, rfl, rfl, by decide +kernel, rfl, by decide +kernel, by decide +kernel⟩

abbrev s_is_within : Stmt := topS 6
theorem sc_is_within : FnScope ["part", "whole"] ["part", "whole"] (defScope s_is_within) := ⟨rfl, rfl, rfl, by decide +kernel, rfl, by decide +kernel, by decide +kernel⟩

abbrev s_least_sets : Stmt := topS 10
theorem sc_least_sets : FnScope ["sets", "kept", "mask", "other"] ["sets"] (defScope s_least_sets) := ⟨rfl, rfl, rfl, by decide +kernel, rfl, by decide +kernel, by decide +kernel⟩

abbrev s_smallest : Stmt := topS 14
theorem sc_smallest : FnScope ["sets"] ["sets"] (defScope s_smallest) := ⟨rfl, rfl, rfl, by decide +kernel, rfl, by decide +kernel, by decide +kernel⟩

abbrev s_needed_apart : Stmt := topS 12
theorem sc_needed_apart : FnScope ["sets", "many", "used", "mask"] ["sets"] (defScope s_needed_apart) := ⟨rfl, rfl, rfl, by decide +kernel, rfl, by decide +kernel, by decide +kernel⟩

abbrev s_may_suffice : Stmt := topS 13
theorem sc_may_suffice : FnScope ["sets", "most", "mask", "many", "v"] ["sets", "most"] (defScope s_may_suffice) := ⟨rfl, rfl, rfl, by decide +kernel, rfl, by decide +kernel, by decide +kernel⟩

def nI (ms : List Nat) : List Int := ms.map fun (m : Nat) => (m : Int)
theorem nI_get {ms : List Nat} {i : Nat} {x : V} (h : ((nI ms).map V.int)[i]? = some x) : ∃ m : Nat, x = .int (m : Int) ∧ ms[i]? = some m := by
  unfold nI at h
  rw [List.getElem?_map, List.getElem?_map] at h
  obtain ⟨z, hz, rfl⟩ := Option.map_eq_some_iff.mp h
  obtain ⟨m, hm, rfl⟩ := Option.map_eq_some_iff.mp hz
  exact ⟨m, rfl, hm⟩
theorem nI_len (ms : List Nat) : ((nI ms).map V.int).length = ms.length := by unfold nI; rw [List.length_map, List.length_map]
theorem nI_snoc (ms : List Nat) (m : Nat) : (nI (ms ++ [m])).map V.int = (nI ms).map V.int ++ [V.int (m : Int)] := by unfold nI; rw [List.map_append, List.map_append]; rfl
theorem band_n (a b : Nat) : Builtin.bitAnd (a : Int) (b : Int) = ((a &&& b : Nat) : Int) := by rw [bitAnd_pp (Int.natCast_nonneg _) (Int.natCast_nonneg _)]; rfl
theorem bor_n (a b : Nat) : Builtin.bitOr (a : Int) (b : Int) = ((a ||| b : Nat) : Int) := by rw [Bits.bitOr_pp (Int.natCast_nonneg _) (Int.natCast_nonneg _)]; rfl
theorem mskN (m : Nat) : Msk (m : Int) (fun i => m.testBit i.toNat = true) := ⟨Int.natCast_nonneg _, fun i => by rw [Int.toNat_natCast, Int.toNat_natCast]⟩
theorem bits_n : ∀ m < 128, Builtin.Int.intBits ((m : Nat) : Int) ≤ 7 ∧ ∀ v < 8, m.testBit v = true → v < Builtin.Int.intBits ((m : Nat) : Int) := by decide +kernel
/-- a list's items come from ms, by a function that can be undone -/
theorem perm_img {α β : Type} {g : α → β} {h : β → α} (hg : ∀ a, h (g a) = a) {zs : List β} {ms : List α} (p : zs.Perm (ms.map g)) : (zs.map h).Perm ms ∧ zs = (zs.map h).map g := by
  have e1 := p.map h
  rw [List.map_map, show (h ∘ g) = id from funext hg, List.map_id] at e1
  refine ⟨e1, ?_⟩
  rw [List.map_map]
  refine ((List.map_congr_left fun z hz => ?_).trans (List.map_id zs)).symm
  obtain ⟨a, _, rfl⟩ := List.mem_map.mp (p.mem_iff.mp hz)
  show g (h (g a)) = g a
  rw [hg]
section
variable {P : Program} {w : World} {K : PySem.W.Frag} {mg : Str → Option Value} {base : Heap}
theorem r_fmtB {te : TE} {σ : L2.St} {H : Hp} {Q : VK} (h : te σ H fun x H1 => ∃ m : Nat, x = .int (m : Nat) ∧ m < 128 ∧ Q (.str (binS m)) H1) : tFmtB te σ H Q := h
def spSize : Sp := fun vs H Q _ => ∃ m : Nat, vs = [.int (m : Nat)] ∧ m < 128 ∧ Q (.int (pop m : Nat)) H
theorem ok_size (T : Blt mg) (D : DefAt K mg "size_of" s_size_of ["mask"]) : FnOk P w K mg base CX0 1 D.f D.fd ["mask"] spSize := by
  refine D.F.ok sc_size_of (fun vs H Q E h => ?_) (fun cdv A outer s H vs Q E hr h => ?_)
  · obtain ⟨m, rfl, _⟩ := h
    rfl
  · obtain ⟨m, rfl, lm, q⟩ := h
    refine ⟨_, (pss_one (ps_ret (PE.bmK (K := K) rfl (pe_bm PySem.F.plainAttrs_str PySem.F.slot_str_count PySem.F.type_str_count mt_count (pe_joined1 (pe_fmtB (pv 0))) (pa_cons pe_str pa_nil))))), ?_⟩
    refine r_at (σ := [some _]) rfl ?_
    walk_at "z"
    refine r_fmtB ?_
    walk_at "z"
    refine ⟨m, rfl, lm, ?_⟩
    walk_at "z"
    refine ⟨rfl, _, _, rfl, rfl, ?_⟩
    rw [binS_count m lm]
    exact q
def spWithin : Sp := fun vs H Q _ => ∃ (x y : Int) (S T : Int → Prop), vs = [.int x, .int y] ∧ Msk x S ∧ Msk y T ∧ ∀ b : Bool, (b = true ↔ ∀ i : Nat, S i → T i) → Q (.bl b) H
theorem ok_within (T : Blt mg) (D : DefAt K mg "is_within" s_is_within ["part", "whole"]) : FnOk P w K mg base CX0 1 D.f D.fd ["part", "whole"] spWithin := by
  refine D.F.ok sc_is_within (fun vs H Q E h => ?_) (fun cdv A outer s H vs Q E hr h => ?_)
  · obtain ⟨x, y, S, T', rfl, _⟩ := h
    rfl
  · obtain ⟨x, y, S, T', rfl, mx, my, q⟩ := h
    refine ⟨_, (pss_one (ps_ret (pe_cmpR op_eq (pe_op op_and (pv 0) (pv 1)) (pv 0) (nomark _)))), ?_⟩
    refine r_at (σ := [some _, some _]) rfl ?_
    walk_at "z"
    refine q _ (decide_eq_true_iff.trans (((mx.and my).eq_iff mx).trans ⟨fun h i hi => ((h i).mpr hi).2, fun h i => ⟨fun k => k.1, fun k => ⟨k, h i k⟩⟩⟩))
/-- the least ones stand for all -/
def spLeastS (K : PySem.W.Frag) : Sp := fun vs H Q _ => ∃ (l : Addr) (ms : List Nat), vs = [.ref l] ∧ SqL K H l ((nI ms).map V.int) ∧ (∀ m ∈ ms, m < 128) ∧ ms.length ≤ 1000 ∧
  ∀ (f : Addr) (ks : List Nat) (H' : Hp), Same H H' → H' f = some (.lst ((nI ks).map V.int)) → (∀ k ∈ ks, k ∈ ms) → (∀ m ∈ ms, ∃ k ∈ ks, Wi k m) → ks.length ≤ ms.length → Q (.ref f) H'
theorem ok_least_sets (T : Blt mg) (z_any : mg "any" = none) (D : DefAt K mg "_least_sets" s_least_sets ["sets"]) (D_size_of : DefAt K mg "size_of" s_size_of ["mask"]) (G_size_of : FnOk P w K mg base CX0 1 D_size_of.f D_size_of.fd ["mask"] spSize)
    (D_is_within : DefAt K mg "is_within" s_is_within ["part", "whole"]) (G_is_within : FnOk P w K mg base CX0 1 D_is_within.f D_is_within.fd ["part", "whole"] spWithin) : FnOk P w K mg base CX0 4 D.f D.fd ["sets"] (spLeastS K) := by
  refine D.F.ok sc_least_sets (fun vs H Q E h => ?_) (fun cdv A outer s H vs Q E hr h => ?_)
  · obtain ⟨l, ms, rfl, _⟩ := h
    rfl
  · obtain ⟨l, ms, rfl, hl, lt, len, q⟩ := h
    refine ⟨_, (pss_cons (ps_set (i := 1) sc_least_sets.nd rfl (Or.inl rfl) (pe_lst pa_nil))
      (pss_cons (ps_for PassesOwn.never (by rfl) (PI.listK (K := K) rfl (pi_list (pe_sortF (K := K) G_size_of rfl (hr.mono (by first | decide | omega)) (by rfl) T.sorted (by rfl) D_size_of.g D_size_of.b (pa_cons (pv 0) pa_nil)))) (pg_name (i := 2) sc_least_sets.nd rfl (Or.inr rfl))
        (pss_one (ps_if (pt_not (pt_val (pe_callB (cr_anyK (K := K) rfl rfl) (by rfl) z_any (by decide +kernel) (pa_cons (pe_lc (own := [("other", 3)]) (by rfl) sc_least_sets.nd (PI.listK (K := K) rfl (pi_list (pv 1))) (blkOk_by (own := [("other", 3)]) (N := ["sets", "kept", "mask", "other"]) (sc := (defScope s_least_sets)) (by decide +kernel)) (fun _ _ _ _ _ => (pg_name (i := 3) sc_least_sets.nd rfl (Or.inl rfl))) (fun _ _ _ _ _ => pts_nil) (fun _ _ _ _ _ => (pe_call G_is_within (hr.mono (by first | decide | omega)) (by rfl) D_is_within.g D_is_within.F.kp D_is_within.b .nil pass0 (pa_cons (pv 3) (pa_cons (pv 2) pa_nil))))) pa_nil))))
          (pss_one (ps_expr (PE.bmK (K := K) rfl (pe_bm PySem.F.plainAttrs_list PySem.F.slot_list_append PySem.F.type_list_append mt_append (pv 1) (pa_cons (pv 2) pa_nil)))))
          pss_nil)))
      (pss_one (ps_ret (pv 1))))), ?_⟩
    refine r_at (σ := [some _, none, none, none]) rfl ?_
    walk_at "z"
    refine r_lstN (by decide) fun f hf => ?_
    have s1 : Same H (upd H f (.lst [])) := same_new hf
    have hf1 : (upd H f (.lst [])) f = some (.lst ((nI []).map V.int)) := upd_same
    generalize upd H f (.lst []) = H1 at s1 hf1 ⊢
    walk_at "z"
    refine r_sortF ?_
    walk_at "z"
    have ez : ((nI ms).map V.int).zip (ms.map fun m => ((pop m : Nat) : Int)) = ms.map fun (m : Nat) => (V.int (m : Int), ((pop m : Nat) : Int)) := by
      unfold nI
      rw [List.map_map, List.zip_map']
      rfl
    refine ⟨l, (nI ms).map V.int, ms.map fun m => ((pop m : Nat) : Int), rfl, .inl (s1.seq hl), by rw [nI_len, List.length_map], fun i x k hx hk => ?_, fun p zs pm _ hp => ?_⟩
    · obtain ⟨m, rfl, hm⟩ := nI_get hx
      rw [List.getElem?_map, hm] at hk
      obtain rfl := Option.some.inj hk
      exact ⟨m, rfl, lt m (List.mem_of_getElem? hm), rfl, rfl⟩
    · rw [ez] at pm
      obtain ⟨pq, eq⟩ := perm_img (g := fun (m : Nat) => (V.int (m : Int), ((pop m : Nat) : Int))) (h := fun z => match z.1 with | V.int i => i.toNat | _ => 0) (fun a => Int.toNat_natCast a) pm
      generalize (zs.map fun z => match z.1 with | V.int i => i.toNat | _ => 0) = qs at pq eq
      have ev : zs.map Prod.fst = (nI qs).map V.int := by
        rw [eq]
        unfold nI
        rw [List.map_map, List.map_map]
        rfl
      rw [ev]
      have s2 := s1.trans (same_new (o := .lst ((nI qs).map V.int)) hp)
      have hp2 : (upd H1 p (.lst ((nI qs).map V.int))) p = some (.lst ((nI qs).map V.int)) := upd_same
      have hf2 : (upd H1 p (.lst ((nI qs).map V.int))) f = some (.lst ((nI []).map V.int)) := (same_new hp) _ _ hf1
      generalize upd H1 p (.lst ((nI qs).map V.int)) = H2 at s2 hp2 hf2 ⊢
      have lq := pq.length_eq
      refine r_il (.inl (.inl hp2)) (forR_list (xs := (nI qs).map V.int) (fun i σ' H' => ∃ (x2 x3 : Option V) (ks : List Nat), σ' = [some (.ref l), some (.ref f), x2, x3] ∧ Same H H' ∧ H' p = some (.lst ((nI qs).map V.int)) ∧ H' f = some (.lst ((nI ks).map V.int)) ∧ (∀ k ∈ ks, k ∈ ms) ∧ (∀ m ∈ qs.take i, ∃ k ∈ ks, Wi k m) ∧ ks.length ≤ i) ⟨_, _, [], rfl, s2, hp2, hf2, fun k hk => (nomatch hk), fun m hm => by simp at hm, Nat.le_refl _⟩ (fun i σ' H' _ ⟨_, _, _, _, _, h, _⟩ => .inl (.inl h)) ?_ ?_)
      · rintro i x σ' H' hx ⟨x2, x3, ks, rfl, s3, hp3, hf3, sub, cov, lk⟩
        obtain ⟨m, rfl, hm⟩ := nI_get hx
        have il := (List.getElem?_eq_some_iff.mp hm).1
        have pf : p ≠ f := Ne.symm (ne_of_none hf1 hp)
        walk_at "z"
        refine r_il (.inl (.inl hf3)) fun d hd => lcR_list (xs := (nI ks).map V.int) (fun j H' => Same H H' ∧ H' p = some (.lst ((nI qs).map V.int)) ∧ H' f = some (.lst ((nI ks).map V.int)) ∧ ∃ bs : List Bool, H' d = some (.lst (bs.map V.bl)) ∧ bs.length = j ∧ (bs.any id = true ↔ ∃ k ∈ ks.take j, Wi k m)) (by walk_at "zw") ⟨s3.trans (same_new hd), (same_new hd) _ _ hp3, (same_new hd) _ _ hf3, [], upd_same, rfl, by simp⟩ (fun i H' _ ⟨_, _, h, _⟩ => .inl (.inl h)) ?_ ?_
        · rintro j y H4 hy ⟨s4, hp4, hf4, bs, hbs, lb, an⟩
          obtain ⟨k, rfl, hk⟩ := nI_get hy
          have jl := (List.getElem?_eq_some_iff.mp hk).1
          walk_at "z"
          refine ⟨rfl, ?_⟩
          walk_at "z"
          refine ⟨(k : Int), (m : Int), _, _, rfl, mskN k, mskN m, fun b hb => ?_⟩
          have hb' : b = true ↔ Wi k m := hb.trans ⟨fun h v t => by have := h v; rw [Int.toNat_natCast] at this; exact this t, fun h v t => by rw [Int.toNat_natCast] at t ⊢; exact h v t⟩
          have hdN : d ≠ p ∧ d ≠ f := ⟨fun e => (by rw [← e, hd] at hp3; cases hp3), fun e => (by rw [← e, hd] at hf3; cases hf3)⟩
          refine r_lce hbs (small_lt (by rw [List.length_map]; omega)) ⟨same_mut s4 (s3.free hd), (upd_ne (Ne.symm hdN.1)).trans hp4, (upd_ne (Ne.symm hdN.2)).trans hf4, bs ++ [b], by rw [List.map_append]; exact upd_same, by rw [List.length_append, lb]; rfl, ?_⟩
          rw [List.any_append, Bool.or_eq_true, an, take_next hk]
          simp only [List.any_cons, List.any_nil, Bool.or_false, id, List.mem_append, List.mem_singleton]
          constructor
          · rintro (⟨k', h1, h2⟩ | h)
            · exact ⟨k', .inl h1, h2⟩
            · exact ⟨k, .inr rfl, hb'.mp h⟩
          · rintro ⟨k', h1 | h1, h2⟩
            · exact .inl ⟨k', h1, h2⟩
            · rw [h1] at h2
              exact .inr (hb'.mpr h2)
        · rintro H4 ⟨s4, hp4, hf4, bs, hbs, lb, an⟩
          rw [nI_len, List.take_length] at an
          walk_at "z"
          refine ⟨d, bs, rfl, .inl (.inl hbs), ?_⟩
          walk_at "z"
          cases c : bs.any id with
          | true =>
            refine iteF ?_
            refine ⟨_, _, ks, rfl, s4, hp4, hf4, sub, fun m' hm' => ?_, by omega⟩
            rw [take_next hm] at hm'
            rcases List.mem_append.mp hm' with z | z
            · exact cov m' z
            · rw [List.mem_singleton.mp z]
              exact an.mp c
          | false =>
            refine iteT ?_
            walk_at "z"
            refine r_appT hf4 (small_lt (by rw [nI_len]; omega)) ?_
            refine ⟨_, _, ks ++ [m], rfl, same_mut s4 hf, (upd_ne pf).trans hp4, by rw [nI_snoc]; exact upd_same, fun k hk => ?_, fun m' hm' => ?_, by rw [List.length_append]; simp only [List.length_cons, List.length_nil]; omega⟩
            · rcases List.mem_append.mp hk with z | z
              · exact sub k z
              · rw [List.mem_singleton.mp z]
                exact pq.mem_iff.mp (List.mem_of_getElem? hm)
            · rw [take_next hm] at hm'
              rcases List.mem_append.mp hm' with z | z
              · obtain ⟨k, k1, k2⟩ := cov m' z
                exact ⟨k, List.mem_append_left _ k1, k2⟩
              · rw [List.mem_singleton.mp z]
                exact ⟨m, List.mem_append_right _ List.mem_cons_self, fun v t => t⟩
      · rintro σ' H' ⟨x2, x3, ks, rfl, s3, hp3, hf3, sub, cov, lk⟩
        rw [nI_len, List.take_length] at cov
        rw [nI_len] at lk
        walk_at "z"
        exact q f ks H' s3 hf3 sub (fun m hm => cov m (pq.mem_iff.mpr hm)) (by omega)
def spSmall (K : PySem.W.Frag) : Sp := fun vs H Q _ => ∃ (l : Addr) (ms : List Nat), vs = [.ref l] ∧ SqL K H l ((nI ms).map V.int) ∧ (∀ m ∈ ms, m < 128) ∧ 0 < ms.length ∧ ∀ m ∈ ms, Q (.int (m : Int)) H
theorem ok_smallest (T : Blt mg) (D : DefAt K mg "_smallest" s_smallest ["sets"]) (D_size_of : DefAt K mg "size_of" s_size_of ["mask"]) (G_size_of : FnOk P w K mg base CX0 1 D_size_of.f D_size_of.fd ["mask"] spSize) : FnOk P w K mg base CX0 4 D.f D.fd ["sets"] (spSmall K) := by
  refine D.F.ok sc_smallest (fun vs H Q E h => ?_) (fun cdv A outer s H vs Q E hr h => ?_)
  · obtain ⟨l, ms, rfl, _⟩ := h
    rfl
  · obtain ⟨l, ms, rfl, hl, lt, ne, q⟩ := h
    refine ⟨_, (pss_one (ps_ret (pe_minF (K := K) G_size_of rfl rfl (hr.mono (by first | decide | omega)) (by rfl) T.min (by rfl) D_size_of.g D_size_of.b (pa_cons (pv 0) pa_nil)))), ?_⟩
    refine r_at (σ := [some _]) rfl ?_
    walk_at "z"
    refine r_minF ?_
    walk_at "z"
    refine ⟨l, (nI ms).map V.int, ms.map fun m => ((pop m : Nat) : Int), rfl, hl, by rw [nI_len, List.length_map], by rw [nI_len]; exact ne, fun i x k hx hk => ?_, fun i x k hx hk _ => ?_⟩
    · obtain ⟨m, rfl, hm⟩ := nI_get hx
      rw [List.getElem?_map, hm] at hk
      obtain rfl := Option.some.inj hk
      exact ⟨m, rfl, lt m (List.mem_of_getElem? hm), rfl, rfl⟩
    · obtain ⟨m, rfl, hm⟩ := nI_get hx
      exact q m (List.mem_of_getElem? hm)
def spNeed (K : PySem.W.Frag) : Sp := fun vs H Q _ => ∃ (l : Addr) (ms : List Nat), vs = [.ref l] ∧ SqL K H l ((nI ms).map V.int) ∧ Q (.int ((needA ms (0, 0)).1 : Nat)) H
theorem ok_needed (T : Blt mg) (D : DefAt K mg "_needed_apart" s_needed_apart ["sets"]) : FnOk P w K mg base CX0 1 D.f D.fd ["sets"] (spNeed K) := by
  refine D.F.ok sc_needed_apart (fun vs H Q E h => ?_) (fun cdv A outer s H vs Q E hr h => ?_)
  · obtain ⟨l, ms, rfl, _⟩ := h
    rfl
  · obtain ⟨l, ms, rfl, hl, q⟩ := h
    refine ⟨_, (pss_cons (ps_set (i := 1) sc_needed_apart.nd rfl (Or.inl rfl) pe_int)
      (pss_cons (ps_set (i := 2) sc_needed_apart.nd rfl (Or.inl rfl) pe_int)
      (pss_cons (ps_for PassesOwn.never (by rfl) (PI.listK (K := K) rfl (pi_list (pv 0))) (pg_name (i := 3) sc_needed_apart.nd rfl (Or.inl rfl))
        (pss_one (ps_if (pt_cmpR op_eq (pe_op op_and (pv 3) (pv 2)) pe_int (nomark _))
          (pss_cons (ps_aug (i := 1) sc_needed_apart.nd rfl (Or.inl rfl) pe_int ip_add)
          (pss_one (ps_aug (i := 2) sc_needed_apart.nd rfl (Or.inl rfl) (pv 3) iop_or)))
          pss_nil)))
      (pss_one (ps_ret (pv 1)))))), ?_⟩
    refine r_at (σ := [some _, none, none, none]) rfl ?_
    walk_at "z"
    refine r_il hl (forR_list (xs := (nI ms).map V.int) (fun i σ' H' => H' = H ∧ ∃ (a u : Nat) (z : Option V), σ' = [some (.ref l), some (.int (a : Int)), some (.int (u : Int)), z] ∧ needA (ms.take i) (0, 0) = (a, u)) ⟨rfl, 0, 0, _, rfl, rfl⟩ (fun i σ' H' _ ⟨eH, _⟩ => by rw [eH]; exact hl) ?_ ?_)
    · rintro i x σ' H' hx ⟨rfl, a, u, z, rfl, e⟩
      obtain ⟨m, rfl, hm⟩ := nI_get hx
      walk_at "z"
      rw [band_n]
      refine r_ite (fun c => ?_) (fun c => ?_)
      · have c : m &&& u = 0 := by omega
        walk_at "z"
        refine r_aug rfl ?_
        walk_at "z"
        refine r_augI rfl ?_
        walk_at "z"
        refine r_aug rfl ?_
        walk_at "z"
        refine r_augOr rfl ?_
        refine ⟨rfl, a + 1, u ||| m, _, by rw [bor_n]; rfl, ?_⟩
        rw [take_next hm, needA_snoc, e, if_pos c]
      · refine ⟨rfl, a, u, _, rfl, ?_⟩
        rw [take_next hm, needA_snoc, e, if_neg fun h => c (by show ((m &&& u : Nat) : Int) = 0; rw [h]; rfl)]
    · rintro σ' H' ⟨rfl, a, u, z, rfl, e⟩
      rw [nI_len, List.take_length] at e
      walk_at "z"
      rw [e] at q
      exact q
end

set_option Elab.async false
set_option linter.all false
set_option maxRecDepth 100000
set_option maxHeartbeats 4000000
open PySem PySem.Spec PyProof.Rows L2 LamX RZ

theorem cut_to' (xs : List V) (k : Nat) : cutV xs none (some (k : Int)) = xs.take k := by
  unfold cutV
  rw [HT.sIx_none, HT.sIx_nat, List.drop_zero, Nat.sub_zero]
  rcases Nat.le_total k xs.length with c | c
  · rw [Nat.min_eq_left c]
  · rw [Nat.min_eq_right c, List.take_length, List.take_of_length_le c]
theorem sum_cast (l : List Nat) (f : Nat → Nat) : (l.map fun v => ((f v : Nat) : Int)).sum = (((l.map f).sum : Nat) : Int) := by
  induction l with
  | nil => rfl
  | cons a l ih =>
    simp only [List.map_cons, List.sum_cons, ih]
    omega
theorem sum_part (l : List Nat) (f : Nat → Nat) (p : Nat → Bool) (h : ∀ v ∈ l, p v = false → f v = 0) : (l.map f).sum = ((l.filter p).map f).sum := by
  induction l with
  | nil => rfl
  | cons a l ih =>
    have ih := ih fun v hv => h v (List.mem_cons_of_mem _ hv)
    rw [List.filter_cons]
    cases c : p a with
    | true => simp only [List.map_cons, List.sum_cons, ih, if_true]
    | false =>
      have := h a List.mem_cons_self c
      simp only [List.map_cons, List.sum_cons, ih]
      simp only [Bool.false_eq_true, if_false]
      omega
/-- no set of at most k bits meets all, where the greatest counts are too small -/
theorem suff_no {ms C : List Nat} {S : List Int} {w : Nat} {k : Nat} (hC : C.length = w) (hc : ∀ v < w, C[v]? = some (cntB ms v)) (hw : ∀ m ∈ ms, ∀ v, m.testBit v = true → v < w) (pm : S.Perm (nI C)) (pw : S.Pairwise fun x y => y ≤ x) (no : (S.take k).sum < (ms.length : Int)) {X : Nat} (hX : X < 128) (pk : pop X ≤ k) : ¬ Hit X ms := fun ht => by
  have h1 := hit_sum hX ht
  rw [sum_part (memB X) (cntB ms) (fun v => decide (v < w)) fun v _ hv => by
    have hv : ¬ v < w := of_decide_eq_false hv
    unfold cntB
    rw [List.length_eq_zero_iff, List.filter_eq_nil_iff]
    exact fun m hm t => hv (hw m hm v t)] at h1
  have nd : ((memB X).filter fun v => decide (v < w)).Nodup := (memB_nodup X).sublist List.filter_sublist
  have lC : (nI C).length = w := by unfold nI; rw [List.length_map, hC]
  have lt : ∀ i ∈ (memB X).filter fun v => decide (v < w), i < w := fun i hi => of_decide_eq_true (List.mem_filter.mp hi).2
  have := top_sum (C := nI C) (S := S) (I := (memB X).filter fun v => decide (v < w)) (k := k) pm pw (fun x hx => by
    obtain ⟨c, _, rfl⟩ := List.mem_map.mp hx
    exact Int.natCast_nonneg _) nd (fun i hi => by rw [lC]; exact lt i hi) (Nat.le_trans (List.length_filter_le _ _) pk)
  have e : (((memB X).filter fun v => decide (v < w)).map fun i => (nI C).getD i 0) = ((memB X).filter fun v => decide (v < w)).map fun v => ((cntB ms v : Nat) : Int) := List.map_congr_left fun i hi => by
    rw [List.getD_eq_getElem?_getD]
    unfold nI
    rw [List.getElem?_map, hc i (lt i hi)]
    rfl
  rw [e, sum_cast] at this
  omega
section
variable {P : Program} {w : World} {K : PySem.W.Frag} {mg : Str → Option Value} {base : Heap}
theorem r_ckw {r : List V → List V → Hp → VK → Prop} {t tk : TA} {σ : L2.St} {H : Hp} {Q : VK} (h : t σ H fun vs H1 => tk σ H1 fun zs H2 => r vs zs H2 Q) : tCKw r t tk σ H Q := h
def spSuff (K : PySem.W.Frag) : Sp := fun vs H Q _ => ∃ (l : Addr) (ms : List Nat) (most : Int), vs = [.ref l, .int most] ∧ H l = some (.lst ((nI ms).map V.int)) ∧ (∀ m ∈ ms, m < 128) ∧ 0 < ms.length ∧ ms.length ≤ 1000 ∧ 0 ≤ most ∧ most ≤ 1000 ∧
  ∀ (b : Bool) H', Same H H' → (b = false → ∀ X < 128, (pop X : Int) ≤ most → ¬ Hit X ms) → Q (.bl b) H'
theorem ok_suffice (T : Blt mg) (z_sum : mg "sum" = none) (D : DefAt K mg "_may_suffice" s_may_suffice ["sets", "most"]) (D_members_of : DefAt K mg "members_of" s_members_of ["mask"]) (G_members_of : FnOk P w K mg base CX0 1 D_members_of.f D_members_of.fd ["mask"] spMem) :
    FnOk P w K mg base CX0 2 D.f D.fd ["sets", "most"] (spSuff K) := by
  refine D.F.ok sc_may_suffice (fun vs H Q E h => ?_) (fun cdv A outer s H vs Q E hr h => ?_)
  · obtain ⟨l, ms, most, rfl, _⟩ := h
    rfl
  · obtain ⟨l, ms, most, rfl, hl, lt, ne, len, m0, m1, q⟩ := h
    refine ⟨_, (pss_cons (ps_if (pt_cmpR (op_inSeqK (K := K) rfl) pe_int (pv 0) (by rfl))
        (pss_one (ps_ret pe_bl))
        pss_nil)
      (pss_cons (ps_set (i := 3) sc_may_suffice.nd rfl (Or.inl rfl) (pe_op op_rep (pe_lst (pa_cons pe_int pa_nil)) (pe_callB (cr_maxLK (K := K) rfl rfl) (by rfl) T.max (by decide +kernel) (pa_cons (pe_lc (own := [("mask", 2)]) (by rfl) sc_may_suffice.nd (PI.listK (K := K) rfl (pi_list (pv 0))) (blkOk_by (own := [("mask", 2)]) (N := ["sets", "most", "mask", "many", "v"]) (sc := (defScope s_may_suffice)) (by decide +kernel)) (fun _ _ _ _ _ => (pg_name (i := 2) sc_may_suffice.nd rfl (Or.inl rfl))) (fun _ _ _ _ _ => pts_nil) (fun _ _ _ _ _ => (PE.bm0K (K := K) rfl (pe_bm0 PySem.F.plainAttrs_int PySem.F.slot_int_bit_length PySem.F.type_int_bit_length mt_bitlen (pv 2))))) pa_nil))))
      (pss_cons (ps_for PassesOwn.never (by rfl) (PI.listK (K := K) rfl (pi_list (pv 0))) (pg_name (i := 2) sc_may_suffice.nd rfl (Or.inl rfl))
        (pss_one (ps_for PassesOwn.never (by rfl) (PI.tupK (K := K) rfl (pi_tup (pe_call G_members_of (hr.mono (by first | decide | omega)) (by rfl) D_members_of.g D_members_of.F.kp D_members_of.b .nil pass0 (pa_cons (pv 2) pa_nil)))) (pg_name (i := 4) sc_may_suffice.nd rfl (Or.inl rfl))
          (pss_one (ps_augS (pv 3) (pv 4) (pg_listK (K := K) rfl) pe_int ip_add set_list)))))
      (pss_one (ps_ret (pe_cmpR op_ge (pe_callB (cr_sumK (K := K) rfl rfl) (by rfl) z_sum (by decide +kernel) (pa_cons (pe_slice (sl_listK (K := K) rfl) (pe_callBK (cr_sortRevK (K := K) rfl) (by rfl) T.sorted (by decide +kernel) (pa_cons (pv 3) pa_nil) (pk_cons pe_bl pk_nil)) po_none (po_some (pv 1))) pa_nil)) (pe_callB (call_lenK (K := K) rfl) (by rfl) T.len (by decide +kernel) (pa_cons (pv 0) pa_nil)) (nomark _))))))), ?_⟩
    refine r_at (σ := [some _, some _, none, none, none]) rfl ?_
    walk_at "z"
    refine r_inI (.inl (.inl (.inl hl))) ?_
    walk_at "z"
    refine r_ite (fun c => ?_) (fun c => ?_)
    · walk_at "z"
      refine q false H (fun _ _ h => h) fun _ X _ _ ht => ?_
      obtain ⟨m, hm, e⟩ := List.mem_map.mp c
      have : m = 0 := by omega
      rw [this] at hm
      exact ht 0 hm (Nat.and_zero X)
    · walk_at "z"
      refine r_lstN sz1 fun l0 hl0 => ?_
      have s1 : Same H (upd H l0 (.lst [.int 0])) := same_new hl0
      have hl1 : (upd H l0 (.lst [.int 0])) l0 = some (.lst [.int 0]) := upd_same
      generalize upd H l0 (.lst [.int 0]) = H1 at s1 hl1 ⊢
      have hs1 := s1 _ _ hl
      walk_at "z"
      refine r_il (.inl (.inl hs1)) fun d hd => lcR_list (xs := (nI ms).map V.int) (fun j H' => Same H1 H' ∧ H' d = some (.lst (((ms.take j).map fun (m : Nat) => ((Builtin.Int.intBits (m : Int) : Nat) : Int)).map V.int))) (by walk_at "zw") ⟨same_new hd, upd_same⟩ (fun i H' _ ⟨s2, _⟩ => .inl (.inl (s2 _ _ hs1))) ?_ ?_
      · rintro j y H' hy ⟨s2, hcs⟩
        obtain ⟨m, rfl, hm⟩ := nI_get hy
        have jl := (List.getElem?_eq_some_iff.mp hm).1
        walk_at "z"
        refine ⟨rfl, ?_⟩
        walk_at "z"
        refine r_lce hcs (small_lt (by rw [List.length_map, List.length_map, List.length_take]; omega)) ⟨same_mut s2 hd, ?_⟩
        rw [take_next hm, List.map_append, List.map_append]
        exact upd_same
      · rintro H2 ⟨s2, hcs⟩
        rw [nI_len, List.take_length] at hcs
        walk_at "z"
        refine r_maxL (.inl (.inl hcs)) (by rw [List.length_map]; exact ne) fun wi hm hx => ?_
        obtain ⟨m9, hm9, rfl⟩ := List.mem_map.mp hm
        have w7 := (bits_n m9 (lt m9 hm9)).1
        have hw : ∀ m ∈ ms, ∀ v, m.testBit v = true → v < Builtin.Int.intBits (m9 : Int) := fun m hm v t => by
          have b1 := (bits_n m (lt m hm)).2 v (by have := bit_lt (lt m hm) t; omega) t
          have b2 := hx _ (List.mem_map.mpr ⟨m, hm, rfl⟩)
          omega
        generalize Builtin.Int.intBits (m9 : Int) = wd at w7 hw ⊢
        walk_at "z"
        refine r_repK (s2 _ _ hl1) (by omega) fun S hS => ?_
        have S0 : H S = none := (s1.trans s2).free hS
        have s3 := (s1.trans s2).trans (same_new (o := .lst (List.replicate wd (.int 0))) hS)
        have hS3 : (upd H2 S (.lst (List.replicate wd (.int 0)))) S = some (.lst ((nI (List.replicate wd 0)).map V.int)) := by
          unfold nI
          rw [List.map_replicate, List.map_replicate]
          exact upd_same
        generalize upd H2 S (.lst (List.replicate wd (.int 0))) = H3 at s3 hS3 ⊢
        walk_at "z"
        refine r_il (.inl (.inl (s3 _ _ hl))) (forR_list (xs := (nI ms).map V.int) (fun i σ' H' => ∃ (x2 x4 : Option V) (C : List Nat), σ' = [some (.ref l), some (.int most), x2, some (.ref S), x4] ∧ Same H H' ∧ H' S = some (.lst ((nI C).map V.int)) ∧ C.length = wd ∧ ∀ v < wd, C[v]? = some (cntB (ms.take i) v)) ⟨_, _, _, rfl, s3, hS3, List.length_replicate, fun v hv => by rw [List.getElem?_replicate, if_pos hv]; rfl⟩ (fun i σ' H' _ ⟨_, _, _, _, s, _⟩ => .inl (.inl (s _ _ hl))) ?_ ?_)
        · rintro i x σ' H4 hx' ⟨x2, x4, C, rfl, s4, hS4, lC, cC⟩
          obtain ⟨m, rfl, hm⟩ := nI_get hx'
          walk_at "z"
          refine ⟨(m : Int), _, rfl, mskN m, fun i hi => ?_, fun p ns H5 s5 hp5 _ asc mem => ?_⟩
          · rw [Int.toNat_natCast] at hi
            have := bit_lt (lt m (List.mem_of_getElem? hm)) hi
            omega
          have nsd : ns.Nodup := asc.imp fun h => by omega
          have pS : p ≠ S := fun e => by
            have := s5 _ _ hS4
            rw [← e, hp5] at this
            cases this
          walk_at "z"
          refine r_it (.inl (.inl hp5)) (forR_tup (xs := ns.map V.int) (fun j σ' H' => ∃ (x4 : Option V) (C : List Nat), σ' = [some (.ref l), some (.int most), some (.int (m : Int)), some (.ref S), x4] ∧ Same H H' ∧ H' p = some (.tup (ns.map V.int)) ∧ H' S = some (.lst ((nI C).map V.int)) ∧ C.length = wd ∧ ∀ v < wd, C[v]? = some (cntB (ms.take i) v + (if ((v : Nat) : Int) ∈ ns.take j then 1 else 0))) ⟨_, C, rfl, s4.trans s5, hp5, s5 _ _ hS4, lC, fun v hv => by rw [cC v hv]; simp⟩ (fun i σ' H' _ ⟨_, _, _, _, h, _⟩ => .inl (.inl h)) ?_ ?_)
          · rintro j y σ' H6 hy ⟨x4, D, rfl, s6, hp6, hS6, lD, cD⟩
            rw [List.getElem?_map] at hy
            obtain ⟨z, hz, rfl⟩ := Option.map_eq_some_iff.mp hy
            obtain ⟨z0, zb⟩ := (mem z).mp (List.mem_of_getElem? hz)
            obtain ⟨v, rfl⟩ : ∃ v : Nat, z = (v : Int) := ⟨z.toNat, by omega⟩
            rw [Int.toNat_natCast] at zb
            have vw := hw m (List.mem_of_getElem? hm) v zb
            have notin : ((v : Nat) : Int) ∉ ns.take j := fun h => by
              obtain ⟨k, hk, ek⟩ := List.mem_iff_getElem.mp h
              rw [List.length_take] at hk
              rw [List.getElem_take] at ek
              obtain ⟨li, ei⟩ := List.getElem?_eq_some_iff.mp hz
              have := (List.getElem_inj nsd).mp (ek.trans ei.symm)
              omega
            have cv := cD v vw
            rw [if_neg notin] at cv
            walk_at "z"
            refine r_augSI hS6 (j := v) (v := .int ((cntB (ms.take i) v + 0 : Nat) : Int)) (by unfold nI; rw [List.getElem?_map, List.getElem?_map, cv]; rfl) ?_
            walk_at "z"
            refine r_augSV hS6 (by rw [nI_len]; omega) ?_
            refine ⟨_, D.set v (cntB (ms.take i) v + 1), rfl, same_mut s6 S0, (upd_ne pS).trans hp6, ?_, by rw [List.length_set]; exact lD, fun u hu => ?_⟩
            · have e : ((nI D).map V.int).set v (V.int (((cntB (ms.take i) v + 0 : Nat) : Int) + 1)) = (nI (D.set v (cntB (ms.take i) v + 1))).map V.int := by
                unfold nI
                rw [List.map_set, List.map_set]
                congr 1
              rw [← e]
              exact upd_same
            · rw [List.getElem?_set, take_next hz]
              by_cases e : v = u
              · subst e
                rw [if_pos rfl, if_pos (by omega), if_pos (List.mem_append_right _ List.mem_cons_self)]
              · rw [if_neg e, cD u hu]
                have : ((u : Nat) : Int) ∈ ns.take j ++ [((v : Nat) : Int)] ↔ ((u : Nat) : Int) ∈ ns.take j := by
                  rw [List.mem_append, List.mem_singleton]
                  exact ⟨fun h => h.elim id fun h => absurd h (by omega), .inl⟩
                simp only [this]
          · rintro σ' H6 ⟨x4, D, rfl, s6, hp6, hS6, lD, cD⟩
            rw [List.length_map, List.take_length] at cD
            refine ⟨_, _, D, rfl, s6, hS6, lD, fun v hv => ?_⟩
            rw [cD v hv, take_next hm]
            unfold cntB
            rw [List.filter_append, List.length_append, List.filter_cons, List.filter_nil]
            have : ((v : Nat) : Int) ∈ ns ↔ m.testBit v = true := by
              rw [mem, Int.toNat_natCast]
              exact ⟨fun h => h.2, fun h => ⟨Int.natCast_nonneg _, h⟩⟩
            simp only [this]
            by_cases c : m.testBit v = true
            · rw [if_pos c, if_pos c]
              rfl
            · rw [if_neg c, if_neg c]
              rfl
        · rintro σ' H4 ⟨x2, x4, C, rfl, s4, hS4, lC, cC⟩
          rw [nI_len, List.take_length] at cC
          obtain ⟨k, rfl⟩ : ∃ k : Nat, most = (k : Int) := ⟨most.toNat, by omega⟩
          walk_at "z"
          refine r_ckw ?_
          walk_at "z"
          refine ⟨S, nI C, rfl, rfl, .inl (.inl hS4), fun ns' p pm ord hp => ?_⟩
          have ord : ns'.Pairwise fun x y => y ≤ x := ord
          have s5 : Same H4 (upd H4 p (.lst (ns'.map V.int))) := same_new hp
          have hp5 : (upd H4 p (.lst (ns'.map V.int))) p = some (.lst (ns'.map V.int)) := upd_same
          generalize upd H4 p (.lst (ns'.map V.int)) = H5 at s5 hp5 ⊢
          walk_at "z"
          refine ⟨p, _, rfl, .inl (.inl hp5), fun p2 hp2 => ?_⟩
          rw [cut_to', ← List.map_take]
          have s6 : Same H5 (upd H5 p2 (.lst ((ns'.take k).map V.int))) := same_new hp2
          have hp6 : (upd H5 p2 (.lst ((ns'.take k).map V.int))) p2 = some (.lst ((ns'.take k).map V.int)) := upd_same
          generalize upd H5 p2 (.lst ((ns'.take k).map V.int)) = H6 at s6 hp6 ⊢
          have s06 := (s4.trans s5).trans s6
          have hl6 := s06 _ _ hl
          walk_at "z"
          refine ⟨p2, _, rfl, .inl (.inl hp6), ?_⟩
          walk_at "z"
          rw [nI_len]
          refine q _ H6 s06 fun hb X hX pk => suff_no (k := k) lC cC hw pm ord ?_ hX (by omega)
          have := of_decide_eq_false hb
          omega
end

set_option Elab.async false
set_option linter.all false
set_option maxRecDepth 100000
set_option maxHeartbeats 4000000
open PySem PySem.Spec PyProof.Rows L2 LamX

abbrev s_has : Stmt := topS 4
theorem sc_has : FnScope ["mask", "v"] ["mask", "v"] (defScope s_has) := ⟨rfl, rfl, rfl, by decide +kernel, rfl, by decide +kernel, by decide +kernel⟩

theorem shr_bit {x v : Int} {S : Int → Prop} (m : Msk x S) (hv : 0 ≤ v) : Builtin.bitAnd (x / 2 ^ v.toNat) 1 = 1 ↔ S v := by
  have e1 : x / 2 ^ v.toNat = ((x.toNat / 2 ^ v.toNat : Nat) : Int) := by
    have : x = ((x.toNat : Nat) : Int) := by have := m.nn; omega
    rw [this, Int.toNat_natCast]
    have e : ((2 : Int) ^ v.toNat) = ((2 ^ v.toNat : Nat) : Int) := by simp
    rw [e, ← Int.natCast_ediv]
  have n1 : 0 ≤ x / 2 ^ v.toNat := by
    rw [e1]
    exact Int.natCast_nonneg _
  rw [bitAnd_pp n1 (by decide), e1, Int.toNat_natCast]
  have b := m.bits v.toNat
  rw [show ((v.toNat : Nat) : Int) = v by omega] at b
  rw [← b, Nat.testBit_eq_decide_div_mod_eq, decide_eq_true_eq]
  show (((x.toNat / 2 ^ v.toNat) &&& 1 : Nat) : Int) = 1 ↔ _
  rw [Nat.and_one_is_mod]
  omega
section
variable {P : Program} {w : World} {K : PySem.W.Frag} {mg : Str → Option Value} {base : Heap}
def spHas : Sp := fun vs H Q _ => ∃ (x v : Int) (S : Int → Prop), vs = [.int x, .int v] ∧ Msk x S ∧ 0 ≤ v ∧ v < 1000 ∧ ∀ b : Bool, (b = true ↔ S v) → Q (.bl b) H
theorem ok_has (T : Blt mg) (D : DefAt K mg "has" s_has ["mask", "v"]) : FnOk P w K mg base CX0 1 D.f D.fd ["mask", "v"] spHas := by
  refine D.F.ok sc_has (fun vs H Q E h => ?_) (fun cdv A outer s H vs Q E hr h => ?_)
  · obtain ⟨x, v, S, rfl, _⟩ := h
    rfl
  · obtain ⟨x, v, S, rfl, m, v0, v1, q⟩ := h
    refine ⟨_, (pss_one (ps_ret (pe_cmpR op_eq (pe_op op_and (pe_op op_shr (pv 0) (pv 1)) pe_int) pe_int (nomark _)))), ?_⟩
    refine r_at (σ := [some _, some _]) rfl ?_
    walk_at "z"
    exact q _ (decide_eq_true_iff.trans (shr_bit m v0))
end

set_option Elab.async false
set_option linter.all false
set_option maxRecDepth 100000
set_option maxHeartbeats 4000000
open PySem PySem.Spec PyProof.Rows L2

abbrev s_full_mask : Stmt := topS 5
theorem sc_full_mask : FnScope ["n"] ["n"] (defScope s_full_mask) := ⟨rfl, rfl, rfl, by decide +kernel, rfl, by decide +kernel, by decide +kernel⟩

/-- u and v are neighbours -/
def Nb (ps : List (Int × Int)) (u v : Int) : Prop := (u, v) ∈ ps ∨ (v, u) ∈ ps
instance {ps : List (Int × Int)} {u v : Int} : Decidable (Nb ps u v) := inferInstanceAs (Decidable (_ ∨ _))
/-- i is outside, a neighbour of some within and not of all -/
def SplP (n : Nat) (ps : List (Int × Int)) (M : Int → Prop) (i : Int) : Prop := (i < n ∧ ¬ M i) ∧ (∃ v, M v ∧ Nb ps v i) ∧ ∃ v, M v ∧ ¬ Nb ps v i
def Uns (n : Nat) (ps : List (Int × Int)) (M : Int → Prop) : Prop := ∀ i : Int, 0 ≤ i → ¬ SplP n ps M i
/-- the least unsplit set about S -/
structure LeastM (n : Nat) (ps : List (Int × Int)) (S M : Int → Prop) : Prop where
  inn : ∀ v, M v → 0 ≤ v ∧ v < n
  sub : ∀ v, S v → M v
  uns : Uns n ps M
  least : ∀ T : Int → Prop, (∀ v, S v → T v) → Uns n ps T → ∀ v, M v → T v
section
variable {P : Program} {w : World} {K : PySem.W.Frag} {mg : Str → Option Value} {base : Heap}
def spFull : Sp := fun vs H Q _ => ∃ n : Int, vs = [.int n] ∧ 0 ≤ n ∧ n ≤ 1000 ∧ Q (.int (1 * 2 ^ n.toNat - 1)) H
theorem ok_full (T : Blt mg) (D : DefAt K mg "full_mask" s_full_mask ["n"]) : FnOk P w K mg base CX0 1 D.f D.fd ["n"] spFull := by
  refine D.F.ok sc_full_mask (fun vs H Q E h => ?_) (fun cdv A outer s H vs Q E hr h => ?_)
  · obtain ⟨n, rfl, _⟩ := h
    rfl
  · obtain ⟨n, rfl, n0, n1, q⟩ := h
    refine ⟨_, (pss_one (ps_ret (pe_op op_sub (pe_op op_shl pe_int (pv 0)) pe_int))), ?_⟩
    refine r_at (σ := [some _]) rfl ?_
    walk_at "z"
    refine r_i ⟨by omega, by omega, by decide⟩ ?_
    walk_at "z"
    exact q
/-- the vertices that split a set -/
def spParting : Sp := fun vs H Q _ => ∃ (l : Addr) (wh x : Int) (ms : List Int) (S : Int → Prop) (ps : List (Int × Int)), vs = [.ref l, .int wh, .int x] ∧ H l = some (.lst (ms.map V.int)) ∧ ms.length ≤ 60 ∧ Msk wh (fun i => i < ms.length) ∧ Msk x S ∧ (∀ v, S v → 0 ≤ v ∧ v < ms.length) ∧
  (∀ i m, ms[i]? = some m → Msk m (fun z => z ∈ adjL ps i)) ∧ ∀ (y : Int) (H' : Hp), Same H H' → Msk y (SplP ms.length ps S) → Q (.int y) H'
def spLeast : Sp := fun vs H Q _ => ∃ (l : Addr) (wh x : Int) (ms : List Int) (S : Int → Prop) (ps : List (Int × Int)), vs = [.ref l, .int wh, .int x] ∧ H l = some (.lst (ms.map V.int)) ∧ ms.length ≤ 60 ∧ Msk wh (fun i => i < ms.length) ∧ Msk x S ∧ (∀ v, S v → 0 ≤ v ∧ v < ms.length) ∧
  (∀ i m, ms[i]? = some m → Msk m (fun z => z ∈ adjL ps i)) ∧ ∀ (y : Int) (M : Int → Prop) (H' : Hp), Same H H' → Msk y M → LeastM ms.length ps S M → Q (.int y) H'
def spIsMod (K : PySem.W.Frag) : Sp := fun vs H Q _ => ∃ (g x : V) (n : Nat) (ps : List (Int × Int)) (ns : List Int), vs = [g, x] ∧ GrAt H g (n : Int) ps ∧ 1 ≤ n ∧ n ≤ 60 ∧ ps.length ≤ 10000 ∧ (∀ p ∈ ps, 0 ≤ p.1 ∧ p.1 < p.2 ∧ p.2 < (n : Int)) ∧ ITup H x ns ∧ (∀ v ∈ ns, 0 ≤ v ∧ v < (n : Int)) ∧
  ∀ (b : Bool) (H' : Hp), Same H H' → (b = true ↔ ns ≠ [] ∧ Uns n ps (fun v => v ∈ ns)) → Q (.bl b) H'
def spLeastMod (K : PySem.W.Frag) : Sp := fun vs H Q _ => ∃ (g x : V) (n : Nat) (ps : List (Int × Int)) (ns : List Int), vs = [g, x] ∧ GrAt H g (n : Int) ps ∧ 1 ≤ n ∧ n ≤ 60 ∧ ps.length ≤ 10000 ∧ (∀ p ∈ ps, 0 ≤ p.1 ∧ p.1 < p.2 ∧ p.2 < (n : Int)) ∧ ITup H x ns ∧ (∀ v ∈ ns, 0 ≤ v ∧ v < (n : Int)) ∧
  ∀ (y : V) (ks : List Int) (H' : Hp), Same H H' → ITup H' y ks → ks.Pairwise (· < ·) → LeastM n ps (fun v => v ∈ ns) (fun v => v ∈ ks) → Q y H'
end

set_option Elab.async false
set_option linter.all false
set_option maxRecDepth 100000
set_option maxHeartbeats 4000000
open PySem PySem.Spec PyProof.Rows L2 LamX RZ

abbrev s_search : Stmt := topS 11
theorem sc_search : FnScope ["sets", "allowed", "most", "left", "v", "rest", "mask"] ["sets", "allowed", "most"] (defScope s_search) := ⟨rfl, rfl, rfl, by decide +kernel, rfl, by decide +kernel, by decide +kernel⟩

theorem nI_map_snoc {ms : List Nat} {i m : Nat} (f : Nat → Nat) (h : ms[i]? = some m) : (nI ((ms.take (i + 1)).map f)).map V.int = (nI ((ms.take i).map f)).map V.int ++ [V.int ((f m : Nat) : Int)] := by
  rw [take_next h, List.map_append, List.map_cons, List.map_nil, nI_snoc]
theorem filt_lt {L : List Nat} {p : Nat → Bool} {m : Nat} (h : m ∈ L) (n : p m = false) : (L.filter p).length < L.length := by
  have l1 := List.length_filter_le p L
  refine Nat.lt_of_le_of_ne l1 fun e => ?_
  have := (List.length_filter_eq_length_iff.mp e) m h
  rw [n] at this
  cases this
section
variable {P : Program} {w : World} {K : PySem.W.Frag} {mg : Str → Option Value} {base : Heap}
def spSearch (e : Nat) : Sp := fun vs H Q _ => ∃ (l : Addr) (ms : List Nat) (a : Nat) (most : Int), vs = [.ref l, .int (a : Int), .int most] ∧ H l = some (.lst ((nI ms).map V.int)) ∧ (∀ m ∈ ms, m < 128) ∧ ms.length ≤ 1000 ∧ a < 128 ∧ 0 ≤ most ∧ most ≤ 100 ∧ ms.length + 1 ≤ e ∧
  (∀ H', Same H H' → NoHit ms a most → Q .non H') ∧ ∀ X H', Same H H' → IsHit ms a most X → Q (.int (X : Int)) H'
theorem ok_search (T : Blt mg) (D_search : DefAt K mg "_search" s_search ["sets", "allowed", "most"])
    (D_needed_apart : DefAt K mg "_needed_apart" s_needed_apart ["sets"]) (G_needed_apart : FnOk P w K mg base CX0 1 D_needed_apart.f D_needed_apart.fd ["sets"] (spNeed K))
    (D_may_suffice : DefAt K mg "_may_suffice" s_may_suffice ["sets", "most"]) (G_may_suffice : FnOk P w K mg base CX0 2 D_may_suffice.f D_may_suffice.fd ["sets", "most"] (spSuff K))
    (D_members_of : DefAt K mg "members_of" s_members_of ["mask"]) (G_members_of : FnOk P w K mg base CX0 1 D_members_of.f D_members_of.fd ["mask"] spMem)
    (D_smallest : DefAt K mg "_smallest" s_smallest ["sets"]) (G_smallest : FnOk P w K mg base CX0 4 D_smallest.f D_smallest.fd ["sets"] (spSmall K))
    (D_has : DefAt K mg "has" s_has ["mask", "v"]) (G_has : FnOk P w K mg base CX0 1 D_has.f D_has.fd ["mask", "v"] spHas) : ∀ e : Nat, FnOk P w K mg base CX0 (e + 6) D_search.f D_search.fd ["sets", "allowed", "most"] (spSearch e)
  | 0 => fn_none.imp fun vs H Q E h => by
    obtain ⟨_, _, _, _, _, _, _, _, _, _, _, h, _⟩ := h
    omega
  | e + 1 => by
    have G_search := ok_search T D_search D_needed_apart G_needed_apart D_may_suffice G_may_suffice D_members_of G_members_of D_smallest G_smallest D_has G_has e
    refine D_search.F.ok sc_search (fun vs H Q E h => ?_) (fun cdv A outer s H vs Q E hr h => ?_)
    · obtain ⟨l, ms, a, most, rfl, _⟩ := h
      rfl
    · obtain ⟨l, ms, a, most, rfl, hl, lt, len, la, m0, m1, le, qn, qs⟩ := h
      refine ⟨_, (pss_cons (ps_if (pt_not (pt_truthK (K := K) rfl (pv 0) (by intro _; rfl)))
        (pss_one (ps_ret pe_int))
        pss_nil)
      (pss_cons (ps_setLc (i := 3) (own := [("mask", 6)]) (by rfl) sc_search.nd rfl rfl (sw_true rfl rfl rfl (by decide +kernel)) (PI.listK (K := K) rfl (pi_list (pv 0))) (blkOk_by (own := [("mask", 6)]) (N := ["sets", "allowed", "most", "left", "v", "rest", "mask"]) (sc := (defScope s_search)) (by decide +kernel)) (fun _ _ _ _ _ => (pg_name (i := 6) sc_search.nd rfl (Or.inl rfl))) (fun _ _ _ _ _ => pts_nil) (fun _ _ _ _ _ => (pe_op op_and (pv 6) (pv 1))))
      (pss_cons (ps_if (PW.pt (pw_or (pt_cmpR op_gt (pe_call G_needed_apart (hr.mono (by first | decide | omega)) (by rfl) D_needed_apart.g D_needed_apart.F.kp D_needed_apart.b .nil pass0 (pa_cons (pv 3) pa_nil)) (pv 2) (nomark _)) (pw_or1 (pt_not (pt_val (pe_call G_may_suffice (hr.mono (by first | decide | omega)) (by rfl) D_may_suffice.g D_may_suffice.F.kp D_may_suffice.b .nil pass0 (pa_cons (pv 3) (pa_cons (pv 2) pa_nil))))))))
        (pss_one (ps_ret pe_non))
        pss_nil)
      (pss_cons (ps_for PassesOwn.never (by rfl) (PI.tupK (K := K) rfl (pi_tup (pe_call G_members_of (hr.mono (by first | decide | omega)) (by rfl) D_members_of.g D_members_of.F.kp D_members_of.b .nil pass0 (pa_cons (pe_call G_smallest (hr.mono (by first | decide | omega)) (by rfl) D_smallest.g D_smallest.F.kp D_smallest.b .nil pass0 (pa_cons (pv 3) pa_nil)) pa_nil)))) (pg_name (i := 4) sc_search.nd rfl (Or.inr rfl))
        (pss_cons (ps_set (i := 5) sc_search.nd rfl (Or.inl rfl) (pe_call G_search (hr.mono (by first | decide | omega)) (by rfl) D_search.g D_search.F.kp D_search.b .nil pass0 (pa_cons (pe_lc (own := [("mask", 6)]) (by rfl) sc_search.nd (PI.listK (K := K) rfl (pi_list (pv 3))) (blkOk_by (own := [("mask", 6)]) (N := ["sets", "allowed", "most", "left", "v", "rest", "mask"]) (sc := (defScope s_search)) (by decide +kernel)) (fun _ _ _ _ _ => (pg_name (i := 6) sc_search.nd rfl (Or.inl rfl))) (fun _ _ _ _ _ => (pts_one (pt_not (pt_val (pe_call G_has (hr.mono (by first | decide | omega)) (by rfl) D_has.g D_has.F.kp D_has.b .nil pass0 (pa_cons (pv 6) (pa_cons (pv 4) pa_nil))))))) (fun _ _ _ _ _ => (pv 6))) (pa_cons (pv 1) (pa_cons (pe_op op_sub (pv 2) pe_int) pa_nil)))))
        (pss_cons (ps_if (pt_cmpR op_notN (pv 5) pe_non (nomark _))
          (pss_one (ps_ret (pe_op op_or (pv 5) (pe_op op_shl pe_int (pv 4)))))
          pss_nil)
        (pss_one (ps_aug (i := 1) sc_search.nd rfl (Or.inr rfl) (pe_un un_inv (pe_op op_shl pe_int (pv 4))) iop_and)))))
      (pss_one (ps_ret pe_non)))))), ?_⟩
      refine r_at (σ := [some _, some _, some _, none, none, none, none]) rfl ?_
      walk_at "z"
      refine r_truL hl ?_
      by_cases ez : ms = []
      · subst ez
        refine iteT ?_
        walk_at "z"
        exact qs 0 H (fun _ _ h => h) ⟨by decide, fun v t => by simp at t, by rw [pop_zero]; exact m0, fun m hm => (nomatch hm)⟩
      have ez' : ((nI ms).map V.int).isEmpty = false := by
        cases ms with
        | nil => exact absurd rfl ez
        | cons _ _ => rfl
      rw [ez']
      have pos : 0 < ms.length := List.length_pos_iff.mpr ez
      refine iteF ?_
      walk_at "z"
      refine r_il (.inl (.inl hl)) fun p hp => lcR_list (xs := (nI ms).map V.int) (fun j H' => Same H H' ∧ H' p = some (.lst ((nI ((ms.take j).map (· &&& a))).map V.int))) (by walk_at "zw") ⟨same_new hp, upd_same⟩ (fun i H' _ ⟨s2, _⟩ => .inl (.inl (s2 _ _ hl))) ?_ ?_
      · rintro j y H' hy ⟨s2, hcs⟩
        obtain ⟨m, rfl, hm⟩ := nI_get hy
        have jl := (List.getElem?_eq_some_iff.mp hm).1
        walk_at "z"
        refine ⟨rfl, ?_⟩
        walk_at "z"
        rw [band_n]
        refine r_lce hcs (small_lt (by rw [nI_len, List.length_map, List.length_take]; omega)) ⟨same_mut s2 hp, ?_⟩
        rw [nI_map_snoc (· &&& a) hm]
        exact upd_same
      · rintro H1 ⟨s1, hp1⟩
        rw [nI_len, List.take_length] at hp1
        have ltL : ∀ m ∈ ms.map (· &&& a), m < 128 := fun m hm => by
          obtain ⟨m', hm', rfl⟩ := List.mem_map.mp hm
          exact and_lt (lt m' hm')
        have lL : (ms.map (· &&& a)).length = ms.length := List.length_map _
        have hitL : ∀ {X}, Wi X a → (Hit X (ms.map (· &&& a)) ↔ Hit X ms) := fun w => hit_and w
        have needL : 1 ≤ (needA (ms.map (· &&& a)) (0, 0)).1 := by
          cases ms with
          | nil => exact absurd rfl ez
          | cons x r => exact needA_pos
        have bitA : ∀ m ∈ ms.map (· &&& a), Wi m a := fun m hm v t => by
          obtain ⟨m', _, rfl⟩ := List.mem_map.mp hm
          rw [Nat.testBit_and, Bool.and_eq_true] at t
          exact t.2
        generalize ms.map (· &&& a) = L at hp1 ltL lL hitL needL bitA
        walk_at "z"
        refine ⟨p, L, rfl, .inl (.inl hp1), ?_⟩
        walk_at "z"
        refine r_ite (fun c1 => ?_) (fun c1 => ?_)
        · walk_at "z"
          refine qn H1 s1 fun X hX w pk ht => ?_
          have := needA_ok hX L (0, 0) ltL (by decide) ((hitL w).mpr ht) (Nat.zero_le _)
          omega
        walk_at "z"
        refine ⟨p, L, most, rfl, hp1, ltL, by omega, by omega, m0, by omega, fun b H2 s2 hb => ?_⟩
        have s02 := s1.trans s2
        have hp2 := s2 _ _ hp1
        cases b with
        | false =>
          walk_at "z"
          refine iteT ?_
          walk_at "z"
          exact qn H2 s02 fun X hX w pk ht => hb rfl X hX pk ((hitL w).mpr ht)
        | true =>
          walk_at "z"
          refine iteF ?_
          walk_at "z"
          refine ⟨p, L, rfl, .inl (.inl hp2), ltL, by omega, fun m hm => ?_⟩
          have lm := ltL m hm
          walk_at "z"
          refine ⟨(m : Int), _, rfl, mskN m, fun i hi => ?_, fun p2 ns H3 s3 hn3 _ asc mem => ?_⟩
          · rw [Int.toNat_natCast] at hi
            have := bit_lt lm hi
            omega
          have hp3 := s3 _ _ hp2
          have s03 := s02.trans s3
          walk_at "z"
          refine r_it (.inl (.inl hn3)) (forR_tup (xs := ns.map V.int) (fun i σ' H' => ∃ (x4 x5 x6 : Option V) (b : Nat), σ' = [some (.ref l), some (.int (b : Int)), some (.int most), some (.ref p), x4, x5, x6] ∧ Same H H' ∧ H' p = some (.lst ((nI L).map V.int)) ∧ H' p2 = some (.tup (ns.map V.int)) ∧ b < 128 ∧ Wi b a ∧ ∀ X < 128, Wi X a → (pop X : Int) ≤ most → Hit X L → Wi X b ∧ ∀ v : Nat, ((v : Nat) : Int) ∈ ns.take i → X.testBit v = false) ⟨_, _, _, a, rfl, s03, hp3, hn3, la, fun v t => t, fun X _ w _ _ => ⟨w, fun v hv => by simp at hv⟩⟩ (fun i σ' H' _ ⟨_, _, _, _, _, _, _, h, _⟩ => .inl (.inl h)) ?_ ?_)
          · rintro i y σ' H4 hy ⟨x4, x5, x6, b, rfl, s4, hp4, hn4, lb, wb, inv⟩
            rw [List.getElem?_map] at hy
            obtain ⟨z, hz, rfl⟩ := Option.map_eq_some_iff.mp hy
            obtain ⟨z0, zb⟩ := (mem z).mp (List.mem_of_getElem? hz)
            obtain ⟨v, rfl⟩ : ∃ v : Nat, z = (v : Int) := ⟨z.toNat, by omega⟩
            rw [Int.toNat_natCast] at zb
            have v7 := bit_lt lm zb
            walk_at "z"
            refine r_il (.inl (.inl hp4)) fun d hd => lcR_list (xs := (nI L).map V.int) (fun j H' => Same H4 H' ∧ H' d = some (.lst ((nI ((L.take j).filter fun m => !m.testBit v)).map V.int))) (by walk_at "zw") ⟨same_new hd, upd_same⟩ (fun i H' _ ⟨s2, _⟩ => .inl (.inl (s2 _ _ hp4))) ?_ ?_
            · rintro j y H' hy ⟨s5, hcs⟩
              obtain ⟨k, rfl, hk⟩ := nI_get hy
              have jl := (List.getElem?_eq_some_iff.mp hk).1
              walk_at "z"
              refine ⟨rfl, ?_⟩
              walk_at "z"
              refine ⟨(k : Int), (v : Int), _, rfl, mskN k, by omega, by omega, fun b2 hb2 => ?_⟩
              rw [Int.toNat_natCast] at hb2
              have e9 : (L.take (j + 1)).filter (fun m => !m.testBit v) = (L.take j).filter (fun m => !m.testBit v) ++ (if k.testBit v = true then [] else [k]) := by
                rw [take_next hk, List.filter_append, List.filter_cons, List.filter_nil]
                cases c : k.testBit v <;> simp
              cases b2 with
              | true =>
                walk_at "z"
                refine iteF ?_
                refine ⟨s5, ?_⟩
                rw [e9, if_pos (hb2.mp rfl), List.append_nil]
                exact hcs
              | false =>
                walk_at "z"
                refine iteT ?_
                walk_at "z"
                have nt : ¬ k.testBit v = true := fun h => by have := hb2.mpr h; cases this
                refine r_lce hcs (small_lt (by rw [nI_len]; have := List.length_filter_le (fun m : Nat => !m.testBit v) (L.take j); rw [List.length_take] at this; omega)) ⟨same_mut s5 hd, ?_⟩
                rw [e9, if_neg nt, nI_snoc]
                exact upd_same
            · rintro H5 ⟨s5, hd5⟩
              rw [nI_len, List.take_length] at hd5
              have s45 := s4.trans s5
              have lf := filt_lt (p := fun m : Nat => !m.testBit v) hm (by rw [zb]; rfl)
              walk_at "z"
              refine ⟨d, L.filter fun m => !m.testBit v, b, most - 1, rfl, hd5, fun m hm => ltL m (List.mem_filter.mp hm).1, by omega, lb, by omega, by omega, by omega, fun H6 s6 no => ?_, fun X H6 s6 yes => ?_⟩
              · have s06 := s45.trans s6
                walk_at "z"
                refine ⟨rfl, ?_⟩
                rw [decide_eq_true (rfl : V.non = V.non)]
                walk_at "z"
                refine iteF ?_
                have mb := (mskN b).andB (Msk.shl (v := (v : Int)) (by omega)).bts.not
                walk_at "z"
                refine r_aug rfl ?_
                walk_at "z"
                refine r_i ⟨by omega, by omega, by decide⟩ ?_
                walk_at "z"
                refine r_augI rfl ?_
                simp only [List.set_cons_succ, List.set_cons_zero]
                generalize Builtin.bitAnd (b : Int) _ = y at mb ⊢
                obtain ⟨b', rfl⟩ : ∃ b' : Nat, y = (b' : Int) := ⟨y.toNat, by have := mb.nn; omega⟩
                have bit : ∀ u : Nat, b'.testBit u = true ↔ b.testBit u = true ∧ u ≠ v := fun u => by
                  have := mb.bits u
                  rw [Int.toNat_natCast, Int.toNat_natCast] at this
                  rw [this]
                  exact and_congr Iff.rfl ⟨fun h e => h (by rw [e]), fun h e => h (by omega)⟩
                have wbb : Wi b' b := fun u t => ((bit u).mp t).1
                have lb' : b' < 128 := by
                  have : b' &&& b = b' := Nat.eq_of_testBit_eq fun u => by
                    rw [Nat.testBit_and]
                    cases c : b'.testBit u with
                    | false => rfl
                    | true => rw [wbb u c]; rfl
                  rw [← this, Nat.and_comm]
                  exact and_lt lb
                refine ⟨_, _, _, b', rfl, s06, s6 _ _ (s5 _ _ hp4), s6 _ _ (s5 _ _ hn4), lb', fun u t => wb u (wbb u t), fun X hX w pk ht => ?_⟩
                obtain ⟨i1, i2⟩ := inv X hX w pk ht
                have xv := no_step ltL v7 no hX i1 pk ht
                refine ⟨fun u t => (bit u).mpr ⟨i1 u t, fun e => by rw [e, xv] at t; cases t⟩, fun u hu => ?_⟩
                rw [take_next hz] at hu
                rcases List.mem_append.mp hu with c | c
                · exact i2 u c
                · have : u = v := by have := List.mem_singleton.mp c; omega
                  rw [this]
                  exact xv
              · have s06 := s45.trans s6
                obtain ⟨y1, y2, y3, y4⟩ := yes_step v7 yes
                walk_at "z"
                refine ⟨rfl, ?_⟩
                rw [decide_eq_false (fun h => (nomatch h) : ¬ V.int (X : Int) = V.non)]
                walk_at "z"
                refine iteT ?_
                walk_at "z"
                refine r_i ⟨by omega, by omega, by decide⟩ ?_
                have e2 : Builtin.bitOr (X : Int) (1 * 2 ^ ((v : Nat) : Int).toNat) = ((X ||| 2 ^ v : Nat) : Int) := by
                  rw [Int.toNat_natCast, Int.one_mul, ← PySem.W.kbt_cast, bor_n]
                walk_at "z"
                rw [e2]
                have wX : Wi (X ||| 2 ^ v) a := fun u t => (y2 u t).elim (fun t => wb u (yes.2.1 u t)) fun e => by rw [e]; exact bitA m hm v zb
                exact qs _ H6 s06 ⟨y1, wX, y3, (hitL wX).mp y4⟩
          · rintro σ' H4 ⟨x4, x5, x6, b, rfl, s4, hp4, hn4, lb, wb, inv⟩
            rw [List.length_map, List.take_length] at inv
            walk_at "z"
            refine qn H4 s4 fun X hX w pk ht => ?_
            obtain ⟨_, i2⟩ := inv X hX w pk ((hitL w).mpr ht)
            obtain ⟨v, v1, v2⟩ := and_ne.mp ((hitL w).mpr ht m hm)
            have := i2 v ((mem _).mpr ⟨Int.natCast_nonneg _, by rw [Int.toNat_natCast]; exact v2⟩)
            rw [v1] at this
            cases this
end

set_option Elab.async false
set_option linter.all false
set_option maxRecDepth 100000
set_option maxHeartbeats 4000000
open PySem PySem.Spec PyProof.Rows L2 LamX RZ

abbrev s_mask_within : Stmt := topS 9
theorem sc_mask_within : FnScope ["sets", "most", "least", "width", "mask"] ["sets", "most"] (defScope s_mask_within) := ⟨rfl, rfl, rfl, by decide +kernel, rfl, by decide +kernel, by decide +kernel⟩

abbrev s_least_mask : Stmt := topS 8
theorem sc_least_mask : FnScope ["sets", "most", "found"] ["sets"] (defScope s_least_mask) := ⟨rfl, rfl, rfl, by decide +kernel, rfl, by decide +kernel, by decide +kernel⟩

abbrev s_least_hitting : Stmt := topS 16
theorem sc_least_hitting : FnScope ["graph", "bramble", "members"] ["graph", "bramble"] (defScope s_least_hitting) := ⟨rfl, rfl, rfl, by decide +kernel, rfl, by decide +kernel, by decide +kernel⟩

theorem full_bit (w v : Nat) : (2 ^ w - 1).testBit v = true ↔ v < w := by rw [Nat.testBit_two_pow_sub_one, decide_eq_true_iff]
theorem msk_nat {x : Int} {S : Int → Prop} (h : Msk x S) (b : ∀ i : Nat, S i → i < 7) : ∃ m : Nat, x = (m : Int) ∧ m < 128 ∧ ∀ i : Nat, m.testBit i = true ↔ S i := by
  refine ⟨x.toNat, by have := h.nn; omega, Nat.lt_pow_two_of_testBit (n := 7) x.toNat fun i hi => ?_, h.bits⟩
  cases c : x.toNat.testBit i with
  | false => rfl
  | true =>
    have := b i ((h.bits i).mp c)
    omega
/-- a set of small numbers as bits -/
theorem bits_of : ∀ (ks : List Int), ks.Nodup → (∀ k ∈ ks, 0 ≤ k ∧ k < 7) → ∃ Y < 128, (∀ i : Nat, Y.testBit i = true ↔ ((i : Nat) : Int) ∈ ks) ∧ pop Y = ks.length
  | [], _, _ => ⟨0, by decide, fun i => by simp, pop_zero⟩
  | k :: ks, nd, b => by
    obtain ⟨n1, n2⟩ := List.nodup_cons.mp nd
    obtain ⟨Y, hY, bY, pY⟩ := bits_of ks n2 fun z hz => b z (List.mem_cons_of_mem _ hz)
    have bk := b k List.mem_cons_self
    obtain ⟨v, rfl⟩ : ∃ v : Nat, k = (v : Int) := ⟨k.toNat, by omega⟩
    have v7 : v < 7 := by omega
    have lt2 := (pop_or1 Y hY v v7).1
    have bb : ∀ i : Nat, (Y ||| 2 ^ v).testBit i = true ↔ ((i : Nat) : Int) ∈ ((v : Nat) : Int) :: ks := fun i => by
      rw [Nat.testBit_or, Nat.testBit_two_pow, Bool.or_eq_true, decide_eq_true_iff, bY, List.mem_cons]
      constructor
      · rintro (h | h)
        · exact .inr h
        · exact .inl (by omega)
      · rintro (h | h)
        · exact .inr (by omega)
        · exact .inl h
    refine ⟨Y ||| 2 ^ v, lt2, bb, ?_⟩
    have tv : (Y ||| 2 ^ v).testBit v = true := (bb v).mpr List.mem_cons_self
    obtain ⟨_, p2⟩ := pop_xor _ lt2 v v7 tv
    have e : (Y ||| 2 ^ v) ^^^ 2 ^ v = Y := Nat.eq_of_testBit_eq fun u => by
      rw [Nat.testBit_xor, Nat.testBit_or, Nat.testBit_two_pow]
      by_cases c : v = u
      · subst c
        have : Y.testBit v = false := by
          cases d : Y.testBit v with
          | false => rfl
          | true => exact absurd ((bY v).mp d) n1
        simp [this]
      · simp [c]
    rw [e] at p2
    rw [List.length_cons]
    omega
theorem mem_pop {X : Nat} (hX : X < 128) {ns : List Int} (asc : ns.Pairwise (· < ·)) (mem : ∀ z, z ∈ ns ↔ 0 ≤ z ∧ X.testBit z.toNat = true) : ns.length = pop X := by
  obtain ⟨Y, hY, bY, pY⟩ := bits_of ns (asc.imp fun h => by omega) fun k hk => by
    obtain ⟨k0, kb⟩ := (mem k).mp hk
    have := bit_lt hX kb
    omega
  have : Y = X := Nat.eq_of_testBit_eq fun i => Bool.eq_iff_iff.mpr ((bY i).trans ((mem _).trans ⟨fun h => by have := h.2; rwa [Int.toNat_natCast] at this, fun h => ⟨Int.natCast_nonneg _, by rw [Int.toNat_natCast]; exact h⟩⟩))
  rw [← this, pY]
section
variable {P : Program} {w : World} {K : PySem.W.Frag} {mg : Str → Option Value} {base : Heap}
def spMW (K : PySem.W.Frag) : Sp := fun vs H Q _ => ∃ (l : Addr) (ms : List Nat) (most : Int), vs = [.ref l, .int most] ∧ H l = some (.lst ((nI ms).map V.int)) ∧ (∀ m ∈ ms, m < 128) ∧ ms.length ≤ 12 ∧ 0 ≤ most ∧ most ≤ 100 ∧
  (∀ H', Same H H' → (∀ X < 128, (pop X : Int) ≤ most → ¬ Hit X ms) → Q .non H') ∧ ∀ X H', Same H H' → X < 128 → (pop X : Int) ≤ most → Hit X ms → Q (.int (X : Int)) H'
theorem ok_mw (T : Blt mg) (D : DefAt K mg "mask_within" s_mask_within ["sets", "most"]) (D_least_sets : DefAt K mg "_least_sets" s_least_sets ["sets"]) (G_least_sets : FnOk P w K mg base CX0 4 D_least_sets.f D_least_sets.fd ["sets"] (spLeastS K))
    (D_full_mask : DefAt K mg "full_mask" s_full_mask ["n"]) (G_full_mask : FnOk P w K mg base CX0 1 D_full_mask.f D_full_mask.fd ["n"] spFull)
    (D_search : DefAt K mg "_search" s_search ["sets", "allowed", "most"]) (G_search : FnOk P w K mg base CX0 20 D_search.f D_search.fd ["sets", "allowed", "most"] (spSearch 14)) :
    FnOk P w K mg base CX0 21 D.f D.fd ["sets", "most"] (spMW K) := by
  refine D.F.ok sc_mask_within (fun vs H Q E h => ?_) (fun cdv A outer s H vs Q E hr h => ?_)
  · obtain ⟨l, ms, most, rfl, _⟩ := h
    rfl
  · obtain ⟨l, ms, most, rfl, hl, lt, len, m0, m1, qn, qs⟩ := h
    refine ⟨_, (pss_cons (ps_set (i := 2) sc_mask_within.nd rfl (Or.inl rfl) (pe_call G_least_sets (hr.mono (by first | decide | omega)) (by rfl) D_least_sets.g D_least_sets.F.kp D_least_sets.b .nil pass0 (pa_cons (pv 0) pa_nil)))
      (pss_cons (ps_set (i := 3) sc_mask_within.nd rfl (Or.inl rfl) (pe_callBK (cr_maxDefK (K := K) rfl rfl hr.units) (by rfl) T.max (by decide +kernel) (pa_cons (pe_lc (own := [("mask", 4)]) (by rfl) sc_mask_within.nd (PI.listK (K := K) rfl (pi_list (pv 2))) (blkOk_by (own := [("mask", 4)]) (N := ["sets", "most", "least", "width", "mask"]) (sc := (defScope s_mask_within)) (by decide +kernel)) (fun _ _ _ _ _ => (pg_name (i := 4) sc_mask_within.nd rfl (Or.inl rfl))) (fun _ _ _ _ _ => pts_nil) (fun _ _ _ _ _ => (PE.bm0K (K := K) rfl (pe_bm0 PySem.F.plainAttrs_int PySem.F.slot_int_bit_length PySem.F.type_int_bit_length mt_bitlen (pv 4))))) pa_nil) (pk_cons pe_int pk_nil)))
      (pss_one (ps_ret (pe_call G_search (hr.mono (by first | decide | omega)) (by rfl) D_search.g D_search.F.kp D_search.b .nil pass0 (pa_cons (pv 2) (pa_cons (pe_call G_full_mask (hr.mono (by first | decide | omega)) (by rfl) D_full_mask.g D_full_mask.F.kp D_full_mask.b .nil pass0 (pa_cons (pv 3) pa_nil)) (pa_cons (pv 1) pa_nil)))))))), ?_⟩
    refine r_at (σ := [some _, some _, none, none, none]) rfl ?_
    walk_at "z"
    refine ⟨l, ms, rfl, .inl (.inl hl), lt, by omega, fun f ks H1 s1 hf sub cov lk => ?_⟩
    have ltk : ∀ k ∈ ks, k < 128 := fun k hk => lt k (sub k hk)
    have hits : ∀ {X}, Hit X ks ↔ Hit X ms := fun {X} => ⟨fun h m hm => by
      obtain ⟨k, k1, k2⟩ := cov m hm
      obtain ⟨v, v1, v2⟩ := and_ne.mp (h k k1)
      exact and_ne.mpr ⟨v, v1, k2 v v2⟩, fun h k hk => h k (sub k hk)⟩
    walk_at "z"
    refine r_ckw ?_
    walk_at "z"
    refine r_il (.inl (.inl hf)) fun d hd => lcR_list (xs := (nI ks).map V.int) (fun j H' => Same H1 H' ∧ H' d = some (.lst (((ks.take j).map fun (m : Nat) => ((Builtin.Int.intBits (m : Int) : Nat) : Int)).map V.int))) (by walk_at "zw") ⟨same_new hd, upd_same⟩ (fun i H' _ ⟨s2, _⟩ => .inl (.inl (s2 _ _ hf))) ?_ ?_
    · rintro j y H' hy ⟨s2, hcs⟩
      obtain ⟨m, rfl, hm⟩ := nI_get hy
      have jl := (List.getElem?_eq_some_iff.mp hm).1
      walk_at "z"
      refine ⟨rfl, ?_⟩
      walk_at "z"
      refine r_lce hcs (small_lt (by rw [List.length_map, List.length_map, List.length_take]; omega)) ⟨same_mut s2 hd, ?_⟩
      rw [take_next hm, List.map_append, List.map_append]
      exact upd_same
    · rintro H2 ⟨s2, hcs⟩
      rw [nI_len, List.take_length] at hcs
      walk_at "z"
      refine ⟨d, _, 0, rfl, rfl, .inl (.inl hcs), fun wi e0 e1 => ?_⟩
      have wb : 0 ≤ wi ∧ wi ≤ 7 ∧ ∀ k ∈ ks, ∀ v : Nat, k.testBit v = true → (v : Int) < wi := by
        by_cases ek : ks = []
        · have := e0 (by rw [ek]; rfl)
          exact ⟨by omega, by omega, fun k hk => by rw [ek] at hk; cases hk⟩
        · obtain ⟨h1, h2⟩ := e1 fun z => ek (List.map_eq_nil_iff.mp z)
          obtain ⟨m9, hm9, rfl⟩ := List.mem_map.mp h1
          have w7 := (bits_n m9 (ltk m9 hm9)).1
          refine ⟨by omega, by omega, fun k hk v t => ?_⟩
          have b1 := (bits_n k (ltk k hk)).2 v (by have := bit_lt (ltk k hk) t; omega) t
          have b2 := h2 _ (List.mem_map.mpr ⟨k, hk, rfl⟩)
          omega
      obtain ⟨w0, w7, wk⟩ := wb
      obtain ⟨wd, rfl⟩ : ∃ wd : Nat, wi = (wd : Int) := ⟨wi.toNat, by omega⟩
      have s02 := s1.trans s2
      walk_at "z"
      refine ⟨(wd : Int), rfl, by omega, by omega, ?_⟩
      have p2 : 1 ≤ 2 ^ wd := Nat.one_le_pow _ _ (by decide)
      have ea : (1 * 2 ^ ((wd : Nat) : Int).toNat - 1 : Int) = ((2 ^ wd - 1 : Nat) : Int) := by
        rw [Int.toNat_natCast, Int.one_mul, ← PySem.W.kbt_cast]
        omega
      have la : 2 ^ wd - 1 < 128 := by
        have : 2 ^ wd ≤ 2 ^ 7 := Nat.pow_le_pow_right (by decide) (by omega)
        omega
      rw [ea]
      have wX : ∀ {X : Nat}, X < 128 → ∃ Y < 128, Wi Y (2 ^ wd - 1) ∧ pop Y ≤ pop X ∧ (Hit X ks → Hit Y ks) := fun {X} hX => by
        refine ⟨X &&& (2 ^ wd - 1), and_lt hX, fun v t => ?_, pop_and X hX _ la, fun h k hk => ?_⟩
        · rw [Nat.testBit_and, Bool.and_eq_true] at t
          exact t.2
        · obtain ⟨v, v1, v2⟩ := and_ne.mp (h k hk)
          exact and_ne.mpr ⟨v, by rw [Nat.testBit_and, v1, (full_bit wd v).mpr (by have := wk k hk v v2; omega)]; rfl, v2⟩
      walk_at "z"
      refine ⟨f, ks, 2 ^ wd - 1, most, rfl, s2 _ _ hf, ltk, by omega, la, m0, m1, by omega, fun H3 s3 no => ?_, fun X H3 s3 yes => ?_⟩
      · refine qn H3 (s02.trans s3) fun X hX pk ht => ?_
        obtain ⟨Y, y1, y2, y3, y4⟩ := wX hX
        exact no Y y1 y2 (by omega) (y4 (hits.mpr ht))
      · exact qs X H3 (s02.trans s3) yes.1 yes.2.2.1 (hits.mp yes.2.2.2)
set_option hygiene false in
local macro_rules | `(tactic| walk_at "zlm") => `(tactic| (
  rintro k σ' H' ⟨m, f', rfl, s2, rfl, m7, low, fd⟩
  rcases fd with ⟨rfl, no2⟩ | ⟨X2, rfl, y1, y2, y3⟩
  · walk_at "z"
    refine ⟨rfl, ?_⟩
    rw [decide_eq_true (rfl : V.non = V.non)]
    walk_at "z"
    refine r_whGo ?_
    have m6 : m + 1 ≤ 7 := by
      have h9 := no2 127 (by decide)
      refine Nat.lt_of_not_le fun c => h9 ?_ all
      have := pop_le 127 (by decide)
      omega
    walk_at "z"
    refine r_aug rfl ?_
    walk_at "z"
    refine r_augI rfl ?_
    simp only [List.set_cons_succ, List.set_cons_zero]
    have low2 : ∀ Y < 128, Hit Y ms → m + 1 ≤ pop Y := fun Y hY ht => Nat.lt_of_not_le fun c => no2 Y hY (by omega) ht
    walk_at "z"
    refine ⟨l, ms, (m : Int) + 1, rfl, s2 _ _ hl, fun m hm => (lt m hm).1, len, by omega, by omega, fun H1 s1 no => ?_, fun X H1 s1 x1 x2 x3 => ?_⟩
    · walk_at "z"
      exact ⟨8 - (m + 1), by omega, m + 1, .non, rfl, s2.trans s1, rfl, m6, low2, .inl ⟨rfl, fun Y hY pk => no Y hY (by omega)⟩⟩
    · walk_at "z"
      exact ⟨8 - (m + 1), by omega, m + 1, .int (X : Int), rfl, s2.trans s1, rfl, m6, low2, .inr ⟨X, rfl, x1, by omega, x3⟩⟩
  · walk_at "z"
    refine ⟨rfl, ?_⟩
    rw [decide_eq_false (fun h => (nomatch h) : ¬ V.int (X2 : Int) = V.non)]
    walk_at "z"
    exact q X2 H' s2 y1 y3 fun Y hY ht => by have := low Y hY ht; omega))
def spLM (K : PySem.W.Frag) : Sp := fun vs H Q _ => ∃ (l : Addr) (ms : List Nat), vs = [.ref l] ∧ H l = some (.lst ((nI ms).map V.int)) ∧ (∀ m ∈ ms, m < 128 ∧ m ≠ 0) ∧ ms.length ≤ 12 ∧
  ∀ X H', Same H H' → X < 128 → Hit X ms → (∀ Y < 128, Hit Y ms → pop X ≤ pop Y) → Q (.int (X : Int)) H'
theorem ok_lm (T : Blt mg) (D : DefAt K mg "least_mask" s_least_mask ["sets"]) (D_mask_within : DefAt K mg "mask_within" s_mask_within ["sets", "most"]) (G_mask_within : FnOk P w K mg base CX0 21 D_mask_within.f D_mask_within.fd ["sets", "most"] (spMW K)) :
    FnOk P w K mg base CX0 22 D.f D.fd ["sets"] (spLM K) := by
  refine D.F.ok sc_least_mask (fun vs H Q E h => ?_) (fun cdv A outer s H vs Q E hr h => ?_)
  · obtain ⟨l, ms, rfl, _⟩ := h
    rfl
  · obtain ⟨l, ms, rfl, hl, lt, len, q⟩ := h
    have all : Hit 127 ms := fun m hm => by
      obtain ⟨m1, m2⟩ := lt m hm
      obtain ⟨v, hv⟩ := Nat.exists_testBit_of_ne_zero m2
      exact and_ne.mpr ⟨v, (full_bit 7 v).mpr (bit_lt m1 hv), hv⟩
    let Fd : Nat → V → Prop := fun most f => (f = .non ∧ ∀ Y < 128, (pop Y : Int) ≤ most → ¬ Hit Y ms) ∨ ∃ X : Nat, f = .int (X : Int) ∧ X < 128 ∧ (pop X : Int) ≤ most ∧ Hit X ms
    refine ⟨_, (pss_cons (ps_set (i := 1) sc_least_mask.nd rfl (Or.inl rfl) pe_int)
      (pss_cons (ps_set (i := 2) sc_least_mask.nd rfl (Or.inl rfl) (pe_call G_mask_within (hr.mono (by first | decide | omega)) (by rfl) D_mask_within.g D_mask_within.F.kp D_mask_within.b .nil pass0 (pa_cons (pv 0) (pa_cons (pv 1) pa_nil))))
      (pss_cons (ps_while PassesOwn.never (pt_cmpR op_isN (pv 2) pe_non (nomark _))
        (pss_cons (ps_aug (i := 1) sc_least_mask.nd rfl (Or.inl rfl) pe_int ip_add)
        (pss_one (ps_set (i := 2) sc_least_mask.nd rfl (Or.inl rfl) (pe_call G_mask_within (hr.mono (by first | decide | omega)) (by rfl) D_mask_within.g D_mask_within.F.kp D_mask_within.b .nil pass0 (pa_cons (pv 0) (pa_cons (pv 1) pa_nil)))))))
      (pss_one (ps_ret (pv 2)))))), ?_⟩
    refine r_at (σ := [some _, none, none]) rfl ?_
    walk_at "z"
    refine ⟨l, ms, 0, rfl, hl, fun m hm => (lt m hm).1, len, by omega, by omega, fun H1 s1 no => ?_, fun X H1 s1 x1 x2 x3 => ?_⟩
    · walk_at "z"
      refine r_while (fun k σ' H' => ∃ (m : Nat) (f' : V), σ' = [some (.ref l), some (.int (m : Int)), some f'] ∧ Same H H' ∧ k = 8 - m ∧ m ≤ 7 ∧ (∀ Y < 128, Hit Y ms → m ≤ pop Y) ∧ Fd m f') 8 ⟨0, .non, rfl, s1, rfl, by omega, fun Y _ _ => Nat.zero_le _, .inl ⟨rfl, no⟩⟩ ?_
      walk_at "zlm"
    · walk_at "z"
      refine r_while (fun k σ' H' => ∃ (m : Nat) (f' : V), σ' = [some (.ref l), some (.int (m : Int)), some f'] ∧ Same H H' ∧ k = 8 - m ∧ m ≤ 7 ∧ (∀ Y < 128, Hit Y ms → m ≤ pop Y) ∧ Fd m f') 8 ⟨0, .int (X : Int), rfl, s1, rfl, by omega, fun Y _ _ => Nat.zero_le _, .inr ⟨X, rfl, x1, x2, x3⟩⟩ ?_
      walk_at "zlm"
/-- the sets of a bramble hit by as few as can be -/
def HitsI (ns : List Int) (oss : List (List Int)) : Prop := ∀ o ∈ oss, ∃ v ∈ ns, v ∈ o
def spLH : Sp := fun vs H Q _ => ∃ (g : V) (b : Addr) (xs : List V) (oss : List (List Int)), vs = [g, .ref b] ∧ H b = some (.tup xs) ∧ ITups H xs oss ∧ oss.length ≤ 12 ∧ (∀ o ∈ oss, o ≠ [] ∧ ∀ v ∈ o, 0 ≤ v ∧ v < 7) ∧
  ∀ (p : Addr) (ns : List Int) (H' : Hp), Same H H' → H' p = some (.tup (ns.map V.int)) → ns.Pairwise (· < ·) → (∀ z ∈ ns, ∃ o ∈ oss, z ∈ o) → HitsI ns oss → (∀ ks : List Int, ks.Nodup → (∀ k ∈ ks, 0 ≤ k ∧ k < 7) → HitsI ks oss → ns.length ≤ ks.length) → Q (.ref p) H'
theorem ok_lh (T : Blt mg) (D : DefAt K mg "least_hitting" s_least_hitting ["graph", "bramble"]) (D_members_of : DefAt K mg "members_of" s_members_of ["mask"]) (G_members_of : FnOk P w K mg base CX0 1 D_members_of.f D_members_of.fd ["mask"] spMem)
    (D_least_mask : DefAt K mg "least_mask" s_least_mask ["sets"]) (G_least_mask : FnOk P w K mg base CX0 22 D_least_mask.f D_least_mask.fd ["sets"] (spLM K))
    (D_mask_of : DefAt K mg "mask_of" s_mask_of ["members"]) (G_mask_of : FnOk P w K mg base CX0 1 D_mask_of.f D_mask_of.fd ["members"] (spMask K)) :
    FnOk P w K mg base CX0 23 D.f D.fd ["graph", "bramble"] spLH := by
  refine D.F.ok sc_least_hitting (fun vs H Q E h => ?_) (fun cdv A outer s H vs Q E hr h => ?_)
  · obtain ⟨g, b, xs, oss, rfl, _⟩ := h
    rfl
  · obtain ⟨g, b, xs, oss, rfl, hb, hx, len, bd, q⟩ := h
    have lx : xs.length = oss.length := hx.length
    refine ⟨_, (pss_one (ps_ret (pe_call G_members_of (hr.mono (by first | decide | omega)) (by rfl) D_members_of.g D_members_of.F.kp D_members_of.b .nil pass0 (pa_cons (pe_call G_least_mask (hr.mono (by first | decide | omega)) (by rfl) D_least_mask.g D_least_mask.F.kp D_least_mask.b .nil pass0 (pa_cons (pe_lc (own := [("members", 2)]) (by rfl) sc_least_hitting.nd (PI.tupK (K := K) rfl (pi_tup (pv 1))) (blkOk_by (own := [("members", 2)]) (N := ["graph", "bramble", "members"]) (sc := (defScope s_least_hitting)) (by decide +kernel)) (fun _ _ _ _ _ => (pg_name (i := 2) sc_least_hitting.nd rfl (Or.inl rfl))) (fun _ _ _ _ _ => pts_nil) (fun _ _ _ _ _ => (pe_call G_mask_of (hr.mono (by first | decide | omega)) (by rfl) D_mask_of.g D_mask_of.F.kp D_mask_of.b .nil pass0 (pa_cons (pv 2) pa_nil)))) pa_nil)) pa_nil)))), ?_⟩
    refine r_at (σ := [some _, some _, none]) rfl ?_
    walk_at "z"
    refine r_it (.inl (.inl hb)) fun d hd => lcR_tup (xs := xs) (fun j H' => Same H H' ∧ ∃ ms : List Nat, H' d = some (.lst ((nI ms).map V.int)) ∧ Paired (fun (m : Nat) (o : List Int) => m < 128 ∧ ∀ i : Nat, m.testBit i = true ↔ ((i : Nat) : Int) ∈ o) ms (oss.take j)) (by walk_at "zw") ⟨same_new hd, [], upd_same, .nil⟩ (fun i H' _ ⟨s2, _⟩ => .inl (.inl (s2 _ _ hb))) ?_ ?_
    · rintro j y H' hy ⟨s2, ms, hcs, pm⟩
      obtain ⟨o, ho, t, rfl, ht⟩ := pd_get (ITups.tk (.of_same s2) hx) hy
      have il := (List.getElem?_eq_some_iff.mp ho).1
      have om := List.mem_of_getElem? ho
      have lm := pm.length
      rw [List.length_take] at lm
      walk_at "z"
      refine ⟨rfl, ?_⟩
      walk_at "z"
      refine ⟨t, o, rfl, .inr (.inl (.inl ht)), fun v hv => by have := (bd o om).2 v hv; omega, fun x mx => ?_⟩
      obtain ⟨m, rfl, m7, mb⟩ := msk_nat mx fun i hi => by have := (bd o om).2 _ hi; omega
      refine r_lce hcs (small_lt (by rw [nI_len]; omega)) ⟨same_mut s2 hd, ms ++ [m], by rw [nI_snoc]; exact upd_same, ?_⟩
      rw [take_next ho]
      exact pd_append pm (.cons ⟨m7, mb⟩ .nil)
    · rintro H1 ⟨s1, ms, hcs, pm⟩
      rw [lx, List.take_length] at pm
      have lm := pm.length
      have hit : ∀ {X : Nat} {ks : List Int}, (∀ i : Nat, X.testBit i = true ↔ ((i : Nat) : Int) ∈ ks) → (∀ k ∈ ks, 0 ≤ k) → (Hit X ms ↔ HitsI ks oss) := fun {X ks} hb k0 => by
        constructor
        · intro h o ho
          obtain ⟨i, hi, rfl⟩ := List.mem_iff_getElem.mp ho
          obtain ⟨m, hm, _, mb⟩ := pd_get2 pm (List.getElem?_eq_getElem hi)
          obtain ⟨v, v1, v2⟩ := and_ne.mp (h m (List.mem_of_getElem? hm))
          exact ⟨_, (hb v).mp v1, (mb v).mp v2⟩
        · intro h m hm
          obtain ⟨i, hi, rfl⟩ := List.mem_iff_getElem.mp hm
          obtain ⟨o, ho, _, mb⟩ := pd_get pm (List.getElem?_eq_getElem hi)
          obtain ⟨v, v1, v2⟩ := h o (List.mem_of_getElem? ho)
          obtain ⟨u, rfl⟩ : ∃ u : Nat, v = (u : Int) := ⟨v.toNat, by have := k0 v v1; omega⟩
          exact and_ne.mpr ⟨u, (hb u).mpr v1, (mb u).mpr v2⟩
      walk_at "z"
      refine ⟨d, ms, rfl, hcs, fun m hm => ?_, by omega, fun X H2 s2 hX ht mn => ?_⟩
      · obtain ⟨i, hi, rfl⟩ := List.mem_iff_getElem.mp hm
        obtain ⟨o, ho, m7, mb⟩ := pd_get pm (List.getElem?_eq_getElem hi)
        obtain ⟨n1, n2⟩ := bd o (List.mem_of_getElem? ho)
        refine ⟨m7, fun e => ?_⟩
        cases o with
        | nil => exact n1 rfl
        | cons v r =>
          have v0 := n2 v List.mem_cons_self
          have := (mb v.toNat).mpr (by rw [show ((v.toNat : Nat) : Int) = v by omega]; exact List.mem_cons_self)
          rw [e] at this
          simp at this
      · walk_at "z"
        refine ⟨(X : Int), _, rfl, mskN X, fun i hi => ?_, fun p ns H3 s3 hn _ asc mem => ?_⟩
        · rw [Int.toNat_natCast] at hi
          have := bit_lt hX hi
          omega
        have ln := mem_pop hX asc mem
        have n0 : ∀ z ∈ ns, 0 ≤ z := fun z hz => ((mem z).mp hz).1
        have bn : ∀ i : Nat, X.testBit i = true ↔ ((i : Nat) : Int) ∈ ns := fun i => by
          rw [mem, Int.toNat_natCast]
          exact ⟨fun h => ⟨Int.natCast_nonneg _, h⟩, fun h => h.2⟩
        refine q p ns H3 ((s1.trans s2).trans s3) hn asc (fun z hz => ?_) ((hit bn n0).mp ht) fun ks nd kb hk => ?_
        · -- a member that hits nothing would not be needed
          refine Classical.byContradiction fun no => ?_
          obtain ⟨z0, zb⟩ := (mem z).mp hz
          have v7 := bit_lt hX zb
          obtain ⟨p1, p2⟩ := pop_xor X hX z.toNat v7 zb
          have := mn _ p1 fun m hm => by
            obtain ⟨i, hi, rfl⟩ := List.mem_iff_getElem.mp hm
            obtain ⟨o, ho, _, mb⟩ := pd_get pm (List.getElem?_eq_getElem hi)
            obtain ⟨v, v1, v2⟩ := and_ne.mp (ht _ hm)
            have ne : z.toNat ≠ v := fun e => no ⟨o, List.mem_of_getElem? ho, by
              have := (mb v).mp v2
              rwa [← e, show ((z.toNat : Nat) : Int) = z by omega] at this⟩
            exact and_ne.mpr ⟨v, by rw [Nat.testBit_xor, Nat.testBit_two_pow, v1]; simp [ne], v2⟩
          omega
        · obtain ⟨Y, hY, bY, pY⟩ := bits_of ks nd kb
          have := mn Y hY ((hit bY fun k hk => (kb k hk).1).mpr hk)
          omega
end

set_option Elab.async false
set_option linter.all false
set_option maxRecDepth 100000
set_option maxHeartbeats 4000000
open PySem PySem.Spec PyProof.Rows L2

abbrev s_law_is_int : Stmt := topS 21
theorem sc_law_is_int : FnScope ["x"] ["x"] (defScope s_law_is_int) := ⟨rfl, rfl, rfl, by decide +kernel, rfl, by decide +kernel, by decide +kernel⟩

abbrev s_law_is_row : Stmt := topS 42
theorem sc_law_is_row : FnScope ["graph", "value", "v"] ["graph", "value"] (defScope s_law_is_row) := ⟨rfl, rfl, rfl, by decide +kernel, rfl, by decide +kernel, by decide +kernel⟩

abbrev s_law_is_set : Stmt := topS 43
theorem sc_law_is_set : FnScope ["graph", "value"] ["graph", "value"] (defScope s_law_is_set) := ⟨rfl, rfl, rfl, by decide +kernel, rfl, by decide +kernel, by decide +kernel⟩

abbrev s_law_least_hit : Stmt := topS 46
theorem sc_law_least_hit : FnScope ["graph", "bramble", "one"] ["graph", "bramble"] (defScope s_law_least_hit) := ⟨rfl, rfl, rfl, by decide +kernel, rfl, by decide +kernel, by decide +kernel⟩

theorem zip_allF {α β : Type} {f : α → β} : ∀ {ys : List α} {es : List β}, ys.length = es.length → (∀ z ∈ ys.zip es, z.2 = f z.1) → es = ys.map f
  | [], [], _, _ => rfl
  | [], _ :: _, h, _ => by simp at h
  | _ :: _, [], h, _ => by simp at h
  | y :: ys, e :: es, h, k => by
    rw [List.map_cons, ← zip_allF (by simpa using h) fun z hz => k z (by rw [List.zip_cons_cons]; exact List.mem_cons_of_mem _ hz)]
    have e1 : e = f y := k (y, e) (by rw [List.zip_cons_cons]; exact List.mem_cons_self)
    rw [e1]
section
variable {P : Program} {w : World} {K : PySem.W.Frag} {mg : Str → Option Value} {base : Heap}
theorem r_isiI {H : Hp} {Q : VK} {i : Int} {c : String} {b : Bool} (e : kitB "int" c = some b) (q : Q (.bl b) H) : rIsi K [.int i, .ty c] H Q := ⟨.int i, .ty c, .type "int", .type c, b, rfl, .ty _, .base (.int i), kit_ty e, q⟩
theorem r_isiTupI {H : Hp} {Q : VK} {a : Addr} {xs : List V} {c : String} {b : Bool} (h : H a = some (.tup xs)) (e : kitB "tuple" c = some b) (q : Q (.bl b) H) : rIsi K [.ref a, .ty c] H Q := ⟨.ref a, .ty c, .type "tuple", .type c, b, rfl, .ty _, .base (.tup h), kit_ty e, q⟩
theorem told_I (ns : List Int) : Told (ns.map PyData.int) := fun d hd e he h => by
  obtain ⟨p, _, rfl⟩ := List.mem_map.mp hd
  obtain ⟨q, _, rfl⟩ := List.mem_map.mp he
  have h1 : PySem.W.keyToks (.int p) = [Sum.inl p] := by simp [PySem.W.keyToks]
  have h2 : PySem.W.keyToks (.int q) = [Sum.inl q] := by simp [PySem.W.keyToks]
  rw [h1, h2] at h
  have : p = q := by simpa using h
  rw [this]
def fI : V → PyData
  | .int i => .int i
  | _ => .none
def gI : PyData → V
  | .int i => .int i
  | _ => .non
theorem r_sortIT {a : Addr} {ns : List Int} {H : Hp} {Q : VK} (h : SqT K H a (ns.map V.int)) (asc : ns.Pairwise (· < ·)) (q : ∀ p, H p = none → Q (.ref p) (upd H p (.lst (ns.map V.int)))) : rSortDT K [.ref a] H Q := by
  refine ⟨a, ns.map V.int, ns.map PyData.int, rfl, h, dps_int ns, PySem.W.AllAlike.of (enc := PyData.int) (fun b b' => by simp [PySem.W.alike]), PySem.W.Sortable.others (enc := PyData.int) (fun b => ⟨by simp, fun xs => by simp⟩), by have := depI ns; omega, fun ys es p z l pm pe _ pw hn => ?_⟩
  have e1 : es = ns.map PyData.int := sortedD_uniq pe (fun d hd e he => told_I ns d (pe.mem_iff.mp hd) e (pe.mem_iff.mp he)) pw (List.pairwise_map.mpr (asc.imp fun {a b} h => by
    rw [PySem.W.dataLt_int]
    exact decide_eq_false (by omega)))
  have e2 : es = ys.map fI := zip_allF l fun w hw => by
    have := z.mem_iff.mp hw
    rw [List.zip_map'] at this
    obtain ⟨i, _, rfl⟩ := List.mem_map.mp this
    rfl
  have e3 : ys = ns.map V.int := by
    have e4 : (ys.map fI).map gI = ys := by
      rw [List.map_map]
      refine (List.map_congr_left fun y hy => ?_).trans (List.map_id ys)
      obtain ⟨i, _, rfl⟩ := List.mem_map.mp (pm.mem_iff.mp hy)
      rfl
    rw [← e4, ← e2, e1, List.map_map]
    rfl
  rw [e3]
  exact q p hn
def spLIsInt : Sp := fun vs H Q _ => ∃ i : Int, vs = [.int i] ∧ Q (.bl true) H
theorem ok_lisint (T : Blt mg) (D : DefAt K mg "_law_is_int" s_law_is_int ["x"]) : FnOk P w K mg base CX0 1 D.f D.fd ["x"] spLIsInt := by
  refine D.F.ok sc_law_is_int (fun vs H Q E h => ?_) (fun cdv A outer s H vs Q E hr h => ?_)
  · obtain ⟨i, rfl, _⟩ := h
    rfl
  · obtain ⟨i, rfl, q⟩ := h
    refine ⟨_, (pss_one (ps_ret (pe_and (pe_callB (call_isiK (K := K) rfl) (by rfl) T.isinstance (by decide +kernel) (pa_cons (pv 0) (pa_cons (pe_bltn (v := .ty "int") (u := .type "int") (by rfl) T.int (by decide +kernel) rfl) pa_nil))) (pe_one (pe_not (pe_callB (call_isiK (K := K) rfl) (by rfl) T.isinstance (by decide +kernel) (pa_cons (pv 0) (pa_cons (pe_bltn (v := .ty "bool") (u := .type "bool") (by rfl) T.bool (by decide +kernel) rfl) pa_nil)))))))), ?_⟩
    refine r_at (σ := [some _]) rfl ?_
    walk_at "z"
    refine r_isiI (b := true) (by decide +kernel) ?_
    walk_at "z"
    refine r_isiI (b := false) (by decide +kernel) ?_
    walk_at "z"
    exact q
def spLRow : Sp := fun vs H Q _ => ∃ (g x : V) (n : Int) (ps : List (Int × Int)) (ns : List Int), vs = [g, x] ∧ GrAt H g n ps ∧ ITup H x ns ∧ ns.Pairwise (· < ·) ∧ (∀ v ∈ ns, 0 ≤ v ∧ v < n) ∧ ns.length ≤ 60 ∧ ∀ H', Same H H' → Q (.bl true) H'
theorem ok_lrow (T : Blt mg) (D : DefAt K mg "_law_is_row" s_law_is_row ["graph", "value"]) (D_law_is_int : DefAt K mg "_law_is_int" s_law_is_int ["x"]) (G_law_is_int : FnOk P w K mg base CX0 1 D_law_is_int.f D_law_is_int.fd ["x"] spLIsInt)
    (D_law_distinct : DefAt K mg "_law_distinct" s_law_distinct ["rows"]) (G_law_distinct : FnOk P w K mg base CX0 2 D_law_distinct.f D_law_distinct.fd ["rows"] (spDistI K)) :
    FnOk P w K mg base CX0 3 D.f D.fd ["graph", "value"] spLRow := by
  refine D.F.ok sc_law_is_row (fun vs H Q E h => ?_) (fun cdv A outer s H vs Q E hr h => ?_)
  · obtain ⟨g, x, n, ps, ns, rfl, _⟩ := h
    rfl
  · obtain ⟨g, x, n, ps, ns, rfl, hgr, ⟨t, rfl, ht⟩, asc, bd, len, q⟩ := h
    obtain ⟨ga, e, rfl, hg, xs0, he, hp⟩ := id hgr
    refine ⟨_, (pss_cons (ps_if (PW.pt (pw_or (pt_not (pt_val (pe_callB (call_isiK (K := K) rfl) (by rfl) T.isinstance (by decide +kernel) (pa_cons (pv 1) (pa_cons (pe_bltn (v := .ty "tuple") (u := .type "tuple") (by rfl) T.tuple (by decide +kernel) rfl) pa_nil))))) (pw_or1 (pt_cmpR op_gt (pe_callB (call_lenK (K := K) rfl) (by rfl) T.len (by decide +kernel) (pa_cons (pe_lc (own := [("v", 2)]) (by rfl) sc_law_is_row.nd (PI.tupK (K := K) rfl (pi_tup (pv 1))) (blkOk_by (own := [("v", 2)]) (N := ["graph", "value", "v"]) (sc := (defScope s_law_is_row)) (by decide +kernel)) (fun _ _ _ _ _ => (pg_name (i := 2) sc_law_is_row.nd rfl (Or.inl rfl))) (fun _ _ _ _ _ => (pts_one (pt_not (pt_val (pe_call G_law_is_int (hr.mono (by first | decide | omega)) (by rfl) D_law_is_int.g D_law_is_int.F.kp D_law_is_int.b .nil pass0 (pa_cons (pv 2) pa_nil)))))) (fun _ _ _ _ _ => (pv 2))) pa_nil)) pe_int (nomark _)))))
        (pss_one (ps_ret pe_bl))
        pss_nil)
      (pss_one (ps_ret (pe_and (pe_cmpR op_eq (pe_callB (call_lenK (K := K) rfl) (by rfl) T.len (by decide +kernel) (pa_cons (pe_lc (own := [("v", 2)]) (by rfl) sc_law_is_row.nd (PI.tupK (K := K) rfl (pi_tup (pv 1))) (blkOk_by (own := [("v", 2)]) (N := ["graph", "value", "v"]) (sc := (defScope s_law_is_row)) (by decide +kernel)) (fun _ _ _ _ _ => (pg_name (i := 2) sc_law_is_row.nd rfl (Or.inl rfl))) (fun _ _ _ _ _ => (pts_one (pt_not (pt_chain op_le op_lt pe_int (pv 2) (pe_ix (ix_tupK (K := K) rfl) (pv 0) pe_int (fun _ _ => rfl)))))) (fun _ _ _ _ _ => (pv 2))) pa_nil)) pe_int (nomark _)) (pe_one (pe_cmpR op_eq (pe_callB (call_lenK (K := K) rfl) (by rfl) T.len (by decide +kernel) (pa_cons (pe_call G_law_distinct (hr.mono (by first | decide | omega)) (by rfl) D_law_distinct.g D_law_distinct.F.kp D_law_distinct.b .nil pass0 (pa_cons (pe_callTy (call_listK (K := K) rfl) (by rfl) T.list (by decide +kernel) (pa_cons (pv 1) pa_nil)) pa_nil)) pa_nil)) (pe_callB (call_lenK (K := K) rfl) (by rfl) T.len (by decide +kernel) (pa_cons (pv 1) pa_nil)) (nomark _))))))), ?_⟩
    refine r_at (σ := [some _, some _, none]) rfl ?_
    walk_at "z"
    refine r_isiTupI ht (b := true) (by decide +kernel) ?_
    walk_at "z"
    refine iteF ?_
    walk_at "z"
    refine r_it (.inl (.inl ht)) fun c hc => lcR_tup (xs := ns.map V.int) (fun m H' => Same H H' ∧ H' c = some (.lst [])) (by walk_at "zw") ⟨same_new hc, upd_same⟩ (fun i H' _ ⟨s2, _⟩ => .inl (.inl (s2 _ _ ht))) ?_ ?_
    · rintro m v H' hv ⟨s2, hcs⟩
      rw [List.getElem?_map] at hv
      obtain ⟨z, hz, rfl⟩ := Option.map_eq_some_iff.mp hv
      walk_at "z"
      refine ⟨rfl, ?_⟩
      walk_at "z"
      refine ⟨z, rfl, ?_⟩
      walk_at "z"
      refine iteF ?_
      exact ⟨s2, hcs⟩
    · rintro H1 ⟨s1, hcs⟩
      walk_at "z"
      refine r_ite (fun h => absurd h (by simp)) (fun _ => ?_)
      have hg1 := s1 _ _ hg
      have ht1 := s1 _ _ ht
      walk_at "z"
      refine r_it (.inl (.inl ht1)) fun d hd => lcR_tup (xs := ns.map V.int) (fun m H' => Same H1 H' ∧ H' d = some (.lst [])) (by walk_at "zw") ⟨same_new hd, upd_same⟩ (fun i H' _ ⟨s2, _⟩ => .inl (.inl (s2 _ _ ht1))) ?_ ?_
      · rintro m v H' hv ⟨s2, hds⟩
        rw [List.getElem?_map] at hv
        obtain ⟨z, hz, rfl⟩ := Option.map_eq_some_iff.mp hv
        obtain ⟨z0, z1⟩ := bd z (List.mem_of_getElem? hz)
        have hg2 := s2 _ _ hg1
        walk_at "z"
        refine ⟨rfl, ?_⟩
        walk_at "z"
        refine r_ite (fun h => ?_) (fun h => absurd z0 h)
        walk_at "z"
        rw [decide_eq_true z1]
        refine iteF ?_
        exact ⟨s2, hds⟩
      · rintro H2 ⟨s2, hds⟩
        have s02 := s1.trans s2
        have ht2 := s02 _ _ ht
        walk_at "z"
        refine r_ite (fun _ => ?_) (fun h => absurd (by simp) h)
        walk_at "z"
        refine r_listT (.inl (.inl ht2)) fun l hl => ?_
        have s3 : Same H2 (upd H2 l (.lst (ns.map V.int))) := same_new hl
        have hl3 : (upd H2 l (.lst (ns.map V.int))) l = some (.lst (ns.map V.int)) := upd_same
        generalize upd H2 l (.lst (ns.map V.int)) = H3 at s3 hl3 ⊢
        walk_at "z"
        refine ⟨l, ns, rfl, .inl (.inl hl3), by omega, fun f qs H4 s4 hf asc4 mem4 => ?_⟩
        have e9 := asc_eqZ asc4 asc mem4
        subst e9
        have s04 := (s02.trans s3).trans s4
        have ht4 := s04 _ _ ht
        walk_at "z"
        rw [decide_eq_true rfl]
        exact q H4 s04
def spLSet : Sp := spLRow
theorem ok_lset (T : Blt mg) (D : DefAt K mg "_law_is_set" s_law_is_set ["graph", "value"]) (D_law_is_row : DefAt K mg "_law_is_row" s_law_is_row ["graph", "value"]) (G_law_is_row : FnOk P w K mg base CX0 3 D_law_is_row.f D_law_is_row.fd ["graph", "value"] spLRow) :
    FnOk P w K mg base CX0 4 D.f D.fd ["graph", "value"] spLSet := by
  refine D.F.ok sc_law_is_set (fun vs H Q E h => ?_) (fun cdv A outer s H vs Q E hr h => ?_)
  · obtain ⟨g, x, n, ps, ns, rfl, _⟩ := h
    rfl
  · obtain ⟨g, x, n, ps, ns, rfl, hgr, ⟨t, rfl, ht⟩, asc, bd, len, q⟩ := h
    refine ⟨_, (pss_one (ps_ret (pe_and (pe_call G_law_is_row (hr.mono (by first | decide | omega)) (by rfl) D_law_is_row.g D_law_is_row.F.kp D_law_is_row.b .nil pass0 (pa_cons (pv 0) (pa_cons (pv 1) pa_nil))) (pe_one (pe_cmpR (op_eqDK (K := K) rfl hr.units) (pe_callTy (call_listK (K := K) rfl) (by rfl) T.list (by decide +kernel) (pa_cons (pv 1) pa_nil)) (pe_callB (cr_sortDTK (K := K) rfl hr.units) (by rfl) T.sorted (by decide +kernel) (pa_cons (pv 1) pa_nil)) (nomark _)))))), ?_⟩
    refine r_at (σ := [some _, some _]) rfl ?_
    walk_at "z"
    refine ⟨g, _, n, ps, ns, rfl, hgr, ⟨t, rfl, ht⟩, asc, bd, len, fun H1 s1 => ?_⟩
    have ht1 := s1 _ _ ht
    walk_at "z"
    refine r_listT (.inl (.inl ht1)) fun l hl => ?_
    have s2 : Same H1 (upd H1 l (.lst (ns.map V.int))) := same_new hl
    have hl2 : (upd H1 l (.lst (ns.map V.int))) l = some (.lst (ns.map V.int)) := upd_same
    generalize upd H1 l (.lst (ns.map V.int)) = H2 at s2 hl2 ⊢
    have ht2 := s2 _ _ ht1
    walk_at "z"
    refine r_sortIT (.inl (.inl ht2)) asc fun p hp => ?_
    have s3 : Same H2 (upd H2 p (.lst (ns.map V.int))) := same_new hp
    refine r_eqD (t := .list (ns.map PyData.int)) (.lst (.inl (.inl (s3 _ _ hl2))) (dps_int ns)) (.lst (.inl (.inl upd_same)) (dps_int ns)) (lstI_lay ns) (by have := lstI_depth ns; omega) ?_
    exact q _ ((s1.trans s2).trans s3)
theorem r_pickIT {l : Addr} {xs : List V} {ps : List (List Int)} {r : Int} {H : Hp} {Q : VK} (h : H l = some (.lst xs)) (hp : ITups H xs ps) (h0 : 0 ≤ r) (h1 : r < ps.length) (q : ∀ x, ∀ p ∈ ps, ITup H x p → Q x H) : rIxL K (.ref l) (.int r) H Q := by
  have hr : ((r.toNat : Nat) : Int) = r := by omega
  have h2 : r.toNat < ps.length := by omega
  obtain ⟨x, hx, hxp⟩ := pd_get2 hp (List.getElem?_eq_getElem h2)
  rw [← hr]
  exact r_ixL (.inl (.inl h)) (atI_nat hx) (q x _ (List.getElem_mem h2) hxp)
theorem dp_it {H : Hp} {x : V} {ns : List Int} (h : ITup H x ns) : Dp K H x (.tuple (ns.map PyData.int)) := by
  obtain ⟨t, rfl, ht⟩ := h
  exact .tup (.inl (.inl ht)) (dps_int ns)
theorem dp_its {H : Hp} : ∀ {xs : List V} {ps : List (List Int)}, ITups H xs ps → DpAll K H xs (ps.map fun ns => .tuple (ns.map PyData.int))
  | _, _, .nil => .nil
  | _, _, .cons h r => .cons (dp_it h) (dp_its r)
theorem lay_its : ∀ ps : List (List Int), PyData.canLayAll0 (ps.map fun ns => .tuple (ns.map PyData.int)) = true
  | [] => by simp [PyData.canLayAll0]
  | p :: ps => by
    rw [List.map_cons]
    simp only [PyData.canLayAll0]
    rw [tupI_lay, lay_its ps]
    rfl
theorem dep_its : ∀ ps : List (List Int), PyData.depthAll (ps.map fun ns => .tuple (ns.map PyData.int)) ≤ 1
  | [] => by simp [PyData.depthAll]
  | p :: ps => by
    have h1 := dep_its ps
    have h2 := tupI_depth p
    rw [List.map_cons]
    simp only [PyData.depthAll]
    omega
theorem r_ninIT {H : Hp} {Q : VK} {x : V} {o : List Int} {f : Addr} {zs : List V} {oss : List (List Int)} (hx : ITup H x o) (hf : H f = some (.lst zs)) (hz : ITups H zs oss) (q : ∀ b, Q (.bl b) H) : rNotInD K x (.ref f) H Q :=
  ⟨_, _, dp_it hx, .lst (.inl (.inl hf)) (dp_its hz), shaped_of (tupI_lay o) (by have := tupI_depth o; omega), shaped_of (by simp only [PyData.canLay0]; exact lay_its oss) (by have := dep_its oss; simp only [PyData.depth]; omega), q _⟩
def spBrambleN : Sp := fun vs H Q _ => ∃ (a s : Addr) (g : V) (n : Nat) (ps : List (Int × Int)), vs = [.ref a, g] ∧ Pool H a s ∧ GrAt H g (n : Int) ps ∧ 1 ≤ n ∧ n ≤ 9 ∧
  ∀ (b : Addr) (xs : List V) (oss : List (List Int)) (H' : Hp), Pool H' a s → Gr a H H' → H' b = some (.tup xs) → ITups H' xs oss → oss.length ≤ 12 → (∀ o ∈ oss, o ≠ [] ∧ o.length ≤ 9 ∧ ∀ v ∈ o, 0 ≤ v ∧ v < (n : Int)) → Q (.ref b) H'
theorem ok_brambleN (T : Blt mg) (D : DefAt K mg "_law_drawn_bramble" s_law_drawn_bramble ["pool", "graph"])
    (D_law_draw : DefAt K mg "_law_draw" s_law_draw ["pool", "many"]) (G_law_draw : FnOk P w K mg base CX0 2 D_law_draw.f D_law_draw.fd ["pool", "many"] spDraw)
    (D_law_subsets : DefAt K mg "_law_subsets" s_law_subsets ["items"]) (G_law_subsets : FnOk P w K mg base CX0 1 D_law_subsets.f D_law_subsets.fd ["items"] spSubs)
    (D_law_joined : DefAt K mg "_law_joined" s_law_joined ["graph", "members"]) (G_law_joined : FnOk P w K mg base CX0 4 D_law_joined.f D_law_joined.fd ["graph", "members"] spJoined)
    (D_law_touch : DefAt K mg "_law_touch" s_law_touch ["graph", "one", "two"]) (G_law_touch : FnOk P w K mg base CX0 3 D_law_touch.f D_law_touch.fd ["graph", "one", "two"] spLTouch) :
    FnOk P w K mg base CX0 5 D.f D.fd ["pool", "graph"] spBrambleN := by
  refine D.F.ok sc_law_drawn_bramble (fun vs H Q E h => ?_) (fun cdv A outer s H vs Q E hr h => ?_)
  · obtain ⟨a, s, g, n, ps, rfl, _⟩ := h
    rfl
  · obtain ⟨a, s0, g, n, ps, rfl, hP, hgr, n1, n9, q⟩ := h
    obtain ⟨ga, e, rfl, hg, he⟩ := id hgr
    refine ⟨_, (pss_cons (ps_setLc (i := 2) (own := [("one", 6)]) (by rfl) sc_law_drawn_bramble.nd rfl rfl (sw_true rfl rfl rfl (by decide +kernel)) (PI.listK (K := K) rfl (pi_list (pe_call G_law_subsets (hr.mono (by first | decide | omega)) (by rfl) D_law_subsets.g D_law_subsets.F.kp D_law_subsets.b .nil pass0 (pa_cons (pe_listRg rfl (by rfl) T.list (prg_1 (by rfl) T.range (pe_ix (ix_tupK (K := K) rfl) (pv 1) pe_int (fun _ _ => rfl)))) pa_nil)))) (blkOk_by (own := [("one", 6)]) (N := ["pool", "graph", "parts", "found", "k", "part", "one"]) (sc := (defScope s_law_drawn_bramble)) (by decide +kernel)) (fun _ _ _ _ _ => (pg_name (i := 6) sc_law_drawn_bramble.nd rfl (Or.inl rfl))) (fun _ _ _ _ _ => (pts_one (pt_val (pe_call G_law_joined (hr.mono (by first | decide | omega)) (by rfl) D_law_joined.g D_law_joined.F.kp D_law_joined.b .nil pass0 (pa_cons (pv 1) (pa_cons (pv 6) pa_nil)))))) (fun _ _ _ _ _ => (pv 6)))
      (pss_cons (ps_set (i := 3) sc_law_drawn_bramble.nd rfl (Or.inl rfl) (pe_lst pa_nil))
      (pss_cons (ps_for PassesOwn.never (by rfl) (pi_range1 (by rfl) T.range (pa_cons pe_int pa_nil)) (pg_name (i := 4) sc_law_drawn_bramble.nd rfl (Or.inl rfl))
        (pss_cons (ps_set (i := 5) sc_law_drawn_bramble.nd rfl (Or.inr rfl) (pe_ix (ix_listK (K := K) rfl) (pv 2) (pe_call G_law_draw (hr.mono (by first | decide | omega)) (by rfl) D_law_draw.g D_law_draw.F.kp D_law_draw.b .nil pass0 (pa_cons (pv 0) (pa_cons (pe_callB (call_lenK (K := K) rfl) (by rfl) T.len (by decide +kernel) (pa_cons (pv 2) pa_nil)) pa_nil))) (fun _ _ => rfl)))
        (pss_one (ps_if (PW.pt (pw_and (pt_cmpR (op_notInDK (K := K) rfl (units65 hr)) (pv 5) (pv 3) (by rfl)) (pw_and1 (pt_cmpR op_eq (pe_callB (call_lenK (K := K) rfl) (by rfl) T.len (by decide +kernel) (pa_cons (pe_lc (own := [("one", 6)]) (by rfl) sc_law_drawn_bramble.nd (PI.listK (K := K) rfl (pi_list (pv 3))) (blkOk_by (own := [("one", 6)]) (N := ["pool", "graph", "parts", "found", "k", "part", "one"]) (sc := (defScope s_law_drawn_bramble)) (by decide +kernel)) (fun _ _ _ _ _ => (pg_name (i := 6) sc_law_drawn_bramble.nd rfl (Or.inl rfl))) (fun _ _ _ _ _ => (pts_one (pt_not (pt_val (pe_call G_law_touch (hr.mono (by first | decide | omega)) (by rfl) D_law_touch.g D_law_touch.F.kp D_law_touch.b .nil pass0 (pa_cons (pv 1) (pa_cons (pv 6) (pa_cons (pv 5) pa_nil)))))))) (fun _ _ _ _ _ => (pv 6))) pa_nil)) pe_int (nomark _)))))
          (pss_one (ps_expr (PE.bmK (K := K) rfl (pe_bm PySem.F.plainAttrs_list PySem.F.slot_list_append PySem.F.type_list_append mt_append (pv 3) (pa_cons (pv 5) pa_nil)))))
          pss_nil))))
      (pss_one (ps_ret (pe_callTy (call_tupleK (K := K) rfl) (by rfl) T.tuple (by decide +kernel) (pa_cons (pv 3) pa_nil))))))), ?_⟩
    refine r_at (σ := [some _, some _, none, none, none, none, none]) rfl ?_
    walk_at "z"
    refine r_lRg (by omega) (by omega) fun p hp => ?_
    have sp : Same H (upd H p (.lst ((rgI (n : Int)).map V.int))) := same_new hp
    walk_at "z"
    refine ⟨p, rgI (n : Int), rfl, upd_same, by rw [rgI_len]; omega, fun f xs H1 s1 hf hxs => ?_⟩
    have s01 := sp.trans s1
    have hgr1 := hgr.tk (.of_same s01)
    have sub : ∀ o ∈ subL (rgI (n : Int)), o.Nodup ∧ o.length ≤ 9 ∧ ∀ v ∈ o, 0 ≤ v ∧ v < (n : Int) := fun o ho => by
      have := subL_sub ho
      have ll := this.length_le
      rw [rgI_len] at ll
      exact ⟨this.nodup (rgI_nodup _), by omega, fun v hv => mem_rgI.mp (this.subset hv)⟩
    have ls : (subL (rgI (n : Int))).length ≤ 512 := by
      rw [subL_len, rgI_len]
      exact Nat.pow_le_pow_right (by omega) (show (n : Int).toNat ≤ 9 by omega)
    have first : [(0 : Int)] ∈ subL (rgI (n : Int)) := by
      obtain ⟨m, rfl⟩ : ∃ m, n = m + 1 := ⟨n - 1, by omega⟩
      have : rgI ((m + 1 : Nat) : Int) = 0 :: (rgI ((m + 1 : Nat) : Int)).tail := by
        unfold rgI
        rw [show ((m + 1 : Nat) : Int).toNat = m + 1 by omega, List.range_succ_eq_map]
        rfl
      rw [this]
      exact subL_first 0 _
    walk_at "z"
    refine r_il (.inl (.inl hf)) fun d hd => lcR_list (xs := xs) (fun i H' => Same H1 H' ∧ ∃ ys qs, H' d = some (.lst ys) ∧ ITups H' ys qs ∧ qs.length ≤ i ∧ (∀ o ∈ qs, o ∈ subL (rgI (n : Int)) ∧ o ≠ []) ∧ ([(0 : Int)] ∈ (subL (rgI (n : Int))).take i → [(0 : Int)] ∈ qs)) (by walk_at "zw") ⟨same_new hd, [], [], upd_same, .nil, Nat.le_refl 0, fun o h => (nomatch h), fun h => (nomatch h)⟩ (fun i H' _ ⟨s2, _⟩ => .inl (.inl (s2 _ _ hf))) ?_ ?_
    · rintro i x H' hx ⟨s2, ys, qs, hys, pqs, lq, inq, h0⟩
      obtain ⟨o, ho, hxo⟩ := pd_get (ITups.tk (.of_same s2) hxs) hx
      have il := (List.getElem?_eq_some_iff.mp ho).1
      obtain ⟨o1, o2, o3⟩ := sub o (List.mem_of_getElem? ho)
      walk_at "z"
      refine ⟨rfl, ?_⟩
      walk_at "z"
      refine ⟨_, x, (n : Int), ps, o, rfl, hgr1.tk (.of_same s2), hxo, o1, by omega, fun b H2 s3 b1 b2 => ?_⟩
      have hys2 := s3 _ _ hys
      have pqs2 := ITups.tk (.of_same s3) pqs
      walk_at "z"
      cases b with
      | true =>
        refine iteT ?_
        walk_at "z"
        refine r_lce hys2 (small_lt (by rw [pqs2.length]; omega)) ⟨same_mut (s2.trans s3) hd, _, qs ++ [o], upd_same, (ITups.tk (.lst hys2) pqs2).snoc (ITup.tk (.lst hys2) (hxo.tk (.of_same s3))), by rw [List.length_append]; simp only [List.length_cons, List.length_nil]; omega, fun z hz => ?_, fun hz => ?_⟩
        · rcases List.mem_append.mp hz with c | c
          · exact inq z c
          · exact List.mem_singleton.mp c ▸ ⟨List.mem_of_getElem? ho, b1 rfl⟩
        · rw [take_next ho] at hz
          rcases List.mem_append.mp hz with c | c
          · exact List.mem_append_left _ (h0 c)
          · exact List.mem_append_right _ c
      | false =>
        refine iteF ?_
        refine ⟨s2.trans s3, ys, qs, hys2, pqs2, by omega, inq, fun hz => ?_⟩
        rw [take_next ho] at hz
        rcases List.mem_append.mp hz with c | c
        · exact h0 c
        · have := b2 0 (List.mem_singleton.mp c).symm
          cases this
    · rintro H2 ⟨s2, ys, qs, hys, pqs, lq, inq, h0⟩
      rw [hxs.length, List.take_length] at h0
      rw [hxs.length] at lq
      have q0 : 0 < qs.length := List.length_pos_of_mem (h0 first)
      have s02 := s01.trans s2
      have hP2 := hP.mono s02
      walk_at "z"
      refine r_lstN (Nat.zero_le _) fun f2 hf2 => ?_
      have s3 : Same H2 (upd H2 f2 (.lst [])) := same_new hf2
      have hP3 := hP2.mono s3
      have dn : d ≠ a := fun z => by
        rw [z] at hd
        exact absurd hd (hP.mono s01).ne
      have fn := new_ne hP2 hf2
      have df : d ≠ f2 := ne_of_none hys hf2
      have s03 := s02.trans s3
      walk_at "z"
      refine r_rg1 (by decide) (forR_range (fun k σ' H' => (∃ x4 x5 x6, σ' = [some (.ref a), some (.ref ga), some (.ref d), some (.ref f2), x4, x5, x6]) ∧ Pool H' a s0 ∧ Gr a H H' ∧ H' d = some (.lst ys) ∧ ITups H' ys qs ∧ ∃ zs oss, H' f2 = some (.lst zs) ∧ ITups H' zs oss ∧ oss.length ≤ k ∧ ∀ o ∈ oss, o ∈ subL (rgI (n : Int)) ∧ o ≠ []) ⟨⟨_, _, _, rfl⟩, hP3, .of_same s03, s3 _ _ hys, ITups.tk (.of_same s3) pqs, [], [], upd_same, .nil, Nat.le_refl 0, fun o h => (nomatch h)⟩ ?_ ?_)
      · rintro k σ' H' hk ⟨⟨x4, x5, x6, rfl⟩, hP', g', hd', pq', zs, oss, hz', pz', lo, ino⟩
        have lys := pq'.length
        walk_at "z"
        refine ⟨a, s0, ys.length, rfl, hP', by omega, by omega, fun r H4 r0 r1 hP4 g4 => ?_⟩
        have hd4 := g4 _ _ dn hd'
        have hz4 := g4 _ _ fn.1 hz'
        have pq4 := ITups.tk (g4.tk hP') pq'
        have pz4 := ITups.tk (g4.tk hP') pz'
        refine r_pickIT hd4 pq4 r0 (by omega) fun x o ho hxo => ?_
        have g04 := g'.trans g4
        have hgr4 := hgr.tk (g04.tk hP)
        walk_at "z"
        refine r_ninIT hxo hz4 pz4 fun b => ?_
        walk_at "z"
        have stay : ∀ H5 : Hp, Same H4 H5 → (∃ x4 x5 x6, [some (V.ref a), some (V.ref ga), some (V.ref d), some (V.ref f2), some (V.int (0 + (k : Int))), some x, none] = [some (.ref a), some (.ref ga), some (.ref d), some (.ref f2), x4, x5, x6]) → Pool H5 a s0 ∧ Gr a H H5 ∧ H5 d = some (.lst ys) ∧ ITups H5 ys qs ∧ ∃ zs oss, H5 f2 = some (.lst zs) ∧ ITups H5 zs oss ∧ oss.length ≤ k + 1 ∧ ∀ o ∈ oss, o ∈ subL (rgI (n : Int)) ∧ o ≠ [] := fun H5 s5 _ =>
          ⟨hP4.mono s5, g04.trans (.of_same s5), s5 _ _ hd4, ITups.tk (.of_same s5) pq4, zs, oss, s5 _ _ hz4, ITups.tk (.of_same s5) pz4, by omega, ino⟩
        cases b with
        | false =>
          refine iteF ?_
          walk_at "z"
          obtain ⟨t1, t2⟩ := stay H4 (fun _ _ z => z) ⟨_, _, _, rfl⟩
          exact ⟨⟨_, _, _, rfl⟩, t1, t2⟩
        | true =>
          refine iteT ?_
          walk_at "z"
          refine r_il (.inl (.inl hz4)) fun d2 hd2 => lcR_list (xs := zs) (fun i H' => Same H4 H' ∧ ∃ es : List V, H' d2 = some (.lst es) ∧ es.length ≤ i) (by walk_at "zw") ⟨same_new hd2, [], upd_same, Nat.le_refl 0⟩ (fun i H' _ ⟨s5, _⟩ => .inl (.inl (s5 _ _ hz4))) ?_ ?_
          · rintro i y H5 hy ⟨s5, es, hes, le⟩
            obtain ⟨o', ho', hyo⟩ := pd_get (ITups.tk (.of_same s5) pz4) hy
            have il := (List.getElem?_eq_some_iff.mp ho').1
            obtain ⟨c1, c2, c3⟩ := sub o (inq o ho).1
            walk_at "z"
            refine ⟨rfl, ?_⟩
            walk_at "z"
            refine ⟨_, y, x, (n : Int), ps, o', o, rfl, hgr4.tk (.of_same s5), hyo, hxo.tk (.of_same s5), by omega, fun b H6 s6 hb => ?_⟩
            have hes6 := s6 _ _ hes
            walk_at "z"
            cases b with
            | true =>
              refine iteF ?_
              exact ⟨s5.trans s6, es, hes6, by omega⟩
            | false =>
              refine iteT ?_
              walk_at "z"
              exact r_lce hes6 (small_lt (by omega)) ⟨same_mut (s5.trans s6) hd2, _, upd_same, by rw [List.length_append]; simp only [List.length_cons, List.length_nil]; omega⟩
          · rintro H5 ⟨s5, es, hes, le⟩
            have hz5 := s5 _ _ hz4
            have lz := pz4.length
            walk_at "z"
            refine r_ite (fun h => ?_) (fun h => ?_)
            · walk_at "z"
              refine r_appT hz5 (small_lt (by omega)) ?_
              refine ⟨⟨_, _, _, rfl⟩, (hP4.mono s5).upd fn, (g04.trans (.of_same s5)).mut (s02.free hf2), (upd_ne df).trans (s5 _ _ hd4), ITups.tk (.lst hz5) (ITups.tk (.of_same s5) pq4), _, oss ++ [o], upd_same, (ITups.tk (.lst hz5) (ITups.tk (.of_same s5) pz4)).snoc (ITup.tk (.lst hz5) (hxo.tk (.of_same s5))), by rw [List.length_append]; simp only [List.length_cons, List.length_nil]; omega, fun z hz => ?_⟩
              rcases List.mem_append.mp hz with c | c
              · exact ino z c
              · exact List.mem_singleton.mp c ▸ inq o ho
            · walk_at "z"
              obtain ⟨t1, t2⟩ := stay H5 s5 ⟨_, _, _, rfl⟩
              exact ⟨⟨_, _, _, rfl⟩, t1, t2⟩
      · rintro σ' H' ⟨⟨x4, x5, x6, rfl⟩, hP', g', hd', pq', zs, oss, hz', pz', lo, ino⟩
        walk_at "z"
        refine r_tupL (.inl (.inl hz')) fun t ht => ?_
        exact q t zs oss _ (hP'.mono (same_new ht)) (g'.trans (.new ht)) upd_same (ITups.tk (.new ht) pz') (by simpa using lo) fun o ho => ⟨(ino o ho).2, (sub o (ino o ho).1).2⟩
/-- as few as can be, among all subsets -/
def spLLH : Sp := fun vs H Q _ => ∃ (g : V) (n : Int) (ps : List (Int × Int)) (b : Addr) (xs : List V) (oss : List (List Int)), vs = [g, .ref b] ∧ GrAt H g n ps ∧ 0 ≤ n ∧ n ≤ 10 ∧ H b = some (.tup xs) ∧ ITups H xs oss ∧ oss.length ≤ 12 ∧ (∀ o ∈ oss, o.length ≤ 9) ∧ (∃ ks ∈ subL (rgI n), HitsP ks oss) ∧
  ∀ (m : Int) H', Same H H' → (∃ ks ∈ subL (rgI n), HitsP ks oss ∧ m = (ks.length : Int)) → (∀ ks ∈ subL (rgI n), HitsP ks oss → m ≤ (ks.length : Int)) → Q (.int m) H'
theorem ok_llh (T : Blt mg) (D : DefAt K mg "_law_least_hit" s_law_least_hit ["graph", "bramble"]) (D_law_subsets : DefAt K mg "_law_subsets" s_law_subsets ["items"]) (G_law_subsets : FnOk P w K mg base CX0 1 D_law_subsets.f D_law_subsets.fd ["items"] spSubs)
    (D_law_hits : DefAt K mg "_law_hits" s_law_hits ["members", "bramble"]) (G_law_hits : FnOk P w K mg base CX0 1 D_law_hits.f D_law_hits.fd ["members", "bramble"] spLHits) : FnOk P w K mg base CX0 2 D.f D.fd ["graph", "bramble"] spLLH := by
  refine D.F.ok sc_law_least_hit (fun vs H Q E h => ?_) (fun cdv A outer s H vs Q E hr h => ?_)
  · obtain ⟨g, n, ps, b, xs, oss, rfl, _⟩ := h
    rfl
  · obtain ⟨g, n, ps, b, xs, oss, rfl, hgr, n0, n10, hb, hx, len, ol, ⟨k0, k1, k2⟩, q⟩ := h
    obtain ⟨ga, e, rfl, hg, he⟩ := id hgr
    refine ⟨_, (pss_one (ps_ret (pe_callB (cr_min rfl) (by rfl) T.min (by decide +kernel) (pa_cons (pe_lc (own := [("one", 2)]) (by rfl) sc_law_least_hit.nd (PI.listK (K := K) rfl (pi_list (pe_call G_law_subsets (hr.mono (by first | decide | omega)) (by rfl) D_law_subsets.g D_law_subsets.F.kp D_law_subsets.b .nil pass0 (pa_cons (pe_listRg rfl (by rfl) T.list (prg_1 (by rfl) T.range (pe_ix (ix_tupK (K := K) rfl) (pv 0) pe_int (fun _ _ => rfl)))) pa_nil)))) (blkOk_by (own := [("one", 2)]) (N := ["graph", "bramble", "one"]) (sc := (defScope s_law_least_hit)) (by decide +kernel)) (fun _ _ _ _ _ => (pg_name (i := 2) sc_law_least_hit.nd rfl (Or.inl rfl))) (fun _ _ _ _ _ => (pts_one (pt_val (pe_call G_law_hits (hr.mono (by first | decide | omega)) (by rfl) D_law_hits.g D_law_hits.F.kp D_law_hits.b .nil pass0 (pa_cons (pv 2) (pa_cons (pv 1) pa_nil)))))) (fun _ _ _ _ _ => (pe_callB (call_lenK (K := K) rfl) (by rfl) T.len (by decide +kernel) (pa_cons (pv 2) pa_nil)))) pa_nil)))), ?_⟩
    refine r_at (σ := [some _, some _, none]) rfl ?_
    walk_at "z"
    refine r_lRg (by omega) (by omega) fun p hp => ?_
    have sp : Same H (upd H p (.lst ((rgI n).map V.int))) := same_new hp
    have hp1 : (upd H p (.lst ((rgI n).map V.int))) p = some (.lst ((rgI n).map V.int)) := upd_same
    generalize upd H p (.lst ((rgI n).map V.int)) = H1 at sp hp1 ⊢
    walk_at "z"
    refine ⟨p, rgI n, rfl, hp1, by rw [rgI_len]; omega, fun f ys H2 s2 hf hys => ?_⟩
    have s02 := sp.trans s2
    have ls : (subL (rgI n)).length ≤ 1024 := by
      rw [subL_len, rgI_len]
      exact Nat.pow_le_pow_right (by decide) (show n.toNat ≤ 10 by omega)
    walk_at "z"
    refine r_il (.inl (.inl hf)) fun d hd => lcR_list (xs := ys) (fun i H' => Same H2 H' ∧ ∃ es : List Int, H' d = some (.lst (es.map V.int)) ∧ es.length ≤ i ∧ (∀ m ∈ es, ∃ ks ∈ subL (rgI n), HitsP ks oss ∧ m = (ks.length : Int)) ∧ (∀ ks ∈ (subL (rgI n)).take i, HitsP ks oss → (ks.length : Int) ∈ es)) (by walk_at "zw") ⟨same_new hd, [], upd_same, Nat.le_refl 0, fun m h => (nomatch h), fun m h => (nomatch h)⟩ (fun i H' _ ⟨s3, _⟩ => .inl (.inl (s3 _ _ hf))) ?_ ?_
    · rintro i x H' hxi ⟨s3, es, hes, le, a1, a2⟩
      obtain ⟨o, ho, t, rfl, ht⟩ := pd_get (ITups.tk (.of_same s3) hys) hxi
      have il := (List.getElem?_eq_some_iff.mp ho).1
      have s03 := s02.trans s3
      walk_at "z"
      refine ⟨rfl, ?_⟩
      walk_at "z"
      refine ⟨.ref t, b, o, xs, oss, rfl, ⟨t, rfl, ht⟩, s03 _ _ hb, ITups.tk (.of_same s03) hx, by omega, fun o ho => by have := ol o ho; omega, fun r H4 s4 hr4 => ?_⟩
      have ht4 := s4 _ _ ht
      have hes4 := s4 _ _ hes
      cases r with
      | true =>
        have hh := hr4.mp rfl
        walk_at "z"
        rw [List.length_map]
        refine r_lce hes4 (small_lt (by rw [List.length_map]; omega)) ⟨same_mut (s3.trans s4) hd, es ++ [(o.length : Int)], by rw [List.map_append]; exact upd_same, by rw [List.length_append]; simp only [List.length_cons, List.length_nil]; omega, fun m hm => ?_, fun ks hk h => ?_⟩
        · rcases List.mem_append.mp hm with c | c
          · exact a1 m c
          · exact ⟨o, List.mem_of_getElem? ho, hh, List.mem_singleton.mp c⟩
        · rw [take_next ho] at hk
          rcases List.mem_append.mp hk with c | c
          · exact List.mem_append_left _ (a2 ks c h)
          · rw [List.mem_singleton.mp c]
            exact List.mem_append_right _ List.mem_cons_self
      | false =>
        walk_at "z"
        refine ⟨s3.trans s4, es, hes4, by omega, a1, fun ks hk h => ?_⟩
        rw [take_next ho] at hk
        rcases List.mem_append.mp hk with c | c
        · exact a2 ks c h
        · rw [List.mem_singleton.mp c] at h
          have := hr4.mpr h
          cases this
    · rintro H3 ⟨s3, es, hes, le, a1, a2⟩
      rw [hys.length, List.take_length] at a2
      walk_at "z"
      refine ⟨d, es, rfl, .inl (.inl hes), List.length_pos_of_mem (a2 k0 k1 k2), fun m hm lo => ?_⟩
      exact q m H3 (s02.trans s3) (a1 m hm) fun ks hk h => lo _ (a2 ks hk h)
end

set_option Elab.async false
set_option linter.all false
set_option maxRecDepth 100000
set_option maxHeartbeats 4000000
open PySem PySem.Spec PyProof.Rows L2

abbrev s_law : Stmt := topS 49
theorem sc_law : FnScope ["script", "pool", "graph", "k", "bramble", "told"] ["script"] (defScope s_law) := ⟨rfl, rfl, rfl, by decide +kernel, rfl, by decide +kernel, by decide +kernel⟩

theorem subF_of {o ns : List Int} (h : o.Sublist ns) : ∀ (f : List (List Int)) (p : List Int), p ∈ f → p ++ o ∈ subF f ns := by
  induction h with
  | slnil =>
    intro f p hp
    rw [List.append_nil]
    exact hp
  | cons a _ ih => exact fun f p hp => ih (f ++ f.map (· ++ [a])) p (List.mem_append_left _ hp)
  | cons_cons a _ ih =>
    intro f p hp
    have := ih (f ++ f.map (· ++ [a])) (p ++ [a]) (List.mem_append_right _ (List.mem_map.mpr ⟨p, hp, rfl⟩))
    rw [List.append_assoc] at this
    exact this
theorem subL_of {o ns : List Int} (h : o.Sublist ns) : o ∈ subL ns := subF_of h [[]] [] (List.mem_singleton.mpr rfl)
theorem asc_sub {n : Int} {ns : List Int} (asc : ns.Pairwise (· < ·)) (b : ∀ v ∈ ns, 0 ≤ v ∧ v < n) : ns.Sublist (rgI n) := by
  have e : ns = (rgI n).filter fun v => decide (v ∈ ns) := by
    refine asc_eqZ asc ?_ fun z => ?_
    · refine List.Pairwise.sublist List.filter_sublist ?_
      unfold rgI
      exact List.pairwise_map.mpr (List.pairwise_lt_range.imp fun {a b} h => by omega)
    · rw [List.mem_filter, decide_eq_true_iff, mem_rgI]
      exact ⟨fun h => ⟨b z h, h⟩, fun h => h.2⟩
  rw [e]
  exact List.filter_sublist
section
variable {P : Program} {w : World} {K : PySem.W.Frag} {mg : Str → Option Value} {base : Heap}
def spLaw (K : PySem.W.Frag) : Sp := fun vs H Q _ => ∃ (l : Addr) (ns : List Int), vs = [.ref l] ∧ SqL K H l (ns.map V.int) ∧ ∀ H', Q (.bl true) H'
theorem ok_law (T : Blt mg) (D : DefAt K mg "law" s_law ["script"])
    (D_law_pool : DefAt K mg "_law_pool" s_law_pool ["script"]) (G_law_pool : FnOk P w K mg base CX0 1 D_law_pool.f D_law_pool.fd ["script"] (spPool K))
    (D_law_graph : DefAt K mg "_law_graph" s_law_graph ["pool", "most"]) (G_law_graph : FnOk P w K mg base CX0 63 D_law_graph.f D_law_graph.fd ["pool", "most"] spGraph)
    (D_law_drawn_bramble : DefAt K mg "_law_drawn_bramble" s_law_drawn_bramble ["pool", "graph"]) (G_law_drawn_bramble : FnOk P w K mg base CX0 5 D_law_drawn_bramble.f D_law_drawn_bramble.fd ["pool", "graph"] spBrambleN)
    (D_least_hitting : DefAt K mg "least_hitting" s_least_hitting ["graph", "bramble"]) (G_least_hitting : FnOk P w K mg base CX0 23 D_least_hitting.f D_least_hitting.fd ["graph", "bramble"] spLH)
    (D_law_is_set : DefAt K mg "_law_is_set" s_law_is_set ["graph", "value"]) (G_law_is_set : FnOk P w K mg base CX0 4 D_law_is_set.f D_law_is_set.fd ["graph", "value"] spLSet)
    (D_law_hits : DefAt K mg "_law_hits" s_law_hits ["members", "bramble"]) (G_law_hits : FnOk P w K mg base CX0 1 D_law_hits.f D_law_hits.fd ["members", "bramble"] spLHits)
    (D_law_least_hit : DefAt K mg "_law_least_hit" s_law_least_hit ["graph", "bramble"]) (G_law_least_hit : FnOk P w K mg base CX0 2 D_law_least_hit.f D_law_least_hit.fd ["graph", "bramble"] spLLH) :
    FnOk P w K mg base CX0 64 D.f D.fd ["script"] (spLaw K) := by
  refine D.F.ok sc_law (fun vs H Q E h => ?_) (fun cdv A outer s H vs Q E hr h => ?_)
  · obtain ⟨l, ns, rfl, _⟩ := h
    rfl
  · obtain ⟨l, ns, rfl, hl, q⟩ := h
    refine ⟨_, (pss_cons (ps_set (i := 1) sc_law.nd rfl (Or.inl rfl) (pe_call G_law_pool (hr.mono (by first | decide | omega)) (by rfl) D_law_pool.g D_law_pool.F.kp D_law_pool.b .nil pass0 (pa_cons (pv 0) pa_nil)))
      (pss_cons (ps_set (i := 2) sc_law.nd rfl (Or.inl rfl) (pe_call G_law_graph (hr.mono (by first | decide | omega)) (by rfl) D_law_graph.g D_law_graph.F.kp D_law_graph.b .nil pass0 (pa_cons (pv 1) (pa_cons pe_int pa_nil))))
      (pss_cons (ps_for PassesOwn.never (by rfl) (pi_range1 (by rfl) T.range (pa_cons pe_int pa_nil)) (pg_name (i := 3) sc_law.nd rfl (Or.inl rfl))
        (pss_cons (ps_set (i := 4) sc_law.nd rfl (Or.inl rfl) (pe_call G_law_drawn_bramble (hr.mono (by first | decide | omega)) (by rfl) D_law_drawn_bramble.g D_law_drawn_bramble.F.kp D_law_drawn_bramble.b .nil pass0 (pa_cons (pv 1) (pa_cons (pv 2) pa_nil))))
        (pss_cons (ps_set (i := 5) sc_law.nd rfl (Or.inl rfl) (pe_call G_least_hitting (hr.mono (by first | decide | omega)) (by rfl) D_least_hitting.g D_least_hitting.F.kp D_least_hitting.b .nil pass0 (pa_cons (pv 2) (pa_cons (pv 4) pa_nil))))
        (pss_one (ps_if (PW.pt (pw_or (pt_not (pt_val (pe_call G_law_is_set (hr.mono (by first | decide | omega)) (by rfl) D_law_is_set.g D_law_is_set.F.kp D_law_is_set.b .nil pass0 (pa_cons (pv 2) (pa_cons (pv 5) pa_nil))))) (pw_or (pt_not (pt_val (pe_call G_law_hits (hr.mono (by first | decide | omega)) (by rfl) D_law_hits.g D_law_hits.F.kp D_law_hits.b .nil pass0 (pa_cons (pv 5) (pa_cons (pv 4) pa_nil))))) (pw_or1 (pt_cmpR op_ne (pe_callB (call_lenK (K := K) rfl) (by rfl) T.len (by decide +kernel) (pa_cons (pv 5) pa_nil)) (pe_call G_law_least_hit (hr.mono (by first | decide | omega)) (by rfl) D_law_least_hit.g D_law_least_hit.F.kp D_law_least_hit.b .nil pass0 (pa_cons (pv 2) (pa_cons (pv 4) pa_nil))) (nomark _))))))
          (pss_one (ps_ret pe_bl))
          pss_nil)))))
      (pss_one (ps_ret pe_bl))))), ?_⟩
    refine r_at (σ := [some _, none, none, none, none, none]) rfl ?_
    walk_at "z"
    refine ⟨l, ns, rfl, hl, fun a s0 H1 ha s1 hP1 => ?_⟩
    walk_at "z"
    refine ⟨a, s0, 7, rfl, hP1, by omega, by omega, fun n0 n1 n2 v p1 H2 hP2 g2 hgr gd => ?_⟩
    obtain ⟨n, rfl⟩ : ∃ k : Nat, n0 = k := ⟨n0.toNat, by omega⟩
    obtain ⟨ga, e, rfl, hg, he⟩ := id hgr
    walk_at "z"
    refine r_rg1 (by decide) (forR_range (fun k σ' H' => (∃ x3 x4 x5, σ' = [some (.ref l), some (.ref a), some (.ref ga), x3, x4, x5]) ∧ Pool H' a s0 ∧ GrAt H' (.ref ga) (n : Int) p1) ⟨⟨_, _, _, rfl⟩, hP2, hgr⟩ ?_ ?_)
    · rintro k σ' H3 hk ⟨⟨x3, x4, x5, rfl⟩, hP3, hg3⟩
      walk_at "z"
      refine ⟨a, s0, .ref ga, n, p1, rfl, hP3, hg3, by omega, by omega, fun b xs oss H4 hP4 g4 hb4 hx4 lo bd => ?_⟩
      have hg4 := hg3.tk (g4.tk hP3)
      walk_at "z"
      refine ⟨.ref ga, b, xs, oss, rfl, hb4, hx4, lo, fun o ho => ⟨(bd o ho).1, fun v hv => by have := (bd o ho).2.2 v hv; omega⟩, fun p ns H5 s5 hn asc used hit mn => ?_⟩
      have nb : ∀ v ∈ ns, 0 ≤ v ∧ v < (n : Int) := fun v hv => by
        obtain ⟨o, o1, o2⟩ := used v hv
        exact (bd o o1).2.2 v o2
      have nl := asc_len (n := n) asc nb
      have hg5 := hg4.tk (.of_same s5)
      walk_at "z"
      refine ⟨.ref ga, .ref p, (n : Int), p1, ns, rfl, hg5, ⟨p, rfl, hn⟩, asc, nb, by omega, fun H6 s6 => ?_⟩
      have hn6 := s6 _ _ hn
      have s46 := s5.trans s6
      walk_at "z"
      refine iteF ?_
      walk_at "z"
      refine ⟨.ref p, b, ns, xs, oss, rfl, ⟨p, rfl, hn6⟩, s46 _ _ hb4, ITups.tk (.of_same s46) hx4, by omega, fun o ho => by have := (bd o ho).2.1; omega, fun r H7 s7 hr7 => ?_⟩
      have er : r = true := hr7.mpr hit
      subst er
      have hn7 := s7 _ _ hn6
      have s47 := s46.trans s7
      walk_at "z"
      refine iteF ?_
      walk_at "z"
      refine ⟨.ref ga, (n : Int), p1, b, xs, oss, rfl, hg4.tk (.of_same s47), by omega, by omega, s47 _ _ hb4, ITups.tk (.of_same s47) hx4, lo, fun o ho => (bd o ho).2.1, ⟨ns, subL_of (asc_sub asc nb), hit⟩, fun m H8 s8 ⟨ks, k1, k2, k3⟩ low => ?_⟩
      have em : ((ns.length : Nat) : Int) = m := by
        have h1 := low ns (subL_of (asc_sub asc nb)) hit
        have sb := subL_sub k1
        have h2 := mn ks (sb.nodup (rgI_nodup _)) (fun z hz => by have := mem_rgI.mp (sb.subset hz); omega) k2
        omega
      walk_at "z"
      rw [List.length_map]
      refine r_iteN (fun c => absurd em c) (fun _ => ?_)
      walk_at "z"
      exact ⟨⟨_, _, _, rfl⟩, hP4.mono (s47.trans s8), hg4.tk (.of_same (s47.trans s8))⟩
    · rintro σ' H3 ⟨⟨x3, x4, x5, rfl⟩, hP3, hg3⟩
      walk_at "z"
      exact q H3
end

set_option Elab.async false
set_option linter.all false
set_option maxRecDepth 100000
set_option maxHeartbeats 4000000
open PySem PySem.Spec PyProof.Rows L2
/-- a def that the top has written -/
def mkDef {K : PySem.W.Frag} {h : Heap} {mg : Str → Option Value} {x : Str} {st : Stmt} {ps : List Str} {f : Addr} {od an : Option Addr} {sl : Array (Option Value)} {oc kV dc pm cd ct : Value} (X : K.In h) (G : h.Ns mainGlobals mg)
    (a : PySem.W.nsIn K mainGlobals x = some (some (.ref f))) (l : K.lookup f = some ⟨oc, od, .func (PySem.W.fnOf x x (defArgs st) (defBody st) (defScope st) .none kV dc pm an cd ct), sl⟩) (c : PySem.W.codeIn K cd x = true) (k : PySem.W.keepIn K (.ref f) = true)
    (b : Binds K (PySem.W.fnOf x x (defArgs st) (defBody st) (defScope st) .none kV dc pm an cd ct) ps []) : DefAt K mg x st ps :=
  ⟨f, PySem.W.fnOf x x (defArgs st) (defBody st) (defScope st) .none kV dc pm an cd ct, fun_mk l c k, b, PySem.W.mg_of X G a⟩
set_option maxHeartbeats 0 in
theorem all_mk {P : Program} {w : World} {K : PySem.W.Frag} {h : Heap} {mg : Str → Option Value} {fa : Addr} (X : K.In h) (G : h.Ns mainGlobals mg) (hfa : mg "law" = some (.ref fa))
    {od0 an0 : Option Addr} {sl0 : Array (Option Value)} {oc0 kV0 dc0 pm0 cd0 ct0 : Value} {f0 : Addr}
    (a0 : PySem.W.nsIn K mainGlobals "mask_of" = some (some (.ref f0))) (l0 : K.lookup f0 = some ⟨oc0, od0, .func (PySem.W.fnOf "mask_of" "mask_of" (defArgs s_mask_of) (defBody s_mask_of) (defScope s_mask_of) .none kV0 dc0 pm0 an0 cd0 ct0), sl0⟩) (c0 : PySem.W.codeIn K cd0 "mask_of" = true) (k0 : PySem.W.keepIn K (.ref f0) = true)
    {od1 an1 : Option Addr} {sl1 : Array (Option Value)} {oc1 kV1 dc1 pm1 cd1 ct1 : Value} {f1 : Addr}
    (a1 : PySem.W.nsIn K mainGlobals "members_of" = some (some (.ref f1))) (l1 : K.lookup f1 = some ⟨oc1, od1, .func (PySem.W.fnOf "members_of" "members_of" (defArgs s_members_of) (defBody s_members_of) (defScope s_members_of) .none kV1 dc1 pm1 an1 cd1 ct1), sl1⟩) (c1 : PySem.W.codeIn K cd1 "members_of" = true) (k1 : PySem.W.keepIn K (.ref f1) = true)
    {od2 an2 : Option Addr} {sl2 : Array (Option Value)} {oc2 kV2 dc2 pm2 cd2 ct2 : Value} {f2 : Addr}
    (a2 : PySem.W.nsIn K mainGlobals "size_of" = some (some (.ref f2))) (l2 : K.lookup f2 = some ⟨oc2, od2, .func (PySem.W.fnOf "size_of" "size_of" (defArgs s_size_of) (defBody s_size_of) (defScope s_size_of) .none kV2 dc2 pm2 an2 cd2 ct2), sl2⟩) (c2 : PySem.W.codeIn K cd2 "size_of" = true) (k2 : PySem.W.keepIn K (.ref f2) = true)
    {od3 an3 : Option Addr} {sl3 : Array (Option Value)} {oc3 kV3 dc3 pm3 cd3 ct3 : Value} {f3 : Addr}
    (a3 : PySem.W.nsIn K mainGlobals "has" = some (some (.ref f3))) (l3 : K.lookup f3 = some ⟨oc3, od3, .func (PySem.W.fnOf "has" "has" (defArgs s_has) (defBody s_has) (defScope s_has) .none kV3 dc3 pm3 an3 cd3 ct3), sl3⟩) (c3 : PySem.W.codeIn K cd3 "has" = true) (k3 : PySem.W.keepIn K (.ref f3) = true)
    {od4 an4 : Option Addr} {sl4 : Array (Option Value)} {oc4 kV4 dc4 pm4 cd4 ct4 : Value} {f4 : Addr}
    (a4 : PySem.W.nsIn K mainGlobals "full_mask" = some (some (.ref f4))) (l4 : K.lookup f4 = some ⟨oc4, od4, .func (PySem.W.fnOf "full_mask" "full_mask" (defArgs s_full_mask) (defBody s_full_mask) (defScope s_full_mask) .none kV4 dc4 pm4 an4 cd4 ct4), sl4⟩) (c4 : PySem.W.codeIn K cd4 "full_mask" = true) (k4 : PySem.W.keepIn K (.ref f4) = true)
    {od5 an5 : Option Addr} {sl5 : Array (Option Value)} {oc5 kV5 dc5 pm5 cd5 ct5 : Value} {f5 : Addr}
    (a5 : PySem.W.nsIn K mainGlobals "is_within" = some (some (.ref f5))) (l5 : K.lookup f5 = some ⟨oc5, od5, .func (PySem.W.fnOf "is_within" "is_within" (defArgs s_is_within) (defBody s_is_within) (defScope s_is_within) .none kV5 dc5 pm5 an5 cd5 ct5), sl5⟩) (c5 : PySem.W.codeIn K cd5 "is_within" = true) (k5 : PySem.W.keepIn K (.ref f5) = true)
    {od6 an6 : Option Addr} {sl6 : Array (Option Value)} {oc6 kV6 dc6 pm6 cd6 ct6 : Value} {f6 : Addr}
    (a6 : PySem.W.nsIn K mainGlobals "least_mask" = some (some (.ref f6))) (l6 : K.lookup f6 = some ⟨oc6, od6, .func (PySem.W.fnOf "least_mask" "least_mask" (defArgs s_least_mask) (defBody s_least_mask) (defScope s_least_mask) .none kV6 dc6 pm6 an6 cd6 ct6), sl6⟩) (c6 : PySem.W.codeIn K cd6 "least_mask" = true) (k6 : PySem.W.keepIn K (.ref f6) = true)
    {od7 an7 : Option Addr} {sl7 : Array (Option Value)} {oc7 kV7 dc7 pm7 cd7 ct7 : Value} {f7 : Addr}
    (a7 : PySem.W.nsIn K mainGlobals "mask_within" = some (some (.ref f7))) (l7 : K.lookup f7 = some ⟨oc7, od7, .func (PySem.W.fnOf "mask_within" "mask_within" (defArgs s_mask_within) (defBody s_mask_within) (defScope s_mask_within) .none kV7 dc7 pm7 an7 cd7 ct7), sl7⟩) (c7 : PySem.W.codeIn K cd7 "mask_within" = true) (k7 : PySem.W.keepIn K (.ref f7) = true)
    {od8 an8 : Option Addr} {sl8 : Array (Option Value)} {oc8 kV8 dc8 pm8 cd8 ct8 : Value} {f8 : Addr}
    (a8 : PySem.W.nsIn K mainGlobals "_least_sets" = some (some (.ref f8))) (l8 : K.lookup f8 = some ⟨oc8, od8, .func (PySem.W.fnOf "_least_sets" "_least_sets" (defArgs s_least_sets) (defBody s_least_sets) (defScope s_least_sets) .none kV8 dc8 pm8 an8 cd8 ct8), sl8⟩) (c8 : PySem.W.codeIn K cd8 "_least_sets" = true) (k8 : PySem.W.keepIn K (.ref f8) = true)
    {od9 an9 : Option Addr} {sl9 : Array (Option Value)} {oc9 kV9 dc9 pm9 cd9 ct9 : Value} {f9 : Addr}
    (a9 : PySem.W.nsIn K mainGlobals "_search" = some (some (.ref f9))) (l9 : K.lookup f9 = some ⟨oc9, od9, .func (PySem.W.fnOf "_search" "_search" (defArgs s_search) (defBody s_search) (defScope s_search) .none kV9 dc9 pm9 an9 cd9 ct9), sl9⟩) (c9 : PySem.W.codeIn K cd9 "_search" = true) (k9 : PySem.W.keepIn K (.ref f9) = true)
    {od10 an10 : Option Addr} {sl10 : Array (Option Value)} {oc10 kV10 dc10 pm10 cd10 ct10 : Value} {f10 : Addr}
    (a10 : PySem.W.nsIn K mainGlobals "_needed_apart" = some (some (.ref f10))) (l10 : K.lookup f10 = some ⟨oc10, od10, .func (PySem.W.fnOf "_needed_apart" "_needed_apart" (defArgs s_needed_apart) (defBody s_needed_apart) (defScope s_needed_apart) .none kV10 dc10 pm10 an10 cd10 ct10), sl10⟩) (c10 : PySem.W.codeIn K cd10 "_needed_apart" = true) (k10 : PySem.W.keepIn K (.ref f10) = true)
    {od11 an11 : Option Addr} {sl11 : Array (Option Value)} {oc11 kV11 dc11 pm11 cd11 ct11 : Value} {f11 : Addr}
    (a11 : PySem.W.nsIn K mainGlobals "_may_suffice" = some (some (.ref f11))) (l11 : K.lookup f11 = some ⟨oc11, od11, .func (PySem.W.fnOf "_may_suffice" "_may_suffice" (defArgs s_may_suffice) (defBody s_may_suffice) (defScope s_may_suffice) .none kV11 dc11 pm11 an11 cd11 ct11), sl11⟩) (c11 : PySem.W.codeIn K cd11 "_may_suffice" = true) (k11 : PySem.W.keepIn K (.ref f11) = true)
    {od12 an12 : Option Addr} {sl12 : Array (Option Value)} {oc12 kV12 dc12 pm12 cd12 ct12 : Value} {f12 : Addr}
    (a12 : PySem.W.nsIn K mainGlobals "_smallest" = some (some (.ref f12))) (l12 : K.lookup f12 = some ⟨oc12, od12, .func (PySem.W.fnOf "_smallest" "_smallest" (defArgs s_smallest) (defBody s_smallest) (defScope s_smallest) .none kV12 dc12 pm12 an12 cd12 ct12), sl12⟩) (c12 : PySem.W.codeIn K cd12 "_smallest" = true) (k12 : PySem.W.keepIn K (.ref f12) = true)
    {od13 an13 : Option Addr} {sl13 : Array (Option Value)} {oc13 kV13 dc13 pm13 cd13 ct13 : Value} {f13 : Addr}
    (a13 : PySem.W.nsIn K mainGlobals "least_hitting" = some (some (.ref f13))) (l13 : K.lookup f13 = some ⟨oc13, od13, .func (PySem.W.fnOf "least_hitting" "least_hitting" (defArgs s_least_hitting) (defBody s_least_hitting) (defScope s_least_hitting) .none kV13 dc13 pm13 an13 cd13 ct13), sl13⟩) (c13 : PySem.W.codeIn K cd13 "least_hitting" = true) (k13 : PySem.W.keepIn K (.ref f13) = true)
    {od14 an14 : Option Addr} {sl14 : Array (Option Value)} {oc14 kV14 dc14 pm14 cd14 ct14 : Value} {f14 : Addr}
    (a14 : PySem.W.nsIn K mainGlobals "_law_pool" = some (some (.ref f14))) (l14 : K.lookup f14 = some ⟨oc14, od14, .func (PySem.W.fnOf "_law_pool" "_law_pool" (defArgs s_law_pool) (defBody s_law_pool) (defScope s_law_pool) .none kV14 dc14 pm14 an14 cd14 ct14), sl14⟩) (c14 : PySem.W.codeIn K cd14 "_law_pool" = true) (k14 : PySem.W.keepIn K (.ref f14) = true)
    {od15 an15 : Option Addr} {sl15 : Array (Option Value)} {oc15 kV15 dc15 pm15 cd15 ct15 : Value} {f15 : Addr}
    (a15 : PySem.W.nsIn K mainGlobals "_law_spread" = some (some (.ref f15))) (l15 : K.lookup f15 = some ⟨oc15, od15, .func (PySem.W.fnOf "_law_spread" "_law_spread" (defArgs s_law_spread) (defBody s_law_spread) (defScope s_law_spread) .none kV15 dc15 pm15 an15 cd15 ct15), sl15⟩) (c15 : PySem.W.codeIn K cd15 "_law_spread" = true) (k15 : PySem.W.keepIn K (.ref f15) = true)
    {od16 an16 : Option Addr} {sl16 : Array (Option Value)} {oc16 kV16 dc16 pm16 cd16 ct16 : Value} {f16 : Addr}
    (a16 : PySem.W.nsIn K mainGlobals "_law_draw" = some (some (.ref f16))) (l16 : K.lookup f16 = some ⟨oc16, od16, .func (PySem.W.fnOf "_law_draw" "_law_draw" (defArgs s_law_draw) (defBody s_law_draw) (defScope s_law_draw) .none kV16 dc16 pm16 an16 cd16 ct16), sl16⟩) (c16 : PySem.W.codeIn K cd16 "_law_draw" = true) (k16 : PySem.W.keepIn K (.ref f16) = true)
    {od17 an17 : Option Addr} {sl17 : Array (Option Value)} {oc17 kV17 dc17 pm17 cd17 ct17 : Value} {f17 : Addr}
    (a17 : PySem.W.nsIn K mainGlobals "_law_is_int" = some (some (.ref f17))) (l17 : K.lookup f17 = some ⟨oc17, od17, .func (PySem.W.fnOf "_law_is_int" "_law_is_int" (defArgs s_law_is_int) (defBody s_law_is_int) (defScope s_law_is_int) .none kV17 dc17 pm17 an17 cd17 ct17), sl17⟩) (c17 : PySem.W.codeIn K cd17 "_law_is_int" = true) (k17 : PySem.W.keepIn K (.ref f17) = true)
    {od18 an18 : Option Addr} {sl18 : Array (Option Value)} {oc18 kV18 dc18 pm18 cd18 ct18 : Value} {f18 : Addr}
    (a18 : PySem.W.nsIn K mainGlobals "_law_distinct" = some (some (.ref f18))) (l18 : K.lookup f18 = some ⟨oc18, od18, .func (PySem.W.fnOf "_law_distinct" "_law_distinct" (defArgs s_law_distinct) (defBody s_law_distinct) (defScope s_law_distinct) .none kV18 dc18 pm18 an18 cd18 ct18), sl18⟩) (c18 : PySem.W.codeIn K cd18 "_law_distinct" = true) (k18 : PySem.W.keepIn K (.ref f18) = true)
    {od19 an19 : Option Addr} {sl19 : Array (Option Value)} {oc19 kV19 dc19 pm19 cd19 ct19 : Value} {f19 : Addr}
    (a19 : PySem.W.nsIn K mainGlobals "_law_pairs" = some (some (.ref f19))) (l19 : K.lookup f19 = some ⟨oc19, od19, .func (PySem.W.fnOf "_law_pairs" "_law_pairs" (defArgs s_law_pairs) (defBody s_law_pairs) (defScope s_law_pairs) .none kV19 dc19 pm19 an19 cd19 ct19), sl19⟩) (c19 : PySem.W.codeIn K cd19 "_law_pairs" = true) (k19 : PySem.W.keepIn K (.ref f19) = true)
    {od20 an20 : Option Addr} {sl20 : Array (Option Value)} {oc20 kV20 dc20 pm20 cd20 ct20 : Value} {f20 : Addr}
    (a20 : PySem.W.nsIn K mainGlobals "_law_of" = some (some (.ref f20))) (l20 : K.lookup f20 = some ⟨oc20, od20, .func (PySem.W.fnOf "_law_of" "_law_of" (defArgs s_law_of) (defBody s_law_of) (defScope s_law_of) .none kV20 dc20 pm20 an20 cd20 ct20), sl20⟩) (c20 : PySem.W.codeIn K cd20 "_law_of" = true) (k20 : PySem.W.keepIn K (.ref f20) = true)
    {od21 an21 : Option Addr} {sl21 : Array (Option Value)} {oc21 kV21 dc21 pm21 cd21 ct21 : Value} {f21 : Addr}
    (a21 : PySem.W.nsIn K mainGlobals "_law_met" = some (some (.ref f21))) (l21 : K.lookup f21 = some ⟨oc21, od21, .func (PySem.W.fnOf "_law_met" "_law_met" (defArgs s_law_met) (defBody s_law_met) (defScope s_law_met) .none kV21 dc21 pm21 an21 cd21 ct21), sl21⟩) (c21 : PySem.W.codeIn K cd21 "_law_met" = true) (k21 : PySem.W.keepIn K (.ref f21) = true)
    {od22 an22 : Option Addr} {sl22 : Array (Option Value)} {oc22 kV22 dc22 pm22 cd22 ct22 : Value} {f22 : Addr}
    (a22 : PySem.W.nsIn K mainGlobals "_law_shuffled" = some (some (.ref f22))) (l22 : K.lookup f22 = some ⟨oc22, od22, .func (PySem.W.fnOf "_law_shuffled" "_law_shuffled" (defArgs s_law_shuffled) (defBody s_law_shuffled) (defScope s_law_shuffled) .none kV22 dc22 pm22 an22 cd22 ct22), sl22⟩) (c22 : PySem.W.codeIn K cd22 "_law_shuffled" = true) (k22 : PySem.W.keepIn K (.ref f22) = true)
    {od23 an23 : Option Addr} {sl23 : Array (Option Value)} {oc23 kV23 dc23 pm23 cd23 ct23 : Value} {f23 : Addr}
    (a23 : PySem.W.nsIn K mainGlobals "_law_moved" = some (some (.ref f23))) (l23 : K.lookup f23 = some ⟨oc23, od23, .func (PySem.W.fnOf "_law_moved" "_law_moved" (defArgs s_law_moved) (defBody s_law_moved) (defScope s_law_moved) .none kV23 dc23 pm23 an23 cd23 ct23), sl23⟩) (c23 : PySem.W.codeIn K cd23 "_law_moved" = true) (k23 : PySem.W.keepIn K (.ref f23) = true)
    {od24 an24 : Option Addr} {sl24 : Array (Option Value)} {oc24 kV24 dc24 pm24 cd24 ct24 : Value} {f24 : Addr}
    (a24 : PySem.W.nsIn K mainGlobals "_law_other" = some (some (.ref f24))) (l24 : K.lookup f24 = some ⟨oc24, od24, .func (PySem.W.fnOf "_law_other" "_law_other" (defArgs s_law_other) (defBody s_law_other) (defScope s_law_other) .none kV24 dc24 pm24 an24 cd24 ct24), sl24⟩) (c24 : PySem.W.codeIn K cd24 "_law_other" = true) (k24 : PySem.W.keepIn K (.ref f24) = true)
    {od25 an25 : Option Addr} {sl25 : Array (Option Value)} {oc25 kV25 dc25 pm25 cd25 ct25 : Value} {f25 : Addr}
    (a25 : PySem.W.nsIn K mainGlobals "_law_random_graph" = some (some (.ref f25))) (l25 : K.lookup f25 = some ⟨oc25, od25, .func (PySem.W.fnOf "_law_random_graph" "_law_random_graph" (defArgs s_law_random_graph) (defBody s_law_random_graph) (defScope s_law_random_graph) .none kV25 dc25 pm25 an25 cd25 ct25), sl25⟩) (c25 : PySem.W.codeIn K cd25 "_law_random_graph" = true) (k25 : PySem.W.keepIn K (.ref f25) = true)
    {od26 an26 : Option Addr} {sl26 : Array (Option Value)} {oc26 kV26 dc26 pm26 cd26 ct26 : Value} {f26 : Addr}
    (a26 : PySem.W.nsIn K mainGlobals "_law_interval_rows" = some (some (.ref f26))) (l26 : K.lookup f26 = some ⟨oc26, od26, .func (PySem.W.fnOf "_law_interval_rows" "_law_interval_rows" (defArgs s_law_interval_rows) (defBody s_law_interval_rows) (defScope s_law_interval_rows) .none kV26 dc26 pm26 an26 cd26 ct26), sl26⟩) (c26 : PySem.W.codeIn K cd26 "_law_interval_rows" = true) (k26 : PySem.W.keepIn K (.ref f26) = true)
    {od27 an27 : Option Addr} {sl27 : Array (Option Value)} {oc27 kV27 dc27 pm27 cd27 ct27 : Value} {f27 : Addr}
    (a27 : PySem.W.nsIn K mainGlobals "_law_interval_graph" = some (some (.ref f27))) (l27 : K.lookup f27 = some ⟨oc27, od27, .func (PySem.W.fnOf "_law_interval_graph" "_law_interval_graph" (defArgs s_law_interval_graph) (defBody s_law_interval_graph) (defScope s_law_interval_graph) .none kV27 dc27 pm27 an27 cd27 ct27), sl27⟩) (c27 : PySem.W.codeIn K cd27 "_law_interval_graph" = true) (k27 : PySem.W.keepIn K (.ref f27) = true)
    {od28 an28 : Option Addr} {sl28 : Array (Option Value)} {oc28 kV28 dc28 pm28 cd28 ct28 : Value} {f28 : Addr}
    (a28 : PySem.W.nsIn K mainGlobals "_law_turned_graph" = some (some (.ref f28))) (l28 : K.lookup f28 = some ⟨oc28, od28, .func (PySem.W.fnOf "_law_turned_graph" "_law_turned_graph" (defArgs s_law_turned_graph) (defBody s_law_turned_graph) (defScope s_law_turned_graph) .none kV28 dc28 pm28 an28 cd28 ct28), sl28⟩) (c28 : PySem.W.codeIn K cd28 "_law_turned_graph" = true) (k28 : PySem.W.keepIn K (.ref f28) = true)
    {od29 an29 : Option Addr} {sl29 : Array (Option Value)} {oc29 kV29 dc29 pm29 cd29 ct29 : Value} {f29 : Addr}
    (a29 : PySem.W.nsIn K mainGlobals "_law_ordered_graph" = some (some (.ref f29))) (l29 : K.lookup f29 = some ⟨oc29, od29, .func (PySem.W.fnOf "_law_ordered_graph" "_law_ordered_graph" (defArgs s_law_ordered_graph) (defBody s_law_ordered_graph) (defScope s_law_ordered_graph) .none kV29 dc29 pm29 an29 cd29 ct29), sl29⟩) (c29 : PySem.W.codeIn K cd29 "_law_ordered_graph" = true) (k29 : PySem.W.keepIn K (.ref f29) = true)
    {od30 an30 : Option Addr} {sl30 : Array (Option Value)} {oc30 kV30 dc30 pm30 cd30 ct30 : Value} {f30 : Addr}
    (a30 : PySem.W.nsIn K mainGlobals "_law_clique_graph" = some (some (.ref f30))) (l30 : K.lookup f30 = some ⟨oc30, od30, .func (PySem.W.fnOf "_law_clique_graph" "_law_clique_graph" (defArgs s_law_clique_graph) (defBody s_law_clique_graph) (defScope s_law_clique_graph) .none kV30 dc30 pm30 an30 cd30 ct30), sl30⟩) (c30 : PySem.W.codeIn K cd30 "_law_clique_graph" = true) (k30 : PySem.W.keepIn K (.ref f30) = true)
    {od31 an31 : Option Addr} {sl31 : Array (Option Value)} {oc31 kV31 dc31 pm31 cd31 ct31 : Value} {f31 : Addr}
    (a31 : PySem.W.nsIn K mainGlobals "_law_drawn_tree" = some (some (.ref f31))) (l31 : K.lookup f31 = some ⟨oc31, od31, .func (PySem.W.fnOf "_law_drawn_tree" "_law_drawn_tree" (defArgs s_law_drawn_tree) (defBody s_law_drawn_tree) (defScope s_law_drawn_tree) .none kV31 dc31 pm31 an31 cd31 ct31), sl31⟩) (c31 : PySem.W.codeIn K cd31 "_law_drawn_tree" = true) (k31 : PySem.W.keepIn K (.ref f31) = true)
    {od32 an32 : Option Addr} {sl32 : Array (Option Value)} {oc32 kV32 dc32 pm32 cd32 ct32 : Value} {f32 : Addr}
    (a32 : PySem.W.nsIn K mainGlobals "_law_leaves" = some (some (.ref f32))) (l32 : K.lookup f32 = some ⟨oc32, od32, .func (PySem.W.fnOf "_law_leaves" "_law_leaves" (defArgs s_law_leaves) (defBody s_law_leaves) (defScope s_law_leaves) .none kV32 dc32 pm32 an32 cd32 ct32), sl32⟩) (c32 : PySem.W.codeIn K cd32 "_law_leaves" = true) (k32 : PySem.W.keepIn K (.ref f32) = true)
    {od33 an33 : Option Addr} {sl33 : Array (Option Value)} {oc33 kV33 dc33 pm33 cd33 ct33 : Value} {f33 : Addr}
    (a33 : PySem.W.nsIn K mainGlobals "_law_tree_pairs" = some (some (.ref f33))) (l33 : K.lookup f33 = some ⟨oc33, od33, .func (PySem.W.fnOf "_law_tree_pairs" "_law_tree_pairs" (defArgs s_law_tree_pairs) (defBody s_law_tree_pairs) (defScope s_law_tree_pairs) .none kV33 dc33 pm33 an33 cd33 ct33), sl33⟩) (c33 : PySem.W.codeIn K cd33 "_law_tree_pairs" = true) (k33 : PySem.W.keepIn K (.ref f33) = true)
    {od34 an34 : Option Addr} {sl34 : Array (Option Value)} {oc34 kV34 dc34 pm34 cd34 ct34 : Value} {f34 : Addr}
    (a34 : PySem.W.nsIn K mainGlobals "_law_graph" = some (some (.ref f34))) (l34 : K.lookup f34 = some ⟨oc34, od34, .func (PySem.W.fnOf "_law_graph" "_law_graph" (defArgs s_law_graph) (defBody s_law_graph) (defScope s_law_graph) .none kV34 dc34 pm34 an34 cd34 ct34), sl34⟩) (c34 : PySem.W.codeIn K cd34 "_law_graph" = true) (k34 : PySem.W.keepIn K (.ref f34) = true)
    {od35 an35 : Option Addr} {sl35 : Array (Option Value)} {oc35 kV35 dc35 pm35 cd35 ct35 : Value} {f35 : Addr}
    (a35 : PySem.W.nsIn K mainGlobals "_law_reach" = some (some (.ref f35))) (l35 : K.lookup f35 = some ⟨oc35, od35, .func (PySem.W.fnOf "_law_reach" "_law_reach" (defArgs s_law_reach) (defBody s_law_reach) (defScope s_law_reach) .none kV35 dc35 pm35 an35 cd35 ct35), sl35⟩) (c35 : PySem.W.codeIn K cd35 "_law_reach" = true) (k35 : PySem.W.keepIn K (.ref f35) = true)
    {od36 an36 : Option Addr} {sl36 : Array (Option Value)} {oc36 kV36 dc36 pm36 cd36 ct36 : Value} {f36 : Addr}
    (a36 : PySem.W.nsIn K mainGlobals "_law_joined" = some (some (.ref f36))) (l36 : K.lookup f36 = some ⟨oc36, od36, .func (PySem.W.fnOf "_law_joined" "_law_joined" (defArgs s_law_joined) (defBody s_law_joined) (defScope s_law_joined) .none kV36 dc36 pm36 an36 cd36 ct36), sl36⟩) (c36 : PySem.W.codeIn K cd36 "_law_joined" = true) (k36 : PySem.W.keepIn K (.ref f36) = true)
    {od37 an37 : Option Addr} {sl37 : Array (Option Value)} {oc37 kV37 dc37 pm37 cd37 ct37 : Value} {f37 : Addr}
    (a37 : PySem.W.nsIn K mainGlobals "_law_subsets" = some (some (.ref f37))) (l37 : K.lookup f37 = some ⟨oc37, od37, .func (PySem.W.fnOf "_law_subsets" "_law_subsets" (defArgs s_law_subsets) (defBody s_law_subsets) (defScope s_law_subsets) .none kV37 dc37 pm37 an37 cd37 ct37), sl37⟩) (c37 : PySem.W.codeIn K cd37 "_law_subsets" = true) (k37 : PySem.W.keepIn K (.ref f37) = true)
    {od38 an38 : Option Addr} {sl38 : Array (Option Value)} {oc38 kV38 dc38 pm38 cd38 ct38 : Value} {f38 : Addr}
    (a38 : PySem.W.nsIn K mainGlobals "_law_is_row" = some (some (.ref f38))) (l38 : K.lookup f38 = some ⟨oc38, od38, .func (PySem.W.fnOf "_law_is_row" "_law_is_row" (defArgs s_law_is_row) (defBody s_law_is_row) (defScope s_law_is_row) .none kV38 dc38 pm38 an38 cd38 ct38), sl38⟩) (c38 : PySem.W.codeIn K cd38 "_law_is_row" = true) (k38 : PySem.W.keepIn K (.ref f38) = true)
    {od39 an39 : Option Addr} {sl39 : Array (Option Value)} {oc39 kV39 dc39 pm39 cd39 ct39 : Value} {f39 : Addr}
    (a39 : PySem.W.nsIn K mainGlobals "_law_is_set" = some (some (.ref f39))) (l39 : K.lookup f39 = some ⟨oc39, od39, .func (PySem.W.fnOf "_law_is_set" "_law_is_set" (defArgs s_law_is_set) (defBody s_law_is_set) (defScope s_law_is_set) .none kV39 dc39 pm39 an39 cd39 ct39), sl39⟩) (c39 : PySem.W.codeIn K cd39 "_law_is_set" = true) (k39 : PySem.W.keepIn K (.ref f39) = true)
    {od40 an40 : Option Addr} {sl40 : Array (Option Value)} {oc40 kV40 dc40 pm40 cd40 ct40 : Value} {f40 : Addr}
    (a40 : PySem.W.nsIn K mainGlobals "_law_touch" = some (some (.ref f40))) (l40 : K.lookup f40 = some ⟨oc40, od40, .func (PySem.W.fnOf "_law_touch" "_law_touch" (defArgs s_law_touch) (defBody s_law_touch) (defScope s_law_touch) .none kV40 dc40 pm40 an40 cd40 ct40), sl40⟩) (c40 : PySem.W.codeIn K cd40 "_law_touch" = true) (k40 : PySem.W.keepIn K (.ref f40) = true)
    {od41 an41 : Option Addr} {sl41 : Array (Option Value)} {oc41 kV41 dc41 pm41 cd41 ct41 : Value} {f41 : Addr}
    (a41 : PySem.W.nsIn K mainGlobals "_law_hits" = some (some (.ref f41))) (l41 : K.lookup f41 = some ⟨oc41, od41, .func (PySem.W.fnOf "_law_hits" "_law_hits" (defArgs s_law_hits) (defBody s_law_hits) (defScope s_law_hits) .none kV41 dc41 pm41 an41 cd41 ct41), sl41⟩) (c41 : PySem.W.codeIn K cd41 "_law_hits" = true) (k41 : PySem.W.keepIn K (.ref f41) = true)
    {od42 an42 : Option Addr} {sl42 : Array (Option Value)} {oc42 kV42 dc42 pm42 cd42 ct42 : Value} {f42 : Addr}
    (a42 : PySem.W.nsIn K mainGlobals "_law_least_hit" = some (some (.ref f42))) (l42 : K.lookup f42 = some ⟨oc42, od42, .func (PySem.W.fnOf "_law_least_hit" "_law_least_hit" (defArgs s_law_least_hit) (defBody s_law_least_hit) (defScope s_law_least_hit) .none kV42 dc42 pm42 an42 cd42 ct42), sl42⟩) (c42 : PySem.W.codeIn K cd42 "_law_least_hit" = true) (k42 : PySem.W.keepIn K (.ref f42) = true)
    {od43 an43 : Option Addr} {sl43 : Array (Option Value)} {oc43 kV43 dc43 pm43 cd43 ct43 : Value} {f43 : Addr}
    (a43 : PySem.W.nsIn K mainGlobals "_law_drawn_bramble" = some (some (.ref f43))) (l43 : K.lookup f43 = some ⟨oc43, od43, .func (PySem.W.fnOf "_law_drawn_bramble" "_law_drawn_bramble" (defArgs s_law_drawn_bramble) (defBody s_law_drawn_bramble) (defScope s_law_drawn_bramble) .none kV43 dc43 pm43 an43 cd43 ct43), sl43⟩) (c43 : PySem.W.codeIn K cd43 "_law_drawn_bramble" = true) (k43 : PySem.W.keepIn K (.ref f43) = true)
    {od44 an44 : Option Addr} {sl44 : Array (Option Value)} {oc44 kV44 dc44 pm44 cd44 ct44 : Value} {f44 : Addr}
    (a44 : PySem.W.nsIn K mainGlobals "_law_ringed" = some (some (.ref f44))) (l44 : K.lookup f44 = some ⟨oc44, od44, .func (PySem.W.fnOf "_law_ringed" "_law_ringed" (defArgs s_law_ringed) (defBody s_law_ringed) (defScope s_law_ringed) .none kV44 dc44 pm44 an44 cd44 ct44), sl44⟩) (c44 : PySem.W.codeIn K cd44 "_law_ringed" = true) (k44 : PySem.W.keepIn K (.ref f44) = true)
    {od45 an45 : Option Addr} {sl45 : Array (Option Value)} {oc45 kV45 dc45 pm45 cd45 ct45 : Value} {f45 : Addr}
    (a45 : PySem.W.nsIn K mainGlobals "law" = some (some (.ref f45))) (l45 : K.lookup f45 = some ⟨oc45, od45, .func (PySem.W.fnOf "law" "law" (defArgs s_law) (defBody s_law) (defScope s_law) .none kV45 dc45 pm45 an45 cd45 ct45), sl45⟩) (c45 : PySem.W.codeIn K cd45 "law" = true) (k45 : PySem.W.keepIn K (.ref f45) = true)
    (z_len : PySem.W.nsIn K mainGlobals "len" = some none)
    (z_range : PySem.W.nsIn K mainGlobals "range" = some none)
    (z_list : PySem.W.nsIn K mainGlobals "list" = some none)
    (z_tuple : PySem.W.nsIn K mainGlobals "tuple" = some none)
    (z_int : PySem.W.nsIn K mainGlobals "int" = some none)
    (z_min : PySem.W.nsIn K mainGlobals "min" = some none)
    (z_max : PySem.W.nsIn K mainGlobals "max" = some none)
    (z_sorted : PySem.W.nsIn K mainGlobals "sorted" = some none)
    (z_isinstance : PySem.W.nsIn K mainGlobals "isinstance" = some none)
    (z_bool : PySem.W.nsIn K mainGlobals "bool" = some none)
    (z_str : PySem.W.nsIn K mainGlobals "str" = some none)
    (z_enumerate : PySem.W.nsIn K mainGlobals "enumerate" = some none)
    (z_all : PySem.W.nsIn K mainGlobals "all" = some none)
    (z_set : PySem.W.nsIn K mainGlobals "set" = some none)
    (z_zip : PySem.W.nsIn K mainGlobals "zip" = some none)
    (z_any : PySem.W.nsIn K mainGlobals "any" = some none)
    (z_sum : PySem.W.nsIn K mainGlobals "sum" = some none) :
    ∃ fd : FuncData, (∀ (s : Shared) (v : Value), BindsTo s fd ⟨[v], []⟩ [("script", v)]) ∧ ∀ base : Heap, K.In base → base.Ns mainGlobals mg → FnOk P w K mg base CX0 64 fa fd ["script"] (spLaw K) := by
  have e := hfa.symm.trans (PySem.W.mg_of X G a45)
  cases e
  have T : Blt mg := ⟨PySem.W.mg_none_of X G z_len, PySem.W.mg_none_of X G z_range, PySem.W.mg_none_of X G z_list, PySem.W.mg_none_of X G z_tuple, PySem.W.mg_none_of X G z_int, PySem.W.mg_none_of X G z_min, PySem.W.mg_none_of X G z_max, PySem.W.mg_none_of X G z_sorted, PySem.W.mg_none_of X G z_isinstance, PySem.W.mg_none_of X G z_bool, PySem.W.mg_none_of X G z_str, PySem.W.mg_none_of X G z_enumerate⟩
  have D_mask_of : DefAt K mg "mask_of" s_mask_of ["members"] := mkDef X G a0 l0 c0 k0 ((fun_mk (st := s_mask_of) l0 c0 k0).binds (ps := ["members"]) fun _ _ _ _ _ _ us hl => match us, hl with | [_], _ => rfl)
  have D_members_of : DefAt K mg "members_of" s_members_of ["mask"] := mkDef X G a1 l1 c1 k1 ((fun_mk (st := s_members_of) l1 c1 k1).binds (ps := ["mask"]) fun _ _ _ _ _ _ us hl => match us, hl with | [_], _ => rfl)
  have D_size_of : DefAt K mg "size_of" s_size_of ["mask"] := mkDef X G a2 l2 c2 k2 ((fun_mk (st := s_size_of) l2 c2 k2).binds (ps := ["mask"]) fun _ _ _ _ _ _ us hl => match us, hl with | [_], _ => rfl)
  have D_has : DefAt K mg "has" s_has ["mask", "v"] := mkDef X G a3 l3 c3 k3 ((fun_mk (st := s_has) l3 c3 k3).binds (ps := ["mask", "v"]) fun _ _ _ _ _ _ us hl => match us, hl with | [_, _], _ => rfl)
  have D_full_mask : DefAt K mg "full_mask" s_full_mask ["n"] := mkDef X G a4 l4 c4 k4 ((fun_mk (st := s_full_mask) l4 c4 k4).binds (ps := ["n"]) fun _ _ _ _ _ _ us hl => match us, hl with | [_], _ => rfl)
  have D_is_within : DefAt K mg "is_within" s_is_within ["part", "whole"] := mkDef X G a5 l5 c5 k5 ((fun_mk (st := s_is_within) l5 c5 k5).binds (ps := ["part", "whole"]) fun _ _ _ _ _ _ us hl => match us, hl with | [_, _], _ => rfl)
  have D_least_mask : DefAt K mg "least_mask" s_least_mask ["sets"] := mkDef X G a6 l6 c6 k6 ((fun_mk (st := s_least_mask) l6 c6 k6).binds (ps := ["sets"]) fun _ _ _ _ _ _ us hl => match us, hl with | [_], _ => rfl)
  have D_mask_within : DefAt K mg "mask_within" s_mask_within ["sets", "most"] := mkDef X G a7 l7 c7 k7 ((fun_mk (st := s_mask_within) l7 c7 k7).binds (ps := ["sets", "most"]) fun _ _ _ _ _ _ us hl => match us, hl with | [_, _], _ => rfl)
  have D_least_sets : DefAt K mg "_least_sets" s_least_sets ["sets"] := mkDef X G a8 l8 c8 k8 ((fun_mk (st := s_least_sets) l8 c8 k8).binds (ps := ["sets"]) fun _ _ _ _ _ _ us hl => match us, hl with | [_], _ => rfl)
  have D_search : DefAt K mg "_search" s_search ["sets", "allowed", "most"] := mkDef X G a9 l9 c9 k9 ((fun_mk (st := s_search) l9 c9 k9).binds (ps := ["sets", "allowed", "most"]) fun _ _ _ _ _ _ us hl => match us, hl with | [_, _, _], _ => rfl)
  have D_needed_apart : DefAt K mg "_needed_apart" s_needed_apart ["sets"] := mkDef X G a10 l10 c10 k10 ((fun_mk (st := s_needed_apart) l10 c10 k10).binds (ps := ["sets"]) fun _ _ _ _ _ _ us hl => match us, hl with | [_], _ => rfl)
  have D_may_suffice : DefAt K mg "_may_suffice" s_may_suffice ["sets", "most"] := mkDef X G a11 l11 c11 k11 ((fun_mk (st := s_may_suffice) l11 c11 k11).binds (ps := ["sets", "most"]) fun _ _ _ _ _ _ us hl => match us, hl with | [_, _], _ => rfl)
  have D_smallest : DefAt K mg "_smallest" s_smallest ["sets"] := mkDef X G a12 l12 c12 k12 ((fun_mk (st := s_smallest) l12 c12 k12).binds (ps := ["sets"]) fun _ _ _ _ _ _ us hl => match us, hl with | [_], _ => rfl)
  have D_least_hitting : DefAt K mg "least_hitting" s_least_hitting ["graph", "bramble"] := mkDef X G a13 l13 c13 k13 ((fun_mk (st := s_least_hitting) l13 c13 k13).binds (ps := ["graph", "bramble"]) fun _ _ _ _ _ _ us hl => match us, hl with | [_, _], _ => rfl)
  have D_law_pool : DefAt K mg "_law_pool" s_law_pool ["script"] := mkDef X G a14 l14 c14 k14 ((fun_mk (st := s_law_pool) l14 c14 k14).binds (ps := ["script"]) fun _ _ _ _ _ _ us hl => match us, hl with | [_], _ => rfl)
  have D_law_spread : DefAt K mg "_law_spread" s_law_spread ["cell"] := mkDef X G a15 l15 c15 k15 ((fun_mk (st := s_law_spread) l15 c15 k15).binds (ps := ["cell"]) fun _ _ _ _ _ _ us hl => match us, hl with | [_], _ => rfl)
  have D_law_draw : DefAt K mg "_law_draw" s_law_draw ["pool", "many"] := mkDef X G a16 l16 c16 k16 ((fun_mk (st := s_law_draw) l16 c16 k16).binds (ps := ["pool", "many"]) fun _ _ _ _ _ _ us hl => match us, hl with | [_, _], _ => rfl)
  have D_law_is_int : DefAt K mg "_law_is_int" s_law_is_int ["x"] := mkDef X G a17 l17 c17 k17 ((fun_mk (st := s_law_is_int) l17 c17 k17).binds (ps := ["x"]) fun _ _ _ _ _ _ us hl => match us, hl with | [_], _ => rfl)
  have D_law_distinct : DefAt K mg "_law_distinct" s_law_distinct ["rows"] := mkDef X G a18 l18 c18 k18 ((fun_mk (st := s_law_distinct) l18 c18 k18).binds (ps := ["rows"]) fun _ _ _ _ _ _ us hl => match us, hl with | [_], _ => rfl)
  have D_law_pairs : DefAt K mg "_law_pairs" s_law_pairs ["n"] := mkDef X G a19 l19 c19 k19 ((fun_mk (st := s_law_pairs) l19 c19 k19).binds (ps := ["n"]) fun _ _ _ _ _ _ us hl => match us, hl with | [_], _ => rfl)
  have D_law_of : DefAt K mg "_law_of" s_law_of ["n", "pairs"] := mkDef X G a20 l20 c20 k20 ((fun_mk (st := s_law_of) l20 c20 k20).binds (ps := ["n", "pairs"]) fun _ _ _ _ _ _ us hl => match us, hl with | [_, _], _ => rfl)
  have D_law_met : DefAt K mg "_law_met" s_law_met ["graph", "u", "v"] := mkDef X G a21 l21 c21 k21 ((fun_mk (st := s_law_met) l21 c21 k21).binds (ps := ["graph", "u", "v"]) fun _ _ _ _ _ _ us hl => match us, hl with | [_, _, _], _ => rfl)
  have D_law_shuffled : DefAt K mg "_law_shuffled" s_law_shuffled ["pool", "items"] := mkDef X G a22 l22 c22 k22 ((fun_mk (st := s_law_shuffled) l22 c22 k22).binds (ps := ["pool", "items"]) fun _ _ _ _ _ _ us hl => match us, hl with | [_, _], _ => rfl)
  have D_law_moved : DefAt K mg "_law_moved" s_law_moved ["graph", "order"] := mkDef X G a23 l23 c23 k23 ((fun_mk (st := s_law_moved) l23 c23 k23).binds (ps := ["graph", "order"]) fun _ _ _ _ _ _ us hl => match us, hl with | [_, _], _ => rfl)
  have D_law_other : DefAt K mg "_law_other" s_law_other ["graph"] := mkDef X G a24 l24 c24 k24 ((fun_mk (st := s_law_other) l24 c24 k24).binds (ps := ["graph"]) fun _ _ _ _ _ _ us hl => match us, hl with | [_], _ => rfl)
  have D_law_random_graph : DefAt K mg "_law_random_graph" s_law_random_graph ["pool", "most"] := mkDef X G a25 l25 c25 k25 ((fun_mk (st := s_law_random_graph) l25 c25 k25).binds (ps := ["pool", "most"]) fun _ _ _ _ _ _ us hl => match us, hl with | [_, _], _ => rfl)
  have D_law_interval_rows : DefAt K mg "_law_interval_rows" s_law_interval_rows ["pool", "n"] := mkDef X G a26 l26 c26 k26 ((fun_mk (st := s_law_interval_rows) l26 c26 k26).binds (ps := ["pool", "n"]) fun _ _ _ _ _ _ us hl => match us, hl with | [_, _], _ => rfl)
  have D_law_interval_graph : DefAt K mg "_law_interval_graph" s_law_interval_graph ["rows"] := mkDef X G a27 l27 c27 k27 ((fun_mk (st := s_law_interval_graph) l27 c27 k27).binds (ps := ["rows"]) fun _ _ _ _ _ _ us hl => match us, hl with | [_], _ => rfl)
  have D_law_turned_graph : DefAt K mg "_law_turned_graph" s_law_turned_graph ["one", "two"] := mkDef X G a28 l28 c28 k28 ((fun_mk (st := s_law_turned_graph) l28 c28 k28).binds (ps := ["one", "two"]) fun _ _ _ _ _ _ us hl => match us, hl with | [_, _], _ => rfl)
  have D_law_ordered_graph : DefAt K mg "_law_ordered_graph" s_law_ordered_graph ["pool", "n"] := mkDef X G a29 l29 c29 k29 ((fun_mk (st := s_law_ordered_graph) l29 c29 k29).binds (ps := ["pool", "n"]) fun _ _ _ _ _ _ us hl => match us, hl with | [_, _], _ => rfl)
  have D_law_clique_graph : DefAt K mg "_law_clique_graph" s_law_clique_graph ["pool", "n"] := mkDef X G a30 l30 c30 k30 ((fun_mk (st := s_law_clique_graph) l30 c30 k30).binds (ps := ["pool", "n"]) fun _ _ _ _ _ _ us hl => match us, hl with | [_, _], _ => rfl)
  have D_law_drawn_tree : DefAt K mg "_law_drawn_tree" s_law_drawn_tree ["pool", "leaves"] := mkDef X G a31 l31 c31 k31 ((fun_mk (st := s_law_drawn_tree) l31 c31 k31).binds (ps := ["pool", "leaves"]) fun _ _ _ _ _ _ us hl => match us, hl with | [_, _], _ => rfl)
  have D_law_leaves : DefAt K mg "_law_leaves" s_law_leaves ["tree"] := mkDef X G a32 l32 c32 k32 ((fun_mk (st := s_law_leaves) l32 c32 k32).binds (ps := ["tree"]) fun _ _ _ _ _ _ us hl => match us, hl with | [_], _ => rfl)
  have D_law_tree_pairs : DefAt K mg "_law_tree_pairs" s_law_tree_pairs ["tree"] := mkDef X G a33 l33 c33 k33 ((fun_mk (st := s_law_tree_pairs) l33 c33 k33).binds (ps := ["tree"]) fun _ _ _ _ _ _ us hl => match us, hl with | [_], _ => rfl)
  have D_law_graph : DefAt K mg "_law_graph" s_law_graph ["pool", "most"] := mkDef X G a34 l34 c34 k34 ((fun_mk (st := s_law_graph) l34 c34 k34).binds (ps := ["pool", "most"]) fun _ _ _ _ _ _ us hl => match us, hl with | [_, _], _ => rfl)
  have D_law_reach : DefAt K mg "_law_reach" s_law_reach ["graph", "v", "members"] := mkDef X G a35 l35 c35 k35 ((fun_mk (st := s_law_reach) l35 c35 k35).binds (ps := ["graph", "v", "members"]) fun _ _ _ _ _ _ us hl => match us, hl with | [_, _, _], _ => rfl)
  have D_law_joined : DefAt K mg "_law_joined" s_law_joined ["graph", "members"] := mkDef X G a36 l36 c36 k36 ((fun_mk (st := s_law_joined) l36 c36 k36).binds (ps := ["graph", "members"]) fun _ _ _ _ _ _ us hl => match us, hl with | [_, _], _ => rfl)
  have D_law_subsets : DefAt K mg "_law_subsets" s_law_subsets ["items"] := mkDef X G a37 l37 c37 k37 ((fun_mk (st := s_law_subsets) l37 c37 k37).binds (ps := ["items"]) fun _ _ _ _ _ _ us hl => match us, hl with | [_], _ => rfl)
  have D_law_is_row : DefAt K mg "_law_is_row" s_law_is_row ["graph", "value"] := mkDef X G a38 l38 c38 k38 ((fun_mk (st := s_law_is_row) l38 c38 k38).binds (ps := ["graph", "value"]) fun _ _ _ _ _ _ us hl => match us, hl with | [_, _], _ => rfl)
  have D_law_is_set : DefAt K mg "_law_is_set" s_law_is_set ["graph", "value"] := mkDef X G a39 l39 c39 k39 ((fun_mk (st := s_law_is_set) l39 c39 k39).binds (ps := ["graph", "value"]) fun _ _ _ _ _ _ us hl => match us, hl with | [_, _], _ => rfl)
  have D_law_touch : DefAt K mg "_law_touch" s_law_touch ["graph", "one", "two"] := mkDef X G a40 l40 c40 k40 ((fun_mk (st := s_law_touch) l40 c40 k40).binds (ps := ["graph", "one", "two"]) fun _ _ _ _ _ _ us hl => match us, hl with | [_, _, _], _ => rfl)
  have D_law_hits : DefAt K mg "_law_hits" s_law_hits ["members", "bramble"] := mkDef X G a41 l41 c41 k41 ((fun_mk (st := s_law_hits) l41 c41 k41).binds (ps := ["members", "bramble"]) fun _ _ _ _ _ _ us hl => match us, hl with | [_, _], _ => rfl)
  have D_law_least_hit : DefAt K mg "_law_least_hit" s_law_least_hit ["graph", "bramble"] := mkDef X G a42 l42 c42 k42 ((fun_mk (st := s_law_least_hit) l42 c42 k42).binds (ps := ["graph", "bramble"]) fun _ _ _ _ _ _ us hl => match us, hl with | [_, _], _ => rfl)
  have D_law_drawn_bramble : DefAt K mg "_law_drawn_bramble" s_law_drawn_bramble ["pool", "graph"] := mkDef X G a43 l43 c43 k43 ((fun_mk (st := s_law_drawn_bramble) l43 c43 k43).binds (ps := ["pool", "graph"]) fun _ _ _ _ _ _ us hl => match us, hl with | [_, _], _ => rfl)
  have D_law_ringed : DefAt K mg "_law_ringed" s_law_ringed ["pool", "n"] := mkDef X G a44 l44 c44 k44 ((fun_mk (st := s_law_ringed) l44 c44 k44).binds (ps := ["pool", "n"]) fun _ _ _ _ _ _ us hl => match us, hl with | [_, _], _ => rfl)
  let D_law : DefAt K mg "law" s_law ["script"] := mkDef X G a45 l45 c45 k45 ((fun_mk (st := s_law) l45 c45 k45).binds (ps := ["script"]) fun _ _ _ _ _ _ us hl => match us, hl with | [_], _ => rfl)
  have Z_all := PySem.W.mg_none_of X G z_all
  have Z_set := PySem.W.mg_none_of X G z_set
  have Z_zip := PySem.W.mg_none_of X G z_zip
  have Z_any := PySem.W.mg_none_of X G z_any
  have Z_sum := PySem.W.mg_none_of X G z_sum
  refine ⟨PySem.W.fnOf "law" "law" (defArgs s_law) (defBody s_law) (defScope s_law) .none kV45 dc45 pm45 an45 cd45 ct45, fun s v => .of_eq rfl, fun base _ _ => ?_⟩
  have G_spread := ok_spread (P := P) (w := w) (base := base) T D_law_spread
  have G_draw := ok_draw T D_law_draw D_law_spread G_spread
  have G_pool := ok_pool (P := P) (w := w) (base := base) T D_law_pool
  have G_pairs := ok_pairs (P := P) (w := w) (base := base) T D_law_pairs
  have G_distinct := ok_distinct (P := P) (w := w) (base := base) T D_law_distinct
  have G_of := ok_of T D_law_of D_law_distinct G_distinct
  have G_shuf := ok_shuffled T D_law_shuffled D_law_draw G_draw
  have G_moved := ok_moved T D_law_moved D_law_of G_of
  have G_other := ok_other T D_law_other D_law_pairs G_pairs
  have G_random := ok_random T D_law_random_graph D_law_draw G_draw D_law_pairs G_pairs
  have G_rows := ok_rows T D_law_interval_rows D_law_draw G_draw
  have G_iv := ok_ivgraph T D_law_interval_graph D_law_pairs G_pairs
  have G_turned := ok_turned T D_law_turned_graph D_law_pairs G_pairs
  have G_ringed := ok_ringed T D_law_ringed D_law_draw G_draw D_law_of G_of
  have G_ordered := ok_ordered T D_law_ordered_graph D_law_draw G_draw D_law_pairs G_pairs
  have G_clique := ok_clique T D_law_clique_graph D_law_draw G_draw
  have G_drawn := ok_drawn T D_law_drawn_tree D_law_draw G_draw
  have G_tp := ok_tree_pairs (P := P) (w := w) (base := base) T D_law_tree_pairs D_law_leaves 61
  have G_graph := ok_graph T D_law_graph D_law_draw G_draw D_law_interval_rows G_rows D_law_interval_graph G_iv D_law_turned_graph G_turned D_law_shuffled G_shuf D_law_ordered_graph G_ordered D_law_clique_graph G_clique D_law_of G_of D_law_tree_pairs G_tp D_law_drawn_tree G_drawn D_law_ringed G_ringed D_law_other G_other D_law_random_graph G_random D_law_moved G_moved
  have G_mask := ok_mask (P := P) (w := w) (base := base) T D_mask_of
  have G_mem := ok_members (P := P) (w := w) (base := base) (K := K) T D_members_of
  have G_size := ok_size (P := P) (w := w) (base := base) (K := K) T D_size_of
  have G_within := ok_within (P := P) (w := w) (base := base) (K := K) T D_is_within
  have G_has := ok_has (P := P) (w := w) (base := base) (K := K) T D_has
  have G_full := ok_full (P := P) (w := w) (base := base) (K := K) T D_full_mask
  have G_ls := ok_least_sets T Z_any D_least_sets D_size_of G_size D_is_within G_within
  have G_sm := ok_smallest T D_smallest D_size_of G_size
  have G_nd := ok_needed (P := P) (w := w) (base := base) (K := K) T D_needed_apart
  have G_sf := ok_suffice T Z_sum D_may_suffice D_members_of G_mem
  have G_se := ok_search T D_search D_needed_apart G_nd D_may_suffice G_sf D_members_of G_mem D_smallest G_sm D_has G_has 14
  have G_mw := ok_mw T D_mask_within D_least_sets G_ls D_full_mask G_full D_search G_se
  have G_lm := ok_lm T D_least_mask D_mask_within G_mw
  have G_lh := ok_lh T D_least_hitting D_members_of G_mem D_least_mask G_lm D_mask_of G_mask
  have G_met := ok_met (P := P) (w := w) (base := base) (K := K) T D_law_met
  have G_distI := ok_distI (P := P) (w := w) (base := base) T D_law_distinct
  have G_reach := ok_reach T D_law_reach D_law_met G_met D_law_distinct G_distI
  have G_joined := ok_joined T D_law_joined D_law_reach G_reach
  have G_subs := ok_subs (P := P) (w := w) (base := base) (K := K) T D_law_subsets
  have G_lt := ok_ltouch T D_law_touch D_law_met G_met
  have G_hi := ok_lhits (P := P) (w := w) (base := base) (K := K) T D_law_hits
  have G_br := ok_brambleN T D_law_drawn_bramble D_law_draw G_draw D_law_subsets G_subs D_law_joined G_joined D_law_touch G_lt
  have G_li := ok_lisint (P := P) (w := w) (base := base) (K := K) T D_law_is_int
  have G_row := ok_lrow T D_law_is_row D_law_is_int G_li D_law_distinct G_distI
  have G_set := ok_lset T D_law_is_set D_law_is_row G_row
  have G_llh := ok_llh T D_law_least_hit D_law_subsets G_subs D_law_hits G_hi
  exact ok_law T D_law D_law_pool G_pool D_law_graph G_graph D_law_drawn_bramble G_br D_least_hitting G_lh D_law_is_set G_set D_law_hits G_hi D_law_least_hit G_llh

end Z
set_option Elab.async false
set_option linter.all false
set_option maxRecDepth 100000
open PySem PySem.W PyProof.Rows
set_option maxHeartbeats 0 in
theorem PySem.Challenge.cw_trellis_k59_least_hitting_sets_holds : PySem.Challenge.rw_trellis_k59_least_hitting_sets.Holds := by
  w_on; o_law; k_head; (case hw => w_witness2)
  k_fill
  refine L2.walk_of (l := PySem.Challenge.rw_trellis_k59_least_hitting_sets) (n := 63) (k := 64) (x := "script") (CX := fun _ => L2.CX0) (sp := fun w => Z.spLaw _) rfl (by decide) rfl ⟨rfl, by decide, by decide⟩ (fun w h Y => PySem.W.kIn_of Y) ?F (fun _ _ a ns hl _ hS => ⟨a, ns, rfl, hS, fun _ => rfl⟩) (fun _ _ _ _ _ h => h)
  case F =>
    intro w mg fa h KX G hmg
    refine' Z.all_mk KX G hmg ?a0 ?l0 ?c0 ?k0 ?a1 ?l1 ?c1 ?k1 ?a2 ?l2 ?c2 ?k2 ?a3 ?l3 ?c3 ?k3 ?a4 ?l4 ?c4 ?k4 ?a5 ?l5 ?c5 ?k5 ?a6 ?l6 ?c6 ?k6 ?a7 ?l7 ?c7 ?k7 ?a8 ?l8 ?c8 ?k8 ?a9 ?l9 ?c9 ?k9 ?a10 ?l10 ?c10 ?k10 ?a11 ?l11 ?c11 ?k11 ?a12 ?l12 ?c12 ?k12 ?a13 ?l13 ?c13 ?k13 ?a14 ?l14 ?c14 ?k14 ?a15 ?l15 ?c15 ?k15 ?a16 ?l16 ?c16 ?k16 ?a17 ?l17 ?c17 ?k17 ?a18 ?l18 ?c18 ?k18 ?a19 ?l19 ?c19 ?k19 ?a20 ?l20 ?c20 ?k20 ?a21 ?l21 ?c21 ?k21 ?a22 ?l22 ?c22 ?k22 ?a23 ?l23 ?c23 ?k23 ?a24 ?l24 ?c24 ?k24 ?a25 ?l25 ?c25 ?k25 ?a26 ?l26 ?c26 ?k26 ?a27 ?l27 ?c27 ?k27 ?a28 ?l28 ?c28 ?k28 ?a29 ?l29 ?c29 ?k29 ?a30 ?l30 ?c30 ?k30 ?a31 ?l31 ?c31 ?k31 ?a32 ?l32 ?c32 ?k32 ?a33 ?l33 ?c33 ?k33 ?a34 ?l34 ?c34 ?k34 ?a35 ?l35 ?c35 ?k35 ?a36 ?l36 ?c36 ?k36 ?a37 ?l37 ?c37 ?k37 ?a38 ?l38 ?c38 ?k38 ?a39 ?l39 ?c39 ?k39 ?a40 ?l40 ?c40 ?k40 ?a41 ?l41 ?c41 ?k41 ?a42 ?l42 ?c42 ?k42 ?a43 ?l43 ?c43 ?k43 ?a44 ?l44 ?c44 ?k44 ?a45 ?l45 ?c45 ?k45 ?z_len ?z_range ?z_list ?z_tuple ?z_int ?z_min ?z_max ?z_sorted ?z_isinstance ?z_bool ?z_str ?z_enumerate ?z_all ?z_set ?z_zip ?z_any ?z_sum
    (case a0 => k_is); (case l0 => k_is); (case c0 => k_is); (case k0 => k_is); (case a1 => k_is); (case l1 => k_is); (case c1 => k_is); (case k1 => k_is); (case a2 => k_is); (case l2 => k_is); (case c2 => k_is); (case k2 => k_is); (case a3 => k_is); (case l3 => k_is); (case c3 => k_is); (case k3 => k_is); (case a4 => k_is); (case l4 => k_is); (case c4 => k_is); (case k4 => k_is); (case a5 => k_is); (case l5 => k_is); (case c5 => k_is); (case k5 => k_is); (case a6 => k_is); (case l6 => k_is); (case c6 => k_is); (case k6 => k_is); (case a7 => k_is); (case l7 => k_is); (case c7 => k_is); (case k7 => k_is); (case a8 => k_is); (case l8 => k_is); (case c8 => k_is); (case k8 => k_is); (case a9 => k_is); (case l9 => k_is); (case c9 => k_is); (case k9 => k_is); (case a10 => k_is); (case l10 => k_is); (case c10 => k_is); (case k10 => k_is); (case a11 => k_is); (case l11 => k_is); (case c11 => k_is); (case k11 => k_is); (case a12 => k_is); (case l12 => k_is); (case c12 => k_is); (case k12 => k_is); (case a13 => k_is); (case l13 => k_is); (case c13 => k_is); (case k13 => k_is); (case a14 => k_is); (case l14 => k_is); (case c14 => k_is); (case k14 => k_is); (case a15 => k_is); (case l15 => k_is); (case c15 => k_is); (case k15 => k_is); (case a16 => k_is); (case l16 => k_is); (case c16 => k_is); (case k16 => k_is); (case a17 => k_is); (case l17 => k_is); (case c17 => k_is); (case k17 => k_is); (case a18 => k_is); (case l18 => k_is); (case c18 => k_is); (case k18 => k_is); (case a19 => k_is); (case l19 => k_is); (case c19 => k_is); (case k19 => k_is); (case a20 => k_is); (case l20 => k_is); (case c20 => k_is); (case k20 => k_is); (case a21 => k_is); (case l21 => k_is); (case c21 => k_is); (case k21 => k_is); (case a22 => k_is); (case l22 => k_is); (case c22 => k_is); (case k22 => k_is); (case a23 => k_is); (case l23 => k_is); (case c23 => k_is); (case k23 => k_is); (case a24 => k_is); (case l24 => k_is); (case c24 => k_is); (case k24 => k_is); (case a25 => k_is); (case l25 => k_is); (case c25 => k_is); (case k25 => k_is); (case a26 => k_is); (case l26 => k_is); (case c26 => k_is); (case k26 => k_is); (case a27 => k_is); (case l27 => k_is); (case c27 => k_is); (case k27 => k_is); (case a28 => k_is); (case l28 => k_is); (case c28 => k_is); (case k28 => k_is); (case a29 => k_is); (case l29 => k_is); (case c29 => k_is); (case k29 => k_is); (case a30 => k_is); (case l30 => k_is); (case c30 => k_is); (case k30 => k_is); (case a31 => k_is); (case l31 => k_is); (case c31 => k_is); (case k31 => k_is); (case a32 => k_is); (case l32 => k_is); (case c32 => k_is); (case k32 => k_is); (case a33 => k_is); (case l33 => k_is); (case c33 => k_is); (case k33 => k_is); (case a34 => k_is); (case l34 => k_is); (case c34 => k_is); (case k34 => k_is); (case a35 => k_is); (case l35 => k_is); (case c35 => k_is); (case k35 => k_is); (case a36 => k_is); (case l36 => k_is); (case c36 => k_is); (case k36 => k_is); (case a37 => k_is); (case l37 => k_is); (case c37 => k_is); (case k37 => k_is); (case a38 => k_is); (case l38 => k_is); (case c38 => k_is); (case k38 => k_is); (case a39 => k_is); (case l39 => k_is); (case c39 => k_is); (case k39 => k_is); (case a40 => k_is); (case l40 => k_is); (case c40 => k_is); (case k40 => k_is); (case a41 => k_is); (case l41 => k_is); (case c41 => k_is); (case k41 => k_is); (case a42 => k_is); (case l42 => k_is); (case c42 => k_is); (case k42 => k_is); (case a43 => k_is); (case l43 => k_is); (case c43 => k_is); (case k43 => k_is); (case a44 => k_is); (case l44 => k_is); (case c44 => k_is); (case k44 => k_is); (case a45 => k_is); (case l45 => k_is); (case c45 => k_is); (case k45 => k_is); (case z_len => k_is); (case z_range => k_is); (case z_list => k_is); (case z_tuple => k_is); (case z_int => k_is); (case z_min => k_is); (case z_max => k_is); (case z_sorted => k_is); (case z_isinstance => k_is); (case z_bool => k_is); (case z_str => k_is); (case z_enumerate => k_is); (case z_all => k_is); (case z_set => k_is); (case z_zip => k_is); (case z_any => k_is); (case z_sum => k_is)
