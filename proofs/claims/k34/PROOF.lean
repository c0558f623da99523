import PyProof.Rows.All
import Wide.All
import OpenK.AllK
import Wide.FinOn
import HandS.ForMost
import HandS.Wide
import HandS.TupSets
import HandS.Deep
import HandS.IsInst
import HandS.Conv
import HandS.SortRule
import PyProof.WalkInts
import HandS.SetBool
import HandS.ExcOwn
import HandS.WordsExc
import HandS.ExcIs
import HandS.TryOnly
import HandS.TryElse
import HandS.More
import KE.GoesEnum
import KE.GoesMore
import HandS.DictTup
import HandS.DictComp
import HandS.Iter
import HandS.TupAny
import PyProof.Rows.MatchSeqLen
import PyProof.RulesMatch
import HandS.Star
import HandS.ExcCtx
import HandS.Hot
import HandS.HotCalls
import PyProof.MinMaxWalk
import HandS.Text
import HandS.Strs
import HandS.SetIn
import KE.KSetDisp
import PyProof.SetRoads
import HandS.SortOrd
import KE.KIndexOf
import KE.DataMinMax
import KE.SortData
import PyProof.Rows.RowBridgeK
import KE.KRevSl
import HandS.Style
import KE.DataFind
import KE.KUnpack
import HandS.SetFor
import HandS.Lambda
import HandS.EndTab
import HandS.AnyAll
import HandS.GenOver
import HandS.Zip
import PyProof.EqKinds
import KE.SortKeyHeap
import HandS.SortKw
import PyProof.NeData
import HandS.FStr
import KE.DataMinKey
import PySem.Challenge.RW_trellis_k34_chordal_graphs
import KE.KStateDown
import HandS.Head0
import HandS.Head1
import HandS.Head2
import HandS.HeadHook2
import HandS.HeadHook4
import HandS.HeadWalk
import HandS.HeadNt
import KE.KNestM
import OpenK.KQuick
set_option Elab.async false
set_option linter.all false
set_option maxRecDepth 100000
set_option maxHeartbeats 2000000
namespace Z
open PySem PySem.Spec PyProof.Rows L2

/-! ## heaps -/
/-- all but what stands at a is as it was -/
def Gr (a : Addr) (H H' : Hp) : Prop := ∀ b o, b ≠ a → H b = some o → H' b = some o
theorem Gr.refl (a : Addr) (H : Hp) : Gr a H H := fun _ _ _ h => h
theorem Gr.trans {a : Addr} {H H1 H2 : Hp} (x : Gr a H H1) (y : Gr a H1 H2) : Gr a H H2 := fun b o n h => y b o n (x b o n h)
theorem Gr.of_same {a : Addr} {H H' : Hp} (x : Same H H') : Gr a H H' := fun b o _ h => x b o h
theorem same_new {H : Hp} {p : Addr} {o : HO} (h : H p = none) : Same H (upd H p o) := fun b u e => by
  rw [upd_ne (ne_of_none e h)]
  exact e
theorem Gr.new {a : Addr} {H : Hp} {p : Addr} {o : HO} (h : H p = none) : Gr a H (upd H p o) := .of_same (same_new h)
/-- the object at a itself is written -/
theorem Gr.self {a : Addr} {H : Hp} {o : HO} : Gr a H (upd H a o) := fun b u n e => by
  rw [upd_ne n]
  exact e
/-- an object that H did not know is written -/
theorem Gr.mut {a : Addr} {H H' : Hp} {p : Addr} {o : HO} (x : Gr a H H') (h : H p = none) : Gr a H (upd H' p o) := fun b u n e => by
  rw [upd_ne (ne_of_none e h)]
  exact x b u n e
theorem same_mut {H H' : Hp} {p : Addr} {o : HO} (x : Same H H') (h : H p = none) : Same H (upd H' p o) := fun b u e => by
  rw [upd_ne (ne_of_none e h)]
  exact x b u e
/-- what is free now was free then -/
theorem Gr.free {a : Addr} {H H' : Hp} (x : Gr a H H') (ha : H' a ≠ none) {p : Addr} (h : H' p = none) : H p = none := by
  cases e : H p with
  | none => rfl
  | some o =>
    by_cases n : p = a
    · rw [n] at h
      exact absurd h ha
    · rw [x p o n e] at h
      cases h
/-- the tuples stand -/
def TK (H H' : Hp) : Prop := ∀ b xs, H b = some (.tup xs) → H' b = some (.tup xs)
theorem TK.refl (H : Hp) : TK H H := fun _ _ h => h
theorem TK.trans {H H1 H2 : Hp} (x : TK H H1) (y : TK H1 H2) : TK H H2 := fun b o h => y b o (x b o h)
theorem TK.of_same {H H' : Hp} (x : Same H H') : TK H H' := fun b o h => x b _ h
theorem TK.of_gr {a : Addr} {H H' : Hp} {xs : List V} (x : Gr a H H') (h : H a = some (.lst xs)) : TK H H' := fun b o e => x b _ (fun n => by
  rw [n, h] at e
  cases e) e
theorem TK.lst {H : Hp} {p : Addr} {xs ys : List V} (h : H p = some (.lst xs)) : TK H (upd H p (.lst ys)) := fun b o e => by
  rw [upd_ne (fun n => by rw [n, h] at e; cases e)]
  exact e
theorem TK.new {H : Hp} {p : Addr} {o : HO} (h : H p = none) : TK H (upd H p o) := .of_same (same_new h)

/-! ## pairs -/
/-- x is the tuple of these two ints -/
def IsP (H : Hp) (x : V) (p : Int × Int) : Prop := ∃ t, x = .ref t ∧ H t = some (.tup [.int p.1, .int p.2])
theorem IsP.tk {H H' : Hp} (k : TK H H') {x : V} {p : Int × Int} (h : IsP H x p) : IsP H' x p := by
  obtain ⟨t, e, h⟩ := h
  exact ⟨t, e, k _ _ h⟩
abbrev Prs (H : Hp) : List V → List (Int × Int) → Prop := Paired (IsP H)
theorem Prs.tk {H H' : Hp} (k : TK H H') : ∀ {xs : List V} {ps : List (Int × Int)}, Prs H xs ps → Prs H' xs ps
  | _, _, .nil => .nil
  | _, _, .cons h t => .cons (h.tk k) (Prs.tk k t)
theorem pd_get {α β : Type} {F : α → β → Prop} : ∀ {xs : List α} {ps : List β} {i : Nat} {x : α}, Paired F xs ps → xs[i]? = some x → ∃ p, ps[i]? = some p ∧ F x p
  | _, _, _, _, .nil, h => by simp at h
  | _, _, 0, _, .cons f _, h => by
    have e := Option.some.inj h
    subst e
    exact ⟨_, rfl, f⟩
  | _, _, i + 1, _, .cons _ t, h => pd_get (i := i) t h
theorem pd_get2 {α β : Type} {F : α → β → Prop} : ∀ {xs : List α} {ps : List β} {i : Nat} {p : β}, Paired F xs ps → ps[i]? = some p → ∃ x, xs[i]? = some x ∧ F x p
  | _, _, _, _, .nil, h => by simp at h
  | _, _, 0, _, .cons f _, h => by
    have e := Option.some.inj h
    subst e
    exact ⟨_, rfl, f⟩
  | _, _, i + 1, _, .cons _ t, h => pd_get2 (i := i) t h
theorem pd_mem {α β : Type} {F : α → β → Prop} {xs : List α} {ps : List β} {x : α} (h : Paired F xs ps) (hx : x ∈ xs) : ∃ p ∈ ps, F x p := by
  obtain ⟨i, hi, e⟩ := List.mem_iff_getElem.mp hx
  obtain ⟨p, hp, f⟩ := pd_get h (List.getElem?_eq_some_iff.mpr ⟨hi, e⟩)
  exact ⟨p, List.mem_of_getElem? hp, f⟩
theorem pd_append {α β : Type} {F : α → β → Prop} : ∀ {xs ys : List α} {ps qs : List β}, Paired F xs ps → Paired F ys qs → Paired F (xs ++ ys) (ps ++ qs)
  | _, _, _, _, .nil, h => h
  | _, _, _, _, .cons f t, h => .cons f (pd_append t h)
/-! ## data, for == and in -/
theorem IsP.dp {K : PySem.W.Frag} {H : Hp} {x : V} {p : Int × Int} (h : IsP H x p) : Dp K H x (.tuple [.int p.1, .int p.2]) := by
  obtain ⟨t, rfl, h⟩ := h
  exact .tup (.inl (.inl h)) (.cons (.int _) (.cons (.int _) .nil))
def prD2 (p : Int × Int) : PyData := .tuple [.int p.1, .int p.2]
theorem Prs.dps {K : PySem.W.Frag} {H : Hp} : ∀ {xs : List V} {ps : List (Int × Int)}, Prs H xs ps → DpAll K H xs (ps.map prD2)
  | _, _, .nil => .nil
  | _, _, .cons h t => .cons h.dp (Prs.dps t)
theorem prD2_lay (z : Int × Int) : (prD2 z).canLay0 = true := by simp [prD2, PyData.canLay0, PyData.canLayAll0]
theorem prD2_depth (z : Int × Int) : (prD2 z).depth = 1 := by simp [prD2, PyData.depth, PyData.depthAll]
theorem prD2s_lay : ∀ zs : List (Int × Int), PyData.canLayAll0 (zs.map prD2) = true
  | [] => by simp [PyData.canLayAll0]
  | z :: zs => by simp [PyData.canLayAll0, prD2_lay z, prD2s_lay zs]
theorem prD2s_depth : ∀ zs : List (Int × Int), PyData.depthAll (zs.map prD2) ≤ 1
  | [] => by simp [PyData.depthAll]
  | z :: zs => by
    have h1 := prD2s_depth zs
    have h2 := prD2_depth z
    simp only [List.map_cons, PyData.depthAll]
    omega
theorem shaped_of {d : PyData} (h1 : d.canLay0 = true) (h2 : d.depth ≤ 64) : SeqAt.shaped d = true := by
  show (d.canLay0 && decide (d.depth ≤ 64)) = true
  rw [Bool.and_eq_true]
  exact ⟨h1, decide_eq_true h2⟩
theorem prD2_shaped (z : Int × Int) : SeqAt.shaped (prD2 z) = true := shaped_of (prD2_lay z) (by rw [prD2_depth]; omega)
theorem prD2s_shT (zs : List (Int × Int)) : SeqAt.shaped (.tuple (zs.map prD2)) = true := shaped_of (by simp only [PyData.canLay0]; exact prD2s_lay zs) (by
  have h := prD2s_depth zs
  simp only [PyData.depth]
  omega)
theorem prD2s_shL (zs : List (Int × Int)) : SeqAt.shaped (.list (zs.map prD2)) = true := shaped_of (by simp only [PyData.canLay0]; exact prD2s_lay zs) (by
  have h := prD2s_depth zs
  simp only [PyData.depth]
  omega)
theorem prD2_eqv (z w : Int × Int) : PyData.eqv (prD2 z) (prD2 w) = decide (z = w) := by
  obtain ⟨a, b⟩ := z
  obtain ⟨c, d⟩ := w
  have e : PyData.eqv (prD2 (a, b)) (prD2 (c, d)) = ((a == c) && ((b == d) && true)) := by simp only [prD2, PyData.eqv, PyData.eqvAll]
  rw [e]
  by_cases h1 : a = c <;> by_cases h2 : b = d <;> simp [h1, h2]
theorem prD2s_any (zs : List (Int × Int)) (w : Int × Int) : ((zs.map prD2).any fun z => PyData.eqv z (prD2 w)) = decide (w ∈ zs) := by
  induction zs with
  | nil => simp
  | cons z zs ih =>
    rw [List.map_cons, List.any_cons, ih, prD2_eqv]
    by_cases h : z = w
    · simp [h]
    · have h' : ¬ w = z := fun q => h q.symm
      simp [h, h']

/-! ## rules of my own -/
section
variable {X : Cx}
/-- x in t, t a tuple of pairs -/
def rInP (K : PySem.W.Frag) : R2 := fun x y H Q => ∃ (p : Int × Int) (b : Addr) (xs : List V) (ps : List (Int × Int)), IsP H x p ∧ y = .ref b ∧ SqT K H b xs ∧ Prs H xs ps ∧ Q (.bl (decide (p ∈ ps))) H
def rNinP (K : PySem.W.Frag) : R2 := fun x y H Q => ∃ (p : Int × Int) (b : Addr) (xs : List V) (ps : List (Int × Int)), IsP H x p ∧ y = .ref b ∧ SqT K H b xs ∧ Prs H xs ps ∧ Q (.bl (!decide (p ∈ ps))) H
theorem roomP {A : Around} {ds : List PyData} (h : A.units + 64 < cLine) (p : Int × Int) : A.units + 1 + min (PyData.depthAll ds) (prD2 p).depth < cLine := by
  have := Nat.min_le_right (PyData.depthAll ds) (prD2 p).depth
  rw [prD2_depth] at this
  rw [prD2_depth]
  omega
theorem op_inTD {k : Nat} (hr : Room k X.A) : OpR X (compareOp .In) (rInP X.K) := by
  intro pins s σ H x y v u Q I rx ry h
  obtain ⟨p, b, xs, ps, hx, rfl, hb, hp, q⟩ := h
  obtain ⟨as, r1⟩ := Dp.reads I (prD2 p) x v hx.dp rx
  obtain ⟨bs, r2⟩ := Dp.reads I (.tuple (ps.map prD2)) (.ref b) u (.tup hb hp.dps) ry
  exact SeqAt.in_tuple_reads r2 r1 (prD2s_lay ps) (prD2_lay p) (roomP hr.units p) ⟨.bl _, H, I, rfl, by rw [prD2s_any]; exact q⟩
theorem op_notInTD {k : Nat} (hr : Room k X.A) : OpR X (compareOp .NotIn) (rNinP X.K) := by
  intro pins s σ H x y v u Q I rx ry h
  obtain ⟨p, b, xs, ps, hx, rfl, hb, hp, q⟩ := h
  obtain ⟨as, r1⟩ := Dp.reads I (prD2 p) x v hx.dp rx
  obtain ⟨bs, r2⟩ := Dp.reads I (.tuple (ps.map prD2)) (.ref b) u (.tup hb hp.dps) ry
  exact SeqAt.notIn_tuple_reads r2 r1 (prD2s_lay ps) (prD2_lay p) (roomP hr.units p) ⟨.bl _, H, I, rfl, by rw [prD2s_any]; exact q⟩
/-- min, max of a pair -/
def rMinT : List V → Hp → VK → Prop := fun vs H Q => ∃ (x : V) (p : Int × Int), vs = [x] ∧ IsP H x p ∧ Q (.int (min p.1 p.2)) H
def rMaxT : List V → Hp → VK → Prop := fun vs H Q => ∃ (x : V) (p : Int × Int), vs = [x] ∧ IsP H x p ∧ Q (.int (max p.1 p.2)) H
theorem pair_raw {pins : List (Addr × Obj)} {σ : L2.St} {H : Hp} {s : Shared} {t : Addr} {i j : Int} (I : Inv X pins σ H s) (h : H t = some (.tup [.int i, .int j])) :
    ∃ a b, s.heap.IsTuple t (intItems #[(i, a), (j, b)]) := by
  obtain ⟨its, rv, ⟨o, ho, hc, n, hd⟩, _⟩ := I.tuple (SqT.of (K := X.K) h)
  obtain ⟨u, w, e, r1, r2⟩ := vals2 rv
  obtain ⟨a, rfl⟩ := r1
  obtain ⟨b, rfl⟩ := r2
  subst e
  exact ⟨a, b, o, ho, hc, n, by simpa [intItems] using hd⟩
theorem cr_minT (hc : X.calm = true) : CallR X (.builtin "min") rMinT := by
  intro pins s σ H vs us Q I r h
  obtain ⟨x, ⟨i, j⟩, rfl, ⟨t, rfl, ht⟩, q⟩ := h
  rw [Vals.ref1 r]
  obtain ⟨a, b, hT⟩ := pair_raw I ht
  have hlt : t < s.heap.objs.size := by
    obtain ⟨o, ho, _⟩ := hT
    exact Heap.lt_size ho
  refine call_min_walk (wpAny_pyIter_tuple hT ?_)
  refine ⟨_, _, _, _, _, _, _, rfl, Walks.tuple (A := X.A.in1) (I.ok.hd hc) s.heap.objs.size t (Nat.ne_of_lt hlt) (intItems #[(i, a), (j, b)]),
    ⟨⟨_, Heap.get?_push_size _ rfl, rfl, rfl⟩, hT.push _⟩, fun c hm => ?_, by simp [intItems], CmpOf.ints_lt (numAt #[(i, a), (j, b)]) (fun _ _ => intItems_at), fun v h' tk hP hk => ?_⟩
  · show c < (s.heap.push _).objs.size
    rw [Heap.size_push]
    rcases List.mem_cons.mp hm with e | hm
    · rw [e]
      exact Nat.lt_succ_self _
    · rw [List.mem_singleton.mp hm]
      exact Nat.lt_succ_of_lt hlt
  · obtain ⟨tt, rfl⟩ := intItems_at hP
    obtain ⟨h1, h2⟩ := argBest_lt (numAt #[(i, a), (j, b)]) ((intItems #[(i, a), (j, b)]).size - 1)
    have e1 : (intItems #[(i, a), (j, b)]).size - 1 = 1 := by simp [intItems]
    rw [e1] at h1 h2 ⊢
    have n0 : numAt #[(i, a), (j, b)] 0 = i := rfl
    have n1 : numAt #[(i, a), (j, b)] 1 = j := rfl
    have g0 := h2 0 (by omega)
    have g1 := h2 1 (by omega)
    rw [n0] at g0
    rw [n1] at g1
    have ev : numAt #[(i, a), (j, b)] (argBest (fun k l => decide (numAt #[(i, a), (j, b)] k < numAt #[(i, a), (j, b)] l)) 1) = min i j := by
      generalize argBest (fun k l => decide (numAt #[(i, a), (j, b)] k < numAt #[(i, a), (j, b)] l)) 1 = z at h1 g0 g1 ⊢
      have hz : z = 0 ∨ z = 1 := by omega
      rcases hz with e | e
      · subst e; rw [n0] at g0 g1 ⊢; omega
      · subst e; rw [n1] at g0 g1 ⊢; omega
    refine ⟨.int (min i j), H, I.kept (t' := tk) fun b u e => hk b u (fun hmem => ?_) (Heap.get?_push_of_some _ e), ⟨tt, by rw [ev]⟩, q⟩
    have e2 := Heap.lt_size e
    rw [List.mem_singleton.mp hmem] at e2
    exact absurd e2 (Nat.lt_irrefl _)
theorem cr_maxT (hc : X.calm = true) : CallR X (.builtin "max") rMaxT := by
  intro pins s σ H vs us Q I r h
  obtain ⟨x, ⟨i, j⟩, rfl, ⟨t, rfl, ht⟩, q⟩ := h
  rw [Vals.ref1 r]
  obtain ⟨a, b, hT⟩ := pair_raw I ht
  have hlt : t < s.heap.objs.size := by
    obtain ⟨o, ho, _⟩ := hT
    exact Heap.lt_size ho
  refine call_max_walk (wpAny_pyIter_tuple hT ?_)
  refine ⟨_, _, _, _, _, _, _, rfl, Walks.tuple (A := X.A.in1) (I.ok.hd hc) s.heap.objs.size t (Nat.ne_of_lt hlt) (intItems #[(i, a), (j, b)]),
    ⟨⟨_, Heap.get?_push_size _ rfl, rfl, rfl⟩, hT.push _⟩, fun c hm => ?_, by simp [intItems], CmpOf.ints_gt (numAt #[(i, a), (j, b)]) (fun _ _ => intItems_at), fun v h' tk hP hk => ?_⟩
  · show c < (s.heap.push _).objs.size
    rw [Heap.size_push]
    rcases List.mem_cons.mp hm with e | hm
    · rw [e]
      exact Nat.lt_succ_self _
    · rw [List.mem_singleton.mp hm]
      exact Nat.lt_succ_of_lt hlt
  · obtain ⟨tt, rfl⟩ := intItems_at hP
    obtain ⟨h1, h2⟩ := argBest_gt (numAt #[(i, a), (j, b)]) ((intItems #[(i, a), (j, b)]).size - 1)
    have e1 : (intItems #[(i, a), (j, b)]).size - 1 = 1 := by simp [intItems]
    rw [e1] at h1 h2 ⊢
    have n0 : numAt #[(i, a), (j, b)] 0 = i := rfl
    have n1 : numAt #[(i, a), (j, b)] 1 = j := rfl
    have g0 := h2 0 (by omega)
    have g1 := h2 1 (by omega)
    rw [n0] at g0
    rw [n1] at g1
    have ev : numAt #[(i, a), (j, b)] (argBest (fun k l => decide (numAt #[(i, a), (j, b)] k > numAt #[(i, a), (j, b)] l)) 1) = max i j := by
      generalize argBest (fun k l => decide (numAt #[(i, a), (j, b)] k > numAt #[(i, a), (j, b)] l)) 1 = z at h1 g0 g1 ⊢
      have hz : z = 0 ∨ z = 1 := by omega
      rcases hz with e | e
      · subst e; rw [n0] at g0 g1 ⊢; omega
      · subst e; rw [n1] at g0 g1 ⊢; omega
    refine ⟨.int (max i j), H, I.kept (t' := tk) fun b u e => hk b u (fun hmem => ?_) (Heap.get?_push_of_some _ e), ⟨tt, by rw [ev]⟩, q⟩
    have e2 := Heap.lt_size e
    rw [List.mem_singleton.mp hmem] at e2
    exact absurd e2 (Nat.lt_irrefl _)
/-- the order of pairs -/
def leP (p q : Int × Int) : Prop := p.1 < q.1 ∨ (p.1 = q.1 ∧ p.2 ≤ q.2)
def ltP (p q : Int × Int) : Prop := p.1 < q.1 ∨ (p.1 = q.1 ∧ p.2 < q.2)
/-- which pair stands at x -/
def kP (H : Hp) : V → Int × Int
  | .ref t => match H t with
    | some (.tup [.int i, .int j]) => (i, j)
    | _ => (0, 0)
  | _ => (0, 0)
theorem IsP.k {H : Hp} {x : V} {p : Int × Int} (h : IsP H x p) : kP H x = p := by
  obtain ⟨t, rfl, h⟩ := h
  simp only [kP, h]
/-- sorted(xs), xs a list of pairs -/
def rSortPr (K : PySem.W.Frag) : List V → Hp → VK → Prop := fun vs H Q => ∃ (a : Addr) (xs : List V) (ps : List (Int × Int)), vs = [V.ref a] ∧ SqL K H a xs ∧ Prs H xs ps ∧
  ∀ (ys : List V) (qs : List (Int × Int)) (p : Addr), qs.Perm ps → Prs H ys qs → qs.Pairwise leP → H p = none → Q (.ref p) (upd H p (.lst ys))
theorem prs_of_k {H : Hp} : ∀ {ys : List V}, (∀ y ∈ ys, IsP H y (kP H y)) → Prs H ys (ys.map (kP H))
  | [], _ => .nil
  | y :: ys, h => .cons (h y List.mem_cons_self) (prs_of_k fun z hz => h z (List.mem_cons_of_mem _ hz))
theorem prs_k {H : Hp} : ∀ {xs : List V} {ps : List (Int × Int)}, Prs H xs ps → xs.map (kP H) = ps
  | _, _, .nil => rfl
  | _, _, .cons h t => by rw [List.map_cons, h.k, prs_k t]
theorem cr_sortPr : CallR X (.builtin "sorted") (rSortPr X.K) := by
  intro pins s σ H vs us Q I r h
  obtain ⟨a, xs, ps, rfl, hs, hp, q⟩ := h
  have at_ : ∀ x ∈ xs, IsP H x (kP H x) := fun x hx => by
    obtain ⟨p, _, f⟩ := pd_mem hp hx
    rw [f.k]
    exact f
  refine cr_sortedPO pins s σ H [V.ref a] us Q I r ⟨a, xs, kP H, rfl, hs, fun x hx => ?_, fun ys p sr st hn => ?_⟩
  · obtain ⟨t, e, h⟩ := at_ x hx
    exact ⟨t, e, h⟩
  · refine q ys (ys.map (kP H)) p ?_ (prs_of_k fun y hy => at_ y (st.perm.mem_iff.mp hy)) ?_ hn
    · rw [← prs_k hp]
      exact st.perm.map _
    · refine List.pairwise_map.mpr (List.Pairwise.imp (fun {x y} h => ?_) sr)
      have h2 := SrtO.lexB_no.mp h
      unfold leP
      omega
end

set_option Elab.async false
set_option linter.all false
set_option maxRecDepth 100000
set_option maxHeartbeats 2000000
open PySem PySem.Spec PyProof.Rows L2
/-! ## steps of a reading -/
theorem int_beq (i j : Int) : (i == j) = decide (i = j) := by
  by_cases h : i = j <;> simp [h]
def rInt1 : List V → Hp → VK → Prop := fun xs H Q => (∃ i, xs = [.int i] ∧ Q (.int i) H) ∨ ∃ k, xs = [.bl k] ∧ Q (.int (if k then 1 else 0)) H
def rMin2 : List V → Hp → VK → Prop := fun xs H Q => ∃ i j, xs = [.int i, .int j] ∧ Q (.int (if j < i then j else i)) H
def rMax2 : List V → Hp → VK → Prop := fun xs H Q => ∃ i j, xs = [.int i, .int j] ∧ Q (.int (if j > i then j else i)) H
def rLen (K : PySem.W.Frag) : List V → Hp → VK → Prop := fun xs H Q => ∃ p ys, xs = [.ref p] ∧ (SqL K H p ys ∨ SqT K H p ys) ∧ Q (.int ys.length) H
def rListOf (K : PySem.W.Frag) : List V → Hp → VK → Prop := fun xs H Q => ∃ p ys, xs = [.ref p] ∧ (SqL K H p ys ∨ SqT K H p ys) ∧ ∀ l, H l = none → Q (.ref l) (upd H l (.lst ys))
def rTupOf (K : PySem.W.Frag) : List V → Hp → VK → Prop := fun xs H Q => ∃ p ys, xs = [.ref p] ∧ ((SqL K H p ys ∧ ∀ l, H l = none → Q (.ref l) (upd H l (.tup ys))) ∨ (SqT K H p ys ∧ Q (.ref p) H))
section
variable {X : Cx}
variable {K : PySem.W.Frag}
theorem ix_listK (h : X.K = K) : IxR X (rIxL K) := h ▸ ix_list
theorem ix_tupK (h : X.K = K) : IxR X (rIxT K) := h ▸ ix_tup
theorem ix_eitherK (h : X.K = K) : IxR X (fun x y H Q => rIxL K x y H Q ∨ rIxT K x y H Q) := h ▸ ix_list.or ix_tup
theorem sl_listK (h : X.K = K) : SlR X (rSlL K) := h ▸ sl_list
theorem sl_tupK (h : X.K = K) : SlR X (rSlT K) := h ▸ sl_tup
theorem op_inSeqK (h : X.K = K) : OpR X (compareOp .In) (rIn K false) := h ▸ op_in_seq
theorem op_ninSeqK (h : X.K = K) : OpR X (compareOp .NotIn) (rIn K true) := h ▸ op_notIn_seq
theorem op_inPK {k : Nat} (h : X.K = K) (hr : Room k X.A) : OpR X (compareOp .In) (rInP K) := h ▸ op_inTD hr
theorem op_ninPK {k : Nat} (h : X.K = K) (hr : Room k X.A) : OpR X (compareOp .NotIn) (rNinP K) := h ▸ op_notInTD hr
theorem op_eqDK (h : X.K = K) (hu : X.A.units + 64 < cLine) : OpR X (compareOp .Eq) (rEqD K) := h ▸ op_eqD hu
theorem op_neDK (h : X.K = K) (hu : X.A.units + 64 < cLine) : OpR X (compareOp .NotEq) (rNeD K) := h ▸ op_neD hu
theorem op_catTK (h : X.K = K) : OpR X (binaryOp .Add) (rCatT K) := h ▸ op_catT
theorem PE.bmK {e : Expr} {T : String} {r : V → List V → Hp → VK → Prop} {to : TE} {t : TA} (h : X.K = K) (p : PE X e (tBM X.K T r to t)) : PE X e (tBM K T r to t) := h ▸ p
theorem PG.tupK {e : Expr} {n : Nat} {t : TGs} (h : X.K = K) (p : PG X e (gTup X.K n t)) : PG X e (gTup K n t) := h ▸ p
theorem PI.listK {tg e : Expr} {tl : TE} (h : X.K = K) (p : PI X tg e (iList X.K tl)) : PI X tg e (iList K tl) := h ▸ p
theorem PI.tupK {tg e : Expr} {tl : TE} (h : X.K = K) (p : PI X tg e (iTup X.K tl)) : PI X tg e (iTup K tl) := h ▸ p
theorem mt_indexK (h : X.K = K) : MtR X "list.index" (rIndex K) := h ▸ mt_index
theorem cr_sortPrK (h : X.K = K) : CallR X (.builtin "sorted") (rSortPr K) := h ▸ cr_sortPr
theorem call_isiK (h : X.K = K) : CallR X (.builtin "isinstance") (rIsi K) := h ▸ call_isi
theorem call_lenK (h : X.K = K) : CallR X (.builtin "len") (rLen K) := h ▸ call_len_seq
theorem call_listK (h : X.K = K) : CallR X (.type "list") (rListOf K) := h ▸ call_list_of
theorem call_tupleK (h : X.K = K) : CallR X (.type "tuple") (rTupOf K) := h ▸ call_tuple_of
theorem call_int1' : CallR X (.type "int") rInt1 := call_int1
theorem call_min2' (hc : X.calm = true) : CallR X (.builtin "min") rMin2 := call_min2 hc
theorem call_max2' (hc : X.calm = true) : CallR X (.builtin "max") rMax2 := call_max2 hc
end
section
variable {K : PySem.W.Frag} {σ : L2.St} {H : Hp} {Q : VK} {ta tb tc te : TE} {t u : TT}
theorem r_var {i : Nat} {v : V} (h : σ[i]? = some (some v)) (q : Q v H) : tVar i σ H Q := ⟨v, h, q⟩
theorem r_c {v : V} (q : Q v H) : tC v σ H Q := q
theorem r_op {r : R2} (h : ta σ H fun x H1 => tb σ H1 fun y H2 => r x y H2 Q) : tOp r ta tb σ H Q := h
theorem r_un {r : V → Hp → VK → Prop} (h : ta σ H fun x H1 => r x H1 Q) : tUn r ta σ H Q := h
theorem r_i0 {g : Int → Int → V} {i j : Int} (q : Q (g i j) H) : rI0 g (.int i) (.int j) H Q := ⟨i, j, rfl, rfl, q⟩
theorem r_i {C : Int → Int → Prop} {g : Int → Int → V} {i j : Int} (c : C i j) (q : Q (g i j) H) : rI C g (.int i) (.int j) H Q := ⟨i, j, rfl, rfl, c, q⟩
theorem r_u {g : Int → V} {i : Int} (q : Q (g i) H) : rU g (.int i) H Q := ⟨i, rfl, q⟩
theorem r_eqI {i j : Int} (q : Q (.bl (decide (i = j))) H) : rEq (.int i) (.int j) H Q := ⟨rfl, by rw [dec_int, int_beq]; exact q⟩
theorem r_neI {i j : Int} (q : Q (.bl (!decide (i = j))) H) : rNe (.int i) (.int j) H Q := ⟨rfl, by rw [dec_int, int_beq]; exact q⟩
theorem r_neB {i j : Bool} (q : Q (.bl (!(i == j))) H) : rNe (.bl i) (.bl j) H Q := ⟨rfl, by rw [dec_bl]; exact q⟩
def TupN (Q : VK) (xs : List V) (H1 : Hp) : Prop := xs.length ≤ sizeLine ∧ ∀ p, H1 p = none → Q (.ref p) (upd H1 p (.tup xs))
def LstN (Q : VK) (xs : List V) (H1 : Hp) : Prop := xs.length ≤ sizeLine ∧ ∀ p, H1 p = none → Q (.ref p) (upd H1 p (.lst xs))
theorem r_tup {ta : TA} (h : ta σ H (TupN Q)) : tTup ta σ H Q := h
theorem r_lst {ta : TA} (h : ta σ H (LstN Q)) : tLst ta σ H Q := h
theorem r_tupN {xs : List V} (l : xs.length ≤ sizeLine) (q : ∀ p, H p = none → Q (.ref p) (upd H p (.tup xs))) : TupN Q xs H := ⟨l, q⟩
theorem r_lstN {xs : List V} (l : xs.length ≤ sizeLine) (q : ∀ p, H p = none → Q (.ref p) (upd H p (.lst xs))) : LstN Q xs H := ⟨l, q⟩
theorem r_nil {Q : List V → Hp → Prop} (q : Q [] H) : tNil σ H Q := q
theorem r_cons {tr : TA} {Q : List V → Hp → Prop} (h : ta σ H fun x H1 => tr σ H1 fun xs H2 => Q (x :: xs) H2) : tCons ta tr σ H Q := h
theorem r_call {sp : Sp} {dvs : List V} {E : XK} {ta : TA} (h : ta σ H fun vs H1 => sp (vs ++ dvs) H1 Q E) : tCall sp dvs E ta σ H Q := h
theorem r_cb {r : List V → Hp → VK → Prop} {ta : TA} (h : ta σ H fun vs H1 => r vs H1 Q) : tCB r ta σ H Q := h
def KB (Q : Bool → Hp → Prop) (x : V) (H : Hp) : Prop := ∃ k, x = .bl k ∧ Q k H
theorem r_test {Q : Bool → Hp → Prop} (h : te σ H fun x H1 => KB Q x H1) : tTest te σ H Q := h
theorem r_tB {Q : Bool → Hp → Prop} (h : te σ H fun x H1 => KB Q x H1) : tB te σ H Q := h
theorem r_k {Q : Bool → Hp → Prop} {b : Bool} (q : Q b H) : KB Q (.bl b) H := ⟨b, rfl, q⟩
theorem r_not {Q : Bool → Hp → Prop} (h : t σ H fun c H1 => Q (!c) H1) : tNot t σ H Q := h
theorem r_and {Q : Bool → Hp → Prop} (h : t σ H fun c H1 => if c = true then u σ H1 Q else Q false H1) : tAnd t u σ H Q := h
theorem r_or {Q : Bool → Hp → Prop} (h : t σ H fun c H1 => if c = true then Q true H1 else u σ H1 Q) : tOr t u σ H Q := h
theorem r_if (h : t σ H fun c H1 => if c = true then ta σ H1 Q else tb σ H1 Q) : tIf t ta tb σ H Q := h
def Bm (K : PySem.W.Frag) (T : String) (r : V → List V → Hp → VK → Prop) (ta : TA) (σ : L2.St) (Q : VK) (x : V) (H1 : Hp) : Prop := tyV K T x H1 ∧ ta σ H1 fun xs H2 => r x xs H2 Q
theorem r_bm {T : String} {r : V → List V → Hp → VK → Prop} {ta : TA} (h : te σ H (Bm K T r ta σ Q)) : tBM K T r te ta σ H Q := h
def AndN (tb : TE) (σ : L2.St) (Q : VK) (x : V) (H1 : Hp) : Prop := ∃ c, x = .bl c ∧ if c = true then tb σ H1 Q else Q (.bl false) H1
def OrN (tb : TE) (σ : L2.St) (Q : VK) (x : V) (H1 : Hp) : Prop := ∃ c, x = .bl c ∧ if c = true then Q (.bl true) H1 else tb σ H1 Q
def NotN (Q : VK) (x : V) (H1 : Hp) : Prop := ∃ c, x = .bl c ∧ Q (.bl (!c)) H1
theorem r_andV (h : ta σ H (AndN tb σ Q)) : tAndV ta tb σ H Q := h
theorem r_orV (h : ta σ H (OrN tb σ Q)) : tOrV ta tb σ H Q := h
theorem r_notV (h : ta σ H (NotN Q)) : tNotV ta σ H Q := h
theorem r_andN {c : Bool} (h : if c = true then tb σ H Q else Q (.bl false) H) : AndN tb σ Q (.bl c) H := ⟨c, rfl, h⟩
theorem r_orN {c : Bool} (h : if c = true then Q (.bl true) H else tb σ H Q) : OrN tb σ Q (.bl c) H := ⟨c, rfl, h⟩
theorem r_notN {c : Bool} (q : Q (.bl (!c)) H) : NotN Q (.bl c) H := ⟨c, rfl, q⟩
def PartN (Q : Option Int → Hp → Prop) (x : V) (H1 : Hp) : Prop := ∃ i, x = .int i ∧ Q (some i) H1
theorem r_sl {r : V → Option Int → Option Int → Hp → VK → Prop} {tl th : TO} (h : te σ H fun x H1 => tl σ H1 fun l H2 => th σ H2 fun u H3 => r x l u H3 Q) : tSl r te tl th σ H Q := h
theorem r_part {Q : Option Int → Hp → Prop} (h : te σ H (PartN Q)) : tPart te σ H Q := h
theorem r_partN {Q : Option Int → Hp → Prop} {i : Int} (q : Q (some i) H) : PartN Q (.int i) H := ⟨i, rfl, q⟩
theorem r_noPart {Q : Option Int → Hp → Prop} (q : Q none H) : tNoPart σ H Q := q
def LRg (Q : VK) (a b : Int) (H1 : Hp) : Prop := RgOk a b ∧ ∀ q, H1 q = none → Q (.ref q) (upd H1 q (.lst (rgV a b)))
def R1N (Q : Int → Int → Hp → Prop) (x : V) (H1 : Hp) : Prop := ∃ n, x = .int n ∧ Q 0 n H1
theorem r_lstRg {t : L2.St → Hp → (Int → Int → Hp → Prop) → Prop} (h : t σ H (LRg Q)) : tLstRg t σ H Q := h
theorem r_tRg1 {Q : Int → Int → Hp → Prop} (h : ta σ H (R1N Q)) : tRg1 ta σ H Q := h
theorem r_r1N {Q : Int → Int → Hp → Prop} {n : Int} (q : Q 0 n H) : R1N Q (.int n) H := ⟨n, rfl, q⟩
theorem r_bmL {r : V → List V → Hp → VK → Prop} {ta : TA} {p : Addr} {xs : List V} (h : SqL K H p xs) (q : ta σ H fun xs H2 => r (.ref p) xs H2 Q) : Bm K "list" r ta σ Q (.ref p) H := ⟨.inl ⟨rfl, _, h⟩, q⟩
theorem r_ixL {p : Addr} {xs : List V} {i : Int} {v : V} (h : SqL K H p xs) (a : atI xs i = some v) (q : Q v H) : rIxL K (.ref p) (.int i) H Q := ⟨p, xs, i, v, rfl, rfl, h, a, q⟩
theorem r_ixT {p : Addr} {xs : List V} {i : Int} {v : V} (h : SqT K H p xs) (a : atI xs i = some v) (q : Q v H) : rIxT K (.ref p) (.int i) H Q := ⟨p, xs, i, v, rfl, rfl, h, a, q⟩
variable {nx bk ct : L2.St → Hp → Prop} {a b : TS}
theorem r_next (q : nx σ H) : tNext ⟨nx, Q, bk, ct⟩ σ H := q
theorem r_seq (h : a ⟨b ⟨nx, Q, bk, ct⟩, Q, bk, ct⟩ σ H) : tSeq a b ⟨nx, Q, bk, ct⟩ σ H := h
/-- a block's tail, once for all ways that lead to it -/
theorem r_seqW (W : L2.St → Hp → Prop) (tail : ∀ σ' H', W σ' H' → b ⟨nx, Q, bk, ct⟩ σ' H') (head : ∀ B : L2.St → Hp → Prop, (∀ σ' H', W σ' H' → B σ' H') → a ⟨B, Q, bk, ct⟩ σ H) : tSeq a b ⟨nx, Q, bk, ct⟩ σ H := head _ tail
theorem r_ret (h : te σ H Q) : tRet te ⟨nx, Q, bk, ct⟩ σ H := h
theorem r_drop (h : te σ H fun _ H1 => nx σ H1) : tDrop te ⟨nx, Q, bk, ct⟩ σ H := h
theorem r_ifS (h : t σ H fun c H1 => if c = true then a ⟨nx, Q, bk, ct⟩ σ H1 else b ⟨nx, Q, bk, ct⟩ σ H1) : tIfS t a b ⟨nx, Q, bk, ct⟩ σ H := h
theorem r_asg {g : TG} (h : te σ H fun x H1 => g x σ H1 nx) : tAsg te g ⟨nx, Q, bk, ct⟩ σ H := h
theorem r_name1 {x0 x1 : Option V} {σ : L2.St} {v : V} {q : L2.St → Hp → Prop} (h : q (x0 :: some v :: σ) H) : gName 1 v (x0 :: x1 :: σ) H q := h
theorem r_name2 {x0 x1 x2 : Option V} {σ : L2.St} {v : V} {q : L2.St → Hp → Prop} (h : q (x0 :: x1 :: some v :: σ) H) : gName 2 v (x0 :: x1 :: x2 :: σ) H q := h
theorem r_name3 {x0 x1 x2 x3 : Option V} {σ : L2.St} {v : V} {q : L2.St → Hp → Prop} (h : q (x0 :: x1 :: x2 :: some v :: σ) H) : gName 3 v (x0 :: x1 :: x2 :: x3 :: σ) H q := h
theorem r_name4 {x0 x1 x2 x3 x4 : Option V} {σ : L2.St} {v : V} {q : L2.St → Hp → Prop} (h : q (x0 :: x1 :: x2 :: x3 :: some v :: σ) H) : gName 4 v (x0 :: x1 :: x2 :: x3 :: x4 :: σ) H q := h
theorem r_name5 {x0 x1 x2 x3 x4 x5 : Option V} {σ : L2.St} {v : V} {q : L2.St → Hp → Prop} (h : q (x0 :: x1 :: x2 :: x3 :: x4 :: some v :: σ) H) : gName 5 v (x0 :: x1 :: x2 :: x3 :: x4 :: x5 :: σ) H q := h
theorem r_name6 {x0 x1 x2 x3 x4 x5 x6 : Option V} {σ : L2.St} {v : V} {q : L2.St → Hp → Prop} (h : q (x0 :: x1 :: x2 :: x3 :: x4 :: x5 :: some v :: σ) H) : gName 6 v (x0 :: x1 :: x2 :: x3 :: x4 :: x5 :: x6 :: σ) H q := h
theorem r_name7 {x0 x1 x2 x3 x4 x5 x6 x7 : Option V} {σ : L2.St} {v : V} {q : L2.St → Hp → Prop} (h : q (x0 :: x1 :: x2 :: x3 :: x4 :: x5 :: x6 :: some v :: σ) H) : gName 7 v (x0 :: x1 :: x2 :: x3 :: x4 :: x5 :: x6 :: x7 :: σ) H q := h
theorem r_name8 {x0 x1 x2 x3 x4 x5 x6 x7 x8 : Option V} {σ : L2.St} {v : V} {q : L2.St → Hp → Prop} (h : q (x0 :: x1 :: x2 :: x3 :: x4 :: x5 :: x6 :: x7 :: some v :: σ) H) : gName 8 v (x0 :: x1 :: x2 :: x3 :: x4 :: x5 :: x6 :: x7 :: x8 :: σ) H q := h
theorem r_name9 {x0 x1 x2 x3 x4 x5 x6 x7 x8 x9 : Option V} {σ : L2.St} {v : V} {q : L2.St → Hp → Prop} (h : q (x0 :: x1 :: x2 :: x3 :: x4 :: x5 :: x6 :: x7 :: x8 :: some v :: σ) H) : gName 9 v (x0 :: x1 :: x2 :: x3 :: x4 :: x5 :: x6 :: x7 :: x8 :: x9 :: σ) H q := h
theorem r_name10 {x0 x1 x2 x3 x4 x5 x6 x7 x8 x9 x10 : Option V} {σ : L2.St} {v : V} {q : L2.St → Hp → Prop} (h : q (x0 :: x1 :: x2 :: x3 :: x4 :: x5 :: x6 :: x7 :: x8 :: x9 :: some v :: σ) H) : gName 10 v (x0 :: x1 :: x2 :: x3 :: x4 :: x5 :: x6 :: x7 :: x8 :: x9 :: x10 :: σ) H q := h
theorem r_sub {to ti : TE} {ts : TSet} {v : V} {q : L2.St → Hp → Prop} (h : to σ H fun o H1 => ti σ H1 fun i H2 => ts o i v H2 fun H3 => q σ H3) : gSub to ti ts v σ H q := h
theorem r_setL {p : Addr} {xs : List V} {k : Int} {j : Nat} {v : V} {q : Hp → Prop} (h : H p = some (.lst xs)) (e : ixN xs.length k = some j) (s : q (upd H p (.lst (xs.set j v)))) : rSetL (.ref p) (.int k) v H q := ⟨p, xs, k, j, rfl, rfl, h, e, s⟩
theorem r_set1 {p : Addr} {x0 x1 : V} {xs : List V} {v : V} {q : Hp → Prop} (h : H p = some (.lst (x0 :: x1 :: xs))) (s : q (upd H p (.lst (x0 :: v :: xs)))) : rSetL (.ref p) (.int 1) v H q := ⟨p, _, 1, 1, rfl, rfl, h, by
  unfold ixN
  rw [if_pos (by decide), if_pos (by simp only [List.length_cons]; omega)]
  rfl, s⟩
theorem r_set2 {p : Addr} {x0 x1 x2 : V} {xs : List V} {v : V} {q : Hp → Prop} (h : H p = some (.lst (x0 :: x1 :: x2 :: xs))) (s : q (upd H p (.lst (x0 :: x1 :: v :: xs)))) : rSetL (.ref p) (.int 2) v H q := ⟨p, _, 2, 2, rfl, rfl, h, by
  unfold ixN
  rw [if_pos (by decide), if_pos (by simp only [List.length_cons]; omega)]
  rfl, s⟩
theorem r_set2u {p : Addr} {x0 x1 x2 : V} {xs : List V} {v : V} {q : Hp → Prop} (s : q (upd H p (.lst (x0 :: x1 :: v :: xs)))) : rSetL (.ref p) (.int 2) v (upd H p (.lst (x0 :: x1 :: x2 :: xs))) q := r_set2 upd_same (by
  rw [upd_upd]
  exact s)
theorem r_set3 {p : Addr} {x0 x1 x2 x3 : V} {xs : List V} {v : V} {q : Hp → Prop} (h : H p = some (.lst (x0 :: x1 :: x2 :: x3 :: xs))) (s : q (upd H p (.lst (x0 :: x1 :: x2 :: v :: xs)))) : rSetL (.ref p) (.int 3) v H q := ⟨p, _, 3, 3, rfl, rfl, h, by
  unfold ixN
  rw [if_pos (by decide), if_pos (by simp only [List.length_cons]; omega)]
  rfl, s⟩
theorem r_gtup {n : Nat} {g : TGs} {p : Addr} {xs : List V} {q : L2.St → Hp → Prop} (h : SqT K H p xs) (l : xs.length = n) (s : g xs σ H q) : gTup K n g (.ref p) σ H q := ⟨p, xs, rfl, h, l, s⟩
theorem r_gcons {g : TG} {gs : TGs} {v : V} {r : List V} {q : L2.St → Hp → Prop} (h : g v σ H fun σ' H' => gs r σ' H' q) : gCons g gs (v :: r) σ H q := ⟨v, r, rfl, h⟩
theorem r_gnil {q : L2.St → Hp → Prop} (h : q σ H) : gNil [] σ H q := ⟨rfl, h⟩
/-- a test whose answer is open, or known -/
theorem r_ite {p : Prop} [Decidable p] {A B : Prop} (h1 : p → A) (h2 : ¬ p → B) : if decide p = true then A else B := by
  by_cases h : p
  · rw [decide_eq_true h, if_pos rfl]
    exact h1 h
  · rw [decide_eq_false h, if_neg Bool.false_ne_true]
    exact h2 h
theorem r_iteN {p : Prop} [Decidable p] {A B : Prop} (h1 : ¬ p → A) (h2 : p → B) : if (!decide p) = true then A else B := by
  by_cases h : p
  · rw [decide_eq_true h]
    exact iteF (h2 h)
  · rw [decide_eq_false h]
    exact iteT (h1 h)
theorem r_iteB {b : Bool} {A B : Prop} (h1 : b = true → A) (h2 : b = false → B) : if b = true then A else B := by
  cases b with
  | true => exact iteT (h1 rfl)
  | false => exact iteF (h2 rfl)
/-! loops: what is left once the iterated thing is there -/
def ForR (J : It) (g : TG) (tb : TS) (nx : L2.St → Hp → Prop) (Q : VK) (σ : L2.St) (H : Hp) : Prop := ∃ W : Nat → Nat → L2.St → Hp → Prop, (∃ m, W 0 m σ H) ∧ ∀ i m σ H, W i m σ H →
  (J.stop i H ∧ nx σ H) ∨ (J.go i H ∧ ∃ N : L2.St → Hp → Prop, (∀ σ' H', N σ' H' → ∃ m', m' < m ∧ W (i + 1) m' σ' H') ∧ ∀ x H', J.yld i H x H' → g x σ H' fun σ2 H2 => tb ⟨N, Q, nx, N⟩ σ2 H2)
theorem r_for {wi : TI} {g : TG} {tb : TS} (h : wi σ H fun J H1 => ForR J g tb nx Q σ H1) : tFor wi g tb ⟨nx, Q, bk, ct⟩ σ H := h
def Rg1 (R : It → Hp → Prop) (vs : List V) (H : Hp) : Prop := ∃ j : Int, vs = [.int j] ∧ -(2 ^ 62) ≤ j ∧ j < 2 ^ 62 ∧ R (Itr 0 j.toNat) H
def Rg2 (R : It → Hp → Prop) (vs : List V) (H : Hp) : Prop := ∃ i j : Int, vs = [.int i, .int j] ∧ (-(2 ^ 62) ≤ i ∧ i < 2 ^ 62 ∧ -(2 ^ 62) ≤ j ∧ j < 2 ^ 62) ∧ R (Itr i (j - i).toNat) H
theorem r_rng1 {ta : TA} {R : It → Hp → Prop} (h : ta σ H (Rg1 R)) : iRng1 ta σ H R := h
theorem r_rng2 {ta : TA} {R : It → Hp → Prop} (h : ta σ H (Rg2 R)) : iRng2 ta σ H R := h
theorem r_rg1 {j : Int} {R : It → Hp → Prop} (h1 : -4611686018427387904 ≤ j ∧ j < 4611686018427387904) (h : R (Itr 0 j.toNat) H) : Rg1 R [V.int j] H := ⟨j, rfl, h1.1, h1.2, h⟩
theorem r_rg2 {i j : Int} {R : It → Hp → Prop} (h1 : -4611686018427387904 ≤ i ∧ i < 4611686018427387904 ∧ -4611686018427387904 ≤ j ∧ j < 4611686018427387904) (h : R (Itr i (j - i).toNat) H) : Rg2 R [V.int i, V.int j] H := ⟨i, j, rfl, h1, h⟩
def Il (K : PySem.W.Frag) (R : It → Hp → Prop) (x : V) (H : Hp) : Prop := ∃ a, x = .ref a ∧ (∃ xs, SqL K H a xs) ∧ R (Itl K a) H
def Itp (K : PySem.W.Frag) (R : It → Hp → Prop) (x : V) (H : Hp) : Prop := ∃ a, x = .ref a ∧ (∃ xs, SqT K H a xs) ∧ R (Itt K a) H
theorem r_ilist {R : It → Hp → Prop} (h : te σ H (Il K R)) : iList K te σ H R := h
theorem r_itup {R : It → Hp → Prop} (h : te σ H (Itp K R)) : iTup K te σ H R := h
theorem r_il {a : Addr} {xs : List V} {R : It → Hp → Prop} (h : SqL K H a xs) (q : R (Itl K a) H) : Il K R (.ref a) H := ⟨a, rfl, ⟨xs, h⟩, q⟩
theorem r_it {a : Addr} {xs : List V} {R : It → Hp → Prop} (h : SqT K H a xs) (q : R (Itt K a) H) : Itp K R (.ref a) H := ⟨a, rfl, ⟨xs, h⟩, q⟩
theorem forR_range {lo : Int} {n : Nat} {g : TG} {tb : TS} (Pv : Nat → L2.St → Hp → Prop) (h0 : Pv 0 σ H)
    (hs : ∀ (i : Nat) σ H, i < n → Pv i σ H → g (.int (lo + i)) σ H fun σ2 H2 => tb ⟨Pv (i + 1), Q, nx, Pv (i + 1)⟩ σ2 H2) (hd : ∀ σ H, Pv n σ H → nx σ H) : ForR (Itr lo n) g tb nx Q σ H :=
  for_range (D := ⟨nx, Q, nx, nx⟩) Pv h0 hs hd
theorem forR_list {a : Addr} {xs : List V} {g : TG} {tb : TS} (Pv : Nat → L2.St → Hp → Prop) (h0 : Pv 0 σ H) (hl : ∀ i σ H, i ≤ xs.length → Pv i σ H → SqL K H a xs)
    (hs : ∀ (i : Nat) x σ H, xs[i]? = some x → Pv i σ H → g x σ H fun σ2 H2 => tb ⟨Pv (i + 1), Q, nx, Pv (i + 1)⟩ σ2 H2) (hd : ∀ σ H, Pv xs.length σ H → nx σ H) : ForR (Itl K a) g tb nx Q σ H :=
  for_list (D := ⟨nx, Q, nx, nx⟩) Pv h0 hl hs hd
theorem forR_tup {a : Addr} {xs : List V} {g : TG} {tb : TS} (Pv : Nat → L2.St → Hp → Prop) (h0 : Pv 0 σ H) (hl : ∀ i σ H, i ≤ xs.length → Pv i σ H → SqT K H a xs)
    (hs : ∀ (i : Nat) x σ H, xs[i]? = some x → Pv i σ H → g x σ H fun σ2 H2 => tb ⟨Pv (i + 1), Q, nx, Pv (i + 1)⟩ σ2 H2) (hd : ∀ σ H, Pv xs.length σ H → nx σ H) : ForR (Itt K a) g tb nx Q σ H :=
  for_tup (D := ⟨nx, Q, nx, nx⟩) Pv h0 hl hs hd
/-! comprehensions likewise -/
def LcR (J : It) (g : TG) (tt : TT) (te : TE) (vs : List Nat) (σ : L2.St) (D : Addr) (Q : VK) (H1 : Hp) : Prop := ∃ W : Nat → Nat → Hp → Prop, (∃ m, W 0 m (upd H1 D (.lst []))) ∧ ∀ i m H, W i m H →
  (J.stop i H ∧ Q (.ref D) H) ∨ (J.go i H ∧ ∃ Nx : Hp → Prop, (∀ H', Nx H' → ∃ m', m' < m ∧ W (i + 1) m' H') ∧ ∀ x H', J.yld i H x H' → g x (wipe σ vs) H' fun σ2 H2 => wipe σ2 vs = wipe σ vs ∧ tt σ2 H2 fun b H3 =>
    if b = true then te σ2 H3 fun y H4 => ∃ acc, H4 D = some (.lst acc) ∧ acc.length < sizeLine ∧ Nx (upd H4 D (.lst (acc ++ [y]))) else Nx H3)
theorem r_lc {wi : TI} {g : TG} {tt : TT} {vs : List Nat} (h : wi σ H fun J H1 => ∀ D, H1 D = none → LcR J g tt te vs σ D Q H1) : tLc wi g tt te vs σ H Q := h
/-- one turn's end of a comprehension: the item goes to D -/
def LcE (D : Addr) (N : Hp → Prop) (y : V) (H4 : Hp) : Prop := ∃ acc, H4 D = some (.lst acc) ∧ acc.length < sizeLine ∧ N (upd H4 D (.lst (acc ++ [y])))
theorem lcR_range {lo : Int} {n : Nat} {g : TG} {tt : TT} {vs : List Nat} {D : Addr} {σw : L2.St} (Pv : Nat → Hp → Prop) (ew : wipe σ vs = σw) (h0 : Pv 0 (upd H D (.lst [])))
    (hs : ∀ (i : Nat) H, i < n → Pv i H → g (.int (lo + i)) σw H fun σ2 H2 => wipe σ2 vs = σw ∧ tt σ2 H2 fun b H3 => if b = true then te σ2 H3 (LcE D (Pv (i + 1))) else Pv (i + 1) H3) (hd : ∀ H, Pv n H → Q (.ref D) H) :
    LcR (Itr lo n) g tt te vs σ D Q H := by
  subst ew
  exact lc_range (Qd := Q (.ref D)) Pv h0 hs hd
theorem lcR_list {a : Addr} {xs : List V} {g : TG} {tt : TT} {vs : List Nat} {D : Addr} {σw : L2.St} (Pv : Nat → Hp → Prop) (ew : wipe σ vs = σw) (h0 : Pv 0 (upd H D (.lst []))) (hl : ∀ i H, i ≤ xs.length → Pv i H → SqL K H a xs)
    (hs : ∀ (i : Nat) x H, xs[i]? = some x → Pv i H → g x σw H fun σ2 H2 => wipe σ2 vs = σw ∧ tt σ2 H2 fun b H3 => if b = true then te σ2 H3 (LcE D (Pv (i + 1))) else Pv (i + 1) H3) (hd : ∀ H, Pv xs.length H → Q (.ref D) H) :
    LcR (Itl K a) g tt te vs σ D Q H := by
  subst ew
  exact lc_list (Qd := Q (.ref D)) Pv h0 hl hs hd
theorem lcR_tup {a : Addr} {xs : List V} {g : TG} {tt : TT} {vs : List Nat} {D : Addr} {σw : L2.St} (Pv : Nat → Hp → Prop) (ew : wipe σ vs = σw) (h0 : Pv 0 (upd H D (.lst []))) (hl : ∀ i H, i ≤ xs.length → Pv i H → SqT K H a xs)
    (hs : ∀ (i : Nat) x H, xs[i]? = some x → Pv i H → g x σw H fun σ2 H2 => wipe σ2 vs = σw ∧ tt σ2 H2 fun b H3 => if b = true then te σ2 H3 (LcE D (Pv (i + 1))) else Pv (i + 1) H3) (hd : ∀ H, Pv xs.length H → Q (.ref D) H) :
    LcR (Itt K a) g tt te vs σ D Q H := by
  subst ew
  exact lc_tup (Qd := Q (.ref D)) Pv h0 hl hs hd
theorem r_yes {Q : Bool → Hp → Prop} (q : Q true H) : tYes σ H Q := q
theorem r_lce {D : Addr} {N : Hp → Prop} {y : V} {acc : List V} (h : H D = some (.lst acc)) (l : acc.length < sizeLine) (q : N (upd H D (.lst (acc ++ [y])))) : LcE D N y H := ⟨acc, h, l, q⟩
theorem r_int1 {i : Int} (q : Q (.int i) H) : rInt1 [.int i] H Q := .inl ⟨i, rfl, q⟩
theorem r_int1b {b : Bool} (q : Q (.int (if b then 1 else 0)) H) : rInt1 [.bl b] H Q := .inr ⟨b, rfl, q⟩
theorem r_min2 {i j : Int} (q : Q (.int (min i j)) H) : rMin2 [.int i, .int j] H Q := ⟨i, j, rfl, by
  rw [show (if j < i then j else i) = min i j by split <;> omega]
  exact q⟩
theorem r_max2 {i j : Int} (q : Q (.int (max i j)) H) : rMax2 [.int i, .int j] H Q := ⟨i, j, rfl, by
  rw [show (if j > i then j else i) = max i j by split <;> omega]
  exact q⟩
theorem r_lenL {p : Addr} {ys : List V} (h : SqL K H p ys) (q : Q (.int ys.length) H) : rLen K [.ref p] H Q := ⟨p, ys, rfl, .inl h, q⟩
theorem r_lenT {p : Addr} {ys : List V} (h : SqT K H p ys) (q : Q (.int ys.length) H) : rLen K [.ref p] H Q := ⟨p, ys, rfl, .inr h, q⟩
theorem r_listL {p : Addr} {ys : List V} (h : SqL K H p ys) (q : ∀ l, H l = none → Q (.ref l) (upd H l (.lst ys))) : rListOf K [.ref p] H Q := ⟨p, ys, rfl, .inl h, q⟩
theorem r_listT {p : Addr} {ys : List V} (h : SqT K H p ys) (q : ∀ l, H l = none → Q (.ref l) (upd H l (.lst ys))) : rListOf K [.ref p] H Q := ⟨p, ys, rfl, .inr h, q⟩
theorem r_tupL {p : Addr} {ys : List V} (h : SqL K H p ys) (q : ∀ l, H l = none → Q (.ref l) (upd H l (.tup ys))) : rTupOf K [.ref p] H Q := ⟨p, ys, rfl, .inl ⟨h, q⟩⟩
theorem r_at {N : List PySem.Str} {vs : List V} {t : TS} {D : Ends} (e : L2.start N vs = σ) (h : t D σ H) : t D (L2.start N vs) H := by
  rw [e]
  exact h
/-! methods of lists -/
theorem r_appT {l : Addr} {xs : List V} {y : V} (h : H l = some (.lst xs)) (s : xs.length < sizeLine) (q : Q .non (upd H l (.lst (xs ++ [y])))) : rAppend (.ref l) [y] H Q := ⟨l, xs, y, rfl, rfl, h, s, q⟩
end
theorem at_int {ns : List Int} {p : Int} (h0 : 0 ≤ p) (h1 : p < ns.length) : ∃ c ∈ ns, atI (ns.map V.int) p = some (.int c) := by
  have hlt : p.toNat < ns.length := by omega
  refine ⟨ns[p.toNat], List.getElem_mem hlt, at_of (j := p.toNat) (by omega) ?_⟩
  rw [List.getElem?_map, List.getElem?_eq_getElem hlt]
  rfl
/-- 0 .. n - 1 -/
def rgI (n : Int) : List Int := (List.range n.toNat).map fun (i : Nat) => (i : Int)
theorem rgI_len (n : Int) : (rgI n).length = n.toNat := by
  unfold rgI
  rw [List.length_map, List.length_range]
theorem mem_rgI {n z : Int} : z ∈ rgI n ↔ 0 ≤ z ∧ z < n := by
  unfold rgI
  rw [List.mem_map]
  constructor
  · rintro ⟨i, hi, rfl⟩
    rw [List.mem_range] at hi
    omega
  · rintro ⟨h1, h2⟩
    exact ⟨z.toNat, List.mem_range.mpr (by omega), by omega⟩
theorem rgI_nodup (n : Int) : (rgI n).Nodup := by
  unfold rgI
  exact List.pairwise_map.mpr (List.nodup_range.imp fun {i j} h e => h (by omega))
theorem rgV_rgI (n : Int) : rgV 0 n = (rgI n).map V.int := by
  unfold rgV rgI
  rw [List.map_map, Int.sub_zero]
  refine List.map_congr_left fun i _ => ?_
  show V.int (0 + (i : Int)) = V.int (i : Int)
  rw [Int.zero_add]
theorem r_lRg {H : Hp} {Q : VK} {n : Int} (h0 : 0 ≤ n) (h1 : n ≤ 10000) (q : ∀ p, H p = none → Q (.ref p) (upd H p (.lst ((rgI n).map V.int)))) : LRg Q 0 n H := ⟨.of_le (by omega) (by omega) (by omega) h0, fun p hp => by
  rw [rgV_rgI]
  exact q p hp⟩
theorem small_len {n : Nat} (h : n ≤ 100000) : n ≤ sizeLine := Nat.le_trans h (by decide)
theorem small_lt {n : Nat} (h : n < 100000) : n < sizeLine := Nat.lt_of_lt_of_le h (by decide)

set_option Elab.async false
set_option linter.all false
open PySem PySem.Spec PyProof.Rows L2
/-! ## the mathematics of pairs -/
def rowP (u lo : Int) (k : Nat) : List (Int × Int) := (List.range k).map fun (j : Nat) => (u, lo + (j : Int))
theorem rowP_succ (u lo : Int) (k : Nat) : rowP u lo (k + 1) = rowP u lo k ++ [(u, lo + (k : Int))] := by
  unfold rowP
  rw [List.range_succ, List.map_append]
  rfl
theorem mem_rowP {u lo : Int} {k : Nat} {p : Int × Int} : p ∈ rowP u lo k ↔ p.1 = u ∧ lo ≤ p.2 ∧ p.2 < lo + k := by
  unfold rowP
  rw [List.mem_map]
  constructor
  · rintro ⟨j, hj, rfl⟩
    rw [List.mem_range] at hj
    exact ⟨rfl, by show lo ≤ lo + (j : Int); omega, by show lo + (j : Int) < lo + k; omega⟩
  · obtain ⟨a, b⟩ := p
    rintro ⟨h1, h2, h3⟩
    refine ⟨(b - lo).toNat, List.mem_range.mpr (by simp only at h2 h3; omega), ?_⟩
    simp only at h1 h2 h3 ⊢
    rw [h1, show lo + ((b - lo).toNat : Int) = b by omega]
theorem rowP_asc (u lo : Int) : ∀ k, (rowP u lo k).Pairwise ltP
  | 0 => List.Pairwise.nil
  | k + 1 => by
    rw [rowP_succ]
    refine List.pairwise_append.mpr ⟨rowP_asc u lo k, List.pairwise_singleton _ _, fun p hp q hq => ?_⟩
    obtain ⟨h1, h2, h3⟩ := mem_rowP.mp hp
    rw [List.mem_singleton.mp hq]
    exact .inr ⟨h1, h3⟩
theorem rowP_len (u lo : Int) (k : Nat) : (rowP u lo k).length = k := by
  unfold rowP
  rw [List.length_map, List.length_range]
def preP (n : Nat) : Nat → List (Int × Int)
  | 0 => []
  | i + 1 => preP n i ++ rowP (i : Int) ((i : Int) + 1) (n - 1 - i)
def allP (n : Nat) : List (Int × Int) := preP n n
theorem mem_preP {n : Nat} {p : Int × Int} : ∀ {i : Nat}, i ≤ n → (p ∈ preP n i ↔ 0 ≤ p.1 ∧ p.1 < i ∧ p.1 < p.2 ∧ p.2 < n)
  | 0, _ => by
    constructor
    · intro h
      cases h
    · rintro ⟨h1, h2, _⟩
      have h2 : p.1 < 0 := h2
      omega
  | i + 1, hi => by
    show p ∈ preP n i ++ rowP (i : Int) ((i : Int) + 1) (n - 1 - i) ↔ _
    rw [List.mem_append, mem_preP (by omega : i ≤ n), mem_rowP]
    constructor
    · rintro (⟨h1, h2, h3, h4⟩ | ⟨h1, h2, h3⟩)
      · exact ⟨h1, by omega, h3, h4⟩
      · exact ⟨by omega, by omega, by omega, by omega⟩
    · rintro ⟨h1, h2, h3, h4⟩
      by_cases e : p.1 = (i : Int)
      · exact .inr ⟨e, by omega, by omega⟩
      · exact .inl ⟨h1, by omega, h3, h4⟩
theorem mem_allP {n : Nat} {p : Int × Int} : p ∈ allP n ↔ 0 ≤ p.1 ∧ p.1 < p.2 ∧ p.2 < n := by
  unfold allP
  rw [mem_preP (Nat.le_refl n)]
  omega
theorem preP_asc {n : Nat} : ∀ {i : Nat}, i ≤ n → (preP n i).Pairwise ltP
  | 0, _ => .nil
  | i + 1, hi => by
    show (preP n i ++ rowP (i : Int) ((i : Int) + 1) (n - 1 - i)).Pairwise ltP
    refine List.pairwise_append.mpr ⟨preP_asc (by omega), rowP_asc _ _ _, fun p hp q hq => ?_⟩
    have h1 := (mem_preP (by omega : i ≤ n)).mp hp
    have h2 := mem_rowP.mp hq
    exact .inl (by omega)
theorem allP_asc (n : Nat) : (allP n).Pairwise ltP := preP_asc (Nat.le_refl n)
theorem preP_len {n : Nat} : ∀ {i : Nat}, (preP n i).length ≤ i * n
  | 0 => Nat.zero_le _
  | i + 1 => by
    show (preP n i ++ rowP (i : Int) ((i : Int) + 1) (n - 1 - i)).length ≤ _
    rw [List.length_append, rowP_len, Nat.succ_mul]
    have := preP_len (n := n) (i := i)
    omega
theorem ltP_irrefl (p : Int × Int) : ¬ ltP p p := by
  unfold ltP
  omega
theorem ltP_trans {p q r : Int × Int} (h1 : ltP p q) (h2 : ltP q r) : ltP p r := by
  unfold ltP at *
  omega
theorem ltP_of_le_ne {p q : Int × Int} (h : leP p q) (n : p ≠ q) : ltP p q := by
  obtain ⟨a, b⟩ := p
  obtain ⟨c, d⟩ := q
  unfold leP at h
  unfold ltP
  simp only at *
  by_cases h2 : a = c
  · by_cases h3 : b = d
    · exact absurd (by rw [h2, h3]) n
    · omega
  · omega
theorem asc_nodup {ps : List (Int × Int)} (h : ps.Pairwise ltP) : ps.Nodup := by
  refine List.Pairwise.imp (R := ltP) (fun {p q} h => ?_) h
  intro e
  rw [e] at h
  exact ltP_irrefl q h
theorem nodup_le {α : Type} [DecidableEq α] : ∀ (l m : List α), l.Nodup → (∀ x ∈ l, x ∈ m) → l.length ≤ m.length
  | [], _, _, _ => Nat.zero_le _
  | x :: l, m, hn, hs => by
    obtain ⟨h1, h2⟩ := List.nodup_cons.mp hn
    have hx : x ∈ m := hs x List.mem_cons_self
    have ih := nodup_le l (m.erase x) h2 fun y hy => by
      have hne : y ≠ x := by
        intro e
        rw [e] at hy
        exact h1 hy
      exact (List.mem_erase_of_ne hne).2 (hs y (List.mem_cons_of_mem _ hy))
    have e := List.length_erase_of_mem hx
    have p := List.length_pos_of_mem hx
    simp only [List.length_cons]
    omega
/-- what the walk over the sorted rows keeps: ascending, the same members, the same last one -/
structure Ded (qs fs : List (Int × Int)) : Prop where
  asc : fs.Pairwise ltP
  mem : ∀ p, p ∈ fs ↔ p ∈ qs
  last : fs.getLast? = qs.getLast?
theorem Ded.nil : Ded [] [] := ⟨.nil, fun _ => Iff.rfl, rfl⟩
theorem last_snoc {α : Type} (l : List α) (x : α) : (l ++ [x]).getLast? = some x := by simp
/-- the last row again -/
theorem Ded.same {qs fs : List (Int × Int)} {q : Int × Int} (D : Ded qs fs) (h : fs.getLast? = some q) : Ded (qs ++ [q]) fs := by
  refine ⟨D.asc, fun p => ?_, by rw [last_snoc, h]⟩
  rw [List.mem_append, List.mem_singleton, D.mem]
  constructor
  · exact .inl
  · rintro (z | z)
    · exact z
    · rw [z, ← D.mem]
      exact List.mem_of_getLast? h
/-- another one -/
theorem Ded.more {qs fs : List (Int × Int)} {q : Int × Int} (D : Ded qs fs) (hl : (qs ++ [q]).Pairwise leP) (h : fs.getLast? ≠ some q) : Ded (qs ++ [q]) (fs ++ [q]) := by
  refine ⟨?_, fun p => ?_, by rw [last_snoc, last_snoc]⟩
  · refine List.pairwise_append.mpr ⟨D.asc, List.pairwise_singleton _ _, fun p hp r hr => ?_⟩
    rw [List.mem_singleton.mp hr]
    obtain ⟨l1, _, l3⟩ := List.pairwise_append.mp hl
    have hle : ∀ z ∈ qs, leP z q := fun z hz => l3 z hz q (List.mem_singleton.mpr rfl)
    -- fs is not empty; its last one is not q
    obtain ⟨z, hz⟩ : ∃ z, fs.getLast? = some z := by
      cases e : fs.getLast? with
      | some z => exact ⟨z, rfl⟩
      | none =>
        rw [List.getLast?_eq_none_iff] at e
        rw [e] at hp
        cases hp
    have zq : ltP z q := ltP_of_le_ne (hle z ((D.mem z).mp (List.mem_of_getLast? hz))) fun e => h (by rw [hz, e])
    obtain ⟨pre, e⟩ : ∃ pre, fs = pre ++ [z] := by
      obtain ⟨hne, e⟩ := List.getLast?_eq_some_iff.mp hz
      exact ⟨_, e⟩
    rw [e] at hp
    rcases List.mem_append.mp hp with h1 | h1
    · have a := D.asc
      rw [e] at a
      exact ltP_trans ((List.pairwise_append.mp a).2.2 p h1 z (List.mem_singleton.mpr rfl)) zq
    · rw [List.mem_singleton.mp h1]
      exact zq
  · rw [List.mem_append, List.mem_append, D.mem]
theorem sz1 {a : V} : [a].length ≤ sizeLine := by show 1 ≤ sizeLine; decide
theorem sz2 {a b : V} : [a, b].length ≤ sizeLine := by show 2 ≤ sizeLine; decide
theorem sz3 {a b c : V} : [a, b, c].length ≤ sizeLine := by show 3 ≤ sizeLine; decide
theorem at_last {zs : List V} {z : V} (h : zs.getLast? = some z) : atI zs (-1) = some z := by
  obtain ⟨pre, e⟩ := List.getLast?_eq_some_iff.mp h
  rw [e]
  exact atI_last _ _
theorem pd_last {α β : Type} {F : α → β → Prop} {xs : List α} {ps : List β} {p : β} (h : Paired F xs ps) (hp : ps.getLast? = some p) : ∃ x, xs.getLast? = some x ∧ F x p := by
  rw [List.getLast?_eq_getElem?] at hp
  obtain ⟨x, hx, f⟩ := pd_get2 h hp
  refine ⟨x, ?_, f⟩
  rw [List.getLast?_eq_getElem?, h.length]
  exact hx
section
variable {K : PySem.W.Frag} {H : Hp} {Q : VK}
theorem r_eqNil {f e : Addr} {xs : List V} {ps : List (Int × Int)} (h : H f = some (.lst xs)) (he : H e = some (.lst [])) (hp : Prs H xs ps) (q : Q (.bl (decide (ps = []))) H) : rEqD K (.ref f) (.ref e) H Q := by
  refine ⟨.list (ps.map prD2), .list [], .lst (.inl (.inl h)) hp.dps, .lst (.inl (.inl he)) .nil, prD2s_shL ps, prD2s_shL [], ?_⟩
  cases ps with
  | nil => exact q
  | cons p ps => exact q
theorem r_neP {x y : V} {p r : Int × Int} (hx : IsP H x p) (hy : IsP H y r) (q : Q (.bl (!decide (p = r))) H) : rNeD K x y H Q :=
  ⟨prD2 p, prD2 r, hx.dp, hy.dp, prD2_shaped p, prD2_shaped r, by rw [prD2_eqv]; exact q⟩
end
/-- a pair with its less end first -/
def nrm (p : Int × Int) : Int × Int := (min p.1 p.2, max p.1 p.2)
/-- a graph: the number of vertices, the ascending edges -/
structure GoodG (n : Int) (ps : List (Int × Int)) : Prop where
  one : 1 ≤ n
  asc : ps.Pairwise ltP
  inn : ∀ p ∈ ps, 0 ≤ p.1 ∧ p.1 < p.2 ∧ p.2 < n

set_option Elab.async false
set_option linter.all false
set_option maxRecDepth 100000
set_option maxHeartbeats 4000000
open PySem PySem.Spec PyProof.Rows L2
/-! # sets of tuples that a comprehension lays -/
section
variable {X : Cx}
variable {elt tg iter : Expr} {ifs : List Expr} {scope : Scope} {own : List (PySem.Str × Nat)} {pos : Pos} {wi : TI} {g : TG} {tt : TT} {te : TE}
end
section
variable {X : Cx} {K : PySem.W.Frag} {P : Program} {w : World}
variable {σ : L2.St} {H : Hp} {Q : VK}
end
section
variable {P : Program} {w : World} {K : PySem.W.Frag} {mg : Str → Option Value} {base : Heap}
/-- a promise that nothing keeps to is kept -/
theorem fn_none {k : Nat} {f : Addr} {fd : FuncData} {ps : List PySem.Str} {CX : CXT} : FnOk P w K mg base CX k f fd ps (fun _ _ _ _ => False) := ⟨fun _ _ _ _ h => h.elim, fun _ _ _ _ _ _ _ _ _ _ _ _ _ h => h.elim⟩
theorem r_ixE {H : Hp} {Q : VK} {l : Addr} {xs : List V} {i : Int} {v : V} (h : SqL K H l xs ∨ SqT K H l xs) (e : atI xs i = some v) (q : Q v H) : rIxL K (.ref l) (.int i) H Q ∨ rIxT K (.ref l) (.int i) H Q := by
  rcases h with h | h
  · exact .inl (r_ixL h e q)
  · exact .inr (r_ixT h e q)
end

set_option Elab.async false
set_option linter.all false
set_option maxRecDepth 100000
set_option maxHeartbeats 4000000
open PySem PySem.Spec PyProof.Rows L2
section
variable {K : PySem.W.Frag} {mg : Str → Option Value} {x : Str}
variable {σ : L2.St} {H : Hp} {Q : VK}
theorem rel_ref {a : Addr} : RelV (.ref a) (.ref a) := rfl
theorem rel_int {i : Int} {t : Tok} : RelV (.int i) (.int i t) := ⟨t, rfl⟩
/-! chains of comparisons -/
def ChN (r' : R2) (tc : TE) (σ : L2.St) (Q : VK) (y : V) : VK := fun z H3 => ∃ k, z = .bl k ∧ (if k = true then tc σ H3 fun w' H4 => r' y w' H4 Q else Q (.bl false) H3)
theorem r_chain {r r' : R2} {ta tb tc : TE} (h : ta σ H fun x H1 => tb σ H1 fun y H2 => r x y H2 (ChN r' tc σ Q y)) : tChain r r' ta tb tc σ H Q := h
theorem r_chn {r' : R2} {tc : TE} {y : V} {b : Bool} (h : if b = true then tc σ H fun w' H4 => r' y w' H4 Q else Q (.bl false) H) : ChN r' tc σ Q y (.bl b) H := ⟨b, rfl, h⟩
end

set_option Elab.async false
set_option linter.all false
set_option maxRecDepth 100000
set_option maxHeartbeats 4000000
open PySem PySem.Spec PyProof.Rows L2
/-! # enumerate over a tuple -/
section
variable {prog : Program} {w : World} {A : Around} {E : Value → Shared → Prop} {s : Shared}
end
/-! # dicts whose keys are tuples, laid by a comprehension -/
section
variable {X : Cx}
variable {kx vx tg iter : Expr} {ifs : List Expr} {scope : Scope} {own : List (PySem.Str × Nat)} {pos : Pos} {wi : TI} {g : TG} {tt : TT} {tk tv : TE}
end

set_option Elab.async false
set_option linter.all false
set_option maxRecDepth 100000
set_option maxHeartbeats 4000000
open PySem PySem.Spec PyProof.Rows L2
section
variable {X : Cx} {K : PySem.W.Frag} {P : Program} {w : World} {σ : L2.St} {H : Hp} {Q : VK} {D : Addr}
/-! ## number dicts -/
/-! ## two clauses -/
/-! ## what dicts hold -/
def DgN (Q : VK) (x : V) : VK := fun y H2 => ∃ a v, x = .ref a ∧ DGet H2 a y (some v) ∧ Q v H2
theorem r_dget {td ty : TE} (h : td σ H fun x H1 => ty σ H1 (DgN Q x)) : tDGet td ty σ H Q := h
theorem r_dgK {a : Addr} {kvs : List (L2.Key × V)} {i : Int} {v : V} (h : H a = some (.dK kvs)) (e : valV kvs (.inl i) = some v) (q : Q v H) : DgN Q (.ref a) (.int i) H := ⟨a, v, rfl, e ▸ DGet.k (k := .inl i) h, q⟩
def DnN (Q : VK) (y : V) : VK := fun x H2 => ∃ a o, x = .ref a ∧ DGet H2 a y o ∧ Q (.bl (!o.isSome)) H2
theorem r_dnot {td ty : TE} (h : ty σ H fun y H1 => td σ H1 (DnN Q y)) : tDNotIn ty td σ H Q := h
theorem op_catAK (h : X.K = K) : OpR X (binaryOp .Add) (rCatA K) := h ▸ op_catA
theorem r_catA {l b : Addr} {xs zs : List V} (h1 : H l = some (.tup xs)) (h2 : H b = some (.tup zs)) (hz : xs.length + zs.length ≤ 100000) (q : ∀ p H', Same H H' → H' p = some (.tup (xs ++ zs)) → Q (.ref p) H') : rCatA K (.ref l) (.ref b) H Q := by
  refine ⟨l, b, xs, zs, rfl, rfl, .inl (.inl h1), .inl (.inl h2), small_len hz, fun e => ?_, fun e1 e2 => ?_, fun e1 e2 p hp => q p _ (same_new hp) upd_same⟩
  · subst e
    exact q b H (fun _ _ h => h) h2
  · subst e2
    refine q l H (fun _ _ h => h) ?_
    rw [List.append_nil]
    exact h1
end

set_option Elab.async false
set_option linter.all false
set_option maxRecDepth 100000
set_option maxHeartbeats 4000000
open PySem PySem.Spec PyProof.Rows L2
/-! # match on tuples: a word, then names -/
/-- each pattern of these is a bare name -/
inductive Caps : List Pattern → List PySem.Str → Prop where
  | nil : Caps [] []
  | cons {ps : List Pattern} {ns : List PySem.Str} (n : PySem.Str) (p : Pos) (r : Caps ps ns) : Caps (.MatchAs none (some n) p :: ps) (n :: ns)
section
variable {M : Model} {A : Around} {E : Value → Shared → Prop} {env : Env}
theorem caps_each {ps : List Pattern} {ns : List PySem.Str} (c : Caps ps ns) : ∀ {us : List Value} {s : Shared} {Q : Option (List (PySem.Str × Value)) → Shared → Prop}, us.length = ns.length → Q (some (ns.zip us)) s → wpAny M A (matchEach ps env us) Q E s := by
  induction c with
  | nil =>
    intro us s Q hl h
    have e : us = [] := List.length_eq_zero_iff.mp hl
    subst e
    exact wpAny_matchEach_nil h
  | @cons ps ns n p r ih =>
    intro us s Q hl h
    cases us with
    | nil => cases hl
    | cons u us =>
      refine wpAny_matchEach_cons (wpAny_matchPattern_Capture ?_)
      exact ih (by simpa using hl) h
theorem Caps.len {ps : List Pattern} {ns : List PySem.Str} (c : Caps ps ns) : ps.length = ns.length := by
  induction c with
  | nil => rfl
  | cons n p r ih => simp [ih]
theorem zip_names (f : PySem.Str → Value → Sem Unit) : ∀ (ns : List PySem.Str) (us : List Value), us.length = ns.length → ((ns.zip us).map fun (n, _) => f n) = ns.map f ∧ (ns.zip us).map (·.2) = us
  | [], [], _ => ⟨rfl, rfl⟩
  | [], _ :: _, h => by cases h
  | _ :: _, [], h => by cases h
  | n :: ns, u :: us, h => by
    obtain ⟨h1, h2⟩ := zip_names f ns us (by simpa using h)
    simp only [List.zip_cons_cons, List.map_cons]
    exact ⟨by rw [h1], by rw [h2]⟩
end
section
variable {X : Cx}
/-- names that are bound, one after another -/
structure PBn (X : Cx) (ns : List PySem.Str) (t : TGs) : Prop where
  run : ∀ (pins : List (Addr × Obj)) (s : Shared) (σ : L2.St) (H : Hp) (vs : List V) (us : List Value) (Q : L2.St → Hp → Prop), Inv X pins σ H s → Vals vs us → t vs σ H Q → wpAny (model X.prog X.w) X.A (assignInOrder (ns.map (bindName X.env)) us) (fun _ s' => ∃ σ' H', Inv X pins σ' H' s' ∧ Q σ' H') X.xe s
theorem bn_nil : PBn X [] gNil := ⟨fun pins s σ H vs us Q I r h => by
  obtain ⟨e, h⟩ := h
  subst e
  cases r
  exact assignInOrder_nil ⟨σ, H, I, h⟩⟩
/-- the cases of a match, behind the subject -/
structure PMc (X : Cx) (cs : List MatchCase) (t : V → TS) : Prop where
  run : ∀ (pins : List (Addr × Obj)) (s : Shared) (σ : L2.St) (H : Hp) (D : Ends) (v : V) (u : Value) (first : Bool), Inv X pins σ H s → RelV v u → t v D σ H → wpAny (model X.prog X.w) X.A (matchCases cs X.env u first) (SP X pins D) X.xe s
theorem pm_nil : PMc X [] (fun _ D σ H => D.nx σ H) := ⟨fun pins s σ H D v u first I r h => wpAny_matchCases_nil ⟨σ, H, I, h⟩⟩
def tMatch (te : TE) (t : V → TS) : TS := fun D σ H => te σ H fun v H1 => t v D σ H1
theorem ps_match {e : Expr} {cs : List MatchCase} {pos : Pos} {te : TE} {t : V → TS} (he : PE X e te) (hc : PMc X cs t) : PS X (.Match e cs pos) (tMatch te t) :=
  ⟨fun pins s σ H D I h => wpAny_Match (thn (he.run pins s σ H _ I h) fun u s1 ⟨v, H1, I1, r, q⟩ => hc.run pins s1 σ H1 D v u true I1 r q)⟩
theorem pa_starK {K : PySem.W.Frag} {e : Expr} {p : Pos} {es : List Expr} {te : TE} {t : TA} (hk : X.K = K) (he : PE X e te) (ha : PA X es t) : PA X (.Starred e p :: es) (StX.tStar K te t) := hk ▸ StX.pa_star he ha
variable {K : PySem.W.Frag} {σ : L2.St} {H : Hp} {D : Ends}
theorem r_match {te : TE} {t : V → TS} (h : te σ H fun v H1 => t v D σ H1) : tMatch te t D σ H := h
def StN (K : PySem.W.Frag) (t : TA) (σ : L2.St) (Q : List V → Hp → Prop) : VK := fun x H1 => ∃ p xs, x = V.ref p ∧ (SqT K H1 p xs ∨ SqL K H1 p xs) ∧ t σ H1 fun ys H2 => Q (xs ++ ys) H2
theorem r_star {te : TE} {t : TA} {Q : List V → Hp → Prop} (h : te σ H (StN K t σ Q)) : StX.tStar K te t σ H Q := h
theorem r_stN {t : TA} {Q : List V → Hp → Prop} {p : Addr} {xs : List V} (h : H p = some (.tup xs)) (q : t σ H fun ys H2 => Q (xs ++ ys) H2) : StN K t σ Q (.ref p) H := ⟨p, xs, rfl, .inl (.inl (.inl h)), q⟩
end

set_option Elab.async false
set_option linter.all false
set_option maxRecDepth 100000
set_option maxHeartbeats 4000000
open PySem PySem.Spec PyProof.Rows L2
/-! # try .. except X as e: .. else: .. -/
section
variable {X : Cx} {cx nm : Str} {cv : Value} {k : Nat} {bd su : List Stmt} {b0 : Stmt} {p1 p2 p3 : Pos} {tb : WX → TS} {ts : Addr → Value → Option Addr → TS} {Wo : WX}
end

set_option Elab.async false
set_option linter.all false
set_option maxRecDepth 100000
set_option maxHeartbeats 4000000
open PySem PySem.Spec PyProof.Rows L2
/-! # what a suite of except may do: min and max of two ints, calls -/
section
variable {prog : Program} {w : World} {A : Around} {E : Value → Shared → Prop} {s : Shared}
end
section
variable {X : Cx}
end
section
variable {P : Program} {w : World} {K : PySem.W.Frag} {mg : Str → Option Value} {base : Heap}
end

set_option Elab.async false
set_option linter.all false
set_option maxRecDepth 100000
set_option maxHeartbeats 4000000
open PySem PySem.Spec PyProof.Rows L2
section
variable {K : PySem.W.Frag} {H : Hp} {Q : VK}
end

set_option Elab.async false
set_option linter.all false
set_option maxRecDepth 100000
set_option maxHeartbeats 4000000
open PySem PySem.Spec PyProof.Rows L2
/-! # sets as the bits of a number -/
structure Msk (x : Int) (S : Int → Prop) : Prop where
  nn : 0 ≤ x
  bits : ∀ i : Nat, x.toNat.testBit i = true ↔ S i
theorem Msk.zero : Msk 0 (fun _ => False) := ⟨by omega, fun i => by simp⟩
theorem Msk.shl {v : Int} (h : 0 ≤ v) : Msk (1 * 2 ^ v.toNat) (fun i => i = v) := by
  have e : (1 * 2 ^ v.toNat : Int) = ((2 ^ v.toNat : Nat) : Int) := by
    rw [Int.one_mul]
    exact (PySem.W.kbt_cast v.toNat).symm
  rw [e]
  refine ⟨Int.natCast_nonneg _, fun i => ?_⟩
  rw [Int.toNat_natCast, Nat.testBit_two_pow, decide_eq_true_eq]
  omega
theorem Msk.or {x y : Int} {S T : Int → Prop} (a : Msk x S) (b : Msk y T) : Msk (Builtin.bitOr x y) (fun i => S i ∨ T i) := by
  rw [Bits.bitOr_pp a.nn b.nn]
  refine ⟨Int.natCast_nonneg _, fun i => ?_⟩
  rw [Int.toNat_natCast, Nat.testBit_or, Bool.or_eq_true, a.bits, b.bits]
theorem Msk.and {x y : Int} {S T : Int → Prop} (a : Msk x S) (b : Msk y T) : Msk (Builtin.bitAnd x y) (fun i => S i ∧ T i) := by
  rw [bitAnd_pp a.nn b.nn]
  refine ⟨Int.natCast_nonneg _, fun i => ?_⟩
  rw [Int.toNat_natCast, Nat.testBit_and, Bool.and_eq_true, a.bits, b.bits]
theorem Msk.congr {x : Int} {S T : Int → Prop} (a : Msk x S) (h : ∀ i : Nat, S i ↔ T i) : Msk x T := ⟨a.nn, fun i => (a.bits i).trans (h i)⟩
theorem Msk.ne0 {x : Int} {S : Int → Prop} (a : Msk x S) : x ≠ 0 ↔ ∃ i : Nat, S i := by
  constructor
  · intro h
    have : x.toNat ≠ 0 := by have := a.nn; omega
    obtain ⟨i, hi⟩ := Nat.exists_testBit_of_ne_zero this
    exact ⟨i, (a.bits i).mp hi⟩
  · rintro ⟨i, hi⟩ e
    have := (a.bits i).mpr hi
    rw [e] at this
    simp at this
theorem Msk.uniq {x y : Int} {S : Int → Prop} (a : Msk x S) (b : Msk y S) : x = y := by
  have : x.toNat = y.toNat := Nat.eq_of_testBit_eq fun i => by
    have h1 := a.bits i
    have h2 := b.bits i
    cases c : x.toNat.testBit i <;> cases d : y.toNat.testBit i <;> simp_all
  have := a.nn
  have := b.nn
  omega
/-- what ors do: a mask of the items of a list -/
theorem Msk.snoc {x v : Int} {ns : List Int} (a : Msk x (fun i => i ∈ ns)) (h : 0 ≤ v) : Msk (Builtin.bitOr x (1 * 2 ^ v.toNat)) (fun i => i ∈ ns ++ [v]) :=
  (a.or (.shl h)).congr fun i => by rw [List.mem_append, List.mem_singleton]
theorem Msk.nil : Msk 0 (fun i => i ∈ ([] : List Int)) := Msk.zero.congr fun i => by simp
/-! ## ints as data -/
theorem dps_int {K : PySem.W.Frag} {H : Hp} : ∀ ns : List Int, DpAll K H (ns.map V.int) (ns.map PyData.int)
  | [] => .nil
  | _ :: ns => .cons (.int _) (dps_int ns)
theorem layI : ∀ ns : List Int, PyData.canLayAll0 (ns.map PyData.int) = true
  | [] => by simp [PyData.canLayAll0]
  | n :: ns => by
    rw [List.map_cons]
    simp only [PyData.canLayAll0, PyData.canLay0, Bool.true_and]
    exact layI ns
theorem depI : ∀ ns : List Int, PyData.depthAll (ns.map PyData.int) ≤ 0
  | [] => by simp [PyData.depthAll]
  | n :: ns => by
    have := depI ns
    rw [List.map_cons]
    simp only [PyData.depthAll, PyData.depth]
    omega
theorem tupI_lay (ns : List Int) : (PyData.tuple (ns.map PyData.int)).canLay0 = true := by
  simp only [PyData.canLay0]
  exact layI ns
theorem tupI_depth (ns : List Int) : (PyData.tuple (ns.map PyData.int)).depth ≤ 1 := by
  have := depI ns
  simp only [PyData.depth]
  omega
theorem lstI_lay (ns : List Int) : (PyData.list (ns.map PyData.int)).canLay0 = true := by
  simp only [PyData.canLay0]
  exact layI ns
theorem lstI_depth (ns : List Int) : (PyData.list (ns.map PyData.int)).depth ≤ 1 := by
  have := depI ns
  simp only [PyData.depth]
  omega
theorem eqvI : ∀ ns ms : List Int, PyData.eqvAll (ns.map PyData.int) (ms.map PyData.int) = decide (ns = ms)
  | [], [] => by simp [PyData.eqvAll]
  | [], _ :: _ => by simp [PyData.eqvAll]
  | _ :: _, [] => by simp [PyData.eqvAll]
  | n :: ns, m :: ms => by
    rw [List.map_cons, List.map_cons]
    simp only [PyData.eqvAll, PyData.eqv]
    rw [eqvI ns ms]
    by_cases h1 : n = m <;> by_cases h2 : ns = ms <;> simp [h1, h2]
/-- ints ascending, each once -/
structure DedI (qs fs : List Int) : Prop where
  asc : fs.Pairwise (· < ·)
  mem : ∀ z, z ∈ fs ↔ z ∈ qs
  last : fs.getLast? = qs.getLast?
theorem DedI.nil : DedI [] [] := ⟨.nil, fun _ => Iff.rfl, rfl⟩
theorem DedI.same {qs fs : List Int} {q : Int} (D : DedI qs fs) (h : fs.getLast? = some q) : DedI (qs ++ [q]) fs := by
  refine ⟨D.asc, fun z => ?_, by rw [h, List.getLast?_append]; simp⟩
  rw [List.mem_append, ← D.mem, List.mem_singleton]
  refine ⟨.inl, fun c => c.elim id fun e => ?_⟩
  rw [e]
  exact List.mem_of_getLast? h
theorem DedI.more {qs fs : List Int} {q : Int} (D : DedI qs fs) (hl : (qs ++ [q]).Pairwise (· ≤ ·)) (h : fs.getLast? ≠ some q) : DedI (qs ++ [q]) (fs ++ [q]) := by
  obtain ⟨p1, p2, p3⟩ := List.pairwise_append.mp hl
  refine ⟨List.pairwise_append.mpr ⟨D.asc, by simp, fun a ha b hb => ?_⟩, fun z => by rw [List.mem_append, List.mem_append, D.mem], by rw [List.getLast?_append, List.getLast?_append]; simp⟩
  rw [List.mem_singleton.mp hb]
  have le := p3 a ((D.mem a).mp ha) q List.mem_cons_self
  rcases Int.lt_or_eq_of_le le with e | e
  · exact e
  refine absurd ?_ h
  subst e
  obtain ⟨b, hb'⟩ : ∃ b, fs.getLast? = some b := by
    cases q9 : fs.getLast? with
    | some r => exact ⟨r, rfl⟩
    | none =>
      rw [List.getLast?_eq_none_iff.mp q9] at ha
      cases ha
  have hbq := p3 b ((D.mem b).mp (List.mem_of_getLast? hb')) a List.mem_cons_self
  have hab : a ≤ b := by
    obtain ⟨ys, e⟩ := List.getLast?_eq_some_iff.mp hb'
    rw [e] at ha
    have pw := D.asc
    rw [e] at pw
    rcases List.mem_append.mp ha with c | c
    · have := (List.pairwise_append.mp pw).2.2 a c b List.mem_cons_self
      omega
    · rw [List.mem_singleton.mp c]
      omega
  rw [hb', show b = a by omega]
section
variable {X : Cx} {K : PySem.W.Frag} {σ : L2.St} {H : Hp} {Q : VK}
theorem cr_allK (h : X.K = K) (hc : X.calm = true) : CallR X (.builtin "all") (rAll K) := h ▸ cr_all hc
theorem r_all {a : Addr} {bs : List Bool} (h : H a = some (.lst (bs.map V.bl))) (q : Q (.bl (bs.all id)) H) : rAll K [.ref a] H Q := ⟨a, bs, rfl, .inl (.inl h), q⟩
def AugN (i : Nat) (ti : TIp) (σ : L2.St) (nx : L2.St → Hp → Prop) (x : V) : VK := fun y H1 => ti x y H1 fun z H2 => nx (σ.set i (some z)) H2
theorem r_aug {i : Nat} {te : TE} {ti : TIp} {nx bk ct : L2.St → Hp → Prop} {x : V} (e : σ[i]? = some (some x)) (h : te σ H (AugN i ti σ nx x)) : tAug i te ti ⟨nx, Q, bk, ct⟩ σ H := ⟨x, e, h⟩
theorem r_augOr {i : Nat} {nx : L2.St → Hp → Prop} {a b : Int} {σ' : L2.St} (e : σ.set i (some (.int (Builtin.bitOr a b))) = σ') (h : nx σ' H) : AugN i (rI0 fun i j => .int (Builtin.bitOr i j)) σ nx (.int a) (.int b) H := ⟨a, b, rfl, rfl, by subst e; exact h⟩
end

set_option Elab.async false
set_option linter.all false
set_option maxRecDepth 100000
set_option maxHeartbeats 4000000
open PySem PySem.Spec PyProof.Rows L2
/-! # sets of ints: {x}, and a def that knows its code -/
section
variable {P : Program} {w : World} {A : Around} {E : Value → Shared → Prop} {s : Shared} {a : Addr} {S : Int → Bool} {n : Nat}
end
section
variable {X : Cx}
end
section
variable {P : Program} {w : World} {K : PySem.W.Frag} {mg : Str → Option Value} {base : Heap}
end
section
variable {X : Cx} {w : World} {σ : L2.St} {H : Hp} {Q : VK}
end

set_option Elab.async false
set_option linter.all false
set_option maxRecDepth 100000
set_option maxHeartbeats 4000000
open PySem PySem.Spec PyProof.Rows L2
/-! # list.extend of a tuple, len of a set -/
section
open PySem.AutoSeq1 in
end
section
variable {X : Cx} {K : PySem.W.Frag} {w : World}
def rLenSet (w : World) : List V → Hp → VK → Prop := fun vs H Q => ∃ (a : Addr) (S : Int → Bool) (n : Nat), vs = [V.ref a] ∧ H a = some (SetO w a S n) ∧ Q (.int n) H
theorem call_lenSet (hw : X.w = w) : CallR X (.builtin "len") (rLenSet w) := by
  subst hw
  intro pins s σ H vs us Q I r h
  obtain ⟨a, S, n, rfl, ha, q⟩ := h
  rw [Vals.ref1 r]
  obtain ⟨o, es, ep, t, ho, hex, hd, _, _, _, hb, hf, hn, _⟩ := setO_get I ha
  refine call_len_set ho hex hd hf (by have : (scanBound : Int) = 4096 := rfl; omega) ?_
  exact ⟨.int n, H, I.kept (t' := s.toks + 1 + 1) fun _ _ e => e, by rw [hn]; exact ⟨_, rfl⟩, q⟩
end

set_option Elab.async false
set_option linter.all false
set_option maxRecDepth 100000
set_option maxHeartbeats 4000000
open PySem PySem.Spec PyProof.Rows L2
/-! # truth of lists, pop(), while, two clauses over lists -/
section
variable {X : Cx} {K : PySem.W.Frag} {w : World} {σ : L2.St} {H : Hp} {Q : VK}
def TruN (K : PySem.W.Frag) (Q : Bool → Hp → Prop) : VK := fun x H' => ∃ k, TruV K x H' k ∧ Q k H'
def tTruth (K : PySem.W.Frag) (ta : TE) : TT := fun σ H Q => ta σ H (TruN K Q)
theorem pt_truthK {a : Expr} {ta : TE} (h : X.K = K) (ha : PE X a ta) (he : ∀ whole, isTrue a X.env whole = (do let v ← whole; standAt a.pos; holding [v] (truthy v))) : PT X a (tTruth K ta) := by
  subst h
  exact pt_truth ha he
theorem r_truth {ta : TE} {Q : Bool → Hp → Prop} (h : ta σ H (TruN K Q)) : tTruth K ta σ H Q := h
theorem r_truL {Q : Bool → Hp → Prop} {l : Addr} {xs : List V} (h : H l = some (.lst xs)) (q : Q (!xs.isEmpty) H) : TruN K Q (.ref l) H := ⟨_, .inl ⟨xs, .inl (.inl h), rfl⟩, q⟩
def Bm0 (K : PySem.W.Frag) (T : String) (r : V → List V → Hp → VK → Prop) (Q : VK) : VK := fun x H1 => tyV K T x H1 ∧ r x [] H1 Q
theorem PE.bm0K {e : Expr} {T : String} {r : V → List V → Hp → VK → Prop} {to : TE} (h : X.K = K) (p : PE X e (tBM0 X.K T r to)) : PE X e (tBM0 K T r to) := h ▸ p
theorem r_bm0 {T : String} {r : V → List V → Hp → VK → Prop} {te : TE} (h : te σ H (Bm0 K T r Q)) : tBM0 K T r te σ H Q := h
variable {nx bk ct : L2.St → Hp → Prop}
theorem r_while {tc : TT} {tb : TS} (W : Nat → L2.St → Hp → Prop) (m0 : Nat) (h0 : W m0 σ H)
    (hs : ∀ m σ H, W m σ H → tc σ H fun b H1 => if b = true then ∃ N : L2.St → Hp → Prop, (∀ σ' H', N σ' H' → ∃ m', m' < m ∧ W m' σ' H') ∧ tb ⟨N, Q, nx, N⟩ σ H1 else nx σ H1) : tWhile tc tb ⟨nx, Q, bk, ct⟩ σ H := ⟨W, ⟨m0, h0⟩, hs⟩
theorem r_whGo {tb : TS} {W : Nat → L2.St → Hp → Prop} {m : Nat} (h : tb ⟨fun σ' H' => ∃ m', m' < m ∧ W m' σ' H', Q, nx, fun σ' H' => ∃ m', m' < m ∧ W m' σ' H'⟩ σ H) : ∃ N : L2.St → Hp → Prop, (∀ σ' H', N σ' H' → ∃ m', m' < m ∧ W m' σ' H') ∧ tb ⟨N, Q, nx, N⟩ σ H := ⟨_, fun _ _ z => z, h⟩
theorem r_lenSet {a : Addr} {S : Int → Bool} {n : Nat} (h : H a = some (SetO w a S n)) (q : Q (.int n) H) : rLenSet w [.ref a] H Q := ⟨a, S, n, rfl, h, q⟩
/-- t[:i], t[j:] -/
theorem cut_to (xs : List V) (k : Nat) (h : k ≤ xs.length) : cutV xs none (some (k : Int)) = xs.take k := by
  unfold cutV
  rw [HT.sIx_none, HT.sIx_nat, List.drop_zero, Nat.sub_zero, Nat.min_eq_left h]
theorem cut_from (xs : List V) (k : Nat) (h : k ≤ xs.length) : cutV xs (some (k : Int)) none = xs.drop k := by
  unfold cutV
  rw [HT.sIx_none, HT.sIx_nat, Nat.min_eq_left h]
  exact List.take_of_length_le (by rw [List.length_drop]; omega)
end

set_option Elab.async false
set_option linter.all false
set_option maxRecDepth 100000
set_option maxHeartbeats 4000000
open PySem PySem.Spec PyProof.Rows L2
/-! # sorted of tuples of ints of any lengths -/
section
variable {prog : Program} {w : World} {A : Around} {E : Value → Shared → Prop} {s : Shared}
end
section
variable {X : Cx} {K : PySem.W.Frag}
end

set_option Elab.async false
set_option linter.all false
set_option maxRecDepth 100000
set_option maxHeartbeats 4000000
open PySem PySem.Spec PyProof.Rows L2
/-! # what is connected -/
set_option Elab.async false
set_option linter.all false
set_option maxRecDepth 100000
set_option maxHeartbeats 4000000
open PySem PySem.Spec PyProof.Rows L2
/-! # t.index(x), t of ints -/
section
variable {X : Cx} {K : PySem.W.Frag}
end

set_option Elab.async false
set_option linter.all false
set_option maxRecDepth 100000
set_option maxHeartbeats 4000000
open PySem PySem.Spec PyProof.Rows L2
/-! # the bits of any whole number -/
def Bit (x : Int) (i : Nat) : Bool := if 0 ≤ x then x.toNat.testBit i else !(Builtin.bitNot x).toNat.testBit i
theorem Bit_nn {x : Int} (h : 0 ≤ x) (i : Nat) : Bit x i = x.toNat.testBit i := if_pos h
theorem Bit_neg {x : Int} (h : x < 0) (i : Nat) : Bit x i = !(Builtin.bitNot x).toNat.testBit i := if_neg (by omega)
theorem bitNot_not (x : Int) : Builtin.bitNot (Builtin.bitNot x) = x := by unfold Builtin.bitNot; omega
theorem Bit_not (x : Int) (i : Nat) : Bit (Builtin.bitNot x) i = !Bit x i := by
  by_cases h : 0 ≤ x
  · rw [Bit_nn h, Bit_neg (by unfold Builtin.bitNot; omega), bitNot_not]
  · rw [Bit_neg (x := x) (by omega), Bit_nn (by unfold Builtin.bitNot; omega), Bool.not_not]
theorem sub_and_bits (a b i : Nat) : (a - (a &&& b)).testBit i = (a.testBit i && !b.testBit i) := by
  have e : a - (a &&& b) = a ^^^ (a &&& b) := by
    have h1 := Bits.bitXor_pp (x := a) (y := ((a &&& b : Nat) : Int)) (by omega) (by omega)
    have h2 := bitXor_and (a : Int) ((a &&& b : Nat) : Int)
    rw [bitAnd_pp (x := a) (y := ((a &&& b : Nat) : Int)) (by omega) (by omega)] at h2
    rw [Int.toNat_natCast, Int.toNat_natCast] at h1 h2
    have e3 : a &&& (a &&& b) = a &&& b := by
      apply Nat.eq_of_testBit_eq
      intro j
      rw [Nat.testBit_and, Nat.testBit_and]
      cases a.testBit j <;> simp
    rw [e3] at h2
    have : a &&& b ≤ a := Nat.and_le_left
    omega
  rw [e, Nat.testBit_xor, Nat.testBit_and]
  cases a.testBit i <;> cases b.testBit i <;> rfl
theorem bitAnd_pn {x y : Int} (hx : 0 ≤ x) (hy : y < 0) : Builtin.bitAnd x y = ((x.toNat - (x.toNat &&& (Builtin.bitNot y).toNat) : Nat) : Int) := by
  have h : x.toNat &&& (Builtin.bitNot y).toNat ≤ x.toNat := Nat.and_le_left
  have : Builtin.bitAnd x y = x - ((x.toNat &&& (Builtin.bitNot y).toNat : Nat) : Int) := by
    unfold Builtin.bitAnd
    rw [decide_eq_true hx, decide_eq_false (by omega : ¬ 0 ≤ y)]
  omega
theorem bitAnd_np {x y : Int} (hx : x < 0) (hy : 0 ≤ y) : Builtin.bitAnd x y = ((y.toNat - (y.toNat &&& (Builtin.bitNot x).toNat) : Nat) : Int) := by
  have h : y.toNat &&& (Builtin.bitNot x).toNat ≤ y.toNat := Nat.and_le_left
  have : Builtin.bitAnd x y = y - ((y.toNat &&& (Builtin.bitNot x).toNat : Nat) : Int) := by
    unfold Builtin.bitAnd
    rw [decide_eq_false (by omega : ¬ 0 ≤ x), decide_eq_true hy]
  omega
theorem bitAnd_nn {x y : Int} (hx : x < 0) (hy : y < 0) : Builtin.bitAnd x y = Builtin.bitNot (((Builtin.bitNot x).toNat ||| (Builtin.bitNot y).toNat : Nat) : Int) := by
  unfold Builtin.bitAnd
  rw [decide_eq_false (by omega : ¬ 0 ≤ x), decide_eq_false (by omega : ¬ 0 ≤ y)]
theorem Bit_and (x y : Int) (i : Nat) : Bit (Builtin.bitAnd x y) i = (Bit x i && Bit y i) := by
  by_cases hx : 0 ≤ x <;> by_cases hy : 0 ≤ y
  · rw [bitAnd_pp hx hy, Bit_nn (by omega), Bit_nn hx, Bit_nn hy, Int.toNat_natCast, Nat.testBit_and]
  · rw [bitAnd_pn hx (by omega), Bit_nn (by omega), Bit_nn hx, Bit_neg (by omega), Int.toNat_natCast, sub_and_bits]
  · rw [bitAnd_np (by omega) hy, Bit_nn (by omega), Bit_nn hy, Bit_neg (by omega), Int.toNat_natCast, sub_and_bits, Bool.and_comm]
  · rw [bitAnd_nn (by omega) (by omega), Bit_not, Bit_nn (by omega), Bit_neg (by omega), Bit_neg (by omega), Int.toNat_natCast, Nat.testBit_or, Bool.not_or]
theorem bitAnd_left {x y : Int} (hx : 0 ≤ x) : 0 ≤ Builtin.bitAnd x y := by
  by_cases hy : 0 ≤ y
  · rw [bitAnd_pp hx hy]; omega
  · rw [bitAnd_pn hx (by omega)]; omega
/-- the lowest bit -/
theorem low_nat : ∀ n : Nat, 0 < n → ∃ k, n.testBit k = true ∧ (∀ i, i < k → n.testBit i = false) ∧ 2 ^ k ≤ n ∧ n &&& (n - 1) = n - 2 ^ k := by
  intro n
  induction n using Nat.strongRecOn with
  | _ n ih =>
    intro h
    by_cases c : n % 2 = 1
    · refine ⟨0, by rw [Nat.testBit_zero]; exact decide_eq_true c, fun i hi => absurd hi (Nat.not_lt_zero _), by rw [Nat.pow_zero]; exact h, ?_⟩
      rw [Nat.pow_zero]
      apply Nat.eq_of_testBit_eq
      intro j
      rw [Nat.testBit_and]
      cases j with
      | zero =>
        rw [Nat.testBit_zero, Nat.testBit_zero, decide_eq_true c, Bool.true_and]
      | succ j =>
        rw [Nat.testBit_succ, Nat.testBit_succ, show (n - 1) / 2 = n / 2 by omega, Bool.and_self]
    · obtain ⟨k, h1, h2, h3, h4⟩ := ih (n / 2) (by omega) (by omega)
      have e2 : 2 ^ (k + 1) = 2 * 2 ^ k := by rw [Nat.pow_succ]; omega
      refine ⟨k + 1, by rw [Nat.testBit_succ]; exact h1, fun i hi => ?_, by omega, ?_⟩
      · cases i with
        | zero => rw [Nat.testBit_zero]; exact decide_eq_false c
        | succ i => rw [Nat.testBit_succ]; exact h2 i (by omega)
      · have e3 : n - 2 ^ (k + 1) = 2 * (n / 2 - 2 ^ k) := by omega
        rw [e3, ← h4]
        apply Nat.eq_of_testBit_eq
        intro j
        rw [Nat.testBit_and]
        cases j with
        | zero =>
          rw [Nat.testBit_zero, Nat.testBit_zero, Nat.testBit_zero, decide_eq_false c, Bool.false_and]
          exact (decide_eq_false (by omega)).symm
        | succ j =>
          rw [Nat.testBit_succ, Nat.testBit_succ, Nat.testBit_succ, show (n - 1) / 2 = n / 2 - 1 by omega, show 2 * (n / 2 &&& (n / 2 - 1)) / 2 = (n / 2 &&& (n / 2 - 1)) by omega, Nat.testBit_and]
/-- x & -x, and what is left of x without it -/
theorem low_bit {x : Int} (h : 0 < x) : ∃ k : Nat, Builtin.bitAnd x (-x) = ((2 ^ k : Nat) : Int) ∧ Bit x k = true ∧ (∀ i, i < k → Bit x i = false) ∧ 0 ≤ Builtin.bitXor x (Builtin.bitAnd x (-x)) ∧ Builtin.bitXor x (Builtin.bitAnd x (-x)) < x ∧
    ∀ i, Bit (Builtin.bitXor x (Builtin.bitAnd x (-x))) i = (Bit x i && !decide (i = k)) := by
  obtain ⟨k, h1, h2, h3, h4⟩ := low_nat x.toNat (by omega)
  have p0 : 0 < 2 ^ k := Nat.two_pow_pos k
  have tb : ∀ j, (2 ^ k).testBit j = decide (k = j) := fun j => Nat.testBit_two_pow
  refine ⟨k, ?_⟩
  generalize 2 ^ k = p at *
  have e : Builtin.bitAnd x (-x) = (p : Int) := by
    rw [bitAnd_pn (by omega) (by omega), show (Builtin.bitNot (-x)).toNat = x.toNat - 1 by unfold Builtin.bitNot; omega, h4]
    omega
  have e5 : x.toNat ^^^ p = x.toNat - p := by
    rw [← h4]
    apply Nat.eq_of_testBit_eq
    intro j
    rw [Nat.testBit_xor, tb]
    by_cases c : k = j
    · subst c
      rw [h1, decide_eq_true rfl, Nat.testBit_and, h1]
      have h9 := sub_and_bits x.toNat (x.toNat - 1) k
      rw [h4, show x.toNat - (x.toNat - p) = p by omega, tb, decide_eq_true rfl, h1] at h9
      revert h9
      cases (x.toNat - 1).testBit k <;> simp
    · have h9 := sub_and_bits x.toNat (x.toNat - 1) j
      rw [h4, show x.toNat - (x.toNat - p) = p by omega, tb, decide_eq_false c] at h9
      rw [decide_eq_false c, Nat.testBit_and]
      revert h9
      cases x.toNat.testBit j <;> cases (x.toNat - 1).testBit j <;> simp
  have e7 : Builtin.bitXor x (p : Int) = ((x.toNat ^^^ p : Nat) : Int) := by
    rw [Bits.bitXor_pp (by omega) (by omega), Int.toNat_natCast]
  rw [e, e7]
  refine ⟨rfl, by rw [Bit_nn (by omega)]; exact h1, fun i hi => by rw [Bit_nn (by omega)]; exact h2 i hi, by omega, by rw [e5]; omega, fun i => ?_⟩
  rw [Bit_nn (by omega), Int.toNat_natCast, Nat.testBit_xor, tb, Bit_nn (by omega)]
  by_cases c : i = k
  · subst c
    rw [h1]
    simp
  · rw [decide_eq_false c, decide_eq_false (fun z => c z.symm)]
    cases x.toNat.testBit i <;> rfl
theorem intBits_pow (k : Nat) : Builtin.Int.intBits ((2 ^ k : Nat) : Int) = k + 1 := by
  unfold Builtin.Int.intBits
  have p : 0 < 2 ^ k := Nat.two_pow_pos k
  rw [Int.natAbs_natCast, Nat.log2_two_pow, if_neg]
  generalize 2 ^ k = q at *
  rw [beq_iff_eq]
  omega

set_option Elab.async false
set_option linter.all false
set_option maxRecDepth 100000
set_option maxHeartbeats 4000000
open PySem PySem.Spec PyProof.Rows L2
/-! # masks: their lowest bit, what is not in them -/
def Bts (x : Int) (S : Int → Prop) : Prop := ∀ i : Nat, Bit x i = true ↔ S i
theorem Msk.bts {x : Int} {S : Int → Prop} (a : Msk x S) : Bts x S := fun i => by rw [Bit_nn a.nn]; exact a.bits i
theorem Msk.of {x : Int} {S : Int → Prop} (h : 0 ≤ x) (b : Bts x S) : Msk x S := ⟨h, fun i => by rw [← Bit_nn h]; exact b i⟩
theorem Bts.not {x : Int} {S : Int → Prop} (a : Bts x S) : Bts (Builtin.bitNot x) (fun i => ¬ S i) := fun i => by
  show Bit (Builtin.bitNot x) i = true ↔ ¬ S i
  rw [Bit_not, ← a i]
  cases Bit x i <;> simp
theorem Bts.and {x y : Int} {S T : Int → Prop} (a : Bts x S) (b : Bts y T) : Bts (Builtin.bitAnd x y) (fun i => S i ∧ T i) := fun i => by
  rw [Bit_and, Bool.and_eq_true, a i, b i]
theorem Msk.andB {x y : Int} {S T : Int → Prop} (a : Msk x S) (b : Bts y T) : Msk (Builtin.bitAnd x y) (fun i => S i ∧ T i) := .of (bitAnd_left a.nn) (a.bts.and b)
/-- all vertices below n -/
theorem Msk.full {n : Int} (h : 0 ≤ n) : Msk (1 * 2 ^ n.toNat - 1) (fun i => i < n) := by
  have e : (1 * 2 ^ n.toNat - 1 : Int) = ((2 ^ n.toNat - 1 : Nat) : Int) := by
    have p := Nat.two_pow_pos n.toNat
    have c := PySem.W.kbt_cast n.toNat
    generalize 2 ^ n.toNat = q at *
    omega
  rw [e]
  refine ⟨Int.natCast_nonneg _, fun i => ?_⟩
  rw [Int.toNat_natCast, Nat.testBit_two_pow_sub_one, decide_eq_true_eq]
  omega
theorem Msk.sub {x y : Int} {S T : Int → Prop} (a : Msk x S) (b : Msk y T) (h : ∀ i : Nat, S i ↔ T i) : x = y := (a.congr h).uniq b
theorem Msk.eq_iff {x y : Int} {S T : Int → Prop} (a : Msk x S) (b : Msk y T) : x = y ↔ ∀ i : Nat, S i ↔ T i := by
  refine ⟨fun e i => ?_, a.sub b⟩
  subst e
  exact (a.bits i).symm.trans (b.bits i)
/-- x.bit_length() -/
def rBitLen : V → List V → Hp → VK → Prop := fun x xs H Q => ∃ i : Int, x = .int i ∧ xs = [] ∧ Q (.int (Builtin.Int.intBits i)) H
theorem mt_bitlen {X : Cx} : MtR X "int.bit_length" rBitLen := by
  intro pins s σ H x xs v us Q I rx rv h
  obtain ⟨i, rfl, rfl, q⟩ := h
  obtain ⟨t, rfl⟩ := rx
  have hus : us = [] := rv.zero
  subst hus
  exact call_int_bit_length ⟨.int _, H, I.tok _, ⟨_, rfl⟩, q⟩
section
variable {K : PySem.W.Frag} {σ : L2.St} {H : Hp} {Q : VK}
theorem r_bm0I {r : V → List V → Hp → VK → Prop} {i : Int} (q : r (.int i) [] H Q) : Bm0 K "int" r Q (.int i) H := ⟨rfl, q⟩
theorem r_bitlen {i : Int} (q : Q (.int (Builtin.Int.intBits i)) H) : rBitLen (.int i) [] H Q := ⟨i, rfl, rfl, q⟩
theorem r_augI {i : Nat} {f : Int → Int → V} {nx : L2.St → Hp → Prop} {a b : Int} {σ' : L2.St} (e : σ.set i (some (f a b)) = σ') (h : nx σ' H) : AugN i (rI0 f) σ nx (.int a) (.int b) H := ⟨a, b, rfl, rfl, by subst e; exact h⟩
end

set_option Elab.async false
set_option linter.all false
set_option maxRecDepth 100000
set_option maxHeartbeats 4000000
open PySem PySem.Spec PySem.W PyProof.Rows L2
/-! # the least of a list of data -/
section
variable {X : Cx}
end

set_option Elab.async false
set_option linter.all false
set_option maxRecDepth 100000
set_option maxHeartbeats 4000000
open PySem PySem.Spec PyProof.Rows L2
/-! # ranges downwards, methods of tuples, slices of lists -/
section
variable {X : Cx} {K : PySem.W.Frag} {σ : L2.St} {H : Hp} {Q : VK}
/-- xs[:k], xs[k:-1] -/
theorem r_slLTo {a : Addr} {xs : List V} {k : Nat} (h : SqL K H a xs) (hk : k ≤ xs.length) (q : ∀ p, H p = none → Q (.ref p) (upd H p (.lst (xs.take k)))) : rSlL K (.ref a) none (some (k : Int)) H Q :=
  ⟨a, xs, rfl, h, by rw [cut_to xs k hk]; exact q⟩
end

set_option Elab.async false
set_option linter.all false
open PySem PySem.Spec PyProof.Rows L2
/-- one step of a walk that asks nothing -/
class Stp (p : Prop) (q : outParam Prop) : Prop where
  imp : q → p
/-- any number of such steps -/
class Run (p : Prop) (q : outParam Prop) : Prop where
  imp : q → p
/-- one step at least -/
class Run1 (p : Prop) (q : outParam Prop) : Prop where
  imp : q → p
instance (priority := 10) run_end {p : Prop} : Run p p := ⟨fun h => h⟩
instance (priority := 100) run_step {p q r : Prop} [a : Stp p q] [b : Run q r] : Run p r := ⟨fun h => a.imp (b.imp h)⟩
instance run1_step {p q r : Prop} [a : Stp p q] [b : Run q r] : Run1 p r := ⟨fun h => a.imp (b.imp h)⟩
theorem r_run {p q : Prop} [a : Run1 p q] (h : q) : p := a.imp h
instance (priority := 1900) s_iteF {p q : Prop} : Stp (if false = true then p else q) q := ⟨fun h => iteF h⟩
instance (priority := 1900) s_iteT {p q : Prop} : Stp (if true = true then p else q) p := ⟨fun h => iteT h⟩
section
variable {K : PySem.W.Frag} {P : Program} {w : World} {σ : L2.St} {H H2 : Hp} {Q : VK} {D : Ends} {ta tb tc te : TE} {t u : TT} {nx bk ct : L2.St → Hp → Prop} {a b : TS} {g : TG} {ix : Nat}
instance (priority := 2000) sr_seq  : Stp (tSeq a b ⟨nx, Q, bk, ct⟩ σ H) (a ⟨b ⟨nx, Q, bk, ct⟩, Q, bk, ct⟩ σ H) := ⟨fun h => r_seq h⟩
instance (priority := 1999) sr_asg {g : TG} : Stp (tAsg te g ⟨nx, Q, bk, ct⟩ σ H) (te σ H fun x H1 => g x σ H1 nx) := ⟨fun h => r_asg h⟩
instance (priority := 1997) sr_name1 {x0 x1 : Option V} {σ : L2.St} {v : V} {q : L2.St → Hp → Prop} : Stp (gName 1 v (x0 :: x1 :: σ) H q) (q (x0 :: some v :: σ) H) := ⟨fun h => r_name1 h⟩
instance (priority := 1996) sr_name2 {x0 x1 x2 : Option V} {σ : L2.St} {v : V} {q : L2.St → Hp → Prop} : Stp (gName 2 v (x0 :: x1 :: x2 :: σ) H q) (q (x0 :: x1 :: some v :: σ) H) := ⟨fun h => r_name2 h⟩
instance (priority := 1995) sr_name3 {x0 x1 x2 x3 : Option V} {σ : L2.St} {v : V} {q : L2.St → Hp → Prop} : Stp (gName 3 v (x0 :: x1 :: x2 :: x3 :: σ) H q) (q (x0 :: x1 :: x2 :: some v :: σ) H) := ⟨fun h => r_name3 h⟩
instance (priority := 1994) sr_name4 {x0 x1 x2 x3 x4 : Option V} {σ : L2.St} {v : V} {q : L2.St → Hp → Prop} : Stp (gName 4 v (x0 :: x1 :: x2 :: x3 :: x4 :: σ) H q) (q (x0 :: x1 :: x2 :: x3 :: some v :: σ) H) := ⟨fun h => r_name4 h⟩
instance (priority := 1993) sr_name5 {x0 x1 x2 x3 x4 x5 : Option V} {σ : L2.St} {v : V} {q : L2.St → Hp → Prop} : Stp (gName 5 v (x0 :: x1 :: x2 :: x3 :: x4 :: x5 :: σ) H q) (q (x0 :: x1 :: x2 :: x3 :: x4 :: some v :: σ) H) := ⟨fun h => r_name5 h⟩
instance (priority := 1992) sr_name6 {x0 x1 x2 x3 x4 x5 x6 : Option V} {σ : L2.St} {v : V} {q : L2.St → Hp → Prop} : Stp (gName 6 v (x0 :: x1 :: x2 :: x3 :: x4 :: x5 :: x6 :: σ) H q) (q (x0 :: x1 :: x2 :: x3 :: x4 :: x5 :: some v :: σ) H) := ⟨fun h => r_name6 h⟩
instance (priority := 1991) sr_name7 {x0 x1 x2 x3 x4 x5 x6 x7 : Option V} {σ : L2.St} {v : V} {q : L2.St → Hp → Prop} : Stp (gName 7 v (x0 :: x1 :: x2 :: x3 :: x4 :: x5 :: x6 :: x7 :: σ) H q) (q (x0 :: x1 :: x2 :: x3 :: x4 :: x5 :: x6 :: some v :: σ) H) := ⟨fun h => r_name7 h⟩
instance (priority := 1990) sr_name8 {x0 x1 x2 x3 x4 x5 x6 x7 x8 : Option V} {σ : L2.St} {v : V} {q : L2.St → Hp → Prop} : Stp (gName 8 v (x0 :: x1 :: x2 :: x3 :: x4 :: x5 :: x6 :: x7 :: x8 :: σ) H q) (q (x0 :: x1 :: x2 :: x3 :: x4 :: x5 :: x6 :: x7 :: some v :: σ) H) := ⟨fun h => r_name8 h⟩
instance (priority := 1989) sr_name9 {x0 x1 x2 x3 x4 x5 x6 x7 x8 x9 : Option V} {σ : L2.St} {v : V} {q : L2.St → Hp → Prop} : Stp (gName 9 v (x0 :: x1 :: x2 :: x3 :: x4 :: x5 :: x6 :: x7 :: x8 :: x9 :: σ) H q) (q (x0 :: x1 :: x2 :: x3 :: x4 :: x5 :: x6 :: x7 :: x8 :: some v :: σ) H) := ⟨fun h => r_name9 h⟩
instance (priority := 1988) sr_name10 {x0 x1 x2 x3 x4 x5 x6 x7 x8 x9 x10 : Option V} {σ : L2.St} {v : V} {q : L2.St → Hp → Prop} : Stp (gName 10 v (x0 :: x1 :: x2 :: x3 :: x4 :: x5 :: x6 :: x7 :: x8 :: x9 :: x10 :: σ) H q) (q (x0 :: x1 :: x2 :: x3 :: x4 :: x5 :: x6 :: x7 :: x8 :: x9 :: some v :: σ) H) := ⟨fun h => r_name10 h⟩
instance (priority := 1978) sr_c {v : V} : Stp (tC v σ H Q) (Q v H) := ⟨fun h => r_c h⟩
instance (priority := 1977) sr_op {r : R2} : Stp (tOp r ta tb σ H Q) (ta σ H fun x H1 => tb σ H1 fun y H2 => r x y H2 Q) := ⟨fun h => r_op h⟩
instance (priority := 1976) sr_i0 {g : Int → Int → V} {i j : Int} : Stp (rI0 g (.int i) (.int j) H Q) (Q (g i j) H) := ⟨fun h => r_i0 h⟩
instance (priority := 1975) sr_eqI {i j : Int} : Stp (rEq (.int i) (.int j) H Q) (Q (.bl (decide (i = j))) H) := ⟨fun h => r_eqI h⟩
instance (priority := 1974) sr_neI {i j : Int} : Stp (rNe (.int i) (.int j) H Q) (Q (.bl (!decide (i = j))) H) := ⟨fun h => r_neI h⟩
instance (priority := 1973) sr_cons {tr : TA} {Q : List V → Hp → Prop} : Stp (tCons ta tr σ H Q) (ta σ H fun x H1 => tr σ H1 fun xs H2 => Q (x :: xs) H2) := ⟨fun h => r_cons h⟩
instance (priority := 1972) sr_nil {Q : List V → Hp → Prop} : Stp (tNil σ H Q) (Q [] H) := ⟨fun h => r_nil h⟩
instance (priority := 1971) sr_call {sp : Sp} {dvs : List V} {E : XK} {ta : TA} : Stp (tCall sp dvs E ta σ H Q) (ta σ H fun vs H1 => sp (vs ++ dvs) H1 Q E) := ⟨fun h => r_call h⟩
instance (priority := 1970) sr_cb {r : List V → Hp → VK → Prop} {ta : TA} : Stp (tCB r ta σ H Q) (ta σ H fun vs H1 => r vs H1 Q) := ⟨fun h => r_cb h⟩
instance (priority := 1969) sr_test {Q : Bool → Hp → Prop} : Stp (tTest te σ H Q) (te σ H fun x H1 => KB Q x H1) := ⟨fun h => r_test h⟩
instance (priority := 1968) sr_tB {Q : Bool → Hp → Prop} : Stp (tB te σ H Q) (te σ H fun x H1 => KB Q x H1) := ⟨fun h => r_tB h⟩
instance (priority := 1967) sr_k {Q : Bool → Hp → Prop} {b : Bool} : Stp (KB Q (.bl b) H) (Q b H) := ⟨fun h => r_k h⟩
instance (priority := 1966) sr_int1 {i : Int} : Stp (rInt1 [.int i] H Q) (Q (.int i) H) := ⟨fun h => r_int1 h⟩
instance (priority := 1965) sr_int1b {b : Bool} : Stp (rInt1 [.bl b] H Q) (Q (.int (if b then 1 else 0)) H) := ⟨fun h => r_int1b h⟩
instance (priority := 1964) sr_min2 {i j : Int} : Stp (rMin2 [.int i, .int j] H Q) (Q (.int (min i j)) H) := ⟨fun h => r_min2 h⟩
instance (priority := 1963) sr_max2 {i j : Int} : Stp (rMax2 [.int i, .int j] H Q) (Q (.int (max i j)) H) := ⟨fun h => r_max2 h⟩
instance (priority := 1962) sr_ret  : Stp (tRet te ⟨nx, Q, bk, ct⟩ σ H) (te σ H Q) := ⟨fun h => r_ret h⟩
instance (priority := 1961) sr_ifS  : Stp (tIfS t a b ⟨nx, Q, bk, ct⟩ σ H) (t σ H fun c H1 => if c = true then a ⟨nx, Q, bk, ct⟩ σ H1 else b ⟨nx, Q, bk, ct⟩ σ H1) := ⟨fun h => r_ifS h⟩
instance (priority := 1960) sr_tup {ta : TA} : Stp (tTup ta σ H Q) (ta σ H (TupN Q)) := ⟨fun h => r_tup h⟩
instance (priority := 1959) sr_lst {ta : TA} : Stp (tLst ta σ H Q) (ta σ H (LstN Q)) := ⟨fun h => r_lst h⟩
instance (priority := 1958) sr_un {r : V → Hp → VK → Prop} : Stp (tUn r ta σ H Q) (ta σ H fun x H1 => r x H1 Q) := ⟨fun h => r_un h⟩
instance (priority := 1957) sr_u {g : Int → V} {i : Int} : Stp (rU g (.int i) H Q) (Q (g i) H) := ⟨fun h => r_u h⟩
instance (priority := 1955) sr_neB {i j : Bool} : Stp (rNe (.bl i) (.bl j) H Q) (Q (.bl (!(i == j))) H) := ⟨fun h => r_neB h⟩
instance (priority := 1954) sr_not {Q : Bool → Hp → Prop} : Stp (tNot t σ H Q) (t σ H fun c H1 => Q (!c) H1) := ⟨fun h => r_not h⟩
instance (priority := 1953) sr_and {Q : Bool → Hp → Prop} : Stp (tAnd t u σ H Q) (t σ H fun c H1 => if c = true then u σ H1 Q else Q false H1) := ⟨fun h => r_and h⟩
instance (priority := 1952) sr_or {Q : Bool → Hp → Prop} : Stp (tOr t u σ H Q) (t σ H fun c H1 => if c = true then Q true H1 else u σ H1 Q) := ⟨fun h => r_or h⟩
instance (priority := 1951) sr_if  : Stp (tIf t ta tb σ H Q) (t σ H fun c H1 => if c = true then ta σ H1 Q else tb σ H1 Q) := ⟨fun h => r_if h⟩
instance (priority := 1950) sr_bm {T : String} {r : V → List V → Hp → VK → Prop} {ta : TA} : Stp (tBM K T r te ta σ H Q) (te σ H (Bm K T r ta σ Q)) := ⟨fun h => r_bm h⟩
instance (priority := 1949) sr_lstRg {t : L2.St → Hp → (Int → Int → Hp → Prop) → Prop} : Stp (tLstRg t σ H Q) (t σ H (LRg Q)) := ⟨fun h => r_lstRg h⟩
instance (priority := 1948) sr_tRg1 {Q : Int → Int → Hp → Prop} : Stp (tRg1 ta σ H Q) (ta σ H (R1N Q)) := ⟨fun h => r_tRg1 h⟩
instance (priority := 1947) sr_r1N {Q : Int → Int → Hp → Prop} {n : Int} : Stp (R1N Q (.int n) H) (Q 0 n H) := ⟨fun h => r_r1N h⟩
instance (priority := 1946) sr_sl {r : V → Option Int → Option Int → Hp → VK → Prop} {tl th : TO} : Stp (tSl r te tl th σ H Q) (te σ H fun x H1 => tl σ H1 fun l H2 => th σ H2 fun u H3 => r x l u H3 Q) := ⟨fun h => r_sl h⟩
instance (priority := 1945) sr_part {Q : Option Int → Hp → Prop} : Stp (tPart te σ H Q) (te σ H (PartN Q)) := ⟨fun h => r_part h⟩
instance (priority := 1944) sr_partN {Q : Option Int → Hp → Prop} {i : Int} : Stp (PartN Q (.int i) H) (Q (some i) H) := ⟨fun h => r_partN h⟩
instance (priority := 1943) sr_noPart {Q : Option Int → Hp → Prop} : Stp (tNoPart σ H Q) (Q none H) := ⟨fun h => r_noPart h⟩
instance (priority := 1942) sr_andV  : Stp (tAndV ta tb σ H Q) (ta σ H (AndN tb σ Q)) := ⟨fun h => r_andV h⟩
instance (priority := 1941) sr_orV  : Stp (tOrV ta tb σ H Q) (ta σ H (OrN tb σ Q)) := ⟨fun h => r_orV h⟩
instance (priority := 1940) sr_notV  : Stp (tNotV ta σ H Q) (ta σ H (NotN Q)) := ⟨fun h => r_notV h⟩
instance (priority := 1939) sr_andN {c : Bool} : Stp (AndN tb σ Q (.bl c) H) (if c = true then tb σ H Q else Q (.bl false) H) := ⟨fun h => r_andN h⟩
instance (priority := 1938) sr_orN {c : Bool} : Stp (OrN tb σ Q (.bl c) H) (if c = true then Q (.bl true) H else tb σ H Q) := ⟨fun h => r_orN h⟩
instance (priority := 1937) sr_notN {c : Bool} : Stp (NotN Q (.bl c) H) (Q (.bl (!c)) H) := ⟨fun h => r_notN h⟩
instance (priority := 1936) sr_next  : Stp (tNext ⟨nx, Q, bk, ct⟩ σ H) (nx σ H) := ⟨fun h => r_next h⟩
instance (priority := 1935) sr_drop  : Stp (tDrop te ⟨nx, Q, bk, ct⟩ σ H) (te σ H fun _ H1 => nx σ H1) := ⟨fun h => r_drop h⟩
instance (priority := 1934) sr_sub {to ti : TE} {ts : TSet} {v : V} {q : L2.St → Hp → Prop} : Stp (gSub to ti ts v σ H q) (to σ H fun o H1 => ti σ H1 fun i H2 => ts o i v H2 fun H3 => q σ H3) := ⟨fun h => r_sub h⟩
instance (priority := 1933) sr_for {wi : TI} {g : TG} {tb : TS} : Stp (tFor wi g tb ⟨nx, Q, bk, ct⟩ σ H) (wi σ H fun J H1 => ForR J g tb nx Q σ H1) := ⟨fun h => r_for h⟩
instance (priority := 1932) sr_rng1 {ta : TA} {R : It → Hp → Prop} : Stp (iRng1 ta σ H R) (ta σ H (Rg1 R)) := ⟨fun h => r_rng1 h⟩
instance (priority := 1931) sr_rng2 {ta : TA} {R : It → Hp → Prop} : Stp (iRng2 ta σ H R) (ta σ H (Rg2 R)) := ⟨fun h => r_rng2 h⟩
instance (priority := 1930) sr_ilist {R : It → Hp → Prop} : Stp (iList K te σ H R) (te σ H (Il K R)) := ⟨fun h => r_ilist h⟩
instance (priority := 1929) sr_itup {R : It → Hp → Prop} : Stp (iTup K te σ H R) (te σ H (Itp K R)) := ⟨fun h => r_itup h⟩
instance (priority := 1928) sr_lc {wi : TI} {g : TG} {tt : TT} {vs : List Nat} : Stp (tLc wi g tt te vs σ H Q) (wi σ H fun J H1 => ∀ D, H1 D = none → LcR J g tt te vs σ D Q H1) := ⟨fun h => r_lc h⟩
instance (priority := 1927) sr_yes {Q : Bool → Hp → Prop} : Stp (tYes σ H Q) (Q true H) := ⟨fun h => r_yes h⟩
instance (priority := 1926) sr_gcons {g : TG} {gs : TGs} {v : V} {r : List V} {q : L2.St → Hp → Prop} : Stp (gCons g gs (v :: r) σ H q) (g v σ H fun σ' H' => gs r σ' H' q) := ⟨fun h => r_gcons h⟩
instance (priority := 1925) sr_gnil {q : L2.St → Hp → Prop} : Stp (gNil [] σ H q) (q σ H) := ⟨fun h => r_gnil h⟩
instance (priority := 1922) sr_dget {td ty : TE} : Stp (tDGet td ty σ H Q) (td σ H fun x H1 => ty σ H1 (DgN Q x)) := ⟨fun h => r_dget h⟩
instance (priority := 1921) sr_star {te : TE} {t : TA} {Q : List V → Hp → Prop} : Stp (StX.tStar K te t σ H Q) (te σ H (StN K t σ Q)) := ⟨fun h => r_star h⟩
instance (priority := 1920) sr_match {te : TE} {t : V → TS} : Stp (tMatch te t D σ H) (te σ H fun v H1 => t v D σ H1) := ⟨fun h => r_match h⟩
instance (priority := 1918) sr_dnot {td ty : TE} : Stp (tDNotIn ty td σ H Q) (ty σ H fun y H1 => td σ H1 (DnN Q y)) := ⟨fun h => r_dnot h⟩
instance (priority := 1917) sr_chain {r r' : R2} {ta tb tc : TE} : Stp (tChain r r' ta tb tc σ H Q) (ta σ H fun x H1 => tb σ H1 fun y H2 => r x y H2 (ChN r' tc σ Q y)) := ⟨fun h => r_chain h⟩
instance (priority := 1916) sr_chn {r' : R2} {tc : TE} {y : V} {b : Bool} : Stp (ChN r' tc σ Q y (.bl b) H) (if b = true then tc σ H fun w' H4 => r' y w' H4 Q else Q (.bl false) H) := ⟨fun h => r_chn h⟩
instance (priority := 1914) sr_truth {ta : TE} {Q : Bool → Hp → Prop} : Stp (tTruth K ta σ H Q) (ta σ H (TruN K Q)) := ⟨fun h => r_truth h⟩
instance (priority := 1913) sr_bm0 {T : String} {r : V → List V → Hp → VK → Prop} {te : TE} : Stp (tBM0 K T r te σ H Q) (te σ H (Bm0 K T r Q)) := ⟨fun h => r_bm0 h⟩
instance (priority := 1899) sr_set2u {p : Addr} {x0 x1 x2 : V} {xs : List V} {v : V} {q : Hp → Prop} : Stp (rSetL (.ref p) (.int 2) v (upd H p (.lst (x0 :: x1 :: x2 :: xs))) q) (q (upd H p (.lst (x0 :: x1 :: v :: xs)))) := ⟨fun h => r_set2u h⟩
instance (priority := 1990) sr_var0 {σ : L2.St} {v : V} : Stp (tVar 0 (some v :: σ) H Q) (Q v H) := ⟨fun h => r_var rfl h⟩
instance (priority := 1990) sr_var1 {x0 : Option V} {σ : L2.St} {v : V} : Stp (tVar 1 (x0 :: some v :: σ) H Q) (Q v H) := ⟨fun h => r_var rfl h⟩
instance (priority := 1990) sr_var2 {x0 x1 : Option V} {σ : L2.St} {v : V} : Stp (tVar 2 (x0 :: x1 :: some v :: σ) H Q) (Q v H) := ⟨fun h => r_var rfl h⟩
instance (priority := 1990) sr_var3 {x0 x1 x2 : Option V} {σ : L2.St} {v : V} : Stp (tVar 3 (x0 :: x1 :: x2 :: some v :: σ) H Q) (Q v H) := ⟨fun h => r_var rfl h⟩
instance (priority := 1990) sr_var4 {x0 x1 x2 x3 : Option V} {σ : L2.St} {v : V} : Stp (tVar 4 (x0 :: x1 :: x2 :: x3 :: some v :: σ) H Q) (Q v H) := ⟨fun h => r_var rfl h⟩
instance (priority := 1990) sr_var5 {x0 x1 x2 x3 x4 : Option V} {σ : L2.St} {v : V} : Stp (tVar 5 (x0 :: x1 :: x2 :: x3 :: x4 :: some v :: σ) H Q) (Q v H) := ⟨fun h => r_var rfl h⟩
instance (priority := 1990) sr_var6 {x0 x1 x2 x3 x4 x5 : Option V} {σ : L2.St} {v : V} : Stp (tVar 6 (x0 :: x1 :: x2 :: x3 :: x4 :: x5 :: some v :: σ) H Q) (Q v H) := ⟨fun h => r_var rfl h⟩
instance (priority := 1990) sr_var7 {x0 x1 x2 x3 x4 x5 x6 : Option V} {σ : L2.St} {v : V} : Stp (tVar 7 (x0 :: x1 :: x2 :: x3 :: x4 :: x5 :: x6 :: some v :: σ) H Q) (Q v H) := ⟨fun h => r_var rfl h⟩
instance (priority := 1990) sr_var8 {x0 x1 x2 x3 x4 x5 x6 x7 : Option V} {σ : L2.St} {v : V} : Stp (tVar 8 (x0 :: x1 :: x2 :: x3 :: x4 :: x5 :: x6 :: x7 :: some v :: σ) H Q) (Q v H) := ⟨fun h => r_var rfl h⟩
instance (priority := 1990) sr_var9 {x0 x1 x2 x3 x4 x5 x6 x7 x8 : Option V} {σ : L2.St} {v : V} : Stp (tVar 9 (x0 :: x1 :: x2 :: x3 :: x4 :: x5 :: x6 :: x7 :: x8 :: some v :: σ) H Q) (Q v H) := ⟨fun h => r_var rfl h⟩
instance (priority := 1990) sr_var10 {x0 x1 x2 x3 x4 x5 x6 x7 x8 x9 : Option V} {σ : L2.St} {v : V} : Stp (tVar 10 (x0 :: x1 :: x2 :: x3 :: x4 :: x5 :: x6 :: x7 :: x8 :: x9 :: some v :: σ) H Q) (Q v H) := ⟨fun h => r_var rfl h⟩
end

set_option Elab.async false
set_option linter.all false
set_option maxRecDepth 100000
set_option maxHeartbeats 4000000
open PySem PySem.Spec PySem.W PyProof.Rows L2
/-! # sorted of a list of data -/
theorem dLe_trans (a b c : PyData) (h1 : (!dataLt b a) = true) (h2 : (!dataLt c b) = true) : (!dataLt c a) = true := by
  cases q : dataLt c a with
  | false => rfl
  | true =>
    rw [Bool.not_eq_true'] at h1 h2
    rcases lex_negTrans (O := itemOrd) _ (keyToks b) _ q with z | z
    · exact absurd (h2.symm.trans z) Bool.false_ne_true
    · exact absurd (h1.symm.trans z) Bool.false_ne_true
theorem dLe_total (a b : PyData) : (!dataLt b a || !dataLt a b) = true := by
  cases p : dataLt b a with
  | false => rfl
  | true =>
    cases q : dataLt a b with
    | false => rfl
    | true =>
      have h := lex_trans (O := itemOrd) _ _ _ p q
      exact absurd ((lex_irrefl (O := itemOrd) _).symm.trans h) Bool.false_ne_true
theorem zip_snd {K : PySem.W.Frag} {H : Hp} : ∀ {xs : List V} {ds : List PyData}, DpAll K H xs ds → (xs.zip ds).map Prod.snd = ds
  | _, _, .nil => rfl
  | _, _, .cons _ t => by rw [List.zip_cons_cons, List.map_cons, zip_snd t]
theorem dp_len {K : PySem.W.Frag} {H : Hp} : ∀ {xs : List V} {ds : List PyData}, DpAll K H xs ds → xs.length = ds.length
  | _, _, .nil => rfl
  | _, _, .cons _ t => by rw [List.length_cons, List.length_cons, dp_len t]
theorem zip_dp {K : PySem.W.Frag} {H : Hp} : ∀ {xs : List V} {ds : List PyData}, DpAll K H xs ds → ∀ b ∈ xs.zip ds, Dp K H b.1 b.2
  | _, _, .nil, b, h => by cases h
  | _, _, .cons a t, b, h => by
    rw [List.zip_cons_cons] at h
    rcases List.mem_cons.mp h with rfl | h
    · exact a
    · exact zip_dp t b h
theorem dp_zip {K : PySem.W.Frag} {H : Hp} : ∀ {bs : List (V × PyData)}, (∀ b ∈ bs, Dp K H b.1 b.2) → DpAll K H (bs.map Prod.fst) (bs.map Prod.snd)
  | [], _ => .nil
  | b :: bs, h => .cons (h b List.mem_cons_self) (dp_zip fun c hc => h c (List.mem_cons_of_mem _ hc))
theorem zip_back : ∀ bs : List (V × PyData), (bs.map Prod.fst).zip (bs.map Prod.snd) = bs
  | [] => rfl
  | b :: bs => by rw [List.map_cons, List.map_cons, List.zip_cons_cons, zip_back bs]
theorem deep_mem {ds : List PyData} {d : PyData} (h : d ∈ ds) : d.depth ≤ PyData.depthAll ds := by
  induction ds with
  | nil => cases h
  | cons e ds ih =>
    simp only [PyData.depthAll]
    rcases List.mem_cons.mp h with rfl | h
    · omega
    · have := ih h
      omega
def rSortD (K : PySem.W.Frag) : List V → Hp → VK → Prop := fun vs H Q => ∃ (a : Addr) (xs : List V) (ds : List PyData), vs = [.ref a] ∧ SqL K H a xs ∧ DpAll K H xs ds ∧ AllAlike ds ∧ Sortable ds ∧ PyData.depthAll ds ≤ 60 ∧
  ∀ (ys : List V) (es : List PyData) (p : Addr), (ys.zip es).Perm (xs.zip ds) → ys.length = es.length → ys.Perm xs → es.Perm ds → DpAll K H ys es → es.Pairwise (fun d e => dataLt e d = false) → H p = none → Q (.ref p) (upd H p (.lst ys))
section
variable {X : Cx}
theorem each_of {pins : List (Addr × Obj)} {s : Shared} {σ : L2.St} {H : Hp} (I : Inv X pins σ H s) : ∀ {xs : List V} {its : List Value} {ds : List PyData}, Vals xs its → DpAll X.K H xs ds →
    EachIs (fun v (b : V × PyData) => RelV b.1 v) its (xs.zip ds) ∧ EachIs (fun v (b : V × PyData) => ∃ as, Reads s.heap v b.2 as) its (xs.zip ds)
  | _, _, _, .nil, .nil => ⟨.nil, .nil⟩
  | _, _, _, .cons r rs, .cons h t => by
    obtain ⟨h1, h2⟩ := each_of I rs t
    exact ⟨.cons r h1, .cons (Dp.reads I _ _ _ h r) h2⟩
theorem vals_each : ∀ {out : List Value} {bs : List (V × PyData)}, EachIs (fun v (b : V × PyData) => RelV b.1 v) out bs → Vals (bs.map Prod.fst) out
  | _, _, .nil => .nil
  | _, _, .cons h t => .cons h (vals_each t)
theorem cr_sortD (hu : X.A.units + 64 < cLine) : CallR X (.builtin "sorted") (rSortD X.K) := by
  intro pins s σ H vs us Q I r h
  obtain ⟨a, xs, ds, rfl, hl, hd, al, sb, dep, q⟩ := h
  rw [Vals.ref1 r]
  obtain ⟨its, rv, hL, hz⟩ := I.list hl
  obtain ⟨e1, e2⟩ := each_of I rv hd
  have es := zip_snd hd
  have lz : (xs.zip ds).length = xs.length := by
    have := dp_len hd
    rw [List.length_zip]
    omega
  refine sorted_data (enc := Prod.snd) hL.isList e1 e2 (by rw [es]; exact al) (by rw [es]; exact sb) (by rw [lz]; exact hz) (fun b hb => ?_) fun out lo ho => ?_
  · have := deep_mem (ds := ds) (d := b.2) (by rw [← es]; exact List.mem_map.mpr ⟨b, hb, rfl⟩)
    show X.A.units + 2 + b.2.depth < cLine
    generalize b.2.depth = k at this ⊢
    omega
  · have pm : ((xs.zip ds).mergeSort (dataLe false Prod.snd)).Perm (xs.zip ds) := List.mergeSort_perm _ _
    have pw : ((xs.zip ds).mergeSort (dataLe false Prod.snd)).Pairwise (fun a b => dataLe false Prod.snd a b = true) := List.pairwise_mergeSort (fun a b c h1 h2 => by
      rw [dataLe_eq] at *
      exact dLe_trans _ _ _ h1 h2) (fun a b => by
      rw [dataLe_eq]
      exact dLe_total _ _) _
    have hv := vals_each ho
    generalize (xs.zip ds).mergeSort (dataLe false Prod.snd) = bs at pm pw hv
    have p1 : (bs.map Prod.fst).Perm xs := by
      have z := pm.map Prod.fst
      have l2 : ds.length = xs.length := by rw [← es, List.length_map, lz]
      rwa [List.map_fst_zip (by omega)] at z
    have p2 : (bs.map Prod.snd).Perm ds := by
      have z := pm.map Prod.snd
      rwa [es] at z
    obtain ⟨n, hn⟩ := sortedAll_at s.heap its out.toArray
    refine ⟨.ref (s.heap.objs.size + 1), upd H (s.heap.objs.size + 1) (.lst (bs.map Prod.fst)), I.laid (t' := s.toks) (fun b o e => sortedAll_old e) (Nat.le_succ _) ⟨?_, out, n, hv, hn⟩, rfl, q _ (bs.map Prod.snd) _ (by rw [zip_back]; exact pm) (by rw [List.length_map, List.length_map]) p1 p2 (dp_zip fun b hb => zip_dp hd b (pm.mem_iff.mp hb)) ?_ (I.hok.fresh (Nat.le_succ _))⟩
    · rw [p1.length_eq]
      exact hz
    · refine List.pairwise_map.mpr (pw.imp fun {a b} h => ?_)
      rw [dataLe_eq] at h
      have h : (!dataLt b.2 a.2) = true := h
      rwa [Bool.not_eq_true'] at h
theorem cr_sortDK {K : PySem.W.Frag} (h : X.K = K) (hu : X.A.units + 64 < cLine) : CallR X (.builtin "sorted") (rSortD K) := h ▸ cr_sortD hu
end

set_option Elab.async false
set_option linter.all false
set_option maxRecDepth 100000
set_option maxHeartbeats 4000000
open PySem PySem.Spec PyProof.Rows L2
/-! # is a tuple in a set of tuples -/
section
variable {P : Program} {w : World} {A : Around} {E : Value → Shared → Prop} {s : Shared} {a : Addr} {L : List (Addr × List Int)} {es : Array (Int × Value)} {ep : Nat} {t : SetTable}
end
section
variable {X : Cx} {K : PySem.W.Frag} {P : Program} {w : World} {σ : L2.St} {H : Hp} {Q : VK}
variable {o e : Expr} {es : List Expr} {to : TE} {t : TA} {apos cpos : Pos}
end

set_option Elab.async false
set_option linter.all false
set_option maxRecDepth 100000
set_option maxHeartbeats 4000000
/-! # orbits of a map that turns a list around, and the list of them -/
section
variable {α : Type} [DecidableEq α]
variable {f : α → α} {A : List α}
/-! ## the walks the other way around -/
end

set_option Elab.async false
set_option linter.all false
set_option maxRecDepth 100000
set_option maxHeartbeats 4000000
/-! # the arrow behind an arrow, by a rotation -/
set_option Elab.async false
set_option linter.all false
set_option maxRecDepth 100000
set_option maxHeartbeats 4000000
open PySem PySem.Spec PyProof.Rows L2
/-! # t[::-1] of a tuple -/
section
variable {prog : Program} {w : World} {A : Around} {E : Value → Shared → Prop} {s : Shared}
open HT in
end
section
variable {X : Cx} {K : PySem.W.Frag} {σ : L2.St} {H : Hp} {Q : VK}
def RevTN (K : PySem.W.Frag) (Q : VK) : VK := fun x H1 => ∃ a xs, x = V.ref a ∧ SqT K H1 a xs ∧ ∀ (p : Addr) (o : Obj), H1 p = none → o.dict = none → Q (.ref p) (upd H1 p (.frz o (.tup xs.reverse)))
def tRevT (K : PySem.W.Frag) (te : TE) : TE := fun σ H Q => te σ H (RevTN K Q)
theorem PE.revLK {f : Expr} {te : TE} (h : X.K = K) (p : PE X f (tRevL X.K te)) : PE X f (tRevL K te) := h ▸ p
def RevLN (K : PySem.W.Frag) (Q : VK) : VK := fun x H1 => ∃ a xs, x = V.ref a ∧ SqL K H1 a xs ∧ ∀ p, H1 p = none → Q (.ref p) (upd H1 p (.lst xs.reverse))
theorem r_revT {te : TE} (h : te σ H (RevTN K Q)) : tRevT K te σ H Q := h
theorem r_revL {te : TE} (h : te σ H (RevLN K Q)) : tRevL K te σ H Q := h
theorem r_revTN {a : Addr} {xs : List V} (h : SqT K H a xs) (q : ∀ (p : Addr) (o : Obj), H p = none → o.dict = none → Q (.ref p) (upd H p (.frz o (.tup xs.reverse)))) : RevTN K Q (.ref a) H := ⟨a, xs, rfl, h, q⟩
theorem r_revLN {a : Addr} {xs : List V} (h : SqL K H a xs) (q : ∀ p, H p = none → Q (.ref p) (upd H p (.lst xs.reverse))) : RevLN K Q (.ref a) H := ⟨a, xs, rfl, h, q⟩
end

set_option Elab.async false
set_option linter.all false
set_option maxRecDepth 100000
set_option maxHeartbeats 4000000
open PySem PySem.Spec PySem.W PySem.Calls PyProof.Rows L2
/-! # sorted of a tuple of data -/
section
variable {prog : Program} {w : World} {A : Around} {E : Value → Shared → Prop} {s : Shared}
end
/-- sorted of a tuple -/
def rSortDT (K : PySem.W.Frag) : List V → Hp → VK → Prop := fun vs H Q => ∃ (a : Addr) (xs : List V) (ds : List PyData), vs = [.ref a] ∧ SqT K H a xs ∧ DpAll K H xs ds ∧ AllAlike ds ∧ Sortable ds ∧ PyData.depthAll ds ≤ 60 ∧
  ∀ (ys : List V) (es : List PyData) (p : Addr), (ys.zip es).Perm (xs.zip ds) → ys.length = es.length → ys.Perm xs → es.Perm ds → DpAll K H ys es → es.Pairwise (fun d e => dataLt e d = false) → H p = none → Q (.ref p) (upd H p (.lst ys))
section
variable {X : Cx}
end
/-! # one sorted list alone -/
set_option Elab.async false
set_option linter.all false
set_option maxRecDepth 100000
set_option maxHeartbeats 4000000
/-! # decompositions -/
section
variable {n : Int} {ps L : List (Int × Int)} {bags : List (List Int)}
/-! ## a bag within a linked one goes -/
theorem map_inj_on {α β : Type} {f : α → β} {l : List α} (h : (l.map f).Nodup) {a b : α} (ha : a ∈ l) (hb : b ∈ l) (e : f a = f b) : a = b := by
  induction l with
  | nil => cases ha
  | cons c l ih =>
    obtain ⟨n1, n2⟩ := List.nodup_cons.mp h
    rcases List.mem_cons.mp ha with ea | ha
    · rcases List.mem_cons.mp hb with eb | hb
      · rw [ea, eb]
      · exact absurd (List.mem_map.mpr ⟨b, hb, by rw [← ea]; exact e.symm⟩) n1
    · rcases List.mem_cons.mp hb with eb | hb
      · exact absurd (List.mem_map.mpr ⟨a, ha, by rw [← eb]; exact e⟩) n1
      · exact ih n2 ha hb
end

set_option Elab.async false
set_option linter.all false
set_option maxRecDepth 100000
set_option maxHeartbeats 4000000
/-! # the decomposition that an order gives -/
section
variable {n : Nat} {ps : List (Int × Int)} {o : List Int}
end

set_option Elab.async false
set_option linter.all false
set_option maxRecDepth 100000
set_option maxHeartbeats 4000000
open PySem PySem.Spec PySem.W PySem.Calls PyProof.Rows L2
/-! # list.remove of data; (a, b) = a list -/
section
variable {X : Cx}
end
def tI (ns : List Int) : PyData := .tuple (ns.map PyData.int)
section
variable {K : PySem.W.Frag} {σ : L2.St} {H : Hp} {Q : VK} {te : TE}
end
set_option Elab.async false
set_option linter.all false
set_option maxRecDepth 100000
set_option maxHeartbeats 4000000
open PySem PySem.Spec PySem.W PySem.Calls PyProof.Rows L2
/-! # a op b op c op d, as a test -/
section
variable {X : Cx} {a b c d : Expr} {ta tb tc td : TE} {pos : Pos}
end
section
variable {σ : L2.St} {H : Hp} {Q : VK} {ta tb tc td : TE} {r r' r'' : R2}
end

set_option Elab.async false
set_option linter.all false
set_option maxRecDepth 100000
set_option maxHeartbeats 4000000
open PySem PySem.Spec PyProof.Rows L2 LamX
/-! # a lambda of one parameter, handed to a def of two -/
/-- one parameter; else captured names and globals -/
structure LamS1 (x : Str) (sc scope : Scope) : Prop where
  kind : scope.kind = .function
  co : scope.isCoroutine = false
  gen : scope.isGenerator = false
  own : ∀ y ∈ scope.names, (y.2 = .local → y.1 = x) ∧ y.2 ≠ .cell
  par : scope.names.lookup x = some .local
  free : ∀ y ∈ scope.names, y.2 = .free → sc.names.lookup y.1 = some .cell ∨ sc.names.lookup y.1 = some .free
def lamS1B (x : Str) (sc scope : Scope) : Bool :=
  decide (scope.kind = .function) && !scope.isCoroutine && !scope.isGenerator && decide (scope.names.lookup x = some .local) && scope.names.all fun y => (!decide (y.2 = .local) || decide (y.1 = x)) && !decide (y.2 = .cell) && (!decide (y.2 = .free) || decide (sc.names.lookup y.1 = some .cell) || decide (sc.names.lookup y.1 = some .free))
theorem lamS1_by {x : Str} {sc scope : Scope} (h : lamS1B x sc scope = true) : LamS1 x sc scope := by
  unfold lamS1B at h
  simp only [Bool.and_eq_true, Bool.or_eq_true, Bool.not_eq_true', decide_eq_true_eq, decide_eq_false_iff_not, List.all_eq_true] at h
  obtain ⟨⟨⟨⟨h1, h2⟩, h3⟩, h5⟩, h4⟩ := h
  refine ⟨h1, h2, h3, fun y hy => ⟨fun e => ?_, (h4 y hy).1.2⟩, h5, fun y hy e => ?_⟩
  · rcases (h4 y hy).1.1 with z | z
    · exact absurd e z
    · exact z
  · rcases (h4 y hy).2 with (z | z) | z
    · exact absurd e z
    · exact .inl z
    · exact .inr z
theorem LamS1.has {X : Cx} {x : Str} {scope : Scope} (L : LamS1 x X.env.scope scope) (ok : X.Ok) : ∀ y ∈ scope.names, y.2 = .free → ∃ c, X.env.cells.lookup y.1 = some c := fun y hy e => by
  rcases L.free y hy e with k | k
  · exact ok.has _ (.inl k)
  · exact ok.has _ (.inr k)
theorem nodup_at {α : Type} {N : List α} (nd : N.Nodup) {i j : Nat} {x : α} (h1 : N[i]? = some x) (h2 : N[j]? = some x) : i = j := by
  obtain ⟨a1, b1⟩ := List.getElem?_eq_some_iff.mp h1
  obtain ⟨a2, b2⟩ := List.getElem?_eq_some_iff.mp h2
  have pw := List.pairwise_iff_getElem.mp nd
  rcases Nat.lt_trichotomy i j with c | c | c
  · exact absurd (b1.trans b2.symm) (pw _ _ a1 a2 c)
  · exact c
  · exact absurd (b2.trans b1.symm) (pw _ _ a2 a1 c)
section
variable {X : Cx} {pins : List (Addr × Obj)} {σ : L2.St} {H HZ : Hp} {s s1 : Shared}
theorem lam_start1 {A : Around} {outer : List Env} {E : XK} {scope : Scope} {f c' : Addr} {h₁ : Heap} {tk : Nat} {x : Str} {ix : Nat} {xv : V} {u : Value} (I : Inv X pins σ H s) (L : LamS1 x X.env.scope scope) (hx : X.N[ix]? = some x) (hN : X.N.Nodup) (rx : RelV xv u) (e0 : Env0 X.prog X.w X.K X.mg X.base A outer s1 HZ) (hd : A.handled = none)
    (un : Un (frs X.stack) [] H HZ s.heap s1.heap) (hns : h₁.Ns s1.heap.objs.size fun y => ([(x, u)] : List (Str × Value)).reverse.lookup y) (kp : ∀ b o, s1.heap.get? b = some o → h₁.get? b = some o) :
    Inv (lamCx X A outer s1 HZ E scope f c') [] (σ.set ix (some xv)) HZ { s1 with heap := h₁, toks := tk } := by
  have hfree := L.has I.ok
  have cm : ∀ {y c}, (cloFrom X.env.cells scope.names []).lookup y = some c → X.env.cells.lookup y = some c := fun {y c} e => by
    rcases cloFrom_mem (PySem.mem_of_lookup e) with hm | ⟨h1, h2⟩
    · cases hm
    · obtain ⟨c1, hc⟩ := hfree _ h1 rfl
      have hc : X.env.cells.lookup y = some c1 := hc
      have e2 : c = c1 := by
        rw [h2, hc] <;> rfl
      rw [e2]
      exact hc
  have look : ∀ {y}, scope.names.lookup y = some .free → ∃ c, (cloFrom X.env.cells scope.names []).lookup y = some c := fun {y} hl => by
    have hy : (y, NameKind.free) ∈ scope.names := PySem.mem_of_lookup hl
    exact mem_lookup (cloFrom_has (cells := X.env.cells) (acc := []) hy)
  have cellK : ∀ {c : Addr} {v : Option Value}, H c = none → s.heap.IsCell c v → h₁.IsCell c v := fun {c v} n ⟨o, ho, hd⟩ => by
    obtain ⟨sl, q⟩ := un.any ho n (by simp)
    exact ⟨_, kp _ _ q, hd⟩
  have noA : ∀ b : Addr, b ∉ (lamCx X A outer s1 HZ E scope f c').ex := fun b z => absurd (show b ∈ ([] : List Addr) from z) (by simp)
  have ixl : ix < σ.length := by
    rw [I.len]
    exact (List.getElem?_eq_some_iff.mp hx).1
  refine ⟨⟨e0.mod, L.kind, rfl, rfl, Nat.le_refl _, fun y z c e1 e2 => I.ok.inj y z c (cm e1) (cm e2), fun y hy => ?_, fun y c z _ => ?_, fun _ => hd, Around.frames_deeper e0.frames, .inr ⟨rfl, rfl⟩, fun b z => absurd z (noA b), e0.bs, e0.bsz, fun b _ _ => noA b,
      fun b z => absurd z (noA b), e0.funs, e0.frf⟩,
    rfl, e0.bare, Un.kept kp, ⟨_, hns, fun i y v e1 e2 e3 => ?_⟩, fun y c e => ?_, e0.hok.fresh (Nat.le_refl _), fun y c e => ?_, fun q hq => absurd (show q ∈ ([] : List (Addr × Obj)) ++ [] from hq) (by simp), e0.hok.kept kp, by rw [List.length_set]; exact I.len⟩
  · have hy : scope.names.lookup y = some .cell ∨ scope.names.lookup y = some .free := hy
    rcases hy with hy | hy
    · exact absurd rfl (L.own _ (PySem.mem_of_lookup hy)).2
    · exact look hy
  · have z : false = true := z
    cases z
  · have e3 : Vis scope y := e3
    have e1 : X.N[i]? = some y := e1
    by_cases hi : i = ix
    · subst hi
      rw [hx] at e1
      cases e1
      rw [List.getElem?_set_self ixl] at e2
      cases e2
      refine ⟨u, rx, .inl ⟨L.par, ?_⟩⟩
      simp [List.lookup]
    · rw [List.getElem?_set_ne (Ne.symm hi)] at e2
      have yx : y ≠ x := fun e => by
        subst e
        exact hi (nodup_at hN e1 hx)
      rcases e3 with k | k | k
      · exact absurd ((L.own _ (PySem.mem_of_lookup k)).1 rfl) yx
      · exact absurd rfl (L.own _ (PySem.mem_of_lookup k)).2
      · obtain ⟨m, hn, hl⟩ := I.loc
        have hvis : Vis X.env.scope y := (L.free _ (PySem.mem_of_lookup k) rfl).elim (fun k => .inr (.inl k)) (fun k => .inr (.inr k))
        obtain ⟨w', r, q⟩ := hl i y v e1 e2 hvis
        obtain ⟨c2, h2⟩ := look k
        refine ⟨w', r, .inr ⟨.inr k, c2, h2, ?_⟩⟩
        have c1 := cm h2
        rcases q with ⟨k', _⟩ | ⟨_, c3, e', z⟩
        · have k' : X.env.scope.names.lookup y = some .local := k'
          rcases L.free _ (PySem.mem_of_lookup k) rfl with k2 | k2 <;> rw [show X.env.scope.names.lookup y = _ from k2] at k' <;> cases k'
        · rw [c1] at e'
          cases e'
          exact cellK (I.freeC y _ c1) z
  · obtain ⟨w', z⟩ := I.cell y c (cm e)
    exact ⟨w', cellK (I.freeC y c (cm e)) z⟩
  · obtain ⟨v, o, ho, hd⟩ := I.cell y c (cm e)
    exact un.free c o ho (I.freeC y c (cm e)) (by simp)
/-- x(e), in the def that got the lambda -/
theorem pe_act1 {CXg : CXT} {Eg : XK} {Ng : List Str} {qg : Str} {sg : Scope} {g f c' : Addr} {cdg pm ctv : Value} {params : Arguments} {body : Expr} {scope : Scope} {k i ix : Nat} {a x : Str} {pn : List (Addr × Obj)} {xe : Value → Shared → Prop} {W : WX} {E : XK} {tb ta : TE} {arg : Expr} {p1 p2 : Pos}
    (I : Inv X pins σ H s) (L : LamS1 x X.env.scope scope) (hx : X.N[ix]? = some x) (hNd : X.N.Nodup) (hf : s.heap.get? f = some (PySem.W.kla_obj "<lambda>" (X.env.qual ++ "<lambda>") params body scope (cloFrom X.env.cells scope.names []) pm c' ctv)) (hfn : H f = none) (hfr : f ∉ frs X.stack)
    (hbind : ∀ u : Value, bindArgs (PySem.W.kla_fn "<lambda>" (X.env.qual ++ "<lambda>") params body scope (cloFrom X.env.cells scope.names []) pm (.ref c') ctv) ⟨[u], []⟩ = pure [(x, u)])
    (tk : Takes ((cxOf CXg X.prog X.w X.K X.mg X.base Ng qg sg g cdg X.A X.stack s H Eg).tr pn xe) W) (hW : ∀ cls d σ' H', E cls d H' → W cls d σ' H') (hr : Room (k + 1) (X.A.deeper (envOfC qg sg s.heap.objs.size g cdg)))
    (hbody : ∀ (A : Around) (outer : List Env) (s : Shared) (H : Hp), Room k (A.deeper (lamEnv X scope s.heap.objs.size f c')) → PE (lamCx X A outer s H E scope f c') body tb)
    (hN : Ng[i]? = some a) (hv : Vis sg a) (hd : (a == ("__debug__" : Str)) = false) (hcd : (a == ("__classdict__" : Str)) = false)
    (ha : PE ((cxOf CXg X.prog X.w X.K X.mg X.base Ng qg sg g cdg X.A X.stack s H Eg).tr pn xe) arg ta)
    (he : starEach [arg] (envOfC qg sg s.heap.objs.size g cdg) = (false, eval arg (envOfC qg sg s.heap.objs.size g cdg)) :: starEach [] (envOfC qg sg s.heap.objs.size g cdg)) :
    PE ((cxOf CXg X.prog X.w X.K X.mg X.base Ng qg sg g cdg X.A X.stack s H Eg).tr pn xe) (.Call (.Name a p1) [arg] [] p2)
      (fun σZ HZ Q => σZ[i]? = some (some (.ref f)) ∧ ta σZ HZ fun xv H1 => H1 c' = some (CodeO c' (X.env.qual ++ "<lambda>")) ∧ tb (σ.set ix (some xv)) H1 Q) := by
  refine ⟨fun pinsZ sZ σZ HZ Q IZ h => ?_⟩
  obtain ⟨hs, ht⟩ := h
  refine wpAny_Call_Name_kw (thn ((pe_var (pos := p1) (i := i) hN hv hd hcd).run pinsZ sZ σZ HZ (fun v H1 => v = .ref f ∧ H1 = HZ) IZ ⟨.ref f, hs, rfl, rfl⟩) fun u s1 ⟨v, H1, I1, r1, q1⟩ => ?_)
  obtain ⟨ev, eH⟩ := q1
  subst ev
  rw [eH] at I1
  obtain rfl : u = Value.ref f := r1
  have ofF : ∀ {s2 : Shared} {H2 : Hp} {σ2 : L2.St}, Inv ((cxOf CXg X.prog X.w X.K X.mg X.base Ng qg sg g cdg X.A X.stack s H Eg).tr pn xe) pinsZ σ2 H2 s2 → s2.heap.get? f = some (PySem.W.kla_obj "<lambda>" (X.env.qual ++ "<lambda>") params body scope (cloFrom X.env.cells scope.names []) pm c' ctv) := fun I2 => I2.base.keep f _ hf hfn hfr (fun z => nomatch (show f ∈ ([] : List Addr) from z))
  refine PySem.W.callWith_F ⟨_, _, _, _, ofF I1⟩ ?_ he (by rfl)
  show wpAny _ _ (spliced (backTo p2 (starEach [arg] (envOfC qg sg s.heap.objs.size g cdg)))) _ _ s1
  rw [he]
  show wpAny _ _ (spliced ((false, eval arg (envOfC qg sg s.heap.objs.size g cdg)) :: backTo p2 (starEach [] (envOfC qg sg s.heap.objs.size g cdg)))) _ _ s1
  refine Calls.spliced_cons (thn (ha.run pinsZ s1 σZ HZ _ I1 ht) fun u2 s2 ⟨xv, H2, I2, r2, hc, q2⟩ => ?_)
  refine Calls.spliced_nil ⟨⟨_, _, _, _, ofF I2⟩, ?_⟩
  have of1 := ofF I2
  have un : Un (frs X.stack) [] H H2 s.heap s2.heap := I2.base
  obtain ⟨⟨oc, vs, t, hoc, hdc, hvc⟩, _, _⟩ := I2.hok c' _ hc
  have rc : codeAny (model X.prog X.w) (X.A.deeper (envOfC qg sg s.heap.objs.size g cdg)) (.call (.ref f) ⟨[u2], []⟩) (CR (L2.CX X.prog X.w) (envOfC qg sg s.heap.objs.size g cdg :: X.stack) X.prog X.w H2 s2 Q E) s2 := by
    refine PySem.W.kla_callFunE hr.depth of1 rfl L.co L.gen rfl ⟨c', oc, vs, t, rfl, hoc, hdc, hvc⟩ ?_
    rw [hbind]
    refine wpAny_pure (wpAny_newFunctionEnv (fun y hy => (L.own y hy).2) (fun y hy => by rw [List.mem_singleton.mp hy]; exact L.par) (fun h₁ hns hsb => ⟨I2.nolimit.fresh _ hsb, ?_⟩) L.kind)
    show codeAny _ _ (.expr body (lamEnv X scope s2.heap.objs.size f c')) _ _
    have kp : ∀ b o, s2.heap.get? b = some o → h₁.get? b = some o := fun b o e => hsb.extBut b o (Nat.ne_of_lt (Heap.lt_size e)) (Heap.get?_push_of_some _ e)
    have J : Inv (lamCx X (X.A.deeper (envOfC qg sg s.heap.objs.size g cdg)) (envOfC qg sg s.heap.objs.size g cdg :: X.stack) s2 H2 E scope f c') [] (σ.set ix (some xv)) H2 { s2 with heap := h₁, toks := s2.toks + ([(x, u2)] : List (Str × Value)).length } :=
      lam_start1 I L hx hNd r2 I2.env0 hr.hd un hns kp
    refine PySem.W.kla_codeExpr (wpAny_mono ((hbody _ _ s2 H2 (hr.deeper _)).run [] _ _ H2 Q J q2) (fun v s' hq => ?_) fun e s' hq => hq)
    obtain ⟨w', H', J', rv, q⟩ := hq
    exact ⟨w', H', J'.os, J'.bare, J'.base, J'.hok, rv, q⟩
  have hxp : Passes (L2.CX X.prog X.w) ((cxOf CXg X.prog X.w X.K X.mg X.base Ng qg sg g cdg X.A X.stack s H Eg).tr pn xe) E := passes_call tk hW
  refine wpAny_call (codeAny_mono rc fun r s' hq => ?_)
  cases r with
  | error e => exact hxp pinsZ σZ H2 s2 e s' I2 hq
  | ok fl =>
    cases fl with
    | ret u => exact I2.after hq
    | next => exact False.elim hq
    | brk => exact False.elim hq
    | cont => exact False.elim hq
end
/-- the def that calls what it got: TT tells what it makes of the lambda's reading (by the argument) and of its own second argument -/
def GivesTo2 (X : Cx) (Ng : List Str) (x : Str) (sg : Scope) (g : Addr) (cdg : Value) (bg : List Stmt) (a : Str) (q : Str) (k : Nat) (TT : (V → Hp → VK → Prop) → V → Hp → VK → Prop) : Prop :=
  ∀ (f c' : Addr) (s : Shared) (H : Hp) (Q : VK) (v2 : V) (tl : V → Hp → VK → Prop), Room (k + 1) (X.A.deeper (envOfC x sg s.heap.objs.size g cdg)) →
    (∀ (arg : Expr) (ta : TE) (p1 p2 : Pos), PE (cxOf C8.CX0 X.prog X.w X.K X.mg X.base Ng x sg g cdg X.A X.stack s H C8.E0).nox arg ta →
      starEach [arg] (envOfC x sg s.heap.objs.size g cdg) = (false, eval arg (envOfC x sg s.heap.objs.size g cdg)) :: starEach [] (envOfC x sg s.heap.objs.size g cdg) →
      PE (cxOf C8.CX0 X.prog X.w X.K X.mg X.base Ng x sg g cdg X.A X.stack s H C8.E0).nox (.Call (.Name a p1) [arg] [] p2) (fun σZ HZ Q => σZ[0]? = some (some (.ref f)) ∧ ta σZ HZ fun xv H1 => H1 c' = some (CodeO c' q) ∧ tl xv H1 Q)) →
    H c' = some (CodeO c' q) → TT tl v2 H Q →
    ∃ t, PSs (cxOf C8.CX0 X.prog X.w X.K X.mg X.base Ng x sg g cdg X.A X.stack s H C8.E0).nox bg t ∧ t { nx := fun _ H' => Q .non H', rt := Q } (L2.start Ng [.ref f, v2]) H
def tLam2 (T : List (Addr × Str)) (TT : (V → Hp → VK → Prop) → V → Hp → VK → Prop) (ix j : Nat) (t : TE) : TE := fun σ H Q => Tabs T H ∧ ∃ v2, σ[j]? = some (some v2) ∧ ∀ H1, ExtN H H1 → Tabs T H1 → TT (fun xv H' Q' => t (σ.set ix (some xv)) H' Q') v2 H1 Q
section
variable {X : Cx}
/-- x(lambda y: body, z) -/
theorem pe_lamcall2 {T : List (Addr × Str)} {TT : (V → Hp → VK → Prop) → V → Hp → VK → Prop} {x a b y z : Str} {g c P : Addr} {k ix j : Nat} {pg : Arguments} {bg : List Stmt} {sg : Scope} {dV kV doc pm cdv ct oc : Value} {an od : Option Addr} {osl : Array (Option Value)} {Ng : List Str}
    {params : Arguments} {body : Expr} {scope : Scope} {t : TE} {p p3 lpos pos : Pos} (hg : Gl X x) (hm : X.mg x = some (.ref g)) (hk : PySem.W.keepIn X.K (.ref g) = true)
    (lk : X.K.lookup g = some ⟨oc, od, .func (PySem.W.fnOf x x pg bg sg dV kV doc pm an cdv ct), osl⟩) (hcg : PySem.W.codeIn X.K cdv x = true) (hb : L2.Binds X.K (PySem.W.fnOf x x pg bg sg dV kV doc pm an cdv ct) [a, b] []) (Sg : FnScope Ng [a, b] sg) (hNg : Ng[0]? = some a) (hva : Vis sg a)
    (hG : GivesTo2 X Ng x sg g cdv bg a (X.env.qual ++ "<lambda>") k TT)
    (TB : TabB X.base X.mg c P) (hcode : X.env.code = .ref c) (hmT : (P, X.env.qual ++ "<lambda>") ∈ T) (hu : ∀ p ∈ T, p.1 = P → p.2 = X.env.qual ++ "<lambda>") (hr : Room (k + 2) X.A) (L : LamS1 y X.env.scope scope) (hdef : defaultsOf params X.env = ([], []))
    (hbind : ∀ (q : Str) (cl : List (Str × Addr)) (pm cv ctv : Value) (u : Value), bindArgs (PySem.W.kla_fn "<lambda>" q params body scope cl pm cv ctv) ⟨[u], []⟩ = pure [(y, u)])
    (hix : X.N[ix]? = some y) (hNd : X.N.Nodup) (hj : X.N[j]? = some z) (hvz : Vis X.env.scope z)
    (hbody : ∀ (A : Around) (outer : List Env) (s : Shared) (H : Hp) (f c' : Addr), Room k (A.deeper (lamEnv X scope s.heap.objs.size f c')) → PE (lamCx X A outer s H C8.E0 scope f c') body t)
    (hdb : (x == ("__debug__" : Str)) = false := by decide) (hd : (a == ("__debug__" : Str)) = false := by decide) (hcd : (a == ("__classdict__" : Str)) = false := by decide) (hdz : (z == ("__debug__" : Str)) = false := by decide) (hcz : (z == ("__classdict__" : Str)) = false := by decide) :
    PE X (.Call (.Name x p) [.Lambda params body scope lpos, .Name z p3] [] pos) (tLam2 T TT ix j t) := by
  refine ⟨fun pins s σ H Q I h => ?_⟩
  obtain ⟨hT, v2, hv2, h⟩ := h
  refine wpAny_Call_Name_kw (ld_glob I hg hm ?_ hdb)
  refine PySem.W.callWith_K (h₀ := X.base) I.ok.mod.kin hk ?_ (by rfl) (by rfl)
  show wpAny _ _ (spliced ((false, eval (.Lambda params body scope lpos) X.env) :: backTo pos (starEach [.Name z p3] X.env))) _ _ s
  refine Calls.spliced_cons (lam_make2 I TB hcode hmT hu hT hdef (L.has I.ok) fun f c' pm' ctv H1 s' I1 eN T1 hf hfn hfr hco => ?_)
  show wpAny _ _ (spliced ((false, eval (.Name z p3) X.env) :: backTo pos (starEach [] X.env))) _ _ s'
  have fl : f ≠ X.env.locals := fun e => by
    obtain ⟨m, hn, _⟩ := I1.loc
    obtain ⟨o, es, ep, ho, hdat, _⟩ := hn
    rw [← e, hf] at ho
    cases ho
    cases hdat
  have ffs : f ∉ X.fs := fun hm9 => by
    rcases I1.ok.stk with e | ⟨e, _⟩
    · exact hfr (by rw [e]; exact hm9)
    · refine hfr ?_
      rw [e]
      unfold frs
      rw [List.filterMap_cons]
      split
      · exact hm9
      · exact List.mem_cons_of_mem _ hm9
  have Ip : Inv X (pins ++ [(f, PySem.W.kla_obj "<lambda>" (X.env.qual ++ "<lambda>") params body scope (cloFrom X.env.cells scope.names []) pm' c' ctv)]) σ H1 s' := I1.pins_of fun q hq => by
    rcases List.mem_append.mp hq with e | e
    · exact I1.pin q (List.mem_append_right _ e)
    · rw [List.mem_singleton.mp e]
      exact ⟨hf, hfn, fl, ffs, fun v e9 => by cases e9⟩
  refine Calls.spliced_cons (thn ((pe_var (pos := p3) (i := j) hj hvz hdz hcz).run _ s' σ H1 (fun v H' => v = v2 ∧ H' = H1) Ip ⟨v2, hv2, rfl, rfl⟩) fun u2 s2 ⟨v, H', I2, r2, ev, eH⟩ => ?_)
  subst ev
  subst eH
  have hf2 : s2.heap.get? f = some (PySem.W.kla_obj "<lambda>" (X.env.qual ++ "<lambda>") params body scope (cloFrom X.env.cells scope.names []) pm' c' ctv) := (I2.pin _ (List.mem_append_right _ (List.mem_append_right _ (List.mem_singleton.mpr rfl)))).1
  have I3 : Inv X pins σ H' s2 := I2.unpinned
  refine Calls.spliced_nil ⟨I3.kIn, ?_⟩
  have rc : codeAny (model X.prog X.w) X.A (.call (.ref g) ⟨[.ref f, u2], []⟩) (CR C8.CX0 X.stack X.prog X.w H' s2 Q C8.E0) s2 := by
    refine run_ofS (N := Ng) (ps := [a, b]) (us := [.ref f, u2]) (vs := [.ref f, v]) lk hcg Sg hr I3.env0 (hb s2 [.ref f, u2] I3.kIn rfl) (.cons rfl (.cons r2 .nil)) rfl fun hr' => ?_
    obtain ⟨t', ht', hq'⟩ := hG f c' s2 H' Q v (fun xv H'' Q' => t (σ.set ix (some xv)) H'' Q') hr' (fun arg ta p1 p2 hpe hst => by
      have := pe_act1 (CXg := C8.CX0) (Eg := C8.E0) (E := C8.E0) (W := fun _ _ _ _ => False) (i := 0) (p1 := p1) (p2 := p2) (pn := []) (xe := fun _ _ => False) I3 L hix hNd hf2 hfn hfr (fun u => hbind _ _ _ _ _ u) LamX.takes0 (fun _ _ _ _ h => h) hr' (fun A outer s H hr2 => hbody A outer s H f c' hr2) hNg hva hd hcd hpe hst
      exact this) hco (h H' eN T1)
    exact ⟨t', ht'.nox, hq'⟩
  refine wpAny_call (codeAny_mono rc fun r s4 hq => ?_)
  cases r with
  | error e => exact (show False from hq).elim
  | ok fl =>
    cases fl with
    | ret u => exact I3.after hq
    | next => exact False.elim hq
    | brk => exact False.elim hq
    | cont => exact False.elim hq
end

set_option Elab.async false
set_option linter.all false
set_option maxRecDepth 100000
set_option maxHeartbeats 4000000
open PySem PySem.Spec PySem.W PySem.Calls PyProof.Rows L2
/-! # dicts whose keys are tuples: {k: v}, sorted(d) -/
section
variable {X : Cx}
end
section
variable {X : Cx}
end

set_option Elab.async false
set_option linter.all false
set_option maxRecDepth 100000
set_option maxHeartbeats 4000000
open PySem PySem.Spec PySem.W PyProof.Rows L2 LamX
/-! # all but the tables stand -/
theorem ext_same {H H' : Hp} (s : Same H H') : ExtN H H' := fun b o h _ => s b o h
theorem ext_tk {H H' : Hp} (x : ExtN H H') : TK H H' := fun b xs e => x b _ e (fun ps z => nomatch z)
theorem ext_lst {H H' : Hp} (x : ExtN H H') {a : Addr} {xs : List V} (h : H a = some (.lst xs)) : H' a = some (.lst xs) := x a _ h (fun ps z => nomatch z)
theorem ext_tup {H H' : Hp} (x : ExtN H H') {a : Addr} {xs : List V} (h : H a = some (.tup xs)) : H' a = some (.tup xs) := x a _ h (fun ps z => nomatch z)
theorem tabs_same {T : List (Addr × Str)} {H H' : Hp} (t : Tabs T H) (s : Same H H') : Tabs T H' := t.ext s
/-! # dicts with pairs as keys -/
def kk (p : Int × Int) : List L2.Key := [.inl p.1, .inl p.2]
section
variable {X : Cx} {σ : L2.St} {H : Hp} {Q : VK} {D : L2.Ends}
def DputN (D : L2.Ends) (σ : L2.St) (v x : V) : VK := fun y H3 => ∃ a H4, x = .ref a ∧ DPut H3 a y v H4 ∧ D.nx σ H4
theorem r_dput {td ty tv : TE} (h : tv σ H fun v H1 => td σ H1 fun x H2 => ty σ H2 (DputN D σ v x)) : sDPut td ty tv D σ H := h
end
/-! # a dict's keys in order -/
/-! # what can be reached -/
inductive Rch {α : Type} (R : α → α → Prop) (a : α) : α → Prop
  | refl : Rch R a a
  | step {b c : α} : Rch R a b → R b c → Rch R a c
theorem Rch.trans {α : Type} {R : α → α → Prop} {a b c : α} (h : Rch R a b) (k : Rch R b c) : Rch R a c := by
  induction k with
  | refl => exact h
  | step _ r ih => exact .step ih r
theorem Rch.closed {α : Type} {R : α → α → Prop} {S : α → Prop} {a b : α} (ha : S a) (cl : ∀ x y, S x → R x y → S y) (h : Rch R a b) : S b := by
  induction h with
  | refl => exact ha
  | step _ r ih => exact cl _ _ ih r
theorem Rch.congr {α : Type} {R R' : α → α → Prop} (e : ∀ x y, R x y → R' x y) {a b : α} (h : Rch R a b) : Rch R' a b := by
  induction h with
  | refl => exact .refl
  | step _ r ih => exact .step ih (e _ _ r)

set_option Elab.async false
set_option linter.all false
set_option maxRecDepth 100000
set_option maxHeartbeats 4000000
open PySem PySem.Spec PySem.W PyProof.Rows L2 LamX
/-! # dicts with ints as keys -/
theorem valI_mem {kvs : List (L2.Key × V)} {ks : List Int} (h : kvs.map (·.1) = ks.map Sum.inl) (p : Int) : (valV kvs (.inl p)).isSome = decide (p ∈ ks) := by
  have mm : (Sum.inl p : L2.Key) ∈ ks.map (Sum.inl : Int → L2.Key) ↔ p ∈ ks := by
    constructor
    · intro h
      obtain ⟨q, hq, e⟩ := List.mem_map.mp h
      cases e
      exact hq
    · exact fun h => List.mem_map.mpr ⟨p, h, rfl⟩
  cases e : valV kvs (.inl p) with
  | none =>
    have := valV_not e
    rw [h, mm] at this
    exact (decide_eq_false this).symm
  | some v =>
    have := valV_in e
    rw [h, mm] at this
    exact (decide_eq_true this).symm
theorem valI_none {kvs : List (L2.Key × V)} {ks : List Int} (h : kvs.map (·.1) = ks.map Sum.inl) {p : Int} (n : p ∉ ks) : valV kvs (.inl p) = none := by
  have := valI_mem h p
  rw [decide_eq_false n] at this
  cases e : valV kvs (.inl p) with
  | none => rfl
  | some v =>
    rw [e] at this
    cases this
theorem putKI {kvs : List (L2.Key × V)} {ks : List Int} (h : kvs.map (·.1) = ks.map Sum.inl) {p : Int} (v : V) (n : p ∉ ks) : (putK kvs (.inl p) v).map (·.1) = (ks ++ [p]).map Sum.inl := by
  rw [putK_new v (valI_none h n), List.map_append, List.map_append, h]
  rfl
section
variable {X : Cx} {σ : L2.St} {H : Hp} {Q : VK} {D : L2.Ends}
theorem r_dnK {a : Addr} {kvs : List (L2.Key × V)} {i : Int} (h : H a = some (.dK kvs)) (q : Q (.bl (!(valV kvs (.inl i)).isSome)) H) : DnN Q (.int i) (.ref a) H := ⟨a, _, rfl, DGet.k (k := .inl i) h, q⟩
def DinN (Q : VK) (y : V) : VK := fun x H2 => ∃ a o, x = .ref a ∧ DGet H2 a y o ∧ Q (.bl o.isSome) H2
theorem r_din {td ty : TE} (h : ty σ H fun y H1 => td σ H1 (DinN Q y)) : tDIn ty td σ H Q := h
theorem r_diK {a : Addr} {kvs : List (L2.Key × V)} {i : Int} (h : H a = some (.dK kvs)) (q : Q (.bl (valV kvs (.inl i)).isSome) H) : DinN Q (.int i) (.ref a) H := ⟨a, _, rfl, DGet.k (k := .inl i) h, q⟩
theorem r_dputK {v : V} {a : Addr} {kvs : List (L2.Key × V)} {i : Int} (h : H a = some (.dK kvs)) (l : kvs.length < sizeLine) (q : D.nx σ (upd H a (.dK (putK kvs (.inl i) v)))) : DputN D σ v (.ref a) (.int i) H := ⟨a, _, rfl, DPut.k (k := .inl i) h l, q⟩
/-- {k: v} with ints -/
def DispN (Q : VK) (p : Addr) (x y : V) : Hp → Prop := fun H2 => H2 p = some (.dK []) ∧ ∃ kvs : List (L2.Key × V), [(x, y)] = kvs.map (fun kv => (kV kv.1, kv.2)) ∧ kvs.length ≤ 15 ∧ Q (.ref p) (upd H2 p (.dK (mergeK [] kvs)))
theorem r_dispI {tk tv : TE} (q : ∀ p, H p = none → tk σ (upd H p (.dK [])) fun x H1 => tv σ H1 fun y H2 => DispN Q p x y H2) : tDisp [(tk, tv)] σ H Q := q
theorem r_dispN {p : Addr} {i : Int} {y : V} (h : H p = some (.dK [])) (q : Q (.ref p) (upd H p (.dK [(.inl i, y)]))) : DispN Q p (.int i) y H := ⟨h, [(.inl i, y)], rfl, by simp, q⟩
end
/-! # enumerate over a list -/
section
variable {X : Cx} {K : PySem.W.Frag} {σ : L2.St} {H : Hp} {Q : VK} {nx : L2.St → Hp → Prop}
theorem PI.enumLK {tg e : Expr} {ta : TA} (h : X.K = K) (p : PI X tg e (iEnum X.K ta)) : PI X tg e (iEnum K ta) := h ▸ p
def EnL (K : PySem.W.Frag) (R : It → Hp → Prop) : List V → Hp → Prop := fun vs H1 => ∃ a xs, vs = [.ref a] ∧ SqL K H1 a xs ∧ R (Ite K a) H1
theorem r_enumL {ta : TA} {R : It → Hp → Prop} (h : ta σ H (EnL K R)) : iEnum K ta σ H R := h
theorem r_enL {a : Addr} {xs : List V} {R : It → Hp → Prop} (h : SqL K H a xs) (q : R (Ite K a) H) : EnL K R [.ref a] H := ⟨a, xs, rfl, h, q⟩
theorem forR_enumL {a : Addr} {xs : List V} {g : TG} {tb : TS} (Pv : Nat → L2.St → Hp → Prop) (h0 : Pv 0 σ H) (hl : ∀ i σ H, i ≤ xs.length → Pv i σ H → SqL K H a xs)
    (hs : ∀ (i : Nat) x σ H T, xs[i]? = some x → Pv i σ H → H T = none → g (.ref T) σ (upd H T (.tup [.int (i : Nat), x])) fun σ2 H2 => tb ⟨Pv (i + 1), Q, nx, Pv (i + 1)⟩ σ2 H2) (hd : ∀ σ H, Pv xs.length σ H → nx σ H) : ForR (Ite K a) g tb nx Q σ H := by
  refine ⟨fun i m σ H => (m = xs.length - i ∧ i ≤ xs.length) ∧ Pv i σ H, ⟨_, ⟨rfl, Nat.zero_le _⟩, h0⟩, fun i m σ H ⟨⟨em, hi⟩, p⟩ => ?_⟩
  subst em
  have hq := hl i σ H hi p
  rcases Nat.lt_or_ge i xs.length with c | c
  · refine .inr ⟨⟨xs, xs[i], hq, List.getElem?_eq_getElem c⟩, Pv (i + 1), fun σ' H' p' => ⟨_, by omega, ⟨rfl, c⟩, p'⟩, fun x H' ⟨T, y, e1, e2, e3, e4⟩ => ?_⟩
    subst e1 e3
    exact hs i y σ H T (e4 xs hq) p e2
  · have e : i = xs.length := by omega
    exact .inl ⟨⟨xs, hq, c⟩, hd σ H (e ▸ p)⟩
end
theorem asc_low {ns : List Int} (asc : ns.Pairwise (· < ·)) {i : Nat} {v : Int} (hv : ns[i]? = some v) {z : Int} (hz : z ∈ ns) : z < v ↔ z ∈ ns.take i := by
  obtain ⟨hi, ev⟩ := List.getElem?_eq_some_iff.mp hv
  have pw := List.pairwise_iff_getElem.mp asc
  constructor
  · intro lt
    obtain ⟨j, hj, ej⟩ := List.mem_iff_getElem.mp hz
    rcases Nat.lt_or_ge j i with c | c
    · refine List.mem_iff_getElem.mpr ⟨j, by rw [List.length_take]; omega, ?_⟩
      rw [List.getElem_take]
      exact ej
    · rcases Nat.lt_or_ge i j with c2 | c2
      · have := pw i j hi hj c2
        omega
      · obtain rfl : i = j := by omega
        omega
  · intro h
    obtain ⟨j, hj, ej⟩ := List.mem_iff_getElem.mp h
    rw [List.length_take] at hj
    rw [List.getElem_take] at ej
    have := pw j i (by omega) hi (by omega)
    omega
/-! # a def that knows its own code -/
theorem okV {P : Program} {w : World} {K : PySem.W.Frag} {mg : Str → Option Value} {base : Heap} {x qual : Str} {st : Stmt} {f : Addr} {fd : FuncData} {N ps : List Str} {k : Nat} {sp : Sp} (F : Fun K x qual st f fd) (S : FnScope N ps (defScope st)) (len : ∀ vs H Q E, sp vs H Q E → vs.length = ps.length)
    (body : ∀ (cdv : Value) (A : Around) (outer : List Env) (s : Shared) (H : Hp) (vs : List V) (Q : VK) (E : XK), fd.code = cdv → Room k (A.deeper (envOfC qual (defScope st) s.heap.objs.size f cdv)) → sp vs H Q E →
      ∃ t, PSs (cxOf CX0 P w K mg base N qual (defScope st) f cdv A outer s H E).nox (defBody st) t ∧ t { nx := fun _ H' => Q .non H', rt := Q } (L2.start N vs) H) : FnOk P w K mg base CX0 (k + 1) f fd ps sp := by
  obtain ⟨oc, od, kV, doc, pm, an, cdv, ct, osl, rfl, lk, hcd⟩ := F.ex
  exact fn_of lk hcd S len fun A outer s H vs Q E hr hsp => by
    obtain ⟨t, h, q⟩ := body cdv A outer s H vs Q E rfl hr hsp
    exact ⟨t, h.nox, q⟩
/-- the name of a lambda in the def x -/
def lamN (x : Str) : Str := (envOfC x default 0 0 .none).qual ++ "<lambda>"
theorem tabsGr {T : List (Addr × Str)} {H H' : Hp} {a : Addr} {xs : List V} (g : Gr a H H') (ha : H a = some (.lst xs)) (t : Tabs T H) : Tabs T H' := fun p hp => by
  obtain ⟨ps, h1, h2, h3⟩ := t p hp
  refine ⟨ps, g _ _ (fun z => by rw [z, ha] at h1; cases h1) h1, h2, fun pos cv hc => ?_⟩
  obtain ⟨c, e1, e2⟩ := h3 pos cv hc
  exact ⟨c, e1, g _ _ (fun z => by
    subst z
    rw [ha] at e2
    unfold CodeO at e2
    cases e2) e2⟩
theorem atI_end {xs : List V} {x : V} : atI (xs ++ [x]) (-1) = some x := by
  unfold atI ixN
  rw [if_neg (by decide), if_pos (by rw [List.length_append]; simp only [List.length_cons, List.length_nil]; omega), Option.bind_some, List.length_append]
  rw [show ((-1 : Int) + ((xs.length + [x].length : Nat) : Int)).toNat = xs.length by simp only [List.length_cons, List.length_nil]; omega]
  rw [List.getElem?_append_right (Nat.le_refl _), Nat.sub_self]
  rfl

set_option Elab.async false
set_option linter.all false
set_option maxRecDepth 100000
set_option maxHeartbeats 4000000
open PySem PySem.Spec PyProof.Rows L2 LamX
/-! # all(.. for x in ..) over anything that PI serves -/
/-- the generator's own scope: its name, the walked thing, captured names, globals -/
structure GenS1 (x : Str) (sc scope : Scope) : Prop where
  kind : scope.kind = .function
  co : scope.isCoroutine = false
  own : ∀ y ∈ scope.names, (y.2 = .local → y.1 = x ∨ y.1 = (".0" : Str)) ∧ y.2 ≠ .cell
  dot : scope.names.lookup (".0" : Str) = some .local
  par : scope.names.lookup x = some .local
  free : ∀ y ∈ scope.names, y.2 = .free → sc.names.lookup y.1 = some .cell ∨ sc.names.lookup y.1 = some .free
def genS1B (x : Str) (sc scope : Scope) : Bool :=
  decide (scope.kind = .function) && !scope.isCoroutine && decide (scope.names.lookup (".0" : Str) = some .local) && decide (scope.names.lookup x = some .local) && scope.names.all fun y => (!decide (y.2 = .local) || decide (y.1 = x) || decide (y.1 = (".0" : Str))) && !decide (y.2 = .cell) && (!decide (y.2 = .free) || decide (sc.names.lookup y.1 = some .cell) || decide (sc.names.lookup y.1 = some .free))
theorem genS1_by {x : Str} {sc scope : Scope} (h : genS1B x sc scope = true) : GenS1 x sc scope := by
  unfold genS1B at h
  simp only [Bool.and_eq_true, Bool.or_eq_true, Bool.not_eq_true', decide_eq_true_eq, decide_eq_false_iff_not, List.all_eq_true] at h
  obtain ⟨⟨⟨⟨h1, h2⟩, h3⟩, h5⟩, h4⟩ := h
  refine ⟨h1, h2, fun y hy => ⟨fun e => ?_, (h4 y hy).1.2⟩, h3, h5, fun y hy e => ?_⟩
  · rcases (h4 y hy).1.1 with (z | z) | z
    · exact absurd e z
    · exact .inl z
    · exact .inr z
  · rcases (h4 y hy).2 with (z | z) | z
    · exact absurd e z
    · exact .inl z
    · exact .inr z
theorem GenS1.has {X : Cx} {x : Str} {scope : Scope} (L : GenS1 x X.env.scope scope) (ok : X.Ok) : ∀ y ∈ scope.names, y.2 = .free → ∃ c, X.env.cells.lookup y.1 = some c := fun y hy e => by
  rcases L.free y hy e with k | k
  · exact ok.has _ (.inl k)
  · exact ok.has _ (.inr k)
abbrev gEnv (X : Cx) (scope : Scope) (C : Addr) (code : Value) : Env := genEnv scope (cloFrom X.env.cells scope.names []) C code builtinsNs X.env
/-- the context of the element, entered at s -/
def genCx (X : Cx) (A : Around) (s : Shared) (H : Hp) (scope : Scope) (C : Addr) (code : Value) (fp : List Addr) : Cx where
  prog := X.prog
  w := X.w
  K := X.K
  mg := X.mg
  base := X.base
  A := A
  N := X.N
  s_0 := s
  H_0 := H
  env := gEnv X scope C code
  outer := X.stack
  stack := gEnv X scope C code :: X.stack
  ex := fp
  fn := fun _ => false
  calm := true
  pn := []
  xe := fun _ _ => False
section
variable {X : Cx} {pins : List (Addr × Obj)} {σ : L2.St} {H : Hp} {s : Shared}
theorem gen_code {T : List (Addr × Str)} {c P : Addr} {scope : Scope} {gpos : Pos} {Q E : Value → Shared → Prop} (I : Inv X pins σ H s) (TB : LamX.TabB X.base X.mg c P) (hcode : X.env.code = .ref c)
    (hm : (P, X.env.qual ++ "<genexpr>") ∈ T) (hu : ∀ p ∈ T, p.1 = P → p.2 = X.env.qual ++ "<genexpr>") (hT : Tabs T H)
    (h : ∀ (code : Value) (H1 : Hp) (h' : Heap) (tk : Nat), Inv X pins σ H1 { s with heap := h', toks := tk } → ExtN H H1 → Tabs T H1 → (∀ b o, b ≠ P → s.heap.get? b = some o → h'.get? b = some o) → H P ≠ none → (∀ b o, s.heap.get? b = some o → H b = none → H1 b = none) → Q code { s with heap := h', toks := tk }) :
    wpAny (model X.prog X.w) X.A (genexprCode X.env gpos (X.env.qual ++ "<genexpr>") scope) Q E s := by
  obtain ⟨ps, hP, ht, ha⟩ := hT _ hm
  have hPs : s.heap.get? P = some { cls := .none, data := .fields ps } := I.hok P _ hP
  have cd : PySem.W.CodeHd s.heap c P := TB.code.keeps I.bk
  have hPn : H P ≠ none := by rw [hP]; exact fun z => nomatch z
  cases hf : codeAmong gpos ps.toList with
  | none =>
    refine wpAny_genexprCodeX hcode (cd.code hPs ht) (cd.tab hPs) hf fun c' h' tk hx hge hlt hco' hrec htab' _ => ?_
    obtain ⟨c2, oc, vs, t, e2, hoc, hd, hv⟩ := hrec
    cases e2
    have nC : H c' = none := I.hok.fresh hge
    have I1 := inv_table (q := X.env.qual ++ "<genexpr>") (t' := tk) (more := #[rawInt gpos.line, rawInt gpos.col, .ref c']) (h' := h') I hP hx htab'.2 hge ⟨oc, vs, t, hoc, hd, hv⟩
    have hE : ExtN H (upd (upd H P (.tbl (ps ++ #[rawInt gpos.line, rawInt gpos.col, .ref c']))) c' (CodeO c' (X.env.qual ++ "<genexpr>"))) := fun b o e n => by
      rw [upd_ne (ne_of_none e nC), upd_ne (fun z => n ps (Option.some.inj (e.symm.trans (by rw [z]; exact hP))))]
      exact e
    have eL : (ps ++ #[rawInt gpos.line, rawInt gpos.col, .ref c']).toList = ps.toList ++ [rawInt gpos.line, rawInt gpos.col, .ref c'] := by simp
    refine h _ _ h' tk I1 hE (fun p hp => ?_) hx hPn fun b o e n => ?_
    · by_cases hb : p.1 = P
      · rw [hu p hp hb, hb]
        refine ⟨_, by rw [upd_ne (ne_of_none hP nC), upd_same], by rw [eL]; exact PySem.TriplesOk_snoc _ _ _ _ ht, fun p' cv hcv => ?_⟩
        rw [eL] at hcv
        rcases among_app _ ht hcv with z | z
        · obtain ⟨c0, e1, e2⟩ := ha p' cv z
          exact ⟨c0, e1, hE _ _ e2 codeO_ne⟩
        · exact ⟨c', z, upd_same⟩
      · obtain ⟨ps', a1, a2, a3⟩ := hT p hp
        refine ⟨ps', by rw [upd_ne (ne_of_none a1 nC), upd_ne hb]; exact a1, a2, fun p' cv hcv => ?_⟩
        obtain ⟨c0, e1, e2⟩ := a3 p' cv hcv
        exact ⟨c0, e1, hE _ _ e2 codeO_ne⟩
    · rw [upd_ne (Nat.ne_of_lt (Nat.lt_of_lt_of_le (Heap.lt_size e) hge)), upd_ne (fun z => hPn (by have z : b = P := z; rw [← z]; exact n))]
      exact n
  | some cv =>
    refine wpAny_genexprCode_hit hcode (cd.code hPs ht) hf ?_
    exact h cv H s.heap s.toks I (ExtN.refl H) hT (fun _ _ _ e => e) hPn fun _ _ _ n => n
theorem gen_start {A : Around} {scope : Scope} {x : Str} {ix : Nat} {code it : Value} {fp : List Addr} {h' : Heap} {tk : Nat} {g' : Array GenState} (I : Inv X pins σ H s) (L : GenS1 x X.env.scope scope) (hx : X.N[ix]? = some x) (hN : X.N.Nodup) (h0 : (".0" : Str) ∉ X.N)
    (hd : A.handled = none) (hfr : A.frames = some (gEnv X scope s.heap.objs.size code :: X.stack)) (hfp : ∀ b ∈ fp, FpOk X pins H b ∧ b < s.heap.objs.size)
    (hns : h'.Ns s.heap.objs.size fun y => if y = ".0" then some it else none) (kp : ∀ b o, s.heap.get? b = some o → h'.get? b = some o) (hg : AllBare g') :
    Inv (genCx X A s H scope s.heap.objs.size code fp) [] (wipe σ [ix]) H { s with heap := h', toks := tk, gens := g' } := by
  have hfree := L.has I.ok
  have cm : ∀ {y c}, (cloFrom X.env.cells scope.names []).lookup y = some c → X.env.cells.lookup y = some c := fun {y c} e => by
    rcases cloFrom_mem (PySem.mem_of_lookup e) with hm | ⟨h1, h2⟩
    · cases hm
    · obtain ⟨c1, hc⟩ := hfree _ h1 rfl
      have hc : X.env.cells.lookup y = some c1 := hc
      have e2 : c = c1 := by
        rw [h2, hc] <;> rfl
      rw [e2]
      exact hc
  have look : ∀ {y}, scope.names.lookup y = some .free → ∃ c, (cloFrom X.env.cells scope.names []).lookup y = some c := fun {y} hl => by
    have hy : (y, NameKind.free) ∈ scope.names := PySem.mem_of_lookup hl
    exact mem_lookup (cloFrom_has (cells := X.env.cells) (acc := []) hy)
  have cellK : ∀ {c : Addr} {v : Option Value}, s.heap.IsCell c v → h'.IsCell c v := fun {c v} ⟨o, ho, hd⟩ => ⟨_, kp _ _ ho, hd⟩
  have okZ : (genCx X A s H scope s.heap.objs.size code fp).Ok := by
    refine ⟨I.ok.mod, L.kind, I.ok.glob, rfl, Nat.le_refl _, fun y z c e1 e2 => I.ok.inj y z c (cm e1) (cm e2), fun y hy => ?_, fun y c z _ => ?_, fun _ => hd, hfr, .inr ⟨rfl, rfl⟩, fun b hb => ⟨?_, fun y c e z => ?_⟩, I.bs, Nat.le_trans I.ok.bsz I.sz, fun b o e hb => ?_, fun b hb z => ?_, I.stack, I.stkFree⟩
    · have hy : scope.names.lookup y = some .cell ∨ scope.names.lookup y = some .free := hy
      rcases hy with hy | hy
      · exact absurd rfl (L.own _ (PySem.mem_of_lookup hy)).2
      · exact look hy
    · have z : false = true := z
      cases z
    · exact Nat.ne_of_lt (hfp b hb).2
    · exact (hfp b hb).1.2.2.2.2.1 y c (cm e) z
    · rcases (hfp b hb).1.2.2.2.1 with z | z
      · exact I.ok.noex b o e z
      · exact absurd (Nat.lt_of_lt_of_le (Heap.lt_size e) (Nat.le_trans I.ok.bsz z)) (Nat.lt_irrefl _)
    · rcases List.mem_cons.mp (I.stkSub b z) with z | z
      · exact (hfp b hb).1.2.1 z
      · exact (hfp b hb).1.2.2.1 z
  refine ⟨okZ, rfl, hg, Un.kept kp, ⟨_, hns, fun i y v e1 e2 e3 => ?_⟩, fun y c e => ?_, I.hok.fresh (Nat.le_refl _), fun y c e => I.freeC y c (cm e), fun q hq => absurd (show q ∈ ([] : List (Addr × Obj)) ++ [] from hq) (by simp), I.hok.kept kp, by rw [wipe_length]; exact I.len⟩
  · have e3 : Vis scope y := e3
    have e1 : X.N[i]? = some y := e1
    obtain ⟨e2', hne⟩ := wipe_some e2
    rcases e3 with k | k | k
    · rcases (L.own _ (PySem.mem_of_lookup k)).1 rfl with z | z
      · have z : y = x := z
        subst z
        exact absurd (List.mem_singleton.mpr (nodup_at hN e1 hx)) hne
      · have z : y = (".0" : Str) := z
        subst z
        exact absurd (List.mem_of_getElem? e1) h0
    · exact absurd rfl (L.own _ (PySem.mem_of_lookup k)).2
    · obtain ⟨m, hn, hl⟩ := I.loc
      have hvis : Vis X.env.scope y := (L.free _ (PySem.mem_of_lookup k) rfl).elim (fun k => .inr (.inl k)) (fun k => .inr (.inr k))
      obtain ⟨w', r, q⟩ := hl i y v e1 e2' hvis
      obtain ⟨c2, h2⟩ := look k
      refine ⟨w', r, .inr ⟨.inr k, c2, h2, ?_⟩⟩
      have c1 := cm h2
      rcases q with ⟨k', _⟩ | ⟨_, c3, e', z⟩
      · have k' : X.env.scope.names.lookup y = some .local := k'
        rcases L.free _ (PySem.mem_of_lookup k) rfl with k2 | k2 <;> rw [show X.env.scope.names.lookup y = _ from k2] at k' <;> cases k'
      · rw [c1] at e'
        cases e'
        exact cellK z
  · obtain ⟨w', z⟩ := I.cell y c (cm e)
    exact ⟨w', cellK z⟩
end
/-- what is left once the iterated thing is there -/
def GAll (J : It) (g : TG) (te : TE) (ix : Nat) (σ : L2.St) (Q : VK) (H2 : Hp) : Prop := ∃ W : Nat → Nat → Hp → Prop, (∃ m, W 0 m H2) ∧ ∀ i m H, W i m H → (J.stop i H ∧ Q (.bl true) H) ∨
  (J.go i H ∧ ∃ Nx : Hp → Prop, (∀ H', Nx H' → ∃ m', m' < m ∧ W (i + 1) m' H') ∧ ∀ x H', J.yld i H x H' → g x (wipe σ [ix]) H' fun σ2 H3 => wipe σ2 [ix] = wipe σ [ix] ∧ te σ2 H3 fun y H4 => ∃ b, y = .bl b ∧ if b = true then Nx H4 else Q (.bl false) H4)
def tGenAll (T : List (Addr × Str)) (wi : TI) (g : TG) (te : TE) (ix : Nat) : TE := fun σ H Q => wi σ H fun J H1 => Tabs T H1 ∧ ∀ H2, ExtN H1 H2 → Tabs T H2 → GAll J g te ix σ Q H2
theorem inv_gens {X : Cx} {pins : List (Addr × Obj)} {σ : L2.St} {H : Hp} {s : Shared} (I : Inv X pins σ H s) {g' : Array GenState} (hg : AllBare g') : Inv X pins σ H { s with gens := g' } :=
  ⟨I.ok, I.os, hg, I.base, I.loc, I.cell, I.free, I.freeC, I.pin, I.hok, I.len⟩
theorem bare_set {s : Shared} {g : Nat} {x : GenState} (hb : AllBare s.gens) (hx : x.bare = true) : AllBare (s.setGen g x).gens := fun y hy => by
  show y.bare = true
  have hy : y ∈ s.gens.setIfInBounds g x := hy
  rcases Array.mem_or_eq_of_mem_setIfInBounds hy with z | z
  · exact hb y z
  · rw [z]; exact hx
/-- the generator's object -/
abbrev gObj (n : Nat) (q : Str) (t : Tok) : Obj := { cls := .type "generator", data := .fields #[.int n 0, .str "<genexpr>" (t + 1), .str q (t + 1 + 1)] }
section
variable {X : Cx} {elt iter : Expr} {x : Str} {px : Pos} {scope : Scope} {pos : Pos}
abbrev lCode (elt iter : Expr) (x : Str) (px : Pos) (scope : Scope) (pos : Pos) (it : Value) (ce : Env) : Code := .compLoop (.GeneratorExp elt [⟨.Name x px, iter, [], 0⟩] scope pos) 0 it .none ce
/-- between two items all but the generators' table stands -/
structure Still (s s' : Shared) : Prop where
  heap : s'.heap = s.heap
  os : s'.os = s.os
  bare : AllBare s'.gens
theorem inv_still {Y : Cx} {pins : List (Addr × Obj)} {σ : L2.St} {H : Hp} {s s' : Shared} (I : Inv Y pins σ H s) (z : Still s s') : Inv Y pins σ H s' :=
  ⟨I.ok, z.os.trans I.os, z.bare, by rw [z.heap]; exact I.base, by rw [z.heap]; exact I.loc, by rw [z.heap]; exact I.cell, I.free, I.freeC, by rw [z.heap]; exact I.pin, by rw [z.heap]; exact I.hok, I.len⟩
/-- what a turn's end says, by the answer b; kap: the way on -/
def GYp (Z : Cx) (pg : List (Addr × Obj)) (Q : VK) : Protocol := fun _ _ v s kap => ∃ (b : Bool), v = .bool b ∧ AllBare s.gens ∧ (∃ σ' H', Inv Z pg σ' H' s ∧ (b = false → Q (.bl false) H')) ∧ (b = true → ∀ s', Still s s' → kap (.send .none) s')
def GRp (Z : Cx) (pg : List (Addr × Obj)) (Q : VK) (s₁ : Shared) : Prop := ∃ σ' H', Inv Z pg σ' H' s₁ ∧ Q (.bl true) H'
theorem gen_seg {Z : Cx} {Ag : Around} {J : It} {g : TG} {te : TE} {ix : Nat} {σ : L2.St} {Q : VK} {W : Nat → Nat → Hp → Prop} {fp : List Addr} {tn : Nat → Heap → Prop} {it : Addr} {a : Addr} {go : Obj}
    (ho : Ag.over (lCode elt iter x px scope pos (.ref it) Z.env) [] = Z.A) (hc : Z.calm = true) (hex : Z.ex = fp) (hpn : Z.pn = []) (hco : Z.env.scope.isCoroutine = false) (hxe : Z.xe = fun _ _ => False) (haf : ∀ b ∈ fp, a ≠ b)
    (T : Turn Z.prog Z.w Z.K (.Name x px) J fp it tn) (hg : PG Z (.Name x px) g) (he : PE Z elt te)
    (turn : ∀ i m H, W i m H → (J.stop i H ∧ Q (.bl true) H) ∨ (J.go i H ∧ ∃ Nx : Hp → Prop, (∀ H', Nx H' → ∃ m', m' < m ∧ W (i + 1) m' H') ∧ ∀ x H', J.yld i H x H' → g x (wipe σ [ix]) H' fun σ2 H3 => wipe σ2 [ix] = wipe σ [ix] ∧ te σ2 H3 fun y H4 => ∃ b, y = .bl b ∧ if b = true then Nx H4 else Q (.bl false) H4)) :
    ∀ (m n i : Nat) (s₀ s : Shared) (H : Hp), m < n → W i m H → Inv Z [(a, go)] (wipe σ [ix]) H s → tn i s.heap → (∀ b ∈ fp, H b = none) →
      Seg (model Z.prog Z.w) Ag (fun n s₀ r s₁ => r = .ok .next ∧ GRp Z [(a, go)] Q s₁) (GYp Z [(a, go)] Q) n s₀ (lCode elt iter x px scope pos (.ref it) Z.env) ((model Z.prog Z.w).den (lCode elt iter x px scope pos (.ref it) Z.env)) [] s := by
  have stat : ∀ {σ' : L2.St} {H' : Hp} {s' : Shared}, Inv Z [(a, go)] σ' H' s' → (∀ b ∈ fp, H' b = none) → ∀ b ∈ fp, FpOk Z [(a, go)] H' b := fun {σ' H' s'} I' hn b hb => by
    have hb' : b ∈ Z.ex := by rw [hex]; exact hb
    refine ⟨hn b hb, (I'.ok.exf b hb').1, I'.ok.exfs b hb', .inl hb', fun x c e => (I'.ok.exf b hb').2 x c e, fun p hp => ?_⟩
    rw [hpn] at hp
    have hp : p = (a, go) := List.mem_singleton.mp hp
    rw [hp]
    exact haf b hb
  intro m
  induction m using Nat.strongRecOn with
  | ind m ih =>
    intro n i s₀ s H hmn w I st hn
    show Seg _ Ag _ _ _ s₀ _ ((compTurn (.GeneratorExp elt [⟨.Name x px, iter, [], 0⟩] scope pos) 0 (.ref it) .none Z.env).onRaise (leaving Z.env)) [] s
    rw [compTurn_gen, Sem.onRaise_eq_wrap]
    refine seg_bind_wrap (wpAny_standAt ?_)
    rcases turn i m H w with ⟨stop, qq⟩ | ⟨go', Nx, hNx, step⟩
    · refine seg_bind_wrap ?_
      rw [ho]
      refine wpAny_mono (T.done Z rfl rfl rfl hc i [(a, go)] s _ H (fun _ _ => False) I (stat I hn) st stop) (fun r s1 ⟨e, I1⟩ => ?_) (fun _ _ z => False.elim z)
      subst e
      exact seg_end (.ok .next) ⟨rfl, _, H, I1, qq⟩
    · refine seg_bind_wrap ?_
      rw [ho]
      refine wpAny_mono (T.item Z rfl rfl rfl hc i [(a, go)] s _ H (fun _ _ => False) I (stat I hn) st go') (fun r s1 ⟨u, e, h2⟩ => ?_) (fun _ _ z => False.elim z)
      subst e
      refine seg_bind_wrap ?_
      rw [ho]
      refine wpAny_mono h2 (fun _ s2 ⟨y, H', I2, ry, hy, st2, hn2⟩ => ?_) (fun _ _ z => False.elim z)
      have I2' := I2.pinned (stat I2 hn2) (T.obj _ _ st2)
      refine seg_bind_wrap ?_
      rw [ho]
      refine wpAny_mono (hg.run _ s2 _ H' y u _ I2' ry (step y H' hy)) (fun _ s3 ⟨σ3, H3, I3, hw3, q3⟩ => ?_) (fun e s' z => by rw [hxe] at z; exact False.elim z)
      refine seg_bind_wrap ?_
      rw [ho]
      refine wpAny_tests_nil ?_
      simp only [if_true]
      have hyo : ∀ v, yieldOut Z.env v = yieldValue v := fun v => by simp only [yieldOut, hco, Bool.false_eq_true, if_false]
      simp only [hyo]
      rw [Sem.bind_eq_wrap', Sem.bind_eq_wrap', Sem.wrap_wrap, Sem.wrap_wrap]
      refine seg_wrap ?_
      rw [ho]
      refine wpAny_mono (he.run _ s3 σ3 H3 _ I3 q3) (fun v s4 ⟨yv, H4, I4, r4, b, eb, q4⟩ => ?_) (fun e s' z => by rw [hxe] at z; exact False.elim z)
      subst eb
      have r4 : v = .bool b := r4
      subst r4
      have I4' : Inv Z [(a, go)] σ3 H4 s4 := I4.unpinned
      cases n with
      | zero => exact absurd hmn (Nat.not_lt_zero _)
      | succ n =>
      refine seg_at (seg_yield rfl rfl rfl ⟨b, rfl, I4.bare, ⟨σ3, H4, I4', fun e => ?_⟩, fun e s' z => ?_⟩)
      · subst e
        exact q4
      · subst e
        simp only [if_true] at q4
        obtain ⟨m', hm, w'⟩ := hNx _ q4
        have J4 := inv_still I4 z
        have pin' : ∀ b ∈ fp, ∀ o, s2.heap.get? b = some o → s'.heap.get? b = some o ∧ H4 b = none := fun b hb o e =>
          let z := J4.pin (b, o) (List.mem_append_right _ (List.mem_append_right _ (mem_pinsAt hb e)))
          ⟨z.1, z.2.1⟩
        have hl : (wipe σ [ix]).length = σ3.length := by rw [← hw3, wipe_length]
        refine seg_again rfl (ih m' hm n (i + 1) s' s' H4 (by omega) w' ((J4.unpinned (pins := [(a, go)])).weak hl (fun j v e => ?_)) (T.keep _ _ _ st2 fun b hb o e => (pin' b hb o e).1) fun b hb => ?_)
        · rw [← hw3] at e
          exact (wipe_some e).1
        · obtain ⟨o, e, _⟩ := T.obj _ _ st2 b hb
          exact (pin' b hb o e).2
theorem gen_env_over {Ag : Around} {ce : Env} {it : Addr} : Ag.over (lCode elt iter x px scope pos (.ref it) ce) [] = Ag.deeper ce := by
  first
    | rfl
    | (obtain ⟨hd, d, fr, gs, u⟩ := Ag; simp [Around.over, Around.deeper, marksOver, frameCount, unitsOf, envsOf, guardsOf, pushEnvs, pushGuards, Code.envs, Code.env?, Code.isFrame, Code.guards, Code.isGuard, Code.weight, Code.frames, Code.isCreation, Code.isCaller, Code.cUnits])
/-- the first wake -/
theorem gen_first {Z : Cx} {Ag : Around} {J : It} {Q : VK} {fp : List Addr} {tn : Nat → Heap → Prop} {it : Addr} {a : Addr} {go : Obj}
    (T : Turn Z.prog Z.w Z.K (.Name x px) J fp it tn) {n : Nat} {s₀ s : Shared} (st : tn 0 s.heap)
    (loop : Seg (model Z.prog Z.w) Ag (fun n s₀ r s₁ => r = .ok .next ∧ GRp Z [(a, go)] Q s₁) (GYp Z [(a, go)] Q) n s₀ (lCode elt iter x px scope pos (.ref it) Z.env) ((model Z.prog Z.w).den (lCode elt iter x px scope pos (.ref it) Z.env)) [] s) :
    Seg (model Z.prog Z.w) Ag (fun n s₀ r s₁ => r = .ok .next ∧ GRp Z [(a, go)] Q s₁) (GYp Z [(a, go)] Q) n s₀ (.compStart (.GeneratorExp elt [⟨.Name x px, iter, [], 0⟩] scope pos) 0 (.ref it) .none Z.env) ((model Z.prog Z.w).den (.compStart (.GeneratorExp elt [⟨.Name x px, iter, [], 0⟩] scope pos) 0 (.ref it) .none Z.env)) [] s := by
  show Seg _ Ag _ _ _ s₀ _ ((compStart (.GeneratorExp elt [⟨.Name x px, iter, [], 0⟩] scope pos) 0 (.ref it) .none Z.env).onRaise (leaving Z.env)) [] s
  unfold compStart
  rw [Sem.onRaise_eq_wrap]
  show Seg _ Ag _ _ _ s₀ _ ((ask >>= _).wrap _ _ _ _) [] s
  refine seg_bind_wrap (wpAny_askSetting ?_)
  split
  · exact seg_again rfl loop
  · first
      | exact seg_bind_wrap (wpAny_rule (seg_bind_wrap (wpAny_standAt (seg_bind_wrap (T.self _ 0 s _ _ st (seg_again rfl loop))))))
      | (refine seg_bind_wrap (wpAny_rule ?_); show Seg _ Ag _ _ _ s₀ _ ((standAt iter.pos >>= _).wrap _ _ _ _) [] s; exact seg_bind_wrap (wpAny_standAt (seg_bind_wrap (T.self _ 0 s _ _ st (seg_again rfl loop)))))
end
/-- all, over such a generator -/
theorem all_loop {Z : Cx} {A : Around} {pg : List (Addr × Obj)} {Q : VK} {a : Addr} {gi : Nat} {q : Str} {t : Tok} {R : Result → Shared → Prop} (hh : A.handled = none) (hroom : A.depth < recursionLimit) (hpg : pg = [(a, gObj gi q t)])
    (hR : ∀ b s', (∃ σ' H', Inv Z pg σ' H' s' ∧ Q (.bl b) H') → R (.ok (.ret (.bool b))) s') :
    ∀ (n : Nat) (s : Shared) (gs : GenState) (σ' : L2.St) (H : Hp), Inv Z pg σ' H s → s.gens[gi]? = some gs →
      (gs.Goes (model Z.prog Z.w) A.in1.in1 (fun n s₀ r s₁ => r = .ok .next ∧ GRp Z pg Q s₁) (GYp Z pg Q) n (.send .none) (s.setGen gi .running)) →
      codeAny (model Z.prog Z.w) A (.builtin "all.loop" ⟨[.ref a], []⟩) R s := by
  have isg : ∀ {σ' : L2.St} {H : Hp} {s : Shared}, Inv Z pg σ' H s → s.heap.IsGen a gi := fun {σ' H s} I => by
    have := (I.pin (a, gObj gi q t) (List.mem_append_right _ (by rw [hpg]; exact List.mem_cons_self))).1
    exact ⟨_, _, _, this, rfl, rfl, rfl⟩
  have gsa : ∀ {s₁ : Shared} {x : GenState}, gi + 1 ≤ (s₁.setGen gi x).gens.size → (s₁.setGen gi x).gens[gi]? = some x := fun {s₁ x} h => by
    rw [GenW.setGen_size] at h
    have hlt : gi < s₁.gens.size := h
    simp [Shared.setGen, hlt]
  intro n
  induction n with
  | zero =>
    intro s gs σ' H I hgs hgo
    refine codeAny_builtin F.entry_all_loop ?_
    rw [Around.under_plainId F.plain_all_loop _]
    show wpAny _ A.in1 (pyNext (.ref a) >>= _) _ _ s
    refine wpAny_bind (wpAny_pyNext_genexpQ (P := fun _ _ s₁ => GRp Z pg Q s₁) hh I.nolimit hroom (isg I) hgs hgo (fun v s₁ gs' hb hv => ?_) (fun s₁ hp h' hk => ?_))
    · obtain ⟨b, rfl, hbare, ⟨σ1, H1, I1, qf⟩, kap⟩ := hv
      cases b with
      | true => exact (kap rfl s₁ ⟨rfl, rfl, hbare⟩).elim
      | false =>
        refine wpAny_bind (wpAny_holding (wpAny_truthy_bool ?_))
        refine wpAny_bind (wpAny_letGo ?_)
        simp only [Bool.false_eq_true, if_false]
        refine wpAny_bind (wpAny_rule (wpAny_pure ?_))
        exact hR false _ ⟨σ1, H1, inv_gens I1 (bare_set I1.bare hb), qf rfl⟩
    · obtain ⟨σ1, H1, I1, q1⟩ := hp
      refine wpAny_bind (wpAny_rule (wpAny_pure ?_))
      exact hR true _ ⟨σ1, H1, (inv_gens I1 (bare_set I1.bare rfl)).kept hk, q1⟩
  | succ n ih =>
    intro s gs σ' H I hgs hgo
    have hlt : gi + 1 ≤ s.gens.size := (Array.getElem?_eq_some_iff.mp hgs).1
    refine codeAny_builtin F.entry_all_loop ?_
    rw [Around.under_plainId F.plain_all_loop _]
    show wpAny _ A.in1 (pyNext (.ref a) >>= _) _ _ s
    refine wpAny_bind (GenW.wpAny_gsz hlt (wpAny_pyNext_genexpQ (P := fun _ _ s₁ => GRp Z pg Q s₁) hh I.nolimit hroom (isg I) hgs hgo (fun v s₁ gs' hb hv => ?_) (fun s₁ hp h' hk => ?_)))
    · intro hsz
      obtain ⟨b, rfl, hbare, ⟨σ1, H1, I1, qf⟩, kap⟩ := hv
      have J1 := inv_gens I1 (g' := (s₁.setGen gi gs').gens) (bare_set I1.bare hb)
      refine wpAny_bind (wpAny_holding (wpAny_truthy_bool ?_))
      refine wpAny_bind (wpAny_letGo ?_)
      cases b with
      | true =>
        simp only [if_true]
        refine wpAny_pure ⟨plainId_quiet F.plain_all_loop _, ih _ gs' σ1 H1 J1 (gsa hsz) ?_⟩
        have h2 := kap rfl ((s₁.setGen gi gs').setGen gi .running) ⟨rfl, rfl, bare_set (bare_set I1.bare hb) rfl⟩
        exact h2
      | false =>
        simp only [Bool.false_eq_true, if_false]
        refine wpAny_bind (wpAny_rule (wpAny_pure ?_))
        exact hR false _ ⟨σ1, H1, J1, qf rfl⟩
    · intro hsz
      obtain ⟨σ1, H1, I1, q1⟩ := hp
      refine wpAny_bind (wpAny_rule (wpAny_pure ?_))
      exact hR true _ ⟨σ1, H1, (inv_gens I1 (bare_set I1.bare rfl)).kept hk, q1⟩
section
variable {X : Cx}
/-- all(elt for x in iter) -/
theorem pe_allG {T : List (Addr × Str)} {c P : Addr} {elt iter : Expr} {x : Str} {px p pos gpos : Pos} {scope : Scope} {wi : TI} {g : TG} {te : TE} {ix k : Nat}
    (hr : Room (k + 3) X.A) (hga : Gl X "all") (hma : X.mg "all" = none) (hb : bootBuiltins "all" = some (.builtin "all")) (TB : LamX.TabB X.base X.mg c P) (hcode : X.env.code = .ref c) (hm : (P, X.env.qual ++ "<genexpr>") ∈ T) (hu : ∀ p ∈ T, p.1 = P → p.2 = X.env.qual ++ "<genexpr>")
    (L : GenS1 x X.env.scope scope) (hx : X.N[ix]? = some x) (hN : X.N.Nodup) (h0 : (".0" : Str) ∉ X.N) (hi : PI X (.Name x px) iter wi)
    (hg : ∀ (A : Around) (s : Shared) (H : Hp) (C : Addr) (code : Value) (fp : List Addr), PG (genCx X A s H scope C code fp) (.Name x px) g)
    (hel : ∀ (A : Around) (s : Shared) (H : Hp) (C : Addr) (code : Value) (fp : List Addr), Room k A → PE (genCx X A s H scope C code fp) elt te)
    (hs : ∀ v, genFold iter X.env v = pure v := by intro _; rfl)
    (he : starEach [.GeneratorExp elt [⟨.Name x px, iter, [], 0⟩] scope gpos] X.env = (false, eval (.GeneratorExp elt [⟨.Name x px, iter, [], 0⟩] scope gpos) X.env) :: starEach [] X.env := by rfl) :
    PE X (.Call (.Name "all" p) [.GeneratorExp elt [⟨.Name x px, iter, [], 0⟩] scope gpos] [] pos) (tGenAll T wi g te ix) := by
  refine ⟨fun pins s σ H Q I h => ?_⟩
  refine wpAny_Call_Name_kw (ld_blt I hga hma hb ?_)
  refine PyProof.Rows.callWith_builtin1 ?_ he (by rfl)
  rw [he]
  show wpAny _ _ (spliced ((false, eval (.GeneratorExp elt [⟨.Name x px, iter, [], 0⟩] scope gpos) X.env) :: backTo pos (starEach [] X.env))) _ _ s
  refine Calls.spliced_cons ?_
  refine wpAny_GeneratorExp_make L.co (closure_ok (L.has I.ok)) (fun y hy => (L.own y hy).2) L.dot L.kind (by have := hr.dp; omega) ?_ hs
  refine thn (hi.run pins s σ H _ I h) fun xv s1 h1 => thn h1 fun itv s2 ⟨it, fp, tn, J, H2, e2, I2, Tn, st2, f2, hT, q2⟩ => ?_
  subst e2
  refine ⟨I2.nolimit, ?_⟩
  refine gen_code I2 TB hcode hm hu hT fun code H3 h3 tk3 I3 eN T3 k3 hPn fr3 => ?_
  obtain ⟨bm, ob, e1, e2, _, e4, e5, e6, e7, e8⟩ := TB.bm
  refine wpAny_builtinsFor (m := X.mg) (by rw [I3.ok.glob]; exact I3.mod.glob.keeps I3.bk) e1 e2 (I3.bk _ _ e5) e6 e7 e8 ?_
  intro h' hn' hs'
  refine Calls.spliced_nil ?_
  -- the state ahead of the call
  have keep' : ∀ b o, h3.get? b = some o → h'.get? b = some o := fun b o e => hs'.extBut b o (Nat.ne_of_lt (Heap.lt_size e)) (Heap.get?_push_of_some _ e)
  have keep5 : ∀ (go : Obj) b o, h3.get? b = some o → (h'.push go).get? b = some o := fun go b o e => Heap.get?_push_of_some _ (keep' b o e)
  have hsz : h'.objs.size = h3.objs.size + 1 := by rw [hs'.1, Heap.size_push]
  have sz : ∀ b ∈ fp, b < h3.objs.size ∧ H3 b = none := fun b hb => by
    obtain ⟨o, e, _⟩ := Tn.obj _ _ st2 b hb
    have n := (f2 b hb).1
    have nP : b ≠ P := fun z => hPn (by rw [← z]; exact n)
    exact ⟨Heap.lt_size (k3 b o nP e), fr3 b o e n⟩
  have f3 : ∀ b ∈ fp, FpOk X pins H3 b ∧ b < h3.objs.size := fun b hb => ⟨⟨(sz b hb).2, (f2 b hb).2⟩, (sz b hb).1⟩
  have nofr : ∀ f, h3.objs.size ≤ f → f ∉ frs X.stack := fun f hf z => by
    rcases List.mem_cons.mp (I3.stkSub _ z) with e | e
    · have h1 := I3.lt
      rw [← e] at h1
      exact Nat.lt_irrefl _ (Nat.lt_of_lt_of_le h1 hf)
    · exact I3.nofs hf e
  have hrA : Room k (X.A.in1.in1.deeper (gEnv X scope h3.objs.size code)) := (hr.in1.in1).deeper _
  have J0 := gen_start (A := X.A.in1.in1.deeper (gEnv X scope h3.objs.size code)) (tk := tk3 + 1 + 1 + 1) (h' := h'.push (gObj s2.gens.size (X.env.qual ++ "<genexpr>") tk3)) (g' := s2.gens.push (.fresh (.compStart (.GeneratorExp elt [⟨.Name x px, iter, [], 0⟩] scope gpos) 0 (.ref it) .none (gEnv X scope h3.objs.size code)))) (code := code) (it := .ref it) (fp := fp) I3 L hx hN h0 hrA.hd (Around.frames_deeper I3.ok.frames) f3 (hn'.push _) (keep5 _) (I2.bare.push rfl)
  have nA : H3 h'.objs.size = none := I3.hok.fresh (by show h3.objs.size ≤ _; omega)
  have J : Inv (genCx X (X.A.in1.in1.deeper (gEnv X scope h3.objs.size code)) { s2 with heap := h3, toks := tk3 } H3 scope h3.objs.size code fp) [(h'.objs.size, gObj s2.gens.size (X.env.qual ++ "<genexpr>") tk3)] (wipe σ [ix]) H3 _ := J0.pins_of fun p hp => by
    rw [List.mem_singleton.mp hp]
    refine ⟨Heap.get?_push_size _ rfl, nA, ?_, nofr _ (by show h3.objs.size ≤ h'.objs.size; omega), fun v z => by cases z⟩
    show h'.objs.size ≠ h3.objs.size
    omega
  have st5 : tn 0 (h'.push (gObj s2.gens.size (X.env.qual ++ "<genexpr>") tk3)) := Tn.keep _ _ _ st2 fun b hb o e => keep5 _ b o (k3 b o (fun z => hPn (by rw [← z]; exact (f2 b hb).1)) e)
  obtain ⟨W, ⟨m0, w0⟩, turn⟩ := q2 H3 eN T3
  have loop := gen_seg (elt := elt) (iter := iter) (x := x) (px := px) (scope := scope) (pos := gpos) (it := it) (a := h'.objs.size) (go := gObj s2.gens.size (X.env.qual ++ "<genexpr>") tk3) (Ag := X.A.in1.in1) gen_env_over (rfl : (genCx X (X.A.in1.in1.deeper (gEnv X scope h3.objs.size code)) { s2 with heap := h3, toks := tk3 } H3 scope h3.objs.size code fp).calm = true) rfl rfl L.co rfl (fun b hb => Nat.ne_of_gt (Nat.lt_of_lt_of_le (sz b hb).1 (by rw [hsz]; exact Nat.le_succ _))) Tn (hg _ _ _ _ _ _) (hel _ _ _ _ _ _ hrA) turn m0 (m0 + 1) 0
  refine call_function_tree F.kind_all F.plain_all F.entry_all (F.args_all1 _) ?_
  unfold Builtin.«all»
  refine wpAny_bind (m := oneArg "all" _) (wpAny_pure ?_)
  have isg : (h'.push (gObj s2.gens.size (X.env.qual ++ "<genexpr>") tk3)).IsGen h'.objs.size s2.gens.size := ⟨_, _, _, Heap.get?_push_size _ rfl, rfl, rfl, rfl⟩
  refine wpAny_bind (wpAny_pyIter_gen isg ?_)
  refine wpAny_pure ⟨plainId_quiet F.plain_all_loop _, all_loop (Z := genCx X (X.A.in1.in1.deeper (gEnv X scope h3.objs.size code)) { s2 with heap := h3, toks := tk3 } H3 scope h3.objs.size code fp) (Q := Q) (q := X.env.qual ++ "<genexpr>") (t := tk3) hr.hd hr.depth rfl (fun b s' ⟨σ', H', IZ, q⟩ => ?_) (m0 + 1) _ _ _ _ J (Array.getElem?_push_size ..) ?_⟩
  · refine ⟨rfl, ?_⟩
    refine gen_first (Z := genCx X (X.A.in1.in1.deeper (gEnv X scope h3.objs.size code)) { s2 with heap := h3, toks := tk3 } H3 scope h3.objs.size code fp) (elt := elt) (iter := iter) (x := x) (px := px) (scope := scope) (pos := gpos) Tn ?_ ?_
    · exact st5
    · exact loop _ _ H3 (Nat.lt_succ_self _) w0 (inv_gens J (bare_set (x := .running) J.bare rfl)) st5 fun b hb => (sz b hb).2
  · exact ⟨.bl b, H', I3.call' (ch := fp) IZ.os IZ.base IZ.hok IZ.bare fun b hb => ⟨(f3 b hb).1.2.2.2.1, (f3 b hb).1.2.1, (f3 b hb).1.2.2.2.2.1, (f3 b hb).1.2.2.2.2.2⟩, rfl, q⟩
end

set_option Elab.async false
set_option linter.all false
set_option maxRecDepth 100000
set_option maxHeartbeats 4000000
open PySem PySem.Spec PyProof.Rows L2 LamX
/-! # the readings of all(.. for x in ..) -/
section
variable {K : PySem.W.Frag} {σ : L2.St} {H H2 : Hp} {Q : VK} {g : TG} {te : TE} {ix : Nat}
def GenN (T : List (Addr × Str)) (g : TG) (te : TE) (ix : Nat) (σ : L2.St) (Q : VK) (J : It) (H1 : Hp) : Prop := Tabs T H1 ∧ ∀ H2, ExtN H1 H2 → Tabs T H2 → GAll J g te ix σ Q H2
theorem r_genAll {T : List (Addr × Str)} {wi : TI} (h : wi σ H (GenN T g te ix σ Q)) : tGenAll T wi g te ix σ H Q := h
/-- a turn's end -/
def GenE (N : Hp → Prop) (Q : VK) : VK := fun y H4 => ∃ b, y = .bl b ∧ if b = true then N H4 else Q (.bl false) H4
theorem r_genE {N : Hp → Prop} {b : Bool} (h : if b = true then N H else Q (.bl false) H) : GenE N Q (.bl b) H := ⟨b, rfl, h⟩
theorem gall_tup {a : Addr} {xs : List V} {σw : L2.St} (Pv : Nat → Hp → Prop) (ew : wipe σ [ix] = σw) (h0 : Pv 0 H2) (hl : ∀ i H, i ≤ xs.length → Pv i H → SqT K H a xs)
    (hs : ∀ (i : Nat) x H, xs[i]? = some x → Pv i H → g x σw H fun σ2 H3 => wipe σ2 [ix] = σw ∧ te σ2 H3 (GenE (Pv (i + 1)) Q)) (hd : ∀ H, Pv xs.length H → Q (.bl true) H) : GAll (Itt K a) g te ix σ Q H2 := by
  subst ew
  refine ⟨fun i m H => m = xs.length - i ∧ i ≤ xs.length ∧ Pv i H, ⟨xs.length, by simp, Nat.zero_le _, h0⟩, ?_⟩
  rintro i m H ⟨rfl, hi, p⟩
  have q := hl i H hi p
  by_cases hlt : i < xs.length
  · refine .inr ⟨⟨xs, xs[i], q, by simp [hlt]⟩, Pv (i + 1), fun H' p' => ⟨xs.length - (i + 1), by omega, rfl, hlt, p'⟩, fun x H' y => ?_⟩
    obtain ⟨e, y⟩ := y
    subst e
    exact hs i x _ (y xs q) p
  · have e : i = xs.length := by omega
    subst e
    exact .inl ⟨⟨xs, q, Nat.le_refl _⟩, hd H p⟩
theorem gall_range {lo : Int} {n : Nat} {σw : L2.St} (Pv : Nat → Hp → Prop) (ew : wipe σ [ix] = σw) (h0 : Pv 0 H2)
    (hs : ∀ (i : Nat) H, i < n → Pv i H → g (.int (lo + i)) σw H fun σ2 H3 => wipe σ2 [ix] = σw ∧ te σ2 H3 (GenE (Pv (i + 1)) Q)) (hd : ∀ H, Pv n H → Q (.bl true) H) : GAll (Itr lo n) g te ix σ Q H2 := by
  subst ew
  refine ⟨fun i m H => m = n - i ∧ i ≤ n ∧ Pv i H, ⟨n, by simp, Nat.zero_le _, h0⟩, ?_⟩
  rintro i m H ⟨rfl, hi, p⟩
  by_cases hlt : i < n
  · refine .inr ⟨hlt, Pv (i + 1), fun H' p' => ⟨n - (i + 1), by omega, rfl, hlt, p'⟩, fun x H' y => ?_⟩
    obtain ⟨e, y⟩ := y
    subst e y
    exact hs i _ hlt p
  · have e : i = n := by omega
    subst e
    exact .inl ⟨Nat.le_refl _, hd H p⟩
end
/-! # set(t) of a tuple of ints, repetitions too -/
def rSetTI (K : PySem.W.Frag) (w : World) : List V → Hp → VK → Prop := fun vs H Q => ∃ (l : Addr) (ns : List Int), vs = [.ref l] ∧ SqT K H l (ns.map V.int) ∧ ns.length ≤ 1000 ∧
  ∀ (p : Addr) (ks : List Int), H p = none → ks.Nodup → (∀ k, k ∈ ks ↔ k ∈ ns) → Q (.ref p) (upd H p (SetO w p (fun j => decide (j ∈ ns)) ks.length))
theorem cr_setTI {X : Cx} {K : PySem.W.Frag} {w : World} (hK : X.K = K) (hw : X.w = w) (hc : X.calm = true) : CallR X (.type "set") (rSetTI K w) := by
  subst hK hw
  intro pins s σ H vs us Q I r h
  obtain ⟨l, ns, rfl, hs, ln, q⟩ := h
  rw [Vals.ref1 r]
  obtain ⟨its, rv, pt, hz⟩ := I.tuple hs
  have hi : IntsAre its.toArray.toList ns := ints_of_vals rv
  refine call_set_tupI ns (I.ok.hd hc) (show s.heap.IsTuple l its.toArray from pt) hi (by unfold scanBound; omega) fun h' tk c R1 hcn k => ?_
  have R2 := R1
  obtain ⟨o, es, ep, t, ho, hex, hdt, g, nd, hm2, hb, hf, hn, hr, hl2⟩ := R1
  have e1 : (es.toList.map keyOf).length = c := by
    rw [List.length_map, ← hn]
    simp
  have hq := q s.heap.objs.size (es.toList.map keyOf) (I.hok.fresh (Nat.le_refl _)) nd fun k => by
    have := hm2 k
    rw [← this, decide_eq_true_eq]
  rw [e1] at hq
  exact ⟨.ref _, _, I.laid (t' := tk) k (Nat.le_refl _) (setO_new R2), rfl, hq⟩
theorem r_setTI {K : PySem.W.Frag} {w : World} {H : Hp} {Q : VK} {l : Addr} {ns : List Int} (h : SqT K H l (ns.map V.int)) (ln : ns.length ≤ 1000) (q : ∀ (p : Addr) (ks : List Int), H p = none → ks.Nodup → (∀ k, k ∈ ks ↔ k ∈ ns) → Q (.ref p) (upd H p (SetO w p (fun j => decide (j ∈ ns)) ks.length))) : rSetTI K w [.ref l] H Q := ⟨l, ns, rfl, h, ln, q⟩
/-- as many as there are different ones -/
theorem nodup_len {ns ks : List Int} (nd : ks.Nodup) (h : ∀ k, k ∈ ks ↔ k ∈ ns) : ks.length = ns.length ↔ ns.Nodup := by
  constructor
  · intro e
    have sub : ∀ {l : List Int} {m : List Int}, m.Nodup → (∀ k ∈ m, k ∈ l) → m.length = l.length → l.Nodup := by
      intro l
      induction l with
      | nil => intro m _ _ _; exact .nil
      | cons a l ih =>
        intro m md ms me
        have e1 : (m.erase a).length ≤ l.length := by
          by_cases c : a ∈ m
          · rw [List.length_erase_of_mem c]
            simp only [List.length_cons] at me
            omega
          · exfalso
            have s2 : ∀ k ∈ m, k ∈ l := fun k hk => by
              rcases List.mem_cons.mp (ms k hk) with z | z
              · rw [z] at hk
                exact absurd hk c
              · exact z
            have := nodup_le m l md s2
            simp only [List.length_cons] at me
            omega
        by_cases c : a ∈ m
        · have md2 := md.erase a
          have ms2 : ∀ k ∈ m.erase a, k ∈ l := fun k hk => by
            have h1 := (md.mem_erase_iff).mp hk
            rcases List.mem_cons.mp (ms k h1.2) with z | z
            · exact absurd z h1.1
            · exact z
          have el : (m.erase a).length = l.length := by
            rw [List.length_erase_of_mem c]
            simp only [List.length_cons] at me
            omega
          refine List.nodup_cons.mpr ⟨fun ha => ?_, ih md2 ms2 el⟩
          have : ∀ k ∈ m, k ∈ l := fun k hk => by
            rcases List.mem_cons.mp (ms k hk) with z | z
            · rw [z]; exact ha
            · exact z
          have := nodup_le m l md this
          simp only [List.length_cons] at me
          omega
        · exfalso
          have s2 : ∀ k ∈ m, k ∈ l := fun k hk => by
            rcases List.mem_cons.mp (ms k hk) with z | z
            · rw [z] at hk
              exact absurd hk c
            · exact z
          have := nodup_le m l md s2
          simp only [List.length_cons] at me
          omega
    exact sub nd (fun k hk => (h k).mp hk) e
  · intro n
    exact Nat.le_antisymm (nodup_le ks ns nd fun k hk => (h k).mp hk) (nodup_le ns ks n fun k hk => (h k).mpr hk)

set_option Elab.async false
set_option linter.all false
set_option maxRecDepth 100000
set_option maxHeartbeats 4000000
open PySem PySem.Spec PyProof.Rows L2 LamX RZ
/-! # data of any kind, none of whose lists stands at a -/
mutual
inductive DA (a : Addr) (H : Hp) : V → PyData → Prop
  | non : DA a H .non .none
  | bl (b : Bool) : DA a H (.bl b) (.bool b)
  | int (i : Int) : DA a H (.int i) (.int i)
  | str (x : Str) : DA a H (.str x) (.str x)
  | lst {p : Addr} {xs : List V} {ds : List PyData} : p ≠ a → H p = some (.lst xs) → DAs a H xs ds → DA a H (.ref p) (.list ds)
  | tup {p : Addr} {xs : List V} {ds : List PyData} : H p = some (.tup xs) → DAs a H xs ds → DA a H (.ref p) (.tuple ds)
inductive DAs (a : Addr) (H : Hp) : List V → List PyData → Prop
  | nil : DAs a H [] []
  | cons {v : V} {vs : List V} {d : PyData} {ds : List PyData} : DA a H v d → DAs a H vs ds → DAs a H (v :: vs) (d :: ds)
end
mutual
theorem DA.mono {a a' : Addr} {H H' : Hp} (kl : ∀ p xs, p ≠ a → H p = some (.lst xs) → p ≠ a' ∧ H' p = some (.lst xs)) (kt : ∀ p xs, H p = some (.tup xs) → H' p = some (.tup xs)) : ∀ (d : PyData) {v : V}, DA a H v d → DA a' H' v d
  | .none, _, h => by cases h; exact .non
  | .bool b, _, h => by cases h; exact .bl b
  | .int i, _, h => by cases h; exact .int i
  | .str x, _, h => by cases h; exact .str x
  | .list ds, _, h => by
    cases h with
    | lst n hs ha => exact .lst (kl _ _ n hs).1 (kl _ _ n hs).2 (DAs.mono kl kt ds ha)
  | .tuple ds, _, h => by
    cases h with
    | tup hs ha => exact .tup (kt _ _ hs) (DAs.mono kl kt ds ha)
  | .dict _, _, h => by cases h
theorem DAs.mono {a a' : Addr} {H H' : Hp} (kl : ∀ p xs, p ≠ a → H p = some (.lst xs) → p ≠ a' ∧ H' p = some (.lst xs)) (kt : ∀ p xs, H p = some (.tup xs) → H' p = some (.tup xs)) : ∀ (ds : List PyData) {vs : List V}, DAs a H vs ds → DAs a' H' vs ds
  | [], _, h => by cases h; exact .nil
  | d :: ds, _, h => by
    cases h with
    | cons h1 h2 => exact .cons (DA.mono kl kt d h1) (DAs.mono kl kt ds h2)
end
mutual
theorem DA.dp {K : PySem.W.Frag} {a : Addr} {H : Hp} : ∀ (d : PyData) {v : V}, DA a H v d → Dp K H v d
  | .none, _, h => by cases h; exact .non
  | .bool b, _, h => by cases h; exact .bl b
  | .int i, _, h => by cases h; exact .int i
  | .str x, _, h => by cases h; exact .str x
  | .list ds, _, h => by
    cases h with
    | lst n hs ha => exact .lst (.inl (.inl hs)) (DAs.dp ds ha)
  | .tuple ds, _, h => by
    cases h with
    | tup hs ha => exact .tup (.inl (.inl hs)) (DAs.dp ds ha)
  | .dict _, _, h => by cases h
theorem DAs.dp {K : PySem.W.Frag} {a : Addr} {H : Hp} : ∀ (ds : List PyData) {vs : List V}, DAs a H vs ds → DpAll K H vs ds
  | [], _, h => by cases h; exact .nil
  | d :: ds, _, h => by
    cases h with
    | cons h1 h2 => exact .cons (DA.dp d h1) (DAs.dp ds h2)
end
/-! ## what a value is -/
def intD : PyData → Bool
  | .int _ => true
  | _ => false
def verD (n : Int) : PyData → Bool
  | .int i => decide (0 ≤ i ∧ i < n)
  | _ => false
def versD (n : Int) : PyData → Bool
  | .tuple ds => ds.all (verD n)
  | _ => false
theorem allI_of : ∀ {ds : List PyData}, ds.all intD = true → ∃ ns : List Int, ds = ns.map PyData.int
  | [], _ => ⟨[], rfl⟩
  | d :: ds, h => by
    rw [List.all_cons, Bool.and_eq_true] at h
    obtain ⟨ns, rfl⟩ := allI_of h.2
    cases d with
    | int i => exact ⟨i :: ns, rfl⟩
    | _ => exact absurd h.1 Bool.false_ne_true
theorem verD_int {n : Int} {d : PyData} (h : verD n d = true) : intD d = true := by
  cases d <;> first | rfl | exact absurd h Bool.false_ne_true
theorem allV_of {n : Int} {ds : List PyData} (h : ds.all (verD n) = true) : ∃ ns : List Int, ds = ns.map PyData.int ∧ ∀ z ∈ ns, 0 ≤ z ∧ z < n := by
  obtain ⟨ns, rfl⟩ := allI_of (List.all_eq_true.mpr fun d hd => verD_int (List.all_eq_true.mp h d hd))
  refine ⟨ns, rfl, fun z hz => ?_⟩
  have := List.all_eq_true.mp h _ (List.mem_map.mpr ⟨z, hz, rfl⟩)
  exact of_decide_eq_true this
theorem versD_of {n : Int} {d : PyData} (h : versD n d = true) : ∃ ns : List Int, d = .tuple (ns.map PyData.int) ∧ ∀ z ∈ ns, 0 ≤ z ∧ z < n := by
  cases d with
  | tuple ds =>
    obtain ⟨ns, rfl, b⟩ := allV_of h
    exact ⟨ns, rfl, b⟩
  | _ => exact absurd h Bool.false_ne_true
theorem versD_ints {n : Int} {ns : List Int} : versD n (.tuple (ns.map PyData.int)) = decide (∀ z ∈ ns, 0 ≤ z ∧ z < n) := by
  show (ns.map PyData.int).all (verD n) = _
  rw [List.all_map]
  apply Bool.eq_iff_iff.mpr
  rw [List.all_eq_true, decide_eq_true_eq]
  exact ⟨fun h z hz => of_decide_eq_true (h z hz), fun h z hz => decide_eq_true (h z hz)⟩
/-! # slices of tuples, the whole too -/
section
variable {X : Cx} {K : PySem.W.Frag} {H : Hp} {Q : VK}
theorem sl_tupAK (h : X.K = K) : SlR X (rSlA K) := h ▸ sl_tupA
theorem cutV_whole (xs : List V) {lo hi : Option Int} (h : HT.sIx xs.length 0 lo = 0 ∧ HT.sIx xs.length xs.length hi = xs.length) : cutV xs lo hi = xs := by
  unfold cutV
  rw [h.1, h.2]
  simp
theorem r_slA {a : Addr} {xs : List V} {lo hi : Option Int} (h : SqT K H a xs) (q : ∀ p H', Same H H' → SqT K H' p (cutV xs lo hi) → (H a = some (.tup xs) → H' p = some (.tup (cutV xs lo hi))) → Q (.ref p) H') : rSlA K (.ref a) lo hi H Q :=
  ⟨a, xs, rfl, h, fun w => q a H (fun _ _ h => h) (by rw [cutV_whole xs w]; exact h) (fun e => by rw [cutV_whole xs w]; exact e), fun _ p hp => q p _ (same_new hp) (.inl (.inl upd_same)) fun _ => upd_same⟩
/-! # zip, d.items() -/
theorem PI.zipAK {tg e : Expr} {ta : TA} (h : X.K = K) (p : PI X tg e (iZipA X.K ta)) : PI X tg e (iZipA K ta) := h ▸ p
def ZipN (K : PySem.W.Frag) (R : It → Hp → Prop) (vs : List V) (H1 : Hp) : Prop := ∃ a b xs ys, vs = [.ref a, .ref b] ∧ ((SqL K H1 a xs ∧ SqL K H1 b ys ∧ R (Itz K a b) H1) ∨ (SqT K H1 a xs ∧ SqT K H1 b ys ∧ R (ItzT K a b) H1))
theorem r_zipA {σ : L2.St} {ta : TA} {R : It → Hp → Prop} (h : ta σ H (ZipN K R)) : iZipA K ta σ H R := h
theorem r_zipT {a b : Addr} {xs ys : List V} {R : It → Hp → Prop} (h1 : SqT K H a xs) (h2 : SqT K H b ys) (q : R (ItzT K a b) H) : ZipN K R [.ref a, .ref b] H := ⟨a, b, xs, ys, rfl, .inr ⟨h1, h2, q⟩⟩
theorem lcR_zipT {a b : Addr} {xs ys : List V} {g : TG} {tt : TT} {te : TE} {vs : List Nat} {D : Addr} {σ σw : L2.St} (hl : xs.length = ys.length) (Pv : Nat → Hp → Prop) (ew : wipe σ vs = σw) (h0 : Pv 0 (upd H D (.lst []))) (hq : ∀ i H, Pv i H → SqT K H a xs ∧ SqT K H b ys)
    (hs : ∀ (i : Nat) (x y : V) (T : Addr) H, xs[i]? = some x → ys[i]? = some y → Pv i H → H T = none → g (.ref T) σw (upd H T (.tup [x, y])) fun σ2 H2 => wipe σ2 vs = σw ∧ tt σ2 H2 fun b H3 => if b = true then te σ2 H3 (LcE D (Pv (i + 1))) else Pv (i + 1) H3) (hd : ∀ H, Pv xs.length H → Q (.ref D) H) :
    LcR (ItzT K a b) g tt te vs σ D Q H := by
  subst ew
  refine ⟨fun i m H => (m = xs.length - i ∧ i ≤ xs.length) ∧ Pv i H, ⟨_, ⟨rfl, Nat.zero_le _⟩, h0⟩, fun i m H ⟨⟨em, hi⟩, p⟩ => ?_⟩
  subst em
  obtain ⟨qx, qy⟩ := hq i H p
  rcases Nat.lt_or_ge i xs.length with c | c
  · have hx : xs[i]? = some xs[i] := List.getElem?_eq_getElem c
    have c2 : i < ys.length := by omega
    have hy : ys[i]? = some ys[i] := List.getElem?_eq_getElem c2
    refine .inr ⟨⟨xs, ys, _, _, qx, qy, hx, hy⟩, Pv (i + 1), fun H' p' => ⟨_, by omega, ⟨rfl, c⟩, p'⟩, fun x H' ⟨T, x', y', e1, e2, e3, f1, f2⟩ => ?_⟩
    subst e1 e3
    exact hs i x' y' T H (f1 xs qx) (f2 ys qy) p e2
  · have e : i = xs.length := by omega
    exact .inl ⟨⟨xs, ys, qx, qy, .inl c⟩, hd H (e ▸ p)⟩
end

set_option Elab.async false
set_option linter.all false
set_option maxRecDepth 100000
set_option maxHeartbeats 4000000
open PySem PySem.Spec PyProof.Rows PySem.SeqAt

theorem dict_eq_declines_int (l : Addr) (es : Array DictEntry) (n : Nat) (dd : Option Addr) (sl : Array (Option Value)) (b : Int) (u : Tok) :
    Meets (Builtin.«dict.__eq__» ⟨[.ref l, .int b u], []⟩) (fun _ R s => s.heap.get? l = some { cls := .type "dict", dict := dd, data := .dict es n, slots := sl } ∧ R (.ok (.ret .notImplemented)) s) :=
  .of_wp fun prog w A R s h => by obtain ⟨hp, g, d, tk, os⟩ := s; obtain ⟨hl, h⟩ := h; have f1 := PySem.F.sub_int_dict; wp_walk using AutoSeq1.wpAny_loadPart' hl; exact ⟨_, rfl, h⟩
theorem int_eq_declines_dict (b : Int) (u : Tok) (l : Addr) (c : Value) (es : Array DictEntry) (n : Nat) (dd : Option Addr) (sl : Array (Option Value)) :
    Meets (Builtin.«int.__eq__» ⟨[.int b u, .ref l], []⟩) (fun _ R s => s.heap.get? l = some { cls := c, dict := dd, data := .dict es n, slots := sl } ∧ R (.ok (.ret .notImplemented)) s) :=
  .of_wp fun prog w A R s h => by obtain ⟨hp, g, d, tk, os⟩ := s; obtain ⟨hl, h⟩ := h; wp_walk using AutoSeq1.wpAny_loadPart' hl, wpAny_load hl; exact ⟨_, rfl, h⟩
theorem rc_dict_int {A : Around} {s : Shared} {l : Addr} {es : Array DictEntry} {n : Nat} {dd : Option Addr} {sl : Array (Option Value)} (b : Int) (u : Tok) (ho : s.heap.get? l = some { cls := .type "dict", dict := dd, data := .dict es n, slots := sl }) (hu : A.units < cLine) : RcAt A s (.ref l) (.int b u) false := fun prog w E Q h =>
  rc_eq_decline_or (k := false) ⟨_, ho, rfl⟩ (typeIs_int s b u) (by decide) PySem.F.sub_int_dict PySem.F.slot_dict_eq PySem.F.slot_int_eq_refl
    (fun _ hq => call_meets PySem.F.slot_dict_eq ⟨_, ho, rfl⟩ PySem.F.entry_dict_eq (PySem.F.args_dict_eq_2 _ _) (dict_eq_declines_int l es n dd sl b u) ⟨ho, hq⟩)
    (fun _ hq => call_meets PySem.F.slot_int_eq_refl (typeIs_int s b u) PySem.F.entry_int_eq (PySem.F.args_int_eq_2 _ _) (int_eq_declines_dict b u l (.type "dict") es n dd sl) ⟨ho, hq⟩)
    (fun _ hq => wpAny_of_eq (rfl : isSame (.ref l) (.int b u) = pure false) hq) (.inr hu) h
open L2
section
variable {X : Cx}
def rOr2 (r1 r2 : R2) : R2 := fun x y H Q => r1 x y H Q ∨ r2 x y H Q
theorem op_or2 {f : Value → Value → Sem Value} {r1 r2 : R2} (h1 : OpR X f r1) (h2 : OpR X f r2) : OpR X f (rOr2 r1 r2) := fun pins s σ H x y v u Q I rx ry h => h.elim (h1 pins s σ H x y v u Q I rx ry) (h2 pins s σ H x y v u Q I rx ry)
/-- t == (): by length alone -/
def rEqTE (K : PySem.W.Frag) : R2 := fun x y H Q => ∃ a b xs, x = .ref a ∧ y = .ref b ∧ SqT K H a xs ∧ SqT K H b [] ∧ Q (.bl xs.isEmpty) H
theorem op_eqTE (hu : X.A.units < cLine) : OpR X (compareOp .Eq) (rEqTE X.K) := by
  intro pins s σ H x y v u Q I rx ry h
  obtain ⟨a, b, xs, rfl, rfl, ha, hb, q⟩ := h
  cases rx
  cases ry
  obtain ⟨its, r1, p1, _⟩ := I.tuple ha
  obtain ⟨its2, r2, p2, _⟩ := I.tuple hb
  cases r2
  refine eq_tupleAt (e := fun _ => true) p1 p2 hu (fun j h1 h2 => absurd h2 (by simp)) ?_
  have e : ((List.range (min its.toArray.size ([] : List Value).toArray.size)).all (fun _ => true) && its.toArray.size == ([] : List Value).toArray.size) = xs.isEmpty := by
    cases r1 with
    | nil => rfl
    | cons _ _ => rfl
  rw [e]
  exact ⟨.bl _, H, I, rfl, q⟩
/-- {..} == i -/
def rEqDI : R2 := fun x y H Q => ∃ a kvs i, x = .ref a ∧ y = .int i ∧ H a = some (.dK kvs) ∧ Q (.bl false) H
theorem op_eqDI (hu : X.A.units < cLine) : OpR X (compareOp .Eq) rEqDI := by
  intro pins s σ H x y v u Q I rx ry h
  obtain ⟨a, kvs, i, rfl, rfl, ha, q⟩ := h
  obtain rfl : v = Value.ref a := rx
  obtain ⟨_, _, _, _, d⟩ := (show ObjOk X.prog X.w H s.heap a (.dK kvs) from I.hok a _ ha)
  obtain ⟨o, es, ep, ho, hx, hd, _⟩ := d
  obtain ⟨cls, dd, data, sl⟩ := o
  obtain rfl : cls = .type "dict" := hx.1
  obtain rfl : data = .dict es ep := hd
  obtain ⟨t, rfl⟩ := ry
  exact rc_dict_int _ _ ho hu _ _ _ _ ⟨.bl _, H, I, rfl, q⟩
/-- [..] == i -/
def rEqLI : R2 := fun x y H Q => ∃ a xs i, x = .ref a ∧ y = .int i ∧ H a = some (.lst xs) ∧ Q (.bl false) H
theorem op_eqLI (hu : X.A.units < cLine) : OpR X (compareOp .Eq) rEqLI := by
  intro pins s σ H x y v u Q I rx ry h
  obtain ⟨a, xs, i, rfl, rfl, ha, q⟩ := h
  obtain rfl : v = Value.ref a := rx
  obtain ⟨t, rfl⟩ := ry
  obtain ⟨its, _, p, _⟩ := I.list (Or.inl (Or.inl ha))
  exact RcAt.list_int _ _ p.isList hu _ _ _ _ ⟨.bl _, H, I, rfl, q⟩
/-- what is asked of a drawn value -/
def rEqX (K : PySem.W.Frag) : R2 := rOr2 (rEqTE K) (rOr2 rEqDI (rOr2 rEqLI (rEqD K)))
theorem op_eqX {K : PySem.W.Frag} (e : X.K = K) (hu : X.A.units + 64 < cLine) : OpR X (compareOp .Eq) (rEqX K) := e ▸ op_or2 (op_eqTE (by omega)) (op_or2 (op_eqDI (by omega)) (op_or2 (op_eqLI (by omega)) (op_eqD hu)))
/-- i < j, or of tuples of ints -/
def rLtIT (K : PySem.W.Frag) : R2 := rOr2 (rI0 fun i j => .bl (decide (i < j))) (rLtT K)
theorem op_ltIT {K : PySem.W.Frag} (e : X.K = K) (hu : X.A.units + 64 < cLine) : OpR X (compareOp .Lt) (rLtIT K) := e ▸ op_or2 op_lt (op_ltT (by omega))
end
section
variable {K : PySem.W.Frag} {H : Hp} {Q : VK}
theorem r_eqTE {a b : Addr} {xs : List V} (ha : SqT K H a xs) (hb : SqT K H b []) (q : Q (.bl xs.isEmpty) H) : rEqX K (.ref a) (.ref b) H Q := .inl ⟨a, b, xs, rfl, rfl, ha, hb, q⟩
theorem r_eqDI {a : Addr} {kvs : List (L2.Key × V)} {i : Int} (ha : H a = some (.dK kvs)) (q : Q (.bl false) H) : rEqX K (.ref a) (.int i) H Q := .inr (.inl ⟨a, kvs, i, rfl, rfl, ha, q⟩)
theorem r_eqXD {x y : V} (h : rEqD K x y H Q) : rEqX K x y H Q := .inr (.inr (.inr h))
theorem r_eqLIX {a : Addr} {xs : List V} {i : Int} (ha : H a = some (.lst xs)) (q : Q (.bl false) H) : rEqX K (.ref a) (.int i) H Q := .inr (.inr (.inl ⟨a, xs, i, rfl, rfl, ha, q⟩))
theorem r_ltI {i j : Int} (q : Q (.bl (decide (i < j))) H) : rLtIT K (.int i) (.int j) H Q := .inl ⟨i, j, rfl, rfl, q⟩
theorem r_ltT {x y : V} (h : rLtT K x y H Q) : rLtIT K x y H Q := .inr h
end

set_option Elab.async false
set_option linter.all false
set_option maxRecDepth 100000
set_option maxHeartbeats 4000000
open PySem PySem.Spec PyProof.Rows L2 LamX RZ
/-- a tuple on the heap -/
abbrev ST (H : Hp) (p : Addr) (xs : List V) : Prop := H p = some (.tup xs) ∨ ∃ o, H p = some (.frz o (.tup xs))
/-! # data of any kind, empty dicts too; none of whose lists and dicts stands at a -/
mutual
inductive DX (a : Addr) (H : Hp) : V → PyData → Prop
  | non : DX a H .non .none
  | bl (b : Bool) : DX a H (.bl b) (.bool b)
  | int (i : Int) : DX a H (.int i) (.int i)
  | str (x : Str) : DX a H (.str x) (.str x)
  | lst {p : Addr} {xs : List V} {ds : List PyData} : p ≠ a → H p = some (.lst xs) → DXs a H xs ds → DX a H (.ref p) (.list ds)
  | tup {p : Addr} {xs : List V} {ds : List PyData} : ST H p xs → DXs a H xs ds → DX a H (.ref p) (.tuple ds)
  | dk {p : Addr} : p ≠ a → H p = some (.dK []) → DX a H (.ref p) (.dict [])
inductive DXs (a : Addr) (H : Hp) : List V → List PyData → Prop
  | nil : DXs a H [] []
  | cons {v : V} {vs : List V} {d : PyData} {ds : List PyData} : DX a H v d → DXs a H vs ds → DXs a H (v :: vs) (d :: ds)
end
theorem ST.keep {a : Addr} {H H' : Hp} (k : ∀ p o, (∀ ps, o ≠ .tbl ps) → (p ≠ a ∨ ∀ xs, o ≠ .lst xs) → H p = some o → H' p = some o) {p : Addr} {xs : List V} (h : ST H p xs) : ST H' p xs :=
  h.elim (fun h => .inl (k _ _ (fun ps z => nomatch z) (.inr fun xs z => nomatch z) h)) fun ⟨o, h⟩ => .inr ⟨o, k _ _ (fun ps z => nomatch z) (.inr fun xs z => nomatch z) h⟩
theorem keep_same {a : Addr} {H H' : Hp} (s : Same H H') : ∀ p o, (∀ ps, o ≠ .tbl ps) → (p ≠ a ∨ ∀ xs, o ≠ .lst xs) → H p = some o → H' p = some o := fun p o _ _ e => s p o e
theorem keep_ext {a : Addr} {H H' : Hp} (s : ExtN H H') : ∀ p o, (∀ ps, o ≠ .tbl ps) → (p ≠ a ∨ ∀ xs, o ≠ .lst xs) → H p = some o → H' p = some o := fun p o n _ e => s p o e n
theorem ST.same {H H' : Hp} (s : Same H H') {p : Addr} {xs : List V} (h : ST H p xs) : ST H' p xs := h.keep (a := 0) (keep_same s)
theorem ST.ext {H H' : Hp} (s : ExtN H H') {p : Addr} {xs : List V} (h : ST H p xs) : ST H' p xs := h.keep (a := 0) (keep_ext s)
mutual
theorem DX.mono {a : Addr} {H H' : Hp} (k : ∀ p o, (∀ ps, o ≠ .tbl ps) → (p ≠ a ∨ ∀ xs, o ≠ .lst xs) → H p = some o → H' p = some o) : ∀ (d : PyData) {v : V}, DX a H v d → DX a H' v d
  | .none, _, h => by cases h; exact .non
  | .bool b, _, h => by cases h; exact .bl b
  | .int i, _, h => by cases h; exact .int i
  | .str x, _, h => by cases h; exact .str x
  | .list ds, _, h => by
    cases h with
    | lst n hs ha => exact .lst n (k _ _ (fun ps z => nomatch z) (.inl n) hs) (DXs.mono k ds ha)
  | .tuple ds, _, h => by
    cases h with
    | tup hs ha => exact .tup (ST.keep k hs) (DXs.mono k ds ha)
  | .dict _, _, h => by
    cases h with
    | dk n hs => exact .dk n (k _ _ (fun ps z => nomatch z) (.inl n) hs)
theorem DXs.mono {a : Addr} {H H' : Hp} (k : ∀ p o, (∀ ps, o ≠ .tbl ps) → (p ≠ a ∨ ∀ xs, o ≠ .lst xs) → H p = some o → H' p = some o) : ∀ (ds : List PyData) {vs : List V}, DXs a H vs ds → DXs a H' vs ds
  | [], _, h => by cases h; exact .nil
  | d :: ds, _, h => by
    cases h with
    | cons h1 h2 => exact .cons (DX.mono k d h1) (DXs.mono k ds h2)
end
theorem DX.same {a : Addr} {H H' : Hp} (s : Same H H') {d : PyData} {v : V} (h : DX a H v d) : DX a H' v d := DX.mono (keep_same s) d h
theorem DXs.same {a : Addr} {H H' : Hp} (s : Same H H') {ds : List PyData} {vs : List V} (h : DXs a H vs ds) : DXs a H' vs ds := DXs.mono (keep_same s) ds h
theorem DX.ext {a : Addr} {H H' : Hp} (s : ExtN H H') {d : PyData} {v : V} (h : DX a H v d) : DX a H' v d := DX.mono (keep_ext s) d h
theorem DXs.ext {a : Addr} {H H' : Hp} (s : ExtN H H') {d : List PyData} {v : List V} (h : DXs a H v d) : DXs a H' v d := DXs.mono (keep_ext s) d h
theorem DXs.pd {a : Addr} {H : Hp} : ∀ (ds : List PyData) {vs : List V}, DXs a H vs ds → Paired (DX a H) vs ds
  | [], _, h => by cases h; exact .nil
  | d :: ds, _, h => by
    cases h with
    | cons h1 h2 => exact .cons h1 (DXs.pd ds h2)
theorem DXs.ints {a : Addr} {H : Hp} : ∀ (ns : List Int), DXs a H (ns.map V.int) (ns.map PyData.int)
  | [] => .nil
  | n :: ns => .cons (.int n) (DXs.ints ns)
theorem DXs.len {a : Addr} {H : Hp} {xs : List V} {ds : List PyData} (h : DXs a H xs ds) : xs.length = ds.length := (DXs.pd _ h).length
/-- no deeper than d, nowhere longer than L -/
def limX : Nat → Nat → PyData → Prop
  | _, _, .none => True
  | _, _, .bool _ => True
  | _, _, .int _ => True
  | _, _, .str x => x.cps.all (· < 0x110000) = true
  | 0, _, .list _ => False
  | 0, _, .tuple _ => False
  | d + 1, L, .list xs => xs.length ≤ L ∧ ∀ x ∈ xs, limX d L x
  | d + 1, L, .tuple xs => xs.length ≤ L ∧ ∀ x ∈ xs, limX d L x
  | _, _, .dict _ => True
theorem limX_int {d L : Nat} {i : Int} : limX d L (.int i) := by cases d <;> trivial
theorem limX_mk {d L : Nat} {ds : List PyData} (h : ds.length ≤ L) (k : ∀ x ∈ ds, limX d L x) : limX (d + 1) L (.tuple ds) := ⟨h, k⟩
theorem limX_mkl {d L : Nat} {ds : List PyData} (h : ds.length ≤ L) (k : ∀ x ∈ ds, limX d L x) : limX (d + 1) L (.list ds) := ⟨h, k⟩
theorem limX_tup {d L : Nat} {ds : List PyData} (h : limX d L (.tuple ds)) : ∃ d', d = d' + 1 ∧ ds.length ≤ L ∧ ∀ x ∈ ds, limX d' L x := by
  cases d with
  | zero => exact h.elim
  | succ d => exact ⟨d, rfl, h.1, h.2⟩
section
variable {K : PySem.W.Frag} {H : Hp} {Q : VK}
theorem r_catX {l b : Addr} {xs zs : List V} (h1 : ST H l xs) (h2 : ST H b zs) (hz : xs.length + zs.length ≤ 100000) (q : ∀ p H', Same H H' → ST H' p (xs ++ zs) → Q (.ref p) H') : rCatA K (.ref l) (.ref b) H Q := by
  refine ⟨l, b, xs, zs, rfl, rfl, .inl h1, .inl h2, small_len hz, fun e => ?_, fun e1 e2 => ?_, fun e1 e2 p hp => q p _ (same_new hp) (.inl upd_same)⟩
  · subst e
    exact q b H (fun _ _ h => h) h2
  · subst e2
    refine q l H (fun _ _ h => h) ?_
    rw [List.append_nil]
    exact h1
end

set_option Elab.async false
set_option linter.all false
set_option maxRecDepth 100000
set_option maxHeartbeats 4000000
open PySem PySem.Spec PySem.W PySem.Calls PyProof.Rows L2 LamX
/-! # sorted(xs, key=f), the keys ints: what f keeps is told by J -/
section
variable {prog : Program} {w : World} {A : Around}
end
/-! # in the layer -/
section
variable {X : Cx} {pins : List (Addr × Obj)} {σ : L2.St} {H : Hp} {s : Shared}
end
section
variable {X : Cx} {pins : List (Addr × Obj)} {σ : L2.St} {H : Hp} {s : Shared}
end

set_option Elab.async false
set_option linter.all false
set_option maxRecDepth 100000
set_option maxHeartbeats 4000000
/-! # forests -/
/-! # union-find -/
set_option Elab.async false
set_option linter.all false
set_option maxRecDepth 100000
set_option maxHeartbeats 4000000
open PySem PySem.Spec PySem.W PySem.Calls PyProof.Rows L2 LamX
/-! # o[i] op= e, over a list -/
section
variable {X : Cx}
end
section
variable {K : PySem.W.Frag} {σ : L2.St} {H : Hp} {Q : VK} {nx bk ct : L2.St → Hp → Prop}
end
/-! # name = {..} on one line, the name a local -/
section
variable {X : Cx}
end
/-! # a op b op c op d, as a value -/
section
variable {X : Cx} {a b c d : Expr} {ta tb tc td : TE} {pos : Pos}
end

set_option Elab.async false
set_option linter.all false
set_option maxRecDepth 100000
set_option maxHeartbeats 4000000
open PySem PySem.Spec PyProof.Rows L2
/-! # f'{m:b}' of a small m, and how many ones it has -/
def binS (m : Nat) : Str := ⟨((Nat.toDigits 2 m).map Char.toNat).toArray⟩
/-- how many members a mask has -/
def pop (m : Nat) : Nat := ((List.range 8).filter fun k => m.testBit k).length
def FmtB (m : Nat) : Prop := ∀ t u, Builtin.«int.__format__» { pos := [Value.int (m : Nat) t, Value.str (Str.ofString "b") u] } = retStr (binS m)
def AllB (P : Nat → Prop) : Nat → Prop
  | 0 => True
  | n + 1 => P n ∧ AllB P n
theorem AllB.get {P : Nat → Prop} : ∀ {n : Nat}, AllB P n → ∀ m < n, P m
  | n + 1, h, m, l => by
    by_cases c : m = n
    · rw [c]
      exact h.1
    · exact AllB.get h.2 m (by omega)
theorem fmt_all : AllB FmtB 128 := by
  repeat refine And.intro (by intro t u; kernel_rfl) ?_
  exact True.intro
theorem gives_fmtB {m : Nat} (h : m < 128) (t u : Tok) : Gives (Builtin.«int.__format__» { pos := [Value.int (m : Nat) t, Value.str (Str.ofString "b") u] }) (Made.str (binS m)) := by
  rw [AllB.get fmt_all m h t u]
  exact gives_retStr _
theorem binS_len : ∀ m < 128, (binS m).length ≤ 8 := by decide +kernel
theorem binS_count : ∀ m < 128, Txt.count (binS m) (Str.ofString "1") = (pop m : Nat) := by decide +kernel
def tFmtB (te : TE) : TE := fun σ H Q => te σ H fun x H1 => ∃ m : Nat, x = .int (m : Nat) ∧ m < 128 ∧ Q (.str (binS m)) H1
theorem pe_fmtB {X : Cx} {e : Expr} {te : TE} {j : Nat} {p1 p2 pos : Pos} (he : PE X e te) : PE X (.FormattedValue e (-1) (some (.JoinedStr [.Constant (.str (Str.ofString "b")) j p1] p2)) pos) (tFmtB te) where
  run pins s σ H Q I h := by
    refine wpAny_FormattedValue_spec (thn (he.run pins s σ H _ I h) fun v s1 hv => ?_)
    obtain ⟨x, H1, I1, r1, m, rfl, lm, q⟩ := hv
    obtain ⟨t, rfl⟩ := r1
    refine thn ((pe_joined1 (pe_str (x := Str.ofString "b"))).run pins s1 σ H1 (fun y H2 => y = .str (Str.ofString "b") ∧ H2 = H1) I1 ⟨rfl, rfl⟩) fun r s2 hr => ?_
    obtain ⟨y, H2, I2, r2, rfl, rfl⟩ := hr
    obtain ⟨t2, rfl⟩ := r2
    refine ⟨_, _, rfl, wpAny_formatField_spec (by rfl) (fun s' => typeIs_int s' _ _) F.slot_int_format F.entry_int_format F.args_int_format_2 (fun u => gives_fmtB lm t u) ?_ (by decide) (Nat.le_trans (binS_len m lm) (by decide))⟩
    exact ⟨.str (binS m), H2, I2.tok _, ⟨_, rfl⟩, q⟩

set_option Elab.async false
set_option linter.all false
set_option maxRecDepth 100000
set_option maxHeartbeats 4000000
open PySem PySem.Spec PySem.W PySem.Calls PyProof.Rows L2 LamX
/-! # sorted(xs, key=a def) -/
section
variable {X : Cx} {pins : List (Addr × Obj)} {σ : L2.St} {H : Hp} {s : Shared}
end
set_option Elab.async false
set_option linter.all false
set_option maxRecDepth 100000
set_option maxHeartbeats 4000000
open PySem PySem.Spec PySem.W PySem.Calls PyProof.Rows L2 LamX
/-! # min(xs, key=a def), xs a list -/
section
variable {prog : Program} {w : World} {A : Around}
end
section
variable {X : Cx} {pins : List (Addr × Obj)} {σ : L2.St} {H : Hp} {s : Shared}
end
set_option Elab.async false
set_option linter.all false
set_option maxRecDepth 100000
set_option maxHeartbeats 4000000
open PySem PySem.Spec PySem.W PySem.Calls PyProof.Rows L2 LamX
/-! # max(xs, default=d), xs a list of ints -/
set_option Elab.async false
set_option linter.all false
set_option maxRecDepth 100000
set_option maxHeartbeats 4000000
open PySem PySem.Spec PyProof.Rows L2
/-! # least sets of bits that meet given sets of bits, below 2^7 -/
theorem pop_xor : ∀ X < 128, ∀ v < 7, X.testBit v = true → X ^^^ 2 ^ v < 128 ∧ pop (X ^^^ 2 ^ v) + 1 = pop X := by decide +kernel
theorem pop_or1 : ∀ X < 128, ∀ v < 7, X ||| 2 ^ v < 128 ∧ pop (X ||| 2 ^ v) ≤ pop X + 1 := by decide +kernel
theorem pop_zero : pop 0 = 0 := by decide
/-! ## how often a bit stands in the sets -/
def memB (X : Nat) : List Nat := (List.range 8).filter fun k => X.testBit k
/-! ## the greatest k of a list -/
/-! ## what the search finds -/
set_option Elab.async false
set_option linter.all false
set_option maxRecDepth 100000
set_option maxHeartbeats 4000000
/-! # the bags of a vertex in a tree of bags -/
set_option Elab.async false
set_option linter.all false
set_option maxRecDepth 100000
set_option maxHeartbeats 4000000
open PySem PySem.Spec PyProof.Rows L2
set_option synthInstance.maxHeartbeats 0
set_option synthInstance.maxSize 100000
local macro_rules | `(tactic| walk_at "zs") => `(tactic| first | decide | omega | (dsimp only; omega) | (unfold CMul; omega) | (unfold CDivW; decide) | assumption)
local macro_rules | `(tactic| walk_at "zh") => `(tactic| first | assumption | with_reducible exact upd_same | ((with_reducible refine' (upd_ne ?zn).trans ?zr); (case zn => walk_at "zne"); (case zr => walk_at "zh")))
local macro_rules | `(tactic| walk_at "zw") => `(tactic| (simp only [wipe, List.map_cons, List.map_nil, List.set_cons_succ, List.set_cons_zero]; rfl))
local macro_rules | `(tactic| walk_at "zne") => `(tactic| first | assumption | (apply Ne.symm; assumption) | (refine' ne_of_none ?zh1 ?zh2; (case zh2 => assumption); (case zh1 => walk_at "zh")) | (apply Ne.symm; refine' ne_of_none ?zh1 ?zh2; (case zh2 => assumption); (case zh1 => walk_at "zh")))
local macro_rules | `(tactic| walk_at "zl") => `(tactic| first | assumption | exact Or.inl (Or.inl (by walk_at "zh")))
local macro_rules | `(tactic| walk_at "zat") => `(tactic| first | assumption | exact rfl | exact atI_nat (j := 0) (by rfl))
local macro_rules | `(tactic| walk_at "z1") => `(tactic| first
  | with_reducible refine r_seq ?_
  | with_reducible refine r_asg ?_
  | with_reducible refine r_name0 ?_
  | with_reducible refine r_name1 ?_
  | with_reducible refine r_name2 ?_
  | with_reducible refine r_name3 ?_
  | with_reducible refine r_name4 ?_
  | with_reducible refine r_name5 ?_
  | with_reducible refine r_name6 ?_
  | with_reducible refine r_name7 ?_
  | with_reducible refine r_name8 ?_
  | with_reducible refine r_name9 ?_
  | with_reducible refine r_name10 ?_
  | with_reducible refine r_name11 ?_
  | with_reducible refine r_name12 ?_
  | with_reducible refine r_name13 ?_
  | with_reducible refine r_name14 ?_
  | with_reducible refine r_name15 ?_
  | with_reducible refine r_name16 ?_
  | with_reducible refine r_name17 ?_
  | with_reducible refine r_name18 ?_
  | with_reducible refine r_name19 ?_
  | ((with_reducible show tVar _ _ _ _); refine r_var rfl ?_)
  | with_reducible refine r_c ?_
  | with_reducible refine r_op ?_
  | with_reducible refine r_i0 ?_
  | with_reducible refine r_eqI ?_
  | with_reducible refine r_neI ?_
  | with_reducible refine r_i (by walk_at "zs") ?_
  | with_reducible refine r_cons ?_
  | with_reducible refine r_nil ?_
  | with_reducible refine r_call ?_
  | with_reducible refine r_cb ?_
  | with_reducible refine r_test ?_
  | with_reducible refine r_tB ?_
  | with_reducible refine r_k ?_
  | with_reducible refine r_int1 ?_
  | with_reducible refine r_int1b ?_
  | with_reducible refine r_min2 ?_
  | with_reducible refine r_max2 ?_
  | with_reducible refine r_ret ?_
  | with_reducible refine r_ifS ?_
  | with_reducible refine r_tup ?_
  | with_reducible refine r_lst ?_
  | with_reducible refine r_un ?_
  | with_reducible refine r_u ?_
  | with_reducible refine r_eqB ?_
  | with_reducible refine r_neB ?_
  | with_reducible refine r_not ?_
  | with_reducible refine r_and ?_
  | with_reducible refine r_or ?_
  | with_reducible refine r_if ?_
  | with_reducible refine r_bm ?_
  | with_reducible refine r_lstRg ?_
  | with_reducible refine r_tRg1 ?_
  | with_reducible refine r_r1N ?_
  | with_reducible refine r_sl ?_
  | with_reducible refine r_part ?_
  | with_reducible refine r_partN ?_
  | with_reducible refine r_noPart ?_
  | with_reducible refine r_andV ?_
  | with_reducible refine r_orV ?_
  | with_reducible refine r_notV ?_
  | with_reducible refine r_andN ?_
  | with_reducible refine r_orN ?_
  | with_reducible refine r_notN ?_
  | with_reducible refine r_next ?_
  | with_reducible refine r_drop ?_
  | with_reducible refine r_sub ?_
  | with_reducible refine r_for ?_
  | with_reducible refine r_rng1 ?_
  | with_reducible refine r_rng2 ?_
  | with_reducible refine r_ilist ?_
  | with_reducible refine r_itup ?_
  | with_reducible refine r_lc ?_
  | with_reducible refine r_yes ?_
  | with_reducible refine r_gcons ?_
  | with_reducible refine r_gnil ?_
  | ((with_reducible show Bm _ "list" _ _ _ _ (V.ref _) _); refine' r_bmL ?zh ?zq; (case zh => walk_at "zl"))
  | with_reducible refine iteF ?_
  | with_reducible refine iteT ?_
  | ((with_reducible show rIxL _ (V.ref _) (V.int _) _ _); refine' r_ixL ?zh ?za ?zq; (case zh => walk_at "zl"); (case za => walk_at "zat"))
  | ((with_reducible show rIxT _ (V.ref _) (V.int _) _ _); refine' r_ixT ?zh ?za ?zq; (case zh => walk_at "zl"); (case za => walk_at "zat"))
  | with_reducible refine r_dget ?_
  | with_reducible refine r_star ?_
  | with_reducible refine r_match ?_
  | with_reducible refine r_enumT ?_
  | with_reducible refine r_dnot ?_
  | with_reducible refine r_chain ?_
  | with_reducible refine r_chn ?_
  | with_reducible refine r_callS ?_
  | with_reducible refine r_truth ?_
  | with_reducible refine r_bm0 ?_
  | with_reducible refine r_sadd ?_
  | with_reducible refine r_saddT ?_
  | ((with_reducible show Bm0 _ "list" _ _ (V.ref _) _); refine' r_bm0L ?zh ?zq; (case zh => walk_at "zl"))
  | with_reducible refine r_bm0I ?_
  | with_reducible refine r_bu ?_
  | with_reducible refine r_rng3 ?_
  | with_reducible refine r_bitlen ?_
  | with_reducible refine r_genAll ?_
  | with_reducible refine r_zipA ?_
  | with_reducible refine r_items ?_
  | with_reducible refine r_sortLam ?_
  | with_reducible refine r_augS ?_
  | with_reducible refine r_set0u ?_
  | with_reducible refine r_set1u ?_
  | with_reducible refine r_set2u ?_
  | with_reducible refine r_set3u ?_
  | with_reducible refine r_set4u ?_
  | ((with_reducible show rSetL (V.ref _) (V.int 0) _ _ _); refine' r_set0 ?zh ?zq; (case zh => walk_at "zh"))
  | ((with_reducible show rSetL (V.ref _) (V.int 1) _ _ _); refine' r_set1 ?zh ?zq; (case zh => walk_at "zh"))
  | ((with_reducible show rSetL (V.ref _) (V.int 2) _ _ _); refine' r_set2 ?zh ?zq; (case zh => walk_at "zh"))
  | ((with_reducible show rSetL (V.ref _) (V.int 3) _ _ _); refine' r_set3 ?zh ?zq; (case zh => walk_at "zh"))
  | ((with_reducible show rSetL (V.ref _) (V.int 4) _ _ _); refine' r_set4 ?zh ?zq; (case zh => walk_at "zh"))
  | ((with_reducible show rLen _ [V.ref _] _ _); refine' r_lenL ?zh ?zq; (case zh => walk_at "zl"))
  | ((with_reducible show rLen _ [V.ref _] _ _); refine' r_lenT ?zh ?zq; (case zh => walk_at "zl")))
local macro_rules | `(tactic| walk_at "z2") => `(tactic| first
  | with_reducible refine r_run ?_
  | ((with_reducible show tVar _ _ _ _); refine r_var rfl ?_)
  | with_reducible refine r_i (by walk_at "zs") ?_
  | ((with_reducible show Bm _ "list" _ _ _ _ (V.ref _) _); refine' r_bmL ?zh ?zq; (case zh => walk_at "zl"))
  | ((with_reducible show rIxL _ (V.ref _) (V.int _) _ _); refine' r_ixL ?zh ?za ?zq; (case zh => walk_at "zl"); (case za => walk_at "zat"))
  | ((with_reducible show rIxT _ (V.ref _) (V.int _) _ _); refine' r_ixT ?zh ?za ?zq; (case zh => walk_at "zl"); (case za => walk_at "zat"))
  | with_reducible refine r_sadd ?_
  | with_reducible refine r_saddT ?_
  | ((with_reducible show Bm0 _ "list" _ _ (V.ref _) _); refine' r_bm0L ?zh ?zq; (case zh => walk_at "zl"))
  | with_reducible refine r_bm0I ?_
  | with_reducible refine r_bitlen ?_
  | with_reducible refine r_genAll ?_
  | with_reducible refine r_zipA ?_
  | with_reducible refine r_items ?_
  | with_reducible refine r_sortLam ?_
  | with_reducible refine r_augS ?_
  | ((with_reducible show rSetL (V.ref _) (V.int 0) _ _ _); refine' r_set0 ?zh ?zq; (case zh => walk_at "zh"))
  | ((with_reducible show rSetL (V.ref _) (V.int 1) _ _ _); refine' r_set1 ?zh ?zq; (case zh => walk_at "zh"))
  | ((with_reducible show rSetL (V.ref _) (V.int 2) _ _ _); refine' r_set2 ?zh ?zq; (case zh => walk_at "zh"))
  | ((with_reducible show rSetL (V.ref _) (V.int 3) _ _ _); refine' r_set3 ?zh ?zq; (case zh => walk_at "zh"))
  | ((with_reducible show rSetL (V.ref _) (V.int 4) _ _ _); refine' r_set4 ?zh ?zq; (case zh => walk_at "zh"))
  | ((with_reducible show rLen _ [V.ref _] _ _); refine' r_lenL ?zh ?zq; (case zh => walk_at "zl"))
  | ((with_reducible show rLen _ [V.ref _] _ _); refine' r_lenT ?zh ?zq; (case zh => walk_at "zl")))
local macro_rules | `(tactic| walk_at "z") => `(tactic| repeat (walk_at "z2"))

def topS (i : Nat) : Stmt := PySem.Challenge.pw_trellis_k34_chordal_graphs.main.body.getD i (.Pass ⟨0, 0, 0, 0⟩)
/-- a def of the text and where it stands -/
structure DefAt (K : PySem.W.Frag) (mg : Str → Option Value) (x : Str) (st : Stmt) (ps : List Str) where
  f : Addr
  fd : FuncData
  F : Fun K x x st f fd
  b : Binds K fd ps []
  g : mg x = some (.ref f)
/-- the built-ins' names are not the module's own -/
structure Blt (mg : Str → Option Value) : Prop where
  len : mg "len" = none
  range : mg "range" = none
  list : mg "list" = none
  tuple : mg "tuple" = none
  int : mg "int" = none
  min : mg "min" = none
  max : mg "max" = none
  sorted : mg "sorted" = none
  isinstance : mg "isinstance" = none
  bool : mg "bool" = none
  str : mg "str" = none
  enumerate : mg "enumerate" = none
/-! ## the pool -/
def Pool (H : Hp) (a s : Addr) : Prop := ∃ (ns : List Int) (p v c salt : Int), H a = some (.lst [.ref s, .int p, .int v, .int c, .int salt]) ∧ H s = some (.lst (ns.map V.int)) ∧ 0 ≤ p ∧ s ≠ a
theorem Pool.lst {H : Hp} {a s : Addr} (h : Pool H a s) : ∃ xs, H a = some (.lst xs) := by
  obtain ⟨ns, p, v, c, salt, h, _⟩ := h
  exact ⟨_, h⟩
theorem Pool.mono {H H' : Hp} {a s : Addr} (h : Pool H a s) (k : Same H H') : Pool H' a s := by
  obtain ⟨ns, p, v, c, salt, h1, h2, h3, h4⟩ := h
  exact ⟨ns, p, v, c, salt, k _ _ h1, k _ _ h2, h3, h4⟩
theorem Pool.ne {H : Hp} {a s : Addr} (h : Pool H a s) : H a ≠ none := by
  obtain ⟨xs, e⟩ := h.lst
  rw [e]
  exact fun z => nomatch z
theorem Gr.tk {a s : Addr} {H H' : Hp} (g : Gr a H H') (h : Pool H a s) : TK H H' := by
  obtain ⟨xs, e⟩ := h.lst
  exact .of_gr g e
theorem new_ne {H : Hp} {a s l : Addr} (h : Pool H a s) (n : H l = none) : l ≠ a ∧ l ≠ s := by
  obtain ⟨ns, p, v, c, salt, h1, h2, h3, h4⟩ := h
  exact ⟨ne_of_none h1 n |> Ne.symm, ne_of_none h2 n |> Ne.symm⟩
theorem Pool.upd {H : Hp} {a s l : Addr} {o : HO} (h : Pool H a s) (n : l ≠ a ∧ l ≠ s) : Pool (upd H l o) a s := by
  obtain ⟨ns, p, v, c, salt, h1, h2, h3, h4⟩ := h
  exact ⟨ns, p, v, c, salt, (upd_ne (Ne.symm n.1)).trans h1, (upd_ne (Ne.symm n.2)).trans h2, h3, h4⟩
abbrev s_law_spread : Stmt := topS 320
theorem sc_law_spread : FnScope ["cell", "mixed", "total", "k"] ["cell"] (defScope s_law_spread) := ⟨rfl, rfl, rfl, by decide +kernel, rfl, by decide +kernel, by decide +kernel⟩

abbrev s_law_draw : Stmt := topS 321
theorem sc_law_draw : FnScope ["pool", "many", "cell", "mixed", "value"] ["pool", "many"] (defScope s_law_draw) := ⟨rfl, rfl, rfl, by decide +kernel, rfl, by decide +kernel, by decide +kernel⟩

section
variable {P : Program} {w : World} {K : PySem.W.Frag} {mg : Str → Option Value} {base : Heap}
def spSpread : Sp := fun vs H Q _ => ∃ n : Int, vs = [.int n] ∧ ∀ r : Int, Q (.int r) H
theorem ok_spread (T : Blt mg) (D : DefAt K mg "_law_spread" s_law_spread ["cell"]) : FnOk P w K mg base CX0 1 D.f D.fd ["cell"] spSpread := by
  refine D.F.ok sc_law_spread (fun vs H Q E h => ?_) (fun cdv A outer s H vs Q E hr h => ?_)
  · obtain ⟨n, rfl, _⟩ := h
    rfl
  · obtain ⟨n, rfl, q⟩ := h
    refine ⟨_, (pss_cons (ps_set (i := 1) sc_law_spread.nd rfl (Or.inl rfl) (pe_op op_mod (pe_callTy call_int1' (by rfl) T.int (by decide +kernel) (pa_cons (pv 0) pa_nil)) pe_int))
      (pss_cons (ps_set (i := 2) sc_law_spread.nd rfl (Or.inl rfl) pe_int)
      (pss_cons (ps_for PassesOwn.never (by rfl) (pi_range1 (by rfl) T.range (pa_cons pe_int pa_nil)) (pg_name (i := 3) sc_law_spread.nd rfl (Or.inl rfl))
        (pss_cons (ps_set (i := 1) sc_law_spread.nd rfl (Or.inl rfl) (pe_op op_mod (pe_callTy call_int1' (by rfl) T.int (by decide +kernel) (pa_cons (pe_op op_add (pe_op op_add (pe_op op_mul (pv 1) pe_int) pe_int) (pv 3)) pa_nil)) pe_int))
        (pss_one (ps_set (i := 2) sc_law_spread.nd rfl (Or.inl rfl) (pe_op op_add (pe_op op_mul (pv 2) pe_int) (pv 1))))))
      (pss_one (ps_ret (pv 2)))))), ?_⟩
    refine r_at (σ := [some _, none, none, none]) rfl ?_
    walk_at "z"
    refine r_rg1 (by decide) (forR_range (fun _ σ' H' => H' = H ∧ ∃ a b c : Int, ∃ x, σ' = [some (.int a), some (.int b), some (.int c), x]) ⟨rfl, _, _, _, _, rfl⟩ (fun i σ' H' _ ⟨eH, a, b, c, x, eσ⟩ => ?_) fun σ' H' ⟨eH, a, b, c, x, eσ⟩ => ?_)
    · subst eH eσ
      walk_at "z"
      exact ⟨rfl, _, _, _, _, rfl⟩
    · subst eH eσ
      walk_at "z"
      exact q _
/-- a draw: a number from 0 up to the bound; the pool stays a pool; all else stands -/
def spDraw : Sp := fun vs H Q _ => ∃ (a s : Addr) (m : Int), vs = [.ref a, .int m] ∧ Pool H a s ∧ 0 < m ∧ m < 1000000 ∧ ∀ (r : Int) (H' : Hp), 0 ≤ r → r < m → Pool H' a s → Gr a H H' → Q (.int r) H'
theorem ok_draw (T : Blt mg) (D : DefAt K mg "_law_draw" s_law_draw ["pool", "many"]) (D_law_spread : DefAt K mg "_law_spread" s_law_spread ["cell"]) (G_law_spread : FnOk P w K mg base CX0 1 D_law_spread.f D_law_spread.fd ["cell"] spSpread) : FnOk P w K mg base CX0 2 D.f D.fd ["pool", "many"] spDraw := by
  refine D.F.ok sc_law_draw (fun vs H Q E h => ?_) (fun cdv A outer s H vs Q E hr h => ?_)
  · obtain ⟨a, _, m, rfl, _⟩ := h
    rfl
  · obtain ⟨a, s0, m, rfl, ⟨ns, p, v, c, salt, ha, hs, hp, hsa⟩, m0, m1, q⟩ := h
    refine ⟨_, (pss_cons (ps_if (PW.pt (pw_and (pt_cmpR op_le (pe_ix (ix_listK (K := K) rfl) (pv 0) pe_int (fun _ _ => rfl)) pe_int (nomark _)) (pw_and1 (pt_cmpR op_lt (pe_ix (ix_listK (K := K) rfl) (pv 0) pe_int (fun _ _ => rfl)) (pe_callB (call_lenK (K := K) rfl) (by rfl) T.len (by decide +kernel) (pa_cons (pe_ix (ix_listK (K := K) rfl) (pv 0) pe_int (fun _ _ => rfl)) pa_nil)) (nomark _)))))
        (pss_cons (ps_set (i := 2) sc_law_draw.nd rfl (Or.inl rfl) (pe_ix (ix_listK (K := K) rfl) (pe_ix (ix_listK (K := K) rfl) (pv 0) pe_int (fun _ _ => rfl)) (pe_ix (ix_listK (K := K) rfl) (pv 0) pe_int (fun _ _ => rfl)) (fun _ _ => rfl)))
        (pss_cons (ps_asg (pe_op op_add (pe_ix (ix_listK (K := K) rfl) (pv 0) pe_int (fun _ _ => rfl)) pe_int) (pg_sub (pv 0) pe_int set_list))
        (pss_cons (ps_asg (pv 2) (pg_sub (pv 0) pe_int set_list))
        (pss_one (ps_if (pt_cmpR op_lt (pv 2) pe_int (nomark _))
          (pss_one (ps_asg (pe_call G_law_spread (hr.mono (by first | decide | omega)) (by rfl) D_law_spread.g D_law_spread.F.kp D_law_spread.b .nil pass0 (pa_cons (pv 2) pa_nil)) (pg_sub (pv 0) pe_int set_list)))
          pss_nil)))))
        pss_nil)
      (pss_cons (ps_asg (pe_op op_add (pe_ix (ix_listK (K := K) rfl) (pv 0) pe_int (fun _ _ => rfl)) pe_int) (pg_sub (pv 0) pe_int set_list))
      (pss_cons (ps_if (pt_cmpR op_le (pe_ix (ix_listK (K := K) rfl) (pv 0) pe_int (fun _ _ => rfl)) pe_int (nomark _))
        (pss_cons (ps_set (i := 3) sc_law_draw.nd rfl (Or.inl rfl) (pe_op op_mod (pe_callTy call_int1' (by rfl) T.int (by decide +kernel) (pa_cons (pe_op op_add (pe_op op_add (pe_op op_mul (pe_ix (ix_listK (K := K) rfl) (pv 0) pe_int (fun _ _ => rfl)) pe_int) (pe_op op_mul (pe_ix (ix_listK (K := K) rfl) (pv 0) pe_int (fun _ _ => rfl)) pe_int)) pe_int) pa_nil)) pe_int))
        (pss_cons (ps_set (i := 3) sc_law_draw.nd rfl (Or.inl rfl) (pe_op op_mod (pe_callTy call_int1' (by rfl) T.int (by decide +kernel) (pa_cons (pe_op op_add (pe_op op_mul (pv 3) pe_int) (pe_ix (ix_listK (K := K) rfl) (pv 0) pe_int (fun _ _ => rfl))) pa_nil)) pe_int))
        (pss_one (ps_ret (pe_op op_mod (pe_op op_fdivW (pv 3) pe_int) (pv 1))))))
        pss_nil)
      (pss_cons (ps_set (i := 4) sc_law_draw.nd rfl (Or.inl rfl) (pe_op op_mod (pe_callTy call_int1' (by rfl) T.int (by decide +kernel) (pa_cons (pe_ix (ix_listK (K := K) rfl) (pv 0) pe_int (fun _ _ => rfl)) pa_nil)) (pv 1)))
      (pss_cons (ps_asg (pe_op op_fdivW (pe_ix (ix_listK (K := K) rfl) (pv 0) pe_int (fun _ _ => rfl)) (pv 1)) (pg_sub (pv 0) pe_int set_list))
      (pss_one (ps_ret (pv 4)))))))), ?_⟩
    refine r_at (σ := [some _, some _, none, none, none]) rfl ?_
    refine r_seqW (fun σ' H' => ∃ (p v c : Int) (x2 : Option V), σ' = [some (.ref a), some (.int m), x2, none, none] ∧ H' a = some (.lst [.ref s0, .int p, .int v, .int c, .int salt]) ∧ 0 ≤ p ∧ H' s0 = some (.lst (ns.map V.int)) ∧ Gr a H H') ?tail (fun B hB => ?head)
    case head =>
      have sa : s0 ≠ a := hsa
      walk_at "z"
      refine r_ite (fun hv => ?_) (fun hv => ?_)
      · walk_at "z"
        refine r_ite (fun hl => ?_) (fun hl => ?_)
        · rw [List.length_map] at hl
          obtain ⟨cell, _, hc⟩ := at_int hp hl
          walk_at "z"
          have key : ∀ r : Int, B [some (V.ref a), some (V.int m), some (V.int cell), none, none] (upd H a (.lst [.ref s0, .int (p + 1), .int r, .int c, .int salt])) := fun r => hB _ _ ⟨p + 1, r, c, _, rfl, upd_same, by omega, (upd_ne sa).trans hs, .self⟩
          refine r_ite (fun hb => ?_) (fun hb => ?_)
          · walk_at "z"
            refine ⟨_, rfl, fun r => ?_⟩
            walk_at "z"
            exact key _
          · walk_at "z"
            exact key _
        · walk_at "z"
          exact hB _ _ ⟨p, v, c, _, rfl, ha, hp, hs, .refl a H⟩
      · walk_at "z"
        exact hB _ _ ⟨p, v, c, _, rfl, ha, hp, hs, .refl a H⟩
    case tail =>
      rintro σ' H' ⟨p', v', c', x2, rfl, ha', hp', hs', g⟩
      have md : ∀ z : Int, 0 ≤ z % m ∧ z % m < m := fun z => ⟨Int.emod_nonneg z (by omega), Int.emod_lt_of_pos z m0⟩
      have fin : ∀ (z v2 : Int), Q (V.int (z % m)) (upd H' a (.lst [.ref s0, .int p', .int v2, .int (c' + 1), .int salt])) := fun z v2 =>
        q _ _ (md z).1 (md z).2 ⟨ns, p', v2, c' + 1, salt, upd_same, (upd_ne hsa).trans hs', hp', hsa⟩ (g.trans .self)
      walk_at "z"
      refine r_ite (fun hv => ?_) (fun hv => ?_)
      · walk_at "z"
        exact fin _ _
      · walk_at "z"
        refine r_i ⟨m0, (wide_div (i := 0) m0 (b := 20) (by omega) (by decide) (by decide)).2⟩ ?_
        walk_at "z"
        exact fin _ _
/-- the pool of a script -/
abbrev s_law_pool : Stmt := topS 319
theorem sc_law_pool : FnScope ["script", "salt", "cell"] ["script"] (defScope s_law_pool) := ⟨rfl, rfl, rfl, by decide +kernel, rfl, by decide +kernel, by decide +kernel⟩

def spPool (K : PySem.W.Frag) : Sp := fun vs H Q _ => ∃ (l : Addr) (ns : List Int), vs = [.ref l] ∧ SqL K H l (ns.map V.int) ∧ ∀ (a s : Addr) (H' : Hp), H a = none → Same H H' → Pool H' a s → Q (.ref a) H'
theorem cut_ints (ns : List Int) (lo hi : Option Int) : ∃ ms : List Int, cutV (ns.map V.int) lo hi = ms.map V.int ∧ ms.length ≤ ns.length := by
  refine ⟨(ns.drop (HT.sIx ns.length 0 lo)).take (HT.sIx ns.length ns.length hi - HT.sIx ns.length 0 lo), ?_, ?_⟩
  · unfold cutV
    rw [List.length_map, List.map_take, List.map_drop]
  · rw [List.length_take, List.length_drop]
    omega
theorem ok_pool (T : Blt mg) (D : DefAt K mg "_law_pool" s_law_pool ["script"]) : FnOk P w K mg base CX0 1 D.f D.fd ["script"] (spPool K) := by
  refine D.F.ok sc_law_pool (fun vs H Q E h => ?_) (fun cdv A outer s H vs Q E hr h => ?_)
  · obtain ⟨a, m, rfl, _⟩ := h
    rfl
  · obtain ⟨l, ns, rfl, hl, q⟩ := h
    refine ⟨_, (pss_cons (ps_set (i := 1) sc_law_pool.nd rfl (Or.inl rfl) pe_int)
      (pss_cons (ps_for PassesOwn.never (by rfl) (PI.listK (K := K) rfl (pi_list (pe_slice (sl_listK (K := K) rfl) (pv 0) po_none (po_some pe_int)))) (pg_name (i := 2) sc_law_pool.nd rfl (Or.inl rfl))
        (pss_one (ps_set (i := 1) sc_law_pool.nd rfl (Or.inl rfl) (pe_op op_mod (pe_callTy call_int1' (by rfl) T.int (by decide +kernel) (pa_cons (pe_op op_add (pe_op op_mul (pv 1) pe_int) (pv 2)) pa_nil)) pe_int))))
      (pss_one (ps_ret (pe_lst (pa_cons (pe_callTy (call_listK (K := K) rfl) (by rfl) T.list (by decide +kernel) (pa_cons (pv 0) pa_nil)) (pa_cons pe_int (pa_cons pe_int (pa_cons pe_int (pa_cons (pv 1) pa_nil)))))))))), ?_⟩
    refine r_at (σ := [some _, none, none]) rfl ?_
    walk_at "z"
    obtain ⟨ms, em, _⟩ := cut_ints ns none (some 63)
    refine ⟨l, _, rfl, hl, fun c hc => ?_⟩
    have sc : Same H (upd H c (.lst (ms.map V.int))) := same_new hc
    rw [em]
    refine r_il (.inl (.inl upd_same)) (forR_list (xs := ms.map V.int) (fun i σ' H' => H' = upd H c (.lst (ms.map V.int)) ∧ ∃ (z : Int) (x : Option V), σ' = [some (.ref l), some (.int z), x]) ⟨rfl, _, _, rfl⟩ (fun i σ' H' _ ⟨eH, _⟩ => ?_) (fun i x σ' H' hx ⟨eH, z, y, eσ⟩ => ?_) fun σ' H' ⟨eH, z, y, eσ⟩ => ?_)
    · rw [eH]
      exact .inl (.inl upd_same)
    · subst eH eσ
      rw [List.getElem?_map] at hx
      obtain ⟨n, _, rfl⟩ := Option.map_eq_some_iff.mp hx
      walk_at "z"
      exact ⟨rfl, _, _, rfl⟩
    · subst eH eσ
      walk_at "z"
      refine r_listL (sc.seq hl) fun b hb => ?_
      walk_at "z"
      refine r_lstN (by show 5 ≤ sizeLine; decide) fun a ha => ?_
      have sb := sc.trans (same_new (o := .lst (ns.map V.int)) hb)
      exact q a b _ (sb.free ha) (sb.trans (same_new ha)) ⟨ns, 0, 0, 0, z, upd_same, (upd_ne (ne_of_none upd_same ha)).trans upd_same, by omega, ne_of_none upd_same ha⟩
end

end Z
set_option Elab.async false
set_option linter.all false
set_option maxRecDepth 100000
/-! the top's run cut in pieces: the state between two pieces is told by a quick twin for defs, and each piece is one kernel computation -/
noncomputable section
namespace HP
open PySem PySem.W PySem.Calls PyProof.Rows HandSHeadRun
def posEq (a b : Pos) : Bool := Nat.beq a.line b.line && Nat.beq a.col b.col
/-- the thread stands ahead of the statement at p -/
def atPos (p : Pos) (t : Thread) : Bool := match t.cur with
  | .at q _ => posEq q p
  | _ => false
section
variable (st : SharedT → Thread → Option (SharedT × Thread)) (n0 : Nat) (ann : Option Value)
/-- the run until the statement at p -/
def goB (p : Pos) : Nat → SharedT → Thread → Option (SharedT × Thread)
  | 0, _, _ => none
  | m + 1, s, t => match atPos p t with
    | true => some (s, t)
    | false => match through t with
      | true => none
      | false => match stepOk n0 ann t with
        | false => none
        | true => match st s t with
          | some (s', t') => frS s' fun s' => goB p m s' t'
          | none => none
variable {st n0 ann}
theorem goF_mono : ∀ {m : Nat} {s r : SharedT} {t : Thread} (d : Nat), goF st n0 ann m s t = some r → goF st n0 ann (m + d) s t = some r
  | 0, _, _, _, _, h => by cases h
  | m + 1, s, r, t, d, h => by
    rw [Nat.add_right_comm]
    unfold goF at h ⊢
    cases ht : through t with
    | true =>
      rw [ht] at h
      exact h
    | false =>
      rw [ht] at h
      cases hk : stepOk n0 ann t with
      | false =>
        rw [hk] at h
        cases h
      | true =>
        rw [hk] at h
        cases hs : st s t with
        | none =>
          rw [hs] at h
          cases h
        | some q =>
          obtain ⟨s2, t2⟩ := q
          rw [hs] at h
          have h3 : (frS s2 fun s' => goF st n0 ann m s' t2) = some r := h
          show (frS s2 fun s' => goF st n0 ann (m + d) s' t2) = some r
          rw [frS_eq] at h3 ⊢
          exact goF_mono d h3
theorem goB_goF {p : Pos} : ∀ {m M : Nat} {s s' r : SharedT} {t t' : Thread}, goB st n0 ann p m s t = some (s', t') → goF st n0 ann M s' t' = some r → goF st n0 ann (m + M) s t = some r
  | 0, _, _, _, _, _, _, h, _ => by cases h
  | m + 1, M, s, s', r, t, t', h, k => by
    unfold goB at h
    cases ha : atPos p t with
    | true =>
      rw [ha] at h
      cases h
      rw [Nat.add_comm]
      exact goF_mono _ k
    | false =>
      rw [ha] at h
      cases ht : through t with
      | true =>
        rw [ht] at h
        cases h
      | false =>
        rw [ht] at h
        cases hk : stepOk n0 ann t with
        | false =>
          rw [hk] at h
          cases h
        | true =>
          rw [hk] at h
          cases hs : st s t with
          | none =>
            rw [hs] at h
            cases h
          | some q =>
            obtain ⟨s2, t2⟩ := q
            rw [hs] at h
            have h3 : (frS s2 fun s' => goB st n0 ann p m s' t2) = some (s', t') := h
            rw [frS_eq] at h3
            have r3 := goB_goF h3 k
            rw [Nat.add_right_comm]
            unfold goF
            rw [ht, hk, hs]
            show (frS s2 fun s' => goF st n0 ann (m + M) s' t2) = some r
            rw [frS_eq]
            exact r3
end
/-! ### the quick twin of a def's statement -/
def lk : List (Nat × Obj) → Nat → Option Obj
  | [], _ => none
  | (b, o) :: r, a => match Nat.beq b a with
    | true => some o
    | false => lk r a
def md (a : Nat) (f : Obj → Obj) : List (Nat × Obj) → List (Nat × Obj)
  | [] => []
  | (b, o) :: r => match Nat.beq b a with
    | true => (b, f o) :: r
    | false => (b, o) :: md a f r
/-- a tree's insertion (a twin of its own, so that the kernel doesn't compare the two ways step by step) -/
def insB : BT → Nat → Obj → BT
  | .nil, _, o => .node o .nil .nil
  | .node v l r, i, o => match Nat.beq i 0 with
    | true => .node o l r
    | false => match Nat.beq (i % 2) 1 with
      | true => .node v (insB l (i / 2) o) r
      | false => .node v l (insB r (i / 2 - 1) o)
def runS (set : Setting) (T : BT) : Nat → List (Nat × Obj) → Nat → Nat → Sem Fin → Option (List (Nat × Obj) × Nat × Nat)
  | 0, _, _, _, _ => none
  | f + 1, L, n, k, m => match m with
    | .pure (.done .next) => some (L, n, k)
    | .at _ g => runS set T f L n k (g ())
    | .rule _ g => runS set T f L n k (g ())
    | .point _ g => runS set T f L n k (g ())
    | .load a _ g => match lk L a with
      | some o => runS set T f L n k (g o)
      | none => match T.get a with
        | some o => runS set T f L n k (g o)
        | none => none
    | .update a _ h g => runS set T f (md a h L) n k (g ())
    | .alloc o g => frNat (n + 1) fun n' => runS set T f ((n, o) :: L) n' k (g n)
    | .fresh g => frNat (k + 1) fun k' => runS set T f L n k' (g k)
    | .ask g => runS set T f L n k (g set)
    | _ => none
def dictCut (m : Nat) : Obj → Obj
  | ⟨c, d, .dict es ep, s⟩ => ⟨c, d, .dict (es.toList.take m).toArray ep, s⟩
  | o => o
def dictNew (m : Nat) : Obj → List DictEntry
  | ⟨_, _, .dict es _, _⟩ => es.toList.drop m
  | _ => []
def dictAdd (es2 : List DictEntry) (k : Nat) : Obj → Obj
  | ⟨c, d, .dict es ep, s⟩ => ⟨c, d, .dict (es.toList ++ es2).toArray (ep + k), s⟩
  | o => o
def fldsCut : Obj → Obj
  | ⟨c, d, .fields _, s⟩ => ⟨c, d, .fields #[], s⟩
  | o => o
def fldsOf : Obj → List Value
  | ⟨_, _, .fields vs, _⟩ => vs.toList
  | _ => []
def fldsAdd (vs2 : List Value) : Obj → Obj
  | ⟨c, d, .fields vs, s⟩ => ⟨c, d, .fields (vs.toList ++ vs2).toArray, s⟩
  | o => o
/-- the defs one after another: the tree, the next address, the next token, what the module's dict and the code's places gain -/
def defsF (den : Code → Sem Fin) (set : Setting) (env : Env) (aM aP aC m : Nat) (oM oP oC : Obj) : List Stmt → BT → Nat → Nat → List DictEntry → List Value → Option (BT × Nat × Nat × List DictEntry × List Value)
  | [], T, n, k, es, vs => some (T, n, k, es, vs)
  | st :: r, T, n, k, es, vs => match runS set T 400 [(aM, oM), (aP, oP), (aC, oC)] n k (den (.body [st] env)) with
    | some (L, n', k') => match lk L aM, lk L aP with
      | some pM, some pP => defsF den set env aM aP aC m oM oP oC r ((L.take (n' - n)).foldr (fun p T => insB T p.1 p.2) T) n' k' (es ++ dictNew m pM) (vs ++ fldsOf pP)
      | _, _ => none
    | none => none
def setB (f : Obj → Obj) : BT → Nat → BT
  | .nil, _ => .nil
  | .node v l r, i => match Nat.beq i 0 with
    | true => .node (f v) l r
    | false => match Nat.beq (i % 2) 1 with
      | true => .node v (setB f l (i / 2)) r
      | false => .node v l (setB f r (i / 2 - 1))
/-- a row of defs -/
def segD (den : Code → Sem Fin) (set : Setting) (env : Env) (aM aP aC m : Nat) (sts : List Stmt) : SharedT → Option SharedT
  | ⟨T, n, life, gens, drawn, toks, os⟩ => match T.get aM, T.get aP, T.get aC with
    | some oM, some oP, some oC => match defsF den set env aM aP aC m (dictCut m oM) (fldsCut oP) oC sts T n toks [] [] with
      | some (T', n', k', es, vs) => some ⟨setB (fldsAdd vs) (setB (dictAdd es es.length) T' aM) aP, n', life, gens, drawn, k', os⟩
      | none => none
    | _, _, _ => none
/-- statements one by one, with the whole dict -/
def segA (den : Code → Sem Fin) (set : Setting) (env : Env) (aM aP aC : Nat) : List Stmt → SharedT → Option SharedT
  | [], s => some s
  | st :: r, ⟨T, n, life, gens, drawn, toks, os⟩ => match T.get aM, T.get aP, T.get aC with
    | some oM, some oP, some oC => match runS set T 2000 [(aM, oM), (aP, oP), (aC, oC)] n toks (den (.body [st] env)) with
      | some (L, n', k') => match lk L aM, lk L aP with
        | some pM, some pP => segA den set env aM aP aC r ⟨setB (fun _ => pP) (setB (fun _ => pM) ((L.take (n' - n)).foldr (fun p T => insB T p.1 p.2) T) aM) aP, n', life, gens, drawn, k', os⟩
        | _, _ => none
      | none => none
    | _, _, _ => none
/-! ### a def's objects told at once -/
def namesV : List Str → Nat → List Value
  | [], _ => []
  | s :: r, k => .str s k :: namesV r (k + 1)
def tupO (vs : List Value) : Obj := { cls := .type "tuple", data := .seq vs.toArray }
/-- the objects of a def, the next address, the next token, the function's address -/
def defO (env : Env) (c : CodeContext) (file : Str) (pm : Value) (bl : Addr) (name qual : Str) (args : Arguments) (body : List Stmt) (scope : Scope) (pos : Pos) (loc : Option (List Str × List Str)) (n k : Nat) : List (Nat × Obj) × Nat × Nat × Nat :=
  let tm : Obj := { cls := .none, data := .func { name, qualname := qual, params := args, body := .stmts body, scope, globals := builtinsNs, closure := [], defaults := .none, kwdefaults := .none } }
  let co (n2 k2 : Nat) (v1 v2 tv : Value) : Obj := { cls := .type "code", data := .fields [.str name k, .str qual (k + 1), .str c.file (k + 2), rawInt pos.line, rawInt (args.posonlyargs.length + args.args.length : Nat), rawInt args.posonlyargs.length, rawInt args.kwonlyargs.length,
    rawInt (functionFlags args.vararg.isSome args.kwarg.isSome scope c : Nat), .ref n, .bool (true || c.inFunction), rawInt c.text, .ref (n + 1), .none, v1, v2, tv, rawInt k2, rawInt pos.line, .str c.file (k2 + 1)].toArray }
  let fn (n2 : Nat) (doc : Value) : Obj := { cls := .type "function", data := .func { name, qualname := qual, params := args, body := .stmts body, scope, globals := env.globals, closure := [], closureTuple := .none, code := .ref n2, builtins := bl, defaults := .none, kwdefaults := .none, annotations := none, pyModule := pm, doc } }
  let fin (objs : List (Nat × Obj)) (n2 k2 : Nat) : List (Nat × Obj) × Nat × Nat × Nat := match docOf body with
    | some s => ((n2 + 1, fn n2 (.str s k2)) :: objs, n2 + 2, k2 + 1, n2 + 1)
    | none => ((n2 + 1, fn n2 .none) :: objs, n2 + 2, k2, n2 + 1)
  match loc with
  | none => frNat (k + 3) fun k2 => fin [(n + 3, co (n + 3) k2 .none .none (.ref (n + 2))), (n + 2, tm), (n + 1, { cls := .none, data := .fields #[] }), (n, tupO [])] (n + 3) (k2 + 2)
  | some (l1, l2) => frNat (k + 3 + l1.length) fun ka => frNat (ka + l2.length) fun k2 =>
    fin [(n + 5, co (n + 5) k2 (.ref (n + 2)) (.ref (n + 3)) (.ref (n + 4))), (n + 4, tm), (n + 3, tupO (namesV l2 ka)), (n + 2, tupO (namesV l1 (k + 3))), (n + 1, { cls := .none, data := .fields #[] }), (n, tupO [])] (n + 5) (k2 + 2)
def defsO (set : Setting) (env : Env) (c : CodeContext) (pm : Value) (bl : Addr) : List Stmt → List (Option (List Str × List Str)) → BT → Nat → Nat → List DictEntry → List Value → Option (BT × Nat × Nat × List DictEntry × List Value)
  | [], _, T, n, k, es, vs => some (T, n, k, es, vs)
  | .FunctionDef name args body _ _ _ scope _ bind pos :: r, loc :: ls, T, n, k, es, vs => match defO env c c.file pm bl name (qualnameIn env name bind) args body scope pos loc n k with
    | (L, n', k', f) => frNat n' fun n' => frNat k' fun k' => frNat f fun f => frNat (k' + 1) fun k2 =>
      defsO set env c pm bl r ls (L.foldr (fun p T => insB T p.1 p.2) T) n' k2 (es ++ [⟨if bind.cps.isEmpty then 0 else reduceHash (set.params.strHash bind.cps), .str bind k', .ref f⟩]) (vs ++ [rawInt pos.line, rawInt pos.col, .ref (f - 1)])
  | _, _, _, _, _, _, _ => none
def nameOf : List DictEntry → Value
  | [] => .none
  | e :: r => if e.key.isStr "__name__" then e.val else nameOf r
/-- a row of defs, their objects told at once -/
def segO (set : Setting) (env : Env) (aM aP aC m : Nat) (bl : Addr) (sts : List Stmt) (ls : List (Option (List Str × List Str))) : SharedT → Option SharedT
  | ⟨T, n, life, gens, drawn, toks, os⟩ => match T.get aM, T.get aC with
    | some ⟨_, _, .dict es0 _, _⟩, some ⟨_, _, .fields vs, _⟩ => match vs.getD 18 .none, vs.getD 7 .none, vs.getD 9 .none, vs.getD 10 .none with
      | .str file _, .int flags _, .bool inF, .int text _ =>
        match defsO set env { file, future := flags.toNat &&& (coFutureAnnotations ||| coFutureBarry), inFunction := inF || env.scope.kind == .function, text := text.toNat } (nameOf (es0.toList.take m)) bl sts ls T n toks [] [] with
        | some (T', n', k', es, vs2) => some ⟨setB (fldsAdd vs2) (setB (dictAdd es es.length) T' aM) aP, n', life, gens, drawn, k', os⟩
        | none => none
      | _, _, _, _ => none
    | _, _ => none
end HP

set_option Elab.async false
set_option linter.all false
set_option maxRecDepth 100000
set_option maxHeartbeats 4000000
noncomputable section
namespace HP
open PySem PySem.W PySem.Calls PyProof.Rows HandSHeadRun
/-- the Hook over told addresses: the module's dict, the defs, their codes -/
def obsL (as : List Addr) (fa : List He.Fa) (fn : List He.DefD) (tf : List He.Defn) (ex : PySem.W.Frag → Bool) (g : Addr → Option Obj) : He.AlX := (He.obsT fa fn [] (He.frT g as), ex (He.frT g as) && He.tabsB g tf (He.frT g as))
theorem saysL_of {as : List Addr} {fa : List He.Fa} {fn : List He.DefD} {tf : List He.Defn} {ex : PySem.W.Frag → Bool} {w : World} {h : Heap} (e : obsL as fa fn tf ex h.get? = He.valX fn [] w) : He.SaysX fa fn [] tf ex w h (He.frT h.get? as) := by
  have e1 : He.obsT fa fn [] (He.frT h.get? as) = He.valT fn [] w := congrArg (fun z : He.AlX => z.1) e
  have e2 : (ex (He.frT h.get? as) && He.tabsB h.get? tf (He.frT h.get? as)) = true := congrArg (fun z : He.AlX => z.2) e
  obtain ⟨h1, h2⟩ := Bool.and_eq_true_iff.mp e2
  have key : ∀ p ∈ tf, PySem.W.codeHdIn (He.frT h.get? as) (He.cT (He.frT h.get? as) p).1 (He.cT (He.frT h.get? as) p).2 = true ∧ ∃ o, h.get? (He.cT (He.frT h.get? as) p).2 = some o ∧ He.emptyTab o = true := fun p hp => by
    obtain ⟨h3, h4⟩ := Bool.and_eq_true_iff.mp (List.all_eq_true.mp h2 p hp)
    refine ⟨h3, ?_⟩
    cases q : h.get? (He.cT (He.frT h.get? as) p).2 with
    | none =>
      rw [q] at h4
      cases h4
    | some o =>
      rw [q] at h4
      exact ⟨o, rfl, h4⟩
  exact ⟨e1, h1, fun p hp => (key p hp).1, fun p hp => by
    obtain ⟨_, o, q, z⟩ := key p hp
    exact He.frT_none q z, fun p hp => by
    obtain ⟨_, o, q, z⟩ := key p hp
    rw [q, He.emptyTab_eq z]⟩
def hookL (as : List Addr) (fa : List He.Fa) (fn : List He.DefD) (tf : List He.Defn) (ex : PySem.W.Frag → Bool) : PySem.W.Hook where
  α := He.AlX
  obs := fun s => obsL as fa fn tf ex s.heap.get?
  val := fun w => He.valX fn [] w
  says := fun w h => ∃ K : PySem.W.Frag, K.In h ∧ He.SaysX fa fn [] tf ex w h K
  of := fun _ _ e => ⟨_, He.frT_in, saysL_of e⟩
  keeps := fun _ _ _ ⟨K, hK, c⟩ k => ⟨K, PySem.W.Frag.In.keeps hK k, ⟨c.t, c.more, c.hd, c.out, fun p hp => k _ _ (c.empty p hp)⟩⟩
theorem obsL_eq {as : List Addr} {fa : List He.Fa} {fn : List He.DefD} {tf : List He.Defn} {ex : PySem.W.Frag → Bool} {g : Addr → Option Obj} {s : Shared} (h : ∀ a, g a = s.heap.get? a) : obsL as fa fn tf ex g = (hookL as fa fn tf ex).obs s := by
  have e : g = s.heap.get? := funext h
  rw [e] <;> rfl
/-- the run's equation from its end -/
theorem runEq_of {r : OpenRow} {q : Program} {H : Hook} {ob : SharedT → H.α} {M : Nat} {loose : List PySem.Str} {w : World} (S : OsState → SharedT) (run : ∀ os, endF (stepQ (denQ tabQ) r.prog w) M r.prog w os = some (S os))
    (l1 : ∀ os, staticsOk (importedModules r.prog.main.body) (boot_heap w.params) (S os).abs.heap = true) (l2 : ∀ os, namesBound r.prog (S os).abs.heap = true) (l3 : ∀ os, gensDone (S os).abs = true) (l4 : ∀ os, laidKept (boot_heap w.params) (S os).abs.heap = true)
    (sn : ∀ os, seenQ q loose (importedModules r.prog.main.body) (fun s => xlAt q [] s && recOk r.toRowW.records s) (S os).abs = openGood q loose) (hk : ∀ os, ob (S os) = H.val w) : RunEq r q H ob M loose w := fun os => by
  rw [run os]
  show some (looksF r.prog (boot_heap w.params) (S os).abs, _, _) = _
  rw [sn os, hk os]
  have : looksF r.prog (boot_heap w.params) (S os).abs = true := by
    unfold looksF
    rw [l1 os, l2 os, l3 os, l4 os]
    rfl
  rw [this]
end HP

set_option Elab.async false
set_option linter.all false
set_option maxRecDepth 100000
set_option maxHeartbeats 4000000
namespace Z
open PySem PySem.Spec PyProof.Rows L2 LamX
def kdsH : List Str := ["connected", "bipartite", "forest", "block", "chordal", "interval", "cograph", "comparability", "permutation", "prime", "planar", "outerplanar", "degenerate", "indegree", "forests", "trees", "width", "colours", "independent", "matching", "linked", "isomorphic"]
def nksH : List Str := ["degenerate", "indegree", "forests", "trees", "width", "colours", "independent", "matching"]
/-- a def of the top, as the head tells it -/
def dfd (x : Str) (st : Stmt) : He.DefD := ⟨(x, none), x, x, defArgs st, defBody st, defScope st, [], []⟩
def fnX : List He.DefD := [dfd "is_integer" (topS 5), dfd "is_tuple" (topS 6), dfd "is_vertex" (topS 8), dfd "are_vertices" (topS 9), dfd "is_row" (topS 10), dfd "is_order" (topS 11), dfd "is_set" (topS 12), dfd "is_ascending" (topS 13), dfd "is_edge" (topS 15), dfd "are_edges" (topS 16), dfd "neighbour_lists" (topS 20), dfd "neighbour_masks" (topS 21), dfd "masks_behind" (topS 22), dfd "is_clique" (topS 23), dfd "mask_of" (topS 24), dfd "members_of" (topS 25), dfd "size_of" (topS 26), dfd "has" (topS 33), dfd "full_mask" (topS 34), dfd "is_within" (topS 35), dfd "is_size" (topS 38), dfd "is_graph" (topS 39), dfd "shortest_path" (topS 53), dfd "reached" (topS 54), dfd "reached_by" (topS 55)] ++ ([dfd "way_to" (topS 56), dfd "is_cycle" (topS 62), dfd "_are_steps" (topS 63), dfd "find_hole" (topS 68), dfd "_path_past" (topS 69), dfd "clique_order" (topS 70), dfd "_tied" (topS 71), dfd "class_paper" (topS 80), dfd "_chordal_paper" (topS 81), dfd "is_question" (topS 255), dfd "_are_ends" (topS 256), dfd "_is_number" (topS 257), dfd "decide" (topS 259), dfd "is_class_paper" (topS 261), dfd "_are_cliques_behind" (topS 262), dfd "_is_hole" (topS 263), dfd "check" (topS 316), dfd "_is_right" (topS 317), dfd "_law_pool" (topS 319), dfd "_law_spread" (topS 320), dfd "_law_draw" (topS 321), dfd "_law_is_int" (topS 322), dfd "_law_distinct" (topS 323), dfd "_law_pairs" (topS 324), dfd "_law_of" (topS 325)] ++ ([dfd "_law_met" (topS 326), dfd "_law_near" (topS 327), dfd "_law_shuffled" (topS 328), dfd "_law_moved" (topS 329), dfd "_law_other" (topS 330), dfd "_law_random_graph" (topS 331), dfd "_law_interval_rows" (topS 332), dfd "_law_interval_graph" (topS 333), dfd "_law_turned_graph" (topS 334), dfd "_law_ordered_graph" (topS 335), dfd "_law_clique_graph" (topS 336), dfd "_law_drawn_tree" (topS 337), dfd "_law_leaves" (topS 338), dfd "_law_tree_pairs" (topS 339), dfd "_law_graph" (topS 340), dfd "_law_subsets" (topS 341), dfd "_law_is_row" (topS 342), dfd "_law_is_way" (topS 343), dfd "_law_bare" (topS 344), dfd "_law_is_hole" (topS 345), dfd "_law_ring_of" (topS 346), dfd "_law_holes" (topS 347), dfd "_law_chordal_right" (topS 348), dfd "_law_ringed" (topS 349), dfd "law" (topS 350)]))
def faX : List He.Fa := ([.glo "is_integer", .glo "is_tuple", .glo "is_vertex", .glo "are_vertices", .glo "is_row", .glo "is_order", .glo "is_set", .glo "is_ascending", .glo "is_edge", .glo "are_edges", .glo "neighbour_lists", .glo "neighbour_masks", .glo "masks_behind", .glo "is_clique", .glo "mask_of", .glo "members_of", .glo "size_of", .glo "has", .glo "full_mask", .glo "is_within", .glo "is_size", .glo "is_graph", .glo "shortest_path", .glo "reached", .glo "reached_by"] : List He.Fa) ++ (([.glo "way_to", .glo "is_cycle", .glo "_are_steps", .glo "find_hole", .glo "_path_past", .glo "clique_order", .glo "_tied", .glo "class_paper", .glo "_chordal_paper", .glo "is_question", .glo "_are_ends", .glo "_is_number", .glo "decide", .glo "is_class_paper", .glo "_are_cliques_behind", .glo "_is_hole", .glo "check", .glo "_is_right", .glo "_law_pool", .glo "_law_spread", .glo "_law_draw", .glo "_law_is_int", .glo "_law_distinct", .glo "_law_pairs", .glo "_law_of"] : List He.Fa) ++ (([.glo "_law_met", .glo "_law_near", .glo "_law_shuffled", .glo "_law_moved", .glo "_law_other", .glo "_law_random_graph", .glo "_law_interval_rows", .glo "_law_interval_graph", .glo "_law_turned_graph", .glo "_law_ordered_graph", .glo "_law_clique_graph", .glo "_law_drawn_tree", .glo "_law_leaves", .glo "_law_tree_pairs", .glo "_law_graph", .glo "_law_subsets", .glo "_law_is_row", .glo "_law_is_way", .glo "_law_bare", .glo "_law_is_hole", .glo "_law_ring_of", .glo "_law_holes", .glo "_law_chordal_right", .glo "_law_ringed", .glo "law"] : List He.Fa) ++ (([.free "len", .free "range", .free "list", .free "tuple", .free "int", .free "min", .free "max", .free "sorted", .free "isinstance", .free "bool", .free "str", .free "enumerate", .free "all", .free "set", .free "zip", .free "any", .free "sum", .int "MOST_VERTICES" 60] : List He.Fa))))
def tfX : List He.Defn := [("are_vertices", none), ("is_ascending", none), ("are_edges", none), ("reached", none)]
def strsV : List Value → List Str → Bool
  | [], [] => true
  | .str x _ :: us, k :: ks => decide (x.cps.toList = k.cps.toList) && strsV us ks
  | _, _ => false
theorem str_toL {x k : Str} (h : x.cps.toList = k.cps.toList) : x = k := by
  obtain ⟨a⟩ := x
  obtain ⟨b⟩ := k
  have : a = b := Array.toList_inj.mp h
  rw [this]
theorem strsV_ok : ∀ {us : List Value} {ks : List Str}, strsV us ks = true → Vals (ks.map V.str) us
  | [], [], _ => .nil
  | [], _ :: _, h => by cases h
  | u :: us, [], h => by
    cases u <;> cases h
  | u :: us, k :: ks, h => by
    cases u with
    | str x t =>
      have h : (decide (x.cps.toList = k.cps.toList) && strsV us ks) = true := h
      rw [Bool.and_eq_true, decide_eq_true_eq] at h
      exact .cons ⟨t, by rw [str_toL h.1]⟩ (strsV_ok h.2)
    | _ => cases h
/-- the constant x is a tuple of these texts -/
def tupK (K : PySem.W.Frag) (x : Str) (ks : List Str) : Bool := match PySem.W.nsIn K mainGlobals x with
  | some (some (.ref a)) => (match K.lookup a with
    | some ⟨.type c, _, .seq its _, _⟩ => decide (c = "tuple") && (decide (its.size ≤ sizeLine) && strsV its.toList ks)
    | _ => false)
  | _ => false
theorem tupK_ok {K : PySem.W.Frag} {h : Heap} {mg : Str → Option Value} {x : Str} {ks : List Str} (X : K.In h) (G : h.Ns mainGlobals mg) (e : tupK K x ks = true) : ∃ a, mg x = some (.ref a) ∧ ∀ H, SqT K H a (ks.map V.str) := by
  unfold tupK at e
  split at e
  · rename_i a hn
    refine ⟨a, PySem.W.mg_of X G hn, fun H => ?_⟩
    split at e
    · rename_i c od its m sl hk
      rw [Bool.and_eq_true, Bool.and_eq_true, decide_eq_true_eq, decide_eq_true_eq] at e
      obtain ⟨e1, e2, e3⟩ := e
      exact .inr ⟨_, its, m, hk, by rw [e1], rfl, e2, strsV_ok e3⟩
    · cases e
  · cases e
def exX (K : PySem.W.Frag) : Bool := decide (([(He.cT K ("are_vertices", none)).2, (He.cT K ("is_ascending", none)).2, (He.cT K ("are_edges", none)).2, (He.cT K ("reached", none)).2] : List Addr).Nodup) && (tupK K "KINDS" kdsH && tupK K "NUMBER_KINDS" nksH)
def asX : List Addr := [3, 58, 57, 65, 64, 79, 78, 86, 85, 93, 92, 100, 99, 107, 106, 114, 113, 128, 127, 135, 134, 150, 149, 155, 154, 162, 161, 167, 166, 174, 173, 181, 180, 188, 187, 235, 234, 242, 241, 249] ++ ([248, 256, 255, 263, 262, 313, 312, 340, 339, 347, 346, 354, 353, 361, 360, 401, 400, 406, 405, 432, 431, 437, 436, 444, 443, 451, 450, 494, 493, 501, 500, 1555, 1554, 1562, 1561, 1569, 1568, 1574, 1573, 1579] ++ ([1578, 1584, 1583, 1589, 1588, 1864, 1863, 1869, 1868, 1876, 1875, 1883, 1882, 1890, 1889, 1897, 1896, 1904, 1903, 1911, 1910, 1916, 1915, 1923, 1922, 1928, 1927, 1935, 1934, 1940, 1939, 1945, 1944, 1950, 1949, 1957, 1956, 1962, 1961, 1969] ++ ([1968, 1974, 1973, 1979, 1978, 1984, 1983, 1991, 1990, 1996, 1995, 2003, 2002, 2008, 2007, 2013, 2012, 2018, 2017, 2025, 2024, 2032, 2031, 2037, 2036, 2042, 2041, 2047, 2046, 2052, 2051, 2059, 2058, 1547, 1548])))
abbrev hkX : PySem.W.Hook := HP.hookL asX faX fnX tfX exX
def obX (s : PySem.W.SharedT) : He.AlX := HP.obsL asX faX fnX tfX exX (HandSHeadRun.getT s)
theorem obX_eq (s : PySem.W.SharedT) : obX s = hkX.obs s.abs := HP.obsL_eq (HandSHeadRun.getT_eq s)

end Z
set_option Elab.async false
set_option linter.all false
set_option maxRecDepth 100000
set_option maxHeartbeats 0
namespace HT
noncomputable section
open PySem PySem.W PySem.Calls PyProof.Rows HandSHeadRun
abbrev RX : OpenRow := OpenLaw.row PySem.Challenge.rw_trellis_k34_chordal_graphs
def PX : Program := RX.prog
def bodyX : List Stmt := behindTheImports PX
def stX (w : World) : SharedT → Thread → Option (SharedT × Thread) := stepQ (denQ tabQ) PX w
def posX (i : Nat) : Pos := match bodyX.drop i with
  | .FunctionDef _ _ _ _ _ _ _ _ _ p :: _ => p
  | _ => default
def bootX (w : World) (os : OsState) : SharedT := match putAll (boot_heap w.params).objs.toList .nil 0 with
  | some (t, n) => frNat n fun n0 => bootT w os (t, n0)
  | none => bootT w os (.nil, 0)
def goK (st : SharedT → Thread → Option (SharedT × Thread)) : Nat → SharedT → Thread → Option (SharedT × Thread)
  | 0, s, t => some (s, t)
  | m + 1, s, t => match st s t with
    | some (s', t') => frS s' fun s' => goK st m s' t'
    | none => none
def begX (w : World) (os : OsState) : Thread := match goK (stX w) 12 (bootX w os) (topStub PX) with
  | some (_, t) => t
  | none => topStub PX
def envOfX (t : Thread) : Env := match t.code with
  | .body _ e => e
  | _ => default
/-- the thread ahead of the i-th statement -/
def thX (w : World) (os : OsState) (i : Nat) (p : Pos) : Thread := match begX w os with
  | t => ⟨denQ tabQ (.body (bodyX.drop i) (envOfX t)), t.code, p, t.stack⟩
def defsX (w : World) (os : OsState) (i k : Nat) (ls : List (Option (List Str × List Str))) (s : Option SharedT) : Option SharedT := match s with
  | some s => HP.segO ⟨PX, w.params⟩ (envOfX (begX w os)) 3 12 13 9 0 ((bodyX.drop i).take k) ls s
  | none => none
def asgX (w : World) (os : OsState) (i k : Nat) (s : Option SharedT) : Option SharedT := match s with
  | some s => HP.segA (denQ tabQ) ⟨PX, w.params⟩ (envOfX (begX w os)) 3 12 13 ((bodyX.drop i).take k) s
  | none => none
def startX (w : World) (os : OsState) : SharedT := match goK (stX w) 12 (bootX w os) (topStub PX) with
  | some (s, _) => s
  | none => bootX w os
def slowX (w : World) (os : OsState) (i j : Nat) (s : Option SharedT) : Option SharedT := match s with
  | some s => match HP.goB (stX w) 11 (bootAnn w) (posX j) 20000 s (thX w os i (posX (i - 1))) with
    | some (s', _) => some s'
    | none => none
  | none => none
def sX1 (w : World) (os : OsState) : Option SharedT := asgX w os 0 1 ((some (startX w os)))
def sX5 (w : World) (os : OsState) : Option SharedT := slowX w os 1 5 (sX1 w os)
def sX19 (w : World) (os : OsState) : Option SharedT := defsX w os 5 14 [some (["value"], []), some (["value", "many"], []), some (["value", "word", "many"], []), some (["n", "value"], []), some (["n", "value"], ["n"]), some (["n", "value"], []), some (["n", "value"], []), some (["n", "value"], []), some (["items"], ["items"]), some (["n", "value"], []), some (["n", "value"], []), some (["n", "value"], ["n"]), none, none] (sX5 w os)
def sX20 (w : World) (os : OsState) : Option SharedT := asgX w os 19 1 (sX19 w os)
def sX36 (w : World) (os : OsState) : Option SharedT := defsX w os 20 16 [none, none, some (["graph", "order", "around", "left", "behind", "v"], []), none, some (["members", "mask", "v"], []), some (["mask", "found", "low"], []), some (["mask"], []), some (["mask"], []), some (["around", "mask", "near", "v"], []), some (["around", "mask", "parts", "part"], []), some (["around", "mask", "fresh", "seen"], []), none, some (["around", "u", "v", "rows"], []), some (["mask", "v"], []), some (["n"], []), some (["part", "whole"], [])] (sX20 w os)
def sX38 (w : World) (os : OsState) : Option SharedT := asgX w os 36 2 (sX36 w os)
def sX52 (w : World) (os : OsState) : Option SharedT := defsX w os 38 14 [some (["value"], []), some (["value", "n", "edges"], []), none, some (["u", "v"], []), none, some (["graph", "u", "v"], []), some (["graph", "members"], []), none, some (["graph", "around", "placed", "found", "v", "part", "u"], []), some (["around", "start", "seen", "waiting", "v", "w"], []), some (["graph", "members"], []), none, none, none] (sX38 w os)
def sX53 (w : World) (os : OsState) : Option SharedT := asgX w os 52 1 (sX52 w os)
def sX60 (w : World) (os : OsState) : Option SharedT := defsX w os 53 7 [none, some (["around", "start"], ["around"]), some (["steps", "start", "before", "layer", "further", "v", "w"], []), some (["v", "before", "way"], []), some (["graph", "around", "before", "v"], []), some (["graph", "before", "u", "v"], []), some (["before", "u", "v", "fork", "first", "second"], [])] (sX53 w os)
def sX67 (w : World) (os : OsState) : Option SharedT := defsX w os 60 7 [none, some (["graph", "value"], []), some (["graph", "value"], []), none, some (["n", "edges", "above", "u", "v", "low", "high"], ["sizes"]), some (["above", "v"], []), some (["n", "edges"], [])] (sX60 w os)
def sX68 (w : World) (os : OsState) : Option SharedT := asgX w os 67 1 (sX67 w os)
def sX76 (w : World) (os : OsState) : Option SharedT := defsX w os 68 8 [none, none, some (["graph", "around", "left", "order", "v"], []), some (["around", "left", "v"], []), none, some (["around", "arrow"], ["around"]), some (["graph", "around", "chain"], []), some (["graph", "around", "seen", "u", "v", "before", "arrow"], [])] (sX68 w os)
def sX77 (w : World) (os : OsState) : Option SharedT := asgX w os 76 1 (sX76 w os)
def sX79 (w : World) (os : OsState) : Option SharedT := defsX w os 77 2 [none, some (["around", "towards", "rows", "u", "v"], [])] (sX77 w os)
def sX80 (w : World) (os : OsState) : Option SharedT := asgX w os 79 1 (sX79 w os)
def sX91 (w : World) (os : OsState) : Option SharedT := defsX w os 80 11 [none, some (["graph", "order", "left"], []), some (["graph", "direction", "chain"], []), none, some (["n", "arrows"], ["many"]), some (["n", "arrows", "many", "_", "v"], []), some (["graph", "hole", "asteroid", "before", "_"], []), some (["n", "before", "begin", "end", "u", "v"], []), none, some (["graph", "v", "around", "row", "part", "u"], []), some (["graph", "start", "end", "other", "near"], [])] (sX80 w os)
def sX92 (w : World) (os : OsState) : Option SharedT := asgX w os 91 1 (sX91 w os)
def sX97 (w : World) (os : OsState) : Option SharedT := defsX w os 92 5 [some (["graph", "rotation", "placed", "found", "arrow", "walk", "step"], []), none, some (["rotation", "start", "walk", "arrow"], []), some (["rotation", "arrow", "u", "v", "around"], []), some (["graph", "search", "v"], [])] (sX92 w os)
def sX98 (w : World) (os : OsState) : Option SharedT := slowX w os 97 98 (sX97 w os)
def sX100 (w : World) (os : OsState) : Option SharedT := defsX w os 98 2 [none, none] (sX98 w os)
def sX105 (w : World) (os : OsState) : Option SharedT := asgX w os 100 5 (sX100 w os)
def sX113 (w : World) (os : OsState) : Option SharedT := defsX w os 105 8 [none, none, none, none, none, some (["first", "second", "a", "c", "b", "d"], []), none, some (["graph", "ends", "path"], [])] (sX105 w os)
def sX114 (w : World) (os : OsState) : Option SharedT := asgX w os 113 1 (sX113 w os)
def sX120 (w : World) (os : OsState) : Option SharedT := defsX w os 114 6 [none, some (["graph", "n", "edges", "found"], []), none, none, some (["graph", "around", "cycle", "faces", "drawn", "piece", "at", "path"], []), some (["drawn", "row", "u", "v"], [])] (sX114 w os)
def sX124 (w : World) (os : OsState) : Option SharedT := defsX w os 120 4 [none, none, some (["around", "piece", "ends", "part", "start", "goal", "ways", "v", "row"], []), some (["face", "path", "at", "turned", "end"], [])] (sX120 w os)
def sX125 (w : World) (os : OsState) : Option SharedT := asgX w os 124 1 (sX124 w os)
def sX134 (w : World) (os : OsState) : Option SharedT := defsX w os 125 9 [some (["graph", "question"], []), none, none, none, none, some (["graph", "ways", "v", "others", "way"], []), none, none, none] (sX125 w os)
def sX136 (w : World) (os : OsState) : Option SharedT := asgX w os 134 2 (sX134 w os)
def sX142 (w : World) (os : OsState) : Option SharedT := defsX w os 136 6 [none, none, none, some (["sets", "many", "used", "mask"], []), none, some (["sets"], [])] (sX136 w os)
def sX143 (w : World) (os : OsState) : Option SharedT := asgX w os 142 1 (sX142 w os)
def sX153 (w : World) (os : OsState) : Option SharedT := defsX w os 143 10 [none, some (["n", "value"], ["n"]), some (["many", "value"], ["many"]), some (["many", "value"], []), none, none, none, none, some (["graph", "order", "place", "around", "rows", "left", "v", "behind", "u"], ["place"]), none] (sX143 w os)
def sX154 (w : World) (os : OsState) : Option SharedT := asgX w os 153 1 (sX153 w os)
def sX160 (w : World) (os : OsState) : Option SharedT := defsX w os 154 6 [some (["around", "whole", "k", "first", "rows", "left", "rest"], []), some (["around", "whole", "k", "rows", "left", "order", "v"], []), some (["rows", "left", "k", "v", "near"], []), none, some (["rows", "v", "near", "found", "u", "row"], []), some (["around", "whole", "k", "rows", "left", "v"], [])] (sX154 w os)
def sX161 (w : World) (os : OsState) : Option SharedT := asgX w os 160 1 (sX160 w os)
def sX163 (w : World) (os : OsState) : Option SharedT := defsX w os 161 2 [some (["around", "whole", "k", "rows", "left", "order", "v"], []), some (["rows", "members"], ["rows"])] (sX161 w os)
def sX165 (w : World) (os : OsState) : Option SharedT := slowX w os 163 165 (sX163 w os)
def sX174 (w : World) (os : OsState) : Option SharedT := defsX w os 165 9 [none, none, some (["groups", "members", "mask", "v"], []), none, none, none, none, none, none] (sX165 w os)
def sX178 (w : World) (os : OsState) : Option SharedT := asgX w os 174 4 (sX174 w os)
def sX180 (w : World) (os : OsState) : Option SharedT := defsX w os 178 2 [some (["graph", "members", "mask"], []), some (["graph", "members"], [])] (sX178 w os)
def sX182 (w : World) (os : OsState) : Option SharedT := defsX w os 180 2 [some (["around", "whole", "mask", "parting"], []), some (["around", "whole", "mask", "some", "every", "v"], [])] (sX180 w os)
def sX183 (w : World) (os : OsState) : Option SharedT := asgX w os 182 1 (sX182 w os)
def sX192 (w : World) (os : OsState) : Option SharedT := defsX w os 183 9 [some (["graph"], []), none, some (["graph"], []), some (["tables", "mask", "around", "opposite", "parts"], []), none, some (["n", "tree"], []), some (["n", "value", "seen", "waiting", "part"], []), some (["value"], []), none] (sX183 w os)
def sX193 (w : World) (os : OsState) : Option SharedT := asgX w os 192 1 (sX192 w os)
def sX198 (w : World) (os : OsState) : Option SharedT := defsX w os 193 5 [none, some (["graph", "tree"], []), some (["graph", "around", "b", "c", "ends", "a"], []), some (["graph", "n", "around", "rows", "u", "v"], []), some (["around", "mask", "row", "v"], [])] (sX193 w os)
def sX200 (w : World) (os : OsState) : Option SharedT := asgX w os 198 2 (sX198 w os)
def sX201 (w : World) (os : OsState) : Option SharedT := defsX w os 200 1 [none] (sX200 w os)
def sX202 (w : World) (os : OsState) : Option SharedT := asgX w os 201 1 (sX201 w os)
def sX205 (w : World) (os : OsState) : Option SharedT := defsX w os 202 3 [none, some (["graph", "mates", "spare", "v", "mate", "search", "mask"], []), some (["graph", "around", "mates", "v", "search"], [])] (sX202 w os)
def sX208 (w : World) (os : OsState) : Option SharedT := slowX w os 205 208 (sX205 w os)
def sX209 (w : World) (os : OsState) : Option SharedT := defsX w os 208 1 [none] (sX208 w os)
def sX210 (w : World) (os : OsState) : Option SharedT := asgX w os 209 1 (sX209 w os)
def sX219 (w : World) (os : OsState) : Option SharedT := defsX w os 210 9 [none, some (["graph", "k", "edges"], []), none, some (["around", "left", "best", "v", "clique", "u"], ["around", "common"]), some (["around", "left", "clique", "others", "v"], ["around", "left", "clique"]), none, some (["graph", "k", "waiting", "done", "task", "not_taken", "taken", "_", "chosen", "cover", "v", "others"], ["around", "left"]), some (["around", "left", "cliques", "v", "clique", "common", "u"], ["around", "left"]), none] (sX210 w os)
def sX220 (w : World) (os : OsState) : Option SharedT := asgX w os 219 1 (sX219 w os)
def sX222 (w : World) (os : OsState) : Option SharedT := defsX w os 220 2 [some (["graph", "many", "n", "edges", "places", "parts", "chain", "target", "closed"], []), none] (sX220 w os)
def sX224 (w : World) (os : OsState) : Option SharedT := asgX w os 222 2 (sX222 w os)
def sX226 (w : World) (os : OsState) : Option SharedT := defsX w os 224 2 [none, none] (sX224 w os)
def sX227 (w : World) (os : OsState) : Option SharedT := asgX w os 226 1 (sX226 w os)
def sX235 (w : World) (os : OsState) : Option SharedT := defsX w os 227 8 [none, some (["graph", "k", "around", "left", "order", "v"], []), some (["around", "left", "k", "v"], []), none, none, none, none, none] (sX227 w os)
def sX236 (w : World) (os : OsState) : Option SharedT := asgX w os 235 1 (sX235 w os)
def sX239 (w : World) (os : OsState) : Option SharedT := defsX w os 236 3 [some (["graph", "s", "t", "most", "around", "flow", "many", "before"], []), none, none] (sX236 w os)
def sX241 (w : World) (os : OsState) : Option SharedT := asgX w os 239 2 (sX239 w os)
def sX242 (w : World) (os : OsState) : Option SharedT := defsX w os 241 1 [none] (sX241 w os)
def sX243 (w : World) (os : OsState) : Option SharedT := asgX w os 242 1 (sX242 w os)
def sX244 (w : World) (os : OsState) : Option SharedT := defsX w os 243 1 [none] (sX243 w os)
def sX252 (w : World) (os : OsState) : Option SharedT := defsX w os 244 8 [none, none, some (["graph", "cycle"], []), some (["graph", "n", "parts", "cuts", "sides"], []), some (["graph", "around", "ears", "built"], []), none, some (["around", "built", "v", "w"], []), none] (sX244 w os)
def sX255 (w : World) (os : OsState) : Option SharedT := asgX w os 252 3 (sX252 w os)
def sX258 (w : World) (os : OsState) : Option SharedT := defsX w os 255 3 [some (["graph", "value", "kind"], []), some (["graph", "s", "t", "n"], []), some (["value"], [])] (sX255 w os)
def sX259 (w : World) (os : OsState) : Option SharedT := asgX w os 258 1 (sX258 w os)
def sX260 (w : World) (os : OsState) : Option SharedT := defsX w os 259 1 [none] (sX259 w os)
def sX261 (w : World) (os : OsState) : Option SharedT := asgX w os 260 1 (sX260 w os)
def sX274 (w : World) (os : OsState) : Option SharedT := defsX w os 261 13 [none, none, none, some (["value"], []), none, some (["first", "second"], []), some (["graph", "value", "_", "a", "b", "c", "p", "q", "r"], []), some (["graph", "start", "end", "other", "path", "near"], []), none, none, some (["around", "arrow", "forced", "a", "b", "c", "d"], []), some (["graph", "value"], []), none] (sX261 w os)
def sX275 (w : World) (os : OsState) : Option SharedT := asgX w os 274 1 (sX274 w os)
def sX279 (w : World) (os : OsState) : Option SharedT := defsX w os 275 4 [none, none, none, some (["around", "pair", "row", "n", "mask", "v", "near"], [])] (sX275 w os)
def sX280 (w : World) (os : OsState) : Option SharedT := asgX w os 279 1 (sX279 w os)
def sX296 (w : World) (os : OsState) : Option SharedT := defsX w os 280 16 [none, some (["n", "k", "value"], ["k"]), none, some (["graph", "k", "value", "waiting", "around", "left", "search", "_", "u", "v", "same", "different"], []), some (["around", "left", "value"], []), some (["around", "left", "value", "u", "v"], []), some (["graph", "k", "value", "around", "waiting", "left", "many", "search", "_", "v", "taken", "not_taken", "others"], []), none, none, none, some (["graph"], []), some (["graph", "other", "value", "waiting", "pairs", "search", "further"], []), none, none, some (["graph", "v"], []), none] (sX280 w os)
def sX297 (w : World) (os : OsState) : Option SharedT := asgX w os 296 1 (sX296 w os)
def sX299 (w : World) (os : OsState) : Option SharedT := defsX w os 297 2 [none, none] (sX297 w os)
def sX301 (w : World) (os : OsState) : Option SharedT := asgX w os 299 2 (sX299 w os)
def sX304 (w : World) (os : OsState) : Option SharedT := defsX w os 301 3 [some (["graph", "direction", "many", "_", "v"], []), none, none] (sX301 w os)
def sX306 (w : World) (os : OsState) : Option SharedT := defsX w os 304 2 [none, none] (sX304 w os)
def sX307 (w : World) (os : OsState) : Option SharedT := asgX w os 306 1 (sX306 w os)
def sX315 (w : World) (os : OsState) : Option SharedT := defsX w os 307 8 [none, none, none, some (["graph", "value", "n", "edges", "built", "ear"], []), some (["graph", "built", "value"], []), none, some (["graph", "s", "t", "value"], []), none] (sX307 w os)
def sX316 (w : World) (os : OsState) : Option SharedT := asgX w os 315 1 (sX315 w os)
def sX318 (w : World) (os : OsState) : Option SharedT := defsX w os 316 2 [some (["graph", "question", "paper", "answer", "data"], []), none] (sX316 w os)
def sX319 (w : World) (os : OsState) : Option SharedT := asgX w os 318 1 (sX318 w os)
def sX351 (w : World) (os : OsState) : Option SharedT := defsX w os 319 32 [some (["script", "salt", "cell"], []), some (["cell", "mixed", "total", "k"], []), some (["pool", "many", "cell", "mixed", "value"], []), some (["x"], []), some (["rows", "found", "row"], []), some (["n", "found", "u", "v"], []), none, some (["graph", "u", "v"], []), none, some (["pool", "items", "rest", "found", "k"], []), none, none, none, some (["pool", "n", "rows", "k", "start"], []), none, some (["one", "two", "first", "second", "found", "u", "v"], []), none, none, none, some (["tree", "found", "part"], []), none, some (["pool", "most", "way", "n", "graph"], []), none, none, none, some (["graph", "value", "ring", "i", "j"], []), some (["graph", "value"], []), none, none, none, none, some (["script", "pool", "graph", "paper"], [])] (sX319 w os)
def gX (s : Option SharedT) : SharedT := match s with
  | some s => s
  | none => ⟨.nil, 0, {}, #[], {}, 0, {}⟩
theorem piece60 (w : World) (os : OsState) : HP.goB (stX w) 11 (bootAnn w) (posX 60) 20000 (bootX w os) (topStub PX) = some (gX (sX60 w os), thX w os 60 (posX 59)) := by kernel_rfl
theorem piece120 (w : World) (os : OsState) : HP.goB (stX w) 11 (bootAnn w) (posX 120) 20000 (gX (sX60 w os)) (thX w os 60 (posX 59)) = some (gX (sX120 w os), thX w os 120 (posX 119)) := by kernel_rfl
theorem piece180 (w : World) (os : OsState) : HP.goB (stX w) 11 (bootAnn w) (posX 180) 20000 (gX (sX120 w os)) (thX w os 120 (posX 119)) = some (gX (sX180 w os), thX w os 180 (posX 179)) := by kernel_rfl
theorem piece244 (w : World) (os : OsState) : HP.goB (stX w) 11 (bootAnn w) (posX 244) 20000 (gX (sX180 w os)) (thX w os 180 (posX 179)) = some (gX (sX244 w os), thX w os 244 (posX 243)) := by kernel_rfl
theorem piece304 (w : World) (os : OsState) : HP.goB (stX w) 11 (bootAnn w) (posX 304) 20000 (gX (sX244 w os)) (thX w os 244 (posX 243)) = some (gX (sX304 w os), thX w os 304 (posX 303)) := by kernel_rfl
theorem pieceE (w : World) (os : OsState) : goF (stX w) 11 (bootAnn w) 20000 (gX (sX304 w os)) (thX w os 304 (posX 303)) = some (gX (sX351 w os)) := by kernel_rfl
end
end HT

set_option Elab.async false
set_option linter.all false
set_option maxRecDepth 100000
set_option maxHeartbeats 4000000
namespace HB
open PySem PySem.W PySem.Calls PyProof.Rows TablesWhole
/-! # the looks at a long text, statement by statement in chunks -/
theorem wSs_and {A : Alg Bool} (hu : A.unit = true) (hb : ∀ a b, A.both a b = (a && b)) (top : Scope) (cx : TablesWhole.Ctx) (sc : Scope) : ∀ (l m : List Stmt), wSs A top cx sc l = true → wSs A top cx sc m = true → wSs A top cx sc (l ++ m) = true
  | [], m, _, h => h
  | s :: l, m, h1, h2 => by
    rw [wSs, hb, Bool.and_eq_true_iff] at h1
    rw [List.cons_append, wSs, hb, Bool.and_eq_true_iff]
    exact ⟨h1.1, wSs_and hu hb top cx sc l m h1.2 h2⟩
theorem wSs_app {α : Type} {A : Alg (List α)} (hb : ∀ a b, A.both a b = a ++ b) (top : Scope) (cx : TablesWhole.Ctx) (sc : Scope) : ∀ (l m : List Stmt), wSs A top cx sc l = [] → wSs A top cx sc m = [] → wSs A top cx sc (l ++ m) = []
  | [], m, _, h => h
  | s :: l, m, h1, h2 => by
    rw [wSs, hb, List.append_eq_nil_iff] at h1
    rw [List.cons_append, wSs, hb, List.append_eq_nil_iff]
    exact ⟨h1.1, wSs_app hb top cx sc l m h1.2 h2⟩
theorem told_take {α : Type} {A : Alg (List α)} (hb : ∀ a b, A.both a b = a ++ b) (hu : A.unit = []) (top : Scope) (cx : TablesWhole.Ctx) (sc : Scope) : ∀ (l : List Stmt) (k : Nat), wSs A top cx sc l = [] → wSs A top cx sc (l.take k) = []
  | [], k, h => by rw [List.take_nil]; exact h
  | s :: l, 0, h => by
    rw [List.take_zero, wSs]
    exact hu
  | s :: l, k + 1, h => by
    rw [wSs, hb, List.append_eq_nil_iff] at h
    rw [List.take_succ_cons, wSs, hb, List.append_eq_nil_iff]
    exact ⟨h.1, told_take hb hu top cx sc l k h.2⟩
theorem cut {α : Type} {P : List α → Prop} (app : ∀ l m, P l → P m → P (l ++ m)) {l : List α} (i k : Nat) (h1 : P ((l.drop i).take k)) (h2 : P (l.drop (i + k))) : P (l.drop i) := by
  have e : (l.drop i).take k ++ l.drop (i + k) = l.drop i := by
    rw [← List.drop_drop]
    exact List.take_append_drop k (l.drop i)
  rw [← e]
  exact app _ _ h1 h2
theorem roads_app {lk : Look} : ∀ (l m : List Stmt), noRoadLSs lk l = true → noRoadLSs lk m = true → noRoadLSs lk (l ++ m) = true
  | [], m, _, h => h
  | s :: l, m, h1, h2 => by
    rw [noRoadLSs, Bool.and_eq_true_iff] at h1
    rw [List.cons_append, noRoadLSs, Bool.and_eq_true_iff]
    exact ⟨h1.1, roads_app l m h1.2 h2⟩
/-! # names, each once: by places in a long number -/
noncomputable def cdN (M : Nat) (s : Str) : Nat := Nat.mod (Fast.code s.cps.toList) M
noncomputable def dist (M : Nat) (l : List (Str × NameKind)) : Nat → Bool :=
  @List.rec (Str × NameKind) (fun _ => Nat → Bool) (fun _ => true) (fun p _ ih m => @Bool.rec (fun _ => Bool) false (ih (Nat.lor m (Nat.shiftLeft 1 (cdN M p.1)))) (Nat.beq (Nat.land (Nat.shiftRight m (cdN M p.1)) 1) 0)) l
theorem bit0 {m i : Nat} (h : Nat.beq (Nat.land (Nat.shiftRight m i) 1) 0 = true) : m.testBit i = false := by
  have h : (m >>> i) &&& 1 = 0 := Nat.eq_of_beq_eq_true h
  rw [Nat.testBit, Nat.and_comm, h]
  rfl
theorem dist_ok {M : Nat} : ∀ (l : List (Str × NameKind)) (m : Nat), dist M l m = true → (∀ p ∈ l, m.testBit (cdN M p.1) = false) ∧ (l.map fun p => p.1).Nodup
  | [], m, _ => ⟨fun p hp => (nomatch hp), .nil⟩
  | p :: l, m, h => by
    have h : @Bool.rec (fun _ => Bool) false (dist M l (Nat.lor m (Nat.shiftLeft 1 (cdN M p.1)))) (Nat.beq (Nat.land (Nat.shiftRight m (cdN M p.1)) 1) 0) = true := h
    cases e : Nat.beq (Nat.land (Nat.shiftRight m (cdN M p.1)) 1) 0 with
    | false =>
      rw [e] at h
      cases h
    | true =>
      rw [e] at h
      have h : dist M l (m ||| 1 <<< cdN M p.1) = true := h
      obtain ⟨h1, h2⟩ := dist_ok l _ h
      have key : ∀ q ∈ l, m.testBit (cdN M q.1) = false ∧ cdN M q.1 ≠ cdN M p.1 := fun q hq => by
        have := h1 q hq
        rw [Nat.testBit_or, Bool.or_eq_false_iff, Nat.one_shiftLeft] at this
        refine ⟨this.1, fun z => ?_⟩
        rw [z, Nat.testBit_two_pow_self] at this
        cases this.2
      refine ⟨fun q hq => ?_, ?_⟩
      · rcases List.mem_cons.mp hq with rfl | hq
        · exact bit0 e
        · exact (key q hq).1
      · rw [List.map_cons, List.nodup_cons]
        refine ⟨fun hm => ?_, h2⟩
        obtain ⟨q, hq, z⟩ := List.mem_map.mp hm
        exact (key q hq).2 (congrArg (cdN M) z)
theorem once {l : List (Str × NameKind)} (nd : (l.map fun p => p.1).Nodup) {p : Str × NameKind} (hp : p ∈ l) : l.filter (fun q => q.1 == p.1) = [p] := by
  induction l with
  | nil => cases hp
  | cons a l ih =>
    rw [List.map_cons, List.nodup_cons] at nd
    rcases List.mem_cons.mp hp with rfl | hp
    · rw [List.filter_cons, if_pos (beq_self_eq_true _)]
      refine congrArg (p :: ·) (List.filter_eq_nil_iff.mpr fun q hq e => nd.1 ?_)
      exact List.mem_map.mpr ⟨q, hq, eq_of_beq e⟩
    · have ne : (a.1 == p.1) = false := by
        rw [beq_eq_false_iff_ne]
        exact fun e => nd.1 (List.mem_map.mpr ⟨p, hp, e.symm⟩)
      rw [List.filter_cons, ne]
      exact ih nd.2 hp
theorem noTwice_of {sc : Scope} (M : Nat) (h : dist M sc.names 0 = true) : noTwice sc = true := by
  unfold noTwice
  rw [List.all_eq_true]
  rintro ⟨n, k⟩ hp
  have := once (dist_ok _ _ h).2 hp
  simp only [this]
theorem tables_of {p : Program} (hm : p.modules = []) (hp : p.parses = []) (hh : p.harvested = []) (nt : noTwice p.main.scope = true) (told : wSs gather p.main.scope ⟨p.main.scope, [], [], [], none⟩ p.main.scope (p.main.body.drop 0) = []) (b : wSs holds p.main.scope ⟨p.main.scope, [], [], [], none⟩ p.main.scope (p.main.body.drop 0) = true) : p.tablesWhole = true := by
  rw [List.drop_zero] at told b
  unfold Program.tablesWhole wProgram wModule
  rw [hm, hp, hh, told]
  simp only [Alg.all, List.map_nil, List.foldr_cons, List.foldr_nil]
  rw [b]
  simp only [holds, nt]
  rfl
/-- a walk that asks names only -/
def mA (f : Scope → Str → Bool) : Alg Bool := ⟨fun sc n _ => f sc n, fun _ _ _ _ => true, fun _ => true, true, false, fun a b => a && b⟩
theorem meet_of {f : Scope → Str → Bool} {p : Program} {body : List Stmt} (told : wSs gather p.main.scope ⟨p.main.scope, [], [], [], none⟩ p.main.scope (body.drop 0) = []) (b : wSs (mA f) p.main.scope ⟨p.main.scope, [], [], [], none⟩ p.main.scope (body.drop 0) = true) : namesMeet p body f = true := by
  rw [List.drop_zero] at told b
  unfold mA at b
  unfold namesMeet wModule
  simp only [told, Alg.all, List.foldr_cons, List.foldr_nil, b, Bool.and_true]
def resF (p : Program) (sc : Scope) (n : Str) : Bool := match sc.names.lookup n with
    | some .globalImplicit | some .globalExplicit => p.boundNames.contains n || n == ("__name__" : Str) || n == ("__debug__" : Str) || (builtinNamed n && !worldNames.contains n && !n.opensWith "__")
    | _ => true
theorem resolve_of {p : Program} (h : namesMeet p p.main.body (resF p) = true) : namesResolve p = true := h
theorem reads_of {p : Program} {body : List Stmt} {n : Str} (h : namesMeet p body (fun sc x => x != n || !(sc.names.lookup x == some .globalImplicit || sc.names.lookup x == some .globalExplicit)) = true) : readsOut p body n = false := by
  unfold readsOut
  rw [h]
  rfl
theorem roads_of {p : Program} (hs : (!(importedModules p.main.body).all cThrough.contains) = false) (r1 : readsOut p p.main.body "vars" = false) (r2 : readsOut p p.main.body "dir" = false) (r3 : readsOut p p.main.body "locals" = false) (h : noRoadLSs { strict := false, foot := none, bare := [] } (p.main.body.drop 0) = true) :
    noRoadLSs { strict := !(importedModules p.main.body).all cThrough.contains, foot := none, bare := (["vars", "dir", "locals"] : List Str).filter (readsOut p p.main.body) } p.main.body = true := by
  rw [List.drop_zero] at h
  rw [hs]
  simp only [List.filter_cons, r1, r2, r3, List.filter_nil]
  exact h
/-- the keys are names of the text, in its order -/
def subl (keys bound : List Str) : Bool := match keys, bound with
  | [], _ => true
  | _ :: _, [] => false
  | k :: ks, b :: bs => if k == b then subl ks bs else subl (k :: ks) bs
theorem subl_ok : ∀ (bound keys : List Str), subl keys bound = true → ∀ k ∈ keys, k ∈ bound
  | bound, [], _, k, hk => (nomatch hk)
  | [], x :: ks, h, k, hk => by
    unfold subl at h
    cases h
  | b :: bs, x :: ks, h, k, hk => by
    unfold subl at h
    cases e : x == b with
    | true =>
      rw [e, if_pos rfl] at h
      rcases List.mem_cons.mp hk with rfl | hk
      · rw [eq_of_beq e]
        exact List.mem_cons_self
      · exact List.mem_cons_of_mem _ (subl_ok bs ks h k hk)
    | false =>
      rw [e, if_neg (by decide)] at h
      exact List.mem_cons_of_mem _ (subl_ok bs (x :: ks) h k hk)
theorem nb_of {p : Program} {h : Heap} (j : Nat) (x : (h.isNs mainGlobals && ((h.nsKeys mainGlobals).take j).all (fun k => startupNames.contains k) && subl ((h.nsKeys mainGlobals).drop j) p.boundNames) = true) : namesBound p h = true := by
  rw [Bool.and_eq_true, Bool.and_eq_true] at x
  obtain ⟨⟨h1, h2⟩, h3⟩ := x
  unfold namesBound
  rw [h1, Bool.true_and, List.all_eq_true]
  intro k hk
  rw [← List.take_append_drop j (h.nsKeys mainGlobals)] at hk
  rw [Bool.or_eq_true]
  rcases List.mem_append.mp hk with c | c
  · exact .inl (List.all_eq_true.mp h2 k c)
  · exact .inr (List.contains_iff_mem.mpr (subl_ok _ _ h3 k c))
end HB

set_option Elab.async false
set_option linter.all false
set_option maxRecDepth 100000
set_option maxHeartbeats 0
namespace Z
noncomputable section
open PySem PySem.W PySem.Calls PyProof.Rows L2 HandSHeadRun
abbrev RX : OpenRow := OpenLaw.row PySem.Challenge.rw_trellis_k34_chordal_graphs
abbrev qV : Program := view RX.prog [350]
def names0 : List PySem.Str := ["__name__", "TrellisError", "BadGraph", "BadQuestion", "is_integer", "is_tuple", "is_headed", "is_vertex", "are_vertices", "is_row", "is_order", "is_set", "is_ascending", "is_pair", "is_edge", "are_edges", "are_edges_of", "is_direction", "neighbour_lists", "neighbour_masks", "masks_behind", "is_clique", "mask_of", "members_of", "size_of", "first_of", "near_of", "parts_of", "_connected_to", "merged"]
def names1 : List PySem.Str := ["joined", "has", "full_mask", "is_within", "MOST_VERTICES", "is_size", "is_graph", "graph_of", "edge_of", "neighbours", "are_neighbours", "inside", "_edges_inside", "components", "_reached", "is_connected", "complement", "induced", "renamed", "shortest_path", "reached", "reached_by", "way_to", "searched", "found_cycle", "closed_way", "parted_ways", "is_path", "is_cycle", "_are_steps"]
def names2 : List PySem.Str := ["is_forest", "_top", "is_spanning_tree", "find_hole", "_path_past", "clique_order", "_tied", "forced", "forced_on", "direction_or_chain", "_chain", "chain_classes", "_direction", "_without", "class_paper", "_chordal_paper", "_comparability_paper", "_permutation_paper", "_by_arrows", "_arrows_to", "_interval_paper", "_intervals", "_asteroid", "_parts_past", "_passing", "faces", "_arrows", "_walk", "_arrow_behind", "blocks"]
def names3 : List PySem.Str := ["BlockSearch", "_without_edges_of", "cut_vertices", "FIVE", "THREE", "FOUR", "TWO", "is_drawing_paper", "_is_rotation", "_is_plane", "_is_part_plane", "_do_edges_cross", "_cross", "_contains", "_joins", "drawn_rotation", "_rotation_of_block", "_rotation_of_faces", "_row_around", "drawn_faces", "_drawn_along", "_next_piece", "_pieces", "_path_through", "_parted", "drawing_paper", "_planar_paper", "_outerplanar_paper", "_order_around", "_least_graph"]
def names4 : List PySem.Str := ["_ways_between_corners", "_ways_from", "_corners_of", "_paths", "paths_decide_drawings", "mask_within", "_least_sets", "_search", "_needed_apart", "_may_suffice", "_smallest", "is_decomposition", "_are_bags", "_are_links", "_is_link", "_holds_edges", "_is_together", "width_of", "from_order", "_rows_behind", "is_bramble", "narrow_order", "_begun", "_harmless", "_is_nearly_clique", "taken_out", "_is_tight", "is_tight_narrow", "_greedy_order", "_lightest"]
def names5 : List PySem.Str := ["NarrowSearch", "found_bramble", "_cut_to", "_union_of", "_shrunk", "_group_of", "_bramble_of_small", "_flaps", "_ways_to_win", "_won", "UNION", "JOIN", "PRIME", "is_module", "least_module", "_least", "_parting", "parting_modules", "module_tree", "_tree", "_both_tables", "_largest_inside", "_prime_parts", "tree_graph", "is_tree", "_is_node", "_vertices_and_pairs", "part_paper", "_cograph_paper", "_bare_path"]
def names6 : List PySem.Str := ["_prime_paper", "_taken_in", "parting_decide_parts", "_width_paper", "largest_matching", "barrier", "_mates", "MateSearch", "Pairing", "degrees_near", "search_paper", "_matching_paper", "_colours_paper", "_clique", "_pair_to_split", "_colour_tasks", "_independent_paper", "_cover", "_isomorphic_paper", "packed", "_parts", "chain_packing", "_in_the_way", "_moved", "sparse_paper", "_degenerate_paper", "_loose", "_indegree_paper", "_tails", "_turned"]
def names7 : List PySem.Str := ["_forests_paper", "_trees_paper", "disjoint_paths", "_ways", "_changed", "paths_disjoint", "_cut", "walk_paper", "_connected_paper", "_bipartite_paper", "_forest_paper", "_block_paper", "_ears", "_next_ear", "_step_out", "_linked_paper", "KINDS", "NUMBER_KINDS", "is_question", "_are_ends", "_is_number", "decide", "is_class_paper", "_are_cliques_behind", "_is_hole", "_is_interval", "_meet_right", "_meet", "_is_asteroid", "_leads_past"]
def names8 : List PySem.Str := ["_leads_on", "_is_chain", "_forces", "_is_chain_of_either", "_differ_right", "is_part_paper", "_has_no_shortcut", "_are_all_split", "_takes_in_all", "is_search_paper", "_are_colours", "_do_neighbours_differ", "_is_colour_search", "_is_clique_among", "_is_split", "_is_set_search", "_is_cover", "_have_no_common_end", "_most_matched", "_sizes", "_is_pairing_search", "_searches_tried", "_is_dead_end", "_degree", "_many_near", "is_sparse_paper", "are_few_behind", "is_tight_check_sparse", "_most_arrows_to_one", "_are_forests"]
def names9 : List PySem.Str := ["_are_separate_trees", "_is_partition", "_edges_between", "is_walk_paper", "_is_separation", "_parts_all_ends", "_is_built_of_ears", "_is_ear", "_are_separate_paths", "_is_path_between", "_is_cut", "check", "_is_right", "_law_pool", "_law_spread", "_law_draw", "_law_is_int", "_law_distinct", "_law_pairs", "_law_of", "_law_met", "_law_near", "_law_shuffled", "_law_moved", "_law_other", "_law_random_graph", "_law_interval_rows", "_law_interval_graph", "_law_turned_graph", "_law_ordered_graph"]
def names10 : List PySem.Str := ["_law_clique_graph", "_law_drawn_tree", "_law_leaves", "_law_tree_pairs", "_law_graph", "_law_subsets", "_law_is_row", "_law_is_way", "_law_bare", "_law_is_hole", "_law_ring_of", "_law_holes", "_law_chordal_right", "_law_ringed"]
def names : List PySem.Str := names0 ++ (names1 ++ (names2 ++ (names3 ++ (names4 ++ (names5 ++ (names6 ++ (names7 ++ (names8 ++ (names9 ++ (names10))))))))))
abbrev mX : Nat := 20000 + (20000 + (20000 + (20000 + (20000 + (20000)))))
def lastX (w : World) (os : OsState) : SharedT := HT.gX (HT.sX351 w os)
theorem lastRun (w : World) (os : OsState) : goF (HT.stX w) 11 (bootAnn w) mX (HT.bootX w os) (topStub HT.PX) = some (lastX w os) := HP.goB_goF (HT.piece60 w os) (HP.goB_goF (HT.piece120 w os) (HP.goB_goF (HT.piece180 w os) (HP.goB_goF (HT.piece244 w os) (HP.goB_goF (HT.piece304 w os) (HT.pieceE w os)))))
theorem endGo (w : World) (os : OsState) (M : Nat) : endF (stepQ (denQ tabQ) RX.prog w) M RX.prog w os = goF (HT.stX w) 11 (bootAnn w) M (HT.bootX w os) (topStub HT.PX) := by kernel_rfl
theorem endRun (w : World) (os : OsState) : endF (stepQ (denQ tabQ) RX.prog w) mX RX.prog w os = some (lastX w os) := (endGo w os mX).trans (lastRun w os)
theorem all4 (w : World) (os : OsState) : (staticsOk (importedModules RX.prog.main.body) (boot_heap w.params) (lastX w os).abs.heap && gensDone (lastX w os).abs && laidKept (boot_heap w.params) (lastX w os).abs.heap && ((lastX w os).abs.heap.isNs mainGlobals && (((lastX w os).abs.heap.nsKeys mainGlobals).take 9).all (fun k => startupNames.contains k) && HB.subl (((lastX w os).abs.heap.nsKeys mainGlobals).drop 9) RX.prog.boundNames)) = true := by kernel_rfl
theorem looks1 (w : World) (os : OsState) : staticsOk (importedModules RX.prog.main.body) (boot_heap w.params) (lastX w os).abs.heap = true := (Bool.and_eq_true_iff.mp (Bool.and_eq_true_iff.mp (Bool.and_eq_true_iff.mp (all4 w os)).1).1).1
theorem looks2 (w : World) (os : OsState) : namesBound RX.prog (lastX w os).abs.heap = true := HB.nb_of 9 (Bool.and_eq_true_iff.mp (all4 w os)).2
theorem looks3 (w : World) (os : OsState) : gensDone (lastX w os).abs = true := (Bool.and_eq_true_iff.mp (Bool.and_eq_true_iff.mp (Bool.and_eq_true_iff.mp (all4 w os)).1).1).2
theorem looks4 (w : World) (os : OsState) : laidKept (boot_heap w.params) (lastX w os).abs.heap = true := (Bool.and_eq_true_iff.mp (Bool.and_eq_true_iff.mp (all4 w os)).1).2
theorem seenX (w : World) (os : OsState) : HandSHeadRun.seenQ qV names (importedModules RX.prog.main.body) (fun s => xlAt qV [] s && recOk RX.toRowW.records s) (lastX w os).abs = openGood qV names := by kernel_rfl
theorem toldX (w : World) (os : OsState) : obX (lastX w os) = hkX.val w := by kernel_rfl
theorem runX (w : World) : RunEq RX qV hkX obX mX names w := HP.runEq_of (lastX w) (endRun w) (looks1 w) (looks2 w) (looks3 w) (looks4 w) (seenX w) (toldX w)
end

end Z
set_option Elab.async false
set_option linter.all false
set_option maxRecDepth 100000
set_option maxHeartbeats 0
namespace HS
open PySem PySem.W PySem.Calls PyProof.Rows
abbrev LX : OpenLaw := PySem.Challenge.rw_trellis_k34_chordal_graphs
abbrev PX : Program := (OpenLaw.row PySem.Challenge.rw_trellis_k34_chordal_graphs).prog
abbrev cX : TablesWhole.Ctx := ⟨PX.main.scope, [], [], [], none⟩
theorem noT : TablesWhole.noTwice PX.main.scope = true := HB.noTwice_of 60017 (by kernel_rfl)
theorem over : PX.main.body.drop 360 = [] := by kernel_rfl
theorem told0 : TablesWhole.wSs TablesWhole.gather PX.main.scope cX PX.main.scope ((PX.main.body.drop 0).take 60) = [] := by kernel_rfl
theorem told60 : TablesWhole.wSs TablesWhole.gather PX.main.scope cX PX.main.scope ((PX.main.body.drop 60).take 60) = [] := by kernel_rfl
theorem told120 : TablesWhole.wSs TablesWhole.gather PX.main.scope cX PX.main.scope ((PX.main.body.drop 120).take 60) = [] := by kernel_rfl
theorem told180 : TablesWhole.wSs TablesWhole.gather PX.main.scope cX PX.main.scope ((PX.main.body.drop 180).take 60) = [] := by kernel_rfl
theorem told240 : TablesWhole.wSs TablesWhole.gather PX.main.scope cX PX.main.scope ((PX.main.body.drop 240).take 60) = [] := by kernel_rfl
theorem told300 : TablesWhole.wSs TablesWhole.gather PX.main.scope cX PX.main.scope ((PX.main.body.drop 300).take 60) = [] := by kernel_rfl
theorem told : TablesWhole.wSs TablesWhole.gather PX.main.scope cX PX.main.scope (PX.main.body.drop 0) = [] := HB.cut (P := fun l => TablesWhole.wSs TablesWhole.gather PX.main.scope cX PX.main.scope l = []) (fun l m h1 h2 => HB.wSs_app (fun _ _ => rfl) _ _ _ l m h1 h2) 0 60 told0 (HB.cut (P := fun l => TablesWhole.wSs TablesWhole.gather PX.main.scope cX PX.main.scope l = []) (fun l m h1 h2 => HB.wSs_app (fun _ _ => rfl) _ _ _ l m h1 h2) 60 60 told60 (HB.cut (P := fun l => TablesWhole.wSs TablesWhole.gather PX.main.scope cX PX.main.scope l = []) (fun l m h1 h2 => HB.wSs_app (fun _ _ => rfl) _ _ _ l m h1 h2) 120 60 told120 (HB.cut (P := fun l => TablesWhole.wSs TablesWhole.gather PX.main.scope cX PX.main.scope l = []) (fun l m h1 h2 => HB.wSs_app (fun _ _ => rfl) _ _ _ l m h1 h2) 180 60 told180 (HB.cut (P := fun l => TablesWhole.wSs TablesWhole.gather PX.main.scope cX PX.main.scope l = []) (fun l m h1 h2 => HB.wSs_app (fun _ _ => rfl) _ _ _ l m h1 h2) 240 60 told240 (HB.cut (P := fun l => TablesWhole.wSs TablesWhole.gather PX.main.scope cX PX.main.scope l = []) (fun l m h1 h2 => HB.wSs_app (fun _ _ => rfl) _ _ _ l m h1 h2) 300 60 told300 ((by rw [over]; rfl)))))))
theorem body0 : TablesWhole.wSs TablesWhole.holds PX.main.scope cX PX.main.scope ((PX.main.body.drop 0).take 60) = true := by kernel_rfl
theorem body60 : TablesWhole.wSs TablesWhole.holds PX.main.scope cX PX.main.scope ((PX.main.body.drop 60).take 60) = true := by kernel_rfl
theorem body120 : TablesWhole.wSs TablesWhole.holds PX.main.scope cX PX.main.scope ((PX.main.body.drop 120).take 60) = true := by kernel_rfl
theorem body180 : TablesWhole.wSs TablesWhole.holds PX.main.scope cX PX.main.scope ((PX.main.body.drop 180).take 60) = true := by kernel_rfl
theorem body240 : TablesWhole.wSs TablesWhole.holds PX.main.scope cX PX.main.scope ((PX.main.body.drop 240).take 60) = true := by kernel_rfl
theorem body300 : TablesWhole.wSs TablesWhole.holds PX.main.scope cX PX.main.scope ((PX.main.body.drop 300).take 60) = true := by kernel_rfl
theorem body : TablesWhole.wSs TablesWhole.holds PX.main.scope cX PX.main.scope (PX.main.body.drop 0) = true := HB.cut (P := fun l => TablesWhole.wSs TablesWhole.holds PX.main.scope cX PX.main.scope l = true) (fun l m h1 h2 => (HB.wSs_and rfl (fun _ _ => rfl) _ _ _ l m h1 h2)) 0 60 body0 (HB.cut (P := fun l => TablesWhole.wSs TablesWhole.holds PX.main.scope cX PX.main.scope l = true) (fun l m h1 h2 => (HB.wSs_and rfl (fun _ _ => rfl) _ _ _ l m h1 h2)) 60 60 body60 (HB.cut (P := fun l => TablesWhole.wSs TablesWhole.holds PX.main.scope cX PX.main.scope l = true) (fun l m h1 h2 => (HB.wSs_and rfl (fun _ _ => rfl) _ _ _ l m h1 h2)) 120 60 body120 (HB.cut (P := fun l => TablesWhole.wSs TablesWhole.holds PX.main.scope cX PX.main.scope l = true) (fun l m h1 h2 => (HB.wSs_and rfl (fun _ _ => rfl) _ _ _ l m h1 h2)) 180 60 body180 (HB.cut (P := fun l => TablesWhole.wSs TablesWhole.holds PX.main.scope cX PX.main.scope l = true) (fun l m h1 h2 => (HB.wSs_and rfl (fun _ _ => rfl) _ _ _ l m h1 h2)) 240 60 body240 (HB.cut (P := fun l => TablesWhole.wSs TablesWhole.holds PX.main.scope cX PX.main.scope l = true) (fun l m h1 h2 => (HB.wSs_and rfl (fun _ _ => rfl) _ _ _ l m h1 h2)) 300 60 body300 ((by rw [over]; rfl)))))))
theorem reso0 : TablesWhole.wSs (HB.mA (HB.resF PX)) PX.main.scope cX PX.main.scope ((PX.main.body.drop 0).take 60) = true := by unfold HB.mA HB.resF; k_qdec
theorem reso60 : TablesWhole.wSs (HB.mA (HB.resF PX)) PX.main.scope cX PX.main.scope ((PX.main.body.drop 60).take 60) = true := by unfold HB.mA HB.resF; k_qdec
theorem reso120 : TablesWhole.wSs (HB.mA (HB.resF PX)) PX.main.scope cX PX.main.scope ((PX.main.body.drop 120).take 60) = true := by unfold HB.mA HB.resF; k_qdec
theorem reso180 : TablesWhole.wSs (HB.mA (HB.resF PX)) PX.main.scope cX PX.main.scope ((PX.main.body.drop 180).take 60) = true := by unfold HB.mA HB.resF; k_qdec
theorem reso240 : TablesWhole.wSs (HB.mA (HB.resF PX)) PX.main.scope cX PX.main.scope ((PX.main.body.drop 240).take 60) = true := by unfold HB.mA HB.resF; k_qdec
theorem reso300 : TablesWhole.wSs (HB.mA (HB.resF PX)) PX.main.scope cX PX.main.scope ((PX.main.body.drop 300).take 60) = true := by unfold HB.mA HB.resF; k_qdec
theorem reso : TablesWhole.wSs (HB.mA (HB.resF PX)) PX.main.scope cX PX.main.scope (PX.main.body.drop 0) = true := HB.cut (P := fun l => TablesWhole.wSs (HB.mA (HB.resF PX)) PX.main.scope cX PX.main.scope l = true) (fun l m h1 h2 => (HB.wSs_and rfl (fun _ _ => rfl) _ _ _ l m h1 h2)) 0 60 reso0 (HB.cut (P := fun l => TablesWhole.wSs (HB.mA (HB.resF PX)) PX.main.scope cX PX.main.scope l = true) (fun l m h1 h2 => (HB.wSs_and rfl (fun _ _ => rfl) _ _ _ l m h1 h2)) 60 60 reso60 (HB.cut (P := fun l => TablesWhole.wSs (HB.mA (HB.resF PX)) PX.main.scope cX PX.main.scope l = true) (fun l m h1 h2 => (HB.wSs_and rfl (fun _ _ => rfl) _ _ _ l m h1 h2)) 120 60 reso120 (HB.cut (P := fun l => TablesWhole.wSs (HB.mA (HB.resF PX)) PX.main.scope cX PX.main.scope l = true) (fun l m h1 h2 => (HB.wSs_and rfl (fun _ _ => rfl) _ _ _ l m h1 h2)) 180 60 reso180 (HB.cut (P := fun l => TablesWhole.wSs (HB.mA (HB.resF PX)) PX.main.scope cX PX.main.scope l = true) (fun l m h1 h2 => (HB.wSs_and rfl (fun _ _ => rfl) _ _ _ l m h1 h2)) 240 60 reso240 (HB.cut (P := fun l => TablesWhole.wSs (HB.mA (HB.resF PX)) PX.main.scope cX PX.main.scope l = true) (fun l m h1 h2 => (HB.wSs_and rfl (fun _ _ => rfl) _ _ _ l m h1 h2)) 300 60 reso300 ((by rw [over]; rfl)))))))
theorem attr0 : TablesWhole.wSs (HB.mA (fun _ n => attrL n)) PX.main.scope cX PX.main.scope ((PX.main.body.drop 0).take 60) = true := by unfold HB.mA; k_qdec
theorem attr60 : TablesWhole.wSs (HB.mA (fun _ n => attrL n)) PX.main.scope cX PX.main.scope ((PX.main.body.drop 60).take 60) = true := by unfold HB.mA; k_qdec
theorem attr120 : TablesWhole.wSs (HB.mA (fun _ n => attrL n)) PX.main.scope cX PX.main.scope ((PX.main.body.drop 120).take 60) = true := by unfold HB.mA; k_qdec
theorem attr180 : TablesWhole.wSs (HB.mA (fun _ n => attrL n)) PX.main.scope cX PX.main.scope ((PX.main.body.drop 180).take 60) = true := by unfold HB.mA; k_qdec
theorem attr240 : TablesWhole.wSs (HB.mA (fun _ n => attrL n)) PX.main.scope cX PX.main.scope ((PX.main.body.drop 240).take 60) = true := by unfold HB.mA; k_qdec
theorem attr300 : TablesWhole.wSs (HB.mA (fun _ n => attrL n)) PX.main.scope cX PX.main.scope ((PX.main.body.drop 300).take 60) = true := by unfold HB.mA; k_qdec
theorem attr : TablesWhole.wSs (HB.mA (fun _ n => attrL n)) PX.main.scope cX PX.main.scope (PX.main.body.drop 0) = true := HB.cut (P := fun l => TablesWhole.wSs (HB.mA (fun _ n => attrL n)) PX.main.scope cX PX.main.scope l = true) (fun l m h1 h2 => (HB.wSs_and rfl (fun _ _ => rfl) _ _ _ l m h1 h2)) 0 60 attr0 (HB.cut (P := fun l => TablesWhole.wSs (HB.mA (fun _ n => attrL n)) PX.main.scope cX PX.main.scope l = true) (fun l m h1 h2 => (HB.wSs_and rfl (fun _ _ => rfl) _ _ _ l m h1 h2)) 60 60 attr60 (HB.cut (P := fun l => TablesWhole.wSs (HB.mA (fun _ n => attrL n)) PX.main.scope cX PX.main.scope l = true) (fun l m h1 h2 => (HB.wSs_and rfl (fun _ _ => rfl) _ _ _ l m h1 h2)) 120 60 attr120 (HB.cut (P := fun l => TablesWhole.wSs (HB.mA (fun _ n => attrL n)) PX.main.scope cX PX.main.scope l = true) (fun l m h1 h2 => (HB.wSs_and rfl (fun _ _ => rfl) _ _ _ l m h1 h2)) 180 60 attr180 (HB.cut (P := fun l => TablesWhole.wSs (HB.mA (fun _ n => attrL n)) PX.main.scope cX PX.main.scope l = true) (fun l m h1 h2 => (HB.wSs_and rfl (fun _ _ => rfl) _ _ _ l m h1 h2)) 240 60 attr240 (HB.cut (P := fun l => TablesWhole.wSs (HB.mA (fun _ n => attrL n)) PX.main.scope cX PX.main.scope l = true) (fun l m h1 h2 => (HB.wSs_and rfl (fun _ _ => rfl) _ _ _ l m h1 h2)) 300 60 attr300 ((by rw [over]; rfl)))))))
theorem readvars0 : TablesWhole.wSs (HB.mA (fun sc x => x != "vars" || !(sc.names.lookup x == some .globalImplicit || sc.names.lookup x == some .globalExplicit))) PX.main.scope cX PX.main.scope ((PX.main.body.drop 0).take 60) = true := by unfold HB.mA; k_qdec
theorem readvars60 : TablesWhole.wSs (HB.mA (fun sc x => x != "vars" || !(sc.names.lookup x == some .globalImplicit || sc.names.lookup x == some .globalExplicit))) PX.main.scope cX PX.main.scope ((PX.main.body.drop 60).take 60) = true := by unfold HB.mA; k_qdec
theorem readvars120 : TablesWhole.wSs (HB.mA (fun sc x => x != "vars" || !(sc.names.lookup x == some .globalImplicit || sc.names.lookup x == some .globalExplicit))) PX.main.scope cX PX.main.scope ((PX.main.body.drop 120).take 60) = true := by unfold HB.mA; k_qdec
theorem readvars180 : TablesWhole.wSs (HB.mA (fun sc x => x != "vars" || !(sc.names.lookup x == some .globalImplicit || sc.names.lookup x == some .globalExplicit))) PX.main.scope cX PX.main.scope ((PX.main.body.drop 180).take 60) = true := by unfold HB.mA; k_qdec
theorem readvars240 : TablesWhole.wSs (HB.mA (fun sc x => x != "vars" || !(sc.names.lookup x == some .globalImplicit || sc.names.lookup x == some .globalExplicit))) PX.main.scope cX PX.main.scope ((PX.main.body.drop 240).take 60) = true := by unfold HB.mA; k_qdec
theorem readvars300 : TablesWhole.wSs (HB.mA (fun sc x => x != "vars" || !(sc.names.lookup x == some .globalImplicit || sc.names.lookup x == some .globalExplicit))) PX.main.scope cX PX.main.scope ((PX.main.body.drop 300).take 60) = true := by unfold HB.mA; k_qdec
theorem readvars : TablesWhole.wSs (HB.mA (fun sc x => x != "vars" || !(sc.names.lookup x == some .globalImplicit || sc.names.lookup x == some .globalExplicit))) PX.main.scope cX PX.main.scope (PX.main.body.drop 0) = true := HB.cut (P := fun l => TablesWhole.wSs (HB.mA (fun sc x => x != "vars" || !(sc.names.lookup x == some .globalImplicit || sc.names.lookup x == some .globalExplicit))) PX.main.scope cX PX.main.scope l = true) (fun l m h1 h2 => (HB.wSs_and rfl (fun _ _ => rfl) _ _ _ l m h1 h2)) 0 60 readvars0 (HB.cut (P := fun l => TablesWhole.wSs (HB.mA (fun sc x => x != "vars" || !(sc.names.lookup x == some .globalImplicit || sc.names.lookup x == some .globalExplicit))) PX.main.scope cX PX.main.scope l = true) (fun l m h1 h2 => (HB.wSs_and rfl (fun _ _ => rfl) _ _ _ l m h1 h2)) 60 60 readvars60 (HB.cut (P := fun l => TablesWhole.wSs (HB.mA (fun sc x => x != "vars" || !(sc.names.lookup x == some .globalImplicit || sc.names.lookup x == some .globalExplicit))) PX.main.scope cX PX.main.scope l = true) (fun l m h1 h2 => (HB.wSs_and rfl (fun _ _ => rfl) _ _ _ l m h1 h2)) 120 60 readvars120 (HB.cut (P := fun l => TablesWhole.wSs (HB.mA (fun sc x => x != "vars" || !(sc.names.lookup x == some .globalImplicit || sc.names.lookup x == some .globalExplicit))) PX.main.scope cX PX.main.scope l = true) (fun l m h1 h2 => (HB.wSs_and rfl (fun _ _ => rfl) _ _ _ l m h1 h2)) 180 60 readvars180 (HB.cut (P := fun l => TablesWhole.wSs (HB.mA (fun sc x => x != "vars" || !(sc.names.lookup x == some .globalImplicit || sc.names.lookup x == some .globalExplicit))) PX.main.scope cX PX.main.scope l = true) (fun l m h1 h2 => (HB.wSs_and rfl (fun _ _ => rfl) _ _ _ l m h1 h2)) 240 60 readvars240 (HB.cut (P := fun l => TablesWhole.wSs (HB.mA (fun sc x => x != "vars" || !(sc.names.lookup x == some .globalImplicit || sc.names.lookup x == some .globalExplicit))) PX.main.scope cX PX.main.scope l = true) (fun l m h1 h2 => (HB.wSs_and rfl (fun _ _ => rfl) _ _ _ l m h1 h2)) 300 60 readvars300 ((by rw [over]; rfl)))))))
theorem readdir0 : TablesWhole.wSs (HB.mA (fun sc x => x != "dir" || !(sc.names.lookup x == some .globalImplicit || sc.names.lookup x == some .globalExplicit))) PX.main.scope cX PX.main.scope ((PX.main.body.drop 0).take 60) = true := by unfold HB.mA; k_qdec
theorem readdir60 : TablesWhole.wSs (HB.mA (fun sc x => x != "dir" || !(sc.names.lookup x == some .globalImplicit || sc.names.lookup x == some .globalExplicit))) PX.main.scope cX PX.main.scope ((PX.main.body.drop 60).take 60) = true := by unfold HB.mA; k_qdec
theorem readdir120 : TablesWhole.wSs (HB.mA (fun sc x => x != "dir" || !(sc.names.lookup x == some .globalImplicit || sc.names.lookup x == some .globalExplicit))) PX.main.scope cX PX.main.scope ((PX.main.body.drop 120).take 60) = true := by unfold HB.mA; k_qdec
theorem readdir180 : TablesWhole.wSs (HB.mA (fun sc x => x != "dir" || !(sc.names.lookup x == some .globalImplicit || sc.names.lookup x == some .globalExplicit))) PX.main.scope cX PX.main.scope ((PX.main.body.drop 180).take 60) = true := by unfold HB.mA; k_qdec
theorem readdir240 : TablesWhole.wSs (HB.mA (fun sc x => x != "dir" || !(sc.names.lookup x == some .globalImplicit || sc.names.lookup x == some .globalExplicit))) PX.main.scope cX PX.main.scope ((PX.main.body.drop 240).take 60) = true := by unfold HB.mA; k_qdec
theorem readdir300 : TablesWhole.wSs (HB.mA (fun sc x => x != "dir" || !(sc.names.lookup x == some .globalImplicit || sc.names.lookup x == some .globalExplicit))) PX.main.scope cX PX.main.scope ((PX.main.body.drop 300).take 60) = true := by unfold HB.mA; k_qdec
theorem readdir : TablesWhole.wSs (HB.mA (fun sc x => x != "dir" || !(sc.names.lookup x == some .globalImplicit || sc.names.lookup x == some .globalExplicit))) PX.main.scope cX PX.main.scope (PX.main.body.drop 0) = true := HB.cut (P := fun l => TablesWhole.wSs (HB.mA (fun sc x => x != "dir" || !(sc.names.lookup x == some .globalImplicit || sc.names.lookup x == some .globalExplicit))) PX.main.scope cX PX.main.scope l = true) (fun l m h1 h2 => (HB.wSs_and rfl (fun _ _ => rfl) _ _ _ l m h1 h2)) 0 60 readdir0 (HB.cut (P := fun l => TablesWhole.wSs (HB.mA (fun sc x => x != "dir" || !(sc.names.lookup x == some .globalImplicit || sc.names.lookup x == some .globalExplicit))) PX.main.scope cX PX.main.scope l = true) (fun l m h1 h2 => (HB.wSs_and rfl (fun _ _ => rfl) _ _ _ l m h1 h2)) 60 60 readdir60 (HB.cut (P := fun l => TablesWhole.wSs (HB.mA (fun sc x => x != "dir" || !(sc.names.lookup x == some .globalImplicit || sc.names.lookup x == some .globalExplicit))) PX.main.scope cX PX.main.scope l = true) (fun l m h1 h2 => (HB.wSs_and rfl (fun _ _ => rfl) _ _ _ l m h1 h2)) 120 60 readdir120 (HB.cut (P := fun l => TablesWhole.wSs (HB.mA (fun sc x => x != "dir" || !(sc.names.lookup x == some .globalImplicit || sc.names.lookup x == some .globalExplicit))) PX.main.scope cX PX.main.scope l = true) (fun l m h1 h2 => (HB.wSs_and rfl (fun _ _ => rfl) _ _ _ l m h1 h2)) 180 60 readdir180 (HB.cut (P := fun l => TablesWhole.wSs (HB.mA (fun sc x => x != "dir" || !(sc.names.lookup x == some .globalImplicit || sc.names.lookup x == some .globalExplicit))) PX.main.scope cX PX.main.scope l = true) (fun l m h1 h2 => (HB.wSs_and rfl (fun _ _ => rfl) _ _ _ l m h1 h2)) 240 60 readdir240 (HB.cut (P := fun l => TablesWhole.wSs (HB.mA (fun sc x => x != "dir" || !(sc.names.lookup x == some .globalImplicit || sc.names.lookup x == some .globalExplicit))) PX.main.scope cX PX.main.scope l = true) (fun l m h1 h2 => (HB.wSs_and rfl (fun _ _ => rfl) _ _ _ l m h1 h2)) 300 60 readdir300 ((by rw [over]; rfl)))))))
theorem readlocals0 : TablesWhole.wSs (HB.mA (fun sc x => x != "locals" || !(sc.names.lookup x == some .globalImplicit || sc.names.lookup x == some .globalExplicit))) PX.main.scope cX PX.main.scope ((PX.main.body.drop 0).take 60) = true := by unfold HB.mA; k_qdec
theorem readlocals60 : TablesWhole.wSs (HB.mA (fun sc x => x != "locals" || !(sc.names.lookup x == some .globalImplicit || sc.names.lookup x == some .globalExplicit))) PX.main.scope cX PX.main.scope ((PX.main.body.drop 60).take 60) = true := by unfold HB.mA; k_qdec
theorem readlocals120 : TablesWhole.wSs (HB.mA (fun sc x => x != "locals" || !(sc.names.lookup x == some .globalImplicit || sc.names.lookup x == some .globalExplicit))) PX.main.scope cX PX.main.scope ((PX.main.body.drop 120).take 60) = true := by unfold HB.mA; k_qdec
theorem readlocals180 : TablesWhole.wSs (HB.mA (fun sc x => x != "locals" || !(sc.names.lookup x == some .globalImplicit || sc.names.lookup x == some .globalExplicit))) PX.main.scope cX PX.main.scope ((PX.main.body.drop 180).take 60) = true := by unfold HB.mA; k_qdec
theorem readlocals240 : TablesWhole.wSs (HB.mA (fun sc x => x != "locals" || !(sc.names.lookup x == some .globalImplicit || sc.names.lookup x == some .globalExplicit))) PX.main.scope cX PX.main.scope ((PX.main.body.drop 240).take 60) = true := by unfold HB.mA; k_qdec
theorem readlocals300 : TablesWhole.wSs (HB.mA (fun sc x => x != "locals" || !(sc.names.lookup x == some .globalImplicit || sc.names.lookup x == some .globalExplicit))) PX.main.scope cX PX.main.scope ((PX.main.body.drop 300).take 60) = true := by unfold HB.mA; k_qdec
theorem readlocals : TablesWhole.wSs (HB.mA (fun sc x => x != "locals" || !(sc.names.lookup x == some .globalImplicit || sc.names.lookup x == some .globalExplicit))) PX.main.scope cX PX.main.scope (PX.main.body.drop 0) = true := HB.cut (P := fun l => TablesWhole.wSs (HB.mA (fun sc x => x != "locals" || !(sc.names.lookup x == some .globalImplicit || sc.names.lookup x == some .globalExplicit))) PX.main.scope cX PX.main.scope l = true) (fun l m h1 h2 => (HB.wSs_and rfl (fun _ _ => rfl) _ _ _ l m h1 h2)) 0 60 readlocals0 (HB.cut (P := fun l => TablesWhole.wSs (HB.mA (fun sc x => x != "locals" || !(sc.names.lookup x == some .globalImplicit || sc.names.lookup x == some .globalExplicit))) PX.main.scope cX PX.main.scope l = true) (fun l m h1 h2 => (HB.wSs_and rfl (fun _ _ => rfl) _ _ _ l m h1 h2)) 60 60 readlocals60 (HB.cut (P := fun l => TablesWhole.wSs (HB.mA (fun sc x => x != "locals" || !(sc.names.lookup x == some .globalImplicit || sc.names.lookup x == some .globalExplicit))) PX.main.scope cX PX.main.scope l = true) (fun l m h1 h2 => (HB.wSs_and rfl (fun _ _ => rfl) _ _ _ l m h1 h2)) 120 60 readlocals120 (HB.cut (P := fun l => TablesWhole.wSs (HB.mA (fun sc x => x != "locals" || !(sc.names.lookup x == some .globalImplicit || sc.names.lookup x == some .globalExplicit))) PX.main.scope cX PX.main.scope l = true) (fun l m h1 h2 => (HB.wSs_and rfl (fun _ _ => rfl) _ _ _ l m h1 h2)) 180 60 readlocals180 (HB.cut (P := fun l => TablesWhole.wSs (HB.mA (fun sc x => x != "locals" || !(sc.names.lookup x == some .globalImplicit || sc.names.lookup x == some .globalExplicit))) PX.main.scope cX PX.main.scope l = true) (fun l m h1 h2 => (HB.wSs_and rfl (fun _ _ => rfl) _ _ _ l m h1 h2)) 240 60 readlocals240 (HB.cut (P := fun l => TablesWhole.wSs (HB.mA (fun sc x => x != "locals" || !(sc.names.lookup x == some .globalImplicit || sc.names.lookup x == some .globalExplicit))) PX.main.scope cX PX.main.scope l = true) (fun l m h1 h2 => (HB.wSs_and rfl (fun _ _ => rfl) _ _ _ l m h1 h2)) 300 60 readlocals300 ((by rw [over]; rfl)))))))
theorem rdvars : readsOut PX PX.main.body "vars" = false := HB.reads_of (HB.meet_of told readvars)
theorem rddir : readsOut PX PX.main.body "dir" = false := HB.reads_of (HB.meet_of told readdir)
theorem rdlocals : readsOut PX PX.main.body "locals" = false := HB.reads_of (HB.meet_of told readlocals)
theorem strictX : (!(importedModules PX.main.body).all cThrough.contains) = false := by kernel_rfl
theorem road0 : noRoadLSs { strict := false, foot := none, bare := [] } ((PX.main.body.drop 0).take 60) = true := by k_qdec
theorem road60 : noRoadLSs { strict := false, foot := none, bare := [] } ((PX.main.body.drop 60).take 60) = true := by k_qdec
theorem road120 : noRoadLSs { strict := false, foot := none, bare := [] } ((PX.main.body.drop 120).take 60) = true := by k_qdec
theorem road180 : noRoadLSs { strict := false, foot := none, bare := [] } ((PX.main.body.drop 180).take 60) = true := by k_qdec
theorem road240 : noRoadLSs { strict := false, foot := none, bare := [] } ((PX.main.body.drop 240).take 60) = true := by k_qdec
theorem road300 : noRoadLSs { strict := false, foot := none, bare := [] } ((PX.main.body.drop 300).take 60) = true := by k_qdec
theorem road : noRoadLSs { strict := false, foot := none, bare := [] } (PX.main.body.drop 0) = true := HB.cut (P := fun l => noRoadLSs { strict := false, foot := none, bare := [] } l = true) (fun l m h1 h2 => (HB.roads_app l m h1 h2)) 0 60 road0 (HB.cut (P := fun l => noRoadLSs { strict := false, foot := none, bare := [] } l = true) (fun l m h1 h2 => (HB.roads_app l m h1 h2)) 60 60 road60 (HB.cut (P := fun l => noRoadLSs { strict := false, foot := none, bare := [] } l = true) (fun l m h1 h2 => (HB.roads_app l m h1 h2)) 120 60 road120 (HB.cut (P := fun l => noRoadLSs { strict := false, foot := none, bare := [] } l = true) (fun l m h1 h2 => (HB.roads_app l m h1 h2)) 180 60 road180 (HB.cut (P := fun l => noRoadLSs { strict := false, foot := none, bare := [] } l = true) (fun l m h1 h2 => (HB.roads_app l m h1 h2)) 240 60 road240 (HB.cut (P := fun l => noRoadLSs { strict := false, foot := none, bare := [] } l = true) (fun l m h1 h2 => (HB.roads_app l m h1 h2)) 300 60 road300 ((by rw [over]; rfl)))))))
theorem roadsX : noRoadLSs { strict := !(importedModules PX.main.body).all cThrough.contains, foot := none, bare := (["vars", "dir", "locals"] : List PySem.Str).filter (readsOut PX PX.main.body) } PX.main.body = true := HB.roads_of (p := PX) strictX rdvars rddir rdlocals road
theorem resX : namesResolve PX = true := HB.resolve_of (HB.meet_of told reso)
theorem attX : namesMeet PX PX.main.body (fun _ n => attrL n) = true := HB.meet_of told attr
theorem toldA : TablesWhole.wSs TablesWhole.gather PX.main.scope cX PX.main.scope (LX.above.drop 0) = [] := by
  have := told
  rw [List.drop_zero] at this ⊢
  exact HB.told_take (fun _ _ => rfl) rfl _ _ _ _ _ this
theorem overA : LX.above.drop 360 = [] := by kernel_rfl
theorem ownA0 : TablesWhole.wSs (HB.mA (fun _ n => !LX.own.contains n)) PX.main.scope cX PX.main.scope ((LX.above.drop 0).take 60) = true := by unfold HB.mA; k_qdec
theorem ownA60 : TablesWhole.wSs (HB.mA (fun _ n => !LX.own.contains n)) PX.main.scope cX PX.main.scope ((LX.above.drop 60).take 60) = true := by unfold HB.mA; k_qdec
theorem ownA120 : TablesWhole.wSs (HB.mA (fun _ n => !LX.own.contains n)) PX.main.scope cX PX.main.scope ((LX.above.drop 120).take 60) = true := by unfold HB.mA; k_qdec
theorem ownA180 : TablesWhole.wSs (HB.mA (fun _ n => !LX.own.contains n)) PX.main.scope cX PX.main.scope ((LX.above.drop 180).take 60) = true := by unfold HB.mA; k_qdec
theorem ownA240 : TablesWhole.wSs (HB.mA (fun _ n => !LX.own.contains n)) PX.main.scope cX PX.main.scope ((LX.above.drop 240).take 60) = true := by unfold HB.mA; k_qdec
theorem ownA300 : TablesWhole.wSs (HB.mA (fun _ n => !LX.own.contains n)) PX.main.scope cX PX.main.scope ((LX.above.drop 300).take 60) = true := by unfold HB.mA; k_qdec
theorem ownA : TablesWhole.wSs (HB.mA (fun _ n => !LX.own.contains n)) PX.main.scope cX PX.main.scope (LX.above.drop 0) = true := HB.cut (P := fun l => TablesWhole.wSs (HB.mA (fun _ n => !LX.own.contains n)) PX.main.scope cX PX.main.scope l = true) (fun l m h1 h2 => (HB.wSs_and rfl (fun _ _ => rfl) _ _ _ l m h1 h2)) 0 60 ownA0 (HB.cut (P := fun l => TablesWhole.wSs (HB.mA (fun _ n => !LX.own.contains n)) PX.main.scope cX PX.main.scope l = true) (fun l m h1 h2 => (HB.wSs_and rfl (fun _ _ => rfl) _ _ _ l m h1 h2)) 60 60 ownA60 (HB.cut (P := fun l => TablesWhole.wSs (HB.mA (fun _ n => !LX.own.contains n)) PX.main.scope cX PX.main.scope l = true) (fun l m h1 h2 => (HB.wSs_and rfl (fun _ _ => rfl) _ _ _ l m h1 h2)) 120 60 ownA120 (HB.cut (P := fun l => TablesWhole.wSs (HB.mA (fun _ n => !LX.own.contains n)) PX.main.scope cX PX.main.scope l = true) (fun l m h1 h2 => (HB.wSs_and rfl (fun _ _ => rfl) _ _ _ l m h1 h2)) 180 60 ownA180 (HB.cut (P := fun l => TablesWhole.wSs (HB.mA (fun _ n => !LX.own.contains n)) PX.main.scope cX PX.main.scope l = true) (fun l m h1 h2 => (HB.wSs_and rfl (fun _ _ => rfl) _ _ _ l m h1 h2)) 240 60 ownA240 (HB.cut (P := fun l => TablesWhole.wSs (HB.mA (fun _ n => !LX.own.contains n)) PX.main.scope cX PX.main.scope l = true) (fun l m h1 h2 => (HB.wSs_and rfl (fun _ _ => rfl) _ _ _ l m h1 h2)) 300 60 ownA300 ((by rw [overA]; rfl)))))))
theorem ownX : namesMeet PX LX.above (fun _ n => !LX.own.contains n) = true := HB.meet_of toldA ownA
theorem said : LX.wellSaid = true := by
  unfold OpenLaw.wellSaid OpenRow.wellSaid OpenRow.partSaid looksOpen
  simp only [Bool.and_eq_true]
  repeat' apply And.intro
  · kernel_rfl
  · k_qdec
  · exact resX
  · k_qdec
  · exact roadsX
  · exact attX
  · first | k_qdec | kernel_rfl
  · first | k_qdec | kernel_rfl
  · first | k_qdec | kernel_rfl
  · first | k_qdec | kernel_rfl
  · first | k_qdec | kernel_rfl
  · first | k_qdec | kernel_rfl
  · first | k_qdec | kernel_rfl
  · first | k_qdec | kernel_rfl
  · first | k_qdec | kernel_rfl
  · first | k_qdec | kernel_rfl
  · first | k_qdec | kernel_rfl
  · first | k_qdec | kernel_rfl
  · first | k_qdec | kernel_rfl
  · first | k_qdec | kernel_rfl
  · first | k_qdec | kernel_rfl
  · first | k_qdec | kernel_rfl
  · first | k_qdec | kernel_rfl
  · first | k_qdec | kernel_rfl
  · first | k_qdec | kernel_rfl
  · first | k_qdec | kernel_rfl
  · first | k_qdec | kernel_rfl
  · first | k_qdec | kernel_rfl
  · first | k_qdec | kernel_rfl
  · first | k_qdec | kernel_rfl
  · first | k_qdec | kernel_rfl
  · first | k_qdec | kernel_rfl
  · first | k_qdec | kernel_rfl
  · first | k_qdec | kernel_rfl
  · first | k_qdec | kernel_rfl
  · first | k_qdec | kernel_rfl
  · first | k_qdec | kernel_rfl
  · exact ownX
  · first | k_qdec | kernel_rfl
theorem bareX0 : PX.bare := ⟨rfl, rfl, rfl, rfl, rfl, HB.tables_of rfl rfl rfl noT told body⟩
theorem lawX0 (hyp : (OpenLaw.row PySem.Challenge.rw_trellis_k34_chordal_graphs).wellSaid = true → (OpenLaw.row PySem.Challenge.rw_trellis_k34_chordal_graphs).Holds) : PySem.Challenge.rw_trellis_k34_chordal_graphs.Holds := by
  w_on
  exact holds_law said hyp
theorem witX0 : (OpenLaw.row PySem.Challenge.rw_trellis_k34_chordal_graphs).toRowW.promised := by
  w_on; w_witness2
end HS
open PySem PySem.W PySem.Calls PyProof.Rows in
theorem HT.bareX : (OpenLaw.row PySem.Challenge.rw_trellis_k34_chordal_graphs).prog.bare := HS.bareX0
open PySem PySem.W PySem.Calls PyProof.Rows in
theorem HT.lawX (hyp : (OpenLaw.row PySem.Challenge.rw_trellis_k34_chordal_graphs).wellSaid = true → (OpenLaw.row PySem.Challenge.rw_trellis_k34_chordal_graphs).Holds) : PySem.Challenge.rw_trellis_k34_chordal_graphs.Holds := HS.lawX0 hyp
open PySem PySem.W PySem.Calls PyProof.Rows in
theorem HT.witX : (OpenLaw.row PySem.Challenge.rw_trellis_k34_chordal_graphs).toRowW.promised := HS.witX0

set_option Elab.async false
set_option linter.all false
set_option maxRecDepth 100000
set_option maxHeartbeats 4000000
namespace Z
open PySem PySem.Spec PyProof.Rows L2
set_option synthInstance.maxHeartbeats 0
set_option synthInstance.maxSize 100000
local macro_rules | `(tactic| walk_at "zs") => `(tactic| first | decide | omega | (dsimp only; omega) | (unfold CMul; omega) | (unfold CDivW; decide) | assumption)
local macro_rules | `(tactic| walk_at "zh") => `(tactic| first | assumption | with_reducible exact upd_same | ((with_reducible refine' (upd_ne ?zn).trans ?zr); (case zn => walk_at "zne"); (case zr => walk_at "zh")))
local macro_rules | `(tactic| walk_at "zw") => `(tactic| (simp only [wipe, List.map_cons, List.map_nil, List.set_cons_succ, List.set_cons_zero]; rfl))
local macro_rules | `(tactic| walk_at "zne") => `(tactic| first | assumption | (apply Ne.symm; assumption) | (refine' ne_of_none ?zh1 ?zh2; (case zh2 => assumption); (case zh1 => walk_at "zh")) | (apply Ne.symm; refine' ne_of_none ?zh1 ?zh2; (case zh2 => assumption); (case zh1 => walk_at "zh")))
local macro_rules | `(tactic| walk_at "zl") => `(tactic| first | assumption | exact Or.inl (Or.inl (by walk_at "zh")))
local macro_rules | `(tactic| walk_at "zat") => `(tactic| first | assumption | exact rfl | exact atI_nat (j := 0) (by rfl))
local macro_rules | `(tactic| walk_at "z1") => `(tactic| first
  | with_reducible refine r_seq ?_
  | with_reducible refine r_asg ?_
  | with_reducible refine r_name0 ?_
  | with_reducible refine r_name1 ?_
  | with_reducible refine r_name2 ?_
  | with_reducible refine r_name3 ?_
  | with_reducible refine r_name4 ?_
  | with_reducible refine r_name5 ?_
  | with_reducible refine r_name6 ?_
  | with_reducible refine r_name7 ?_
  | with_reducible refine r_name8 ?_
  | with_reducible refine r_name9 ?_
  | with_reducible refine r_name10 ?_
  | with_reducible refine r_name11 ?_
  | with_reducible refine r_name12 ?_
  | with_reducible refine r_name13 ?_
  | with_reducible refine r_name14 ?_
  | with_reducible refine r_name15 ?_
  | with_reducible refine r_name16 ?_
  | with_reducible refine r_name17 ?_
  | with_reducible refine r_name18 ?_
  | with_reducible refine r_name19 ?_
  | ((with_reducible show tVar _ _ _ _); refine r_var rfl ?_)
  | with_reducible refine r_c ?_
  | with_reducible refine r_op ?_
  | with_reducible refine r_i0 ?_
  | with_reducible refine r_eqI ?_
  | with_reducible refine r_neI ?_
  | with_reducible refine r_i (by walk_at "zs") ?_
  | with_reducible refine r_cons ?_
  | with_reducible refine r_nil ?_
  | with_reducible refine r_call ?_
  | with_reducible refine r_cb ?_
  | with_reducible refine r_test ?_
  | with_reducible refine r_tB ?_
  | with_reducible refine r_k ?_
  | with_reducible refine r_int1 ?_
  | with_reducible refine r_int1b ?_
  | with_reducible refine r_min2 ?_
  | with_reducible refine r_max2 ?_
  | with_reducible refine r_ret ?_
  | with_reducible refine r_ifS ?_
  | with_reducible refine r_tup ?_
  | with_reducible refine r_lst ?_
  | with_reducible refine r_un ?_
  | with_reducible refine r_u ?_
  | with_reducible refine r_eqB ?_
  | with_reducible refine r_neB ?_
  | with_reducible refine r_not ?_
  | with_reducible refine r_and ?_
  | with_reducible refine r_or ?_
  | with_reducible refine r_if ?_
  | with_reducible refine r_bm ?_
  | with_reducible refine r_lstRg ?_
  | with_reducible refine r_tRg1 ?_
  | with_reducible refine r_r1N ?_
  | with_reducible refine r_sl ?_
  | with_reducible refine r_part ?_
  | with_reducible refine r_partN ?_
  | with_reducible refine r_noPart ?_
  | with_reducible refine r_andV ?_
  | with_reducible refine r_orV ?_
  | with_reducible refine r_notV ?_
  | with_reducible refine r_andN ?_
  | with_reducible refine r_orN ?_
  | with_reducible refine r_notN ?_
  | with_reducible refine r_next ?_
  | with_reducible refine r_drop ?_
  | with_reducible refine r_sub ?_
  | with_reducible refine r_for ?_
  | with_reducible refine r_rng1 ?_
  | with_reducible refine r_rng2 ?_
  | with_reducible refine r_ilist ?_
  | with_reducible refine r_itup ?_
  | with_reducible refine r_lc ?_
  | with_reducible refine r_yes ?_
  | with_reducible refine r_gcons ?_
  | with_reducible refine r_gnil ?_
  | ((with_reducible show Bm _ "list" _ _ _ _ (V.ref _) _); refine' r_bmL ?zh ?zq; (case zh => walk_at "zl"))
  | with_reducible refine iteF ?_
  | with_reducible refine iteT ?_
  | ((with_reducible show rIxL _ (V.ref _) (V.int _) _ _); refine' r_ixL ?zh ?za ?zq; (case zh => walk_at "zl"); (case za => walk_at "zat"))
  | ((with_reducible show rIxT _ (V.ref _) (V.int _) _ _); refine' r_ixT ?zh ?za ?zq; (case zh => walk_at "zl"); (case za => walk_at "zat"))
  | with_reducible refine r_dget ?_
  | with_reducible refine r_star ?_
  | with_reducible refine r_match ?_
  | with_reducible refine r_enumT ?_
  | with_reducible refine r_dnot ?_
  | with_reducible refine r_chain ?_
  | with_reducible refine r_chn ?_
  | with_reducible refine r_callS ?_
  | with_reducible refine r_truth ?_
  | with_reducible refine r_bm0 ?_
  | with_reducible refine r_sadd ?_
  | with_reducible refine r_saddT ?_
  | ((with_reducible show Bm0 _ "list" _ _ (V.ref _) _); refine' r_bm0L ?zh ?zq; (case zh => walk_at "zl"))
  | with_reducible refine r_bm0I ?_
  | with_reducible refine r_bu ?_
  | with_reducible refine r_rng3 ?_
  | with_reducible refine r_bitlen ?_
  | with_reducible refine r_genAll ?_
  | with_reducible refine r_zipA ?_
  | with_reducible refine r_items ?_
  | with_reducible refine r_sortLam ?_
  | with_reducible refine r_augS ?_
  | with_reducible refine r_set0u ?_
  | with_reducible refine r_set1u ?_
  | with_reducible refine r_set2u ?_
  | with_reducible refine r_set3u ?_
  | with_reducible refine r_set4u ?_
  | ((with_reducible show rSetL (V.ref _) (V.int 0) _ _ _); refine' r_set0 ?zh ?zq; (case zh => walk_at "zh"))
  | ((with_reducible show rSetL (V.ref _) (V.int 1) _ _ _); refine' r_set1 ?zh ?zq; (case zh => walk_at "zh"))
  | ((with_reducible show rSetL (V.ref _) (V.int 2) _ _ _); refine' r_set2 ?zh ?zq; (case zh => walk_at "zh"))
  | ((with_reducible show rSetL (V.ref _) (V.int 3) _ _ _); refine' r_set3 ?zh ?zq; (case zh => walk_at "zh"))
  | ((with_reducible show rSetL (V.ref _) (V.int 4) _ _ _); refine' r_set4 ?zh ?zq; (case zh => walk_at "zh"))
  | ((with_reducible show rLen _ [V.ref _] _ _); refine' r_lenL ?zh ?zq; (case zh => walk_at "zl"))
  | ((with_reducible show rLen _ [V.ref _] _ _); refine' r_lenT ?zh ?zq; (case zh => walk_at "zl")))
local macro_rules | `(tactic| walk_at "z2") => `(tactic| first
  | with_reducible refine r_run ?_
  | ((with_reducible show tVar _ _ _ _); refine r_var rfl ?_)
  | with_reducible refine r_i (by walk_at "zs") ?_
  | ((with_reducible show Bm _ "list" _ _ _ _ (V.ref _) _); refine' r_bmL ?zh ?zq; (case zh => walk_at "zl"))
  | ((with_reducible show rIxL _ (V.ref _) (V.int _) _ _); refine' r_ixL ?zh ?za ?zq; (case zh => walk_at "zl"); (case za => walk_at "zat"))
  | ((with_reducible show rIxT _ (V.ref _) (V.int _) _ _); refine' r_ixT ?zh ?za ?zq; (case zh => walk_at "zl"); (case za => walk_at "zat"))
  | with_reducible refine r_sadd ?_
  | with_reducible refine r_saddT ?_
  | ((with_reducible show Bm0 _ "list" _ _ (V.ref _) _); refine' r_bm0L ?zh ?zq; (case zh => walk_at "zl"))
  | with_reducible refine r_bm0I ?_
  | with_reducible refine r_bitlen ?_
  | with_reducible refine r_genAll ?_
  | with_reducible refine r_zipA ?_
  | with_reducible refine r_items ?_
  | with_reducible refine r_sortLam ?_
  | with_reducible refine r_augS ?_
  | ((with_reducible show rSetL (V.ref _) (V.int 0) _ _ _); refine' r_set0 ?zh ?zq; (case zh => walk_at "zh"))
  | ((with_reducible show rSetL (V.ref _) (V.int 1) _ _ _); refine' r_set1 ?zh ?zq; (case zh => walk_at "zh"))
  | ((with_reducible show rSetL (V.ref _) (V.int 2) _ _ _); refine' r_set2 ?zh ?zq; (case zh => walk_at "zh"))
  | ((with_reducible show rSetL (V.ref _) (V.int 3) _ _ _); refine' r_set3 ?zh ?zq; (case zh => walk_at "zh"))
  | ((with_reducible show rSetL (V.ref _) (V.int 4) _ _ _); refine' r_set4 ?zh ?zq; (case zh => walk_at "zh"))
  | ((with_reducible show rLen _ [V.ref _] _ _); refine' r_lenL ?zh ?zq; (case zh => walk_at "zl"))
  | ((with_reducible show rLen _ [V.ref _] _ _); refine' r_lenT ?zh ?zq; (case zh => walk_at "zl")))
local macro_rules | `(tactic| walk_at "z") => `(tactic| repeat (walk_at "z2"))

abbrev s_law_pairs : Stmt := topS 324
theorem sc_law_pairs : FnScope ["n", "found", "u", "v"] ["n"] (defScope s_law_pairs) := ⟨rfl, rfl, rfl, by decide +kernel, rfl, by decide +kernel, by decide +kernel⟩

abbrev s_law_distinct : Stmt := topS 323
theorem sc_law_distinct : FnScope ["rows", "found", "row"] ["rows"] (defScope s_law_distinct) := ⟨rfl, rfl, rfl, by decide +kernel, rfl, by decide +kernel, by decide +kernel⟩

section
variable {P : Program} {w : World} {K : PySem.W.Frag} {mg : Str → Option Value} {base : Heap}
theorem prs_push {H : Hp} {l t : Addr} {xs : List V} {ps : List (Int × Int)} {a b : Int} (hl : H l = some (.lst xs)) (hp : Prs H xs ps) (ht : H t = none) :
    Prs (upd (upd H t (.tup [.int a, .int b])) l (.lst (xs ++ [.ref t]))) (xs ++ [.ref t]) (ps ++ [(a, b)]) := by
  have n : t ≠ l := (ne_of_none hl ht).symm
  have k : TK H (upd (upd H t (.tup [.int a, .int b])) l (.lst (xs ++ [.ref t]))) := fun c ys e => by
    rw [upd_ne (fun z => by rw [z, hl] at e; cases e), upd_ne (ne_of_none e ht)]
    exact e
  exact (hp.tk k).snoc ⟨t, rfl, by rw [upd_ne n]; exact upd_same⟩
/-- all pairs u < v below n -/
def spPairs : Sp := fun vs H Q _ => ∃ n : Nat, vs = [.int (n : Int)] ∧ n ≤ 100 ∧ ∀ (l : Addr) (xs : List V) (H' : Hp), H l = none → Same H H' → H' l = some (.lst xs) → Prs H' xs (allP n) → Q (.ref l) H'
theorem ok_pairs (T : Blt mg) (D : DefAt K mg "_law_pairs" s_law_pairs ["n"]) : FnOk P w K mg base CX0 1 D.f D.fd ["n"] spPairs := by
  refine D.F.ok sc_law_pairs (fun vs H Q E h => ?_) (fun cdv A outer s H vs Q E hr h => ?_)
  · obtain ⟨n, rfl, _⟩ := h
    rfl
  · obtain ⟨n, rfl, hn, q⟩ := h
    refine ⟨_, (pss_cons (ps_set (i := 1) sc_law_pairs.nd rfl (Or.inl rfl) (pe_lst pa_nil))
      (pss_cons (ps_for PassesOwn.never (by rfl) (pi_range1 (by rfl) T.range (pa_cons (pv 0) pa_nil)) (pg_name (i := 2) sc_law_pairs.nd rfl (Or.inl rfl))
        (pss_one (ps_for PassesOwn.never (by rfl) (pi_range2 (by rfl) T.range (pa_cons (pe_op op_add (pv 2) pe_int) (pa_cons (pv 0) pa_nil))) (pg_name (i := 3) sc_law_pairs.nd rfl (Or.inl rfl))
          (pss_one (ps_expr (PE.bmK (K := K) rfl (pe_bm PySem.F.plainAttrs_list PySem.F.slot_list_append PySem.F.type_list_append mt_append (pv 1) (pa_cons (pe_tup (pa_cons (pv 2) (pa_cons (pv 3) pa_nil))) pa_nil))))))))
      (pss_one (ps_ret (pv 1))))), ?_⟩
    refine r_at (σ := [some _, none, none, none]) rfl ?_
    walk_at "z"
    refine r_lstN (by decide) fun f hf => ?_
    walk_at "z"
    refine r_rg1 (by omega) (forR_range (fun i σ' H' => (∃ x2 x3, σ' = [some (.int (n : Int)), some (.ref f), x2, x3]) ∧ Same H H' ∧ ∃ xs, H' f = some (.lst xs) ∧ Prs H' xs (preP n i)) ⟨⟨_, _, rfl⟩, same_new hf, [], upd_same, .nil⟩ ?_ ?_)
    · rintro i σ' H' hi ⟨⟨x2, x3, rfl⟩, sm, xs, hx, hp⟩
      walk_at "z"
      refine r_rg2 (by omega) (forR_range (fun j σ' H' => (∃ x3, σ' = [some (.int (n : Int)), some (.ref f), some (.int (0 + (i : Int))), x3]) ∧ Same H H' ∧ ∃ xs, H' f = some (.lst xs) ∧ Prs H' xs (preP n i ++ rowP i ((i : Int) + 1) j)) ⟨⟨_, rfl⟩, sm, xs, hx, ?_⟩ ?_ ?_)
      · rw [show rowP (i : Int) ((i : Int) + 1) 0 = [] from rfl, List.append_nil]
        exact hp
      · rintro j σ' H' hj ⟨⟨x3, rfl⟩, sm, xs, hx, hp⟩
        walk_at "z"
        refine r_tupN sz2 fun t ht => ?_
        walk_at "z"
        refine r_appT (by walk_at "zh") (small_lt ?_) ?_
        · rw [hp.length, List.length_append, rowP_len]
          have h1 := preP_len (n := n) (i := i)
          have h2 : i * n ≤ 100 * 100 := Nat.mul_le_mul (by omega) hn
          omega
        · refine ⟨⟨_, rfl⟩, same_mut (sm.trans (same_new ht)) hf, _, upd_same, ?_⟩
          rw [rowP_succ, ← List.append_assoc]
          have e1 : (0 : Int) + (i : Int) = i := by omega
          have e2 : (0 : Int) + (i : Int) + 1 + (j : Int) = (i : Int) + 1 + j := by omega
          rw [e2, e1]
          exact prs_push hx hp ht
      · rintro σ' H' ⟨⟨x3, rfl⟩, sm, xs, hx, hp⟩
        refine ⟨⟨_, _, rfl⟩, sm, xs, hx, ?_⟩
        have e : ((n : Int) - (0 + (i : Int) + 1)).toNat = n - 1 - i := by omega
        rw [e] at hp
        exact hp
    · rintro σ' H' ⟨⟨x2, x3, rfl⟩, sm, xs, hx, hp⟩
      walk_at "z"
      exact q f xs H' hf sm hx hp
/-- the rows ascending, each once -/
def spDistinct (K : PySem.W.Frag) : Sp := fun vs H Q _ => ∃ (l : Addr) (xs : List V) (ps : List (Int × Int)), vs = [.ref l] ∧ SqL K H l xs ∧ Prs H xs ps ∧ ps.length ≤ 10000 ∧
  ∀ (f : Addr) (ys : List V) (qs : List (Int × Int)) (H' : Hp), H f = none → Same H H' → H' f = some (.lst ys) → Prs H' ys qs → qs.Pairwise ltP → (∀ p, p ∈ qs ↔ p ∈ ps) → Q (.ref f) H'
theorem ok_distinct (T : Blt mg) (D : DefAt K mg "_law_distinct" s_law_distinct ["rows"]) : FnOk P w K mg base CX0 2 D.f D.fd ["rows"] (spDistinct K) := by
  refine D.F.ok sc_law_distinct (fun vs H Q E h => ?_) (fun cdv A outer s H vs Q E hr h => ?_)
  · obtain ⟨l, xs, ps, rfl, _⟩ := h
    rfl
  · obtain ⟨l, xs, ps, rfl, hl, hp, hlen, q⟩ := h
    refine ⟨_, (pss_cons (ps_set (i := 1) sc_law_distinct.nd rfl (Or.inl rfl) (pe_lst pa_nil))
      (pss_cons (ps_for PassesOwn.never (by rfl) (PI.listK (K := K) rfl (pi_list (pe_callB (cr_sortPrK (K := K) rfl) (by rfl) T.sorted (by decide +kernel) (pa_cons (pv 0) pa_nil)))) (pg_name (i := 2) sc_law_distinct.nd rfl (Or.inl rfl))
        (pss_one (ps_if (PW.pt (pw_or (pt_cmpR (op_eqDK (K := K) rfl hr.units) (pv 1) (pe_lst pa_nil) (nomark _)) (pw_or1 (pt_cmpR (op_neDK (K := K) rfl hr.units) (pe_ix (ix_listK (K := K) rfl) (pv 1) (pe_un un_neg pe_int) (fun _ _ => rfl)) (pv 2) (nomark _)))))
          (pss_one (ps_expr (PE.bmK (K := K) rfl (pe_bm PySem.F.plainAttrs_list PySem.F.slot_list_append PySem.F.type_list_append mt_append (pv 1) (pa_cons (pv 2) pa_nil)))))
          pss_nil)))
      (pss_one (ps_ret (pv 1))))), ?_⟩
    refine r_at (σ := [some _, none, none]) rfl ?_
    walk_at "z"
    refine r_lstN (by decide) fun f hf => ?_
    walk_at "z"
    have s1 : Same H (upd H f (.lst [])) := same_new hf
    refine ⟨l, xs, ps, rfl, s1.seq hl, hp.tk (.of_same s1), fun ys qs p pm hy pw hn => ?_⟩
    have s2 : Same H (upd (upd H f (.lst [])) p (.lst ys)) := s1.trans (same_new hn)
    have pf : f ≠ p := ne_of_none upd_same hn
    refine r_il (.inl (.inl upd_same)) (forR_list (xs := ys) (fun i σ' H' => (∃ x2, σ' = [some (.ref l), some (.ref f), x2]) ∧ Same H H' ∧ H' p = some (.lst ys) ∧ Prs H' ys qs ∧ ∃ zs fs, H' f = some (.lst zs) ∧ Prs H' zs fs ∧ Ded (qs.take i) fs)
      ⟨⟨_, rfl⟩, s2, upd_same, hy.tk (.new hn), [], [], (upd_ne pf).trans upd_same, .nil, .nil⟩ ?_ ?_ ?_)
    · rintro i σ' H' _ ⟨_, _, h, _⟩
      exact .inl (.inl h)
    · rintro i x σ' H' hx ⟨⟨x2, rfl⟩, sm, hpl, hys, zs, fs, hz, hfs, D0⟩
      obtain ⟨r, hr', hxr⟩ := pd_get hys hx
      have tk : qs.take (i + 1) = qs.take i ++ [r] := take_next hr'
      walk_at "z"
      refine r_lstN (by decide) fun e he => ?_
      have ef : f ≠ e := ne_of_none hz he
      have s3 : Same H' (upd H' e (.lst [])) := same_new he
      refine r_eqNil ((upd_ne ef).trans hz) upd_same (hfs.tk (.of_same s3)) ?_
      walk_at "z"
      have pl : ((qs.take i) ++ [r]).Pairwise leP := by
        rw [← tk]
        exact pw.take
      have lens : zs.length < sizeLine := small_lt (by
        have h1 : fs.length ≤ ps.length := by
          have nd := asc_nodup D0.asc
          have sub : ∀ z ∈ fs, z ∈ ps := fun z hz => pm.mem_iff.mp (List.mem_of_mem_take ((D0.mem z).mp hz))
          exact nodup_le _ _ nd sub
        have h2 := hfs.length
        omega)
      -- the row goes behind
      have push : ∀ H2 : Hp, Same H' H2 → H2 f = some (.lst zs) → fs.getLast? ≠ some r → (∃ x2_1, [some (V.ref l), some (V.ref f), some x] = [some (V.ref l), some (V.ref f), x2_1]) ∧ Same H (upd H2 f (.lst (zs ++ [x]))) ∧ (upd H2 f (.lst (zs ++ [x]))) p = some (.lst ys) ∧ Prs (upd H2 f (.lst (zs ++ [x]))) ys qs ∧ ∃ zs_1 fs_1, (upd H2 f (.lst (zs ++ [x]))) f = some (.lst zs_1) ∧ Prs (upd H2 f (.lst (zs ++ [x]))) zs_1 fs_1 ∧ Ded (qs.take (i + 1)) fs_1 := fun H2 sx hf2 hne => by
        have kk : TK H' (upd H2 f (.lst (zs ++ [x]))) := (TK.of_same sx).trans (.lst hf2)
        refine ⟨⟨_, rfl⟩, same_mut (sm.trans sx) hf, ?_, hys.tk kk, _, _, upd_same, (hfs.tk kk).snoc (hxr.tk kk), ?_⟩
        · rw [upd_ne (Ne.symm pf)]
          exact sx _ _ hpl
        · rw [tk]
          exact D0.more pl hne
      refine r_ite (fun h0 => ?_) (fun h0 => ?_)
      · walk_at "z"
        refine r_appT (by walk_at "zh") lens ?_
        refine push _ s3 ((upd_ne ef).trans hz) ?_
        rw [h0]
        exact fun z => nomatch z
      · walk_at "z"
        obtain ⟨r', hr2⟩ : ∃ r', fs.getLast? = some r' := by
          cases q9 : fs.getLast? with
          | some r' => exact ⟨r', rfl⟩
          | none => exact absurd (List.getLast?_eq_none_iff.mp q9) h0
        obtain ⟨x', hx', fx'⟩ := pd_last hfs hr2
        refine r_ixL (.inl (.inl ((upd_ne ef).trans hz))) (at_last hx') ?_
        walk_at "z"
        refine r_neP (fx'.tk (.of_same s3)) (hxr.tk (.of_same s3)) ?_
        walk_at "z"
        refine r_iteN (fun h1 => ?_) (fun h1 => ?_)
        · walk_at "z"
          refine r_appT (by walk_at "zh") lens ?_
          refine push _ s3 ((upd_ne ef).trans hz) ?_
          rw [hr2]
          exact fun z => h1 (Option.some.inj z)
        · walk_at "z"
          refine ⟨⟨_, rfl⟩, sm.trans s3, s3 _ _ hpl, hys.tk (.of_same s3), zs, fs, s3 _ _ hz, hfs.tk (.of_same s3), ?_⟩
          rw [tk]
          exact D0.same (by rw [hr2, h1])
    · rintro σ' H' ⟨⟨x2, rfl⟩, sm, hpl, hys, zs, fs, hz, hfs, D0⟩
      walk_at "z"
      rw [hys.length, List.take_length] at D0
      exact q f zs fs H' hf sm hz hfs D0.asc fun z => (D0.mem z).trans pm.mem_iff
end

set_option Elab.async false
set_option linter.all false
set_option maxRecDepth 100000
set_option maxHeartbeats 4000000
open PySem PySem.Spec PyProof.Rows L2

abbrev s_law_of : Stmt := topS 325
theorem sc_law_of : FnScope ["n", "pairs", "pair"] ["n", "pairs"] (defScope s_law_of) := ⟨rfl, rfl, rfl, by decide +kernel, rfl, by decide +kernel, by decide +kernel⟩

abbrev s_law_met : Stmt := topS 326
theorem sc_law_met : FnScope ["graph", "u", "v"] ["graph", "u", "v"] (defScope s_law_met) := ⟨rfl, rfl, rfl, by decide +kernel, rfl, by decide +kernel, by decide +kernel⟩

abbrev s_law_near : Stmt := topS 327
theorem sc_law_near : FnScope ["graph", "v", "u"] ["graph", "v"] (defScope s_law_near) := ⟨rfl, rfl, rfl, by decide +kernel, rfl, by decide +kernel, by decide +kernel⟩

section
variable {P : Program} {w : World} {K : PySem.W.Frag} {mg : Str → Option Value} {base : Heap}
/-- the edges stand as a tuple of pairs at e -/
def EdgesAt (H : Hp) (e : Addr) (ps : List (Int × Int)) : Prop := ∃ xs, H e = some (.tup xs) ∧ Prs H xs ps
theorem EdgesAt.tk {H H' : Hp} (k : TK H H') {e : Addr} {ps : List (Int × Int)} (h : EdgesAt H e ps) : EdgesAt H' e ps := by
  obtain ⟨xs, h1, h2⟩ := h
  exact ⟨xs, k _ _ h1, h2.tk k⟩
/-- v is the graph of n and these edges -/
def GrAt (H : Hp) (v : V) (n : Int) (ps : List (Int × Int)) : Prop := ∃ g e, v = .ref g ∧ H g = some (.tup [.int n, .ref e]) ∧ EdgesAt H e ps
theorem GrAt.tk {H H' : Hp} (k : TK H H') {v : V} {n : Int} {ps : List (Int × Int)} (h : GrAt H v n ps) : GrAt H' v n ps := by
  obtain ⟨g, e, h1, h2, h3⟩ := h
  exact ⟨g, e, h1, k _ _ h2, h3.tk k⟩
/-- (n, tuple of distinct(..)) -/
def spOf (K : PySem.W.Frag) : Sp := fun vs H Q _ => ∃ (n : Int) (l : Addr) (xs : List V) (ps : List (Int × Int)), vs = [.int n, .ref l] ∧ SqL K H l xs ∧ Prs H xs ps ∧ ps.length ≤ 10000 ∧
  ∀ (v : V) (qs : List (Int × Int)) (H' : Hp), Same H H' → GrAt H' v n qs → qs.Pairwise ltP → (∀ p, p ∈ qs ↔ ∃ r ∈ ps, p = nrm r) → Q v H'
theorem r_minP {x : V} {p : Int × Int} {H : Hp} {Q : VK} (h : IsP H x p) (q : Q (.int (min p.1 p.2)) H) : rMinT [x] H Q := ⟨x, p, rfl, h, q⟩
theorem r_maxP {x : V} {p : Int × Int} {H : Hp} {Q : VK} (h : IsP H x p) (q : Q (.int (max p.1 p.2)) H) : rMaxT [x] H Q := ⟨x, p, rfl, h, q⟩
theorem ok_of (T : Blt mg) (D : DefAt K mg "_law_of" s_law_of ["n", "pairs"]) (D_law_distinct : DefAt K mg "_law_distinct" s_law_distinct ["rows"]) (G_law_distinct : FnOk P w K mg base CX0 2 D_law_distinct.f D_law_distinct.fd ["rows"] (spDistinct K)) :
    FnOk P w K mg base CX0 3 D.f D.fd ["n", "pairs"] (spOf K) := by
  refine D.F.ok sc_law_of (fun vs H Q E h => ?_) (fun cdv A outer s H vs Q E hr h => ?_)
  · obtain ⟨n, l, xs, ps, rfl, _⟩ := h
    rfl
  · obtain ⟨n, l, xs, ps, rfl, hl, hp, hlen, q⟩ := h
    refine ⟨_, (pss_one (ps_ret (pe_tup (pa_cons (pv 0) (pa_cons (pe_callTy (call_tupleK (K := K) rfl) (by rfl) T.tuple (by decide +kernel) (pa_cons (pe_call G_law_distinct (hr.mono (by first | decide | omega)) (by rfl) D_law_distinct.g D_law_distinct.F.kp D_law_distinct.b .nil pass0 (pa_cons (pe_lc (own := [("pair", 2)]) (by rfl) sc_law_of.nd (PI.listK (K := K) rfl (pi_list (pv 1))) (blkOk_by (own := [("pair", 2)]) (N := ["n", "pairs", "pair"]) (sc := (defScope s_law_of)) (by decide +kernel)) (fun _ _ _ _ _ => (pg_name (i := 2) sc_law_of.nd rfl (Or.inl rfl))) (fun _ _ _ _ _ => pts_nil) (fun _ _ _ _ _ => (pe_tup (pa_cons (pe_callB (cr_minT rfl) (by rfl) T.min (by decide +kernel) (pa_cons (pv 2) pa_nil)) (pa_cons (pe_callB (cr_maxT rfl) (by rfl) T.max (by decide +kernel) (pa_cons (pv 2) pa_nil)) pa_nil))))) pa_nil)) pa_nil)) pa_nil))))), ?_⟩
    refine r_at (σ := [some _, some _, none]) rfl ?_
    walk_at "z"
    refine r_il hl fun d hd => lcR_list (xs := xs) (fun i H' => Same H H' ∧ ∃ ys, H' d = some (.lst ys) ∧ Prs H' ys ((ps.take i).map nrm)) (by walk_at "zw") ⟨same_new hd, [], upd_same, .nil⟩ (fun i H' _ ⟨s1, _⟩ => s1.seq hl) ?_ ?_
    · rintro i x H' hx ⟨s1, ys, hy, hys⟩
      obtain ⟨p, hpi, hxp⟩ := pd_get (hp.tk (.of_same s1)) hx
      walk_at "z"
      refine ⟨rfl, ?_⟩
      walk_at "z"
      refine r_minP hxp ?_
      walk_at "z"
      refine r_maxP hxp ?_
      walk_at "z"
      refine r_tupN sz2 fun t ht => ?_
      refine r_lce (by walk_at "zh") (small_lt ?_) ⟨same_mut (s1.trans (same_new ht)) hd, _, upd_same, ?_⟩
      · rw [hys.length, List.length_map, List.length_take]
        omega
      · rw [take_next hpi, List.map_append]
        exact prs_push hy hys ht
    · rintro H' ⟨s1, ys, hy, hys⟩
      rw [hp.length, List.take_length] at hys
      walk_at "z"
      refine ⟨d, ys, _, rfl, .inl (.inl hy), hys, by rw [List.length_map]; exact hlen, fun f zs qs H2 hf s2 hz hzs asc mem => ?_⟩
      walk_at "z"
      refine r_tupL (.inl (.inl hz)) fun e he => ?_
      walk_at "z"
      refine r_tupN sz2 fun g hg => ?_
      have s3 : Same H2 (upd H2 e (.tup zs)) := same_new he
      have s4 := s3.trans (same_new (o := .tup [.int n, .ref e]) hg)
      refine q _ qs _ ((s1.trans s2).trans s4) ⟨g, e, rfl, upd_same, zs, (upd_ne (ne_of_none upd_same hg)).trans upd_same, hzs.tk (.of_same s4)⟩ asc fun p => ?_
      rw [mem, List.mem_map]
      constructor
      · rintro ⟨r, hr, rfl⟩
        exact ⟨r, hr, rfl⟩
      · rintro ⟨r, hr, rfl⟩
        exact ⟨r, hr, rfl⟩
/-- are u and v neighbours? -/
def spMet : Sp := fun vs H Q _ => ∃ (g : V) (n u v : Int) (ps : List (Int × Int)), vs = [g, .int u, .int v] ∧ GrAt H g n ps ∧ ∀ H', Same H H' → Q (.bl (decide (nrm (u, v) ∈ ps))) H'
theorem ok_met (T : Blt mg) (D : DefAt K mg "_law_met" s_law_met ["graph", "u", "v"]) : FnOk P w K mg base CX0 2 D.f D.fd ["graph", "u", "v"] spMet := by
  refine D.F.ok sc_law_met (fun vs H Q E h => ?_) (fun cdv A outer s H vs Q E hr h => ?_)
  · obtain ⟨g, n, u, v, ps, rfl, _⟩ := h
    rfl
  · obtain ⟨g, n, u, v, ps, rfl, ⟨ga, e, rfl, hg, xs, he, hp⟩, q⟩ := h
    refine ⟨_, (pss_one (ps_ret (pe_cmpR (op_inPK (K := K) rfl hr) (pe_tup (pa_cons (pe_callB (call_min2' rfl) (by rfl) T.min (by decide +kernel) (pa_cons (pv 1) (pa_cons (pv 2) pa_nil))) (pa_cons (pe_callB (call_max2' rfl) (by rfl) T.max (by decide +kernel) (pa_cons (pv 1) (pa_cons (pv 2) pa_nil))) pa_nil))) (pe_ix (ix_tupK (K := K) rfl) (pv 0) pe_int (fun _ _ => rfl)) (by rfl)))), ?_⟩
    refine r_at (σ := [some _, some _, some _]) rfl ?_
    walk_at "z"
    refine r_tupN sz2 fun t ht => ?_
    have s1 : Same H (upd H t (.tup [.int (min u v), .int (max u v)])) := same_new ht
    walk_at "z"
    refine ⟨(min u v, max u v), e, xs, ps, ⟨t, rfl, upd_same⟩, rfl, .inl (.inl (s1 _ _ he)), hp.tk (.of_same s1), ?_⟩
    exact q _ s1
/-- the neighbours, ascending -/
def nearL (n : Int) (ps : List (Int × Int)) (v : Int) (k : Nat) : List Int := ((List.range k).map fun (i : Nat) => (i : Int)).filter fun u => decide (u ≠ v ∧ nrm (u, v) ∈ ps)
def spNear : Sp := fun vs H Q _ => ∃ (g : V) (n v : Int) (ps : List (Int × Int)), vs = [g, .int v] ∧ GrAt H g n ps ∧ 0 ≤ n ∧ n ≤ 100 ∧ ∀ (l : Addr) (H' : Hp), H l = none → Same H H' → H' l = some (.lst ((nearL n ps v n.toNat).map V.int)) → Q (.ref l) H'
theorem ok_near (T : Blt mg) (D : DefAt K mg "_law_near" s_law_near ["graph", "v"]) (D_law_met : DefAt K mg "_law_met" s_law_met ["graph", "u", "v"]) (G_law_met : FnOk P w K mg base CX0 2 D_law_met.f D_law_met.fd ["graph", "u", "v"] spMet) :
    FnOk P w K mg base CX0 3 D.f D.fd ["graph", "v"] spNear := by
  refine D.F.ok sc_law_near (fun vs H Q E h => ?_) (fun cdv A outer s H vs Q E hr h => ?_)
  · obtain ⟨g, n, v, ps, rfl, _⟩ := h
    rfl
  · obtain ⟨g, n, v, ps, rfl, hgr, n0, n1, q⟩ := h
    obtain ⟨ga, e, rfl, hg, he⟩ := id hgr
    refine ⟨_, (pss_one (ps_ret (pe_lc (own := [("u", 2)]) (by rfl) sc_law_near.nd (pi_range1 (by rfl) T.range (pa_cons (pe_ix (ix_tupK (K := K) rfl) (pv 0) pe_int (fun _ _ => rfl)) pa_nil)) (blkOk_by (own := [("u", 2)]) (N := ["graph", "v", "u"]) (sc := (defScope s_law_near)) (by decide +kernel)) (fun _ _ _ _ _ => (pg_name (i := 2) sc_law_near.nd rfl (Or.inl rfl))) (fun _ _ _ _ _ => (pts_one (PW.pt (pw_and (pt_cmpR op_ne (pv 2) (pv 1) (nomark _)) (pw_and1 (pt_val (pe_call G_law_met (hr.mono (by first | decide | omega)) (by rfl) D_law_met.g D_law_met.F.kp D_law_met.b .nil pass0 (pa_cons (pv 0) (pa_cons (pv 2) (pa_cons (pv 1) pa_nil)))))))))) (fun _ _ _ _ _ => (pv 2))))), ?_⟩
    refine r_at (σ := [some _, some _, none]) rfl ?_
    walk_at "z"
    refine r_rg1 (by omega) fun d hd => lcR_range (fun i H' => Same H H' ∧ H' d = some (.lst ((nearL n ps v i).map V.int))) (by walk_at "zw") ⟨same_new hd, upd_same⟩ ?_ ?_
    · rintro i H' hi ⟨s1, hl⟩
      have g1 := hgr.tk (.of_same s1)
      have suc : nearL n ps v (i + 1) = nearL n ps v i ++ (if decide ((i : Int) ≠ v ∧ nrm ((i : Int), v) ∈ ps) = true then [(i : Int)] else []) := by
        unfold nearL
        rw [List.range_succ, List.map_append, List.filter_append]
        simp only [List.map_cons, List.map_nil, List.filter_cons, List.filter_nil]
      have e0 : (0 : Int) + (i : Int) = i := by omega
      walk_at "z"
      refine ⟨rfl, ?_⟩
      walk_at "z"
      rw [e0]
      refine r_iteN (fun h1 => ?_) (fun h1 => ?_)
      · walk_at "z"
        refine ⟨_, n, (i : Int), v, ps, rfl, g1, fun H2 s2 => ?_⟩
        walk_at "z"
        refine r_ite (fun h2 => ?_) (fun h2 => ?_)
        · walk_at "z"
          refine r_lce (s2 _ _ hl) (small_lt ?_) ⟨same_mut (s1.trans s2) hd, ?_⟩
          · rw [List.length_map]
            unfold nearL
            have := List.length_filter_le (fun u => decide (u ≠ v ∧ nrm (u, v) ∈ ps)) ((List.range i).map fun (i : Nat) => (i : Int))
            rw [List.length_map, List.length_range] at this
            omega
          · rw [suc, if_pos (decide_eq_true ⟨h1, h2⟩), List.map_append]
            exact upd_same
        · refine ⟨s1.trans s2, ?_⟩
          rw [suc, if_neg (by simp [h2]), List.append_nil]
          exact s2 _ _ hl
      · walk_at "z"
        refine ⟨s1, ?_⟩
        rw [suc, if_neg (by simp [h1]), List.append_nil]
        exact hl
    · rintro H' ⟨s1, hl⟩
      exact q d H' hd s1 hl
end

set_option Elab.async false
set_option linter.all false
set_option maxRecDepth 100000
set_option maxHeartbeats 4000000
open PySem PySem.Spec PyProof.Rows L2

/-! ## values that are alike -/
def kd : PyData → String
  | .none => "NoneType"
  | .bool _ => "bool"
  | .int _ => "int"
  | .str _ => "str"
  | .list _ => "list"
  | .tuple _ => "tuple"
  | .dict _ => "dict"
/-- no deeper than d, and nowhere long -/
def sm : Nat → PyData → Prop
  | 0, _ => False
  | _ + 1, .none => True
  | _ + 1, .bool _ => True
  | _ + 1, .int _ => True
  | _ + 1, .str x => x.cps.all (· < 0x110000) = true
  | d + 1, .list xs => xs.length ≤ 100000 ∧ ∀ x ∈ xs, sm d x
  | d + 1, .tuple xs => xs.length ≤ 100000 ∧ ∀ x ∈ xs, sm d x
  | _ + 1, .dict _ => False
section
variable {P : Program} {w : World} {K : PySem.W.Frag} {mg : Str → Option Value} {base : Heap}
end

set_option Elab.async false
set_option linter.all false
set_option maxRecDepth 100000
set_option maxHeartbeats 4000000
open PySem PySem.Spec PyProof.Rows L2

abbrev s_neighbour_lists : Stmt := topS 20
theorem sc_neighbour_lists : FnScope ["graph", "n", "edges", "around", "u", "v", "_"] ["graph"] (defScope s_neighbour_lists) := ⟨rfl, rfl, rfl, by decide +kernel, rfl, by decide +kernel, by decide +kernel⟩

abbrev s_neighbour_masks : Stmt := topS 21
theorem sc_neighbour_masks : FnScope ["graph", "others"] ["graph"] (defScope s_neighbour_masks) := ⟨rfl, rfl, rfl, by decide +kernel, rfl, by decide +kernel, by decide +kernel⟩

abbrev s_mask_of : Stmt := topS 24
theorem sc_mask_of : FnScope ["members", "mask", "v"] ["members"] (defScope s_mask_of) := ⟨rfl, rfl, rfl, by decide +kernel, rfl, by decide +kernel, by decide +kernel⟩

/-- the neighbours of v in the order of the edges -/
def adjL (ps : List (Int × Int)) (v : Nat) : List Int := ps.flatMap fun p => (if p.1 = (v : Int) then [p.2] else []) ++ (if p.2 = (v : Int) then [p.1] else [])
theorem adjL_next {ps : List (Int × Int)} {j v : Nat} {p : Int × Int} (h : ps[j]? = some p) : adjL (ps.take (j + 1)) v = adjL (ps.take j) v ++ ((if p.1 = (v : Int) then [p.2] else []) ++ (if p.2 = (v : Int) then [p.1] else [])) := by
  unfold adjL
  rw [take_next h, List.flatMap_append]
  simp
theorem adjL_len (ps : List (Int × Int)) (v : Nat) : (adjL ps v).length ≤ 2 * ps.length := by
  unfold adjL
  induction ps with
  | nil => simp
  | cons p ps ih =>
    rw [List.flatMap_cons, List.length_append, List.length_append, List.length_cons]
    have h1 : (if p.1 = (v : Int) then [p.2] else []).length ≤ 1 := by split <;> simp
    have h2 : (if p.2 = (v : Int) then [p.1] else []).length ≤ 1 := by split <;> simp
    omega
theorem mem_adjL {ps : List (Int × Int)} {v : Nat} {u : Int} : u ∈ adjL ps v ↔ ((v : Int), u) ∈ ps ∨ (u, (v : Int)) ∈ ps := by
  unfold adjL
  rw [List.mem_flatMap]
  constructor
  · rintro ⟨p, hp, h⟩
    rcases List.mem_append.mp h with h | h
    · split at h
      · rename_i c
        rw [List.mem_singleton.mp h, ← c]
        exact .inl hp
      · cases h
    · split at h
      · rename_i c
        rw [List.mem_singleton.mp h, ← c]
        exact .inr hp
      · cases h
  · rintro (h | h)
    · exact ⟨_, h, by simp⟩
    · exact ⟨_, h, by simp⟩
section
variable {P : Program} {w : World} {K : PySem.W.Frag} {mg : Str → Option Value} {base : Heap}
/-- a list of lists of neighbours -/
def spNLists : Sp := fun vs H Q _ => ∃ (g : V) (n : Nat) (ps : List (Int × Int)), vs = [g] ∧ GrAt H g (n : Int) ps ∧ n ≤ 100 ∧ ps.length ≤ 10000 ∧ (∀ p ∈ ps, 0 ≤ p.1 ∧ p.1 < p.2 ∧ p.2 < (n : Int)) ∧
  ∀ (l : Addr) (as : List Addr) (H' : Hp), Same H H' → H' l = some (.lst (as.map V.ref)) → as.length = n → (∀ i a, as[i]? = some a → H' a = some (.lst ((adjL ps i).map V.int))) → Q (.ref l) H'
theorem ok_nlists (T : Blt mg) (D : DefAt K mg "neighbour_lists" s_neighbour_lists ["graph"]) : FnOk P w K mg base CX0 1 D.f D.fd ["graph"] spNLists := by
  refine D.F.ok sc_neighbour_lists (fun vs H Q E h => ?_) (fun cdv A outer s H vs Q E hr h => ?_)
  · obtain ⟨g, n, ps, rfl, _⟩ := h
    rfl
  · obtain ⟨g, n, ps, rfl, ⟨ga, e, rfl, hg, xs, he, hp⟩, hn, hlen, inn, q⟩ := h
    refine ⟨_, (pss_cons (ps_asg (pv 0) (PG.tupK (K := K) rfl (pg_tup (n := 2) rfl (pgs_cons (pg_name (i := 1) sc_neighbour_lists.nd rfl (Or.inl rfl)) (pgs_cons (pg_name (i := 2) sc_neighbour_lists.nd rfl (Or.inl rfl)) pgs_nil)))))
      (pss_cons (ps_setLc (i := 3) (own := [("_", 6)]) (by rfl) sc_neighbour_lists.nd rfl rfl (sw_true rfl rfl rfl (by decide +kernel)) (pi_range1 (by rfl) T.range (pa_cons (pv 1) pa_nil)) (blkOk_by (own := [("_", 6)]) (N := ["graph", "n", "edges", "around", "u", "v", "_"]) (sc := (defScope s_neighbour_lists)) (by decide +kernel)) (fun _ _ _ _ _ => (pg_name (i := 6) sc_neighbour_lists.nd rfl (Or.inl rfl))) (fun _ _ _ _ _ => pts_nil) (fun _ _ _ _ _ => (pe_lst pa_nil)))
      (pss_cons (ps_for PassesOwn.never (by rfl) (PI.tupK (K := K) rfl (pi_tup (pv 2))) (PG.tupK (K := K) rfl (pg_tup (n := 2) rfl (pgs_cons (pg_name (i := 4) sc_neighbour_lists.nd rfl (Or.inl rfl)) (pgs_cons (pg_name (i := 5) sc_neighbour_lists.nd rfl (Or.inl rfl)) pgs_nil))))
        (pss_cons (ps_expr (PE.bmK (K := K) rfl (pe_bm PySem.F.plainAttrs_list PySem.F.slot_list_append PySem.F.type_list_append mt_append (pe_ix (ix_listK (K := K) rfl) (pv 3) (pv 4) (fun _ _ => rfl)) (pa_cons (pv 5) pa_nil))))
        (pss_one (ps_expr (PE.bmK (K := K) rfl (pe_bm PySem.F.plainAttrs_list PySem.F.slot_list_append PySem.F.type_list_append mt_append (pe_ix (ix_listK (K := K) rfl) (pv 3) (pv 5) (fun _ _ => rfl)) (pa_cons (pv 4) pa_nil)))))))
      (pss_one (ps_ret (pv 3)))))), ?_⟩
    refine r_at (σ := [some _, none, none, none, none, none, none]) rfl ?_
    walk_at "z"
    refine r_gtup (.inl (.inl hg)) rfl ?_
    walk_at "z"
    refine r_rg1 (by omega) fun d hd => lcR_range (fun i H' => Same H H' ∧ ∃ as : List Addr, H' d = some (.lst (as.map V.ref)) ∧ as.length = i ∧ as.Nodup ∧ ∀ a ∈ as, H a = none ∧ a ≠ d ∧ H' a = some (.lst [])) (by walk_at "zw") ⟨same_new hd, [], upd_same, rfl, .nil, fun a h => nomatch h⟩ ?_ ?_
    · rintro i H' hi ⟨s1, as, hD, la, nd, ho⟩
      walk_at "z"
      refine ⟨rfl, ?_⟩
      walk_at "z"
      refine r_lstN (Nat.zero_le _) fun t ht => ?_
      have tD : d ≠ t := ne_of_none hD ht
      refine r_lce ((upd_ne tD).trans hD) (small_lt (by rw [List.length_map]; omega)) ⟨same_mut (s1.trans (same_new ht)) hd, as ++ [t], by rw [List.map_append]; exact upd_same, by rw [List.length_append, la]; rfl, ?_, ?_⟩
      · refine List.nodup_append.mpr ⟨nd, by simp, fun a ha b hb => ?_⟩
        rw [List.mem_singleton.mp hb]
        exact ne_of_none (ho a ha).2.2 ht
      · intro a ha
        rcases List.mem_append.mp ha with c | c
        · obtain ⟨o1, o2, o3⟩ := ho a c
          exact ⟨o1, o2, (upd_ne o2).trans ((upd_ne (ne_of_none o3 ht)).trans o3)⟩
        · rw [List.mem_singleton.mp c]
          exact ⟨s1.free ht, tD.symm, (upd_ne tD.symm).trans upd_same⟩
    · rintro H1 ⟨s1, as, hD, la, nd, ho⟩
      rw [show (n : Int).toNat = n by omega] at la
      walk_at "z"
      refine r_it (.inl (.inl (s1 _ _ he))) (forR_tup (xs := xs) (fun j σ' H' => (∃ x4 x5 x6, σ' = [some (.ref ga), some (.int n), some (.ref e), some (.ref d), x4, x5, x6]) ∧ Same H H' ∧ H' d = some (.lst (as.map V.ref)) ∧ ∀ i a, as[i]? = some a → H' a = some (.lst ((adjL (ps.take j) i).map V.int))) ⟨⟨_, _, _, rfl⟩, s1, hD, fun i a h => (ho a (List.mem_of_getElem? h)).2.2⟩ (fun i σ' H' _ ⟨_, s2, _⟩ => .inl (.inl (s2 _ _ he))) ?_ ?_)
      · rintro j x σ' H' hx ⟨⟨x4, x5, x6, rfl⟩, s2, hD2, adj⟩
        obtain ⟨p, hpj, t, rfl, ht⟩ := pd_get (hp.tk (.of_same s2)) hx
        obtain ⟨b0, b1, b2⟩ := inn p (List.mem_of_getElem? hpj)
        obtain ⟨au, hau⟩ : ∃ a, as[p.1.toNat]? = some a := ⟨_, List.getElem?_eq_getElem (by omega)⟩
        obtain ⟨av, hav⟩ : ∃ a, as[p.2.toNat]? = some a := ⟨_, List.getElem?_eq_getElem (by omega)⟩
        obtain ⟨u1, u2, _⟩ := ho au (List.mem_of_getElem? hau)
        obtain ⟨v1, v2, _⟩ := ho av (List.mem_of_getElem? hav)
        have idx : ∀ {i k : Nat} {a : Addr}, as[i]? = some a → as[k]? = some a → i = k := fun {i k a} h1 h2 => by
          obtain ⟨l1, e1⟩ := List.getElem?_eq_some_iff.mp h1
          obtain ⟨l2, e2⟩ := List.getElem?_eq_some_iff.mp h2
          exact (List.getElem_inj nd).mp (e1.trans e2.symm)
        have ne : av ≠ au := fun z => by
          have := idx hau (z ▸ hav)
          omega
        have lens : ∀ i, ((adjL (ps.take j) i).map V.int).length < sizeLine := fun i => small_lt (by
          rw [List.length_map]
          have := adjL_len (ps.take j) i
          rw [List.length_take] at this
          omega)
        have hU := adj _ _ hau
        have hV := adj _ _ hav
        have eD : ∀ a, (as.map V.ref)[a]? = (as[a]?).map V.ref := fun a => by rw [List.getElem?_map]
        refine r_gtup (.inl (.inl ht)) rfl ?_
        walk_at "z"
        refine r_ixL (.inl (.inl hD2)) (at_of (j := p.1.toNat) (by omega) (by rw [eD, hau]; rfl)) ?_
        walk_at "z"
        refine r_appT hU (lens _) ?_
        walk_at "z"
        refine r_ixL (.inl (.inl ((upd_ne u2.symm).trans hD2))) (at_of (j := p.2.toNat) (by omega) (by rw [eD, hav]; rfl)) ?_
        have hV2 := (upd_ne (H := H') (o := .lst ((adjL (ps.take j) p.1.toNat).map V.int ++ [.int p.2])) ne).trans hV
        walk_at "z"
        refine r_appT hV2 (lens _) ?_
        refine ⟨⟨_, _, _, rfl⟩, same_mut (same_mut s2 u1) v1, (upd_ne v2.symm).trans ((upd_ne u2.symm).trans hD2), fun i a h => ?_⟩
        rw [adjL_next hpj]
        by_cases c2 : a = av
        · subst c2
          have e2 := idx h hav
          subst e2
          rw [if_neg (by omega), if_pos (by omega), upd_same, List.nil_append, List.map_append]
          rfl
        · rw [upd_ne c2]
          by_cases c1 : a = au
          · subst c1
            have e1 := idx h hau
            subst e1
            rw [if_pos (by omega), if_neg (by omega), upd_same, List.append_nil, List.map_append]
            rfl
          · have n1 : p.1 ≠ (i : Int) := fun z => c1 (by
              have e : p.1.toNat = i := by omega
              rw [e, h] at hau
              exact Option.some.inj hau)
            have n2 : p.2 ≠ (i : Int) := fun z => c2 (by
              have e : p.2.toNat = i := by omega
              rw [e, h] at hav
              exact Option.some.inj hav)
            rw [upd_ne c1, if_neg n1, if_neg n2, List.append_nil, List.append_nil]
            exact adj i a h
      · rintro σ' H' ⟨⟨x4, x5, x6, rfl⟩, s2, hD2, adj⟩
        rw [hp.length, List.take_length] at adj
        walk_at "z"
        exact q d as H' s2 hD2 la adj
/-- the bits of a list or tuple -/
def spMask (K : PySem.W.Frag) : Sp := fun vs H Q _ => ∃ (l : Addr) (ns : List Int), vs = [.ref l] ∧ (SqL K H l (ns.map V.int) ∨ SqT K H l (ns.map V.int)) ∧ (∀ v ∈ ns, 0 ≤ v ∧ v < 1000) ∧ ∀ x : Int, Msk x (fun i => i ∈ ns) → Q (.int x) H
theorem ok_mask (T : Blt mg) (D : DefAt K mg "mask_of" s_mask_of ["members"]) : FnOk P w K mg base CX0 1 D.f D.fd ["members"] (spMask K) := by
  refine D.F.ok sc_mask_of (fun vs H Q E h => ?_) (fun cdv A outer s H vs Q E hr h => ?_)
  · obtain ⟨l, ns, rfl, _⟩ := h
    rfl
  · obtain ⟨l, ns, rfl, hl, bd, q⟩ := h
    have step : ∀ (i : Nat) (v x : Int), ns[i]? = some v → Msk x (fun z => z ∈ ns.take i) → Msk (Builtin.bitOr x (1 * 2 ^ v.toNat)) (fun z => z ∈ ns.take (i + 1)) := fun i v x hv m => by
      rw [take_next hv]
      exact m.snoc (bd v (List.mem_of_getElem? hv)).1
    rcases hl with hl | hl
    · refine ⟨_, (pss_cons (ps_set (i := 1) sc_mask_of.nd rfl (Or.inl rfl) pe_int)
      (pss_cons (ps_for PassesOwn.never (by rfl) (PI.listK (K := K) rfl (pi_list (pv 0))) (pg_name (i := 2) sc_mask_of.nd rfl (Or.inl rfl))
        (pss_one (ps_aug (i := 1) sc_mask_of.nd rfl (Or.inl rfl) (pe_op op_shl pe_int (pv 2)) iop_or)))
      (pss_one (ps_ret (pv 1))))), ?_⟩
      refine r_at (σ := [some _, none, none]) rfl ?_
      walk_at "z"
      refine r_il hl (forR_list (xs := ns.map V.int) (fun i σ' H' => H' = H ∧ ∃ (x : Int) (z : Option V), σ' = [some (.ref l), some (.int x), z] ∧ Msk x (fun z => z ∈ ns.take i)) ⟨rfl, _, _, rfl, .nil⟩ (fun i σ' H' _ ⟨eH, _⟩ => eH ▸ hl) ?_ ?_)
      · rintro i v σ' H' hv ⟨rfl, x, z, rfl, m⟩
        rw [List.getElem?_map] at hv
        obtain ⟨v, hv9, rfl⟩ := Option.map_eq_some_iff.mp hv
        obtain ⟨b0, b1⟩ := bd v (List.mem_of_getElem? hv9)
        walk_at "z"
        refine r_aug rfl ?_
        walk_at "z"
        refine r_i ⟨by omega, by omega, by decide⟩ ?_
        refine r_augOr rfl ?_
        exact ⟨rfl, _, _, rfl, step i v x hv9 m⟩
      · rintro σ' H' ⟨rfl, x, z, rfl, m⟩
        rw [List.length_map, List.take_length] at m
        walk_at "z"
        exact q x m
    · refine ⟨_, (pss_cons (ps_set (i := 1) sc_mask_of.nd rfl (Or.inl rfl) pe_int)
      (pss_cons (ps_for PassesOwn.never (by rfl) (PI.tupK (K := K) rfl (pi_tup (pv 0))) (pg_name (i := 2) sc_mask_of.nd rfl (Or.inl rfl))
        (pss_one (ps_aug (i := 1) sc_mask_of.nd rfl (Or.inl rfl) (pe_op op_shl pe_int (pv 2)) iop_or)))
      (pss_one (ps_ret (pv 1))))), ?_⟩
      refine r_at (σ := [some _, none, none]) rfl ?_
      walk_at "z"
      refine r_it hl (forR_tup (xs := ns.map V.int) (fun i σ' H' => H' = H ∧ ∃ (x : Int) (z : Option V), σ' = [some (.ref l), some (.int x), z] ∧ Msk x (fun z => z ∈ ns.take i)) ⟨rfl, _, _, rfl, .nil⟩ (fun i σ' H' _ ⟨eH, _⟩ => eH ▸ hl) ?_ ?_)
      · rintro i v σ' H' hv ⟨rfl, x, z, rfl, m⟩
        rw [List.getElem?_map] at hv
        obtain ⟨v, hv9, rfl⟩ := Option.map_eq_some_iff.mp hv
        obtain ⟨b0, b1⟩ := bd v (List.mem_of_getElem? hv9)
        walk_at "z"
        refine r_aug rfl ?_
        walk_at "z"
        refine r_i ⟨by omega, by omega, by decide⟩ ?_
        refine r_augOr rfl ?_
        exact ⟨rfl, _, _, rfl, step i v x hv9 m⟩
      · rintro σ' H' ⟨rfl, x, z, rfl, m⟩
        rw [List.length_map, List.take_length] at m
        walk_at "z"
        exact q x m
def spNMasks : Sp := fun vs H Q _ => ∃ (g : V) (n : Nat) (ps : List (Int × Int)), vs = [g] ∧ GrAt H g (n : Int) ps ∧ n ≤ 100 ∧ ps.length ≤ 10000 ∧ (∀ p ∈ ps, 0 ≤ p.1 ∧ p.1 < p.2 ∧ p.2 < (n : Int)) ∧
  ∀ (l : Addr) (ms : List Int) (H' : Hp), Same H H' → H' l = some (.lst (ms.map V.int)) → ms.length = n → (∀ i m, ms[i]? = some m → Msk m (fun z => z ∈ adjL ps i)) → Q (.ref l) H'
theorem ok_nmasks (T : Blt mg) (D : DefAt K mg "neighbour_masks" s_neighbour_masks ["graph"]) (D_neighbour_lists : DefAt K mg "neighbour_lists" s_neighbour_lists ["graph"]) (G_neighbour_lists : FnOk P w K mg base CX0 1 D_neighbour_lists.f D_neighbour_lists.fd ["graph"] spNLists)
    (D_mask_of : DefAt K mg "mask_of" s_mask_of ["members"]) (G_mask_of : FnOk P w K mg base CX0 1 D_mask_of.f D_mask_of.fd ["members"] (spMask K)) : FnOk P w K mg base CX0 2 D.f D.fd ["graph"] spNMasks := by
  refine D.F.ok sc_neighbour_masks (fun vs H Q E h => ?_) (fun cdv A outer s H vs Q E hr h => ?_)
  · obtain ⟨g, n, ps, rfl, _⟩ := h
    rfl
  · obtain ⟨g, n, ps, rfl, hgr, hn, hlen, inn, q⟩ := h
    refine ⟨_, (pss_one (ps_ret (pe_lc (own := [("others", 1)]) (by rfl) sc_neighbour_masks.nd (PI.listK (K := K) rfl (pi_list (pe_call G_neighbour_lists (hr.mono (by first | decide | omega)) (by rfl) D_neighbour_lists.g D_neighbour_lists.F.kp D_neighbour_lists.b .nil pass0 (pa_cons (pv 0) pa_nil)))) (blkOk_by (own := [("others", 1)]) (N := ["graph", "others"]) (sc := (defScope s_neighbour_masks)) (by decide +kernel)) (fun _ _ _ _ _ => (pg_name (i := 1) sc_neighbour_masks.nd rfl (Or.inl rfl))) (fun _ _ _ _ _ => pts_nil) (fun _ _ _ _ _ => (pe_call G_mask_of (hr.mono (by first | decide | omega)) (by rfl) D_mask_of.g D_mask_of.F.kp D_mask_of.b .nil pass0 (pa_cons (pv 1) pa_nil)))))), ?_⟩
    refine r_at (σ := [some _, none]) rfl ?_
    walk_at "z"
    refine ⟨g, n, ps, rfl, hgr, hn, hlen, inn, fun l as H1 s1 hl la adj => ?_⟩
    walk_at "z"
    refine r_il (.inl (.inl hl)) fun d hd => lcR_list (xs := as.map V.ref) (fun i H' => Same H1 H' ∧ ∃ ms : List Int, H' d = some (.lst (ms.map V.int)) ∧ ms.length = i ∧ ∀ j m, ms[j]? = some m → Msk m (fun z => z ∈ adjL ps j)) (by walk_at "zw") ⟨same_new hd, [], upd_same, rfl, fun j m h => by simp at h⟩ (fun i H' _ ⟨s2, _⟩ => .inl (.inl (s2 _ _ hl))) ?_ ?_
    · rintro i x H' hx ⟨s2, ms, hm, lm, mk⟩
      rw [List.getElem?_map] at hx
      obtain ⟨a, ha, rfl⟩ := Option.map_eq_some_iff.mp hx
      have hi : i < as.length := (List.getElem?_eq_some_iff.mp ha).1
      walk_at "z"
      refine ⟨rfl, ?_⟩
      walk_at "z"
      refine ⟨a, adjL ps i, rfl, .inl (.inl (.inl (s2 _ _ (adj i a ha)))), fun z hz => ?_, fun x m => ?_⟩
      · rcases mem_adjL.mp hz with c | c
        · have := inn _ c; dsimp only at this; omega
        · have := inn _ c; dsimp only at this; omega
      · refine r_lce hm (small_lt (by rw [List.length_map]; omega)) ⟨same_mut s2 hd, ms ++ [x], by rw [List.map_append]; exact upd_same, by rw [List.length_append, lm]; rfl, fun j y hy => ?_⟩
        rcases Nat.lt_or_ge j ms.length with c | c
        · rw [List.getElem?_append_left c] at hy
          exact mk j y hy
        · rw [List.getElem?_append_right c] at hy
          have : j - ms.length = 0 := by
            have := (List.getElem?_eq_some_iff.mp hy).1
            simp at this
            omega
          rw [this] at hy
          have e1 : x = y := Option.some.inj hy
          have e2 : j = i := by omega
          rw [← e1, e2]
          exact m
    · rintro H' ⟨s2, ms, hm, lm, mk⟩
      rw [List.length_map] at lm
      exact q d ms H' (s1.trans s2) hm (by omega) mk
end

set_option Elab.async false
set_option linter.all false
set_option maxRecDepth 100000
set_option maxHeartbeats 4000000
open PySem PySem.Spec PyProof.Rows L2

abbrev s_law_shuffled : Stmt := topS 328
theorem sc_law_shuffled : FnScope ["pool", "items", "rest", "found", "k"] ["pool", "items"] (defScope s_law_shuffled) := ⟨rfl, rfl, rfl, by decide +kernel, rfl, by decide +kernel, by decide +kernel⟩

abbrev s_law_moved : Stmt := topS 329
theorem sc_law_moved : FnScope ["graph", "order", "pair"] ["graph", "order"] (defScope s_law_moved) := ⟨rfl, rfl, rfl, by decide +kernel, rfl, by decide +kernel, by decide +kernel⟩

abbrev s_law_other : Stmt := topS 330
theorem sc_law_other : FnScope ["graph", "pair"] ["graph"] (defScope s_law_other) := ⟨rfl, rfl, rfl, by decide +kernel, rfl, by decide +kernel, by decide +kernel⟩

section
variable {P : Program} {w : World} {K : PySem.W.Frag} {mg : Str → Option Value} {base : Heap}
theorem r_popAt {H : Hp} {Q : VK} {l : Addr} {xs : List V} {i : Int} {k : Nat} {y : V} (h : H l = some (.lst xs)) (e : i = (k : Int)) (hk : k < 1000000) (hy : xs[k]? = some y) (q : Q y (upd H l (.lst (xs.eraseIdx k)))) : rPopAt (.ref l) [.int i] H Q := by
  have hlt : k < xs.length := (List.getElem?_eq_some_iff.mp hy).1
  refine ⟨l, xs, i, k, y, rfl, rfl, h, by omega, by omega, ?_, hy, q⟩
  subst e
  unfold seqIndex?
  simp only [show ¬ ((k : Int) < 0) by omega, if_false]
  rw [if_pos (by simp; omega)]
  rfl
theorem map_erase {α β : Type} (f : α → β) : ∀ (l : List α) (k : Nat), (l.map f).eraseIdx k = (l.eraseIdx k).map f
  | [], _ => by simp
  | _ :: _, 0 => rfl
  | x :: l, k + 1 => by
    show f x :: (l.map f).eraseIdx k = f x :: (l.eraseIdx k).map f
    rw [map_erase f l k]
theorem get_erase_perm {α : Type} : ∀ (l : List α) {k : Nat} {x : α}, l[k]? = some x → (x :: l.eraseIdx k).Perm l
  | [], _, _, h => by simp at h
  | y :: l, 0, x, h => by
    have e : y = x := Option.some.inj h
    subst e
    exact .refl _
  | y :: l, k + 1, x, h => by
    have ih := get_erase_perm l (k := k) h
    show (x :: y :: l.eraseIdx k).Perm (y :: l)
    exact (List.Perm.swap y x _).trans (ih.cons y)
/-- the items in some order -/
def spShuf (K : PySem.W.Frag) : Sp := fun vs H Q _ => ∃ (a s l : Addr) (ns : List Int), vs = [.ref a, .ref l] ∧ Pool H a s ∧ l ≠ a ∧ H l = some (.lst (ns.map V.int)) ∧ ns.length ≤ 1000 ∧
  ∀ (f : Addr) (ms : List Int) (H' : Hp), H f = none → f ≠ a → Pool H' a s → Gr a H H' → H' f = some (.lst (ms.map V.int)) → ms.Perm ns → Q (.ref f) H'
theorem ok_shuffled (T : Blt mg) (D : DefAt K mg "_law_shuffled" s_law_shuffled ["pool", "items"]) (D_law_draw : DefAt K mg "_law_draw" s_law_draw ["pool", "many"]) (G_law_draw : FnOk P w K mg base CX0 2 D_law_draw.f D_law_draw.fd ["pool", "many"] spDraw) :
    FnOk P w K mg base CX0 3 D.f D.fd ["pool", "items"] (spShuf K) := by
  refine D.F.ok sc_law_shuffled (fun vs H Q E h => ?_) (fun cdv A outer s H vs Q E hr h => ?_)
  · obtain ⟨a, s, l, ns, rfl, _⟩ := h
    rfl
  · obtain ⟨a, s0, l, ns, rfl, hP, hla, hl, hlen, q⟩ := h
    refine ⟨_, (pss_cons (ps_set (i := 2) sc_law_shuffled.nd rfl (Or.inl rfl) (pe_callTy (call_listK (K := K) rfl) (by rfl) T.list (by decide +kernel) (pa_cons (pv 1) pa_nil)))
      (pss_cons (ps_set (i := 3) sc_law_shuffled.nd rfl (Or.inl rfl) (pe_lst pa_nil))
      (pss_cons (ps_for PassesOwn.never (by rfl) (pi_range1 (by rfl) T.range (pa_cons (pe_callB (call_lenK (K := K) rfl) (by rfl) T.len (by decide +kernel) (pa_cons (pv 2) pa_nil)) pa_nil)) (pg_name (i := 4) sc_law_shuffled.nd rfl (Or.inl rfl))
        (pss_one (ps_expr (PE.bmK (K := K) rfl (pe_bm PySem.F.plainAttrs_list PySem.F.slot_list_append PySem.F.type_list_append mt_append (pv 3) (pa_cons (PE.bmK (K := K) rfl (pe_bm PySem.F.plainAttrs_list PySem.F.slot_list_pop PySem.F.type_list_pop mt_popAt (pv 2) (pa_cons (pe_call G_law_draw (hr.mono (by first | decide | omega)) (by rfl) D_law_draw.g D_law_draw.F.kp D_law_draw.b .nil pass0 (pa_cons (pv 0) (pa_cons (pe_callB (call_lenK (K := K) rfl) (by rfl) T.len (by decide +kernel) (pa_cons (pv 2) pa_nil)) pa_nil))) pa_nil))) pa_nil))))))
      (pss_one (ps_ret (pv 3)))))), ?_⟩
    refine r_at (σ := [some _, some _, none, none, none]) rfl ?_
    walk_at "z"
    refine r_listL (.inl (.inl hl)) fun r hr1 => ?_
    walk_at "z"
    refine r_lstN (by decide) fun f hf => ?_
    have rf : r ≠ f := ne_of_none upd_same hf
    have hf0 : H f = none := (same_new hr1).free hf
    walk_at "z"
    rw [List.length_map]
    refine r_rg1 (by omega) (forR_range (fun i σ' H' => (∃ x4, σ' = [some (.ref a), some (.ref l), some (.ref r), some (.ref f), x4]) ∧ Pool H' a s0 ∧ Gr a H H' ∧ ∃ xs ys : List Int, H' r = some (.lst (xs.map V.int)) ∧ H' f = some (.lst (ys.map V.int)) ∧ (xs ++ ys).Perm ns ∧ ys.length = i)
      ⟨⟨_, rfl⟩, (hP.mono (same_new hr1)).mono (same_new hf), (Gr.new hr1).trans (.new hf), ns, [], (upd_ne rf).trans upd_same, upd_same, by rw [List.append_nil], rfl⟩ ?_ ?_)
    · rintro i σ' H' hi ⟨⟨x4, rfl⟩, hP', g, xs, ys, hx, hy, pm, hlen2⟩
      have hi : i < ns.length := by omega
      have lx : xs.length + i = ns.length := by
        have := pm.length_eq
        rw [List.length_append] at this
        omega
      walk_at "z"
      rw [List.length_map]
      refine ⟨a, s0, _, rfl, hP', by omega, by omega, fun c H2 c0 c1 hP2 g2 => ?_⟩
      walk_at "z"
      have hx2 := g2 _ _ (new_ne hP hr1).1 hx
      have hy2 := g2 _ _ (new_ne hP hf0).1 hy
      have hc : c.toNat < xs.length := by omega
      have gx : xs[c.toNat]? = some xs[c.toNat] := List.getElem?_eq_getElem hc
      refine r_popAt hx2 (k := c.toNat) (y := V.int xs[c.toNat]) (by omega) (by omega) (by rw [List.getElem?_map, gx]; rfl) ?_
      rw [map_erase]
      walk_at "z"
      refine r_appT ((upd_ne (Ne.symm rf)).trans hy2) (small_lt ?_) ?_
      · rw [List.length_map]
        omega
      · refine ⟨⟨_, rfl⟩, (hP2.upd (new_ne hP hr1)).upd (new_ne hP hf0), ((g.trans g2).mut hr1).mut hf0, xs.eraseIdx c.toNat, ys ++ [xs[c.toNat]], ?_, ?_, ?_, ?_⟩
        · rw [upd_ne rf]
          exact upd_same
        · rw [List.map_append]
          exact upd_same
        · refine List.Perm.trans ?_ pm
          have p1 : (xs.eraseIdx c.toNat ++ (ys ++ [xs[c.toNat]])).Perm ([xs[c.toNat]] ++ (xs.eraseIdx c.toNat ++ ys)) := by
            rw [← List.append_assoc]
            exact List.perm_append_comm
          exact p1.trans ((get_erase_perm xs gx).append_right ys)
        · rw [List.length_append, hlen2]
          rfl
    · rintro σ' H' ⟨⟨x4, rfl⟩, hP', g, xs, ys, hx, hy, pm, hlen2⟩
      walk_at "z"
      have lx : xs = [] := by
        have := pm.length_eq
        rw [List.length_append] at this
        exact List.eq_nil_of_length_eq_zero (by omega)
      subst lx
      exact q f ys H' hf0 (new_ne hP hf0).1 hP' g hy pm
/-- the graph whose vertices have other numbers -/
def ordP (o : List Int) (p : Int × Int) : Int × Int := (o.getD p.1.toNat 0, o.getD p.2.toNat 0)
def spMoved (K : PySem.W.Frag) : Sp := fun vs H Q _ => ∃ (g : V) (l : Addr) (n : Int) (ps : List (Int × Int)) (o : List Int), vs = [g, .ref l] ∧ GrAt H g n ps ∧ (SqL K H l (o.map V.int) ∨ SqT K H l (o.map V.int)) ∧ ps.length ≤ 10000 ∧
  (∀ p ∈ ps, 0 ≤ p.1 ∧ p.1 < o.length ∧ 0 ≤ p.2 ∧ p.2 < o.length) ∧
  ∀ (v : V) (qs : List (Int × Int)) (H' : Hp), Same H H' → GrAt H' v n qs → qs.Pairwise ltP → (∀ p, p ∈ qs ↔ ∃ r ∈ ps, p = nrm (ordP o r)) → Q v H'
theorem Same.seqT {K : PySem.W.Frag} {H H' : Hp} {a : Addr} {xs : List V} (e : Same H H') (h : SqT K H a xs) : SqT K H' a xs := by
  rcases h with (h | ⟨o, h⟩) | h
  · exact .inl (.inl (e _ _ h))
  · exact .inl (.inr ⟨o, e _ _ h⟩)
  · exact .inr h
theorem at_ord {o : List Int} {z : Int} (h0 : 0 ≤ z) (h1 : z < o.length) : atI (o.map V.int) z = some (.int (o.getD z.toNat 0)) := by
  have hlt : z.toNat < o.length := by omega
  refine at_of (j := z.toNat) (by omega) ?_
  rw [List.getElem?_map, List.getElem?_eq_getElem hlt, List.getD_eq_getElem?_getD, List.getElem?_eq_getElem hlt]
  rfl
theorem ok_moved (T : Blt mg) (D : DefAt K mg "_law_moved" s_law_moved ["graph", "order"]) (D_law_of : DefAt K mg "_law_of" s_law_of ["n", "pairs"]) (G_law_of : FnOk P w K mg base CX0 3 D_law_of.f D_law_of.fd ["n", "pairs"] (spOf K)) :
    FnOk P w K mg base CX0 4 D.f D.fd ["graph", "order"] (spMoved K) := by
  refine D.F.ok sc_law_moved (fun vs H Q E h => ?_) (fun cdv A outer s H vs Q E hr h => ?_)
  · obtain ⟨g, l, n, ps, o, rfl, _⟩ := h
    rfl
  · obtain ⟨g, l, n, ps, o, rfl, ⟨ga, e, rfl, hg, xs, he, hp⟩, ho, hlen, bd, q⟩ := h
    refine ⟨_, (pss_one (ps_ret (pe_call G_law_of (hr.mono (by first | decide | omega)) (by rfl) D_law_of.g D_law_of.F.kp D_law_of.b .nil pass0 (pa_cons (pe_ix (ix_tupK (K := K) rfl) (pv 0) pe_int (fun _ _ => rfl)) (pa_cons (pe_lc (own := [("pair", 2)]) (by rfl) sc_law_moved.nd (PI.tupK (K := K) rfl (pi_tup (pe_ix (ix_tupK (K := K) rfl) (pv 0) pe_int (fun _ _ => rfl)))) (blkOk_by (own := [("pair", 2)]) (N := ["graph", "order", "pair"]) (sc := (defScope s_law_moved)) (by decide +kernel)) (fun _ _ _ _ _ => (pg_name (i := 2) sc_law_moved.nd rfl (Or.inl rfl))) (fun _ _ _ _ _ => pts_nil) (fun _ _ _ _ _ => (pe_tup (pa_cons (pe_ix (ix_eitherK (K := K) rfl) (pv 1) (pe_ix (ix_tupK (K := K) rfl) (pv 2) pe_int (fun _ _ => rfl)) (fun _ _ => rfl)) (pa_cons (pe_ix (ix_eitherK (K := K) rfl) (pv 1) (pe_ix (ix_tupK (K := K) rfl) (pv 2) pe_int (fun _ _ => rfl)) (fun _ _ => rfl)) pa_nil))))) pa_nil))))), ?_⟩
    refine r_at (σ := [some _, some _, none]) rfl ?_
    walk_at "z"
    refine r_it (.inl (.inl he)) fun d hd => lcR_tup (xs := xs) (fun i H' => Same H H' ∧ ∃ ys, H' d = some (.lst ys) ∧ Prs H' ys ((ps.take i).map (ordP o))) (by walk_at "zw") ⟨same_new hd, [], upd_same, .nil⟩ (fun i H' _ ⟨s1, _⟩ => .inl (.inl (s1 _ _ he))) ?_ ?_
    · rintro i x H' hx ⟨s1, ys, hy, hys⟩
      obtain ⟨p, hpi, hxp⟩ := pd_get (hp.tk (.of_same s1)) hx
      obtain ⟨t, rfl, ht⟩ := hxp
      obtain ⟨b1, b2, b3, b4⟩ := bd p (List.mem_of_getElem? hpi)
      have ho' : SqL K H' l (o.map V.int) ∨ SqT K H' l (o.map V.int) := ho.imp s1.seq (Same.seqT s1)
      walk_at "z"
      refine ⟨rfl, ?_⟩
      walk_at "z"
      refine r_ixE ho' (at_ord b1 b2) ?_
      walk_at "z"
      refine r_ixE ho' (at_ord b3 b4) ?_
      walk_at "z"
      refine r_tupN sz2 fun t2 ht2 => ?_
      refine r_lce (by walk_at "zh") (small_lt ?_) ⟨same_mut (s1.trans (same_new ht2)) hd, _, upd_same, ?_⟩
      · rw [hys.length, List.length_map, List.length_take]
        omega
      · rw [take_next hpi, List.map_append]
        exact prs_push hy hys ht2
    · rintro H' ⟨s1, ys, hy, hys⟩
      rw [hp.length, List.take_length] at hys
      walk_at "z"
      refine ⟨n, d, ys, _, rfl, .inl (.inl hy), hys, by rw [List.length_map]; exact hlen, fun v qs H2 s2 hv asc mem => ?_⟩
      refine q v qs H2 (s1.trans s2) hv asc fun p => ?_
      rw [mem]
      constructor
      · rintro ⟨r, hr, rfl⟩
        obtain ⟨r', hr', rfl⟩ := List.mem_map.mp hr
        exact ⟨r', hr', rfl⟩
      · rintro ⟨r, hr, rfl⟩
        exact ⟨_, List.mem_map.mpr ⟨r, hr, rfl⟩, rfl⟩
/-- the graph of the pairs that are none -/
def spOther : Sp := fun vs H Q _ => ∃ (g : V) (n : Nat) (ps : List (Int × Int)), vs = [g] ∧ GrAt H g (n : Int) ps ∧ n ≤ 100 ∧
  ∀ (v : V) (H' : Hp), Same H H' → GrAt H' v (n : Int) ((allP n).filter fun p => decide (p ∉ ps)) → Q v H'
theorem ok_other (T : Blt mg) (D : DefAt K mg "_law_other" s_law_other ["graph"]) (D_law_pairs : DefAt K mg "_law_pairs" s_law_pairs ["n"]) (G_law_pairs : FnOk P w K mg base CX0 1 D_law_pairs.f D_law_pairs.fd ["n"] spPairs) :
    FnOk P w K mg base CX0 2 D.f D.fd ["graph"] spOther := by
  refine D.F.ok sc_law_other (fun vs H Q E h => ?_) (fun cdv A outer s H vs Q E hr h => ?_)
  · obtain ⟨g, n, ps, rfl, _⟩ := h
    rfl
  · obtain ⟨g, n, ps, rfl, ⟨ga, e, rfl, hg, xs, he, hp⟩, hn, q⟩ := h
    refine ⟨_, (pss_one (ps_ret (pe_tup (pa_cons (pe_ix (ix_tupK (K := K) rfl) (pv 0) pe_int (fun _ _ => rfl)) (pa_cons (pe_callTy (call_tupleK (K := K) rfl) (by rfl) T.tuple (by decide +kernel) (pa_cons (pe_lc (own := [("pair", 1)]) (by rfl) sc_law_other.nd (PI.listK (K := K) rfl (pi_list (pe_call G_law_pairs (hr.mono (by first | decide | omega)) (by rfl) D_law_pairs.g D_law_pairs.F.kp D_law_pairs.b .nil pass0 (pa_cons (pe_ix (ix_tupK (K := K) rfl) (pv 0) pe_int (fun _ _ => rfl)) pa_nil)))) (blkOk_by (own := [("pair", 1)]) (N := ["graph", "pair"]) (sc := (defScope s_law_other)) (by decide +kernel)) (fun _ _ _ _ _ => (pg_name (i := 1) sc_law_other.nd rfl (Or.inl rfl))) (fun _ _ _ _ _ => (pts_one (pt_cmpR (op_ninPK (K := K) rfl hr) (pv 1) (pe_ix (ix_tupK (K := K) rfl) (pv 0) pe_int (fun _ _ => rfl)) (by rfl)))) (fun _ _ _ _ _ => (pv 1))) pa_nil)) pa_nil))))), ?_⟩
    refine r_at (σ := [some _, none]) rfl ?_
    walk_at "z"
    refine ⟨n, rfl, hn, fun l zs H1 hl s1 hz hzs => ?_⟩
    refine r_il (.inl (.inl hz)) fun d hd => lcR_list (xs := zs) (fun i H' => Same H1 H' ∧ ∃ ys, H' d = some (.lst ys) ∧ Prs H' ys (((allP n).take i).filter fun p => decide (p ∉ ps))) (by walk_at "zw") ⟨same_new hd, [], upd_same, .nil⟩ (fun i H' _ ⟨s2, _⟩ => .inl (.inl (s2 _ _ hz))) ?_ ?_
    · rintro i x H' hx ⟨s2, ys, hy, hys⟩
      obtain ⟨p, hpi, hxp⟩ := pd_get (hzs.tk (.of_same s2)) hx
      have sm := s1.trans s2
      walk_at "z"
      refine ⟨rfl, ?_⟩
      have hg' := sm _ _ hg
      have he' := sm _ _ he
      walk_at "z"
      refine ⟨p, e, xs, ps, hxp, rfl, .inl (.inl he'), hp.tk (.of_same sm), ?_⟩
      walk_at "z"
      have suc : ((allP n).take (i + 1)).filter (fun p => decide (p ∉ ps)) = ((allP n).take i).filter (fun p => decide (p ∉ ps)) ++ (if p ∉ ps then [p] else []) := by
        rw [take_next hpi, List.filter_append, List.filter_cons, List.filter_nil]
        by_cases h : p ∈ ps <;> simp [h]
      refine r_iteN (fun h => ?_) (fun h => ?_)
      · walk_at "z"
        refine r_lce hy (small_lt ?_) ⟨same_mut s2 hd, _, upd_same, ?_⟩
        · have h1 := hys.length
          have h2 := List.length_filter_le (fun p => decide (p ∉ ps)) ((allP n).take i)
          have h3 : ((allP n).take i).length ≤ (allP n).length := by
            rw [List.length_take]
            omega
          have h4 := preP_len (n := n) (i := n)
          have h5 : n * n ≤ 100 * 100 := Nat.mul_le_mul hn hn
          unfold allP at *
          omega
        · rw [suc, if_pos h]
          have kk : TK H' (upd H' d (.lst (ys ++ [x]))) := .lst hy
          exact (hys.tk kk).snoc (hxp.tk kk)
      · refine ⟨s2, ys, hy, ?_⟩
        rw [suc, if_neg (fun z => z h), List.append_nil]
        exact hys
    · rintro H' ⟨s2, ys, hy, hys⟩
      rw [hzs.length, List.take_length] at hys
      walk_at "z"
      refine r_tupL (.inl (.inl hy)) fun e2 he2 => ?_
      walk_at "z"
      refine r_tupN sz2 fun g2 hg2 => ?_
      have s3 : Same H' (upd H' e2 (.tup ys)) := same_new he2
      have s4 := s3.trans (same_new (o := .tup [.int (n : Int), .ref e2]) hg2)
      exact q _ _ ((s1.trans s2).trans s4) ⟨g2, e2, rfl, upd_same, ys, (upd_ne (ne_of_none upd_same hg2)).trans upd_same, hys.tk (.of_same s4)⟩
end

set_option Elab.async false
set_option linter.all false
set_option maxRecDepth 100000
set_option maxHeartbeats 4000000
open PySem PySem.Spec PyProof.Rows L2

abbrev s_members_of : Stmt := topS 25
theorem sc_members_of : FnScope ["mask", "found", "low"] ["mask"] (defScope s_members_of) := ⟨rfl, rfl, rfl, by decide +kernel, rfl, by decide +kernel, by decide +kernel⟩

/-- a tuple of ints -/
def ITup (H : Hp) (x : V) (ns : List Int) : Prop := ∃ t, x = .ref t ∧ H t = some (.tup (ns.map V.int))
theorem ITup.tk {H H' : Hp} (k : TK H H') {x : V} {ns : List Int} (h : ITup H x ns) : ITup H' x ns := by
  obtain ⟨t, e, h⟩ := h
  exact ⟨t, e, k _ _ h⟩
abbrev ITups (H : Hp) : List V → List (List Int) → Prop := Paired (ITup H)
theorem ITups.tk {H H' : Hp} (k : TK H H') : ∀ {xs : List V} {ps : List (List Int)}, ITups H xs ps → ITups H' xs ps
  | _, _, .nil => .nil
  | _, _, .cons h t => .cons (h.tk k) (ITups.tk k t)
section
variable {P : Program} {w : World} {K : PySem.W.Frag} {mg : Str → Option Value} {base : Heap}
/-- the set of a mask, ascending -/
def spMem : Sp := fun vs H Q _ => ∃ (x : Int) (S : Int → Prop), vs = [.int x] ∧ Msk x S ∧ (∀ i : Nat, S i → i < 1000) ∧
  ∀ (p : Addr) (ns : List Int) (H' : Hp), Same H H' → H' p = some (.tup (ns.map V.int)) → H p = none → ns.Pairwise (· < ·) → (∀ z, z ∈ ns ↔ 0 ≤ z ∧ S z) → Q (.ref p) H'
theorem asc_len {n : Nat} {ns : List Int} (asc : ns.Pairwise (· < ·)) (h : ∀ v ∈ ns, 0 ≤ v ∧ v < (n : Int)) : ns.length ≤ n := by
  have nd : ns.Nodup := asc.imp fun {a b} h => by omega
  have := nodup_le ns (rgI (n : Int)) nd fun v hv => mem_rgI.mpr (h v hv)
  rw [rgI_len] at this
  omega
theorem ok_members (T : Blt mg) (D : DefAt K mg "members_of" s_members_of ["mask"]) : FnOk P w K mg base CX0 1 D.f D.fd ["mask"] spMem := by
  refine D.F.ok sc_members_of (fun vs H Q E h => ?_) (fun cdv A outer s H vs Q E hr h => ?_)
  · obtain ⟨x, S, rfl, _⟩ := h
    rfl
  · obtain ⟨x, S, rfl, m, bd, q⟩ := h
    refine ⟨_, (pss_cons (ps_set (i := 1) sc_members_of.nd rfl (Or.inl rfl) (pe_lst pa_nil))
      (pss_cons (ps_while PassesOwn.never (pt_cmpR op_gt (pv 0) pe_int (nomark _))
        (pss_cons (ps_set (i := 2) sc_members_of.nd rfl (Or.inl rfl) (pe_op op_and (pv 0) (pe_un un_neg (pv 0))))
        (pss_cons (ps_expr (PE.bmK (K := K) rfl (pe_bm PySem.F.plainAttrs_list PySem.F.slot_list_append PySem.F.type_list_append mt_append (pv 1) (pa_cons (pe_op op_sub (PE.bm0K (K := K) rfl (pe_bm0 PySem.F.plainAttrs_int PySem.F.slot_int_bit_length PySem.F.type_int_bit_length mt_bitlen (pv 2))) pe_int) pa_nil))))
        (pss_one (ps_aug (i := 0) sc_members_of.nd rfl (Or.inl rfl) (pv 2) iop_xor)))))
      (pss_one (ps_ret (pe_callTy (call_tupleK (K := K) rfl) (by rfl) T.tuple (by decide +kernel) (pa_cons (pv 1) pa_nil)))))), ?_⟩
    refine r_at (σ := [some _, none, none]) rfl ?_
    walk_at "z"
    refine r_lstN (by decide) fun f hf => ?_
    walk_at "z"
    let W : Nat → L2.St → Hp → Prop := fun k σ' H' => ∃ (y : Int) (ns : List Int) (x3 : Option V), σ' = [some (.int y), some (.ref f), x3] ∧ k = y.toNat ∧ Same H H' ∧ H' f = some (.lst (ns.map V.int)) ∧ ns.Pairwise (· < ·) ∧ Msk y (fun i => S i ∧ i ∉ ns) ∧ (∀ v ∈ ns, 0 ≤ v ∧ v < 1000 ∧ S v) ∧ (∀ v ∈ ns, ∀ i : Nat, Bit y i = true → v < i)
    have start : W x.toNat [some (.int x), some (.ref f), none] (upd H f (.lst [])) := ⟨x, [], none, rfl, rfl, same_new hf, upd_same, .nil, m.congr fun i => by simp, fun v h => (nomatch h), fun v h => (nomatch h)⟩
    refine r_while W _ start ?_
    rintro k σ' H1 ⟨y, ns, x3, rfl, rfl, s1, hF, asc, my, sub, low⟩
    have y0 := my.nn
    walk_at "z"
    refine r_ite (fun c => ?_) (fun c => ?_)
    · refine r_whGo ?_
      obtain ⟨b, e1, e2, e3, e4, e5, e6⟩ := low_bit (x := y) (by omega)
      have hb := (my.bts b).mp e2
      have b1 := bd b hb.1
      walk_at "z"
      refine r_appT hF (small_lt (by
        have := asc_len (n := 1000) asc fun v hv => ⟨(sub v hv).1, (sub v hv).2.1⟩
        rw [List.length_map]
        omega)) ?_
      walk_at "z"
      refine r_aug rfl ?_
      walk_at "z"
      refine r_augI rfl ?_
      have eb : ((Builtin.Int.intBits (Builtin.bitAnd y (-y)) : Nat) : Int) - 1 = (b : Int) := by
        rw [e1, intBits_pow]
        omega
      rw [eb]
      refine ⟨(Builtin.bitXor y (Builtin.bitAnd y (-y))).toNat, by omega, _, ns ++ [(b : Int)], _, rfl, rfl, same_mut s1 hf, by rw [List.map_append]; exact upd_same, ?_, .of e4 fun i => ?_, fun v hv => ?_, fun v hv i hi => ?_⟩
      · refine List.pairwise_append.mpr ⟨asc, by simp, fun a ha c hc => ?_⟩
        rw [List.mem_singleton.mp hc]
        exact low a ha b e2
      · rw [e6, Bool.and_eq_true, my.bts i, Bool.not_eq_true', decide_eq_false_iff_not, List.mem_append, List.mem_singleton]
        constructor
        · rintro ⟨⟨h1, h2⟩, h3⟩
          exact ⟨h1, fun z => z.elim h2 fun z => h3 (by omega)⟩
        · rintro ⟨h1, h2⟩
          exact ⟨⟨h1, fun z => h2 (.inl z)⟩, fun z => h2 (.inr (by omega))⟩
      · rcases List.mem_append.mp hv with h | h
        · exact sub v h
        · rw [List.mem_singleton.mp h]
          exact ⟨by omega, by omega, hb.1⟩
      · rw [e6, Bool.and_eq_true, Bool.not_eq_true', decide_eq_false_iff_not] at hi
        rcases List.mem_append.mp hv with h | h
        · exact low v h i hi.1
        · rw [List.mem_singleton.mp h]
          rcases Nat.lt_or_ge i b with z | z
          · rw [e3 i z] at hi
            exact absurd hi.1 Bool.false_ne_true
          · have := hi.2
            omega
    · walk_at "z"
      refine r_tupL (.inl (.inl hF)) fun p hp => ?_
      have e : y = 0 := by omega
      subst e
      refine q p ns _ (s1.trans (same_new hp)) upd_same (s1.free hp) asc fun z => ⟨fun h => ⟨(sub z h).1, (sub z h).2.2⟩, fun ⟨h1, h2⟩ => ?_⟩
      refine Classical.byContradiction fun n => ?_
      have := my.ne0.mpr ⟨z.toNat, by
        rw [show ((z.toNat : Nat) : Int) = z by omega]
        exact ⟨h2, n⟩⟩
      exact this rfl
end

set_option Elab.async false
set_option linter.all false
set_option maxRecDepth 100000
set_option maxHeartbeats 4000000
open PySem PySem.Spec PyProof.Rows L2 LamX

abbrev s_reached_by : Stmt := topS 55
theorem sc_reached_by : FnScope ["steps", "start", "before", "layer", "further", "v", "w"] ["steps", "start"] (defScope s_reached_by) := ⟨rfl, rfl, rfl, by decide +kernel, rfl, by decide +kernel, by decide +kernel⟩

abbrev s_reached : Stmt := topS 54
theorem sc_reached : FnScope ["around", "start", "v"] ["around", "start"] (defScope s_reached) := ⟨rfl, rfl, rfl, by decide +kernel, rfl, by decide +kernel, by decide +kernel⟩

/-- what is found so far by breadth -/
structure BI (L : Int → List Int) (U : List Int) (a : Int) (ks : List Int) (par : Int → Int) (dd : Int → Nat) : Prop where
  nd : ks.Nodup
  am : a ∈ ks
  sub : ∀ p ∈ ks, p ∈ U
  pa : par a = a
  da : dd a = 0
  up : ∀ p ∈ ks, p ≠ a → par p ∈ ks ∧ p ∈ L (par p) ∧ dd p = dd (par p) + 1
  ord : ∀ (i : Nat) p, ks[i]? = some p → p ≠ a → par p ∈ ks.take i
def putI {β : Type} (f : Int → β) (w : Int) (b : β) : Int → β := fun z => if z = w then b else f z
theorem putI_at {β : Type} (f : Int → β) (w : Int) (b : β) : putI f w b w = b := if_pos rfl
theorem putI_ne {β : Type} (f : Int → β) {w z : Int} (b : β) (h : z ≠ w) : putI f w b z = f z := if_neg h
theorem BI.add {L : Int → List Int} {U : List Int} {a : Int} {ks : List Int} {par : Int → Int} {dd : Int → Nat} (h : BI L U a ks par dd) {v w : Int} (hv : v ∈ ks) (hw : w ∉ ks) (hl : w ∈ L v) (hU : w ∈ U) : BI L U a (ks ++ [w]) (putI par w v) (putI dd w (dd v + 1)) := by
  have wa : a ≠ w := fun z => hw (z ▸ h.am)
  have vw : v ≠ w := fun z => hw (z ▸ hv)
  refine ⟨List.nodup_append.mpr ⟨h.nd, by simp, fun x hx y hy e => hw (by rw [← List.mem_singleton.mp hy, ← e]; exact hx)⟩, List.mem_append_left _ h.am, fun p hp => ?_, by rw [putI_ne _ _ wa]; exact h.pa, by rw [putI_ne _ _ wa]; exact h.da, fun p hp ne => ?_, fun i p hp ne => ?_⟩
  · rcases List.mem_append.mp hp with c | c
    · exact h.sub p c
    · rw [List.mem_singleton.mp c]
      exact hU
  · rcases List.mem_append.mp hp with c | c
    · obtain ⟨h1, h2, h3⟩ := h.up p c ne
      have pw : p ≠ w := fun z => hw (z ▸ c)
      have qw : par p ≠ w := fun z => hw (z ▸ h1)
      rw [putI_ne _ _ pw, putI_ne _ _ pw, putI_ne _ _ qw]
      exact ⟨List.mem_append_left _ h1, h2, h3⟩
    · rw [List.mem_singleton.mp c, putI_at, putI_at, putI_ne _ _ vw]
      exact ⟨List.mem_append_left _ hv, hl, rfl⟩
  · rcases Nat.lt_or_ge i ks.length with c | c
    · rw [List.getElem?_append_left c] at hp
      have pw : p ≠ w := fun z => hw (z ▸ List.mem_of_getElem? hp)
      rw [putI_ne _ _ pw, List.take_append_of_le_length (Nat.le_of_lt c)]
      exact h.ord i p hp ne
    · rw [List.getElem?_append_right c] at hp
      have e : i - ks.length = 0 := by
        have := (List.getElem?_eq_some_iff.mp hp).1
        simp only [List.length_cons, List.length_nil] at this
        omega
      rw [e] at hp
      have ep : w = p := Option.some.inj hp
      rw [← ep, putI_at, show i = ks.length by omega, List.take_left]
      exact hv
/-- what reached_by makes of the steps' reading, over ints -/
def TTi : (V → Hp → VK → Prop) → V → Hp → VK → Prop := fun tl v2 H Q => ∃ (L : Int → List Int) (U : List Int) (a : Int), v2 = .int a ∧ a ∈ U ∧ (∀ p ∈ U, ∀ q ∈ L p, q ∈ U) ∧ U.length ≤ 1000 ∧
  (∀ H1, Same H H1 → ∀ p ∈ U, ∀ Q' : VK, (∀ f : Addr, H f = some (.lst ((L p).map V.int)) → Q' (.ref f) H1) → tl (.int p) H1 Q') ∧
  ∀ (d : Addr) (kvs : List (L2.Key × V)) (ks : List Int) (par : Int → Int) (dd : Int → Nat) (H' : Hp), Same H H' → H d = none → H' d = some (.dK kvs) → kvs.map (·.1) = ks.map Sum.inl → (∀ p ∈ ks, valV kvs (.inl p) = some (.int (par p))) → BI L U a ks par dd → (∀ p ∈ ks, ∀ q ∈ L p, q ∈ ks ∧ dd q ≤ dd p + 1) → Q (.ref d) H'
section
variable {P : Program} {w : World} {K : PySem.W.Frag} {mg : Str → Option Value} {base : Heap}
theorem gives_reachedI {Nf : List Str} {qf : Str} {scf : Scope} {ff : Addr} {cdf : Value} {A0 : Around} {o0 : List Env} {s0 : Shared} {H0 : Hp} {E0 : XK} {g : Addr} {cdg : Value} {q : Str} {k : Nat} :
    GivesTo2 (cxOf CX0 P w K mg base Nf qf scf ff cdf A0 o0 s0 H0 E0).nox ["steps", "start", "before", "layer", "further", "v", "w"] "reached_by" (defScope s_reached_by) g cdg (defBody s_reached_by) "steps" q k TTi := by
  intro f c' s H Q v2 tl hr act hc h
  obtain ⟨L, U, a, rfl, au, cl, ul, hs, q0⟩ := h
  refine ⟨_, (pss_cons (ps_set (i := 2) sc_reached_by.nd rfl (Or.inl rfl) (pe_disp (pps_cons (pv 1) (pv 1) pps_nil) (by rfl) (by rfl) (by simp) (by decide)))
      (pss_cons (ps_set (i := 3) sc_reached_by.nd rfl (Or.inl rfl) (pe_lst (pa_cons (pv 1) pa_nil)))
      (pss_cons (ps_while PassesOwn.never (pt_truthK (K := K) rfl (pv 3) (by intro _; rfl))
        (pss_cons (ps_set (i := 4) sc_reached_by.nd rfl (Or.inl rfl) (pe_lst pa_nil))
        (pss_cons (ps_for PassesOwn.never (by rfl) (PI.listK (K := K) rfl (pi_list (pv 3))) (pg_name (i := 5) sc_reached_by.nd rfl (Or.inl rfl))
          (pss_one (ps_for PassesOwn.never (by rfl) (PI.listK (K := K) rfl (pi_list (act _ _ _ _ (pv 5) rfl))) (pg_name (i := 6) sc_reached_by.nd rfl (Or.inl rfl))
            (pss_one (ps_if (pt_cmp (pc_dnotin (hu_of hr) (pv 6) (pv 2)))
              (pss_cons (ps_dput (hu_of hr) (pv 2) (pv 6) (pv 5) rfl)
              (pss_one (ps_expr (PE.bmK (K := K) rfl (pe_bm PySem.F.plainAttrs_list PySem.F.slot_list_append PySem.F.type_list_append mt_append (pv 4) (pa_cons (pv 6) pa_nil))))))
              pss_nil)))))
        (pss_one (ps_set (i := 3) sc_reached_by.nd rfl (Or.inl rfl) (pv 4))))))
      (pss_one (ps_ret (pv 2)))))), ?_⟩
  refine r_at (σ := [some _, some _, none, none, none, none, none]) rfl ?_
  walk_at "z"
  refine r_dispI fun d hd => ?_
  walk_at "z"
  refine r_dispN upd_same ?_
  rw [upd_upd]
  have sd : Same H (upd H d (.dK [(.inl a, .int a)])) := same_new hd
  have hdd : (upd H d (.dK [(.inl a, .int a)])) d = some (.dK [(.inl a, .int a)]) := upd_same
  generalize upd H d (.dK [(.inl a, .int a)]) = H1 at sd hdd ⊢
  walk_at "z"
  refine r_lstN sz1 fun la hla => ?_
  have s0' : Same H (upd H1 la (.lst [.int a])) := sd.trans (same_new hla)
  have hd2 : (upd H1 la (.lst [.int a])) d = some (.dK [(.inl a, .int a)]) := same_new hla _ _ hdd
  have hl2 : (upd H1 la (.lst [.int a])) la = some (.lst ([a].map V.int)) := upd_same
  generalize upd H1 la (.lst [.int a]) = H2 at s0' hd2 hl2 ⊢
  walk_at "z"
  have bnd : ∀ {ks : List Int} {par : Int → Int} {dd : Int → Nat}, BI L U a ks par dd → ks.length ≤ U.length := fun h => nodup_le _ U h.nd h.sub
  let W : Nat → L2.St → Hp → Prop := fun m σ' H' => ∃ (kvs : List (L2.Key × V)) (ks ls : List Int) (par : Int → Int) (dd : Int → Nat) (lv : Nat) (la : Addr) (x4 x5 x6 : Option V), σ' = [some (.ref f), some (.int a), some (.ref d), some (.ref la), x4, x5, x6] ∧ m = 2 * (U.length - ks.length) + min ls.length 1 ∧ Same H H' ∧ H' d = some (.dK kvs) ∧
    kvs.map (·.1) = ks.map Sum.inl ∧ (∀ p ∈ ks, valV kvs (.inl p) = some (.int (par p))) ∧ BI L U a ks par dd ∧ H' la = some (.lst (ls.map V.int)) ∧ (∀ p ∈ ls, p ∈ ks ∧ dd p = lv) ∧ (∀ p ∈ ks, dd p ≤ lv) ∧ (∀ p ∈ ks, p ∉ ls → ∀ q ∈ L p, q ∈ ks ∧ dd q ≤ dd p + 1)
  have b0 : BI L U a [a] (fun z => z) (fun _ => 0) := ⟨by simp, List.mem_cons_self, fun p hp => by rw [List.mem_singleton.mp hp]; exact au, rfl, rfl, fun p hp ne => absurd (List.mem_singleton.mp hp) ne, fun i p hp ne => absurd (List.mem_singleton.mp (List.mem_of_getElem? hp)) ne⟩
  have start : W (2 * (U.length - 1) + 1) [some (.ref f), some (.int a), some (.ref d), some (.ref la), none, none, none] H2 :=
    ⟨_, [a], [a], _, _, 0, la, none, none, none, rfl, rfl, s0', hd2, rfl, fun p hp => by rw [List.mem_singleton.mp hp]; exact valV_pos rfl, b0, hl2, fun p hp => ⟨hp, rfl⟩, fun p hp => Nat.le_refl 0, fun p hp hn => absurd hp hn⟩
  refine r_while W _ start ?_
  rintro m σ' H3 ⟨kvs, ks, ls, par, dd, lv, la, x4, x5, x6, rfl, rfl, s3, hd3, hk, hv3, B3, hla3, sub, top, cls⟩
  walk_at "z"
  refine r_truL hla3 ?_
  have kl := bnd B3
  by_cases hne : ls = []
  · subst hne
    refine iteF ?_
    walk_at "z"
    exact q0 d kvs ks par dd _ s3 hd hd3 hk hv3 B3 fun p hp => cls p hp (by simp)
  · have e1 : (!(ls.map V.int).isEmpty) = true := by
      cases ls with
      | nil => exact absurd rfl hne
      | cons _ _ => rfl
    have l1 : min ls.length 1 = 1 := by
      cases ls with
      | nil => exact absurd rfl hne
      | cons _ _ => simp only [List.length_cons]; omega
    rw [e1]
    refine iteT (r_whGo ?_)
    walk_at "z"
    refine r_lstN (by decide) fun fu hfu => ?_
    have fr : H fu = none := s3.free hfu
    have nd4 : (upd H3 fu (.lst [])) d = some (.dK kvs) := same_new hfu _ _ hd3
    have nl4 := same_new (o := .lst []) hfu _ _ hla3
    have nf4 : (upd H3 fu (.lst [])) fu = some (.lst (([] : List Int).map V.int)) := upd_same
    have s4 : Same H (upd H3 fu (.lst [])) := s3.trans (same_new hfu)
    have nla : la ≠ fu := ne_of_none hla3 hfu
    generalize upd H3 fu (.lst []) = H4 at nd4 nl4 nf4 s4 ⊢
    walk_at "z"
    refine r_il (.inl (.inl nl4)) (forR_list (xs := ls.map V.int) (fun j σ' H' => ∃ (kv' : List (L2.Key × V)) (ks' fs : List Int) (par : Int → Int) (dd : Int → Nat) (x5 x6 : Option V), σ' = [some (.ref f), some (.int a), some (.ref d), some (.ref la), some (.ref fu), x5, x6] ∧ Same H H' ∧ H' la = some (.lst (ls.map V.int)) ∧ H' d = some (.dK kv') ∧ kv'.map (·.1) = ks'.map Sum.inl ∧ (∀ p ∈ ks', valV kv' (.inl p) = some (.int (par p))) ∧
      BI L U a ks' par dd ∧ H' fu = some (.lst (fs.map V.int)) ∧ (∀ p ∈ fs, p ∈ ks' ∧ dd p = lv + 1) ∧ ks'.length = ks.length + fs.length ∧ (∀ p ∈ ls, p ∈ ks' ∧ dd p = lv) ∧ (∀ p ∈ ks', dd p ≤ lv + 1) ∧ (∀ p ∈ ks', p ∉ fs → p ∉ ls.drop j → ∀ q ∈ L p, q ∈ ks' ∧ dd q ≤ dd p + 1))
      ⟨kvs, ks, [], par, dd, _, _, rfl, s4, nl4, nd4, hk, hv3, B3, nf4, fun p hp => (nomatch hp), rfl, sub, fun p hp => Nat.le_succ_of_le (top p hp), fun p hp _ hn => cls p hp hn⟩ (fun j σ' H' _ ⟨_, _, _, _, _, _, _, _, _, z, _⟩ => .inl (.inl z)) ?_ ?_)
    · rintro j x σ' H5 hx ⟨kv', ks', fs, par, dd, x5, x6, rfl, s5, nl5, nd5, hk5, hv5, B5, nf5, fs5, len5, old5, top5, cls5⟩
      rw [List.getElem?_map] at hx
      obtain ⟨v, hv, rfl⟩ := Option.map_eq_some_iff.mp hx
      obtain ⟨vm, vd⟩ := old5 v (List.mem_of_getElem? hv)
      have vU := B5.sub v vm
      walk_at "z"
      refine ⟨rfl, ?_⟩
      walk_at "z"
      refine ⟨s5 _ _ hc, hs H5 s5 v vU _ fun fl hfl => ?_⟩
      have nfl : fl ≠ fu := ne_of_none hfl fr
      have ndl : fl ≠ d := ne_of_none hfl hd
      refine r_il (.inl (.inl (s5 _ _ hfl))) (forR_list (xs := (L v).map V.int) (fun i σ' H' => ∃ (kv2 : List (L2.Key × V)) (ks2 fs2 : List Int) (par : Int → Int) (dd : Int → Nat) (x6 : Option V), σ' = [some (.ref f), some (.int a), some (.ref d), some (.ref la), some (.ref fu), some (.int v), x6] ∧ Same H H' ∧ H' la = some (.lst (ls.map V.int)) ∧ H' d = some (.dK kv2) ∧ kv2.map (·.1) = ks2.map Sum.inl ∧ (∀ p ∈ ks2, valV kv2 (.inl p) = some (.int (par p))) ∧
        BI L U a ks2 par dd ∧ H' fu = some (.lst (fs2.map V.int)) ∧ (∀ p ∈ fs2, p ∈ ks2 ∧ dd p = lv + 1) ∧ ks2.length = ks.length + fs2.length ∧ (∀ p ∈ ls, p ∈ ks2 ∧ dd p = lv) ∧ (∀ p ∈ ks2, dd p ≤ lv + 1) ∧ (∀ p ∈ ks2, p ∉ fs2 → p ∉ ls.drop j → ∀ q ∈ L p, q ∈ ks2 ∧ dd q ≤ dd p + 1) ∧ (∀ q ∈ (L v).take i, q ∈ ks2))
        ⟨kv', ks', fs, par, dd, _, rfl, s5, nl5, nd5, hk5, hv5, B5, nf5, fs5, len5, old5, top5, cls5, fun q hq => by simp at hq⟩ (fun i σ' H' _ ⟨_, _, _, _, _, _, _, z, _⟩ => .inl (.inl (z _ _ hfl))) ?_ ?_)
      · rintro i x σ' H7 hx7 ⟨kv2, ks2, fs2, par, dd, x6, rfl, s7, nl7, nd7, hk7, hv7, B7, nf7, fs7, len7, old7, top7, cls7, tak7⟩
        rw [List.getElem?_map] at hx7
        obtain ⟨u, hu, rfl⟩ := Option.map_eq_some_iff.mp hx7
        have um : u ∈ L v := List.mem_of_getElem? hu
        have kl7 := bnd B7
        have kvl : kv2.length = ks2.length := by
          have := congrArg List.length hk7
          simpa using this
        obtain ⟨vm7, vd7⟩ := old7 v (List.mem_of_getElem? hv)
        walk_at "z"
        refine r_dnK nd7 ?_
        rw [valI_mem hk7]
        walk_at "z"
        refine r_iteN (fun hn => ?_) (fun hn => ?_)
        · walk_at "z"
          refine r_dput ?_
          walk_at "z"
          refine r_dputK nd7 (small_lt (by omega)) ?_
          have ed : fu ≠ d := fun z => by
            rw [z, nd7] at nf7
            cases nf7
          have ela : la ≠ d := fun z => by
            rw [z, nd7] at nl7
            cases nl7
          have nd8 : (upd H7 d (.dK (putK kv2 (.inl u) (.int v)))) d = some (.dK (putK kv2 (.inl u) (.int v))) := upd_same
          have nf8 : (upd H7 d (.dK (putK kv2 (.inl u) (.int v)))) fu = some (.lst (fs2.map V.int)) := (upd_ne ed).trans nf7
          have nl8 : (upd H7 d (.dK (putK kv2 (.inl u) (.int v)))) la = some (.lst (ls.map V.int)) := (upd_ne ela).trans nl7
          have s8 : Same H (upd H7 d (.dK (putK kv2 (.inl u) (.int v)))) := same_mut s7 hd
          have hk8 := putKI hk7 (.int v) hn
          have hv8 : ∀ p ∈ ks2 ++ [u], valV (putK kv2 (.inl u) (.int v)) (.inl p) = some (.int (putI par u v p)) := fun p hp => by
            rw [valV_put]
            by_cases e : p = u
            · rw [e, if_pos rfl, putI_at]
            · rw [if_neg (fun z => e (Sum.inl.inj z)), putI_ne _ _ e]
              rcases List.mem_append.mp hp with c | c
              · exact hv7 p c
              · exact absurd (List.mem_singleton.mp c) e
          have B8 := B7.add vm7 hn um (cl v vU u um)
          generalize putK kv2 (.inl u) (.int v) = kv8 at nd8 nf8 nl8 s8 hk8 hv8 ⊢
          generalize upd H7 d (.dK kv8) = H8 at nd8 nf8 nl8 s8 ⊢
          walk_at "z"
          refine r_appT nf8 (small_lt (by rw [List.length_map]; omega)) ?_
          have ne_of : ∀ {p : Int}, p ∈ ks2 → p ≠ u := fun hp z => hn (z ▸ hp)
          refine ⟨kv8, ks2 ++ [u], fs2 ++ [u], _, _, _, rfl, same_mut s8 fr, (upd_ne nla).trans nl8, (upd_ne ed.symm).trans nd8, hk8, hv8, B8, by rw [List.map_append]; exact upd_same, fun p hp => ?_, ?_, fun p hp => ?_, fun p hp => ?_, fun p hp h1 h2 q hq => ?_, fun q hq => ?_⟩
          · rcases List.mem_append.mp hp with c | c
            · obtain ⟨h1, h2⟩ := fs7 p c
              rw [putI_ne _ _ (ne_of h1)]
              exact ⟨List.mem_append_left _ h1, h2⟩
            · rw [List.mem_singleton.mp c, putI_at, vd7]
              exact ⟨List.mem_append_right _ List.mem_cons_self, rfl⟩
          · rw [List.length_append, List.length_append, len7]
            simp only [List.length_cons, List.length_nil]
            omega
          · obtain ⟨h1, h2⟩ := old7 p hp
            rw [putI_ne _ _ (ne_of h1)]
            exact ⟨List.mem_append_left _ h1, h2⟩
          · rcases List.mem_append.mp hp with c | c
            · rw [putI_ne _ _ (ne_of c)]
              exact top7 p c
            · rw [List.mem_singleton.mp c, putI_at, vd7]
              exact Nat.le_refl _
          · rcases List.mem_append.mp hp with c | c
            · obtain ⟨h3, h4⟩ := cls7 p c (fun z => h1 (List.mem_append_left _ z)) h2 q hq
              rw [putI_ne _ _ (ne_of c), putI_ne _ _ (ne_of h3)]
              exact ⟨List.mem_append_left _ h3, h4⟩
            · exact absurd (List.mem_append_right _ c) h1
          · rw [take_next hu] at hq
            rcases List.mem_append.mp hq with c | c
            · exact List.mem_append_left _ (tak7 q c)
            · exact List.mem_append_right _ c
        · walk_at "z"
          refine ⟨kv2, ks2, fs2, par, dd, _, rfl, s7, nl7, nd7, hk7, hv7, B7, nf7, fs7, len7, old7, top7, cls7, fun q hq => ?_⟩
          rw [take_next hu] at hq
          rcases List.mem_append.mp hq with c | c
          · exact tak7 q c
          · rw [List.mem_singleton.mp c]
            exact hn
      · rintro σ' H7 ⟨kv2, ks2, fs2, par, dd, x6, rfl, s7, nl7, nd7, hk7, hv7, B7, nf7, fs7, len7, old7, top7, cls7, tak7⟩
        rw [List.length_map, List.take_length] at tak7
        refine ⟨kv2, ks2, fs2, par, dd, _, _, rfl, s7, nl7, nd7, hk7, hv7, B7, nf7, fs7, len7, old7, top7, fun p hp h1 h2 q hq => ?_⟩
        by_cases e : p = v
        · rw [e] at hq ⊢
          have qk := tak7 q hq
          have t := top7 q qk
          have := (old7 v (List.mem_of_getElem? hv)).2
          exact ⟨qk, by omega⟩
        · refine cls7 p hp h1 (fun z => ?_) q hq
          have dv : ls.drop j = v :: ls.drop (j + 1) := by
            obtain ⟨hj, ev⟩ := List.getElem?_eq_some_iff.mp hv
            rw [List.drop_eq_getElem_cons hj, ev]
          rw [dv] at z
          rcases List.mem_cons.mp z with c | c
          · exact e c
          · exact h2 c
    · rintro σ' H5 ⟨kv', ks', fs, par, dd, x5, x6, rfl, s5, nl5, nd5, hk5, hv5, B5, nf5, fs5, len5, old5, top5, cls5⟩
      have kl5 := bnd B5
      have dl : ls.drop (ls.map V.int).length = [] := by
        rw [List.length_map]
        exact List.drop_length
      walk_at "z"
      refine ⟨2 * (U.length - ks'.length) + min fs.length 1, by omega, kv', ks', fs, par, dd, lv + 1, fu, _, _, _, rfl, rfl, s5, nd5, hk5, hv5, B5, nf5, fs5, top5, fun p hp h1 => cls5 p hp h1 (by rw [dl]; simp)⟩
end

set_option Elab.async false
set_option linter.all false
set_option maxRecDepth 100000
set_option maxHeartbeats 4000000
open PySem PySem.Spec PyProof.Rows L2 LamX

abbrev s_way_to : Stmt := topS 56
theorem sc_way_to : FnScope ["v", "before", "way"] ["v", "before"] (defScope s_way_to) := ⟨rfl, rfl, rfl, by decide +kernel, rfl, by decide +kernel, by decide +kernel⟩

abbrev s_shortest_path : Stmt := topS 53
theorem sc_shortest_path : FnScope ["graph", "u", "v", "avoided", "around", "before", "others", "w"] ["graph", "u", "v", "avoided"] (defScope s_shortest_path) := ⟨rfl, rfl, rfl, by decide +kernel, rfl, by decide +kernel, by decide +kernel⟩

/-- lists of neighbours, by a function -/
def AdjF (H : Hp) (l : Addr) (n : Nat) (L : Int → List Int) : Prop := ∃ as : List Addr, H l = some (.lst (as.map V.ref)) ∧ as.length = n ∧ ∀ (i : Nat) (a : Addr), as[i]? = some a → H a = some (.lst ((L (i : Int)).map V.int))
/-- new, but for a table -/
def NewN (H : Hp) (d : Addr) : Prop := ∀ o, H d = some o → ∃ ps, o = .tbl ps
/-- a way from the root, by breadth -/
def Geo (L : Int → List Int) (a v : Int) (path : List Int) : Prop := path[0]? = some a ∧ path.getLast? = some v ∧ (∀ (i : Nat) x y, path[i]? = some x → path[i + 1]? = some y → y ∈ L x) ∧ ∃ dd : Int → Nat, ∀ (i : Nat) x, path[i]? = some x → dd x = i ∧ ∀ q ∈ L x, dd q ≤ i + 1
/-- a walk of k steps from a -/
def Wk (R : Int → Int → Prop) (a : Int) : Nat → Int → Prop
  | 0, v => v = a
  | k + 1, v => ∃ u, Wk R a k u ∧ R u v
/-- v lies k steps from a, and not nearer -/
def IsD (R : Int → Int → Prop) (a : Int) (k : Nat) (v : Int) : Prop := Wk R a k v ∧ ∀ j, Wk R a j v → k ≤ j
theorem wk_le {R : Int → Int → Prop} {a : Int} {ks : List Int} {dd : Int → Nat} (am : a ∈ ks) (da : dd a = 0) (cl : ∀ p ∈ ks, ∀ q, R p q → q ∈ ks ∧ dd q ≤ dd p + 1) : ∀ (j : Nat) v, Wk R a j v → v ∈ ks ∧ dd v ≤ j
  | 0, v, h => by
    have h : v = a := h
    rw [h, da]
    exact ⟨am, Nat.le_refl 0⟩
  | j + 1, v, ⟨u, h1, h2⟩ => by
    obtain ⟨h3, h4⟩ := wk_le am da cl j u h1
    obtain ⟨h5, h6⟩ := cl u h3 v h2
    exact ⟨h5, by omega⟩
theorem wk_up {R : Int → Int → Prop} {a : Int} {ks : List Int} {dd : Int → Nat} (da : dd a = 0) (up : ∀ p ∈ ks, p ≠ a → ∃ q ∈ ks, R q p ∧ dd p = dd q + 1) : ∀ (m : Nat) v, v ∈ ks → dd v = m → Wk R a m v
  | 0, v, h, e => Classical.byContradiction fun c => by
    obtain ⟨q, _, _, h3⟩ := up v h c
    omega
  | m + 1, v, h, e => by
    have ne : v ≠ a := fun z => by
      rw [z, da] at e
      omega
    obtain ⟨q, h1, h2, h3⟩ := up v h ne
    exact ⟨q, wk_up da up m q h1 (by omega), h2⟩
theorem isD_of {R : Int → Int → Prop} {a : Int} {ks : List Int} {dd : Int → Nat} (am : a ∈ ks) (da : dd a = 0) (up : ∀ p ∈ ks, p ≠ a → ∃ q ∈ ks, R q p ∧ dd p = dd q + 1) (cl : ∀ p ∈ ks, ∀ q, R p q → q ∈ ks ∧ dd q ≤ dd p + 1) {v : Int} (h : v ∈ ks) : IsD R a (dd v) v :=
  ⟨wk_up da up _ v h rfl, fun j hj => (wk_le am da cl j v hj).2⟩
theorem BI.isD {L : Int → List Int} {U : List Int} {a : Int} {ks : List Int} {par : Int → Int} {dd : Int → Nat} (B : BI L U a ks par dd) (cl : ∀ p ∈ ks, ∀ q ∈ L p, q ∈ ks ∧ dd q ≤ dd p + 1) {v : Int} (h : v ∈ ks) : IsD (fun x y => y ∈ L x) a (dd v) v :=
  isD_of B.am B.da (fun p hp ne => ⟨par p, (B.up p hp ne).1, (B.up p hp ne).2.1, (B.up p hp ne).2.2⟩) cl h
section
variable {P : Program} {w : World} {K : PySem.W.Frag} {mg : Str → Option Value} {base : Heap}
def spReachedI (T : List (Addr × Str)) : Sp := fun vs H Q _ => ∃ (l : Addr) (n : Nat) (L : Int → List Int) (a : Int), vs = [.ref l, .int a] ∧ AdjF H l n L ∧ n ≤ 60 ∧ a ∈ rgI (n : Int) ∧ (∀ p ∈ rgI (n : Int), ∀ q ∈ L p, q ∈ rgI (n : Int)) ∧ Tabs T H ∧
  ∀ (d : Addr) (kvs : List (L2.Key × V)) (ks : List Int) (par : Int → Int) (dd : Int → Nat) (H' : Hp), ExtN H H' → Tabs T H' → NewN H d → H' d = some (.dK kvs) → kvs.map (·.1) = ks.map Sum.inl → (∀ p ∈ ks, valV kvs (.inl p) = some (.int (par p))) → BI L (rgI (n : Int)) a ks par dd → (∀ p ∈ ks, ∀ q ∈ L p, q ∈ ks ∧ dd q ≤ dd p + 1) → Q (.ref d) H'
theorem ok_reachedG {c PT : Addr} {TT : List (Addr × Str)} (hm9 : (PT, lamN "reached") ∈ TT) (hu9 : ∀ p ∈ TT, p.1 = PT → p.2 = lamN "reached") (TB : TabB base mg c PT) (T : Blt mg) (D : DefAt K mg "reached" s_reached ["around", "start"]) (hco : D.fd.code = .ref c) (D_reached_by : DefAt K mg "reached_by" s_reached_by ["steps", "start"]) : FnOk P w K mg base CX0 5 D.f D.fd ["around", "start"] (spReachedI TT) := by
  refine okV D.F sc_reached (fun vs H Q E h => ?_) (fun cdv A outer s H vs Q E hcv hr h => ?_)
  · obtain ⟨l, n, L, a, rfl, _⟩ := h
    rfl
  · obtain ⟨l, n, L, a, rfl, ⟨as, hl, la, had⟩, n60, am, cl, hT, q⟩ := h
    obtain ⟨oc, od, kV, doc, pm, an, cdr, ct, osl, efd, lk, hcd⟩ := D_reached_by.F.ex
    have hb := D_reached_by.b
    rw [efd] at lk hb
    obtain rfl : cdv = .ref c := hcv.symm.trans hco
    refine ⟨_, pss_one (ps_ret (pe_lamcall2 (T := TT) (TT := TTi) (k := 2) (x := "reached_by") (a := "steps") (b := "start") (y := "v") (z := "start") (ix := 2) (j := 1) (c := c) (P := PT) (by rfl) D_reached_by.g D_reached_by.F.kp lk hcd hb sc_reached_by rfl (Or.inl rfl) gives_reachedI TB rfl hm9 hu9 hr (lamS1_by (sc := defScope s_reached) (by decide +kernel)) (by rfl) (fun _ _ _ _ _ _ => by rfl) rfl sc_reached.nd rfl (Or.inl rfl)
      (fun A outer s H f c' hr => pe_ix (ix_listK (K := K) rfl) (pv 0) (pv 2) (fun _ _ => rfl)))), ?_⟩
    refine r_at (σ := [some _, some _, none]) rfl ?_
    walk_at "z"
    refine ⟨hT, .int a, rfl, fun H1 e1 T1 => ?_⟩
    have hl1 := ext_lst e1 hl
    refine ⟨L, rgI (n : Int), a, rfl, am, cl, by rw [rgI_len]; omega, fun H2 s2 p hp Q' q' => ?_, fun d kvs ks par dd H' s3 nd hd hk hv hB hc => q d kvs ks par dd H' (e1.trans (ext_same s3)) (T1.ext s3) (fun o ho => Classical.byContradiction fun c => by
      have := e1 d o ho (fun ps z => c ⟨ps, z⟩)
      rw [nd] at this
      cases this) hd hk hv hB hc⟩
    obtain ⟨p0, p1⟩ := mem_rgI.mp hp
    obtain ⟨ap, hap⟩ : ∃ x, as[p.toNat]? = some x := ⟨_, List.getElem?_eq_getElem (by omega)⟩
    have h1 := had _ _ hap
    rw [show ((p.toNat : Nat) : Int) = p by omega] at h1
    walk_at "z"
    refine r_ixL (.inl (.inl (s2 _ _ hl1))) (at_of (j := p.toNat) (by omega) (by rw [List.getElem?_map, hap]; rfl)) ?_
    exact q' ap (ext_lst e1 h1)
def spWayTo : Sp := fun vs H Q _ => ∃ (v : Int) (d : Addr) (L : Int → List Int) (U : List Int) (a : Int) (kvs : List (L2.Key × V)) (ks : List Int) (par : Int → Int) (dd : Int → Nat), vs = [.int v, .ref d] ∧ H d = some (.dK kvs) ∧ (∀ p ∈ ks, valV kvs (.inl p) = some (.int (par p))) ∧ BI L U a ks par dd ∧ (∀ p ∈ ks, ∀ q ∈ L p, q ∈ ks ∧ dd q ≤ dd p + 1) ∧ v ∈ ks ∧ U.length ≤ 1000 ∧
  ∀ (p : Addr) (path : List Int) (H' : Hp), Same H H' → H' p = some (.tup (path.map V.int)) → H p = none → Geo L a v path → (∀ x ∈ path, x ∈ U) → IsD (fun x y => y ∈ L x) a (path.length - 1) v → Q (.ref p) H'
theorem ok_wayto (T : Blt mg) (D : DefAt K mg "way_to" s_way_to ["v", "before"]) : FnOk P w K mg base CX0 1 D.f D.fd ["v", "before"] spWayTo := by
  refine D.F.ok sc_way_to (fun vs H Q E h => ?_) (fun cdv A outer s H vs Q E hr h => ?_)
  · obtain ⟨v, d, L, U, a, kvs, ks, par, dd, rfl, _⟩ := h
    rfl
  · obtain ⟨v, d, L, U, a, kvs, ks, par, dd, rfl, hd, hv, B, cl, vk, ul, q⟩ := h
    refine ⟨_, (pss_cons (ps_set (i := 2) sc_way_to.nd rfl (Or.inl rfl) (pe_lst (pa_cons (pv 0) pa_nil)))
      (pss_cons (ps_while PassesOwn.never (pt_cmpR op_ne (pe_dget (hu_of hr) (pv 1) (pe_ix (ix_listK (K := K) rfl) (pv 2) (pe_un un_neg pe_int) (fun _ _ => rfl)) (fun _ _ => rfl)) (pe_ix (ix_listK (K := K) rfl) (pv 2) (pe_un un_neg pe_int) (fun _ _ => rfl)) (nomark _))
        (pss_one (ps_expr (PE.bmK (K := K) rfl (pe_bm PySem.F.plainAttrs_list PySem.F.slot_list_append PySem.F.type_list_append mt_append (pv 2) (pa_cons (pe_dget (hu_of hr) (pv 1) (pe_ix (ix_listK (K := K) rfl) (pv 2) (pe_un un_neg pe_int) (fun _ _ => rfl)) (fun _ _ => rfl)) pa_nil))))))
      (pss_one (ps_ret (pe_callTy (call_tupleK (K := K) rfl) (by rfl) T.tuple (by decide +kernel) (pa_cons (PE.revLK (K := K) rfl (pe_revL (pv 2))) pa_nil)))))), ?_⟩
    refine r_at (σ := [some _, some _, none]) rfl ?_
    walk_at "z"
    refine r_lstN sz1 fun wa hwa => ?_
    have hwa0 := hwa
    have s1 : Same H (upd H wa (.lst [.int v])) := same_new hwa
    have hw1 : (upd H wa (.lst [.int v])) wa = some (.lst ([v].reverse.map V.int)) := upd_same
    generalize upd H wa (.lst [.int v]) = H1 at s1 hw1 ⊢
    walk_at "z"
    let W : Nat → L2.St → Hp → Prop := fun m σ' H' => ∃ (x : Int) (rest : List Int), σ' = [some (.int v), some (.ref d), some (.ref wa)] ∧ m = dd x ∧ Same H H' ∧ H' wa = some (.lst ((x :: rest).reverse.map V.int)) ∧ (∀ (i : Nat) y, (x :: rest)[i]? = some y → y ∈ ks ∧ dd y = dd x + i) ∧ (∀ (i : Nat) y z, (x :: rest)[i]? = some y → (x :: rest)[i + 1]? = some z → z ∈ L y) ∧ (x :: rest).getLast? = some v
    have start : W (dd v) [some (.int v), some (.ref d), some (.ref wa)] H1 := ⟨v, [], rfl, rfl, s1, hw1, fun i y h => by
      cases i with
      | zero =>
        cases h
        exact ⟨vk, rfl⟩
      | succ i => simp at h, fun i y z _ h => by simp at h, rfl⟩
    have len_of : ∀ {x : Int} {rest : List Int}, (∀ (i : Nat) y, (x :: rest)[i]? = some y → y ∈ ks ∧ dd y = dd x + i) → (x :: rest).length ≤ U.length := fun {x rest} h => by
      refine nodup_le _ U (List.pairwise_iff_getElem.mpr fun i j hi hj lt e => ?_) fun y hy => ?_
      · have h1 := (h i _ (List.getElem?_eq_getElem hi)).2
        have h2 := (h j _ (List.getElem?_eq_getElem hj)).2
        rw [e] at h1
        omega
      · obtain ⟨i, hi⟩ := List.mem_iff_getElem?.mp hy
        exact B.sub y (h i y hi).1
    refine r_while W _ start ?_
    rintro m σ' H2 ⟨x, rest, rfl, rfl, s2, hw2, ch, st, la⟩
    have xk := (ch 0 x rfl).1
    have ix : atI ((x :: rest).reverse.map V.int) (-1) = some (.int x) := by
      rw [List.reverse_cons, List.map_append]
      exact atI_end
    walk_at "z"
    refine r_dgK (s2 _ _ hd) (hv x xk) ?_
    walk_at "z"
    have ll := len_of ch
    refine r_iteN (fun hne => ?_) (fun he => ?_)
    · have xa : x ≠ a := fun z => hne (by rw [z]; exact B.pa)
      obtain ⟨pk, pl, pd⟩ := B.up x xk xa
      refine r_whGo ?_
      walk_at "z"
      refine r_dgK (s2 _ _ hd) (hv x xk) ?_
      walk_at "z"
      refine r_appT hw2 (small_lt (by rw [List.length_map, List.length_reverse]; omega)) ?_
      refine ⟨dd (par x), by omega, par x, x :: rest, rfl, rfl, same_mut s2 hwa0, ?_, fun i y h => ?_, fun i y z h1 h2 => ?_, ?_⟩
      · rw [List.reverse_cons (a := par x), List.map_append]
        exact upd_same
      · cases i with
        | zero =>
          cases h
          exact ⟨pk, rfl⟩
        | succ i =>
          obtain ⟨h3, h4⟩ := ch i y h
          exact ⟨h3, by omega⟩
      · cases i with
        | zero =>
          cases h1
          have h2 : some x = some z := h2
          cases h2
          exact pl
        | succ i => exact st i y z h1 h2
      · rw [List.getLast?_cons_cons]
        exact la
    · have xa : x = a := by
        refine Classical.byContradiction fun n => ?_
        obtain ⟨_, _, pd⟩ := B.up x xk n
        rw [he] at pd
        omega
      walk_at "z"
      refine r_revL ?_
      walk_at "z"
      refine r_revLN (.inl (.inl hw2)) fun p hp => ?_
      have s3 : Same H (upd H2 p (.lst ((x :: rest).reverse.map V.int).reverse)) := s2.trans (same_new hp)
      have e3 : ((x :: rest).reverse.map V.int).reverse = (x :: rest).map V.int := by rw [List.map_reverse, List.reverse_reverse]
      rw [e3] at s3 ⊢
      have hp3 : (upd H2 p (.lst ((x :: rest).map V.int))) p = some (.lst ((x :: rest).map V.int)) := upd_same
      generalize upd H2 p (.lst ((x :: rest).map V.int)) = H3 at s3 hp3 ⊢
      walk_at "z"
      refine r_tupL (.inl (.inl hp3)) fun t ht => ?_
      refine q t (x :: rest) _ (s3.trans (same_new ht)) upd_same (s3.free ht) ⟨by rw [xa]; rfl, la, st, dd, fun i y h => ?_⟩ (fun y hy => ?_) ?_
      · obtain ⟨h3, h4⟩ := ch i y h
        rw [xa, B.da] at h4
        refine ⟨by omega, fun z hz => ?_⟩
        have := (cl y h3 z hz).2
        omega
      · obtain ⟨i, hi⟩ := List.mem_iff_getElem?.mp hy
        exact B.sub y (ch i y hi).1
      · have h9 := la
        rw [List.getLast?_eq_getElem?] at h9
        obtain ⟨h3, h4⟩ := ch _ v h9
        have x0 : dd x = 0 := by rw [xa]; exact B.da
        rw [show (x :: rest).length - 1 = dd v by omega]
        exact B.isD cl h3
end

set_option Elab.async false
set_option linter.all false
set_option maxRecDepth 100000
set_option maxHeartbeats 4000000
open PySem PySem.Spec PyProof.Rows L2

abbrev s_law_random_graph : Stmt := topS 331
theorem sc_law_random_graph : FnScope ["pool", "most", "n", "dense", "pair"] ["pool", "most"] (defScope s_law_random_graph) := ⟨rfl, rfl, rfl, by decide +kernel, rfl, by decide +kernel, by decide +kernel⟩

section
variable {P : Program} {w : World} {K : PySem.W.Frag} {mg : Str → Option Value} {base : Heap}
theorem r_pick2 {H : Hp} {Q : VK} {l : Addr} {i j : Int} {b : Bool} (h : H l = some (.lst [.int i, .int j])) (q : ∀ m, m = i ∨ m = j → Q (.int m) H) : rIxL K (.ref l) (.int (if b = true then 1 else 0)) H Q := by
  cases b with
  | true => exact r_ixL (.inl (.inl h)) rfl (q j (.inr rfl))
  | false => exact r_ixL (.inl (.inl h)) rfl (q i (.inl rfl))
theorem good_filter {n : Nat} (h : 1 ≤ n) (c : Int × Int → Bool) : GoodG (n : Int) ((allP n).filter c) :=
  ⟨by omega, (allP_asc n).filter _, fun p hp => mem_allP.mp (List.mem_filter.mp hp).1⟩
theorem allP_small {n : Nat} (h : n ≤ 100) : (allP n).length ≤ 10000 := by
  have h4 := preP_len (n := n) (i := n)
  have h5 : n * n ≤ 100 * 100 := Nat.mul_le_mul h h
  unfold allP
  omega
/-- a drawn graph of n vertices -/
def GenQ (a s : Addr) (H : Hp) (n : Int) (Q : VK) : Prop := ∀ (v : V) (qs : List (Int × Int)) (H' : Hp), Pool H' a s → Gr a H H' → GrAt H' v n qs → GoodG n qs → Q v H'
def spRandom : Sp := fun vs H Q _ => ∃ (a s : Addr) (most : Int), vs = [.ref a, .int most] ∧ Pool H a s ∧ 1 ≤ most ∧ most ≤ 100 ∧ ∀ n : Int, 1 ≤ n → n ≤ most → GenQ a s H n Q
theorem ok_random (T : Blt mg) (D : DefAt K mg "_law_random_graph" s_law_random_graph ["pool", "most"]) (D_law_draw : DefAt K mg "_law_draw" s_law_draw ["pool", "many"]) (G_law_draw : FnOk P w K mg base CX0 2 D_law_draw.f D_law_draw.fd ["pool", "many"] spDraw)
    (D_law_pairs : DefAt K mg "_law_pairs" s_law_pairs ["n"]) (G_law_pairs : FnOk P w K mg base CX0 1 D_law_pairs.f D_law_pairs.fd ["n"] spPairs) :
    FnOk P w K mg base CX0 3 D.f D.fd ["pool", "most"] spRandom := by
  refine D.F.ok sc_law_random_graph (fun vs H Q E h => ?_) (fun cdv A outer s H vs Q E hr h => ?_)
  · obtain ⟨a, s, most, rfl, _⟩ := h
    rfl
  · obtain ⟨a, s0, most, rfl, hP, m1, m2, q⟩ := h
    refine ⟨_, (pss_cons (ps_set (i := 2) sc_law_random_graph.nd rfl (Or.inl rfl) (pe_ix (ix_listK (K := K) rfl) (pe_lst (pa_cons (pv 1) (pa_cons (pe_op op_add pe_int (pe_call G_law_draw (hr.mono (by first | decide | omega)) (by rfl) D_law_draw.g D_law_draw.F.kp D_law_draw.b .nil pass0 (pa_cons (pv 0) (pa_cons (pv 1) pa_nil)))) pa_nil))) (pe_callTy call_int1' (by rfl) T.int (by decide +kernel) (pa_cons (pe_cmpR op_eq (pe_call G_law_draw (hr.mono (by first | decide | omega)) (by rfl) D_law_draw.g D_law_draw.F.kp D_law_draw.b .nil pass0 (pa_cons (pv 0) (pa_cons pe_int pa_nil))) pe_int (nomark _)) pa_nil)) (fun _ _ => rfl)))
      (pss_cons (ps_set (i := 3) sc_law_random_graph.nd rfl (Or.inr rfl) (pe_op op_add pe_int (pe_call G_law_draw (hr.mono (by first | decide | omega)) (by rfl) D_law_draw.g D_law_draw.F.kp D_law_draw.b .nil pass0 (pa_cons (pv 0) (pa_cons pe_int pa_nil)))))
      (pss_one (ps_ret (pe_tup (pa_cons (pv 2) (pa_cons (pe_callTy (call_tupleK (K := K) rfl) (by rfl) T.tuple (by decide +kernel) (pa_cons (pe_lc (own := [("pair", 4)]) (by rfl) sc_law_random_graph.nd (PI.listK (K := K) rfl (pi_list (pe_call G_law_pairs (hr.mono (by first | decide | omega)) (by rfl) D_law_pairs.g D_law_pairs.F.kp D_law_pairs.b .nil pass0 (pa_cons (pv 2) pa_nil)))) (blkOk_by (own := [("pair", 4)]) (N := ["pool", "most", "n", "dense", "pair"]) (sc := (defScope s_law_random_graph)) (by decide +kernel)) (fun _ _ _ _ _ => (pg_name (i := 4) sc_law_random_graph.nd rfl (Or.inl rfl))) (fun _ _ _ _ _ => (pts_one (pt_cmpR op_lt (pe_call G_law_draw (hr.mono (by first | decide | omega)) (by rfl) D_law_draw.g D_law_draw.F.kp D_law_draw.b .nil pass0 (pa_cons (pv 0) (pa_cons pe_int pa_nil))) (pv 3) (nomark _)))) (fun _ _ _ _ _ => (pv 4))) pa_nil)) pa_nil))))))), ?_⟩
    refine r_at (σ := [some _, some _, none, none, none]) rfl ?_
    walk_at "z"
    refine ⟨a, s0, most, rfl, hP, by omega, by omega, fun r H1 r0 r1 hP1 g1 => ?_⟩
    walk_at "z"
    refine r_lstN sz2 fun l hl => ?_
    walk_at "z"
    refine ⟨a, s0, 3, rfl, hP1.mono (same_new hl), by omega, by omega, fun r2 H2 _ _ hP2 g2 => ?_⟩
    have hl2 := g2 _ _ (new_ne hP1 hl).1 upd_same
    walk_at "z"
    refine r_pick2 hl2 fun n hn => ?_
    have g3 : Gr a H H2 := (g1.trans (.new hl)).trans g2
    walk_at "z"
    refine ⟨a, s0, 5, rfl, hP2, by omega, by omega, fun r3 H3 _ _ hP3 g4 => ?_⟩
    walk_at "z"
    obtain ⟨n', rfl⟩ : ∃ n' : Nat, n = (n' : Int) := ⟨n.toNat, by omega⟩
    refine ⟨n', rfl, by omega, fun f xs H4 hf s4 hx hp => ?_⟩
    have hP4 := hP3.mono s4
    have g5 : Gr a H H4 := (g3.trans g4).trans (.of_same s4)
    refine r_il (.inl (.inl hx)) fun d hd => lcR_list (xs := xs) (fun i H' => Pool H' a s0 ∧ Gr a H4 H' ∧ ∃ ys c, H' d = some (.lst ys) ∧ Prs H' ys (((allP n').take i).filter c)) (by walk_at "zw") ⟨hP4.mono (same_new hd), .new hd, [], fun _ => true, upd_same, .nil⟩ (fun i H' _ ⟨_, g, _⟩ => .inl (.inl (g _ _ (new_ne hP3 hf).1 hx))) ?_ ?_
    · rintro i x H' hx2 ⟨hP', g, ys, c, hy, hys⟩
      obtain ⟨p, hpi, hxp⟩ := pd_get (hp.tk (g.tk hP4)) hx2
      walk_at "z"
      refine ⟨rfl, ?_⟩
      walk_at "z"
      refine ⟨a, s0, 6, rfl, hP', by omega, by omega, fun r4 H5 _ _ hP5 g6 => ?_⟩
      have hy5 := g6 _ _ (new_ne hP4 hd).1 hy
      have kk := g6.tk hP'
      have pn : p ∉ (allP n').take i := fun z => by
        have nd := asc_nodup (allP_asc n')
        have e := take_next hpi
        have nd2 : ((allP n').take (i + 1)).Nodup := nd.sublist (List.take_sublist _ _)
        rw [e] at nd2
        exact (List.nodup_append.mp nd2).2.2 p z p (List.mem_singleton.mpr rfl) rfl
      -- the test's answer at this pair
      have ext : ∀ b : Bool, ((allP n').take (i + 1)).filter (fun z => if z = p then b else c z) = ((allP n').take i).filter c ++ (if b = true then [p] else []) := fun b => by
        rw [take_next hpi, List.filter_append]
        congr 1
        · refine List.filter_congr fun z hz => ?_
          rw [if_neg (fun e => pn (by rw [← e]; exact hz))]
        · cases b <;> simp
      walk_at "z"
      refine r_ite (fun h => ?_) (fun h => ?_)
      · walk_at "z"
        refine r_lce hy5 (small_lt ?_) ⟨hP5.upd (new_ne hP4 hd), (g.trans g6).mut hd, _, fun z => if z = p then true else c z, upd_same, ?_⟩
        · have h1 := hys.length
          have h2 := List.length_filter_le c ((allP n').take i)
          have h3 := allP_small (n := n') (by omega)
          rw [List.length_take] at h2
          omega
        · rw [ext true, if_pos rfl]
          have k2 : TK H5 (upd H5 d (.lst (ys ++ [x]))) := .lst hy5
          exact ((hys.tk kk).tk k2).snoc ((hxp.tk kk).tk k2)
      · refine ⟨hP5, g.trans g6, ys, fun z => if z = p then false else c z, hy5, ?_⟩
        rw [ext false, if_neg Bool.false_ne_true, List.append_nil]
        exact hys.tk kk
    · rintro H' ⟨hP', g, ys, c, hy, hys⟩
      rw [hp.length, List.take_length] at hys
      walk_at "z"
      refine r_tupL (.inl (.inl hy)) fun e he => ?_
      walk_at "z"
      refine r_tupN sz2 fun t ht => ?_
      have s5 : Same H' (upd H' e (.tup ys)) := same_new he
      have s6 := s5.trans (same_new (o := .tup [.int (n' : Int), .ref e]) ht)
      exact q _ (by omega) (by omega) _ _ _ (hP'.mono s6) ((g5.trans g).trans (.of_same s6)) ⟨t, e, rfl, upd_same, ys, (upd_ne (ne_of_none upd_same ht)).trans upd_same, hys.tk (.of_same s6)⟩ (good_filter (by omega) c)
end

set_option Elab.async false
set_option linter.all false
set_option maxRecDepth 100000
set_option maxHeartbeats 4000000
open PySem PySem.Spec PyProof.Rows L2

abbrev s_law_interval_rows : Stmt := topS 332
theorem sc_law_interval_rows : FnScope ["pool", "n", "rows", "k", "start"] ["pool", "n"] (defScope s_law_interval_rows) := ⟨rfl, rfl, rfl, by decide +kernel, rfl, by decide +kernel, by decide +kernel⟩

abbrev s_law_interval_graph : Stmt := topS 333
theorem sc_law_interval_graph : FnScope ["rows", "pair"] ["rows"] (defScope s_law_interval_graph) := ⟨rfl, rfl, rfl, by decide +kernel, rfl, by decide +kernel, by decide +kernel⟩

section
variable {P : Program} {w : World} {K : PySem.W.Frag} {mg : Str → Option Value} {base : Heap}
theorem flt_next {n i : Nat} {p : Int × Int} (h : (allP n)[i]? = some p) (c : Int × Int → Bool) (b : Bool) : ∃ c' : Int × Int → Bool, ((allP n).take (i + 1)).filter c' = ((allP n).take i).filter c ++ (if b = true then [p] else []) := by
  have pn : p ∉ (allP n).take i := fun z => by
    have nd := asc_nodup (allP_asc n)
    have e := take_next h
    have nd2 : ((allP n).take (i + 1)).Nodup := nd.sublist (List.take_sublist _ _)
    rw [e] at nd2
    exact (List.nodup_append.mp nd2).2.2 p z p (List.mem_singleton.mpr rfl) rfl
  refine ⟨fun z => if z = p then b else c z, ?_⟩
  rw [take_next h, List.filter_append]
  congr 1
  · refine List.filter_congr fun z hz => ?_
    rw [if_neg (fun e => pn (by rw [← e]; exact hz))]
  · cases b <;> simp
theorem flt_small {n i : Nat} (hn : n ≤ 100) (c : Int × Int → Bool) : (((allP n).take i).filter c).length < 100000 := by
  have h2 := List.length_filter_le c ((allP n).take i)
  have h3 := allP_small hn
  rw [List.length_take] at h2
  omega
theorem at_pd {α : Type} {F : V → α → Prop} {xs : List V} {ps : List α} {z : Int} (h : Paired F xs ps) (h0 : 0 ≤ z) (h1 : z < ps.length) : ∃ y r, atI xs z = some y ∧ ps[z.toNat]? = some r ∧ F y r := by
  have hlt : z.toNat < ps.length := by omega
  obtain ⟨y, hy, f⟩ := pd_get2 h (List.getElem?_eq_getElem hlt)
  exact ⟨y, _, at_of (j := z.toNat) (by omega) hy, List.getElem?_eq_getElem hlt, f⟩
/-- n drawn intervals -/
def spRows : Sp := fun vs H Q _ => ∃ (a s : Addr) (n : Int), vs = [.ref a, .int n] ∧ Pool H a s ∧ 0 ≤ n ∧ n ≤ 100 ∧ ∀ (f : Addr) (xs : List V) (ps : List (Int × Int)) (H' : Hp), H f = none → Pool H' a s → Gr a H H' → H' f = some (.lst xs) → Prs H' xs ps → ps.length = n.toNat → Q (.ref f) H'
theorem ok_rows (T : Blt mg) (D : DefAt K mg "_law_interval_rows" s_law_interval_rows ["pool", "n"]) (D_law_draw : DefAt K mg "_law_draw" s_law_draw ["pool", "many"]) (G_law_draw : FnOk P w K mg base CX0 2 D_law_draw.f D_law_draw.fd ["pool", "many"] spDraw) :
    FnOk P w K mg base CX0 3 D.f D.fd ["pool", "n"] spRows := by
  refine D.F.ok sc_law_interval_rows (fun vs H Q E h => ?_) (fun cdv A outer s H vs Q E hr h => ?_)
  · obtain ⟨a, s, n, rfl, _⟩ := h
    rfl
  · obtain ⟨a, s0, n, rfl, hP, n0, n1, q⟩ := h
    refine ⟨_, (pss_cons (ps_set (i := 2) sc_law_interval_rows.nd rfl (Or.inl rfl) (pe_lst pa_nil))
      (pss_cons (ps_for PassesOwn.never (by rfl) (pi_range1 (by rfl) T.range (pa_cons (pv 1) pa_nil)) (pg_name (i := 3) sc_law_interval_rows.nd rfl (Or.inl rfl))
        (pss_cons (ps_set (i := 4) sc_law_interval_rows.nd rfl (Or.inl rfl) (pe_op op_sub (pe_call G_law_draw (hr.mono (by first | decide | omega)) (by rfl) D_law_draw.g D_law_draw.F.kp D_law_draw.b .nil pass0 (pa_cons (pv 0) (pa_cons pe_int pa_nil))) pe_int))
        (pss_one (ps_expr (PE.bmK (K := K) rfl (pe_bm PySem.F.plainAttrs_list PySem.F.slot_list_append PySem.F.type_list_append mt_append (pv 2) (pa_cons (pe_tup (pa_cons (pv 4) (pa_cons (pe_op op_add (pv 4) (pe_call G_law_draw (hr.mono (by first | decide | omega)) (by rfl) D_law_draw.g D_law_draw.F.kp D_law_draw.b .nil pass0 (pa_cons (pv 0) (pa_cons (pe_ix (ix_listK (K := K) rfl) (pe_lst (pa_cons pe_int (pa_cons pe_int (pa_cons pe_int pa_nil)))) (pe_call G_law_draw (hr.mono (by first | decide | omega)) (by rfl) D_law_draw.g D_law_draw.F.kp D_law_draw.b .nil pass0 (pa_cons (pv 0) (pa_cons pe_int pa_nil))) (fun _ _ => rfl)) pa_nil)))) pa_nil))) pa_nil)))))))
      (pss_one (ps_ret (pv 2))))), ?_⟩
    refine r_at (σ := [some _, some _, none, none, none]) rfl ?_
    walk_at "z"
    refine r_lstN (by decide) fun f hf => ?_
    have fa := new_ne hP hf
    walk_at "z"
    refine r_rg1 (by omega) (forR_range (fun i σ' H' => (∃ x3 x4, σ' = [some (.ref a), some (.int n), some (.ref f), x3, x4]) ∧ Pool H' a s0 ∧ Gr a H H' ∧ ∃ xs ps, H' f = some (.lst xs) ∧ Prs H' xs ps ∧ ps.length = i) ⟨⟨_, _, rfl⟩, hP.mono (same_new hf), .new hf, [], [], upd_same, .nil, rfl⟩ ?_ ?_)
    · rintro i σ' H' hi ⟨⟨x3, x4, rfl⟩, hP', g, xs, ps, hx, hp, hl⟩
      walk_at "z"
      refine ⟨a, s0, 9, rfl, hP', by omega, by omega, fun r H1 _ _ hP1 g1 => ?_⟩
      have hx1 := g1 _ _ fa.1 hx
      walk_at "z"
      refine r_lstN sz3 fun l hl3 => ?_
      walk_at "z"
      refine ⟨a, s0, 3, rfl, hP1.mono (same_new hl3), by omega, by omega, fun r2 H2 b0 b1 hP2 g2 => ?_⟩
      have hl2 := g2 _ _ (new_ne hP1 hl3).1 upd_same
      obtain ⟨m, hm, m0, m1⟩ : ∃ m : Int, atI [V.int 1, V.int 3, V.int 6] r2 = some (.int m) ∧ 0 < m ∧ m < 10 := by
        have e : r2 = 0 ∨ r2 = 1 ∨ r2 = 2 := by omega
        rcases e with e | e | e <;> subst e
        · exact ⟨1, rfl, by omega, by omega⟩
        · exact ⟨3, rfl, by omega, by omega⟩
        · exact ⟨6, rfl, by omega, by omega⟩
      walk_at "z"
      refine ⟨a, s0, m, rfl, hP2, by omega, by omega, fun r3 H3 _ _ hP3 g3 => ?_⟩
      walk_at "z"
      have g4 : Gr a H' H3 := ((g1.trans (.new hl3)).trans g2).trans g3
      have hx3 := g4 _ _ fa.1 hx
      refine r_tupN sz2 fun t ht => ?_
      walk_at "z"
      refine r_appT (by walk_at "zh") (small_lt ?_) ?_
      · rw [hp.length, hl]
        omega
      · refine ⟨⟨_, _, rfl⟩, (hP3.mono (same_new ht)).upd fa, ((g.trans g4).trans (.new ht)).mut hf, _, ps ++ [_], upd_same, prs_push hx3 (hp.tk (g4.tk hP')) ht, ?_⟩
        rw [List.length_append, hl]
        rfl
    · rintro σ' H' ⟨⟨x3, x4, rfl⟩, hP', g, xs, ps, hx, hp, hl⟩
      walk_at "z"
      exact q f xs ps H' hf hP' g hx hp hl
/-- the graph of intervals -/
def spIvGraph (K : PySem.W.Frag) : Sp := fun vs H Q _ => ∃ (l : Addr) (xs : List V) (ps : List (Int × Int)), vs = [.ref l] ∧ SqL K H l xs ∧ Prs H xs ps ∧ ps.length ≤ 100 ∧
  ∀ (v : V) (c : Int × Int → Bool) (H' : Hp), Same H H' → GrAt H' v (ps.length : Int) ((allP ps.length).filter c) → Q v H'
theorem ok_ivgraph (T : Blt mg) (D : DefAt K mg "_law_interval_graph" s_law_interval_graph ["rows"]) (D_law_pairs : DefAt K mg "_law_pairs" s_law_pairs ["n"]) (G_law_pairs : FnOk P w K mg base CX0 1 D_law_pairs.f D_law_pairs.fd ["n"] spPairs) :
    FnOk P w K mg base CX0 2 D.f D.fd ["rows"] (spIvGraph K) := by
  refine D.F.ok sc_law_interval_graph (fun vs H Q E h => ?_) (fun cdv A outer s H vs Q E hr h => ?_)
  · obtain ⟨l, xs, ps, rfl, _⟩ := h
    rfl
  · obtain ⟨l, xs, ps, rfl, hl, hp, hlen, q⟩ := h
    refine ⟨_, (pss_one (ps_ret (pe_tup (pa_cons (pe_callB (call_lenK (K := K) rfl) (by rfl) T.len (by decide +kernel) (pa_cons (pv 0) pa_nil)) (pa_cons (pe_callTy (call_tupleK (K := K) rfl) (by rfl) T.tuple (by decide +kernel) (pa_cons (pe_lc (own := [("pair", 1)]) (by rfl) sc_law_interval_graph.nd (PI.listK (K := K) rfl (pi_list (pe_call G_law_pairs (hr.mono (by first | decide | omega)) (by rfl) D_law_pairs.g D_law_pairs.F.kp D_law_pairs.b .nil pass0 (pa_cons (pe_callB (call_lenK (K := K) rfl) (by rfl) T.len (by decide +kernel) (pa_cons (pv 0) pa_nil)) pa_nil)))) (blkOk_by (own := [("pair", 1)]) (N := ["rows", "pair"]) (sc := (defScope s_law_interval_graph)) (by decide +kernel)) (fun _ _ _ _ _ => (pg_name (i := 1) sc_law_interval_graph.nd rfl (Or.inl rfl))) (fun _ _ _ _ _ => (pts_one (PW.pt (pw_and (pt_cmpR op_le (pe_ix (ix_tupK (K := K) rfl) (pe_ix (ix_listK (K := K) rfl) (pv 0) (pe_ix (ix_tupK (K := K) rfl) (pv 1) pe_int (fun _ _ => rfl)) (fun _ _ => rfl)) pe_int (fun _ _ => rfl)) (pe_ix (ix_tupK (K := K) rfl) (pe_ix (ix_listK (K := K) rfl) (pv 0) (pe_ix (ix_tupK (K := K) rfl) (pv 1) pe_int (fun _ _ => rfl)) (fun _ _ => rfl)) pe_int (fun _ _ => rfl)) (nomark _)) (pw_and1 (pt_cmpR op_le (pe_ix (ix_tupK (K := K) rfl) (pe_ix (ix_listK (K := K) rfl) (pv 0) (pe_ix (ix_tupK (K := K) rfl) (pv 1) pe_int (fun _ _ => rfl)) (fun _ _ => rfl)) pe_int (fun _ _ => rfl)) (pe_ix (ix_tupK (K := K) rfl) (pe_ix (ix_listK (K := K) rfl) (pv 0) (pe_ix (ix_tupK (K := K) rfl) (pv 1) pe_int (fun _ _ => rfl)) (fun _ _ => rfl)) pe_int (fun _ _ => rfl)) (nomark _))))))) (fun _ _ _ _ _ => (pv 1))) pa_nil)) pa_nil))))), ?_⟩
    refine r_at (σ := [some _, none]) rfl ?_
    walk_at "z"
    rw [hp.length]
    refine ⟨ps.length, rfl, hlen, fun f zs H1 hf s1 hz hzs => ?_⟩
    refine r_il (.inl (.inl hz)) fun d hd => lcR_list (xs := zs) (fun i H' => Same H1 H' ∧ ∃ ys c, H' d = some (.lst ys) ∧ Prs H' ys (((allP ps.length).take i).filter c)) (by walk_at "zw") ⟨same_new hd, [], fun _ => true, upd_same, .nil⟩ (fun i H' _ ⟨s2, _⟩ => .inl (.inl (s2 _ _ hz))) ?_ ?_
    · rintro i x H' hx ⟨s2, ys, c, hy, hys⟩
      obtain ⟨p, hpi, hxp⟩ := pd_get (hzs.tk (.of_same s2)) hx
      obtain ⟨b1, b2, b3⟩ := mem_allP.mp (List.mem_of_getElem? hpi)
      obtain ⟨t, rfl, ht⟩ := id hxp
      have sm := s1.trans s2
      have hl' := sm.seq hl
      have hp' := hp.tk (.of_same sm)
      obtain ⟨y1, r1, e1, _, t1, rfl, f1⟩ := at_pd hp' b1 (by omega)
      obtain ⟨y2, r2, e2, _, t2, rfl, f2⟩ := at_pd hp' (show 0 ≤ p.2 by omega) (by omega)
      -- the turn's end
      have yes : LcE d (fun H' => Same H1 H' ∧ ∃ ys c, H' d = some (.lst ys) ∧ Prs H' ys (((allP ps.length).take (i + 1)).filter c)) (V.ref t) H' := by
        obtain ⟨c', e⟩ := flt_next hpi c true
        refine r_lce hy (small_lt (by rw [hys.length]; exact flt_small hlen c)) ⟨same_mut s2 hd, _, c', upd_same, ?_⟩
        rw [e, if_pos rfl]
        exact (hys.tk (.lst hy)).snoc (hxp.tk (.lst hy))
      have no : Same H1 H' ∧ ∃ ys c, H' d = some (.lst ys) ∧ Prs H' ys (((allP ps.length).take (i + 1)).filter c) := by
        obtain ⟨c', e⟩ := flt_next hpi c false
        refine ⟨s2, ys, c', hy, ?_⟩
        rw [e, if_neg Bool.false_ne_true, List.append_nil]
        exact hys
      walk_at "z"
      refine ⟨rfl, ?_⟩
      walk_at "z"
      refine r_ite (fun h => ?_) (fun h => ?_)
      · walk_at "z"
        refine r_ite (fun h => ?_) (fun h => ?_)
        · walk_at "z"
          exact yes
        · exact no
      · walk_at "z"
        exact no
    · rintro H' ⟨s2, ys, c, hy, hys⟩
      rw [hzs.length, List.take_length] at hys
      walk_at "z"
      refine r_tupL (.inl (.inl hy)) fun e he => ?_
      walk_at "z"
      refine r_tupN sz2 fun t ht => ?_
      have s5 : Same H' (upd H' e (.tup ys)) := same_new he
      have s6 := s5.trans (same_new (o := .tup [.int (ps.length : Int), .ref e]) ht)
      exact q _ c _ ((s1.trans s2).trans s6) ⟨t, e, rfl, upd_same, ys, (upd_ne (ne_of_none upd_same ht)).trans upd_same, hys.tk (.of_same s6)⟩
end

set_option Elab.async false
set_option linter.all false
set_option maxRecDepth 100000
set_option maxHeartbeats 4000000
open PySem PySem.Spec PyProof.Rows L2

abbrev s_law_ringed : Stmt := topS 349
theorem sc_law_ringed : FnScope ["pool", "n", "m", "pairs", "v", "k", "u"] ["pool", "n"] (defScope s_law_ringed) := ⟨rfl, rfl, rfl, by decide +kernel, rfl, by decide +kernel, by decide +kernel⟩

abbrev s_law_clique_graph : Stmt := topS 336
theorem sc_law_clique_graph : FnScope ["pool", "n", "cliques", "pairs", "v", "base", "kept", "u"] ["pool", "n"] (defScope s_law_clique_graph) := ⟨rfl, rfl, rfl, by decide +kernel, rfl, by decide +kernel, by decide +kernel⟩

section
variable {P : Program} {w : World} {K : PySem.W.Frag} {mg : Str → Option Value} {base : Heap}
theorem idx_spec : ∀ {ns : List Int} {z : Int}, z ∈ ns → ns[ns.idxOf z]? = some z ∧ ∀ m, m < ns.idxOf z → ns[m]? ≠ some z
  | [], _, h => by cases h
  | x :: ns, z, h => by
    rw [List.idxOf_cons]
    by_cases e : x = z
    · subst e
      simp
    · have hz : z ∈ ns := by
        rcases List.mem_cons.mp h with q | q
        · exact absurd q.symm e
        · exact q
      obtain ⟨h1, h2⟩ := idx_spec hz
      have eb : (x == z) = false := by simp [e]
      rw [eb]
      simp only [cond_false]
      refine ⟨by simpa using h1, fun m hm => ?_⟩
      cases m with
      | zero => simp [e]
      | succ m =>
        have := h2 m (by omega)
        simpa using this
theorem flat_ints (ns : List Int) : (ns.map V.int).all flatV = true := by
  rw [List.all_eq_true]
  intro x hx
  obtain ⟨n, _, rfl⟩ := List.mem_map.mp hx
  rfl
theorem eqV_int (i j : Int) : eqV (.int i) (.int j) = decide (i = j) := by
  show (i == j) = decide (i = j)
  exact int_beq i j
theorem r_index {H : Hp} {Q : VK} {l : Addr} {ns : List Int} {z : Int} (h : SqL K H l (ns.map V.int)) (hm : z ∈ ns) (q : Q (.int (ns.idxOf z : Nat)) H) : rIndex K (.ref l) [.int z] H Q := by
  obtain ⟨h1, h2⟩ := idx_spec hm
  refine ⟨l, ns.map V.int, .int z, ns.idxOf z, .int z, rfl, rfl, h, rfl, flat_ints ns, by rw [List.getElem?_map, h1]; rfl, by rw [eqV_int]; simp, fun m z' hm hz => ?_, q⟩
  rw [List.getElem?_map] at hz
  obtain ⟨y, hy, rfl⟩ := Option.map_eq_some_iff.mp hz
  rw [eqV_int]
  refine decide_eq_false fun e => h2 m hm ?_
  rw [hy, e]
abbrev s_law_turned_graph : Stmt := topS 334
theorem sc_law_turned_graph : FnScope ["one", "two", "first", "second", "found", "u", "v"] ["one", "two"] (defScope s_law_turned_graph) := ⟨rfl, rfl, rfl, by decide +kernel, rfl, by decide +kernel, by decide +kernel⟩

/-- the pairs that stand in another order in both -/
def spTurned (K : PySem.W.Frag) : Sp := fun vs H Q _ => ∃ (l1 l2 : Addr) (ns ms : List Int), vs = [.ref l1, .ref l2] ∧ SqL K H l1 (ns.map V.int) ∧ SqL K H l2 (ms.map V.int) ∧ ns.length ≤ 100 ∧ (∀ z : Int, 0 ≤ z → z < ns.length → z ∈ ns ∧ z ∈ ms) ∧
  ∀ (v : V) (c : Int × Int → Bool) (H' : Hp), Same H H' → GrAt H' v (ns.length : Int) ((allP ns.length).filter c) → Q v H'
theorem ok_turned (T : Blt mg) (D : DefAt K mg "_law_turned_graph" s_law_turned_graph ["one", "two"]) (D_law_pairs : DefAt K mg "_law_pairs" s_law_pairs ["n"]) (G_law_pairs : FnOk P w K mg base CX0 1 D_law_pairs.f D_law_pairs.fd ["n"] spPairs) :
    FnOk P w K mg base CX0 2 D.f D.fd ["one", "two"] (spTurned K) := by
  refine D.F.ok sc_law_turned_graph (fun vs H Q E h => ?_) (fun cdv A outer s H vs Q E hr h => ?_)
  · obtain ⟨l1, l2, ns, ms, rfl, _⟩ := h
    rfl
  · obtain ⟨l1, l2, ns, ms, rfl, hl1, hl2, hlen, hall, q⟩ := h
    refine ⟨_, (pss_cons (ps_set (i := 2) sc_law_turned_graph.nd rfl (Or.inl rfl) (pe_callTy (call_listK (K := K) rfl) (by rfl) T.list (by decide +kernel) (pa_cons (pv 0) pa_nil)))
      (pss_cons (ps_set (i := 3) sc_law_turned_graph.nd rfl (Or.inl rfl) (pe_callTy (call_listK (K := K) rfl) (by rfl) T.list (by decide +kernel) (pa_cons (pv 1) pa_nil)))
      (pss_cons (ps_set (i := 4) sc_law_turned_graph.nd rfl (Or.inl rfl) (pe_lst pa_nil))
      (pss_cons (ps_for PassesOwn.never (by rfl) (PI.listK (K := K) rfl (pi_list (pe_call G_law_pairs (hr.mono (by first | decide | omega)) (by rfl) D_law_pairs.g D_law_pairs.F.kp D_law_pairs.b .nil pass0 (pa_cons (pe_callB (call_lenK (K := K) rfl) (by rfl) T.len (by decide +kernel) (pa_cons (pv 2) pa_nil)) pa_nil)))) (PG.tupK (K := K) rfl (pg_tup (n := 2) rfl (pgs_cons (pg_name (i := 5) sc_law_turned_graph.nd rfl (Or.inl rfl)) (pgs_cons (pg_name (i := 6) sc_law_turned_graph.nd rfl (Or.inl rfl)) pgs_nil))))
        (pss_one (ps_if (pt_cmpR op_ne (pe_cmpR op_lt (PE.bmK (K := K) rfl (pe_bm PySem.F.plainAttrs_list PySem.F.slot_list_index PySem.F.type_list_index (mt_indexK (K := K) rfl) (pv 2) (pa_cons (pv 5) pa_nil))) (PE.bmK (K := K) rfl (pe_bm PySem.F.plainAttrs_list PySem.F.slot_list_index PySem.F.type_list_index (mt_indexK (K := K) rfl) (pv 2) (pa_cons (pv 6) pa_nil))) (nomark _)) (pe_cmpR op_lt (PE.bmK (K := K) rfl (pe_bm PySem.F.plainAttrs_list PySem.F.slot_list_index PySem.F.type_list_index (mt_indexK (K := K) rfl) (pv 3) (pa_cons (pv 5) pa_nil))) (PE.bmK (K := K) rfl (pe_bm PySem.F.plainAttrs_list PySem.F.slot_list_index PySem.F.type_list_index (mt_indexK (K := K) rfl) (pv 3) (pa_cons (pv 6) pa_nil))) (nomark _)) (nomark _))
          (pss_one (ps_expr (PE.bmK (K := K) rfl (pe_bm PySem.F.plainAttrs_list PySem.F.slot_list_append PySem.F.type_list_append mt_append (pv 4) (pa_cons (pe_tup (pa_cons (pv 5) (pa_cons (pv 6) pa_nil))) pa_nil)))))
          pss_nil)))
      (pss_one (ps_ret (pe_tup (pa_cons (pe_callB (call_lenK (K := K) rfl) (by rfl) T.len (by decide +kernel) (pa_cons (pv 2) pa_nil)) (pa_cons (pe_callTy (call_tupleK (K := K) rfl) (by rfl) T.tuple (by decide +kernel) (pa_cons (pv 4) pa_nil)) pa_nil))))))))), ?_⟩
    refine r_at (σ := [some _, some _, none, none, none, none, none]) rfl ?_
    walk_at "z"
    refine r_listL hl1 fun f1 hf1 => ?_
    have sa : Same H (upd H f1 (.lst (ns.map V.int))) := same_new hf1
    walk_at "z"
    refine r_listL (sa.seq hl2) fun f2 hf2 => ?_
    have sb := sa.trans (same_new (o := .lst (ms.map V.int)) hf2)
    walk_at "z"
    refine r_lstN (by decide) fun f hf => ?_
    have sc := sb.trans (same_new (o := .lst []) hf)
    have n12 : f1 ≠ f2 := ne_of_none upd_same hf2
    have n1f : f1 ≠ f := ne_of_none ((upd_ne n12).trans upd_same) hf
    have n2f : f2 ≠ f := ne_of_none upd_same hf
    walk_at "z"
    rw [List.length_map]
    refine ⟨ns.length, rfl, hlen, fun l zs H1 hl s1 hz hzs => ?_⟩
    have h1 : H1 f1 = some (.lst (ns.map V.int)) := s1 _ _ ((upd_ne n1f).trans ((upd_ne n12).trans upd_same))
    have h2 : H1 f2 = some (.lst (ms.map V.int)) := s1 _ _ ((upd_ne n2f).trans upd_same)
    have hff : H1 f = some (.lst []) := s1 _ _ upd_same
    have nlf : l ≠ f := fun e => by
      rw [e, upd_same] at hl
      cases hl
    have hf0 : H f = none := sb.free hf
    -- the lists that stand
    refine r_il (.inl (.inl hz)) (forR_list (xs := zs) (fun i σ' H' => (∃ x5 x6, σ' = [some (.ref l1), some (.ref l2), some (.ref f1), some (.ref f2), some (.ref f), x5, x6]) ∧ Same H H' ∧ TK H1 H' ∧ H' l = some (.lst zs) ∧ H' f1 = some (.lst (ns.map V.int)) ∧ H' f2 = some (.lst (ms.map V.int)) ∧ ∃ ys c, H' f = some (.lst ys) ∧ Prs H' ys (((allP ns.length).take i).filter c))
      ⟨⟨_, _, rfl⟩, sc.trans s1, .refl _, hz, h1, h2, [], fun _ => true, hff, .nil⟩ (fun i σ' H' _ ⟨_, _, _, h, _⟩ => .inl (.inl h)) ?_ ?_)
    · rintro i x σ' H' hx ⟨⟨x5, x6, rfl⟩, sm, tk, hl', g1, g2, ys, c, hy, hys⟩
      obtain ⟨p, hpi, hxp⟩ := pd_get (hzs.tk tk) hx
      obtain ⟨b1, b2, b3⟩ := mem_allP.mp (List.mem_of_getElem? hpi)
      obtain ⟨t, rfl, ht⟩ := id hxp
      obtain ⟨m1, m2⟩ := hall p.1 b1 (by omega)
      obtain ⟨m3, m4⟩ := hall p.2 (by omega) (by omega)
      refine r_gtup (.inl (.inl ht)) rfl ?_
      walk_at "z"
      refine r_index (.inl (.inl g1)) m1 ?_
      walk_at "z"
      refine r_index (.inl (.inl g1)) m3 ?_
      walk_at "z"
      refine r_index (.inl (.inl g2)) m2 ?_
      walk_at "z"
      refine r_index (.inl (.inl g2)) m4 ?_
      walk_at "z"
      refine r_iteB (fun h => ?_) (fun h => ?_)
      · walk_at "z"
        refine r_tupN sz2 fun t2 ht2 => ?_
        walk_at "z"
        obtain ⟨c', e⟩ := flt_next hpi c true
        refine r_appT (by walk_at "zh") (small_lt (by rw [hys.length]; exact flt_small hlen c)) ?_
        have kk : TK H' (upd (upd H' t2 (.tup [.int p.1, .int p.2])) f (.lst (ys ++ [.ref t2]))) := (TK.new ht2).trans (.lst (by walk_at "zh"))
        have old : ∀ (b : Addr) (o : HO), b ≠ f → H' b = some o → (upd (upd H' t2 (.tup [.int p.1, .int p.2])) f (.lst (ys ++ [.ref t2]))) b = some o := fun b o n e => by
          rw [upd_ne n, upd_ne (ne_of_none e ht2)]
          exact e
        refine ⟨⟨_, _, rfl⟩, same_mut (sm.trans (same_new ht2)) hf0, tk.trans kk, old _ _ nlf hl', old _ _ n1f g1, old _ _ n2f g2, _, c', upd_same, ?_⟩
        rw [e, if_pos rfl]
        exact prs_push hy hys ht2
      · walk_at "z"
        obtain ⟨c', e⟩ := flt_next hpi c false
        refine ⟨⟨_, _, rfl⟩, sm, tk, hl', g1, g2, ys, c', hy, ?_⟩
        rw [e, if_neg Bool.false_ne_true, List.append_nil]
        exact hys
    · rintro σ' H' ⟨⟨x5, x6, rfl⟩, sm, tk, hl', g1, g2, ys, c, hy, hys⟩
      rw [hzs.length, List.take_length] at hys
      walk_at "z"
      rw [List.length_map]
      refine r_tupL (.inl (.inl hy)) fun e he => ?_
      walk_at "z"
      refine r_tupN sz2 fun t ht => ?_
      have s5 : Same H' (upd H' e (.tup ys)) := same_new he
      have s6 := s5.trans (same_new (o := .tup [.int (ns.length : Int), .ref e]) ht)
      exact q _ c _ (sm.trans s6) ⟨t, e, rfl, upd_same, ys, (upd_ne (ne_of_none upd_same ht)).trans upd_same, hys.tk (.of_same s6)⟩
theorem good_of {n : Int} {ps qs : List (Int × Int)} (h1 : 1 ≤ n) (bd : ∀ r ∈ ps, 0 ≤ r.1 ∧ r.1 < n ∧ 0 ≤ r.2 ∧ r.2 < n ∧ r.1 ≠ r.2) (asc : qs.Pairwise ltP) (mem : ∀ p, p ∈ qs ↔ ∃ r ∈ ps, p = nrm r) : GoodG n qs := by
  refine ⟨h1, asc, fun p hp => ?_⟩
  obtain ⟨r, hr, rfl⟩ := (mem p).mp hp
  obtain ⟨b1, b2, b3, b4, b5⟩ := bd r hr
  unfold nrm
  simp only
  omega
/-- a ring and more -/
def spRinged : Sp := fun vs H Q _ => ∃ (a s : Addr) (n : Int), vs = [.ref a, .int n] ∧ Pool H a s ∧ 1 ≤ n ∧ n ≤ 60 ∧ GenQ a s H n Q
theorem r_cat {H : Hp} {Q : VK} {l b : Addr} {xs zs : List V} (h1 : H l = some (.lst xs)) (h2 : H b = some (.lst zs)) (hz : xs.length + zs.length ≤ 100000) (q : ∀ p, H p = none → Q (.ref p) (upd H p (.lst (xs ++ zs)))) : rCat (.ref l) (.ref b) H Q := ⟨l, b, xs, zs, rfl, rfl, h1, h2, small_len hz, q⟩
theorem ok_ringed (T : Blt mg) (D : DefAt K mg "_law_ringed" s_law_ringed ["pool", "n"]) (D_law_draw : DefAt K mg "_law_draw" s_law_draw ["pool", "many"]) (G_law_draw : FnOk P w K mg base CX0 2 D_law_draw.f D_law_draw.fd ["pool", "many"] spDraw)
    (D_law_of : DefAt K mg "_law_of" s_law_of ["n", "pairs"]) (G_law_of : FnOk P w K mg base CX0 3 D_law_of.f D_law_of.fd ["n", "pairs"] (spOf K)) :
    FnOk P w K mg base CX0 4 D.f D.fd ["pool", "n"] spRinged := by
  refine D.F.ok sc_law_ringed (fun vs H Q E h => ?_) (fun cdv A outer s H vs Q E hr h => ?_)
  · obtain ⟨a, s, n, rfl, _⟩ := h
    rfl
  · obtain ⟨a, s0, n, rfl, hP, n0, n1, q⟩ := h
    refine ⟨_, (pss_cons (ps_set (i := 2) sc_law_ringed.nd rfl (Or.inr rfl) (pe_op op_sub (pv 1) (pe_call G_law_draw (hr.mono (by first | decide | omega)) (by rfl) D_law_draw.g D_law_draw.F.kp D_law_draw.b .nil pass0 (pa_cons (pv 0) (pa_cons (pe_callB (call_max2' rfl) (by rfl) T.max (by decide +kernel) (pa_cons pe_int (pa_cons (pe_op op_sub (pv 1) pe_int) pa_nil))) pa_nil)))))
      (pss_cons (ps_setLc (i := 3) (own := [("k", 5)]) (by rfl) sc_law_ringed.nd rfl rfl (sw_true rfl rfl rfl (by decide +kernel)) (pi_range1 (by rfl) T.range (pa_cons (pv 2) pa_nil)) (blkOk_by (own := [("k", 5)]) (N := ["pool", "n", "m", "pairs", "v", "k", "u"]) (sc := (defScope s_law_ringed)) (by decide +kernel)) (fun _ _ _ _ _ => (pg_name (i := 5) sc_law_ringed.nd rfl (Or.inl rfl))) (fun _ _ _ _ _ => (pts_one (pt_cmpR op_gt (pv 2) pe_int (nomark _)))) (fun _ _ _ _ _ => (pe_tup (pa_cons (pv 5) (pa_cons (pe_op op_mod (pe_op op_add (pv 5) pe_int) (pv 2)) pa_nil)))))
      (pss_cons (ps_for PassesOwn.never (by rfl) (pi_range2 (by rfl) T.range (pa_cons (pv 2) (pa_cons (pv 1) pa_nil))) (pg_name (i := 4) sc_law_ringed.nd rfl (Or.inr rfl))
        (pss_one (ps_set (i := 3) sc_law_ringed.nd rfl (Or.inl rfl) (pe_op op_cat (pv 3) (pe_lc (own := [("u", 6)]) (by rfl) sc_law_ringed.nd (pi_range1 (by rfl) T.range (pa_cons (pv 4) pa_nil)) (blkOk_by (own := [("u", 6)]) (N := ["pool", "n", "m", "pairs", "v", "k", "u"]) (sc := (defScope s_law_ringed)) (by decide +kernel)) (fun _ _ _ _ _ => (pg_name (i := 6) sc_law_ringed.nd rfl (Or.inl rfl))) (fun _ _ _ _ _ => (pts_one (pt_cmpR op_eq (pe_call G_law_draw (hr.mono (by first | decide | omega)) (by rfl) D_law_draw.g D_law_draw.F.kp D_law_draw.b .nil pass0 (pa_cons (pv 0) (pa_cons pe_int pa_nil))) pe_int (nomark _)))) (fun _ _ _ _ _ => (pe_tup (pa_cons (pv 6) (pa_cons (pv 4) pa_nil)))))))))
      (pss_one (ps_ret (pe_call G_law_of (hr.mono (by first | decide | omega)) (by rfl) D_law_of.g D_law_of.F.kp D_law_of.b .nil pass0 (pa_cons (pv 1) (pa_cons (pv 3) pa_nil)))))))), ?_⟩
    refine r_at (σ := [some _, some _, none, none, none, none, none]) rfl ?_
    walk_at "z"
    refine ⟨a, s0, _, rfl, hP, by omega, by omega, fun r H1 r0 r1 hP1 g1 => ?_⟩
    walk_at "z"
    obtain ⟨m, hm⟩ : ∃ m : Nat, n - r = (m : Int) := ⟨(n - r).toNat, by omega⟩
    rw [hm]
    have m1 : 1 ≤ m := by omega
    have m2 : m ≤ n.toNat := by omega
    let Bd : List (Int × Int) → Prop := fun ps => ∀ p ∈ ps, 0 ≤ p.1 ∧ p.1 < n ∧ 0 ≤ p.2 ∧ p.2 < n ∧ p.1 ≠ p.2
    have bd1 : ∀ {ps : List (Int × Int)} {u v : Int}, Bd ps → 0 ≤ u → u < n → 0 ≤ v → v < n → u ≠ v → Bd (ps ++ [(u, v)]) := fun {ps u v} h h1 h2 h3 h4 h5 p hp => by
      rcases List.mem_append.mp hp with z | z
      · exact h p z
      · rw [List.mem_singleton.mp z]
        exact ⟨h1, h2, h3, h4, h5⟩
    refine r_rg1 (by omega) fun d hd => lcR_range (fun i H' => Same H1 H' ∧ ∃ ys ps, H' d = some (.lst ys) ∧ Prs H' ys ps ∧ Bd ps ∧ ps.length ≤ i) (by walk_at "zw") ⟨same_new hd, [], [], upd_same, .nil, (fun p hp => by cases hp), Nat.le_refl _⟩ ?_ ?_
    · rintro i H' hi ⟨sm, ys, ps, hy, hys, bd, hl⟩
      have hi : i < m := by omega
      walk_at "z"
      refine ⟨rfl, ?_⟩
      walk_at "z"
      refine r_ite (fun h => ?_) (fun h => ?_)
      · walk_at "z"
        refine r_tupN sz2 fun t ht => ?_
        have hmod : 0 ≤ (0 + (i : Int) + 1) % (m : Int) ∧ (0 + (i : Int) + 1) % (m : Int) < m := ⟨Int.emod_nonneg _ (by omega), Int.emod_lt_of_pos _ (by omega)⟩
        have hne : (0 + (i : Int)) ≠ (0 + (i : Int) + 1) % (m : Int) := by
          by_cases e : i + 1 = m
          · have : (0 + (i : Int) + 1) % (m : Int) = 0 := by
              rw [show (0 : Int) + (i : Int) + 1 = (m : Int) by omega]
              exact Int.emod_self
            omega
          · have : (0 + (i : Int) + 1) % (m : Int) = 0 + (i : Int) + 1 := Int.emod_eq_of_lt (by omega) (by omega)
            omega
        refine r_lce (by walk_at "zh") (small_lt (by rw [hys.length]; omega)) ⟨same_mut (sm.trans (same_new ht)) hd, _, _, upd_same, prs_push hy hys ht, bd1 bd (by omega) (by omega) hmod.1 (by omega) hne, by rw [List.length_append]; simp only [List.length_cons, List.length_nil]; omega⟩
      · exact ⟨sm, ys, ps, hy, hys, bd, by omega⟩
    · rintro H' ⟨sm, ys, ps, hy, hys, bd, hl⟩
      walk_at "z"
      have g2 : Gr a H H' := g1.trans (.of_same sm)
      refine r_rg2 (by omega) (forR_range (fun i σ' H' => (∃ b x4, σ' = [some (.ref a), some (.int n), some (.int (m : Int)), some (.ref b), x4, none, none] ∧ (b ≠ a ∧ b ≠ s0) ∧ ∃ ys ps, H' b = some (.lst ys) ∧ Prs H' ys ps ∧ Bd ps ∧ ps.length ≤ 60 + 60 * i) ∧ Pool H' a s0 ∧ Gr a H H') ⟨⟨d, _, rfl, new_ne hP1 hd, ys, ps, hy, hys, bd, by omega⟩, hP1.mono sm, g2⟩ ?_ ?_)
      · rintro i σ' H' hi ⟨⟨b, x4, rfl, ba, ys, ps, hy, hys, bd, hl⟩, hP', g⟩
        have hi : m + i < n.toNat := by omega
        walk_at "z"
        refine r_rg1 (by omega) fun c hc => lcR_range (fun j H3 => Pool H3 a s0 ∧ Gr a H' H3 ∧ ∃ zs rs, H3 c = some (.lst zs) ∧ Prs H3 zs rs ∧ Bd rs ∧ rs.length ≤ j) (by walk_at "zw") ⟨hP'.mono (same_new hc), .new hc, [], [], upd_same, .nil, (fun p hp => by cases hp), Nat.le_refl _⟩ ?_ ?_
        · rintro j H3 hj ⟨hP3, g3, zs, rs, hz, hzs, bdr, hlr⟩
          have hj : j < m + i := by omega
          walk_at "z"
          refine ⟨rfl, ?_⟩
          walk_at "z"
          refine ⟨a, s0, 3, rfl, hP3, by omega, by omega, fun r2 H4 _ _ hP4 g4 => ?_⟩
          have ca := new_ne hP' hc
          have hz4 := g4 _ _ ca.1 hz
          walk_at "z"
          refine r_ite (fun h => ?_) (fun h => ?_)
          · walk_at "z"
            refine r_tupN sz2 fun t ht => ?_
            refine r_lce (by walk_at "zh") (small_lt (by rw [hzs.length]; omega)) ⟨(hP4.mono (same_new ht)).upd ca, ((g3.trans g4).trans (.new ht)).mut hc, _, _, upd_same, prs_push hz4 (hzs.tk (g4.tk hP3)) ht, bd1 bdr (by omega) (by omega) (by omega) (by omega) (by omega), by rw [List.length_append]; simp only [List.length_cons, List.length_nil]; omega⟩
          · exact ⟨hP4, g3.trans g4, zs, rs, hz4, hzs.tk (g4.tk hP3), bdr, by omega⟩
        · rintro H3 ⟨hP3, g3, zs, rs, hz, hzs, bdr, hlr⟩
          have hy3 := g3 _ _ ba.1 hy
          refine r_cat hy3 hz (by rw [hys.length, hzs.length]; omega) fun e he => ?_
          walk_at "z"
          refine ⟨⟨e, _, rfl, new_ne hP3 he, _, ps ++ rs, upd_same, Prs.tk (.new he) (pd_append (hys.tk (g3.tk hP')) hzs), fun p hp => ?_, ?_⟩, hP3.mono (same_new he), (g.trans g3).trans (.new he)⟩
          · rcases List.mem_append.mp hp with z | z
            · exact bd p z
            · exact bdr p z
          · rw [List.length_append]
            omega
      · rintro σ' H' ⟨⟨b, x4, rfl, ba, ys, ps, hy, hys, bd, hl⟩, hP', g⟩
        walk_at "z"
        refine ⟨n, b, ys, ps, rfl, .inl (.inl hy), hys, by omega, fun v qs H2 s2 hv asc mem => ?_⟩
        exact q v qs H2 (hP'.mono s2) (g.trans (.of_same s2)) hv (good_of n0 bd asc mem)
theorem lt_of_le_nodup {ps : List (Int × Int)} (h1 : ps.Pairwise leP) (h2 : ps.Nodup) : ps.Pairwise ltP := (List.pairwise_and_iff.mpr ⟨h1, h2⟩).imp fun {p q} h => ltP_of_le_ne h.1 h.2
/-- a graph of cliques -/
def spClique : Sp := fun vs H Q _ => ∃ (a s : Addr) (n : Int), vs = [.ref a, .int n] ∧ Pool H a s ∧ 1 ≤ n ∧ n ≤ 60 ∧ GenQ a s H n Q
/-- lists of different vertices below i -/
def Clq (H : Hp) (C a s : Addr) (as : List Addr) (i : Nat) : Prop := ∀ x ∈ as, x ≠ C ∧ x ≠ a ∧ x ≠ s ∧ ∃ ns : List Int, H x = some (.lst (ns.map V.int)) ∧ ns.Nodup ∧ (∀ z ∈ ns, 0 ≤ z ∧ z < i) ∧ ns.length ≤ i
theorem ok_clique (T : Blt mg) (D : DefAt K mg "_law_clique_graph" s_law_clique_graph ["pool", "n"]) (D_law_draw : DefAt K mg "_law_draw" s_law_draw ["pool", "many"]) (G_law_draw : FnOk P w K mg base CX0 2 D_law_draw.f D_law_draw.fd ["pool", "many"] spDraw) :
    FnOk P w K mg base CX0 4 D.f D.fd ["pool", "n"] spClique := by
  refine D.F.ok sc_law_clique_graph (fun vs H Q E h => ?_) (fun cdv A outer s H vs Q E hr h => ?_)
  · obtain ⟨a, s, n, rfl, _⟩ := h
    rfl
  · obtain ⟨a, s0, n, rfl, hP, n0, n1, q⟩ := h
    refine ⟨_, (pss_cons (ps_set (i := 2) sc_law_clique_graph.nd rfl (Or.inl rfl) (pe_lst (pa_cons (pe_lst pa_nil) pa_nil)))
      (pss_cons (ps_set (i := 3) sc_law_clique_graph.nd rfl (Or.inl rfl) (pe_lst pa_nil))
      (pss_cons (ps_for PassesOwn.never (by rfl) (pi_range1 (by rfl) T.range (pa_cons (pv 1) pa_nil)) (pg_name (i := 4) sc_law_clique_graph.nd rfl (Or.inr rfl))
        (pss_cons (ps_set (i := 5) sc_law_clique_graph.nd rfl (Or.inl rfl) (pe_ix (ix_listK (K := K) rfl) (pv 2) (pe_call G_law_draw (hr.mono (by first | decide | omega)) (by rfl) D_law_draw.g D_law_draw.F.kp D_law_draw.b .nil pass0 (pa_cons (pv 0) (pa_cons (pe_callB (call_lenK (K := K) rfl) (by rfl) T.len (by decide +kernel) (pa_cons (pv 2) pa_nil)) pa_nil))) (fun _ _ => rfl)))
        (pss_cons (ps_setLc (i := 6) (own := [("u", 7)]) (by rfl) sc_law_clique_graph.nd rfl rfl (sw_true rfl rfl rfl (by decide +kernel)) (PI.listK (K := K) rfl (pi_list (pv 5))) (blkOk_by (own := [("u", 7)]) (N := ["pool", "n", "cliques", "pairs", "v", "base", "kept", "u"]) (sc := (defScope s_law_clique_graph)) (by decide +kernel)) (fun _ _ _ _ _ => (pg_name (i := 7) sc_law_clique_graph.nd rfl (Or.inl rfl))) (fun _ _ _ _ _ => (pts_one (pt_cmpR op_gt (pe_call G_law_draw (hr.mono (by first | decide | omega)) (by rfl) D_law_draw.g D_law_draw.F.kp D_law_draw.b .nil pass0 (pa_cons (pv 0) (pa_cons pe_int pa_nil))) pe_int (nomark _)))) (fun _ _ _ _ _ => (pv 7)))
        (pss_cons (ps_set (i := 3) sc_law_clique_graph.nd rfl (Or.inl rfl) (pe_op op_cat (pv 3) (pe_lc (own := [("u", 7)]) (by rfl) sc_law_clique_graph.nd (PI.listK (K := K) rfl (pi_list (pv 6))) (blkOk_by (own := [("u", 7)]) (N := ["pool", "n", "cliques", "pairs", "v", "base", "kept", "u"]) (sc := (defScope s_law_clique_graph)) (by decide +kernel)) (fun _ _ _ _ _ => (pg_name (i := 7) sc_law_clique_graph.nd rfl (Or.inl rfl))) (fun _ _ _ _ _ => pts_nil) (fun _ _ _ _ _ => (pe_tup (pa_cons (pv 7) (pa_cons (pv 4) pa_nil)))))))
        (pss_one (ps_expr (PE.bmK (K := K) rfl (pe_bm PySem.F.plainAttrs_list PySem.F.slot_list_append PySem.F.type_list_append mt_append (pv 2) (pa_cons (pe_op op_cat (pv 6) (pe_lst (pa_cons (pv 4) pa_nil))) pa_nil)))))))))
      (pss_one (ps_ret (pe_tup (pa_cons (pv 1) (pa_cons (pe_callTy (call_tupleK (K := K) rfl) (by rfl) T.tuple (by decide +kernel) (pa_cons (pe_callB (cr_sortPrK (K := K) rfl) (by rfl) T.sorted (by decide +kernel) (pa_cons (pv 3) pa_nil)) pa_nil)) pa_nil)))))))), ?_⟩
    refine r_at (σ := [some _, some _, none, none, none, none, none, none]) rfl ?_
    walk_at "z"
    refine r_lstN (by decide) fun c0 hc0 => ?_
    walk_at "z"
    refine r_lstN sz1 fun C hC => ?_
    have hC0 : H C = none := (same_new hc0).free hC
    walk_at "z"
    refine r_lstN (by decide) fun q0 hq0 => ?_
    walk_at "z"
    have nC := new_ne hP hC0
    have n0C : c0 ≠ C := ne_of_none upd_same hC
    have nqC : C ≠ q0 := ne_of_none upd_same hq0
    have n0q : c0 ≠ q0 := ne_of_none ((upd_ne n0C).trans upd_same) hq0
    refine r_rg1 (by omega) (forR_range (fun i σ' H' => (∃ b x4 x5 x6, σ' = [some (.ref a), some (.int n), some (.ref C), some (.ref b), x4, x5, x6, none] ∧ (b ≠ a ∧ b ≠ s0 ∧ b ≠ C) ∧ ∃ ys ps, H' b = some (.lst ys) ∧ Prs H' ys ps ∧ ps.Nodup ∧ (∀ p ∈ ps, 0 ≤ p.1 ∧ p.1 < p.2 ∧ p.2 < i) ∧ ps.length ≤ 60 * i) ∧ Pool H' a s0 ∧ Gr a H H' ∧
        ∃ as : List Addr, H' C = some (.lst (as.map V.ref)) ∧ as.length = i + 1 ∧ Clq H' C a s0 as i) ⟨⟨q0, _, _, _, rfl, ?_, [], [], upd_same, .nil, .nil, (fun p hp => by cases hp), Nat.zero_le _⟩, ?_, ?_, [c0], ?_, rfl, ?_⟩ ?_ ?_)
    · have h1 : H q0 = none := ((same_new hc0).trans (same_new hC)).free hq0
      exact ⟨(new_ne hP h1).1, (new_ne hP h1).2, Ne.symm nqC⟩
    · exact ((hP.mono (same_new hc0)).mono (same_new hC)).mono (same_new hq0)
    · exact ((Gr.new hc0).trans (.new hC)).trans (.new hq0)
    · exact (upd_ne nqC).trans upd_same
    · intro x hx
      rw [List.mem_singleton.mp hx]
      exact ⟨n0C, (new_ne hP hc0).1, (new_ne hP hc0).2, [], (upd_ne n0q).trans ((upd_ne n0C).trans upd_same), .nil, (fun z hz => by cases hz), Nat.zero_le _⟩
    · rintro i σ' H' hi ⟨⟨b, x4, x5, x6, rfl, ⟨ba, bs, bC⟩, ys, ps, hy, hys, nd, bd, hl⟩, hP', g, as, hcs, hlen, hclq⟩
      have hi : i < n.toNat := by omega
      walk_at "z"
      rw [List.length_map, hlen]
      refine ⟨a, s0, _, rfl, hP', by omega, by omega, fun r H1 r0 r1 hP1 g1 => ?_⟩
      have hcs1 := g1 _ _ nC.1 hcs
      have hrt : r.toNat < as.length := by omega
      obtain ⟨x, hx⟩ : ∃ x, as[r.toNat]? = some x := ⟨_, List.getElem?_eq_getElem hrt⟩
      obtain ⟨xC, xa, xs, ns, hns, nns, bns, lns⟩ := hclq x (List.mem_of_getElem? hx)
      refine r_ixL (.inl (.inl hcs1)) (v := V.ref x) (at_of (j := r.toNat) (by omega) (by rw [List.getElem?_map, hx]; rfl)) ?_
      walk_at "z"
      have hx1 := g1 _ _ xa hns
      -- kept
      refine r_il (.inl (.inl hx1)) fun d hd => lcR_list (xs := ns.map V.int) (fun j H2 => Pool H2 a s0 ∧ Gr a H1 H2 ∧ ∃ ms : List Int, H2 d = some (.lst (ms.map V.int)) ∧ ms.Sublist (ns.take j)) (by walk_at "zw") ⟨hP1.mono (same_new hd), .new hd, [], upd_same, List.nil_sublist _⟩ (fun j H2 _ ⟨_, g2, _⟩ => .inl (.inl (g2 _ _ xa hx1))) ?_ ?_
      · rintro j y H2 hy2 ⟨hP2, g2, ms, hms, sub⟩
        rw [List.getElem?_map] at hy2
        obtain ⟨z, hz, rfl⟩ := Option.map_eq_some_iff.mp hy2
        walk_at "z"
        refine ⟨rfl, ?_⟩
        walk_at "z"
        refine ⟨a, s0, 4, rfl, hP2, by omega, by omega, fun r2 H3 _ _ hP3 g3 => ?_⟩
        have hms3 := g3 _ _ (new_ne hP1 hd).1 hms
        have sl : ms.length ≤ 60 := by
          have h1 := sub.length_le
          rw [List.length_take] at h1
          omega
        walk_at "z"
        refine r_ite (fun h => ?_) (fun h => ?_)
        · walk_at "z"
          refine r_lce hms3 (small_lt (by rw [List.length_map]; omega)) ⟨hP3.upd (new_ne hP1 hd), (g2.trans g3).mut hd, ms ++ [z], by rw [List.map_append]; exact upd_same, ?_⟩
          rw [take_next hz]
          exact sub.append (List.Sublist.refl _)
        · refine ⟨hP3, g2.trans g3, ms, hms3, ?_⟩
          rw [take_next hz]
          exact sub.trans (List.sublist_append_left _ _)
      · rintro H2 ⟨hP2, g2, ms, hms, sub⟩
        rw [List.length_map, List.take_length] at sub
        have nms : ms.Nodup := nns.sublist sub
        have bms : ∀ z ∈ ms, 0 ≤ z ∧ z < i := fun z hz => bns z (sub.subset hz)
        have lms : ms.length ≤ i := Nat.le_trans sub.length_le lns
        have dne := new_ne hP1 hd
        have dC : d ≠ C := (ne_of_none hcs1 hd).symm
        have db : d ≠ b := (ne_of_none (g1 _ _ ba hy) hd).symm
        have hy2 := g2 _ _ ba (g1 _ _ ba hy)
        have kk : TK H' H2 := (g1.tk hP').trans (g2.tk hP1)
        have hys2 := Prs.tk kk hys
        walk_at "z"
        -- the pairs of kept and v
        refine r_il (.inl (.inl hms)) fun e he => lcR_list (xs := ms.map V.int) (fun j H3 => Same H2 H3 ∧ ∃ zs, H3 e = some (.lst zs) ∧ Prs H3 zs ((ms.take j).map fun u => (u, 0 + (i : Int)))) (by walk_at "zw") ⟨same_new he, [], upd_same, .nil⟩ (fun j H3 _ ⟨s3, _⟩ => .inl (.inl (s3 _ _ hms))) ?_ ?_
        · rintro j y H3 hy3 ⟨s3, zs, hz, hzs⟩
          rw [List.getElem?_map] at hy3
          obtain ⟨z, hzj, rfl⟩ := Option.map_eq_some_iff.mp hy3
          walk_at "z"
          refine ⟨rfl, ?_⟩
          walk_at "z"
          refine r_tupN sz2 fun t ht => ?_
          refine r_lce (by walk_at "zh") (small_lt ?_) ⟨same_mut (s3.trans (same_new ht)) he, _, upd_same, ?_⟩
          · rw [hzs.length, List.length_map, List.length_take]
            omega
          · rw [take_next hzj, List.map_append]
            exact prs_push hz hzs ht
        · rintro H3 ⟨s3, zs, hz, hzs⟩
          rw [List.length_map, List.take_length] at hzs
          have hy3 := s3 _ _ hy2
          refine r_cat hy3 hz (by rw [hys.length, hzs.length, List.length_map]; omega) fun b2 hb2 => ?_
          have s4 : Same H2 (upd H3 b2 (.lst (ys ++ zs))) := s3.trans (same_new hb2)
          have hC2 := g2 _ _ nC.1 hcs1
          have b2C : b2 ≠ C := (ne_of_none (s3 _ _ hC2) hb2).symm
          have hms4 := s4 _ _ hms
          have hC4 := s4 _ _ hC2
          walk_at "z"
          refine r_lstN sz1 fun v1 hv1 => ?_
          have s5 := s4.trans (same_new (o := .lst [V.int (0 + (i : Int))]) hv1)
          refine r_cat (s5 _ _ hms) upd_same (by rw [List.length_map]; simp only [List.length_cons, List.length_nil]; omega) fun k2 hk2 => ?_
          have s6 := s5.trans (same_new (o := .lst (ms.map V.int ++ [V.int (0 + (i : Int))])) hk2)
          walk_at "z"
          refine r_appT (s6 _ _ hC2) (small_lt (by rw [List.length_map]; omega)) ?_
          have hP6 := hP2.mono s6
          have k2C : k2 ≠ C := (ne_of_none (s5 _ _ hC2) hk2).symm
          have k2ne := new_ne (hP2.mono s5) hk2
          have b2ne := new_ne (hP2.mono s3) hb2
          have eC : e ≠ C := (ne_of_none hC2 he).symm
          -- what stood at H2, stands, but for C
          let HE := upd (upd (upd (upd H3 b2 (.lst (ys ++ zs))) v1 (.lst [V.int (0 + (i : Int))])) k2 (.lst (ms.map V.int ++ [V.int (0 + (i : Int))]))) C (.lst (as.map V.ref ++ [.ref k2]))
          have old : ∀ (x : Addr) (o : HO), x ≠ C → H2 x = some o → HE x = some o := fun x o n e => (upd_ne n).trans (s6 _ _ e)
          have old3 : ∀ (x : Addr) (o : HO), x ≠ C → H3 x = some o → HE x = some o := fun x o n e => (upd_ne n).trans ((same_new hk2) _ _ ((same_new hv1) _ _ ((same_new hb2) _ _ e)))
          have k3 : TK H3 HE := fun x o e => old3 x _ (fun z => by rw [z, s3 _ _ hC2] at e; cases e) e
          have b2v : b2 ≠ v1 := ne_of_none upd_same hv1
          have b2k : b2 ≠ k2 := ne_of_none ((upd_ne b2v).trans upd_same) hk2
          refine ⟨⟨b2, _, _, _, rfl, ⟨b2ne.1, b2ne.2, b2C⟩, ys ++ zs, ps ++ ms.map (fun u => (u, 0 + (i : Int))), ?_, ?_, ?_, ?_, ?_⟩, hP6.upd nC, (((g.trans g1).trans g2).trans (.of_same s6)).mut hC0, as ++ [k2], ?_, ?_, ?_⟩
          · exact (upd_ne b2C).trans ((upd_ne b2k).trans ((upd_ne b2v).trans upd_same))
          · exact Prs.tk k3 (pd_append (Prs.tk (.of_same s3) hys2) hzs)
          · refine List.nodup_append.mpr ⟨nd, ?_, fun p hp r hr => ?_⟩
            · exact List.pairwise_map.mpr (nms.imp fun {x y} hne e => hne (by injection e))
            · obtain ⟨u, hu, rfl⟩ := List.mem_map.mp hr
              intro e
              have := (bd p hp).2.2
              rw [e] at this
              simp only at this
              omega
          · intro p hp
            rcases List.mem_append.mp hp with z | z
            · have := bd p z
              omega
            · obtain ⟨u, hu, rfl⟩ := List.mem_map.mp z
              have := bms u hu
              simp only
              omega
          · rw [List.length_append, List.length_map]
            omega
          · rw [List.map_append]
            exact upd_same
          · rw [List.length_append, hlen]
            rfl
          · intro y hy4
            rcases List.mem_append.mp hy4 with z | z
            · obtain ⟨z1, z2, z3, ns', z4, z5, z6, z7⟩ := hclq y z
              exact ⟨z1, z2, z3, ns', old _ _ z1 (g2 _ _ z2 (g1 _ _ z2 z4)), z5, fun q9 h9 => by have := z6 q9 h9; omega, by omega⟩
            · rw [List.mem_singleton.mp z]
              refine ⟨k2C, k2ne.1, k2ne.2, ms ++ [0 + (i : Int)], ?_, ?_, ?_, ?_⟩
              · rw [List.map_append]
                exact (upd_ne k2C).trans upd_same
              · refine List.nodup_append.mpr ⟨nms, List.pairwise_singleton _ _, fun u hu r hr e => ?_⟩
                rw [List.mem_singleton.mp hr] at e
                have := bms u hu
                omega
              · intro u hu
                rcases List.mem_append.mp hu with z | z
                · have := bms u z
                  omega
                · rw [List.mem_singleton.mp z]
                  omega
              · rw [List.length_append]
                simp only [List.length_cons, List.length_nil]
                omega
    · rintro σ' H' ⟨⟨b, x4, x5, x6, rfl, ⟨ba, bs, bC⟩, ys, ps, hy, hys, nd, bd, hl⟩, hP', g, _⟩
      walk_at "z"
      refine ⟨b, ys, ps, rfl, .inl (.inl hy), hys, fun zs qs f pm hz pw hf => ?_⟩
      walk_at "z"
      refine r_tupL (.inl (.inl upd_same)) fun e he => ?_
      walk_at "z"
      refine r_tupN sz2 fun t ht => ?_
      have s4 := ((same_new (o := .lst zs) hf).trans (same_new (o := .tup zs) he)).trans (same_new (o := .tup [.int n, .ref e]) ht)
      refine q _ qs _ (hP'.mono s4) (g.trans (.of_same s4)) ⟨t, e, rfl, upd_same, zs, (upd_ne (ne_of_none upd_same ht)).trans upd_same, Prs.tk (.of_same s4) hz⟩ ⟨n0, lt_of_le_nodup pw (pm.nodup_iff.mpr nd), fun p hp => ?_⟩
      have := bd p (pm.mem_iff.mp hp)
      omega
end

set_option Elab.async false
set_option linter.all false
set_option maxRecDepth 100000
set_option maxHeartbeats 4000000
open PySem PySem.Spec PyProof.Rows L2

abbrev s_law_ordered_graph : Stmt := topS 335
theorem sc_law_ordered_graph : FnScope ["pool", "n", "u", "v", "above", "w", "pair"] ["pool", "n"] (defScope s_law_ordered_graph) := ⟨rfl, rfl, rfl, by decide +kernel, rfl, by decide +kernel, by decide +kernel⟩

theorem ixN_nat {n j : Nat} (h : j < n) : ixN n (j : Int) = some j := by
  unfold ixN
  rw [if_pos (by omega), if_pos (by omega)]
  rfl
/-- n rows of n truth values at b, unknown to H0 -/
def Mat (H0 H : Hp) (b : Addr) (n : Nat) : Prop := ∃ as : List Addr, H b = some (.lst (as.map V.ref)) ∧ as.length = n ∧ ∀ x ∈ as, x ≠ b ∧ H0 x = none ∧ ∃ bs : List Bool, H x = some (.lst (bs.map V.bl)) ∧ bs.length = n
/-- a place read -/
theorem Mat.at {H0 H : Hp} {b : Addr} {n i j : Nat} (M : Mat H0 H b n) (hi : i < n) (hj : j < n) : ∃ (rows : List V) (x : Addr) (row : List V) (c : Bool), H b = some (.lst rows) ∧ atI rows (i : Int) = some (.ref x) ∧ H x = some (.lst row) ∧ atI row (j : Int) = some (.bl c) := by
  obtain ⟨as, hb, hl, hx⟩ := M
  have hlt : i < as.length := by omega
  obtain ⟨_, _, bs, h1, h2⟩ := hx as[i] (List.getElem_mem hlt)
  refine ⟨_, as[i], _, bs[j]'(by omega), hb, atI_nat (by rw [List.getElem?_map, List.getElem?_eq_getElem hlt]; rfl), h1, atI_nat (by rw [List.getElem?_map, List.getElem?_eq_getElem (by omega)]; rfl)⟩
/-- a place written -/
theorem Mat.set {H0 H : Hp} {b x : Addr} {n i j : Nat} {rows row : List V} {c : Bool} (M : Mat H0 H b n) (hi : i < n) (hb : H b = some (.lst rows)) (hx : atI rows (i : Int) = some (.ref x)) (hr : H x = some (.lst row)) :
    row.length = n ∧ H0 x = none ∧ Mat H0 (upd H x (.lst (row.set j (.bl c)))) b n := by
  obtain ⟨as, hb2, hl, hall⟩ := M
  rw [hb2] at hb
  cases hb
  have hlt : i < as.length := by omega
  have e : as[i] = x := by
    rw [atI_nat (v := V.ref as[i]) (by rw [List.getElem?_map, List.getElem?_eq_getElem hlt]; rfl)] at hx
    injection (Option.some.inj hx)
  have hm : x ∈ as := by rw [← e]; exact List.getElem_mem hlt
  obtain ⟨n1, n2, bs, h1, h2⟩ := hall x hm
  rw [h1] at hr
  cases hr
  refine ⟨by rw [List.length_map]; exact h2, n2, as, (upd_ne (Ne.symm n1)).trans hb2, hl, fun y hy => ?_⟩
  obtain ⟨m1, m2, cs, k1, k2⟩ := hall y hy
  refine ⟨m1, m2, ?_⟩
  by_cases e2 : y = x
  · subst e2
    exact ⟨bs.set j c, by rw [List.map_set]; exact upd_same, by rw [List.length_set]; exact h2⟩
  · exact ⟨cs, (upd_ne e2).trans k1, k2⟩
section
variable {P : Program} {w : World} {K : PySem.W.Frag} {mg : Str → Option Value} {base : Heap}
def spOrdered : Sp := fun vs H Q _ => ∃ (a s : Addr) (n : Int), vs = [.ref a, .int n] ∧ Pool H a s ∧ 1 ≤ n ∧ n ≤ 60 ∧ GenQ a s H n Q
theorem ok_ordered (T : Blt mg) (D : DefAt K mg "_law_ordered_graph" s_law_ordered_graph ["pool", "n"]) (D_law_draw : DefAt K mg "_law_draw" s_law_draw ["pool", "many"]) (G_law_draw : FnOk P w K mg base CX0 2 D_law_draw.f D_law_draw.fd ["pool", "many"] spDraw)
    (D_law_pairs : DefAt K mg "_law_pairs" s_law_pairs ["n"]) (G_law_pairs : FnOk P w K mg base CX0 1 D_law_pairs.f D_law_pairs.fd ["n"] spPairs) :
    FnOk P w K mg base CX0 4 D.f D.fd ["pool", "n"] spOrdered := by
  refine D.F.ok sc_law_ordered_graph (fun vs H Q E h => ?_) (fun cdv A outer s H vs Q E hr h => ?_)
  · obtain ⟨a, s, n, rfl, _⟩ := h
    rfl
  · obtain ⟨a, s0, n, rfl, hP, n0, n1, q⟩ := h
    refine ⟨_, (pss_cons (ps_set (i := 4) sc_law_ordered_graph.nd rfl (Or.inr rfl) (pe_lc (own := [("u", 2)]) (by rfl) sc_law_ordered_graph.nd (pi_range1 (by rfl) T.range (pa_cons (pv 1) pa_nil)) (blkOk_by (own := [("u", 2)]) (N := ["pool", "n", "u", "v", "above", "w", "pair"]) (sc := (defScope s_law_ordered_graph)) (by decide +kernel)) (fun _ _ _ _ _ => (pg_name (i := 2) sc_law_ordered_graph.nd rfl (Or.inr rfl))) (fun _ _ _ _ _ => pts_nil) (fun _ _ _ _ _ => (pe_lc (own := [("v", 3)]) (by rfl) sc_law_ordered_graph.nd (pi_range1 (by rfl) T.range (pa_cons (pv 1) pa_nil)) (blkOk_by (own := [("v", 3)]) (N := ["pool", "n", "u", "v", "above", "w", "pair"]) (sc := ({ kind := .function, names := [(PySem.Str.ofString ".0", PySem.NameKind.local), (PySem.Str.ofString "u", PySem.NameKind.cell), (PySem.Str.ofString "range", PySem.NameKind.globalImplicit), (PySem.Str.ofString "n", PySem.NameKind.cell), (PySem.Str.ofString "pool", PySem.NameKind.cell)], isGenerator := false, isCoroutine := false, more := [] } : PySem.Scope)) (by decide +kernel)) (fun _ _ _ _ _ => (pg_name (i := 3) sc_law_ordered_graph.nd rfl (Or.inl rfl))) (fun _ _ _ _ _ => pts_nil) (fun _ _ _ _ _ => (pe_and (pe_cmpR op_lt (pv 2) (pv 3) (nomark _)) (pe_one (pe_cmpR op_eq (pe_call G_law_draw (hr.mono (by first | decide | omega)) (by rfl) D_law_draw.g D_law_draw.F.kp D_law_draw.b .nil pass0 (pa_cons (pv 0) (pa_cons pe_int pa_nil))) pe_int (nomark _)))))))))
      (pss_cons (ps_for PassesOwn.never (by rfl) (pi_range1 (by rfl) T.range (pa_cons (pv 1) pa_nil)) (pg_name (i := 5) sc_law_ordered_graph.nd rfl (Or.inl rfl))
        (pss_one (ps_for PassesOwn.never (by rfl) (pi_range1 (by rfl) T.range (pa_cons (pv 1) pa_nil)) (pg_name (i := 2) sc_law_ordered_graph.nd rfl (Or.inl rfl))
          (pss_one (ps_for PassesOwn.never (by rfl) (pi_range1 (by rfl) T.range (pa_cons (pv 1) pa_nil)) (pg_name (i := 3) sc_law_ordered_graph.nd rfl (Or.inl rfl))
            (pss_one (ps_asg (pe_or (pe_ix (ix_listK (K := K) rfl) (pe_ix (ix_listK (K := K) rfl) (pv 4) (pv 2) (fun _ _ => rfl)) (pv 3) (fun _ _ => rfl)) (pe_one (pe_and (pe_ix (ix_listK (K := K) rfl) (pe_ix (ix_listK (K := K) rfl) (pv 4) (pv 2) (fun _ _ => rfl)) (pv 5) (fun _ _ => rfl)) (pe_one (pe_ix (ix_listK (K := K) rfl) (pe_ix (ix_listK (K := K) rfl) (pv 4) (pv 5) (fun _ _ => rfl)) (pv 3) (fun _ _ => rfl)))))) (pg_sub (pe_ix (ix_listK (K := K) rfl) (pv 4) (pv 2) (fun _ _ => rfl)) (pv 3) set_list))))))))
      (pss_one (ps_ret (pe_tup (pa_cons (pv 1) (pa_cons (pe_callTy (call_tupleK (K := K) rfl) (by rfl) T.tuple (by decide +kernel) (pa_cons (pe_lc (own := [("pair", 6)]) (by rfl) sc_law_ordered_graph.nd (PI.listK (K := K) rfl (pi_list (pe_call G_law_pairs (hr.mono (by first | decide | omega)) (by rfl) D_law_pairs.g D_law_pairs.F.kp D_law_pairs.b .nil pass0 (pa_cons (pv 1) pa_nil)))) (blkOk_by (own := [("pair", 6)]) (N := ["pool", "n", "u", "v", "above", "w", "pair"]) (sc := (defScope s_law_ordered_graph)) (by decide +kernel)) (fun _ _ _ _ _ => (pg_name (i := 6) sc_law_ordered_graph.nd rfl (Or.inl rfl))) (fun _ _ _ _ _ => (pts_one (pt_val (pe_ix (ix_listK (K := K) rfl) (pe_ix (ix_listK (K := K) rfl) (pv 4) (pe_ix (ix_tupK (K := K) rfl) (pv 6) pe_int (fun _ _ => rfl)) (fun _ _ => rfl)) (pe_ix (ix_tupK (K := K) rfl) (pv 6) pe_int (fun _ _ => rfl)) (fun _ _ => rfl))))) (fun _ _ _ _ _ => (pv 6))) pa_nil)) pa_nil))))))), ?_⟩
    refine r_at (σ := [some _, some _, none, none, none, none, none]) rfl ?_
    walk_at "z"
    refine r_rg1 (by omega) fun d hd => lcR_range (fun i H' => Pool H' a s0 ∧ Gr a H H' ∧ ∃ as : List Addr, H' d = some (.lst (as.map V.ref)) ∧ as.length = i ∧ ∀ x ∈ as, x ≠ d ∧ H x = none ∧ ∃ bs : List Bool, H' x = some (.lst (bs.map V.bl)) ∧ bs.length = n.toNat)
      (by walk_at "zw") ⟨hP.mono (same_new hd), .new hd, [], upd_same, rfl, fun x hx => by cases hx⟩ ?_ ?_
    · rintro i H' hi ⟨hP', g, as, hds, hl, hall⟩
      have dne := new_ne hP hd
      walk_at "z"
      refine ⟨rfl, ?_⟩
      walk_at "z"
      -- the row
      refine r_rg1 (by omega) fun e he => lcR_range (fun j H2 => Pool H2 a s0 ∧ Gr a H' H2 ∧ ∃ bs : List Bool, H2 e = some (.lst (bs.map V.bl)) ∧ bs.length = j) (by walk_at "zw") ⟨hP'.mono (same_new he), .new he, [], upd_same, rfl⟩ ?_ ?_
      · rintro j H2 hj ⟨hP2, g2, bs, hbs, hlb⟩
        have ene := new_ne hP' he
        walk_at "z"
        refine ⟨rfl, ?_⟩
        walk_at "z"
        refine r_ite (fun h => ?_) (fun h => ?_)
        · walk_at "z"
          refine ⟨a, s0, 3, rfl, hP2, by omega, by omega, fun r H3 _ _ hP3 g3 => ?_⟩
          have hb3 := g3 _ _ ene.1 hbs
          walk_at "z"
          refine r_lce hb3 (small_lt (by rw [List.length_map]; omega)) ⟨hP3.upd ene, (g2.trans g3).mut he, bs ++ [_], by rw [List.map_append]; exact upd_same, by rw [List.length_append, hlb]; rfl⟩
        · walk_at "z"
          refine r_lce hbs (small_lt (by rw [List.length_map]; omega)) ⟨hP2.upd ene, g2.mut he, bs ++ [false], by rw [List.map_append]; exact upd_same, by rw [List.length_append, hlb]; rfl⟩
      · rintro H2 ⟨hP2, g2, bs, hbs, hlb⟩
        have ene := new_ne hP' he
        have hd2 := g2 _ _ dne.1 hds
        have ed : e ≠ d := (ne_of_none hds he).symm
        refine r_lce hd2 (small_lt (by rw [List.length_map]; omega)) ⟨hP2.upd dne, (g.trans g2).mut hd, as ++ [e], by rw [List.map_append]; exact upd_same, by rw [List.length_append, hl]; rfl, fun x hx => ?_⟩
        rcases List.mem_append.mp hx with z | z
        · obtain ⟨z1, z2, cs, z3, z4⟩ := hall x z
          exact ⟨z1, z2, cs, (upd_ne z1).trans (g2 _ _ (new_ne hP z2).1 z3), z4⟩
        · rw [List.mem_singleton.mp z]
          exact ⟨ed, g.free hP'.ne he, bs, (upd_ne ed).trans hbs, hlb⟩
    · rintro H1 ⟨hP1, g1, as, hds, hl, hall⟩
      have M1 : Mat H H1 d n.toNat := ⟨as, hds, hl, hall⟩
      walk_at "z"
      refine r_rg1 (by omega) (forR_range (fun k σ' H' => (∃ x2 x3 x5, σ' = [some (.ref a), some (.int n), x2, x3, some (.ref d), x5, none]) ∧ Pool H' a s0 ∧ Gr a H H' ∧ Mat H H' d n.toNat) ⟨⟨_, _, _, rfl⟩, hP1, g1, M1⟩ ?_ ?_)
      · rintro k σ' H' hk ⟨⟨x2, x3, x5, rfl⟩, hP', g, M⟩
        walk_at "z"
        refine r_rg1 (by omega) (forR_range (fun i σ' H' => (∃ x2 x3, σ' = [some (.ref a), some (.int n), x2, x3, some (.ref d), some (.int (0 + (k : Int))), none]) ∧ Pool H' a s0 ∧ Gr a H H' ∧ Mat H H' d n.toNat) ⟨⟨_, _, rfl⟩, hP', g, M⟩ ?_ ?_)
        · rintro i σ' H' hi ⟨⟨x2, x3, rfl⟩, hP', g, M⟩
          walk_at "z"
          refine r_rg1 (by omega) (forR_range (fun j σ' H' => (∃ x3, σ' = [some (.ref a), some (.int n), some (.int (0 + (i : Int))), x3, some (.ref d), some (.int (0 + (k : Int))), none]) ∧ Pool H' a s0 ∧ Gr a H H' ∧ Mat H H' d n.toNat) ⟨⟨_, rfl⟩, hP', g, M⟩ ?_ ?_)
          · rintro j σ' H' hj ⟨⟨x3, rfl⟩, hP', g, M⟩
            have e0 : ∀ z : Nat, (0 : Int) + (z : Int) = z := fun z => by omega
            obtain ⟨rows, x, row, c1, hb, hx, hr1, hc1⟩ := M.at hi hj
            obtain ⟨rows2, y, row2, c2, hb2, hx2, hr2, hc2⟩ := M.at hi hk
            obtain ⟨rows3, w3, row3, c3, hb3, hx3, hr3, hc3⟩ := M.at hk hj
            simp only [e0]
            rw [hb] at hb2 hb3
            cases hb2
            cases hb3
            rw [hx] at hx2
            cases hx2
            rw [hr1] at hr2
            cases hr2
            have fin : ∀ c : Bool, (∃ x3, [some (V.ref a), some (V.int n), some (V.int (i : Int)), some (V.int (j : Int)), some (V.ref d), some (V.int (k : Int)), none] = [some (V.ref a), some (V.int n), some (V.int (i : Int)), x3, some (V.ref d), some (V.int (k : Int)), none]) ∧ Pool (upd H' x (.lst (row.set j (.bl c)))) a s0 ∧ Gr a H (upd H' x (.lst (row.set j (.bl c)))) ∧ Mat H (upd H' x (.lst (row.set j (.bl c)))) d n.toNat := fun c => by
              obtain ⟨_, hn, M'⟩ := M.set (c := c) hi hb hx hr1 (j := j)
              exact ⟨⟨_, rfl⟩, hP'.upd (new_ne hP hn), g.mut hn, M'⟩
            have lr : j < row.length := by
              obtain ⟨h1, _, _⟩ := M.set (c := true) hi hb hx hr1 (j := j)
              omega
            walk_at "z"
            refine r_iteB (fun h => ?_) (fun h => ?_)
            · walk_at "z"
              refine r_setL hr1 (ixN_nat lr) ?_
              exact fin true
            · walk_at "z"
              refine r_iteB (fun h => ?_) (fun h => ?_)
              · walk_at "z"
                refine r_setL hr1 (ixN_nat lr) ?_
                exact fin c3
              · walk_at "z"
                refine r_setL hr1 (ixN_nat lr) ?_
                exact fin false
          · rintro σ' H' ⟨⟨x3, rfl⟩, hP', g, M⟩
            exact ⟨⟨_, _, rfl⟩, hP', g, M⟩
        · rintro σ' H' ⟨⟨x2, x3, rfl⟩, hP', g, M⟩
          exact ⟨⟨_, _, _, rfl⟩, hP', g, M⟩
      · rintro σ' H2 ⟨⟨x2, x3, x5, rfl⟩, hP2, g2, M⟩
        walk_at "z"
        obtain ⟨n', rfl⟩ : ∃ n' : Nat, n = (n' : Int) := ⟨n.toNat, by omega⟩
        refine ⟨n', rfl, by omega, fun f xs H4 hf s4 hx hp => ?_⟩
        have hP4 := hP2.mono s4
        have g5 : Gr a H H4 := g2.trans (.of_same s4)
        have M4 : Mat H H4 d n' := by
          obtain ⟨as, h1, h2, h3⟩ := M
          exact ⟨as, s4 _ _ h1, h2, fun y hy => by
            obtain ⟨z1, z2, cs, z3, z4⟩ := h3 y hy
            exact ⟨z1, z2, cs, s4 _ _ z3, z4⟩⟩
        refine r_il (.inl (.inl hx)) fun e he => lcR_list (xs := xs) (fun i H' => Same H4 H' ∧ ∃ ys c, H' e = some (.lst ys) ∧ Prs H' ys (((allP n').take i).filter c)) (by walk_at "zw") ⟨same_new he, [], fun _ => true, upd_same, .nil⟩ (fun i H' _ ⟨s5, _⟩ => .inl (.inl (s5 _ _ hx))) ?_ ?_
        · rintro i x H' hxi ⟨s5, ys, c, hy, hys⟩
          obtain ⟨p, hpi, hxp⟩ := pd_get (Prs.tk (.of_same s5) hp) hxi
          obtain ⟨b1, b2, b3⟩ := mem_allP.mp (List.mem_of_getElem? hpi)
          obtain ⟨t, rfl, ht⟩ := id hxp
          obtain ⟨i1, hi1⟩ : ∃ i1 : Nat, p.1 = (i1 : Int) := ⟨p.1.toNat, by omega⟩
          obtain ⟨j1, hj1⟩ : ∃ j1 : Nat, p.2 = (j1 : Int) := ⟨p.2.toNat, by omega⟩
          obtain ⟨rows, y, row, c1, hb, hx1, hr1, hc1⟩ := M4.at (i := i1) (j := j1) (by omega) (by omega)
          walk_at "z"
          refine ⟨rfl, ?_⟩
          walk_at "z"
          rw [hi1]
          refine r_ixL (.inl (.inl (s5 _ _ hb))) hx1 ?_
          walk_at "z"
          rw [hj1]
          refine r_ixL (.inl (.inl (s5 _ _ hr1))) hc1 ?_
          walk_at "z"
          obtain ⟨c', ec⟩ := flt_next hpi c c1
          refine r_iteB (fun h => ?_) (fun h => ?_)
          · walk_at "z"
            refine r_lce hy (small_lt (by rw [hys.length]; exact flt_small (by omega) c)) ⟨same_mut s5 he, _, c', upd_same, ?_⟩
            rw [ec, if_pos h]
            exact (Prs.tk (.lst hy) hys).snoc (hxp.tk (.lst hy))
          · refine ⟨s5, ys, c', hy, ?_⟩
            rw [ec, if_neg (by rw [h]; exact Bool.false_ne_true), List.append_nil]
            exact hys
        · rintro H' ⟨s5, ys, c, hy, hys⟩
          rw [hp.length, List.take_length] at hys
          walk_at "z"
          refine r_tupL (.inl (.inl hy)) fun e2 he2 => ?_
          walk_at "z"
          refine r_tupN sz2 fun t ht => ?_
          have s6 : Same H' (upd H' e2 (.tup ys)) := same_new he2
          have s7 := s6.trans (same_new (o := .tup [.int (n' : Int), .ref e2]) ht)
          exact q _ _ _ (((hP4.mono s5)).mono s7) ((g5.trans (.of_same s5)).trans (.of_same s7)) ⟨t, e2, rfl, upd_same, ys, (upd_ne (ne_of_none upd_same ht)).trans upd_same, Prs.tk (.of_same s7) hys⟩ (good_filter (by omega) c)
end

set_option Elab.async false
set_option linter.all false
set_option maxRecDepth 100000
set_option maxHeartbeats 4000000
open PySem PySem.Spec PyProof.Rows L2

abbrev s_law_drawn_tree : Stmt := topS 337
theorem sc_law_drawn_tree : FnScope ["pool", "leaves", "trees", "k", "many", "parts", "j"] ["pool", "leaves"] (defScope s_law_drawn_tree) := ⟨rfl, rfl, rfl, by decide +kernel, rfl, by decide +kernel, by decide +kernel⟩

abbrev s_law_leaves : Stmt := topS 338
theorem sc_law_leaves : FnScope ["tree", "found", "part"] ["tree"] (defScope s_law_leaves) := ⟨rfl, rfl, rfl, by decide +kernel, rfl, by decide +kernel, by decide +kernel⟩

abbrev s_law_tree_pairs : Stmt := topS 339
theorem sc_law_tree_pairs : FnScope ["tree", "found", "before", "part", "leaves", "u", "v"] ["tree"] (defScope s_law_tree_pairs) := ⟨rfl, rfl, rfl, by decide +kernel, rfl, by decide +kernel, by decide +kernel⟩

/-! ## trees -/
inductive Tr where
  | leaf (z : Int)
  | node (w : Bool) (ts : List Tr)
def wd (w : Bool) : PySem.Str := if w then "join" else "union"
mutual
def lv : Tr → List Int
  | .leaf z => [z]
  | .node _ ts => lvs ts
def lvs : List Tr → List Int
  | [] => []
  | t :: ts => lv t ++ lvs ts
end
mutual
def dp : Tr → Nat
  | .leaf _ => 0
  | .node _ ts => dps ts + 1
def dps : List Tr → Nat
  | [] => 0
  | t :: ts => max (dp t) (dps ts)
end
mutual
/-- every node has two trees or more -/
def wf : Tr → Prop
  | .leaf _ => True
  | .node _ ts => 2 ≤ ts.length ∧ wfs ts
def wfs : List Tr → Prop
  | [] => True
  | t :: ts => wf t ∧ wfs ts
end
mutual
inductive TreeAt (H : Hp) : V → Tr → Prop
  | leaf (z : Int) : TreeAt H (.int z) (.leaf z)
  | node {a : Addr} {xs : List V} {ts : List Tr} (w : Bool) (h : H a = some (.tup (.str (wd w) :: xs))) (t : TreesAt H xs ts) : TreeAt H (.ref a) (.node w ts)
inductive TreesAt (H : Hp) : List V → List Tr → Prop
  | nil : TreesAt H [] []
  | cons {x : V} {xs : List V} {t : Tr} {ts : List Tr} (h : TreeAt H x t) (r : TreesAt H xs ts) : TreesAt H (x :: xs) (t :: ts)
end
mutual
theorem TreeAt.tk {H H' : Hp} (k : TK H H') : ∀ (t : Tr) {v : V}, TreeAt H v t → TreeAt H' v t
  | .leaf _, _, .leaf z => .leaf z
  | .node _ ts, _, .node w h t => .node w (k _ _ h) (TreesAt.tk k ts t)
theorem TreesAt.tk {H H' : Hp} (k : TK H H') : ∀ (ts : List Tr) {vs : List V}, TreesAt H vs ts → TreesAt H' vs ts
  | [], _, .nil => .nil
  | t :: ts, _, .cons h r => .cons (TreeAt.tk k t h) (TreesAt.tk k ts r)
end
theorem TreesAt.pd {H : Hp} : ∀ (ts : List Tr) {vs : List V}, TreesAt H vs ts → Paired (TreeAt H) vs ts
  | [], _, .nil => .nil
  | _ :: ts, _, .cons h r => .cons h (TreesAt.pd ts r)
theorem TreesAt.of {H : Hp} : ∀ {ts : List Tr} {vs : List V}, Paired (TreeAt H) vs ts → TreesAt H vs ts
  | _, _, .nil => .nil
  | _, _, .cons h r => .cons h (TreesAt.of r)
theorem lvs_append : ∀ (ts us : List Tr), lvs (ts ++ us) = lvs ts ++ lvs us
  | [], us => by simp [lvs]
  | t :: ts, us => by simp only [List.cons_append, lvs, lvs_append ts us, List.append_assoc]
theorem wfs_mem : ∀ {ts : List Tr}, wfs ts ↔ ∀ t ∈ ts, wf t
  | [] => by simp [wfs]
  | t :: ts => by simp [wfs, wfs_mem (ts := ts)]
theorem lvs_perm {ts us : List Tr} (h : ts.Perm us) : (lvs ts).Perm (lvs us) := by
  induction h with
  | nil => exact .refl _
  | cons x _ ih => simp only [lvs]; exact ih.append_left _
  | swap x y l =>
    simp only [lvs, ← List.append_assoc]
    exact List.perm_append_comm.append_right _
  | trans _ _ h1 h2 => exact h1.trans h2
mutual
/-- depth and leaves -/
theorem dp_lv : ∀ (t : Tr), wf t → dp t + 1 ≤ (lv t).length
  | .leaf _, _ => by simp [dp, lv]
  | .node _ ts, h => by
    simp only [wf] at h
    have := dps_lvs ts h.2
    simp only [dp, lv]
    omega
theorem dps_lvs : ∀ (ts : List Tr), wfs ts → dps ts + ts.length ≤ (lvs ts).length
  | [], _ => by simp [dps, lvs]
  | t :: ts, h => by
    simp only [wfs] at h
    have h1 := dp_lv t h.1
    have h2 := dps_lvs ts h.2
    simp only [dps, lvs, List.length_append, List.length_cons]
    omega
end
theorem dps_mem : ∀ {ts : List Tr} {t : Tr}, t ∈ ts → dp t ≤ dps ts
  | [], _, h => by cases h
  | u :: ts, t, h => by
    simp only [dps]
    rcases List.mem_cons.mp h with e | e
    · rw [e]
      omega
    · have := dps_mem e
      omega
section
variable {P : Program} {w : World} {K : PySem.W.Frag} {mg : Str → Option Value} {base : Heap}
theorem r_isiInt {H : Hp} {Q : VK} {i : Int} (q : Q (.bl false) H) : rIsi K [.int i, .ty "tuple"] H Q := ⟨.int i, .ty "tuple", .type "int", .type "tuple", false, rfl, .ty _, .base (.int i), kit_ty (by decide +kernel), q⟩
theorem r_isiTup {H : Hp} {Q : VK} {a : Addr} {xs : List V} (h : H a = some (.tup xs)) (q : Q (.bl true) H) : rIsi K [.ref a, .ty "tuple"] H Q := ⟨.ref a, .ty "tuple", .type "tuple", .type "tuple", true, rfl, .ty _, .base (.tup h), kit_ty (by decide +kernel), q⟩
theorem cut_tail (x : V) (xs : List V) : cutV (x :: xs) (some 1) none = xs := by
  unfold cutV
  have e : HT.sIx (x :: xs).length 0 (some 1) = 1 := by
    rw [show (1 : Int) = ((1 : Nat) : Int) from rfl, HT.sIx_nat]
    simp only [List.length_cons]
    omega
  rw [e, HT.sIx_none]
  simp only [List.drop_succ_cons, List.drop_zero, List.length_cons, Nat.add_sub_cancel]
  exact List.take_length
/-- t[1:] -/
theorem r_tail {H : Hp} {Q : VK} {a : Addr} {x : V} {xs : List V} (h : H a = some (.tup (x :: xs))) (q : ∀ p, H p = none → Q (.ref p) (upd H p (.tup xs))) : rSlT K (.ref a) (some 1) none H Q := by
  refine ⟨a, x :: xs, rfl, .inl (.inl h), fun z => ?_, fun p hp => by rw [cut_tail]; exact q p hp⟩
  have e : HT.sIx (x :: xs).length 0 (some 1) = 1 := by
    rw [show (1 : Int) = ((1 : Nat) : Int) from rfl, HT.sIx_nat]
    simp only [List.length_cons]
    omega
  rw [e] at z
  exact absurd z.1 (by decide)
/-- the leaves from the left -/
def spLeaves (d : Nat) : Sp := fun vs H Q _ => ∃ (v : V) (t : Tr), vs = [v] ∧ TreeAt H v t ∧ dp t < d ∧ (lv t).length ≤ 100 ∧ ∀ (l : Addr) (H' : Hp), Same H H' → H' l = some (.lst ((lv t).map V.int)) → Q (.ref l) H'
theorem ok_leaves (T : Blt mg) (D_law_leaves : DefAt K mg "_law_leaves" s_law_leaves ["tree"]) : ∀ d : Nat, FnOk P w K mg base CX0 d D_law_leaves.f D_law_leaves.fd ["tree"] (spLeaves d)
  | 0 => fn_none.imp fun vs H Q E h => by
    obtain ⟨_, _, _, _, h, _⟩ := h
    omega
  | d + 1 => by
    have G_law_leaves := ok_leaves T D_law_leaves d
    refine D_law_leaves.F.ok sc_law_leaves (fun vs H Q E h => ?_) (fun cdv A outer s H vs Q E hr h => ?_)
    · obtain ⟨v, t, rfl, _⟩ := h
      rfl
    · obtain ⟨v, t, rfl, ht, hd, hl, q⟩ := h
      refine ⟨_, (pss_cons (ps_if (pt_not (pt_val (pe_callB (call_isiK (K := K) rfl) (by rfl) T.isinstance (by decide +kernel) (pa_cons (pv 0) (pa_cons (pe_bltn (v := .ty "tuple") (u := .type "tuple") (by rfl) T.tuple (by decide +kernel) rfl) pa_nil)))))
        (pss_one (ps_ret (pe_lst (pa_cons (pv 0) pa_nil))))
        pss_nil)
      (pss_cons (ps_set (i := 1) sc_law_leaves.nd rfl (Or.inl rfl) (pe_lst pa_nil))
      (pss_cons (ps_for PassesOwn.never (by rfl) (PI.tupK (K := K) rfl (pi_tup (pe_slice (sl_tupK (K := K) rfl) (pv 0) (po_some pe_int) po_none))) (pg_name (i := 2) sc_law_leaves.nd rfl (Or.inl rfl))
        (pss_one (ps_set (i := 1) sc_law_leaves.nd rfl (Or.inl rfl) (pe_op op_cat (pv 1) (pe_call G_law_leaves (hr.mono (by first | decide | omega)) (by rfl) D_law_leaves.g D_law_leaves.F.kp D_law_leaves.b .nil pass0 (pa_cons (pv 2) pa_nil))))))
      (pss_one (ps_ret (pv 1)))))), ?_⟩
      refine r_at (σ := [some _, none, none]) rfl ?_
      cases ht with
      | leaf z =>
        walk_at "z"
        refine r_isiInt ?_
        walk_at "z"
        refine iteT ?_
        walk_at "z"
        refine r_lstN sz1 fun l hl => ?_
        exact q l _ (same_new hl) upd_same
      | @node a xs ts w0 ha hts =>
        walk_at "z"
        refine r_isiTup ha ?_
        walk_at "z"
        refine iteF ?_
        walk_at "z"
        refine r_lstN (by decide) fun f hf => ?_
        walk_at "z"
        have ha1 : (upd H f (.lst [])) a = some (.tup (.str (wd w0) :: xs)) := same_new hf _ _ ha
        refine r_tail ha1 fun p hp => ?_
        have fp : f ≠ p := ne_of_none upd_same hp
        have sp : Same H (upd (upd H f (.lst [])) p (.tup xs)) := (same_new hf).trans (same_new hp)
        have pr := hts.pd
        refine r_it (.inl (.inl upd_same)) (forR_tup (xs := xs) (fun i σ' H' => (∃ b x2, σ' = [some (.ref a), some (.ref b), x2] ∧ H' b = some (.lst ((lvs (ts.take i)).map V.int))) ∧ Same H H' ∧ H' p = some (.tup xs)) ⟨⟨f, _, rfl, (upd_ne fp).trans upd_same⟩, sp, upd_same⟩ (fun i σ' H' _ ⟨_, _, h⟩ => .inl (.inl h)) ?_ ?_)
        · rintro i x σ' H' hx ⟨⟨b, x2, rfl, hb⟩, sm, hp'⟩
          obtain ⟨t, hti, hxt⟩ := pd_get pr hx
          have hm := List.mem_of_getElem? hti
          have h1 : dp t < d := by
            have := dps_mem hm
            simp only [dp] at hd
            omega
          have e1 : ts.take (i + 1) = ts.take i ++ [t] := take_next hti
          have e2 : lvs (ts.take (i + 1)) = lvs (ts.take i) ++ lv t := by
            rw [e1, lvs_append]
            simp [lvs]
          have le : (lvs (ts.take i)).length + (lv t).length ≤ 100 := by
            have e3 : lvs ts = lvs (ts.take (i + 1)) ++ lvs (ts.drop (i + 1)) := by rw [← lvs_append, List.take_append_drop]
            have e4 := congrArg List.length e3
            rw [e2] at e4
            simp only [List.length_append] at e4
            simp only [lv] at hl
            omega
          walk_at "z"
          refine ⟨x, t, rfl, hxt.tk (.of_same sm), h1, by omega, fun l H2 s2 hll => ?_⟩
          walk_at "z"
          refine r_cat (s2 _ _ hb) hll (by simp only [List.length_map]; omega) fun c hc => ?_
          walk_at "z"
          refine ⟨⟨c, _, rfl, ?_⟩, (sm.trans s2).trans (same_new hc), same_new hc _ _ (s2 _ _ hp')⟩
          rw [e2, List.map_append]
          exact upd_same
        · rintro σ' H' ⟨⟨b, x2, rfl, hb⟩, sm, hp'⟩
          walk_at "z"
          rw [pr.length, List.take_length] at hb
          exact q b H' sm hb
/-- the pairs that a join joins -/
def spTreePairs (d : Nat) : Sp := fun vs H Q _ => ∃ (v : V) (t : Tr), vs = [v] ∧ TreeAt H v t ∧ dp t < d ∧ (lv t).length ≤ 60 ∧ (lv t).Nodup ∧ ∀ (l : Addr) (xs : List V) (ps : List (Int × Int)) (H' : Hp), Same H H' → H' l = some (.lst xs) → Prs H' xs ps →
  (∀ p ∈ ps, p.1 ∈ lv t ∧ p.2 ∈ lv t ∧ p.1 ≠ p.2) → ps.length ≤ (lv t).length * (lv t).length → Q (.ref l) H'
theorem r_eqJoin {H : Hp} {Q : VK} {w0 : Bool} (q : Q (.bl w0) H) : rEq (.str (wd w0)) (.str "join") H Q := by
  refine ⟨rfl, ?_⟩
  cases w0 with
  | true => exact q
  | false => exact q
theorem ok_tree_pairs (T : Blt mg) (D_law_tree_pairs : DefAt K mg "_law_tree_pairs" s_law_tree_pairs ["tree"]) (D_law_leaves : DefAt K mg "_law_leaves" s_law_leaves ["tree"]) : ∀ d : Nat, FnOk P w K mg base CX0 (d + 1) D_law_tree_pairs.f D_law_tree_pairs.fd ["tree"] (spTreePairs d)
  | 0 => fn_none.imp fun vs H Q E h => by
    obtain ⟨_, _, _, _, h, _⟩ := h
    omega
  | d + 1 => by
    have G_law_tree_pairs := ok_tree_pairs T D_law_tree_pairs D_law_leaves d
    have G_law_leaves : FnOk P w K mg base CX0 d D_law_leaves.f D_law_leaves.fd ["tree"] (spLeaves d) := ok_leaves T D_law_leaves d
    refine D_law_tree_pairs.F.ok sc_law_tree_pairs (fun vs H Q E h => ?_) (fun cdv A outer s H vs Q E hr h => ?_)
    · obtain ⟨v, t, rfl, _⟩ := h
      rfl
    · obtain ⟨v, t, rfl, ht, hd, hl, nd, q⟩ := h
      refine ⟨_, (pss_cons (ps_if (pt_not (pt_val (pe_callB (call_isiK (K := K) rfl) (by rfl) T.isinstance (by decide +kernel) (pa_cons (pv 0) (pa_cons (pe_bltn (v := .ty "tuple") (u := .type "tuple") (by rfl) T.tuple (by decide +kernel) rfl) pa_nil)))))
        (pss_one (ps_ret (pe_lst pa_nil)))
        pss_nil)
      (pss_cons (ps_set (i := 1) sc_law_tree_pairs.nd rfl (Or.inl rfl) (pe_lst pa_nil))
      (pss_cons (ps_set (i := 2) sc_law_tree_pairs.nd rfl (Or.inl rfl) (pe_lst pa_nil))
      (pss_cons (ps_for PassesOwn.never (by rfl) (PI.tupK (K := K) rfl (pi_tup (pe_slice (sl_tupK (K := K) rfl) (pv 0) (po_some pe_int) po_none))) (pg_name (i := 3) sc_law_tree_pairs.nd rfl (Or.inl rfl))
        (pss_cons (ps_set (i := 1) sc_law_tree_pairs.nd rfl (Or.inl rfl) (pe_op op_cat (pv 1) (pe_call G_law_tree_pairs (hr.mono (by first | decide | omega)) (by rfl) D_law_tree_pairs.g D_law_tree_pairs.F.kp D_law_tree_pairs.b .nil pass0 (pa_cons (pv 3) pa_nil))))
        (pss_cons (ps_set (i := 4) sc_law_tree_pairs.nd rfl (Or.inl rfl) (pe_call G_law_leaves (hr.mono (by first | decide | omega)) (by rfl) D_law_leaves.g D_law_leaves.F.kp D_law_leaves.b .nil pass0 (pa_cons (pv 3) pa_nil)))
        (pss_cons (ps_if (pt_cmpR op_eq (pe_ix (ix_tupK (K := K) rfl) (pv 0) pe_int (fun _ _ => rfl)) pe_str (nomark _))
          (pss_one (ps_for PassesOwn.never (by rfl) (PI.listK (K := K) rfl (pi_list (pv 2))) (pg_name (i := 5) sc_law_tree_pairs.nd rfl (Or.inr rfl))
            (pss_one (ps_set (i := 1) sc_law_tree_pairs.nd rfl (Or.inl rfl) (pe_op op_cat (pv 1) (pe_lc (own := [("v", 6)]) (by rfl) sc_law_tree_pairs.nd (PI.listK (K := K) rfl (pi_list (pv 4))) (blkOk_by (own := [("v", 6)]) (N := ["tree", "found", "before", "part", "leaves", "u", "v"]) (sc := (defScope s_law_tree_pairs)) (by decide +kernel)) (fun _ _ _ _ _ => (pg_name (i := 6) sc_law_tree_pairs.nd rfl (Or.inl rfl))) (fun _ _ _ _ _ => pts_nil) (fun _ _ _ _ _ => (pe_tup (pa_cons (pe_callB (call_min2' rfl) (by rfl) T.min (by decide +kernel) (pa_cons (pv 5) (pa_cons (pv 6) pa_nil))) (pa_cons (pe_callB (call_max2' rfl) (by rfl) T.max (by decide +kernel) (pa_cons (pv 5) (pa_cons (pv 6) pa_nil))) pa_nil))))))))))
          pss_nil)
        (pss_one (ps_set (i := 2) sc_law_tree_pairs.nd rfl (Or.inl rfl) (pe_op op_cat (pv 2) (pv 4))))))))
      (pss_one (ps_ret (pv 1))))))), ?_⟩
      refine r_at (σ := [some _, none, none, none, none, none, none]) rfl ?_
      cases ht with
      | leaf z =>
        walk_at "z"
        refine r_isiInt ?_
        walk_at "z"
        refine iteT ?_
        walk_at "z"
        refine r_lstN (by decide) fun l hl => ?_
        exact q l [] [] _ (same_new hl) upd_same .nil (fun p hp => by cases hp) (Nat.zero_le _)
      | @node a xs ts w0 ha hts =>
        walk_at "z"
        refine r_isiTup ha ?_
        walk_at "z"
        refine iteF ?_
        walk_at "z"
        refine r_lstN (by decide) fun f hf => ?_
        walk_at "z"
        refine r_lstN (by decide) fun b0 hb0 => ?_
        have sb := (same_new (o := .lst []) hf).trans (same_new (o := .lst []) hb0)
        have ha1 := sb _ _ ha
        have fb : f ≠ b0 := ne_of_none upd_same hb0
        walk_at "z"
        refine r_tail ha1 fun p hp => ?_
        have sp := sb.trans (same_new (o := .tup xs) hp)
        have bp : b0 ≠ p := ne_of_none upd_same hp
        have fp : f ≠ p := ne_of_none ((upd_ne fb).trans upd_same) hp
        have pr := hts.pd
        simp only [lv] at hl nd q
        refine r_it (.inl (.inl upd_same)) (forR_tup (xs := xs) (fun i σ' H' => (∃ f b x3 x4 x5, σ' = [some (.ref a), some (.ref f), some (.ref b), x3, x4, x5, none] ∧ H' b = some (.lst ((lvs (ts.take i)).map V.int)) ∧ ∃ ys ps, H' f = some (.lst ys) ∧ Prs H' ys ps ∧ (∀ p ∈ ps, p.1 ∈ lvs (ts.take i) ∧ p.2 ∈ lvs (ts.take i) ∧ p.1 ≠ p.2) ∧ ps.length ≤ (lvs (ts.take i)).length * (lvs (ts.take i)).length) ∧ Same H H' ∧ H' p = some (.tup xs))
          ⟨⟨f, b0, _, _, _, rfl, (upd_ne bp).trans upd_same, [], [], (upd_ne fp).trans ((upd_ne fb).trans upd_same), .nil, (fun p hp => by cases hp), Nat.zero_le _⟩, sp, upd_same⟩ (fun i σ' H' _ ⟨_, _, h⟩ => .inl (.inl h)) ?_ ?_)
        · rintro i x σ' H' hx ⟨⟨f, b, x3, x4, x5, rfl, hb, ys, ps, hy, hys, mem, len⟩, sm, hp'⟩
          obtain ⟨t, hti, hxt⟩ := pd_get pr hx
          have hm := List.mem_of_getElem? hti
          have h1 : dp t < d := by
            have := dps_mem hm
            simp only [dp] at hd
            omega
          have e1 : ts.take (i + 1) = ts.take i ++ [t] := take_next hti
          have e2 : lvs (ts.take (i + 1)) = lvs (ts.take i) ++ lv t := by
            rw [e1, lvs_append]
            simp [lvs]
          have e3 : lvs ts = lvs (ts.take i) ++ lv t ++ lvs (ts.drop (i + 1)) := by rw [← e2, ← lvs_append, List.take_append_drop]
          have le : (lvs (ts.take i)).length + (lv t).length ≤ 60 := by
            have e4 := congrArg List.length e3
            simp only [List.length_append] at e4
            omega
          rw [e3] at nd
          obtain ⟨nd1, _, _⟩ := List.nodup_append.mp nd
          obtain ⟨_, ndt, dis⟩ := List.nodup_append.mp nd1
          walk_at "z"
          refine ⟨x, t, rfl, hxt.tk (.of_same sm), h1, by omega, ndt, fun l zs rs H2 s2 hz hzs memr lenr => ?_⟩
          walk_at "z"
          have hy2 := s2 _ _ hy
          have hb2 := s2 _ _ hb
          have lps : ps.length ≤ 60 * 60 := Nat.le_trans len (Nat.mul_le_mul (by omega) (by omega))
          have lrs : rs.length ≤ 60 * 60 := Nat.le_trans lenr (Nat.mul_le_mul (by omega) (by omega))
          refine r_cat hy2 hz (by rw [hys.length, hzs.length]; omega) fun c hc => ?_
          have s3 : Same H2 (upd H2 c (.lst (ys ++ zs))) := same_new hc
          have sm2 := sm.trans s2
          have sm3 := sm2.trans s3
          have prc := pd_append (Prs.tk (.of_same (s2.trans s3)) hys) (Prs.tk (.of_same s3) hzs)
          walk_at "z"
          refine ⟨x, t, rfl, hxt.tk (.of_same sm3), h1, by omega, fun l3 H3 s4 hl4 => ?_⟩
          have sm4 := sm3.trans s4
          have ha4 := sm4 _ _ ha
          have hb4 := s4 _ _ (s3 _ _ hb2)
          have hc4 : H3 c = some (.lst (ys ++ zs)) := s4 _ _ upd_same
          have hp4 := s4 _ _ (s3 _ _ (s2 _ _ hp'))
          have prc4 := Prs.tk (.of_same s4) prc
          have memB : ∀ z ∈ lvs (ts.take i), z ∈ lvs (ts.take (i + 1)) := fun z hz => by rw [e2]; exact List.mem_append_left _ hz
          have memL : ∀ z ∈ lv t, z ∈ lvs (ts.take (i + 1)) := fun z hz => by rw [e2]; exact List.mem_append_right _ hz
          have memc : ∀ p ∈ ps ++ rs, p.1 ∈ lvs (ts.take (i + 1)) ∧ p.2 ∈ lvs (ts.take (i + 1)) ∧ p.1 ≠ p.2 := fun p hp => by
            rcases List.mem_append.mp hp with z | z
            · obtain ⟨m1, m2, m3⟩ := mem p z
              exact ⟨memB _ m1, memB _ m2, m3⟩
            · obtain ⟨m1, m2, m3⟩ := memr p z
              exact ⟨memL _ m1, memL _ m2, m3⟩
          have sq : (lvs (ts.take (i + 1))).length * (lvs (ts.take (i + 1))).length = (lvs (ts.take i)).length * (lvs (ts.take i)).length + (lv t).length * (lv t).length + 2 * ((lvs (ts.take i)).length * (lv t).length) := by
            rw [e2, List.length_append, Nat.add_mul, Nat.mul_add, Nat.mul_add, Nat.mul_comm (lv t).length (lvs (ts.take i)).length]
            omega
          have bnd : (lvs (ts.take i)).length * (lv t).length ≤ 60 * 60 := Nat.mul_le_mul (by omega) (by omega)
          walk_at "z"
          refine r_eqJoin ?_
          walk_at "z"
          refine r_iteB (fun hw => ?_) (fun hw => ?_)
          · walk_at "z"
            refine r_il (.inl (.inl hb4)) (forR_list (xs := (lvs (ts.take i)).map V.int) (fun j σ' H' => (∃ f x5, σ' = [some (.ref a), some (.ref f), some (.ref b), some x, some (.ref l3), x5, none] ∧ ∃ ys ps, H' f = some (.lst ys) ∧ Prs H' ys ps ∧ (∀ p ∈ ps, p.1 ∈ lvs (ts.take (i + 1)) ∧ p.2 ∈ lvs (ts.take (i + 1)) ∧ p.1 ≠ p.2) ∧ ps.length ≤ (lvs (ts.take i)).length * (lvs (ts.take i)).length + (lv t).length * (lv t).length + j * (lv t).length) ∧ Same H3 H')
              ⟨⟨c, _, rfl, _, _, hc4, prc4, memc, by rw [List.length_append]; omega⟩, .refl _⟩ (fun j σ' H' _ ⟨_, s5⟩ => .inl (.inl (s5 _ _ hb4))) ?_ ?_)
            · rintro j u0 σ' H' hu ⟨⟨f, x5, rfl, ys, ps, hy, hys, mem2, len2⟩, s5⟩
              rw [List.getElem?_map] at hu
              obtain ⟨u, hu2, rfl⟩ := Option.map_eq_some_iff.mp hu
              have uB := List.mem_of_getElem? hu2
              have jl : j < (lvs (ts.take i)).length := (List.getElem?_eq_some_iff.mp hu2).1
              have jb : j * (lv t).length ≤ 60 * 60 := Nat.mul_le_mul (by omega) (by omega)
              have bb : (lvs (ts.take i)).length * (lvs (ts.take i)).length ≤ 60 * 60 := Nat.mul_le_mul (by omega) (by omega)
              have ll : (lv t).length * (lv t).length ≤ 60 * 60 := Nat.mul_le_mul (by omega) (by omega)
              walk_at "z"
              refine r_il (.inl (.inl (s5 _ _ hl4))) fun e he => lcR_list (xs := (lv t).map V.int) (fun k H6 => Same H' H6 ∧ ∃ zs, H6 e = some (.lst zs) ∧ Prs H6 zs (((lv t).take k).map fun v => (min u v, max u v))) (by walk_at "zw") ⟨same_new he, [], upd_same, .nil⟩ (fun k H6 _ ⟨s6, _⟩ => .inl (.inl (s6 _ _ (s5 _ _ hl4)))) ?_ ?_
              · rintro k v0 H6 hv ⟨s6, zs, hz, hzs⟩
                rw [List.getElem?_map] at hv
                obtain ⟨v, hv2, rfl⟩ := Option.map_eq_some_iff.mp hv
                walk_at "z"
                refine ⟨rfl, ?_⟩
                walk_at "z"
                refine r_tupN sz2 fun t2 ht2 => ?_
                refine r_lce (by walk_at "zh") (small_lt ?_) ⟨same_mut (s6.trans (same_new ht2)) he, _, upd_same, ?_⟩
                · rw [hzs.length, List.length_map, List.length_take]
                  omega
                · rw [take_next hv2, List.map_append]
                  exact prs_push hz hzs ht2
              · rintro H6 ⟨s6, zs, hz, hzs⟩
                rw [List.length_map, List.take_length] at hzs
                refine r_cat (s6 _ _ hy) hz (by rw [hys.length, hzs.length, List.length_map]; omega) fun g hg => ?_
                walk_at "z"
                refine ⟨⟨g, _, rfl, _, _, upd_same, Prs.tk (.new hg) (pd_append (Prs.tk (.of_same s6) hys) hzs), fun p hp => ?_, ?_⟩, (s5.trans s6).trans (same_new hg)⟩
                · rcases List.mem_append.mp hp with z | z
                  · exact mem2 p z
                  · obtain ⟨v, hv, rfl⟩ := List.mem_map.mp z
                    have ne := dis u uB v hv
                    have mu := memB u uB
                    have mv := memL v hv
                    rcases Int.lt_or_lt_of_ne ne with q1 | q1
                    · rw [Int.min_eq_left (Int.le_of_lt q1), Int.max_eq_right (Int.le_of_lt q1)]
                      exact ⟨mu, mv, ne⟩
                    · rw [Int.min_eq_right (Int.le_of_lt q1), Int.max_eq_left (Int.le_of_lt q1)]
                      exact ⟨mv, mu, ne.symm⟩
                · rw [List.length_append, List.length_map, Nat.succ_mul]
                  omega
            · rintro σ' H' ⟨⟨f, x5, rfl, ys, ps, hy, hys, mem2, len2⟩, s5⟩
              walk_at "z"
              rw [List.length_map] at len2
              refine r_cat (s5 _ _ hb4) (s5 _ _ hl4) (by simp only [List.length_map]; omega) fun g hg => ?_
              walk_at "z"
              refine ⟨⟨f, g, _, _, _, rfl, ?_, ys, ps, same_new hg _ _ hy, Prs.tk (.new hg) hys, mem2, ?_⟩, (sm4.trans s5).trans (same_new hg), same_new hg _ _ (s5 _ _ hp4)⟩
              · rw [e2, List.map_append]
                exact upd_same
              · rw [sq]
                omega
          · walk_at "z"
            refine r_cat hb4 hl4 (by simp only [List.length_map]; omega) fun g hg => ?_
            walk_at "z"
            refine ⟨⟨c, g, _, _, _, rfl, ?_, _, _, same_new hg _ _ hc4, Prs.tk (.new hg) prc4, memc, ?_⟩, sm4.trans (same_new hg), same_new hg _ _ hp4⟩
            · rw [e2, List.map_append]
              exact upd_same
            · rw [sq, List.length_append]
              omega
        · rintro σ' H' ⟨⟨f, b, x3, x4, x5, rfl, hb, ys, ps, hy, hys, mem, len⟩, sm, hp'⟩
          walk_at "z"
          rw [pr.length, List.take_length] at mem len
          exact q f ys ps H' sm hy hys mem len
/-- a drawn tree over some of the leaves -/
def spDrawn : Sp := fun vs H Q _ => ∃ (a s l : Addr) (ns : List Int), vs = [.ref a, .ref l] ∧ Pool H a s ∧ H l = some (.lst (ns.map V.int)) ∧ 1 ≤ ns.length ∧ ns.length ≤ 60 ∧
  ∀ (v : V) (t : Tr) (H' : Hp), Pool H' a s → Gr a H H' → TreeAt H' v t → wf t → (∃ ms, (lv t ++ ms).Perm ns) → Q v H'
theorem leafs {H : Hp} : ∀ ns : List Int, Paired (TreeAt H) (ns.map V.int) (ns.map Tr.leaf)
  | [] => .nil
  | n :: ns => .cons (.leaf n) (leafs ns)
theorem lvs_leafs : ∀ ns : List Int, lvs (ns.map Tr.leaf) = ns
  | [] => rfl
  | n :: ns => by simp [lvs, lv, lvs_leafs ns]
theorem pdT_tk {H H' : Hp} (k : TK H H') {vs : List V} {ts : List Tr} (h : Paired (TreeAt H) vs ts) : Paired (TreeAt H') vs ts := (TreesAt.tk k ts (TreesAt.of h)).pd
theorem pd_erase {α β : Type} {F : α → β → Prop} : ∀ {xs : List α} {ps : List β} (k : Nat), Paired F xs ps → Paired F (xs.eraseIdx k) (ps.eraseIdx k)
  | _, _, _, .nil => .nil
  | _, _, 0, .cons _ t => t
  | _, _, k + 1, .cons f t => .cons f (pd_erase k t)
theorem ok_drawn (T : Blt mg) (D : DefAt K mg "_law_drawn_tree" s_law_drawn_tree ["pool", "leaves"]) (D_law_draw : DefAt K mg "_law_draw" s_law_draw ["pool", "many"]) (G_law_draw : FnOk P w K mg base CX0 2 D_law_draw.f D_law_draw.fd ["pool", "many"] spDraw) :
    FnOk P w K mg base CX0 4 D.f D.fd ["pool", "leaves"] spDrawn := by
  refine D.F.ok sc_law_drawn_tree (fun vs H Q E h => ?_) (fun cdv A outer s H vs Q E hr h => ?_)
  · obtain ⟨a, s, l, ns, rfl, _⟩ := h
    rfl
  · obtain ⟨a, s0, l, ns, rfl, hP, hl, l1, l2, q⟩ := h
    refine ⟨_, (pss_cons (ps_set (i := 2) sc_law_drawn_tree.nd rfl (Or.inr rfl) (pe_callTy (call_listK (K := K) rfl) (by rfl) T.list (by decide +kernel) (pa_cons (pv 1) pa_nil)))
      (pss_cons (ps_for PassesOwn.never (by rfl) (pi_range1 (by rfl) T.range (pa_cons (pe_op op_sub (pe_callB (call_lenK (K := K) rfl) (by rfl) T.len (by decide +kernel) (pa_cons (pv 2) pa_nil)) pe_int) pa_nil)) (pg_name (i := 3) sc_law_drawn_tree.nd rfl (Or.inl rfl))
        (pss_one (ps_if (pt_cmpR op_gt (pe_callB (call_lenK (K := K) rfl) (by rfl) T.len (by decide +kernel) (pa_cons (pv 2) pa_nil)) pe_int (nomark _))
          (pss_cons (ps_set (i := 4) sc_law_drawn_tree.nd rfl (Or.inl rfl) (pe_callB (call_min2' rfl) (by rfl) T.min (by decide +kernel) (pa_cons (pe_callB (call_lenK (K := K) rfl) (by rfl) T.len (by decide +kernel) (pa_cons (pv 2) pa_nil)) (pa_cons (pe_op op_add pe_int (pe_call G_law_draw (hr.mono (by first | decide | omega)) (by rfl) D_law_draw.g D_law_draw.F.kp D_law_draw.b .nil pass0 (pa_cons (pv 0) (pa_cons pe_int pa_nil)))) pa_nil))))
          (pss_cons (ps_setLc (i := 5) (own := [("j", 6)]) (by rfl) sc_law_drawn_tree.nd rfl rfl (sw_true rfl rfl rfl (by decide +kernel)) (pi_range1 (by rfl) T.range (pa_cons (pv 4) pa_nil)) (blkOk_by (own := [("j", 6)]) (N := ["pool", "leaves", "trees", "k", "many", "parts", "j"]) (sc := (defScope s_law_drawn_tree)) (by decide +kernel)) (fun _ _ _ _ _ => (pg_name (i := 6) sc_law_drawn_tree.nd rfl (Or.inl rfl))) (fun _ _ _ _ _ => pts_nil) (fun _ _ _ _ _ => (PE.bmK (K := K) rfl (pe_bm PySem.F.plainAttrs_list PySem.F.slot_list_pop PySem.F.type_list_pop mt_popAt (pv 2) (pa_cons (pe_call G_law_draw (hr.mono (by first | decide | omega)) (by rfl) D_law_draw.g D_law_draw.F.kp D_law_draw.b .nil pass0 (pa_cons (pv 0) (pa_cons (pe_callB (call_lenK (K := K) rfl) (by rfl) T.len (by decide +kernel) (pa_cons (pv 2) pa_nil)) pa_nil))) pa_nil)))))
          (pss_one (ps_expr (PE.bmK (K := K) rfl (pe_bm PySem.F.plainAttrs_list PySem.F.slot_list_append PySem.F.type_list_append mt_append (pv 2) (pa_cons (pe_op (op_catTK (K := K) rfl) (pe_tup (pa_cons (pe_ix (ix_listK (K := K) rfl) (pe_lst (pa_cons pe_str (pa_cons pe_str pa_nil))) (pe_call G_law_draw (hr.mono (by first | decide | omega)) (by rfl) D_law_draw.g D_law_draw.F.kp D_law_draw.b .nil pass0 (pa_cons (pv 0) (pa_cons pe_int pa_nil))) (fun _ _ => rfl)) pa_nil)) (pe_callTy (call_tupleK (K := K) rfl) (by rfl) T.tuple (by decide +kernel) (pa_cons (pv 5) pa_nil))) pa_nil)))))))
          pss_nil)))
      (pss_one (ps_ret (pe_ix (ix_listK (K := K) rfl) (pv 2) pe_int (fun _ _ => rfl)))))), ?_⟩
    refine r_at (σ := [some _, some _, none, none, none, none, none]) rfl ?_
    walk_at "z"
    refine r_listL (.inl (.inl hl)) fun r hr0 => ?_
    have rne := new_ne hP hr0
    walk_at "z"
    rw [List.length_map]
    refine r_rg1 (by omega) (forR_range (fun i σ' H' => (∃ x3 x4 x5, σ' = [some (.ref a), some (.ref l), some (.ref r), x3, x4, x5, none]) ∧ Pool H' a s0 ∧ Gr a H H' ∧ ∃ vs ts, H' r = some (.lst vs) ∧ Paired (TreeAt H') vs ts ∧ (lvs ts).Perm ns ∧ (∀ t ∈ ts, wf t) ∧ 1 ≤ ts.length ∧ ts.length ≤ 60)
      ⟨⟨_, _, _, rfl⟩, hP.mono (same_new hr0), .new hr0, _, ns.map Tr.leaf, upd_same, leafs ns, by rw [lvs_leafs], ?_, by rw [List.length_map]; exact l1, by rw [List.length_map]; exact l2⟩ ?_ ?_)
    · intro t ht
      obtain ⟨z, _, rfl⟩ := List.mem_map.mp ht
      simp [wf]
    · rintro i σ' H' hi ⟨⟨x3, x4, x5, rfl⟩, hP', g, vs, ts, hv, hvt, pm, hwf, t1, t2⟩
      walk_at "z"
      rw [hvt.length]
      refine r_ite (fun h => ?_) (fun h => ?_)
      · walk_at "z"
        refine ⟨a, s0, 2, rfl, hP', by omega, by omega, fun c H1 c0 c1 hP1 g1 => ?_⟩
        have hv1 := g1 _ _ rne.1 hv
        have hvt1 := pdT_tk (g1.tk hP') hvt
        walk_at "z"
        rw [hvt.length]
        obtain ⟨m, hm⟩ : ∃ m : Nat, min (ts.length : Int) (2 + c) = (m : Int) := ⟨(min (ts.length : Int) (2 + c)).toNat, by omega⟩
        rw [hm]
        refine r_rg1 (by omega) fun d hd => lcR_range (fun j H2 => Pool H2 a s0 ∧ Gr a H H2 ∧ ∃ vs2 ts2 us qs, H2 r = some (.lst vs2) ∧ Paired (TreeAt H2) vs2 ts2 ∧ H2 d = some (.lst us) ∧ Paired (TreeAt H2) us qs ∧ (ts2 ++ qs).Perm ts ∧ qs.length = j)
          (by walk_at "zw") ⟨hP1.mono (same_new hd), (g.trans g1).trans (.new hd), vs, ts, [], [], same_new hd _ _ hv1, pdT_tk (.new hd) hvt1, upd_same, .nil, by rw [List.append_nil], rfl⟩ ?_ ?_
        · rintro j H2 hj ⟨hP2, g2, vs2, ts2, us, qs, hv2, hvt2, hu, hut, pm2, hlq⟩
          have dne := new_ne hP1 hd
          have dr : d ≠ r := (ne_of_none hv1 hd).symm
          have lts : ts2.length + j = ts.length := by
            have := pm2.length_eq
            rw [List.length_append, hlq] at this
            omega
          walk_at "z"
          refine ⟨rfl, ?_⟩
          walk_at "z"
          rw [hvt2.length]
          refine ⟨a, s0, _, rfl, hP2, by omega, by omega, fun b H3 b0 b1 hP3 g3 => ?_⟩
          have hv3 := g3 _ _ rne.1 hv2
          have hvt3 := pdT_tk (g3.tk hP2) hvt2
          have hu3 := g3 _ _ dne.1 hu
          have hut3 := pdT_tk (g3.tk hP2) hut
          walk_at "z"
          have hb : b.toNat < ts2.length := by omega
          have gt : ts2[b.toNat]? = some ts2[b.toNat] := List.getElem?_eq_getElem hb
          obtain ⟨y, hy, hyt⟩ := pd_get2 hvt3 gt
          refine r_popAt hv3 (k := b.toNat) (y := y) (by omega) (by omega) hy ?_
          have k4 : TK H3 (upd H3 r (.lst (vs2.eraseIdx b.toNat))) := .lst hv3
          have k5 : TK H3 (upd (upd H3 r (.lst (vs2.eraseIdx b.toNat))) d (.lst (us ++ [y]))) := k4.trans (.lst ((upd_ne dr).trans hu3))
          refine r_lce ((upd_ne dr).trans hu3) (small_lt (by rw [hut.length]; omega)) ⟨(hP3.upd rne).upd dne, ((g2.trans g3).mut hr0).mut ((g.trans g1).free hP1.ne hd), vs2.eraseIdx b.toNat, ts2.eraseIdx b.toNat, us ++ [y], qs ++ [ts2[b.toNat]], (upd_ne (Ne.symm dr)).trans upd_same, pdT_tk k5 (pd_erase _ hvt3), upd_same, (pdT_tk k5 hut3).snoc (TreeAt.tk k5 _ hyt), ?_, by rw [List.length_append, hlq]; rfl⟩
          refine List.Perm.trans ?_ pm2
          have p1 : (ts2.eraseIdx b.toNat ++ (qs ++ [ts2[b.toNat]])).Perm ([ts2[b.toNat]] ++ (ts2.eraseIdx b.toNat ++ qs)) := by
            rw [← List.append_assoc]
            exact List.perm_append_comm
          exact p1.trans ((get_erase_perm ts2 gt).append_right qs)
        · rintro H2 ⟨hP2, g2, vs2, ts2, us, qs, hv2, hvt2, hu, hut, pm2, hlq⟩
          have dne := new_ne hP1 hd
          walk_at "z"
          refine r_lstN sz2 fun e he => ?_
          have hP3 := hP2.mono (same_new (o := .lst [.str "union", .str "join"]) he)
          walk_at "z"
          refine ⟨a, s0, 2, rfl, hP3, by omega, by omega, fun b H3 b0 b1 hP4 g3 => ?_⟩
          have he3 := g3 _ _ (new_ne hP2 he).1 upd_same
          obtain ⟨w0, hw⟩ : ∃ w0 : Bool, atI [V.str "union", V.str "join"] b = some (.str (wd w0)) := by
            have e : b = 0 ∨ b = 1 := by omega
            rcases e with e | e <;> subst e
            · exact ⟨false, rfl⟩
            · exact ⟨true, rfl⟩
          have s1 : Gr a H2 H3 := (Gr.new he).trans g3
          have hv3 := s1 _ _ rne.1 hv2
          have hu3 := s1 _ _ dne.1 hu
          walk_at "z"
          refine r_tupN sz1 fun t3 ht3 => ?_
          have k3 : Same H3 (upd H3 t3 (.tup [.str (wd w0)])) := same_new ht3
          have hu4 := k3 _ _ hu3
          walk_at "z"
          refine r_tupL (.inl (.inl hu4)) fun t4 ht4 => ?_
          have k4 := k3.trans (same_new (o := .tup us) ht4)
          have t34 : t3 ≠ t4 := ne_of_none upd_same ht4
          have lus : us.length = m := by rw [hut.length, hlq]; omega
          have une : us ≠ [] := fun z => by
            rw [z] at lus
            simp only [List.length_nil] at lus
            omega
          refine ⟨t3, t4, [.str (wd w0)], us, rfl, rfl, .inl (.inl ((upd_ne t34).trans upd_same)),   .inl (.inl upd_same), List.cons_ne_nil _ _, small_len (by simp only [List.length_cons, List.length_nil]; omega), fun z => absurd z une, fun _ t5 ht5 => ?_⟩
          have k5 := k4.trans (same_new (o := .tup ([.str (wd w0)] ++ us)) ht5)
          walk_at "z"
          refine r_appT (k5 _ _ hv3) (small_lt (by rw [hvt2.length]; have := pm2.length_eq; rw [List.length_append] at this; omega)) ?_
          have kk : TK H2 (upd (upd (upd (upd H3 t3 (.tup [.str (wd w0)])) t4 (.tup us)) t5 (.tup ([.str (wd w0)] ++ us))) r (.lst (vs2 ++ [.ref t5]))) := (s1.tk hP2).trans ((TK.of_same k5).trans (.lst (k5 _ _ hv3)))
          have r5 : t5 ≠ r := (ne_of_none (k4 _ _ hv3) ht5).symm
          refine ⟨⟨_, _, _, rfl⟩, (hP4.mono k5).upd rne, ((g2.trans s1).trans (.of_same k5)).mut hr0, _, ts2 ++ [.node w0 qs], upd_same, (pdT_tk kk hvt2).snoc (show TreeAt (upd (upd (upd (upd H3 t3 (.tup [.str (wd w0)])) t4 (.tup us)) t5 (.tup ([.str (wd w0)] ++ us))) r (.lst (vs2 ++ [.ref t5]))) (.ref t5) (.node w0 qs) from TreeAt.node w0 (xs := us) ((upd_ne r5).trans upd_same) (TreesAt.of (pdT_tk kk hut))), ?_, fun t ht => ?_, ?_, ?_⟩
          · have e : lvs (ts2 ++ [.node w0 qs]) = lvs (ts2 ++ qs) := by
              rw [lvs_append, lvs_append]
              simp [lvs, lv]
            rw [e]
            exact (lvs_perm pm2).trans pm
          · rcases List.mem_append.mp ht with z | z
            · exact hwf t (pm2.mem_iff.mp (List.mem_append_left _ z))
            · rw [List.mem_singleton.mp z]
              simp only [wf]
              exact ⟨by omega, wfs_mem.mpr fun t2 ht2 => hwf t2 (pm2.mem_iff.mp (List.mem_append_right _ ht2))⟩
          · rw [List.length_append]
            simp
          · have := pm2.length_eq
            rw [List.length_append] at this ⊢
            simp only [List.length_cons, List.length_nil]
            omega
      · exact ⟨⟨_, _, _, rfl⟩, hP', g, vs, ts, hv, hvt, pm, hwf, t1, t2⟩
    · rintro σ' H' ⟨⟨x3, x4, x5, rfl⟩, hP', g, vs, ts, hv, hvt, pm, hwf, t1, t2⟩
      walk_at "z"
      obtain ⟨t, ht⟩ : ∃ t, ts[0]? = some t := ⟨_, List.getElem?_eq_getElem (by omega)⟩
      obtain ⟨y, hy, hyt⟩ := pd_get2 hvt ht
      refine r_ixL (.inl (.inl hv)) (atI_nat (j := 0) hy) ?_
      obtain ⟨rest, e⟩ : ∃ rest, ts = t :: rest := by
        cases ts with
        | nil => simp at t1
        | cons u us =>
          have : u = t := Option.some.inj ht
          exact ⟨us, by rw [this]⟩
      refine q y t H' hP' g hyt (hwf t (List.mem_of_getElem? ht)) ⟨lvs rest, ?_⟩
      rw [e] at pm
      exact pm
end

set_option Elab.async false
set_option linter.all false
set_option maxRecDepth 100000
set_option maxHeartbeats 4000000
open PySem PySem.Spec PyProof.Rows L2

abbrev s_law_graph : Stmt := topS 340
theorem sc_law_graph : FnScope ["pool", "most", "way", "n", "graph"] ["pool", "most"] (defScope s_law_graph) := ⟨rfl, rfl, rfl, by decide +kernel, rfl, by decide +kernel, by decide +kernel⟩

section
variable {P : Program} {w : World} {K : PySem.W.Frag} {mg : Str → Option Value} {base : Heap}
theorem moved_good {n : Int} {o : List Int} {ps qs : List (Int × Int)} (g : GoodG n ps) (ho : o.Perm (rgI n)) (asc : qs.Pairwise ltP) (mem : ∀ p, p ∈ qs ↔ ∃ r ∈ ps, p = nrm (ordP o r)) : GoodG n qs := by
  have hl : o.length = n.toNat := by rw [ho.length_eq, rgI_len]
  have nd : o.Nodup := ho.nodup_iff.mpr (rgI_nodup n)
  have bd : ∀ z : Int, 0 ≤ z → z < n → 0 ≤ o.getD z.toNat 0 ∧ o.getD z.toNat 0 < n := fun z h0 h1 => by
    have hlt : z.toNat < o.length := by omega
    rw [List.getD_eq_getElem?_getD, List.getElem?_eq_getElem hlt]
    exact mem_rgI.mp (ho.mem_iff.mp (List.getElem_mem hlt))
  refine good_of g.one (ps := ps.map (ordP o)) (fun r hr => ?_) asc fun p => (mem p).trans ⟨?_, ?_⟩
  · obtain ⟨r0, hr0, rfl⟩ := List.mem_map.mp hr
    obtain ⟨b1, b2, b3⟩ := g.inn r0 hr0
    have h1 := bd r0.1 b1 (by omega)
    have h2 := bd r0.2 (by omega) b3
    refine ⟨h1.1, h1.2, h2.1, h2.2, fun e => ?_⟩
    have l1 : r0.1.toNat < o.length := by omega
    have l2 : r0.2.toNat < o.length := by omega
    unfold ordP at e
    simp only [List.getD_eq_getElem?_getD, List.getElem?_eq_getElem l1, List.getElem?_eq_getElem l2, Option.getD_some] at e
    have := (List.getElem_inj nd).mp e
    omega
  · rintro ⟨r, hr, rfl⟩
    exact ⟨_, List.mem_map.mpr ⟨r, hr, rfl⟩, rfl⟩
  · rintro ⟨r, hr, rfl⟩
    obtain ⟨r0, hr0, rfl⟩ := List.mem_map.mp hr
    exact ⟨r0, hr0, rfl⟩
/-- a drawn graph -/
def spGraph : Sp := fun vs H Q _ => ∃ (a s : Addr) (most : Int), vs = [.ref a, .int most] ∧ Pool H a s ∧ 1 ≤ most ∧ most ≤ 60 ∧ ∀ n : Int, 1 ≤ n → n ≤ most → GenQ a s H n Q
theorem ok_graph (T : Blt mg) (D : DefAt K mg "_law_graph" s_law_graph ["pool", "most"])
    (D_law_draw : DefAt K mg "_law_draw" s_law_draw ["pool", "many"]) (G_law_draw : FnOk P w K mg base CX0 2 D_law_draw.f D_law_draw.fd ["pool", "many"] spDraw)
    (D_law_interval_rows : DefAt K mg "_law_interval_rows" s_law_interval_rows ["pool", "n"]) (G_law_interval_rows : FnOk P w K mg base CX0 3 D_law_interval_rows.f D_law_interval_rows.fd ["pool", "n"] spRows)
    (D_law_interval_graph : DefAt K mg "_law_interval_graph" s_law_interval_graph ["rows"]) (G_law_interval_graph : FnOk P w K mg base CX0 2 D_law_interval_graph.f D_law_interval_graph.fd ["rows"] (spIvGraph K))
    (D_law_turned_graph : DefAt K mg "_law_turned_graph" s_law_turned_graph ["one", "two"]) (G_law_turned_graph : FnOk P w K mg base CX0 2 D_law_turned_graph.f D_law_turned_graph.fd ["one", "two"] (spTurned K))
    (D_law_shuffled : DefAt K mg "_law_shuffled" s_law_shuffled ["pool", "items"]) (G_law_shuffled : FnOk P w K mg base CX0 3 D_law_shuffled.f D_law_shuffled.fd ["pool", "items"] (spShuf K))
    (D_law_ordered_graph : DefAt K mg "_law_ordered_graph" s_law_ordered_graph ["pool", "n"]) (G_law_ordered_graph : FnOk P w K mg base CX0 4 D_law_ordered_graph.f D_law_ordered_graph.fd ["pool", "n"] spOrdered)
    (D_law_clique_graph : DefAt K mg "_law_clique_graph" s_law_clique_graph ["pool", "n"]) (G_law_clique_graph : FnOk P w K mg base CX0 4 D_law_clique_graph.f D_law_clique_graph.fd ["pool", "n"] spClique)
    (D_law_of : DefAt K mg "_law_of" s_law_of ["n", "pairs"]) (G_law_of : FnOk P w K mg base CX0 3 D_law_of.f D_law_of.fd ["n", "pairs"] (spOf K))
    (D_law_tree_pairs : DefAt K mg "_law_tree_pairs" s_law_tree_pairs ["tree"]) (G_law_tree_pairs : FnOk P w K mg base CX0 62 D_law_tree_pairs.f D_law_tree_pairs.fd ["tree"] (spTreePairs 61))
    (D_law_drawn_tree : DefAt K mg "_law_drawn_tree" s_law_drawn_tree ["pool", "leaves"]) (G_law_drawn_tree : FnOk P w K mg base CX0 4 D_law_drawn_tree.f D_law_drawn_tree.fd ["pool", "leaves"] spDrawn)
    (D_law_ringed : DefAt K mg "_law_ringed" s_law_ringed ["pool", "n"]) (G_law_ringed : FnOk P w K mg base CX0 4 D_law_ringed.f D_law_ringed.fd ["pool", "n"] spRinged)
    (D_law_other : DefAt K mg "_law_other" s_law_other ["graph"]) (G_law_other : FnOk P w K mg base CX0 2 D_law_other.f D_law_other.fd ["graph"] spOther)
    (D_law_random_graph : DefAt K mg "_law_random_graph" s_law_random_graph ["pool", "most"]) (G_law_random_graph : FnOk P w K mg base CX0 3 D_law_random_graph.f D_law_random_graph.fd ["pool", "most"] spRandom)
    (D_law_moved : DefAt K mg "_law_moved" s_law_moved ["graph", "order"]) (G_law_moved : FnOk P w K mg base CX0 4 D_law_moved.f D_law_moved.fd ["graph", "order"] (spMoved K)) :
    FnOk P w K mg base CX0 63 D.f D.fd ["pool", "most"] spGraph := by
  refine D.F.ok sc_law_graph (fun vs H Q E h => ?_) (fun cdv A outer s H vs Q E hr h => ?_)
  · obtain ⟨a, s, most, rfl, _⟩ := h
    rfl
  · obtain ⟨a, s0, most, rfl, hP, m1, m2, q⟩ := h
    refine ⟨_, (pss_cons (ps_set (i := 2) sc_law_graph.nd rfl (Or.inl rfl) (pe_call G_law_draw (hr.mono (by first | decide | omega)) (by rfl) D_law_draw.g D_law_draw.F.kp D_law_draw.b .nil pass0 (pa_cons (pv 0) (pa_cons pe_int pa_nil))))
      (pss_cons (ps_set (i := 3) sc_law_graph.nd rfl (Or.inl rfl) (pe_ix (ix_listK (K := K) rfl) (pe_lst (pa_cons (pv 1) (pa_cons (pe_op op_add pe_int (pe_call G_law_draw (hr.mono (by first | decide | omega)) (by rfl) D_law_draw.g D_law_draw.F.kp D_law_draw.b .nil pass0 (pa_cons (pv 0) (pa_cons (pv 1) pa_nil)))) pa_nil))) (pe_callTy call_int1' (by rfl) T.int (by decide +kernel) (pa_cons (pe_cmpR op_eq (pe_call G_law_draw (hr.mono (by first | decide | omega)) (by rfl) D_law_draw.g D_law_draw.F.kp D_law_draw.b .nil pass0 (pa_cons (pv 0) (pa_cons pe_int pa_nil))) pe_int (nomark _)) pa_nil)) (fun _ _ => rfl)))
      (pss_cons (ps_if (pt_cmpR op_eq (pv 2) pe_int (nomark _))
        (pss_one (ps_set (i := 4) sc_law_graph.nd rfl (Or.inl rfl) (pe_call G_law_interval_graph (hr.mono (by first | decide | omega)) (by rfl) D_law_interval_graph.g D_law_interval_graph.F.kp D_law_interval_graph.b .nil pass0 (pa_cons (pe_call G_law_interval_rows (hr.mono (by first | decide | omega)) (by rfl) D_law_interval_rows.g D_law_interval_rows.F.kp D_law_interval_rows.b .nil pass0 (pa_cons (pv 0) (pa_cons (pv 3) pa_nil))) pa_nil))))
        (pss_one (ps_if (pt_cmpR op_eq (pv 2) pe_int (nomark _))
          (pss_one (ps_set (i := 4) sc_law_graph.nd rfl (Or.inl rfl) (pe_call G_law_turned_graph (hr.mono (by first | decide | omega)) (by rfl) D_law_turned_graph.g D_law_turned_graph.F.kp D_law_turned_graph.b .nil pass0 (pa_cons (pe_listRg rfl (by rfl) T.list (prg_1 (by rfl) T.range (pv 3))) (pa_cons (pe_call G_law_shuffled (hr.mono (by first | decide | omega)) (by rfl) D_law_shuffled.g D_law_shuffled.F.kp D_law_shuffled.b .nil pass0 (pa_cons (pv 0) (pa_cons (pe_listRg rfl (by rfl) T.list (prg_1 (by rfl) T.range (pv 3))) pa_nil))) pa_nil)))))
          (pss_one (ps_if (pt_cmpR op_eq (pv 2) pe_int (nomark _))
            (pss_one (ps_set (i := 4) sc_law_graph.nd rfl (Or.inl rfl) (pe_call G_law_ordered_graph (hr.mono (by first | decide | omega)) (by rfl) D_law_ordered_graph.g D_law_ordered_graph.F.kp D_law_ordered_graph.b .nil pass0 (pa_cons (pv 0) (pa_cons (pv 3) pa_nil)))))
            (pss_one (ps_if (pt_cmpR op_eq (pv 2) pe_int (nomark _))
              (pss_one (ps_set (i := 4) sc_law_graph.nd rfl (Or.inl rfl) (pe_call G_law_clique_graph (hr.mono (by first | decide | omega)) (by rfl) D_law_clique_graph.g D_law_clique_graph.F.kp D_law_clique_graph.b .nil pass0 (pa_cons (pv 0) (pa_cons (pv 3) pa_nil)))))
              (pss_one (ps_if (pt_cmpR op_eq (pv 2) pe_int (nomark _))
                (pss_one (ps_set (i := 4) sc_law_graph.nd rfl (Or.inl rfl) (pe_call G_law_of (hr.mono (by first | decide | omega)) (by rfl) D_law_of.g D_law_of.F.kp D_law_of.b .nil pass0 (pa_cons (pv 3) (pa_cons (pe_call G_law_tree_pairs (hr.mono (by first | decide | omega)) (by rfl) D_law_tree_pairs.g D_law_tree_pairs.F.kp D_law_tree_pairs.b .nil pass0 (pa_cons (pe_call G_law_drawn_tree (hr.mono (by first | decide | omega)) (by rfl) D_law_drawn_tree.g D_law_drawn_tree.F.kp D_law_drawn_tree.b .nil pass0 (pa_cons (pv 0) (pa_cons (pe_listRg rfl (by rfl) T.list (prg_1 (by rfl) T.range (pv 3))) pa_nil))) pa_nil)) pa_nil)))))
                (pss_one (ps_if (pt_cmpR op_lt (pv 2) pe_int (nomark _))
                  (pss_one (ps_set (i := 4) sc_law_graph.nd rfl (Or.inl rfl) (pe_call G_law_ringed (hr.mono (by first | decide | omega)) (by rfl) D_law_ringed.g D_law_ringed.F.kp D_law_ringed.b .nil pass0 (pa_cons (pv 0) (pa_cons (pv 3) pa_nil)))))
                  (pss_one (ps_if (pt_cmpR op_eq (pv 2) pe_int (nomark _))
                    (pss_one (ps_set (i := 4) sc_law_graph.nd rfl (Or.inl rfl) (pe_call G_law_other (hr.mono (by first | decide | omega)) (by rfl) D_law_other.g D_law_other.F.kp D_law_other.b .nil pass0 (pa_cons (pe_call G_law_clique_graph (hr.mono (by first | decide | omega)) (by rfl) D_law_clique_graph.g D_law_clique_graph.F.kp D_law_clique_graph.b .nil pass0 (pa_cons (pv 0) (pa_cons (pv 3) pa_nil))) pa_nil))))
                    (pss_one (ps_set (i := 4) sc_law_graph.nd rfl (Or.inl rfl) (pe_call G_law_random_graph (hr.mono (by first | decide | omega)) (by rfl) D_law_random_graph.g D_law_random_graph.F.kp D_law_random_graph.b .nil pass0 (pa_cons (pv 0) (pa_cons (pv 1) pa_nil))))))))))))))))))
      (pss_cons (ps_if (pt_cmpR op_eq (pe_call G_law_draw (hr.mono (by first | decide | omega)) (by rfl) D_law_draw.g D_law_draw.F.kp D_law_draw.b .nil pass0 (pa_cons (pv 0) (pa_cons pe_int pa_nil))) pe_int (nomark _))
        (pss_one (ps_set (i := 4) sc_law_graph.nd rfl (Or.inl rfl) (pe_call G_law_other (hr.mono (by first | decide | omega)) (by rfl) D_law_other.g D_law_other.F.kp D_law_other.b .nil pass0 (pa_cons (pv 4) pa_nil))))
        pss_nil)
      (pss_cons (ps_if (pt_cmpR op_gt (pe_call G_law_draw (hr.mono (by first | decide | omega)) (by rfl) D_law_draw.g D_law_draw.F.kp D_law_draw.b .nil pass0 (pa_cons (pv 0) (pa_cons pe_int pa_nil))) pe_int (nomark _))
        (pss_one (ps_set (i := 4) sc_law_graph.nd rfl (Or.inl rfl) (pe_call G_law_moved (hr.mono (by first | decide | omega)) (by rfl) D_law_moved.g D_law_moved.F.kp D_law_moved.b .nil pass0 (pa_cons (pv 4) (pa_cons (pe_call G_law_shuffled (hr.mono (by first | decide | omega)) (by rfl) D_law_shuffled.g D_law_shuffled.F.kp D_law_shuffled.b .nil pass0 (pa_cons (pv 0) (pa_cons (pe_listRg rfl (by rfl) T.list (prg_1 (by rfl) T.range (pe_ix (ix_tupK (K := K) rfl) (pv 4) pe_int (fun _ _ => rfl)))) pa_nil))) pa_nil)))))
        pss_nil)
      (pss_one (ps_ret (pv 4)))))))), ?_⟩
    refine r_at (σ := [some _, some _, none, none, none]) rfl ?_
    let W : L2.St → Hp → Prop := fun σ' H' => ∃ (x2 x3 : Option V) (v : V) (n : Int) (qs : List (Int × Int)), σ' = [some (.ref a), some (.int most), x2, x3, some v] ∧ Pool H' a s0 ∧ Gr a H H' ∧ GrAt H' v n qs ∧ GoodG n qs ∧ n ≤ most
    walk_at "z"
    refine ⟨a, s0, 14, rfl, hP, by omega, by omega, fun way H1 w0 w1 hP1 g1 => ?_⟩
    walk_at "z"
    refine ⟨a, s0, most, rfl, hP1, by omega, by omega, fun r H2 r0 r1 hP2 g2 => ?_⟩
    walk_at "z"
    refine r_lstN sz2 fun l hl => ?_
    walk_at "z"
    refine ⟨a, s0, 3, rfl, hP2.mono (same_new hl), by omega, by omega, fun r2 H3 _ _ hP3 g3 => ?_⟩
    have hl2 := g3 _ _ (new_ne hP2 hl).1 upd_same
    walk_at "z"
    refine r_pick2 hl2 fun n hn => ?_
    have g : Gr a H H3 := ((g1.trans g2).trans (.new hl)).trans g3
    have n0 : 1 ≤ n := by omega
    have n1 : n ≤ most := by omega
    walk_at "z1"
    refine r_seqW W ?tail fun B hB => ?head
    case head =>
      -- what each way gives is enough
      have fin : ∀ (v : V) (qs : List (Int × Int)) (H' : Hp), Pool H' a s0 → Gr a H3 H' → GrAt H' v n qs → GoodG n qs → B [some (.ref a), some (.int most), some (.int way), some (.int n), some v] H' := fun v qs H' p' g' hv hg =>
        hB _ _ ⟨_, _, v, n, qs, rfl, p', g.trans g', hv, hg, n1⟩
      have nn : ((n.toNat : Nat) : Int) = n := by omega
      have flt : ∀ (v : V) (c : Int × Int → Bool) (H' : Hp), Pool H' a s0 → Gr a H3 H' → GrAt H' v n ((allP n.toNat).filter c) → B [some (.ref a), some (.int most), some (.int way), some (.int n), some v] H' := fun v c H' p' g' hv =>
        fin v _ H' p' g' hv (by have := good_filter (n := n.toNat) (by omega) c; rw [nn] at this; exact this)
      walk_at "z"
      refine r_ite (fun h0 => ?_) (fun h0 => ?_)
      · walk_at "z"
        refine ⟨a, s0, n, rfl, hP3, by omega, by omega, fun f xs ps H4 hf hP4 g4 hx hp hlen => ?_⟩
        walk_at "z"
        refine ⟨f, xs, ps, rfl, .inl (.inl hx), hp, by omega, fun v c H5 s5 hv => ?_⟩
        walk_at "z"
        rw [hlen] at hv
        exact flt v c H5 (hP4.mono s5) (g4.trans (.of_same s5)) (by rw [nn] at hv; exact hv)
      walk_at "z"
      refine r_ite (fun h0 => ?_) (fun h0 => ?_)
      · walk_at "z"
        refine r_lRg (by omega) (by omega) fun l1 hl1 => ?_
        walk_at "z"
        refine r_lRg (by omega) (by omega) fun l2 hl2 => ?_
        walk_at "z"
        have hP4 := hP3.mono (same_new (o := .lst ((rgI n).map V.int)) hl1)
        have hP5 := hP4.mono (same_new (o := .lst ((rgI n).map V.int)) hl2)
        have n12 : l1 ≠ l2 := ne_of_none upd_same hl2
        refine ⟨a, s0, l2, rgI n, rfl, hP5, (new_ne hP4 hl2).1, upd_same, by rw [rgI_len]; omega, fun f ms H4 hf hfa hP6 g6 hms pm => ?_⟩
        walk_at "z"
        have h1 := g6 _ _ (new_ne hP3 hl1).1 ((upd_ne n12).trans upd_same)
        refine ⟨l1, f, rgI n, ms, rfl, .inl (.inl h1), .inl (.inl hms), by rw [rgI_len]; omega, fun z z0 z1 => ?_, fun v c H5 s5 hv => ?_⟩
        · rw [rgI_len] at z1
          have hm : z ∈ rgI n := mem_rgI.mpr ⟨z0, by omega⟩
          exact ⟨hm, pm.mem_iff.mpr hm⟩
        · walk_at "z"
          rw [rgI_len] at hv
          exact flt v c H5 (hP6.mono s5) ((((Gr.new hl1).trans (.new hl2)).trans g6).trans (.of_same s5)) (by rw [nn] at hv; exact hv)
      walk_at "z"
      refine r_ite (fun h0 => ?_) (fun h0 => ?_)
      · walk_at "z"
        refine ⟨a, s0, n, rfl, hP3, by omega, by omega, fun v qs H4 hP4 g4 hv hg => ?_⟩
        walk_at "z"
        exact fin v qs H4 hP4 g4 hv hg
      walk_at "z"
      refine r_ite (fun h0 => ?_) (fun h0 => ?_)
      · walk_at "z"
        refine ⟨a, s0, n, rfl, hP3, by omega, by omega, fun v qs H4 hP4 g4 hv hg => ?_⟩
        walk_at "z"
        exact fin v qs H4 hP4 g4 hv hg
      walk_at "z"
      refine r_ite (fun h0 => ?_) (fun h0 => ?_)
      · walk_at "z"
        refine r_lRg (by omega) (by omega) fun l1 hl1 => ?_
        walk_at "z"
        have hP4 := hP3.mono (same_new (o := .lst ((rgI n).map V.int)) hl1)
        refine ⟨a, s0, l1, rgI n, rfl, hP4, upd_same, by rw [rgI_len]; omega, by rw [rgI_len]; omega, fun v t H4 hP5 g5 ht hwf ⟨ms, pm⟩ => ?_⟩
        walk_at "z"
        have nd : (lv t).Nodup := (List.nodup_append.mp (pm.nodup_iff.mpr (rgI_nodup n))).1
        have ll : (lv t).length ≤ 60 := by
          have := pm.length_eq
          rw [List.length_append, rgI_len] at this
          omega
        have mem : ∀ z ∈ lv t, 0 ≤ z ∧ z < n := fun z hz => mem_rgI.mp (pm.mem_iff.mp (List.mem_append_left _ hz))
        refine ⟨v, t, rfl, ht, by have := dp_lv t hwf; omega, ll, nd, fun f xs ps H5 s5 hx hp hm hlen => ?_⟩
        walk_at "z"
        have sq : (lv t).length * (lv t).length ≤ 60 * 60 := Nat.mul_le_mul ll ll
        refine ⟨n, f, xs, ps, rfl, .inl (.inl hx), hp, by omega, fun v2 qs H6 s6 hv asc memq => ?_⟩
        walk_at "z"
        refine fin v2 qs H6 ((hP5.mono s5).mono s6) ((((Gr.new hl1).trans g5).trans (.of_same s5)).trans (.of_same s6)) hv (good_of n0 (fun r hr => ?_) asc memq)
        obtain ⟨k1, k2, k3⟩ := hm r hr
        have := mem r.1 k1
        have := mem r.2 k2
        omega
      walk_at "z"
      refine r_ite (fun h0 => ?_) (fun h0 => ?_)
      · walk_at "z"
        refine ⟨a, s0, n, rfl, hP3, by omega, by omega, fun v qs H4 hP4 g4 hv hg => ?_⟩
        walk_at "z"
        exact fin v qs H4 hP4 g4 hv hg
      walk_at "z"
      refine r_ite (fun h0 => ?_) (fun h0 => ?_)
      · walk_at "z"
        refine ⟨a, s0, n, rfl, hP3, by omega, by omega, fun v qs H4 hP4 g4 hv hg => ?_⟩
        walk_at "z"
        refine ⟨v, n.toNat, qs, rfl, by rw [nn]; exact hv, by omega, fun v2 H5 s5 hv2 => ?_⟩
        walk_at "z"
        exact flt v2 _ H5 (hP4.mono s5) (g4.trans (.of_same s5)) (by rw [nn] at hv2; exact hv2)
      · walk_at "z"
        refine ⟨a, s0, most, rfl, hP3, m1, by omega, fun n2 k1 k2 v qs H4 hP4 g4 hv hg => ?_⟩
        walk_at "z"
        exact hB _ _ ⟨_, _, v, n2, qs, rfl, hP4, g.trans g4, hv, hg, k2⟩
    case tail =>
      rintro σ' H4 ⟨x2, x3, v, n2, qs, rfl, hP4, g4, hv, hg, hn2⟩
      refine r_seqW W ?tail2 fun B hB => ?head2
      case head2 =>
        walk_at "z"
        refine ⟨a, s0, 4, rfl, hP4, by omega, by omega, fun c H5 _ _ hP5 g5 => ?_⟩
        have hv5 := hv.tk (g5.tk hP4)
        walk_at "z"
        refine r_ite (fun h0 => ?_) (fun h0 => ?_)
        · walk_at "z"
          have nn : ((n2.toNat : Nat) : Int) = n2 := by have := hg.one; omega
          refine ⟨v, n2.toNat, qs, rfl, by rw [nn]; exact hv5, by omega, fun v2 H6 s6 hv2 => ?_⟩
          walk_at "z"
          have gf := good_filter (n := n2.toNat) (by have := hg.one; omega) fun p => decide (p ∉ qs)
          rw [nn] at hv2 gf
          exact hB _ _ ⟨_, _, v2, n2, _, rfl, hP5.mono s6, (g4.trans g5).trans (.of_same s6), hv2, gf, hn2⟩
        · walk_at "z"
          exact hB _ _ ⟨_, _, v, n2, qs, rfl, hP5, g4.trans g5, hv5, hg, hn2⟩
      case tail2 =>
        rintro σ' H4 ⟨x2, x3, v, n2, qs, rfl, hP4, g4, hv, hg, hn2⟩
        refine r_seqW W ?tail3 fun B hB => ?head3
        case head3 =>
          walk_at "z"
          refine ⟨a, s0, 3, rfl, hP4, by omega, by omega, fun c H5 _ _ hP5 g5 => ?_⟩
          have hv5 := hv.tk (g5.tk hP4)
          walk_at "z"
          refine r_ite (fun h0 => ?_) (fun h0 => ?_)
          · obtain ⟨ga, e, rfl, hga, he⟩ := id hv5
            walk_at "z"
            refine r_lRg (by have := hg.one; omega) (by omega) fun l1 hl1 => ?_
            walk_at "z"
            have hP6 := hP5.mono (same_new (o := .lst ((rgI n2).map V.int)) hl1)
            refine ⟨a, s0, l1, rgI n2, rfl, hP6, (new_ne hP5 hl1).1, upd_same, by rw [rgI_len]; omega, fun f ms H6 hf hfa hP7 g7 hms pm => ?_⟩
            have gk : Gr a H5 H6 := (Gr.new hl1).trans g7
            have hv6 := hv5.tk (gk.tk hP5)
            walk_at "z"
            have lms : ms.length = n2.toNat := by rw [pm.length_eq, rgI_len]
            have lqs : qs.length ≤ 10000 := by
              have h1 := nodup_le qs (allP n2.toNat) (asc_nodup hg.asc) fun p hp => by
                obtain ⟨b1, b2, b3⟩ := hg.inn p hp
                exact mem_allP.mpr ⟨b1, b2, by omega⟩
              have h2 := allP_small (n := n2.toNat) (by omega)
              omega
            refine ⟨.ref ga, f, n2, qs, ms, rfl, hv6, .inl (.inl (.inl hms)), lqs, fun p hp => ?_, fun v2 rs H7 s7 hv7 asc mem => ?_⟩
            · obtain ⟨b1, b2, b3⟩ := hg.inn p hp
              omega
            · walk_at "z"
              exact hB _ _ ⟨_, _, v2, n2, rs, rfl, hP7.mono s7, ((g4.trans g5).trans gk).trans (.of_same s7), hv7, moved_good hg pm asc mem, hn2⟩
          · walk_at "z"
            exact hB _ _ ⟨_, _, v, n2, qs, rfl, hP5, g4.trans g5, hv5, hg, hn2⟩
        case tail3 =>
          rintro σ' H4 ⟨x2, x3, v, n2, qs, rfl, hP4, g4, hv, hg, hn2⟩
          walk_at "z"
          exact q n2 hg.one hn2 v qs H4 hP4 g4 hv hg
end

set_option Elab.async false
set_option linter.all false
set_option maxRecDepth 100000
set_option maxHeartbeats 4000000
open PySem PySem.Spec PyProof.Rows L2

section
variable {P : Program} {w : World} {K : PySem.W.Frag} {mg : Str → Option Value} {base : Heap}
end

set_option Elab.async false
set_option linter.all false
set_option maxRecDepth 100000
set_option maxHeartbeats 4000000
open PySem PySem.Spec PyProof.Rows L2

section
variable {P : Program} {w : World} {K : PySem.W.Frag} {mg : Str → Option Value} {base : Heap}
theorem inV_ints (ns : List Int) (z : Int) : inV (.int z) (ns.map V.int) = decide (z ∈ ns) := by
  unfold inV
  rw [List.any_map]
  refine Bool.eq_iff_iff.mpr ?_
  rw [List.any_eq_true, decide_eq_true_eq]
  constructor
  · rintro ⟨y, hy, h⟩
    have h1 : eqV (.int y) (.int z) = true := h
    rw [eqV_int] at h1
    rw [← of_decide_eq_true h1]
    exact hy
  · intro h
    refine ⟨z, h, ?_⟩
    show eqV (.int z) (.int z) = true
    rw [eqV_int]
    exact decide_eq_true rfl
theorem r_ninI {H : Hp} {Q : VK} {m : Addr} {ns : List Int} {z : Int} (h : SqL K H m (ns.map V.int) ∨ SqT K H m (ns.map V.int)) (q : Q (.bl (!decide (z ∈ ns))) H) : rIn K true (.int z) (.ref m) H Q := ⟨m, _, rfl, h, rfl, flat_ints ns, by
  rw [if_pos rfl, inV_ints]
  exact q⟩
theorem r_inI {H : Hp} {Q : VK} {m : Addr} {ns : List Int} {z : Int} (h : SqL K H m (ns.map V.int) ∨ SqT K H m (ns.map V.int)) (q : Q (.bl (decide (z ∈ ns))) H) : rIn K false (.int z) (.ref m) H Q := ⟨m, _, rfl, h, rfl, flat_ints ns, by
  rw [if_neg Bool.false_ne_true, inV_ints]
  exact q⟩
end

set_option Elab.async false
set_option linter.all false
set_option maxRecDepth 100000
set_option maxHeartbeats 4000000
open PySem PySem.Spec PyProof.Rows L2 LamX

/-- the neighbours that are not avoided -/
def avL (ps : List (Int × Int)) (avs : List Int) (p : Int) : List Int := (adjL ps p.toNat).filter fun q => decide (q ∉ avs)
section
variable {P : Program} {w : World} {K : PySem.W.Frag} {mg : Str → Option Value} {base : Heap}
def spSPath (T : List (Addr × Str)) : Sp := fun vs H Q _ => ∃ (g : V) (n : Nat) (ps : List (Int × Int)) (u v : Int) (av : Addr) (avs : List Int), vs = [g, .int u, .int v, .ref av] ∧ GrAt H g (n : Int) ps ∧ n ≤ 60 ∧ ps.length ≤ 10000 ∧ (∀ p ∈ ps, 0 ≤ p.1 ∧ p.1 < p.2 ∧ p.2 < (n : Int)) ∧ H av = some (.lst (avs.map V.int)) ∧ u ∈ rgI (n : Int) ∧ Tabs T H ∧
  ∀ (x : V) (H' : Hp), ExtN H H' → Tabs T H' → ((x = .non ∧ ¬ Rch (fun x y => y ∈ avL ps avs x) u v) ∨ ∃ (p : Addr) (path : List Int), x = .ref p ∧ H' p = some (.tup (path.map V.int)) ∧ Geo (avL ps avs) u v path ∧ (∀ x ∈ path, x ∈ rgI (n : Int)) ∧ IsD (fun x y => y ∈ avL ps avs x) u (path.length - 1) v) → Q x H'
theorem ok_spath {TB : List (Addr × Str)} (T : Blt mg) (D : DefAt K mg "shortest_path" s_shortest_path ["graph", "u", "v", "avoided"]) (D_neighbour_lists : DefAt K mg "neighbour_lists" s_neighbour_lists ["graph"]) (G_neighbour_lists : FnOk P w K mg base CX0 1 D_neighbour_lists.f D_neighbour_lists.fd ["graph"] spNLists)
    (D_reached : DefAt K mg "reached" s_reached ["around", "start"]) (G_reached : FnOk P w K mg base CX0 5 D_reached.f D_reached.fd ["around", "start"] (spReachedI TB)) (D_way_to : DefAt K mg "way_to" s_way_to ["v", "before"]) (G_way_to : FnOk P w K mg base CX0 1 D_way_to.f D_way_to.fd ["v", "before"] spWayTo) :
    FnOk P w K mg base CX0 6 D.f D.fd ["graph", "u", "v", "avoided"] (spSPath TB) := by
  refine D.F.ok sc_shortest_path (fun vs H Q E h => ?_) (fun cdv A outer s H vs Q E hr h => ?_)
  · obtain ⟨g, n, ps, u, v, av, avs, rfl, _⟩ := h
    rfl
  · obtain ⟨g, n, ps, u, v, av, avs, rfl, hgr, n60, hlen, inn, hav, um, hT, q⟩ := h
    refine ⟨_, (pss_cons (ps_setLc (i := 4) (own := [("others", 6)]) (by rfl) sc_shortest_path.nd rfl rfl (sw_true rfl rfl rfl (by decide +kernel)) (PI.listK (K := K) rfl (pi_list (pe_call G_neighbour_lists (hr.mono (by first | decide | omega)) (by rfl) D_neighbour_lists.g D_neighbour_lists.F.kp D_neighbour_lists.b .nil pass0 (pa_cons (pv 0) pa_nil)))) (blkOk_by (own := [("others", 6)]) (N := ["graph", "u", "v", "avoided", "around", "before", "others", "w"]) (sc := (defScope s_shortest_path)) (by decide +kernel)) (fun _ _ _ _ _ => (pg_name (i := 6) sc_shortest_path.nd rfl (Or.inl rfl))) (fun _ _ _ _ _ => pts_nil) (fun _ _ _ _ _ => (pe_lc (own := [("w", 7)]) (by rfl) sc_shortest_path.nd (PI.listK (K := K) rfl (pi_list (pv 6))) (blkOk_by (own := [("w", 7)]) (N := ["graph", "u", "v", "avoided", "around", "before", "others", "w"]) (sc := ({ kind := .function, names := [(PySem.Str.ofString ".0", PySem.NameKind.local), (PySem.Str.ofString "others", PySem.NameKind.local), (PySem.Str.ofString "avoided", PySem.NameKind.cell)], isGenerator := false, isCoroutine := false, more := [] } : PySem.Scope)) (by decide +kernel)) (fun _ _ _ _ _ => (pg_name (i := 7) sc_shortest_path.nd rfl (Or.inl rfl))) (fun _ _ _ _ _ => (pts_one (pt_cmpR (op_ninSeqK (K := K) rfl) (pv 7) (pv 3) (by rfl)))) (fun _ _ _ _ _ => (pv 7)))))
      (pss_cons (ps_set (i := 5) sc_shortest_path.nd rfl (Or.inl rfl) (pe_call G_reached (hr.mono (by first | decide | omega)) (by rfl) D_reached.g D_reached.F.kp D_reached.b .nil pass0 (pa_cons (pv 4) (pa_cons (pv 1) pa_nil))))
      (pss_one (ps_ret (pe_ifExp (pt_cmp (pc_din (hu_of hr) (pv 2) (pv 5))) (pe_call G_way_to (hr.mono (by first | decide | omega)) (by rfl) D_way_to.g D_way_to.F.kp D_way_to.b .nil pass0 (pa_cons (pv 2) (pa_cons (pv 5) pa_nil))) pe_non))))), ?_⟩
    refine r_at (σ := [some _, some _, some _, some _, none, none, none, none]) rfl ?_
    walk_at "z"
    refine ⟨g, n, ps, rfl, hgr, by omega, hlen, inn, fun l as H1 s1 hl la adj => ?_⟩
    have hav1 := s1 _ _ hav
    refine r_il (.inl (.inl hl)) fun c hc => lcR_list (xs := as.map V.ref) (fun i H' => Same H1 H' ∧ ∃ bs : List Addr, H' c = some (.lst (bs.map V.ref)) ∧ bs.length = i ∧ ∀ (j : Nat) (b : Addr), bs[j]? = some b → b ≠ c ∧ H' b = some (.lst ((avL ps avs (j : Int)).map V.int))) (by walk_at "zw") ⟨same_new hc, [], upd_same, rfl, fun j b h => by simp at h⟩ (fun i H' _ ⟨s2, _⟩ => .inl (.inl (s2 _ _ hl))) ?_ ?_
    · rintro i x H2 hx ⟨s2, bs, hbs, lbs, ad2⟩
      rw [List.getElem?_map] at hx
      obtain ⟨ai, hai, rfl⟩ := Option.map_eq_some_iff.mp hx
      have hA := s2 _ _ (adj _ _ hai)
      have il := (List.getElem?_eq_some_iff.mp hai).1
      have hav2 := s2 _ _ hav1
      walk_at "z"
      refine ⟨rfl, ?_⟩
      walk_at "z"
      refine r_il (.inl (.inl hA)) fun c2 hc2 => lcR_list (xs := (adjL ps i).map V.int) (fun m H' => Same H2 H' ∧ H' c2 = some (.lst ((((adjL ps i).take m).filter fun q => decide (q ∉ avs)).map V.int))) (by walk_at "zw") ⟨same_new hc2, upd_same⟩ (fun m H' _ ⟨s3, _⟩ => .inl (.inl (s3 _ _ hA))) ?_ ?_
      · rintro m y H3 hy ⟨s3, hc3⟩
        rw [List.getElem?_map] at hy
        obtain ⟨z, hz, rfl⟩ := Option.map_eq_some_iff.mp hy
        walk_at "z"
        refine ⟨rfl, ?_⟩
        walk_at "z"
        refine r_ninI (ns := avs) (.inl (.inl (.inl (s3 _ _ hav2)))) ?_
        walk_at "z"
        refine r_iteN (fun h1 => ?_) (fun h1 => ?_)
        · walk_at "z"
          have l1 : (((adjL ps i).take m).filter fun q => decide (q ∉ avs)).length ≤ (adjL ps i).length := Nat.le_trans (List.length_filter_le _ _) (by rw [List.length_take]; omega)
          refine r_lce hc3 (small_lt (by rw [List.length_map]; have := adjL_len ps i; omega)) ⟨same_mut s3 hc2, ?_⟩
          rw [take_next hz, List.filter_append, List.filter_cons, if_pos (decide_eq_true h1), List.map_append]
          exact upd_same
        · refine ⟨s3, ?_⟩
          rw [take_next hz, List.filter_append, List.filter_cons, if_neg (by rw [decide_eq_true_eq]; exact fun z => z h1), List.filter_nil, List.append_nil]
          exact hc3
      · rintro H3 ⟨s3, hc3⟩
        rw [List.length_map, List.take_length] at hc3
        have hb3 := s3 _ _ hbs
        have cc : c2 ≠ c := fun z => by
          rw [z, hbs] at hc2
          cases hc2
        refine r_lce hb3 (small_lt (by rw [List.length_map]; omega)) ⟨same_mut (s2.trans s3) hc, bs ++ [c2], by rw [List.map_append]; exact upd_same, by rw [List.length_append, lbs]; rfl, fun j b h => ?_⟩
        rcases Nat.lt_or_ge j bs.length with c3 | c3
        · rw [List.getElem?_append_left c3] at h
          obtain ⟨h1, h2⟩ := ad2 j b h
          exact ⟨h1, (upd_ne h1).trans (s3 _ _ h2)⟩
        · rw [List.getElem?_append_right c3] at h
          have e : j = i := by
            have := (List.getElem?_eq_some_iff.mp h).1
            simp only [List.length_cons, List.length_nil] at this
            omega
          rw [e, lbs, Nat.sub_self] at h
          cases h
          rw [e]
          exact ⟨cc, (upd_ne cc).trans hc3⟩
    · rintro H2 ⟨s2, bs, hbs, lbs, ad2⟩
      rw [List.length_map] at lbs
      have s02 := s1.trans s2
      walk_at "z"
      have inR : ∀ p ∈ rgI (n : Int), ∀ q ∈ avL ps avs p, q ∈ rgI (n : Int) := fun p hp q hq => by
        obtain ⟨h1, _⟩ := List.mem_filter.mp hq
        obtain ⟨p0, p1⟩ := mem_rgI.mp hp
        rw [mem_adjL, show ((p.toNat : Nat) : Int) = p by omega] at h1
        refine mem_rgI.mpr ?_
        rcases h1 with h | h
        · have := inn _ h
          dsimp only at this
          omega
        · have := inn _ h
          dsimp only at this
          omega
      refine ⟨c, n, avL ps avs, u, rfl, ⟨bs, hbs, by omega, fun i a h => (ad2 i a h).2⟩, n60, um, inR, hT.ext s02, fun d kvs ks par dd H3 e3 T3 _ hd hk hv B cl => ?_⟩
      have e03 := (ext_same s02).trans e3
      walk_at "z"
      refine r_din ?_
      walk_at "z"
      refine r_diK hd ?_
      rw [valI_mem hk]
      walk_at "z"
      refine r_ite (fun hvk => ?_) (fun hvk => ?_)
      · walk_at "z"
        refine ⟨v, d, avL ps avs, rgI (n : Int), u, kvs, ks, par, dd, rfl, hd, hv, B, cl, hvk, by rw [rgI_len]; omega, fun p path H4 s4 hp _ geo sub isd => ?_⟩
        exact q (.ref p) H4 (e03.trans (ext_same s4)) (T3.ext s4) (.inr ⟨p, path, rfl, hp, geo, sub, isd⟩)
      · walk_at "z"
        exact q .non H3 e03 T3 (.inl ⟨rfl, fun h => hvk (Rch.closed (S := fun z => z ∈ ks) B.am (fun x y hx hr => (cl x hx y hr).1) h)⟩)
end

set_option Elab.async false
set_option linter.all false
set_option maxRecDepth 100000
set_option maxHeartbeats 4000000
open PySem PySem.Spec PyProof.Rows L2 LamX RZ

abbrev s_is_integer : Stmt := topS 5
theorem sc_is_integer : FnScope ["value"] ["value"] (defScope s_is_integer) := ⟨rfl, rfl, rfl, by decide +kernel, rfl, by decide +kernel, by decide +kernel⟩

abbrev s_is_tuple : Stmt := topS 6
theorem sc_is_tuple : FnScope ["value", "many"] ["value", "many"] (defScope s_is_tuple) := ⟨rfl, rfl, rfl, by decide +kernel, rfl, by decide +kernel, by decide +kernel⟩

abbrev s_is_vertex : Stmt := topS 8
theorem sc_is_vertex : FnScope ["n", "value"] ["n", "value"] (defScope s_is_vertex) := ⟨rfl, rfl, rfl, by decide +kernel, rfl, by decide +kernel, by decide +kernel⟩

abbrev s_are_vertices : Stmt := topS 9
theorem sc_are_vertices : FnScope ["n", "value", "v"] ["n", "value"] (defScope s_are_vertices) := ⟨rfl, rfl, rfl, by decide +kernel, rfl, by decide +kernel, by decide +kernel⟩

abbrev s_is_set : Stmt := topS 12
theorem sc_is_set : FnScope ["n", "value"] ["n", "value"] (defScope s_is_set) := ⟨rfl, rfl, rfl, by decide +kernel, rfl, by decide +kernel, by decide +kernel⟩

abbrev s_is_ascending : Stmt := topS 13
theorem sc_is_ascending : FnScope ["items", "at"] ["items"] (defScope s_is_ascending) := ⟨rfl, rfl, rfl, by decide +kernel, rfl, by decide +kernel, by decide +kernel⟩

abbrev s_is_edge : Stmt := topS 15
theorem sc_is_edge : FnScope ["n", "value"] ["n", "value"] (defScope s_is_edge) := ⟨rfl, rfl, rfl, by decide +kernel, rfl, by decide +kernel, by decide +kernel⟩

abbrev s_are_edges : Stmt := topS 16
theorem sc_are_edges : FnScope ["n", "value", "edge"] ["n", "value"] (defScope s_are_edges) := ⟨rfl, rfl, rfl, by decide +kernel, rfl, by decide +kernel, by decide +kernel⟩

abbrev s_is_size : Stmt := topS 38
theorem sc_is_size : FnScope ["value"] ["value"] (defScope s_is_size) := ⟨rfl, rfl, rfl, by decide +kernel, rfl, by decide +kernel, by decide +kernel⟩

abbrev s_is_graph : Stmt := topS 39
theorem sc_is_graph : FnScope ["value", "n", "edges"] ["value"] (defScope s_is_graph) := ⟨rfl, rfl, rfl, by decide +kernel, rfl, by decide +kernel, by decide +kernel⟩

/-- the name of a generator expression in the def x -/
def genN (x : Str) : Str := (envOfC x default 0 0 .none).qual ++ "<genexpr>"
theorem ty_dx {K : PySem.W.Frag} {a : Addr} {H : Hp} {x : V} {t : PyData} (h : DX a H x t) : TyX K H x (.type (kd t)) := by
  cases h with
  | non => exact .base .non
  | bl b => exact .base (.bl b)
  | int i => exact .base (.int i)
  | str s => exact .base (.str s)
  | lst _ h _ => exact .base (.lst h)
  | tup h _ => exact h.elim (fun h => .base (.tup h)) fun ⟨o, h⟩ => .fTuple h
  | dk _ h => exact .base (.dK h)
theorem r_isiX {K : PySem.W.Frag} {a : Addr} {H : Hp} {Q : VK} {x : V} {t : PyData} {c k : String} {b : Bool} (h : DX a H x t) (e1 : kd t = k) (e : kitB k c = some b) (q : Q (.bl b) H) : rIsi K [x, .ty c] H Q :=
  ⟨x, .ty c, .type k, .type c, b, rfl, .ty _, e1 ▸ ty_dx h, kit_ty e, q⟩
/-- the kinds -/
def tupD : PyData → Bool
  | .tuple _ => true
  | _ => false
theorem kit_tup (t : PyData) : kitB (kd t) "tuple" = some (tupD t) := by
  cases t with
  | none => exact (show kitB "NoneType" "tuple" = some false by decide +kernel)
  | bool b => exact (show kitB "bool" "tuple" = some false by decide +kernel)
  | int b => exact (show kitB "int" "tuple" = some false by decide +kernel)
  | str b => exact (show kitB "str" "tuple" = some false by decide +kernel)
  | list b => exact (show kitB "list" "tuple" = some false by decide +kernel)
  | tuple b => exact (show kitB "tuple" "tuple" = some true by decide +kernel)
  | dict b => exact (show kitB "dict" "tuple" = some false by decide +kernel)
theorem tupD_of {t : PyData} (h : tupD t = true) : ∃ ds, t = .tuple ds := by
  cases t with
  | tuple ds => exact ⟨ds, rfl⟩
  | _ => exact absurd h Bool.false_ne_true
/-- each item less than the next -/
def adjI (ns : List Int) : Prop := ∀ (j : Nat) x y, ns[j]? = some x → ns[j + 1]? = some y → x < y
def adjP (ps : List (Int × Int)) : Prop := ∀ (j : Nat) x y, ps[j]? = some x → ps[j + 1]? = some y → ltP x y
def edgD (n : Int) (d : PyData) : Prop := ∃ u v : Int, d = .tuple [.int u, .int v] ∧ 0 ≤ u ∧ u < v ∧ v < n
section
variable {P : Program} {w : World} {K : PySem.W.Frag} {mg : Str → Option Value} {base : Heap}
def spIntX (b : Addr) : Sp := fun vs H Q _ => ∃ (v : V) (d : PyData), vs = [v] ∧ DX b H v d ∧ Q (.bl (intD d)) H
theorem ok_intX {b : Addr} (T : Blt mg) (D : DefAt K mg "is_integer" s_is_integer ["value"]) : FnOk P w K mg base CX0 1 D.f D.fd ["value"] (spIntX b) := by
  refine D.F.ok sc_is_integer (fun vs H Q E h => ?_) (fun cdv A outer s H vs Q E hr h => ?_)
  · obtain ⟨v, d, rfl, _⟩ := h
    rfl
  · obtain ⟨v, d, rfl, hd, q⟩ := h
    refine ⟨_, (pss_one (ps_ret (pe_and (pe_callB (call_isiK (K := K) rfl) (by rfl) T.isinstance (by decide +kernel) (pa_cons (pv 0) (pa_cons (pe_bltn (v := .ty "int") (u := .type "int") (by rfl) T.int (by decide +kernel) rfl) pa_nil))) (pe_one (pe_not (pe_callB (call_isiK (K := K) rfl) (by rfl) T.isinstance (by decide +kernel) (pa_cons (pv 0) (pa_cons (pe_bltn (v := .ty "bool") (u := .type "bool") (by rfl) T.bool (by decide +kernel) rfl) pa_nil)))))))), ?_⟩
    refine r_at (σ := [some _]) rfl ?_
    walk_at "z"
    cases d with
    | int i =>
      refine r_isiX hd (k := "int") rfl (b := true) (by decide +kernel) ?_
      walk_at "z"
      refine r_isiX hd (k := "int") rfl (b := false) (by decide +kernel) ?_
      walk_at "z"
      exact q
    | bool i =>
      refine r_isiX hd (k := "bool") rfl (b := true) (by decide +kernel) ?_
      walk_at "z"
      refine r_isiX hd (k := "bool") rfl (b := true) (by decide +kernel) ?_
      walk_at "z"
      exact q
    | none =>
      refine r_isiX hd (k := "NoneType") rfl (b := false) (by decide +kernel) ?_
      walk_at "z"
      exact q
    | str x =>
      refine r_isiX hd (k := "str") rfl (b := false) (by decide +kernel) ?_
      walk_at "z"
      exact q
    | list ds =>
      refine r_isiX hd (k := "list") rfl (b := false) (by decide +kernel) ?_
      walk_at "z"
      exact q
    | tuple ds =>
      refine r_isiX hd (k := "tuple") rfl (b := false) (by decide +kernel) ?_
      walk_at "z"
      exact q
    | dict ds =>
      refine r_isiX hd (k := "dict") rfl (b := false) (by decide +kernel) ?_
      walk_at "z"
      exact q
def lenD (m : Int) : PyData → Bool
  | .tuple ds => decide ((ds.length : Int) = m)
  | _ => false
def spTupX (b : Addr) : Sp := fun vs H Q _ => ∃ (v : V) (d : PyData) (m : Int), vs = [v, .int m] ∧ DX b H v d ∧ Q (.bl (lenD m d)) H
theorem ok_tupX {b : Addr} (T : Blt mg) (D : DefAt K mg "is_tuple" s_is_tuple ["value", "many"]) : FnOk P w K mg base CX0 1 D.f D.fd ["value", "many"] (spTupX b) := by
  refine D.F.ok sc_is_tuple (fun vs H Q E h => ?_) (fun cdv A outer s H vs Q E hr h => ?_)
  · obtain ⟨v, d, m, rfl, _⟩ := h
    rfl
  · obtain ⟨v, d, m, rfl, hd, q⟩ := h
    refine ⟨_, (pss_one (ps_ret (pe_and (pe_callB (call_isiK (K := K) rfl) (by rfl) T.isinstance (by decide +kernel) (pa_cons (pv 0) (pa_cons (pe_bltn (v := .ty "tuple") (u := .type "tuple") (by rfl) T.tuple (by decide +kernel) rfl) pa_nil))) (pe_one (pe_cmpR op_eq (pe_callB (call_lenK (K := K) rfl) (by rfl) T.len (by decide +kernel) (pa_cons (pv 0) pa_nil)) (pv 1) (nomark _)))))), ?_⟩
    refine r_at (σ := [some _, some _]) rfl ?_
    walk_at "z"
    refine r_isiX hd rfl (kit_tup d) ?_
    cases e : tupD d with
    | false =>
      walk_at "z"
      have : lenD m d = false := by
        cases d with
        | tuple ds => exact absurd e.symm Bool.false_ne_true
        | _ => rfl
      rw [this] at q
      exact q
    | true =>
      obtain ⟨ds, rfl⟩ := tupD_of e
      cases id hd with
      | @tup p xs _ hp hxd =>
      have hq : SqT K H p xs := .inl hp
      walk_at "z"
      rw [hxd.len]
      exact q
def spVxX (b : Addr) : Sp := fun vs H Q _ => ∃ (n : Int) (v : V) (d : PyData), vs = [.int n, v] ∧ DX b H v d ∧ Q (.bl (verD n d)) H
theorem ok_vxX {b : Addr} (T : Blt mg) (D : DefAt K mg "is_vertex" s_is_vertex ["n", "value"]) (D_is_integer : DefAt K mg "is_integer" s_is_integer ["value"]) (G_is_integer : FnOk P w K mg base CX0 1 D_is_integer.f D_is_integer.fd ["value"] (spIntX b)) :
    FnOk P w K mg base CX0 2 D.f D.fd ["n", "value"] (spVxX b) := by
  refine D.F.ok sc_is_vertex (fun vs H Q E h => ?_) (fun cdv A outer s H vs Q E hr h => ?_)
  · obtain ⟨n, v, d, rfl, _⟩ := h
    rfl
  · obtain ⟨n, v, d, rfl, hd, q⟩ := h
    refine ⟨_, (pss_one (ps_ret (pe_and (pe_call G_is_integer (hr.mono (by first | decide | omega)) (by rfl) D_is_integer.g D_is_integer.F.kp D_is_integer.b .nil pass0 (pa_cons (pv 1) pa_nil)) (pe_one (pe_chain op_le op_lt pe_int (pv 1) (pv 0)))))), ?_⟩
    refine r_at (σ := [some _, some _]) rfl ?_
    walk_at "z"
    refine ⟨v, d, rfl, hd, ?_⟩
    walk_at "z"
    cases d with
    | int i =>
      cases hd
      walk_at "z"
      refine iteT ?_
      walk_at "z"
      refine r_ite (fun h => ?_) (fun h => ?_)
      · walk_at "z"
        have e : verD n (.int i) = decide (i < n) := by simp [verD, h]
        rw [e] at q
        exact q
      · have e : verD n (.int i) = false := by simp [verD, h]
        rw [e] at q
        exact q
    | _ => exact iteF q
def spVsX (b : Addr) (TT : List (Addr × Str)) : Sp := fun vs H Q _ => ∃ (n : Int) (v : V) (d : PyData), vs = [.int n, v] ∧ DX b H v d ∧ Tabs TT H ∧ ∀ H', ExtN H H' → Tabs TT H' → Q (.bl (versD n d)) H'
theorem all_take {α : Type} {p : α → Bool} {l : List α} {i : Nat} {x : α} (h : l[i]? = some x) (t : (l.take i).all p = true) : (l.take (i + 1)).all p = p x := by
  rw [take_next h, List.all_append, t, Bool.true_and, List.all_cons, List.all_nil, Bool.and_true]
theorem all_false {α : Type} {p : α → Bool} {l : List α} {i : Nat} {x : α} (h : l[i]? = some x) (t : p x = false) : l.all p = false := by
  cases e : l.all p with
  | false => rfl
  | true =>
    have := List.all_eq_true.mp e x (List.mem_of_getElem? h)
    rw [t] at this
    cases this
theorem ok_vsX {b c PT : Addr} {TT : List (Addr × Str)} (TB : TabB base mg c PT) (hm9 : (PT, genN "are_vertices") ∈ TT) (hu9 : ∀ p ∈ TT, p.1 = PT → p.2 = genN "are_vertices") (T : Blt mg) (z_all : mg "all" = none) (D : DefAt K mg "are_vertices" s_are_vertices ["n", "value"]) (hco : D.fd.code = .ref c)
    (D_is_vertex : DefAt K mg "is_vertex" s_is_vertex ["n", "value"]) (G_is_vertex : FnOk P w K mg base CX0 2 D_is_vertex.f D_is_vertex.fd ["n", "value"] (spVxX b)) : FnOk P w K mg base CX0 7 D.f D.fd ["n", "value"] (spVsX b TT) := by
  refine okV D.F sc_are_vertices (fun vs H Q E h => ?_) (fun cdv A outer s H vs Q E hcv hr h => ?_)
  · obtain ⟨n, v, d, rfl, _⟩ := h
    rfl
  · obtain ⟨n, v, d, rfl, hd, hT, q⟩ := h
    obtain rfl : cdv = .ref c := hcv.symm.trans hco
    refine ⟨_, (pss_one (ps_ret (pe_and (pe_callB (call_isiK (K := K) rfl) (by rfl) T.isinstance (by decide +kernel) (pa_cons (pv 1) (pa_cons (pe_bltn (v := .ty "tuple") (u := .type "tuple") (by rfl) T.tuple (by decide +kernel) rfl) pa_nil))) (pe_one (pe_allG (k := 3) (hr.mono (by first | decide | omega)) (by rfl) z_all (by decide +kernel) TB rfl hm9 hu9 (genS1_by (sc := defScope s_are_vertices) (by decide +kernel)) (ix := 2) rfl sc_are_vertices.nd (show (".0" : Str) ∉ (["n", "value", "v"] : List Str) by decide +kernel) (PI.tupK (K := K) rfl (pi_tup (pv 1))) (fun _ _ _ _ _ _ => (pg_name (i := 2) sc_are_vertices.nd rfl (Or.inl rfl))) (fun _ _ _ _ _ _ hr => (pe_call G_is_vertex (hr.mono (by first | decide | omega)) (by rfl) D_is_vertex.g D_is_vertex.F.kp D_is_vertex.b .nil pass0 (pa_cons (pv 0) (pa_cons (pv 2) pa_nil))))))))), ?_⟩
    refine r_at (σ := [some _, some _, none]) rfl ?_
    walk_at "z"
    refine r_isiX hd rfl (kit_tup d) ?_
    cases et : tupD d with
    | false =>
      walk_at "z"
      have : versD n d = false := by
        cases d with
        | tuple ds => exact absurd et.symm Bool.false_ne_true
        | _ => rfl
      have := this ▸ q H (ExtN.refl H) hT
      exact this
    | true =>
      obtain ⟨ds, rfl⟩ := tupD_of et
      cases id hd with
      | @tup p xs _ hxs hxd =>
      walk_at "z"
      refine r_it (.inl hxs) ⟨hT, fun H2 e2 T2 => gall_tup (xs := xs) (fun i H' => H' = H2 ∧ (ds.take i).all (verD n) = true) (by walk_at "zw") ⟨rfl, rfl⟩ (fun i H' _ ⟨e, _⟩ => e ▸ .inl (hxs.ext e2)) ?_ ?_⟩
      · rintro i x H' hx ⟨rfl, al⟩
        obtain ⟨d, hd1, fd⟩ := pd_get (DXs.pd _ (hxd.ext e2)) hx
        walk_at "z"
        refine ⟨rfl, ?_⟩
        walk_at "z"
        refine ⟨n, x, d, rfl, fd, ?_⟩
        refine r_genE ?_
        cases e : verD n d with
        | true => exact ⟨rfl, (all_take hd1 al).trans e⟩
        | false =>
          have := q H' e2 T2
          rw [show versD n (.tuple ds) = ds.all (verD n) from rfl, all_false hd1 e] at this
          exact this
      · rintro H' ⟨rfl, al⟩
        rw [hxd.len, List.take_length] at al
        have := q H' e2 T2
        rw [show versD n (.tuple ds) = ds.all (verD n) from rfl, al] at this
        exact this
end

set_option Elab.async false
set_option linter.all false
set_option maxRecDepth 100000
set_option maxHeartbeats 4000000
open PySem PySem.Spec PyProof.Rows L2 LamX RZ

theorem lex_pair {p q : Int × Int} : HT.lexLt [p.1, p.2] [q.1, q.2] = true ↔ ltP p q := by
  rw [HT.lexLt_cons, HT.lexLt_cons, HT.lexLt_nil_nil]
  unfold ltP
  by_cases h : p.1 = q.1
  · rw [if_pos h]
    by_cases k : p.2 = q.2
    · rw [if_pos k]
      simp [h, k]
    · rw [if_neg k, decide_eq_true_eq]
      omega
  · rw [if_neg h, decide_eq_true_eq]
    omega
def prX (p : Int × Int) : PyData := .tuple [.int p.1, .int p.2]
def setX (n : Int) (d : PyData) : Prop := ∃ ns : List Int, d = .tuple (ns.map PyData.int) ∧ (∀ z ∈ ns, 0 ≤ z ∧ z < n) ∧ adjI ns
def edsX (n : Int) (d : PyData) : Prop := ∃ ps : List (Int × Int), d = .tuple (ps.map prX) ∧ (∀ p ∈ ps, 0 ≤ p.1 ∧ p.1 < p.2 ∧ p.2 < n) ∧ adjP ps
def gphX (d : PyData) : Prop := ∃ (n : Int) (ps : List (Int × Int)), d = .tuple [.int n, .tuple (ps.map prX)] ∧ 1 ≤ n ∧ n ≤ 60 ∧ (∀ p ∈ ps, 0 ≤ p.1 ∧ p.1 < p.2 ∧ p.2 < n) ∧ adjP ps
theorem ints_inj {ns ms : List Int} (h : ns.map PyData.int = ms.map PyData.int) : ns = ms := List.map_inj_right (fun a b e => by cases e; rfl) |>.mp h
theorem prX_inj {p q : Int × Int} (h : prX p = prX q) : p = q := by
  obtain ⟨a, b⟩ := p
  obtain ⟨c, d⟩ := q
  have := PyData.tuple.inj h
  simp only [List.cons.injEq, PyData.int.injEq, and_true] at this
  exact Prod.ext this.1 this.2
theorem prXs_inj {ps qs : List (Int × Int)} (h : ps.map prX = qs.map prX) : ps = qs := List.map_inj_right (fun a b e => prX_inj e) |>.mp h
theorem dx_ints {a : Addr} {H : Hp} : ∀ {ns : List Int} {vs : List V}, DXs a H vs (ns.map PyData.int) → vs = ns.map V.int
  | [], _, h => by cases h; rfl
  | n :: ns, _, h => by
    cases h with
    | cons h1 h2 =>
      cases h1
      rw [dx_ints h2]
      rfl
/-- a pair, how ever it came -/
def IsPX (H : Hp) (x : V) (p : Int × Int) : Prop := ∃ t, x = .ref t ∧ ST H t [.int p.1, .int p.2]
abbrev PrsX (H : Hp) : List V → List (Int × Int) → Prop := Paired (IsPX H)
theorem PrsX.ext {H H' : Hp} (s : ExtN H H') : ∀ {xs : List V} {ps : List (Int × Int)}, PrsX H xs ps → PrsX H' xs ps
  | _, _, .nil => .nil
  | _, _, .cons ⟨t, e, h⟩ r => .cons ⟨t, e, h.ext s⟩ (PrsX.ext s r)
theorem dx_pr {a : Addr} {H : Hp} {x : V} {p : Int × Int} (h : DX a H x (prX p)) : IsPX H x p := by
  unfold prX at h
  cases h with
  | tup hp hx =>
    have := dx_ints (ns := [p.1, p.2]) hx
    subst this
    exact ⟨_, rfl, hp⟩
theorem dx_prs {a : Addr} {H : Hp} : ∀ {ps : List (Int × Int)} {vs : List V}, DXs a H vs (ps.map prX) → PrsX H vs ps
  | [], _, h => by cases h; exact .nil
  | p :: ps, _, h => by
    cases h with
    | cons h1 h2 => exact .cons (dx_pr h1) (dx_prs h2)
/-- the items that are edges, one by one -/
theorem eds_of {n : Int} : ∀ {ds : List PyData}, (∀ d ∈ ds, edgD n d) → ∃ ps : List (Int × Int), ds = ps.map prX ∧ ∀ p ∈ ps, 0 ≤ p.1 ∧ p.1 < p.2 ∧ p.2 < n
  | [], _ => ⟨[], rfl, fun p hp => (nomatch hp)⟩
  | d :: ds, h => by
    obtain ⟨ps, e, hp⟩ := eds_of (n := n) (ds := ds) fun d hd => h d (List.mem_cons_of_mem _ hd)
    obtain ⟨u, v, rfl, h1, h2, h3⟩ := h d List.mem_cons_self
    refine ⟨(u, v) :: ps, by rw [e]; rfl, fun p hp' => ?_⟩
    rcases List.mem_cons.mp hp' with rfl | c
    · exact ⟨h1, h2, h3⟩
    · exact hp p c
section
variable {P : Program} {w : World} {K : PySem.W.Frag} {mg : Str → Option Value} {base : Heap}
def spAscX (TT : List (Addr × Str)) : Sp := fun vs H Q _ => ∃ p : Addr, vs = [.ref p] ∧ Tabs TT H ∧
  ((∃ ns : List Int, ST H p (ns.map V.int) ∧ ns.length ≤ 100000 ∧ ∀ (b : Bool) H', ExtN H H' → Tabs TT H' → (b = true ↔ adjI ns) → Q (.bl b) H') ∨
   (∃ (xs : List V) (ps : List (Int × Int)), ST H p xs ∧ PrsX H xs ps ∧ ps.length ≤ 100000 ∧ ∀ (b : Bool) H', ExtN H H' → Tabs TT H' → (b = true ↔ adjP ps) → Q (.bl b) H'))
theorem ok_ascX {c PT : Addr} {TT : List (Addr × Str)} (TB : TabB base mg c PT) (hm9 : (PT, genN "is_ascending") ∈ TT) (hu9 : ∀ p ∈ TT, p.1 = PT → p.2 = genN "is_ascending") (T : Blt mg) (z_all : mg "all" = none) (D : DefAt K mg "is_ascending" s_is_ascending ["items"]) (hco : D.fd.code = .ref c) :
    FnOk P w K mg base CX0 7 D.f D.fd ["items"] (spAscX TT) := by
  refine okV D.F sc_is_ascending (fun vs H Q E h => ?_) (fun cdv A outer s H vs Q E hcv hr h => ?_)
  · obtain ⟨p, rfl, _⟩ := h
    rfl
  · obtain ⟨p, rfl, hT, h⟩ := h
    obtain rfl : cdv = .ref c := hcv.symm.trans hco
    refine ⟨_, (pss_one (ps_ret (pe_allG (k := 3) (hr.mono (by first | decide | omega)) (by rfl) z_all (by decide +kernel) TB rfl hm9 hu9 (genS1_by (sc := defScope s_is_ascending) (by decide +kernel)) (ix := 1) rfl sc_is_ascending.nd (show (".0" : Str) ∉ (["items", "at"] : List Str) by decide +kernel) (pi_range1 (by rfl) T.range (pa_cons (pe_op op_sub (pe_callB (call_lenK (K := K) rfl) (by rfl) T.len (by decide +kernel) (pa_cons (pv 0) pa_nil)) pe_int) pa_nil)) (fun _ _ _ _ _ _ => (pg_name (i := 1) sc_is_ascending.nd rfl (Or.inl rfl))) (fun _ _ _ _ _ _ hr => (pe_cmpR (op_ltIT (K := K) rfl hr.units) (pe_ix (ix_tupK (K := K) rfl) (pv 0) (pv 1) (fun _ _ => rfl)) (pe_ix (ix_tupK (K := K) rfl) (pv 0) (pe_op op_add (pv 1) pe_int) (fun _ _ => rfl)) (nomark _)))))), ?_⟩
    refine r_at (σ := [some _, none]) rfl ?_
    rcases h with ⟨ns, hp, ln, q⟩ | ⟨xs, ps, hp, hxs, ln, q⟩
    · have hq : SqT K H p (ns.map V.int) := .inl hp
      walk_at "z"
      rw [List.length_map]
      refine r_rg1 (by omega) ⟨hT, fun H2 e2 T2 => gall_range (fun i H' => H' = H2 ∧ ∀ j : Nat, j < i → ∀ x y, ns[j]? = some x → ns[j + 1]? = some y → x < y) (by walk_at "zw") ⟨rfl, fun j hj => absurd hj (Nat.not_lt_zero j)⟩ ?_ ?_⟩
      · rintro i H' hi ⟨rfl, al⟩
        have hp2 := hp.ext e2
        have hq2 : SqT K H' p _ := .inl hp2
        obtain ⟨x, hx⟩ : ∃ x, ns[i]? = some x := ⟨_, List.getElem?_eq_getElem (by omega)⟩
        obtain ⟨y, hy⟩ : ∃ x, ns[i + 1]? = some x := ⟨_, List.getElem?_eq_getElem (by omega)⟩
        walk_at "z"
        refine ⟨rfl, ?_⟩
        walk_at "z"
        refine r_ixT (.inl hp2) (at_of (j := i) (by omega) (by rw [List.getElem?_map, hx]; rfl)) ?_
        walk_at "z"
        refine r_ixT (.inl hp2) (at_of (j := i + 1) (by omega) (by rw [List.getElem?_map, hy]; rfl)) ?_
        walk_at "z"
        refine r_ltI ?_
        refine r_genE ?_
        by_cases c : x < y
        · rw [decide_eq_true c]
          refine ⟨rfl, fun j hj x' y' hx' hy' => ?_⟩
          by_cases ej : j = i
          · rw [ej] at hx' hy'
            rw [hx] at hx'
            rw [hy] at hy'
            cases hx'
            cases hy'
            exact c
          · exact al j (by omega) x' y' hx' hy'
        · rw [decide_eq_false c]
          exact q false H' e2 T2 ⟨fun h => (nomatch h), fun h => (c (h i x y hx hy)).elim⟩
      · rintro H' ⟨rfl, al⟩
        refine q true H' e2 T2 ⟨fun _ j x y hx hy => al j ?_ x y hx hy, fun _ => rfl⟩
        have := (List.getElem?_eq_some_iff.mp hy).1
        omega
    · have lx := hxs.length
      have hq : SqT K H p xs := .inl hp
      walk_at "z"
      refine r_rg1 (by omega) ⟨hT, fun H2 e2 T2 => gall_range (fun i H' => H' = H2 ∧ ∀ j : Nat, j < i → ∀ x y, ps[j]? = some x → ps[j + 1]? = some y → ltP x y) (by walk_at "zw") ⟨rfl, fun j hj => absurd hj (Nat.not_lt_zero j)⟩ ?_ ?_⟩
      · rintro i H' hi ⟨rfl, al⟩
        have hp2 := hp.ext e2
        have hq2 : SqT K H' p _ := .inl hp2
        have hxs2 := hxs.ext e2
        obtain ⟨x, hx⟩ : ∃ x, ps[i]? = some x := ⟨_, List.getElem?_eq_getElem (by omega)⟩
        obtain ⟨y, hy⟩ : ∃ x, ps[i + 1]? = some x := ⟨_, List.getElem?_eq_getElem (by omega)⟩
        obtain ⟨x', hx', ⟨ta, rfl, hta⟩⟩ := pd_get2 hxs2 hx
        obtain ⟨y', hy', ⟨tb, rfl, htb⟩⟩ := pd_get2 hxs2 hy
        walk_at "z"
        refine ⟨rfl, ?_⟩
        walk_at "z"
        refine r_ixT (.inl hp2) (at_of (j := i) (by omega) hx') ?_
        walk_at "z"
        refine r_ixT (.inl hp2) (at_of (j := i + 1) (by omega) hy') ?_
        walk_at "z"
        refine r_ltT ⟨ta, tb, [x.1, x.2], [y.1, y.2], rfl, rfl, .inl hta, .inl htb, ?_⟩
        refine r_genE ?_
        cases c : HT.lexLt [x.1, x.2] [y.1, y.2] with
        | true =>
          refine ⟨rfl, fun j hj x' y' hx' hy' => ?_⟩
          by_cases ej : j = i
          · rw [ej] at hx' hy'
            rw [hx] at hx'
            rw [hy] at hy'
            cases hx'
            cases hy'
            exact lex_pair.mp c
          · exact al j (by omega) x' y' hx' hy'
        | false =>
          exact q false H' e2 T2 ⟨fun h => (nomatch h), fun h => by
            have := lex_pair.mpr (h i x y hx hy)
            rw [c] at this
            cases this⟩
      · rintro H' ⟨rfl, al⟩
        refine q true H' e2 T2 ⟨fun _ j x y hx hy => al j ?_ x y hx hy, fun _ => rfl⟩
        have := (List.getElem?_eq_some_iff.mp hy).1
        omega
def spSetX (b : Addr) (TT : List (Addr × Str)) : Sp := fun vs H Q _ => ∃ (n : Int) (v : V) (d : PyData), vs = [.int n, v] ∧ DX b H v d ∧ (∀ ds, d = .tuple ds → ds.length ≤ 100000) ∧ Tabs TT H ∧ ∀ (r : Bool) H', ExtN H H' → Tabs TT H' → (r = true ↔ setX n d) → Q (.bl r) H'
theorem ok_setX {b : Addr} {TT : List (Addr × Str)} (T : Blt mg) (D : DefAt K mg "is_set" s_is_set ["n", "value"]) (D_are_vertices : DefAt K mg "are_vertices" s_are_vertices ["n", "value"]) (G_are_vertices : FnOk P w K mg base CX0 7 D_are_vertices.f D_are_vertices.fd ["n", "value"] (spVsX b TT))
    (D_is_ascending : DefAt K mg "is_ascending" s_is_ascending ["items"]) (G_is_ascending : FnOk P w K mg base CX0 7 D_is_ascending.f D_is_ascending.fd ["items"] (spAscX TT)) : FnOk P w K mg base CX0 8 D.f D.fd ["n", "value"] (spSetX b TT) := by
  refine D.F.ok sc_is_set (fun vs H Q E h => ?_) (fun cdv A outer s H vs Q E hr h => ?_)
  · obtain ⟨n, v, d, rfl, _⟩ := h
    rfl
  · obtain ⟨n, v, d, rfl, hd, len, hT, q⟩ := h
    refine ⟨_, (pss_one (ps_ret (pe_and (pe_call G_are_vertices (hr.mono (by first | decide | omega)) (by rfl) D_are_vertices.g D_are_vertices.F.kp D_are_vertices.b .nil pass0 (pa_cons (pv 0) (pa_cons (pv 1) pa_nil))) (pe_one (pe_call G_is_ascending (hr.mono (by first | decide | omega)) (by rfl) D_is_ascending.g D_is_ascending.F.kp D_is_ascending.b .nil pass0 (pa_cons (pv 1) pa_nil)))))), ?_⟩
    refine r_at (σ := [some _, some _]) rfl ?_
    walk_at "z"
    refine ⟨n, v, d, rfl, hd, hT, fun H1 e1 T1 => ?_⟩
    cases e : versD n d with
    | false =>
      walk_at "z"
      refine q false H1 e1 T1 ⟨fun h => (nomatch h), fun ⟨ns, ed, bd, _⟩ => ?_⟩
      rw [ed, versD_ints, decide_eq_true bd] at e
      cases e
    | true =>
      obtain ⟨ns, rfl, bd⟩ := versD_of e
      have ln := len _ rfl
      rw [List.length_map] at ln
      cases hd.ext e1 with
      | @tup p xs _ hxs hxd =>
      rw [dx_ints hxd] at hxs
      walk_at "z"
      refine ⟨p, rfl, T1, .inl ⟨ns, hxs, ln, fun r H2 e2 T2 hr2 => ?_⟩⟩
      refine q r H2 (e1.trans e2) T2 (hr2.trans ⟨fun h => ⟨ns, rfl, bd, h⟩, fun ⟨ms, em, _, h⟩ => ?_⟩)
      rw [ints_inj (PyData.tuple.inj em)]
      exact h
def spEdgX (b : Addr) (TT : List (Addr × Str)) : Sp := fun vs H Q _ => ∃ (n : Int) (v : V) (d : PyData), vs = [.int n, v] ∧ DX b H v d ∧ Tabs TT H ∧ ∀ (r : Bool) H', ExtN H H' → Tabs TT H' → (r = true ↔ edgD n d) → Q (.bl r) H'
theorem edg_set {n : Int} {ds : List PyData} (h : ds.length = 2) : setX n (.tuple ds) ↔ edgD n (.tuple ds) := by
  constructor
  · rintro ⟨ns, e, bd, ad⟩
    have e := PyData.tuple.inj e
    rw [e, List.length_map] at h
    match ns, h with
    | [u, v], _ =>
      refine ⟨u, v, by rw [e]; rfl, (bd u (by simp)).1, ad 0 u v rfl rfl, (bd v (by simp)).2⟩
  · rintro ⟨u, v, e, h1, h2, h3⟩
    refine ⟨[u, v], e, fun z hz => ?_, fun j x y hx hy => ?_⟩
    · rcases List.mem_cons.mp hz with rfl | hz
      · omega
      · rw [List.mem_singleton.mp hz]
        omega
    · match j with
      | 0 =>
        cases hx
        cases hy
        exact h2
      | j + 1 => simp at hy
theorem ok_edgX {b : Addr} {TT : List (Addr × Str)} (T : Blt mg) (D : DefAt K mg "is_edge" s_is_edge ["n", "value"]) (D_is_tuple : DefAt K mg "is_tuple" s_is_tuple ["value", "many"]) (G_is_tuple : FnOk P w K mg base CX0 1 D_is_tuple.f D_is_tuple.fd ["value", "many"] (spTupX b))
    (D_is_set : DefAt K mg "is_set" s_is_set ["n", "value"]) (G_is_set : FnOk P w K mg base CX0 8 D_is_set.f D_is_set.fd ["n", "value"] (spSetX b TT)) : FnOk P w K mg base CX0 9 D.f D.fd ["n", "value"] (spEdgX b TT) := by
  refine D.F.ok sc_is_edge (fun vs H Q E h => ?_) (fun cdv A outer s H vs Q E hr h => ?_)
  · obtain ⟨n, v, d, rfl, _⟩ := h
    rfl
  · obtain ⟨n, v, d, rfl, hd, hT, q⟩ := h
    refine ⟨_, (pss_one (ps_ret (pe_and (pe_call G_is_tuple (hr.mono (by first | decide | omega)) (by rfl) D_is_tuple.g D_is_tuple.F.kp D_is_tuple.b .nil pass0 (pa_cons (pv 1) (pa_cons pe_int pa_nil))) (pe_one (pe_call G_is_set (hr.mono (by first | decide | omega)) (by rfl) D_is_set.g D_is_set.F.kp D_is_set.b .nil pass0 (pa_cons (pv 0) (pa_cons (pv 1) pa_nil))))))), ?_⟩
    refine r_at (σ := [some _, some _]) rfl ?_
    walk_at "z"
    refine ⟨v, d, 2, rfl, hd, ?_⟩
    cases e : lenD 2 d with
    | false =>
      walk_at "z"
      refine q false H (.refl H) hT ⟨fun h => (nomatch h), fun ⟨u, v', ed, _⟩ => ?_⟩
      rw [ed] at e
      cases e
    | true =>
      obtain ⟨ds, rfl, l2⟩ : ∃ ds, d = .tuple ds ∧ ds.length = 2 := by
        cases d with
        | tuple ds => exact ⟨ds, rfl, by have := of_decide_eq_true e; omega⟩
        | _ => exact absurd e Bool.false_ne_true
      walk_at "z"
      refine ⟨n, v, _, rfl, hd, fun es ee => by cases ee; omega, hT, fun r H1 e1 T1 hr1 => ?_⟩
      exact q r H1 e1 T1 (hr1.trans (edg_set l2))
def spEdsX (b : Addr) (TT : List (Addr × Str)) : Sp := fun vs H Q _ => ∃ (n : Int) (v : V) (d : PyData), vs = [.int n, v] ∧ DX b H v d ∧ (∀ ds, d = .tuple ds → ds.length ≤ 100000) ∧ Tabs TT H ∧ ∀ (r : Bool) H', ExtN H H' → Tabs TT H' → (r = true ↔ edsX n d) → Q (.bl r) H'
theorem ok_edsX {b c PT : Addr} {TT : List (Addr × Str)} (TB : TabB base mg c PT) (hm9 : (PT, genN "are_edges") ∈ TT) (hu9 : ∀ p ∈ TT, p.1 = PT → p.2 = genN "are_edges") (T : Blt mg) (z_all : mg "all" = none) (D : DefAt K mg "are_edges" s_are_edges ["n", "value"]) (hco : D.fd.code = .ref c)
    (D_is_edge : DefAt K mg "is_edge" s_is_edge ["n", "value"]) (G_is_edge : FnOk P w K mg base CX0 9 D_is_edge.f D_is_edge.fd ["n", "value"] (spEdgX b TT))
    (D_is_ascending : DefAt K mg "is_ascending" s_is_ascending ["items"]) (G_is_ascending : FnOk P w K mg base CX0 7 D_is_ascending.f D_is_ascending.fd ["items"] (spAscX TT)) : FnOk P w K mg base CX0 14 D.f D.fd ["n", "value"] (spEdsX b TT) := by
  refine okV D.F sc_are_edges (fun vs H Q E h => ?_) (fun cdv A outer s H vs Q E hcv hr h => ?_)
  · obtain ⟨n, v, d, rfl, _⟩ := h
    rfl
  · obtain ⟨n, v, d, rfl, hd, len, hT, q⟩ := h
    obtain rfl : cdv = .ref c := hcv.symm.trans hco
    refine ⟨_, (pss_one (ps_ret (pe_and (pe_callB (call_isiK (K := K) rfl) (by rfl) T.isinstance (by decide +kernel) (pa_cons (pv 1) (pa_cons (pe_bltn (v := .ty "tuple") (u := .type "tuple") (by rfl) T.tuple (by decide +kernel) rfl) pa_nil))) (pe_and (pe_allG (k := 10) (hr.mono (by first | decide | omega)) (by rfl) z_all (by decide +kernel) TB rfl hm9 hu9 (genS1_by (sc := defScope s_are_edges) (by decide +kernel)) (ix := 2) rfl sc_are_edges.nd (show (".0" : Str) ∉ (["n", "value", "edge"] : List Str) by decide +kernel) (PI.tupK (K := K) rfl (pi_tup (pv 1))) (fun _ _ _ _ _ _ => (pg_name (i := 2) sc_are_edges.nd rfl (Or.inl rfl))) (fun _ _ _ _ _ _ hr => (pe_call G_is_edge (hr.mono (by first | decide | omega)) (by rfl) D_is_edge.g D_is_edge.F.kp D_is_edge.b .nil pass0 (pa_cons (pv 0) (pa_cons (pv 2) pa_nil))))) (pe_one (pe_call G_is_ascending (hr.mono (by first | decide | omega)) (by rfl) D_is_ascending.g D_is_ascending.F.kp D_is_ascending.b .nil pass0 (pa_cons (pv 1) pa_nil))))))), ?_⟩
    refine r_at (σ := [some _, some _, none]) rfl ?_
    walk_at "z"
    refine r_isiX hd rfl (kit_tup d) ?_
    cases et : tupD d with
    | false =>
      walk_at "z"
      refine q false H (.refl H) hT ⟨fun h => (nomatch h), fun ⟨ps, e, _⟩ => ?_⟩
      rw [e] at et
      cases et
    | true =>
      obtain ⟨ds, rfl⟩ := tupD_of et
      have ln := len _ rfl
      cases id hd with
      | @tup p xs _ hxs hxd =>
      walk_at "z"
      refine r_it (.inl hxs) ⟨hT, fun H2 e2 T2 => gall_tup (xs := xs) (fun i H' => ExtN H H' ∧ Tabs TT H' ∧ ∀ d ∈ ds.take i, edgD n d) (by walk_at "zw") ⟨e2, T2, fun d hd => by simp at hd⟩ (fun i H' _ ⟨e3, _⟩ => .inl (hxs.ext e3)) ?_ ?_⟩
      · rintro i x H' hx ⟨e3, T3, al⟩
        obtain ⟨d, hd1, fd⟩ := pd_get (DXs.pd _ (hxd.ext e3)) hx
        walk_at "z"
        refine ⟨rfl, ?_⟩
        walk_at "z"
        refine ⟨n, x, d, rfl, fd, T3, fun r H4 e4 T4 hr4 => ?_⟩
        refine r_genE ?_
        cases r with
        | true =>
          refine ⟨e3.trans e4, T4, fun z hz => ?_⟩
          rw [take_next hd1] at hz
          rcases List.mem_append.mp hz with c | c
          · exact al z c
          · rw [List.mem_singleton.mp c]
            exact hr4.mp rfl
        | false =>
          refine iteF ?_
          walk_at "z"
          refine q false H4 (e3.trans e4) T4 ⟨fun h => (nomatch h), fun ⟨ps, e, bd, _⟩ => ?_⟩
          have e := PyData.tuple.inj e
          have dm := List.mem_of_getElem? hd1
          rw [e] at dm
          obtain ⟨p', hp', rfl⟩ := List.mem_map.mp dm
          have := hr4.mpr ⟨p'.1, p'.2, rfl, bd p' hp'⟩
          cases this
      · rintro H' ⟨e3, T3, al⟩
        rw [hxd.len, List.take_length] at al
        obtain ⟨ps, rfl, bd⟩ := eds_of al
        rw [List.length_map] at ln
        have hp3 := dx_prs (hxd.ext e3)
        walk_at "z"
        refine ⟨p, rfl, T3, .inr ⟨xs, ps, hxs.ext e3, hp3, ln, fun r H4 e4 T4 hr4 => ?_⟩⟩
        refine q r H4 (e3.trans e4) T4 (hr4.trans ⟨fun h => ⟨ps, rfl, bd, h⟩, fun ⟨qs, e, _, h⟩ => ?_⟩)
        rw [prXs_inj (PyData.tuple.inj e)]
        exact h
def sizD : PyData → Bool
  | .int i => decide (1 ≤ i) && decide (i ≤ 60)
  | _ => false
def spSizX (b : Addr) : Sp := fun vs H Q _ => ∃ (v : V) (d : PyData), vs = [v] ∧ DX b H v d ∧ Q (.bl (sizD d)) H
theorem ok_sizX {b : Addr} (T : Blt mg) {tk : Tok} (C_MOST_VERTICES : mg "MOST_VERTICES" = some (.int 60 tk)) (D : DefAt K mg "is_size" s_is_size ["value"]) (D_is_integer : DefAt K mg "is_integer" s_is_integer ["value"]) (G_is_integer : FnOk P w K mg base CX0 1 D_is_integer.f D_is_integer.fd ["value"] (spIntX b)) :
    FnOk P w K mg base CX0 2 D.f D.fd ["value"] (spSizX b) := by
  refine D.F.ok sc_is_size (fun vs H Q E h => ?_) (fun cdv A outer s H vs Q E hr h => ?_)
  · obtain ⟨v, d, rfl, _⟩ := h
    rfl
  · obtain ⟨v, d, rfl, hd, q⟩ := h
    refine ⟨_, (pss_one (ps_ret (pe_and (pe_call G_is_integer (hr.mono (by first | decide | omega)) (by rfl) D_is_integer.g D_is_integer.F.kp D_is_integer.b .nil pass0 (pa_cons (pv 0) pa_nil)) (pe_one (pe_chain op_le op_le pe_int (pv 0) (pe_glob rfl C_MOST_VERTICES rel_int)))))), ?_⟩
    refine r_at (σ := [some _]) rfl ?_
    walk_at "z"
    refine ⟨v, d, rfl, hd, ?_⟩
    walk_at "z"
    cases d with
    | int i =>
      cases hd
      walk_at "z"
      refine iteT ?_
      walk_at "z"
      refine r_ite (fun h => ?_) (fun h => ?_)
      · walk_at "z"
        have e : sizD (.int i) = decide (i ≤ 60) := by simp [sizD, h]
        rw [e] at q
        exact q
      · have e : sizD (.int i) = false := by simp [sizD, h]
        rw [e] at q
        exact q
    | _ => exact iteF q
def spGphX (b : Addr) (TT : List (Addr × Str)) : Sp := fun vs H Q _ => ∃ (v : V) (d : PyData), vs = [v] ∧ DX b H v d ∧ (∃ D, limX D 100000 d) ∧ Tabs TT H ∧ ∀ (r : Bool) H', ExtN H H' → Tabs TT H' → (r = true ↔ gphX d) → Q (.bl r) H'
theorem ok_gphX {b : Addr} {TT : List (Addr × Str)} (T : Blt mg) (D : DefAt K mg "is_graph" s_is_graph ["value"]) (D_is_tuple : DefAt K mg "is_tuple" s_is_tuple ["value", "many"]) (G_is_tuple : FnOk P w K mg base CX0 1 D_is_tuple.f D_is_tuple.fd ["value", "many"] (spTupX b))
    (D_is_size : DefAt K mg "is_size" s_is_size ["value"]) (G_is_size : FnOk P w K mg base CX0 2 D_is_size.f D_is_size.fd ["value"] (spSizX b)) (D_are_edges : DefAt K mg "are_edges" s_are_edges ["n", "value"]) (G_are_edges : FnOk P w K mg base CX0 14 D_are_edges.f D_are_edges.fd ["n", "value"] (spEdsX b TT)) :
    FnOk P w K mg base CX0 15 D.f D.fd ["value"] (spGphX b TT) := by
  refine D.F.ok sc_is_graph (fun vs H Q E h => ?_) (fun cdv A outer s H vs Q E hr h => ?_)
  · obtain ⟨v, d, rfl, _⟩ := h
    rfl
  · obtain ⟨v, d, rfl, hd, ⟨DD, hl⟩, hT, q⟩ := h
    refine ⟨_, (pss_cons (ps_if (pt_not (pt_val (pe_call G_is_tuple (hr.mono (by first | decide | omega)) (by rfl) D_is_tuple.g D_is_tuple.F.kp D_is_tuple.b .nil pass0 (pa_cons (pv 0) (pa_cons pe_int pa_nil)))))
        (pss_one (ps_ret pe_bl))
        pss_nil)
      (pss_cons (ps_asg (pv 0) (PG.tupK (K := K) rfl (pg_tup (n := 2) rfl (pgs_cons (pg_name (i := 1) sc_is_graph.nd rfl (Or.inl rfl)) (pgs_cons (pg_name (i := 2) sc_is_graph.nd rfl (Or.inl rfl)) pgs_nil)))))
      (pss_one (ps_ret (pe_and (pe_call G_is_size (hr.mono (by first | decide | omega)) (by rfl) D_is_size.g D_is_size.F.kp D_is_size.b .nil pass0 (pa_cons (pv 1) pa_nil)) (pe_one (pe_call G_are_edges (hr.mono (by first | decide | omega)) (by rfl) D_are_edges.g D_are_edges.F.kp D_are_edges.b .nil pass0 (pa_cons (pv 1) (pa_cons (pv 2) pa_nil))))))))), ?_⟩
    refine r_at (σ := [some _, none, none]) rfl ?_
    walk_at "z"
    refine ⟨v, d, 2, rfl, hd, ?_⟩
    cases e : lenD 2 d with
    | false =>
      walk_at "z"
      refine iteT ?_
      walk_at "z"
      refine q false H (.refl H) hT ⟨fun h => (nomatch h), fun ⟨n, ps, ed, _⟩ => ?_⟩
      rw [ed] at e
      cases e
    | true =>
      obtain ⟨ds, rfl, l2⟩ : ∃ ds, d = .tuple ds ∧ ds.length = 2 := by
        cases d with
        | tuple ds => exact ⟨ds, rfl, by have := of_decide_eq_true e; omega⟩
        | _ => exact absurd e Bool.false_ne_true
      match ds, l2 with
      | [d1, d2], _ =>
      obtain ⟨D1, _, _, lim1⟩ := limX_tup hl
      have l2' := lim1 d2 (by simp)
      cases id hd with
      | @tup p xs _ hxs hxd =>
      cases hxd with
      | @cons x1 _ _ _ hd1 hr1 =>
      cases hr1 with
      | @cons x2 _ _ _ hd2 hr2 =>
      cases hr2
      walk_at "z"
      refine iteF ?_
      walk_at "z"
      refine r_gtup (.inl hxs) rfl ?_
      walk_at "z"
      refine ⟨x1, d1, rfl, hd1, ?_⟩
      cases es : sizD d1 with
      | false =>
        walk_at "z"
        refine q false H (.refl H) hT ⟨fun h => (nomatch h), fun ⟨n, ps, ed, h1, h2, _⟩ => ?_⟩
        have := PyData.tuple.inj ed
        simp only [List.cons.injEq, and_true] at this
        rw [this.1] at es
        simp [sizD, h1, h2] at es
      | true =>
        obtain ⟨n, rfl, n1, n60⟩ : ∃ n, d1 = .int n ∧ 1 ≤ n ∧ n ≤ 60 := by
          cases d1 with
          | int n =>
            have h : (decide (1 ≤ n) && decide (n ≤ 60)) = true := es
            rw [Bool.and_eq_true, decide_eq_true_eq, decide_eq_true_eq] at h
            exact ⟨n, rfl, h.1, h.2⟩
          | _ => exact absurd es Bool.false_ne_true
        cases hd1
        walk_at "z"
        refine ⟨n, x2, d2, rfl, hd2, fun es ee => by
          subst ee
          obtain ⟨_, _, h, _⟩ := limX_tup l2'
          exact h, hT, fun r H1 e1 T1 hr1 => ?_⟩
        refine q r H1 e1 T1 (hr1.trans ⟨fun ⟨ps, e, bd, ad⟩ => ⟨n, ps, by rw [e], n1, n60, bd, ad⟩, fun ⟨m, ps, e, _, _, bd, ad⟩ => ?_⟩)
        have e := PyData.tuple.inj e
        simp only [List.cons.injEq, PyData.int.injEq, and_true] at e
        refine ⟨ps, e.2, ?_, ad⟩
        rw [e.1]
        exact bd
end

set_option Elab.async false
set_option linter.all false
set_option maxRecDepth 100000
set_option maxHeartbeats 4000000
open PySem PySem.Spec PyProof.Rows L2 LamX RZ

abbrev s_law_is_int : Stmt := topS 322
theorem sc_law_is_int : FnScope ["x"] ["x"] (defScope s_law_is_int) := ⟨rfl, rfl, rfl, by decide +kernel, rfl, by decide +kernel, by decide +kernel⟩

section
variable {P : Program} {w : World} {K : PySem.W.Frag} {mg : Str → Option Value} {base : Heap}
theorem ok_lintX {b : Addr} (T : Blt mg) (D : DefAt K mg "_law_is_int" s_law_is_int ["x"]) : FnOk P w K mg base CX0 1 D.f D.fd ["x"] (spIntX b) := by
  refine D.F.ok sc_law_is_int (fun vs H Q E h => ?_) (fun cdv A outer s H vs Q E hr h => ?_)
  · obtain ⟨v, d, rfl, _⟩ := h
    rfl
  · obtain ⟨v, d, rfl, hd, q⟩ := h
    refine ⟨_, (pss_one (ps_ret (pe_and (pe_callB (call_isiK (K := K) rfl) (by rfl) T.isinstance (by decide +kernel) (pa_cons (pv 0) (pa_cons (pe_bltn (v := .ty "int") (u := .type "int") (by rfl) T.int (by decide +kernel) rfl) pa_nil))) (pe_one (pe_not (pe_callB (call_isiK (K := K) rfl) (by rfl) T.isinstance (by decide +kernel) (pa_cons (pv 0) (pa_cons (pe_bltn (v := .ty "bool") (u := .type "bool") (by rfl) T.bool (by decide +kernel) rfl) pa_nil)))))))), ?_⟩
    refine r_at (σ := [some _]) rfl ?_
    walk_at "z"
    cases d with
    | int i =>
      refine r_isiX hd (k := "int") rfl (b := true) (by decide +kernel) ?_
      walk_at "z"
      refine r_isiX hd (k := "int") rfl (b := false) (by decide +kernel) ?_
      walk_at "z"
      exact q
    | bool i =>
      refine r_isiX hd (k := "bool") rfl (b := true) (by decide +kernel) ?_
      walk_at "z"
      refine r_isiX hd (k := "bool") rfl (b := true) (by decide +kernel) ?_
      walk_at "z"
      exact q
    | none =>
      refine r_isiX hd (k := "NoneType") rfl (b := false) (by decide +kernel) ?_
      walk_at "z"
      exact q
    | str x =>
      refine r_isiX hd (k := "str") rfl (b := false) (by decide +kernel) ?_
      walk_at "z"
      exact q
    | list ds =>
      refine r_isiX hd (k := "list") rfl (b := false) (by decide +kernel) ?_
      walk_at "z"
      exact q
    | tuple ds =>
      refine r_isiX hd (k := "tuple") rfl (b := false) (by decide +kernel) ?_
      walk_at "z"
      exact q
    | dict ds =>
      refine r_isiX hd (k := "dict") rfl (b := false) (by decide +kernel) ?_
      walk_at "z"
      exact q
theorem forall_cons {α : Type} {p : α → Prop} {a : α} {l : List α} (h : p a) (k : ∀ x ∈ l, p x) : ∀ x ∈ a :: l, p x := fun x hx => by
  rcases List.mem_cons.mp hx with rfl | c
  · exact h
  · exact k x c
theorem r_catL {H : Hp} {Q : VK} {l b : Addr} {xs zs : List V} (h1 : H l = some (.lst xs)) (h2 : H b = some (.lst zs)) (hz : xs.length + zs.length ≤ 100000) (q : ∀ p, H p = none → Q (.ref p) (upd H p (.lst (xs ++ zs)))) : rCat (.ref l) (.ref b) H Q := ⟨l, b, xs, zs, rfl, rfl, h1, h2, small_len hz, q⟩
theorem yes_ok : (Str.ofString "yes").cps.all (· < 0x110000) = true := by decide +kernel
theorem union_ok : (Str.ofString "union").cps.all (· < 0x110000) = true := by decide +kernel
theorem lim_str {d L : Nat} {x : Str} (h : x.cps.all (· < 0x110000) = true) : limX d L (.str x) := by cases d <;> exact h
theorem lim_lit (d L : Nat) (n : Int) : ∀ x ∈ [PyData.none, .bool true, .bool false, .str (Str.ofString "yes"), .tuple [], .list [], .dict [], .int 0, .int n, .tuple [.int 0], .str (Str.ofString "union"), .tuple [.tuple []], .int (-1)], limX (d + 2) (2 * L + 2) x :=
  forall_cons trivial (forall_cons trivial (forall_cons trivial (forall_cons (lim_str yes_ok) (forall_cons ⟨Nat.zero_le _, fun x hx => nomatch hx⟩ (forall_cons ⟨Nat.zero_le _, fun x hx => nomatch hx⟩ (forall_cons trivial (forall_cons trivial (forall_cons trivial
  (forall_cons (limX_mk (by simp only [List.length_cons, List.length_nil]; omega) (forall_cons limX_int fun x hx => nomatch hx)) (forall_cons (lim_str union_ok) (forall_cons (limX_mk (by simp only [List.length_cons, List.length_nil]; omega) (forall_cons (limX_mk (Nat.zero_le _) fun x hx => nomatch hx) fun x hx => nomatch hx)) (forall_cons limX_int fun x hx => nomatch hx))))))))))))
theorem eq_one {H : Hp} {Q : VK} {a : Addr} {v : V} {t : PyData} {d L : Nat} (h : DX a H v t) (nt : tupD t = false) (l : limX d L t) (q : ∀ b, Q (.bl b) H) : rEqX K v (.int 1) H Q := by
  have one : SeqAt.shaped (.int 1) = true := by rfl
  cases h with
  | non => exact r_eqXD ⟨.none, .int 1, .non, .int 1, by rfl, one, q _⟩
  | bl b => exact r_eqXD ⟨.bool b, .int 1, .bl b, .int 1, by rfl, one, q _⟩
  | int i => exact r_eqXD ⟨.int i, .int 1, .int i, .int 1, by rfl, one, q _⟩
  | str x =>
    have hx : x.cps.all (· < 0x110000) = true := by cases d <;> exact l
    exact r_eqXD ⟨.str x, .int 1, .str x, .int 1, shaped_of hx (Nat.zero_le _), one, q _⟩
  | lst n h _ => exact r_eqLIX h (q _)
  | dk n h => exact r_eqDI h (q _)
  | tup h _ => exact absurd nt.symm Bool.false_ne_true
set_option hygiene false in
local macro_rules | `(tactic| walk_at "zend") => `(tactic| (
  walk_at "z"
  rw [lx17]
  refine ⟨a, s0, 17, rfl, hP14, by omega, by omega, fun r H15 r0 r1 hP15 g15 => ?_⟩
  have hl15 := g15 _ _ nl6.1 hl14
  have hx15 := hP14.dxs g15 hx14
  obtain ⟨y, hy⟩ : ∃ y, xs17[r.toNat]? = some y := ⟨_, List.getElem?_eq_getElem (by omega)⟩
  obtain ⟨z, hz, hyz⟩ := pd_get (DXs.pd _ hx15) hy
  walk_at "z"
  refine r_ixL (.inl (.inl hl15)) (at_of (j := r.toNat) (by omega) hy) ?_
  exact q y z H15 hP15 ((g1.trans (Gr.of_same s114)).trans g15) hyz (lim17 z (List.mem_of_getElem? hz))))
set_option hygiene false in
local macro_rules | `(tactic| walk_at "zrows") => `(tactic| (
  walk_at "z"
  refine r_tupN (by decide) fun e1 he1 => ?_
  have s2 := same_new (o := .tup []) he1
  have f1 : (upd H1 e1 (.tup [])) e1 = some (.tup []) := upd_same
  generalize upd H1 e1 (.tup []) = H2 at s2 f1 ⊢
  walk_at "z"
  refine r_lstN (by decide) fun l1 hl1 => ?_
  have nl1 := new_ne (hP1.mono s2) hl1
  have s3 := same_new (o := .lst []) hl1
  have f2 : (upd H2 l1 (.lst [])) l1 = some (.lst []) := upd_same
  generalize upd H2 l1 (.lst []) = H3 at s3 f2 ⊢
  walk_at "z"
  intro d1 hd1
  have nd1 := new_ne ((hP1.mono s2).mono s3) hd1
  have s4 := same_new (o := .dK []) hd1
  have f3 : (upd H3 d1 (.dK [])) d1 = some (.dK []) := upd_same
  generalize upd H3 d1 (.dK []) = H4 at s4 f3 ⊢
  walk_at "z"
  refine r_tupN sz1 fun t1 ht1 => ?_
  have s5 := same_new (o := .tup [.int 0]) ht1
  have f4 : (upd H4 t1 (.tup [.int 0])) t1 = some (.tup [.int 0]) := upd_same
  generalize upd H4 t1 (.tup [.int 0]) = H5 at s5 f4 ⊢
  walk_at "z"
  refine r_tupN (by decide) fun e2 he2 => ?_
  have s6 := same_new (o := .tup []) he2
  have f5 : (upd H5 e2 (.tup [])) e2 = some (.tup []) := upd_same
  generalize upd H5 e2 (.tup []) = H6 at s6 f5 ⊢
  walk_at "z"
  refine r_tupN sz1 fun t2 ht2 => ?_
  have s7 := same_new (o := .tup [.ref e2]) ht2
  have f6 : (upd H6 t2 (.tup [.ref e2])) t2 = some (.tup [.ref e2]) := upd_same
  generalize upd H6 t2 (.tup [.ref e2]) = H7 at s7 f6 ⊢
  walk_at "z"
  have s27 : Same H2 H7 := (s3.trans s4).trans ((s5.trans s6).trans s7)
  have lit7 : DXs a H7 [.non, .bl true, .bl false, .str (Str.ofString "yes"), .ref e1, .ref l1, .ref d1, .int 0, .int n, .ref t1, .str (Str.ofString "union"), .ref t2, .int (-1)] [PyData.none, .bool true, .bool false, .str (Str.ofString "yes"), .tuple [], .list [], .dict [], .int 0, .int n, .tuple [.int 0], .str (Str.ofString "union"), .tuple [.tuple []], .int (-1)] :=
    .cons .non (.cons (.bl _) (.cons (.bl _) (.cons (.str _) (.cons (.tup (.inl (s27 _ _ f1)) .nil) (.cons (.lst nl1.1 (((s4.trans s5).trans (s6.trans s7)) _ _ f2) .nil) (.cons (.dk nd1.1 ((s5.trans (s6.trans s7)) _ _ f3)) (.cons (.int _) (.cons (.int _)
    (.cons (.tup (.inl ((s6.trans s7) _ _ f4)) (.cons (.int 0) .nil)) (.cons (.str _) (.cons (.tup (.inl f6) (.cons (.tup (.inl (s7 _ _ f5)) .nil) .nil)) (.cons (.int _) .nil))))))))))))
  refine r_lstN (small_len (by simp only [List.length_cons, List.length_nil]; omega)) fun R hR => ?_
  have lim13 := lim_lit d L n
  have len13 : [V.non, .bl true, .bl false, .str (Str.ofString "yes"), .ref e1, .ref l1, .ref d1, .int 0, .int n, .ref t1, .str (Str.ofString "union"), .ref t2, .int (-1)].length = 13 := rfl
  generalize [V.non, .bl true, .bl false, .str (Str.ofString "yes"), .ref e1, .ref l1, .ref d1, .int 0, .int n, .ref t1, .str (Str.ofString "union"), .ref t2, .int (-1)] = xs13 at lit7 len13 ⊢
  generalize [PyData.none, .bool true, .bool false, .str (Str.ofString "yes"), .tuple [], .list [], .dict [], .int 0, .int n, .tuple [.int 0], .str (Str.ofString "union"), .tuple [.tuple []], .int (-1)] = ds13 at lit7 lim13
  have s8 := same_new (o := .lst xs13) hR
  have f8 : (upd H7 R (.lst xs13)) R = some (.lst xs13) := upd_same
  have lit8 := lit7.same s8
  have s18 := s2.trans (s27.trans s8)
  have hP8 := hP1.mono s18
  have hd8 := (hP.dx g1 hd).same s18
  generalize upd H7 R (.lst xs13) = H8 at f8 lit8 s18 hP8 hd8 ⊢
  walk_at "z"
  refine r_isiX hd8 rfl (kit_tup t) ?_
  cases et : tupD t with
  | true =>
    obtain ⟨ds, rfl⟩ := tupD_of et
    obtain ⟨d', rfl, ll, le⟩ := limX_tup hl
    cases hd8 with
    | @tup p xs _ hp8 hxd8 =>
    have lx := hxd8.len
    walk_at "z"
    refine r_listT (.inl hp8) fun l2 hl2 => ?_
    have nl2 := new_ne hP8 hl2
    have s9 := same_new (o := .lst xs) hl2
    have f9 : (upd H8 l2 (.lst xs)) l2 = some (.lst xs) := upd_same
    generalize upd H8 l2 (.lst xs) = H9 at s9 f9 ⊢
    have hp9 := hp8.same s9
    walk_at "z"
    refine r_catX hp9 hp9 (by omega) fun c1 H10 s10 hc10 => ?_
    walk_at "z"
    refine r_tupN sz1 fun t3 ht3 => ?_
    have s11 := same_new (o := .tup [.ref p]) ht3
    have f11 : (upd H10 t3 (.tup [.ref p])) t3 = some (.tup [.ref p]) := upd_same
    generalize upd H10 t3 (.tup [.ref p]) = H11 at s11 f11 ⊢
    have hp11 := (hp9.same s10).same s11
    walk_at "z"
    refine r_revT ?_
    walk_at "z"
    refine r_revTN (.inl hp11) fun rv o hrv _ => ?_
    have s12 := same_new (o := .frz o (.tup xs.reverse)) hrv
    have f12 : (upd H11 rv (.frz o (.tup xs.reverse))) rv = some (.frz o (.tup xs.reverse)) := upd_same
    generalize upd H11 rv (.frz o (.tup xs.reverse)) = H12 at s12 f12 ⊢
    walk_at "z"
    have s8c := (s9.trans s10).trans (s11.trans s12)
    have hxd12 := hxd8.same s8c
    have four : DXs a H12 [.ref l2, .ref c1, .ref t3, .ref rv] [.list ds, .tuple (ds ++ ds), .tuple [.tuple ds], .tuple ds.reverse] :=
      .cons (.lst nl2.1 (((s10.trans s11).trans s12) _ _ f9) hxd12) (.cons (.tup (hc10.same (s11.trans s12)) (hxd12.app hxd12)) (.cons (.tup (.inl (s12 _ _ f11)) (.cons (.tup (hp8.same s8c) hxd12) .nil)) (.cons (.tup (.inr ⟨o, f12⟩) hxd12.rev) .nil)))
    have lim4 : ∀ x ∈ [PyData.list ds, .tuple (ds ++ ds), .tuple [.tuple ds], .tuple ds.reverse], limX (d' + 1 + 2) (2 * L + 2) x := by
      have lm : ∀ x ∈ ds, limX (d' + 2) (2 * L + 2) x := fun x hx => (le x hx).mono (by omega) (by omega)
      refine forall_cons (limX_mkl (by omega) lm) (forall_cons (limX_mk (by rw [List.length_append]; omega) fun x hx => (List.mem_append.mp hx).elim (lm x) (lm x)) (forall_cons (limX_mk (by simp only [List.length_cons, List.length_nil]; omega) (forall_cons (limX_mk (by omega) fun x hx => (le x hx).mono (by omega) (by omega)) fun x hx => nomatch hx)) (forall_cons (limX_mk (by rw [List.length_reverse]; omega) fun x hx => lm x (List.mem_reverse.mp hx)) fun x hx => nomatch hx)))
    refine r_lstN (small_len (by simp only [List.length_cons, List.length_nil]; omega)) fun l5 hl5 => ?_
    have len4 : [V.ref l2, .ref c1, .ref t3, .ref rv].length = 4 := rfl
    generalize [V.ref l2, .ref c1, .ref t3, .ref rv] = xs4 at four len4 ⊢
    generalize [PyData.list ds, .tuple (ds ++ ds), .tuple [.tuple ds], .tuple ds.reverse] = ds4 at four lim4
    have s13 := same_new (o := .lst xs4) hl5
    have f13 : (upd H12 l5 (.lst xs4)) l5 = some (.lst xs4) := upd_same
    have s8d := s8c.trans s13
    have four13 := four.same s13
    generalize upd H12 l5 (.lst xs4) = H13 at s13 f13 s8d four13 ⊢
    walk_at "z"
    refine r_catL (s8d _ _ f8) f13 (by omega) fun l6 hl6 => ?_
    have lx17 : (xs13 ++ xs4).length = 17 := by rw [List.length_append, len13, len4]
    have hx13 := (lit8.same s8d).app four13
    have lim17 : ∀ x ∈ ds13 ++ ds4, limX (d' + 1 + 2) (2 * L + 2) x := fun x hx => (List.mem_append.mp hx).elim (lim13 x) (lim4 x)
    generalize xs13 ++ xs4 = xs17 at lx17 hx13 ⊢
    generalize ds13 ++ ds4 = ds17 at hx13 lim17
    have nl6 := new_ne (hP8.mono s8d) hl6
    have s14 := same_new (o := .lst xs17) hl6
    have hl14 : (upd H13 l6 (.lst xs17)) l6 = some (.lst xs17) := upd_same
    have hx14 := hx13.same s14
    have s114 := s18.trans (s8d.trans s14)
    have hP14 := hP1.mono s114
    generalize upd H13 l6 (.lst xs17) = H14 at hl14 hx14 s114 hP14 ⊢
    walk_at "zend"
  | false =>
    walk_at "z"
    refine r_tupN sz1 fun t3 ht3 => ?_
    have s9 := same_new (o := .tup [v]) ht3
    have f9 : (upd H8 t3 (.tup [v])) t3 = some (.tup [v]) := upd_same
    generalize upd H8 t3 (.tup [v]) = H9 at s9 f9 ⊢
    walk_at "z"
    refine r_lstN sz1 fun l2 hl2 => ?_
    have nl2 := new_ne (hP8.mono s9) hl2
    have s10 := same_new (o := .lst [v]) hl2
    have f10 : (upd H9 l2 (.lst [v])) l2 = some (.lst [v]) := upd_same
    generalize upd H9 l2 (.lst [v]) = H10 at s10 f10 ⊢
    have s810 := s9.trans s10
    have hd10 := hd8.same s810
    walk_at "z"
    refine eq_one hd10 et hl fun b => ?_
    walk_at "z"
    refine ⟨n, rfl, log_small n0 n1, ?_⟩
    walk_at "z"
    have four : DXs a H10 [.ref t3, .ref l2, .bl b, .str (Str.ofString (toString n))] [.tuple [t], .list [t], .bool b, .str (Str.ofString (toString n))] :=
      .cons (.tup (.inl (s10 _ _ f9)) (.cons hd10 .nil)) (.cons (.lst nl2.1 f10 (.cons hd10 .nil)) (.cons (.bl _) (.cons (.str _) .nil)))
    have lim4 : ∀ x ∈ [PyData.tuple [t], .list [t], .bool b, .str (Str.ofString (toString n))], limX (d + 2) (2 * L + 2) x := by
      have lm : ∀ x ∈ [t], limX (d + 1) (2 * L + 2) x := forall_cons (hl.mono (by omega) (by omega)) fun x hx => nomatch hx
      exact forall_cons (limX_mk (by simp only [List.length_cons, List.length_nil]; omega) lm) (forall_cons (limX_mkl (by simp only [List.length_cons, List.length_nil]; omega) lm) (forall_cons trivial (forall_cons (lim_str (int_str n)) fun x hx => nomatch hx)))
    refine r_lstN (small_len (by simp only [List.length_cons, List.length_nil]; omega)) fun l5 hl5 => ?_
    have len4 : [V.ref t3, .ref l2, .bl b, .str (Str.ofString (toString n))].length = 4 := rfl
    generalize [V.ref t3, .ref l2, .bl b, .str (Str.ofString (toString n))] = xs4 at four len4 ⊢
    generalize [PyData.tuple [t], .list [t], .bool b, .str (Str.ofString (toString n))] = ds4 at four lim4
    have s13 := same_new (o := .lst xs4) hl5
    have f13 : (upd H10 l5 (.lst xs4)) l5 = some (.lst xs4) := upd_same
    have s8d := s810.trans s13
    have four13 := four.same s13
    generalize upd H10 l5 (.lst xs4) = H13 at s13 f13 s8d four13 ⊢
    walk_at "z"
    refine r_catL (s8d _ _ f8) f13 (by omega) fun l6 hl6 => ?_
    have lx17 : (xs13 ++ xs4).length = 17 := by rw [List.length_append, len13, len4]
    have hx13 := (lit8.same s8d).app four13
    have lim17 : ∀ x ∈ ds13 ++ ds4, limX (d + 2) (2 * L + 2) x := fun x hx => (List.mem_append.mp hx).elim (lim13 x) (lim4 x)
    generalize xs13 ++ xs4 = xs17 at lx17 hx13 ⊢
    generalize ds13 ++ ds4 = ds17 at hx13 lim17
    have nl6 := new_ne (hP8.mono s8d) hl6
    have s14 := same_new (o := .lst xs17) hl6
    have hl14 : (upd H13 l6 (.lst xs17)) l6 = some (.lst xs17) := upd_same
    have hx14 := hx13.same s14
    have s114 := s18.trans (s8d.trans s14)
    have hP14 := hP1.mono s114
    generalize upd H13 l6 (.lst xs17) = H14 at hl14 hx14 s114 hP14 ⊢
    walk_at "zend"))
theorem log_small {n : Int} (h0 : 0 ≤ n) (h1 : n ≤ 100) : n.natAbs.log2 < 1920 := by
  have : n.natAbs < 2 ^ 7 := by omega
  rcases Nat.eq_zero_or_pos n.natAbs with h | h
  · rw [h]
    decide
  · have := (Nat.log2_lt (by omega)).mpr this
    omega
theorem ch_lt (c : Char) : c.toNat < 0x110000 := by
  rcases c.valid with h | h
  · exact Nat.lt_trans h (by decide)
  · exact h.2
theorem int_str (n : Int) : (Str.ofString (toString n)).cps.all (· < 0x110000) = true := by
  rw [Str.ofString_eq_toList]
  show ((toString n).toList.map Char.toNat).toArray.all _ = true
  rw [List.all_toArray, List.all_map, List.all_eq_true]
  intro c _
  exact decide_eq_true (ch_lt c)
end

set_option Elab.async false
set_option linter.all false
set_option maxRecDepth 100000
set_option maxHeartbeats 4000000
open PySem PySem.Spec PyProof.Rows L2 LamX RZ

section
variable {P : Program} {w : World} {K : PySem.W.Frag} {mg : Str → Option Value} {base : Heap}
end

set_option Elab.async false
set_option linter.all false
set_option maxRecDepth 100000
set_option maxHeartbeats 4000000
open PySem PySem.Spec PyProof.Rows L2 LamX RZ

abbrev s_is_number : Stmt := topS 257
theorem sc_is_number : FnScope ["value"] ["value"] (defScope s_is_number) := ⟨rfl, rfl, rfl, by decide +kernel, rfl, by decide +kernel, by decide +kernel⟩

abbrev s_are_ends : Stmt := topS 256
theorem sc_are_ends : FnScope ["graph", "s", "t", "n"] ["graph", "s", "t"] (defScope s_are_ends) := ⟨rfl, rfl, rfl, by decide +kernel, rfl, by decide +kernel, by decide +kernel⟩

abbrev s_is_question : Stmt := topS 255
theorem sc_is_question : FnScope ["graph", "value", "kind"] ["graph", "value"] (defScope s_is_question) := ⟨rfl, rfl, rfl, by decide +kernel, rfl, by decide +kernel, by decide +kernel⟩

def kds : List Str := ["connected", "bipartite", "forest", "block", "chordal", "interval", "cograph", "comparability", "permutation", "prime", "planar", "outerplanar", "degenerate", "indegree", "forests", "trees", "width", "colours", "independent", "matching", "linked", "isomorphic"]
def nks : List Str := ["degenerate", "indegree", "forests", "trees", "width", "colours", "independent", "matching"]
theorem inV_strs {x : Str} : ∀ ks : List Str, inV (.str x) (ks.map V.str) = decide (x ∈ ks)
  | [] => rfl
  | k :: ks => by
    have ih := inV_strs (x := x) ks
    unfold inV at ih ⊢
    rw [List.map_cons, List.any_cons, ih]
    apply Bool.eq_iff_iff.mpr
    rw [Bool.or_eq_true, decide_eq_true_eq, decide_eq_true_eq, List.mem_cons]
    have : eqV (.str k) (.str x) = true ↔ x = k := by
      show (k == x) = true ↔ x = k
      rw [beq_iff_eq]
      exact eq_comm
    rw [this]
theorem flat_strs : ∀ ks : List Str, (ks.map V.str).all flatV = true
  | [] => rfl
  | k :: ks => by
    rw [List.map_cons, List.all_cons, flat_strs ks]
    rfl
theorem r_inS {K : PySem.W.Frag} {H : Hp} {Q : VK} {m : Addr} {ks : List Str} {x : Str} (h : SqL K H m (ks.map V.str) ∨ SqT K H m (ks.map V.str)) (q : Q (.bl (decide (x ∈ ks))) H) : rIn K false (.str x) (.ref m) H Q := ⟨m, _, rfl, h, rfl, flat_strs ks, by
  rw [if_neg Bool.false_ne_true, inV_strs]
  exact q⟩
theorem r_ninS {K : PySem.W.Frag} {H : Hp} {Q : VK} {m : Addr} {ks : List Str} {x : Str} (h : SqL K H m (ks.map V.str) ∨ SqT K H m (ks.map V.str)) (q : Q (.bl (!decide (x ∈ ks))) H) : rIn K true (.str x) (.ref m) H Q := ⟨m, _, rfl, h, rfl, flat_strs ks, by
  rw [if_pos rfl, inV_strs]
  exact q⟩
theorem r_eqS {H : Hp} {Q : VK} {x y : Str} (q : Q (.bl (decide (x = y))) H) : rEq (.str x) (.str y) H Q := ⟨rfl, by
  have : decide (V.str x = V.str y) = decide (x = y) := by
    apply Bool.eq_iff_iff.mpr
    rw [decide_eq_true_eq, decide_eq_true_eq, V.str.injEq]
  rw [this]
  exact q⟩
def bodyX (n : Int) (w : Str) (ds : List PyData) : Prop :=
  w ∈ kds ∧ (if w = "linked" then ∃ s t k : Int, ds = [.int s, .int t, .int k] ∧ (0 ≤ s ∧ s < n) ∧ (0 ≤ t ∧ t < n) ∧ s ≠ t ∧ 0 ≤ k
    else if w = "isomorphic" then ∃ g, ds = [g] ∧ gphX g else if w ∈ nks then ∃ k : Int, ds = [.int k] ∧ 0 ≤ k else ds = [])
def qX (n : Int) (d : PyData) : Prop := ∃ (w : Str) (ds : List PyData), d = .tuple (.str w :: ds) ∧ bodyX n w ds
theorem qX_cons {n : Int} {w : Str} {ds : List PyData} : qX n (.tuple (.str w :: ds)) ↔ bodyX n w ds := by
  constructor
  · rintro ⟨w', ds', e, h⟩
    have e := PyData.tuple.inj e
    simp only [List.cons.injEq, PyData.str.injEq] at e
    rw [e.1, e.2]
    exact h
  · exact fun h => ⟨w, ds, rfl, h⟩
def strD : PyData → Bool
  | .str _ => true
  | _ => false
theorem kit_str (t : PyData) : kitB (kd t) "str" = some (strD t) := by
  cases t with
  | none => exact (show kitB "NoneType" "str" = some false by decide +kernel)
  | bool b => exact (show kitB "bool" "str" = some false by decide +kernel)
  | int b => exact (show kitB "int" "str" = some false by decide +kernel)
  | str b => exact (show kitB "str" "str" = some true by decide +kernel)
  | list b => exact (show kitB "list" "str" = some false by decide +kernel)
  | tuple b => exact (show kitB "tuple" "str" = some false by decide +kernel)
  | dict b => exact (show kitB "dict" "str" = some false by decide +kernel)
def numD : PyData → Bool
  | .int i => decide (i ≥ 0)
  | _ => false
section
variable {P : Program} {w : World} {K : PySem.W.Frag} {mg : Str → Option Value} {base : Heap}
def spNumX (b : Addr) : Sp := fun vs H Q _ => ∃ (v : V) (d : PyData), vs = [v] ∧ DX b H v d ∧ Q (.bl (numD d)) H
theorem ok_numX {b : Addr} (T : Blt mg) (D : DefAt K mg "_is_number" s_is_number ["value"]) (D_is_integer : DefAt K mg "is_integer" s_is_integer ["value"]) (G_is_integer : FnOk P w K mg base CX0 1 D_is_integer.f D_is_integer.fd ["value"] (spIntX b)) :
    FnOk P w K mg base CX0 2 D.f D.fd ["value"] (spNumX b) := by
  refine D.F.ok sc_is_number (fun vs H Q E h => ?_) (fun cdv A outer s H vs Q E hr h => ?_)
  · obtain ⟨v, d, rfl, _⟩ := h
    rfl
  · obtain ⟨v, d, rfl, hd, q⟩ := h
    refine ⟨_, (pss_one (ps_ret (pe_and (pe_call G_is_integer (hr.mono (by first | decide | omega)) (by rfl) D_is_integer.g D_is_integer.F.kp D_is_integer.b .nil pass0 (pa_cons (pv 0) pa_nil)) (pe_one (pe_cmpR op_ge (pv 0) pe_int (nomark _)))))), ?_⟩
    refine r_at (σ := [some _]) rfl ?_
    walk_at "z"
    refine ⟨v, d, rfl, hd, ?_⟩
    walk_at "z"
    cases d with
    | int i =>
      cases hd
      walk_at "z"
      refine iteT ?_
      walk_at "z"
      exact q
    | _ => exact iteF q
def endsD (n : Int) (s t : PyData) : Prop := ∃ i j : Int, s = .int i ∧ t = .int j ∧ (0 ≤ i ∧ i < n) ∧ (0 ≤ j ∧ j < n) ∧ i ≠ j
def spEndsX (b : Addr) : Sp := fun vs H Q _ => ∃ (g x y : V) (n : Int) (ps : List (Int × Int)) (s t : PyData), vs = [g, x, y] ∧ GrAt H g n ps ∧ DX b H x s ∧ DX b H y t ∧ ∀ r : Bool, (r = true ↔ endsD n s t) → Q (.bl r) H
theorem ver_of {n : Int} {d : PyData} (h : verD n d = true) : ∃ i, d = .int i ∧ 0 ≤ i ∧ i < n := by
  cases d with
  | int i => exact ⟨i, rfl, of_decide_eq_true h⟩
  | _ => exact absurd h Bool.false_ne_true
theorem ok_endsX {b : Addr} (T : Blt mg) (D : DefAt K mg "_are_ends" s_are_ends ["graph", "s", "t"]) (D_is_vertex : DefAt K mg "is_vertex" s_is_vertex ["n", "value"]) (G_is_vertex : FnOk P w K mg base CX0 2 D_is_vertex.f D_is_vertex.fd ["n", "value"] (spVxX b)) :
    FnOk P w K mg base CX0 3 D.f D.fd ["graph", "s", "t"] (spEndsX b) := by
  refine D.F.ok sc_are_ends (fun vs H Q E h => ?_) (fun cdv A outer s H vs Q E hr h => ?_)
  · obtain ⟨g, x, y, n, ps, s, t, rfl, _⟩ := h
    rfl
  · obtain ⟨g, x, y, n, ps, s, t, rfl, ⟨ga, e, rfl, hg, _⟩, hx, hy, q⟩ := h
    refine ⟨_, (pss_cons (ps_set (i := 3) sc_are_ends.nd rfl (Or.inl rfl) (pe_ix (ix_tupK (K := K) rfl) (pv 0) pe_int (fun _ _ => rfl)))
      (pss_one (ps_ret (pe_and (pe_call G_is_vertex (hr.mono (by first | decide | omega)) (by rfl) D_is_vertex.g D_is_vertex.F.kp D_is_vertex.b .nil pass0 (pa_cons (pv 3) (pa_cons (pv 1) pa_nil))) (pe_and (pe_call G_is_vertex (hr.mono (by first | decide | omega)) (by rfl) D_is_vertex.g D_is_vertex.F.kp D_is_vertex.b .nil pass0 (pa_cons (pv 3) (pa_cons (pv 2) pa_nil))) (pe_one (pe_cmpR op_ne (pv 1) (pv 2) (nomark _)))))))), ?_⟩
    refine r_at (σ := [some _, some _, some _, none]) rfl ?_
    walk_at "z"
    refine ⟨n, x, s, rfl, hx, ?_⟩
    cases e1 : verD n s with
    | false =>
      walk_at "z"
      refine q false ⟨fun h => (nomatch h), fun ⟨i, j, es, _, bi, _⟩ => ?_⟩
      rw [es] at e1
      exact (of_decide_eq_false e1 bi).elim
    | true =>
      obtain ⟨i, rfl, i0, i1⟩ := ver_of e1
      cases hx
      walk_at "z"
      refine ⟨n, y, t, rfl, hy, ?_⟩
      cases e2 : verD n t with
      | false =>
        walk_at "z"
        refine q false ⟨fun h => (nomatch h), fun ⟨i, j, _, et, _, bj, _⟩ => ?_⟩
        rw [et] at e2
        exact (of_decide_eq_false e2 bj).elim
      | true =>
        obtain ⟨j, rfl, j0, j1⟩ := ver_of e2
        cases hy
        walk_at "z"
        refine q _ ?_
        constructor
        · intro h
          exact ⟨i, j, rfl, rfl, ⟨i0, i1⟩, ⟨j0, j1⟩, fun z => by rw [z] at h; simp at h⟩
        · rintro ⟨i', j', e3, e4, _, _, ne⟩
          cases e3
          cases e4
          simp [ne]
def spQX (b : Addr) (TT : List (Addr × Str)) : Sp := fun vs H Q _ => ∃ (g v : V) (n : Int) (ps : List (Int × Int)) (d : PyData), vs = [g, v] ∧ GrAt H g n ps ∧ DX b H v d ∧ (∃ D, limX D 100000 d) ∧ Tabs TT H ∧ ∀ (r : Bool) H', ExtN H H' → Tabs TT H' → (r = true ↔ qX n d) → Q (.bl r) H'
theorem ok_isq {b aK aN : Addr} {TT : List (Addr × Str)} (T : Blt mg) (C_KINDS : mg "KINDS" = some (.ref aK)) (C_NUMBER_KINDS : mg "NUMBER_KINDS" = some (.ref aN)) (hK : ∀ H, SqT K H aK (kds.map V.str)) (hN : ∀ H, SqT K H aN (nks.map V.str)) (D : DefAt K mg "is_question" s_is_question ["graph", "value"])
    (D_is_tuple : DefAt K mg "is_tuple" s_is_tuple ["value", "many"]) (G_is_tuple : FnOk P w K mg base CX0 1 D_is_tuple.f D_is_tuple.fd ["value", "many"] (spTupX b)) (D_is_graph : DefAt K mg "is_graph" s_is_graph ["value"]) (G_is_graph : FnOk P w K mg base CX0 15 D_is_graph.f D_is_graph.fd ["value"] (spGphX b TT))
    (D_are_ends : DefAt K mg "_are_ends" s_are_ends ["graph", "s", "t"]) (G_are_ends : FnOk P w K mg base CX0 3 D_are_ends.f D_are_ends.fd ["graph", "s", "t"] (spEndsX b)) (D_is_number : DefAt K mg "_is_number" s_is_number ["value"]) (G_is_number : FnOk P w K mg base CX0 2 D_is_number.f D_is_number.fd ["value"] (spNumX b)) :
    FnOk P w K mg base CX0 16 D.f D.fd ["graph", "value"] (spQX b TT) := by
  refine D.F.ok sc_is_question (fun vs H Q E h => ?_) (fun cdv A outer s H vs Q E hr h => ?_)
  · obtain ⟨g, v, n, ps, d, rfl, _⟩ := h
    rfl
  · obtain ⟨g, v, n, ps, d, rfl, hgr, hd, ⟨DD, hl⟩, hT, q⟩ := h
    refine ⟨_, (pss_cons (ps_if (PW.pt (pw_or (pt_not (pt_val (pe_callB (call_isiK (K := K) rfl) (by rfl) T.isinstance (by decide +kernel) (pa_cons (pv 1) (pa_cons (pe_bltn (v := .ty "tuple") (u := .type "tuple") (by rfl) T.tuple (by decide +kernel) rfl) pa_nil))))) (pw_or1 (pt_cmpR (op_eqX (K := K) rfl hr.units) (pv 1) (pe_tup pa_nil) (nomark _)))))
        (pss_one (ps_ret pe_bl))
        pss_nil)
      (pss_cons (ps_set (i := 2) sc_is_question.nd rfl (Or.inl rfl) (pe_ix (ix_tupK (K := K) rfl) (pv 1) pe_int (fun _ _ => rfl)))
      (pss_cons (ps_if (PW.pt (pw_or (pt_not (pt_val (pe_callB (call_isiK (K := K) rfl) (by rfl) T.isinstance (by decide +kernel) (pa_cons (pv 2) (pa_cons (pe_bltn (v := .ty "str") (u := .type "str") (by rfl) T.str (by decide +kernel) rfl) pa_nil))))) (pw_or1 (pt_cmpR (op_ninSeqK (K := K) rfl) (pv 2) (pe_glob rfl C_KINDS rel_ref) (by rfl)))))
        (pss_one (ps_ret pe_bl))
        pss_nil)
      (pss_cons (ps_if (pt_cmpR op_eq (pv 2) pe_str (nomark _))
        (pss_one (ps_ret (pe_and (pe_call G_is_tuple (hr.mono (by first | decide | omega)) (by rfl) D_is_tuple.g D_is_tuple.F.kp D_is_tuple.b .nil pass0 (pa_cons (pv 1) (pa_cons pe_int pa_nil))) (pe_and (pe_call G_are_ends (hr.mono (by first | decide | omega)) (by rfl) D_are_ends.g D_are_ends.F.kp D_are_ends.b .nil pass0 (pa_cons (pv 0) (pa_cons (pe_ix (ix_tupK (K := K) rfl) (pv 1) pe_int (fun _ _ => rfl)) (pa_cons (pe_ix (ix_tupK (K := K) rfl) (pv 1) pe_int (fun _ _ => rfl)) pa_nil)))) (pe_one (pe_call G_is_number (hr.mono (by first | decide | omega)) (by rfl) D_is_number.g D_is_number.F.kp D_is_number.b .nil pass0 (pa_cons (pe_ix (ix_tupK (K := K) rfl) (pv 1) pe_int (fun _ _ => rfl)) pa_nil)))))))
        pss_nil)
      (pss_cons (ps_if (pt_cmpR op_eq (pv 2) pe_str (nomark _))
        (pss_one (ps_ret (pe_and (pe_call G_is_tuple (hr.mono (by first | decide | omega)) (by rfl) D_is_tuple.g D_is_tuple.F.kp D_is_tuple.b .nil pass0 (pa_cons (pv 1) (pa_cons pe_int pa_nil))) (pe_one (pe_call G_is_graph (hr.mono (by first | decide | omega)) (by rfl) D_is_graph.g D_is_graph.F.kp D_is_graph.b .nil pass0 (pa_cons (pe_ix (ix_tupK (K := K) rfl) (pv 1) pe_int (fun _ _ => rfl)) pa_nil))))))
        pss_nil)
      (pss_cons (ps_if (pt_cmpR (op_inSeqK (K := K) rfl) (pv 2) (pe_glob rfl C_NUMBER_KINDS rel_ref) (by rfl))
        (pss_one (ps_ret (pe_and (pe_call G_is_tuple (hr.mono (by first | decide | omega)) (by rfl) D_is_tuple.g D_is_tuple.F.kp D_is_tuple.b .nil pass0 (pa_cons (pv 1) (pa_cons pe_int pa_nil))) (pe_one (pe_call G_is_number (hr.mono (by first | decide | omega)) (by rfl) D_is_number.g D_is_number.F.kp D_is_number.b .nil pass0 (pa_cons (pe_ix (ix_tupK (K := K) rfl) (pv 1) pe_int (fun _ _ => rfl)) pa_nil))))))
        pss_nil)
      (pss_one (ps_ret (pe_call G_is_tuple (hr.mono (by first | decide | omega)) (by rfl) D_is_tuple.g D_is_tuple.F.kp D_is_tuple.b .nil pass0 (pa_cons (pv 1) (pa_cons pe_int pa_nil))))))))))), ?_⟩
    refine r_at (σ := [some _, some _, none]) rfl ?_
    walk_at "z"
    refine r_isiX hd rfl (kit_tup d) ?_
    cases et : tupD d with
    | false =>
      walk_at "z"
      refine iteT (iteT ?_)
      walk_at "z"
      refine q false H (.refl H) hT ⟨fun h => (nomatch h), fun ⟨w, ds, e, _⟩ => ?_⟩
      rw [e] at et
      cases et
    | true =>
      obtain ⟨ds, rfl⟩ := tupD_of et
      cases id hd with
      | @tup p xs _ hp hxd =>
      walk_at "z"
      refine iteF ?_
      walk_at "z"
      refine r_tupN (by decide) fun e1 he1 => ?_
      have s1 := same_new (o := .tup []) he1
      have f1 : (upd H e1 (.tup [])) e1 = some (.tup []) := upd_same
      generalize upd H e1 (.tup []) = H1 at s1 f1 ⊢
      have x1 := ext_same s1
      have T1 := hT.ext s1
      have gr1 := hgr.tk (.of_same s1)
      have hd1 := hd.same s1
      have hp1 := hp.same s1
      have hxd1 := hxd.same s1
      refine r_eqTE (.inl hp1) (.inl (.inl f1)) ?_
      cases hxd1 with
      | nil =>
        rw [show ([] : List V).isEmpty = true from rfl]
        walk_at "z"
        refine q false H1 x1 T1 ⟨fun h => (nomatch h), fun ⟨w, ds, e, _⟩ => ?_⟩
        cases e
      | @cons x0 xs' d0 ds' h0 hrest =>
        have hq : SqT K H1 p (x0 :: xs') := .inl hp1
        rw [show (x0 :: xs').isEmpty = false from rfl]
        walk_at "z"
        refine r_isiX h0 rfl (kit_str d0) ?_
        cases es : strD d0 with
        | false =>
          walk_at "z"
          refine iteT (iteT ?_)
          walk_at "z"
          refine q false H1 x1 T1 ⟨fun h => (nomatch h), fun ⟨w, ds, e, _⟩ => ?_⟩
          have e := PyData.tuple.inj e
          simp only [List.cons.injEq] at e
          rw [e.1] at es
          cases es
        | true =>
          obtain ⟨w, rfl⟩ : ∃ w, d0 = .str w := by
            cases d0 with
            | str w => exact ⟨w, rfl⟩
            | _ => exact absurd es Bool.false_ne_true
          cases h0
          walk_at "z"
          refine iteF ?_
          walk_at "z"
          refine r_ninS (.inr (hK _)) ?_
          walk_at "z"
          have lenT : ∀ m : Int, lenD m (.tuple (.str w :: ds')) = decide (((ds'.length : Int) + 1) = m) := fun m => by
            show decide ((((PyData.str w :: ds').length : Nat) : Int) = m) = _
            rw [List.length_cons]
            rfl
          have no : ∀ H', ExtN H H' → Tabs TT H' → ¬ bodyX n w ds' → Q (.bl false) H' := fun H' e' T' h => q false H' e' T' ⟨fun h => (nomatch h), fun h' => (h (qX_cons.mp h')).elim⟩
          by_cases wk : w ∈ kds
          · rw [decide_eq_true wk]
            refine iteF ?_
            walk_at "z"
            refine r_eqS ?_
            walk_at "z"
            by_cases wl : w = "linked"
            · rw [decide_eq_true wl]
              refine iteT ?_
              walk_at "z"
              refine ⟨.ref p, _, 4, rfl, hd1, ?_⟩
              rw [lenT]
              by_cases l4 : ds'.length = 3
              · rw [decide_eq_true (show (ds'.length : Int) + 1 = 4 by omega)]
                match ds', l4, hrest, no, q with
                | [a1, a2, a3], _, hrest, no, q =>
                cases hrest with
                | @cons y1 _ _ _ h1 hr1 =>
                cases hr1 with
                | @cons y2 _ _ _ h2 hr2 =>
                cases hr2 with
                | @cons y3 _ _ _ h3 hr3 =>
                cases hr3
                walk_at "z"
                refine ⟨g, y1, y2, n, ps, a1, a2, rfl, gr1, h1, h2, fun r hr2 => ?_⟩
                cases r with
                | false =>
                  walk_at "z"
                  refine no H1 x1 T1 fun ⟨_, h⟩ => ?_
                  rw [if_pos wl] at h
                  obtain ⟨s, t, k, e, bs, bt, ne, _⟩ := h
                  simp only [List.cons.injEq, and_true] at e
                  have := hr2.mpr ⟨s, t, e.1, e.2.1, bs, bt, ne⟩
                  cases this
                | true =>
                  obtain ⟨s, t, rfl, rfl, bs, bt, ne⟩ := hr2.mp rfl
                  walk_at "z"
                  refine ⟨y3, a3, rfl, h3, ?_⟩
                  refine q _ H1 x1 T1 ?_
                  rw [qX_cons]
                  unfold bodyX
                  rw [if_pos wl]
                  constructor
                  · intro h
                    obtain ⟨k, rfl, k0⟩ : ∃ k, a3 = .int k ∧ 0 ≤ k := by
                      cases a3 with
                      | int k => exact ⟨k, rfl, of_decide_eq_true h⟩
                      | _ => exact absurd h Bool.false_ne_true
                    exact ⟨wk, s, t, k, rfl, bs, bt, ne, k0⟩
                  · rintro ⟨_, s', t', k, e, _, _, _, k0⟩
                    simp only [List.cons.injEq, and_true] at e
                    rw [e.2.2]
                    exact decide_eq_true k0
              · rw [decide_eq_false (show ¬ (ds'.length : Int) + 1 = 4 by omega)]
                walk_at "z"
                refine no H1 x1 T1 fun ⟨_, h⟩ => ?_
                rw [if_pos wl] at h
                obtain ⟨s, t, k, e, _⟩ := h
                rw [e] at l4
                exact l4 rfl
            · rw [decide_eq_false wl]
              refine iteF ?_
              walk_at "z"
              refine r_eqS ?_
              walk_at "z"
              by_cases wi : w = "isomorphic"
              · rw [decide_eq_true wi]
                refine iteT ?_
                walk_at "z"
                refine ⟨.ref p, _, 2, rfl, hd1, ?_⟩
                rw [lenT]
                by_cases l2 : ds'.length = 1
                · rw [decide_eq_true (show (ds'.length : Int) + 1 = 2 by omega)]
                  match ds', l2, hrest, no, q, hl with
                  | [a1], _, hrest, no, q, hl =>
                  cases hrest with
                  | @cons y1 _ _ _ h1 hr1 =>
                  cases hr1
                  obtain ⟨D1, _, _, lim1⟩ := limX_tup hl
                  walk_at "z"
                  refine ⟨y1, a1, rfl, h1, ⟨_, lim1 a1 (by simp)⟩, T1, fun r H2 e2 T2 hr2 => ?_⟩
                  refine q r H2 (x1.trans e2) T2 (hr2.trans ?_)
                  rw [qX_cons]
                  unfold bodyX
                  rw [if_neg wl, if_pos wi]
                  constructor
                  · exact fun h => ⟨wk, a1, rfl, h⟩
                  · rintro ⟨_, g', e, h⟩
                    simp only [List.cons.injEq, and_true] at e
                    rw [e]
                    exact h
                · rw [decide_eq_false (show ¬ (ds'.length : Int) + 1 = 2 by omega)]
                  walk_at "z"
                  refine no H1 x1 T1 fun ⟨_, h⟩ => ?_
                  rw [if_neg wl, if_pos wi] at h
                  obtain ⟨g', e, _⟩ := h
                  rw [e] at l2
                  exact l2 rfl
              · rw [decide_eq_false wi]
                refine iteF ?_
                walk_at "z"
                refine r_inS (.inr (hN _)) ?_
                walk_at "z"
                by_cases wn : w ∈ nks
                · rw [decide_eq_true wn]
                  refine iteT ?_
                  walk_at "z"
                  refine ⟨.ref p, _, 2, rfl, hd1, ?_⟩
                  rw [lenT]
                  by_cases l2 : ds'.length = 1
                  · rw [decide_eq_true (show (ds'.length : Int) + 1 = 2 by omega)]
                    match ds', l2, hrest, no, q with
                    | [a1], _, hrest, no, q =>
                    cases hrest with
                    | @cons y1 _ _ _ h1 hr1 =>
                    cases hr1
                    walk_at "z"
                    refine ⟨y1, a1, rfl, h1, ?_⟩
                    refine q _ H1 x1 T1 ?_
                    rw [qX_cons]
                    unfold bodyX
                    rw [if_neg wl, if_neg wi, if_pos wn]
                    constructor
                    · intro h
                      obtain ⟨k, rfl, k0⟩ : ∃ k, a1 = .int k ∧ 0 ≤ k := by
                        cases a1 with
                        | int k => exact ⟨k, rfl, of_decide_eq_true h⟩
                        | _ => exact absurd h Bool.false_ne_true
                      exact ⟨wk, k, rfl, k0⟩
                    · rintro ⟨_, k, e, k0⟩
                      simp only [List.cons.injEq, and_true] at e
                      rw [e]
                      exact decide_eq_true k0
                  · rw [decide_eq_false (show ¬ (ds'.length : Int) + 1 = 2 by omega)]
                    walk_at "z"
                    refine no H1 x1 T1 fun ⟨_, h⟩ => ?_
                    rw [if_neg wl, if_neg wi, if_pos wn] at h
                    obtain ⟨k, e, _⟩ := h
                    rw [e] at l2
                    exact l2 rfl
                · rw [decide_eq_false wn]
                  refine iteF ?_
                  walk_at "z"
                  refine ⟨.ref p, _, 1, rfl, hd1, ?_⟩
                  refine q _ H1 x1 T1 ?_
                  rw [lenT, qX_cons, decide_eq_true_eq]
                  unfold bodyX
                  rw [if_neg wl, if_neg wi, if_neg wn]
                  constructor
                  · exact fun h => ⟨wk, List.length_eq_zero_iff.mp (by omega)⟩
                  · rintro ⟨_, e⟩
                    rw [e]
                    rfl
          · rw [decide_eq_false wk]
            refine iteT ?_
            walk_at "z"
            exact no H1 x1 T1 fun h => wk h.1
end

set_option Elab.async false
set_option linter.all false
set_option maxRecDepth 100000
set_option maxHeartbeats 4000000
open PySem PySem.Spec PyProof.Rows L2
/-! graphs and pairs as data -/
section
variable {K : PySem.W.Frag} {H : Hp} {Q : VK}
end

set_option Elab.async false
set_option linter.all false
set_option maxRecDepth 100000
set_option maxHeartbeats 4000000
open PySem PySem.Spec PyProof.Rows L2

section
variable {P : Program} {w : World} {K : PySem.W.Frag} {mg : Str → Option Value} {base : Heap}
/-- which pairs are among these, either way round -/
def isE (es : List (Int × Int)) (p : Int × Int) : Bool := decide (p ∈ es) || decide ((p.2, p.1) ∈ es)
end

set_option Elab.async false
set_option linter.all false
set_option maxRecDepth 100000
set_option maxHeartbeats 4000000
open PySem PySem.Spec PyProof.Rows L2 LamX

abbrev s_has : Stmt := topS 33
theorem sc_has : FnScope ["mask", "v"] ["mask", "v"] (defScope s_has) := ⟨rfl, rfl, rfl, by decide +kernel, rfl, by decide +kernel, by decide +kernel⟩

theorem shr_bit {x v : Int} {S : Int → Prop} (m : Msk x S) (hv : 0 ≤ v) : Builtin.bitAnd (x / 2 ^ v.toNat) 1 = 1 ↔ S v := by
  have e1 : x / 2 ^ v.toNat = ((x.toNat / 2 ^ v.toNat : Nat) : Int) := by
    have : x = ((x.toNat : Nat) : Int) := by have := m.nn; omega
    rw [this, Int.toNat_natCast]
    have e : ((2 : Int) ^ v.toNat) = ((2 ^ v.toNat : Nat) : Int) := by simp
    rw [e, ← Int.natCast_ediv]
  have n1 : 0 ≤ x / 2 ^ v.toNat := by
    rw [e1]
    exact Int.natCast_nonneg _
  rw [bitAnd_pp n1 (by decide), e1, Int.toNat_natCast]
  have b := m.bits v.toNat
  rw [show ((v.toNat : Nat) : Int) = v by omega] at b
  rw [← b, Nat.testBit_eq_decide_div_mod_eq, decide_eq_true_eq]
  show (((x.toNat / 2 ^ v.toNat) &&& 1 : Nat) : Int) = 1 ↔ _
  rw [Nat.and_one_is_mod]
  omega
section
variable {P : Program} {w : World} {K : PySem.W.Frag} {mg : Str → Option Value} {base : Heap}
def spHas : Sp := fun vs H Q _ => ∃ (x v : Int) (S : Int → Prop), vs = [.int x, .int v] ∧ Msk x S ∧ 0 ≤ v ∧ v < 1000 ∧ ∀ b : Bool, (b = true ↔ S v) → Q (.bl b) H
theorem ok_has (T : Blt mg) (D : DefAt K mg "has" s_has ["mask", "v"]) : FnOk P w K mg base CX0 1 D.f D.fd ["mask", "v"] spHas := by
  refine D.F.ok sc_has (fun vs H Q E h => ?_) (fun cdv A outer s H vs Q E hr h => ?_)
  · obtain ⟨x, v, S, rfl, _⟩ := h
    rfl
  · obtain ⟨x, v, S, rfl, m, v0, v1, q⟩ := h
    refine ⟨_, (pss_one (ps_ret (pe_cmpR op_eq (pe_op op_and (pe_op op_shr (pv 0) (pv 1)) pe_int) pe_int (nomark _)))), ?_⟩
    refine r_at (σ := [some _, some _]) rfl ?_
    walk_at "z"
    exact q _ (decide_eq_true_iff.trans (shr_bit m v0))
end

set_option Elab.async false
set_option linter.all false
set_option maxRecDepth 100000
set_option maxHeartbeats 4000000
open PySem PySem.Spec PyProof.Rows L2 LamX RZ

abbrev s_is_row : Stmt := topS 10
theorem sc_is_row : FnScope ["n", "value"] ["n", "value"] (defScope s_is_row) := ⟨rfl, rfl, rfl, by decide +kernel, rfl, by decide +kernel, by decide +kernel⟩

abbrev s_are_steps : Stmt := topS 63
theorem sc_are_steps : FnScope ["graph", "starts", "ends", "around", "u", "v"] ["graph", "starts", "ends"] (defScope s_are_steps) := ⟨rfl, rfl, rfl, by decide +kernel, rfl, by decide +kernel, by decide +kernel⟩

abbrev s_is_cycle : Stmt := topS 62
theorem sc_is_cycle : FnScope ["graph", "value"] ["graph", "value"] (defScope s_is_cycle) := ⟨rfl, rfl, rfl, by decide +kernel, rfl, by decide +kernel, by decide +kernel⟩

def rowD (n : Int) : PyData → Bool
  | .tuple ds => ds.all (verD n) && decide ((ds.map fun d => match d with | .int i => i | _ => 0).Nodup)
  | _ => false
theorem rowD_ints {n : Int} {ns : List Int} : rowD n (.tuple (ns.map PyData.int)) = (decide (∀ z ∈ ns, 0 ≤ z ∧ z < n) && decide ns.Nodup) := by
  have h := versD_ints (n := n) (ns := ns)
  show ((ns.map PyData.int).all (verD n) && decide (((ns.map PyData.int).map fun d => match d with | .int i => i | _ => 0).Nodup)) = _
  rw [show (ns.map PyData.int).all (verD n) = versD n (.tuple (ns.map PyData.int)) from rfl, h, List.map_map]
  have e : (ns.map ((fun d => match d with | .int i => i | _ => 0) ∘ PyData.int)) = ns := by
    rw [show ((fun d => match d with | PyData.int i => i | _ => 0) ∘ PyData.int : Int → Int) = id from rfl, List.map_id]
  rw [e]
theorem rowD_of {n : Int} {d : PyData} (h : rowD n d = true) : ∃ ns : List Int, d = .tuple (ns.map PyData.int) ∧ (∀ z ∈ ns, 0 ≤ z ∧ z < n) ∧ ns.Nodup := by
  cases d with
  | tuple ds =>
    have h1 : versD n (.tuple ds) = true := by
      have h : (ds.all (verD n) && _) = true := h
      rw [Bool.and_eq_true] at h
      exact h.1
    obtain ⟨ns, e, b⟩ := versD_of h1
    rw [e, rowD_ints, Bool.and_eq_true, decide_eq_true_eq, decide_eq_true_eq] at h
    exact ⟨ns, e, b, h.2⟩
  | _ => exact absurd h Bool.false_ne_true
/-- each item of us is joined to that of vs at its place -/
def stE (ps : List (Int × Int)) (us vs : List Int) : Prop := ∀ (i : Nat) x y, us[i]? = some x → vs[i]? = some y → isE ps (x, y) = true
def cycP (n : Int) (ps : List (Int × Int)) (d : PyData) : Prop := ∃ ns : List Int, d = .tuple (ns.map PyData.int) ∧ (∀ z ∈ ns, 0 ≤ z ∧ z < n) ∧ ns.Nodup ∧ 3 ≤ ns.length ∧ stE ps ns (ns.drop 1 ++ ns.take 1)
theorem isE_adj {ps : List (Int × Int)} {u v : Int} (h : 0 ≤ u) : isE ps (u, v) = true ↔ v ∈ adjL ps u.toNat := by
  rw [mem_adjL]
  unfold isE
  rw [Bool.or_eq_true, decide_eq_true_eq, decide_eq_true_eq, show ((u.toNat : Nat) : Int) = u by omega]
section
variable {P : Program} {w : World} {K : PySem.W.Frag} {mg : Str → Option Value} {base : Heap}
theorem tup_ext {H H' : Hp} (x : ExtN H H') {p : Addr} {xs : List V} (h : SqT K H p xs) : SqT K H' p xs := by
  rcases h with (h | ⟨o, h⟩) | h
  · exact .inl (.inl (ext_tup x h))
  · exact .inl (.inr ⟨o, x _ _ h (fun ps z => nomatch z)⟩)
  · exact .inr h
def spIsRow (bb : Addr) (TT : List (Addr × Str)) : Sp := fun vs H Q _ => ∃ (n : Int) (v : V) (d : PyData), vs = [.int n, v] ∧ DX bb H v d ∧ n ≤ 100 ∧ (∀ ds, d = .tuple ds → ds.length ≤ 1000) ∧ Tabs TT H ∧ ∀ H', ExtN H H' → Tabs TT H' → Q (.bl (rowD n d)) H'
theorem ok_isRow {bb : Addr} {TT : List (Addr × Str)} (T : Blt mg) (z_set : mg "set" = none) (D : DefAt K mg "is_row" s_is_row ["n", "value"]) (D_are_vertices : DefAt K mg "are_vertices" s_are_vertices ["n", "value"]) (G_are_vertices : FnOk P w K mg base CX0 7 D_are_vertices.f D_are_vertices.fd ["n", "value"] (spVsX bb TT)) :
    FnOk P w K mg base CX0 8 D.f D.fd ["n", "value"] (spIsRow bb TT) := by
  refine D.F.ok sc_is_row (fun vs H Q E h => ?_) (fun cdv A outer s H vs Q E hr h => ?_)
  · obtain ⟨n, v, d, rfl, _⟩ := h
    rfl
  · obtain ⟨n, v, d, rfl, hd, n1, len, hT, q⟩ := h
    refine ⟨_, (pss_one (ps_ret (pe_and (pe_call G_are_vertices (hr.mono (by first | decide | omega)) (by rfl) D_are_vertices.g D_are_vertices.F.kp D_are_vertices.b .nil pass0 (pa_cons (pv 0) (pa_cons (pv 1) pa_nil))) (pe_one (pe_cmpR op_eq (pe_callB (call_lenSet (w := w) rfl) (by rfl) T.len (by decide +kernel) (pa_cons (pe_callTy (cr_setTI (K := K) (w := w) rfl rfl rfl) (by rfl) z_set (by decide +kernel) (pa_cons (pv 1) pa_nil)) pa_nil)) (pe_callB (call_lenK (K := K) rfl) (by rfl) T.len (by decide +kernel) (pa_cons (pv 1) pa_nil)) (nomark _)))))), ?_⟩
    refine r_at (σ := [some _, some _]) rfl ?_
    walk_at "z"
    refine ⟨n, v, d, rfl, hd, hT, fun H1 e1 T1 => ?_⟩
    cases e : versD n d with
    | false =>
      have e2 : rowD n d = false := by
        cases c : rowD n d with
        | false => rfl
        | true =>
          obtain ⟨ns, rfl, b, _⟩ := rowD_of c
          rw [versD_ints, decide_eq_true b] at e
          cases e
      walk_at "z"
      rw [← e2]
      exact q H1 e1 T1
    | true =>
      obtain ⟨ns, rfl, b⟩ := versD_of e
      have ln : ns.length ≤ 1000 := by
        have := len _ rfl
        rwa [List.length_map] at this
      cases hd.ext e1 with
      | @tup a xs _ hxs hxd =>
      rw [dx_ints hxd] at hxs
      have hxs : SqT K H1 a (ns.map V.int) := .inl hxs
      walk_at "z"
      refine r_setTI hxs ln fun p ks hp nd mem => ?_
      have eN : ExtN H1 (upd H1 p (SetO w p (fun j => decide (j ∈ ns)) ks.length)) := ext_same (same_new hp)
      have T2 := tabs_same T1 (same_new (o := SetO w p (fun j => decide (j ∈ ns)) ks.length) hp)
      have hx2 := tup_ext eN hxs
      have hp2 : (upd H1 p (SetO w p (fun j => decide (j ∈ ns)) ks.length)) p = some (SetO w p (fun j => decide (j ∈ ns)) ks.length) := upd_same
      generalize upd H1 p (SetO w p (fun j => decide (j ∈ ns)) ks.length) = H2 at eN T2 hx2 hp2 ⊢
      walk_at "z"
      refine r_lenSet hp2 ?_
      walk_at "z"
      have := q _ (e1.trans eN) T2
      rw [rowD_ints, decide_eq_true b, Bool.true_and] at this
      have ee : decide ((ks.length : Int) = ((ns.map V.int).length : Int)) = decide ns.Nodup := by
        rw [List.length_map]
        have := nodup_len nd mem
        apply Bool.eq_iff_iff.mpr
        rw [decide_eq_true_eq, decide_eq_true_eq]
        exact ⟨fun h => this.mp (by omega), fun h => by have := this.mpr h; omega⟩
      rw [← ee] at this
      exact this
def spAreSteps (K : PySem.W.Frag) : Sp := fun vs H Q _ => ∃ (g : V) (n : Nat) (ps : List (Int × Int)) (a b : Addr) (us ws : List Int), vs = [g, .ref a, .ref b] ∧ GrAt H g (n : Int) ps ∧ n ≤ 60 ∧ ps.length ≤ 10000 ∧ (∀ p ∈ ps, 0 ≤ p.1 ∧ p.1 < p.2 ∧ p.2 < (n : Int)) ∧ SqT K H a (us.map V.int) ∧ SqT K H b (ws.map V.int) ∧ us.length = ws.length ∧ us.length ≤ 1000 ∧ (∀ z ∈ us, 0 ≤ z ∧ z < (n : Int)) ∧ (∀ z ∈ ws, 0 ≤ z ∧ z < (n : Int)) ∧
  ∀ (b : Bool) (H' : Hp), Same H H' → (b = true ↔ stE ps us ws) → Q (.bl b) H'
theorem sqT_sm {H H' : Hp} (s : Same H H') {a : Addr} {xs : List V} (h : SqT K H a xs) : SqT K H' a xs := h.elim (fun h => .inl (h.elim (fun h => .inl (s _ _ h)) fun ⟨b, h⟩ => .inr ⟨b, s _ _ h⟩)) .inr
theorem ok_areSteps (T : Blt mg) (z_all : mg "all" = none) (z_zip : mg "zip" = none) (D : DefAt K mg "_are_steps" s_are_steps ["graph", "starts", "ends"]) (D_neighbour_masks : DefAt K mg "neighbour_masks" s_neighbour_masks ["graph"]) (G_neighbour_masks : FnOk P w K mg base CX0 2 D_neighbour_masks.f D_neighbour_masks.fd ["graph"] spNMasks)
    (D_has : DefAt K mg "has" s_has ["mask", "v"]) (G_has : FnOk P w K mg base CX0 1 D_has.f D_has.fd ["mask", "v"] spHas) : FnOk P w K mg base CX0 4 D.f D.fd ["graph", "starts", "ends"] (spAreSteps K) := by
  refine D.F.ok sc_are_steps (fun vs H Q E h => ?_) (fun cdv A outer s H vs Q E hr h => ?_)
  · obtain ⟨g, n, ps, a, b, us, ws, rfl, _⟩ := h
    rfl
  · obtain ⟨g, n, ps, a, b, us, ws, rfl, hgr, n60, hlen, inn, ha, hb, hl, ul, ub, wb, q⟩ := h
    refine ⟨_, (pss_cons (ps_set (i := 3) sc_are_steps.nd rfl (Or.inr rfl) (pe_call G_neighbour_masks (hr.mono (by first | decide | omega)) (by rfl) D_neighbour_masks.g D_neighbour_masks.F.kp D_neighbour_masks.b .nil pass0 (pa_cons (pv 0) pa_nil)))
      (pss_one (ps_ret (pe_callB (cr_allK (K := K) rfl rfl) (by rfl) z_all (by decide +kernel) (pa_cons (pe_lc (own := [("u", 4), ("v", 5)]) (by rfl) sc_are_steps.nd (PI.zipAK (K := K) rfl (pi_zipA (by rfl) z_zip (pa_cons (pv 1) (pa_cons (pv 2) pa_nil)))) (blkOk_by (own := [("u", 4), ("v", 5)]) (N := ["graph", "starts", "ends", "around", "u", "v"]) (sc := (defScope s_are_steps)) (by decide +kernel)) (fun _ _ _ _ _ => (PG.tupK (K := K) rfl (pg_tup (n := 2) rfl (pgs_cons (pg_name (i := 4) sc_are_steps.nd rfl (Or.inl rfl)) (pgs_cons (pg_name (i := 5) sc_are_steps.nd rfl (Or.inl rfl)) pgs_nil))))) (fun _ _ _ _ _ => pts_nil) (fun _ _ _ _ _ => (pe_call G_has (hr.mono (by first | decide | omega)) (by rfl) D_has.g D_has.F.kp D_has.b .nil pass0 (pa_cons (pe_ix (ix_listK (K := K) rfl) (pv 3) (pv 4) (fun _ _ => rfl)) (pa_cons (pv 5) pa_nil))))) pa_nil))))), ?_⟩
    refine r_at (σ := [some _, some _, some _, none, none, none]) rfl ?_
    walk_at "z"
    refine ⟨g, n, ps, rfl, hgr, by omega, hlen, inn, fun l ms H1 s1 hms lm mk => ?_⟩
    have ha1 := sqT_sm s1 ha
    have hb1 := sqT_sm s1 hb
    walk_at "z"
    refine r_zipT ha1 hb1 fun d hd => lcR_zipT (xs := us.map V.int) (ys := ws.map V.int) (by rw [List.length_map, List.length_map, hl]) (fun i H' => Same H1 H' ∧ ∃ bs : List Bool, H' d = some (.lst (bs.map V.bl)) ∧ bs.length = i ∧ (bs.all id = true ↔ stE ps (us.take i) (ws.take i))) (by walk_at "zw") ⟨same_new hd, [], upd_same, rfl, ⟨fun _ j x y h => by simp at h, fun _ => rfl⟩⟩ (fun i H' ⟨s2, _⟩ => ⟨sqT_sm s2 ha1, sqT_sm s2 hb1⟩) ?_ ?_
    · rintro i x y tt H' hx hy ⟨s2, bs, hB, lb, hit⟩ htt
      rw [List.getElem?_map] at hx hy
      obtain ⟨u, hu, rfl⟩ := Option.map_eq_some_iff.mp hx
      obtain ⟨v, hv, rfl⟩ := Option.map_eq_some_iff.mp hy
      have il := (List.getElem?_eq_some_iff.mp hu).1
      have u0 := ub u (List.mem_of_getElem? hu)
      have v0 := wb v (List.mem_of_getElem? hv)
      have s3 : Same H1 (upd H' tt (.tup [.int u, .int v])) := s2.trans (same_new htt)
      have hB3 : (upd H' tt (.tup [.int u, .int v])) d = some (.lst (bs.map V.bl)) := same_new htt _ _ hB
      have ht3 : (upd H' tt (.tup [.int u, .int v])) tt = some (.tup [.int u, .int v]) := upd_same
      generalize upd H' tt (.tup [.int u, .int v]) = H3 at s3 hB3 ht3 ⊢
      obtain ⟨m, hm⟩ : ∃ m, ms[u.toNat]? = some m := ⟨_, List.getElem?_eq_getElem (by omega)⟩
      walk_at "z"
      refine r_gtup (.inl (.inl ht3)) rfl ?_
      walk_at "z"
      refine ⟨rfl, ?_⟩
      walk_at "z"
      refine r_ixL (.inl (.inl (s3 _ _ hms))) (at_of (j := u.toNat) (by omega) (by rw [List.getElem?_map, hm]; rfl)) ?_
      walk_at "z"
      refine ⟨m, v, _, rfl, mk _ _ hm, v0.1, by omega, fun c hc => ?_⟩
      refine r_lce hB3 (small_lt (by rw [List.length_map]; omega)) ⟨same_mut s3 hd, bs ++ [c], by rw [List.map_append]; exact upd_same, by rw [List.length_append, lb]; rfl, ?_⟩
      rw [List.all_append, Bool.and_eq_true, hit, take_next hu, take_next hv]
      simp only [List.all_cons, List.all_nil, Bool.and_true, id]
      rw [hc, ← isE_adj u0.1]
      have lu : (us.take i).length = i := by rw [List.length_take]; omega
      have lw : (ws.take i).length = i := by rw [List.length_take]; omega
      constructor
      · rintro ⟨h1, h2⟩ j x y hx hy
        rcases Nat.lt_or_ge j i with c | c
        · rw [List.getElem?_append_left (by omega)] at hx hy
          exact h1 j x y hx hy
        · rw [List.getElem?_append_right (by omega), lu] at hx
          rw [List.getElem?_append_right (by omega), lw] at hy
          have : j - i = 0 := by
            have := (List.getElem?_eq_some_iff.mp hx).1
            simp only [List.length_cons, List.length_nil] at this
            omega
          rw [this] at hx hy
          cases hx
          cases hy
          exact h2
      · intro h
        refine ⟨fun j x y hx hy => h j x y ?_ ?_, h i u v ?_ ?_⟩
        · rw [List.getElem?_append_left (List.getElem?_eq_some_iff.mp hx).1]
          exact hx
        · rw [List.getElem?_append_left (List.getElem?_eq_some_iff.mp hy).1]
          exact hy
        · rw [List.getElem?_append_right (by omega), lu, Nat.sub_self]
          rfl
        · rw [List.getElem?_append_right (by omega), lw, Nat.sub_self]
          rfl
    · rintro H' ⟨s2, bs, hB, lb, hit⟩
      rw [List.length_map, List.take_length, hl, List.take_length] at hit
      walk_at "z"
      refine r_all hB ?_
      exact q _ H' (s1.trans s2) hit
theorem gr_ext {H H' : Hp} (x : ExtN H H') {g : V} {n : Int} {ps : List (Int × Int)} (h : GrAt H g n ps) : GrAt H' g n ps := by
  obtain ⟨ga, e, rfl, hg, xs, he, hp⟩ := h
  exact ⟨ga, e, rfl, ext_tup x hg, xs, ext_tup x he, hp.tk (ext_tk x)⟩
theorem r_catAS {H : Hp} {Q : VK} {l b : Addr} {xs zs : List V} (h1 : SqT K H l xs) (h2 : SqT K H b zs) (hz : xs.length + zs.length ≤ 100000) (q : ∀ p H', Same H H' → SqT K H' p (xs ++ zs) → Q (.ref p) H') : rCatA K (.ref l) (.ref b) H Q := by
  refine ⟨l, b, xs, zs, rfl, rfl, h1, h2, small_len hz, fun e => ?_, fun e1 e2 => ?_, fun e1 e2 p hp => q p _ (same_new hp) (.inl (.inl upd_same))⟩
  · subst e
    exact q b H (fun _ _ h => h) h2
  · subst e2
    refine q l H (fun _ _ h => h) ?_
    rw [List.append_nil]
    exact h1
theorem rowD_false {n : Int} {d : PyData} {ns : List Int} (h : rowD n d = false) (e : d = .tuple (ns.map PyData.int)) (b : ∀ z ∈ ns, 0 ≤ z ∧ z < n) (nd : ns.Nodup) : False := by
  rw [e, rowD_ints, decide_eq_true b, decide_eq_true nd] at h
  cases h
def spIsCycle (bb : Addr) (TT : List (Addr × Str)) : Sp := fun vs H Q _ => ∃ (g v : V) (n : Nat) (ps : List (Int × Int)) (d : PyData), vs = [g, v] ∧ GrAt H g (n : Int) ps ∧ n ≤ 60 ∧ ps.length ≤ 10000 ∧ (∀ p ∈ ps, 0 ≤ p.1 ∧ p.1 < p.2 ∧ p.2 < (n : Int)) ∧ DX bb H v d ∧ (∀ ds, d = .tuple ds → ds.length ≤ 1000) ∧ Tabs TT H ∧
  ∀ (b : Bool) (H' : Hp), ExtN H H' → Tabs TT H' → (b = true ↔ cycP (n : Int) ps d) → Q (.bl b) H'
theorem ok_isCycle {bb : Addr} {TT : List (Addr × Str)} (T : Blt mg) (D : DefAt K mg "is_cycle" s_is_cycle ["graph", "value"]) (D_is_row : DefAt K mg "is_row" s_is_row ["n", "value"]) (G_is_row : FnOk P w K mg base CX0 8 D_is_row.f D_is_row.fd ["n", "value"] (spIsRow bb TT))
    (D_are_steps : DefAt K mg "_are_steps" s_are_steps ["graph", "starts", "ends"]) (G_are_steps : FnOk P w K mg base CX0 4 D_are_steps.f D_are_steps.fd ["graph", "starts", "ends"] (spAreSteps K)) : FnOk P w K mg base CX0 9 D.f D.fd ["graph", "value"] (spIsCycle bb TT) := by
  refine D.F.ok sc_is_cycle (fun vs H Q E h => ?_) (fun cdv A outer s H vs Q E hr h => ?_)
  · obtain ⟨g, v, n, ps, d, rfl, _⟩ := h
    rfl
  · obtain ⟨g, v, n, ps, d, rfl, hgr, n60, hlen, inn, hd, len, hT, q⟩ := h
    obtain ⟨ga, e, rfl, hg, _⟩ := id hgr
    refine ⟨_, (pss_one (ps_ret (pe_and (pe_call G_is_row (hr.mono (by first | decide | omega)) (by rfl) D_is_row.g D_is_row.F.kp D_is_row.b .nil pass0 (pa_cons (pe_ix (ix_tupK (K := K) rfl) (pv 0) pe_int (fun _ _ => rfl)) (pa_cons (pv 1) pa_nil))) (pe_and (pe_cmpR op_ge (pe_callB (call_lenK (K := K) rfl) (by rfl) T.len (by decide +kernel) (pa_cons (pv 1) pa_nil)) pe_int (nomark _)) (pe_one (pe_call G_are_steps (hr.mono (by first | decide | omega)) (by rfl) D_are_steps.g D_are_steps.F.kp D_are_steps.b .nil pass0 (pa_cons (pv 0) (pa_cons (pv 1) (pa_cons (pe_op (op_catAK (K := K) rfl) (pe_slice (sl_tupAK (K := K) rfl) (pv 1) (po_some pe_int) po_none) (pe_slice (sl_tupAK (K := K) rfl) (pv 1) po_none (po_some pe_int))) pa_nil))))))))), ?_⟩
    refine r_at (σ := [some _, some _]) rfl ?_
    walk_at "z"
    refine ⟨(n : Int), v, d, rfl, hd, by omega, len, hT, fun H1 e1 T1 => ?_⟩
    cases er : rowD (n : Int) d with
    | false =>
      walk_at "z"
      exact q false H1 e1 T1 ⟨fun h => (nomatch h), fun ⟨ns, e, b, nd, _⟩ => (rowD_false er e b nd).elim⟩
    | true =>
      obtain ⟨ns, rfl, b, nd⟩ := rowD_of er
      have ln : ns.length ≤ 1000 := by
        have := len _ rfl
        rwa [List.length_map] at this
      cases hd.ext e1 with
      | @tup a xs _ hxs hxd =>
      rw [dx_ints hxd] at hxs
      have hxs : SqT K H1 a (ns.map V.int) := .inl hxs
      have hgr1 := gr_ext e1 hgr
      walk_at "z"
      rw [List.length_map]
      refine r_ite (fun h => ?_) (fun h => ?_)
      · walk_at "z"
        refine r_slA hxs fun p1 H2 s2 hp1 _ => ?_
        rw [show (1 : Int) = ((1 : Nat) : Int) from rfl, cut_from _ 1 (by rw [List.length_map]; omega)] at hp1
        have hx2 := sqT_sm s2 hxs
        have hgr2 := hgr1.tk (.of_same s2)
        walk_at "z"
        refine r_slA hx2 fun p2 H3 s3 hp2 _ => ?_
        rw [show (1 : Int) = ((1 : Nat) : Int) from rfl, cut_to _ 1 (by rw [List.length_map]; omega)] at hp2
        have hp13 := sqT_sm s3 hp1
        refine r_catAS hp13 hp2 (by rw [List.length_drop, List.length_take, List.length_map]; omega) fun p3 H4 s4 hp3 => ?_
        have s14 := (s2.trans s3).trans s4
        refine ⟨.ref ga, n, ps, a, p3, ns, ns.drop 1 ++ ns.take 1, rfl, hgr1.tk (.of_same s14), n60, hlen, inn, sqT_sm s14 hxs, by rw [List.map_append, List.map_drop, List.map_take]; exact hp3, by rw [List.length_append, List.length_drop, List.length_take]; omega, ln, b, fun z hz => b z ((List.mem_append.mp hz).elim List.mem_of_mem_drop List.mem_of_mem_take), fun c H5 s5 hc => ?_⟩
        refine q c H5 (e1.trans (ext_same (s14.trans s5))) (tabs_same T1 (s14.trans s5)) (hc.trans ⟨fun h9 => ⟨ns, rfl, b, nd, by omega, h9⟩, fun ⟨ms, e, _, _, _, h9⟩ => ?_⟩)
        have em := ints_inj (PyData.tuple.inj e)
        rw [em]
        exact h9
      · exact q false H1 e1 T1 ⟨fun h => (nomatch h), fun ⟨ms, e, _, _, ne, _⟩ => by
          have em := ints_inj (PyData.tuple.inj e)
          rw [← em] at ne
          exact (h (by omega)).elim⟩
end

set_option Elab.async false
set_option linter.all false
set_option maxRecDepth 100000
set_option maxHeartbeats 4000000
open PySem PySem.Spec PyProof.Rows L2

section
variable {P : Program} {w : World} {K : PySem.W.Frag} {mg : Str → Option Value} {base : Heap}
end

set_option Elab.async false
set_option linter.all false
set_option maxRecDepth 100000
set_option maxHeartbeats 4000000
open PySem PySem.Spec PyProof.Rows L2

section
variable {P : Program} {w : World} {K : PySem.W.Frag} {mg : Str → Option Value} {base : Heap}
end

set_option Elab.async false
set_option linter.all false
set_option maxRecDepth 100000
set_option maxHeartbeats 4000000
open PySem PySem.Spec PyProof.Rows L2

section
variable {P : Program} {w : World} {K : PySem.W.Frag} {mg : Str → Option Value} {base : Heap}
end

set_option Elab.async false
set_option linter.all false
set_option maxRecDepth 100000
set_option maxHeartbeats 4000000
open PySem PySem.Spec PyProof.Rows L2

abbrev s_law_subsets : Stmt := topS 341
theorem sc_law_subsets : FnScope ["items", "found", "item", "one"] ["items"] (defScope s_law_subsets) := ⟨rfl, rfl, rfl, by decide +kernel, rfl, by decide +kernel, by decide +kernel⟩

section
variable {P : Program} {w : World} {K : PySem.W.Frag} {mg : Str → Option Value} {base : Heap}
end

set_option Elab.async false
set_option linter.all false
set_option maxRecDepth 100000
set_option maxHeartbeats 4000000
open PySem PySem.Spec PyProof.Rows L2

section
variable {P : Program} {w : World} {K : PySem.W.Frag} {mg : Str → Option Value} {base : Heap}
end

set_option Elab.async false
set_option linter.all false
set_option maxRecDepth 100000
set_option maxHeartbeats 4000000
open PySem PySem.Spec PyProof.Rows L2

section
variable {P : Program} {w : World} {K : PySem.W.Frag} {mg : Str → Option Value} {base : Heap}
end

set_option Elab.async false
set_option linter.all false
set_option maxRecDepth 100000
set_option maxHeartbeats 4000000
open PySem PySem.Spec PyProof.Rows L2

section
variable {P : Program} {w : World} {K : PySem.W.Frag} {mg : Str → Option Value} {base : Heap}
end

set_option Elab.async false
set_option linter.all false
set_option maxRecDepth 100000
set_option maxHeartbeats 4000000
open PySem PySem.Spec PyProof.Rows L2

abbrev s_is_within : Stmt := topS 35
theorem sc_is_within : FnScope ["part", "whole"] ["part", "whole"] (defScope s_is_within) := ⟨rfl, rfl, rfl, by decide +kernel, rfl, by decide +kernel, by decide +kernel⟩

section
variable {P : Program} {w : World} {K : PySem.W.Frag} {mg : Str → Option Value} {base : Heap}
def spWithin : Sp := fun vs H Q _ => ∃ (x y : Int) (S T : Int → Prop), vs = [.int x, .int y] ∧ Msk x S ∧ Msk y T ∧ ∀ b : Bool, (b = true ↔ ∀ i : Nat, S i → T i) → Q (.bl b) H
theorem ok_within (T : Blt mg) (D : DefAt K mg "is_within" s_is_within ["part", "whole"]) : FnOk P w K mg base CX0 1 D.f D.fd ["part", "whole"] spWithin := by
  refine D.F.ok sc_is_within (fun vs H Q E h => ?_) (fun cdv A outer s H vs Q E hr h => ?_)
  · obtain ⟨x, y, S, T', rfl, _⟩ := h
    rfl
  · obtain ⟨x, y, S, T', rfl, mx, my, q⟩ := h
    refine ⟨_, (pss_one (ps_ret (pe_cmpR op_eq (pe_op op_and (pv 0) (pv 1)) (pv 0) (nomark _)))), ?_⟩
    refine r_at (σ := [some _, some _]) rfl ?_
    walk_at "z"
    refine q _ (decide_eq_true_iff.trans (((mx.and my).eq_iff mx).trans ⟨fun h i hi => ((h i).mpr hi).2, fun h i => ⟨fun k => k.1, fun k => ⟨k, h i k⟩⟩⟩))
end

set_option Elab.async false
set_option linter.all false
set_option maxRecDepth 100000
set_option maxHeartbeats 4000000
open PySem PySem.Spec PyProof.Rows L2 LamX RZ
abbrev s_size_of : Stmt := topS 26
theorem sc_size_of : FnScope ["mask"] ["mask"] (defScope s_size_of) := ⟨rfl, rfl, rfl, by decide +kernel, rfl, by decide +kernel, by decide +kernel⟩

section
variable {P : Program} {w : World} {K : PySem.W.Frag} {mg : Str → Option Value} {base : Heap}
theorem r_fmtB {te : TE} {σ : L2.St} {H : Hp} {Q : VK} (h : te σ H fun x H1 => ∃ m : Nat, x = .int (m : Nat) ∧ m < 128 ∧ Q (.str (binS m)) H1) : tFmtB te σ H Q := h
def spSize : Sp := fun vs H Q _ => ∃ m : Nat, vs = [.int (m : Nat)] ∧ m < 128 ∧ Q (.int (pop m : Nat)) H
theorem ok_size (T : Blt mg) (D : DefAt K mg "size_of" s_size_of ["mask"]) : FnOk P w K mg base CX0 1 D.f D.fd ["mask"] spSize := by
  refine D.F.ok sc_size_of (fun vs H Q E h => ?_) (fun cdv A outer s H vs Q E hr h => ?_)
  · obtain ⟨m, rfl, _⟩ := h
    rfl
  · obtain ⟨m, rfl, lm, q⟩ := h
    refine ⟨_, (pss_one (ps_ret (PE.bmK (K := K) rfl (pe_bm PySem.F.plainAttrs_str PySem.F.slot_str_count PySem.F.type_str_count mt_count (pe_joined1 (pe_fmtB (pv 0))) (pa_cons pe_str pa_nil))))), ?_⟩
    refine r_at (σ := [some _]) rfl ?_
    walk_at "z"
    refine r_fmtB ?_
    walk_at "z"
    refine ⟨m, rfl, lm, ?_⟩
    walk_at "z"
    refine ⟨rfl, _, _, rfl, rfl, ?_⟩
    rw [binS_count m lm]
    exact q
end

set_option Elab.async false
set_option linter.all false
set_option maxRecDepth 100000
set_option maxHeartbeats 4000000
open PySem PySem.Spec PyProof.Rows L2 LamX RZ

abbrev s_is_hole : Stmt := topS 263
theorem sc_is_hole : FnScope ["graph", "value", "around", "v"] ["graph", "value"] (defScope s_is_hole) := ⟨rfl, rfl, rfl, by decide +kernel, rfl, by decide +kernel, by decide +kernel⟩

theorem msk_natC {x : Int} {S : Int → Prop} (h : Msk x S) (b : ∀ i : Nat, S i → i < 7) : ∃ m : Nat, x = (m : Int) ∧ m < 128 ∧ ∀ i : Nat, m.testBit i = true ↔ S i := by
  refine ⟨x.toNat, by have := h.nn; omega, Nat.lt_pow_two_of_testBit (n := 7) x.toNat fun i hi => ?_, h.bits⟩
  cases c : x.toNat.testBit i with
  | false => rfl
  | true =>
    have := b i ((h.bits i).mp c)
    omega
/-- a set of small numbers as bits -/
theorem bits_ofC : ∀ (ks : List Int), ks.Nodup → (∀ k ∈ ks, 0 ≤ k ∧ k < 7) → ∃ Y < 128, (∀ i : Nat, Y.testBit i = true ↔ ((i : Nat) : Int) ∈ ks) ∧ pop Y = ks.length
  | [], _, _ => ⟨0, by decide, fun i => by simp, pop_zero⟩
  | k :: ks, nd, b => by
    obtain ⟨n1, n2⟩ := List.nodup_cons.mp nd
    obtain ⟨Y, hY, bY, pY⟩ := bits_ofC ks n2 fun z hz => b z (List.mem_cons_of_mem _ hz)
    have bk := b k List.mem_cons_self
    obtain ⟨v, rfl⟩ : ∃ v : Nat, k = (v : Int) := ⟨k.toNat, by omega⟩
    have v7 : v < 7 := by omega
    have lt2 := (pop_or1 Y hY v v7).1
    have bb : ∀ i : Nat, (Y ||| 2 ^ v).testBit i = true ↔ ((i : Nat) : Int) ∈ ((v : Nat) : Int) :: ks := fun i => by
      rw [Nat.testBit_or, Nat.testBit_two_pow, Bool.or_eq_true, decide_eq_true_iff, bY, List.mem_cons]
      constructor
      · rintro (h | h)
        · exact .inr h
        · exact .inl (by omega)
      · rintro (h | h)
        · exact .inr (by omega)
        · exact .inl h
    refine ⟨Y ||| 2 ^ v, lt2, bb, ?_⟩
    have tv : (Y ||| 2 ^ v).testBit v = true := (bb v).mpr List.mem_cons_self
    obtain ⟨_, p2⟩ := pop_xor _ lt2 v v7 tv
    have e : (Y ||| 2 ^ v) ^^^ 2 ^ v = Y := Nat.eq_of_testBit_eq fun u => by
      rw [Nat.testBit_xor, Nat.testBit_or, Nat.testBit_two_pow]
      by_cases c : v = u
      · subst c
        have : Y.testBit v = false := by
          cases d : Y.testBit v with
          | false => rfl
          | true => exact absurd ((bY v).mp d) n1
        simp [this]
      · simp [c]
    rw [e] at p2
    rw [List.length_cons]
    omega
def holeP (n : Int) (ps : List (Int × Int)) (d : PyData) : Prop := ∃ ns : List Int, d = .tuple (ns.map PyData.int) ∧ (∀ z ∈ ns, 0 ≤ z ∧ z < n) ∧ ns.Nodup ∧ 4 ≤ ns.length ∧ stE ps ns (ns.drop 1 ++ ns.take 1) ∧ ∀ v ∈ ns, (ns.filter fun u => isE ps (v, u)).length = 2
section
variable {P : Program} {w : World} {K : PySem.W.Frag} {mg : Str → Option Value} {base : Heap}
def spHoleX (bb : Addr) (TT : List (Addr × Str)) : Sp := fun vs H Q _ => ∃ (g v : V) (n : Nat) (ps : List (Int × Int)) (d : PyData), vs = [g, v] ∧ GrAt H g (n : Int) ps ∧ n ≤ 7 ∧ ps.length ≤ 10000 ∧ (∀ p ∈ ps, 0 ≤ p.1 ∧ p.1 < p.2 ∧ p.2 < (n : Int)) ∧ DX bb H v d ∧ (∀ ds, d = .tuple ds → ds.length ≤ 1000) ∧ Tabs TT H ∧
  ∀ (r : Bool) (H' : Hp), ExtN H H' → Tabs TT H' → (r = true ↔ holeP (n : Int) ps d) → Q (.bl r) H'
theorem ok_holeX {bb : Addr} {TT : List (Addr × Str)} (T : Blt mg) (z_all : mg "all" = none) (D : DefAt K mg "_is_hole" s_is_hole ["graph", "value"])
    (D_is_cycle : DefAt K mg "is_cycle" s_is_cycle ["graph", "value"]) (G_is_cycle : FnOk P w K mg base CX0 9 D_is_cycle.f D_is_cycle.fd ["graph", "value"] (spIsCycle bb TT))
    (D_neighbour_masks : DefAt K mg "neighbour_masks" s_neighbour_masks ["graph"]) (G_neighbour_masks : FnOk P w K mg base CX0 2 D_neighbour_masks.f D_neighbour_masks.fd ["graph"] spNMasks)
    (D_size_of : DefAt K mg "size_of" s_size_of ["mask"]) (G_size_of : FnOk P w K mg base CX0 1 D_size_of.f D_size_of.fd ["mask"] spSize)
    (D_mask_of : DefAt K mg "mask_of" s_mask_of ["members"]) (G_mask_of : FnOk P w K mg base CX0 1 D_mask_of.f D_mask_of.fd ["members"] (spMask K)) :
    FnOk P w K mg base CX0 10 D.f D.fd ["graph", "value"] (spHoleX bb TT) := by
  refine D.F.ok sc_is_hole (fun vs H Q E h => ?_) (fun cdv A outer s H vs Q E hr h => ?_)
  · obtain ⟨g, v, n, ps, d, rfl, _⟩ := h
    rfl
  · obtain ⟨g, v, n, ps, d, rfl, hgr, n7, hlen, inn, hd, len, hT, q⟩ := h
    refine ⟨_, (pss_cons (ps_if (PW.pt (pw_or (pt_not (pt_val (pe_call G_is_cycle (hr.mono (by first | decide | omega)) (by rfl) D_is_cycle.g D_is_cycle.F.kp D_is_cycle.b .nil pass0 (pa_cons (pv 0) (pa_cons (pv 1) pa_nil))))) (pw_or1 (pt_cmpR op_lt (pe_callB (call_lenK (K := K) rfl) (by rfl) T.len (by decide +kernel) (pa_cons (pv 1) pa_nil)) pe_int (nomark _)))))
        (pss_one (ps_ret pe_bl))
        pss_nil)
      (pss_cons (ps_set (i := 2) sc_is_hole.nd rfl (Or.inr rfl) (pe_call G_neighbour_masks (hr.mono (by first | decide | omega)) (by rfl) D_neighbour_masks.g D_neighbour_masks.F.kp D_neighbour_masks.b .nil pass0 (pa_cons (pv 0) pa_nil)))
      (pss_one (ps_ret (pe_callB (cr_allK (K := K) rfl rfl) (by rfl) z_all (by decide +kernel) (pa_cons (pe_lc (own := [("v", 3)]) (by rfl) sc_is_hole.nd (PI.tupK (K := K) rfl (pi_tup (pv 1))) (blkOk_by (own := [("v", 3)]) (N := ["graph", "value", "around", "v"]) (sc := (defScope s_is_hole)) (by decide +kernel)) (fun _ _ _ _ _ => (pg_name (i := 3) sc_is_hole.nd rfl (Or.inl rfl))) (fun _ _ _ _ _ => pts_nil) (fun _ _ _ _ _ => (pe_cmpR op_eq (pe_call G_size_of (hr.mono (by first | decide | omega)) (by rfl) D_size_of.g D_size_of.F.kp D_size_of.b .nil pass0 (pa_cons (pe_op op_and (pe_ix (ix_listK (K := K) rfl) (pv 2) (pv 3) (fun _ _ => rfl)) (pe_call G_mask_of (hr.mono (by first | decide | omega)) (by rfl) D_mask_of.g D_mask_of.F.kp D_mask_of.b .nil pass0 (pa_cons (pv 1) pa_nil))) pa_nil)) pe_int (nomark _)))) pa_nil)))))), ?_⟩
    refine r_at (σ := [some _, some _, none, none]) rfl ?_
    walk_at "z"
    refine ⟨g, v, n, ps, d, rfl, hgr, by omega, hlen, inn, hd, len, hT, fun b H1 e1 T1 hb => ?_⟩
    cases b with
    | false =>
      walk_at "z"
      try refine iteT ?_
      try walk_at "z"
      exact q false H1 e1 T1 ⟨fun h => (nomatch h), fun ⟨ns, e, bd, nd, l4, st, _⟩ => by have := hb.mpr ⟨ns, e, bd, nd, by omega, st⟩; cases this⟩
    | true =>
      obtain ⟨ns, rfl, bd, nd, l3, st⟩ := hb.mp rfl
      have ln : ns.length ≤ 7 := by
        have := nodup_le ns (rgI (n : Int)) nd fun v hv => mem_rgI.mpr (bd v hv)
        rw [rgI_len] at this
        omega
      cases hd.ext e1 with
      | @tup a xs _ hxs hxd =>
      rw [dx_ints hxd] at hxs
      have hxs : SqT K H1 a (ns.map V.int) := .inl hxs
      have hgr1 := hgr.tk (ext_tk e1)
      walk_at "z"
      try refine iteF ?_
      try walk_at "z"
      rw [List.length_map]
      refine r_ite (fun h => ?_) (fun h => ?_)
      · walk_at "z"
        exact q false H1 e1 T1 ⟨fun h => (nomatch h), fun ⟨ms, e, _, _, l4, _⟩ => by
          have em := ints_inj (PyData.tuple.inj e)
          rw [← em] at l4
          omega⟩
      · walk_at "z"
        refine ⟨g, n, ps, rfl, hgr1, by omega, hlen, inn, fun l ms H2 s2 hms lm mk => ?_⟩
        have hx2 := sqT_sm s2 hxs
        walk_at "z"
        refine r_it hx2 fun c hc => lcR_tup (xs := ns.map V.int) (fun i H' => Same H2 H' ∧ ∃ bs : List Bool, H' c = some (.lst (bs.map V.bl)) ∧ bs.length = i ∧ (bs.all id = true ↔ ∀ v ∈ ns.take i, (ns.filter fun u => isE ps (v, u)).length = 2)) (by walk_at "zw") ⟨same_new hc, [], upd_same, rfl, by simp⟩ (fun i H' _ ⟨s3, _⟩ => sqT_sm s3 hx2) ?_ ?_
        · rintro i y H3 hy ⟨s3, bs, hB, lb, hit⟩
          rw [List.getElem?_map] at hy
          obtain ⟨u, hu, rfl⟩ := Option.map_eq_some_iff.mp hy
          have il := (List.getElem?_eq_some_iff.mp hu).1
          have um := List.mem_of_getElem? hu
          have ub := bd u um
          obtain ⟨m, hm⟩ : ∃ m, ms[u.toNat]? = some m := ⟨_, List.getElem?_eq_getElem (by omega)⟩
          walk_at "z"
          refine ⟨rfl, ?_⟩
          walk_at "z"
          refine r_ixL (.inl (.inl (s3 _ _ hms))) (at_of (j := u.toNat) (by omega) (by rw [List.getElem?_map, hm]; rfl)) ?_
          walk_at "z"
          refine ⟨a, ns, rfl, .inr (sqT_sm s3 hx2), fun v hv => ⟨(bd v hv).1, by have := (bd v hv).2; omega⟩, fun x mx => ?_⟩
          walk_at "z"
          obtain ⟨z, ez, z1, z2⟩ := msk_natC ((mk _ _ hm).and mx) fun i hi => by
            have := bd _ hi.2
            omega
          obtain ⟨Y, y1, y2, y3⟩ := bits_ofC (ns.filter fun u' => isE ps (u, u')) (nd.sublist List.filter_sublist) fun k hk => by
            have := bd k (List.mem_filter.mp hk).1
            omega
          have ezY : z = Y := Nat.eq_of_testBit_eq fun i => by
            refine Bool.eq_iff_iff.mpr ((z2 i).trans (Iff.trans ?_ (y2 i).symm))
            rw [List.mem_filter, isE_adj ub.1]
            exact and_comm
          refine ⟨z, by rw [ez]; rfl, z1, ?_⟩
          walk_at "z"
          refine r_lce hB (small_lt (by rw [List.length_map]; omega)) ⟨same_mut s3 hc, bs ++ [decide ((pop z : Int) = 2)], by rw [List.map_append]; exact upd_same, by rw [List.length_append, lb]; rfl, ?_⟩
          rw [List.all_append, Bool.and_eq_true, hit, take_next hu]
          simp only [List.all_cons, List.all_nil, Bool.and_true, id, List.mem_append, List.mem_singleton, decide_eq_true_eq]
          have e3 : (pop z : Int) = 2 ↔ (ns.filter fun u' => isE ps (u, u')).length = 2 := by rw [ezY, y3]; omega
          rw [e3]
          exact ⟨fun ⟨h1, h2⟩ v hv => hv.elim (h1 v) fun e => e ▸ h2, fun h => ⟨fun v hv => h v (.inl hv), h u (.inr rfl)⟩⟩
        · rintro H3 ⟨s3, bs, hB, lb, hit⟩
          rw [List.length_map, List.take_length] at hit
          walk_at "z"
          refine r_all hB ?_
          exact q _ H3 (e1.trans (ext_same (s2.trans s3))) (tabs_same T1 (s2.trans s3)) (hit.trans ⟨fun h9 => ⟨ns, rfl, bd, nd, by omega, st, h9⟩, fun ⟨ms, e, _, _, _, _, h9⟩ => by
            have em := ints_inj (PyData.tuple.inj e)
            rw [em]
            exact h9⟩)
end

set_option Elab.async false
set_option linter.all false
set_option maxRecDepth 100000
set_option maxHeartbeats 4000000
open PySem PySem.Spec PyProof.Rows L2 LamX RZ

abbrev s_is_clique : Stmt := topS 23
theorem sc_is_clique : FnScope ["around", "mask", "v"] ["around", "mask"] (defScope s_is_clique) := ⟨rfl, rfl, rfl, by decide +kernel, rfl, by decide +kernel, by decide +kernel⟩

abbrev s_masks_behind : Stmt := topS 22
theorem sc_masks_behind : FnScope ["graph", "order", "around", "left", "behind", "v"] ["graph", "order"] (defScope s_masks_behind) := ⟨rfl, rfl, rfl, by decide +kernel, rfl, by decide +kernel, by decide +kernel⟩

abbrev s_is_order : Stmt := topS 11
theorem sc_is_order : FnScope ["n", "value"] ["n", "value"] (defScope s_is_order) := ⟨rfl, rfl, rfl, by decide +kernel, rfl, by decide +kernel, by decide +kernel⟩

abbrev s_are_cliques_behind : Stmt := topS 262
theorem sc_are_cliques_behind : FnScope ["graph", "value", "around", "mask"] ["graph", "value"] (defScope s_are_cliques_behind) := ⟨rfl, rfl, rfl, by decide +kernel, rfl, by decide +kernel, by decide +kernel⟩

/-- the bits of S are joined to each other -/
def CliqE (ps : List (Int × Int)) (S : Int → Prop) : Prop := ∀ x y : Int, 0 ≤ x → 0 ≤ y → S x → S y → x ≠ y → isE ps (x, y) = true
/-- each one's neighbours behind it are joined to each other -/
def behP (ps : List (Int × Int)) (ns : List Int) : Prop := ∀ (i : Nat) v, ns[i]? = some v → CliqE ps fun z => z ∈ adjL ps v.toNat ∧ z ∈ ns.drop (i + 1)
def ordC (n : Int) (ps : List (Int × Int)) (d : PyData) : Prop := ∃ ns : List Int, d = .tuple (ns.map PyData.int) ∧ (∀ z ∈ ns, 0 ≤ z ∧ z < n) ∧ ns.Nodup ∧ (ns.length : Int) = n ∧ behP ps ns
section
variable {P : Program} {w : World} {K : PySem.W.Frag} {mg : Str → Option Value} {base : Heap}
def spClqC : Sp := fun vs H Q _ => ∃ (l : Addr) (m : Int) (ms : List Int) (ps : List (Int × Int)) (S : Int → Prop), vs = [.ref l, .int m] ∧ H l = some (.lst (ms.map V.int)) ∧ ms.length ≤ 60 ∧ (∀ i m, ms[i]? = some m → Msk m (fun z => z ∈ adjL ps i)) ∧ Msk m S ∧ (∀ i : Nat, S i → i < ms.length) ∧
  ∀ (b : Bool) (H' : Hp), Same H H' → (b = true ↔ CliqE ps S) → Q (.bl b) H'
theorem ok_cliqueC (T : Blt mg) (z_all : mg "all" = none) (D : DefAt K mg "is_clique" s_is_clique ["around", "mask"]) (D_members_of : DefAt K mg "members_of" s_members_of ["mask"]) (G_members_of : FnOk P w K mg base CX0 1 D_members_of.f D_members_of.fd ["mask"] spMem)
    (D_is_within : DefAt K mg "is_within" s_is_within ["part", "whole"]) (G_is_within : FnOk P w K mg base CX0 1 D_is_within.f D_is_within.fd ["part", "whole"] spWithin) : FnOk P w K mg base CX0 2 D.f D.fd ["around", "mask"] spClqC := by
  refine D.F.ok sc_is_clique (fun vs H Q E h => ?_) (fun cdv A outer s H vs Q E hr h => ?_)
  · obtain ⟨l, m, ms, ps, S, rfl, _⟩ := h
    rfl
  · obtain ⟨l, m, ms, ps, S, rfl, hl, m60, mk, mS, sl, q⟩ := h
    refine ⟨_, (pss_one (ps_ret (pe_callB (cr_allK (K := K) rfl rfl) (by rfl) z_all (by decide +kernel) (pa_cons (pe_lc (own := [("v", 2)]) (by rfl) sc_is_clique.nd (PI.tupK (K := K) rfl (pi_tup (pe_call G_members_of (hr.mono (by first | decide | omega)) (by rfl) D_members_of.g D_members_of.F.kp D_members_of.b .nil pass0 (pa_cons (pv 1) pa_nil)))) (blkOk_by (own := [("v", 2)]) (N := ["around", "mask", "v"]) (sc := (defScope s_is_clique)) (by decide +kernel)) (fun _ _ _ _ _ => (pg_name (i := 2) sc_is_clique.nd rfl (Or.inl rfl))) (fun _ _ _ _ _ => pts_nil) (fun _ _ _ _ _ => (pe_call G_is_within (hr.mono (by first | decide | omega)) (by rfl) D_is_within.g D_is_within.F.kp D_is_within.b .nil pass0 (pa_cons (pv 1) (pa_cons (pe_op op_or (pe_ix (ix_listK (K := K) rfl) (pv 0) (pv 2) (fun _ _ => rfl)) (pe_op op_shl pe_int (pv 2))) pa_nil))))) pa_nil)))), ?_⟩
    refine r_at (σ := [some _, some _, none]) rfl ?_
    walk_at "z"
    refine ⟨m, S, rfl, mS, fun i h => by have := sl i h; omega, fun p ns H1 s1 hp _ asc mem => ?_⟩
    have hl1 := s1 _ _ hl
    have nl : ns.length ≤ 60 := asc_len (n := 60) asc fun v hv => by
      obtain ⟨v0, hS⟩ := (mem v).mp hv
      have := sl v.toNat (by rw [show ((v.toNat : Nat) : Int) = v by omega]; exact hS)
      omega
    refine r_it (.inl (.inl hp)) fun c hc => lcR_tup (xs := ns.map V.int) (fun i H' => Same H1 H' ∧ ∃ bs : List Bool, H' c = some (.lst (bs.map V.bl)) ∧ bs.length = i ∧ (bs.all id = true ↔ ∀ v ∈ ns.take i, ∀ j : Nat, S j → (j : Int) ∈ adjL ps v.toNat ∨ (j : Int) = v)) (by walk_at "zw") ⟨same_new hc, [], upd_same, rfl, by simp⟩ (fun i H' _ ⟨s2, _⟩ => .inl (.inl (s2 _ _ hp))) ?_ ?_
    · rintro i x H2 hx ⟨s2, bs, hB, lb, hit⟩
      rw [List.getElem?_map] at hx
      obtain ⟨v, hv, rfl⟩ := Option.map_eq_some_iff.mp hx
      obtain ⟨v0, hS⟩ := (mem v).mp (List.mem_of_getElem? hv)
      have v1 := sl v.toNat (by rw [show ((v.toNat : Nat) : Int) = v by omega]; exact hS)
      obtain ⟨mv, hmv⟩ : ∃ k, ms[v.toNat]? = some k := ⟨_, List.getElem?_eq_getElem v1⟩
      have il := (List.getElem?_eq_some_iff.mp hv).1
      have ix : atI (ms.map V.int) v = some (.int mv) := at_of (j := v.toNat) (by omega) (by rw [List.getElem?_map, hmv]; rfl)
      have hl2 := s2 _ _ hl1
      walk_at "z"
      refine ⟨rfl, ?_⟩
      walk_at "z"
      refine r_i ⟨by omega, by omega, by decide⟩ ?_
      walk_at "z"
      refine ⟨_, _, S, _, rfl, mS, (mk _ _ hmv).or (Msk.shl v0), fun b hb => ?_⟩
      refine r_lce hB (small_lt (by rw [List.length_map]; omega)) ⟨same_mut s2 hc, bs ++ [b], by rw [List.map_append]; exact upd_same, by rw [List.length_append, lb]; rfl, ?_⟩
      rw [List.all_append, Bool.and_eq_true, hit, take_next hv]
      simp only [List.all_cons, List.all_nil, Bool.and_true, id]
      rw [hb]
      constructor
      · rintro ⟨h1, h2⟩ z hz
        rcases List.mem_append.mp hz with c3 | c3
        · exact h1 z c3
        · rw [List.mem_singleton.mp c3]
          exact h2
      · exact fun h => ⟨fun z hz => h z (List.mem_append_left _ hz), h v (List.mem_append_right _ List.mem_cons_self)⟩
    · rintro H2 ⟨s2, bs, hB, lb, hit⟩
      rw [List.length_map, List.take_length] at hit
      walk_at "z"
      refine r_all hB ?_
      refine q _ H2 (s1.trans s2) (hit.trans ⟨fun h x y x0 y0 hx hy ne => ?_, fun h v hv j hj => ?_⟩)
      · rcases h x ((mem x).mpr ⟨x0, hx⟩) y.toNat (by rw [show ((y.toNat : Nat) : Int) = y by omega]; exact hy) with c3 | c3
        · rw [show ((y.toNat : Nat) : Int) = y by omega] at c3
          exact (isE_adj x0).mpr c3
        · omega
      · obtain ⟨v0, hS⟩ := (mem v).mp hv
        by_cases e : (j : Int) = v
        · exact .inr e
        · exact .inl ((isE_adj v0).mp (h v j v0 (by omega) hS hj (fun z => e z.symm)))

def spMBeh (K : PySem.W.Frag) : Sp := fun vs H Q _ => ∃ (g : V) (a : Addr) (n : Nat) (ps : List (Int × Int)) (ns : List Int), vs = [g, .ref a] ∧ GrAt H g (n : Int) ps ∧ n ≤ 60 ∧ ps.length ≤ 10000 ∧ (∀ p ∈ ps, 0 ≤ p.1 ∧ p.1 < p.2 ∧ p.2 < (n : Int)) ∧ SqT K H a (ns.map V.int) ∧ (∀ z ∈ ns, 0 ≤ z ∧ z < (n : Int)) ∧ ns.Nodup ∧
  ∀ (l : Addr) (ms : List Int) (H' : Hp), Same H H' → H' l = some (.lst (ms.map V.int)) → ms.length = ns.length → (∀ (i : Nat) v m, ns[i]? = some v → ms[i]? = some m → Msk m (fun z => z ∈ adjL ps v.toNat ∧ z ∈ ns.drop (i + 1))) → Q (.ref l) H'
theorem ok_mbeh (T : Blt mg) (D : DefAt K mg "masks_behind" s_masks_behind ["graph", "order"])
    (D_neighbour_masks : DefAt K mg "neighbour_masks" s_neighbour_masks ["graph"]) (G_neighbour_masks : FnOk P w K mg base CX0 2 D_neighbour_masks.f D_neighbour_masks.fd ["graph"] spNMasks)
    (D_mask_of : DefAt K mg "mask_of" s_mask_of ["members"]) (G_mask_of : FnOk P w K mg base CX0 1 D_mask_of.f D_mask_of.fd ["members"] (spMask K)) :
    FnOk P w K mg base CX0 3 D.f D.fd ["graph", "order"] (spMBeh K) := by
  refine D.F.ok sc_masks_behind (fun vs H Q E h => ?_) (fun cdv A outer s H vs Q E hr h => ?_)
  · obtain ⟨g, a, n, ps, ns, rfl, _⟩ := h
    rfl
  · obtain ⟨g, a, n, ps, ns, rfl, hgr, n60, hlen, inn, hx, bd, nd, q⟩ := h
    have ln : ns.length ≤ 60 := by
      have := nodup_le ns (rgI (n : Int)) nd fun v hv => mem_rgI.mpr (bd v hv)
      rw [rgI_len] at this
      omega
    refine ⟨_, (pss_cons (ps_set (i := 2) sc_masks_behind.nd rfl (Or.inl rfl) (pe_call G_neighbour_masks (hr.mono (by first | decide | omega)) (by rfl) D_neighbour_masks.g D_neighbour_masks.F.kp D_neighbour_masks.b .nil pass0 (pa_cons (pv 0) pa_nil)))
      (pss_cons (ps_set (i := 3) sc_masks_behind.nd rfl (Or.inl rfl) (pe_call G_mask_of (hr.mono (by first | decide | omega)) (by rfl) D_mask_of.g D_mask_of.F.kp D_mask_of.b .nil pass0 (pa_cons (pv 1) pa_nil)))
      (pss_cons (ps_set (i := 4) sc_masks_behind.nd rfl (Or.inl rfl) (pe_lst pa_nil))
      (pss_cons (ps_for PassesOwn.never (by rfl) (PI.tupK (K := K) rfl (pi_tup (pv 1))) (pg_name (i := 5) sc_masks_behind.nd rfl (Or.inl rfl))
        (pss_cons (ps_aug (i := 3) sc_masks_behind.nd rfl (Or.inl rfl) (pe_un un_inv (pe_op op_shl pe_int (pv 5))) iop_and)
        (pss_one (ps_expr (PE.bmK (K := K) rfl (pe_bm PySem.F.plainAttrs_list PySem.F.slot_list_append PySem.F.type_list_append mt_append (pv 4) (pa_cons (pe_op op_and (pe_ix (ix_listK (K := K) rfl) (pv 2) (pv 5) (fun _ _ => rfl)) (pv 3)) pa_nil)))))))
      (pss_one (ps_ret (pv 4))))))), ?_⟩
    refine r_at (σ := [some _, some _, none, none, none, none]) rfl ?_
    walk_at "z"
    refine ⟨g, n, ps, rfl, hgr, by omega, hlen, inn, fun l ms H1 s1 hms lm mk => ?_⟩
    have hx1 := sqT_sm s1 hx
    walk_at "z"
    refine ⟨a, ns, rfl, .inr hx1, fun v hv => ⟨(bd v hv).1, by have := (bd v hv).2; omega⟩, fun x mx => ?_⟩
    walk_at "z"
    refine r_lstN (by decide) fun c hc => ?_
    have s2 : Same H1 (upd H1 c (.lst [])) := same_new hc
    have hc2 : (upd H1 c (.lst [])) c = some (.lst (([] : List Int).map V.int)) := upd_same
    have c0 : H1 c = none := hc
    generalize upd H1 c (.lst []) = H2 at s2 hc2 ⊢
    walk_at "z"
    refine r_it (sqT_sm s2 hx1) (forR_tup (xs := ns.map V.int) (fun i σ' H' => ∃ (y : Int) (x5 : Option V) (bs : List Int), σ' = [some g, some (.ref a), some (.ref l), some (.int y), some (.ref c), x5] ∧ Same H1 H' ∧ H' c = some (.lst (bs.map V.int)) ∧ bs.length = i ∧ Msk y (fun z => z ∈ ns.drop i) ∧ ∀ (j : Nat) v m, ns[j]? = some v → bs[j]? = some m → Msk m (fun z => z ∈ adjL ps v.toNat ∧ z ∈ ns.drop (j + 1)))
      ⟨x, _, [], rfl, s2, hc2, rfl, mx, fun j v m _ h => by simp at h⟩ (fun i σ' H' _ ⟨_, _, _, _, s3, _⟩ => sqT_sm s3 hx1) ?_ ?_)
    · rintro i yv σ' H' hy ⟨y, x5, bs, rfl, s3, hbs, lb, my, hm⟩
      rw [List.getElem?_map] at hy
      obtain ⟨v, hv, rfl⟩ := Option.map_eq_some_iff.mp hy
      have il := (List.getElem?_eq_some_iff.mp hv).1
      have vb := bd v (List.mem_of_getElem? hv)
      obtain ⟨m, hmv⟩ : ∃ m, ms[v.toNat]? = some m := ⟨_, List.getElem?_eq_getElem (by omega)⟩
      have ed : ns.drop i = v :: ns.drop (i + 1) := by
        rw [List.drop_eq_getElem_cons il]
        congr 1
        exact (List.getElem?_eq_some_iff.mp hv).2
      have nd2 : (v :: ns.drop (i + 1)).Nodup := ed ▸ nd.sublist (List.drop_sublist _ _)
      have my2 := (my.andB (Msk.shl (v := v) vb.1).bts.not).congr (T := fun z => z ∈ ns.drop (i + 1)) fun z => by
        rw [ed, List.mem_cons]
        constructor
        · rintro ⟨h1, h2⟩
          exact h1.resolve_left fun e => h2 (by omega)
        · exact fun h => ⟨.inr h, fun e => (List.nodup_cons.mp nd2).1 (by rwa [show v = (z : Int) by omega])⟩
      walk_at "z"
      refine r_aug rfl ?_
      walk_at "z"
      refine r_i ⟨by omega, by omega, by decide⟩ ?_
      walk_at "z"
      refine r_augI rfl ?_
      simp only [List.set_cons_succ, List.set_cons_zero]
      walk_at "z"
      refine r_ixL (.inl (.inl (s3 _ _ hms))) (at_of (j := v.toNat) (by omega) (by rw [List.getElem?_map, hmv]; rfl)) ?_
      walk_at "z"
      refine r_appT hbs (small_lt (by rw [List.length_map]; omega)) ⟨_, _, bs ++ [_], rfl, same_mut s3 c0, by rw [List.map_append]; exact upd_same, by rw [List.length_append, lb]; rfl, my2, fun j v' m' h1 h2 => ?_⟩
      rcases Nat.lt_or_ge j bs.length with c3 | c3
      · rw [List.getElem?_append_left c3] at h2
        exact hm j v' m' h1 h2
      · rw [List.getElem?_append_right c3] at h2
        have ej : j = i := by
          have := (List.getElem?_eq_some_iff.mp h2).1
          simp only [List.length_cons, List.length_nil] at this
          omega
        rw [ej, lb, Nat.sub_self] at h2
        cases h2
        rw [ej, hv] at h1
        cases h1
        rw [ej]
        exact (mk _ _ hmv).and my2
    · rintro σ' H' ⟨y, x5, bs, rfl, s3, hbs, lb, my, hm⟩
      rw [List.length_map] at lb
      walk_at "z"
      exact q c bs H' (s1.trans s3) hbs lb hm
def spOrdX (bb : Addr) (TT : List (Addr × Str)) : Sp := fun vs H Q _ => ∃ (n : Int) (v : V) (d : PyData), vs = [.int n, v] ∧ DX bb H v d ∧ n ≤ 100 ∧ (∀ ds, d = .tuple ds → ds.length ≤ 1000) ∧ Tabs TT H ∧
  ∀ (r : Bool) H', ExtN H H' → Tabs TT H' → (r = true ↔ ∃ ns : List Int, d = .tuple (ns.map PyData.int) ∧ (∀ z ∈ ns, 0 ≤ z ∧ z < n) ∧ ns.Nodup ∧ (ns.length : Int) = n) → Q (.bl r) H'
theorem ok_ordX {bb : Addr} {TT : List (Addr × Str)} (T : Blt mg) (D : DefAt K mg "is_order" s_is_order ["n", "value"])
    (D_is_row : DefAt K mg "is_row" s_is_row ["n", "value"]) (G_is_row : FnOk P w K mg base CX0 8 D_is_row.f D_is_row.fd ["n", "value"] (spIsRow bb TT)) : FnOk P w K mg base CX0 9 D.f D.fd ["n", "value"] (spOrdX bb TT) := by
  refine D.F.ok sc_is_order (fun vs H Q E h => ?_) (fun cdv A outer s H vs Q E hr h => ?_)
  · obtain ⟨n, v, d, rfl, _⟩ := h
    rfl
  · obtain ⟨n, v, d, rfl, hd, n1, len, hT, q⟩ := h
    refine ⟨_, (pss_one (ps_ret (pe_and (pe_call G_is_row (hr.mono (by first | decide | omega)) (by rfl) D_is_row.g D_is_row.F.kp D_is_row.b .nil pass0 (pa_cons (pv 0) (pa_cons (pv 1) pa_nil))) (pe_one (pe_cmpR op_eq (pe_callB (call_lenK (K := K) rfl) (by rfl) T.len (by decide +kernel) (pa_cons (pv 1) pa_nil)) (pv 0) (nomark _)))))), ?_⟩
    refine r_at (σ := [some _, some _]) rfl ?_
    walk_at "z"
    refine ⟨n, v, d, rfl, hd, n1, len, hT, fun H1 e1 T1 => ?_⟩
    cases er : rowD n d with
    | false =>
      walk_at "z"
      exact q false H1 e1 T1 ⟨fun h => (nomatch h), fun ⟨ns, e, b, nd, _⟩ => (rowD_false er e b nd).elim⟩
    | true =>
      obtain ⟨ns, rfl, b, nd⟩ := rowD_of er
      cases hd.ext e1 with
      | @tup a xs _ hxs hxd =>
      rw [dx_ints hxd] at hxs
      have hxs : SqT K H1 a (ns.map V.int) := .inl hxs
      walk_at "z"
      rw [List.length_map]
      refine q _ H1 e1 T1 (decide_eq_true_iff.trans ⟨fun h => ⟨ns, rfl, b, nd, h⟩, fun ⟨ms, e, _, _, h⟩ => by rw [ints_inj (PyData.tuple.inj e)]; exact h⟩)
def spCliB (bb : Addr) (TT : List (Addr × Str)) : Sp := fun vs H Q _ => ∃ (g v : V) (n : Nat) (ps : List (Int × Int)) (d : PyData), vs = [g, v] ∧ GrAt H g (n : Int) ps ∧ n ≤ 60 ∧ ps.length ≤ 10000 ∧ (∀ p ∈ ps, 0 ≤ p.1 ∧ p.1 < p.2 ∧ p.2 < (n : Int)) ∧ DX bb H v d ∧ (∀ ds, d = .tuple ds → ds.length ≤ 1000) ∧ Tabs TT H ∧
  ∀ (r : Bool) (H' : Hp), ExtN H H' → Tabs TT H' → (r = true ↔ ordC (n : Int) ps d) → Q (.bl r) H'
theorem ok_clib {bb : Addr} {TT : List (Addr × Str)} (T : Blt mg) (z_all : mg "all" = none) (D : DefAt K mg "_are_cliques_behind" s_are_cliques_behind ["graph", "value"])
    (D_is_order : DefAt K mg "is_order" s_is_order ["n", "value"]) (G_is_order : FnOk P w K mg base CX0 9 D_is_order.f D_is_order.fd ["n", "value"] (spOrdX bb TT))
    (D_neighbour_masks : DefAt K mg "neighbour_masks" s_neighbour_masks ["graph"]) (G_neighbour_masks : FnOk P w K mg base CX0 2 D_neighbour_masks.f D_neighbour_masks.fd ["graph"] spNMasks)
    (D_masks_behind : DefAt K mg "masks_behind" s_masks_behind ["graph", "order"]) (G_masks_behind : FnOk P w K mg base CX0 3 D_masks_behind.f D_masks_behind.fd ["graph", "order"] (spMBeh K))
    (D_is_clique : DefAt K mg "is_clique" s_is_clique ["around", "mask"]) (G_is_clique : FnOk P w K mg base CX0 2 D_is_clique.f D_is_clique.fd ["around", "mask"] spClqC) :
    FnOk P w K mg base CX0 10 D.f D.fd ["graph", "value"] (spCliB bb TT) := by
  refine D.F.ok sc_are_cliques_behind (fun vs H Q E h => ?_) (fun cdv A outer s H vs Q E hr h => ?_)
  · obtain ⟨g, v, n, ps, d, rfl, _⟩ := h
    rfl
  · obtain ⟨g, v, n, ps, d, rfl, hgr, n60, hlen, inn, hd, len, hT, q⟩ := h
    obtain ⟨ga, e, rfl, hg, _⟩ := id hgr
    refine ⟨_, (pss_cons (ps_if (pt_not (pt_val (pe_call G_is_order (hr.mono (by first | decide | omega)) (by rfl) D_is_order.g D_is_order.F.kp D_is_order.b .nil pass0 (pa_cons (pe_ix (ix_tupK (K := K) rfl) (pv 0) pe_int (fun _ _ => rfl)) (pa_cons (pv 1) pa_nil)))))
        (pss_one (ps_ret pe_bl))
        pss_nil)
      (pss_cons (ps_set (i := 2) sc_are_cliques_behind.nd rfl (Or.inr rfl) (pe_call G_neighbour_masks (hr.mono (by first | decide | omega)) (by rfl) D_neighbour_masks.g D_neighbour_masks.F.kp D_neighbour_masks.b .nil pass0 (pa_cons (pv 0) pa_nil)))
      (pss_one (ps_ret (pe_callB (cr_allK (K := K) rfl rfl) (by rfl) z_all (by decide +kernel) (pa_cons (pe_lc (own := [("mask", 3)]) (by rfl) sc_are_cliques_behind.nd (PI.listK (K := K) rfl (pi_list (pe_call G_masks_behind (hr.mono (by first | decide | omega)) (by rfl) D_masks_behind.g D_masks_behind.F.kp D_masks_behind.b .nil pass0 (pa_cons (pv 0) (pa_cons (pv 1) pa_nil))))) (blkOk_by (own := [("mask", 3)]) (N := ["graph", "value", "around", "mask"]) (sc := (defScope s_are_cliques_behind)) (by decide +kernel)) (fun _ _ _ _ _ => (pg_name (i := 3) sc_are_cliques_behind.nd rfl (Or.inl rfl))) (fun _ _ _ _ _ => pts_nil) (fun _ _ _ _ _ => (pe_call G_is_clique (hr.mono (by first | decide | omega)) (by rfl) D_is_clique.g D_is_clique.F.kp D_is_clique.b .nil pass0 (pa_cons (pv 2) (pa_cons (pv 3) pa_nil))))) pa_nil)))))), ?_⟩
    refine r_at (σ := [some _, some _, none, none]) rfl ?_
    walk_at "z"
    refine ⟨(n : Int), v, d, rfl, hd, by omega, len, hT, fun r H1 e1 T1 hr1 => ?_⟩
    cases r with
    | false =>
      walk_at "z"
      try refine iteT ?_
      try walk_at "z"
      exact q false H1 e1 T1 ⟨fun h => (nomatch h), fun ⟨ns, e, b, nd, l, _⟩ => by have := hr1.mpr ⟨ns, e, b, nd, l⟩; cases this⟩
    | true =>
      obtain ⟨ns, rfl, bd, nd, ll⟩ := hr1.mp rfl
      cases hd.ext e1 with
      | @tup a xs _ hxs hxd =>
      rw [dx_ints hxd] at hxs
      have hxs : SqT K H1 a (ns.map V.int) := .inl hxs
      have hgr1 := gr_ext e1 hgr
      walk_at "z"
      try refine iteF ?_
      try walk_at "z"
      refine ⟨.ref ga, n, ps, rfl, hgr1, by omega, hlen, inn, fun l ms H2 s2 hms lm mk => ?_⟩
      walk_at "z"
      refine ⟨.ref ga, a, n, ps, ns, rfl, hgr1.tk (.of_same s2), n60, hlen, inn, sqT_sm s2 hxs, bd, nd, fun f ks H3 s3 hf lk hk => ?_⟩
      have hms3 := s3 _ _ hms
      walk_at "z"
      refine r_il (.inl (.inl hf)) fun c hc => lcR_list (xs := ks.map V.int) (fun i H' => Same H3 H' ∧ ∃ bs : List Bool, H' c = some (.lst (bs.map V.bl)) ∧ bs.length = i ∧ (bs.all id = true ↔ ∀ (j : Nat) v, j < i → ns[j]? = some v → CliqE ps fun z => z ∈ adjL ps v.toNat ∧ z ∈ ns.drop (j + 1))) (by walk_at "zw") ⟨same_new hc, [], upd_same, rfl, by simp⟩ (fun i H' _ ⟨s4, _⟩ => .inl (.inl (s4 _ _ hf))) ?_ ?_
      · rintro i y H4 hy ⟨s4, bs, hB, lb, hit⟩
        rw [List.getElem?_map] at hy
        obtain ⟨m, hm, rfl⟩ := Option.map_eq_some_iff.mp hy
        have il := (List.getElem?_eq_some_iff.mp hm).1
        obtain ⟨u, hu⟩ : ∃ u, ns[i]? = some u := ⟨_, List.getElem?_eq_getElem (by omega)⟩
        walk_at "z"
        refine ⟨rfl, ?_⟩
        walk_at "z"
        refine ⟨l, m, ms, ps, _, rfl, s4 _ _ hms3, by omega, mk, hk i u m hu hm, fun j hj => by
          have := bd _ ((List.drop_sublist _ _).mem hj.2)
          omega, fun b H5 s5 hb => ?_⟩
        have hB5 := s5 _ _ hB
        refine r_lce hB5 (small_lt (by rw [List.length_map]; omega)) ⟨same_mut (s4.trans s5) hc, bs ++ [b], by rw [List.map_append]; exact upd_same, by rw [List.length_append, lb]; rfl, ?_⟩
        rw [List.all_append, Bool.and_eq_true, hit]
        simp only [List.all_cons, List.all_nil, Bool.and_true, id]
        rw [hb]
        constructor
        · rintro ⟨h1, h2⟩ j v' jl hv'
          rcases Nat.lt_or_ge j i with c3 | c3
          · exact h1 j v' c3 hv'
          · have ej : j = i := by omega
            rw [ej, hu] at hv'
            cases hv'
            rw [ej]
            exact h2
        · exact fun h => ⟨fun j v' jl hv' => h j v' (by omega) hv', h i u (by omega) hu⟩
      · rintro H4 ⟨s4, bs, hB, lb, hit⟩
        rw [List.length_map] at hit
        walk_at "z"
        refine r_all hB ?_
        have s24 := (s2.trans s3).trans s4
        exact q _ H4 (e1.trans (ext_same s24)) (tabs_same T1 s24) (hit.trans ⟨fun h9 => ⟨ns, rfl, bd, nd, ll, fun j v' hv' => h9 j v' (by have := (List.getElem?_eq_some_iff.mp hv').1; omega) hv'⟩, fun ⟨ms', e, _, _, _, h9⟩ j v' _ hv' => by
          have em := ints_inj (PyData.tuple.inj e)
          rw [em] at hv' ⊢
          exact h9 j v' hv'⟩)
end

set_option Elab.async false
set_option linter.all false
set_option maxRecDepth 100000
set_option maxHeartbeats 4000000
open PySem PySem.Spec PyProof.Rows L2

abbrev s_full_mask : Stmt := topS 34
theorem sc_full_mask : FnScope ["n"] ["n"] (defScope s_full_mask) := ⟨rfl, rfl, rfl, by decide +kernel, rfl, by decide +kernel, by decide +kernel⟩

/-- u and v are neighbours -/
def Nb (ps : List (Int × Int)) (u v : Int) : Prop := (u, v) ∈ ps ∨ (v, u) ∈ ps
instance {ps : List (Int × Int)} {u v : Int} : Decidable (Nb ps u v) := inferInstanceAs (Decidable (_ ∨ _))
theorem mem_adjN {ps : List (Int × Int)} {a z : Int} (h : 0 ≤ a) : z ∈ adjL ps a.toNat ↔ Nb ps a z := by
  rw [mem_adjL, show ((a.toNat : Nat) : Int) = a by omega]
  exact Iff.rfl
theorem Nb.nn {ps : List (Int × Int)} {n a z : Int} (inn : ∀ p ∈ ps, 0 ≤ p.1 ∧ p.1 < p.2 ∧ p.2 < n) (h : Nb ps a z) : 0 ≤ z ∧ z < n ∧ z ≠ a := by
  rcases h with h | h
  · have := inn _ h
    dsimp only at this
    omega
  · have := inn _ h
    dsimp only at this
    omega
theorem Nb.nrm {ps : List (Int × Int)} {n a z : Int} (inn : ∀ p ∈ ps, 0 ≤ p.1 ∧ p.1 < p.2 ∧ p.2 < n) (ne : a ≠ z) : nrm (a, z) ∈ ps ↔ Nb ps a z := by
  unfold Z.nrm Nb
  dsimp only
  rcases Int.lt_or_gt_of_ne ne with c | c
  · rw [show min a z = a by omega, show max a z = z by omega]
    refine ⟨.inl, fun h => h.elim id fun h => ?_⟩
    have := inn _ h
    dsimp only at this
    omega
  · rw [show min a z = z by omega, show max a z = a by omega]
    refine ⟨.inr, fun h => h.elim (fun h => ?_) id⟩
    have := inn _ h
    dsimp only at this
    omega
section
variable {P : Program} {w : World} {K : PySem.W.Frag} {mg : Str → Option Value} {base : Heap}
def spFull : Sp := fun vs H Q _ => ∃ n : Int, vs = [.int n] ∧ 0 ≤ n ∧ n ≤ 1000 ∧ Q (.int (1 * 2 ^ n.toNat - 1)) H
theorem ok_full (T : Blt mg) (D : DefAt K mg "full_mask" s_full_mask ["n"]) : FnOk P w K mg base CX0 1 D.f D.fd ["n"] spFull := by
  refine D.F.ok sc_full_mask (fun vs H Q E h => ?_) (fun cdv A outer s H vs Q E hr h => ?_)
  · obtain ⟨n, rfl, _⟩ := h
    rfl
  · obtain ⟨n, rfl, n0, n1, q⟩ := h
    refine ⟨_, (pss_one (ps_ret (pe_op op_sub (pe_op op_shl pe_int (pv 0)) pe_int))), ?_⟩
    refine r_at (σ := [some _]) rfl ?_
    walk_at "z"
    refine r_i ⟨by omega, by omega, by decide⟩ ?_
    walk_at "z"
    exact q
end

set_option Elab.async false
set_option linter.all false
set_option maxRecDepth 100000
set_option maxHeartbeats 4000000
open PySem PySem.Spec PyProof.Rows L2 LamX

abbrev s_tied : Stmt := topS 71
theorem sc_tied : FnScope ["around", "left", "v"] ["around", "left"] (defScope s_tied) := ⟨rfl, rfl, rfl, by decide +kernel, rfl, by decide +kernel, by decide +kernel⟩

abbrev s_clique_order : Stmt := topS 70
theorem sc_clique_order : FnScope ["graph", "around", "left", "order", "v"] ["graph"] (defScope s_clique_order) := ⟨rfl, rfl, rfl, by decide +kernel, rfl, by decide +kernel, by decide +kernel⟩

abbrev s_path_past : Stmt := topS 69
theorem sc_path_past : FnScope ["graph", "around", "left", "v", "a", "b", "allowed", "u"] ["graph", "around", "left", "v", "a", "b"] (defScope s_path_past) := ⟨rfl, rfl, rfl, by decide +kernel, rfl, by decide +kernel, by decide +kernel⟩

section
variable {P : Program} {w : World} {K : PySem.W.Frag} {mg : Str → Option Value} {base : Heap}
def spWith2 : Sp := fun vs H Q _ => ∃ (x y : Int) (S T : Int → Prop), vs = [.int x, .int y] ∧ Msk x S ∧ Msk y T ∧ ∀ b : Bool, (b = true ↔ ∀ i : Nat, S i → T i) → Q (.bl b) H
theorem ok_with2 (T : Blt mg) (D : DefAt K mg "is_within" s_is_within ["part", "whole"]) : FnOk P w K mg base CX0 1 D.f D.fd ["part", "whole"] spWith2 := by
  refine D.F.ok sc_is_within (fun vs H Q E h => ?_) (fun cdv A outer s H vs Q E hr h => ?_)
  · obtain ⟨x, y, S, T', rfl, _⟩ := h
    rfl
  · obtain ⟨x, y, S, T', rfl, mx, my, q⟩ := h
    refine ⟨_, (pss_one (ps_ret (pe_cmpR op_eq (pe_op op_and (pv 0) (pv 1)) (pv 0) (nomark _)))), ?_⟩
    refine r_at (σ := [some _, some _]) rfl ?_
    walk_at "z"
    refine q _ (decide_eq_true_iff.trans (((mx.and my).eq_iff mx).trans ⟨fun h i hi => ((h i).mpr hi).2, fun h i => ⟨fun k => k.1, fun k => ⟨k, h i k⟩⟩⟩))
/-- the bits of S are neighbours of each other -/
def Cliq (ps : List (Int × Int)) (S : Int → Prop) : Prop := ∀ x y : Int, 0 ≤ x → 0 ≤ y → S x → S y → x ≠ y → Nb ps x y
def spClq : Sp := fun vs H Q _ => ∃ (l : Addr) (m : Int) (ms : List Int) (ps : List (Int × Int)) (S : Int → Prop), vs = [.ref l, .int m] ∧ H l = some (.lst (ms.map V.int)) ∧ ms.length ≤ 60 ∧ (∀ i m, ms[i]? = some m → Msk m (fun z => z ∈ adjL ps i)) ∧ Msk m S ∧ (∀ i : Nat, S i → i < ms.length) ∧
  ∀ (b : Bool) (H' : Hp), Same H H' → (b = true ↔ Cliq ps S) → Q (.bl b) H'
theorem ok_clique30 (T : Blt mg) (z_all : mg "all" = none) (D : DefAt K mg "is_clique" s_is_clique ["around", "mask"]) (D_members_of : DefAt K mg "members_of" s_members_of ["mask"]) (G_members_of : FnOk P w K mg base CX0 1 D_members_of.f D_members_of.fd ["mask"] spMem)
    (D_is_within : DefAt K mg "is_within" s_is_within ["part", "whole"]) (G_is_within : FnOk P w K mg base CX0 1 D_is_within.f D_is_within.fd ["part", "whole"] spWith2) : FnOk P w K mg base CX0 2 D.f D.fd ["around", "mask"] spClq := by
  refine D.F.ok sc_is_clique (fun vs H Q E h => ?_) (fun cdv A outer s H vs Q E hr h => ?_)
  · obtain ⟨l, m, ms, ps, S, rfl, _⟩ := h
    rfl
  · obtain ⟨l, m, ms, ps, S, rfl, hl, m60, mk, mS, sl, q⟩ := h
    refine ⟨_, (pss_one (ps_ret (pe_callB (cr_allK (K := K) rfl rfl) (by rfl) z_all (by decide +kernel) (pa_cons (pe_lc (own := [("v", 2)]) (by rfl) sc_is_clique.nd (PI.tupK (K := K) rfl (pi_tup (pe_call G_members_of (hr.mono (by first | decide | omega)) (by rfl) D_members_of.g D_members_of.F.kp D_members_of.b .nil pass0 (pa_cons (pv 1) pa_nil)))) (blkOk_by (own := [("v", 2)]) (N := ["around", "mask", "v"]) (sc := (defScope s_is_clique)) (by decide +kernel)) (fun _ _ _ _ _ => (pg_name (i := 2) sc_is_clique.nd rfl (Or.inl rfl))) (fun _ _ _ _ _ => pts_nil) (fun _ _ _ _ _ => (pe_call G_is_within (hr.mono (by first | decide | omega)) (by rfl) D_is_within.g D_is_within.F.kp D_is_within.b .nil pass0 (pa_cons (pv 1) (pa_cons (pe_op op_or (pe_ix (ix_listK (K := K) rfl) (pv 0) (pv 2) (fun _ _ => rfl)) (pe_op op_shl pe_int (pv 2))) pa_nil))))) pa_nil)))), ?_⟩
    refine r_at (σ := [some _, some _, none]) rfl ?_
    walk_at "z"
    refine ⟨m, S, rfl, mS, fun i h => by have := sl i h; omega, fun p ns H1 s1 hp _ asc mem => ?_⟩
    have hl1 := s1 _ _ hl
    have nl : ns.length ≤ 60 := asc_len (n := 60) asc fun v hv => by
      obtain ⟨v0, hS⟩ := (mem v).mp hv
      have := sl v.toNat (by rw [show ((v.toNat : Nat) : Int) = v by omega]; exact hS)
      omega
    refine r_it (.inl (.inl hp)) fun c hc => lcR_tup (xs := ns.map V.int) (fun i H' => Same H1 H' ∧ ∃ bs : List Bool, H' c = some (.lst (bs.map V.bl)) ∧ bs.length = i ∧ (bs.all id = true ↔ ∀ v ∈ ns.take i, ∀ j : Nat, S j → (j : Int) ∈ adjL ps v.toNat ∨ (j : Int) = v)) (by walk_at "zw") ⟨same_new hc, [], upd_same, rfl, by simp⟩ (fun i H' _ ⟨s2, _⟩ => .inl (.inl (s2 _ _ hp))) ?_ ?_
    · rintro i x H2 hx ⟨s2, bs, hB, lb, hit⟩
      rw [List.getElem?_map] at hx
      obtain ⟨v, hv, rfl⟩ := Option.map_eq_some_iff.mp hx
      obtain ⟨v0, hS⟩ := (mem v).mp (List.mem_of_getElem? hv)
      have v1 := sl v.toNat (by rw [show ((v.toNat : Nat) : Int) = v by omega]; exact hS)
      obtain ⟨mv, hmv⟩ : ∃ k, ms[v.toNat]? = some k := ⟨_, List.getElem?_eq_getElem v1⟩
      have il := (List.getElem?_eq_some_iff.mp hv).1
      have ix : atI (ms.map V.int) v = some (.int mv) := at_of (j := v.toNat) (by omega) (by rw [List.getElem?_map, hmv]; rfl)
      have hl2 := s2 _ _ hl1
      walk_at "z"
      refine ⟨rfl, ?_⟩
      walk_at "z"
      refine r_i ⟨by omega, by omega, by decide⟩ ?_
      walk_at "z"
      refine ⟨_, _, S, _, rfl, mS, (mk _ _ hmv).or (Msk.shl v0), fun b hb => ?_⟩
      refine r_lce hB (small_lt (by rw [List.length_map]; omega)) ⟨same_mut s2 hc, bs ++ [b], by rw [List.map_append]; exact upd_same, by rw [List.length_append, lb]; rfl, ?_⟩
      rw [List.all_append, Bool.and_eq_true, hit, take_next hv]
      simp only [List.all_cons, List.all_nil, Bool.and_true, id]
      rw [hb]
      constructor
      · rintro ⟨h1, h2⟩ z hz
        rcases List.mem_append.mp hz with c3 | c3
        · exact h1 z c3
        · rw [List.mem_singleton.mp c3]
          exact h2
      · exact fun h => ⟨fun z hz => h z (List.mem_append_left _ hz), h v (List.mem_append_right _ List.mem_cons_self)⟩
    · rintro H2 ⟨s2, bs, hB, lb, hit⟩
      rw [List.length_map, List.take_length] at hit
      walk_at "z"
      refine r_all hB ?_
      refine q _ H2 (s1.trans s2) (hit.trans ⟨fun h x y x0 y0 hx hy ne => ?_, fun h v hv j hj => ?_⟩)
      · rcases h x ((mem x).mpr ⟨x0, hx⟩) y.toNat (by rw [show ((y.toNat : Nat) : Int) = y by omega]; exact hy) with c3 | c3
        · rw [show ((y.toNat : Nat) : Int) = y by omega] at c3
          exact (mem_adjN x0).mp c3
        · omega
      · obtain ⟨v0, hS⟩ := (mem v).mp hv
        by_cases e : (j : Int) = v
        · exact .inr e
        · exact .inl ((mem_adjN v0).mpr (h v j v0 (by omega) hS hj (fun z => e z.symm)))
/-- the neighbours of v in S are neighbours of each other -/
def Simp (ps : List (Int × Int)) (S : Int → Prop) (v : Int) : Prop := Cliq ps fun z => Nb ps v z ∧ S z
def spTied : Sp := fun vs H Q _ => ∃ (l : Addr) (m : Int) (ms : List Int) (ps : List (Int × Int)) (S : Int → Prop), vs = [.ref l, .int m] ∧ H l = some (.lst (ms.map V.int)) ∧ ms.length ≤ 60 ∧ (∀ i m, ms[i]? = some m → Msk m (fun z => z ∈ adjL ps i)) ∧ (∀ p ∈ ps, 0 ≤ p.1 ∧ p.1 < p.2 ∧ p.2 < (ms.length : Int)) ∧ Msk m S ∧ (∀ i : Nat, S i → i < ms.length) ∧
  ∀ (x : V) (H' : Hp), Same H H' → ((x = .non ∧ ∀ v, 0 ≤ v → S v → ¬ Simp ps S v) ∨ ∃ v : Int, x = .int v ∧ 0 ≤ v ∧ S v ∧ Simp ps S v) → Q x H'
theorem ok_tied (T : Blt mg) (D : DefAt K mg "_tied" s_tied ["around", "left"]) (D_members_of : DefAt K mg "members_of" s_members_of ["mask"]) (G_members_of : FnOk P w K mg base CX0 1 D_members_of.f D_members_of.fd ["mask"] spMem)
    (D_is_clique : DefAt K mg "is_clique" s_is_clique ["around", "mask"]) (G_is_clique : FnOk P w K mg base CX0 2 D_is_clique.f D_is_clique.fd ["around", "mask"] spClq) : FnOk P w K mg base CX0 3 D.f D.fd ["around", "left"] spTied := by
  refine D.F.ok sc_tied (fun vs H Q E h => ?_) (fun cdv A outer s H vs Q E hr h => ?_)
  · obtain ⟨l, m, ms, ps, S, rfl, _⟩ := h
    rfl
  · obtain ⟨l, m, ms, ps, S, rfl, hl, m60, mk, inn, mS, sl, q⟩ := h
    refine ⟨_, (pss_cons (ps_for PassesOwn.never (by rfl) (PI.tupK (K := K) rfl (pi_tup (pe_call G_members_of (hr.mono (by first | decide | omega)) (by rfl) D_members_of.g D_members_of.F.kp D_members_of.b .nil pass0 (pa_cons (pv 1) pa_nil)))) (pg_name (i := 2) sc_tied.nd rfl (Or.inl rfl))
        (pss_one (ps_if (pt_val (pe_call G_is_clique (hr.mono (by first | decide | omega)) (by rfl) D_is_clique.g D_is_clique.F.kp D_is_clique.b .nil pass0 (pa_cons (pv 0) (pa_cons (pe_op op_and (pe_ix (ix_listK (K := K) rfl) (pv 0) (pv 2) (fun _ _ => rfl)) (pv 1)) pa_nil))))
          (pss_one (ps_ret (pv 2)))
          pss_nil)))
      (pss_one (ps_ret pe_non))), ?_⟩
    refine r_at (σ := [some _, some _, none]) rfl ?_
    walk_at "z"
    refine ⟨m, S, rfl, mS, fun i h => by have := sl i h; omega, fun p ns H1 s1 hp _ asc mem => ?_⟩
    have hl1 := s1 _ _ hl
    refine r_it (.inl (.inl hp)) (forR_tup (xs := ns.map V.int) (fun i σ' H' => (∃ x2, σ' = [some (.ref l), some (.int m), x2]) ∧ Same H1 H' ∧ ∀ v ∈ ns.take i, ¬ Simp ps S v) ⟨⟨_, rfl⟩, Same.refl _, fun v hv => by simp at hv⟩ (fun i σ' H' _ ⟨_, s2, _⟩ => .inl (.inl (s2 _ _ hp))) ?_ ?_)
    · rintro i x σ' H2 hx ⟨⟨x2, rfl⟩, s2, no⟩
      rw [List.getElem?_map] at hx
      obtain ⟨v, hv, rfl⟩ := Option.map_eq_some_iff.mp hx
      obtain ⟨v0, hS⟩ := (mem v).mp (List.mem_of_getElem? hv)
      have v1 := sl v.toNat (by rw [show ((v.toNat : Nat) : Int) = v by omega]; exact hS)
      obtain ⟨mv, hmv⟩ : ∃ k, ms[v.toNat]? = some k := ⟨_, List.getElem?_eq_getElem v1⟩
      have ix : atI (ms.map V.int) v = some (.int mv) := at_of (j := v.toNat) (by omega) (by rw [List.getElem?_map, hmv]; rfl)
      have hl2 := s2 _ _ hl1
      walk_at "z"
      have kv := ((mk _ _ hmv).congr fun i => mem_adjN (ps := ps) (z := i) v0).and mS
      refine ⟨l, _, ms, ps, _, rfl, hl2, m60, mk, kv, fun i h => sl i h.2, fun b H3 s3 hb => ?_⟩
      walk_at "z"
      cases b with
      | true =>
        refine iteT ?_
        walk_at "z"
        exact q _ H3 ((s1.trans s2).trans s3) (.inr ⟨v, rfl, v0, hS, hb.mp rfl⟩)
      | false =>
        refine iteF ?_
        walk_at "z"
        refine ⟨⟨_, rfl⟩, s2.trans s3, fun u hu => ?_⟩
        rw [take_next hv] at hu
        rcases List.mem_append.mp hu with c | c
        · exact no u c
        · rw [List.mem_singleton.mp c]
          exact fun z => absurd (hb.mpr z) (by decide)
    · rintro σ' H2 ⟨⟨x2, rfl⟩, s2, no⟩
      rw [List.length_map, List.take_length] at no
      walk_at "z"
      exact q _ H2 (s1.trans s2) (.inl ⟨rfl, fun v v0 hS => no v ((mem v).mpr ⟨v0, hS⟩)⟩)
/-- each vertex of C has two neighbours in C that are none of each other -/
def Holey (ps : List (Int × Int)) (C : Int → Prop) : Prop := ∀ v, C v → ∃ x y, C x ∧ C y ∧ Nb ps v x ∧ Nb ps v y ∧ x ≠ y ∧ ¬ Nb ps x y
theorem Holey.not_simp {ps : List (Int × Int)} {n : Int} (inn : ∀ p ∈ ps, 0 ≤ p.1 ∧ p.1 < p.2 ∧ p.2 < n) {C S : Int → Prop} (h : Holey ps C) (sub : ∀ v, C v → S v) {v : Int} (hv : C v) : ¬ Simp ps S v := fun k => by
  obtain ⟨x, y, cx, cy, nx, ny, ne, nn⟩ := h v hv
  exact nn (k x y (nx.nn inn).1 (ny.nn inn).1 ⟨nx, sub x cx⟩ ⟨ny, sub y cy⟩ ne)
/-- a row in which each vertex has neighbours behind it, and left, that are neighbours of each other -/
def Elim (ps : List (Int × Int)) (os : List Int) (S : Int → Prop) : Prop := ∀ (i : Nat) v, os[i]? = some v → Cliq ps fun z => Nb ps v z ∧ (z ∈ os.drop (i + 1) ∨ S z)
theorem Elim.nil {ps : List (Int × Int)} {S : Int → Prop} : Elim ps [] S := fun i v h => by simp at h
theorem Elim.mono {ps : List (Int × Int)} {os : List Int} {S S' : Int → Prop} (h : Elim ps os S) (sub : ∀ z, 0 ≤ z → S' z → S z) : Elim ps os S' := fun i v hv x y x0 y0 hx hy ne =>
  h i v hv x y x0 y0 ⟨hx.1, hx.2.imp id (sub x x0)⟩ ⟨hy.1, hy.2.imp id (sub y y0)⟩ ne
theorem Elim.step {ps : List (Int × Int)} {os : List Int} {S S' : Int → Prop} {v : Int} (h : Elim ps os S) (hv : S v) (sim : Simp ps S v) (sub : ∀ z, S' z → S z) : Elim ps (os ++ [v]) S' := fun i u hu x y x0 y0 hx hy ne => by
  rcases Nat.lt_or_ge i os.length with c | c
  · rw [List.getElem?_append_left c] at hu
    have key : ∀ z, (z ∈ (os ++ [v]).drop (i + 1) ∨ S' z) → z ∈ os.drop (i + 1) ∨ S z := fun z hz => by
      rcases hz with k | k
      · rw [List.drop_append_of_le_length (by omega)] at k
        rcases List.mem_append.mp k with k | k
        · exact .inl k
        · rw [List.mem_singleton.mp k]
          exact .inr hv
      · exact .inr (sub z k)
    exact h i u hu x y x0 y0 ⟨hx.1, key x hx.2⟩ ⟨hy.1, key y hy.2⟩ ne
  · have il := (List.getElem?_eq_some_iff.mp hu).1
    rw [List.length_append] at il
    simp only [List.length_cons, List.length_nil] at il
    have e : i = os.length := by omega
    subst e
    rw [List.getElem?_append_right (Nat.le_refl _), Nat.sub_self] at hu
    cases (show some v = some u from hu)
    have key : ∀ z, (z ∈ (os ++ [v]).drop (os.length + 1) ∨ S' z) → S z := fun z hz => by
      rcases hz with k | k
      · rw [List.drop_of_length_le (by rw [List.length_append]; simp)] at k
        cases k
      · exact sub z k
    exact sim x y x0 y0 ⟨hx.1, key x hx.2⟩ ⟨hy.1, key y hy.2⟩ ne
theorem not_simp_of {ps : List (Int × Int)} {S : Int → Prop} {v : Int} (h : ¬ Simp ps S v) : ∃ x y, 0 ≤ x ∧ 0 ≤ y ∧ S x ∧ S y ∧ Nb ps v x ∧ Nb ps v y ∧ x ≠ y ∧ ¬ Nb ps x y := Classical.byContradiction fun z => h fun x y x0 y0 hx hy ne => Classical.byContradiction fun k => z ⟨x, y, x0, y0, hx.2, hy.2, hx.1, hy.1, ne, k⟩
def spOrder : Sp := fun vs H Q _ => ∃ (g : V) (n : Nat) (ps : List (Int × Int)), vs = [g] ∧ GrAt H g (n : Int) ps ∧ n ≤ 60 ∧ ps.length ≤ 10000 ∧ (∀ p ∈ ps, 0 ≤ p.1 ∧ p.1 < p.2 ∧ p.2 < (n : Int)) ∧
  ∀ (t p1 p2 : Addr) (os ns : List Int) (H' : Hp), Same H H' → H' t = some (.tup [.ref p1, .ref p2]) → H' p1 = some (.tup (os.map V.int)) → H' p2 = some (.tup (ns.map V.int)) → ns.Pairwise (· < ·) → (∀ z ∈ ns, 0 ≤ z ∧ z < (n : Int)) → (∀ C : Int → Prop, (∀ v, C v → 0 ≤ v ∧ v < (n : Int)) → Holey ps C → ∀ v, C v → v ∈ ns) → os.Nodup → (∀ z ∈ os, 0 ≤ z ∧ z < (n : Int)) → (ns = [] → os.length = n) → Elim ps os (fun z => z ∈ ns) → Holey ps (fun z => z ∈ ns) → Q (.ref t) H'
theorem ok_order (T : Blt mg) (D : DefAt K mg "clique_order" s_clique_order ["graph"]) (D_neighbour_masks : DefAt K mg "neighbour_masks" s_neighbour_masks ["graph"]) (G_neighbour_masks : FnOk P w K mg base CX0 2 D_neighbour_masks.f D_neighbour_masks.fd ["graph"] spNMasks)
    (D_full_mask : DefAt K mg "full_mask" s_full_mask ["n"]) (G_full_mask : FnOk P w K mg base CX0 1 D_full_mask.f D_full_mask.fd ["n"] spFull)
    (D_tied : DefAt K mg "_tied" s_tied ["around", "left"]) (G_tied : FnOk P w K mg base CX0 3 D_tied.f D_tied.fd ["around", "left"] spTied)
    (D_members_of : DefAt K mg "members_of" s_members_of ["mask"]) (G_members_of : FnOk P w K mg base CX0 1 D_members_of.f D_members_of.fd ["mask"] spMem) : FnOk P w K mg base CX0 4 D.f D.fd ["graph"] spOrder := by
  refine D.F.ok sc_clique_order (fun vs H Q E h => ?_) (fun cdv A outer s H vs Q E hr h => ?_)
  · obtain ⟨g, n, ps, rfl, _⟩ := h
    rfl
  · obtain ⟨g, n, ps, rfl, hgr, n60, hlen, inn, q⟩ := h
    obtain ⟨ga, e, rfl, hg, he⟩ := id hgr
    refine ⟨_, (pss_cons (ps_set (i := 1) sc_clique_order.nd rfl (Or.inl rfl) (pe_call G_neighbour_masks (hr.mono (by first | decide | omega)) (by rfl) D_neighbour_masks.g D_neighbour_masks.F.kp D_neighbour_masks.b .nil pass0 (pa_cons (pv 0) pa_nil)))
      (pss_cons (ps_set (i := 2) sc_clique_order.nd rfl (Or.inl rfl) (pe_call G_full_mask (hr.mono (by first | decide | omega)) (by rfl) D_full_mask.g D_full_mask.F.kp D_full_mask.b .nil pass0 (pa_cons (pe_ix (ix_tupK (K := K) rfl) (pv 0) pe_int (fun _ _ => rfl)) pa_nil)))
      (pss_cons (ps_set (i := 3) sc_clique_order.nd rfl (Or.inl rfl) (pe_lst pa_nil))
      (pss_cons (ps_set (i := 4) sc_clique_order.nd rfl (Or.inl rfl) (pe_call G_tied (hr.mono (by first | decide | omega)) (by rfl) D_tied.g D_tied.F.kp D_tied.b .nil pass0 (pa_cons (pv 1) (pa_cons (pv 2) pa_nil))))
      (pss_cons (ps_while PassesOwn.never (pt_cmpR op_notN (pv 4) pe_non (nomark _))
        (pss_cons (ps_expr (PE.bmK (K := K) rfl (pe_bm PySem.F.plainAttrs_list PySem.F.slot_list_append PySem.F.type_list_append mt_append (pv 3) (pa_cons (pv 4) pa_nil))))
        (pss_cons (ps_aug (i := 2) sc_clique_order.nd rfl (Or.inl rfl) (pe_un un_inv (pe_op op_shl pe_int (pv 4))) iop_and)
        (pss_one (ps_set (i := 4) sc_clique_order.nd rfl (Or.inl rfl) (pe_call G_tied (hr.mono (by first | decide | omega)) (by rfl) D_tied.g D_tied.F.kp D_tied.b .nil pass0 (pa_cons (pv 1) (pa_cons (pv 2) pa_nil))))))))
      (pss_one (ps_ret (pe_tup (pa_cons (pe_callTy (call_tupleK (K := K) rfl) (by rfl) T.tuple (by decide +kernel) (pa_cons (pv 3) pa_nil)) (pa_cons (pe_call G_members_of (hr.mono (by first | decide | omega)) (by rfl) D_members_of.g D_members_of.F.kp D_members_of.b .nil pass0 (pa_cons (pv 2) pa_nil)) pa_nil)))))))))), ?_⟩
    refine r_at (σ := [some _, none, none, none, none]) rfl ?_
    walk_at "z"
    refine ⟨_, n, ps, rfl, hgr, by omega, hlen, inn, fun l ms H1 s1 hl lm mk => ?_⟩
    have inn' : ∀ p ∈ ps, 0 ≤ p.1 ∧ p.1 < p.2 ∧ p.2 < (ms.length : Int) := by
      rw [lm]
      exact inn
    have hg1 := s1 _ _ hg
    walk_at "z"
    refine ⟨n, rfl, by omega, by omega, ?_⟩
    walk_at "z"
    refine r_lstN (Nat.zero_le _) fun o ho => ?_
    have s2 : Same H (upd H1 o (.lst [])) := s1.trans (same_new ho)
    have oH := s1.free ho
    have oH' := ho
    have hl1' := hl
    have ho2 : (upd H1 o (.lst [])) o = some (.lst (([] : List Int).map V.int)) := upd_same
    have hl2 := same_new (o := .lst []) ho _ _ hl
    generalize upd H1 o (.lst []) = H2 at s2 ho2 hl2 ⊢
    have mF : Msk (1 * 2 ^ ((n : Int)).toNat - 1) (fun i => i < (n : Int)) := Msk.full (by omega)
    walk_at "z"
    refine ⟨l, _, ms, ps, _, rfl, hl2, by omega, mk, inn', mF, fun i h => by omega, fun x0 H3 s3 hx0 => ?_⟩
    have ho3 := s3 _ _ ho2
    have hl3 := s3 _ _ hl2
    walk_at "z"
    let W : Nat → L2.St → Hp → Prop := fun m σ' H' => ∃ (x0 : V) (mask : Int) (S : Int → Prop) (os : List Int), σ' = [some (.ref ga), some (.ref l), some (.int mask), some (.ref o), some x0] ∧ m = n - os.length ∧ Same H H' ∧ H' l = some (.lst (ms.map V.int)) ∧ H' o = some (.lst (os.map V.int)) ∧ os.Nodup ∧ (∀ z ∈ os, z ∈ rgI (n : Int) ∧ ¬ S z) ∧ Msk mask S ∧ (∀ i : Nat, S i → i < ms.length) ∧
      ((x0 = .non ∧ ∀ v, 0 ≤ v → S v → ¬ Simp ps S v) ∨ ∃ v : Int, x0 = .int v ∧ 0 ≤ v ∧ S v ∧ Simp ps S v) ∧ (∀ C : Int → Prop, (∀ v, C v → 0 ≤ v ∧ v < (n : Int)) → Holey ps C → ∀ v, C v → S v) ∧ Elim ps os S ∧ (∀ z : Int, 0 ≤ z → z < (n : Int) → z ∈ os ∨ S z)
    have start : W n [some (.ref ga), some (.ref l), some (.int (1 * 2 ^ ((n : Int)).toNat - 1)), some (.ref o), some x0] H3 := ⟨x0, _, _, [], rfl, rfl, s2.trans s3, hl3, ho3, .nil, fun z hz => (nomatch hz), mF, fun i h => by omega, hx0, fun C hC _ v hv => (hC v hv).2, .nil, fun z _ hz => .inr hz⟩
    refine r_while W _ start ?_
    rintro m σ' H4 ⟨x1, mask, S, os, rfl, rfl, s4, hl4, ho4, nd, osn, mS, sl, hx1, hC, hel, hall⟩
    have lol : os.length ≤ n := by
      have := nodup_le os (rgI (n : Int)) nd fun z hz => (osn z hz).1
      rw [rgI_len] at this
      omega
    rcases hx1 with ⟨rfl, no⟩ | ⟨v, rfl, v0, hS, hsim⟩
    · walk_at "z"
      refine ⟨rfl, ?_⟩
      walk_at "z"
      refine iteF ?_
      walk_at "z"
      refine r_tupL (.inl (.inl ho4)) fun p1 hp1 => ?_
      have hp1' : (upd H4 p1 (.tup (os.map V.int))) p1 = some (.tup (os.map V.int)) := upd_same
      have s5 := s4.trans (same_new (o := .tup (os.map V.int)) hp1)
      generalize upd H4 p1 (.tup (os.map V.int)) = H5 at s5 hp1' ⊢
      walk_at "z"
      refine ⟨mask, S, rfl, mS, fun i h => by have := sl i h; omega, fun p2 ns H6 s6 hp2 _ asc mem => ?_⟩
      walk_at "z"
      refine r_tupN sz2 fun t ht => ?_
      have st := same_new (o := .tup [.ref p1, .ref p2]) ht
      refine q t p1 p2 os ns _ ((s5.trans s6).trans st) upd_same (st _ _ (s6 _ _ hp1')) (st _ _ hp2) asc (fun z hz => ?_) (fun C c1 c2 v hv => (mem v).mpr ⟨(c1 v hv).1, hC C c1 c2 v hv⟩) nd (fun z hz => mem_rgI.mp (osn z hz).1) (fun e => ?_) (hel.mono fun z _ hz => ((mem z).mp hz).2) (fun v hv => (not_simp_of (no v ((mem v).mp hv).1 ((mem v).mp hv).2)).imp fun x ⟨y, x0, y0, sx, sy, vx, vy, ne, nn⟩ => ⟨y, (mem x).mpr ⟨x0, sx⟩, (mem y).mpr ⟨y0, sy⟩, vx, vy, ne, nn⟩)
      rotate_left
      · have h1 := nodup_le (rgI (n : Int)) os (rgI_nodup (n : Int)) fun z hz => by
          obtain ⟨z0, z1⟩ := mem_rgI.mp hz
          rcases hall z z0 z1 with c | c
          · exact c
          · have := (mem z).mpr ⟨z0, c⟩
            rw [e] at this
            cases this
        rw [rgI_len] at h1
        omega
      obtain ⟨z0, hz⟩ := (mem z).mp hz
      have := sl z.toNat (by rw [show ((z.toNat : Nat) : Int) = z by omega]; exact hz)
      omega
    · have vm := sl v.toNat (by rw [show ((v.toNat : Nat) : Int) = v by omega]; exact hS)
      have vr : v ∈ rgI (n : Int) := mem_rgI.mpr ⟨v0, by omega⟩
      have nd2 : (os ++ [v]).Nodup := List.nodup_append.mpr ⟨nd, by simp, fun x hx y hy e => (osn x hx).2 (by rw [e, List.mem_singleton.mp hy]; exact hS)⟩
      have lo2 : os.length + 1 ≤ n := by
        have := nodup_le (os ++ [v]) (rgI (n : Int)) nd2 fun z hz => by
          rcases List.mem_append.mp hz with c | c
          · exact (osn z c).1
          · rw [List.mem_singleton.mp c]
            exact vr
        rw [rgI_len, List.length_append] at this
        simp only [List.length_cons, List.length_nil] at this
        omega
      walk_at "z"
      refine ⟨rfl, ?_⟩
      walk_at "z"
      refine iteT (r_whGo ?_)
      walk_at "z"
      refine r_appT ho4 (small_lt (by rw [List.length_map]; omega)) ?_
      have lo : l ≠ o := fun z => by
        rw [z, oH'] at hl1'
        cases hl1'
      have s5 : Same H (upd H4 o (.lst (os.map V.int ++ [V.int v]))) := same_mut s4 oH
      have ho5 : (upd H4 o (.lst (os.map V.int ++ [V.int v]))) o = some (.lst ((os ++ [v]).map V.int)) := by
        rw [List.map_append]
        exact upd_same
      have hl5 := (upd_ne (H := H4) (o := .lst (os.map V.int ++ [V.int v])) lo).trans hl4
      generalize upd H4 o (.lst (os.map V.int ++ [V.int v])) = H5 at s5 ho5 hl5 ⊢
      have m5 := mS.andB (Msk.shl v0).bts.not
      walk_at "z"
      refine r_aug rfl ?_
      walk_at "z"
      refine r_i ⟨by omega, by omega, by decide⟩ ?_
      walk_at "z"
      refine r_augI rfl ?_
      walk_at "z"
      refine ⟨l, _, ms, ps, _, rfl, hl5, by omega, mk, inn', m5, fun i h => sl i h.1, fun x6 H6 s6 hx6 => ?_⟩
      walk_at "z"
      refine ⟨n - (os.length + 1), by omega, x6, _, _, os ++ [v], rfl, by rw [List.length_append]; rfl, s5.trans s6, s6 _ _ hl5, s6 _ _ ho5, nd2, fun z hz => ?_, m5, fun i h => sl i h.1, hx6, fun C c1 c2 u hu => ⟨hC C c1 c2 u hu, fun e => ?_⟩, hel.step hS hsim fun z hz => hz.1, fun z z0 z1 => ?_⟩
      · rcases List.mem_append.mp hz with c | c
        · exact ⟨(osn z c).1, fun h => (osn z c).2 h.1⟩
        · rw [List.mem_singleton.mp c]
          exact ⟨vr, fun h => h.2 rfl⟩
      · rw [e] at hu
        exact (c2.not_simp inn (hC C c1 c2) hu) hsim
      · rcases hall z z0 z1 with c | c
        · exact .inl (List.mem_append_left _ c)
        · by_cases e : z = v
          · rw [e]
            exact .inl (List.mem_append_right _ List.mem_cons_self)
          · exact .inr ⟨c, e⟩
end

set_option Elab.async false
set_option linter.all false
set_option maxRecDepth 100000
set_option maxHeartbeats 4000000
open PySem PySem.Spec PyProof.Rows L2 LamX

/-- where a way past v may go -/
def AA (ps : List (Int × Int)) (ns : List Int) (v a b z : Int) : Prop := (z ∈ ns ∧ ¬ Nb ps v z ∧ z ≠ v) ∨ z = a ∨ z = b
instance {ps : List (Int × Int)} {ns : List Int} {v a b z : Int} : Decidable (AA ps ns v a b z) := inferInstanceAs (Decidable (_ ∨ _))
/-- a way by a relation, as short as can be -/
def GeoR (R : Int → Int → Prop) (a v : Int) (path : List Int) : Prop := path[0]? = some a ∧ path.getLast? = some v ∧ (∀ (i : Nat) x y, path[i]? = some x → path[i + 1]? = some y → R x y) ∧ ∃ dd : Int → Nat, ∀ (i : Nat) x, path[i]? = some x → dd x = i ∧ ∀ q, R x q → dd q ≤ i + 1
def ouL (ps : List (Int × Int)) (ns : List Int) (v a b : Int) (k : Nat) : List Int := ((List.range k).map fun (i : Nat) => (i : Int)).filter fun z => decide (¬ AA ps ns v a b z)
theorem ouL_len (ps : List (Int × Int)) (ns : List Int) (v a b : Int) (k : Nat) : (ouL ps ns v a b k).length ≤ k := by
  unfold ouL
  refine Nat.le_trans (List.length_filter_le _ _) ?_
  rw [List.length_map, List.length_range]
  exact Nat.le_refl _
theorem mem_ouL {ps : List (Int × Int)} {ns : List Int} {v a b : Int} {n : Nat} {z : Int} : z ∈ ouL ps ns v a b n ↔ (0 ≤ z ∧ z < (n : Int)) ∧ ¬ AA ps ns v a b z := by
  unfold ouL
  rw [List.mem_filter, decide_eq_true_eq, List.mem_map]
  constructor
  · rintro ⟨⟨i, hi, rfl⟩, h⟩
    have := List.mem_range.mp hi
    exact ⟨⟨by omega, by omega⟩, h⟩
  · rintro ⟨⟨h1, h2⟩, h⟩
    exact ⟨⟨z.toNat, List.mem_range.mpr (by omega), by omega⟩, h⟩
section
variable {P : Program} {w : World} {K : PySem.W.Frag} {mg : Str → Option Value} {base : Heap}
def spPast (T : List (Addr × Str)) : Sp := fun vs H Q _ => ∃ (g : V) (l lt : Addr) (n : Nat) (ps : List (Int × Int)) (ms ns : List Int) (v a b : Int), vs = [g, .ref l, .ref lt, .int v, .int a, .int b] ∧ GrAt H g (n : Int) ps ∧ n ≤ 60 ∧ ps.length ≤ 10000 ∧ (∀ p ∈ ps, 0 ≤ p.1 ∧ p.1 < p.2 ∧ p.2 < (n : Int)) ∧
  H l = some (.lst (ms.map V.int)) ∧ ms.length = n ∧ (∀ i m, ms[i]? = some m → Msk m (fun z => z ∈ adjL ps i)) ∧ H lt = some (.tup (ns.map V.int)) ∧ (∀ z ∈ ns, 0 ≤ z ∧ z < (n : Int)) ∧ (0 ≤ v ∧ v < (n : Int)) ∧ (0 ≤ a ∧ a < (n : Int)) ∧ (0 ≤ b ∧ b < (n : Int)) ∧ Tabs T H ∧
  ∀ (x : V) (H' : Hp), ExtN H H' → Tabs T H' → ((x = .non ∧ ¬ Rch (fun x y => Nb ps x y ∧ AA ps ns v a b y) a b) ∨ ∃ (p : Addr) (path : List Int), x = .ref p ∧ H' p = some (.tup (path.map V.int)) ∧ GeoR (fun x y => Nb ps x y ∧ AA ps ns v a b y) a b path ∧ ∀ x ∈ path, x ∈ rgI (n : Int)) → Q x H'
theorem ok_past {TB : List (Addr × Str)} (T : Blt mg) (D : DefAt K mg "_path_past" s_path_past ["graph", "around", "left", "v", "a", "b"]) (D_mask_of : DefAt K mg "mask_of" s_mask_of ["members"]) (G_mask_of : FnOk P w K mg base CX0 1 D_mask_of.f D_mask_of.fd ["members"] (spMask K))
    (D_has : DefAt K mg "has" s_has ["mask", "v"]) (G_has : FnOk P w K mg base CX0 1 D_has.f D_has.fd ["mask", "v"] spHas)
    (D_shortest_path : DefAt K mg "shortest_path" s_shortest_path ["graph", "u", "v", "avoided"]) (G_shortest_path : FnOk P w K mg base CX0 6 D_shortest_path.f D_shortest_path.fd ["graph", "u", "v", "avoided"] (spSPath TB)) :
    FnOk P w K mg base CX0 7 D.f D.fd ["graph", "around", "left", "v", "a", "b"] (spPast TB) := by
  refine D.F.ok sc_path_past (fun vs H Q E h => ?_) (fun cdv A outer s H vs Q E hr h => ?_)
  · obtain ⟨g, l, lt, n, ps, ms, ns, v, a, b, rfl, _⟩ := h
    rfl
  · obtain ⟨g, l, lt, n, ps, ms, ns, v, a, b, rfl, hgr, n60, hlen, inn, hl, lm, mk, hlt, bd, ⟨v0, v1⟩, ⟨a0, a1⟩, ⟨b0, b1⟩, hT, q⟩ := h
    obtain ⟨ga, e, rfl, hg, he⟩ := id hgr
    obtain ⟨mv, hmv⟩ : ∃ k, ms[v.toNat]? = some k := ⟨_, List.getElem?_eq_getElem (by omega)⟩
    have ix : atI (ms.map V.int) v = some (.int mv) := at_of (j := v.toNat) (by omega) (by rw [List.getElem?_map, hmv]; rfl)
    have kv := (mk _ _ hmv).congr fun i => mem_adjN (ps := ps) (z := i) v0
    refine ⟨_, (pss_cons (ps_set (i := 6) sc_path_past.nd rfl (Or.inr rfl) (pe_op op_or (pe_op op_or (pe_op op_and (pe_op op_and (pe_call G_mask_of (hr.mono (by first | decide | omega)) (by rfl) D_mask_of.g D_mask_of.F.kp D_mask_of.b .nil pass0 (pa_cons (pv 2) pa_nil)) (pe_un un_inv (pe_ix (ix_listK (K := K) rfl) (pv 1) (pv 3) (fun _ _ => rfl)))) (pe_un un_inv (pe_op op_shl pe_int (pv 3)))) (pe_op op_shl pe_int (pv 4))) (pe_op op_shl pe_int (pv 5))))
      (pss_one (ps_ret (pe_call G_shortest_path (hr.mono (by first | decide | omega)) (by rfl) D_shortest_path.g D_shortest_path.F.kp D_shortest_path.b .nil pass0 (pa_cons (pv 0) (pa_cons (pv 4) (pa_cons (pv 5) (pa_cons (pe_lc (own := [("u", 7)]) (by rfl) sc_path_past.nd (pi_range1 (by rfl) T.range (pa_cons (pe_ix (ix_tupK (K := K) rfl) (pv 0) pe_int (fun _ _ => rfl)) pa_nil)) (blkOk_by (own := [("u", 7)]) (N := ["graph", "around", "left", "v", "a", "b", "allowed", "u"]) (sc := (defScope s_path_past)) (by decide +kernel)) (fun _ _ _ _ _ => (pg_name (i := 7) sc_path_past.nd rfl (Or.inl rfl))) (fun _ _ _ _ _ => (pts_one (pt_not (pt_val (pe_call G_has (hr.mono (by first | decide | omega)) (by rfl) D_has.g D_has.F.kp D_has.b .nil pass0 (pa_cons (pv 6) (pa_cons (pv 7) pa_nil))))))) (fun _ _ _ _ _ => (pv 7))) pa_nil)))))))), ?_⟩
    refine r_at (σ := [some _, some _, some _, some _, some _, some _, none, none]) rfl ?_
    walk_at "z"
    refine ⟨lt, ns, rfl, .inr (.inl (.inl hlt)), fun z hz => by have := bd z hz; omega, fun x mx => ?_⟩
    walk_at "z"
    refine r_i ⟨by omega, by omega, by decide⟩ ?_
    walk_at "z"
    refine r_i ⟨by omega, by omega, by decide⟩ ?_
    walk_at "z"
    refine r_i ⟨by omega, by omega, by decide⟩ ?_
    walk_at "z"
    have mA := ((((mx.andB kv.bts.not).andB (Msk.shl v0).bts.not).or (Msk.shl a0)).or (Msk.shl b0)).congr (T := fun i => AA ps ns v a b i) fun i => by
      unfold AA
      constructor
      · rintro ((⟨⟨h1, h2⟩, h3⟩ | h) | h)
        · exact .inl ⟨h1, h2, h3⟩
        · exact .inr (.inl h)
        · exact .inr (.inr h)
      · rintro (⟨h1, h2, h3⟩ | h | h)
        · exact .inl (.inl ⟨⟨h1, h2⟩, h3⟩)
        · exact .inl (.inr h)
        · exact .inr h
    refine r_rg1 (by omega) fun c hc => lcR_range (fun i H' => Same H H' ∧ H' c = some (.lst ((ouL ps ns v a b i).map V.int))) (by walk_at "zw") ⟨same_new hc, upd_same⟩ ?_ ?_
    · rintro i H1 hi ⟨s1, hc1⟩
      have e0 : (0 : Int) + (i : Int) = i := by omega
      have hi : i < n := by omega
      walk_at "z"
      refine ⟨rfl, ?_⟩
      rw [e0]
      walk_at "z"
      refine ⟨_, (i : Int), _, rfl, mA, by omega, by omega, fun bb hb => ?_⟩
      have step : ouL ps ns v a b (i + 1) = ouL ps ns v a b i ++ (if ¬ AA ps ns v a b (i : Int) then [(i : Int)] else []) := by
        unfold ouL
        rw [List.range_succ, List.map_append, List.filter_append]
        simp only [List.map_cons, List.map_nil, List.filter_cons, List.filter_nil]
        congr 1
        by_cases h : AA ps ns v a b (i : Int) <;> simp [h]
      have l1 := ouL_len ps ns v a b i
      walk_at "z"
      cases bb with
      | true =>
        refine iteF ⟨s1, ?_⟩
        rw [step, if_neg (fun z => z (hb.mp rfl)), List.append_nil]
        exact hc1
      | false =>
        refine iteT ?_
        walk_at "z"
        refine r_lce hc1 (small_lt (by rw [List.length_map]; omega)) ⟨same_mut s1 hc, ?_⟩
        rw [step, if_pos (fun z => absurd (hb.mpr z) (by decide)), List.map_append]
        exact upd_same
    · rintro H1 ⟨s1, hc1⟩
      rw [show (n : Int).toNat = n by omega] at hc1
      walk_at "z"
      have key : ∀ x y : Int, 0 ≤ x → (y ∈ avL ps (ouL ps ns v a b n) x ↔ Nb ps x y ∧ AA ps ns v a b y) := fun x y x0 => by
        unfold avL
        rw [List.mem_filter, decide_eq_true_eq, mem_adjN x0, mem_ouL]
        constructor
        · rintro ⟨h1, h2⟩
          have := h1.nn inn
          exact ⟨h1, Classical.byContradiction fun z => h2 ⟨⟨by omega, by omega⟩, z⟩⟩
        · rintro ⟨h1, h2⟩
          exact ⟨h1, fun z => z.2 h2⟩
      refine ⟨_, n, ps, a, b, c, ouL ps ns v a b n, rfl, hgr.tk (.of_same s1), n60, hlen, inn, hc1, mem_rgI.mpr ⟨a0, a1⟩, hT.ext s1, fun x H2 e2 T2 hx => ?_⟩
      refine q x H2 ((ext_same s1).trans e2) T2 ?_
      rcases hx with ⟨rfl, no⟩ | ⟨p, path, rfl, hp, ⟨g1, g2, g3, dd, g4⟩, sub, _⟩
      · exact .inl ⟨rfl, fun h => no (h.congr fun x y z => (key x y (Nb.nn (ps := ps) (a := y) (z := x) inn z.1.symm).1).mpr z)⟩
      · have x0 : ∀ {i : Nat} {x : Int}, path[i]? = some x → 0 ≤ x := fun h => (mem_rgI.mp (sub _ (List.mem_of_getElem? h))).1
        exact .inr ⟨p, path, rfl, hp, ⟨g1, g2, fun i x y h1 h2 => (key x y (x0 h1)).mp (g3 i x y h1 h2), dd, fun i x h => ⟨(g4 i x h).1, fun q hq => (g4 i x h).2 q ((key x q (x0 h)).mpr hq)⟩⟩, sub⟩
end

set_option Elab.async false
set_option linter.all false
set_option maxRecDepth 100000
set_option maxHeartbeats 4000000
open PySem PySem.Spec PyProof.Rows L2 LamX

abbrev s_find_hole : Stmt := topS 68
theorem sc_find_hole : FnScope ["graph", "_", "left", "around", "v", "near", "at", "a", "b", "path", "u"] ["graph"] (defScope s_find_hole) := ⟨rfl, rfl, rfl, by decide +kernel, rfl, by decide +kernel, by decide +kernel⟩

/-! # holes -/
def IsHole (ps : List (Int × Int)) (c : List Int) : Prop := 4 ≤ c.length ∧ c.Nodup ∧ ∀ (i j : Nat) (x y : Int), i < j → c[i]? = some x → c[j]? = some y → (Nb ps x y ↔ j = i + 1 ∨ (i = 0 ∧ j + 1 = c.length))
theorem nb_sy {ps : List (Int × Int)} {a b : Int} (h : Nb ps a b) : Nb ps b a := h.elim .inr .inl
/-- a way past v closes to a hole -/
theorem hole_of {ps : List (Int × Int)} {n : Nat} {ns path : List Int} {v a b : Int} (inn : ∀ p ∈ ps, 0 ≤ p.1 ∧ p.1 < p.2 ∧ p.2 < (n : Int)) (va : Nb ps v a) (vb : Nb ps v b) (ab : ¬ Nb ps a b) (ne : a ≠ b) (g : GeoR (fun x y => Nb ps x y ∧ AA ps ns v a b y) a b path) : IsHole ps (v :: path) := by
  obtain ⟨g1, g2, g3, dd, g4⟩ := g
  have at_ : ∀ {i j : Nat} {x : Int}, path[i]? = some x → path[j]? = some x → i = j := fun h1 h2 => by
    have e1 := (g4 _ _ h1).1
    have e2 := (g4 _ _ h2).1
    omega
  have la : path[path.length - 1]? = some b := by
    rw [← List.getLast?_eq_getElem?]
    exact g2
  have l1 : 0 < path.length := by
    rcases path with _ | ⟨_, _⟩
    · cases g1
    · simp
  have l3 : 3 ≤ path.length := by
    rcases Nat.lt_or_ge path.length 3 with c | c
    · rcases Nat.lt_or_ge path.length 2 with c2 | c2
      · rw [show path.length - 1 = 0 by omega, g1] at la
        exact absurd (Option.some.inj la) ne
      · rw [show path.length - 1 = 1 by omega] at la
        exact absurd (g3 0 a b g1 la).1 ab
    · exact c
  have inner : ∀ {k : Nat} {z : Int}, path[k + 1]? = some z → AA ps ns v a b z := fun {k z} h => by
    have hk : k < path.length := by
      have := (List.getElem?_eq_some_iff.mp h).1
      omega
    exact (g3 k _ z (List.getElem?_eq_getElem hk) h).2
  have va' : v ≠ a := fun e => (va.nn inn).2.2 e.symm
  have vb' : v ≠ b := fun e => (vb.nn inn).2.2 e.symm
  have nv : ∀ {k : Nat} {z : Int}, path[k]? = some z → v ≠ z := fun {k z} h e => by
    cases k with
    | zero =>
      rw [g1] at h
      exact va' (e.trans (Option.some.inj h).symm)
    | succ k =>
      rcases inner h with ⟨_, _, h3⟩ | h3 | h3
      · exact h3 e.symm
      · exact va' (e.trans h3)
      · exact vb' (e.trans h3)
  refine ⟨by rw [List.length_cons]; omega, List.nodup_cons.mpr ⟨fun m => ?_, ?_⟩, fun i j x y ij hi hj => ?_⟩
  · obtain ⟨k, hk⟩ := List.mem_iff_getElem?.mp m
    exact nv hk rfl
  · refine List.pairwise_iff_getElem.mpr fun i j hi hj lt e => ?_
    have := at_ (List.getElem?_eq_getElem hi) (by rw [e]; exact List.getElem?_eq_getElem hj)
    omega
  · cases j with
    | zero => omega
    | succ j =>
      rw [List.getElem?_cons_succ] at hj
      have jl := (List.getElem?_eq_some_iff.mp hj).1
      cases i with
      | zero =>
        have hi : some v = some x := hi
        cases hi
        rw [List.length_cons]
        constructor
        · intro h
          cases j with
          | zero => exact .inl rfl
          | succ j =>
            refine .inr ⟨rfl, ?_⟩
            rcases inner hj with ⟨_, h2, _⟩ | h2 | h2
            · exact absurd h h2
            · have := at_ (h2 ▸ hj) g1
              omega
            · have := at_ (h2 ▸ hj) la
              omega
        · rintro (h | ⟨_, h⟩)
          · have e : j = 0 := by omega
            rw [e, g1] at hj
            cases hj
            exact va
          · have e : j = path.length - 1 := by omega
            rw [e, la] at hj
            cases hj
            exact vb
      | succ i =>
        rw [List.getElem?_cons_succ] at hi
        constructor
        · intro h
          cases j with
          | zero => omega
          | succ j =>
            have := (g4 i x hi).2 y ⟨h, inner hj⟩
            have e := (g4 (j + 1) y hj).1
            left
            omega
        · rintro (h | ⟨h, _⟩)
          · have e : j = i + 1 := by omega
            subst e
            exact (g3 i x y hi hj).1
          · omega
theorem IsHole.holey {ps : List (Int × Int)} {c : List Int} (h : IsHole ps c) : Holey ps fun z => z ∈ c := by
  obtain ⟨l4, nd, ed⟩ := h
  intro v hv
  obtain ⟨k, hk⟩ := List.mem_iff_getElem?.mp hv
  have kl := (List.getElem?_eq_some_iff.mp hk).1
  have g : ∀ i, i < c.length → c[i]? = some (c.getD i 0) := fun i hi => by
    rw [List.getD_eq_getElem?_getD, List.getElem?_eq_getElem hi]
    rfl
  have m : ∀ i, i < c.length → c.getD i 0 ∈ c := fun i hi => List.mem_of_getElem? (g i hi)
  have ne : ∀ i j, i < c.length → j < c.length → i ≠ j → c.getD i 0 ≠ c.getD j 0 := fun i j hi hj n e => n (by
    have h1 := g i hi
    rw [e] at h1
    exact nodup_at nd h1 (g j hj))
  rcases Nat.eq_zero_or_pos k with k0 | k0
  · subst k0
    refine ⟨c.getD 1 0, c.getD (c.length - 1) 0, m _ (by omega), m _ (by omega), (ed 0 1 _ _ (by omega) hk (g _ (by omega))).mpr (.inl rfl), (ed 0 _ _ _ (by omega) hk (g _ (by omega))).mpr (.inr ⟨rfl, by omega⟩), ne _ _ (by omega) (by omega) (by omega), fun z => ?_⟩
    have := (ed 1 _ _ _ (by omega) (g _ (by omega)) (g _ (by omega))).mp z
    omega
  · rcases Nat.lt_or_ge (k + 1) c.length with k1 | k1
    · refine ⟨c.getD (k - 1) 0, c.getD (k + 1) 0, m _ (by omega), m _ k1, nb_sy ((ed (k - 1) k _ _ (by omega) (g _ (by omega)) hk).mpr (.inl (by omega))), (ed k (k + 1) _ _ (by omega) hk (g _ k1)).mpr (.inl rfl), ne _ _ (by omega) k1 (by omega), fun z => ?_⟩
      have := (ed (k - 1) (k + 1) _ _ (by omega) (g _ (by omega)) (g _ k1)).mp z
      omega
    · have e : k = c.length - 1 := by omega
      refine ⟨c.getD (k - 1) 0, c.getD 0 0, m _ (by omega), m _ (by omega), nb_sy ((ed (k - 1) k _ _ (by omega) (g _ (by omega)) hk).mpr (.inl (by omega))), nb_sy ((ed 0 k _ _ (by omega) (g _ (by omega)) hk).mpr (.inr ⟨rfl, by omega⟩)), ne _ _ (by omega) (by omega) (by omega), fun z => ?_⟩
      have := (ed 0 (k - 1) _ _ (by omega) (g _ (by omega)) (g _ (by omega))).mp (nb_sy z)
      omega

set_option Elab.async false
set_option linter.all false
set_option maxRecDepth 100000
set_option maxHeartbeats 4000000
open PySem PySem.Spec PyProof.Rows L2
/-! # where nothing closes a hole, something can be taken out (Dirac) -/
/-- v closes no hole with what is left -/
def DoneV (ps : List (Int × Int)) (ns : List Int) (v : Int) : Prop := ∀ a b, a ∈ ns → b ∈ ns → Nb ps v a → Nb ps v b → b < a → Nb ps a b ∨ ¬ Rch (fun x y => Nb ps x y ∧ AA ps ns v a b y) a b
/-- the neighbours of z in U are neighbours of each other -/
def SimpU (ps : List (Int × Int)) (U : List Int) (z : Int) : Prop := ∀ x ∈ U, ∀ y ∈ U, Nb ps z x → Nb ps z y → x ≠ y → Nb ps x y
open Classical in
theorem dirac {ps : List (Int × Int)} {n : Int} {ns : List Int} (inn : ∀ p ∈ ps, 0 ≤ p.1 ∧ p.1 < p.2 ∧ p.2 < n) (done : ∀ v ∈ ns, DoneV ps ns v) :
    ∀ (k : Nat) (U : List Int), U.length ≤ k → (∀ z ∈ U, z ∈ ns) → ∀ v ∈ U, (∃ w ∈ U, w ≠ v ∧ ¬ Nb ps v w) → ∃ z ∈ U, z ≠ v ∧ ¬ Nb ps v z ∧ SimpU ps U z := by
  intro k
  induction k with
  | zero =>
    intro U lk _ v hv _
    have := List.length_pos_of_mem hv
    omega
  | succ k ih =>
    rintro U lk sub v hv ⟨w, hw, wv, nvw⟩
    let D : Int → Prop := fun z => z ∈ U ∧ z ≠ v ∧ ¬ Nb ps v z
    let C : Int → Prop := fun z => Rch (fun x y => Nb ps x y ∧ D y) w z
    have wC : C w := .refl
    have CD : ∀ z, C z → D z := fun z h => by
      cases h with
      | refl => exact ⟨hw, wv, nvw⟩
      | step _ h => exact h.2
    have CC : ∀ z x, C z → x ∈ U → Nb ps z x → D x → C x := fun z x h _ nb d => .step h ⟨nb, d⟩
    let S : Int → Prop := fun z => z ∈ U ∧ ¬ C z ∧ ∃ c, C c ∧ Nb ps c z
    have SN : ∀ z, S z → Nb ps v z := fun z ⟨zU, zC, c, hc, cz⟩ => byContradiction fun nz => by
      by_cases e : z = v
      · rw [e] at cz
        exact (CD c hc).2.2 (nb_sy cz)
      · exact zC (CC c z hc zU cz ⟨zU, e, nz⟩)
    -- the ways inside of C, over what DoneV allows
    have way : ∀ (a b z : Int), C z → Rch (fun x y => Nb ps x y ∧ AA ps ns v a b y) w z ∧ Rch (fun x y => Nb ps x y ∧ AA ps ns v a b y) z w := fun a b z h => by
      have aa : ∀ y, D y → AA ps ns v a b y := fun y d => .inl ⟨sub y d.1, d.2.2, d.2.1⟩
      have dw : D w := ⟨hw, wv, nvw⟩
      induction h with
      | refl => exact ⟨.refl, .refl⟩
      | @step p q hp hq ihp =>
        have dp : D p := CD p hp
        exact ⟨.step ihp.1 ⟨hq.1, aa _ hq.2⟩, Rch.trans (.step .refl ⟨nb_sy hq.1, aa _ dp⟩) ihp.2⟩
    have clique : ∀ a b, S a → S b → b < a → Nb ps a b := fun a b ha hb lt => by
      obtain ⟨aU, _, c1, hc1, ca⟩ := id ha
      obtain ⟨bU, _, c2, hc2, cb⟩ := id hb
      refine (done v (sub v hv) a b (sub a aU) (sub b bU) (SN a ha) (SN b hb) lt).resolve_right fun z => z ?_
      have d1 := CD c1 hc1
      have h1 : Rch (fun x y => Nb ps x y ∧ AA ps ns v a b y) a c1 := .step .refl ⟨nb_sy ca, .inl ⟨sub _ d1.1, d1.2.2, d1.2.1⟩⟩
      have h2 := (way a b c1 hc1).2
      have h3 := (way a b c2 hc2).1
      exact .step ((h1.trans h2).trans h3) ⟨cb, .inr (.inr rfl)⟩
    have clq : ∀ a b, S a → S b → a ≠ b → Nb ps a b := fun a b ha hb ne => by
      rcases Int.lt_or_gt_of_ne ne with c | c
      · exact nb_sy (clique b a hb ha c)
      · exact clique a b ha hb c
    let U' := U.filter fun z => decide (C z ∨ S z)
    have mU : ∀ z, z ∈ U' ↔ z ∈ U ∧ (C z ∨ S z) := fun z => by
      show z ∈ U.filter _ ↔ _
      rw [List.mem_filter, decide_eq_true_iff]
    have vU : v ∉ U' := fun h => by
      rcases ((mU v).mp h).2 with c | c
      · exact (CD v c).2.1 rfl
      · exact ((SN v c).nn inn).2.2 rfl
    have lU : U'.length ≤ k := by
      have h1 : U'.length ≤ U.length := List.length_filter_le _ _
      have h2 : U'.length ≠ U.length := fun e => by
        have := List.filter_eq_self.mpr (List.length_filter_eq_length_iff.mp e)
        exact vU (by show v ∈ U.filter _; rw [this]; exact hv)
      omega
    have sub' : ∀ z ∈ U', z ∈ ns := fun z h => sub z ((mU z).mp h).1
    have wU : w ∈ U' := (mU w).mpr ⟨hw, .inl wC⟩
    -- one of C that is simplicial in C and S is so in U
    have fin : ∀ z, z ∈ U' → C z → SimpU ps U' z → ∃ z ∈ U, z ≠ v ∧ ¬ Nb ps v z ∧ SimpU ps U z := fun z zU hz sm => by
      have dz := CD z hz
      have mem : ∀ x ∈ U, Nb ps z x → x ∈ U' := fun x hx nb => (mU x).mpr ⟨hx, by
        by_cases c : C x
        · exact .inl c
        · exact .inr ⟨hx, c, z, hz, nb⟩⟩
      exact ⟨z, dz.1, dz.2.1, dz.2.2, fun x hx y hy nx ny ne => sm x (mem x hx nx) y (mem y hy ny) nx ny ne⟩
    by_cases c1 : ∃ s, S s ∧ ∃ u ∈ U', u ≠ s ∧ ¬ Nb ps s u
    · obtain ⟨s, hs, u, hu, us, nu⟩ := c1
      obtain ⟨z, zU, zs, nz, sm⟩ := ih U' lU sub' s ((mU s).mpr ⟨hs.1, .inr hs⟩) ⟨u, hu, us, nu⟩
      rcases ((mU z).mp zU).2 with c | c
      · exact fin z zU c sm
      · exact (nz (clq s z hs c fun e => zs e.symm)).elim
    · have uni : ∀ s, S s → ∀ u ∈ U', u ≠ s → Nb ps s u := fun s hs u hu us => byContradiction fun k => c1 ⟨s, hs, u, hu, us, k⟩
      by_cases c2 : ∃ c, C c ∧ ∃ u ∈ U', u ≠ c ∧ ¬ Nb ps c u
      · obtain ⟨c, hc, u, hu, uc, nu⟩ := c2
        have cU : c ∈ U' := (mU c).mpr ⟨(CD c hc).1, .inl hc⟩
        obtain ⟨z, zU, zc, nz, sm⟩ := ih U' lU sub' c cU ⟨u, hu, uc, nu⟩
        rcases ((mU z).mp zU).2 with k | k
        · exact fin z zU k sm
        · exact (nz (nb_sy (uni z k c cU fun e => zc e.symm))).elim
      · refine fin w wU wC fun x hx y hy _ _ ne => ?_
        rcases ((mU x).mp hx).2 with k | k
        · exact byContradiction fun z => c2 ⟨x, k, y, hy, fun e => ne e.symm, z⟩
        · exact uni x k y hy fun e => ne e.symm
theorem no_left {ps : List (Int × Int)} {n : Int} {ns : List Int} (inn : ∀ p ∈ ps, 0 ≤ p.1 ∧ p.1 < p.2 ∧ p.2 < n) (nd : ns.Nodup) (hh : Holey ps fun z => z ∈ ns) (done : ∀ v ∈ ns, DoneV ps ns v) {v : Int} (hv : v ∈ ns) : False := by
  obtain ⟨x, y, hx, hy, vx, vy, ne, nn⟩ := hh v hv
  obtain ⟨z, hz, _, _, sm⟩ := dirac inn done ns.length ns (Nat.le_refl _) (fun z h => h) x hx ⟨y, hy, fun e => ne e.symm, nn⟩
  obtain ⟨p, q, hp, hq, zp, zq, pq, npq⟩ := hh z hz
  exact npq (sm p hp q hq zp zq pq)

set_option Elab.async false
set_option linter.all false
set_option maxRecDepth 100000
set_option maxHeartbeats 4000000
open PySem PySem.Spec PyProof.Rows L2 LamX

theorem hole_rch {ps : List (Int × Int)} {c ns : List Int} (h : IsHole ps c) (sub : ∀ z ∈ c, z ∈ ns) {v p q : Int} (hv : c[0]? = some v) (hp : c[1]? = some p) (hq : c[c.length - 1]? = some q) {a b : Int} (ab : ∀ z, z = p ∨ z = q → z = a ∨ z = b) :
    Rch (fun x y => Nb ps x y ∧ AA ps ns v a b y) p q ∧ Rch (fun x y => Nb ps x y ∧ AA ps ns v a b y) q p := by
  obtain ⟨l4, nd, ed⟩ := h
  have g : ∀ i, i < c.length → c[i]? = some (c.getD i 0) := fun i hi => by
    rw [List.getD_eq_getElem?_getD, List.getElem?_eq_getElem hi]
    rfl
  have ep : c.getD 1 0 = p := by
    have := g 1 (by omega)
    rw [hp] at this
    exact (Option.some.inj this).symm
  have eq : c.getD (c.length - 1) 0 = q := by
    have := g (c.length - 1) (by omega)
    rw [hq] at this
    exact (Option.some.inj this).symm
  have aa : ∀ k, 1 ≤ k → k < c.length → AA ps ns v a b (c.getD k 0) := fun k k1 k2 => by
    rcases Nat.eq_or_lt_of_le k1 with e | k3
    · refine .inr (ab _ (.inl ?_))
      rw [← e]
      exact ep
    · rcases Nat.lt_or_ge (k + 1) c.length with k4 | k4
      · refine .inl ⟨sub _ (List.mem_of_getElem? (g k k2)), fun z => ?_, fun z => ?_⟩
        · have := (ed 0 k _ _ (by omega) hv (g k k2)).mp z
          omega
        · have := nodup_at nd hv (show c[k]? = some v by rw [g k k2, z])
          omega
      · refine .inr (ab _ (.inr ?_))
        rw [show k = c.length - 1 by omega]
        exact eq
  have nb : ∀ k, k + 1 < c.length → Nb ps (c.getD k 0) (c.getD (k + 1) 0) := fun k hk => (ed k (k + 1) _ _ (by omega) (g k (by omega)) (g (k + 1) hk)).mpr (.inl rfl)
  constructor
  · have key : ∀ k, k + 1 < c.length → Rch (fun x y => Nb ps x y ∧ AA ps ns v a b y) p (c.getD (k + 1) 0) := fun k => by
      induction k with
      | zero =>
        intro _
        rw [ep]
        exact .refl
      | succ k ih =>
        intro hk
        exact .step (ih (by omega)) ⟨nb (k + 1) hk, aa (k + 2) (by omega) hk⟩
    have := key (c.length - 2) (by omega)
    rw [show c.length - 2 + 1 = c.length - 1 by omega, eq] at this
    exact this
  · have key : ∀ k, k + 1 < c.length → Rch (fun x y => Nb ps x y ∧ AA ps ns v a b y) q (c.getD (c.length - 1 - k) 0) := fun k => by
      induction k with
      | zero =>
        intro _
        rw [Nat.sub_zero, eq]
        exact .refl
      | succ k ih =>
        intro hk
        have h1 := nb (c.length - 1 - (k + 1)) (by omega)
        rw [show c.length - 1 - (k + 1) + 1 = c.length - 1 - k by omega] at h1
        exact .step (ih (by omega)) ⟨nb_sy h1, aa _ (by omega) (by omega)⟩
    have := key (c.length - 2) (by omega)
    rw [show c.length - 1 - (c.length - 2) = 1 by omega, ep] at this
    exact this
theorem no_hole {ps : List (Int × Int)} {c ns : List Int} (h : IsHole ps c) (sub : ∀ z ∈ c, z ∈ ns) (done : ∀ v ∈ ns, DoneV ps ns v) : False := by
  obtain ⟨l4, nd, ed⟩ := id h
  have g : ∀ i, i < c.length → c[i]? = some (c.getD i 0) := fun i hi => by
    rw [List.getD_eq_getElem?_getD, List.getElem?_eq_getElem hi]
    rfl
  have m : ∀ i, i < c.length → c.getD i 0 ∈ ns := fun i hi => sub _ (List.mem_of_getElem? (g i hi))
  have n1 := (ed 0 1 _ _ (by omega) (g 0 (by omega)) (g 1 (by omega))).mpr (.inl rfl)
  have n2 := (ed 0 (c.length - 1) _ _ (by omega) (g 0 (by omega)) (g (c.length - 1) (by omega))).mpr (.inr ⟨rfl, by omega⟩)
  have n3 : ¬ Nb ps (c.getD 1 0) (c.getD (c.length - 1) 0) := fun z => by
    have := (ed 1 _ _ _ (by omega) (g 1 (by omega)) (g (c.length - 1) (by omega))).mp z
    omega
  have ne : c.getD 1 0 ≠ c.getD (c.length - 1) 0 := fun e => by
    have h1 := g 1 (by omega)
    rw [e] at h1
    have := nodup_at nd h1 (g (c.length - 1) (by omega))
    omega
  rcases Int.lt_or_gt_of_ne ne with k | k
  · rcases done _ (m 0 (by omega)) _ _ (m (c.length - 1) (by omega)) (m 1 (by omega)) n2 n1 k with z | z
    · exact n3 (nb_sy z)
    · exact z (hole_rch h sub (g 0 (by omega)) (g 1 (by omega)) (g _ (by omega)) (fun z hz => hz.symm)).2
  · rcases done _ (m 0 (by omega)) _ _ (m 1 (by omega)) (m (c.length - 1) (by omega)) n1 n2 k with z | z
    · exact n3 z
    · exact z (hole_rch h sub (g 0 (by omega)) (g 1 (by omega)) (g _ (by omega)) (fun z hz => hz)).1
section
variable {P : Program} {w : World} {K : PySem.W.Frag} {mg : Str → Option Value} {base : Heap}
def spHole (T : List (Addr × Str)) : Sp := fun vs H Q _ => ∃ (g : V) (n : Nat) (ps : List (Int × Int)), vs = [g] ∧ GrAt H g (n : Int) ps ∧ n ≤ 60 ∧ ps.length ≤ 10000 ∧ (∀ p ∈ ps, 0 ≤ p.1 ∧ p.1 < p.2 ∧ p.2 < (n : Int)) ∧ Tabs T H ∧
  ∀ (x : V) (H' : Hp), ExtN H H' → Tabs T H' → ((x = .non ∧ (∀ c, IsHole ps c → (∀ z ∈ c, 0 ≤ z ∧ z < (n : Int)) → False) ∧ ∀ C : Int → Prop, (∀ v, C v → 0 ≤ v ∧ v < (n : Int)) → Holey ps C → ∀ v, ¬ C v) ∨ ∃ (p : Addr) (c : List Int), x = .ref p ∧ H' p = some (.tup (c.map V.int)) ∧ IsHole ps c ∧ ∀ z ∈ c, 0 ≤ z ∧ z < (n : Int)) → Q x H'
theorem ok_find {TB : List (Addr × Str)} (T : Blt mg) (D : DefAt K mg "find_hole" s_find_hole ["graph"]) (D_clique_order : DefAt K mg "clique_order" s_clique_order ["graph"]) (G_clique_order : FnOk P w K mg base CX0 4 D_clique_order.f D_clique_order.fd ["graph"] spOrder)
    (D_neighbour_masks : DefAt K mg "neighbour_masks" s_neighbour_masks ["graph"]) (G_neighbour_masks : FnOk P w K mg base CX0 2 D_neighbour_masks.f D_neighbour_masks.fd ["graph"] spNMasks)
    (D_has : DefAt K mg "has" s_has ["mask", "v"]) (G_has : FnOk P w K mg base CX0 1 D_has.f D_has.fd ["mask", "v"] spHas)
    (D_path_past : DefAt K mg "_path_past" s_path_past ["graph", "around", "left", "v", "a", "b"]) (G_path_past : FnOk P w K mg base CX0 7 D_path_past.f D_path_past.fd ["graph", "around", "left", "v", "a", "b"] (spPast TB)) :
    FnOk P w K mg base CX0 8 D.f D.fd ["graph"] (spHole TB) := by
  refine D.F.ok sc_find_hole (fun vs H Q E h => ?_) (fun cdv A outer s H vs Q E hr h => ?_)
  · obtain ⟨g, n, ps, rfl, _⟩ := h
    rfl
  · obtain ⟨g, n, ps, rfl, hgr, n60, hlen, inn, hT, q⟩ := h
    refine ⟨_, (pss_cons (ps_asg (pe_call G_clique_order (hr.mono (by first | decide | omega)) (by rfl) D_clique_order.g D_clique_order.F.kp D_clique_order.b .nil pass0 (pa_cons (pv 0) pa_nil)) (PG.tupK (K := K) rfl (pg_tup (n := 2) rfl (pgs_cons (pg_name (i := 1) sc_find_hole.nd rfl (Or.inl rfl)) (pgs_cons (pg_name (i := 2) sc_find_hole.nd rfl (Or.inl rfl)) pgs_nil)))))
      (pss_cons (ps_set (i := 3) sc_find_hole.nd rfl (Or.inr rfl) (pe_call G_neighbour_masks (hr.mono (by first | decide | omega)) (by rfl) D_neighbour_masks.g D_neighbour_masks.F.kp D_neighbour_masks.b .nil pass0 (pa_cons (pv 0) pa_nil)))
      (pss_cons (ps_for PassesOwn.never (by rfl) (PI.tupK (K := K) rfl (pi_tup (pv 2))) (pg_name (i := 4) sc_find_hole.nd rfl (Or.inr rfl))
        (pss_cons (ps_setLc (i := 5) (own := [("u", 10)]) (by rfl) sc_find_hole.nd rfl rfl (sw_true rfl rfl rfl (by decide +kernel)) (PI.tupK (K := K) rfl (pi_tup (pv 2))) (blkOk_by (own := [("u", 10)]) (N := ["graph", "_", "left", "around", "v", "near", "at", "a", "b", "path", "u"]) (sc := (defScope s_find_hole)) (by decide +kernel)) (fun _ _ _ _ _ => (pg_name (i := 10) sc_find_hole.nd rfl (Or.inl rfl))) (fun _ _ _ _ _ => (pts_one (pt_val (pe_call G_has (hr.mono (by first | decide | omega)) (by rfl) D_has.g D_has.F.kp D_has.b .nil pass0 (pa_cons (pe_ix (ix_listK (K := K) rfl) (pv 3) (pv 4) (fun _ _ => rfl)) (pa_cons (pv 10) pa_nil)))))) (fun _ _ _ _ _ => (pv 10)))
        (pss_one (ps_for PassesOwn.never (by rfl) (PI.enumLK (K := K) rfl (pi_enum (by rfl) T.enumerate (pa_cons (pv 5) pa_nil))) (PG.tupK (K := K) rfl (pg_tup (n := 2) rfl (pgs_cons (pg_name (i := 6) sc_find_hole.nd rfl (Or.inl rfl)) (pgs_cons (pg_name (i := 7) sc_find_hole.nd rfl (Or.inl rfl)) pgs_nil))))
          (pss_one (ps_for PassesOwn.never (by rfl) (PI.listK (K := K) rfl (pi_list (pe_slice (sl_listK (K := K) rfl) (pv 5) po_none (po_some (pv 6))))) (pg_name (i := 8) sc_find_hole.nd rfl (Or.inl rfl))
            (pss_cons (ps_set (i := 9) sc_find_hole.nd rfl (Or.inl rfl) (pe_ifExp (pt_val (pe_call G_has (hr.mono (by first | decide | omega)) (by rfl) D_has.g D_has.F.kp D_has.b .nil pass0 (pa_cons (pe_ix (ix_listK (K := K) rfl) (pv 3) (pv 7) (fun _ _ => rfl)) (pa_cons (pv 8) pa_nil)))) pe_non (pe_call G_path_past (hr.mono (by first | decide | omega)) (by rfl) D_path_past.g D_path_past.F.kp D_path_past.b .nil pass0 (pa_cons (pv 0) (pa_cons (pv 3) (pa_cons (pv 2) (pa_cons (pv 4) (pa_cons (pv 7) (pa_cons (pv 8) pa_nil)))))))))
            (pss_one (ps_if (pt_cmpR op_notN (pv 9) pe_non (nomark _))
              (pss_one (ps_ret (pe_tup (pa_cons (pv 4) (pa_starK (K := K) rfl (pv 9) pa_nil)))))
              pss_nil)))))))))
      (pss_one (ps_ret pe_non))))), ?_⟩
    refine r_at (σ := [some _, none, none, none, none, none, none, none, none, none, none]) rfl ?_
    walk_at "z"
    refine ⟨g, n, ps, rfl, hgr, n60, hlen, inn, fun t p1 p2 os ns H1 s1 ht _ hp2 asc bd full _ _ _ _ hh => ?_⟩
    refine r_gtup (.inl (.inl ht)) rfl ?_
    walk_at "z"
    refine ⟨g, n, ps, rfl, hgr.tk (.of_same s1), by omega, hlen, inn, fun l ms H2 s2 hl lm mk => ?_⟩
    have s02 := s1.trans s2
    have hp22 := s2 _ _ hp2
    have nl : ns.length ≤ 60 := asc_len (n := 60) asc fun z hz => by have := bd z hz; omega
    walk_at "z"
    refine r_it (.inl (.inl hp22)) (forR_tup (xs := ns.map V.int) (fun i σ' H' => (∃ x4 x5 x6 x7 x8 x9 x10, σ' = [some g, some (.ref p1), some (.ref p2), some (.ref l), x4, x5, x6, x7, x8, x9, x10]) ∧ ExtN H2 H' ∧ Tabs TB H' ∧ ∀ v ∈ ns.take i, DoneV ps ns v)
      ⟨⟨_, _, _, _, _, _, _, rfl⟩, ExtN.refl _, hT.ext s02, fun v hv => by simp at hv⟩ (fun i σ' H' _ ⟨_, e3, _⟩ => .inl (.inl (ext_tup e3 hp22))) ?_ ?_)
    · rintro i x σ' H3 hx ⟨⟨x4, x5, x6, x7, x8, x9, x10, rfl⟩, e3, T3, done⟩
      rw [List.getElem?_map] at hx
      obtain ⟨v, hv, rfl⟩ := Option.map_eq_some_iff.mp hx
      obtain ⟨v0, v1⟩ := bd v (List.mem_of_getElem? hv)
      obtain ⟨mv, hmv⟩ : ∃ k, ms[v.toNat]? = some k := ⟨_, List.getElem?_eq_getElem (by omega)⟩
      have ix : atI (ms.map V.int) v = some (.int mv) := at_of (j := v.toNat) (by omega) (by rw [List.getElem?_map, hmv]; rfl)
      have kv := (mk _ _ hmv).congr fun i => mem_adjN (ps := ps) (z := i) v0
      have hl3 := ext_lst e3 hl
      have hp23 := ext_tup e3 hp22
      walk_at "z"
      refine r_it (.inl (.inl hp23)) fun c hc => lcR_tup (xs := ns.map V.int) (fun m H' => Same H3 H' ∧ H' c = some (.lst (((ns.take m).filter fun u => decide (Nb ps v u)).map V.int))) (by walk_at "zw") ⟨same_new hc, upd_same⟩ (fun i H' _ ⟨s4, _⟩ => .inl (.inl (s4 _ _ hp23))) ?_ ?_
      · rintro m y H4 hy ⟨s4, hc4⟩
        rw [List.getElem?_map] at hy
        obtain ⟨u, hu, rfl⟩ := Option.map_eq_some_iff.mp hy
        obtain ⟨u0, u1⟩ := bd u (List.mem_of_getElem? hu)
        have hl4 := s4 _ _ hl3
        have lf : ((ns.take m).filter fun u => decide (Nb ps v u)).length ≤ ns.length := Nat.le_trans (List.length_filter_le _ _) (by rw [List.length_take]; omega)
        walk_at "z"
        refine ⟨rfl, ?_⟩
        walk_at "z"
        refine ⟨_, u, _, rfl, kv, u0, by omega, fun bb hb => ?_⟩
        walk_at "z"
        cases bb with
        | true =>
          refine iteT ?_
          walk_at "z"
          refine r_lce hc4 (small_lt (by rw [List.length_map]; omega)) ⟨same_mut s4 hc, ?_⟩
          rw [take_next hu, List.filter_append, List.filter_cons, if_pos (decide_eq_true (hb.mp rfl)), List.map_append]
          exact upd_same
        | false =>
          refine iteF ⟨s4, ?_⟩
          rw [take_next hu, List.filter_append, List.filter_cons, if_neg (by rw [decide_eq_true_eq]; exact fun z => absurd (hb.mpr z) (by decide)), List.filter_nil, List.append_nil]
          exact hc4
      · rintro H4 ⟨s4, hc4⟩
        rw [List.length_map, List.take_length] at hc4
        let nr := ns.filter fun u => decide (Nb ps v u)
        have mnr : ∀ u, u ∈ nr ↔ u ∈ ns ∧ Nb ps v u := fun u => by
          show u ∈ ns.filter _ ↔ _
          rw [List.mem_filter, decide_eq_true_eq]
        have anr : nr.Pairwise (· < ·) := asc.filter _
        have lnr : nr.length ≤ ns.length := List.length_filter_le _ _
        have hc4 : H4 c = some (.lst (nr.map V.int)) := hc4
        have e4 := e3.trans (ext_same s4)
        have T4 := T3.ext s4
        clear_value nr
        walk_at "z"
        refine r_enumL ?_
        walk_at "z"
        refine r_enL (.inl (.inl hc4)) (forR_enumL (xs := nr.map V.int) (fun j σ' H' => (∃ x6 x7 x8 x9 x10, σ' = [some g, some (.ref p1), some (.ref p2), some (.ref l), some (.int v), some (.ref c), x6, x7, x8, x9, x10]) ∧ ExtN H4 H' ∧ Tabs TB H' ∧ ∀ a ∈ nr.take j, ∀ b, b ∈ nr → b < a → Nb ps a b ∨ ¬ Rch (fun x y => Nb ps x y ∧ AA ps ns v a b y) a b)
          ⟨⟨_, _, _, _, _, rfl⟩, ExtN.refl _, T4, fun a ha => by simp at ha⟩ (fun i σ' H' _ ⟨_, e5, _⟩ => .inl (.inl (ext_lst e5 hc4))) ?_ ?_)
        · rintro j x σ' H5 tp hx ⟨⟨x6, x7, x8, x9, x10, rfl⟩, e5, T5, dn5⟩ htp
          rw [List.getElem?_map] at hx
          obtain ⟨a, ha, rfl⟩ := Option.map_eq_some_iff.mp hx
          have am := (mnr a).mp (List.mem_of_getElem? ha)
          obtain ⟨a0, a1⟩ := bd a am.1
          have jl : j < nr.length := (List.getElem?_eq_some_iff.mp ha).1
          obtain ⟨ma, hma⟩ : ∃ k, ms[a.toNat]? = some k := ⟨_, List.getElem?_eq_getElem (by omega)⟩
          have ixa : atI (ms.map V.int) a = some (.int ma) := at_of (j := a.toNat) (by omega) (by rw [List.getElem?_map, hma]; rfl)
          have ka := (mk _ _ hma).congr fun i => mem_adjN (ps := ps) (z := i) a0
          have s6 := same_new (o := .tup [.int (j : Nat), .int a]) htp
          have htp6 : (upd H5 tp (.tup [.int (j : Nat), .int a])) tp = some (.tup [.int (j : Nat), .int a]) := upd_same
          generalize upd H5 tp (.tup [.int (j : Nat), .int a]) = H6 at s6 htp6 ⊢
          have e6 := e5.trans (ext_same s6)
          have T6 := T5.ext s6
          refine r_gtup (.inl (.inl htp6)) rfl ?_
          walk_at "z"
          refine r_slLTo (.inl (.inl (ext_lst e6 hc4))) (by rw [List.length_map]; omega) fun sl hsl => ?_
          rw [← List.map_take]
          have s7 := same_new (o := .lst ((nr.take j).map V.int)) hsl
          have hsl7 : (upd H6 sl (.lst ((nr.take j).map V.int))) sl = some (.lst ((nr.take j).map V.int)) := upd_same
          generalize upd H6 sl (.lst ((nr.take j).map V.int)) = H7 at s7 hsl7 ⊢
          have e7 := e6.trans (ext_same s7)
          have T7 := T6.ext s7
          walk_at "z"
          refine r_il (.inl (.inl hsl7)) (forR_list (xs := (nr.take j).map V.int) (fun k σ' H' => (∃ x8 x9 x10, σ' = [some g, some (.ref p1), some (.ref p2), some (.ref l), some (.int v), some (.ref c), some (.int (j : Nat)), some (.int a), x8, x9, x10]) ∧ ExtN H7 H' ∧ Tabs TB H' ∧ ∀ b ∈ (nr.take j).take k, Nb ps a b ∨ ¬ Rch (fun x y => Nb ps x y ∧ AA ps ns v a b y) a b)
            ⟨⟨_, _, _, rfl⟩, ExtN.refl _, T7, fun b hb => by simp at hb⟩ (fun i σ' H' _ ⟨_, e8, _⟩ => .inl (.inl (ext_lst e8 hsl7))) ?_ ?_)
          · rintro k x σ' H8 hx ⟨⟨x8, x9, x10, rfl⟩, e8, T8, dn8⟩
            rw [List.getElem?_map] at hx
            obtain ⟨b, hb, rfl⟩ := Option.map_eq_some_iff.mp hx
            have bt : b ∈ nr.take j := List.mem_of_getElem? hb
            have bm := (mnr b).mp (List.mem_of_mem_take bt)
            obtain ⟨b0, b1⟩ := bd b bm.1
            have ba : b < a := (asc_low anr ha (List.mem_of_mem_take bt)).mpr bt
            have e48 := e7.trans e8
            have e28 := e4.trans e48
            have hl8 := ext_lst e28 hl
            have hp28 := ext_tup e28 hp22
            have gr8 := (hgr.tk (.of_same s02)).tk (ext_tk e28)
            have next : (Nb ps a b ∨ ¬ Rch (fun x y => Nb ps x y ∧ AA ps ns v a b y) a b) → ∀ u ∈ (nr.take j).take (k + 1), Nb ps a u ∨ ¬ Rch (fun x y => Nb ps x y ∧ AA ps ns v a u y) a u := fun h u hu => by
              rw [take_next hb] at hu
              rcases List.mem_append.mp hu with c3 | c3
              · exact dn8 u c3
              · rw [List.mem_singleton.mp c3]
                exact h
            walk_at "z"
            refine ⟨_, b, _, rfl, ka, b0, by omega, fun bb hbb => ?_⟩
            walk_at "z"
            cases bb with
            | true =>
              refine iteT ?_
              walk_at "z"
              refine ⟨rfl, ?_⟩
              walk_at "z"
              refine iteF ?_
              walk_at "z"
              exact ⟨⟨_, _, _, rfl⟩, e8, T8, next (.inl (hbb.mp rfl))⟩
            | false =>
              refine iteF ?_
              walk_at "z"
              refine ⟨g, l, p2, n, ps, ms, ns, v, a, b, rfl, gr8, n60, hlen, inn, hl8, lm, mk, hp28, bd, ⟨v0, v1⟩, ⟨a0, a1⟩, ⟨b0, b1⟩, T8, fun x H9 e9 T9 hx => ?_⟩
              rcases hx with ⟨rfl, no⟩ | ⟨p, path, rfl, hp, geo, sub⟩
              · walk_at "z"
                refine ⟨rfl, ?_⟩
                walk_at "z"
                refine iteF ?_
                walk_at "z"
                exact ⟨⟨_, _, _, rfl⟩, e8.trans e9, T9, next (.inr no)⟩
              · walk_at "z"
                refine ⟨rfl, ?_⟩
                walk_at "z"
                refine iteT ?_
                walk_at "z"
                have ih := hole_of inn am.2 bm.2 (fun z => absurd (hbb.mpr z) (by decide)) (fun z => by omega) geo
                have lp : (v :: path).length ≤ n := by
                  have := nodup_le (v :: path) (rgI (n : Int)) ih.2.1 fun z hz => by
                    rcases List.mem_cons.mp hz with c3 | c3
                    · rw [c3]
                      exact mem_rgI.mpr ⟨v0, v1⟩
                    · exact sub z c3
                  rw [rgI_len] at this
                  omega
                refine r_stN hp ?_
                walk_at "z"
                refine r_tupN (by
                  have h9 : (V.int v :: (path.map V.int ++ [])).length ≤ 1000 := by
                    rw [List.append_nil, List.length_cons, List.length_map]
                    rw [List.length_cons] at lp
                    omega
                  exact Nat.le_of_lt (small1000 h9)) fun t ht => ?_
                refine q (.ref t) _ (((ext_same s02).trans (e28.trans e9)).trans (ext_same (same_new ht))) (T9.ext (same_new ht)) (.inr ⟨t, v :: path, rfl, ?_, ih, fun z hz => ?_⟩)
                · rw [upd_same, List.append_nil]
                  rfl
                · rcases List.mem_cons.mp hz with c3 | c3
                  · rw [c3]
                    exact ⟨v0, v1⟩
                  · exact mem_rgI.mp (sub z c3)
          · rintro σ' H8 ⟨⟨x8, x9, x10, rfl⟩, e8, T8, dn8⟩
            rw [List.length_map, List.take_length] at dn8
            refine ⟨⟨_, _, _, _, _, rfl⟩, e7.trans e8, T8, fun u hu b hb lt => ?_⟩
            rw [take_next ha] at hu
            rcases List.mem_append.mp hu with c3 | c3
            · exact dn5 u c3 b hb lt
            · rw [List.mem_singleton.mp c3] at lt ⊢
              exact dn8 b ((asc_low anr ha hb).mp lt)
        · rintro σ' H5 ⟨⟨x6, x7, x8, x9, x10, rfl⟩, e5, T5, dn5⟩
          rw [List.length_map, List.take_length] at dn5
          refine ⟨⟨_, _, _, _, _, _, _, rfl⟩, e4.trans e5, T5, fun u hu => ?_⟩
          rw [take_next hv] at hu
          rcases List.mem_append.mp hu with c3 | c3
          · exact done u c3
          · rw [List.mem_singleton.mp c3]
            exact fun a b ha hb na nb lt => dn5 a ((mnr a).mpr ⟨ha, na⟩) b ((mnr b).mpr ⟨hb, nb⟩) lt
    · rintro σ' H3 ⟨⟨x4, x5, x6, x7, x8, x9, x10, rfl⟩, e3, T3, done⟩
      rw [List.length_map, List.take_length] at done
      walk_at "z"
      exact q .non H3 ((ext_same s02).trans e3) T3 (.inl ⟨rfl, fun c hc hr => no_hole hc (fun z hz => full (fun z => z ∈ c) (fun v hv => hr v hv) hc.holey z hz) done, fun C c1 c2 v hv => no_left inn (asc.imp fun {a b} h e => by omega) hh done (full C c1 c2 v hv)⟩)
end

set_option Elab.async false
set_option linter.all false
set_option maxRecDepth 100000
set_option maxHeartbeats 4000000
open PySem PySem.Spec PyProof.Rows L2
/-! # match: words (one or several), two words and names, anything -/
/-- each pattern of these is a word -/
inductive WPats : List Pattern → List PySem.Str → Prop where
  | nil : WPats [] []
  | cons {ps : List Pattern} {zs : List PySem.Str} (z : PySem.Str) (j : Nat) (p1 p2 : Pos) (r : WPats ps zs) : WPats (.MatchValue (.Constant (.str z) j p1) p2 :: ps) (z :: zs)
section
variable {X : Cx} {pins : List (Addr × Obj)} {σ : L2.St} {H : Hp}
theorem val_pat {z y : PySem.Str} {j : Nat} {p1 p2 : Pos} {u : Value} {s : Shared} {Q : Option (List (PySem.Str × Value)) → Shared → Prop} (I : Inv X pins σ H s) (r0 : RelV (.str y) u) (h : ∀ s', Inv X pins σ H s' → Q (if y = z then some [] else none) s') :
    wpAny (model X.prog X.w) X.A (matchPattern (.MatchValue (.Constant (.str z) j p1) p2) X.env u) Q X.xe s := by
  refine wpAny_matchPattern_Value ?_
  have pz : PE X (.Constant (.str z) j p1) (tC (.str z)) := pe_str
  refine thn (pz.run pins _ σ H (fun x H' => x = .str z ∧ H' = H) I ⟨rfl, rfl⟩) fun uz s2 ⟨vz, H2, I2, rz, ez, eh⟩ => ?_
  subst ez eh
  refine thn (op_eq pins s2 σ H2 (.str y) (.str z) u uz (fun x H' => x = .bl (decide (y = z)) ∧ H' = H2) I2 r0 rz ⟨rfl, ?_, rfl⟩) fun uc s3 ⟨vc, H3, I3, rc, ec, eh3⟩ => ?_
  · exact congrArg V.bl (by simp)
  · subst ec eh3
    cases (show uc = Value.bool (decide (y = z)) from rc)
    refine wpAny_truthy_bool ?_
    have q := h s3 I3
    by_cases e : y = z
    · rw [decide_eq_true e, if_pos rfl]
      rw [if_pos e] at q
      exact q
    · rw [decide_eq_false e, if_neg Bool.false_ne_true]
      rw [if_neg e] at q
      exact q
theorem first_pat {y : PySem.Str} {u : Value} {Q : Option (List (PySem.Str × Value)) → Shared → Prop} {ps : List Pattern} {zs : List PySem.Str} (c : WPats ps zs) : ∀ {s : Shared}, Inv X pins σ H s → RelV (.str y) u → (∀ s', Inv X pins σ H s' → Q (if y ∈ zs then some [] else none) s') →
    wpAny (model X.prog X.w) X.A (matchFirst ps X.env u) Q X.xe s := by
  induction c with
  | nil =>
    intro s I r0 h
    refine wpAny_matchFirst_nil ?_
    have := h s I
    rwa [if_neg (List.not_mem_nil)] at this
  | @cons ps zs z j p1 p2 r ih =>
    intro s I r0 h
    refine wpAny_matchFirst_cons (val_pat I r0 fun s' I' => ?_)
    by_cases e : y = z
    · rw [if_pos e]
      have := h s' I'
      rwa [if_pos (by rw [e]; exact List.mem_cons_self)] at this
    · rw [if_neg e]
      refine ih I' r0 fun s2 I2 => ?_
      have := h s2 I2
      have iff : y ∈ z :: zs ↔ y ∈ zs := by rw [List.mem_cons]; exact ⟨fun h => h.elim (fun h => absurd h e) id, .inr⟩
      simp only [iff] at this
      exact this
/-- case 'a' | 'b' | .. -/
def tStrs (zs : List PySem.Str) (tb : TS) (rest : V → TS) : V → TS := fun v D σ H => ∃ y : PySem.Str, v = .str y ∧ (y ∈ zs → tb D σ H) ∧ (y ∉ zs → rest v D σ H)
theorem pm_or {ps : List Pattern} {zs : List PySem.Str} {p3 : Pos} {body : List Stmt} {cs : List MatchCase} {tb : TS} {rest : V → TS} (c : WPats ps zs) (hb : PSs X body tb) (hr : PMc X cs rest) (hn : namesOfAll (ps.take 1) = [] := by rfl) : PMc X (⟨.MatchOr ps p3, none, body⟩ :: cs) (tStrs zs tb rest) := by
  refine ⟨fun pins s σ H D v u first I r h => ?_⟩
  obtain ⟨y, rfl, yes, no⟩ := h
  refine wpAny_matchCases_cons (wpAny_matchPattern_Or (first_pat c I r fun s' I' => ?_))
  by_cases e : y ∈ zs
  · rw [if_pos e]
    show wpAny _ _ (assignInOrder ((((namesOfAll (ps.take 1)).filterMap fun n => (([] : List (PySem.Str × Value)).lookup n).map (n, ·))).map fun (n, _) => bindName X.env n) ((((namesOfAll (ps.take 1)).filterMap fun n => (([] : List (PySem.Str × Value)).lookup n).map (n, ·))).map (·.2))) _ _ _
    rw [hn]
    refine wpAny_assignInOrder_none ?_
    exact hb.run pins s' σ H D I' (yes e)
  · rw [if_neg e]
    exact hr.run pins s' σ H D (.str y) u false I' r (no e)
theorem pm_str {z : PySem.Str} {j : Nat} {p1 p2 : Pos} {body : List Stmt} {cs : List MatchCase} {tb : TS} {rest : V → TS} (hb : PSs X body tb) (hr : PMc X cs rest) : PMc X (⟨.MatchValue (.Constant (.str z) j p1) p2, none, body⟩ :: cs) (tStrs [z] tb rest) := by
  refine ⟨fun pins s σ H D v u first I r h => ?_⟩
  obtain ⟨y, rfl, yes, no⟩ := h
  refine wpAny_matchCases_cons (val_pat I r fun s' I' => ?_)
  by_cases e : y = z
  · rw [if_pos e]
    refine wpAny_assignInOrder_none ?_
    exact hb.run pins s' σ H D I' (yes (List.mem_singleton.mpr e))
  · rw [if_neg e]
    exact hr.run pins s' σ H D (.str y) u false I' r (no fun k => e (List.mem_singleton.mp k))
/-- case _ -/
def tElse (tb : TS) : V → TS := fun _ D σ H => tb D σ H
theorem pm_else {p : Pos} {body : List Stmt} {tb : TS} (hb : PSs X body tb) : PMc X [⟨.MatchAs none none p, none, body⟩] (tElse tb) := by
  refine ⟨fun pins s σ H D v u first I r h => ?_⟩
  refine wpAny_matchCases_cons (wpAny_matchPattern_Capture ?_)
  refine wpAny_assignInOrder_none ?_
  exact hb.run pins s σ H D I h
/-- case ['a', 'b', n1, ..] -/
def tTwo (K : PySem.W.Frag) (z1 z2 : PySem.Str) (n : Nat) (g : TGs) (tb : TS) (rest : V → TS) : V → TS := fun v D σ H => ∃ (a : Addr) (y1 y2 : PySem.Str) (xs : List V), v = .ref a ∧ SqT K H a (.str y1 :: .str y2 :: xs) ∧
  (xs.length = n ∧ y1 = z1 ∧ y2 = z2 → g xs σ H fun σ' H' => tb D σ' H') ∧ (¬ (xs.length = n ∧ y1 = z1 ∧ y2 = z2) → rest v D σ H)
theorem pm_two {z1 z2 : PySem.Str} {j1 j2 : Nat} {p1 p2 p3 p4 p5 : Pos} {ps : List Pattern} {ns : List PySem.Str} {body : List Stmt} {cs : List MatchCase} {g : TGs} {tb : TS} {rest : V → TS} (hc : X.calm = true) (c : Caps ps ns) (hg : PBn X ns g) (hb : PSs X body tb) (hr : PMc X cs rest)
    (hs : (Pattern.MatchValue (.Constant (.str z1) j1 p1) p2 :: Pattern.MatchValue (.Constant (.str z2) j2 p3) p4 :: ps).findIdx? (·.isStar) = none := by rfl)
    (hw : ((Pattern.MatchValue (.Constant (.str z1) j1 p1) p2 :: Pattern.MatchValue (.Constant (.str z2) j2 p3) p4 :: ps).all fun p => p.isWildcard || (p.isStar && p.names.isEmpty)) = false := by rfl) :
    PMc X (⟨.MatchSequence (.MatchValue (.Constant (.str z1) j1 p1) p2 :: .MatchValue (.Constant (.str z2) j2 p3) p4 :: ps) p5, none, body⟩ :: cs) (tTwo X.K z1 z2 ns.length g tb rest) := by
  refine ⟨fun pins s σ H D v u first I r h => ?_⟩
  obtain ⟨a, y1, y2, xs, rfl, hq, yes, no⟩ := h
  cases r
  obtain ⟨its, rv, p, hz⟩ := I.tuple hq
  obtain ⟨u1, u2, us, rfl, r1, r2, rs⟩ : ∃ u1 u2 us, its = u1 :: u2 :: us ∧ RelV (.str y1) u1 ∧ RelV (.str y2) u2 ∧ Vals xs us := by
    cases rv with
    | cons r0 rs => cases rs with
      | cons r9 rs => exact ⟨_, _, _, rfl, r0, r9, rs⟩
  have xl : xs.length = us.length := rs.length
  have fit : (((u1 :: u2 :: us).toArray.size : Nat) : Int) < 2 ^ 63 := by
    have h1 : (u1 :: u2 :: us).toArray.size ≤ sizeLine := by
      have z := hz
      simp only [List.length_cons] at z
      simp only [List.size_toArray, List.length_cons]
      omega
    rw [sizeLine_eq] at h1
    omega
  refine wpAny_matchCases_cons ?_
  by_cases hl : xs.length = ns.length
  · refine matchSeq_tuple_hit p fit (by simp [c.len, ← hl, xl]) ?_ hs hw
    have en : (Pattern.MatchValue (.Constant (.str z1) j1 p1) p2 :: Pattern.MatchValue (.Constant (.str z2) j2 p3) p4 :: ps).length = (u1 :: u2 :: us).toArray.size := by simp [c.len, ← hl, xl]
    rw [en]
    refine wpAny_unpackItems_tuple (I.ok.hd hc) p fun h' eb => ?_
    have I1 : Inv X pins σ H { s with heap := h', toks := s.toks + 1 + 1 } := I.kept (t' := s.toks + 1 + 1) fun b o e => eb b o (Nat.ne_of_lt (Heap.lt_size e)) e
    show wpAny _ _ (matchEach _ _ (u1 :: u2 :: us)) _ _ _
    refine wpAny_matchEach_cons (val_pat I1 r1 fun s2 I2 => ?_)
    have fin : ∀ s9, Inv X pins σ H s9 → rest (.ref a) D σ H → wpAny (model X.prog X.w) X.A (matchCases cs X.env (.ref a) false) (SP X pins D) X.xe s9 := fun s9 I9 w => hr.run pins s9 σ H D (.ref a) (.ref a) false I9 rfl w
    by_cases e1 : y1 = z1
    · rw [if_pos e1]
      refine wpAny_matchEach_cons (val_pat I2 r2 fun s3 I3 => ?_)
      by_cases e2 : y2 = z2
      · rw [if_pos e2]
        refine caps_each c (by omega) ?_
        obtain ⟨q1, q2⟩ := zip_names (bindName X.env) ns us (by omega)
        show wpAny _ _ (assignInOrder ((([] : List (PySem.Str × Value)) ++ (([] : List (PySem.Str × Value)) ++ ns.zip us)).map fun (n, _) => bindName X.env n) ((([] : List (PySem.Str × Value)) ++ (([] : List (PySem.Str × Value)) ++ ns.zip us)).map (·.2))) _ _ _
        rw [List.nil_append, List.nil_append, q1, q2]
        refine thn (hg.run pins s3 σ H xs us _ I3 rs (yes ⟨hl, e1, e2⟩)) fun _ s4 ⟨σ4, H4, I4, q4⟩ => ?_
        exact hb.run pins s4 σ4 H4 D I4 q4
      · rw [if_neg e2]
        exact fin s3 I3 (no fun k => e2 k.2.2)
    · rw [if_neg e1]
      exact fin s2 I2 (no fun k => e1 k.2.1)
  · refine matchSeq_tuple_miss p fit (by simp [c.len]; omega) ?_ hs hw
    exact hr.run pins _ σ H D (.ref a) (.ref a) false (I.kept (t' := _) fun b o e => e) rfl (no fun k => hl k.1)
theorem pm_twoK {K : PySem.W.Frag} (hk : X.K = K) {z1 z2 : PySem.Str} {j1 j2 : Nat} {p1 p2 p3 p4 p5 : Pos} {ps : List Pattern} {ns : List PySem.Str} {body : List Stmt} {cs : List MatchCase} {g : TGs} {tb : TS} {rest : V → TS} (hc : X.calm = true) (c : Caps ps ns) (hg : PBn X ns g) (hb : PSs X body tb) (hr : PMc X cs rest)
    (hs : (Pattern.MatchValue (.Constant (.str z1) j1 p1) p2 :: Pattern.MatchValue (.Constant (.str z2) j2 p3) p4 :: ps).findIdx? (·.isStar) = none := by rfl)
    (hw : ((Pattern.MatchValue (.Constant (.str z1) j1 p1) p2 :: Pattern.MatchValue (.Constant (.str z2) j2 p3) p4 :: ps).all fun p => p.isWildcard || (p.isStar && p.names.isEmpty)) = false := by rfl) :
    PMc X (⟨.MatchSequence (.MatchValue (.Constant (.str z1) j1 p1) p2 :: .MatchValue (.Constant (.str z2) j2 p3) p4 :: ps) p5, none, body⟩ :: cs) (tTwo K z1 z2 ns.length g tb rest) := hk ▸ pm_two hc c hg hb hr hs hw
/-- a row of statements that is never walked -/
def sDead : TS := fun _ _ _ => False
theorem pss_dead {sts : List Stmt} : PSs X sts sDead := ⟨fun _ _ _ _ _ _ h => h.elim⟩
variable {K : PySem.W.Frag} {D : Ends}
theorem r_sHit {zs : List PySem.Str} {y : PySem.Str} {tb : TS} {rest : V → TS} (h : y ∈ zs) (q : tb D σ H) : tStrs zs tb rest (.str y) D σ H := ⟨y, rfl, fun _ => q, fun n => absurd h n⟩
theorem r_sMiss {zs : List PySem.Str} {y : PySem.Str} {tb : TS} {rest : V → TS} (h : y ∉ zs) (q : rest (.str y) D σ H) : tStrs zs tb rest (.str y) D σ H := ⟨y, rfl, fun n => absurd n h, fun _ => q⟩
theorem r_tHit {z1 z2 : PySem.Str} {n : Nat} {g : TGs} {tb : TS} {rest : V → TS} {a : Addr} {xs : List V} (h : H a = some (.tup (.str z1 :: .str z2 :: xs))) (hl : xs.length = n) (q : g xs σ H fun σ' H' => tb D σ' H') : tTwo K z1 z2 n g tb rest (.ref a) D σ H :=
  ⟨a, z1, z2, xs, rfl, .inl (.inl h), fun _ => q, fun x => absurd ⟨hl, rfl, rfl⟩ x⟩
theorem r_tMiss {z1 z2 y1 y2 : PySem.Str} {n : Nat} {g : TGs} {tb : TS} {rest : V → TS} {a : Addr} {xs : List V} (h : H a = some (.tup (.str y1 :: .str y2 :: xs))) (ne : ¬ (xs.length = n ∧ y1 = z1 ∧ y2 = z2)) (q : rest (.ref a) D σ H) : tTwo K z1 z2 n g tb rest (.ref a) D σ H :=
  ⟨a, y1, y2, xs, rfl, .inl (.inl h), fun x => absurd x ne, fun _ => q⟩
end

set_option Elab.async false
set_option linter.all false
set_option maxRecDepth 100000
set_option maxHeartbeats 4000000
open PySem PySem.Spec PyProof.Rows L2 LamX RZ

abbrev s_is_class_paper : Stmt := topS 261
theorem sc_is_class_paper : FnScope ["graph", "question", "answer", "data", "item", "order"] ["graph", "question", "answer", "data"] (defScope s_is_class_paper) := ⟨rfl, rfl, rfl, by decide +kernel, rfl, by decide +kernel, by decide +kernel⟩

abbrev s_is_right : Stmt := topS 317
theorem sc_is_right : FnScope ["graph", "question", "answer", "data"] ["graph", "question", "answer", "data"] (defScope s_is_right) := ⟨rfl, rfl, rfl, by decide +kernel, rfl, by decide +kernel, by decide +kernel⟩

abbrev s_check : Stmt := topS 316
theorem sc_check : FnScope ["graph", "question", "paper", "answer", "data"] ["graph", "question", "paper"] (defScope s_check) := ⟨rfl, rfl, rfl, by decide +kernel, rfl, by decide +kernel, by decide +kernel⟩

def rgtC (n : Int) (ps : List (Int × Int)) (a : Str) (d : PyData) : Prop := (a = "yes" ∧ ordC n ps d) ∨ (a = "no" ∧ holeP n ps d)
theorem yn_ne : ("no" : Str) ≠ "yes" := by decide +kernel
section
variable {P : Program} {w : World} {K : PySem.W.Frag} {mg : Str → Option Value} {base : Heap}
def spClass (bb : Addr) (TT : List (Addr × Str)) : Sp := fun vs H Q _ => ∃ (g v : V) (n : Nat) (ps : List (Int × Int)) (qa : Addr) (a : Str) (d : PyData), vs = [g, .ref qa, .str a, v] ∧ GrAt H g (n : Int) ps ∧ (∀ p ∈ ps, 0 ≤ p.1 ∧ p.1 < p.2 ∧ p.2 < (n : Int)) ∧ n ≤ 7 ∧ ps.length ≤ 60 ∧
  H qa = some (.tup [.str "chordal"]) ∧ (a = "yes" ∨ a = "no") ∧ DX bb H v d ∧ (∃ D, limX D 300 d) ∧ Tabs TT H ∧ ∀ (r : Bool) H', ExtN H H' → Tabs TT H' → (r = true ↔ rgtC (n : Int) ps a d) → Q (.bl r) H'
theorem ok_class {bb : Addr} {TT : List (Addr × Str)} (T : Blt mg) (D : DefAt K mg "is_class_paper" s_is_class_paper ["graph", "question", "answer", "data"])
    (D_are_cliques_behind : DefAt K mg "_are_cliques_behind" s_are_cliques_behind ["graph", "value"]) (G_are_cliques_behind : FnOk P w K mg base CX0 10 D_are_cliques_behind.f D_are_cliques_behind.fd ["graph", "value"] (spCliB bb TT))
    (D_is_hole : DefAt K mg "_is_hole" s_is_hole ["graph", "value"]) (G_is_hole : FnOk P w K mg base CX0 10 D_is_hole.f D_is_hole.fd ["graph", "value"] (spHoleX bb TT)) :
    FnOk P w K mg base CX0 11 D.f D.fd ["graph", "question", "answer", "data"] (spClass bb TT) := by
  refine D.F.ok sc_is_class_paper (fun vs H Q E h => ?_) (fun cdv A outer s H vs Q E hr h => ?_)
  · obtain ⟨g, v, n, ps, qa, a, d, rfl, _⟩ := h
    rfl
  · obtain ⟨g, v, n, ps, qa, a, d, rfl, hgr, inn, n7, lps, hq, hya, hd, ⟨DD, hl⟩, hT, q⟩ := h
    refine ⟨_, (pss_cons (ps_match (pe_tup (pa_cons (pv 2) (pa_starK (K := K) rfl (pv 1) pa_nil))) (pm_twoK (K := K) rfl rfl .nil bn_nil
        (pss_one (ps_ret (pe_call G_are_cliques_behind (hr.mono (by first | decide | omega)) (by rfl) D_are_cliques_behind.g D_are_cliques_behind.F.kp D_are_cliques_behind.b .nil pass0 (pa_cons (pv 0) (pa_cons (pv 3) pa_nil)))))
        (pm_twoK (K := K) rfl rfl .nil bn_nil
        (pss_one (ps_ret (pe_call G_is_hole (hr.mono (by first | decide | omega)) (by rfl) D_is_hole.g D_is_hole.F.kp D_is_hole.b .nil pass0 (pa_cons (pv 0) (pa_cons (pv 3) pa_nil)))))
        (pm_twoK (K := K) rfl rfl .nil bn_nil
        pss_dead
        (pm_twoK (K := K) rfl rfl .nil bn_nil
        pss_dead
        (pm_twoK (K := K) rfl rfl .nil bn_nil
        pss_dead
        (pm_twoK (K := K) rfl rfl .nil bn_nil
        pss_dead
        (pm_twoK (K := K) rfl rfl .nil bn_nil
        pss_dead
        (pm_twoK (K := K) rfl rfl .nil bn_nil
        pss_dead
        pm_nil)))))))))
      (pss_one (ps_ret pe_bl))), ?_⟩
    refine r_at (σ := [some _, some _, some _, some _, none, none]) rfl ?_
    walk_at "z"
    refine r_stN hq ?_
    walk_at "z"
    refine r_tupN (small_len (by simp only [List.length_cons, List.length_nil, List.length_append]; omega)) fun t ht => ?_
    have s1 : Same H (upd H t (.tup (.str a :: ([.str "chordal"] ++ [])))) := same_new ht
    have ht1 : (upd H t (.tup (.str a :: ([.str "chordal"] ++ [])))) t = some (.tup (.str a :: .str "chordal" :: [])) := upd_same
    generalize upd H t (.tup (.str a :: ([.str "chordal"] ++ []))) = H1 at s1 ht1 ⊢
    have T1 := tabs_same hT s1
    have gr1 := hgr.tk (.of_same s1)
    have hd1 := hd.same s1
    have len : ∀ ds, d = .tuple ds → ds.length ≤ 1000 := fun ds e => by
      rw [e] at hl
      obtain ⟨_, _, lb, _⟩ := limX_tup hl
      omega
    rcases hya with rfl | rfl
    · refine r_tHit ht1 rfl ?_
      walk_at "z"
      exact ⟨g, v, n, ps, d, rfl, gr1, by omega, by omega, inn, hd1, len, T1, fun r H2 e2 T2 hr2 => q r H2 ((ext_same s1).trans e2) T2 (hr2.trans ⟨fun h => .inl ⟨rfl, h⟩, fun h => h.elim (fun h => h.2) fun h => absurd h.1.symm yn_ne⟩)⟩
    · refine r_tMiss ht1 (fun h => yn_ne h.2.1) ?_
      refine r_tHit ht1 rfl ?_
      walk_at "z"
      exact ⟨g, v, n, ps, d, rfl, gr1, n7, by omega, inn, hd1, len, T1, fun r H2 e2 T2 hr2 => q r H2 ((ext_same s1).trans e2) T2 (hr2.trans ⟨fun h => .inr ⟨rfl, h⟩, fun h => h.elim (fun h => absurd h.1 yn_ne) fun h => h.2⟩)⟩
def spRight (b : Addr) (TT : List (Addr × Str)) : Sp := spClass b TT
theorem ok_right {b : Addr} {TT : List (Addr × Str)} (T : Blt mg) (D : DefAt K mg "_is_right" s_is_right ["graph", "question", "answer", "data"])
    (D_is_class_paper : DefAt K mg "is_class_paper" s_is_class_paper ["graph", "question", "answer", "data"]) (G_is_class_paper : FnOk P w K mg base CX0 11 D_is_class_paper.f D_is_class_paper.fd ["graph", "question", "answer", "data"] (spClass b TT)) :
    FnOk P w K mg base CX0 17 D.f D.fd ["graph", "question", "answer", "data"] (spRight b TT) := by
  refine D.F.ok sc_is_right (fun vs H Q E h => ?_) (fun cdv A outer s H vs Q E hr h => ?_)
  · obtain ⟨g, v, n, ps, qa, a, d, rfl, _⟩ := h
    rfl
  · have hp := h
    obtain ⟨g, v, n, ps, qa, a, d, rfl, hgr, inn, n7, lps, hq, hya, hd, hl, hT, q⟩ := h
    refine ⟨_, (pss_one (ps_match (pe_ix (ix_tupK (K := K) rfl) (pv 1) pe_int (fun _ _ => rfl)) (pm_or (.cons _ _ _ _ (.cons _ _ _ _ (.cons _ _ _ _ (.cons _ _ _ _ (.cons _ _ _ _ .nil))))) pss_dead
        (pm_or (.cons _ _ _ _ (.cons _ _ _ _ (.cons _ _ _ _ (.cons _ _ _ _ .nil)))) pss_dead
        (pm_or (.cons _ _ _ _ (.cons _ _ _ _ (.cons _ _ _ _ (.cons _ _ _ _ .nil)))) (pss_one (ps_ret (pe_call G_is_class_paper (hr.mono (by first | decide | omega)) (by rfl) D_is_class_paper.g D_is_class_paper.F.kp D_is_class_paper.b .nil pass0 (pa_cons (pv 0) (pa_cons (pv 1) (pa_cons (pv 2) (pa_cons (pv 3) pa_nil)))))))
        (pm_or (.cons _ _ _ _ (.cons _ _ _ _ (.cons _ _ _ _ .nil))) pss_dead
        (pm_or (.cons _ _ _ _ (.cons _ _ _ _ .nil)) pss_dead
        (pm_else pss_dead)))))))), ?_⟩
    refine r_at (σ := [some _, some _, some _, some _]) rfl ?_
    walk_at "z"
    refine r_sMiss (by decide +kernel) ?_
    refine r_sMiss (by decide +kernel) ?_
    refine r_sHit (by decide +kernel) ?_
    walk_at "z"
    exact ⟨g, v, n, ps, qa, a, d, rfl, hgr, inn, n7, lps, hq, hya, hd, hl, hT, q⟩
def spCheck (b : Addr) (TT : List (Addr × Str)) : Sp := fun vs H Q _ => ∃ (g v : V) (n : Nat) (ps : List (Int × Int)) (qa pa : Addr) (a : Str) (d : PyData), vs = [g, .ref qa, .ref pa] ∧ GrAt H g (n : Int) ps ∧ (∀ p ∈ ps, 0 ≤ p.1 ∧ p.1 < p.2 ∧ p.2 < (n : Int)) ∧ n ≤ 7 ∧ ps.length ≤ 60 ∧
  H qa = some (.tup [.str "chordal"]) ∧ H pa = some (.tup [.str a, v]) ∧ (a = "yes" ∨ a = "no") ∧ DX b H v d ∧ (∃ D, limX D 300 d) ∧ Tabs TT H ∧ ∀ (r : Bool) H', ExtN H H' → Tabs TT H' → (r = true ↔ rgtC (n : Int) ps a d) → Q (.bl r) H'
theorem ok_check {b : Addr} {TT : List (Addr × Str)} (T : Blt mg) (D : DefAt K mg "check" s_check ["graph", "question", "paper"])
    (D_is_question : DefAt K mg "is_question" s_is_question ["graph", "value"]) (G_is_question : FnOk P w K mg base CX0 16 D_is_question.f D_is_question.fd ["graph", "value"] (spQX b TT))
    (D_is_tuple : DefAt K mg "is_tuple" s_is_tuple ["value", "many"]) (G_is_tuple : FnOk P w K mg base CX0 1 D_is_tuple.f D_is_tuple.fd ["value", "many"] (spTupX b))
    (D_is_right : DefAt K mg "_is_right" s_is_right ["graph", "question", "answer", "data"]) (G_is_right : FnOk P w K mg base CX0 17 D_is_right.f D_is_right.fd ["graph", "question", "answer", "data"] (spRight b TT)) :
    FnOk P w K mg base CX0 18 D.f D.fd ["graph", "question", "paper"] (spCheck b TT) := by
  refine D.F.ok sc_check (fun vs H Q E h => ?_) (fun cdv A outer s H vs Q E hr h => ?_)
  · obtain ⟨g, v, n, ps, qa, pa, a, d, rfl, _⟩ := h
    rfl
  · obtain ⟨g, v, n, ps, qa, pa, a, d, rfl, hgr, inn, n7, lps, hq, hp, hya, hd, hl, hT, q⟩ := h
    have a1 : a.cps.all (· < 0x110000) = true := by rcases hya with rfl | rfl <;> decide +kernel
    refine ⟨_, (pss_cons (ps_if (pt_not (pt_val (pe_call G_is_question (hr.mono (by first | decide | omega)) (by rfl) D_is_question.g D_is_question.F.kp D_is_question.b .nil pass0 (pa_cons (pv 0) (pa_cons (pv 1) pa_nil)))))
        pss_dead
        pss_nil)
      (pss_cons (ps_if (PW.pt (pw_or (pt_not (pt_val (pe_call G_is_tuple (hr.mono (by first | decide | omega)) (by rfl) D_is_tuple.g D_is_tuple.F.kp D_is_tuple.b .nil pass0 (pa_cons (pv 2) (pa_cons pe_int pa_nil))))) (pw_or1 (pt_not (pt_val (pe_callB (call_isiK (K := K) rfl) (by rfl) T.isinstance (by decide +kernel) (pa_cons (pe_ix (ix_tupK (K := K) rfl) (pv 2) pe_int (fun _ _ => rfl)) (pa_cons (pe_bltn (v := .ty "str") (u := .type "str") (by rfl) T.str (by decide +kernel) rfl) pa_nil))))))))
        (pss_one (ps_ret pe_bl))
        pss_nil)
      (pss_cons (ps_asg (pv 2) (PG.tupK (K := K) rfl (pg_tup (n := 2) rfl (pgs_cons (pg_name (i := 3) sc_check.nd rfl (Or.inl rfl)) (pgs_cons (pg_name (i := 4) sc_check.nd rfl (Or.inl rfl)) pgs_nil)))))
      (pss_one (ps_ret (pe_call G_is_right (hr.mono (by first | decide | omega)) (by rfl) D_is_right.g D_is_right.F.kp D_is_right.b .nil pass0 (pa_cons (pv 0) (pa_cons (pv 1) (pa_cons (pv 3) (pa_cons (pv 4) pa_nil)))))))))), ?_⟩
    refine r_at (σ := [some _, some _, some _, none, none]) rfl ?_
    walk_at "z"
    refine ⟨g, .ref qa, (n : Int), ps, .tuple [.str "chordal"], rfl, hgr, .tup (.inl hq) (.cons (.str _) .nil), ⟨2, by simp, fun x hx => ?_⟩, hT, fun r H1 e1 T1 hr1 => ?_⟩
    · rw [List.mem_singleton.mp hx]
      exact (by decide +kernel : ("chordal" : Str).cps.all (· < 0x110000) = true)
    have rt : r = true := hr1.mpr (qX_cons.mpr ⟨by decide +kernel, by
      rw [if_neg (by decide +kernel), if_neg (by decide +kernel), if_neg (by decide +kernel)]⟩)
    subst rt
    have hp1 := ext_tup e1 hp
    have hq1 := ext_tup e1 hq
    walk_at "z"
    try refine iteF ?_
    walk_at "z"
    refine ⟨.ref pa, .tuple [.str a, d], 2, rfl, .tup (.inl hp1) (.cons (.str _) (.cons (hd.ext e1) .nil)), ?_⟩
    rw [show lenD 2 (.tuple [.str a, d]) = true from rfl]
    walk_at "z"
    try refine iteF ?_
    walk_at "z"
    refine r_isiX (b := true) (DX.str a : DX b H1 (.str a) (.str a)) (k := "str") rfl (by decide +kernel) ?_
    walk_at "z"
    try refine iteF ?_
    walk_at "z"
    refine r_gtup (.inl (.inl hp1)) rfl ?_
    walk_at "z"
    exact ⟨g, v, n, ps, qa, a, d, rfl, hgr.tk (ext_tk e1), inn, n7, lps, hq1, hya, hd.ext e1, hl, T1, fun r H2 e2 T2 h => q r H2 (e1.trans e2) T2 h⟩
end

set_option Elab.async false
set_option linter.all false
set_option maxRecDepth 100000
set_option maxHeartbeats 4000000
open PySem PySem.Spec PyProof.Rows L2 LamX RZ

abbrev s_chordal_paper : Stmt := topS 81
theorem sc_chordal_paper : FnScope ["graph", "order", "left"] ["graph"] (defScope s_chordal_paper) := ⟨rfl, rfl, rfl, by decide +kernel, rfl, by decide +kernel, by decide +kernel⟩

abbrev s_class_paper : Stmt := topS 80
theorem sc_class_paper : FnScope ["graph", "question"] ["graph", "question"] (defScope s_class_paper) := ⟨rfl, rfl, rfl, by decide +kernel, rfl, by decide +kernel, by decide +kernel⟩

abbrev s_decide : Stmt := topS 259
theorem sc_decide : FnScope ["graph", "question"] ["graph", "question"] (defScope s_decide) := ⟨rfl, rfl, rfl, by decide +kernel, rfl, by decide +kernel, by decide +kernel⟩

/-- what the paper for chordal promises -/
def ppC (n : Int) (ps : List (Int × Int)) (y : Str) (os : List Int) : Prop := os.Nodup ∧ (∀ z ∈ os, 0 ≤ z ∧ z < n) ∧ ((y = "yes" ∧ (∀ c, IsHole ps c → (∀ z ∈ c, 0 ≤ z ∧ z < n) → False) ∧ (os.length : Int) = n ∧ Elim ps os fun _ => False) ∨ (y = "no" ∧ IsHole ps os))
section
variable {P : Program} {w : World} {K : PySem.W.Frag} {mg : Str → Option Value} {base : Heap}
def spCP (TT : List (Addr × Str)) : Sp := fun vs H Q _ => ∃ (g : V) (n : Nat) (ps : List (Int × Int)), vs = [g] ∧ GrAt H g (n : Int) ps ∧ n ≤ 60 ∧ ps.length ≤ 10000 ∧ (∀ p ∈ ps, 0 ≤ p.1 ∧ p.1 < p.2 ∧ p.2 < (n : Int)) ∧ Tabs TT H ∧
  ∀ (t a : Addr) (y : Str) (os : List Int) (H' : Hp), ExtN H H' → Tabs TT H' → H' t = some (.tup [.str y, .ref a]) → H' a = some (.tup (os.map V.int)) → ppC (n : Int) ps y os → Q (.ref t) H'
theorem ok_cpaper {TT : List (Addr × Str)} (T : Blt mg) (D : DefAt K mg "_chordal_paper" s_chordal_paper ["graph"])
    (D_clique_order : DefAt K mg "clique_order" s_clique_order ["graph"]) (G_clique_order : FnOk P w K mg base CX0 4 D_clique_order.f D_clique_order.fd ["graph"] spOrder)
    (D_find_hole : DefAt K mg "find_hole" s_find_hole ["graph"]) (G_find_hole : FnOk P w K mg base CX0 8 D_find_hole.f D_find_hole.fd ["graph"] (spHole TT)) :
    FnOk P w K mg base CX0 9 D.f D.fd ["graph"] (spCP TT) := by
  refine D.F.ok sc_chordal_paper (fun vs H Q E h => ?_) (fun cdv A outer s H vs Q E hr h => ?_)
  · obtain ⟨g, n, ps, rfl, _⟩ := h
    rfl
  · obtain ⟨g, n, ps, rfl, hgr, n60, hlen, inn, hT, q⟩ := h
    refine ⟨_, (pss_cons (ps_asg (pe_call G_clique_order (hr.mono (by first | decide | omega)) (by rfl) D_clique_order.g D_clique_order.F.kp D_clique_order.b .nil pass0 (pa_cons (pv 0) pa_nil)) (PG.tupK (K := K) rfl (pg_tup (n := 2) rfl (pgs_cons (pg_name (i := 1) sc_chordal_paper.nd rfl (Or.inl rfl)) (pgs_cons (pg_name (i := 2) sc_chordal_paper.nd rfl (Or.inl rfl)) pgs_nil)))))
      (pss_one (ps_ret (pe_ifExp (pt_cmpR (op_eqX (K := K) rfl hr.units) (pv 2) (pe_tup pa_nil) (nomark _)) (pe_tup (pa_cons pe_str (pa_cons (pv 1) pa_nil))) (pe_tup (pa_cons pe_str (pa_cons (pe_call G_find_hole (hr.mono (by first | decide | omega)) (by rfl) D_find_hole.g D_find_hole.F.kp D_find_hole.b .nil pass0 (pa_cons (pv 0) pa_nil)) pa_nil))))))), ?_⟩
    refine r_at (σ := [some _, none, none]) rfl ?_
    walk_at "z"
    refine ⟨g, n, ps, rfl, hgr, n60, hlen, inn, fun t p1 p2 os ns H1 s1 ht hp1 hp2 asc bd full ond obd oall oel ohh => ?_⟩
    refine r_gtup (.inl (.inl ht)) rfl ?_
    have T1 := tabs_same hT s1
    walk_at "z"
    refine r_tupN (Nat.zero_le _) fun t0 ht0 => ?_
    have s2 := same_new (o := .tup []) ht0
    have ht02 : (upd H1 t0 (.tup [])) t0 = some (.tup []) := upd_same
    have hp12 := s2 _ _ hp1
    have hp22 := s2 _ _ hp2
    generalize upd H1 t0 (.tup []) = H2 at s2 ht02 hp12 hp22 ⊢
    have s02 := s1.trans s2
    have T2 := tabs_same T1 s2
    refine r_eqTE (.inl (.inl hp22)) (.inl (.inl ht02)) ?_
    cases ens : ns with
    | nil =>
      subst ens
      walk_at "z"
      refine iteT ?_
      walk_at "z"
      refine r_tupN sz2 fun tr htr => ?_
      have s3 := same_new (o := .tup [.str "yes", .ref p1]) htr
      refine q tr p1 "yes" os _ (ext_same (s02.trans s3)) (tabs_same T2 s3) upd_same (s3 _ _ hp12) ⟨ond, obd, .inl ⟨rfl, fun c hc hr => ?_, by rw [oall rfl], oel.mono fun z _ hz => hz.elim⟩⟩
      have l4 := hc.1
      cases c with
      | nil => simp at l4
      | cons a r => exact (nomatch full (fun z => z ∈ a :: r) (fun v hv => hr v hv) hc.holey a List.mem_cons_self)
    | cons n0 nr =>
      walk_at "z"
      refine iteF ?_
      walk_at "z"
      refine ⟨g, n, ps, rfl, hgr.tk (.of_same s02), n60, hlen, inn, T2, fun x H3 e3 T3 hx => ?_⟩
      rcases hx with ⟨rfl, _, no⟩ | ⟨p, c, rfl, hp, hc, hr⟩
      · exact (no (fun z => z ∈ ns) (fun v hv => bd v hv) ohh n0 (by rw [ens]; exact List.mem_cons_self)).elim
      · walk_at "z"
        refine r_tupN sz2 fun tr htr => ?_
        have s4 := same_new (o := .tup [.str "no", .ref p]) htr
        exact q tr p "no" c _ ((ext_same s02).trans (e3.trans (ext_same s4))) (tabs_same T3 s4) upd_same (s4 _ _ hp) ⟨hc.2.1, hr, .inr ⟨rfl, hc⟩⟩
def spCPQ (TT : List (Addr × Str)) : Sp := fun vs H Q E => ∃ (qa : Addr) (g : V), vs = [g, .ref qa] ∧ H qa = some (.tup [.str "chordal"]) ∧ spCP TT [g] H Q E
theorem ok_cpap {TT : List (Addr × Str)} (T : Blt mg) (D : DefAt K mg "class_paper" s_class_paper ["graph", "question"])
    (D_chordal_paper : DefAt K mg "_chordal_paper" s_chordal_paper ["graph"]) (G_chordal_paper : FnOk P w K mg base CX0 9 D_chordal_paper.f D_chordal_paper.fd ["graph"] (spCP TT)) :
    FnOk P w K mg base CX0 10 D.f D.fd ["graph", "question"] (spCPQ TT) := by
  refine D.F.ok sc_class_paper (fun vs H Q E h => ?_) (fun cdv A outer s H vs Q E hr h => ?_)
  · obtain ⟨qa, g, rfl, _⟩ := h
    rfl
  · obtain ⟨qa, g, rfl, hq, h⟩ := h
    refine ⟨_, (pss_cons (ps_match (pe_ix (ix_tupK (K := K) rfl) (pv 1) pe_int (fun _ _ => rfl)) (pm_str (pss_one (ps_ret (pe_call G_chordal_paper (hr.mono (by first | decide | omega)) (by rfl) D_chordal_paper.g D_chordal_paper.F.kp D_chordal_paper.b .nil pass0 (pa_cons (pv 0) pa_nil))))
        (pm_str pss_dead
        (pm_str pss_dead
        pm_nil))))
      pss_dead), ?_⟩
    refine r_at (σ := [some _, some _]) rfl ?_
    walk_at "z"
    refine r_sHit (by decide +kernel) ?_
    walk_at "z"
    exact h
def spDec (TT : List (Addr × Str)) : Sp := fun vs H Q E => ∃ (qa : Addr) (g : V), vs = [g, .ref qa] ∧ H qa = some (.tup [.str "chordal"]) ∧ spCP TT [g] H Q E
theorem ok_decide {b : Addr} {TT : List (Addr × Str)} (T : Blt mg) (D : DefAt K mg "decide" s_decide ["graph", "question"])
    (D_is_question : DefAt K mg "is_question" s_is_question ["graph", "value"]) (G_is_question : FnOk P w K mg base CX0 16 D_is_question.f D_is_question.fd ["graph", "value"] (spQX b TT))
    (D_class_paper : DefAt K mg "class_paper" s_class_paper ["graph", "question"]) (G_class_paper : FnOk P w K mg base CX0 10 D_class_paper.f D_class_paper.fd ["graph", "question"] (spCPQ TT)) :
    FnOk P w K mg base CX0 17 D.f D.fd ["graph", "question"] (spDec TT) := by
  refine D.F.ok sc_decide (fun vs H Q E h => ?_) (fun cdv A outer s H vs Q E hr h => ?_)
  · obtain ⟨qa, g, rfl, _⟩ := h
    rfl
  · obtain ⟨qa, g, rfl, hq, g', n, ps, eg, hgr, n60, hlen, inn, hT, q⟩ := h
    cases eg
    refine ⟨_, (pss_cons (ps_if (pt_not (pt_val (pe_call G_is_question (hr.mono (by first | decide | omega)) (by rfl) D_is_question.g D_is_question.F.kp D_is_question.b .nil pass0 (pa_cons (pv 0) (pa_cons (pv 1) pa_nil)))))
        pss_dead
        pss_nil)
      (pss_one (ps_match (pe_ix (ix_tupK (K := K) rfl) (pv 1) pe_int (fun _ _ => rfl)) (pm_or (.cons _ _ _ _ (.cons _ _ _ _ (.cons _ _ _ _ (.cons _ _ _ _ (.cons _ _ _ _ .nil))))) pss_dead
        (pm_or (.cons _ _ _ _ (.cons _ _ _ _ (.cons _ _ _ _ (.cons _ _ _ _ .nil)))) pss_dead
        (pm_or (.cons _ _ _ _ (.cons _ _ _ _ (.cons _ _ _ _ (.cons _ _ _ _ .nil)))) (pss_one (ps_ret (pe_call G_class_paper (hr.mono (by first | decide | omega)) (by rfl) D_class_paper.g D_class_paper.F.kp D_class_paper.b .nil pass0 (pa_cons (pv 0) (pa_cons (pv 1) pa_nil)))))
        (pm_or (.cons _ _ _ _ (.cons _ _ _ _ (.cons _ _ _ _ .nil))) pss_dead
        (pm_or (.cons _ _ _ _ (.cons _ _ _ _ .nil)) pss_dead
        (pm_else pss_dead))))))))), ?_⟩
    refine r_at (σ := [some _, some _]) rfl ?_
    walk_at "z"
    refine ⟨g, .ref qa, (n : Int), ps, .tuple [.str "chordal"], rfl, hgr, .tup (.inl hq) (.cons (.str _) .nil), ⟨2, by simp, fun x hx => ?_⟩, hT, fun r H1 e1 T1 hr1 => ?_⟩
    · rw [List.mem_singleton.mp hx]
      exact (by decide +kernel : ("chordal" : Str).cps.all (· < 0x110000) = true)
    have rt : r = true := hr1.mpr (qX_cons.mpr ⟨by decide +kernel, by
      rw [if_neg (by decide +kernel), if_neg (by decide +kernel), if_neg (by decide +kernel)]⟩)
    subst rt
    have hq1 := ext_tup e1 hq
    walk_at "z"
    try refine iteF ?_
    walk_at "z"
    refine r_sMiss (by decide +kernel) ?_
    refine r_sMiss (by decide +kernel) ?_
    refine r_sHit (by decide +kernel) ?_
    walk_at "z"
    exact ⟨qa, g, rfl, hq1, g, n, ps, rfl, hgr.tk (ext_tk e1), n60, hlen, inn, T1, fun t a y os H2 e2 T2 ht ha hp => q t a y os H2 (e1.trans e2) T2 ht ha hp⟩
end

set_option Elab.async false
set_option linter.all false
set_option maxRecDepth 100000
set_option maxHeartbeats 4000000
open PySem PySem.Spec PyProof.Rows L2 LamX RZ

section
variable {P : Program} {w : World} {K : PySem.W.Frag} {mg : Str → Option Value} {base : Heap}
end

set_option Elab.async false
set_option linter.all false
set_option maxRecDepth 100000
set_option maxHeartbeats 4000000
open PySem PySem.Spec PyProof.Rows L2 LamX RZ

section
variable {P : Program} {w : World} {K : PySem.W.Frag} {mg : Str → Option Value} {base : Heap}
end

set_option Elab.async false
set_option linter.all false
set_option maxRecDepth 100000
set_option maxHeartbeats 4000000
open PySem PySem.Spec PyProof.Rows L2

section
variable {P : Program} {w : World} {K : PySem.W.Frag} {mg : Str → Option Value} {base : Heap}
end

set_option Elab.async false
set_option linter.all false
set_option maxRecDepth 100000
set_option maxHeartbeats 4000000
open PySem PySem.Spec PyProof.Rows L2 LamX RZ

theorem tI_inj {a b : List Int} (h : tI a = tI b) : a = b := ints_inj (PyData.tuple.inj h)
section
variable {P : Program} {w : World} {K : PySem.W.Frag} {mg : Str → Option Value} {base : Heap}
end

set_option Elab.async false
set_option linter.all false
set_option maxRecDepth 100000
set_option maxHeartbeats 4000000
open PySem PySem.Spec PyProof.Rows L2 LamX RZ

section
variable {P : Program} {w : World} {K : PySem.W.Frag} {mg : Str → Option Value} {base : Heap}
end

set_option Elab.async false
set_option linter.all false
set_option maxRecDepth 100000
set_option maxHeartbeats 4000000
open PySem PySem.Spec PyProof.Rows L2 LamX RZ
section
variable {X : Cx}
end

abbrev s_law_is_row : Stmt := topS 342
theorem sc_law_is_row : FnScope ["graph", "value", "v"] ["graph", "value"] (defScope s_law_is_row) := ⟨rfl, rfl, rfl, by decide +kernel, rfl, by decide +kernel, by decide +kernel⟩

theorem mkI : ∀ {ys : List V} {es : List PyData}, ys.length = es.length → (∀ z ∈ ys.zip es, ∃ i : Int, z = (V.int i, PyData.int i)) → ∃ qs : List Int, es = qs.map PyData.int ∧ ys = qs.map V.int
  | [], [], _, _ => ⟨[], rfl, rfl⟩
  | [], _ :: _, h, _ => by simp at h
  | _ :: _, [], h, _ => by simp at h
  | y :: ys, e :: es, h, k => by
    obtain ⟨qs, e1, h1⟩ := mkI (ys := ys) (es := es) (by simpa using h) fun z hz => k z (by rw [List.zip_cons_cons]; exact List.mem_cons_of_mem _ hz)
    obtain ⟨i, e2⟩ := k (y, e) (by rw [List.zip_cons_cons]; exact List.mem_cons_self)
    have e3 : y = V.int i := congrArg Prod.fst e2
    have e4 : e = PyData.int i := congrArg Prod.snd e2
    exact ⟨i :: qs, by rw [e1, e4]; rfl, by rw [h1, e3]; rfl⟩
theorem perm_I {qs ns : List Int} (h : (qs.map PyData.int).Perm (ns.map PyData.int)) : qs.Perm ns := by
  have := h.map (fun d => match d with | PyData.int a => a | _ => 0)
  rw [List.map_map, List.map_map] at this
  have e : ((fun d => match d with | PyData.int a => a | _ => (0 : Int)) ∘ PyData.int) = id := funext fun p => rfl
  rw [e, List.map_id, List.map_id] at this
  exact this
theorem sortI {ns : List Int} {ys : List V} {es : List PyData} (z : (ys.zip es).Perm ((ns.map V.int).zip (ns.map PyData.int))) (l : ys.length = es.length) (pe : es.Perm (ns.map PyData.int)) (pw : es.Pairwise fun d e => PySem.W.dataLt e d = false) :
    ∃ qs : List Int, ys = qs.map V.int ∧ qs.Perm ns ∧ qs.Pairwise (· ≤ ·) := by
  obtain ⟨qs, rfl, rfl⟩ := mkI l fun w hw => by
    have := z.mem_iff.mp hw
    rw [List.zip_map'] at this
    obtain ⟨i, _, rfl⟩ := List.mem_map.mp this
    exact ⟨i, rfl⟩
  refine ⟨qs, rfl, perm_I pe, (List.pairwise_map.mp pw).imp fun {a b} h => ?_⟩
  rw [PySem.W.dataLt_int] at h
  have := of_decide_eq_false h
  omega
theorem al_I (ns : List Int) : PySem.W.AllAlike (ns.map PyData.int) := PySem.W.AllAlike.of (enc := PyData.int) fun b b' => by simp [PySem.W.alike]
theorem so_I (ns : List Int) : PySem.W.Sortable (ns.map PyData.int) := PySem.W.Sortable.others (enc := PyData.int) fun b => ⟨by simp, fun xs => by simp⟩
theorem lstI_eqv (ns ms : List Int) : PyData.eqv (.list (ns.map PyData.int)) (.list (ms.map PyData.int)) = decide (ns = ms) := by
  simp only [PyData.eqv]
  exact eqvI ns ms
theorem lstI_sh (ns : List Int) : SeqAt.shaped (.list (ns.map PyData.int)) = true := shaped_of (lstI_lay ns) (by have := lstI_depth ns; omega)
theorem ints_all : ∀ {ds : List PyData}, (∀ d ∈ ds, intD d = true) → ∃ ns : List Int, ds = ns.map PyData.int
  | [], _ => ⟨[], rfl⟩
  | d :: ds, h => by
    obtain ⟨ns, rfl⟩ := ints_all (ds := ds) fun x hx => h x (List.mem_cons_of_mem _ hx)
    have h1 := h d List.mem_cons_self
    cases d with
    | int i => exact ⟨i :: ns, rfl⟩
    | _ => exact absurd h1 Bool.false_ne_true
def rowX (n : Int) (d : PyData) : Prop := ∃ ns : List Int, d = tI ns ∧ (∀ z ∈ ns, 0 ≤ z ∧ z < n) ∧ ns.Nodup
section
variable {P : Program} {w : World} {K : PySem.W.Frag} {mg : Str → Option Value} {base : Heap}
theorem r_sortITX {a : Addr} {ns : List Int} {H : Hp} {Q : VK} (h : SqT K H a (ns.map V.int)) (q : ∀ (qs : List Int) p, qs.Perm ns → qs.Pairwise (· ≤ ·) → H p = none → Q (.ref p) (upd H p (.lst (qs.map V.int)))) : rSortDT K [.ref a] H Q :=
  ⟨a, ns.map V.int, ns.map PyData.int, rfl, h, dps_int ns, al_I ns, so_I ns, by have := depI ns; omega, fun ys es p z l pm pe _ pw hn => by
    obtain ⟨qs, rfl, h1, h2⟩ := sortI z l pe pw
    exact q qs p h1 h2 hn⟩
def spDisJ (K : PySem.W.Frag) : Sp := fun vs H Q _ => ∃ (l : Addr) (ns : List Int), vs = [.ref l] ∧ SqL K H l (ns.map V.int) ∧ ns.length ≤ 100000 ∧
  ∀ (f : Addr) (qs : List Int) (H' : Hp), Same H H' → H' f = some (.lst (qs.map V.int)) → qs.Pairwise (· < ·) → (∀ p, p ∈ qs ↔ p ∈ ns) → Q (.ref f) H'
theorem ok_disJ (T : Blt mg) (D : DefAt K mg "_law_distinct" s_law_distinct ["rows"]) : FnOk P w K mg base CX0 1 D.f D.fd ["rows"] (spDisJ K) := by
  refine D.F.ok sc_law_distinct (fun vs H Q E h => ?_) (fun cdv A outer s H vs Q E hr h => ?_)
  · obtain ⟨l, ns, rfl, _⟩ := h
    rfl
  · obtain ⟨l, ns, rfl, hl, hlen, q⟩ := h
    refine ⟨_, (pss_cons (ps_set (i := 1) sc_law_distinct.nd rfl (Or.inl rfl) (pe_lst pa_nil))
      (pss_cons (ps_for PassesOwn.never (by rfl) (PI.listK (K := K) rfl (pi_list (pe_callB (cr_sortDK (K := K) rfl hr.units) (by rfl) T.sorted (by decide +kernel) (pa_cons (pv 0) pa_nil)))) (pg_name (i := 2) sc_law_distinct.nd rfl (Or.inl rfl))
        (pss_one (ps_if (PW.pt (pw_or (pt_cmpR (op_eqDK (K := K) rfl hr.units) (pv 1) (pe_lst pa_nil) (nomark _)) (pw_or1 (pt_cmpR (op_neDK (K := K) rfl hr.units) (pe_ix (ix_listK (K := K) rfl) (pv 1) (pe_un un_neg pe_int) (fun _ _ => rfl)) (pv 2) (nomark _)))))
          (pss_one (ps_expr (PE.bmK (K := K) rfl (pe_bm PySem.F.plainAttrs_list PySem.F.slot_list_append PySem.F.type_list_append mt_append (pv 1) (pa_cons (pv 2) pa_nil)))))
          pss_nil)))
      (pss_one (ps_ret (pv 1))))), ?_⟩
    refine r_at (σ := [some _, none, none]) rfl ?_
    walk_at "z"
    refine r_lstN (by decide) fun f hf => ?_
    walk_at "z"
    have s1 : Same H (upd H f (.lst [])) := same_new hf
    refine ⟨l, ns.map V.int, ns.map PyData.int, rfl, s1.seq hl, dps_int ns, al_I ns, so_I ns, by have := depI ns; omega, fun ys es p z ln pmv pme _ pw hn => ?_⟩
    obtain ⟨qs, rfl, pm, pwq⟩ := sortI z ln pme pw
    have s2 : Same H (upd (upd H f (.lst [])) p (.lst (qs.map V.int))) := s1.trans (same_new hn)
    have pf : f ≠ p := ne_of_none upd_same hn
    refine r_il (.inl (.inl upd_same)) (forR_list (xs := qs.map V.int) (fun i σ' H' => (∃ x2, σ' = [some (.ref l), some (.ref f), x2]) ∧ Same H H' ∧ H' p = some (.lst (qs.map V.int)) ∧ ∃ fs, H' f = some (.lst (fs.map V.int)) ∧ DedI (qs.take i) fs ∧ fs.length ≤ i)
      ⟨⟨_, rfl⟩, s2, upd_same, [], (upd_ne pf).trans upd_same, .nil, Nat.le_refl 0⟩ ?_ ?_ ?_)
    · rintro i σ' H' _ ⟨_, _, h, _⟩
      exact .inl (.inl h)
    · rintro i x σ' H' hx ⟨⟨x2, rfl⟩, sm, hpl, fs, hz, D0, lf⟩
      rw [List.getElem?_map] at hx
      obtain ⟨r, hr', rfl⟩ := Option.map_eq_some_iff.mp hx
      have il := (List.getElem?_eq_some_iff.mp hr').1
      have tk : qs.take (i + 1) = qs.take i ++ [r] := take_next hr'
      have ql := pm.length_eq
      walk_at "z"
      refine r_lstN (by decide) fun e he => ?_
      have s3 : Same H' (upd H' e (.lst [])) := same_new he
      have hz3 : (upd H' e (.lst [])) f = some (.lst (fs.map V.int)) := s3 _ _ hz
      have he3 : (upd H' e (.lst [])) e = some (.lst []) := upd_same
      have hpl3 := s3 _ _ hpl
      have sm3 := sm.trans s3
      generalize upd H' e (.lst []) = H3 at s3 hz3 he3 hpl3 sm3 ⊢
      refine ⟨.list (fs.map PyData.int), .list ([].map PyData.int), .lst (.inl (.inl hz3)) (dps_int fs), .lst (.inl (.inl he3)) .nil, lstI_sh fs, lstI_sh [], ?_⟩
      rw [lstI_eqv]
      walk_at "z"
      have lens : (fs.map V.int).length < sizeLine := small_lt (by rw [List.length_map]; omega)
      have pl : ((qs.take i) ++ [r]).Pairwise (· ≤ ·) := by
        rw [← tk]
        exact pwq.take
      have push : fs.getLast? ≠ some r → (∃ x2_1, [some (V.ref l), some (V.ref f), some (V.int r)] = [some (V.ref l), some (V.ref f), x2_1]) ∧ Same H (upd H3 f (.lst (fs.map V.int ++ [.int r]))) ∧ (upd H3 f (.lst (fs.map V.int ++ [.int r]))) p = some (.lst (qs.map V.int)) ∧ ∃ fs', (upd H3 f (.lst (fs.map V.int ++ [.int r]))) f = some (.lst (fs'.map V.int)) ∧ DedI (qs.take (i + 1)) fs' ∧ fs'.length ≤ i + 1 := fun hne =>
        ⟨⟨_, rfl⟩, same_mut sm3 hf, (upd_ne (Ne.symm pf)).trans hpl3, fs ++ [r], by rw [List.map_append]; exact upd_same, by rw [tk]; exact D0.more pl hne, by rw [List.length_append]; simp only [List.length_cons, List.length_nil]; omega⟩
      refine r_ite (fun h0 => ?_) (fun h0 => ?_)
      · walk_at "z"
        refine r_appT hz3 lens (push ?_)
        rw [h0]
        exact fun z => nomatch z
      · walk_at "z"
        obtain ⟨r', hr2⟩ : ∃ r', fs.getLast? = some r' := by
          cases q9 : fs.getLast? with
          | some r' => exact ⟨r', rfl⟩
          | none => exact absurd (List.getLast?_eq_none_iff.mp q9) h0
        refine r_ixL (.inl (.inl hz3)) (at_last (z := V.int r') (by rw [List.getLast?_map, hr2]; rfl)) ?_
        walk_at "z"
        refine ⟨.int r', .int r, .int _, .int _, by rfl, by rfl, ?_⟩
        rw [show PyData.eqv (.int r') (.int r) = decide (r' = r) by simp [PyData.eqv]; rfl]
        walk_at "z"
        refine r_iteN (fun h1 => ?_) (fun h1 => ?_)
        · walk_at "z"
          refine r_appT hz3 lens (push ?_)
          rw [hr2]
          exact fun z => h1 (Option.some.inj z)
        · walk_at "z"
          refine ⟨⟨_, rfl⟩, sm3, hpl3, fs, hz3, ?_, by omega⟩
          rw [tk]
          exact D0.same (by rw [hr2, h1])
    · rintro σ' H' ⟨⟨x2, rfl⟩, sm, hpl, fs, hz, D0, _⟩
      walk_at "z"
      rw [List.length_map, List.take_length] at D0
      exact q f fs H' sm hz D0.asc fun z => (D0.mem z).trans pm.mem_iff
def spLRowX (b : Addr) : Sp := fun vs H Q _ => ∃ (g v : V) (n : Int) (ps : List (Int × Int)) (d : PyData), vs = [g, v] ∧ GrAt H g n ps ∧ DX b H v d ∧ (∀ ds, d = .tuple ds → ds.length ≤ 10000) ∧ ∀ (r : Bool) H', Same H H' → (r = true ↔ rowX n d) → Q (.bl r) H'
theorem ok_lrowX {b : Addr} (T : Blt mg) (D : DefAt K mg "_law_is_row" s_law_is_row ["graph", "value"]) (D_law_is_int : DefAt K mg "_law_is_int" s_law_is_int ["x"]) (G_law_is_int : FnOk P w K mg base CX0 1 D_law_is_int.f D_law_is_int.fd ["x"] (spIntX b))
    (D_law_distinct : DefAt K mg "_law_distinct" s_law_distinct ["rows"]) (G_law_distinct : FnOk P w K mg base CX0 1 D_law_distinct.f D_law_distinct.fd ["rows"] (spDisJ K)) :
    FnOk P w K mg base CX0 3 D.f D.fd ["graph", "value"] (spLRowX b) := by
  refine D.F.ok sc_law_is_row (fun vs H Q E h => ?_) (fun cdv A outer s H vs Q E hr h => ?_)
  · obtain ⟨g, v, n, ps, d, rfl, _⟩ := h
    rfl
  · obtain ⟨g, v, n, ps, d, rfl, hgr, hd, ll, q⟩ := h
    obtain ⟨ga, e, rfl, hg, xs0, he, hp⟩ := id hgr
    have S0 : Same H H := fun _ _ h => h
    refine ⟨_, (pss_cons (ps_if (PW.pt (pw_or (pt_not (pt_val (pe_callB (call_isiK (K := K) rfl) (by rfl) T.isinstance (by decide +kernel) (pa_cons (pv 1) (pa_cons (pe_bltn (v := .ty "tuple") (u := .type "tuple") (by rfl) T.tuple (by decide +kernel) rfl) pa_nil))))) (pw_or1 (pt_cmpR op_gt (pe_callB (call_lenK (K := K) rfl) (by rfl) T.len (by decide +kernel) (pa_cons (pe_lc (own := [("v", 2)]) (by rfl) sc_law_is_row.nd (PI.tupK (K := K) rfl (pi_tup (pv 1))) (blkOk_by (own := [("v", 2)]) (N := ["graph", "value", "v"]) (sc := (defScope s_law_is_row)) (by decide +kernel)) (fun _ _ _ _ _ => (pg_name (i := 2) sc_law_is_row.nd rfl (Or.inl rfl))) (fun _ _ _ _ _ => (pts_one (pt_not (pt_val (pe_call G_law_is_int (hr.mono (by first | decide | omega)) (by rfl) D_law_is_int.g D_law_is_int.F.kp D_law_is_int.b .nil pass0 (pa_cons (pv 2) pa_nil)))))) (fun _ _ _ _ _ => (pv 2))) pa_nil)) pe_int (nomark _)))))
        (pss_one (ps_ret pe_bl))
        pss_nil)
      (pss_one (ps_ret (pe_and (pe_cmpR op_eq (pe_callB (call_lenK (K := K) rfl) (by rfl) T.len (by decide +kernel) (pa_cons (pe_lc (own := [("v", 2)]) (by rfl) sc_law_is_row.nd (PI.tupK (K := K) rfl (pi_tup (pv 1))) (blkOk_by (own := [("v", 2)]) (N := ["graph", "value", "v"]) (sc := (defScope s_law_is_row)) (by decide +kernel)) (fun _ _ _ _ _ => (pg_name (i := 2) sc_law_is_row.nd rfl (Or.inl rfl))) (fun _ _ _ _ _ => (pts_one (pt_not (pt_chain op_le op_lt pe_int (pv 2) (pe_ix (ix_tupK (K := K) rfl) (pv 0) pe_int (fun _ _ => rfl)))))) (fun _ _ _ _ _ => (pv 2))) pa_nil)) pe_int (nomark _)) (pe_one (pe_cmpR op_eq (pe_callB (call_lenK (K := K) rfl) (by rfl) T.len (by decide +kernel) (pa_cons (pe_call G_law_distinct (hr.mono (by first | decide | omega)) (by rfl) D_law_distinct.g D_law_distinct.F.kp D_law_distinct.b .nil pass0 (pa_cons (pe_callTy (call_listK (K := K) rfl) (by rfl) T.list (by decide +kernel) (pa_cons (pv 1) pa_nil)) pa_nil)) pa_nil)) (pe_callB (call_lenK (K := K) rfl) (by rfl) T.len (by decide +kernel) (pa_cons (pv 1) pa_nil)) (nomark _))))))), ?_⟩
    refine r_at (σ := [some _, some _, none]) rfl ?_
    walk_at "z"
    refine r_isiX hd rfl (kit_tup d) ?_
    cases et : tupD d with
    | false =>
      walk_at "z"
      refine iteT ?_
      walk_at "z"
      refine q false H S0 ⟨fun h => (nomatch h), fun ⟨ns, ed, _⟩ => ?_⟩
      rw [ed] at et
      cases et
    | true =>
      obtain ⟨ds, rfl⟩ := tupD_of et
      have l1 := ll ds rfl
      cases id hd with
      | @tup t xs _ ht hxd =>
      have lx := hxd.len
      walk_at "z"
      refine iteF ?_
      walk_at "z"
      refine r_it (.inl ht) fun c hc => lcR_tup (xs := xs) (fun m H' => Same H H' ∧ ∃ zs, H' c = some (.lst zs) ∧ zs.length ≤ m ∧ (zs = [] ↔ ∀ d ∈ ds.take m, intD d = true)) (by walk_at "zw") ⟨same_new hc, [], upd_same, Nat.le_refl _, by simp⟩ (fun i H' _ ⟨s2, _⟩ => .inl (ht.same s2)) ?_ ?_
      · rintro m y H' hy ⟨s2, zs, hcs, lz, al⟩
        obtain ⟨dd, hdd, hyd⟩ := pd_get (DXs.pd _ (hxd.same s2)) hy
        have il := (List.getElem?_eq_some_iff.mp hdd).1
        walk_at "z"
        refine ⟨rfl, ?_⟩
        walk_at "z"
        refine ⟨y, dd, rfl, hyd, ?_⟩
        cases ei : intD dd with
        | true =>
          walk_at "z"
          refine iteF ⟨s2, zs, hcs, by omega, al.trans ?_⟩
          rw [take_next hdd]
          exact ⟨fun h d hd => (List.mem_append.mp hd).elim (h d) fun c => by rw [List.mem_singleton.mp c]; exact ei, fun h d hd => h d (List.mem_append_left _ hd)⟩
        | false =>
          walk_at "z"
          refine iteT ?_
          walk_at "z"
          refine r_lce hcs (small_lt (by omega)) ⟨same_mut s2 hc, _, upd_same, by rw [List.length_append]; simp only [List.length_cons, List.length_nil]; omega, fun h => absurd h (by simp), fun h => ?_⟩
          have := h dd (by rw [take_next hdd]; exact List.mem_append_right _ List.mem_cons_self)
          rw [ei] at this
          cases this
      · rintro H1 ⟨s1, zs, hcs, lz, al⟩
        rw [lx, List.take_length] at al
        have hg1 := s1 _ _ hg
        have ht1 := ht.same s1
        walk_at "z"
        refine r_ite (fun h => ?_) (fun h => ?_)
        · walk_at "z"
          refine q false H1 s1 ⟨fun h => (nomatch h), fun ⟨ns, ed, _⟩ => ?_⟩
          rw [PyData.tuple.inj ed] at al
          have e0 : zs = [] := al.mpr fun d hd => by
            obtain ⟨i, _, rfl⟩ := List.mem_map.mp hd
            rfl
          rw [e0] at h
          simp at h
        · obtain ⟨ns, rfl⟩ := ints_all (al.mp (List.eq_nil_of_length_eq_zero (by omega)))
          have exs := dx_ints hxd
          subst exs
          rw [List.length_map] at l1
          walk_at "z"
          refine r_it (.inl ht1) fun f hf => lcR_tup (xs := ns.map V.int) (fun m H' => Same H1 H' ∧ ∃ us : List V, H' f = some (.lst us) ∧ us.length ≤ m ∧ (us = [] ↔ ∀ z ∈ ns.take m, 0 ≤ z ∧ z < n)) (by walk_at "zw") ⟨same_new hf, [], upd_same, Nat.le_refl _, by simp⟩ (fun i H' _ ⟨s2, _⟩ => .inl (ht1.same s2)) ?_ ?_
          · rintro m y H' hy ⟨s2, us, hus, lu, al2⟩
            rw [List.getElem?_map] at hy
            obtain ⟨z, hz, rfl⟩ := Option.map_eq_some_iff.mp hy
            have il := (List.getElem?_eq_some_iff.mp hz).1
            have hg2 := s2 _ _ hg1
            have bad : ¬ (0 ≤ z ∧ z < n) → Same H1 (upd H' f (.lst (us ++ [.int z]))) ∧ ∃ us' : List V, (upd H' f (.lst (us ++ [.int z]))) f = some (.lst us') ∧ us'.length ≤ m + 1 ∧ (us' = [] ↔ ∀ z ∈ ns.take (m + 1), 0 ≤ z ∧ z < n) := fun no =>
              ⟨same_mut s2 hf, _, upd_same, by rw [List.length_append]; simp only [List.length_cons, List.length_nil]; omega, fun h => absurd h (by simp), fun h => absurd (h z (by rw [take_next hz]; exact List.mem_append_right _ List.mem_cons_self)) no⟩
            walk_at "z"
            refine ⟨rfl, ?_⟩
            walk_at "z"
            refine r_ite (fun z0 => ?_) (fun z0 => ?_)
            · walk_at "z"
              by_cases z1 : z < n
              · rw [decide_eq_true z1]
                refine iteF ⟨s2, us, hus, by omega, al2.trans ?_⟩
                rw [take_next hz]
                exact ⟨fun h d hd => (List.mem_append.mp hd).elim (h d) fun c => by rw [List.mem_singleton.mp c]; exact ⟨z0, z1⟩, fun h d hd => h d (List.mem_append_left _ hd)⟩
              · rw [decide_eq_false z1]
                refine iteT ?_
                walk_at "z"
                exact r_lce hus (small_lt (by omega)) (bad fun h => z1 h.2)
            · walk_at "z"
              refine iteT ?_
              walk_at "z"
              exact r_lce hus (small_lt (by omega)) (bad fun h => z0 h.1)
          · rintro H2 ⟨s2, us, hus, lu, al2⟩
            rw [List.length_map, List.take_length] at al2
            have s02 := s1.trans s2
            have ht2 := ht.same s02
            have row : ∀ r : Bool, (r = true ↔ (∀ z ∈ ns, 0 ≤ z ∧ z < n) ∧ ns.Nodup) → (r = true ↔ rowX n (.tuple (ns.map PyData.int))) := fun r h => h.trans ⟨fun h => ⟨ns, rfl, h⟩, fun ⟨ms, e, h⟩ => by
              rw [tI_inj (a := ns) e]
              exact h⟩
            walk_at "z"
            refine r_ite (fun h0 => ?_) (fun h0 => ?_)
            · have bd := al2.mp (List.eq_nil_of_length_eq_zero (by omega))
              have hq2 : SqT K H2 t (ns.map V.int) := .inl ht2
              walk_at "z"
              refine r_listT (.inl ht2) fun l hl => ?_
              have s3 : Same H2 (upd H2 l (.lst (ns.map V.int))) := same_new hl
              have hl3 : (upd H2 l (.lst (ns.map V.int))) l = some (.lst (ns.map V.int)) := upd_same
              generalize upd H2 l (.lst (ns.map V.int)) = H3 at s3 hl3 ⊢
              walk_at "z"
              refine ⟨l, ns, rfl, .inl (.inl hl3), by omega, fun f qs H4 s4 hf asc4 mem4 => ?_⟩
              have s04 := (s02.trans s3).trans s4
              have hq4 : SqT K H4 t (ns.map V.int) := .inl (ht.same s04)
              walk_at "z"
              refine q _ H4 s04 (row _ (decide_eq_true_iff.trans ?_))
              have nl := nodup_len (asc4.imp fun h => by omega : qs.Nodup) mem4
              rw [List.length_map, List.length_map]
              exact ⟨fun h => ⟨bd, nl.mp (by omega)⟩, fun h => by have := nl.mpr h.2; omega⟩
            · refine q false H2 s02 (row _ ⟨fun h => (nomatch h), fun h => absurd ?_ h0⟩)
              rw [al2.mpr h.1]
              rfl
end

set_option Elab.async false
set_option linter.all false
set_option maxRecDepth 100000
set_option maxHeartbeats 4000000
open PySem PySem.Spec PyProof.Rows L2

theorem rg_asc (k : Nat) : ((List.range k).map fun (i : Nat) => (i : Int)).Pairwise (· < ·) := by
  rw [List.pairwise_map]
  exact List.pairwise_lt_range.imp fun h => by omega
section
variable {P : Program} {w : World} {K : PySem.W.Frag} {mg : Str → Option Value} {base : Heap}
end

set_option Elab.async false
set_option linter.all false
set_option maxRecDepth 100000
set_option maxHeartbeats 4000000
open PySem PySem.Spec PyProof.Rows L2 LamX RZ

abbrev s_law_is_way : Stmt := topS 343
theorem sc_law_is_way : FnScope ["graph", "value", "k"] ["graph", "value"] (defScope s_law_is_way) := ⟨rfl, rfl, rfl, by decide +kernel, rfl, by decide +kernel, by decide +kernel⟩

abbrev s_law_bare : Stmt := topS 344
theorem sc_law_bare : FnScope ["graph", "value", "ring", "i", "j"] ["graph", "value", "ring"] (defScope s_law_bare) := ⟨rfl, rfl, rfl, by decide +kernel, rfl, by decide +kernel, by decide +kernel⟩

abbrev s_law_is_hole : Stmt := topS 345
theorem sc_law_is_hole : FnScope ["graph", "value"] ["graph", "value"] (defScope s_law_is_hole) := ⟨rfl, rfl, rfl, by decide +kernel, rfl, by decide +kernel, by decide +kernel⟩

def stpN (ps : List (Int × Int)) (ns : List Int) : Prop := ∀ (i : Nat) (x y : Int), ns[i]? = some x → ns[i + 1]? = some y → Nb ps x y
def wayX (n : Int) (ps : List (Int × Int)) (d : PyData) : Prop := ∃ ns : List Int, d = .tuple (ns.map PyData.int) ∧ (∀ z ∈ ns, 0 ≤ z ∧ z < n) ∧ ns.Nodup ∧ ns ≠ [] ∧ stpN ps ns
section
variable {P : Program} {w : World} {K : PySem.W.Frag} {mg : Str → Option Value} {base : Heap}
def spWayX (bb : Addr) : Sp := fun vs H Q _ => ∃ (g v : V) (n : Nat) (ps : List (Int × Int)) (d : PyData), vs = [g, v] ∧ GrAt H g (n : Int) ps ∧ n ≤ 60 ∧ (∀ p ∈ ps, 0 ≤ p.1 ∧ p.1 < p.2 ∧ p.2 < (n : Int)) ∧ DX bb H v d ∧ (∀ ds, d = .tuple ds → ds.length ≤ 10000) ∧
  ∀ (b : Bool) (H' : Hp), Same H H' → (b = true ↔ wayX (n : Int) ps d) → Q (.bl b) H'
theorem ok_lwayX {bb : Addr} (T : Blt mg) (D : DefAt K mg "_law_is_way" s_law_is_way ["graph", "value"]) (D_law_is_row : DefAt K mg "_law_is_row" s_law_is_row ["graph", "value"]) (G_law_is_row : FnOk P w K mg base CX0 3 D_law_is_row.f D_law_is_row.fd ["graph", "value"] (spLRowX bb))
    (D_law_met : DefAt K mg "_law_met" s_law_met ["graph", "u", "v"]) (G_law_met : FnOk P w K mg base CX0 2 D_law_met.f D_law_met.fd ["graph", "u", "v"] spMet) : FnOk P w K mg base CX0 4 D.f D.fd ["graph", "value"] (spWayX bb) := by
  refine D.F.ok sc_law_is_way (fun vs H Q E h => ?_) (fun cdv A outer s H vs Q E hr h => ?_)
  · obtain ⟨g, v, n, ps, d, rfl, _⟩ := h
    rfl
  · obtain ⟨g, v, n, ps, d, rfl, hgr, n60, inn, hd, len, q⟩ := h
    refine ⟨_, (pss_cons (ps_if (PW.pt (pw_or (pt_not (pt_val (pe_call G_law_is_row (hr.mono (by first | decide | omega)) (by rfl) D_law_is_row.g D_law_is_row.F.kp D_law_is_row.b .nil pass0 (pa_cons (pv 0) (pa_cons (pv 1) pa_nil))))) (pw_or1 (pt_cmpR (op_eqX (K := K) rfl hr.units) (pv 1) (pe_tup pa_nil) (nomark _)))))
        (pss_one (ps_ret pe_bl))
        pss_nil)
      (pss_one (ps_ret (pe_cmpR op_eq (pe_callB (call_lenK (K := K) rfl) (by rfl) T.len (by decide +kernel) (pa_cons (pe_lc (own := [("k", 2)]) (by rfl) sc_law_is_way.nd (pi_range2 (by rfl) T.range (pa_cons pe_int (pa_cons (pe_callB (call_lenK (K := K) rfl) (by rfl) T.len (by decide +kernel) (pa_cons (pv 1) pa_nil)) pa_nil))) (blkOk_by (own := [("k", 2)]) (N := ["graph", "value", "k"]) (sc := (defScope s_law_is_way)) (by decide +kernel)) (fun _ _ _ _ _ => (pg_name (i := 2) sc_law_is_way.nd rfl (Or.inl rfl))) (fun _ _ _ _ _ => (pts_one (pt_not (pt_val (pe_call G_law_met (hr.mono (by first | decide | omega)) (by rfl) D_law_met.g D_law_met.F.kp D_law_met.b .nil pass0 (pa_cons (pv 0) (pa_cons (pe_ix (ix_tupK (K := K) rfl) (pv 1) (pe_op op_sub (pv 2) pe_int) (fun _ _ => rfl)) (pa_cons (pe_ix (ix_tupK (K := K) rfl) (pv 1) (pv 2) (fun _ _ => rfl)) pa_nil)))))))) (fun _ _ _ _ _ => (pv 2))) pa_nil)) pe_int (nomark _))))), ?_⟩
    refine r_at (σ := [some _, some _, none]) rfl ?_
    walk_at "z"
    refine ⟨g, v, (n : Int), ps, d, rfl, hgr, hd, len, fun r H1 s1 hr1 => ?_⟩
    cases r with
    | false =>
      walk_at "z"
      try refine iteT ?_
      try walk_at "z"
      exact q false H1 s1 ⟨fun h => (nomatch h), fun ⟨ns, e, bd, nd, _⟩ => by have := hr1.mpr ⟨ns, e, bd, nd⟩; cases this⟩
    | true =>
    obtain ⟨ns, rfl, bd, nd⟩ := hr1.mp rfl
    have l60 : ns.length ≤ 60 := by
      have := nodup_le ns (rgI (n : Int)) nd fun v hv => mem_rgI.mpr (bd v hv)
      rw [rgI_len] at this
      omega
    have gd : ∀ i, i < ns.length → ns[i]? = some (ns.getD i 0) := fun i hi => by
      rw [List.getD_eq_getElem?_getD, List.getElem?_eq_getElem hi]
      rfl
    cases hd.same s1 with
    | @tup t xs _ hxs hxd =>
    rw [dx_ints hxd] at hxs
    have ht1 : SqT K H1 t (ns.map V.int) := .inl hxs
    walk_at "z"
    try refine iteF ?_
    try walk_at "z"
    refine r_tupN (Nat.zero_le _) fun t0 ht0 => ?_
    have s2 := same_new (o := .tup []) ht0
    have ht02 : (upd H1 t0 (.tup [])) t0 = some (.tup []) := upd_same
    have ht2 := sqT_sm s2 ht1
    generalize upd H1 t0 (.tup []) = H2 at s2 ht02 ht2 ⊢
    have s02 := s1.trans s2
    refine r_eqTE ht2 (.inl (.inl ht02)) ?_
    cases ens : ns with
    | nil =>
      subst ens
      walk_at "z"
      exact q false H2 s02 ⟨fun h => (nomatch h), fun ⟨ms, e, _, _, ne, _⟩ => by rw [ints_inj (PyData.tuple.inj e)] at *; exact absurd rfl ne⟩
    | cons n0 nr =>
    have nne : ns ≠ [] := by rw [ens]; exact List.cons_ne_nil _ _
    have l1 : 1 ≤ ns.length := List.length_pos_iff.mpr nne
    rw [show ((n0 :: nr).map V.int).isEmpty = false from rfl]
    clear ens
    walk_at "z"
    refine r_rg2 (by rw [List.length_map]; omega) fun c hc => lcR_range (fun k H' => Same H2 H' ∧ ∃ ys : List V, H' c = some (.lst ys) ∧ ys.length ≤ k ∧ (ys.length = 0 ↔ ∀ i, i < k → Nb ps (ns.getD i 0) (ns.getD (i + 1) 0))) (by walk_at "zw") ⟨same_new hc, [], upd_same, Nat.le_refl _, by simp⟩ ?_ ?_
    · rintro k H3 hk ⟨s3, ys, hys, ly, iy⟩
      rw [List.length_map] at hk
      have hk : k + 1 < ns.length := by omega
      have e0 : (1 : Int) + (k : Int) - 1 = (k : Int) := by omega
      have ix1 : atI (ns.map V.int) ((1 : Int) + (k : Int) - 1) = some (.int (ns.getD k 0)) := at_of (j := k) (by omega) (by rw [List.getElem?_map, gd k (by omega)]; rfl)
      have ix2 : atI (ns.map V.int) ((1 : Int) + (k : Int)) = some (.int (ns.getD (k + 1) 0)) := at_of (j := k + 1) (by omega) (by rw [List.getElem?_map, gd (k + 1) hk]; rfl)
      have ht3 := sqT_sm s3 ht2
      have ne : ns.getD k 0 ≠ ns.getD (k + 1) 0 := fun e => by
        have h1 := gd k (by omega)
        rw [e] at h1
        have := nodup_at nd h1 (gd (k + 1) hk)
        omega
      walk_at "z"
      refine ⟨rfl, ?_⟩
      walk_at "z"
      refine ⟨g, n, _, _, ps, rfl, hgr.tk (.of_same (s02.trans s3)), fun H4 s4 => ?_⟩
      have hys4 := s4 _ _ hys
      have split : (∀ i, i < k + 1 → Nb ps (ns.getD i 0) (ns.getD (i + 1) 0)) ↔ (∀ i, i < k → Nb ps (ns.getD i 0) (ns.getD (i + 1) 0)) ∧ Nb ps (ns.getD k 0) (ns.getD (k + 1) 0) := by
        constructor
        · exact fun h => ⟨fun i hi => h i (by omega), h k (by omega)⟩
        · rintro ⟨h1, h2⟩ i hi
          rcases Nat.lt_or_ge i k with c3 | c3
          · exact h1 i c3
          · rw [show i = k by omega]
            exact h2
      walk_at "z"
      refine r_iteN (fun h => ?_) (fun h => ?_)
      · walk_at "z"
        refine r_lce hys4 (small_lt (by omega)) ⟨same_mut (s3.trans s4) hc, _, upd_same, by rw [List.length_append]; simp only [List.length_cons, List.length_nil]; omega, ?_⟩
        rw [split, List.length_append]
        simp only [List.length_cons, List.length_nil]
        constructor
        · intro z
          omega
        · exact fun z => absurd ((Nb.nrm inn ne).mpr z.2) h
      · refine ⟨s3.trans s4, ys, hys4, by omega, ?_⟩
        rw [split, iy]
        exact ⟨fun z => ⟨z, (Nb.nrm inn ne).mp h⟩, fun z => z.1⟩
    · rintro H3 ⟨s3, ys, hys, ly, iy⟩
      rw [List.length_map] at iy
      walk_at "z"
      refine q _ H3 (s02.trans s3) (Iff.trans ?_ ⟨fun h => ⟨ns, rfl, bd, nd, nne, h⟩, fun ⟨ms, e, _, _, _, h⟩ => by rw [ints_inj (PyData.tuple.inj e)]; exact h⟩)
      rw [decide_eq_true_iff]
      have e0 : ((ys.length : Nat) : Int) = 0 ↔ ys.length = 0 := by omega
      rw [e0, iy]
      constructor
      · intro h i x y hx hy
        have il := (List.getElem?_eq_some_iff.mp hy).1
        have := h i (by omega)
        rw [gd i (by omega)] at hx
        rw [gd (i + 1) il] at hy
        rw [Option.some.inj hx, Option.some.inj hy] at this
        exact this
      · intro h i hi
        exact h i _ _ (gd i (by omega)) (gd (i + 1) (by omega))
/-- no chord, but from the first to the last -/
def Bare (ps : List (Int × Int)) (ns : List Int) : Prop := ∀ (i j : Nat) (x y : Int), i + 1 < j → ns[i]? = some x → ns[j]? = some y → ¬ (i = 0 ∧ j + 1 = ns.length) → ¬ Nb ps x y
def spBareX (K : PySem.W.Frag) : Sp := fun vs H Q _ => ∃ (g : V) (t : Addr) (n : Int) (ps : List (Int × Int)) (ns : List Int), vs = [g, .ref t, .bl true] ∧ GrAt H g n ps ∧ (∀ p ∈ ps, 0 ≤ p.1 ∧ p.1 < p.2 ∧ p.2 < n) ∧ SqT K H t (ns.map V.int) ∧ ns.Nodup ∧ ns.length ≤ 60 ∧
  ∀ (b : Bool) (H' : Hp), Same H H' → (b = true ↔ Bare ps ns) → Q (.bl b) H'
theorem ok_lbareX (T : Blt mg) (D : DefAt K mg "_law_bare" s_law_bare ["graph", "value", "ring"]) (D_law_pairs : DefAt K mg "_law_pairs" s_law_pairs ["n"]) (G_law_pairs : FnOk P w K mg base CX0 1 D_law_pairs.f D_law_pairs.fd ["n"] spPairs)
    (D_law_met : DefAt K mg "_law_met" s_law_met ["graph", "u", "v"]) (G_law_met : FnOk P w K mg base CX0 2 D_law_met.f D_law_met.fd ["graph", "u", "v"] spMet) : FnOk P w K mg base CX0 3 D.f D.fd ["graph", "value", "ring"] (spBareX K) := by
  refine D.F.ok sc_law_bare (fun vs H Q E h => ?_) (fun cdv A outer s H vs Q E hr h => ?_)
  · obtain ⟨g, t, n, ps, ns, rfl, _⟩ := h
    rfl
  · obtain ⟨g, t, n, ps, ns, rfl, hgr, inn, ht, nd, l60, q⟩ := h
    have gd : ∀ i, i < ns.length → ns[i]? = some (ns.getD i 0) := fun i hi => by
      rw [List.getD_eq_getElem?_getD, List.getElem?_eq_getElem hi]
      rfl
    refine ⟨_, (pss_cons (ps_for PassesOwn.never (by rfl) (PI.listK (K := K) rfl (pi_list (pe_call G_law_pairs (hr.mono (by first | decide | omega)) (by rfl) D_law_pairs.g D_law_pairs.F.kp D_law_pairs.b .nil pass0 (pa_cons (pe_callB (call_lenK (K := K) rfl) (by rfl) T.len (by decide +kernel) (pa_cons (pv 1) pa_nil)) pa_nil)))) (PG.tupK (K := K) rfl (pg_tup (n := 2) rfl (pgs_cons (pg_name (i := 3) sc_law_bare.nd rfl (Or.inl rfl)) (pgs_cons (pg_name (i := 4) sc_law_bare.nd rfl (Or.inl rfl)) pgs_nil))))
        (pss_one (ps_if (PW.pt (pw_and (pt_cmpR op_gt (pv 4) (pe_op op_add (pv 3) pe_int) (nomark _)) (pw_and (pt_val (pe_call G_law_met (hr.mono (by first | decide | omega)) (by rfl) D_law_met.g D_law_met.F.kp D_law_met.b .nil pass0 (pa_cons (pv 0) (pa_cons (pe_ix (ix_tupK (K := K) rfl) (pv 1) (pv 3) (fun _ _ => rfl)) (pa_cons (pe_ix (ix_tupK (K := K) rfl) (pv 1) (pv 4) (fun _ _ => rfl)) pa_nil))))) (pw_and1 (pt_not (PW.pt (pw_and (pt_val (pv 2)) (pw_and (pt_cmpR op_eq (pv 3) pe_int (nomark _)) (pw_and1 (pt_cmpR op_eq (pv 4) (pe_op op_sub (pe_callB (call_lenK (K := K) rfl) (by rfl) T.len (by decide +kernel) (pa_cons (pv 1) pa_nil)) pe_int) (nomark _)))))))))))
          (pss_one (ps_ret pe_bl))
          pss_nil)))
      (pss_one (ps_ret pe_bl))), ?_⟩
    refine r_at (σ := [some _, some _, some _, none, none]) rfl ?_
    walk_at "z"
    refine ⟨(ns.map V.int).length, rfl, by rw [List.length_map]; omega, fun l xs H1 _ s1 hl pxs => ?_⟩
    rw [List.length_map] at pxs
    let OKp : Int × Int → Prop := fun r => r.1 + 1 < r.2 → ¬ (r.1 = 0 ∧ r.2 + 1 = (ns.length : Int)) → ¬ Nb ps (ns.getD r.1.toNat 0) (ns.getD r.2.toNat 0)
    have all_ : (∀ r ∈ allP ns.length, OKp r) ↔ Bare ps ns := by
      constructor
      · intro h i j x y ij hi hj nl
        have jl := (List.getElem?_eq_some_iff.mp hj).1
        have := h ((i : Int), (j : Int)) (mem_allP.mpr ⟨by dsimp only; omega, by dsimp only; omega, by dsimp only; omega⟩) (by dsimp only; omega) (fun z => nl ⟨by have := z.1; dsimp only at this; omega, by have := z.2; dsimp only at this; omega⟩)
        dsimp only at this
        rw [Int.toNat_natCast, Int.toNat_natCast] at this
        rw [gd i (by omega)] at hi
        rw [gd j jl] at hj
        rw [Option.some.inj hi, Option.some.inj hj] at this
        exact this
      · intro h r hr h1 h2
        obtain ⟨b0, b1, b2⟩ := mem_allP.mp hr
        exact h r.1.toNat r.2.toNat _ _ (by omega) (gd _ (by omega)) (gd _ (by omega)) fun z => h2 ⟨by omega, by omega⟩
    refine r_il (.inl (.inl hl)) (forR_list (xs := xs) (fun k σ' H' => (∃ x3 x4, σ' = [some g, some (.ref t), some (.bl true), x3, x4]) ∧ Same H1 H' ∧ ∀ r ∈ (allP ns.length).take k, OKp r) ⟨⟨_, _, rfl⟩, Same.refl _, fun r hr => by simp at hr⟩ (fun i σ' H' _ ⟨_, s2, _⟩ => .inl (.inl (s2 _ _ hl))) ?_ ?_)
    · rintro k x σ' H2 hx ⟨⟨x3, x4, rfl⟩, s2, ok2⟩
      obtain ⟨⟨i, j⟩, hr, hxr⟩ := pd_get (pxs.tk (.of_same s2)) hx
      obtain ⟨tr, rfl, htr⟩ := id hxr
      have rm := List.mem_of_getElem? hr
      obtain ⟨b0, b1, b2⟩ := mem_allP.mp rm
      dsimp only at b0 b1 b2
      have s02 := s1.trans s2
      have ht2 := sqT_sm s02 ht
      have next : OKp (i, j) → ∀ r ∈ (allP ns.length).take (k + 1), OKp r := fun h r hm => by
        rw [take_next hr] at hm
        rcases List.mem_append.mp hm with c | c
        · exact ok2 r c
        · rw [List.mem_singleton.mp c]
          exact h
      have ix1 : atI (ns.map V.int) i = some (.int (ns.getD i.toNat 0)) := at_of (j := i.toNat) (by omega) (by rw [List.getElem?_map, gd i.toNat (by omega)]; rfl)
      have ix2 : atI (ns.map V.int) j = some (.int (ns.getD j.toNat 0)) := at_of (j := j.toNat) (by omega) (by rw [List.getElem?_map, gd j.toNat (by omega)]; rfl)
      have ne : ns.getD i.toNat 0 ≠ ns.getD j.toNat 0 := fun e => by
        have h1 := gd i.toNat (by omega)
        rw [e] at h1
        have := nodup_at nd h1 (gd j.toNat (by omega))
        omega
      walk_at "z"
      refine r_gtup (.inl (.inl htr)) rfl ?_
      walk_at "z"
      refine r_ite (fun h1 => ?_) (fun h1 => ?_)
      · walk_at "z"
        refine ⟨g, n, _, _, ps, rfl, hgr.tk (.of_same s02), fun H3 s3 => ?_⟩
        have s13 := s2.trans s3
        have ht3 := sqT_sm s3 ht2
        walk_at "z"
        refine r_ite (fun h2 => ?_) (fun h2 => ?_)
        · have nb := (Nb.nrm inn ne).mp h2
          have bad : ¬ (i = 0 ∧ j + 1 = (ns.length : Int)) → ¬ Bare ps ns := fun z hb => (all_.mpr hb (i, j) rm (by dsimp only; omega) z) nb
          walk_at "z"
          have fin : ¬ (i = 0 ∧ j + 1 = (ns.length : Int)) → Q (.bl false) H3 := fun z => q false H3 (s1.trans s13) ⟨fun h => absurd h (by decide), fun h => absurd h (bad z)⟩
          refine r_ite (fun h3 => ?_) (fun h3 => ?_)
          · walk_at "z"
            refine r_iteN (fun h4 => ?_) (fun h4 => ?_)
            · walk_at "z"
              exact fin fun z => h4 (by rw [List.length_map]; dsimp only; omega)
            · walk_at "z"
              refine ⟨⟨_, _, rfl⟩, s13, next fun _ z => absurd ⟨h3, by rw [List.length_map] at h4; dsimp only at h4 ⊢; omega⟩ z⟩
          · refine iteT ?_
            walk_at "z"
            exact fin fun z => h3 z.1
        · walk_at "z"
          exact ⟨⟨_, _, rfl⟩, s13, next fun _ _ z => h2 ((Nb.nrm inn ne).mpr z)⟩
      · walk_at "z"
        exact ⟨⟨_, _, rfl⟩, s2, next fun z => absurd z (by dsimp only; omega)⟩
    · rintro σ' H2 ⟨⟨x3, x4, rfl⟩, s2, ok2⟩
      rw [pxs.length, List.take_length] at ok2
      walk_at "z"
      exact q true H2 (s1.trans s2) ⟨fun _ => all_.mp ok2, fun _ => rfl⟩
end

set_option Elab.async false
set_option linter.all false
set_option maxRecDepth 100000
set_option maxHeartbeats 4000000
open PySem PySem.Spec PyProof.Rows L2 LamX RZ

def lholX (n : Int) (ps : List (Int × Int)) (d : PyData) : Prop := ∃ ns : List Int, d = .tuple (ns.map PyData.int) ∧ (∀ z ∈ ns, 0 ≤ z ∧ z < n) ∧ ns.Nodup ∧ 4 ≤ ns.length ∧ stpN ps ns ∧ Nb ps (ns.getD 0 0) (ns.getD (ns.length - 1) 0) ∧ Bare ps ns
section
variable {P : Program} {w : World} {K : PySem.W.Frag} {mg : Str → Option Value} {base : Heap}
def spLHolX (bb : Addr) : Sp := fun vs H Q _ => ∃ (g v : V) (n : Nat) (ps : List (Int × Int)) (d : PyData), vs = [g, v] ∧ GrAt H g (n : Int) ps ∧ n ≤ 60 ∧ (∀ p ∈ ps, 0 ≤ p.1 ∧ p.1 < p.2 ∧ p.2 < (n : Int)) ∧ DX bb H v d ∧ (∀ ds, d = .tuple ds → ds.length ≤ 10000) ∧
  ∀ (b : Bool) (H' : Hp), Same H H' → (b = true ↔ lholX (n : Int) ps d) → Q (.bl b) H'
theorem ok_lholX {bb : Addr} (T : Blt mg) (D : DefAt K mg "_law_is_hole" s_law_is_hole ["graph", "value"]) (D_law_is_way : DefAt K mg "_law_is_way" s_law_is_way ["graph", "value"]) (G_law_is_way : FnOk P w K mg base CX0 4 D_law_is_way.f D_law_is_way.fd ["graph", "value"] (spWayX bb))
    (D_law_met : DefAt K mg "_law_met" s_law_met ["graph", "u", "v"]) (G_law_met : FnOk P w K mg base CX0 2 D_law_met.f D_law_met.fd ["graph", "u", "v"] spMet)
    (D_law_bare : DefAt K mg "_law_bare" s_law_bare ["graph", "value", "ring"]) (G_law_bare : FnOk P w K mg base CX0 3 D_law_bare.f D_law_bare.fd ["graph", "value", "ring"] (spBareX K)) : FnOk P w K mg base CX0 5 D.f D.fd ["graph", "value"] (spLHolX bb) := by
  refine D.F.ok sc_law_is_hole (fun vs H Q E h => ?_) (fun cdv A outer s H vs Q E hr h => ?_)
  · obtain ⟨g, v, n, ps, d, rfl, _⟩ := h
    rfl
  · obtain ⟨g, v, n, ps, d, rfl, hgr, n60, inn, hd, len, q⟩ := h
    refine ⟨_, (pss_cons (ps_if (PW.pt (pw_or (pt_not (pt_val (pe_call G_law_is_way (hr.mono (by first | decide | omega)) (by rfl) D_law_is_way.g D_law_is_way.F.kp D_law_is_way.b .nil pass0 (pa_cons (pv 0) (pa_cons (pv 1) pa_nil))))) (pw_or (pt_cmpR op_lt (pe_callB (call_lenK (K := K) rfl) (by rfl) T.len (by decide +kernel) (pa_cons (pv 1) pa_nil)) pe_int (nomark _)) (pw_or1 (pt_not (pt_val (pe_call G_law_met (hr.mono (by first | decide | omega)) (by rfl) D_law_met.g D_law_met.F.kp D_law_met.b .nil pass0 (pa_cons (pv 0) (pa_cons (pe_ix (ix_tupK (K := K) rfl) (pv 1) pe_int (fun _ _ => rfl)) (pa_cons (pe_ix (ix_tupK (K := K) rfl) (pv 1) (pe_un un_neg pe_int) (fun _ _ => rfl)) pa_nil))))))))))
        (pss_one (ps_ret pe_bl))
        pss_nil)
      (pss_one (ps_ret (pe_call G_law_bare (hr.mono (by first | decide | omega)) (by rfl) D_law_bare.g D_law_bare.F.kp D_law_bare.b .nil pass0 (pa_cons (pv 0) (pa_cons (pv 1) (pa_cons pe_bl pa_nil))))))), ?_⟩
    refine r_at (σ := [some _, some _]) rfl ?_
    walk_at "z"
    refine ⟨g, v, n, ps, d, rfl, hgr, n60, inn, hd, len, fun b1 H1 s1 hb1 => ?_⟩
    cases b1 with
    | false =>
      walk_at "z"
      try refine iteT ?_
      try walk_at "z"
      exact q false H1 s1 ⟨fun h => (nomatch h), fun ⟨ns, e, bd, nd, l4, st, _⟩ => by have := hb1.mpr ⟨ns, e, bd, nd, fun z => by rw [z] at l4; simp at l4, st⟩; cases this⟩
    | true =>
    obtain ⟨ns, rfl, bd, nd, nne, st⟩ := hb1.mp rfl
    have l60 : ns.length ≤ 60 := by
      have := nodup_le ns (rgI (n : Int)) nd fun v hv => mem_rgI.mpr (bd v hv)
      rw [rgI_len] at this
      omega
    have l1 : 1 ≤ ns.length := List.length_pos_iff.mpr nne
    cases hd.same s1 with
    | @tup t xs _ hxs hxd =>
    rw [dx_ints hxd] at hxs
    have ht1 : SqT K H1 t (ns.map V.int) := .inl hxs
    have gd : ∀ i, i < ns.length → ns[i]? = some (ns.getD i 0) := fun i hi => by
      rw [List.getD_eq_getElem?_getD, List.getElem?_eq_getElem hi]
      rfl
    have ix1 : atI (ns.map V.int) 0 = some (.int (ns.getD 0 0)) := at_of (j := 0) (by omega) (by rw [List.getElem?_map, gd 0 (by omega)]; rfl)
    have ix2 : atI (ns.map V.int) (-1) = some (.int (ns.getD (ns.length - 1) 0)) := by
      have h1 := gd (ns.length - 1) (by omega)
      rw [← List.getLast?_eq_getElem?] at h1
      generalize ns.getD (ns.length - 1) 0 = z at h1 ⊢
      obtain ⟨r, hr⟩ := List.getLast?_eq_some_iff.mp h1
      rw [hr, List.map_append]
      exact atI_end
    have tell : ∀ {b : Bool} {H'}, Same H H' → (b = true ↔ 4 ≤ ns.length ∧ Nb ps (ns.getD 0 0) (ns.getD (ns.length - 1) 0) ∧ Bare ps ns) → Q (.bl b) H' := fun s' hb => q _ _ s' (hb.trans ⟨fun h => ⟨ns, rfl, bd, nd, h.1, st, h.2⟩, fun ⟨ms, e, _, _, l4, _, h1, h2⟩ => by
      rw [ints_inj (PyData.tuple.inj e)]
      exact ⟨l4, h1, h2⟩⟩)
    walk_at "z"
    try refine iteF ?_
    try walk_at "z"
    refine r_ite (fun h2 => ?_) (fun h2 => ?_)
    · walk_at "z"
      exact tell s1 ⟨fun h => (nomatch h), fun z => by
        have := z.1
        rw [List.length_map] at h2
        omega⟩
    · have l4 : 4 ≤ ns.length := by
        rw [List.length_map] at h2
        omega
      walk_at "z"
      refine ⟨g, (n : Int), _, _, ps, rfl, hgr.tk (.of_same s1), fun H2 s2 => ?_⟩
      have ne : ns.getD 0 0 ≠ ns.getD (ns.length - 1) 0 := fun e => by
        have h1 := gd 0 (by omega)
        rw [e] at h1
        have := nodup_at nd h1 (gd (ns.length - 1) (by omega))
        omega
      have s02 := s1.trans s2
      walk_at "z"
      refine r_iteN (fun h3 => ?_) (fun h3 => ?_)
      · walk_at "z"
        exact tell s02 ⟨fun h => (nomatch h), fun z => (h3 ((Nb.nrm inn ne).mpr z.2.1)).elim⟩
      · walk_at "z"
        refine ⟨g, t, (n : Int), ps, ns, rfl, hgr.tk (.of_same s02), inn, sqT_sm s2 ht1, nd, l60, fun b H3 s3 hb => ?_⟩
        exact tell (s02.trans s3) (hb.trans ⟨fun h => ⟨l4, (Nb.nrm inn ne).mp h3, h⟩, fun h => h.2.2⟩)
end

set_option Elab.async false
set_option linter.all false
set_option maxRecDepth 100000
set_option maxHeartbeats 4000000
open PySem PySem.Spec PyProof.Rows L2 LamX RZ
theorem isE_nb {ps : List (Int × Int)} {x y : Int} : isE ps (x, y) = true ↔ Nb ps x y := by
  unfold isE Nb
  rw [Bool.or_eq_true, decide_eq_true_eq, decide_eq_true_eq]
theorem nb_comm {ps : List (Int × Int)} {x y : Int} (h : Nb ps x y) : Nb ps y x := h.elim .inr .inl
/-- the ring's steps: each to the next, the last to the first -/
theorem stE_ring {ps : List (Int × Int)} {ns : List Int} (l1 : 1 ≤ ns.length) : stE ps ns (ns.drop 1 ++ ns.take 1) ↔ stpN ps ns ∧ Nb ps (ns.getD 0 0) (ns.getD (ns.length - 1) 0) := by
  have gd : ∀ i, i < ns.length → ns[i]? = some (ns.getD i 0) := fun i hi => by
    rw [List.getD_eq_getElem?_getD, List.getElem?_eq_getElem hi]
    rfl
  have ld : (ns.drop 1).length = ns.length - 1 := List.length_drop
  have sh : ∀ i, i + 1 < ns.length → (ns.drop 1 ++ ns.take 1)[i]? = ns[i + 1]? := fun i hi => by
    rw [List.getElem?_append_left (by omega), List.getElem?_drop, Nat.add_comm]
  have la : (ns.drop 1 ++ ns.take 1)[ns.length - 1]? = some (ns.getD 0 0) := by
    rw [List.getElem?_append_right (by omega), ld, Nat.sub_self, List.getElem?_take_of_lt (by omega), gd 0 (by omega)]
  constructor
  · intro h
    refine ⟨fun i x y hx hy => isE_nb.mp (h i x y hx ?_), nb_comm (isE_nb.mp (h (ns.length - 1) _ _ (gd _ (by omega)) la))⟩
    rw [sh i (List.getElem?_eq_some_iff.mp hy).1]
    exact hy
  · rintro ⟨h1, h2⟩ i x y hx hy
    have il := (List.getElem?_eq_some_iff.mp hx).1
    rcases Nat.lt_or_ge (i + 1) ns.length with c | c
    · rw [sh i c] at hy
      exact isE_nb.mpr (h1 i x y hx hy)
    · have e : i = ns.length - 1 := by omega
      rw [e, la] at hy
      rw [e, gd _ (by omega)] at hx
      rw [← Option.some.inj hx, ← Option.some.inj hy]
      exact isE_nb.mpr (nb_comm h2)
/-- no chord: each has just two neighbours in the ring -/
theorem bare_two {n : Int} {ps : List (Int × Int)} {ns : List Int} (inn : ∀ p ∈ ps, 0 ≤ p.1 ∧ p.1 < p.2 ∧ p.2 < n) (nd : ns.Nodup) (l4 : 4 ≤ ns.length) (st : stpN ps ns) (fl : Nb ps (ns.getD 0 0) (ns.getD (ns.length - 1) 0)) :
    Bare ps ns ↔ ∀ v ∈ ns, (ns.filter fun u => isE ps (v, u)).length = 2 := by
  have gd : ∀ i, i < ns.length → ns[i]? = some (ns.getD i 0) := fun i hi => by
    rw [List.getD_eq_getElem?_getD, List.getElem?_eq_getElem hi]
    rfl
  have inj : ∀ i j, i < ns.length → j < ns.length → ns.getD i 0 = ns.getD j 0 → i = j := fun i j hi hj e => by
    have h1 := gd i hi
    rw [e] at h1
    exact nodup_at nd h1 (gd j hj)
  have irr : ∀ x, ¬ Nb ps x x := fun x h => by
    rcases h with h | h <;> have := inn _ h <;> dsimp only at this <;> omega
  have mem : ∀ i, i < ns.length → ns.getD i 0 ∈ ns := fun i hi => List.mem_of_getElem? (gd i hi)
  have two : ∀ i, i < ns.length → ∃ p q, p < ns.length ∧ q < ns.length ∧ p ≠ q ∧ Nb ps (ns.getD i 0) (ns.getD p 0) ∧ Nb ps (ns.getD i 0) (ns.getD q 0) ∧ (p = if i = 0 then ns.length - 1 else i - 1) ∧ (q = if i + 1 = ns.length then 0 else i + 1) := fun i hi => by
    refine ⟨if i = 0 then ns.length - 1 else i - 1, if i + 1 = ns.length then 0 else i + 1, ?_, ?_, ?_, ?_, ?_, rfl, rfl⟩
    · split <;> omega
    · split <;> omega
    · split <;> split <;> omega
    · split
      · rename_i e
        rw [e]
        exact fl
      · exact nb_comm (st (i - 1) _ _ (gd _ (by omega)) (by rw [show i - 1 + 1 = i by omega]; exact gd i hi))
    · split
      · rename_i e
        rw [show i = ns.length - 1 by omega]
        exact nb_comm fl
      · exact st i _ _ (gd i hi) (gd _ (by omega))
  constructor
  · intro h v hv
    obtain ⟨i, hi⟩ := List.mem_iff_getElem?.mp hv
    have il := (List.getElem?_eq_some_iff.mp hi).1
    have ev : v = ns.getD i 0 := Option.some.inj (hi.symm.trans (gd i il))
    obtain ⟨p, q, pl, ql, pq, np, nq, ep, eq⟩ := two i il
    have ne : ns.getD p 0 ≠ ns.getD q 0 := fun e => pq (inj p q pl ql e)
    have h1 := nodup_le [ns.getD p 0, ns.getD q 0] (ns.filter fun u => isE ps (v, u)) (List.nodup_cons.mpr ⟨fun h => ne (List.mem_singleton.mp h), List.nodup_cons.mpr ⟨List.not_mem_nil, List.nodup_nil⟩⟩) fun z hz => by
      rcases List.mem_cons.mp hz with e | hz
      · rw [e, ev]; exact List.mem_filter.mpr ⟨mem p pl, isE_nb.mpr np⟩
      · rw [List.mem_singleton.mp hz, ev]; exact List.mem_filter.mpr ⟨mem q ql, isE_nb.mpr nq⟩
    have h2 := nodup_le (ns.filter fun u => isE ps (v, u)) [ns.getD p 0, ns.getD q 0] (nd.sublist List.filter_sublist) fun u hu => by
      obtain ⟨um, uE⟩ := List.mem_filter.mp hu
      obtain ⟨j, hj⟩ := List.mem_iff_getElem?.mp um
      have jl := (List.getElem?_eq_some_iff.mp hj).1
      have nb := isE_nb.mp uE
      have ij : i ≠ j := fun e => by
        rw [e, hj] at hi
        rw [Option.some.inj hi] at nb
        exact irr _ nb
      have key : j = p ∨ j = q := by
        rcases Nat.lt_or_ge i j with c | c
        · rcases Nat.lt_or_ge (i + 1) j with c2 | c2
          · have := Classical.byContradiction fun z => h i j v u c2 hi hj z nb
            left
            rw [ep, if_pos this.1]
            omega
          · right
            rw [eq, if_neg (by omega)]
            omega
        · rcases Nat.lt_or_ge (j + 1) i with c2 | c2
          · have := Classical.byContradiction fun z => h j i u v c2 hj hi z (nb_comm nb)
            right
            rw [eq, if_pos (by omega)]
            omega
          · left
            rw [ep, if_neg (by omega)]
            omega
      have eu : u = ns.getD j 0 := Option.some.inj (hj.symm.trans (gd j jl))
      rcases key with e | e
      · rw [eu, e]; exact List.mem_cons_self
      · rw [eu, e]; exact List.mem_cons_of_mem _ List.mem_cons_self
    simp only [List.length_cons, List.length_nil] at h1 h2
    omega
  · intro h i j x y ij hx hy nl nb
    have jl := (List.getElem?_eq_some_iff.mp hy).1
    have il : i < ns.length := by omega
    have ex : x = ns.getD i 0 := Option.some.inj (hx.symm.trans (gd i il))
    have ey : y = ns.getD j 0 := Option.some.inj (hy.symm.trans (gd j jl))
    obtain ⟨p, q, pl, ql, pq, np, nq, ep, eq⟩ := two i il
    have jp : j ≠ p := fun e => by
      rw [ep] at e
      split at e
      · rename_i e0
        exact nl ⟨e0, by omega⟩
      · omega
    have jq : j ≠ q := fun e => by
      rw [eq, if_neg (by omega)] at e
      omega
    have h1 := nodup_le [ns.getD p 0, ns.getD q 0, ns.getD j 0] (ns.filter fun u => isE ps (x, u)) (by
      refine List.nodup_cons.mpr ⟨fun h => ?_, List.nodup_cons.mpr ⟨fun h => ?_, List.nodup_cons.mpr ⟨List.not_mem_nil, List.nodup_nil⟩⟩⟩
      · rcases List.mem_cons.mp h with e | h
        · exact pq (inj p q pl ql e)
        · exact jp (inj p j pl jl (List.mem_singleton.mp h)).symm
      · exact jq (inj q j ql jl (List.mem_singleton.mp h)).symm) fun z hz => by
      rcases List.mem_cons.mp hz with e | hz
      · rw [e, ex]; exact List.mem_filter.mpr ⟨mem p pl, isE_nb.mpr np⟩
      · rcases List.mem_cons.mp hz with e | hz
        · rw [e, ex]; exact List.mem_filter.mpr ⟨mem q ql, isE_nb.mpr nq⟩
        · rw [List.mem_singleton.mp hz, ← ey]; exact List.mem_filter.mpr ⟨List.mem_of_getElem? hy, isE_nb.mpr nb⟩
    have h2 := h x (List.mem_of_getElem? hx)
    simp only [List.length_cons, List.length_nil] at h1
    omega
theorem hole_iff {n : Int} {ps : List (Int × Int)} {d : PyData} (inn : ∀ p ∈ ps, 0 ≤ p.1 ∧ p.1 < p.2 ∧ p.2 < n) : holeP n ps d ↔ lholX n ps d := by
  constructor
  · rintro ⟨ns, e, bd, nd, l4, st, tw⟩
    obtain ⟨h1, h2⟩ := (stE_ring (by omega)).mp st
    exact ⟨ns, e, bd, nd, l4, h1, h2, (bare_two inn nd l4 h1 h2).mpr tw⟩
  · rintro ⟨ns, e, bd, nd, l4, h1, h2, br⟩
    exact ⟨ns, e, bd, nd, l4, (stE_ring (by omega)).mpr ⟨h1, h2⟩, (bare_two inn nd l4 h1 h2).mp br⟩

set_option Elab.async false
set_option linter.all false
set_option maxRecDepth 100000
set_option maxHeartbeats 4000000
open PySem PySem.Spec PyProof.Rows L2 LamX RZ

abbrev s_law_chordal_right : Stmt := topS 348
theorem sc_law_chordal_right : FnScope ["graph", "answer", "data", "k", "near", "u", "pair"] ["graph", "answer", "data"] (defScope s_law_chordal_right) := ⟨rfl, rfl, rfl, by decide +kernel, rfl, by decide +kernel, by decide +kernel⟩

theorem r_slTFromO {K : PySem.W.Frag} {a : Addr} {xs : List V} {k : Nat} {H : Hp} {Q : VK} (h : SqT K H a xs) (h1 : 1 ≤ k) (hk : k ≤ xs.length) (q : ∀ p, H p = none → Q (.ref p) (upd H p (.tup (xs.drop k)))) : rSlT K (.ref a) (some (k : Int)) none H Q := by
  refine ⟨a, xs, rfl, h, fun z => ?_, fun p hp => by rw [cut_from xs k hk]; exact q p hp⟩
  rw [HT.sIx_nat] at z
  omega
def nearR (ps : List (Int × Int)) (ns : List Int) (k : Nat) (v : Int) : List Int := (ns.drop (k + 1)).filter fun u => decide (nrm (u, v) ∈ ps)
theorem mem_nearR {n : Int} {ps : List (Int × Int)} {ns : List Int} {k : Nat} {v z : Int} (inn : ∀ p ∈ ps, 0 ≤ p.1 ∧ p.1 < p.2 ∧ p.2 < n) (nd : ns.Nodup) (hv : ns[k]? = some v) (v0 : 0 ≤ v) :
    z ∈ nearR ps ns k v ↔ z ∈ adjL ps v.toNat ∧ z ∈ ns.drop (k + 1) := by
  unfold nearR
  rw [List.mem_filter, decide_eq_true_iff]
  have ne : z ∈ ns.drop (k + 1) → z ≠ v := fun h e => by
    obtain ⟨i, hi⟩ := List.mem_iff_getElem?.mp h
    rw [List.getElem?_drop, e] at hi
    have := nodup_at nd hv hi
    omega
  constructor
  · rintro ⟨h1, h2⟩
    exact ⟨(isE_adj v0).mp (isE_nb.mpr (nb_comm ((Nb.nrm inn (ne h1)).mp h2))), h1⟩
  · rintro ⟨h1, h2⟩
    exact ⟨h2, (Nb.nrm inn (ne h2)).mpr (nb_comm (isE_nb.mp ((isE_adj v0).mpr h1)))⟩
section
variable {P : Program} {w : World} {K : PySem.W.Frag} {mg : Str → Option Value} {base : Heap}
def spChoR (bb : Addr) : Sp := fun vs H Q _ => ∃ (g v : V) (n : Nat) (ps : List (Int × Int)) (y : Str) (d : PyData), vs = [g, .str y, v] ∧ GrAt H g (n : Int) ps ∧ n ≤ 60 ∧ (∀ p ∈ ps, 0 ≤ p.1 ∧ p.1 < p.2 ∧ p.2 < (n : Int)) ∧ (y = "yes" ∨ y = "no") ∧ DX bb H v d ∧ (∀ ds, d = .tuple ds → ds.length ≤ 10000) ∧
  ∀ (r : Bool) (H' : Hp), Same H H' → (r = true ↔ rgtC (n : Int) ps y d) → Q (.bl r) H'
theorem ok_choR {bb : Addr} (T : Blt mg) (D : DefAt K mg "_law_chordal_right" s_law_chordal_right ["graph", "answer", "data"])
    (D_law_is_hole : DefAt K mg "_law_is_hole" s_law_is_hole ["graph", "value"]) (G_law_is_hole : FnOk P w K mg base CX0 5 D_law_is_hole.f D_law_is_hole.fd ["graph", "value"] (spLHolX bb))
    (D_law_is_row : DefAt K mg "_law_is_row" s_law_is_row ["graph", "value"]) (G_law_is_row : FnOk P w K mg base CX0 3 D_law_is_row.f D_law_is_row.fd ["graph", "value"] (spLRowX bb))
    (D_law_pairs : DefAt K mg "_law_pairs" s_law_pairs ["n"]) (G_law_pairs : FnOk P w K mg base CX0 1 D_law_pairs.f D_law_pairs.fd ["n"] spPairs)
    (D_law_met : DefAt K mg "_law_met" s_law_met ["graph", "u", "v"]) (G_law_met : FnOk P w K mg base CX0 2 D_law_met.f D_law_met.fd ["graph", "u", "v"] spMet) : FnOk P w K mg base CX0 6 D.f D.fd ["graph", "answer", "data"] (spChoR bb) := by
  refine D.F.ok sc_law_chordal_right (fun vs H Q E h => ?_) (fun cdv A outer s H vs Q E hr h => ?_)
  · obtain ⟨g, v, n, ps, y, d, rfl, _⟩ := h
    rfl
  · obtain ⟨g, v, n, ps, y, d, rfl, hgr, n60, inn, hya, hd, len, q⟩ := h
    obtain ⟨ga, e0, rfl, hga, hge⟩ := id hgr
    refine ⟨_, (pss_cons (ps_if (pt_cmpR op_eq (pv 1) pe_str (nomark _))
        (pss_one (ps_ret (pe_call G_law_is_hole (hr.mono (by first | decide | omega)) (by rfl) D_law_is_hole.g D_law_is_hole.F.kp D_law_is_hole.b .nil pass0 (pa_cons (pv 0) (pa_cons (pv 2) pa_nil)))))
        pss_nil)
      (pss_cons (ps_if (PW.pt (pw_or (pt_not (pt_val (pe_call G_law_is_row (hr.mono (by first | decide | omega)) (by rfl) D_law_is_row.g D_law_is_row.F.kp D_law_is_row.b .nil pass0 (pa_cons (pv 0) (pa_cons (pv 2) pa_nil))))) (pw_or1 (pt_cmpR op_ne (pe_callB (call_lenK (K := K) rfl) (by rfl) T.len (by decide +kernel) (pa_cons (pv 2) pa_nil)) (pe_ix (ix_tupK (K := K) rfl) (pv 0) pe_int (fun _ _ => rfl)) (nomark _)))))
        (pss_one (ps_ret pe_bl))
        pss_nil)
      (pss_cons (ps_for PassesOwn.never (by rfl) (pi_range1 (by rfl) T.range (pa_cons (pe_callB (call_lenK (K := K) rfl) (by rfl) T.len (by decide +kernel) (pa_cons (pv 2) pa_nil)) pa_nil)) (pg_name (i := 3) sc_law_chordal_right.nd rfl (Or.inr rfl))
        (pss_cons (ps_set (i := 4) sc_law_chordal_right.nd rfl (Or.inr rfl) (pe_lc (own := [("u", 5)]) (by rfl) sc_law_chordal_right.nd (PI.tupK (K := K) rfl (pi_tup (pe_slice (sl_tupK (K := K) rfl) (pv 2) (po_some (pe_op op_add (pv 3) pe_int)) po_none))) (blkOk_by (own := [("u", 5)]) (N := ["graph", "answer", "data", "k", "near", "u", "pair"]) (sc := (defScope s_law_chordal_right)) (by decide +kernel)) (fun _ _ _ _ _ => (pg_name (i := 5) sc_law_chordal_right.nd rfl (Or.inl rfl))) (fun _ _ _ _ _ => (pts_one (pt_val (pe_call G_law_met (hr.mono (by first | decide | omega)) (by rfl) D_law_met.g D_law_met.F.kp D_law_met.b .nil pass0 (pa_cons (pv 0) (pa_cons (pv 5) (pa_cons (pe_ix (ix_tupK (K := K) rfl) (pv 2) (pv 3) (fun _ _ => rfl)) pa_nil))))))) (fun _ _ _ _ _ => (pv 5))))
        (pss_one (ps_if (pt_cmpR op_gt (pe_callB (call_lenK (K := K) rfl) (by rfl) T.len (by decide +kernel) (pa_cons (pe_lc (own := [("pair", 6)]) (by rfl) sc_law_chordal_right.nd (PI.listK (K := K) rfl (pi_list (pe_call G_law_pairs (hr.mono (by first | decide | omega)) (by rfl) D_law_pairs.g D_law_pairs.F.kp D_law_pairs.b .nil pass0 (pa_cons (pe_callB (call_lenK (K := K) rfl) (by rfl) T.len (by decide +kernel) (pa_cons (pv 4) pa_nil)) pa_nil)))) (blkOk_by (own := [("pair", 6)]) (N := ["graph", "answer", "data", "k", "near", "u", "pair"]) (sc := (defScope s_law_chordal_right)) (by decide +kernel)) (fun _ _ _ _ _ => (pg_name (i := 6) sc_law_chordal_right.nd rfl (Or.inl rfl))) (fun _ _ _ _ _ => (pts_one (pt_not (pt_val (pe_call G_law_met (hr.mono (by first | decide | omega)) (by rfl) D_law_met.g D_law_met.F.kp D_law_met.b .nil pass0 (pa_cons (pv 0) (pa_cons (pe_ix (ix_listK (K := K) rfl) (pv 4) (pe_ix (ix_tupK (K := K) rfl) (pv 6) pe_int (fun _ _ => rfl)) (fun _ _ => rfl)) (pa_cons (pe_ix (ix_listK (K := K) rfl) (pv 4) (pe_ix (ix_tupK (K := K) rfl) (pv 6) pe_int (fun _ _ => rfl)) (fun _ _ => rfl)) pa_nil)))))))) (fun _ _ _ _ _ => (pv 6))) pa_nil)) pe_int (nomark _))
          (pss_one (ps_ret pe_bl))
          pss_nil))))
      (pss_one (ps_ret pe_bl))))), ?_⟩
    refine r_at (σ := [some _, some _, some _, none, none, none, none]) rfl ?_
    walk_at "z"
    rcases hya with rfl | rfl
    · have ryes : ∀ {r : Bool} {H'}, Same H H' → (r = true ↔ ordC (n : Int) ps d) → Q (.bl r) H' := fun e h => q _ _ e (h.trans ⟨fun h => .inl ⟨rfl, h⟩, fun h => h.elim (fun h => h.2) fun h => absurd h.1.symm yn_ne⟩)
      refine ⟨rfl, ?_⟩
      rw [decide_eq_false (fun h => yn_ne (V.str.inj h).symm : ¬ V.str "yes" = V.str "no")]
      walk_at "z"
      try refine iteF ?_
      try walk_at "z"
      refine ⟨.ref ga, v, (n : Int), ps, d, rfl, hgr, hd, len, fun r H1 s1 hr1 => ?_⟩
      cases r with
      | false =>
        walk_at "z"
        try refine iteT ?_
        try walk_at "z"
        exact ryes s1 ⟨fun h => (nomatch h), fun ⟨ns, e, bd, nd, _⟩ => by have := hr1.mpr ⟨ns, e, bd, nd⟩; cases this⟩
      | true =>
      obtain ⟨ns, rfl, bd, nd⟩ := hr1.mp rfl
      have l60 : ns.length ≤ 60 := by
        have := nodup_le ns (rgI (n : Int)) nd fun v hv => mem_rgI.mpr (bd v hv)
        rw [rgI_len] at this
        omega
      cases hd.same s1 with
      | @tup t xs _ hxs hxd =>
      rw [dx_ints hxd] at hxs
      have hga1 := s1 _ _ hga
      have ht1 : SqT K H1 t (ns.map V.int) := .inl hxs
      have gd : ∀ i, i < ns.length → ns[i]? = some (ns.getD i 0) := fun i hi => by
        rw [List.getD_eq_getElem?_getD, List.getElem?_eq_getElem hi]
        rfl
      walk_at "z"
      try refine iteF ?_
      try walk_at "z"
      refine r_iteN (fun h2 => ?_) (fun h2 => ?_)
      · walk_at "z"
        exact ryes s1 ⟨fun h => (nomatch h), fun ⟨ms, e, _, _, l, _⟩ => by
          rw [ints_inj (PyData.tuple.inj e)] at h2
          rw [List.length_map] at h2
          exact absurd l h2⟩
      have ll : (ns.length : Int) = n := by
        rw [List.length_map] at h2
        omega
      clear h2
      have fin : ∀ {r : Bool} {H'}, Same H H' → (r = true ↔ behP ps ns) → Q (.bl r) H' := fun e h => ryes e (h.trans ⟨fun h => ⟨ns, rfl, bd, nd, ll, h⟩, fun ⟨ms, e, _, _, _, h⟩ => by rw [ints_inj (PyData.tuple.inj e)]; exact h⟩)
      walk_at "z"
      rw [List.length_map]
      refine r_rg1 (by omega) (forR_range (fun k σ' H' => (∃ x3 x4, σ' = [some (.ref ga), some (.str "yes"), some (.ref t), x3, x4, none, none]) ∧ Same H1 H' ∧ ∀ (i : Nat) v, i < k → ns[i]? = some v → CliqE ps fun z => z ∈ adjL ps v.toNat ∧ z ∈ ns.drop (i + 1)) ⟨⟨_, _, rfl⟩, Same.refl _, fun i v h => absurd h (Nat.not_lt_zero _)⟩ ?_ ?_)
      · rintro k σ' H2 hk ⟨⟨x3, x4, rfl⟩, s2, ok2⟩
        have ht2 := sqT_sm s2 ht1
        have hv := gd k hk
        generalize ns.getD k 0 = v at hv
        have ix1 : atI (ns.map V.int) ((0 : Int) + (k : Int)) = some (.int v) := at_of (j := k) (by omega) (by rw [List.getElem?_map, hv]; rfl)
        have vb := bd v (List.mem_of_getElem? hv)
        have s02 := s1.trans s2
        walk_at "z"
        rw [show ((0 : Int) + (k : Int) + 1) = ((k + 1 : Nat) : Int) by omega]
        refine r_slTFromO ht2 (by omega) (by rw [List.length_map]; omega) fun t3 ht3 => ?_
        rw [← List.map_drop]
        have s3 := same_new (o := .tup ((ns.drop (k + 1)).map V.int)) ht3
        have f3 : (upd H2 t3 (.tup ((ns.drop (k + 1)).map V.int))) t3 = some (.tup ((ns.drop (k + 1)).map V.int)) := upd_same
        generalize upd H2 t3 (.tup ((ns.drop (k + 1)).map V.int)) = H3 at s3 f3 ⊢
        have ht3' : SqT K H3 t3 ((ns.drop (k + 1)).map V.int) := .inl (.inl f3)
        walk_at "z"
        refine r_it ht3' fun c hc => lcR_tup (xs := (ns.drop (k + 1)).map V.int) (fun i H' => Same H3 H' ∧ H' c = some (.lst ((((ns.drop (k + 1)).take i).filter fun u => decide (nrm (u, v) ∈ ps)).map V.int))) (by walk_at "zw") ⟨same_new hc, upd_same⟩ (fun i H' _ ⟨s4, _⟩ => sqT_sm s4 ht3') ?_ ?_
        · rintro i y H4 hy ⟨s4, hc4⟩
          rw [List.getElem?_map] at hy
          obtain ⟨u, hu, rfl⟩ := Option.map_eq_some_iff.mp hy
          have s34 := s3.trans s4
          have ht4 := sqT_sm s34 ht2
          walk_at "z"
          refine ⟨rfl, ?_⟩
          walk_at "z"
          refine ⟨.ref ga, (n : Int), _, _, ps, rfl, hgr.tk (.of_same (s02.trans s34)), fun H5 s5 => ?_⟩
          have hc5 := s5 _ _ hc4
          walk_at "z"
          rw [take_next hu, List.filter_append]
          refine r_ite (fun h => ?_) (fun h => ?_)
          · walk_at "z"
            refine r_lce hc5 (small_lt (by
              rw [List.length_map]
              have := List.length_filter_le (fun u => decide (nrm (u, v) ∈ ps)) ((ns.drop (k + 1)).take i)
              rw [List.length_take, List.length_drop] at this
              omega)) ⟨same_mut (s4.trans s5) hc, ?_⟩
            rw [List.filter_cons, if_pos (decide_eq_true h), List.filter_nil, List.map_append]
            exact upd_same
          · refine ⟨s4.trans s5, ?_⟩
            rw [List.filter_cons, if_neg (by rw [decide_eq_true_eq]; exact h), List.filter_nil, List.append_nil]
            exact hc5
        · rintro H4 ⟨s4, hc4⟩
          rw [List.length_map, List.take_length] at hc4
          have hc4 : H4 c = some (.lst ((nearR ps ns k v).map V.int)) := hc4
          have ln : (nearR ps ns k v).length ≤ 60 := by
            have := List.length_filter_le (fun u => decide (nrm (u, v) ∈ ps)) (ns.drop (k + 1))
            rw [List.length_drop] at this
            unfold nearR
            omega
          have ndn : (nearR ps ns k v).Nodup := (nd.sublist (List.drop_sublist _ _)).sublist List.filter_sublist
          have memn : ∀ z, z ∈ nearR ps ns k v ↔ z ∈ adjL ps v.toNat ∧ z ∈ ns.drop (k + 1) := fun z => mem_nearR inn nd hv vb.1
          generalize nearR ps ns k v = near at hc4 ln ndn memn
          have gn : ∀ i, i < near.length → near[i]? = some (near.getD i 0) := fun i hi => by
            rw [List.getD_eq_getElem?_getD, List.getElem?_eq_getElem hi]
            rfl
          have nb0 : ∀ z ∈ near, 0 ≤ z := fun z hz => (bd z ((List.drop_sublist _ _).mem ((memn z).mp hz).2)).1
          let OKp : Int × Int → Prop := fun r => nrm (near.getD r.1.toNat 0, near.getD r.2.toNat 0) ∈ ps
          have all_ : (∀ r ∈ allP near.length, OKp r) ↔ CliqE ps fun z => z ∈ adjL ps v.toNat ∧ z ∈ ns.drop (k + 1) := by
            have e : (CliqE ps fun z => z ∈ adjL ps v.toNat ∧ z ∈ ns.drop (k + 1)) ↔ CliqE ps fun z => z ∈ near := by
              unfold CliqE
              simp only [memn]
            rw [e]
            constructor
            · intro h x y x0 y0 hx hy ne
              obtain ⟨i, hi⟩ := List.mem_iff_getElem?.mp hx
              obtain ⟨j, hj⟩ := List.mem_iff_getElem?.mp hy
              have il := (List.getElem?_eq_some_iff.mp hi).1
              have jl := (List.getElem?_eq_some_iff.mp hj).1
              have key : ∀ (i j : Nat) (x y : Int), near[i]? = some x → near[j]? = some y → i < j → x ≠ y → Nb ps x y := fun i j x y hi hj ij ne => by
                have jl := (List.getElem?_eq_some_iff.mp hj).1
                have := h ((i : Int), (j : Int)) (mem_allP.mpr ⟨by dsimp only; omega, by dsimp only; omega, by dsimp only; omega⟩)
                have this : nrm (near.getD (i : Int).toNat 0, near.getD (j : Int).toNat 0) ∈ ps := this
                rw [Int.toNat_natCast, Int.toNat_natCast] at this
                rw [gn i (by omega)] at hi
                rw [gn j jl] at hj
                rw [Option.some.inj hi, Option.some.inj hj] at this
                exact (Nb.nrm inn ne).mp this
              rcases Nat.lt_trichotomy i j with c | c | c
              · exact isE_nb.mpr (key i j x y hi hj c ne)
              · rw [c, hj] at hi
                exact absurd (Option.some.inj hi).symm ne
              · exact isE_nb.mpr (nb_comm (key j i y x hj hi c ne.symm))
            · intro h r hr
              obtain ⟨b0, b1, b2⟩ := mem_allP.mp hr
              have h1 := gn r.1.toNat (by omega)
              have h2 := gn r.2.toNat (by omega)
              have ne : near.getD r.1.toNat 0 ≠ near.getD r.2.toNat 0 := fun e => by
                rw [e] at h1
                have := nodup_at ndn h1 h2
                omega
              exact (Nb.nrm inn ne).mpr (isE_nb.mp (h _ _ (nb0 _ (List.mem_of_getElem? h1)) (nb0 _ (List.mem_of_getElem? h2)) (List.mem_of_getElem? h1) (List.mem_of_getElem? h2) ne))
          have next : (CliqE ps fun z => z ∈ adjL ps v.toNat ∧ z ∈ ns.drop (k + 1)) → ∀ (i : Nat) v, i < k + 1 → ns[i]? = some v → CliqE ps fun z => z ∈ adjL ps v.toNat ∧ z ∈ ns.drop (i + 1) := fun h i v' il hv' => by
            rcases Nat.lt_or_ge i k with c3 | c3
            · exact ok2 i v' c3 hv'
            · have ei : i = k := by omega
              rw [ei, hv] at hv'
              cases hv'
              rw [ei]
              exact h
          have s14 := (s2.trans s3).trans s4
          walk_at "z"
          rw [List.length_map]
          refine ⟨near.length, rfl, by omega, fun l xs H5 _ s5 hl pxs => ?_⟩
          have hc5 := s5 _ _ hc4
          have s15 := s14.trans s5
          walk_at "z"
          refine r_il (.inl (.inl hl)) fun e he => lcR_list (xs := xs) (fun i H' => Same H5 H' ∧ ∃ ys : List V, H' e = some (.lst ys) ∧ ys.length ≤ i ∧ (ys.length = 0 ↔ ∀ r ∈ (allP near.length).take i, OKp r)) (by walk_at "zw") ⟨same_new he, [], upd_same, Nat.le_refl _, by simp⟩ (fun i H' _ ⟨s6, _⟩ => .inl (.inl (s6 _ _ hl))) ?_ ?_
          · rintro i y H6 hy ⟨s6, ys, hys, ly, iy⟩
            obtain ⟨⟨i', j'⟩, hr, hxr⟩ := pd_get (pxs.tk (.of_same s6)) hy
            obtain ⟨tr, rfl, htr⟩ := id hxr
            have rm := List.mem_of_getElem? hr
            have il := (List.getElem?_eq_some_iff.mp hr).1
            have i9 : i < 100000 := by
              have h1 : (allP near.length).length ≤ near.length * near.length := preP_len
              have h2 : near.length * near.length ≤ 60 * 60 := Nat.mul_le_mul ln ln
              omega
            obtain ⟨b0, b1, b2⟩ := mem_allP.mp rm
            dsimp only at b0 b1 b2
            have hc6 := s6 _ _ hc5
            have ix3 : atI (near.map V.int) i' = some (.int (near.getD i'.toNat 0)) := at_of (j := i'.toNat) (by omega) (by rw [List.getElem?_map, gn i'.toNat (by omega)]; rfl)
            have ix4 : atI (near.map V.int) j' = some (.int (near.getD j'.toNat 0)) := at_of (j := j'.toNat) (by omega) (by rw [List.getElem?_map, gn j'.toNat (by omega)]; rfl)
            walk_at "z"
            refine ⟨rfl, ?_⟩
            walk_at "z"
            refine ⟨.ref ga, (n : Int), _, _, ps, rfl, hgr.tk (.of_same ((s1.trans s15).trans s6)), fun H7 s7 => ?_⟩
            have hys7 := s7 _ _ hys
            walk_at "z"
            have split : (∀ r ∈ (allP near.length).take (i + 1), OKp r) ↔ (∀ r ∈ (allP near.length).take i, OKp r) ∧ OKp (i', j') := by
              rw [take_next hr]
              constructor
              · exact fun h => ⟨fun r hr => h r (List.mem_append_left _ hr), h _ (List.mem_append_right _ (List.mem_singleton.mpr rfl))⟩
              · rintro ⟨h1, h2⟩ r hr
                rcases List.mem_append.mp hr with c | c
                · exact h1 r c
                · rw [List.mem_singleton.mp c]
                  exact h2
            refine r_iteN (fun h => ?_) (fun h => ?_)
            · walk_at "z"
              refine r_lce hys7 (small_lt (by omega)) ⟨same_mut (s6.trans s7) he, _, upd_same, by rw [List.length_append]; simp only [List.length_cons, List.length_nil]; omega, ?_⟩
              rw [split, List.length_append]
              simp only [List.length_cons, List.length_nil]
              exact ⟨fun z => absurd z (by omega), fun z => absurd z.2 h⟩
            · refine ⟨s6.trans s7, ys, hys7, by omega, ?_⟩
              rw [split, iy]
              exact ⟨fun z => ⟨z, h⟩, fun z => z.1⟩
          · rintro H6 ⟨s6, ys, hys, ly, iy⟩
            rw [pxs.length, List.take_length] at iy
            walk_at "z"
            refine r_ite (fun h => ?_) (fun h => ?_)
            · walk_at "z"
              exact fin (s1.trans (s15.trans s6)) ⟨fun h => (nomatch h), fun h9 => by
                have := iy.mpr (all_.mpr (h9 k v hv))
                omega⟩
            · walk_at "z"
              exact ⟨⟨_, _, rfl⟩, s15.trans s6, next (all_.mp (iy.mp (by omega)))⟩
      · rintro σ' H2 ⟨⟨x3, x4, rfl⟩, s2, ok2⟩
        walk_at "z"
        exact fin (s1.trans s2) ⟨fun _ i v hv => ok2 i v (List.getElem?_eq_some_iff.mp hv).1 hv, fun _ => rfl⟩
    · have rno : ∀ {r : Bool} {H'}, Same H H' → (r = true ↔ lholX (n : Int) ps d) → Q (.bl r) H' := fun e h => q _ _ e (h.trans ((hole_iff inn).symm.trans ⟨fun h => .inr ⟨rfl, h⟩, fun h => h.elim (fun h => absurd h.1 yn_ne) fun h => h.2⟩))
      refine ⟨rfl, ?_⟩
      rw [decide_eq_true (rfl : V.str "no" = V.str "no")]
      walk_at "z"
      try refine iteT ?_
      try walk_at "z"
      refine ⟨.ref ga, v, n, ps, d, rfl, hgr, n60, inn, hd, len, fun r H2 s2 hr2 => ?_⟩
      walk_at "z"
      exact rno s2 hr2
end

set_option Elab.async false
set_option linter.all false
set_option maxRecDepth 100000
set_option maxHeartbeats 4000000
open PySem PySem.Spec PyProof.Rows L2 LamX RZ

theorem isHole_iff {ps : List (Int × Int)} {ns : List Int} (nd : ns.Nodup) (l4 : 4 ≤ ns.length) : IsHole ps ns ↔ (∀ (i : Nat) (x y : Int), ns[i]? = some x → ns[i + 1]? = some y → Nb ps x y) ∧ Nb ps (ns.getD 0 0) (ns.getD (ns.length - 1) 0) ∧ Bare ps ns := by
  have gd : ∀ i, i < ns.length → ns[i]? = some (ns.getD i 0) := fun i hi => by
    rw [List.getD_eq_getElem?_getD, List.getElem?_eq_getElem hi]
    rfl
  constructor
  · rintro ⟨_, _, ed⟩
    refine ⟨fun i x y hx hy => (ed i (i + 1) x y (by omega) hx hy).mpr (.inl rfl), (ed 0 (ns.length - 1) _ _ (by omega) (gd 0 (by omega)) (gd _ (by omega))).mpr (.inr ⟨rfl, by omega⟩), fun i j x y ij hx hy nl h => ?_⟩
    rcases (ed i j x y (by omega) hx hy).mp h with c | c
    · omega
    · exact nl c
  · rintro ⟨h1, h2, h3⟩
    refine ⟨l4, nd, fun i j x y ij hx hy => ⟨fun h => ?_, fun h => ?_⟩⟩
    · rcases Nat.lt_or_ge (i + 1) j with c | c
      · exact .inr (Classical.byContradiction fun z => h3 i j x y c hx hy z h)
      · exact .inl (by omega)
    · rcases h with e | ⟨e1, e2⟩
      · rw [e] at hy
        exact h1 i x y hx hy
      · rw [e1, gd 0 (by omega)] at hx
        rw [show j = ns.length - 1 by omega, gd _ (by omega)] at hy
        rw [← Option.some.inj hx, ← Option.some.inj hy]
        exact h2
/-- a hole, as the law and the check read it -/
theorem lhol_ints {n : Int} {ps : List (Int × Int)} {ns : List Int} (nd : ns.Nodup) (bd : ∀ z ∈ ns, 0 ≤ z ∧ z < n) : lholX n ps (.tuple (ns.map PyData.int)) ↔ IsHole ps ns := by
  constructor
  · rintro ⟨ms, e, _, _, l4, st, fl, ba⟩
    have := ints_inj (PyData.tuple.inj e)
    subst this
    exact (isHole_iff nd l4).mpr ⟨st, fl, ba⟩
  · intro h
    obtain ⟨st, fl, ba⟩ := (isHole_iff nd h.1).mp h
    exact ⟨ns, rfl, bd, nd, h.1, st, fl, ba⟩
/-! # turning a hole -/
theorem IsHole.turn {ps : List (Int × Int)} {x : Int} {r : List Int} (h : IsHole ps (x :: r)) : IsHole ps (r ++ [x]) := by
  obtain ⟨l4, nd, ed⟩ := h
  rw [List.length_cons] at l4 ed
  have lr : (r ++ [x]).length = r.length + 1 := by rw [List.length_append]; rfl
  refine ⟨by omega, ?_, fun i j a b ij hi hj => ?_⟩
  · obtain ⟨n1, n2⟩ := List.nodup_cons.mp nd
    exact List.nodup_append.mpr ⟨n2, by simp, fun y hy z hz e => n1 (by rw [← List.mem_singleton.mp hz, ← e]; exact hy)⟩
  · have jl := (List.getElem?_eq_some_iff.mp hj).1
    rw [lr] at jl ⊢
    have hi' : (x :: r)[i + 1]? = some a := by
      rw [List.getElem?_cons_succ]
      rw [List.getElem?_append_left (by omega)] at hi
      exact hi
    rcases Nat.lt_or_ge j r.length with c | c
    · have hj' : (x :: r)[j + 1]? = some b := by
        rw [List.getElem?_cons_succ]
        rw [List.getElem?_append_left c] at hj
        exact hj
      rw [ed (i + 1) (j + 1) a b (by omega) hi' hj']
      omega
    · have ej : j = r.length := by omega
      rw [ej, List.getElem?_append_right (Nat.le_refl _), Nat.sub_self] at hj
      have hj : some x = some b := hj
      cases hj
      have := ed 0 (i + 1) x a (by omega) rfl hi'
      constructor
      · intro z
        have := this.mp (nb_sy z)
        omega
      · intro z
        exact nb_sy (this.mpr (by omega))
theorem IsHole.mirror {ps : List (Int × Int)} {x : Int} {r : List Int} (h : IsHole ps (x :: r)) : IsHole ps (x :: r.reverse) := by
  obtain ⟨l4, nd, ed⟩ := h
  rw [List.length_cons] at l4 ed
  refine ⟨by rw [List.length_cons, List.length_reverse]; exact l4, ?_, fun i j a b ij hi hj => ?_⟩
  · obtain ⟨n1, n2⟩ := List.nodup_cons.mp nd
    exact List.nodup_cons.mpr ⟨fun z => n1 (List.mem_reverse.mp z), (List.reverse_perm r).nodup_iff.mpr n2⟩
  · rw [List.length_cons, List.length_reverse]
    have jl := (List.getElem?_eq_some_iff.mp hj).1
    rw [List.length_cons, List.length_reverse] at jl
    have at_ : ∀ {k : Nat} {z : Int}, (x :: r.reverse)[k + 1]? = some z → k < r.length → (x :: r)[r.length - k]? = some z := fun {k z} hk kl => by
      rw [List.getElem?_cons_succ, List.getElem?_reverse kl] at hk
      rw [show r.length - k = (r.length - 1 - k) + 1 by omega, List.getElem?_cons_succ]
      exact hk
    cases j with
    | zero => omega
    | succ j =>
      have hj' := at_ hj (by omega)
      cases i with
      | zero =>
        have hi : some x = some a := hi
        cases hi
        rw [ed 0 _ x b (by omega) rfl hj']
        omega
      | succ i =>
        have hi' := at_ hi (by omega)
        have := ed (r.length - j) (r.length - i) b a (by omega) hj' hi'
        constructor
        · intro z
          have := this.mp (nb_sy z)
          omega
        · intro z
          exact nb_sy (this.mpr (by omega))
/-- any of its vertices may stand first -/
theorem IsHole.first {ps : List (Int × Int)} {v : Int} : ∀ (l r : List Int), IsHole ps (l ++ v :: r) → ∃ r', IsHole ps (v :: r') ∧ ∀ z, z ∈ v :: r' ↔ z ∈ l ++ v :: r
  | [], r, h => ⟨r, h, fun _ => Iff.rfl⟩
  | x :: l, r, h => by
    obtain ⟨r', h1, h2⟩ := IsHole.first l (r ++ [x]) (by
      have this : IsHole ps ((l ++ v :: r) ++ [x]) := IsHole.turn (x := x) (r := l ++ v :: r) h
      rw [List.append_assoc] at this
      exact this)
    refine ⟨r', h1, fun z => (h2 z).trans ?_⟩
    simp only [List.mem_append, List.mem_cons, List.cons_append]
    constructor
    · rintro (h | h | h | h | h)
      · exact .inr (.inl h)
      · exact .inr (.inr (.inl h))
      · exact .inr (.inr (.inr h))
      · exact .inl h
      · cases h
    · rintro (h | h | h | h)
      · exact .inr (.inr (.inr (.inl h)))
      · exact .inl h
      · exact .inr (.inl h)
      · exact .inr (.inr (.inl h))
/-- with either neighbour next -/
theorem IsHole.both {ps : List (Int × Int)} {c : List Int} (h : IsHole ps c) {v w : Int} (hv : v ∈ c) (hw : w ∈ c) (vw : Nb ps v w) (ne : v ≠ w) : ∃ r, IsHole ps (v :: w :: r) ∧ ∀ z, z ∈ v :: w :: r ↔ z ∈ c := by
  obtain ⟨l, r, rfl⟩ := List.append_of_mem hv
  obtain ⟨r', h1, h2⟩ := IsHole.first l r h
  have wm := (h2 w).mpr hw
  have l4 := h1.1
  rw [List.length_cons] at l4
  obtain ⟨k, hk⟩ := List.mem_iff_getElem?.mp wm
  have kl := (List.getElem?_eq_some_iff.mp hk).1
  rw [List.length_cons] at kl
  have k0 : k ≠ 0 := fun e => by
    rw [e] at hk
    have hk : some v = some w := hk
    cases hk
    exact ne rfl
  rcases (h1.2.2 0 k v w (by omega) rfl hk).mp vw with e | ⟨_, e⟩
  · obtain rfl : k = 1 := by omega
    cases r' with
    | nil => simp at l4
    | cons y r' =>
      have hk : some y = some w := hk
      cases hk
      exact ⟨r', h1, h2⟩
  · rw [List.length_cons] at e
    have hm := h1.mirror
    have hk2 : r'.reverse[0]? = some w := by
      obtain ⟨k', rfl⟩ : ∃ k', k = k' + 1 := ⟨k - 1, by omega⟩
      rw [List.getElem?_cons_succ] at hk
      rw [List.getElem?_reverse (by omega), show r'.length - 1 - 0 = k' by omega]
      exact hk
    cases hr : r'.reverse with
    | nil => rw [hr] at hk2; cases hk2
    | cons y r2 =>
      rw [hr] at hk2 hm
      have hk2 : some y = some w := hk2
      cases hk2
      refine ⟨r2, hm, fun z => Iff.trans ?_ (h2 z)⟩
      rw [List.mem_cons, ← hr, List.mem_reverse, List.mem_cons]
/-! # the ring of the members -/
def moreL (ps : List (Int × Int)) (ms ring : List Int) : List Int := ms.filter fun v => decide (v ∉ ring ∧ nrm (ring.getLastD 0, v) ∈ ps)
def ringF (ps : List (Int × Int)) (ms : List Int) : Nat → List Int
  | 0 => [ms.headD 0]
  | k + 1 => match moreL ps ms (ringF ps ms k) with
    | [] => ringF ps ms k
    | v :: _ => ringF ps ms k ++ [v]
theorem ringF_good {ps : List (Int × Int)} {ms : List Int} (ne : ms ≠ []) : ∀ k, (ringF ps ms k).Nodup ∧ (∀ z ∈ ringF ps ms k, z ∈ ms) ∧ (ringF ps ms k).length ≤ k + 1 ∧ ringF ps ms k ≠ []
  | 0 => by
    refine ⟨by simp [ringF], fun z hz => ?_, by simp [ringF], by simp [ringF]⟩
    have hz : z ∈ [ms.headD 0] := hz
    cases ms with
    | nil => exact absurd rfl ne
    | cons x r =>
      rw [List.mem_singleton.mp hz]
      exact List.mem_cons_self
  | k + 1 => by
    obtain ⟨h1, h2, h3, h4⟩ := ringF_good (ps := ps) ne k
    cases e : moreL ps ms (ringF ps ms k) with
    | nil =>
      have : ringF ps ms (k + 1) = ringF ps ms k := by
        show (match moreL ps ms (ringF ps ms k) with | [] => ringF ps ms k | v :: _ => ringF ps ms k ++ [v]) = _
        rw [e]
      rw [this]
      exact ⟨h1, h2, by omega, h4⟩
    | cons v r =>
      have : ringF ps ms (k + 1) = ringF ps ms k ++ [v] := by
        show (match moreL ps ms (ringF ps ms k) with | [] => ringF ps ms k | v :: _ => ringF ps ms k ++ [v]) = _
        rw [e]
      have hv : v ∈ moreL ps ms (ringF ps ms k) := by rw [e]; exact List.mem_cons_self
      obtain ⟨m1, m2⟩ := List.mem_filter.mp hv
      have m2 := (of_decide_eq_true m2).1
      rw [this]
      refine ⟨List.nodup_append.mpr ⟨h1, by simp, fun a ha b hb e => m2 (by rw [← List.mem_singleton.mp hb, ← e]; exact ha)⟩, fun z hz => ?_, by rw [List.length_append]; simp only [List.length_cons, List.length_nil]; omega, by simp⟩
      rcases List.mem_append.mp hz with c | c
      · exact h2 z c
      · rw [List.mem_singleton.mp c]
        exact m1
theorem ringF_hole {ps : List (Int × Int)} {n : Int} (inn : ∀ p ∈ ps, 0 ≤ p.1 ∧ p.1 < p.2 ∧ p.2 < n) {c ms : List Int} (h : IsHole ps c) (nd : ms.Nodup) (mem : ∀ z, z ∈ ms ↔ z ∈ c) : IsHole ps (ringF ps ms (ms.length - 1)) ∧ (ringF ps ms (ms.length - 1)).length = ms.length := by
  have lc : ms.length = c.length := ((List.perm_ext_iff_of_nodup nd h.2.1).mpr mem).length_eq
  have l4 := h.1
  obtain ⟨a, ms', rfl⟩ : ∃ a ms', ms = a :: ms' := by
    cases ms with
    | nil => simp at lc; omega
    | cons a r => exact ⟨a, r, rfl⟩
  have ac := (mem a).mp List.mem_cons_self
  -- a has a neighbour: the first of more
  have nonempty : ∃ v r, moreL ps (a :: ms') [a] = v :: r := by
    obtain ⟨x, _, cx, _, ax, _⟩ := h.holey a ac
    have : x ∈ moreL ps (a :: ms') [a] := List.mem_filter.mpr ⟨(mem x).mpr cx, decide_eq_true ⟨fun z => (ax.nn inn).2.2 (List.mem_singleton.mp z), (Nb.nrm inn (fun z => (ax.nn inn).2.2 z.symm)).mpr ax⟩⟩
    cases e : moreL ps (a :: ms') [a] with
    | nil => rw [e] at this; cases this
    | cons v r => exact ⟨v, r, rfl⟩
  obtain ⟨v, rr, ev⟩ := nonempty
  have vm : v ∈ moreL ps (a :: ms') [a] := by rw [ev]; exact List.mem_cons_self
  obtain ⟨v1, v2⟩ := List.mem_filter.mp vm
  obtain ⟨v2, v3⟩ := of_decide_eq_true v2
  have av : a ≠ v := fun z => v2 (by rw [z]; exact List.mem_cons_self)
  have nbv : Nb ps a v := (Nb.nrm inn av).mp v3
  obtain ⟨r, hr, mr⟩ := h.both ac ((mem v).mp v1) nbv av
  have lr : (a :: v :: r).length = c.length := ((List.perm_ext_iff_of_nodup hr.2.1 h.2.1).mpr mr).length_eq
  generalize ec : a :: v :: r = d at hr mr lr
  have d0 : d[0]? = some a := by rw [← ec]; rfl
  have d1 : d[1]? = some v := by rw [← ec]; rfl
  have key : ∀ k, k < d.length → ringF ps (a :: ms') k = d.take (k + 1) := fun k => by
    induction k with
    | zero =>
      intro _
      rw [← ec]
      rfl
    | succ k ih =>
      intro hk
      have ih := ih (by omega)
      have gk : d[k + 1]? = some (d[k + 1]) := List.getElem?_eq_getElem hk
      have gk0 : d[k]? = some (d[k]) := List.getElem?_eq_getElem (by omega)
      have la : (d.take (k + 1)).getLastD 0 = d[k] := by
        rw [take_next gk0, List.getLastD_concat]
      show (match moreL ps (a :: ms') (ringF ps (a :: ms') k) with | [] => ringF ps (a :: ms') k | v :: _ => ringF ps (a :: ms') k ++ [v]) = _
      rw [ih]
      have inM : ∀ z, z ∈ moreL ps (a :: ms') (d.take (k + 1)) ↔ z ∈ d ∧ z ∉ d.take (k + 1) ∧ nrm (d[k], z) ∈ ps := fun z => by
        unfold moreL
        rw [List.mem_filter, decide_eq_true_eq, la, mem, ← mr]
      have nin : ∀ j, k + 1 ≤ j → (hj : j < d.length) → d[j] ∉ d.take (k + 1) := fun j h1 hj z => by
        obtain ⟨i, hi, e⟩ := List.mem_iff_getElem.mp z
        rw [List.length_take] at hi
        rw [List.getElem_take] at e
        have := nodup_at hr.2.1 (List.getElem?_eq_getElem hj) (List.getElem?_eq_some_iff.mpr ⟨by omega, e⟩)
        omega
      have yes : d[k + 1] ∈ moreL ps (a :: ms') (d.take (k + 1)) := by
        have nb := (hr.2.2 k (k + 1) _ _ (by omega) gk0 gk).mpr (.inl rfl)
        exact (inM _).mpr ⟨List.getElem_mem hk, nin _ (Nat.le_refl _) hk, (Nb.nrm inn (fun z => (nb.nn inn).2.2 z.symm)).mpr nb⟩
      have head : ∀ w r', moreL ps (a :: ms') (d.take (k + 1)) = w :: r' → w = d[k + 1] := fun w r' e => by
        have wm : w ∈ moreL ps (a :: ms') (d.take (k + 1)) := by rw [e]; exact List.mem_cons_self
        rcases Nat.eq_zero_or_pos k with k0 | k0
        · subst k0
          have e2 : d.take (0 + 1) = [a] := by rw [← ec]; rfl
          rw [e2, ev] at e
          have := (List.cons.inj e).1
          rw [← this]
          have := gk
          rw [d1] at this
          exact Option.some.inj this
        · obtain ⟨w1, w2, w3⟩ := (inM w).mp wm
          obtain ⟨j, hj⟩ := List.mem_iff_getElem?.mp w1
          have jl := (List.getElem?_eq_some_iff.mp hj).1
          have jk : k + 1 ≤ j := by
            refine Classical.byContradiction fun z => w2 ?_
            refine List.mem_iff_getElem?.mpr ⟨j, ?_⟩
            rw [List.getElem?_take, if_pos (by omega)]
            exact hj
          have dw : d[k] ≠ w := fun e => by
            have := nodup_at hr.2.1 gk0 (by rw [e]; exact hj)
            omega
          have := (hr.2.2 k j _ _ (by omega) gk0 hj).mp ((Nb.nrm inn dw).mp w3)
          have ej : j = k + 1 := by omega
          subst ej
          rw [gk] at hj
          exact (Option.some.inj hj).symm
      rw [take_next gk]
      cases e : moreL ps (a :: ms') (d.take (k + 1)) with
      | nil => rw [e] at yes; cases yes
      | cons w r' =>
        show d.take (k + 1) ++ [w] = _
        rw [head w r' e]
  have lm : (a :: ms').length = d.length := by omega
  rw [key _ (by omega), show (a :: ms').length - 1 + 1 = d.length by omega, List.take_length]
  exact ⟨hr, lm.symm⟩

set_option Elab.async false
set_option linter.all false
set_option maxRecDepth 100000
set_option maxHeartbeats 4000000
open PySem PySem.Spec PyProof.Rows L2

/-- all subsets, in the order in which the law makes them -/
def subF (f : List (List Int)) (ns : List Int) : List (List Int) := ns.foldl (fun f x => f ++ f.map (· ++ [x])) f
def subL (ns : List Int) : List (List Int) := subF [[]] ns
theorem subF_len : ∀ (ns : List Int) (f : List (List Int)), (subF f ns).length = f.length * 2 ^ ns.length
  | [], f => by simp [subF]
  | n :: ns, f => by
    have := subF_len ns (f ++ f.map (· ++ [n]))
    show (subF (f ++ f.map (· ++ [n])) ns).length = _
    rw [this, List.length_append, List.length_map, List.length_cons, Nat.pow_succ, Nat.mul_comm (2 ^ ns.length) 2, ← Nat.mul_assoc]
    congr 1
    omega
theorem subF_sub : ∀ (ns : List Int) (f : List (List Int)) (pre : List Int), (∀ o ∈ f, o.Sublist pre) → ∀ o ∈ subF f ns, o.Sublist (pre ++ ns)
  | [], f, pre, h => fun o ho => by rw [List.append_nil]; exact h o ho
  | n :: ns, f, pre, h => fun o ho => by
    have := subF_sub ns (f ++ f.map (· ++ [n])) (pre ++ [n]) (fun o ho => by
      rcases List.mem_append.mp ho with c | c
      · exact (h o c).trans (List.sublist_append_left _ _)
      · obtain ⟨o', ho', rfl⟩ := List.mem_map.mp c
        exact (h o' ho').append (List.Sublist.refl _)) o ho
    rw [List.append_assoc] at this
    exact this
theorem subL_sub {ns o : List Int} (h : o ∈ subL ns) : o.Sublist ns := subF_sub ns [[]] [] (fun o ho => by rw [List.mem_singleton.mp ho]; exact List.Sublist.refl _) o h
theorem subL_next {ns : List Int} {j : Nat} {x : Int} (h : ns[j]? = some x) : subL (ns.take (j + 1)) = subL (ns.take j) ++ (subL (ns.take j)).map (· ++ [x]) := by
  unfold subL subF
  rw [take_next h, List.foldl_append]
  rfl
theorem subL_len (ns : List Int) : (subL ns).length = 2 ^ ns.length := by
  unfold subL
  rw [subF_len]
  simp
section
variable {P : Program} {w : World} {K : PySem.W.Frag} {mg : Str → Option Value} {base : Heap}
def spSubs : Sp := fun vs H Q _ => ∃ (l : Addr) (ns : List Int), vs = [.ref l] ∧ H l = some (.lst (ns.map V.int)) ∧ ns.length ≤ 10 ∧ ∀ (f : Addr) (xs : List V) (H' : Hp), Same H H' → H' f = some (.lst xs) → ITups H' xs (subL ns) → Q (.ref f) H'
theorem ok_subs (T : Blt mg) (D : DefAt K mg "_law_subsets" s_law_subsets ["items"]) : FnOk P w K mg base CX0 1 D.f D.fd ["items"] spSubs := by
  refine D.F.ok sc_law_subsets (fun vs H Q E h => ?_) (fun cdv A outer s H vs Q E hr h => ?_)
  · obtain ⟨l, ns, rfl, _⟩ := h
    rfl
  · obtain ⟨l, ns, rfl, hl, hn, q⟩ := h
    refine ⟨_, (pss_cons (ps_set (i := 1) sc_law_subsets.nd rfl (Or.inl rfl) (pe_lst (pa_cons (pe_tup pa_nil) pa_nil)))
      (pss_cons (ps_for PassesOwn.never (by rfl) (PI.listK (K := K) rfl (pi_list (pv 0))) (pg_name (i := 2) sc_law_subsets.nd rfl (Or.inr rfl))
        (pss_one (ps_set (i := 1) sc_law_subsets.nd rfl (Or.inl rfl) (pe_op op_cat (pv 1) (pe_lc (own := [("one", 3)]) (by rfl) sc_law_subsets.nd (PI.listK (K := K) rfl (pi_list (pv 1))) (blkOk_by (own := [("one", 3)]) (N := ["items", "found", "item", "one"]) (sc := (defScope s_law_subsets)) (by decide +kernel)) (fun _ _ _ _ _ => (pg_name (i := 3) sc_law_subsets.nd rfl (Or.inl rfl))) (fun _ _ _ _ _ => pts_nil) (fun _ _ _ _ _ => (pe_op (op_catAK (K := K) rfl) (pv 3) (pe_tup (pa_cons (pv 2) pa_nil)))))))))
      (pss_one (ps_ret (pv 1))))), ?_⟩
    refine r_at (σ := [some _, none, none, none]) rfl ?_
    walk_at "z"
    refine r_tupN (Nat.zero_le _) fun t0 ht0 => ?_
    walk_at "z"
    refine r_lstN sz1 fun f0 hf0 => ?_
    have s1 : Same H (upd (upd H t0 (.tup [])) f0 (.lst [.ref t0])) := (same_new ht0).trans (same_new hf0)
    have p0 : ITups (upd (upd H t0 (.tup [])) f0 (.lst [.ref t0])) [.ref t0] [[]] := .cons ⟨t0, rfl, same_new hf0 _ _ upd_same⟩ .nil
    have h0 : (upd (upd H t0 (.tup [])) f0 (.lst [.ref t0])) f0 = some (.lst [.ref t0]) := upd_same
    generalize upd (upd H t0 (.tup [])) f0 (.lst [.ref t0]) = H1 at s1 p0 h0 ⊢
    have hl1 := s1 _ _ hl
    walk_at "z"
    have lens : ∀ j, (subL (ns.take j)).length ≤ 1024 := fun j => by
      rw [subL_len, List.length_take]
      exact Nat.pow_le_pow_right (by omega) (show min j ns.length ≤ 10 by omega)
    refine r_il (.inl (.inl hl1)) (forR_list (xs := ns.map V.int) (fun j σ' H' => ∃ (f : Addr) (xs : List V) (x2 x3 : Option V), σ' = [some (.ref l), some (.ref f), x2, x3] ∧ Same H1 H' ∧ H' f = some (.lst xs) ∧ ITups H' xs (subL (ns.take j))) ⟨f0, _, _, _, rfl, fun _ _ z => z, h0, p0⟩ (fun j σ' H' _ ⟨f, xs, x2, x3, _, s2, _⟩ => .inl (.inl (s2 _ _ hl1))) ?_ ?_)
    · rintro j x σ' H' hx ⟨f, xs, x2, x3, rfl, s2, hf, pr⟩
      rw [List.getElem?_map] at hx
      obtain ⟨u, hu, rfl⟩ := Option.map_eq_some_iff.mp hx
      have lj := lens j
      walk_at "z"
      refine r_il (.inl (.inl hf)) fun d hd => lcR_list (xs := xs) (fun i H3 => Same H' H3 ∧ ∃ ys, H3 d = some (.lst ys) ∧ ITups H3 ys (((subL (ns.take j)).take i).map (· ++ [u]))) (by walk_at "zw") ⟨same_new hd, [], upd_same, .nil⟩ (fun i H3 _ ⟨s3, _⟩ => .inl (.inl (s3 _ _ hf))) ?_ ?_
      · rintro i y H3 hy ⟨s3, ys, hys, pys⟩
        obtain ⟨o, ho, t, rfl, ht⟩ := pd_get (ITups.tk (.of_same s3) pr) hy
        have il := (List.getElem?_eq_some_iff.mp ho).1
        have ol := (subL_sub (List.mem_of_getElem? ho)).length_le
        rw [List.length_take] at ol
        walk_at "z"
        refine ⟨rfl, ?_⟩
        walk_at "z"
        refine r_tupN sz1 fun t2 ht2 => ?_
        have s4 : Same H3 (upd H3 t2 (.tup [.int u])) := same_new ht2
        refine r_catA (s4 _ _ ht) upd_same (by rw [List.length_map]; simp only [List.length_cons, List.length_nil]; omega) fun p H5 s5 hp5 => ?_
        have s35 := s4.trans s5
        have hy5 := s35 _ _ hys
        refine r_lce hy5 (small_lt ?_) ⟨same_mut (s3.trans s35) hd, _, upd_same, ?_⟩
        · rw [pys.length, List.length_map, List.length_take]
          omega
        · rw [take_next ho, List.map_append]
          refine Paired.snoc (ITups.tk (.lst hy5) (ITups.tk (.of_same s35) pys)) (ITup.tk (.lst hy5) ⟨p, rfl, ?_⟩)
          rw [hp5, List.map_append]
          rfl
      · rintro H3 ⟨s3, ys, hys, pys⟩
        rw [pr.length, List.take_length] at pys
        have e1 := pr.length
        have e2 := pys.length
        rw [List.length_map] at e2
        walk_at "z"
        refine r_cat (s3 _ _ hf) hys (by omega) fun c hc => ?_
        refine ⟨c, _, _, _, rfl, (s2.trans s3).trans (same_new hc), upd_same, ?_⟩
        rw [subL_next hu]
        exact pd_append (ITups.tk (.of_same (s3.trans (same_new hc))) pr) (ITups.tk (.new hc) pys)
    · rintro σ' H' ⟨f, xs, x2, x3, rfl, s2, hf, pr⟩
      rw [List.length_map, List.take_length] at pr
      walk_at "z"
      exact q f xs H' (s1.trans s2) hf pr
end

set_option Elab.async false
set_option linter.all false
set_option maxRecDepth 100000
set_option maxHeartbeats 4000000
open PySem PySem.Spec PyProof.Rows L2 LamX RZ

abbrev s_law_ring_of : Stmt := topS 346
theorem sc_law_ring_of : FnScope ["graph", "members", "ring", "k", "more", "v"] ["graph", "members"] (defScope s_law_ring_of) := ⟨rfl, rfl, rfl, by decide +kernel, rfl, by decide +kernel, by decide +kernel⟩

abbrev s_law_holes : Stmt := topS 347
theorem sc_law_holes : FnScope ["graph", "found", "members", "ring", "v", "u"] ["graph"] (defScope s_law_holes) := ⟨rfl, rfl, rfl, by decide +kernel, rfl, by decide +kernel, by decide +kernel⟩

section
variable {P : Program} {w : World} {K : PySem.W.Frag} {mg : Str → Option Value} {base : Heap}
theorem r_neLQ {H : Hp} {Q : VK} {f e : Addr} {ns ms : List Int} (h : SqL K H f (ns.map V.int)) (he : SqL K H e (ms.map V.int)) (q : Q (.bl (!decide (ns = ms))) H) : rNeD K (.ref f) (.ref e) H Q := by
  refine ⟨.list (ns.map PyData.int), .list (ms.map PyData.int), .lst h (dps_int ns), .lst he (dps_int ms), shaped_of (lstI_lay ns) (by have := lstI_depth ns; omega), shaped_of (lstI_lay ms) (by have := lstI_depth ms; omega), ?_⟩
  simp only [PyData.eqv]
  rw [eqvI]
  exact q
def spRing : Sp := fun vs H Q _ => ∃ (g : V) (t : Addr) (n : Int) (ps : List (Int × Int)) (ms : List Int), vs = [g, .ref t] ∧ GrAt H g n ps ∧ H t = some (.tup (ms.map V.int)) ∧ 1 ≤ ms.length ∧ ms.length ≤ 60 ∧
  ∀ (p : Addr) (H' : Hp), Same H H' → H' p = some (.tup ((ringF ps ms (ms.length - 1)).map V.int)) → Q (.ref p) H'
theorem ok_ring (T : Blt mg) (D : DefAt K mg "_law_ring_of" s_law_ring_of ["graph", "members"]) (D_law_met : DefAt K mg "_law_met" s_law_met ["graph", "u", "v"]) (G_law_met : FnOk P w K mg base CX0 2 D_law_met.f D_law_met.fd ["graph", "u", "v"] spMet) :
    FnOk P w K mg base CX0 3 D.f D.fd ["graph", "members"] spRing := by
  refine D.F.ok sc_law_ring_of (fun vs H Q E h => ?_) (fun cdv A outer s H vs Q E hr h => ?_)
  · obtain ⟨g, t, n, ps, ms, rfl, _⟩ := h
    rfl
  · obtain ⟨g, t, n, ps, ms, rfl, hgr, ht, l1, l60, q⟩ := h
    have ne : ms ≠ [] := fun e => by rw [e] at l1; simp at l1
    have ix0 : atI (ms.map V.int) 0 = some (.int (ms.headD 0)) := at_of (j := 0) (by omega) (by cases ms with
      | nil => exact absurd rfl ne
      | cons x r => rfl)
    refine ⟨_, (pss_cons (ps_set (i := 2) sc_law_ring_of.nd rfl (Or.inr rfl) (pe_lst (pa_cons (pe_ix (ix_tupK (K := K) rfl) (pv 1) pe_int (fun _ _ => rfl)) pa_nil)))
      (pss_cons (ps_for PassesOwn.never (by rfl) (pi_range1 (by rfl) T.range (pa_cons (pe_op op_sub (pe_callB (call_lenK (K := K) rfl) (by rfl) T.len (by decide +kernel) (pa_cons (pv 1) pa_nil)) pe_int) pa_nil)) (pg_name (i := 3) sc_law_ring_of.nd rfl (Or.inl rfl))
        (pss_cons (ps_setLc (i := 4) (own := [("v", 5)]) (by rfl) sc_law_ring_of.nd rfl rfl (sw_true rfl rfl rfl (by decide +kernel)) (PI.tupK (K := K) rfl (pi_tup (pv 1))) (blkOk_by (own := [("v", 5)]) (N := ["graph", "members", "ring", "k", "more", "v"]) (sc := (defScope s_law_ring_of)) (by decide +kernel)) (fun _ _ _ _ _ => (pg_name (i := 5) sc_law_ring_of.nd rfl (Or.inl rfl))) (fun _ _ _ _ _ => (pts_one (PW.pt (pw_and (pt_cmpR (op_ninSeqK (K := K) rfl) (pv 5) (pv 2) (by rfl)) (pw_and1 (pt_val (pe_call G_law_met (hr.mono (by first | decide | omega)) (by rfl) D_law_met.g D_law_met.F.kp D_law_met.b .nil pass0 (pa_cons (pv 0) (pa_cons (pe_ix (ix_listK (K := K) rfl) (pv 2) (pe_un un_neg pe_int) (fun _ _ => rfl)) (pa_cons (pv 5) pa_nil)))))))))) (fun _ _ _ _ _ => (pv 5)))
        (pss_one (ps_if (pt_cmpR (op_neDK (K := K) rfl hr.units) (pv 4) (pe_lst pa_nil) (nomark _))
          (pss_one (ps_expr (PE.bmK (K := K) rfl (pe_bm PySem.F.plainAttrs_list PySem.F.slot_list_append PySem.F.type_list_append mt_append (pv 2) (pa_cons (pe_ix (ix_listK (K := K) rfl) (pv 4) pe_int (fun _ _ => rfl)) pa_nil)))))
          pss_nil))))
      (pss_one (ps_ret (pe_callTy (call_tupleK (K := K) rfl) (by rfl) T.tuple (by decide +kernel) (pa_cons (pv 2) pa_nil)))))), ?_⟩
    refine r_at (σ := [some _, some _, none, none, none, none]) rfl ?_
    walk_at "z"
    refine r_lstN sz1 fun ra hra => ?_
    have s1 : Same H (upd H ra (.lst [.int (ms.headD 0)])) := same_new hra
    have hr1 : (upd H ra (.lst [.int (ms.headD 0)])) ra = some (.lst ((ringF ps ms 0).map V.int)) := upd_same
    generalize upd H ra (.lst [.int (ms.headD 0)]) = H1 at s1 hr1 ⊢
    have ht1 := s1 _ _ ht
    walk_at "z"
    refine r_rg1 (by rw [List.length_map]; omega) (forR_range (fun k σ' H' => (∃ x3 x4 x5, σ' = [some g, some (.ref t), some (.ref ra), x3, x4, x5]) ∧ Same H H' ∧ H' ra = some (.lst ((ringF ps ms k).map V.int))) ⟨⟨_, _, _, rfl⟩, s1, hr1⟩ ?_ ?_)
    · rintro k σ' H2 hk ⟨⟨x3, x4, x5, rfl⟩, s2, hr2⟩
      obtain ⟨rn, rs, rl, rne⟩ := ringF_good (ps := ps) ne k
      have rl2 : (ringF ps ms k).length ≤ ms.length := nodup_le _ ms rn rs
      have ht2 := s2 _ _ ht
      obtain ⟨r', z, er⟩ : ∃ r' z, ringF ps ms k = r' ++ [z] := by
        rcases List.eq_nil_or_concat (ringF ps ms k) with e | ⟨r', z, e⟩
        · exact absurd e rne
        · exact ⟨r', z, by rw [e, List.concat_eq_append]⟩
      have la : (ringF ps ms k).getLastD 0 = z := by rw [er, List.getLastD_concat]
      have ixl : atI ((ringF ps ms k).map V.int) (-1) = some (.int z) := by
        rw [er, List.map_append]
        exact atI_end
      walk_at "z"
      refine r_it (.inl (.inl ht2)) fun c hc => lcR_tup (xs := ms.map V.int) (fun m H' => Same H2 H' ∧ H' c = some (.lst (((ms.take m).filter fun v => decide (v ∉ ringF ps ms k ∧ nrm (z, v) ∈ ps)).map V.int))) (by walk_at "zw") ⟨same_new hc, upd_same⟩ (fun i H' _ ⟨s3, _⟩ => .inl (.inl (s3 _ _ ht2))) ?_ ?_
      · rintro m y H3 hy ⟨s3, hc3⟩
        rw [List.getElem?_map] at hy
        obtain ⟨v, hv, rfl⟩ := Option.map_eq_some_iff.mp hy
        have hr3 := s3 _ _ hr2
        have lf : ((ms.take m).filter fun v => decide (v ∉ ringF ps ms k ∧ nrm (z, v) ∈ ps)).length ≤ ms.length := Nat.le_trans (List.length_filter_le _ _) (by rw [List.length_take]; omega)
        have no : ∀ H4, Same H3 H4 → ¬ (v ∉ ringF ps ms k ∧ nrm (z, v) ∈ ps) → Same H2 H4 ∧ H4 c = some (.lst (((ms.take (m + 1)).filter fun v => decide (v ∉ ringF ps ms k ∧ nrm (z, v) ∈ ps)).map V.int)) := fun H4 s4 hn => by
          refine ⟨s3.trans s4, ?_⟩
          rw [take_next hv, List.filter_append, List.filter_cons, if_neg (by rw [decide_eq_true_eq]; exact hn), List.filter_nil, List.append_nil]
          exact s4 _ _ hc3
        walk_at "z"
        refine ⟨rfl, ?_⟩
        walk_at "z"
        refine r_ninI (ns := ringF ps ms k) (.inl (.inl (.inl hr3))) ?_
        walk_at "z"
        refine r_iteN (fun h1 => ?_) (fun h1 => ?_)
        · walk_at "z"
          refine ⟨g, n, z, v, ps, rfl, (hgr.tk (.of_same s2)).tk (.of_same s3), fun H4 s4 => ?_⟩
          have hc4 := s4 _ _ hc3
          walk_at "z"
          refine r_ite (fun h2 => ?_) (fun h2 => ?_)
          · walk_at "z"
            refine r_lce hc4 (small_lt (by rw [List.length_map]; omega)) ⟨same_mut (s3.trans s4) hc, ?_⟩
            rw [take_next hv, List.filter_append, List.filter_cons, if_pos (decide_eq_true ⟨h1, h2⟩), List.map_append]
            exact upd_same
          · exact no H4 s4 fun z => h2 z.2
        · exact no H3 (Same.refl _) fun z => z.1 h1
      · rintro H3 ⟨s3, hc3⟩
        rw [List.length_map, List.take_length] at hc3
        have hm : (ms.filter fun v => decide (v ∉ ringF ps ms k ∧ nrm (z, v) ∈ ps)) = moreL ps ms (ringF ps ms k) := by
          unfold moreL
          rw [la]
        rw [hm] at hc3
        have s23 := s2.trans s3
        have hr3 := s3 _ _ hr2
        have frr : H ra = none := hra
        walk_at "z"
        refine r_lstN (Nat.zero_le _) fun e0 he0 => ?_
        have s4 := same_new (o := .lst []) he0
        have he04 : (upd H3 e0 (.lst [])) e0 = some (.lst (([] : List Int).map V.int)) := upd_same
        have hc4 := s4 _ _ hc3
        have hr4 := s4 _ _ hr3
        generalize upd H3 e0 (.lst []) = H4 at s4 he04 hc4 hr4 ⊢
        have s24 := s23.trans s4
        refine r_neLQ (.inl (.inl hc4)) (.inl (.inl he04)) ?_
        cases e : moreL ps ms (ringF ps ms k) with
        | nil =>
          have er2 : ringF ps ms (k + 1) = ringF ps ms k := by
            show (match moreL ps ms (ringF ps ms k) with | [] => ringF ps ms k | v :: _ => ringF ps ms k ++ [v]) = _
            rw [e]
          rw [decide_eq_true rfl]
          walk_at "z"
          refine iteF ?_
          walk_at "z"
          refine ⟨⟨_, _, _, rfl⟩, s24, ?_⟩
          rw [er2]
          exact hr4
        | cons v rr =>
          have er2 : ringF ps ms (k + 1) = ringF ps ms k ++ [v] := by
            show (match moreL ps ms (ringF ps ms k) with | [] => ringF ps ms k | v :: _ => ringF ps ms k ++ [v]) = _
            rw [e]
          rw [decide_eq_false (by simp)]
          rw [e] at hc4
          have ixv : atI ((v :: rr).map V.int) 0 = some (.int v) := at_of (j := 0) (by omega) rfl
          walk_at "z"
          refine iteT ?_
          walk_at "z"
          refine r_appT hr4 (small_lt (by rw [List.length_map]; omega)) ?_
          refine ⟨⟨_, _, _, rfl⟩, same_mut s24 frr, ?_⟩
          rw [er2, List.map_append]
          exact upd_same
    · rintro σ' H2 ⟨⟨x3, x4, x5, rfl⟩, s2, hr2⟩
      rw [show ((((ms.map V.int).length : Nat) : Int) - 1).toNat = ms.length - 1 by rw [List.length_map]; omega] at hr2
      walk_at "z"
      refine r_tupL (.inl (.inl hr2)) fun p hp => ?_
      exact q p _ (s2.trans (same_new hp)) upd_same
end
theorem subF_app30 {o pre : List Int} {f : List (List Int)} : ∀ (ns : List Int), o.Sublist ns → ∀ (f : List (List Int)), pre ∈ f → pre ++ o ∈ subF f ns := by
  intro ns h
  induction h generalizing pre with
  | slnil =>
    intro f hp
    rw [List.append_nil]
    exact hp
  | cons a h ih =>
    intro f hp
    exact ih (f ++ f.map (· ++ [a])) (List.mem_append_left _ hp)
  | cons_cons a h ih =>
    intro f hp
    have := ih (pre := pre ++ [a]) (f ++ f.map (· ++ [a])) (List.mem_append_right _ (List.mem_map.mpr ⟨pre, hp, rfl⟩))
    rw [List.append_assoc] at this
    exact this
theorem subL_of30 {o ns : List Int} (h : o.Sublist ns) : o ∈ subL ns := subF_app30 (pre := []) (f := [[]]) ns h [[]] (List.mem_singleton.mpr rfl)
/-- how many neighbours v has in ms -/
def cntL (n : Int) (ps : List (Int × Int)) (ms : List Int) (v : Int) : List Int := (nearL n ps v n.toNat).filter fun u => decide (u ∈ ms)
theorem mem_cntL {n : Nat} {ps : List (Int × Int)} {ms : List Int} {v u : Int} (inn : ∀ p ∈ ps, 0 ≤ p.1 ∧ p.1 < p.2 ∧ p.2 < (n : Int)) : u ∈ cntL (n : Int) ps ms v ↔ Nb ps v u ∧ u ∈ ms := by
  unfold cntL nearL
  rw [List.mem_filter, List.mem_filter, decide_eq_true_eq, decide_eq_true_eq]
  constructor
  · rintro ⟨⟨_, h1, h2⟩, h3⟩
    exact ⟨nb_sy ((Nb.nrm inn h1).mp h2), h3⟩
  · rintro ⟨h1, h2⟩
    obtain ⟨u0, u1, u2⟩ := h1.nn inn
    exact ⟨⟨(show u ∈ rgI (n : Int) from mem_rgI.mpr ⟨u0, u1⟩), u2, (Nb.nrm inn u2).mpr (nb_sy h1)⟩, h2⟩
theorem cntL_two {n : Nat} {ps : List (Int × Int)} {c ms : List Int} {v : Int} (inn : ∀ p ∈ ps, 0 ≤ p.1 ∧ p.1 < p.2 ∧ p.2 < (n : Int)) (h : IsHole ps c) (mem : ∀ z, z ∈ ms ↔ z ∈ c) (hv : v ∈ ms) : (cntL (n : Int) ps ms v).length = 2 := by
  obtain ⟨l, r, e⟩ := List.append_of_mem ((mem v).mp hv)
  rw [e] at h mem
  obtain ⟨r', h1, h2⟩ := IsHole.first l r h
  obtain ⟨l4, nd, ed⟩ := h1
  generalize ed1 : v :: r' = d at l4 nd ed h2
  have d0 : d[0]? = some v := by rw [← ed1]; rfl
  have gd : ∀ i, i < d.length → d[i]? = some (d.getD i 0) := fun i hi => by
    rw [List.getD_eq_getElem?_getD, List.getElem?_eq_getElem hi]
    rfl
  have ne : d.getD 1 0 ≠ d.getD (d.length - 1) 0 := fun e => by
    have h1 := gd 1 (by omega)
    rw [e] at h1
    have := nodup_at nd h1 (gd (d.length - 1) (by omega))
    omega
  have nl : (cntL (n : Int) ps ms v).Nodup := (((show (rgI (n : Int)).Nodup from rgI_nodup _).filter _).filter _)
  have : (cntL (n : Int) ps ms v).Perm [d.getD 1 0, d.getD (d.length - 1) 0] := (List.perm_ext_iff_of_nodup nl (List.nodup_cons.mpr ⟨fun z => ne (List.mem_singleton.mp z), by simp⟩)).mpr fun z => by
    rw [mem_cntL inn, mem, ← h2]
    simp only [List.mem_cons, List.not_mem_nil, or_false]
    constructor
    · rintro ⟨z1, z2⟩
      obtain ⟨j, hj⟩ := List.mem_iff_getElem?.mp z2
      have jl := (List.getElem?_eq_some_iff.mp hj).1
      have j0 : 0 < j := by
        refine Nat.pos_of_ne_zero fun e => ?_
        rw [e, d0] at hj
        cases hj
        exact (z1.nn inn).2.2 rfl
      rw [gd j jl] at hj
      rcases (ed 0 j v z j0 d0 (by rw [gd j jl]; exact hj)).mp z1 with e | ⟨_, e⟩
      · left
        rw [← Option.some.inj hj, e]
      · right
        rw [← Option.some.inj hj, show d.length - 1 = j by omega]
    · rintro (rfl | rfl)
      · exact ⟨(ed 0 1 _ _ (by omega) d0 (gd 1 (by omega))).mpr (.inl rfl), List.mem_of_getElem? (gd 1 (by omega))⟩
      · exact ⟨(ed 0 (d.length - 1) _ _ (by omega) d0 (gd _ (by omega))).mpr (.inr ⟨rfl, by omega⟩), List.mem_of_getElem? (gd _ (by omega))⟩
  rw [this.length_eq]
  rfl
section
variable {P : Program} {w : World} {K : PySem.W.Frag} {mg : Str → Option Value} {base : Heap}
def spHoles : Sp := fun vs H Q _ => ∃ (g : V) (n : Nat) (ps : List (Int × Int)), vs = [g] ∧ GrAt H g (n : Int) ps ∧ n ≤ 8 ∧ (∀ p ∈ ps, 0 ≤ p.1 ∧ p.1 < p.2 ∧ p.2 < (n : Int)) ∧
  ∀ (f : Addr) (xs : List V) (qs : List (List Int)) (H' : Hp), Same H H' → H' f = some (.lst xs) → ITups H' xs qs → qs.length ≤ 2000 → (qs = [] ↔ ∀ c, IsHole ps c → (∀ z ∈ c, 0 ≤ z ∧ z < (n : Int)) → False) → Q (.ref f) H'
theorem ok_holes {bb : Addr} (T : Blt mg) (D : DefAt K mg "_law_holes" s_law_holes ["graph"]) (D_law_subsets : DefAt K mg "_law_subsets" s_law_subsets ["items"]) (G_law_subsets : FnOk P w K mg base CX0 1 D_law_subsets.f D_law_subsets.fd ["items"] spSubs)
    (D_law_near : DefAt K mg "_law_near" s_law_near ["graph", "v"]) (G_law_near : FnOk P w K mg base CX0 3 D_law_near.f D_law_near.fd ["graph", "v"] spNear)
    (D_law_ring_of : DefAt K mg "_law_ring_of" s_law_ring_of ["graph", "members"]) (G_law_ring_of : FnOk P w K mg base CX0 3 D_law_ring_of.f D_law_ring_of.fd ["graph", "members"] spRing)
    (D_law_is_hole : DefAt K mg "_law_is_hole" s_law_is_hole ["graph", "value"]) (G_law_is_hole : FnOk P w K mg base CX0 5 D_law_is_hole.f D_law_is_hole.fd ["graph", "value"] (spLHolX bb)) : FnOk P w K mg base CX0 6 D.f D.fd ["graph"] spHoles := by
  refine D.F.ok sc_law_holes (fun vs H Q E h => ?_) (fun cdv A outer s H vs Q E hr h => ?_)
  · obtain ⟨g, n, ps, rfl, _⟩ := h
    rfl
  · obtain ⟨g, n, ps, rfl, hgr, n8, inn, q⟩ := h
    obtain ⟨ga, e, rfl, hg, he⟩ := id hgr
    refine ⟨_, (pss_cons (ps_set (i := 1) sc_law_holes.nd rfl (Or.inl rfl) (pe_lst pa_nil))
      (pss_cons (ps_for PassesOwn.never (by rfl) (PI.listK (K := K) rfl (pi_list (pe_call G_law_subsets (hr.mono (by first | decide | omega)) (by rfl) D_law_subsets.g D_law_subsets.F.kp D_law_subsets.b .nil pass0 (pa_cons (pe_listRg rfl (by rfl) T.list (prg_1 (by rfl) T.range (pe_ix (ix_tupK (K := K) rfl) (pv 0) pe_int (fun _ _ => rfl)))) pa_nil)))) (pg_name (i := 2) sc_law_holes.nd rfl (Or.inr rfl))
        (pss_one (ps_if (PW.pt (pw_and (pt_cmpR op_gt (pe_callB (call_lenK (K := K) rfl) (by rfl) T.len (by decide +kernel) (pa_cons (pv 2) pa_nil)) pe_int (nomark _)) (pw_and1 (pt_cmpR op_eq (pe_callB (call_lenK (K := K) rfl) (by rfl) T.len (by decide +kernel) (pa_cons (pe_lc (own := [("v", 4)]) (by rfl) sc_law_holes.nd (PI.tupK (K := K) rfl (pi_tup (pv 2))) (blkOk_by (own := [("v", 4)]) (N := ["graph", "found", "members", "ring", "v", "u"]) (sc := (defScope s_law_holes)) (by decide +kernel)) (fun _ _ _ _ _ => (pg_name (i := 4) sc_law_holes.nd rfl (Or.inl rfl))) (fun _ _ _ _ _ => (pts_one (pt_cmpR op_ne (pe_callB (call_lenK (K := K) rfl) (by rfl) T.len (by decide +kernel) (pa_cons (pe_lc (own := [("u", 5)]) (by rfl) sc_law_holes.nd (PI.listK (K := K) rfl (pi_list (pe_call G_law_near (hr.mono (by first | decide | omega)) (by rfl) D_law_near.g D_law_near.F.kp D_law_near.b .nil pass0 (pa_cons (pv 0) (pa_cons (pv 4) pa_nil))))) (blkOk_by (own := [("u", 5)]) (N := ["graph", "found", "members", "ring", "v", "u"]) (sc := ({ kind := .function, names := [(PySem.Str.ofString ".0", PySem.NameKind.local), (PySem.Str.ofString "v", PySem.NameKind.local), (PySem.Str.ofString "len", PySem.NameKind.globalImplicit), (PySem.Str.ofString "_law_near", PySem.NameKind.globalImplicit), (PySem.Str.ofString "graph", PySem.NameKind.cell), (PySem.Str.ofString "members", PySem.NameKind.cell)], isGenerator := false, isCoroutine := false, more := [] } : PySem.Scope)) (by decide +kernel)) (fun _ _ _ _ _ => (pg_name (i := 5) sc_law_holes.nd rfl (Or.inl rfl))) (fun _ _ _ _ _ => (pts_one (pt_cmpR (op_inSeqK (K := K) rfl) (pv 5) (pv 2) (by rfl)))) (fun _ _ _ _ _ => (pv 5))) pa_nil)) pe_int (nomark _)))) (fun _ _ _ _ _ => (pv 4))) pa_nil)) pe_int (nomark _)))))
          (pss_cons (ps_set (i := 3) sc_law_holes.nd rfl (Or.inl rfl) (pe_call G_law_ring_of (hr.mono (by first | decide | omega)) (by rfl) D_law_ring_of.g D_law_ring_of.F.kp D_law_ring_of.b .nil pass0 (pa_cons (pv 0) (pa_cons (pv 2) pa_nil))))
          (pss_one (ps_if (PW.pt (pw_and (pt_cmpR op_eq (pe_callB (call_lenK (K := K) rfl) (by rfl) T.len (by decide +kernel) (pa_cons (pv 3) pa_nil)) (pe_callB (call_lenK (K := K) rfl) (by rfl) T.len (by decide +kernel) (pa_cons (pv 2) pa_nil)) (nomark _)) (pw_and1 (pt_val (pe_call G_law_is_hole (hr.mono (by first | decide | omega)) (by rfl) D_law_is_hole.g D_law_is_hole.F.kp D_law_is_hole.b .nil pass0 (pa_cons (pv 0) (pa_cons (pv 3) pa_nil)))))))
            (pss_one (ps_expr (PE.bmK (K := K) rfl (pe_bm PySem.F.plainAttrs_list PySem.F.slot_list_append PySem.F.type_list_append mt_append (pv 1) (pa_cons (pv 3) pa_nil)))))
            pss_nil)))
          pss_nil)))
      (pss_one (ps_ret (pv 1))))), ?_⟩
    refine r_at (σ := [some _, none, none, none, none, none]) rfl ?_
    walk_at "z"
    refine r_lstN (Nat.zero_le _) fun f hf => ?_
    have s1 : Same H (upd H f (.lst [])) := same_new hf
    have hf1 : (upd H f (.lst [])) f = some (.lst []) := upd_same
    generalize upd H f (.lst []) = H1 at s1 hf1 ⊢
    have hg1 := s1 _ _ hg
    walk_at "z"
    refine r_lRg (by omega) (by omega) fun li hli => ?_
    have s2 := same_new (o := .lst ((rgI (n : Int)).map V.int)) hli
    have hli2 : (upd H1 li (.lst ((rgI (n : Int)).map V.int))) li = some (.lst ((rgI (n : Int)).map V.int)) := upd_same
    have hf2 := s2 _ _ hf1
    generalize upd H1 li (.lst ((rgI (n : Int)).map V.int)) = H2 at s2 hli2 hf2 ⊢
    have s02 := s1.trans s2
    walk_at "z"
    refine ⟨li, rgI (n : Int), rfl, hli2, by rw [rgI_len]; omega, fun sl sx H3 s3 hsl its => ?_⟩
    have hf3 := s3 _ _ hf2
    have slf : sl ≠ f := fun z => by
      rw [z, hf3] at hsl
      have e : [] = sx := HO.lst.inj (Option.some.inj hsl)
      have l0 := its.length
      rw [← e, subL_len] at l0
      have := Nat.pow_pos (a := 2) (n := (rgI (n : Int)).length) (by decide)
      simp at l0
      omega
    have tot : (subL (rgI (n : Int))).length ≤ 1024 := by
      rw [subL_len, rgI_len]
      exact Nat.pow_le_pow_right (n := 2) (by omega) (show ((n : Int)).toNat ≤ 10 by omega)
    refine r_il (.inl (.inl hsl)) (forR_list (xs := sx) (fun j σ' H' => (∃ x2 x3 x4 x5, σ' = [some (.ref ga), some (.ref f), x2, x3, x4, x5]) ∧ Same H H' ∧ TK H3 H' ∧ H' sl = some (.lst sx) ∧ ∃ (xs : List V) (qs : List (List Int)), H' f = some (.lst xs) ∧ ITups H' xs qs ∧ qs.length ≤ j ∧ (∀ c ∈ qs, IsHole ps c ∧ ∀ z ∈ c, 0 ≤ z ∧ z < (n : Int)) ∧
      (∀ ms ∈ (subL (rgI (n : Int))).take j, ∀ c, IsHole ps c → (∀ z, z ∈ ms ↔ z ∈ c) → qs ≠ []))
      ⟨⟨_, _, _, _, rfl⟩, s02.trans s3, TK.refl _, hsl, [], [], hf3, .nil, Nat.le_refl 0, fun c hc => (nomatch hc), fun ms hm => by simp at hm⟩ (fun j σ' H' _ ⟨_, _, _, z, _⟩ => .inl (.inl z)) ?_ ?_)
    · rintro j x σ' H4 hx ⟨⟨x2, x3, x4, x5, rfl⟩, s4, tk4, hsl4, xs, qs, hf4, its4, lq4, ok4, all4⟩
      obtain ⟨ms, hms, hxm⟩ := pd_get (ITups.tk tk4 its) hx
      obtain ⟨tm, rfl, htm⟩ := id hxm
      have sub : ms.Sublist (rgI (n : Int)) := subL_sub (List.mem_of_getElem? hms)
      have asc : ms.Pairwise (· < ·) := (rg_asc n).sublist sub
      have nd : ms.Nodup := asc.imp fun {a b} h => by omega
      have bd : ∀ z ∈ ms, 0 ≤ z ∧ z < (n : Int) := fun z hz => mem_rgI.mp (sub.subset hz)
      have lms : ms.length ≤ 60 := by
        have := sub.length_le
        rw [rgI_len] at this
        omega
      have jl : j < (subL (rgI (n : Int))).length := (List.getElem?_eq_some_iff.mp hms).1
      have lx := its4.length
      have skip : ∀ H', Same H4 H' → (∀ c, IsHole ps c → (∀ z, z ∈ ms ↔ z ∈ c) → False) → Same H H' ∧ TK H3 H' ∧ H' sl = some (.lst sx) ∧ ∃ (xs : List V) (qs : List (List Int)), H' f = some (.lst xs) ∧ ITups H' xs qs ∧ qs.length ≤ j + 1 ∧ (∀ c ∈ qs, IsHole ps c ∧ ∀ z ∈ c, 0 ≤ z ∧ z < (n : Int)) ∧
          (∀ ms ∈ (subL (rgI (n : Int))).take (j + 1), ∀ c, IsHole ps c → (∀ z, z ∈ ms ↔ z ∈ c) → qs ≠ []) := fun H' s' no => by
        refine ⟨s4.trans s', tk4.trans (.of_same s'), s' _ _ hsl4, xs, qs, s' _ _ hf4, ITups.tk (.of_same s') its4, by omega, ok4, fun m hm c hc mem => ?_⟩
        rw [take_next hms] at hm
        rcases List.mem_append.mp hm with c3 | c3
        · exact all4 m c3 c hc mem
        · rw [List.mem_singleton.mp c3] at mem
          exact (no c hc mem).elim
      walk_at "z"
      refine r_ite (fun h1 => ?_) (fun h1 => ?_)
      · have l4 : 4 ≤ ms.length := by
          rw [List.length_map] at h1
          omega
        walk_at "z"
        refine r_it (.inl (.inl htm)) fun c hc => lcR_tup (xs := ms.map V.int) (fun i H' => Same H4 H' ∧ ∃ ys : List V, H' c = some (.lst ys) ∧ ys.length ≤ i ∧ (ys.length = 0 ↔ ∀ v ∈ ms.take i, (cntL (n : Int) ps ms v).length = 2)) (by walk_at "zw") ⟨same_new hc, [], upd_same, Nat.le_refl _, by simp⟩ (fun i H' _ ⟨s5, _⟩ => .inl (.inl (s5 _ _ htm))) ?_ ?_
        · rintro i y H5 hy ⟨s5, ys, hys, ly, iy⟩
          rw [List.getElem?_map] at hy
          obtain ⟨v, hv, rfl⟩ := Option.map_eq_some_iff.mp hy
          have il := (List.getElem?_eq_some_iff.mp hv).1
          have htm5 := s5 _ _ htm
          have split : (∀ u ∈ ms.take (i + 1), (cntL (n : Int) ps ms u).length = 2) ↔ (∀ u ∈ ms.take i, (cntL (n : Int) ps ms u).length = 2) ∧ (cntL (n : Int) ps ms v).length = 2 := by
            rw [take_next hv]
            constructor
            · exact fun h => ⟨fun u hu => h u (List.mem_append_left _ hu), h v (List.mem_append_right _ List.mem_cons_self)⟩
            · rintro ⟨h1, h2⟩ u hu
              rcases List.mem_append.mp hu with c3 | c3
              · exact h1 u c3
              · rw [List.mem_singleton.mp c3]
                exact h2
          walk_at "z"
          refine ⟨rfl, ?_⟩
          walk_at "z"
          refine ⟨_, n, v, ps, rfl, (hgr.tk (.of_same s4)).tk (.of_same s5), by omega, by omega, fun l H6 _ s6 hl => ?_⟩
          have htm6 := s6 _ _ htm5
          have ln : (nearL (n : Int) ps v ((n : Int)).toNat).length ≤ 60 := by
            unfold nearL
            refine Nat.le_trans (List.length_filter_le _ _) ?_
            rw [List.length_map, List.length_range]
            omega
          refine r_il (.inl (.inl hl)) fun c2 hc2 => lcR_list (xs := (nearL (n : Int) ps v ((n : Int)).toNat).map V.int) (fun m H' => Same H6 H' ∧ H' c2 = some (.lst ((((nearL (n : Int) ps v ((n : Int)).toNat).take m).filter fun u => decide (u ∈ ms)).map V.int))) (by walk_at "zw") ⟨same_new hc2, upd_same⟩ (fun m H' _ ⟨s7, _⟩ => .inl (.inl (s7 _ _ hl))) ?_ ?_
          · rintro m y H7 hy ⟨s7, hc7⟩
            rw [List.getElem?_map] at hy
            obtain ⟨u, hu, rfl⟩ := Option.map_eq_some_iff.mp hy
            have lf : (((nearL (n : Int) ps v ((n : Int)).toNat).take m).filter fun u => decide (u ∈ ms)).length ≤ 60 := Nat.le_trans (List.length_filter_le _ _) (by rw [List.length_take]; omega)
            walk_at "z"
            refine ⟨rfl, ?_⟩
            walk_at "z"
            refine r_inI (ns := ms) (.inr (.inl (.inl (s7 _ _ htm6)))) ?_
            walk_at "z"
            refine r_ite (fun h2 => ?_) (fun h2 => ?_)
            · walk_at "z"
              refine r_lce hc7 (small_lt (by rw [List.length_map]; omega)) ⟨same_mut s7 hc2, ?_⟩
              rw [take_next hu, List.filter_append, List.filter_cons, if_pos (decide_eq_true h2), List.map_append]
              exact upd_same
            · refine ⟨s7, ?_⟩
              rw [take_next hu, List.filter_append, List.filter_cons, if_neg (by rw [decide_eq_true_eq]; exact h2), List.filter_nil, List.append_nil]
              exact hc7
          · rintro H7 ⟨s7, hc7⟩
            rw [List.length_map, List.take_length] at hc7
            have hc7 : H7 c2 = some (.lst ((cntL (n : Int) ps ms v).map V.int)) := hc7
            have hys7 := (s6.trans s7) _ _ hys
            have s57 := (s5.trans s6).trans s7
            walk_at "z"
            refine r_iteN (fun h2 => ?_) (fun h2 => ?_)
            · walk_at "z"
              refine r_lce hys7 (small_lt (by omega)) ⟨same_mut s57 hc, _, upd_same, by rw [List.length_append]; simp only [List.length_cons, List.length_nil]; omega, ?_⟩
              rw [split, List.length_append]
              simp only [List.length_cons, List.length_nil]
              rw [List.length_map] at h2
              constructor
              · intro z
                omega
              · intro z
                exact absurd (show (((cntL (n : Int) ps ms v).length : Nat) : Int) = 2 by have := z.2; omega) h2
            · refine ⟨s57, ys, hys7, by omega, ?_⟩
              rw [split, iy]
              rw [List.length_map] at h2
              exact ⟨fun z => ⟨z, by omega⟩, fun z => z.1⟩
        · rintro H5 ⟨s5, ys, hys, ly, iy⟩
          rw [List.length_map, List.take_length] at iy
          walk_at "z"
          refine r_ite (fun h0 => ?_) (fun h0 => ?_)
          · have ne : ms ≠ [] := fun e => by rw [e] at l4; simp at l4
            obtain ⟨rn, rs, _, rne⟩ := ringF_good (ps := ps) ne (ms.length - 1)
            have rl : (ringF ps ms (ms.length - 1)).length ≤ ms.length := nodup_le _ ms rn rs
            have r1 : 1 ≤ (ringF ps ms (ms.length - 1)).length := by
              cases e : ringF ps ms (ms.length - 1) with
              | nil => exact absurd e rne
              | cons x r => simp
            have gr5 := (hgr.tk (.of_same s4)).tk (.of_same s5)
            have htm5 := s5 _ _ htm
            walk_at "z"
            refine ⟨_, tm, (n : Int), ps, ms, rfl, gr5, htm5, by omega, lms, fun rp H6 s6 hrp => ?_⟩
            have htm6 := s6 _ _ htm5
            have s56 := s5.trans s6
            walk_at "z"
            refine r_ite (fun h3 => ?_) (fun h3 => ?_)
            · walk_at "z"
              refine ⟨_, .ref rp, n, ps, _, rfl, gr5.tk (.of_same s6), by omega, inn, .tup (.inl hrp) (DXs.ints _), fun ds e => by rw [← PyData.tuple.inj e, List.length_map]; omega, fun b H7 s7 hb0 => ?_⟩
              have hb := hb0.trans (lhol_ints rn fun z hz => bd z (rs z hz))
              have s57 := s56.trans s7
              have hrp7 := s7 _ _ hrp
              have hf7 := s57 _ _ hf4
              walk_at "z"
              cases b with
              | true =>
                refine iteT ?_
                walk_at "z"
                refine r_appT hf7 (small_lt (by omega)) ?_
                have rf : rp ≠ f := fun z => by
                  rw [z, hf7] at hrp7
                  cases hrp7
                have its7 := ITups.tk (.lst (ys := xs ++ [.ref rp]) hf7) (ITups.tk (.of_same s57) its4)
                refine ⟨⟨_, _, _, _, rfl⟩, same_mut (s4.trans s57) hf, (tk4.trans (.of_same s57)).trans (.lst hf7), (upd_ne slf).trans (s57 _ _ hsl4), _, qs ++ [ringF ps ms (ms.length - 1)], upd_same, its7.snoc ⟨rp, rfl, (upd_ne rf).trans hrp7⟩, by rw [List.length_append]; simp only [List.length_cons, List.length_nil]; omega, fun c hc => ?_, fun m _ c _ _ => by simp⟩
                rcases List.mem_append.mp hc with c3 | c3
                · exact ok4 c c3
                · rw [List.mem_singleton.mp c3]
                  exact ⟨hb.mp rfl, fun z hz => bd z (rs z hz)⟩
              | false =>
                refine iteF ?_
                walk_at "z"
                exact ⟨⟨_, _, _, _, rfl⟩, skip H7 s57 fun c hc mem => absurd (hb.mpr (ringF_hole inn hc nd mem).1) (by decide)⟩
            · walk_at "z"
              exact ⟨⟨_, _, _, _, rfl⟩, skip H6 s56 fun c hc mem => h3 (by rw [List.length_map, List.length_map, (ringF_hole inn hc nd mem).2])⟩
          · walk_at "z"
            exact ⟨⟨_, _, _, _, rfl⟩, skip H5 s5 fun c hc mem => h0 (by
              have := iy.mpr fun v hv => cntL_two inn hc mem hv
              omega)⟩
      · walk_at "z"
        exact ⟨⟨_, _, _, _, rfl⟩, skip H4 (Same.refl _) fun c hc mem => by
          have := ((List.perm_ext_iff_of_nodup nd hc.2.1).mpr mem).length_eq
          have := hc.1
          rw [List.length_map] at h1
          omega⟩
    · rintro σ' H4 ⟨⟨x2, x3, x4, x5, rfl⟩, s4, tk4, hsl4, xs, qs, hf4, its4, lq4, ok4, all4⟩
      rw [its.length, List.take_length] at all4
      have lsx := its.length
      walk_at "z"
      refine q f xs qs H4 s4 hf4 its4 (by omega) ⟨fun e c hc hr => ?_, fun no => ?_⟩
      · refine all4 ((rgI (n : Int)).filter fun z => decide (z ∈ c)) (subL_of30 List.filter_sublist) c hc (fun z => ?_) e
        rw [List.mem_filter, decide_eq_true_eq]
        exact ⟨fun h => h.2, fun h => ⟨mem_rgI.mpr (hr z h), h⟩⟩
      · cases qs with
        | nil => rfl
        | cons c qs => exact (no c (ok4 c List.mem_cons_self).1 (ok4 c List.mem_cons_self).2).elim
end

set_option Elab.async false
set_option linter.all false
set_option maxRecDepth 100000
set_option maxHeartbeats 4000000
open PySem PySem.Spec PyProof.Rows L2 LamX RZ

abbrev s_law : Stmt := topS 350
theorem sc_law : FnScope ["script", "pool", "graph", "paper"] ["script"] (defScope s_law) := ⟨rfl, rfl, rfl, by decide +kernel, rfl, by decide +kernel, by decide +kernel⟩

theorem Pool.tab {TB : List (Addr × Str)} {a s : Addr} {H H' : Hp} (h : Pool H a s) (g : Gr a H H') (r : Tabs TB H) : Tabs TB H' := by
  obtain ⟨xs, hx⟩ := h.lst
  exact tabsGr g hx r
theorem lim_intsX {ns : List Int} (h : ns.length ≤ 15) : limX 3 300 (.tuple (ns.map PyData.int)) := by
  refine limX_mk (by rw [List.length_map]; omega) fun z hz => ?_
  obtain ⟨i, _, rfl⟩ := List.mem_map.mp hz
  exact limX_int
theorem gd_len7 {n : Int} {ps : List (Int × Int)} (g : GoodG n ps) (n7 : n ≤ 7) : ps.length ≤ 21 := by
  have := nodup_le ps ((List.range 7).flatMap fun (j : Nat) => (List.range j).map fun (i : Nat) => ((i : Int), (j : Int))) (asc_nodup g.asc) fun p hp => by
    have b1 := g.inn p hp
    refine List.mem_flatMap.mpr ⟨p.2.toNat, List.mem_range.mpr (by omega), List.mem_map.mpr ⟨p.1.toNat, List.mem_range.mpr (by omega), ?_⟩⟩
    exact Prod.ext (by show ((p.1.toNat : Nat) : Int) = p.1; omega) (by show ((p.2.toNat : Nat) : Int) = p.2; omega)
  have e : ((List.range 7).flatMap fun (j : Nat) => (List.range j).map fun (i : Nat) => ((i : Int), (j : Int))).length = 21 := by decide
  omega
/-- x is True -/
def rIB : R2 := fun x y H Q => ∃ a b, x = .bl a ∧ y = .bl b ∧ Q (.bl (a == b)) H
theorem op_isB {X : Cx} : OpR X (compareOp .Is) rIB := by
  intro pins s σ H x y v u Q I rx ry h
  obtain ⟨a, b, rfl, rfl, q⟩ := h
  cases rx
  cases ry
  exact wpAny_is_plain rfl (fin_bl I q (by cases a <;> cases b <;> rfl))
theorem r_isB {a b : Bool} {H : Hp} {Q : VK} (q : Q (.bl (a == b)) H) : rIB (.bl a) (.bl b) H Q := ⟨a, b, rfl, rfl, q⟩
def tT (l : List Int) : PyData := .tuple (l.map PyData.int)
theorem lay_tT : ∀ qs : List (List Int), PyData.canLayAll0 (qs.map tT) = true
  | [] => by simp [PyData.canLayAll0]
  | q :: qs => by
    rw [List.map_cons]
    have h1 : (tT q).canLay0 = true := tupI_lay q
    have h2 := lay_tT qs
    unfold PyData.canLayAll0
    rw [h1, h2]
    rfl
theorem deep_tT : ∀ qs : List (List Int), PyData.depthAll (qs.map tT) ≤ 1
  | [] => by simp [PyData.depthAll]
  | q :: qs => by
    have h1 : (tT q).depth ≤ 1 := tupI_depth q
    have h2 := deep_tT qs
    rw [List.map_cons]
    simp only [PyData.depthAll]
    omega
theorem dps_tT {K : PySem.W.Frag} {H : Hp} : ∀ {xs : List V} {qs : List (List Int)}, ITups H xs qs → DpAll K H xs (qs.map tT)
  | _, _, .nil => .nil
  | _, _, .cons ⟨t, e, h⟩ r => by
    subst e
    exact .cons (.tup (.inl (.inl h)) (dps_int _)) (dps_tT r)
theorem r_eqT0 {K : PySem.W.Frag} {H : Hp} {Q : VK} {f e : Addr} {xs : List V} {qs : List (List Int)} (h : H f = some (.lst xs)) (hp : ITups H xs qs) (he : H e = some (.lst [])) (q : Q (.bl (decide (qs = []))) H) : rEqD K (.ref f) (.ref e) H Q := by
  refine ⟨.list (qs.map tT), .list [], .lst (.inl (.inl h)) (dps_tT hp), .lst (.inl (.inl he)) .nil, shaped_of ?_ ?_, by rfl, ?_⟩
  · unfold PyData.canLay0
    exact lay_tT qs
  · have := deep_tT qs
    unfold PyData.depth
    omega
  · cases qs with
    | nil => exact q
    | cons a b => exact q
/-- a paper that decide gives is right as the check and the law read it -/
theorem ppC_right {n : Int} {ps : List (Int × Int)} {y : Str} {os : List Int} (inn : ∀ p ∈ ps, 0 ≤ p.1 ∧ p.1 < p.2 ∧ p.2 < n) (h : ppC n ps y os) : rgtC n ps y (.tuple (os.map PyData.int)) := by
  obtain ⟨nd, bd, ⟨rfl, _, len, el⟩ | ⟨rfl, hole⟩⟩ := h
  · refine .inl ⟨rfl, os, rfl, bd, nd, len, fun i v hv x y x0 y0 hx hy ne => isE_nb.mpr ?_⟩
    have v0 := (bd v (List.mem_of_getElem? hv)).1
    exact el i v hv x y x0 y0 ⟨(mem_adjN v0).mp hx.1, .inl hx.2⟩ ⟨(mem_adjN v0).mp hy.1, .inl hy.2⟩ ne
  · exact .inr ⟨rfl, (hole_iff inn).mpr ((lhol_ints nd bd).mpr hole)⟩
section
variable {P : Program} {w : World} {K : PySem.W.Frag} {mg : Str → Option Value} {base : Heap}
def spLaw (K : PySem.W.Frag) (TT : List (Addr × Str)) : Sp := fun vs H Q _ => ∃ (l : Addr) (ns : List Int), vs = [.ref l] ∧ SqL K H l (ns.map V.int) ∧ Tabs TT H ∧ ∀ H', Q (.bl true) H'
theorem ok_law {TT : List (Addr × Str)} (T : Blt mg) (D : DefAt K mg "law" s_law ["script"])
    (D_law_pool : DefAt K mg "_law_pool" s_law_pool ["script"]) (G_law_pool : FnOk P w K mg base CX0 1 D_law_pool.f D_law_pool.fd ["script"] (spPool K))
    (D_law_graph : DefAt K mg "_law_graph" s_law_graph ["pool", "most"]) (G_law_graph : FnOk P w K mg base CX0 63 D_law_graph.f D_law_graph.fd ["pool", "most"] spGraph)
    (D_law_draw : DefAt K mg "_law_draw" s_law_draw ["pool", "many"]) (G_law_draw : FnOk P w K mg base CX0 2 D_law_draw.f D_law_draw.fd ["pool", "many"] spDraw)
    (D_law_clique_graph : DefAt K mg "_law_clique_graph" s_law_clique_graph ["pool", "n"]) (G_law_clique_graph : FnOk P w K mg base CX0 4 D_law_clique_graph.f D_law_clique_graph.fd ["pool", "n"] spClique)
    (D_decide : DefAt K mg "decide" s_decide ["graph", "question"]) (G_decide : FnOk P w K mg base CX0 17 D_decide.f D_decide.fd ["graph", "question"] (spDec TT))
    (D_law_holes : DefAt K mg "_law_holes" s_law_holes ["graph"]) (G_law_holes : FnOk P w K mg base CX0 6 D_law_holes.f D_law_holes.fd ["graph"] spHoles)
    (D_law_chordal_right : DefAt K mg "_law_chordal_right" s_law_chordal_right ["graph", "answer", "data"]) (G_law_chordal_right : FnOk P w K mg base CX0 6 D_law_chordal_right.f D_law_chordal_right.fd ["graph", "answer", "data"] (spChoR 0))
    (D_check : DefAt K mg "check" s_check ["graph", "question", "paper"]) (G_check : FnOk P w K mg base CX0 18 D_check.f D_check.fd ["graph", "question", "paper"] (spCheck 0 TT)) :
    FnOk P w K mg base CX0 64 D.f D.fd ["script"] (spLaw K TT) := by
  refine D.F.ok sc_law (fun vs H Q E h => ?_) (fun cdv A outer s H vs Q E hr h => ?_)
  · obtain ⟨l, ns, rfl, _⟩ := h
    rfl
  · obtain ⟨l, ns, rfl, hl, hT, q⟩ := h
    refine ⟨_, (pss_cons (ps_set (i := 1) sc_law.nd rfl (Or.inl rfl) (pe_call G_law_pool (hr.mono (by first | decide | omega)) (by rfl) D_law_pool.g D_law_pool.F.kp D_law_pool.b .nil pass0 (pa_cons (pv 0) pa_nil)))
      (pss_cons (ps_set (i := 2) sc_law.nd rfl (Or.inl rfl) (pe_call G_law_graph (hr.mono (by first | decide | omega)) (by rfl) D_law_graph.g D_law_graph.F.kp D_law_graph.b .nil pass0 (pa_cons (pv 1) (pa_cons pe_int pa_nil))))
      (pss_cons (ps_if (pt_cmpR op_eq (pe_call G_law_draw (hr.mono (by first | decide | omega)) (by rfl) D_law_draw.g D_law_draw.F.kp D_law_draw.b .nil pass0 (pa_cons (pv 1) (pa_cons pe_int pa_nil))) pe_int (nomark _))
        (pss_one (ps_set (i := 2) sc_law.nd rfl (Or.inl rfl) (pe_call G_law_clique_graph (hr.mono (by first | decide | omega)) (by rfl) D_law_clique_graph.g D_law_clique_graph.F.kp D_law_clique_graph.b .nil pass0 (pa_cons (pv 1) (pa_cons (pe_op op_add pe_int (pe_call G_law_draw (hr.mono (by first | decide | omega)) (by rfl) D_law_draw.g D_law_draw.F.kp D_law_draw.b .nil pass0 (pa_cons (pv 1) (pa_cons pe_int pa_nil)))) pa_nil)))))
        pss_nil)
      (pss_cons (ps_set (i := 3) sc_law.nd rfl (Or.inl rfl) (pe_call G_decide (hr.mono (by first | decide | omega)) (by rfl) D_decide.g D_decide.F.kp D_decide.b .nil pass0 (pa_cons (pv 2) (pa_cons (pe_tup (pa_cons pe_str pa_nil)) pa_nil))))
      (pss_cons (ps_if (PW.pt (pw_or (pt_not (pt_val (pe_callB (call_isiK (K := K) rfl) (by rfl) T.isinstance (by decide +kernel) (pa_cons (pv 3) (pa_cons (pe_bltn (v := .ty "tuple") (u := .type "tuple") (by rfl) T.tuple (by decide +kernel) rfl) pa_nil))))) (pw_or (pt_cmpR op_ne (pe_callB (call_lenK (K := K) rfl) (by rfl) T.len (by decide +kernel) (pa_cons (pv 3) pa_nil)) pe_int (nomark _)) (pw_or1 (pt_cmpR op_ne (pe_ix (ix_tupK (K := K) rfl) (pv 3) pe_int (fun _ _ => rfl)) (pe_ix (ix_listK (K := K) rfl) (pe_lst (pa_cons pe_str (pa_cons pe_str pa_nil))) (pe_callTy call_int1' (by rfl) T.int (by decide +kernel) (pa_cons (pe_cmpR (op_eqDK (K := K) rfl hr.units) (pe_call G_law_holes (hr.mono (by first | decide | omega)) (by rfl) D_law_holes.g D_law_holes.F.kp D_law_holes.b .nil pass0 (pa_cons (pv 2) pa_nil)) (pe_lst pa_nil) (nomark _)) pa_nil)) (fun _ _ => rfl)) (nomark _))))))
        (pss_one (ps_ret pe_bl))
        pss_nil)
      (pss_one (ps_ret (pe_and (pe_call G_law_chordal_right (hr.mono (by first | decide | omega)) (by rfl) D_law_chordal_right.g D_law_chordal_right.F.kp D_law_chordal_right.b .nil pass0 (pa_cons (pv 2) (pa_cons (pe_ix (ix_tupK (K := K) rfl) (pv 3) pe_int (fun _ _ => rfl)) (pa_cons (pe_ix (ix_tupK (K := K) rfl) (pv 3) pe_int (fun _ _ => rfl)) pa_nil)))) (pe_one (pe_cmpR op_isB (pe_call G_check (hr.mono (by first | decide | omega)) (by rfl) D_check.g D_check.F.kp D_check.b .nil pass0 (pa_cons (pv 2) (pa_cons (pe_tup (pa_cons pe_str pa_nil)) (pa_cons (pv 3) pa_nil)))) pe_bl (nomark _))))))))))), ?_⟩
    refine r_at (σ := [some _, none, none, none]) rfl ?_
    walk_at "z"
    refine ⟨l, ns, rfl, hl, fun a s0 H1 ha s1 hP1 => ?_⟩
    have T1 := tabs_same hT s1
    walk_at "z"
    refine ⟨a, s0, 7, rfl, hP1, by omega, by omega, fun n1 n10 n11 v1 qs1 H2 hP2 g2 hg2 gd2 => ?_⟩
    have T2 := hP1.tab g2 T1
    let W : L2.St → Hp → Prop := fun σ' H' => ∃ (gv : V) (n : Int) (qs : List (Int × Int)), σ' = [some (.ref l), some (.ref a), some gv, none] ∧ Pool H' a s0 ∧ GrAt H' gv n qs ∧ GoodG n qs ∧ n ≤ 7 ∧ Tabs TT H'
    walk_at "z1"
    refine r_seqW W ?t1 fun B hB => ?h1
    case h1 =>
      walk_at "z"
      refine ⟨a, s0, 3, rfl, hP2, by omega, by omega, fun r5 H5 _ _ hP5 g5 => ?_⟩
      have T5 := hP2.tab g5 T2
      walk_at "z"
      refine r_ite (fun h => ?_) (fun h => ?_)
      · walk_at "z"
        refine ⟨a, s0, 7, rfl, hP5, by omega, by omega, fun r6 H6 r60 r61 hP6 g6 => ?_⟩
        have T6 := hP5.tab g6 T5
        walk_at "z"
        refine ⟨a, s0, 1 + r6, rfl, hP6, by omega, by omega, fun v qs H7 hP7 g7 hv hg => ?_⟩
        walk_at "z"
        exact hB _ _ ⟨v, 1 + r6, qs, rfl, hP7, hv, hg, by omega, hP6.tab g7 T6⟩
      · walk_at "z"
        exact hB _ _ ⟨v1, n1, qs1, rfl, hP5, hg2.tk (g5.tk hP2), gd2, by omega, T5⟩
    case t1 =>
    rintro σ' H3 ⟨gv, n3, p1, rfl, hP3, hg3, gd, n37, T3⟩
    have one : (1 : Int) ≤ n3 := gd.one
    obtain ⟨n, rfl⟩ : ∃ n : Nat, n3 = (n : Int) := ⟨n3.toNat, by omega⟩
    have lps := gd_len7 gd n37
    have inn : ∀ p ∈ p1, 0 ≤ p.1 ∧ p.1 < p.2 ∧ p.2 < (n : Int) := gd.inn
    walk_at "z"
    refine r_tupN sz1 fun qa hqa => ?_
    have s4 := same_new (o := .tup [.str "chordal"]) hqa
    have hq4 : (upd H3 qa (.tup [.str "chordal"])) qa = some (.tup [.str "chordal"]) := upd_same
    have T4 := tabs_same T3 s4
    generalize upd H3 qa (.tup [.str "chordal"]) = H4 at s4 hq4 T4 ⊢
    have hg4 := hg3.tk (.of_same s4)
    walk_at "z"
    refine ⟨qa, gv, rfl, hq4, gv, n, p1, rfl, hg4, by omega, by omega, inn, T4, fun t d y os H5 e5 T5 ht5 hd5 pp => ?_⟩
    have hg5 := hg4.tk (ext_tk e5)
    have hya : y = "yes" ∨ y = "no" := pp.2.2.elim (fun h => .inl h.1) (fun h => .inr h.1)
    have los : os.length ≤ 7 := by
      have := nodup_le os (rgI (n : Int)) pp.1 fun z hz => mem_rgI.mpr (pp.2.1 z hz)
      rw [rgI_len] at this
      omega
    walk_at "z"
    refine r_isiTup ht5 ?_
    walk_at "z"
    refine iteF ?_
    walk_at "z"
    refine r_iteN (fun h => (h rfl).elim) fun _ => ?_
    walk_at "z"
    refine r_lstN sz2 fun dl hdl => ?_
    have s6 := same_new (o := .lst [.str "no", .str "yes"]) hdl
    have hdl6 : (upd H5 dl (.lst [.str "no", .str "yes"])) dl = some (.lst [.str "no", .str "yes"]) := upd_same
    have ht6 := s6 _ _ ht5
    have hd6 := s6 _ _ hd5
    have T6 := tabs_same T5 s6
    have hg6 := hg5.tk (.of_same s6)
    generalize upd H5 dl (.lst [.str "no", .str "yes"]) = H6 at s6 hdl6 ht6 hd6 T6 hg6 ⊢
    walk_at "z"
    refine ⟨gv, n, p1, rfl, hg6, by omega, inn, fun f9 x9 q9 H9 s9 hf9 i9 l9 iff9 => ?_⟩
    walk_at "z"
    refine r_lstN (Nat.zero_le _) fun e0 he0 => ?_
    have s10 := s9.trans (same_new (o := .lst []) he0)
    have hf10 := same_new (o := .lst []) he0 _ _ hf9
    have its10 := ITups.tk (.new (o := .lst []) he0) i9
    have he10 : (upd H9 e0 (.lst [])) e0 = some (.lst []) := upd_same
    generalize upd H9 e0 (.lst []) = H10 at s10 hf10 its10 he10 ⊢
    have hdl10 := s10 _ _ hdl6
    have ht10 := s10 _ _ ht6
    have hd10 := s10 _ _ hd6
    have T10 := tabs_same T6 s10
    have hg10 := hg6.tk (.of_same s10)
    have iy : ∃ k : Int, (if decide (q9 = []) = true then (1 : Int) else 0) = k ∧ atI [V.str "no", V.str "yes"] k = some (.str y) := by
      rcases pp.2.2 with ⟨rfl, no, _⟩ | ⟨rfl, hole⟩
      · rw [decide_eq_true (iff9.mpr no)]
        exact ⟨1, rfl, rfl⟩
      · rw [decide_eq_false (fun e => iff9.mp e os hole pp.2.1)]
        exact ⟨0, rfl, rfl⟩
    obtain ⟨k, ek, hk⟩ := iy
    refine r_eqT0 hf10 its10 he10 ?_
    walk_at "z"
    rw [ek]
    walk_at "z"
    refine ⟨rfl, ?_⟩
    walk_at "z"
    try refine r_iteN (fun h => (h rfl).elim) fun _ => ?_
    try walk_at "z"
    have rg := ppC_right inn pp
    have hdx : DX 0 H10 (.ref d) (.tuple (os.map PyData.int)) := .tup (.inl hd10) (DXs.ints _)
    refine ⟨gv, .ref d, n, p1, y, .tuple (os.map PyData.int), rfl, hg10, by omega, inn, hya, hdx, fun ds e => by rw [← PyData.tuple.inj e, List.length_map]; omega, fun r H11 s11 hr11 => ?_⟩
    cases r with
    | false => exact (nomatch hr11.mpr rg)
    | true =>
    have ht11 := s11 _ _ ht10
    have hd11 := s11 _ _ hd10
    have T11 := tabs_same T10 s11
    have hg11 := hg10.tk (.of_same s11)
    walk_at "z"
    try refine iteT ?_
    try walk_at "z"
    refine r_tupN sz1 fun qb hqb => ?_
    have s12 := same_new (o := .tup [.str "chordal"]) hqb
    have hq12 : (upd H11 qb (.tup [.str "chordal"])) qb = some (.tup [.str "chordal"]) := upd_same
    have ht12 := s12 _ _ ht11
    have hd12 := s12 _ _ hd11
    have T12 := tabs_same T11 s12
    have hg12 := hg11.tk (.of_same s12)
    generalize upd H11 qb (.tup [.str "chordal"]) = H12 at s12 hq12 ht12 hd12 T12 hg12 ⊢
    walk_at "z"
    refine ⟨gv, .ref d, n, p1, qb, t, y, .tuple (os.map PyData.int), rfl, hg12, inn, by omega, by omega, hq12, ht12, hya, .tup (.inl hd12) (DXs.ints _), ⟨3, lim_intsX (by omega)⟩, T12, fun r H13 e13 T13 hr13 => ?_⟩
    cases r with
    | false => exact (nomatch hr13.mpr rg)
    | true =>
    refine r_isB ?_
    exact q _
end

set_option Elab.async false
set_option linter.all false
set_option maxRecDepth 100000
set_option maxHeartbeats 4000000
open PySem PySem.Spec PyProof.Rows L2 LamX
theorem code_of {K : PySem.W.Frag} {x : Str} {st : Stmt} {f : Addr} {fd : FuncData} (F : Fun K x x st f fd) {p : Str × Option Str} (hp : He.fAd K p = f) : fd.code = .ref (He.codeOf K p) := by
  obtain ⟨oc, od, kV, doc, pm, an, cdr, ct, osl, efd, lk, hcd⟩ := F.ex
  obtain ⟨c, rfl⟩ := He.codeIn_ref hcd
  have e : fd.code = .ref c := by rw [efd] <;> rfl
  rw [He.codeOf_eq (by rw [hp]; exact lk) e]
  exact e
section
variable {w : World} {K : PySem.W.Frag} {h : Heap} {mg : Str → Option Value}
noncomputable def mkD_is_integer (X : K.In h) (G : h.Ns mainGlobals mg) (c : He.SaysX faX fnX [] tfX exX w h K) : DefAt K mg "is_integer" s_is_integer ["value"] :=
  have F : Fun K "is_integer" "is_integer" s_is_integer (He.fAd K ("is_integer", none)) (Classical.choose (c.t.d.def_ 0 (d := dfd "is_integer" s_is_integer) (by kernel_rfl))) := He5.fun_of (Classical.choose_spec (c.t.d.def_ 0 (d := dfd "is_integer" s_is_integer) (by kernel_rfl)))
  ⟨He.fAd K ("is_integer", none), _, F, F.binds (ps := ["value"]) fun _ _ _ _ _ _ us hl => match us, hl with | [_], _ => by kernel_rfl, He.glo_ok X G (c.t.d.fact 0 (f := .glo "is_integer") (by kernel_rfl))⟩
noncomputable def mkD_is_tuple (X : K.In h) (G : h.Ns mainGlobals mg) (c : He.SaysX faX fnX [] tfX exX w h K) : DefAt K mg "is_tuple" s_is_tuple ["value", "many"] :=
  have F : Fun K "is_tuple" "is_tuple" s_is_tuple (He.fAd K ("is_tuple", none)) (Classical.choose (c.t.d.def_ 1 (d := dfd "is_tuple" s_is_tuple) (by kernel_rfl))) := He5.fun_of (Classical.choose_spec (c.t.d.def_ 1 (d := dfd "is_tuple" s_is_tuple) (by kernel_rfl)))
  ⟨He.fAd K ("is_tuple", none), _, F, F.binds (ps := ["value", "many"]) fun _ _ _ _ _ _ us hl => match us, hl with | [_, _], _ => by kernel_rfl, He.glo_ok X G (c.t.d.fact 1 (f := .glo "is_tuple") (by kernel_rfl))⟩
noncomputable def mkD_is_vertex (X : K.In h) (G : h.Ns mainGlobals mg) (c : He.SaysX faX fnX [] tfX exX w h K) : DefAt K mg "is_vertex" s_is_vertex ["n", "value"] :=
  have F : Fun K "is_vertex" "is_vertex" s_is_vertex (He.fAd K ("is_vertex", none)) (Classical.choose (c.t.d.def_ 2 (d := dfd "is_vertex" s_is_vertex) (by kernel_rfl))) := He5.fun_of (Classical.choose_spec (c.t.d.def_ 2 (d := dfd "is_vertex" s_is_vertex) (by kernel_rfl)))
  ⟨He.fAd K ("is_vertex", none), _, F, F.binds (ps := ["n", "value"]) fun _ _ _ _ _ _ us hl => match us, hl with | [_, _], _ => by kernel_rfl, He.glo_ok X G (c.t.d.fact 2 (f := .glo "is_vertex") (by kernel_rfl))⟩
noncomputable def mkD_are_vertices (X : K.In h) (G : h.Ns mainGlobals mg) (c : He.SaysX faX fnX [] tfX exX w h K) : DefAt K mg "are_vertices" s_are_vertices ["n", "value"] :=
  have F : Fun K "are_vertices" "are_vertices" s_are_vertices (He.fAd K ("are_vertices", none)) (Classical.choose (c.t.d.def_ 3 (d := dfd "are_vertices" s_are_vertices) (by kernel_rfl))) := He5.fun_of (Classical.choose_spec (c.t.d.def_ 3 (d := dfd "are_vertices" s_are_vertices) (by kernel_rfl)))
  ⟨He.fAd K ("are_vertices", none), _, F, F.binds (ps := ["n", "value"]) fun _ _ _ _ _ _ us hl => match us, hl with | [_, _], _ => by kernel_rfl, He.glo_ok X G (c.t.d.fact 3 (f := .glo "are_vertices") (by kernel_rfl))⟩
noncomputable def mkD_is_row (X : K.In h) (G : h.Ns mainGlobals mg) (c : He.SaysX faX fnX [] tfX exX w h K) : DefAt K mg "is_row" s_is_row ["n", "value"] :=
  have F : Fun K "is_row" "is_row" s_is_row (He.fAd K ("is_row", none)) (Classical.choose (c.t.d.def_ 4 (d := dfd "is_row" s_is_row) (by kernel_rfl))) := He5.fun_of (Classical.choose_spec (c.t.d.def_ 4 (d := dfd "is_row" s_is_row) (by kernel_rfl)))
  ⟨He.fAd K ("is_row", none), _, F, F.binds (ps := ["n", "value"]) fun _ _ _ _ _ _ us hl => match us, hl with | [_, _], _ => by kernel_rfl, He.glo_ok X G (c.t.d.fact 4 (f := .glo "is_row") (by kernel_rfl))⟩
noncomputable def mkD_is_order (X : K.In h) (G : h.Ns mainGlobals mg) (c : He.SaysX faX fnX [] tfX exX w h K) : DefAt K mg "is_order" s_is_order ["n", "value"] :=
  have F : Fun K "is_order" "is_order" s_is_order (He.fAd K ("is_order", none)) (Classical.choose (c.t.d.def_ 5 (d := dfd "is_order" s_is_order) (by kernel_rfl))) := He5.fun_of (Classical.choose_spec (c.t.d.def_ 5 (d := dfd "is_order" s_is_order) (by kernel_rfl)))
  ⟨He.fAd K ("is_order", none), _, F, F.binds (ps := ["n", "value"]) fun _ _ _ _ _ _ us hl => match us, hl with | [_, _], _ => by kernel_rfl, He.glo_ok X G (c.t.d.fact 5 (f := .glo "is_order") (by kernel_rfl))⟩
noncomputable def mkD_is_set (X : K.In h) (G : h.Ns mainGlobals mg) (c : He.SaysX faX fnX [] tfX exX w h K) : DefAt K mg "is_set" s_is_set ["n", "value"] :=
  have F : Fun K "is_set" "is_set" s_is_set (He.fAd K ("is_set", none)) (Classical.choose (c.t.d.def_ 6 (d := dfd "is_set" s_is_set) (by kernel_rfl))) := He5.fun_of (Classical.choose_spec (c.t.d.def_ 6 (d := dfd "is_set" s_is_set) (by kernel_rfl)))
  ⟨He.fAd K ("is_set", none), _, F, F.binds (ps := ["n", "value"]) fun _ _ _ _ _ _ us hl => match us, hl with | [_, _], _ => by kernel_rfl, He.glo_ok X G (c.t.d.fact 6 (f := .glo "is_set") (by kernel_rfl))⟩
noncomputable def mkD_is_ascending (X : K.In h) (G : h.Ns mainGlobals mg) (c : He.SaysX faX fnX [] tfX exX w h K) : DefAt K mg "is_ascending" s_is_ascending ["items"] :=
  have F : Fun K "is_ascending" "is_ascending" s_is_ascending (He.fAd K ("is_ascending", none)) (Classical.choose (c.t.d.def_ 7 (d := dfd "is_ascending" s_is_ascending) (by kernel_rfl))) := He5.fun_of (Classical.choose_spec (c.t.d.def_ 7 (d := dfd "is_ascending" s_is_ascending) (by kernel_rfl)))
  ⟨He.fAd K ("is_ascending", none), _, F, F.binds (ps := ["items"]) fun _ _ _ _ _ _ us hl => match us, hl with | [_], _ => by kernel_rfl, He.glo_ok X G (c.t.d.fact 7 (f := .glo "is_ascending") (by kernel_rfl))⟩
noncomputable def mkD_is_edge (X : K.In h) (G : h.Ns mainGlobals mg) (c : He.SaysX faX fnX [] tfX exX w h K) : DefAt K mg "is_edge" s_is_edge ["n", "value"] :=
  have F : Fun K "is_edge" "is_edge" s_is_edge (He.fAd K ("is_edge", none)) (Classical.choose (c.t.d.def_ 8 (d := dfd "is_edge" s_is_edge) (by kernel_rfl))) := He5.fun_of (Classical.choose_spec (c.t.d.def_ 8 (d := dfd "is_edge" s_is_edge) (by kernel_rfl)))
  ⟨He.fAd K ("is_edge", none), _, F, F.binds (ps := ["n", "value"]) fun _ _ _ _ _ _ us hl => match us, hl with | [_, _], _ => by kernel_rfl, He.glo_ok X G (c.t.d.fact 8 (f := .glo "is_edge") (by kernel_rfl))⟩
noncomputable def mkD_are_edges (X : K.In h) (G : h.Ns mainGlobals mg) (c : He.SaysX faX fnX [] tfX exX w h K) : DefAt K mg "are_edges" s_are_edges ["n", "value"] :=
  have F : Fun K "are_edges" "are_edges" s_are_edges (He.fAd K ("are_edges", none)) (Classical.choose (c.t.d.def_ 9 (d := dfd "are_edges" s_are_edges) (by kernel_rfl))) := He5.fun_of (Classical.choose_spec (c.t.d.def_ 9 (d := dfd "are_edges" s_are_edges) (by kernel_rfl)))
  ⟨He.fAd K ("are_edges", none), _, F, F.binds (ps := ["n", "value"]) fun _ _ _ _ _ _ us hl => match us, hl with | [_, _], _ => by kernel_rfl, He.glo_ok X G (c.t.d.fact 9 (f := .glo "are_edges") (by kernel_rfl))⟩
noncomputable def mkD_neighbour_lists (X : K.In h) (G : h.Ns mainGlobals mg) (c : He.SaysX faX fnX [] tfX exX w h K) : DefAt K mg "neighbour_lists" s_neighbour_lists ["graph"] :=
  have F : Fun K "neighbour_lists" "neighbour_lists" s_neighbour_lists (He.fAd K ("neighbour_lists", none)) (Classical.choose (c.t.d.def_ 10 (d := dfd "neighbour_lists" s_neighbour_lists) (by kernel_rfl))) := He5.fun_of (Classical.choose_spec (c.t.d.def_ 10 (d := dfd "neighbour_lists" s_neighbour_lists) (by kernel_rfl)))
  ⟨He.fAd K ("neighbour_lists", none), _, F, F.binds (ps := ["graph"]) fun _ _ _ _ _ _ us hl => match us, hl with | [_], _ => by kernel_rfl, He.glo_ok X G (c.t.d.fact 10 (f := .glo "neighbour_lists") (by kernel_rfl))⟩
noncomputable def mkD_neighbour_masks (X : K.In h) (G : h.Ns mainGlobals mg) (c : He.SaysX faX fnX [] tfX exX w h K) : DefAt K mg "neighbour_masks" s_neighbour_masks ["graph"] :=
  have F : Fun K "neighbour_masks" "neighbour_masks" s_neighbour_masks (He.fAd K ("neighbour_masks", none)) (Classical.choose (c.t.d.def_ 11 (d := dfd "neighbour_masks" s_neighbour_masks) (by kernel_rfl))) := He5.fun_of (Classical.choose_spec (c.t.d.def_ 11 (d := dfd "neighbour_masks" s_neighbour_masks) (by kernel_rfl)))
  ⟨He.fAd K ("neighbour_masks", none), _, F, F.binds (ps := ["graph"]) fun _ _ _ _ _ _ us hl => match us, hl with | [_], _ => by kernel_rfl, He.glo_ok X G (c.t.d.fact 11 (f := .glo "neighbour_masks") (by kernel_rfl))⟩
noncomputable def mkD_masks_behind (X : K.In h) (G : h.Ns mainGlobals mg) (c : He.SaysX faX fnX [] tfX exX w h K) : DefAt K mg "masks_behind" s_masks_behind ["graph", "order"] :=
  have F : Fun K "masks_behind" "masks_behind" s_masks_behind (He.fAd K ("masks_behind", none)) (Classical.choose (c.t.d.def_ 12 (d := dfd "masks_behind" s_masks_behind) (by kernel_rfl))) := He5.fun_of (Classical.choose_spec (c.t.d.def_ 12 (d := dfd "masks_behind" s_masks_behind) (by kernel_rfl)))
  ⟨He.fAd K ("masks_behind", none), _, F, F.binds (ps := ["graph", "order"]) fun _ _ _ _ _ _ us hl => match us, hl with | [_, _], _ => by kernel_rfl, He.glo_ok X G (c.t.d.fact 12 (f := .glo "masks_behind") (by kernel_rfl))⟩
noncomputable def mkD_is_clique (X : K.In h) (G : h.Ns mainGlobals mg) (c : He.SaysX faX fnX [] tfX exX w h K) : DefAt K mg "is_clique" s_is_clique ["around", "mask"] :=
  have F : Fun K "is_clique" "is_clique" s_is_clique (He.fAd K ("is_clique", none)) (Classical.choose (c.t.d.def_ 13 (d := dfd "is_clique" s_is_clique) (by kernel_rfl))) := He5.fun_of (Classical.choose_spec (c.t.d.def_ 13 (d := dfd "is_clique" s_is_clique) (by kernel_rfl)))
  ⟨He.fAd K ("is_clique", none), _, F, F.binds (ps := ["around", "mask"]) fun _ _ _ _ _ _ us hl => match us, hl with | [_, _], _ => by kernel_rfl, He.glo_ok X G (c.t.d.fact 13 (f := .glo "is_clique") (by kernel_rfl))⟩
noncomputable def mkD_mask_of (X : K.In h) (G : h.Ns mainGlobals mg) (c : He.SaysX faX fnX [] tfX exX w h K) : DefAt K mg "mask_of" s_mask_of ["members"] :=
  have F : Fun K "mask_of" "mask_of" s_mask_of (He.fAd K ("mask_of", none)) (Classical.choose (c.t.d.def_ 14 (d := dfd "mask_of" s_mask_of) (by kernel_rfl))) := He5.fun_of (Classical.choose_spec (c.t.d.def_ 14 (d := dfd "mask_of" s_mask_of) (by kernel_rfl)))
  ⟨He.fAd K ("mask_of", none), _, F, F.binds (ps := ["members"]) fun _ _ _ _ _ _ us hl => match us, hl with | [_], _ => by kernel_rfl, He.glo_ok X G (c.t.d.fact 14 (f := .glo "mask_of") (by kernel_rfl))⟩
noncomputable def mkD_members_of (X : K.In h) (G : h.Ns mainGlobals mg) (c : He.SaysX faX fnX [] tfX exX w h K) : DefAt K mg "members_of" s_members_of ["mask"] :=
  have F : Fun K "members_of" "members_of" s_members_of (He.fAd K ("members_of", none)) (Classical.choose (c.t.d.def_ 15 (d := dfd "members_of" s_members_of) (by kernel_rfl))) := He5.fun_of (Classical.choose_spec (c.t.d.def_ 15 (d := dfd "members_of" s_members_of) (by kernel_rfl)))
  ⟨He.fAd K ("members_of", none), _, F, F.binds (ps := ["mask"]) fun _ _ _ _ _ _ us hl => match us, hl with | [_], _ => by kernel_rfl, He.glo_ok X G (c.t.d.fact 15 (f := .glo "members_of") (by kernel_rfl))⟩
noncomputable def mkD_size_of (X : K.In h) (G : h.Ns mainGlobals mg) (c : He.SaysX faX fnX [] tfX exX w h K) : DefAt K mg "size_of" s_size_of ["mask"] :=
  have F : Fun K "size_of" "size_of" s_size_of (He.fAd K ("size_of", none)) (Classical.choose (c.t.d.def_ 16 (d := dfd "size_of" s_size_of) (by kernel_rfl))) := He5.fun_of (Classical.choose_spec (c.t.d.def_ 16 (d := dfd "size_of" s_size_of) (by kernel_rfl)))
  ⟨He.fAd K ("size_of", none), _, F, F.binds (ps := ["mask"]) fun _ _ _ _ _ _ us hl => match us, hl with | [_], _ => by kernel_rfl, He.glo_ok X G (c.t.d.fact 16 (f := .glo "size_of") (by kernel_rfl))⟩
noncomputable def mkD_has (X : K.In h) (G : h.Ns mainGlobals mg) (c : He.SaysX faX fnX [] tfX exX w h K) : DefAt K mg "has" s_has ["mask", "v"] :=
  have F : Fun K "has" "has" s_has (He.fAd K ("has", none)) (Classical.choose (c.t.d.def_ 17 (d := dfd "has" s_has) (by kernel_rfl))) := He5.fun_of (Classical.choose_spec (c.t.d.def_ 17 (d := dfd "has" s_has) (by kernel_rfl)))
  ⟨He.fAd K ("has", none), _, F, F.binds (ps := ["mask", "v"]) fun _ _ _ _ _ _ us hl => match us, hl with | [_, _], _ => by kernel_rfl, He.glo_ok X G (c.t.d.fact 17 (f := .glo "has") (by kernel_rfl))⟩
noncomputable def mkD_full_mask (X : K.In h) (G : h.Ns mainGlobals mg) (c : He.SaysX faX fnX [] tfX exX w h K) : DefAt K mg "full_mask" s_full_mask ["n"] :=
  have F : Fun K "full_mask" "full_mask" s_full_mask (He.fAd K ("full_mask", none)) (Classical.choose (c.t.d.def_ 18 (d := dfd "full_mask" s_full_mask) (by kernel_rfl))) := He5.fun_of (Classical.choose_spec (c.t.d.def_ 18 (d := dfd "full_mask" s_full_mask) (by kernel_rfl)))
  ⟨He.fAd K ("full_mask", none), _, F, F.binds (ps := ["n"]) fun _ _ _ _ _ _ us hl => match us, hl with | [_], _ => by kernel_rfl, He.glo_ok X G (c.t.d.fact 18 (f := .glo "full_mask") (by kernel_rfl))⟩
noncomputable def mkD_is_within (X : K.In h) (G : h.Ns mainGlobals mg) (c : He.SaysX faX fnX [] tfX exX w h K) : DefAt K mg "is_within" s_is_within ["part", "whole"] :=
  have F : Fun K "is_within" "is_within" s_is_within (He.fAd K ("is_within", none)) (Classical.choose (c.t.d.def_ 19 (d := dfd "is_within" s_is_within) (by kernel_rfl))) := He5.fun_of (Classical.choose_spec (c.t.d.def_ 19 (d := dfd "is_within" s_is_within) (by kernel_rfl)))
  ⟨He.fAd K ("is_within", none), _, F, F.binds (ps := ["part", "whole"]) fun _ _ _ _ _ _ us hl => match us, hl with | [_, _], _ => by kernel_rfl, He.glo_ok X G (c.t.d.fact 19 (f := .glo "is_within") (by kernel_rfl))⟩
noncomputable def mkD_is_size (X : K.In h) (G : h.Ns mainGlobals mg) (c : He.SaysX faX fnX [] tfX exX w h K) : DefAt K mg "is_size" s_is_size ["value"] :=
  have F : Fun K "is_size" "is_size" s_is_size (He.fAd K ("is_size", none)) (Classical.choose (c.t.d.def_ 20 (d := dfd "is_size" s_is_size) (by kernel_rfl))) := He5.fun_of (Classical.choose_spec (c.t.d.def_ 20 (d := dfd "is_size" s_is_size) (by kernel_rfl)))
  ⟨He.fAd K ("is_size", none), _, F, F.binds (ps := ["value"]) fun _ _ _ _ _ _ us hl => match us, hl with | [_], _ => by kernel_rfl, He.glo_ok X G (c.t.d.fact 20 (f := .glo "is_size") (by kernel_rfl))⟩
noncomputable def mkD_is_graph (X : K.In h) (G : h.Ns mainGlobals mg) (c : He.SaysX faX fnX [] tfX exX w h K) : DefAt K mg "is_graph" s_is_graph ["value"] :=
  have F : Fun K "is_graph" "is_graph" s_is_graph (He.fAd K ("is_graph", none)) (Classical.choose (c.t.d.def_ 21 (d := dfd "is_graph" s_is_graph) (by kernel_rfl))) := He5.fun_of (Classical.choose_spec (c.t.d.def_ 21 (d := dfd "is_graph" s_is_graph) (by kernel_rfl)))
  ⟨He.fAd K ("is_graph", none), _, F, F.binds (ps := ["value"]) fun _ _ _ _ _ _ us hl => match us, hl with | [_], _ => by kernel_rfl, He.glo_ok X G (c.t.d.fact 21 (f := .glo "is_graph") (by kernel_rfl))⟩
noncomputable def mkD_shortest_path (X : K.In h) (G : h.Ns mainGlobals mg) (c : He.SaysX faX fnX [] tfX exX w h K) : DefAt K mg "shortest_path" s_shortest_path ["graph", "u", "v", "avoided"] :=
  have F : Fun K "shortest_path" "shortest_path" s_shortest_path (He.fAd K ("shortest_path", none)) (Classical.choose (c.t.d.def_ 22 (d := dfd "shortest_path" s_shortest_path) (by kernel_rfl))) := He5.fun_of (Classical.choose_spec (c.t.d.def_ 22 (d := dfd "shortest_path" s_shortest_path) (by kernel_rfl)))
  ⟨He.fAd K ("shortest_path", none), _, F, F.binds (ps := ["graph", "u", "v", "avoided"]) fun _ _ _ _ _ _ us hl => match us, hl with | [_, _, _, _], _ => by kernel_rfl, He.glo_ok X G (c.t.d.fact 22 (f := .glo "shortest_path") (by kernel_rfl))⟩
noncomputable def mkD_reached (X : K.In h) (G : h.Ns mainGlobals mg) (c : He.SaysX faX fnX [] tfX exX w h K) : DefAt K mg "reached" s_reached ["around", "start"] :=
  have F : Fun K "reached" "reached" s_reached (He.fAd K ("reached", none)) (Classical.choose (c.t.d.def_ 23 (d := dfd "reached" s_reached) (by kernel_rfl))) := He5.fun_of (Classical.choose_spec (c.t.d.def_ 23 (d := dfd "reached" s_reached) (by kernel_rfl)))
  ⟨He.fAd K ("reached", none), _, F, F.binds (ps := ["around", "start"]) fun _ _ _ _ _ _ us hl => match us, hl with | [_, _], _ => by kernel_rfl, He.glo_ok X G (c.t.d.fact 23 (f := .glo "reached") (by kernel_rfl))⟩
noncomputable def mkD_reached_by (X : K.In h) (G : h.Ns mainGlobals mg) (c : He.SaysX faX fnX [] tfX exX w h K) : DefAt K mg "reached_by" s_reached_by ["steps", "start"] :=
  have F : Fun K "reached_by" "reached_by" s_reached_by (He.fAd K ("reached_by", none)) (Classical.choose (c.t.d.def_ 24 (d := dfd "reached_by" s_reached_by) (by kernel_rfl))) := He5.fun_of (Classical.choose_spec (c.t.d.def_ 24 (d := dfd "reached_by" s_reached_by) (by kernel_rfl)))
  ⟨He.fAd K ("reached_by", none), _, F, F.binds (ps := ["steps", "start"]) fun _ _ _ _ _ _ us hl => match us, hl with | [_, _], _ => by kernel_rfl, He.glo_ok X G (c.t.d.fact 24 (f := .glo "reached_by") (by kernel_rfl))⟩
noncomputable def mkD_way_to (X : K.In h) (G : h.Ns mainGlobals mg) (c : He.SaysX faX fnX [] tfX exX w h K) : DefAt K mg "way_to" s_way_to ["v", "before"] :=
  have F : Fun K "way_to" "way_to" s_way_to (He.fAd K ("way_to", none)) (Classical.choose (c.t.d.def_ 25 (d := dfd "way_to" s_way_to) (by kernel_rfl))) := He5.fun_of (Classical.choose_spec (c.t.d.def_ 25 (d := dfd "way_to" s_way_to) (by kernel_rfl)))
  ⟨He.fAd K ("way_to", none), _, F, F.binds (ps := ["v", "before"]) fun _ _ _ _ _ _ us hl => match us, hl with | [_, _], _ => by kernel_rfl, He.glo_ok X G (c.t.d.fact 25 (f := .glo "way_to") (by kernel_rfl))⟩
noncomputable def mkD_is_cycle (X : K.In h) (G : h.Ns mainGlobals mg) (c : He.SaysX faX fnX [] tfX exX w h K) : DefAt K mg "is_cycle" s_is_cycle ["graph", "value"] :=
  have F : Fun K "is_cycle" "is_cycle" s_is_cycle (He.fAd K ("is_cycle", none)) (Classical.choose (c.t.d.def_ 26 (d := dfd "is_cycle" s_is_cycle) (by kernel_rfl))) := He5.fun_of (Classical.choose_spec (c.t.d.def_ 26 (d := dfd "is_cycle" s_is_cycle) (by kernel_rfl)))
  ⟨He.fAd K ("is_cycle", none), _, F, F.binds (ps := ["graph", "value"]) fun _ _ _ _ _ _ us hl => match us, hl with | [_, _], _ => by kernel_rfl, He.glo_ok X G (c.t.d.fact 26 (f := .glo "is_cycle") (by kernel_rfl))⟩
noncomputable def mkD_are_steps (X : K.In h) (G : h.Ns mainGlobals mg) (c : He.SaysX faX fnX [] tfX exX w h K) : DefAt K mg "_are_steps" s_are_steps ["graph", "starts", "ends"] :=
  have F : Fun K "_are_steps" "_are_steps" s_are_steps (He.fAd K ("_are_steps", none)) (Classical.choose (c.t.d.def_ 27 (d := dfd "_are_steps" s_are_steps) (by kernel_rfl))) := He5.fun_of (Classical.choose_spec (c.t.d.def_ 27 (d := dfd "_are_steps" s_are_steps) (by kernel_rfl)))
  ⟨He.fAd K ("_are_steps", none), _, F, F.binds (ps := ["graph", "starts", "ends"]) fun _ _ _ _ _ _ us hl => match us, hl with | [_, _, _], _ => by kernel_rfl, He.glo_ok X G (c.t.d.fact 27 (f := .glo "_are_steps") (by kernel_rfl))⟩
noncomputable def mkD_find_hole (X : K.In h) (G : h.Ns mainGlobals mg) (c : He.SaysX faX fnX [] tfX exX w h K) : DefAt K mg "find_hole" s_find_hole ["graph"] :=
  have F : Fun K "find_hole" "find_hole" s_find_hole (He.fAd K ("find_hole", none)) (Classical.choose (c.t.d.def_ 28 (d := dfd "find_hole" s_find_hole) (by kernel_rfl))) := He5.fun_of (Classical.choose_spec (c.t.d.def_ 28 (d := dfd "find_hole" s_find_hole) (by kernel_rfl)))
  ⟨He.fAd K ("find_hole", none), _, F, F.binds (ps := ["graph"]) fun _ _ _ _ _ _ us hl => match us, hl with | [_], _ => by kernel_rfl, He.glo_ok X G (c.t.d.fact 28 (f := .glo "find_hole") (by kernel_rfl))⟩
noncomputable def mkD_path_past (X : K.In h) (G : h.Ns mainGlobals mg) (c : He.SaysX faX fnX [] tfX exX w h K) : DefAt K mg "_path_past" s_path_past ["graph", "around", "left", "v", "a", "b"] :=
  have F : Fun K "_path_past" "_path_past" s_path_past (He.fAd K ("_path_past", none)) (Classical.choose (c.t.d.def_ 29 (d := dfd "_path_past" s_path_past) (by kernel_rfl))) := He5.fun_of (Classical.choose_spec (c.t.d.def_ 29 (d := dfd "_path_past" s_path_past) (by kernel_rfl)))
  ⟨He.fAd K ("_path_past", none), _, F, F.binds (ps := ["graph", "around", "left", "v", "a", "b"]) fun _ _ _ _ _ _ us hl => match us, hl with | [_, _, _, _, _, _], _ => by kernel_rfl, He.glo_ok X G (c.t.d.fact 29 (f := .glo "_path_past") (by kernel_rfl))⟩
noncomputable def mkD_clique_order (X : K.In h) (G : h.Ns mainGlobals mg) (c : He.SaysX faX fnX [] tfX exX w h K) : DefAt K mg "clique_order" s_clique_order ["graph"] :=
  have F : Fun K "clique_order" "clique_order" s_clique_order (He.fAd K ("clique_order", none)) (Classical.choose (c.t.d.def_ 30 (d := dfd "clique_order" s_clique_order) (by kernel_rfl))) := He5.fun_of (Classical.choose_spec (c.t.d.def_ 30 (d := dfd "clique_order" s_clique_order) (by kernel_rfl)))
  ⟨He.fAd K ("clique_order", none), _, F, F.binds (ps := ["graph"]) fun _ _ _ _ _ _ us hl => match us, hl with | [_], _ => by kernel_rfl, He.glo_ok X G (c.t.d.fact 30 (f := .glo "clique_order") (by kernel_rfl))⟩
noncomputable def mkD_tied (X : K.In h) (G : h.Ns mainGlobals mg) (c : He.SaysX faX fnX [] tfX exX w h K) : DefAt K mg "_tied" s_tied ["around", "left"] :=
  have F : Fun K "_tied" "_tied" s_tied (He.fAd K ("_tied", none)) (Classical.choose (c.t.d.def_ 31 (d := dfd "_tied" s_tied) (by kernel_rfl))) := He5.fun_of (Classical.choose_spec (c.t.d.def_ 31 (d := dfd "_tied" s_tied) (by kernel_rfl)))
  ⟨He.fAd K ("_tied", none), _, F, F.binds (ps := ["around", "left"]) fun _ _ _ _ _ _ us hl => match us, hl with | [_, _], _ => by kernel_rfl, He.glo_ok X G (c.t.d.fact 31 (f := .glo "_tied") (by kernel_rfl))⟩
noncomputable def mkD_class_paper (X : K.In h) (G : h.Ns mainGlobals mg) (c : He.SaysX faX fnX [] tfX exX w h K) : DefAt K mg "class_paper" s_class_paper ["graph", "question"] :=
  have F : Fun K "class_paper" "class_paper" s_class_paper (He.fAd K ("class_paper", none)) (Classical.choose (c.t.d.def_ 32 (d := dfd "class_paper" s_class_paper) (by kernel_rfl))) := He5.fun_of (Classical.choose_spec (c.t.d.def_ 32 (d := dfd "class_paper" s_class_paper) (by kernel_rfl)))
  ⟨He.fAd K ("class_paper", none), _, F, F.binds (ps := ["graph", "question"]) fun _ _ _ _ _ _ us hl => match us, hl with | [_, _], _ => by kernel_rfl, He.glo_ok X G (c.t.d.fact 32 (f := .glo "class_paper") (by kernel_rfl))⟩
noncomputable def mkD_chordal_paper (X : K.In h) (G : h.Ns mainGlobals mg) (c : He.SaysX faX fnX [] tfX exX w h K) : DefAt K mg "_chordal_paper" s_chordal_paper ["graph"] :=
  have F : Fun K "_chordal_paper" "_chordal_paper" s_chordal_paper (He.fAd K ("_chordal_paper", none)) (Classical.choose (c.t.d.def_ 33 (d := dfd "_chordal_paper" s_chordal_paper) (by kernel_rfl))) := He5.fun_of (Classical.choose_spec (c.t.d.def_ 33 (d := dfd "_chordal_paper" s_chordal_paper) (by kernel_rfl)))
  ⟨He.fAd K ("_chordal_paper", none), _, F, F.binds (ps := ["graph"]) fun _ _ _ _ _ _ us hl => match us, hl with | [_], _ => by kernel_rfl, He.glo_ok X G (c.t.d.fact 33 (f := .glo "_chordal_paper") (by kernel_rfl))⟩
noncomputable def mkD_is_question (X : K.In h) (G : h.Ns mainGlobals mg) (c : He.SaysX faX fnX [] tfX exX w h K) : DefAt K mg "is_question" s_is_question ["graph", "value"] :=
  have F : Fun K "is_question" "is_question" s_is_question (He.fAd K ("is_question", none)) (Classical.choose (c.t.d.def_ 34 (d := dfd "is_question" s_is_question) (by kernel_rfl))) := He5.fun_of (Classical.choose_spec (c.t.d.def_ 34 (d := dfd "is_question" s_is_question) (by kernel_rfl)))
  ⟨He.fAd K ("is_question", none), _, F, F.binds (ps := ["graph", "value"]) fun _ _ _ _ _ _ us hl => match us, hl with | [_, _], _ => by kernel_rfl, He.glo_ok X G (c.t.d.fact 34 (f := .glo "is_question") (by kernel_rfl))⟩
noncomputable def mkD_are_ends (X : K.In h) (G : h.Ns mainGlobals mg) (c : He.SaysX faX fnX [] tfX exX w h K) : DefAt K mg "_are_ends" s_are_ends ["graph", "s", "t"] :=
  have F : Fun K "_are_ends" "_are_ends" s_are_ends (He.fAd K ("_are_ends", none)) (Classical.choose (c.t.d.def_ 35 (d := dfd "_are_ends" s_are_ends) (by kernel_rfl))) := He5.fun_of (Classical.choose_spec (c.t.d.def_ 35 (d := dfd "_are_ends" s_are_ends) (by kernel_rfl)))
  ⟨He.fAd K ("_are_ends", none), _, F, F.binds (ps := ["graph", "s", "t"]) fun _ _ _ _ _ _ us hl => match us, hl with | [_, _, _], _ => by kernel_rfl, He.glo_ok X G (c.t.d.fact 35 (f := .glo "_are_ends") (by kernel_rfl))⟩
noncomputable def mkD_is_number (X : K.In h) (G : h.Ns mainGlobals mg) (c : He.SaysX faX fnX [] tfX exX w h K) : DefAt K mg "_is_number" s_is_number ["value"] :=
  have F : Fun K "_is_number" "_is_number" s_is_number (He.fAd K ("_is_number", none)) (Classical.choose (c.t.d.def_ 36 (d := dfd "_is_number" s_is_number) (by kernel_rfl))) := He5.fun_of (Classical.choose_spec (c.t.d.def_ 36 (d := dfd "_is_number" s_is_number) (by kernel_rfl)))
  ⟨He.fAd K ("_is_number", none), _, F, F.binds (ps := ["value"]) fun _ _ _ _ _ _ us hl => match us, hl with | [_], _ => by kernel_rfl, He.glo_ok X G (c.t.d.fact 36 (f := .glo "_is_number") (by kernel_rfl))⟩
noncomputable def mkD_decide (X : K.In h) (G : h.Ns mainGlobals mg) (c : He.SaysX faX fnX [] tfX exX w h K) : DefAt K mg "decide" s_decide ["graph", "question"] :=
  have F : Fun K "decide" "decide" s_decide (He.fAd K ("decide", none)) (Classical.choose (c.t.d.def_ 37 (d := dfd "decide" s_decide) (by kernel_rfl))) := He5.fun_of (Classical.choose_spec (c.t.d.def_ 37 (d := dfd "decide" s_decide) (by kernel_rfl)))
  ⟨He.fAd K ("decide", none), _, F, F.binds (ps := ["graph", "question"]) fun _ _ _ _ _ _ us hl => match us, hl with | [_, _], _ => by kernel_rfl, He.glo_ok X G (c.t.d.fact 37 (f := .glo "decide") (by kernel_rfl))⟩
noncomputable def mkD_is_class_paper (X : K.In h) (G : h.Ns mainGlobals mg) (c : He.SaysX faX fnX [] tfX exX w h K) : DefAt K mg "is_class_paper" s_is_class_paper ["graph", "question", "answer", "data"] :=
  have F : Fun K "is_class_paper" "is_class_paper" s_is_class_paper (He.fAd K ("is_class_paper", none)) (Classical.choose (c.t.d.def_ 38 (d := dfd "is_class_paper" s_is_class_paper) (by kernel_rfl))) := He5.fun_of (Classical.choose_spec (c.t.d.def_ 38 (d := dfd "is_class_paper" s_is_class_paper) (by kernel_rfl)))
  ⟨He.fAd K ("is_class_paper", none), _, F, F.binds (ps := ["graph", "question", "answer", "data"]) fun _ _ _ _ _ _ us hl => match us, hl with | [_, _, _, _], _ => by kernel_rfl, He.glo_ok X G (c.t.d.fact 38 (f := .glo "is_class_paper") (by kernel_rfl))⟩
noncomputable def mkD_are_cliques_behind (X : K.In h) (G : h.Ns mainGlobals mg) (c : He.SaysX faX fnX [] tfX exX w h K) : DefAt K mg "_are_cliques_behind" s_are_cliques_behind ["graph", "value"] :=
  have F : Fun K "_are_cliques_behind" "_are_cliques_behind" s_are_cliques_behind (He.fAd K ("_are_cliques_behind", none)) (Classical.choose (c.t.d.def_ 39 (d := dfd "_are_cliques_behind" s_are_cliques_behind) (by kernel_rfl))) := He5.fun_of (Classical.choose_spec (c.t.d.def_ 39 (d := dfd "_are_cliques_behind" s_are_cliques_behind) (by kernel_rfl)))
  ⟨He.fAd K ("_are_cliques_behind", none), _, F, F.binds (ps := ["graph", "value"]) fun _ _ _ _ _ _ us hl => match us, hl with | [_, _], _ => by kernel_rfl, He.glo_ok X G (c.t.d.fact 39 (f := .glo "_are_cliques_behind") (by kernel_rfl))⟩
noncomputable def mkD_is_hole (X : K.In h) (G : h.Ns mainGlobals mg) (c : He.SaysX faX fnX [] tfX exX w h K) : DefAt K mg "_is_hole" s_is_hole ["graph", "value"] :=
  have F : Fun K "_is_hole" "_is_hole" s_is_hole (He.fAd K ("_is_hole", none)) (Classical.choose (c.t.d.def_ 40 (d := dfd "_is_hole" s_is_hole) (by kernel_rfl))) := He5.fun_of (Classical.choose_spec (c.t.d.def_ 40 (d := dfd "_is_hole" s_is_hole) (by kernel_rfl)))
  ⟨He.fAd K ("_is_hole", none), _, F, F.binds (ps := ["graph", "value"]) fun _ _ _ _ _ _ us hl => match us, hl with | [_, _], _ => by kernel_rfl, He.glo_ok X G (c.t.d.fact 40 (f := .glo "_is_hole") (by kernel_rfl))⟩
noncomputable def mkD_check (X : K.In h) (G : h.Ns mainGlobals mg) (c : He.SaysX faX fnX [] tfX exX w h K) : DefAt K mg "check" s_check ["graph", "question", "paper"] :=
  have F : Fun K "check" "check" s_check (He.fAd K ("check", none)) (Classical.choose (c.t.d.def_ 41 (d := dfd "check" s_check) (by kernel_rfl))) := He5.fun_of (Classical.choose_spec (c.t.d.def_ 41 (d := dfd "check" s_check) (by kernel_rfl)))
  ⟨He.fAd K ("check", none), _, F, F.binds (ps := ["graph", "question", "paper"]) fun _ _ _ _ _ _ us hl => match us, hl with | [_, _, _], _ => by kernel_rfl, He.glo_ok X G (c.t.d.fact 41 (f := .glo "check") (by kernel_rfl))⟩
noncomputable def mkD_is_right (X : K.In h) (G : h.Ns mainGlobals mg) (c : He.SaysX faX fnX [] tfX exX w h K) : DefAt K mg "_is_right" s_is_right ["graph", "question", "answer", "data"] :=
  have F : Fun K "_is_right" "_is_right" s_is_right (He.fAd K ("_is_right", none)) (Classical.choose (c.t.d.def_ 42 (d := dfd "_is_right" s_is_right) (by kernel_rfl))) := He5.fun_of (Classical.choose_spec (c.t.d.def_ 42 (d := dfd "_is_right" s_is_right) (by kernel_rfl)))
  ⟨He.fAd K ("_is_right", none), _, F, F.binds (ps := ["graph", "question", "answer", "data"]) fun _ _ _ _ _ _ us hl => match us, hl with | [_, _, _, _], _ => by kernel_rfl, He.glo_ok X G (c.t.d.fact 42 (f := .glo "_is_right") (by kernel_rfl))⟩
noncomputable def mkD_law_pool (X : K.In h) (G : h.Ns mainGlobals mg) (c : He.SaysX faX fnX [] tfX exX w h K) : DefAt K mg "_law_pool" s_law_pool ["script"] :=
  have F : Fun K "_law_pool" "_law_pool" s_law_pool (He.fAd K ("_law_pool", none)) (Classical.choose (c.t.d.def_ 43 (d := dfd "_law_pool" s_law_pool) (by kernel_rfl))) := He5.fun_of (Classical.choose_spec (c.t.d.def_ 43 (d := dfd "_law_pool" s_law_pool) (by kernel_rfl)))
  ⟨He.fAd K ("_law_pool", none), _, F, F.binds (ps := ["script"]) fun _ _ _ _ _ _ us hl => match us, hl with | [_], _ => by kernel_rfl, He.glo_ok X G (c.t.d.fact 43 (f := .glo "_law_pool") (by kernel_rfl))⟩
noncomputable def mkD_law_spread (X : K.In h) (G : h.Ns mainGlobals mg) (c : He.SaysX faX fnX [] tfX exX w h K) : DefAt K mg "_law_spread" s_law_spread ["cell"] :=
  have F : Fun K "_law_spread" "_law_spread" s_law_spread (He.fAd K ("_law_spread", none)) (Classical.choose (c.t.d.def_ 44 (d := dfd "_law_spread" s_law_spread) (by kernel_rfl))) := He5.fun_of (Classical.choose_spec (c.t.d.def_ 44 (d := dfd "_law_spread" s_law_spread) (by kernel_rfl)))
  ⟨He.fAd K ("_law_spread", none), _, F, F.binds (ps := ["cell"]) fun _ _ _ _ _ _ us hl => match us, hl with | [_], _ => by kernel_rfl, He.glo_ok X G (c.t.d.fact 44 (f := .glo "_law_spread") (by kernel_rfl))⟩
noncomputable def mkD_law_draw (X : K.In h) (G : h.Ns mainGlobals mg) (c : He.SaysX faX fnX [] tfX exX w h K) : DefAt K mg "_law_draw" s_law_draw ["pool", "many"] :=
  have F : Fun K "_law_draw" "_law_draw" s_law_draw (He.fAd K ("_law_draw", none)) (Classical.choose (c.t.d.def_ 45 (d := dfd "_law_draw" s_law_draw) (by kernel_rfl))) := He5.fun_of (Classical.choose_spec (c.t.d.def_ 45 (d := dfd "_law_draw" s_law_draw) (by kernel_rfl)))
  ⟨He.fAd K ("_law_draw", none), _, F, F.binds (ps := ["pool", "many"]) fun _ _ _ _ _ _ us hl => match us, hl with | [_, _], _ => by kernel_rfl, He.glo_ok X G (c.t.d.fact 45 (f := .glo "_law_draw") (by kernel_rfl))⟩
noncomputable def mkD_law_is_int (X : K.In h) (G : h.Ns mainGlobals mg) (c : He.SaysX faX fnX [] tfX exX w h K) : DefAt K mg "_law_is_int" s_law_is_int ["x"] :=
  have F : Fun K "_law_is_int" "_law_is_int" s_law_is_int (He.fAd K ("_law_is_int", none)) (Classical.choose (c.t.d.def_ 46 (d := dfd "_law_is_int" s_law_is_int) (by kernel_rfl))) := He5.fun_of (Classical.choose_spec (c.t.d.def_ 46 (d := dfd "_law_is_int" s_law_is_int) (by kernel_rfl)))
  ⟨He.fAd K ("_law_is_int", none), _, F, F.binds (ps := ["x"]) fun _ _ _ _ _ _ us hl => match us, hl with | [_], _ => by kernel_rfl, He.glo_ok X G (c.t.d.fact 46 (f := .glo "_law_is_int") (by kernel_rfl))⟩
noncomputable def mkD_law_distinct (X : K.In h) (G : h.Ns mainGlobals mg) (c : He.SaysX faX fnX [] tfX exX w h K) : DefAt K mg "_law_distinct" s_law_distinct ["rows"] :=
  have F : Fun K "_law_distinct" "_law_distinct" s_law_distinct (He.fAd K ("_law_distinct", none)) (Classical.choose (c.t.d.def_ 47 (d := dfd "_law_distinct" s_law_distinct) (by kernel_rfl))) := He5.fun_of (Classical.choose_spec (c.t.d.def_ 47 (d := dfd "_law_distinct" s_law_distinct) (by kernel_rfl)))
  ⟨He.fAd K ("_law_distinct", none), _, F, F.binds (ps := ["rows"]) fun _ _ _ _ _ _ us hl => match us, hl with | [_], _ => by kernel_rfl, He.glo_ok X G (c.t.d.fact 47 (f := .glo "_law_distinct") (by kernel_rfl))⟩
noncomputable def mkD_law_pairs (X : K.In h) (G : h.Ns mainGlobals mg) (c : He.SaysX faX fnX [] tfX exX w h K) : DefAt K mg "_law_pairs" s_law_pairs ["n"] :=
  have F : Fun K "_law_pairs" "_law_pairs" s_law_pairs (He.fAd K ("_law_pairs", none)) (Classical.choose (c.t.d.def_ 48 (d := dfd "_law_pairs" s_law_pairs) (by kernel_rfl))) := He5.fun_of (Classical.choose_spec (c.t.d.def_ 48 (d := dfd "_law_pairs" s_law_pairs) (by kernel_rfl)))
  ⟨He.fAd K ("_law_pairs", none), _, F, F.binds (ps := ["n"]) fun _ _ _ _ _ _ us hl => match us, hl with | [_], _ => by kernel_rfl, He.glo_ok X G (c.t.d.fact 48 (f := .glo "_law_pairs") (by kernel_rfl))⟩
noncomputable def mkD_law_of (X : K.In h) (G : h.Ns mainGlobals mg) (c : He.SaysX faX fnX [] tfX exX w h K) : DefAt K mg "_law_of" s_law_of ["n", "pairs"] :=
  have F : Fun K "_law_of" "_law_of" s_law_of (He.fAd K ("_law_of", none)) (Classical.choose (c.t.d.def_ 49 (d := dfd "_law_of" s_law_of) (by kernel_rfl))) := He5.fun_of (Classical.choose_spec (c.t.d.def_ 49 (d := dfd "_law_of" s_law_of) (by kernel_rfl)))
  ⟨He.fAd K ("_law_of", none), _, F, F.binds (ps := ["n", "pairs"]) fun _ _ _ _ _ _ us hl => match us, hl with | [_, _], _ => by kernel_rfl, He.glo_ok X G (c.t.d.fact 49 (f := .glo "_law_of") (by kernel_rfl))⟩
noncomputable def mkD_law_met (X : K.In h) (G : h.Ns mainGlobals mg) (c : He.SaysX faX fnX [] tfX exX w h K) : DefAt K mg "_law_met" s_law_met ["graph", "u", "v"] :=
  have F : Fun K "_law_met" "_law_met" s_law_met (He.fAd K ("_law_met", none)) (Classical.choose (c.t.d.def_ 50 (d := dfd "_law_met" s_law_met) (by kernel_rfl))) := He5.fun_of (Classical.choose_spec (c.t.d.def_ 50 (d := dfd "_law_met" s_law_met) (by kernel_rfl)))
  ⟨He.fAd K ("_law_met", none), _, F, F.binds (ps := ["graph", "u", "v"]) fun _ _ _ _ _ _ us hl => match us, hl with | [_, _, _], _ => by kernel_rfl, He.glo_ok X G (c.t.d.fact 50 (f := .glo "_law_met") (by kernel_rfl))⟩
noncomputable def mkD_law_near (X : K.In h) (G : h.Ns mainGlobals mg) (c : He.SaysX faX fnX [] tfX exX w h K) : DefAt K mg "_law_near" s_law_near ["graph", "v"] :=
  have F : Fun K "_law_near" "_law_near" s_law_near (He.fAd K ("_law_near", none)) (Classical.choose (c.t.d.def_ 51 (d := dfd "_law_near" s_law_near) (by kernel_rfl))) := He5.fun_of (Classical.choose_spec (c.t.d.def_ 51 (d := dfd "_law_near" s_law_near) (by kernel_rfl)))
  ⟨He.fAd K ("_law_near", none), _, F, F.binds (ps := ["graph", "v"]) fun _ _ _ _ _ _ us hl => match us, hl with | [_, _], _ => by kernel_rfl, He.glo_ok X G (c.t.d.fact 51 (f := .glo "_law_near") (by kernel_rfl))⟩
noncomputable def mkD_law_shuffled (X : K.In h) (G : h.Ns mainGlobals mg) (c : He.SaysX faX fnX [] tfX exX w h K) : DefAt K mg "_law_shuffled" s_law_shuffled ["pool", "items"] :=
  have F : Fun K "_law_shuffled" "_law_shuffled" s_law_shuffled (He.fAd K ("_law_shuffled", none)) (Classical.choose (c.t.d.def_ 52 (d := dfd "_law_shuffled" s_law_shuffled) (by kernel_rfl))) := He5.fun_of (Classical.choose_spec (c.t.d.def_ 52 (d := dfd "_law_shuffled" s_law_shuffled) (by kernel_rfl)))
  ⟨He.fAd K ("_law_shuffled", none), _, F, F.binds (ps := ["pool", "items"]) fun _ _ _ _ _ _ us hl => match us, hl with | [_, _], _ => by kernel_rfl, He.glo_ok X G (c.t.d.fact 52 (f := .glo "_law_shuffled") (by kernel_rfl))⟩
noncomputable def mkD_law_moved (X : K.In h) (G : h.Ns mainGlobals mg) (c : He.SaysX faX fnX [] tfX exX w h K) : DefAt K mg "_law_moved" s_law_moved ["graph", "order"] :=
  have F : Fun K "_law_moved" "_law_moved" s_law_moved (He.fAd K ("_law_moved", none)) (Classical.choose (c.t.d.def_ 53 (d := dfd "_law_moved" s_law_moved) (by kernel_rfl))) := He5.fun_of (Classical.choose_spec (c.t.d.def_ 53 (d := dfd "_law_moved" s_law_moved) (by kernel_rfl)))
  ⟨He.fAd K ("_law_moved", none), _, F, F.binds (ps := ["graph", "order"]) fun _ _ _ _ _ _ us hl => match us, hl with | [_, _], _ => by kernel_rfl, He.glo_ok X G (c.t.d.fact 53 (f := .glo "_law_moved") (by kernel_rfl))⟩
noncomputable def mkD_law_other (X : K.In h) (G : h.Ns mainGlobals mg) (c : He.SaysX faX fnX [] tfX exX w h K) : DefAt K mg "_law_other" s_law_other ["graph"] :=
  have F : Fun K "_law_other" "_law_other" s_law_other (He.fAd K ("_law_other", none)) (Classical.choose (c.t.d.def_ 54 (d := dfd "_law_other" s_law_other) (by kernel_rfl))) := He5.fun_of (Classical.choose_spec (c.t.d.def_ 54 (d := dfd "_law_other" s_law_other) (by kernel_rfl)))
  ⟨He.fAd K ("_law_other", none), _, F, F.binds (ps := ["graph"]) fun _ _ _ _ _ _ us hl => match us, hl with | [_], _ => by kernel_rfl, He.glo_ok X G (c.t.d.fact 54 (f := .glo "_law_other") (by kernel_rfl))⟩
noncomputable def mkD_law_random_graph (X : K.In h) (G : h.Ns mainGlobals mg) (c : He.SaysX faX fnX [] tfX exX w h K) : DefAt K mg "_law_random_graph" s_law_random_graph ["pool", "most"] :=
  have F : Fun K "_law_random_graph" "_law_random_graph" s_law_random_graph (He.fAd K ("_law_random_graph", none)) (Classical.choose (c.t.d.def_ 55 (d := dfd "_law_random_graph" s_law_random_graph) (by kernel_rfl))) := He5.fun_of (Classical.choose_spec (c.t.d.def_ 55 (d := dfd "_law_random_graph" s_law_random_graph) (by kernel_rfl)))
  ⟨He.fAd K ("_law_random_graph", none), _, F, F.binds (ps := ["pool", "most"]) fun _ _ _ _ _ _ us hl => match us, hl with | [_, _], _ => by kernel_rfl, He.glo_ok X G (c.t.d.fact 55 (f := .glo "_law_random_graph") (by kernel_rfl))⟩
noncomputable def mkD_law_interval_rows (X : K.In h) (G : h.Ns mainGlobals mg) (c : He.SaysX faX fnX [] tfX exX w h K) : DefAt K mg "_law_interval_rows" s_law_interval_rows ["pool", "n"] :=
  have F : Fun K "_law_interval_rows" "_law_interval_rows" s_law_interval_rows (He.fAd K ("_law_interval_rows", none)) (Classical.choose (c.t.d.def_ 56 (d := dfd "_law_interval_rows" s_law_interval_rows) (by kernel_rfl))) := He5.fun_of (Classical.choose_spec (c.t.d.def_ 56 (d := dfd "_law_interval_rows" s_law_interval_rows) (by kernel_rfl)))
  ⟨He.fAd K ("_law_interval_rows", none), _, F, F.binds (ps := ["pool", "n"]) fun _ _ _ _ _ _ us hl => match us, hl with | [_, _], _ => by kernel_rfl, He.glo_ok X G (c.t.d.fact 56 (f := .glo "_law_interval_rows") (by kernel_rfl))⟩
noncomputable def mkD_law_interval_graph (X : K.In h) (G : h.Ns mainGlobals mg) (c : He.SaysX faX fnX [] tfX exX w h K) : DefAt K mg "_law_interval_graph" s_law_interval_graph ["rows"] :=
  have F : Fun K "_law_interval_graph" "_law_interval_graph" s_law_interval_graph (He.fAd K ("_law_interval_graph", none)) (Classical.choose (c.t.d.def_ 57 (d := dfd "_law_interval_graph" s_law_interval_graph) (by kernel_rfl))) := He5.fun_of (Classical.choose_spec (c.t.d.def_ 57 (d := dfd "_law_interval_graph" s_law_interval_graph) (by kernel_rfl)))
  ⟨He.fAd K ("_law_interval_graph", none), _, F, F.binds (ps := ["rows"]) fun _ _ _ _ _ _ us hl => match us, hl with | [_], _ => by kernel_rfl, He.glo_ok X G (c.t.d.fact 57 (f := .glo "_law_interval_graph") (by kernel_rfl))⟩
noncomputable def mkD_law_turned_graph (X : K.In h) (G : h.Ns mainGlobals mg) (c : He.SaysX faX fnX [] tfX exX w h K) : DefAt K mg "_law_turned_graph" s_law_turned_graph ["one", "two"] :=
  have F : Fun K "_law_turned_graph" "_law_turned_graph" s_law_turned_graph (He.fAd K ("_law_turned_graph", none)) (Classical.choose (c.t.d.def_ 58 (d := dfd "_law_turned_graph" s_law_turned_graph) (by kernel_rfl))) := He5.fun_of (Classical.choose_spec (c.t.d.def_ 58 (d := dfd "_law_turned_graph" s_law_turned_graph) (by kernel_rfl)))
  ⟨He.fAd K ("_law_turned_graph", none), _, F, F.binds (ps := ["one", "two"]) fun _ _ _ _ _ _ us hl => match us, hl with | [_, _], _ => by kernel_rfl, He.glo_ok X G (c.t.d.fact 58 (f := .glo "_law_turned_graph") (by kernel_rfl))⟩
noncomputable def mkD_law_ordered_graph (X : K.In h) (G : h.Ns mainGlobals mg) (c : He.SaysX faX fnX [] tfX exX w h K) : DefAt K mg "_law_ordered_graph" s_law_ordered_graph ["pool", "n"] :=
  have F : Fun K "_law_ordered_graph" "_law_ordered_graph" s_law_ordered_graph (He.fAd K ("_law_ordered_graph", none)) (Classical.choose (c.t.d.def_ 59 (d := dfd "_law_ordered_graph" s_law_ordered_graph) (by kernel_rfl))) := He5.fun_of (Classical.choose_spec (c.t.d.def_ 59 (d := dfd "_law_ordered_graph" s_law_ordered_graph) (by kernel_rfl)))
  ⟨He.fAd K ("_law_ordered_graph", none), _, F, F.binds (ps := ["pool", "n"]) fun _ _ _ _ _ _ us hl => match us, hl with | [_, _], _ => by kernel_rfl, He.glo_ok X G (c.t.d.fact 59 (f := .glo "_law_ordered_graph") (by kernel_rfl))⟩
noncomputable def mkD_law_clique_graph (X : K.In h) (G : h.Ns mainGlobals mg) (c : He.SaysX faX fnX [] tfX exX w h K) : DefAt K mg "_law_clique_graph" s_law_clique_graph ["pool", "n"] :=
  have F : Fun K "_law_clique_graph" "_law_clique_graph" s_law_clique_graph (He.fAd K ("_law_clique_graph", none)) (Classical.choose (c.t.d.def_ 60 (d := dfd "_law_clique_graph" s_law_clique_graph) (by kernel_rfl))) := He5.fun_of (Classical.choose_spec (c.t.d.def_ 60 (d := dfd "_law_clique_graph" s_law_clique_graph) (by kernel_rfl)))
  ⟨He.fAd K ("_law_clique_graph", none), _, F, F.binds (ps := ["pool", "n"]) fun _ _ _ _ _ _ us hl => match us, hl with | [_, _], _ => by kernel_rfl, He.glo_ok X G (c.t.d.fact 60 (f := .glo "_law_clique_graph") (by kernel_rfl))⟩
noncomputable def mkD_law_drawn_tree (X : K.In h) (G : h.Ns mainGlobals mg) (c : He.SaysX faX fnX [] tfX exX w h K) : DefAt K mg "_law_drawn_tree" s_law_drawn_tree ["pool", "leaves"] :=
  have F : Fun K "_law_drawn_tree" "_law_drawn_tree" s_law_drawn_tree (He.fAd K ("_law_drawn_tree", none)) (Classical.choose (c.t.d.def_ 61 (d := dfd "_law_drawn_tree" s_law_drawn_tree) (by kernel_rfl))) := He5.fun_of (Classical.choose_spec (c.t.d.def_ 61 (d := dfd "_law_drawn_tree" s_law_drawn_tree) (by kernel_rfl)))
  ⟨He.fAd K ("_law_drawn_tree", none), _, F, F.binds (ps := ["pool", "leaves"]) fun _ _ _ _ _ _ us hl => match us, hl with | [_, _], _ => by kernel_rfl, He.glo_ok X G (c.t.d.fact 61 (f := .glo "_law_drawn_tree") (by kernel_rfl))⟩
noncomputable def mkD_law_leaves (X : K.In h) (G : h.Ns mainGlobals mg) (c : He.SaysX faX fnX [] tfX exX w h K) : DefAt K mg "_law_leaves" s_law_leaves ["tree"] :=
  have F : Fun K "_law_leaves" "_law_leaves" s_law_leaves (He.fAd K ("_law_leaves", none)) (Classical.choose (c.t.d.def_ 62 (d := dfd "_law_leaves" s_law_leaves) (by kernel_rfl))) := He5.fun_of (Classical.choose_spec (c.t.d.def_ 62 (d := dfd "_law_leaves" s_law_leaves) (by kernel_rfl)))
  ⟨He.fAd K ("_law_leaves", none), _, F, F.binds (ps := ["tree"]) fun _ _ _ _ _ _ us hl => match us, hl with | [_], _ => by kernel_rfl, He.glo_ok X G (c.t.d.fact 62 (f := .glo "_law_leaves") (by kernel_rfl))⟩
noncomputable def mkD_law_tree_pairs (X : K.In h) (G : h.Ns mainGlobals mg) (c : He.SaysX faX fnX [] tfX exX w h K) : DefAt K mg "_law_tree_pairs" s_law_tree_pairs ["tree"] :=
  have F : Fun K "_law_tree_pairs" "_law_tree_pairs" s_law_tree_pairs (He.fAd K ("_law_tree_pairs", none)) (Classical.choose (c.t.d.def_ 63 (d := dfd "_law_tree_pairs" s_law_tree_pairs) (by kernel_rfl))) := He5.fun_of (Classical.choose_spec (c.t.d.def_ 63 (d := dfd "_law_tree_pairs" s_law_tree_pairs) (by kernel_rfl)))
  ⟨He.fAd K ("_law_tree_pairs", none), _, F, F.binds (ps := ["tree"]) fun _ _ _ _ _ _ us hl => match us, hl with | [_], _ => by kernel_rfl, He.glo_ok X G (c.t.d.fact 63 (f := .glo "_law_tree_pairs") (by kernel_rfl))⟩
noncomputable def mkD_law_graph (X : K.In h) (G : h.Ns mainGlobals mg) (c : He.SaysX faX fnX [] tfX exX w h K) : DefAt K mg "_law_graph" s_law_graph ["pool", "most"] :=
  have F : Fun K "_law_graph" "_law_graph" s_law_graph (He.fAd K ("_law_graph", none)) (Classical.choose (c.t.d.def_ 64 (d := dfd "_law_graph" s_law_graph) (by kernel_rfl))) := He5.fun_of (Classical.choose_spec (c.t.d.def_ 64 (d := dfd "_law_graph" s_law_graph) (by kernel_rfl)))
  ⟨He.fAd K ("_law_graph", none), _, F, F.binds (ps := ["pool", "most"]) fun _ _ _ _ _ _ us hl => match us, hl with | [_, _], _ => by kernel_rfl, He.glo_ok X G (c.t.d.fact 64 (f := .glo "_law_graph") (by kernel_rfl))⟩
noncomputable def mkD_law_subsets (X : K.In h) (G : h.Ns mainGlobals mg) (c : He.SaysX faX fnX [] tfX exX w h K) : DefAt K mg "_law_subsets" s_law_subsets ["items"] :=
  have F : Fun K "_law_subsets" "_law_subsets" s_law_subsets (He.fAd K ("_law_subsets", none)) (Classical.choose (c.t.d.def_ 65 (d := dfd "_law_subsets" s_law_subsets) (by kernel_rfl))) := He5.fun_of (Classical.choose_spec (c.t.d.def_ 65 (d := dfd "_law_subsets" s_law_subsets) (by kernel_rfl)))
  ⟨He.fAd K ("_law_subsets", none), _, F, F.binds (ps := ["items"]) fun _ _ _ _ _ _ us hl => match us, hl with | [_], _ => by kernel_rfl, He.glo_ok X G (c.t.d.fact 65 (f := .glo "_law_subsets") (by kernel_rfl))⟩
noncomputable def mkD_law_is_row (X : K.In h) (G : h.Ns mainGlobals mg) (c : He.SaysX faX fnX [] tfX exX w h K) : DefAt K mg "_law_is_row" s_law_is_row ["graph", "value"] :=
  have F : Fun K "_law_is_row" "_law_is_row" s_law_is_row (He.fAd K ("_law_is_row", none)) (Classical.choose (c.t.d.def_ 66 (d := dfd "_law_is_row" s_law_is_row) (by kernel_rfl))) := He5.fun_of (Classical.choose_spec (c.t.d.def_ 66 (d := dfd "_law_is_row" s_law_is_row) (by kernel_rfl)))
  ⟨He.fAd K ("_law_is_row", none), _, F, F.binds (ps := ["graph", "value"]) fun _ _ _ _ _ _ us hl => match us, hl with | [_, _], _ => by kernel_rfl, He.glo_ok X G (c.t.d.fact 66 (f := .glo "_law_is_row") (by kernel_rfl))⟩
noncomputable def mkD_law_is_way (X : K.In h) (G : h.Ns mainGlobals mg) (c : He.SaysX faX fnX [] tfX exX w h K) : DefAt K mg "_law_is_way" s_law_is_way ["graph", "value"] :=
  have F : Fun K "_law_is_way" "_law_is_way" s_law_is_way (He.fAd K ("_law_is_way", none)) (Classical.choose (c.t.d.def_ 67 (d := dfd "_law_is_way" s_law_is_way) (by kernel_rfl))) := He5.fun_of (Classical.choose_spec (c.t.d.def_ 67 (d := dfd "_law_is_way" s_law_is_way) (by kernel_rfl)))
  ⟨He.fAd K ("_law_is_way", none), _, F, F.binds (ps := ["graph", "value"]) fun _ _ _ _ _ _ us hl => match us, hl with | [_, _], _ => by kernel_rfl, He.glo_ok X G (c.t.d.fact 67 (f := .glo "_law_is_way") (by kernel_rfl))⟩
noncomputable def mkD_law_bare (X : K.In h) (G : h.Ns mainGlobals mg) (c : He.SaysX faX fnX [] tfX exX w h K) : DefAt K mg "_law_bare" s_law_bare ["graph", "value", "ring"] :=
  have F : Fun K "_law_bare" "_law_bare" s_law_bare (He.fAd K ("_law_bare", none)) (Classical.choose (c.t.d.def_ 68 (d := dfd "_law_bare" s_law_bare) (by kernel_rfl))) := He5.fun_of (Classical.choose_spec (c.t.d.def_ 68 (d := dfd "_law_bare" s_law_bare) (by kernel_rfl)))
  ⟨He.fAd K ("_law_bare", none), _, F, F.binds (ps := ["graph", "value", "ring"]) fun _ _ _ _ _ _ us hl => match us, hl with | [_, _, _], _ => by kernel_rfl, He.glo_ok X G (c.t.d.fact 68 (f := .glo "_law_bare") (by kernel_rfl))⟩
noncomputable def mkD_law_is_hole (X : K.In h) (G : h.Ns mainGlobals mg) (c : He.SaysX faX fnX [] tfX exX w h K) : DefAt K mg "_law_is_hole" s_law_is_hole ["graph", "value"] :=
  have F : Fun K "_law_is_hole" "_law_is_hole" s_law_is_hole (He.fAd K ("_law_is_hole", none)) (Classical.choose (c.t.d.def_ 69 (d := dfd "_law_is_hole" s_law_is_hole) (by kernel_rfl))) := He5.fun_of (Classical.choose_spec (c.t.d.def_ 69 (d := dfd "_law_is_hole" s_law_is_hole) (by kernel_rfl)))
  ⟨He.fAd K ("_law_is_hole", none), _, F, F.binds (ps := ["graph", "value"]) fun _ _ _ _ _ _ us hl => match us, hl with | [_, _], _ => by kernel_rfl, He.glo_ok X G (c.t.d.fact 69 (f := .glo "_law_is_hole") (by kernel_rfl))⟩
noncomputable def mkD_law_ring_of (X : K.In h) (G : h.Ns mainGlobals mg) (c : He.SaysX faX fnX [] tfX exX w h K) : DefAt K mg "_law_ring_of" s_law_ring_of ["graph", "members"] :=
  have F : Fun K "_law_ring_of" "_law_ring_of" s_law_ring_of (He.fAd K ("_law_ring_of", none)) (Classical.choose (c.t.d.def_ 70 (d := dfd "_law_ring_of" s_law_ring_of) (by kernel_rfl))) := He5.fun_of (Classical.choose_spec (c.t.d.def_ 70 (d := dfd "_law_ring_of" s_law_ring_of) (by kernel_rfl)))
  ⟨He.fAd K ("_law_ring_of", none), _, F, F.binds (ps := ["graph", "members"]) fun _ _ _ _ _ _ us hl => match us, hl with | [_, _], _ => by kernel_rfl, He.glo_ok X G (c.t.d.fact 70 (f := .glo "_law_ring_of") (by kernel_rfl))⟩
noncomputable def mkD_law_holes (X : K.In h) (G : h.Ns mainGlobals mg) (c : He.SaysX faX fnX [] tfX exX w h K) : DefAt K mg "_law_holes" s_law_holes ["graph"] :=
  have F : Fun K "_law_holes" "_law_holes" s_law_holes (He.fAd K ("_law_holes", none)) (Classical.choose (c.t.d.def_ 71 (d := dfd "_law_holes" s_law_holes) (by kernel_rfl))) := He5.fun_of (Classical.choose_spec (c.t.d.def_ 71 (d := dfd "_law_holes" s_law_holes) (by kernel_rfl)))
  ⟨He.fAd K ("_law_holes", none), _, F, F.binds (ps := ["graph"]) fun _ _ _ _ _ _ us hl => match us, hl with | [_], _ => by kernel_rfl, He.glo_ok X G (c.t.d.fact 71 (f := .glo "_law_holes") (by kernel_rfl))⟩
noncomputable def mkD_law_chordal_right (X : K.In h) (G : h.Ns mainGlobals mg) (c : He.SaysX faX fnX [] tfX exX w h K) : DefAt K mg "_law_chordal_right" s_law_chordal_right ["graph", "answer", "data"] :=
  have F : Fun K "_law_chordal_right" "_law_chordal_right" s_law_chordal_right (He.fAd K ("_law_chordal_right", none)) (Classical.choose (c.t.d.def_ 72 (d := dfd "_law_chordal_right" s_law_chordal_right) (by kernel_rfl))) := He5.fun_of (Classical.choose_spec (c.t.d.def_ 72 (d := dfd "_law_chordal_right" s_law_chordal_right) (by kernel_rfl)))
  ⟨He.fAd K ("_law_chordal_right", none), _, F, F.binds (ps := ["graph", "answer", "data"]) fun _ _ _ _ _ _ us hl => match us, hl with | [_, _, _], _ => by kernel_rfl, He.glo_ok X G (c.t.d.fact 72 (f := .glo "_law_chordal_right") (by kernel_rfl))⟩
noncomputable def mkD_law_ringed (X : K.In h) (G : h.Ns mainGlobals mg) (c : He.SaysX faX fnX [] tfX exX w h K) : DefAt K mg "_law_ringed" s_law_ringed ["pool", "n"] :=
  have F : Fun K "_law_ringed" "_law_ringed" s_law_ringed (He.fAd K ("_law_ringed", none)) (Classical.choose (c.t.d.def_ 73 (d := dfd "_law_ringed" s_law_ringed) (by kernel_rfl))) := He5.fun_of (Classical.choose_spec (c.t.d.def_ 73 (d := dfd "_law_ringed" s_law_ringed) (by kernel_rfl)))
  ⟨He.fAd K ("_law_ringed", none), _, F, F.binds (ps := ["pool", "n"]) fun _ _ _ _ _ _ us hl => match us, hl with | [_, _], _ => by kernel_rfl, He.glo_ok X G (c.t.d.fact 73 (f := .glo "_law_ringed") (by kernel_rfl))⟩
end
set_option maxHeartbeats 0 in
theorem facts {lw : PySem.W.OpenLaw} {w : World} {K : PySem.W.Frag} {h : Heap} {mg : Str → Option Value} {fa : Addr} (X : K.In h) (G : h.Ns mainGlobals mg) (hfa : mg "law" = some (.ref fa)) (c : He.SaysX faX fnX [] tfX exX w h K) :
    LamX.LawAtS lw w K L2.CX0 64 63 "script" mg fa h := by
  have D_is_integer : DefAt K mg "is_integer" s_is_integer ["value"] := mkD_is_integer X G c
  have D_is_tuple : DefAt K mg "is_tuple" s_is_tuple ["value", "many"] := mkD_is_tuple X G c
  have D_is_vertex : DefAt K mg "is_vertex" s_is_vertex ["n", "value"] := mkD_is_vertex X G c
  let D_are_vertices : DefAt K mg "are_vertices" s_are_vertices ["n", "value"] := mkD_are_vertices X G c
  have D_is_row : DefAt K mg "is_row" s_is_row ["n", "value"] := mkD_is_row X G c
  have D_is_order : DefAt K mg "is_order" s_is_order ["n", "value"] := mkD_is_order X G c
  have D_is_set : DefAt K mg "is_set" s_is_set ["n", "value"] := mkD_is_set X G c
  let D_is_ascending : DefAt K mg "is_ascending" s_is_ascending ["items"] := mkD_is_ascending X G c
  have D_is_edge : DefAt K mg "is_edge" s_is_edge ["n", "value"] := mkD_is_edge X G c
  let D_are_edges : DefAt K mg "are_edges" s_are_edges ["n", "value"] := mkD_are_edges X G c
  have D_neighbour_lists : DefAt K mg "neighbour_lists" s_neighbour_lists ["graph"] := mkD_neighbour_lists X G c
  have D_neighbour_masks : DefAt K mg "neighbour_masks" s_neighbour_masks ["graph"] := mkD_neighbour_masks X G c
  have D_masks_behind : DefAt K mg "masks_behind" s_masks_behind ["graph", "order"] := mkD_masks_behind X G c
  have D_is_clique : DefAt K mg "is_clique" s_is_clique ["around", "mask"] := mkD_is_clique X G c
  have D_mask_of : DefAt K mg "mask_of" s_mask_of ["members"] := mkD_mask_of X G c
  have D_members_of : DefAt K mg "members_of" s_members_of ["mask"] := mkD_members_of X G c
  have D_size_of : DefAt K mg "size_of" s_size_of ["mask"] := mkD_size_of X G c
  have D_has : DefAt K mg "has" s_has ["mask", "v"] := mkD_has X G c
  have D_full_mask : DefAt K mg "full_mask" s_full_mask ["n"] := mkD_full_mask X G c
  have D_is_within : DefAt K mg "is_within" s_is_within ["part", "whole"] := mkD_is_within X G c
  have D_is_size : DefAt K mg "is_size" s_is_size ["value"] := mkD_is_size X G c
  have D_is_graph : DefAt K mg "is_graph" s_is_graph ["value"] := mkD_is_graph X G c
  have D_shortest_path : DefAt K mg "shortest_path" s_shortest_path ["graph", "u", "v", "avoided"] := mkD_shortest_path X G c
  let D_reached : DefAt K mg "reached" s_reached ["around", "start"] := mkD_reached X G c
  have D_reached_by : DefAt K mg "reached_by" s_reached_by ["steps", "start"] := mkD_reached_by X G c
  have D_way_to : DefAt K mg "way_to" s_way_to ["v", "before"] := mkD_way_to X G c
  have D_is_cycle : DefAt K mg "is_cycle" s_is_cycle ["graph", "value"] := mkD_is_cycle X G c
  have D_are_steps : DefAt K mg "_are_steps" s_are_steps ["graph", "starts", "ends"] := mkD_are_steps X G c
  have D_find_hole : DefAt K mg "find_hole" s_find_hole ["graph"] := mkD_find_hole X G c
  have D_path_past : DefAt K mg "_path_past" s_path_past ["graph", "around", "left", "v", "a", "b"] := mkD_path_past X G c
  have D_clique_order : DefAt K mg "clique_order" s_clique_order ["graph"] := mkD_clique_order X G c
  have D_tied : DefAt K mg "_tied" s_tied ["around", "left"] := mkD_tied X G c
  have D_class_paper : DefAt K mg "class_paper" s_class_paper ["graph", "question"] := mkD_class_paper X G c
  have D_chordal_paper : DefAt K mg "_chordal_paper" s_chordal_paper ["graph"] := mkD_chordal_paper X G c
  have D_is_question : DefAt K mg "is_question" s_is_question ["graph", "value"] := mkD_is_question X G c
  have D_are_ends : DefAt K mg "_are_ends" s_are_ends ["graph", "s", "t"] := mkD_are_ends X G c
  have D_is_number : DefAt K mg "_is_number" s_is_number ["value"] := mkD_is_number X G c
  have D_decide : DefAt K mg "decide" s_decide ["graph", "question"] := mkD_decide X G c
  have D_is_class_paper : DefAt K mg "is_class_paper" s_is_class_paper ["graph", "question", "answer", "data"] := mkD_is_class_paper X G c
  have D_are_cliques_behind : DefAt K mg "_are_cliques_behind" s_are_cliques_behind ["graph", "value"] := mkD_are_cliques_behind X G c
  have D_is_hole : DefAt K mg "_is_hole" s_is_hole ["graph", "value"] := mkD_is_hole X G c
  have D_check : DefAt K mg "check" s_check ["graph", "question", "paper"] := mkD_check X G c
  have D_is_right : DefAt K mg "_is_right" s_is_right ["graph", "question", "answer", "data"] := mkD_is_right X G c
  have D_law_pool : DefAt K mg "_law_pool" s_law_pool ["script"] := mkD_law_pool X G c
  have D_law_spread : DefAt K mg "_law_spread" s_law_spread ["cell"] := mkD_law_spread X G c
  have D_law_draw : DefAt K mg "_law_draw" s_law_draw ["pool", "many"] := mkD_law_draw X G c
  have D_law_is_int : DefAt K mg "_law_is_int" s_law_is_int ["x"] := mkD_law_is_int X G c
  have D_law_distinct : DefAt K mg "_law_distinct" s_law_distinct ["rows"] := mkD_law_distinct X G c
  have D_law_pairs : DefAt K mg "_law_pairs" s_law_pairs ["n"] := mkD_law_pairs X G c
  have D_law_of : DefAt K mg "_law_of" s_law_of ["n", "pairs"] := mkD_law_of X G c
  have D_law_met : DefAt K mg "_law_met" s_law_met ["graph", "u", "v"] := mkD_law_met X G c
  have D_law_near : DefAt K mg "_law_near" s_law_near ["graph", "v"] := mkD_law_near X G c
  have D_law_shuffled : DefAt K mg "_law_shuffled" s_law_shuffled ["pool", "items"] := mkD_law_shuffled X G c
  have D_law_moved : DefAt K mg "_law_moved" s_law_moved ["graph", "order"] := mkD_law_moved X G c
  have D_law_other : DefAt K mg "_law_other" s_law_other ["graph"] := mkD_law_other X G c
  have D_law_random_graph : DefAt K mg "_law_random_graph" s_law_random_graph ["pool", "most"] := mkD_law_random_graph X G c
  have D_law_interval_rows : DefAt K mg "_law_interval_rows" s_law_interval_rows ["pool", "n"] := mkD_law_interval_rows X G c
  have D_law_interval_graph : DefAt K mg "_law_interval_graph" s_law_interval_graph ["rows"] := mkD_law_interval_graph X G c
  have D_law_turned_graph : DefAt K mg "_law_turned_graph" s_law_turned_graph ["one", "two"] := mkD_law_turned_graph X G c
  have D_law_ordered_graph : DefAt K mg "_law_ordered_graph" s_law_ordered_graph ["pool", "n"] := mkD_law_ordered_graph X G c
  have D_law_clique_graph : DefAt K mg "_law_clique_graph" s_law_clique_graph ["pool", "n"] := mkD_law_clique_graph X G c
  have D_law_drawn_tree : DefAt K mg "_law_drawn_tree" s_law_drawn_tree ["pool", "leaves"] := mkD_law_drawn_tree X G c
  have D_law_leaves : DefAt K mg "_law_leaves" s_law_leaves ["tree"] := mkD_law_leaves X G c
  have D_law_tree_pairs : DefAt K mg "_law_tree_pairs" s_law_tree_pairs ["tree"] := mkD_law_tree_pairs X G c
  have D_law_graph : DefAt K mg "_law_graph" s_law_graph ["pool", "most"] := mkD_law_graph X G c
  have D_law_subsets : DefAt K mg "_law_subsets" s_law_subsets ["items"] := mkD_law_subsets X G c
  have D_law_is_row : DefAt K mg "_law_is_row" s_law_is_row ["graph", "value"] := mkD_law_is_row X G c
  have D_law_is_way : DefAt K mg "_law_is_way" s_law_is_way ["graph", "value"] := mkD_law_is_way X G c
  have D_law_bare : DefAt K mg "_law_bare" s_law_bare ["graph", "value", "ring"] := mkD_law_bare X G c
  have D_law_is_hole : DefAt K mg "_law_is_hole" s_law_is_hole ["graph", "value"] := mkD_law_is_hole X G c
  have D_law_ring_of : DefAt K mg "_law_ring_of" s_law_ring_of ["graph", "members"] := mkD_law_ring_of X G c
  have D_law_holes : DefAt K mg "_law_holes" s_law_holes ["graph"] := mkD_law_holes X G c
  have D_law_chordal_right : DefAt K mg "_law_chordal_right" s_law_chordal_right ["graph", "answer", "data"] := mkD_law_chordal_right X G c
  have D_law_ringed : DefAt K mg "_law_ringed" s_law_ringed ["pool", "n"] := mkD_law_ringed X G c
  obtain ⟨fd74, F74⟩ := c.t.d.def_ 74 (d := dfd "law" s_law) rfl
  have FF74 : Fun K "law" "law" s_law (He.fAd K ("law", none)) fd74 := He5.fun_of F74
  let D_law : DefAt K mg "law" s_law ["script"] := ⟨He.fAd K ("law", none), fd74, FF74, FF74.binds (ps := ["script"]) fun _ _ _ _ _ _ us hl => match us, hl with | [_], _ => rfl, He.glo_ok X G (c.t.d.fact 74 (f := .glo "law") rfl)⟩
  have Z_all : mg "all" = none := He.free_ok X G (c.t.d.fact 87 (f := .free "all") rfl)
  have Z_set : mg "set" = none := He.free_ok X G (c.t.d.fact 88 (f := .free "set") rfl)
  have Z_zip : mg "zip" = none := He.free_ok X G (c.t.d.fact 89 (f := .free "zip") rfl)
  have Z_any : mg "any" = none := He.free_ok X G (c.t.d.fact 90 (f := .free "any") rfl)
  have Z_sum : mg "sum" = none := He.free_ok X G (c.t.d.fact 91 (f := .free "sum") rfl)
  obtain ⟨tkM, C_MOST_VERTICES⟩ := He.int_ok X G (c.t.d.fact 92 (f := .int "MOST_VERTICES" 60) rfl)
  have e := hfa.symm.trans D_law.g
  cases e
  have T : Blt mg := ⟨He.free_ok X G (c.t.d.fact 75 (f := .free "len") rfl), He.free_ok X G (c.t.d.fact 76 (f := .free "range") rfl), He.free_ok X G (c.t.d.fact 77 (f := .free "list") rfl), He.free_ok X G (c.t.d.fact 78 (f := .free "tuple") rfl), He.free_ok X G (c.t.d.fact 79 (f := .free "int") rfl), He.free_ok X G (c.t.d.fact 80 (f := .free "min") rfl), He.free_ok X G (c.t.d.fact 81 (f := .free "max") rfl), He.free_ok X G (c.t.d.fact 82 (f := .free "sorted") rfl), He.free_ok X G (c.t.d.fact 83 (f := .free "isinstance") rfl), He.free_ok X G (c.t.d.fact 84 (f := .free "bool") rfl), He.free_ok X G (c.t.d.fact 85 (f := .free "str") rfl), He.free_ok X G (c.t.d.fact 86 (f := .free "enumerate") rfl)⟩
  have hmore := Bool.and_eq_true_iff.mp c.more
  have hnd : ([(He.cT K ("are_vertices", none)).2, (He.cT K ("is_ascending", none)).2, (He.cT K ("are_edges", none)).2, (He.cT K ("reached", none)).2] : List Addr).Nodup := of_decide_eq_true hmore.1
  have htup := Bool.and_eq_true_iff.mp hmore.2
  obtain ⟨a_KINDS, C_KINDS, h_KINDS⟩ := tupK_ok X G htup.1
  obtain ⟨a_NUMBER_KINDS, C_NUMBER_KINDS, h_NUMBER_KINDS⟩ := tupK_ok X G htup.2
  have m0 : (("are_vertices", none) : He.Defn) ∈ tfX := List.mem_cons_self
  have hco0 : D_are_vertices.fd.code = .ref (He.cT K ("are_vertices", none)).1 := code_of D_are_vertices.F rfl
  have m1 : (("is_ascending", none) : He.Defn) ∈ tfX := (List.mem_cons_of_mem _ List.mem_cons_self)
  have hco1 : D_is_ascending.fd.code = .ref (He.cT K ("is_ascending", none)).1 := code_of D_is_ascending.F rfl
  have m2 : (("are_edges", none) : He.Defn) ∈ tfX := (List.mem_cons_of_mem _ (List.mem_cons_of_mem _ List.mem_cons_self))
  have hco2 : D_are_edges.fd.code = .ref (He.cT K ("are_edges", none)).1 := code_of D_are_edges.F rfl
  have m3 : (("reached", none) : He.Defn) ∈ tfX := (List.mem_cons_of_mem _ (List.mem_cons_of_mem _ (List.mem_cons_of_mem _ List.mem_cons_self)))
  have hco3 : D_reached.fd.code = .ref (He.cT K ("reached", none)).1 := code_of D_reached.F rfl
  let TT : List (Addr × Str) := [((He.cT K ("are_vertices", none)).2, genN "are_vertices"), ((He.cT K ("is_ascending", none)).2, genN "is_ascending"), ((He.cT K ("are_edges", none)).2, genN "are_edges"), ((He.cT K ("reached", none)).2, lamN "reached")]
  have hnd' : (TT.map Prod.fst).Nodup := hnd
  have hu : ∀ {A : Addr} {N : Str}, (A, N) ∈ TT → ∀ p ∈ TT, p.1 = A → p.2 = N := fun {A N} hm p hp e => congrArg Prod.snd (map_inj_on hnd' hp hm e)
  have i0 : ((He.cT K ("are_vertices", none)).2, genN "are_vertices") ∈ TT := List.mem_cons_self
  have i1 : ((He.cT K ("is_ascending", none)).2, genN "is_ascending") ∈ TT := (List.mem_cons_of_mem _ List.mem_cons_self)
  have i2 : ((He.cT K ("are_edges", none)).2, genN "are_edges") ∈ TT := (List.mem_cons_of_mem _ (List.mem_cons_of_mem _ List.mem_cons_self))
  have i3 : ((He.cT K ("reached", none)).2, lamN "reached") ∈ TT := (List.mem_cons_of_mem _ (List.mem_cons_of_mem _ (List.mem_cons_of_mem _ List.mem_cons_self)))
  refine ⟨D_law.fd, tfX.map (He.cT K), spLaw K TT, fun p hp => ?_, fun p hp => ?_, fun p hp => ?_, fun s v => FunD.bindsA (ps := ["script"]) F74 (fun _ _ _ _ _ _ us hl => match us, hl with | [_], _ => rfl) s [v] rfl,
    fun H a ns _ _ hH hS => ⟨a, ns, rfl, hS, fun p hp => ?_, fun _ => rfl⟩, fun base _ _ hTB => ?_⟩
  · obtain ⟨d, hd, rfl⟩ := List.mem_map.mp hp
    exact c.empty _ hd
  · obtain ⟨d, hd, rfl⟩ := List.mem_map.mp hp
    exact c.out _ hd
  · obtain ⟨d, hd, rfl⟩ := List.mem_map.mp hp
    exact PySem.W.codeHd_of_K X (c.hd _ hd)
  · have hH' : ∀ d ∈ tfX, H (He.cT K d).2 = some (.tbl #[]) := fun d hd => hH _ (List.mem_map.mpr ⟨d, hd, rfl⟩)
    rcases List.mem_cons.mp hp with rfl | hp
    · exact TabS.nil (hH' _ m0)
    rcases List.mem_cons.mp hp with rfl | hp
    · exact TabS.nil (hH' _ m1)
    rcases List.mem_cons.mp hp with rfl | hp
    · exact TabS.nil (hH' _ m2)
    rw [List.mem_singleton.mp hp]
    exact TabS.nil (hH' _ m3)
  have hTB' : ∀ d ∈ tfX, LamX.TabB base mg (He.cT K d).1 (He.cT K d).2 := fun d hd => hTB _ (List.mem_map.mpr ⟨d, hd, rfl⟩)
  have TB0 := hTB' _ m0
  have TB1 := hTB' _ m1
  have TB2 := hTB' _ m2
  have TB3 := hTB' _ m3
  have G_spread := ok_spread (P := lw.prog) (w := w) (base := base) T D_law_spread
  have G_draw := ok_draw T D_law_draw D_law_spread G_spread
  have G_pool := ok_pool (P := lw.prog) (w := w) (base := base) T D_law_pool
  have G_pairs := ok_pairs (P := lw.prog) (w := w) (base := base) T D_law_pairs
  have G_distinct := ok_distinct (P := lw.prog) (w := w) (base := base) T D_law_distinct
  have G_of := ok_of T D_law_of D_law_distinct G_distinct
  have G_shuf := ok_shuffled T D_law_shuffled D_law_draw G_draw
  have G_moved := ok_moved T D_law_moved D_law_of G_of
  have G_other := ok_other T D_law_other D_law_pairs G_pairs
  have G_random := ok_random T D_law_random_graph D_law_draw G_draw D_law_pairs G_pairs
  have G_rows := ok_rows T D_law_interval_rows D_law_draw G_draw
  have G_iv := ok_ivgraph T D_law_interval_graph D_law_pairs G_pairs
  have G_turned := ok_turned T D_law_turned_graph D_law_pairs G_pairs
  have G_ringed := ok_ringed T D_law_ringed D_law_draw G_draw D_law_of G_of
  have G_ordered := ok_ordered T D_law_ordered_graph D_law_draw G_draw D_law_pairs G_pairs
  have G_clique := ok_clique T D_law_clique_graph D_law_draw G_draw
  have G_drawn := ok_drawn T D_law_drawn_tree D_law_draw G_draw
  have G_tp := ok_tree_pairs (P := lw.prog) (w := w) (base := base) T D_law_tree_pairs D_law_leaves 61
  have G_graph := ok_graph T D_law_graph D_law_draw G_draw D_law_interval_rows G_rows D_law_interval_graph G_iv D_law_turned_graph G_turned D_law_shuffled G_shuf D_law_ordered_graph G_ordered D_law_clique_graph G_clique D_law_of G_of D_law_tree_pairs G_tp D_law_drawn_tree G_drawn D_law_ringed G_ringed D_law_other G_other D_law_random_graph G_random D_law_moved G_moved
  have G_mask := ok_mask (P := lw.prog) (w := w) (base := base) (K := K) T D_mask_of
  have G_within := ok_within (P := lw.prog) (w := w) (base := base) (K := K) T D_is_within
  have G_with2 := ok_with2 (P := lw.prog) (w := w) (base := base) (K := K) T D_is_within
  have G_asc := ok_ascX (P := lw.prog) (w := w) (K := K) (TT := TT) TB1 i1 (hu i1) T Z_all D_is_ascending hco1
  have G_nl := ok_nlists (P := lw.prog) (w := w) (base := base) (K := K) T D_neighbour_lists
  have G_nm := ok_nmasks T D_neighbour_masks D_neighbour_lists G_nl D_mask_of G_mask
  have G_mem := ok_members (P := lw.prog) (w := w) (base := base) (K := K) T D_members_of
  have G_size := ok_size (P := lw.prog) (w := w) (base := base) (K := K) T D_size_of
  have G_has := ok_has (P := lw.prog) (w := w) (base := base) (K := K) T D_has
  have G_full := ok_full (P := lw.prog) (w := w) (base := base) (K := K) T D_full_mask
  have G_clq := ok_cliqueC T Z_all D_is_clique D_members_of G_mem D_is_within G_within
  have G_clq2 := ok_clique30 T Z_all D_is_clique D_members_of G_mem D_is_within G_with2
  have G_mb := ok_mbeh T D_masks_behind D_neighbour_masks G_nm D_mask_of G_mask
  have G_st := ok_areSteps T Z_all Z_zip D_are_steps D_neighbour_masks G_nm D_has G_has
  have G_rd := ok_reachedG (P := lw.prog) (w := w) (TT := TT) i3 (hu i3) TB3 T D_reached hco3 D_reached_by
  have G_wt := ok_wayto (P := lw.prog) (w := w) (base := base) (K := K) T D_way_to
  have G_sp := ok_spath T D_shortest_path D_neighbour_lists G_nl D_reached G_rd D_way_to G_wt
  have G_pp := ok_past T D_path_past D_mask_of G_mask D_has G_has D_shortest_path G_sp
  have G_ti := ok_tied T D_tied D_members_of G_mem D_is_clique G_clq2
  have G_co := ok_order T D_clique_order D_neighbour_masks G_nm D_full_mask G_full D_tied G_ti D_members_of G_mem
  have G_fh := ok_find T D_find_hole D_clique_order G_co D_neighbour_masks G_nm D_has G_has D_path_past G_pp
  have G_isq : ∀ b, FnOk lw.prog w K mg base CX0 16 D_is_question.f D_is_question.fd ["graph", "value"] (spQX b TT) := fun b => by
    have G_int := ok_intX (b := b) (P := lw.prog) (w := w) (base := base) (K := K) T D_is_integer
    have G_tup := ok_tupX (b := b) (P := lw.prog) (w := w) (base := base) (K := K) T D_is_tuple
    have G_vx := ok_vxX T D_is_vertex D_is_integer G_int
    have G_vs := ok_vsX (TT := TT) TB0 i0 (hu i0) T Z_all D_are_vertices hco0 D_is_vertex G_vx
    have G_set := ok_setX T D_is_set D_are_vertices G_vs D_is_ascending G_asc
    have G_edg := ok_edgX T D_is_edge D_is_tuple G_tup D_is_set G_set
    have G_eds := ok_edsX (TT := TT) TB2 i2 (hu i2) T Z_all D_are_edges hco2 D_is_edge G_edg D_is_ascending G_asc
    have G_siz := ok_sizX T C_MOST_VERTICES D_is_size D_is_integer G_int
    have G_gph := ok_gphX T D_is_graph D_is_tuple G_tup D_is_size G_siz D_are_edges G_eds
    have G_num := ok_numX T D_is_number D_is_integer G_int
    have G_ends := ok_endsX T D_are_ends D_is_vertex G_vx
    exact ok_isq T C_KINDS C_NUMBER_KINDS h_KINDS h_NUMBER_KINDS D_is_question D_is_tuple G_tup D_is_graph G_gph D_are_ends G_ends D_is_number G_num
  have G_de := ok_decide T D_decide D_is_question (G_isq 0) D_class_paper (ok_cpap T D_class_paper D_chordal_paper (ok_cpaper T D_chordal_paper D_clique_order G_co D_find_hole G_fh))
  have G_ch : ∀ b, FnOk lw.prog w K mg base CX0 18 D_check.f D_check.fd ["graph", "question", "paper"] (spCheck b TT) := fun b => by
    have G_int := ok_intX (b := b) (P := lw.prog) (w := w) (base := base) (K := K) T D_is_integer
    have G_tup := ok_tupX (b := b) (P := lw.prog) (w := w) (base := base) (K := K) T D_is_tuple
    have G_vx := ok_vxX T D_is_vertex D_is_integer G_int
    have G_vs := ok_vsX (TT := TT) TB0 i0 (hu i0) T Z_all D_are_vertices hco0 D_is_vertex G_vx
    have G_row := ok_isRow T Z_set D_is_row D_are_vertices G_vs
    have G_ord := ok_ordX T D_is_order D_is_row G_row
    have G_cyc := ok_isCycle T D_is_cycle D_is_row G_row D_are_steps G_st
    have G_hol := ok_holeX T Z_all D_is_hole D_is_cycle G_cyc D_neighbour_masks G_nm D_size_of G_size D_mask_of G_mask
    have G_cb := ok_clib T Z_all D_are_cliques_behind D_is_order G_ord D_neighbour_masks G_nm D_masks_behind G_mb D_is_clique G_clq
    have G_cp := ok_class T D_is_class_paper D_are_cliques_behind G_cb D_is_hole G_hol
    have G_ri := ok_right T D_is_right D_is_class_paper G_cp
    exact ok_check T D_check D_is_question (G_isq b) D_is_tuple G_tup D_is_right G_ri
  have G_li : ∀ b, FnOk lw.prog w K mg base CX0 1 D_law_is_int.f D_law_is_int.fd ["x"] (spIntX b) := fun b => ok_lintX (b := b) T D_law_is_int
  have G_disJ := ok_disJ (P := lw.prog) (w := w) (base := base) (K := K) T D_law_distinct
  have G_met := ok_met (P := lw.prog) (w := w) (base := base) (K := K) T D_law_met
  have G_near := ok_near T D_law_near D_law_met G_met
  have G_subs := ok_subs (P := lw.prog) (w := w) (base := base) (K := K) T D_law_subsets
  have G_lh : ∀ b, FnOk lw.prog w K mg base CX0 5 D_law_is_hole.f D_law_is_hole.fd ["graph", "value"] (spLHolX b) := fun b => by
    have G_ro := ok_lrowX T D_law_is_row D_law_is_int (G_li b) D_law_distinct G_disJ
    have G_wa := ok_lwayX T D_law_is_way D_law_is_row G_ro D_law_met G_met
    have G_ba := ok_lbareX T D_law_bare D_law_pairs G_pairs D_law_met G_met
    exact ok_lholX T D_law_is_hole D_law_is_way G_wa D_law_met G_met D_law_bare G_ba
  have G_cr : ∀ b, FnOk lw.prog w K mg base CX0 6 D_law_chordal_right.f D_law_chordal_right.fd ["graph", "answer", "data"] (spChoR b) := fun b => by
    have G_ro := ok_lrowX T D_law_is_row D_law_is_int (G_li b) D_law_distinct G_disJ
    exact ok_choR T D_law_chordal_right D_law_is_hole (G_lh b) D_law_is_row G_ro D_law_pairs G_pairs D_law_met G_met
  have G_ring := ok_ring T D_law_ring_of D_law_met G_met
  have G_hs := ok_holes T D_law_holes D_law_subsets G_subs D_law_near G_near D_law_ring_of G_ring D_law_is_hole (G_lh 0)
  exact ok_law T D_law D_law_pool G_pool D_law_graph G_graph D_law_draw G_draw D_law_clique_graph G_clique D_decide G_de D_law_holes G_hs D_law_chordal_right (G_cr 0) D_check (G_ch 0)

end Z
set_option Elab.async false
set_option linter.all false
set_option maxRecDepth 100000
open PySem PySem.W PySem.Calls PyProof.Rows
set_option maxHeartbeats 0 in
theorem PySem.Challenge.cw_trellis_k34_chordal_graphs_holds : PySem.Challenge.rw_trellis_k34_chordal_graphs.Holds := by
  refine HT.lawX fun said => ?_
  refine HandSHeadRun.head_any (r := OpenLaw.row PySem.Challenge.rw_trellis_k34_chordal_graphs) (q := Z.qV) (H := Z.hkX) (ob := Z.obX) (M := Z.mX) (loose := Z.names) (d := HandSHeadRun.topDef (OpenLaw.row PySem.Challenge.rw_trellis_k34_chordal_graphs).prog 350) (kwd := []) Z.obX_eq
    (by kernel_rfl) (fun s => by kernel_rfl) Z.runX (by kernel_rfl) (by kernel_rfl) (by kernel_rfl) (by rfl) said (by decide +kernel) HT.bareX HT.witX ?hc
  case hc =>
    refine LamX.walk_ofTsE (l := PySem.Challenge.rw_trellis_k34_chordal_graphs) (n := 63) (k := 64) (x := "script") (CX := fun _ => L2.CX0) rfl (by decide) rfl ⟨rfl, by decide, by decide⟩ ?F (fun _ _ _ _ _ h => h)
    intro w mg fa h Y G hmg0
    obtain ⟨K, KX, c⟩ := Y
    have hmg : mg ("law" : PySem.Str) = some (.ref fa) := by
      have e : (HandSHeadRun.topDef (OpenLaw.row PySem.Challenge.rw_trellis_k34_chordal_graphs).prog 350).name = ("law" : PySem.Str) := by kernel_rfl
      rw [← e]
      exact hmg0
    exact ⟨K, KX, Z.facts KX G hmg c⟩
