import PyProof.Rows.All
import Wide.All
import OpenK.AllK
import Wide.FinOn
import HandS.ForMost
import HandS.Wide
import HandS.TupSets
import HandS.Deep
import HandS.IsInst
import HandS.Conv
import HandS.SortRule
import PyProof.WalkInts
import HandS.SetBool
import HandS.ExcOwn
import HandS.WordsExc
import HandS.ExcIs
import HandS.TryOnly
import HandS.TryElse
import HandS.More
import KE.GoesEnum
import KE.GoesMore
import HandS.DictTup
import HandS.DictComp
import HandS.Iter
import HandS.TupAny
import PyProof.Rows.MatchSeqLen
import PyProof.RulesMatch
import HandS.Star
import HandS.ExcCtx
import HandS.Hot
import HandS.HotCalls
import PyProof.MinMaxWalk
import HandS.Text
import HandS.Strs
import HandS.SetIn
import KE.KSetDisp
import PyProof.SetRoads
import HandS.SortOrd
import KE.KIndexOf
import KE.DataMinMax
import KE.SortData
import PyProof.Rows.RowBridgeK
import KE.KRevSl
import HandS.Style
import KE.DataFind
import KE.KUnpack
import HandS.SetFor
import HandS.Lambda
import HandS.EndTab
import HandS.AnyAll
import HandS.GenOver
import HandS.Zip
import PyProof.EqKinds
import KE.SortKeyHeap
import HandS.SortKw
import PyProof.NeData
import PySem.Challenge.RW_trellis_k55_decompositions
import HandS.Head0
import HandS.Head1
import HandS.Head2
import HandS.HeadHook2
import HandS.HeadHook4
import HandS.HeadNt
import HandS.HeadWalk
import KE.KNestM
set_option Elab.async false
set_option linter.all false
set_option maxRecDepth 100000
set_option maxHeartbeats 2000000
namespace Z
open PySem PySem.Spec PyProof.Rows L2

/-! ## heaps -/
/-- all but what stands at a is as it was -/
def Gr (a : Addr) (H H' : Hp) : Prop := ∀ b o, b ≠ a → H b = some o → H' b = some o
theorem Gr.refl (a : Addr) (H : Hp) : Gr a H H := fun _ _ _ h => h
theorem Gr.trans {a : Addr} {H H1 H2 : Hp} (x : Gr a H H1) (y : Gr a H1 H2) : Gr a H H2 := fun b o n h => y b o n (x b o n h)
theorem Gr.of_same {a : Addr} {H H' : Hp} (x : Same H H') : Gr a H H' := fun b o _ h => x b o h
theorem same_new {H : Hp} {p : Addr} {o : HO} (h : H p = none) : Same H (upd H p o) := fun b u e => by
  rw [upd_ne (ne_of_none e h)]
  exact e
theorem Gr.new {a : Addr} {H : Hp} {p : Addr} {o : HO} (h : H p = none) : Gr a H (upd H p o) := .of_same (same_new h)
/-- the object at a itself is written -/
theorem Gr.self {a : Addr} {H : Hp} {o : HO} : Gr a H (upd H a o) := fun b u n e => by
  rw [upd_ne n]
  exact e
/-- an object that H did not know is written -/
theorem Gr.mut {a : Addr} {H H' : Hp} {p : Addr} {o : HO} (x : Gr a H H') (h : H p = none) : Gr a H (upd H' p o) := fun b u n e => by
  rw [upd_ne (ne_of_none e h)]
  exact x b u n e
theorem same_mut {H H' : Hp} {p : Addr} {o : HO} (x : Same H H') (h : H p = none) : Same H (upd H' p o) := fun b u e => by
  rw [upd_ne (ne_of_none e h)]
  exact x b u e
/-- what is free now was free then -/
theorem Gr.free {a : Addr} {H H' : Hp} (x : Gr a H H') (ha : H' a ≠ none) {p : Addr} (h : H' p = none) : H p = none := by
  cases e : H p with
  | none => rfl
  | some o =>
    by_cases n : p = a
    · rw [n] at h
      exact absurd h ha
    · rw [x p o n e] at h
      cases h
/-- the tuples stand -/
def TK (H H' : Hp) : Prop := ∀ b xs, H b = some (.tup xs) → H' b = some (.tup xs)
theorem TK.refl (H : Hp) : TK H H := fun _ _ h => h
theorem TK.trans {H H1 H2 : Hp} (x : TK H H1) (y : TK H1 H2) : TK H H2 := fun b o h => y b o (x b o h)
theorem TK.of_same {H H' : Hp} (x : Same H H') : TK H H' := fun b o h => x b _ h
theorem TK.of_gr {a : Addr} {H H' : Hp} {xs : List V} (x : Gr a H H') (h : H a = some (.lst xs)) : TK H H' := fun b o e => x b _ (fun n => by
  rw [n, h] at e
  cases e) e
theorem TK.lst {H : Hp} {p : Addr} {xs ys : List V} (h : H p = some (.lst xs)) : TK H (upd H p (.lst ys)) := fun b o e => by
  rw [upd_ne (fun n => by rw [n, h] at e; cases e)]
  exact e
theorem TK.new {H : Hp} {p : Addr} {o : HO} (h : H p = none) : TK H (upd H p o) := .of_same (same_new h)

/-! ## pairs -/
/-- x is the tuple of these two ints -/
def IsP (H : Hp) (x : V) (p : Int × Int) : Prop := ∃ t, x = .ref t ∧ H t = some (.tup [.int p.1, .int p.2])
theorem IsP.tk {H H' : Hp} (k : TK H H') {x : V} {p : Int × Int} (h : IsP H x p) : IsP H' x p := by
  obtain ⟨t, e, h⟩ := h
  exact ⟨t, e, k _ _ h⟩
abbrev Prs (H : Hp) : List V → List (Int × Int) → Prop := Paired (IsP H)
theorem Prs.tk {H H' : Hp} (k : TK H H') : ∀ {xs : List V} {ps : List (Int × Int)}, Prs H xs ps → Prs H' xs ps
  | _, _, .nil => .nil
  | _, _, .cons h t => .cons (h.tk k) (Prs.tk k t)
theorem pd_get {α β : Type} {F : α → β → Prop} : ∀ {xs : List α} {ps : List β} {i : Nat} {x : α}, Paired F xs ps → xs[i]? = some x → ∃ p, ps[i]? = some p ∧ F x p
  | _, _, _, _, .nil, h => by simp at h
  | _, _, 0, _, .cons f _, h => by
    have e := Option.some.inj h
    subst e
    exact ⟨_, rfl, f⟩
  | _, _, i + 1, _, .cons _ t, h => pd_get (i := i) t h
theorem pd_get2 {α β : Type} {F : α → β → Prop} : ∀ {xs : List α} {ps : List β} {i : Nat} {p : β}, Paired F xs ps → ps[i]? = some p → ∃ x, xs[i]? = some x ∧ F x p
  | _, _, _, _, .nil, h => by simp at h
  | _, _, 0, _, .cons f _, h => by
    have e := Option.some.inj h
    subst e
    exact ⟨_, rfl, f⟩
  | _, _, i + 1, _, .cons _ t, h => pd_get2 (i := i) t h
theorem pd_mem {α β : Type} {F : α → β → Prop} {xs : List α} {ps : List β} {x : α} (h : Paired F xs ps) (hx : x ∈ xs) : ∃ p ∈ ps, F x p := by
  obtain ⟨i, hi, e⟩ := List.mem_iff_getElem.mp hx
  obtain ⟨p, hp, f⟩ := pd_get h (List.getElem?_eq_some_iff.mpr ⟨hi, e⟩)
  exact ⟨p, List.mem_of_getElem? hp, f⟩
theorem pd_append {α β : Type} {F : α → β → Prop} : ∀ {xs ys : List α} {ps qs : List β}, Paired F xs ps → Paired F ys qs → Paired F (xs ++ ys) (ps ++ qs)
  | _, _, _, _, .nil, h => h
  | _, _, _, _, .cons f t, h => .cons f (pd_append t h)
theorem pd_take {α β : Type} {F : α → β → Prop} : ∀ {xs : List α} {ps : List β} (n : Nat), Paired F xs ps → Paired F (xs.take n) (ps.take n)
  | _, _, 0, _ => .nil
  | _, _, _ + 1, .nil => .nil
  | _, _, n + 1, .cons f t => .cons f (pd_take n t)
theorem pd_drop {α β : Type} {F : α → β → Prop} : ∀ {xs : List α} {ps : List β} (n : Nat), Paired F xs ps → Paired F (xs.drop n) (ps.drop n)
  | _, _, 0, h => h
  | _, _, _ + 1, .nil => .nil
  | _, _, n + 1, .cons _ t => pd_drop n t

/-! ## data, for == and in -/
theorem IsP.dp {K : PySem.W.Frag} {H : Hp} {x : V} {p : Int × Int} (h : IsP H x p) : Dp K H x (.tuple [.int p.1, .int p.2]) := by
  obtain ⟨t, rfl, h⟩ := h
  exact .tup (.inl (.inl h)) (.cons (.int _) (.cons (.int _) .nil))
def prD2 (p : Int × Int) : PyData := .tuple [.int p.1, .int p.2]
theorem Prs.dps {K : PySem.W.Frag} {H : Hp} : ∀ {xs : List V} {ps : List (Int × Int)}, Prs H xs ps → DpAll K H xs (ps.map prD2)
  | _, _, .nil => .nil
  | _, _, .cons h t => .cons h.dp (Prs.dps t)
theorem prD2_lay (z : Int × Int) : (prD2 z).canLay0 = true := by simp [prD2, PyData.canLay0, PyData.canLayAll0]
theorem prD2_depth (z : Int × Int) : (prD2 z).depth = 1 := by simp [prD2, PyData.depth, PyData.depthAll]
theorem prD2s_lay : ∀ zs : List (Int × Int), PyData.canLayAll0 (zs.map prD2) = true
  | [] => by simp [PyData.canLayAll0]
  | z :: zs => by simp [PyData.canLayAll0, prD2_lay z, prD2s_lay zs]
theorem prD2s_depth : ∀ zs : List (Int × Int), PyData.depthAll (zs.map prD2) ≤ 1
  | [] => by simp [PyData.depthAll]
  | z :: zs => by
    have h1 := prD2s_depth zs
    have h2 := prD2_depth z
    simp only [List.map_cons, PyData.depthAll]
    omega
theorem shaped_of {d : PyData} (h1 : d.canLay0 = true) (h2 : d.depth ≤ 64) : SeqAt.shaped d = true := by
  show (d.canLay0 && decide (d.depth ≤ 64)) = true
  rw [Bool.and_eq_true]
  exact ⟨h1, decide_eq_true h2⟩
theorem prD2_shaped (z : Int × Int) : SeqAt.shaped (prD2 z) = true := shaped_of (prD2_lay z) (by rw [prD2_depth]; omega)
theorem prD2s_shL (zs : List (Int × Int)) : SeqAt.shaped (.list (zs.map prD2)) = true := shaped_of (by simp only [PyData.canLay0]; exact prD2s_lay zs) (by
  have h := prD2s_depth zs
  simp only [PyData.depth]
  omega)
theorem prD2_eqv (z w : Int × Int) : PyData.eqv (prD2 z) (prD2 w) = decide (z = w) := by
  obtain ⟨a, b⟩ := z
  obtain ⟨c, d⟩ := w
  have e : PyData.eqv (prD2 (a, b)) (prD2 (c, d)) = ((a == c) && ((b == d) && true)) := by simp only [prD2, PyData.eqv, PyData.eqvAll]
  rw [e]
  by_cases h1 : a = c <;> by_cases h2 : b = d <;> simp [h1, h2]
theorem prD2s_any (zs : List (Int × Int)) (w : Int × Int) : ((zs.map prD2).any fun z => PyData.eqv z (prD2 w)) = decide (w ∈ zs) := by
  induction zs with
  | nil => simp
  | cons z zs ih =>
    rw [List.map_cons, List.any_cons, ih, prD2_eqv]
    by_cases h : z = w
    · simp [h]
    · have h' : ¬ w = z := fun q => h q.symm
      simp [h, h']

/-! ## rules of my own -/
section
variable {X : Cx}
/-- x in t, t a tuple of pairs -/
def rInP (K : PySem.W.Frag) : R2 := fun x y H Q => ∃ (p : Int × Int) (b : Addr) (xs : List V) (ps : List (Int × Int)), IsP H x p ∧ y = .ref b ∧ SqT K H b xs ∧ Prs H xs ps ∧ Q (.bl (decide (p ∈ ps))) H
def rNinP (K : PySem.W.Frag) : R2 := fun x y H Q => ∃ (p : Int × Int) (b : Addr) (xs : List V) (ps : List (Int × Int)), IsP H x p ∧ y = .ref b ∧ SqT K H b xs ∧ Prs H xs ps ∧ Q (.bl (!decide (p ∈ ps))) H
theorem units65 {k : Nat} {A : Around} (r : Room k A) : A.units + 65 < cLine := by have := r.un; omega
theorem roomP {A : Around} {ds : List PyData} (h : A.units + 64 < cLine) (p : Int × Int) : A.units + 1 + min (PyData.depthAll ds) (prD2 p).depth < cLine := by
  have := Nat.min_le_right (PyData.depthAll ds) (prD2 p).depth
  rw [prD2_depth] at this
  rw [prD2_depth]
  omega
theorem op_notInTD {k : Nat} (hr : Room k X.A) : OpR X (compareOp .NotIn) (rNinP X.K) := by
  intro pins s σ H x y v u Q I rx ry h
  obtain ⟨p, b, xs, ps, hx, rfl, hb, hp, q⟩ := h
  obtain ⟨as, r1⟩ := Dp.reads I (prD2 p) x v hx.dp rx
  obtain ⟨bs, r2⟩ := Dp.reads I (.tuple (ps.map prD2)) (.ref b) u (.tup hb hp.dps) ry
  exact SeqAt.notIn_tuple_reads r2 r1 (prD2s_lay ps) (prD2_lay p) (roomP hr.units p) ⟨.bl _, H, I, rfl, by rw [prD2s_any]; exact q⟩
/-- min, max of a pair -/
def rMinT : List V → Hp → VK → Prop := fun vs H Q => ∃ (x : V) (p : Int × Int), vs = [x] ∧ IsP H x p ∧ Q (.int (min p.1 p.2)) H
def rMaxT : List V → Hp → VK → Prop := fun vs H Q => ∃ (x : V) (p : Int × Int), vs = [x] ∧ IsP H x p ∧ Q (.int (max p.1 p.2)) H
theorem pair_raw {pins : List (Addr × Obj)} {σ : L2.St} {H : Hp} {s : Shared} {t : Addr} {i j : Int} (I : Inv X pins σ H s) (h : H t = some (.tup [.int i, .int j])) :
    ∃ a b, s.heap.IsTuple t (intItems #[(i, a), (j, b)]) := by
  obtain ⟨its, rv, ⟨o, ho, hc, n, hd⟩, _⟩ := I.tuple (SqT.of (K := X.K) h)
  obtain ⟨u, w, e, r1, r2⟩ := vals2 rv
  obtain ⟨a, rfl⟩ := r1
  obtain ⟨b, rfl⟩ := r2
  subst e
  exact ⟨a, b, o, ho, hc, n, by simpa [intItems] using hd⟩
theorem cr_minT (hc : X.calm = true) : CallR X (.builtin "min") rMinT := by
  intro pins s σ H vs us Q I r h
  obtain ⟨x, ⟨i, j⟩, rfl, ⟨t, rfl, ht⟩, q⟩ := h
  rw [Vals.ref1 r]
  obtain ⟨a, b, hT⟩ := pair_raw I ht
  have hlt : t < s.heap.objs.size := by
    obtain ⟨o, ho, _⟩ := hT
    exact Heap.lt_size ho
  refine call_min_walk (wpAny_pyIter_tuple hT ?_)
  refine ⟨_, _, _, _, _, _, _, rfl, Walks.tuple (A := X.A.in1) (I.ok.hd hc) s.heap.objs.size t (Nat.ne_of_lt hlt) (intItems #[(i, a), (j, b)]),
    ⟨⟨_, Heap.get?_push_size _ rfl, rfl, rfl⟩, hT.push _⟩, fun c hm => ?_, by simp [intItems], CmpOf.ints_lt (numAt #[(i, a), (j, b)]) (fun _ _ => intItems_at), fun v h' tk hP hk => ?_⟩
  · show c < (s.heap.push _).objs.size
    rw [Heap.size_push]
    rcases List.mem_cons.mp hm with e | hm
    · rw [e]
      exact Nat.lt_succ_self _
    · rw [List.mem_singleton.mp hm]
      exact Nat.lt_succ_of_lt hlt
  · obtain ⟨tt, rfl⟩ := intItems_at hP
    obtain ⟨h1, h2⟩ := argBest_lt (numAt #[(i, a), (j, b)]) ((intItems #[(i, a), (j, b)]).size - 1)
    have e1 : (intItems #[(i, a), (j, b)]).size - 1 = 1 := by simp [intItems]
    rw [e1] at h1 h2 ⊢
    have n0 : numAt #[(i, a), (j, b)] 0 = i := rfl
    have n1 : numAt #[(i, a), (j, b)] 1 = j := rfl
    have g0 := h2 0 (by omega)
    have g1 := h2 1 (by omega)
    rw [n0] at g0
    rw [n1] at g1
    have ev : numAt #[(i, a), (j, b)] (argBest (fun k l => decide (numAt #[(i, a), (j, b)] k < numAt #[(i, a), (j, b)] l)) 1) = min i j := by
      generalize argBest (fun k l => decide (numAt #[(i, a), (j, b)] k < numAt #[(i, a), (j, b)] l)) 1 = z at h1 g0 g1 ⊢
      have hz : z = 0 ∨ z = 1 := by omega
      rcases hz with e | e
      · subst e; rw [n0] at g0 g1 ⊢; omega
      · subst e; rw [n1] at g0 g1 ⊢; omega
    refine ⟨.int (min i j), H, I.kept (t' := tk) fun b u e => hk b u (fun hmem => ?_) (Heap.get?_push_of_some _ e), ⟨tt, by rw [ev]⟩, q⟩
    have e2 := Heap.lt_size e
    rw [List.mem_singleton.mp hmem] at e2
    exact absurd e2 (Nat.lt_irrefl _)
theorem cr_maxT (hc : X.calm = true) : CallR X (.builtin "max") rMaxT := by
  intro pins s σ H vs us Q I r h
  obtain ⟨x, ⟨i, j⟩, rfl, ⟨t, rfl, ht⟩, q⟩ := h
  rw [Vals.ref1 r]
  obtain ⟨a, b, hT⟩ := pair_raw I ht
  have hlt : t < s.heap.objs.size := by
    obtain ⟨o, ho, _⟩ := hT
    exact Heap.lt_size ho
  refine call_max_walk (wpAny_pyIter_tuple hT ?_)
  refine ⟨_, _, _, _, _, _, _, rfl, Walks.tuple (A := X.A.in1) (I.ok.hd hc) s.heap.objs.size t (Nat.ne_of_lt hlt) (intItems #[(i, a), (j, b)]),
    ⟨⟨_, Heap.get?_push_size _ rfl, rfl, rfl⟩, hT.push _⟩, fun c hm => ?_, by simp [intItems], CmpOf.ints_gt (numAt #[(i, a), (j, b)]) (fun _ _ => intItems_at), fun v h' tk hP hk => ?_⟩
  · show c < (s.heap.push _).objs.size
    rw [Heap.size_push]
    rcases List.mem_cons.mp hm with e | hm
    · rw [e]
      exact Nat.lt_succ_self _
    · rw [List.mem_singleton.mp hm]
      exact Nat.lt_succ_of_lt hlt
  · obtain ⟨tt, rfl⟩ := intItems_at hP
    obtain ⟨h1, h2⟩ := argBest_gt (numAt #[(i, a), (j, b)]) ((intItems #[(i, a), (j, b)]).size - 1)
    have e1 : (intItems #[(i, a), (j, b)]).size - 1 = 1 := by simp [intItems]
    rw [e1] at h1 h2 ⊢
    have n0 : numAt #[(i, a), (j, b)] 0 = i := rfl
    have n1 : numAt #[(i, a), (j, b)] 1 = j := rfl
    have g0 := h2 0 (by omega)
    have g1 := h2 1 (by omega)
    rw [n0] at g0
    rw [n1] at g1
    have ev : numAt #[(i, a), (j, b)] (argBest (fun k l => decide (numAt #[(i, a), (j, b)] k > numAt #[(i, a), (j, b)] l)) 1) = max i j := by
      generalize argBest (fun k l => decide (numAt #[(i, a), (j, b)] k > numAt #[(i, a), (j, b)] l)) 1 = z at h1 g0 g1 ⊢
      have hz : z = 0 ∨ z = 1 := by omega
      rcases hz with e | e
      · subst e; rw [n0] at g0 g1 ⊢; omega
      · subst e; rw [n1] at g0 g1 ⊢; omega
    refine ⟨.int (max i j), H, I.kept (t' := tk) fun b u e => hk b u (fun hmem => ?_) (Heap.get?_push_of_some _ e), ⟨tt, by rw [ev]⟩, q⟩
    have e2 := Heap.lt_size e
    rw [List.mem_singleton.mp hmem] at e2
    exact absurd e2 (Nat.lt_irrefl _)
/-- the order of pairs -/
def leP (p q : Int × Int) : Prop := p.1 < q.1 ∨ (p.1 = q.1 ∧ p.2 ≤ q.2)
def ltP (p q : Int × Int) : Prop := p.1 < q.1 ∨ (p.1 = q.1 ∧ p.2 < q.2)
/-- which pair stands at x -/
def kP (H : Hp) : V → Int × Int
  | .ref t => match H t with
    | some (.tup [.int i, .int j]) => (i, j)
    | _ => (0, 0)
  | _ => (0, 0)
theorem IsP.k {H : Hp} {x : V} {p : Int × Int} (h : IsP H x p) : kP H x = p := by
  obtain ⟨t, rfl, h⟩ := h
  simp only [kP, h]
/-- sorted(xs), xs a list of pairs -/
def rSortPr (K : PySem.W.Frag) : List V → Hp → VK → Prop := fun vs H Q => ∃ (a : Addr) (xs : List V) (ps : List (Int × Int)), vs = [V.ref a] ∧ SqL K H a xs ∧ Prs H xs ps ∧
  ∀ (ys : List V) (qs : List (Int × Int)) (p : Addr), qs.Perm ps → Prs H ys qs → qs.Pairwise leP → H p = none → Q (.ref p) (upd H p (.lst ys))
theorem prs_of_k {H : Hp} : ∀ {ys : List V}, (∀ y ∈ ys, IsP H y (kP H y)) → Prs H ys (ys.map (kP H))
  | [], _ => .nil
  | y :: ys, h => .cons (h y List.mem_cons_self) (prs_of_k fun z hz => h z (List.mem_cons_of_mem _ hz))
theorem prs_k {H : Hp} : ∀ {xs : List V} {ps : List (Int × Int)}, Prs H xs ps → xs.map (kP H) = ps
  | _, _, .nil => rfl
  | _, _, .cons h t => by rw [List.map_cons, h.k, prs_k t]
theorem cr_sortPr : CallR X (.builtin "sorted") (rSortPr X.K) := by
  intro pins s σ H vs us Q I r h
  obtain ⟨a, xs, ps, rfl, hs, hp, q⟩ := h
  have at_ : ∀ x ∈ xs, IsP H x (kP H x) := fun x hx => by
    obtain ⟨p, _, f⟩ := pd_mem hp hx
    rw [f.k]
    exact f
  refine cr_sortedPO pins s σ H [V.ref a] us Q I r ⟨a, xs, kP H, rfl, hs, fun x hx => ?_, fun ys p sr st hn => ?_⟩
  · obtain ⟨t, e, h⟩ := at_ x hx
    exact ⟨t, e, h⟩
  · refine q ys (ys.map (kP H)) p ?_ (prs_of_k fun y hy => at_ y (st.perm.mem_iff.mp hy)) ?_ hn
    · rw [← prs_k hp]
      exact st.perm.map _
    · refine List.pairwise_map.mpr (List.Pairwise.imp (fun {x y} h => ?_) sr)
      have h2 := SrtO.lexB_no.mp h
      unfold leP
      omega
end

set_option Elab.async false
set_option linter.all false
set_option maxRecDepth 100000
set_option maxHeartbeats 2000000
open PySem PySem.Spec PyProof.Rows L2
/-! ## steps of a reading -/
theorem int_beq (i j : Int) : (i == j) = decide (i = j) := by
  by_cases h : i = j <;> simp [h]
def rInt1 : List V → Hp → VK → Prop := fun xs H Q => (∃ i, xs = [.int i] ∧ Q (.int i) H) ∨ ∃ k, xs = [.bl k] ∧ Q (.int (if k then 1 else 0)) H
def rMin2 : List V → Hp → VK → Prop := fun xs H Q => ∃ i j, xs = [.int i, .int j] ∧ Q (.int (if j < i then j else i)) H
def rMax2 : List V → Hp → VK → Prop := fun xs H Q => ∃ i j, xs = [.int i, .int j] ∧ Q (.int (if j > i then j else i)) H
def rLen (K : PySem.W.Frag) : List V → Hp → VK → Prop := fun xs H Q => ∃ p ys, xs = [.ref p] ∧ (SqL K H p ys ∨ SqT K H p ys) ∧ Q (.int ys.length) H
def rListOf (K : PySem.W.Frag) : List V → Hp → VK → Prop := fun xs H Q => ∃ p ys, xs = [.ref p] ∧ (SqL K H p ys ∨ SqT K H p ys) ∧ ∀ l, H l = none → Q (.ref l) (upd H l (.lst ys))
def rTupOf (K : PySem.W.Frag) : List V → Hp → VK → Prop := fun xs H Q => ∃ p ys, xs = [.ref p] ∧ ((SqL K H p ys ∧ ∀ l, H l = none → Q (.ref l) (upd H l (.tup ys))) ∨ (SqT K H p ys ∧ Q (.ref p) H))
section
variable {X : Cx}
variable {K : PySem.W.Frag}
theorem ix_listK (h : X.K = K) : IxR X (rIxL K) := h ▸ ix_list
theorem ix_tupK (h : X.K = K) : IxR X (rIxT K) := h ▸ ix_tup
theorem ix_eitherK (h : X.K = K) : IxR X (fun x y H Q => rIxL K x y H Q ∨ rIxT K x y H Q) := h ▸ ix_list.or ix_tup
theorem sl_listK (h : X.K = K) : SlR X (rSlL K) := h ▸ sl_list
theorem sl_tupK (h : X.K = K) : SlR X (rSlT K) := h ▸ sl_tup
theorem op_inSeqK (h : X.K = K) : OpR X (compareOp .In) (rIn K false) := h ▸ op_in_seq
theorem op_ninSeqK (h : X.K = K) : OpR X (compareOp .NotIn) (rIn K true) := h ▸ op_notIn_seq
theorem op_ninPK {k : Nat} (h : X.K = K) (hr : Room k X.A) : OpR X (compareOp .NotIn) (rNinP K) := h ▸ op_notInTD hr
theorem op_eqDK (h : X.K = K) (hu : X.A.units + 64 < cLine) : OpR X (compareOp .Eq) (rEqD K) := h ▸ op_eqD hu
theorem op_neDK (h : X.K = K) (hu : X.A.units + 64 < cLine) : OpR X (compareOp .NotEq) (rNeD K) := h ▸ op_neD hu
theorem op_catTK (h : X.K = K) : OpR X (binaryOp .Add) (rCatT K) := h ▸ op_catT
theorem PE.bmK {e : Expr} {T : String} {r : V → List V → Hp → VK → Prop} {to : TE} {t : TA} (h : X.K = K) (p : PE X e (tBM X.K T r to t)) : PE X e (tBM K T r to t) := h ▸ p
theorem PG.tupK {e : Expr} {n : Nat} {t : TGs} (h : X.K = K) (p : PG X e (gTup X.K n t)) : PG X e (gTup K n t) := h ▸ p
theorem PI.listK {tg e : Expr} {tl : TE} (h : X.K = K) (p : PI X tg e (iList X.K tl)) : PI X tg e (iList K tl) := h ▸ p
theorem PI.tupK {tg e : Expr} {tl : TE} (h : X.K = K) (p : PI X tg e (iTup X.K tl)) : PI X tg e (iTup K tl) := h ▸ p
theorem mt_indexK (h : X.K = K) : MtR X "list.index" (rIndex K) := h ▸ mt_index
theorem cr_sortPrK (h : X.K = K) : CallR X (.builtin "sorted") (rSortPr K) := h ▸ cr_sortPr
theorem call_isiK (h : X.K = K) : CallR X (.builtin "isinstance") (rIsi K) := h ▸ call_isi
theorem call_lenK (h : X.K = K) : CallR X (.builtin "len") (rLen K) := h ▸ call_len_seq
theorem call_listK (h : X.K = K) : CallR X (.type "list") (rListOf K) := h ▸ call_list_of
theorem call_tupleK (h : X.K = K) : CallR X (.type "tuple") (rTupOf K) := h ▸ call_tuple_of
theorem call_int1' : CallR X (.type "int") rInt1 := call_int1
theorem call_min2' (hc : X.calm = true) : CallR X (.builtin "min") rMin2 := call_min2 hc
theorem call_max2' (hc : X.calm = true) : CallR X (.builtin "max") rMax2 := call_max2 hc
end
section
variable {K : PySem.W.Frag} {σ : L2.St} {H : Hp} {Q : VK} {ta tb tc te : TE} {t u : TT}
theorem r_var {i : Nat} {v : V} (h : σ[i]? = some (some v)) (q : Q v H) : tVar i σ H Q := ⟨v, h, q⟩
theorem r_c {v : V} (q : Q v H) : tC v σ H Q := q
theorem r_op {r : R2} (h : ta σ H fun x H1 => tb σ H1 fun y H2 => r x y H2 Q) : tOp r ta tb σ H Q := h
theorem r_un {r : V → Hp → VK → Prop} (h : ta σ H fun x H1 => r x H1 Q) : tUn r ta σ H Q := h
theorem r_i0 {g : Int → Int → V} {i j : Int} (q : Q (g i j) H) : rI0 g (.int i) (.int j) H Q := ⟨i, j, rfl, rfl, q⟩
theorem r_i {C : Int → Int → Prop} {g : Int → Int → V} {i j : Int} (c : C i j) (q : Q (g i j) H) : rI C g (.int i) (.int j) H Q := ⟨i, j, rfl, rfl, c, q⟩
theorem r_u {g : Int → V} {i : Int} (q : Q (g i) H) : rU g (.int i) H Q := ⟨i, rfl, q⟩
theorem r_eqI {i j : Int} (q : Q (.bl (decide (i = j))) H) : rEq (.int i) (.int j) H Q := ⟨rfl, by rw [dec_int, int_beq]; exact q⟩
theorem r_neI {i j : Int} (q : Q (.bl (!decide (i = j))) H) : rNe (.int i) (.int j) H Q := ⟨rfl, by rw [dec_int, int_beq]; exact q⟩
theorem r_neB {i j : Bool} (q : Q (.bl (!(i == j))) H) : rNe (.bl i) (.bl j) H Q := ⟨rfl, by rw [dec_bl]; exact q⟩
def TupN (Q : VK) (xs : List V) (H1 : Hp) : Prop := xs.length ≤ sizeLine ∧ ∀ p, H1 p = none → Q (.ref p) (upd H1 p (.tup xs))
def LstN (Q : VK) (xs : List V) (H1 : Hp) : Prop := xs.length ≤ sizeLine ∧ ∀ p, H1 p = none → Q (.ref p) (upd H1 p (.lst xs))
theorem r_tup {ta : TA} (h : ta σ H (TupN Q)) : tTup ta σ H Q := h
theorem r_lst {ta : TA} (h : ta σ H (LstN Q)) : tLst ta σ H Q := h
theorem r_tupN {xs : List V} (l : xs.length ≤ sizeLine) (q : ∀ p, H p = none → Q (.ref p) (upd H p (.tup xs))) : TupN Q xs H := ⟨l, q⟩
theorem r_lstN {xs : List V} (l : xs.length ≤ sizeLine) (q : ∀ p, H p = none → Q (.ref p) (upd H p (.lst xs))) : LstN Q xs H := ⟨l, q⟩
theorem r_nil {Q : List V → Hp → Prop} (q : Q [] H) : tNil σ H Q := q
theorem r_cons {tr : TA} {Q : List V → Hp → Prop} (h : ta σ H fun x H1 => tr σ H1 fun xs H2 => Q (x :: xs) H2) : tCons ta tr σ H Q := h
theorem r_call {sp : Sp} {dvs : List V} {E : XK} {ta : TA} (h : ta σ H fun vs H1 => sp (vs ++ dvs) H1 Q E) : tCall sp dvs E ta σ H Q := h
theorem r_cb {r : List V → Hp → VK → Prop} {ta : TA} (h : ta σ H fun vs H1 => r vs H1 Q) : tCB r ta σ H Q := h
def KB (Q : Bool → Hp → Prop) (x : V) (H : Hp) : Prop := ∃ k, x = .bl k ∧ Q k H
theorem r_test {Q : Bool → Hp → Prop} (h : te σ H fun x H1 => KB Q x H1) : tTest te σ H Q := h
theorem r_tB {Q : Bool → Hp → Prop} (h : te σ H fun x H1 => KB Q x H1) : tB te σ H Q := h
theorem r_k {Q : Bool → Hp → Prop} {b : Bool} (q : Q b H) : KB Q (.bl b) H := ⟨b, rfl, q⟩
theorem r_not {Q : Bool → Hp → Prop} (h : t σ H fun c H1 => Q (!c) H1) : tNot t σ H Q := h
theorem r_and {Q : Bool → Hp → Prop} (h : t σ H fun c H1 => if c = true then u σ H1 Q else Q false H1) : tAnd t u σ H Q := h
theorem r_or {Q : Bool → Hp → Prop} (h : t σ H fun c H1 => if c = true then Q true H1 else u σ H1 Q) : tOr t u σ H Q := h
theorem r_if (h : t σ H fun c H1 => if c = true then ta σ H1 Q else tb σ H1 Q) : tIf t ta tb σ H Q := h
def Bm (K : PySem.W.Frag) (T : String) (r : V → List V → Hp → VK → Prop) (ta : TA) (σ : L2.St) (Q : VK) (x : V) (H1 : Hp) : Prop := tyV K T x H1 ∧ ta σ H1 fun xs H2 => r x xs H2 Q
theorem r_bm {T : String} {r : V → List V → Hp → VK → Prop} {ta : TA} (h : te σ H (Bm K T r ta σ Q)) : tBM K T r te ta σ H Q := h
def AndN (tb : TE) (σ : L2.St) (Q : VK) (x : V) (H1 : Hp) : Prop := ∃ c, x = .bl c ∧ if c = true then tb σ H1 Q else Q (.bl false) H1
def OrN (tb : TE) (σ : L2.St) (Q : VK) (x : V) (H1 : Hp) : Prop := ∃ c, x = .bl c ∧ if c = true then Q (.bl true) H1 else tb σ H1 Q
def NotN (Q : VK) (x : V) (H1 : Hp) : Prop := ∃ c, x = .bl c ∧ Q (.bl (!c)) H1
theorem r_andV (h : ta σ H (AndN tb σ Q)) : tAndV ta tb σ H Q := h
theorem r_orV (h : ta σ H (OrN tb σ Q)) : tOrV ta tb σ H Q := h
theorem r_notV (h : ta σ H (NotN Q)) : tNotV ta σ H Q := h
theorem r_andN {c : Bool} (h : if c = true then tb σ H Q else Q (.bl false) H) : AndN tb σ Q (.bl c) H := ⟨c, rfl, h⟩
theorem r_orN {c : Bool} (h : if c = true then Q (.bl true) H else tb σ H Q) : OrN tb σ Q (.bl c) H := ⟨c, rfl, h⟩
theorem r_notN {c : Bool} (q : Q (.bl (!c)) H) : NotN Q (.bl c) H := ⟨c, rfl, q⟩
def PartN (Q : Option Int → Hp → Prop) (x : V) (H1 : Hp) : Prop := ∃ i, x = .int i ∧ Q (some i) H1
theorem r_sl {r : V → Option Int → Option Int → Hp → VK → Prop} {tl th : TO} (h : te σ H fun x H1 => tl σ H1 fun l H2 => th σ H2 fun u H3 => r x l u H3 Q) : tSl r te tl th σ H Q := h
theorem r_part {Q : Option Int → Hp → Prop} (h : te σ H (PartN Q)) : tPart te σ H Q := h
theorem r_partN {Q : Option Int → Hp → Prop} {i : Int} (q : Q (some i) H) : PartN Q (.int i) H := ⟨i, rfl, q⟩
theorem r_noPart {Q : Option Int → Hp → Prop} (q : Q none H) : tNoPart σ H Q := q
def LRg (Q : VK) (a b : Int) (H1 : Hp) : Prop := RgOk a b ∧ ∀ q, H1 q = none → Q (.ref q) (upd H1 q (.lst (rgV a b)))
def R1N (Q : Int → Int → Hp → Prop) (x : V) (H1 : Hp) : Prop := ∃ n, x = .int n ∧ Q 0 n H1
theorem r_lstRg {t : L2.St → Hp → (Int → Int → Hp → Prop) → Prop} (h : t σ H (LRg Q)) : tLstRg t σ H Q := h
theorem r_tRg1 {Q : Int → Int → Hp → Prop} (h : ta σ H (R1N Q)) : tRg1 ta σ H Q := h
theorem r_r1N {Q : Int → Int → Hp → Prop} {n : Int} (q : Q 0 n H) : R1N Q (.int n) H := ⟨n, rfl, q⟩
theorem r_bmL {r : V → List V → Hp → VK → Prop} {ta : TA} {p : Addr} {xs : List V} (h : SqL K H p xs) (q : ta σ H fun xs H2 => r (.ref p) xs H2 Q) : Bm K "list" r ta σ Q (.ref p) H := ⟨.inl ⟨rfl, _, h⟩, q⟩
theorem r_ixL {p : Addr} {xs : List V} {i : Int} {v : V} (h : SqL K H p xs) (a : atI xs i = some v) (q : Q v H) : rIxL K (.ref p) (.int i) H Q := ⟨p, xs, i, v, rfl, rfl, h, a, q⟩
theorem r_ixT {p : Addr} {xs : List V} {i : Int} {v : V} (h : SqT K H p xs) (a : atI xs i = some v) (q : Q v H) : rIxT K (.ref p) (.int i) H Q := ⟨p, xs, i, v, rfl, rfl, h, a, q⟩
variable {nx bk ct : L2.St → Hp → Prop} {a b : TS}
theorem r_next (q : nx σ H) : tNext ⟨nx, Q, bk, ct⟩ σ H := q
theorem r_seq (h : a ⟨b ⟨nx, Q, bk, ct⟩, Q, bk, ct⟩ σ H) : tSeq a b ⟨nx, Q, bk, ct⟩ σ H := h
/-- a block's tail, once for all ways that lead to it -/
theorem r_seqW (W : L2.St → Hp → Prop) (tail : ∀ σ' H', W σ' H' → b ⟨nx, Q, bk, ct⟩ σ' H') (head : ∀ B : L2.St → Hp → Prop, (∀ σ' H', W σ' H' → B σ' H') → a ⟨B, Q, bk, ct⟩ σ H) : tSeq a b ⟨nx, Q, bk, ct⟩ σ H := head _ tail
theorem r_ret (h : te σ H Q) : tRet te ⟨nx, Q, bk, ct⟩ σ H := h
theorem r_drop (h : te σ H fun _ H1 => nx σ H1) : tDrop te ⟨nx, Q, bk, ct⟩ σ H := h
theorem r_ifS (h : t σ H fun c H1 => if c = true then a ⟨nx, Q, bk, ct⟩ σ H1 else b ⟨nx, Q, bk, ct⟩ σ H1) : tIfS t a b ⟨nx, Q, bk, ct⟩ σ H := h
theorem r_asg {g : TG} (h : te σ H fun x H1 => g x σ H1 nx) : tAsg te g ⟨nx, Q, bk, ct⟩ σ H := h
theorem r_name1 {x0 x1 : Option V} {σ : L2.St} {v : V} {q : L2.St → Hp → Prop} (h : q (x0 :: some v :: σ) H) : gName 1 v (x0 :: x1 :: σ) H q := h
theorem r_name2 {x0 x1 x2 : Option V} {σ : L2.St} {v : V} {q : L2.St → Hp → Prop} (h : q (x0 :: x1 :: some v :: σ) H) : gName 2 v (x0 :: x1 :: x2 :: σ) H q := h
theorem r_name3 {x0 x1 x2 x3 : Option V} {σ : L2.St} {v : V} {q : L2.St → Hp → Prop} (h : q (x0 :: x1 :: x2 :: some v :: σ) H) : gName 3 v (x0 :: x1 :: x2 :: x3 :: σ) H q := h
theorem r_name4 {x0 x1 x2 x3 x4 : Option V} {σ : L2.St} {v : V} {q : L2.St → Hp → Prop} (h : q (x0 :: x1 :: x2 :: x3 :: some v :: σ) H) : gName 4 v (x0 :: x1 :: x2 :: x3 :: x4 :: σ) H q := h
theorem r_name5 {x0 x1 x2 x3 x4 x5 : Option V} {σ : L2.St} {v : V} {q : L2.St → Hp → Prop} (h : q (x0 :: x1 :: x2 :: x3 :: x4 :: some v :: σ) H) : gName 5 v (x0 :: x1 :: x2 :: x3 :: x4 :: x5 :: σ) H q := h
theorem r_name6 {x0 x1 x2 x3 x4 x5 x6 : Option V} {σ : L2.St} {v : V} {q : L2.St → Hp → Prop} (h : q (x0 :: x1 :: x2 :: x3 :: x4 :: x5 :: some v :: σ) H) : gName 6 v (x0 :: x1 :: x2 :: x3 :: x4 :: x5 :: x6 :: σ) H q := h
theorem r_name7 {x0 x1 x2 x3 x4 x5 x6 x7 : Option V} {σ : L2.St} {v : V} {q : L2.St → Hp → Prop} (h : q (x0 :: x1 :: x2 :: x3 :: x4 :: x5 :: x6 :: some v :: σ) H) : gName 7 v (x0 :: x1 :: x2 :: x3 :: x4 :: x5 :: x6 :: x7 :: σ) H q := h
theorem r_name8 {x0 x1 x2 x3 x4 x5 x6 x7 x8 : Option V} {σ : L2.St} {v : V} {q : L2.St → Hp → Prop} (h : q (x0 :: x1 :: x2 :: x3 :: x4 :: x5 :: x6 :: x7 :: some v :: σ) H) : gName 8 v (x0 :: x1 :: x2 :: x3 :: x4 :: x5 :: x6 :: x7 :: x8 :: σ) H q := h
theorem r_name9 {x0 x1 x2 x3 x4 x5 x6 x7 x8 x9 : Option V} {σ : L2.St} {v : V} {q : L2.St → Hp → Prop} (h : q (x0 :: x1 :: x2 :: x3 :: x4 :: x5 :: x6 :: x7 :: x8 :: some v :: σ) H) : gName 9 v (x0 :: x1 :: x2 :: x3 :: x4 :: x5 :: x6 :: x7 :: x8 :: x9 :: σ) H q := h
theorem r_name10 {x0 x1 x2 x3 x4 x5 x6 x7 x8 x9 x10 : Option V} {σ : L2.St} {v : V} {q : L2.St → Hp → Prop} (h : q (x0 :: x1 :: x2 :: x3 :: x4 :: x5 :: x6 :: x7 :: x8 :: x9 :: some v :: σ) H) : gName 10 v (x0 :: x1 :: x2 :: x3 :: x4 :: x5 :: x6 :: x7 :: x8 :: x9 :: x10 :: σ) H q := h
theorem r_name11 {x0 x1 x2 x3 x4 x5 x6 x7 x8 x9 x10 x11 : Option V} {σ : L2.St} {v : V} {q : L2.St → Hp → Prop} (h : q (x0 :: x1 :: x2 :: x3 :: x4 :: x5 :: x6 :: x7 :: x8 :: x9 :: x10 :: some v :: σ) H) : gName 11 v (x0 :: x1 :: x2 :: x3 :: x4 :: x5 :: x6 :: x7 :: x8 :: x9 :: x10 :: x11 :: σ) H q := h
theorem r_sub {to ti : TE} {ts : TSet} {v : V} {q : L2.St → Hp → Prop} (h : to σ H fun o H1 => ti σ H1 fun i H2 => ts o i v H2 fun H3 => q σ H3) : gSub to ti ts v σ H q := h
theorem r_setL {p : Addr} {xs : List V} {k : Int} {j : Nat} {v : V} {q : Hp → Prop} (h : H p = some (.lst xs)) (e : ixN xs.length k = some j) (s : q (upd H p (.lst (xs.set j v)))) : rSetL (.ref p) (.int k) v H q := ⟨p, xs, k, j, rfl, rfl, h, e, s⟩
theorem r_set1 {p : Addr} {x0 x1 : V} {xs : List V} {v : V} {q : Hp → Prop} (h : H p = some (.lst (x0 :: x1 :: xs))) (s : q (upd H p (.lst (x0 :: v :: xs)))) : rSetL (.ref p) (.int 1) v H q := ⟨p, _, 1, 1, rfl, rfl, h, by
  unfold ixN
  rw [if_pos (by decide), if_pos (by simp only [List.length_cons]; omega)]
  rfl, s⟩
theorem r_set2 {p : Addr} {x0 x1 x2 : V} {xs : List V} {v : V} {q : Hp → Prop} (h : H p = some (.lst (x0 :: x1 :: x2 :: xs))) (s : q (upd H p (.lst (x0 :: x1 :: v :: xs)))) : rSetL (.ref p) (.int 2) v H q := ⟨p, _, 2, 2, rfl, rfl, h, by
  unfold ixN
  rw [if_pos (by decide), if_pos (by simp only [List.length_cons]; omega)]
  rfl, s⟩
theorem r_set2u {p : Addr} {x0 x1 x2 : V} {xs : List V} {v : V} {q : Hp → Prop} (s : q (upd H p (.lst (x0 :: x1 :: v :: xs)))) : rSetL (.ref p) (.int 2) v (upd H p (.lst (x0 :: x1 :: x2 :: xs))) q := r_set2 upd_same (by
  rw [upd_upd]
  exact s)
theorem r_set3 {p : Addr} {x0 x1 x2 x3 : V} {xs : List V} {v : V} {q : Hp → Prop} (h : H p = some (.lst (x0 :: x1 :: x2 :: x3 :: xs))) (s : q (upd H p (.lst (x0 :: x1 :: x2 :: v :: xs)))) : rSetL (.ref p) (.int 3) v H q := ⟨p, _, 3, 3, rfl, rfl, h, by
  unfold ixN
  rw [if_pos (by decide), if_pos (by simp only [List.length_cons]; omega)]
  rfl, s⟩
theorem r_gtup {n : Nat} {g : TGs} {p : Addr} {xs : List V} {q : L2.St → Hp → Prop} (h : SqT K H p xs) (l : xs.length = n) (s : g xs σ H q) : gTup K n g (.ref p) σ H q := ⟨p, xs, rfl, h, l, s⟩
theorem r_gcons {g : TG} {gs : TGs} {v : V} {r : List V} {q : L2.St → Hp → Prop} (h : g v σ H fun σ' H' => gs r σ' H' q) : gCons g gs (v :: r) σ H q := ⟨v, r, rfl, h⟩
theorem r_gnil {q : L2.St → Hp → Prop} (h : q σ H) : gNil [] σ H q := ⟨rfl, h⟩
/-- a test whose answer is open, or known -/
theorem r_ite {p : Prop} [Decidable p] {A B : Prop} (h1 : p → A) (h2 : ¬ p → B) : if decide p = true then A else B := by
  by_cases h : p
  · rw [decide_eq_true h, if_pos rfl]
    exact h1 h
  · rw [decide_eq_false h, if_neg Bool.false_ne_true]
    exact h2 h
theorem r_iteN {p : Prop} [Decidable p] {A B : Prop} (h1 : ¬ p → A) (h2 : p → B) : if (!decide p) = true then A else B := by
  by_cases h : p
  · rw [decide_eq_true h]
    exact iteF (h2 h)
  · rw [decide_eq_false h]
    exact iteT (h1 h)
theorem r_iteB {b : Bool} {A B : Prop} (h1 : b = true → A) (h2 : b = false → B) : if b = true then A else B := by
  cases b with
  | true => exact iteT (h1 rfl)
  | false => exact iteF (h2 rfl)
/-! loops: what is left once the iterated thing is there -/
def ForR (J : It) (g : TG) (tb : TS) (nx : L2.St → Hp → Prop) (Q : VK) (σ : L2.St) (H : Hp) : Prop := ∃ W : Nat → Nat → L2.St → Hp → Prop, (∃ m, W 0 m σ H) ∧ ∀ i m σ H, W i m σ H →
  (J.stop i H ∧ nx σ H) ∨ (J.go i H ∧ ∃ N : L2.St → Hp → Prop, (∀ σ' H', N σ' H' → ∃ m', m' < m ∧ W (i + 1) m' σ' H') ∧ ∀ x H', J.yld i H x H' → g x σ H' fun σ2 H2 => tb ⟨N, Q, nx, N⟩ σ2 H2)
theorem r_for {wi : TI} {g : TG} {tb : TS} (h : wi σ H fun J H1 => ForR J g tb nx Q σ H1) : tFor wi g tb ⟨nx, Q, bk, ct⟩ σ H := h
def Rg1 (R : It → Hp → Prop) (vs : List V) (H : Hp) : Prop := ∃ j : Int, vs = [.int j] ∧ -(2 ^ 62) ≤ j ∧ j < 2 ^ 62 ∧ R (Itr 0 j.toNat) H
def Rg2 (R : It → Hp → Prop) (vs : List V) (H : Hp) : Prop := ∃ i j : Int, vs = [.int i, .int j] ∧ (-(2 ^ 62) ≤ i ∧ i < 2 ^ 62 ∧ -(2 ^ 62) ≤ j ∧ j < 2 ^ 62) ∧ R (Itr i (j - i).toNat) H
theorem r_rng1 {ta : TA} {R : It → Hp → Prop} (h : ta σ H (Rg1 R)) : iRng1 ta σ H R := h
theorem r_rng2 {ta : TA} {R : It → Hp → Prop} (h : ta σ H (Rg2 R)) : iRng2 ta σ H R := h
theorem r_rg1 {j : Int} {R : It → Hp → Prop} (h1 : -4611686018427387904 ≤ j ∧ j < 4611686018427387904) (h : R (Itr 0 j.toNat) H) : Rg1 R [V.int j] H := ⟨j, rfl, h1.1, h1.2, h⟩
theorem r_rg2 {i j : Int} {R : It → Hp → Prop} (h1 : -4611686018427387904 ≤ i ∧ i < 4611686018427387904 ∧ -4611686018427387904 ≤ j ∧ j < 4611686018427387904) (h : R (Itr i (j - i).toNat) H) : Rg2 R [V.int i, V.int j] H := ⟨i, j, rfl, h1, h⟩
def Il (K : PySem.W.Frag) (R : It → Hp → Prop) (x : V) (H : Hp) : Prop := ∃ a, x = .ref a ∧ (∃ xs, SqL K H a xs) ∧ R (Itl K a) H
def Itp (K : PySem.W.Frag) (R : It → Hp → Prop) (x : V) (H : Hp) : Prop := ∃ a, x = .ref a ∧ (∃ xs, SqT K H a xs) ∧ R (Itt K a) H
theorem r_ilist {R : It → Hp → Prop} (h : te σ H (Il K R)) : iList K te σ H R := h
theorem r_itup {R : It → Hp → Prop} (h : te σ H (Itp K R)) : iTup K te σ H R := h
theorem r_il {a : Addr} {xs : List V} {R : It → Hp → Prop} (h : SqL K H a xs) (q : R (Itl K a) H) : Il K R (.ref a) H := ⟨a, rfl, ⟨xs, h⟩, q⟩
theorem r_it {a : Addr} {xs : List V} {R : It → Hp → Prop} (h : SqT K H a xs) (q : R (Itt K a) H) : Itp K R (.ref a) H := ⟨a, rfl, ⟨xs, h⟩, q⟩
theorem forR_range {lo : Int} {n : Nat} {g : TG} {tb : TS} (Pv : Nat → L2.St → Hp → Prop) (h0 : Pv 0 σ H)
    (hs : ∀ (i : Nat) σ H, i < n → Pv i σ H → g (.int (lo + i)) σ H fun σ2 H2 => tb ⟨Pv (i + 1), Q, nx, Pv (i + 1)⟩ σ2 H2) (hd : ∀ σ H, Pv n σ H → nx σ H) : ForR (Itr lo n) g tb nx Q σ H :=
  for_range (D := ⟨nx, Q, nx, nx⟩) Pv h0 hs hd
theorem forR_list {a : Addr} {xs : List V} {g : TG} {tb : TS} (Pv : Nat → L2.St → Hp → Prop) (h0 : Pv 0 σ H) (hl : ∀ i σ H, i ≤ xs.length → Pv i σ H → SqL K H a xs)
    (hs : ∀ (i : Nat) x σ H, xs[i]? = some x → Pv i σ H → g x σ H fun σ2 H2 => tb ⟨Pv (i + 1), Q, nx, Pv (i + 1)⟩ σ2 H2) (hd : ∀ σ H, Pv xs.length σ H → nx σ H) : ForR (Itl K a) g tb nx Q σ H :=
  for_list (D := ⟨nx, Q, nx, nx⟩) Pv h0 hl hs hd
theorem forR_tup {a : Addr} {xs : List V} {g : TG} {tb : TS} (Pv : Nat → L2.St → Hp → Prop) (h0 : Pv 0 σ H) (hl : ∀ i σ H, i ≤ xs.length → Pv i σ H → SqT K H a xs)
    (hs : ∀ (i : Nat) x σ H, xs[i]? = some x → Pv i σ H → g x σ H fun σ2 H2 => tb ⟨Pv (i + 1), Q, nx, Pv (i + 1)⟩ σ2 H2) (hd : ∀ σ H, Pv xs.length σ H → nx σ H) : ForR (Itt K a) g tb nx Q σ H :=
  for_tup (D := ⟨nx, Q, nx, nx⟩) Pv h0 hl hs hd
/-! comprehensions likewise -/
def LcR (J : It) (g : TG) (tt : TT) (te : TE) (vs : List Nat) (σ : L2.St) (D : Addr) (Q : VK) (H1 : Hp) : Prop := ∃ W : Nat → Nat → Hp → Prop, (∃ m, W 0 m (upd H1 D (.lst []))) ∧ ∀ i m H, W i m H →
  (J.stop i H ∧ Q (.ref D) H) ∨ (J.go i H ∧ ∃ Nx : Hp → Prop, (∀ H', Nx H' → ∃ m', m' < m ∧ W (i + 1) m' H') ∧ ∀ x H', J.yld i H x H' → g x (wipe σ vs) H' fun σ2 H2 => wipe σ2 vs = wipe σ vs ∧ tt σ2 H2 fun b H3 =>
    if b = true then te σ2 H3 fun y H4 => ∃ acc, H4 D = some (.lst acc) ∧ acc.length < sizeLine ∧ Nx (upd H4 D (.lst (acc ++ [y]))) else Nx H3)
theorem r_lc {wi : TI} {g : TG} {tt : TT} {vs : List Nat} (h : wi σ H fun J H1 => ∀ D, H1 D = none → LcR J g tt te vs σ D Q H1) : tLc wi g tt te vs σ H Q := h
/-- one turn's end of a comprehension: the item goes to D -/
def LcE (D : Addr) (N : Hp → Prop) (y : V) (H4 : Hp) : Prop := ∃ acc, H4 D = some (.lst acc) ∧ acc.length < sizeLine ∧ N (upd H4 D (.lst (acc ++ [y])))
theorem lcR_range {lo : Int} {n : Nat} {g : TG} {tt : TT} {vs : List Nat} {D : Addr} {σw : L2.St} (Pv : Nat → Hp → Prop) (ew : wipe σ vs = σw) (h0 : Pv 0 (upd H D (.lst [])))
    (hs : ∀ (i : Nat) H, i < n → Pv i H → g (.int (lo + i)) σw H fun σ2 H2 => wipe σ2 vs = σw ∧ tt σ2 H2 fun b H3 => if b = true then te σ2 H3 (LcE D (Pv (i + 1))) else Pv (i + 1) H3) (hd : ∀ H, Pv n H → Q (.ref D) H) :
    LcR (Itr lo n) g tt te vs σ D Q H := by
  subst ew
  exact lc_range (Qd := Q (.ref D)) Pv h0 hs hd
theorem lcR_list {a : Addr} {xs : List V} {g : TG} {tt : TT} {vs : List Nat} {D : Addr} {σw : L2.St} (Pv : Nat → Hp → Prop) (ew : wipe σ vs = σw) (h0 : Pv 0 (upd H D (.lst []))) (hl : ∀ i H, i ≤ xs.length → Pv i H → SqL K H a xs)
    (hs : ∀ (i : Nat) x H, xs[i]? = some x → Pv i H → g x σw H fun σ2 H2 => wipe σ2 vs = σw ∧ tt σ2 H2 fun b H3 => if b = true then te σ2 H3 (LcE D (Pv (i + 1))) else Pv (i + 1) H3) (hd : ∀ H, Pv xs.length H → Q (.ref D) H) :
    LcR (Itl K a) g tt te vs σ D Q H := by
  subst ew
  exact lc_list (Qd := Q (.ref D)) Pv h0 hl hs hd
theorem lcR_tup {a : Addr} {xs : List V} {g : TG} {tt : TT} {vs : List Nat} {D : Addr} {σw : L2.St} (Pv : Nat → Hp → Prop) (ew : wipe σ vs = σw) (h0 : Pv 0 (upd H D (.lst []))) (hl : ∀ i H, i ≤ xs.length → Pv i H → SqT K H a xs)
    (hs : ∀ (i : Nat) x H, xs[i]? = some x → Pv i H → g x σw H fun σ2 H2 => wipe σ2 vs = σw ∧ tt σ2 H2 fun b H3 => if b = true then te σ2 H3 (LcE D (Pv (i + 1))) else Pv (i + 1) H3) (hd : ∀ H, Pv xs.length H → Q (.ref D) H) :
    LcR (Itt K a) g tt te vs σ D Q H := by
  subst ew
  exact lc_tup (Qd := Q (.ref D)) Pv h0 hl hs hd
theorem r_yes {Q : Bool → Hp → Prop} (q : Q true H) : tYes σ H Q := q
theorem r_lce {D : Addr} {N : Hp → Prop} {y : V} {acc : List V} (h : H D = some (.lst acc)) (l : acc.length < sizeLine) (q : N (upd H D (.lst (acc ++ [y])))) : LcE D N y H := ⟨acc, h, l, q⟩
theorem r_int1 {i : Int} (q : Q (.int i) H) : rInt1 [.int i] H Q := .inl ⟨i, rfl, q⟩
theorem r_int1b {b : Bool} (q : Q (.int (if b then 1 else 0)) H) : rInt1 [.bl b] H Q := .inr ⟨b, rfl, q⟩
theorem r_min2 {i j : Int} (q : Q (.int (min i j)) H) : rMin2 [.int i, .int j] H Q := ⟨i, j, rfl, by
  rw [show (if j < i then j else i) = min i j by split <;> omega]
  exact q⟩
theorem r_max2 {i j : Int} (q : Q (.int (max i j)) H) : rMax2 [.int i, .int j] H Q := ⟨i, j, rfl, by
  rw [show (if j > i then j else i) = max i j by split <;> omega]
  exact q⟩
theorem r_lenL {p : Addr} {ys : List V} (h : SqL K H p ys) (q : Q (.int ys.length) H) : rLen K [.ref p] H Q := ⟨p, ys, rfl, .inl h, q⟩
theorem r_lenT {p : Addr} {ys : List V} (h : SqT K H p ys) (q : Q (.int ys.length) H) : rLen K [.ref p] H Q := ⟨p, ys, rfl, .inr h, q⟩
theorem r_listL {p : Addr} {ys : List V} (h : SqL K H p ys) (q : ∀ l, H l = none → Q (.ref l) (upd H l (.lst ys))) : rListOf K [.ref p] H Q := ⟨p, ys, rfl, .inl h, q⟩
theorem r_listT {p : Addr} {ys : List V} (h : SqT K H p ys) (q : ∀ l, H l = none → Q (.ref l) (upd H l (.lst ys))) : rListOf K [.ref p] H Q := ⟨p, ys, rfl, .inr h, q⟩
theorem r_tupL {p : Addr} {ys : List V} (h : SqL K H p ys) (q : ∀ l, H l = none → Q (.ref l) (upd H l (.tup ys))) : rTupOf K [.ref p] H Q := ⟨p, ys, rfl, .inl ⟨h, q⟩⟩
theorem r_at {N : List PySem.Str} {vs : List V} {t : TS} {D : Ends} (e : L2.start N vs = σ) (h : t D σ H) : t D (L2.start N vs) H := by
  rw [e]
  exact h
/-! methods of lists -/
theorem r_appT {l : Addr} {xs : List V} {y : V} (h : H l = some (.lst xs)) (s : xs.length < sizeLine) (q : Q .non (upd H l (.lst (xs ++ [y])))) : rAppend (.ref l) [y] H Q := ⟨l, xs, y, rfl, rfl, h, s, q⟩
end
theorem at_int {ns : List Int} {p : Int} (h0 : 0 ≤ p) (h1 : p < ns.length) : ∃ c ∈ ns, atI (ns.map V.int) p = some (.int c) := by
  have hlt : p.toNat < ns.length := by omega
  refine ⟨ns[p.toNat], List.getElem_mem hlt, at_of (j := p.toNat) (by omega) ?_⟩
  rw [List.getElem?_map, List.getElem?_eq_getElem hlt]
  rfl
/-- 0 .. n - 1 -/
def rgI (n : Int) : List Int := (List.range n.toNat).map fun (i : Nat) => (i : Int)
theorem rgI_len (n : Int) : (rgI n).length = n.toNat := by
  unfold rgI
  rw [List.length_map, List.length_range]
theorem mem_rgI {n z : Int} : z ∈ rgI n ↔ 0 ≤ z ∧ z < n := by
  unfold rgI
  rw [List.mem_map]
  constructor
  · rintro ⟨i, hi, rfl⟩
    rw [List.mem_range] at hi
    omega
  · rintro ⟨h1, h2⟩
    exact ⟨z.toNat, List.mem_range.mpr (by omega), by omega⟩
theorem rgI_nodup (n : Int) : (rgI n).Nodup := by
  unfold rgI
  exact List.pairwise_map.mpr (List.nodup_range.imp fun {i j} h e => h (by omega))
theorem rgV_rgI (n : Int) : rgV 0 n = (rgI n).map V.int := by
  unfold rgV rgI
  rw [List.map_map, Int.sub_zero]
  refine List.map_congr_left fun i _ => ?_
  show V.int (0 + (i : Int)) = V.int (i : Int)
  rw [Int.zero_add]
theorem r_lRg {H : Hp} {Q : VK} {n : Int} (h0 : 0 ≤ n) (h1 : n ≤ 10000) (q : ∀ p, H p = none → Q (.ref p) (upd H p (.lst ((rgI n).map V.int)))) : LRg Q 0 n H := ⟨.of_le (by omega) (by omega) (by omega) h0, fun p hp => by
  rw [rgV_rgI]
  exact q p hp⟩
theorem small_len {n : Nat} (h : n ≤ 100000) : n ≤ sizeLine := Nat.le_trans h (by decide)
theorem small_lt {n : Nat} (h : n < 100000) : n < sizeLine := Nat.lt_of_lt_of_le h (by decide)

set_option Elab.async false
set_option linter.all false
open PySem PySem.Spec PyProof.Rows L2
/-! ## the mathematics of pairs -/
def rowP (u lo : Int) (k : Nat) : List (Int × Int) := (List.range k).map fun (j : Nat) => (u, lo + (j : Int))
theorem rowP_succ (u lo : Int) (k : Nat) : rowP u lo (k + 1) = rowP u lo k ++ [(u, lo + (k : Int))] := by
  unfold rowP
  rw [List.range_succ, List.map_append]
  rfl
theorem mem_rowP {u lo : Int} {k : Nat} {p : Int × Int} : p ∈ rowP u lo k ↔ p.1 = u ∧ lo ≤ p.2 ∧ p.2 < lo + k := by
  unfold rowP
  rw [List.mem_map]
  constructor
  · rintro ⟨j, hj, rfl⟩
    rw [List.mem_range] at hj
    exact ⟨rfl, by show lo ≤ lo + (j : Int); omega, by show lo + (j : Int) < lo + k; omega⟩
  · obtain ⟨a, b⟩ := p
    rintro ⟨h1, h2, h3⟩
    refine ⟨(b - lo).toNat, List.mem_range.mpr (by simp only at h2 h3; omega), ?_⟩
    simp only at h1 h2 h3 ⊢
    rw [h1, show lo + ((b - lo).toNat : Int) = b by omega]
theorem rowP_asc (u lo : Int) : ∀ k, (rowP u lo k).Pairwise ltP
  | 0 => List.Pairwise.nil
  | k + 1 => by
    rw [rowP_succ]
    refine List.pairwise_append.mpr ⟨rowP_asc u lo k, List.pairwise_singleton _ _, fun p hp q hq => ?_⟩
    obtain ⟨h1, h2, h3⟩ := mem_rowP.mp hp
    rw [List.mem_singleton.mp hq]
    exact .inr ⟨h1, h3⟩
theorem rowP_len (u lo : Int) (k : Nat) : (rowP u lo k).length = k := by
  unfold rowP
  rw [List.length_map, List.length_range]
def preP (n : Nat) : Nat → List (Int × Int)
  | 0 => []
  | i + 1 => preP n i ++ rowP (i : Int) ((i : Int) + 1) (n - 1 - i)
def allP (n : Nat) : List (Int × Int) := preP n n
theorem mem_preP {n : Nat} {p : Int × Int} : ∀ {i : Nat}, i ≤ n → (p ∈ preP n i ↔ 0 ≤ p.1 ∧ p.1 < i ∧ p.1 < p.2 ∧ p.2 < n)
  | 0, _ => by
    constructor
    · intro h
      cases h
    · rintro ⟨h1, h2, _⟩
      have h2 : p.1 < 0 := h2
      omega
  | i + 1, hi => by
    show p ∈ preP n i ++ rowP (i : Int) ((i : Int) + 1) (n - 1 - i) ↔ _
    rw [List.mem_append, mem_preP (by omega : i ≤ n), mem_rowP]
    constructor
    · rintro (⟨h1, h2, h3, h4⟩ | ⟨h1, h2, h3⟩)
      · exact ⟨h1, by omega, h3, h4⟩
      · exact ⟨by omega, by omega, by omega, by omega⟩
    · rintro ⟨h1, h2, h3, h4⟩
      by_cases e : p.1 = (i : Int)
      · exact .inr ⟨e, by omega, by omega⟩
      · exact .inl ⟨h1, by omega, h3, h4⟩
theorem mem_allP {n : Nat} {p : Int × Int} : p ∈ allP n ↔ 0 ≤ p.1 ∧ p.1 < p.2 ∧ p.2 < n := by
  unfold allP
  rw [mem_preP (Nat.le_refl n)]
  omega
theorem preP_asc {n : Nat} : ∀ {i : Nat}, i ≤ n → (preP n i).Pairwise ltP
  | 0, _ => .nil
  | i + 1, hi => by
    show (preP n i ++ rowP (i : Int) ((i : Int) + 1) (n - 1 - i)).Pairwise ltP
    refine List.pairwise_append.mpr ⟨preP_asc (by omega), rowP_asc _ _ _, fun p hp q hq => ?_⟩
    have h1 := (mem_preP (by omega : i ≤ n)).mp hp
    have h2 := mem_rowP.mp hq
    exact .inl (by omega)
theorem allP_asc (n : Nat) : (allP n).Pairwise ltP := preP_asc (Nat.le_refl n)
theorem preP_len {n : Nat} : ∀ {i : Nat}, (preP n i).length ≤ i * n
  | 0 => Nat.zero_le _
  | i + 1 => by
    show (preP n i ++ rowP (i : Int) ((i : Int) + 1) (n - 1 - i)).length ≤ _
    rw [List.length_append, rowP_len, Nat.succ_mul]
    have := preP_len (n := n) (i := i)
    omega
theorem ltP_irrefl (p : Int × Int) : ¬ ltP p p := by
  unfold ltP
  omega
theorem ltP_trans {p q r : Int × Int} (h1 : ltP p q) (h2 : ltP q r) : ltP p r := by
  unfold ltP at *
  omega
theorem ltP_of_le_ne {p q : Int × Int} (h : leP p q) (n : p ≠ q) : ltP p q := by
  obtain ⟨a, b⟩ := p
  obtain ⟨c, d⟩ := q
  unfold leP at h
  unfold ltP
  simp only at *
  by_cases h2 : a = c
  · by_cases h3 : b = d
    · exact absurd (by rw [h2, h3]) n
    · omega
  · omega
theorem asc_nodup {ps : List (Int × Int)} (h : ps.Pairwise ltP) : ps.Nodup := by
  refine List.Pairwise.imp (R := ltP) (fun {p q} h => ?_) h
  intro e
  rw [e] at h
  exact ltP_irrefl q h
/-- two ascending lists of the same members are one -/
theorem asc_ext : ∀ {ps qs : List (Int × Int)}, ps.Pairwise ltP → qs.Pairwise ltP → (∀ p, p ∈ ps ↔ p ∈ qs) → ps = qs
  | [], [], _, _, _ => rfl
  | [], q :: qs, _, _, h => absurd ((h q).mpr List.mem_cons_self) (by simp)
  | p :: ps, [], _, _, h => absurd ((h p).mp List.mem_cons_self) (by simp)
  | p :: ps, q :: qs, h1, h2, h => by
    obtain ⟨a1, a2⟩ := List.pairwise_cons.mp h1
    obtain ⟨b1, b2⟩ := List.pairwise_cons.mp h2
    have e : p = q := by
      rcases List.mem_cons.mp ((h p).mp List.mem_cons_self) with e | e
      · exact e
      · rcases List.mem_cons.mp ((h q).mpr List.mem_cons_self) with e2 | e2
        · exact e2.symm
        · exact absurd (ltP_trans (a1 q e2) (b1 p e)) (ltP_irrefl p)
    subst e
    rw [asc_ext a2 b2 fun r => ?_]
    constructor
    · intro hr
      rcases List.mem_cons.mp ((h r).mp (List.mem_cons_of_mem _ hr)) with e | e
      · rw [e] at hr
        exact absurd (a1 p hr) (ltP_irrefl p)
      · exact e
    · intro hr
      rcases List.mem_cons.mp ((h r).mpr (List.mem_cons_of_mem _ hr)) with e | e
      · rw [e] at hr
        exact absurd (b1 p hr) (ltP_irrefl p)
      · exact e
theorem nodup_le {α : Type} [DecidableEq α] : ∀ (l m : List α), l.Nodup → (∀ x ∈ l, x ∈ m) → l.length ≤ m.length
  | [], _, _, _ => Nat.zero_le _
  | x :: l, m, hn, hs => by
    obtain ⟨h1, h2⟩ := List.nodup_cons.mp hn
    have hx : x ∈ m := hs x List.mem_cons_self
    have ih := nodup_le l (m.erase x) h2 fun y hy => by
      have hne : y ≠ x := by
        intro e
        rw [e] at hy
        exact h1 hy
      exact (List.mem_erase_of_ne hne).2 (hs y (List.mem_cons_of_mem _ hy))
    have e := List.length_erase_of_mem hx
    have p := List.length_pos_of_mem hx
    simp only [List.length_cons]
    omega
/-- what the walk over the sorted rows keeps: ascending, the same members, the same last one -/
structure Ded (qs fs : List (Int × Int)) : Prop where
  asc : fs.Pairwise ltP
  mem : ∀ p, p ∈ fs ↔ p ∈ qs
  last : fs.getLast? = qs.getLast?
theorem Ded.nil : Ded [] [] := ⟨.nil, fun _ => Iff.rfl, rfl⟩
theorem last_snoc {α : Type} (l : List α) (x : α) : (l ++ [x]).getLast? = some x := by simp
/-- the last row again -/
theorem Ded.same {qs fs : List (Int × Int)} {q : Int × Int} (D : Ded qs fs) (h : fs.getLast? = some q) : Ded (qs ++ [q]) fs := by
  refine ⟨D.asc, fun p => ?_, by rw [last_snoc, h]⟩
  rw [List.mem_append, List.mem_singleton, D.mem]
  constructor
  · exact .inl
  · rintro (z | z)
    · exact z
    · rw [z, ← D.mem]
      exact List.mem_of_getLast? h
/-- another one -/
theorem Ded.more {qs fs : List (Int × Int)} {q : Int × Int} (D : Ded qs fs) (hl : (qs ++ [q]).Pairwise leP) (h : fs.getLast? ≠ some q) : Ded (qs ++ [q]) (fs ++ [q]) := by
  refine ⟨?_, fun p => ?_, by rw [last_snoc, last_snoc]⟩
  · refine List.pairwise_append.mpr ⟨D.asc, List.pairwise_singleton _ _, fun p hp r hr => ?_⟩
    rw [List.mem_singleton.mp hr]
    obtain ⟨l1, _, l3⟩ := List.pairwise_append.mp hl
    have hle : ∀ z ∈ qs, leP z q := fun z hz => l3 z hz q (List.mem_singleton.mpr rfl)
    -- fs is not empty; its last one is not q
    obtain ⟨z, hz⟩ : ∃ z, fs.getLast? = some z := by
      cases e : fs.getLast? with
      | some z => exact ⟨z, rfl⟩
      | none =>
        rw [List.getLast?_eq_none_iff] at e
        rw [e] at hp
        cases hp
    have zq : ltP z q := ltP_of_le_ne (hle z ((D.mem z).mp (List.mem_of_getLast? hz))) fun e => h (by rw [hz, e])
    obtain ⟨pre, e⟩ : ∃ pre, fs = pre ++ [z] := by
      obtain ⟨hne, e⟩ := List.getLast?_eq_some_iff.mp hz
      exact ⟨_, e⟩
    rw [e] at hp
    rcases List.mem_append.mp hp with h1 | h1
    · have a := D.asc
      rw [e] at a
      exact ltP_trans ((List.pairwise_append.mp a).2.2 p h1 z (List.mem_singleton.mpr rfl)) zq
    · rw [List.mem_singleton.mp h1]
      exact zq
  · rw [List.mem_append, List.mem_append, D.mem]
theorem sz1 {a : V} : [a].length ≤ sizeLine := by show 1 ≤ sizeLine; decide
theorem sz2 {a b : V} : [a, b].length ≤ sizeLine := by show 2 ≤ sizeLine; decide
theorem sz3 {a b c : V} : [a, b, c].length ≤ sizeLine := by show 3 ≤ sizeLine; decide
theorem at_last {zs : List V} {z : V} (h : zs.getLast? = some z) : atI zs (-1) = some z := by
  obtain ⟨pre, e⟩ := List.getLast?_eq_some_iff.mp h
  rw [e]
  exact atI_last _ _
theorem pd_last {α β : Type} {F : α → β → Prop} {xs : List α} {ps : List β} {p : β} (h : Paired F xs ps) (hp : ps.getLast? = some p) : ∃ x, xs.getLast? = some x ∧ F x p := by
  rw [List.getLast?_eq_getElem?] at hp
  obtain ⟨x, hx, f⟩ := pd_get2 h hp
  refine ⟨x, ?_, f⟩
  rw [List.getLast?_eq_getElem?, h.length]
  exact hx
section
variable {K : PySem.W.Frag} {H : Hp} {Q : VK}
theorem r_eqNil {f e : Addr} {xs : List V} {ps : List (Int × Int)} (h : H f = some (.lst xs)) (he : H e = some (.lst [])) (hp : Prs H xs ps) (q : Q (.bl (decide (ps = []))) H) : rEqD K (.ref f) (.ref e) H Q := by
  refine ⟨.list (ps.map prD2), .list [], .lst (.inl (.inl h)) hp.dps, .lst (.inl (.inl he)) .nil, prD2s_shL ps, prD2s_shL [], ?_⟩
  cases ps with
  | nil => exact q
  | cons p ps => exact q
theorem r_neP {x y : V} {p r : Int × Int} (hx : IsP H x p) (hy : IsP H y r) (q : Q (.bl (!decide (p = r))) H) : rNeD K x y H Q :=
  ⟨prD2 p, prD2 r, hx.dp, hy.dp, prD2_shaped p, prD2_shaped r, by rw [prD2_eqv]; exact q⟩
end
/-- a pair with its less end first -/
def nrm (p : Int × Int) : Int × Int := (min p.1 p.2, max p.1 p.2)
/-- a graph: the number of vertices, the ascending edges -/
structure GoodG (n : Int) (ps : List (Int × Int)) : Prop where
  one : 1 ≤ n
  asc : ps.Pairwise ltP
  inn : ∀ p ∈ ps, 0 ≤ p.1 ∧ p.1 < p.2 ∧ p.2 < n

set_option Elab.async false
set_option linter.all false
set_option maxRecDepth 100000
set_option maxHeartbeats 4000000
open PySem PySem.Spec PyProof.Rows L2
/-! # sets of tuples that a comprehension lays -/
section
variable {X : Cx}
/-- D takes the tuple y in -/
def AdT (K : PySem.W.Frag) (P : Program) (w : World) (D : Addr) (N : Hp → Prop) : V → Hp → Prop := fun y H => ∃ (b : Addr) (k : List Int) (L : List (Addr × List Int)), y = .ref b ∧ SqT K H b (k.map V.int) ∧ H D = some (SetTO P w D L) ∧
  (∀ p ∈ L, SqT K H p.1 (p.2.map V.int)) ∧ L.length + 1 < 64 ∧ ∀ L', (k ∈ L.map (·.2) → L' = L) → (k ∉ L.map (·.2) → L'.Perm ((b, k) :: L)) → N (upd H D (SetTO P w D L'))
/-- the set's own reading: what is met, turn by turn -/
def ScR (K : PySem.W.Frag) (P : Program) (w : World) (J : It) (g : TG) (tt : TT) (te : TE) (vs : List Nat) (σ : L2.St) (D : Addr) (Q : VK) (H1 : Hp) : Prop := ∃ W : Nat → Nat → Hp → Prop, (∃ m0, W 0 m0 (upd H1 D (SetTO P w D []))) ∧ ∀ i m H, W i m H →
  (J.stop i H ∧ Q (.ref D) H) ∨ (J.go i H ∧ ∃ Nx : Hp → Prop, (∀ H', Nx H' → ∃ m', m' < m ∧ W (i + 1) m' H') ∧ ∀ x H', J.yld i H x H' → g x (wipe σ vs) H' fun σ2 H2 => wipe σ2 vs = wipe σ vs ∧ tt σ2 H2 fun b H3 => if b = true then te σ2 H3 (AdT K P w D Nx) else Nx H3)
def tST (K : PySem.W.Frag) (P : Program) (w : World) (wi : TI) (g : TG) (tt : TT) (te : TE) (vs : List Nat) : TE := fun σ H Q => wi σ H fun J H1 => ∀ D, H1 D = none → ScR K P w J g tt te vs σ D Q H1
variable {elt tg iter : Expr} {ifs : List Expr} {scope : Scope} {own : List (PySem.Str × Nat)} {pos : Pos} {wi : TI} {g : TG} {tt : TT} {te : TE}
end
section
variable {X : Cx} {K : PySem.W.Frag} {P : Program} {w : World}
variable {σ : L2.St} {H : Hp} {Q : VK}
/-- the set of these pairs -/
def SetP (P : Program) (w : World) (H : Hp) (D : Addr) (qs : List (Int × Int)) : Prop := ∃ L, H D = some (SetTO P w D L) ∧ (∀ p ∈ L, H p.1 = some (.tup (p.2.map V.int))) ∧ (∀ k, k ∈ L.map (·.2) ↔ ∃ q ∈ qs, k = [q.1, q.2]) ∧ L.length ≤ qs.length
end
section
variable {P : Program} {w : World} {K : PySem.W.Frag} {mg : Str → Option Value} {base : Heap}
/-- a promise that nothing keeps to is kept -/
theorem fn_none {k : Nat} {f : Addr} {fd : FuncData} {ps : List PySem.Str} {CX : CXT} : FnOk P w K mg base CX k f fd ps (fun _ _ _ _ => False) := ⟨fun _ _ _ _ h => h.elim, fun _ _ _ _ _ _ _ _ _ _ _ _ _ h => h.elim⟩
theorem r_ixE {H : Hp} {Q : VK} {l : Addr} {xs : List V} {i : Int} {v : V} (h : SqL K H l xs ∨ SqT K H l xs) (e : atI xs i = some v) (q : Q v H) : rIxL K (.ref l) (.int i) H Q ∨ rIxT K (.ref l) (.int i) H Q := by
  rcases h with h | h
  · exact .inl (r_ixL h e q)
  · exact .inr (r_ixT h e q)
end

set_option Elab.async false
set_option linter.all false
set_option maxRecDepth 100000
set_option maxHeartbeats 4000000
open PySem PySem.Spec PyProof.Rows L2
/-- an own error's class -/
structure ExcD (K : PySem.W.Frag) (mg : Str → Option Value) (x : Str) where
  C : Addr
  g : mg x = some (.ref C)
  k : PySem.W.keepIn K (.ref C) = true
  q : PySem.W.excIn K C [.type "ValueError", .type "Exception", .type "BaseException", .type "object"] "ValueError.__new__" = true
  ex : PySem.W.subIn K (.ref C) (.type "BaseException") = some true
  ty : PySem.W.typeIn K (.ref C) = some (.type "type")
  me : PySem.W.subIn K (.ref C) (.ref C) = some true
  cc : ExcC K C
section
variable {K : PySem.W.Frag} {mg : Str → Option Value} {x : Str}
/-- isinstance(e, ..) of what was caught -/
def rIsEc (K : PySem.W.Frag) (D a : Addr) (cls : Value) (d : Option Addr) : List V → Hp → VK → Prop := fun xs H Q => cls = .ref D ∧ d = none ∧ rIsE K D a xs H Q
variable {σ : L2.St} {H : Hp} {Q : VK}
/-! chains of comparisons -/
def ChN (r' : R2) (tc : TE) (σ : L2.St) (Q : VK) (y : V) : VK := fun z H3 => ∃ k, z = .bl k ∧ (if k = true then tc σ H3 fun w' H4 => r' y w' H4 Q else Q (.bl false) H3)
theorem r_chain {r r' : R2} {ta tb tc : TE} (h : ta σ H fun x H1 => tb σ H1 fun y H2 => r x y H2 (ChN r' tc σ Q y)) : tChain r r' ta tb tc σ H Q := h
theorem r_chn {r' : R2} {tc : TE} {y : V} {b : Bool} (h : if b = true then tc σ H fun w' H4 => r' y w' H4 Q else Q (.bl false) H) : ChN r' tc σ Q y (.bl b) H := ⟨b, rfl, h⟩
def rInsN : V → List V → Hp → VK → Prop := fun x vs H Q => ∃ (l : Addr) (xs : List V) (i : Int) (y : V), x = .ref l ∧ vs = [.int i, y] ∧ H l = some (.lst xs) ∧ xs.length < sizeLine ∧ 0 ≤ i ∧ i < 2 ^ 63 ∧ Q .non (upd H l (.lst (xs.take i.toNat ++ [y] ++ xs.drop i.toNat)))
end

set_option Elab.async false
set_option linter.all false
set_option maxRecDepth 100000
set_option maxHeartbeats 4000000
open PySem PySem.Spec PyProof.Rows L2
/-! # enumerate over a tuple -/
section
variable {prog : Program} {w : World} {A : Around} {E : Value → Shared → Prop} {s : Shared}
end
/-- the tuple at a, its items in new pairs -/
def IteT (K : PySem.W.Frag) (a : Addr) : It :=
  ⟨fun i H => ∃ (xs : List V) (x : V), SqT K H a xs ∧ xs[i]? = some x, fun i H v H' => ∃ T x, v = .ref T ∧ H T = none ∧ H' = upd H T (.tup [.int (i : Nat), x]) ∧ ∀ xs, SqT K H a xs → xs[i]? = some x, fun i H => ∃ xs : List V, SqT K H a xs ∧ xs.length ≤ i⟩
def iEnumT (K : PySem.W.Frag) (ta : TA) : TI := fun σ H R => ta σ H fun vs H1 => ∃ a xs, vs = [.ref a] ∧ SqT K H1 a xs ∧ R (IteT K a) H1
/-! # dicts whose keys are tuples, laid by a comprehension -/
section
variable {X : Cx}
def PutT (D : Addr) (N : Hp → Prop) (y z : V) (H : Hp) : Prop := ∃ (kvs : List (List L2.Key × V)) (k : List L2.Key) (b : Addr), y = .ref b ∧ H D = some (.dT kvs) ∧ H b = some (.tup (k.map kV)) ∧ kvs.length < sizeLine ∧ N (upd H D (.dT (putK kvs k z)))
def DcR (J : It) (g : TG) (tt : TT) (tk tv : TE) (vs : List Nat) (σ : L2.St) (D : Addr) (Q : VK) (H1 : Hp) : Prop := ∃ W : Nat → Nat → Hp → Prop, (∃ m0, W 0 m0 (upd H1 D (.dT []))) ∧ ∀ i m H, W i m H →
  (J.stop i H ∧ Q (.ref D) H) ∨ (J.go i H ∧ ∃ Nx : Hp → Prop, (∀ H', Nx H' → ∃ m', m' < m ∧ W (i + 1) m' H') ∧ ∀ x H', J.yld i H x H' → g x (wipe σ vs) H' fun σ2 H2 => wipe σ2 vs = wipe σ vs ∧ tt σ2 H2 fun b H3 => if b = true then tk σ2 H3 fun y H4 => tv σ2 H4 (PutT D Nx y) else Nx H3)
def tDcT (wi : TI) (g : TG) (tt : TT) (tk tv : TE) (vs : List Nat) : TE := fun σ H Q => wi σ H fun J H1 => ∀ D, H1 D = none → DcR J g tt tk tv vs σ D Q H1
variable {kx vx tg iter : Expr} {ifs : List Expr} {scope : Scope} {own : List (PySem.Str × Nat)} {pos : Pos} {wi : TI} {g : TG} {tt : TT} {tk tv : TE}
end

set_option Elab.async false
set_option linter.all false
set_option maxRecDepth 100000
set_option maxHeartbeats 4000000
open PySem PySem.Spec PyProof.Rows L2
section
variable {X : Cx} {K : PySem.W.Frag} {P : Program} {w : World} {σ : L2.St} {H : Hp} {Q : VK} {D : Addr}
def EnT (K : PySem.W.Frag) (R : It → Hp → Prop) : List V → Hp → Prop := fun vs H1 => ∃ a xs, vs = [.ref a] ∧ SqT K H1 a xs ∧ R (IteT K a) H1
/-! ## number dicts -/
def PutK (D : Addr) (N : Hp → Prop) (y z : V) (H : Hp) : Prop := ∃ (kvs : List (L2.Key × V)) (k : L2.Key), y = kV k ∧ H D = some (.dK kvs) ∧ kvs.length < sizeLine ∧ N (upd H D (.dK (putK kvs k z)))
def KcR (J : It) (g : TG) (tt : TT) (tk tv : TE) (vs : List Nat) (σ : L2.St) (D : Addr) (Q : VK) (H1 : Hp) : Prop := ∃ W : Nat → Nat → Hp → Prop, (∃ m0, W 0 m0 (upd H1 D (.dK []))) ∧ ∀ i m H, W i m H →
  (J.stop i H ∧ Q (.ref D) H) ∨ (J.go i H ∧ ∃ Nx : Hp → Prop, (∀ H', Nx H' → ∃ m', m' < m ∧ W (i + 1) m' H') ∧ ∀ x H', J.yld i H x H' → g x (wipe σ vs) H' fun σ2 H2 => wipe σ2 vs = wipe σ vs ∧ tt σ2 H2 fun b H3 => if b = true then tk σ2 H3 fun y H4 => tv σ2 H4 (fun z H5 => PutK D Nx y z H5) else Nx H3)
/-! ## two clauses -/
def LnR (J1 : It) (g1 : TG) (tt1 : TT) (te : TE) (vs1 : List Nat) (σ2 : L2.St) (D : Addr) (Nx : Hp → Prop) (H4 : Hp) : Prop := ∃ W1 : Nat → Nat → Hp → Prop, (∃ m1, W1 0 m1 H4) ∧ ∀ j k H, W1 j k H →
  (J1.stop j H ∧ Nx H) ∨ (J1.go j H ∧ ∃ Nx1 : Hp → Prop, (∀ H', Nx1 H' → ∃ k', k' < k ∧ W1 (j + 1) k' H') ∧ ∀ x H', J1.yld j H x H' → g1 x (wipe σ2 vs1) H' fun σ3 H5 => wipe σ3 vs1 = wipe σ2 vs1 ∧ tt1 σ3 H5 fun b H6 => if b = true then te σ3 H6 (LcE D Nx1) else Nx1 H6)
def Lc2R (J : It) (g : TG) (tt : TT) (wi1 : TI) (g1 : TG) (tt1 : TT) (te : TE) (vs vs1 : List Nat) (σ : L2.St) (D : Addr) (Q : VK) (H1 : Hp) : Prop := ∃ W : Nat → Nat → Hp → Prop, (∃ m0, W 0 m0 (upd H1 D (.lst []))) ∧ ∀ i m H, W i m H →
  (J.stop i H ∧ Q (.ref D) H) ∨ (J.go i H ∧ ∃ Nx : Hp → Prop, (∀ H', Nx H' → ∃ m', m' < m ∧ W (i + 1) m' H') ∧ ∀ x H', J.yld i H x H' → g x (wipe σ vs) H' fun σ2 H2 => wipe σ2 vs = wipe σ vs ∧ tt σ2 H2 fun b H3 => if b = true then wi1 σ2 H3 fun J1 H4 => LnR J1 g1 tt1 te vs1 σ2 D Nx H4 else Nx H3)
/-! ## what dicts hold -/
def DgN (Q : VK) (x : V) : VK := fun y H2 => ∃ a v, x = .ref a ∧ DGet H2 a y (some v) ∧ Q v H2
def DnN (Q : VK) (y : V) : VK := fun x H2 => ∃ a o, x = .ref a ∧ DGet H2 a y o ∧ Q (.bl (!o.isSome)) H2
theorem op_catAK (h : X.K = K) : OpR X (binaryOp .Add) (rCatA K) := h ▸ op_catA
end

set_option Elab.async false
set_option linter.all false
set_option maxRecDepth 100000
set_option maxHeartbeats 4000000
open PySem PySem.Spec PyProof.Rows L2
/-! # match on tuples: a word, then names -/
/-- each pattern of these is a bare name -/
inductive Caps : List Pattern → List PySem.Str → Prop where
  | nil : Caps [] []
  | cons {ps : List Pattern} {ns : List PySem.Str} (n : PySem.Str) (p : Pos) (r : Caps ps ns) : Caps (.MatchAs none (some n) p :: ps) (n :: ns)
section
variable {M : Model} {A : Around} {E : Value → Shared → Prop} {env : Env}
end
section
variable {X : Cx}
/-- names that are bound, one after another -/
structure PBn (X : Cx) (ns : List PySem.Str) (t : TGs) : Prop where
  run : ∀ (pins : List (Addr × Obj)) (s : Shared) (σ : L2.St) (H : Hp) (vs : List V) (us : List Value) (Q : L2.St → Hp → Prop), Inv X pins σ H s → Vals vs us → t vs σ H Q → wpAny (model X.prog X.w) X.A (assignInOrder (ns.map (bindName X.env)) us) (fun _ s' => ∃ σ' H', Inv X pins σ' H' s' ∧ Q σ' H') X.xe s
/-- the cases of a match, behind the subject -/
structure PMc (X : Cx) (cs : List MatchCase) (t : V → TS) : Prop where
  run : ∀ (pins : List (Addr × Obj)) (s : Shared) (σ : L2.St) (H : Hp) (D : Ends) (v : V) (u : Value) (first : Bool), Inv X pins σ H s → RelV v u → t v D σ H → wpAny (model X.prog X.w) X.A (matchCases cs X.env u first) (SP X pins D) X.xe s
def tMatch (te : TE) (t : V → TS) : TS := fun D σ H => te σ H fun v H1 => t v D σ H1
/-- case [z, n1, ..] -/
def tWord (K : PySem.W.Frag) (z : PySem.Str) (n : Nat) (g : TGs) (tb : TS) (rest : V → TS) : V → TS := fun v D σ H => ∃ (a : Addr) (y : PySem.Str) (xs : List V), v = .ref a ∧ SqT K H a (.str y :: xs) ∧ (xs.length ≠ n → rest v D σ H) ∧
  (xs.length = n → (y = z → g xs σ H fun σ' H' => tb D σ' H') ∧ (y ≠ z → rest v D σ H))
variable {K : PySem.W.Frag} {σ : L2.St} {H : Hp} {D : Ends}
def StN (K : PySem.W.Frag) (t : TA) (σ : L2.St) (Q : List V → Hp → Prop) : VK := fun x H1 => ∃ p xs, x = V.ref p ∧ (SqT K H1 p xs ∨ SqL K H1 p xs) ∧ t σ H1 fun ys H2 => Q (xs ++ ys) H2
end

set_option Elab.async false
set_option linter.all false
set_option maxRecDepth 100000
set_option maxHeartbeats 4000000
open PySem PySem.Spec PyProof.Rows L2
/-! # try .. except X as e: .. else: .. -/
section
variable {X : Cx} {cx nm : Str} {cv : Value} {k : Nat} {bd su : List Stmt} {b0 : Stmt} {p1 p2 p3 : Pos} {tb : WX → TS} {ts : Addr → Value → Option Addr → TS} {Wo : WX}
end

set_option Elab.async false
set_option linter.all false
set_option maxRecDepth 100000
set_option maxHeartbeats 4000000
open PySem PySem.Spec PyProof.Rows L2
/-! # what a suite of except may do: min and max of two ints, calls -/
section
variable {prog : Program} {w : World} {A : Around} {E : Value → Shared → Prop} {s : Shared}
end
section
variable {X : Cx}
end
section
variable {P : Program} {w : World} {K : PySem.W.Frag} {mg : Str → Option Value} {base : Heap}
end

set_option Elab.async false
set_option linter.all false
set_option maxRecDepth 100000
set_option maxHeartbeats 4000000
open PySem PySem.Spec PyProof.Rows L2
/-- an expression that is never reached -/
def tDead : TE := fun _ _ _ => False
section
variable {K : PySem.W.Frag} {H : Hp} {Q : VK}
end

set_option Elab.async false
set_option linter.all false
set_option maxRecDepth 100000
set_option maxHeartbeats 4000000
open PySem PySem.Spec PyProof.Rows L2
/-! # sets as the bits of a number -/
structure Msk (x : Int) (S : Int → Prop) : Prop where
  nn : 0 ≤ x
  bits : ∀ i : Nat, x.toNat.testBit i = true ↔ S i
theorem Msk.zero : Msk 0 (fun _ => False) := ⟨by omega, fun i => by simp⟩
theorem Msk.shl {v : Int} (h : 0 ≤ v) : Msk (1 * 2 ^ v.toNat) (fun i => i = v) := by
  have e : (1 * 2 ^ v.toNat : Int) = ((2 ^ v.toNat : Nat) : Int) := by
    rw [Int.one_mul]
    exact (PySem.W.kbt_cast v.toNat).symm
  rw [e]
  refine ⟨Int.natCast_nonneg _, fun i => ?_⟩
  rw [Int.toNat_natCast, Nat.testBit_two_pow, decide_eq_true_eq]
  omega
theorem Msk.or {x y : Int} {S T : Int → Prop} (a : Msk x S) (b : Msk y T) : Msk (Builtin.bitOr x y) (fun i => S i ∨ T i) := by
  rw [Bits.bitOr_pp a.nn b.nn]
  refine ⟨Int.natCast_nonneg _, fun i => ?_⟩
  rw [Int.toNat_natCast, Nat.testBit_or, Bool.or_eq_true, a.bits, b.bits]
theorem Msk.and {x y : Int} {S T : Int → Prop} (a : Msk x S) (b : Msk y T) : Msk (Builtin.bitAnd x y) (fun i => S i ∧ T i) := by
  rw [bitAnd_pp a.nn b.nn]
  refine ⟨Int.natCast_nonneg _, fun i => ?_⟩
  rw [Int.toNat_natCast, Nat.testBit_and, Bool.and_eq_true, a.bits, b.bits]
theorem Msk.congr {x : Int} {S T : Int → Prop} (a : Msk x S) (h : ∀ i : Nat, S i ↔ T i) : Msk x T := ⟨a.nn, fun i => (a.bits i).trans (h i)⟩
theorem Msk.uniq {x y : Int} {S : Int → Prop} (a : Msk x S) (b : Msk y S) : x = y := by
  have : x.toNat = y.toNat := Nat.eq_of_testBit_eq fun i => by
    have h1 := a.bits i
    have h2 := b.bits i
    cases c : x.toNat.testBit i <;> cases d : y.toNat.testBit i <;> simp_all
  have := a.nn
  have := b.nn
  omega
/-- what ors do: a mask of the items of a list -/
theorem Msk.snoc {x v : Int} {ns : List Int} (a : Msk x (fun i => i ∈ ns)) (h : 0 ≤ v) : Msk (Builtin.bitOr x (1 * 2 ^ v.toNat)) (fun i => i ∈ ns ++ [v]) :=
  (a.or (.shl h)).congr fun i => by rw [List.mem_append, List.mem_singleton]
theorem Msk.nil : Msk 0 (fun i => i ∈ ([] : List Int)) := Msk.zero.congr fun i => by simp
/-! ## ints as data -/
theorem dps_int {K : PySem.W.Frag} {H : Hp} : ∀ ns : List Int, DpAll K H (ns.map V.int) (ns.map PyData.int)
  | [] => .nil
  | _ :: ns => .cons (.int _) (dps_int ns)
theorem layI : ∀ ns : List Int, PyData.canLayAll0 (ns.map PyData.int) = true
  | [] => by simp [PyData.canLayAll0]
  | n :: ns => by
    rw [List.map_cons]
    simp only [PyData.canLayAll0, PyData.canLay0, Bool.true_and]
    exact layI ns
theorem depI : ∀ ns : List Int, PyData.depthAll (ns.map PyData.int) ≤ 0
  | [] => by simp [PyData.depthAll]
  | n :: ns => by
    have := depI ns
    rw [List.map_cons]
    simp only [PyData.depthAll, PyData.depth]
    omega
theorem tupI_lay (ns : List Int) : (PyData.tuple (ns.map PyData.int)).canLay0 = true := by
  simp only [PyData.canLay0]
  exact layI ns
theorem tupI_depth (ns : List Int) : (PyData.tuple (ns.map PyData.int)).depth ≤ 1 := by
  have := depI ns
  simp only [PyData.depth]
  omega
theorem lstI_lay (ns : List Int) : (PyData.list (ns.map PyData.int)).canLay0 = true := by
  simp only [PyData.canLay0]
  exact layI ns
theorem lstI_depth (ns : List Int) : (PyData.list (ns.map PyData.int)).depth ≤ 1 := by
  have := depI ns
  simp only [PyData.depth]
  omega
theorem eqvI : ∀ ns ms : List Int, PyData.eqvAll (ns.map PyData.int) (ms.map PyData.int) = decide (ns = ms)
  | [], [] => by simp [PyData.eqvAll]
  | [], _ :: _ => by simp [PyData.eqvAll]
  | _ :: _, [] => by simp [PyData.eqvAll]
  | n :: ns, m :: ms => by
    rw [List.map_cons, List.map_cons]
    simp only [PyData.eqvAll, PyData.eqv]
    rw [eqvI ns ms]
    by_cases h1 : n = m <;> by_cases h2 : ns = ms <;> simp [h1, h2]
theorem tupI_eqv (ns ms : List Int) : PyData.eqv (.tuple (ns.map PyData.int)) (.tuple (ms.map PyData.int)) = decide (ns = ms) := by
  simp only [PyData.eqv]
  exact eqvI ns ms
/-- ints ascending, each once -/
structure DedI (qs fs : List Int) : Prop where
  asc : fs.Pairwise (· < ·)
  mem : ∀ z, z ∈ fs ↔ z ∈ qs
  last : fs.getLast? = qs.getLast?
theorem DedI.nil : DedI [] [] := ⟨.nil, fun _ => Iff.rfl, rfl⟩
theorem DedI.same {qs fs : List Int} {q : Int} (D : DedI qs fs) (h : fs.getLast? = some q) : DedI (qs ++ [q]) fs := by
  refine ⟨D.asc, fun z => ?_, by rw [h, List.getLast?_append]; simp⟩
  rw [List.mem_append, ← D.mem, List.mem_singleton]
  refine ⟨.inl, fun c => c.elim id fun e => ?_⟩
  rw [e]
  exact List.mem_of_getLast? h
theorem DedI.more {qs fs : List Int} {q : Int} (D : DedI qs fs) (hl : (qs ++ [q]).Pairwise (· ≤ ·)) (h : fs.getLast? ≠ some q) : DedI (qs ++ [q]) (fs ++ [q]) := by
  obtain ⟨p1, p2, p3⟩ := List.pairwise_append.mp hl
  refine ⟨List.pairwise_append.mpr ⟨D.asc, by simp, fun a ha b hb => ?_⟩, fun z => by rw [List.mem_append, List.mem_append, D.mem], by rw [List.getLast?_append, List.getLast?_append]; simp⟩
  rw [List.mem_singleton.mp hb]
  have le := p3 a ((D.mem a).mp ha) q List.mem_cons_self
  rcases Int.lt_or_eq_of_le le with e | e
  · exact e
  refine absurd ?_ h
  subst e
  obtain ⟨b, hb'⟩ : ∃ b, fs.getLast? = some b := by
    cases q9 : fs.getLast? with
    | some r => exact ⟨r, rfl⟩
    | none =>
      rw [List.getLast?_eq_none_iff.mp q9] at ha
      cases ha
  have hbq := p3 b ((D.mem b).mp (List.mem_of_getLast? hb')) a List.mem_cons_self
  have hab : a ≤ b := by
    obtain ⟨ys, e⟩ := List.getLast?_eq_some_iff.mp hb'
    rw [e] at ha
    have pw := D.asc
    rw [e] at pw
    rcases List.mem_append.mp ha with c | c
    · have := (List.pairwise_append.mp pw).2.2 a c b List.mem_cons_self
      omega
    · rw [List.mem_singleton.mp c]
      omega
  rw [hb', show b = a by omega]
section
variable {X : Cx} {K : PySem.W.Frag} {σ : L2.St} {H : Hp} {Q : VK}
theorem r_neTI {f e : Addr} {ns ms : List Int} (h : SqT K H f (ns.map V.int)) (he : SqT K H e (ms.map V.int)) (q : Q (.bl (!decide (ns = ms))) H) : rNeD K (.ref f) (.ref e) H Q := by
  refine ⟨.tuple (ns.map PyData.int), .tuple (ms.map PyData.int), .tup h (dps_int ns), .tup he (dps_int ms), shaped_of (tupI_lay ns) (by have := tupI_depth ns; omega), shaped_of (tupI_lay ms) (by have := tupI_depth ms; omega), ?_⟩
  rw [tupI_eqv]
  exact q
theorem r_sortI {a : Addr} {ns : List Int} {R : VK} (h : SqL K H a (ns.map V.int)) (l : ns.length < 64) (q : ∀ (ms : List Int) (p : Addr), ms.Perm ns → ms.Pairwise (· ≤ ·) → H p = none → R (.ref p) (upd H p (.lst (ms.map V.int)))) : rSorted K [.ref a] H R := ⟨a, ns, rfl, h, l, q⟩
theorem op_inDK (h : X.K = K) (hu : X.A.units + 65 < cLine) : OpR X (compareOp .In) (rInD K) := h ▸ op_inD hu
theorem cr_allK (h : X.K = K) (hc : X.calm = true) : CallR X (.builtin "all") (rAll K) := h ▸ cr_all hc
theorem r_all {a : Addr} {bs : List Bool} (h : H a = some (.lst (bs.map V.bl))) (q : Q (.bl (bs.all id)) H) : rAll K [.ref a] H Q := ⟨a, bs, rfl, .inl (.inl h), q⟩
def AugN (i : Nat) (ti : TIp) (σ : L2.St) (nx : L2.St → Hp → Prop) (x : V) : VK := fun y H1 => ti x y H1 fun z H2 => nx (σ.set i (some z)) H2
theorem r_aug {i : Nat} {te : TE} {ti : TIp} {nx bk ct : L2.St → Hp → Prop} {x : V} (e : σ[i]? = some (some x)) (h : te σ H (AugN i ti σ nx x)) : tAug i te ti ⟨nx, Q, bk, ct⟩ σ H := ⟨x, e, h⟩
theorem r_augOr {i : Nat} {nx : L2.St → Hp → Prop} {a b : Int} {σ' : L2.St} (e : σ.set i (some (.int (Builtin.bitOr a b))) = σ') (h : nx σ' H) : AugN i (rI0 fun i j => .int (Builtin.bitOr i j)) σ nx (.int a) (.int b) H := ⟨a, b, rfl, rfl, by subst e; exact h⟩
end

set_option Elab.async false
set_option linter.all false
set_option maxRecDepth 100000
set_option maxHeartbeats 4000000
open PySem PySem.Spec PyProof.Rows L2
/-! # sets of ints: {x}, and a def that knows its code -/
section
variable {P : Program} {w : World} {A : Around} {E : Value → Shared → Prop} {s : Shared} {a : Addr} {S : Int → Bool} {n : Nat}
end
section
variable {X : Cx}
/-- {x}: the set first, then the item -/
def tSet1 (w : World) (te : TE) : TE := fun σ H Q => ∀ p, H p = none → te σ (upd H p (SetO w p (fun _ => false) 0)) fun x H1 => ∃ k, x = .int k ∧ H1 p = some (SetO w p (fun _ => false) 0) ∧ Q (.ref p) (upd H1 p (SetO w p (fun j => decide (j = k)) 1))
end
section
variable {P : Program} {w : World} {K : PySem.W.Frag} {mg : Str → Option Value} {base : Heap}
end
section
variable {X : Cx} {w : World} {σ : L2.St} {H : Hp} {Q : VK}
def SAddN (w : World) (t : TA) (σ : L2.St) (Q : VK) : VK := fun x H1 => (∃ a S n, x = V.ref a ∧ H1 a = some (SetO w a S n)) ∧ t σ H1 fun xs H2 => rSAdd w x xs H2 Q
end

set_option Elab.async false
set_option linter.all false
set_option maxRecDepth 100000
set_option maxHeartbeats 4000000
open PySem PySem.Spec PyProof.Rows L2
/-! # list.extend of a tuple, len of a set -/
section
open PySem.AutoSeq1 in
end
section
variable {X : Cx} {K : PySem.W.Frag} {w : World}
def rExtT (K : PySem.W.Frag) : V → List V → Hp → VK → Prop := fun x vs H Q => ∃ l b xs zs, x = .ref l ∧ vs = [.ref b] ∧ H l = some (.lst xs) ∧ SqT K H b zs ∧ xs.length + zs.length ≤ sizeLine ∧ Q .non (upd H l (.lst (xs ++ zs)))
def rLenSet (w : World) : List V → Hp → VK → Prop := fun vs H Q => ∃ (a : Addr) (S : Int → Bool) (n : Nat), vs = [V.ref a] ∧ H a = some (SetO w a S n) ∧ Q (.int n) H
end

set_option Elab.async false
set_option linter.all false
set_option maxRecDepth 100000
set_option maxHeartbeats 4000000
open PySem PySem.Spec PyProof.Rows L2
/-! # truth of lists, pop(), while, two clauses over lists -/
section
variable {X : Cx} {K : PySem.W.Frag} {w : World} {σ : L2.St} {H : Hp} {Q : VK}
def TruN (K : PySem.W.Frag) (Q : Bool → Hp → Prop) : VK := fun x H' => ∃ k, TruV K x H' k ∧ Q k H'
def tTruth (K : PySem.W.Frag) (ta : TE) : TT := fun σ H Q => ta σ H (TruN K Q)
def Bm0 (K : PySem.W.Frag) (T : String) (r : V → List V → Hp → VK → Prop) (Q : VK) : VK := fun x H1 => tyV K T x H1 ∧ r x [] H1 Q
variable {nx bk ct : L2.St → Hp → Prop}
theorem r_while {tc : TT} {tb : TS} (W : Nat → L2.St → Hp → Prop) (m0 : Nat) (h0 : W m0 σ H)
    (hs : ∀ m σ H, W m σ H → tc σ H fun b H1 => if b = true then ∃ N : L2.St → Hp → Prop, (∀ σ' H', N σ' H' → ∃ m', m' < m ∧ W m' σ' H') ∧ tb ⟨N, Q, nx, N⟩ σ H1 else nx σ H1) : tWhile tc tb ⟨nx, Q, bk, ct⟩ σ H := ⟨W, ⟨m0, h0⟩, hs⟩
theorem r_whGo {tb : TS} {W : Nat → L2.St → Hp → Prop} {m : Nat} (h : tb ⟨fun σ' H' => ∃ m', m' < m ∧ W m' σ' H', Q, nx, fun σ' H' => ∃ m', m' < m ∧ W m' σ' H'⟩ σ H) : ∃ N : L2.St → Hp → Prop, (∀ σ' H', N σ' H' → ∃ m', m' < m ∧ W m' σ' H') ∧ tb ⟨N, Q, nx, N⟩ σ H := ⟨_, fun _ _ z => z, h⟩
theorem cut_from (xs : List V) (k : Nat) (h : k ≤ xs.length) : cutV xs (some (k : Int)) none = xs.drop k := by
  unfold cutV
  rw [HT.sIx_none, HT.sIx_nat, Nat.min_eq_left h]
  exact List.take_of_length_le (by rw [List.length_drop]; omega)
end

set_option Elab.async false
set_option linter.all false
set_option maxRecDepth 100000
set_option maxHeartbeats 4000000
open PySem PySem.Spec PyProof.Rows L2
/-! # sorted of tuples of ints of any lengths -/
def lexI : List Int → List Int → Bool
  | [], [] => false
  | [], _ :: _ => true
  | _ :: _, [] => false
  | a :: as, b :: bs => if a = b then lexI as bs else decide (a < b)
section
variable {prog : Program} {w : World} {A : Around} {E : Value → Shared → Prop} {s : Shared}
end
/-- the ints of a tracked tuple -/
def kI (H : Hp) : V → List Int
  | .ref t => match H t with
    | some (.tup ys) => ys.filterMap fun y => match y with
      | .int i => some i
      | _ => none
    | _ => []
  | _ => []
def rSortL (K : PySem.W.Frag) : List V → Hp → VK → Prop := fun vs H Q => ∃ (a : Addr) (xs : List V), vs = [V.ref a] ∧ SqL K H a xs ∧ (∀ x ∈ xs, ∃ t ns, x = V.ref t ∧ H t = some (.tup (ns.map V.int)) ∧ ns ≠ []) ∧
  ∀ ys p, ys.Pairwise (fun x y => lexI (kI H y) (kI H x) = false) → ys.Perm xs → H p = none → Q (.ref p) (upd H p (.lst ys))
section
variable {X : Cx} {K : PySem.W.Frag}
end

set_option Elab.async false
set_option linter.all false
set_option maxRecDepth 100000
set_option maxHeartbeats 4000000
open PySem PySem.Spec PyProof.Rows L2
/-! # what is connected -/
inductive Con (R : Int → Int → Prop) (v : Int) : Int → Prop
  | refl : Con R v v
  | step {a b : Int} (h : Con R v a) (r : R a b) : Con R v b
theorem Con.trans {R : Int → Int → Prop} {u v z : Int} (h : Con R u v) (k : Con R v z) : Con R u z := by
  induction k with
  | refl => exact h
  | step _ r ih => exact .step ih r
theorem Con.symm {R : Int → Int → Prop} (hs : ∀ a b, R a b → R b a) {u v : Int} (h : Con R u v) : Con R v u := by
  induction h with
  | refl => exact .refl
  | step _ r ih => exact Con.trans (.step .refl (hs _ _ r)) ih
theorem Con.closed {R : Int → Int → Prop} {v : Int} {S : Int → Prop} (h0 : S v) (hc : ∀ a b, S a → R a b → S b) {z : Int} (h : Con R v z) : S z := by
  induction h with
  | refl => exact h0
  | step _ r ih => exact hc _ _ ih r
theorem asc_eqZ : ∀ {ps qs : List Int}, ps.Pairwise (· < ·) → qs.Pairwise (· < ·) → (∀ p, p ∈ ps ↔ p ∈ qs) → ps = qs
  | [], [], _, _, _ => rfl
  | [], q :: qs, _, _, h => absurd ((h q).mpr List.mem_cons_self) (by simp)
  | p :: ps, [], _, _, h => absurd ((h p).mp List.mem_cons_self) (by simp)
  | p :: ps, q :: qs, h1, h2, h => by
    obtain ⟨a1, b1⟩ := List.pairwise_cons.mp h1
    obtain ⟨a2, b2⟩ := List.pairwise_cons.mp h2
    have e : p = q := by
      rcases List.mem_cons.mp ((h p).mp List.mem_cons_self) with e | e
      · exact e
      · rcases List.mem_cons.mp ((h q).mpr List.mem_cons_self) with e' | e'
        · exact e'.symm
        · have := a2 p e
          have := a1 q e'
          omega
    subst e
    refine congrArg (p :: ·) (asc_eqZ b1 b2 fun z => ⟨fun hz => ?_, fun hz => ?_⟩)
    · rcases List.mem_cons.mp ((h z).mp (List.mem_cons_of_mem _ hz)) with e | e
      · have := a1 z hz
        omega
      · exact e
    · rcases List.mem_cons.mp ((h z).mpr (List.mem_cons_of_mem _ hz)) with e | e
      · have := a2 z hz
        omega
      · exact e
/-- neighbours within some vertices -/
def RWi (ns : List Int) (ps : List (Int × Int)) (a b : Int) : Prop := a ∈ ns ∧ b ∈ ns ∧ nrm (a, b) ∈ ps
theorem nrm_cm (u v : Int) : nrm (u, v) = nrm (v, u) := by
  unfold nrm
  exact Prod.ext (by dsimp only; omega) (by dsimp only; omega)
theorem Con.inn {ns : List Int} {ps : List (Int × Int)} {v z : Int} (hv : v ∈ ns) (h : Con (RWi ns ps) v z) : z ∈ ns := Con.closed (S := fun z => z ∈ ns) hv (fun _ _ _ r => r.2.1) h
/-- the classes of a graph: what the components are -/
structure Parts (ns : List Int) (ps : List (Int × Int)) (qs : List (List Int)) : Prop where
  asc : qs.Pairwise (fun x y => lexI x y = true)
  cls : ∀ c, c ∈ qs ↔ ∃ v ∈ ns, c.Pairwise (· < ·) ∧ ∀ z, z ∈ c ↔ Con (RWi ns ps) v z
set_option Elab.async false
set_option linter.all false
set_option maxRecDepth 100000
set_option maxHeartbeats 4000000
open PySem PySem.Spec PyProof.Rows L2
/-! # t.index(x), t of ints -/
def rTIdx (K : PySem.W.Frag) : V → List V → Hp → VK → Prop := fun x xs H Q => ∃ (p : Addr) (ns : List Int) (k : Int), x = .ref p ∧ xs = [.int k] ∧ SqT K H p (ns.map V.int) ∧ k ∈ ns ∧ Q (.int (ns.idxOf k : Nat)) H
section
variable {X : Cx} {K : PySem.W.Frag}
end

set_option Elab.async false
set_option linter.all false
set_option maxRecDepth 100000
set_option maxHeartbeats 4000000
open PySem PySem.Spec PyProof.Rows L2
/-! # the bits of any whole number -/
def Bit (x : Int) (i : Nat) : Bool := if 0 ≤ x then x.toNat.testBit i else !(Builtin.bitNot x).toNat.testBit i
set_option Elab.async false
set_option linter.all false
set_option maxRecDepth 100000
set_option maxHeartbeats 4000000
open PySem PySem.Spec PyProof.Rows L2
/-! # masks: their lowest bit, what is not in them -/
def Bts (x : Int) (S : Int → Prop) : Prop := ∀ i : Nat, Bit x i = true ↔ S i
theorem Msk.sub {x y : Int} {S T : Int → Prop} (a : Msk x S) (b : Msk y T) (h : ∀ i : Nat, S i ↔ T i) : x = y := (a.congr h).uniq b
theorem Msk.eq_iff {x y : Int} {S T : Int → Prop} (a : Msk x S) (b : Msk y T) : x = y ↔ ∀ i : Nat, S i ↔ T i := by
  refine ⟨fun e i => ?_, a.sub b⟩
  subst e
  exact (a.bits i).symm.trans (b.bits i)
/-- x.bit_length() -/
def rBitLen : V → List V → Hp → VK → Prop := fun x xs H Q => ∃ i : Int, x = .int i ∧ xs = [] ∧ Q (.int (Builtin.Int.intBits i)) H
section
variable {K : PySem.W.Frag} {σ : L2.St} {H : Hp} {Q : VK}
end

set_option Elab.async false
set_option linter.all false
set_option maxRecDepth 100000
set_option maxHeartbeats 4000000
open PySem PySem.Spec PySem.W PyProof.Rows L2
/-! # the least of a list of data -/
def rMinD (K : PySem.W.Frag) : List V → Hp → VK → Prop := fun vs H Q => ∃ (a : Addr) (xs : List V) (d : PyData) (ds : List PyData), vs = [.ref a] ∧ SqL K H a xs ∧ DpAll K H xs (d :: ds) ∧ AlikeAll (d :: ds) ∧ PyData.depthAll (d :: ds) ≤ 60 ∧
  ∀ (i : Nat) (x : V), xs[i]? = some x → (d :: ds)[i]? = some (minD d ds) → Q x H
section
variable {X : Cx}
end

set_option Elab.async false
set_option linter.all false
set_option maxRecDepth 100000
set_option maxHeartbeats 4000000
open PySem PySem.Spec PyProof.Rows L2
/-! # ranges downwards, methods of tuples, slices of lists -/
section
variable {X : Cx} {K : PySem.W.Frag} {σ : L2.St} {H : Hp} {Q : VK}
def Rg3N (R : It → Hp → Prop) (vs : List V) (H1 : Hp) : Prop := ∃ (i j c : Int) (n : Nat), vs = [.int i, .int j, .int c] ∧ RgC i j c n ∧ R (Itc i c n) H1
/-- tuple(l), its object known not to have a dict -/
def rTupF (K : PySem.W.Frag) : List V → Hp → VK → Prop := fun vs H Q => ∃ (p : Addr) (ys : List V), vs = [V.ref p] ∧ SqL K H p ys ∧ ∀ (l : Addr) (o : Obj), H l = none → o.dict = none → Q (.ref l) (upd H l (.frz o (.tup ys)))
theorem cr_sortedK (h : X.K = K) : CallR X (.builtin "sorted") (rSorted K) := h ▸ cr_sorted
/-- a method of such a tuple, with arguments -/
def FrT (H : Hp) (p : Addr) (ys : List V) : Prop := ∃ o : Obj, H p = some (.frz o (.tup ys)) ∧ o.dict = none
def tBU (r : V → List V → Hp → VK → Prop) (to : TE) (t : TA) : TE := fun σ H Q => to σ H fun x H1 => (∃ p ys, x = V.ref p ∧ FrT H1 p ys) ∧ t σ H1 fun xs H2 => r x xs H2 Q
def BuN (r : V → List V → Hp → VK → Prop) (t : TA) (σ : L2.St) (Q : VK) : VK := fun x H1 => (∃ p ys, x = V.ref p ∧ FrT H1 p ys) ∧ t σ H1 fun xs H2 => r x xs H2 Q
end

set_option Elab.async false
set_option linter.all false
set_option maxRecDepth 100000
set_option maxHeartbeats 4000000
open PySem PySem.Spec PySem.W PyProof.Rows L2
/-! # sorted of a list of data -/
theorem dLe_trans (a b c : PyData) (h1 : (!dataLt b a) = true) (h2 : (!dataLt c b) = true) : (!dataLt c a) = true := by
  cases q : dataLt c a with
  | false => rfl
  | true =>
    rw [Bool.not_eq_true'] at h1 h2
    rcases lex_negTrans (O := itemOrd) _ (keyToks b) _ q with z | z
    · exact absurd (h2.symm.trans z) Bool.false_ne_true
    · exact absurd (h1.symm.trans z) Bool.false_ne_true
theorem dLe_total (a b : PyData) : (!dataLt b a || !dataLt a b) = true := by
  cases p : dataLt b a with
  | false => rfl
  | true =>
    cases q : dataLt a b with
    | false => rfl
    | true =>
      have h := lex_trans (O := itemOrd) _ _ _ p q
      exact absurd ((lex_irrefl (O := itemOrd) _).symm.trans h) Bool.false_ne_true
theorem zip_snd {K : PySem.W.Frag} {H : Hp} : ∀ {xs : List V} {ds : List PyData}, DpAll K H xs ds → (xs.zip ds).map Prod.snd = ds
  | _, _, .nil => rfl
  | _, _, .cons _ t => by rw [List.zip_cons_cons, List.map_cons, zip_snd t]
theorem dp_len {K : PySem.W.Frag} {H : Hp} : ∀ {xs : List V} {ds : List PyData}, DpAll K H xs ds → xs.length = ds.length
  | _, _, .nil => rfl
  | _, _, .cons _ t => by rw [List.length_cons, List.length_cons, dp_len t]
theorem zip_dp {K : PySem.W.Frag} {H : Hp} : ∀ {xs : List V} {ds : List PyData}, DpAll K H xs ds → ∀ b ∈ xs.zip ds, Dp K H b.1 b.2
  | _, _, .nil, b, h => by cases h
  | _, _, .cons a t, b, h => by
    rw [List.zip_cons_cons] at h
    rcases List.mem_cons.mp h with rfl | h
    · exact a
    · exact zip_dp t b h
theorem dp_zip {K : PySem.W.Frag} {H : Hp} : ∀ {bs : List (V × PyData)}, (∀ b ∈ bs, Dp K H b.1 b.2) → DpAll K H (bs.map Prod.fst) (bs.map Prod.snd)
  | [], _ => .nil
  | b :: bs, h => .cons (h b List.mem_cons_self) (dp_zip fun c hc => h c (List.mem_cons_of_mem _ hc))
theorem zip_back : ∀ bs : List (V × PyData), (bs.map Prod.fst).zip (bs.map Prod.snd) = bs
  | [] => rfl
  | b :: bs => by rw [List.map_cons, List.map_cons, List.zip_cons_cons, zip_back bs]
theorem deep_mem {ds : List PyData} {d : PyData} (h : d ∈ ds) : d.depth ≤ PyData.depthAll ds := by
  induction ds with
  | nil => cases h
  | cons e ds ih =>
    simp only [PyData.depthAll]
    rcases List.mem_cons.mp h with rfl | h
    · omega
    · have := ih h
      omega
def rSortD (K : PySem.W.Frag) : List V → Hp → VK → Prop := fun vs H Q => ∃ (a : Addr) (xs : List V) (ds : List PyData), vs = [.ref a] ∧ SqL K H a xs ∧ DpAll K H xs ds ∧ AllAlike ds ∧ Sortable ds ∧ PyData.depthAll ds ≤ 60 ∧
  ∀ (ys : List V) (es : List PyData) (p : Addr), (ys.zip es).Perm (xs.zip ds) → ys.length = es.length → ys.Perm xs → es.Perm ds → DpAll K H ys es → es.Pairwise (fun d e => dataLt e d = false) → H p = none → Q (.ref p) (upd H p (.lst ys))
section
variable {X : Cx}
theorem each_of {pins : List (Addr × Obj)} {s : Shared} {σ : L2.St} {H : Hp} (I : Inv X pins σ H s) : ∀ {xs : List V} {its : List Value} {ds : List PyData}, Vals xs its → DpAll X.K H xs ds →
    EachIs (fun v (b : V × PyData) => RelV b.1 v) its (xs.zip ds) ∧ EachIs (fun v (b : V × PyData) => ∃ as, Reads s.heap v b.2 as) its (xs.zip ds)
  | _, _, _, .nil, .nil => ⟨.nil, .nil⟩
  | _, _, _, .cons r rs, .cons h t => by
    obtain ⟨h1, h2⟩ := each_of I rs t
    exact ⟨.cons r h1, .cons (Dp.reads I _ _ _ h r) h2⟩
theorem vals_each : ∀ {out : List Value} {bs : List (V × PyData)}, EachIs (fun v (b : V × PyData) => RelV b.1 v) out bs → Vals (bs.map Prod.fst) out
  | _, _, .nil => .nil
  | _, _, .cons h t => .cons h (vals_each t)
theorem cr_sortD (hu : X.A.units + 64 < cLine) : CallR X (.builtin "sorted") (rSortD X.K) := by
  intro pins s σ H vs us Q I r h
  obtain ⟨a, xs, ds, rfl, hl, hd, al, sb, dep, q⟩ := h
  rw [Vals.ref1 r]
  obtain ⟨its, rv, hL, hz⟩ := I.list hl
  obtain ⟨e1, e2⟩ := each_of I rv hd
  have es := zip_snd hd
  have lz : (xs.zip ds).length = xs.length := by
    have := dp_len hd
    rw [List.length_zip]
    omega
  refine sorted_data (enc := Prod.snd) hL.isList e1 e2 (by rw [es]; exact al) (by rw [es]; exact sb) (by rw [lz]; exact hz) (fun b hb => ?_) fun out lo ho => ?_
  · have := deep_mem (ds := ds) (d := b.2) (by rw [← es]; exact List.mem_map.mpr ⟨b, hb, rfl⟩)
    show X.A.units + 2 + b.2.depth < cLine
    generalize b.2.depth = k at this ⊢
    omega
  · have pm : ((xs.zip ds).mergeSort (dataLe false Prod.snd)).Perm (xs.zip ds) := List.mergeSort_perm _ _
    have pw : ((xs.zip ds).mergeSort (dataLe false Prod.snd)).Pairwise (fun a b => dataLe false Prod.snd a b = true) := List.pairwise_mergeSort (fun a b c h1 h2 => by
      rw [dataLe_eq] at *
      exact dLe_trans _ _ _ h1 h2) (fun a b => by
      rw [dataLe_eq]
      exact dLe_total _ _) _
    have hv := vals_each ho
    generalize (xs.zip ds).mergeSort (dataLe false Prod.snd) = bs at pm pw hv
    have p1 : (bs.map Prod.fst).Perm xs := by
      have z := pm.map Prod.fst
      have l2 : ds.length = xs.length := by rw [← es, List.length_map, lz]
      rwa [List.map_fst_zip (by omega)] at z
    have p2 : (bs.map Prod.snd).Perm ds := by
      have z := pm.map Prod.snd
      rwa [es] at z
    obtain ⟨n, hn⟩ := sortedAll_at s.heap its out.toArray
    refine ⟨.ref (s.heap.objs.size + 1), upd H (s.heap.objs.size + 1) (.lst (bs.map Prod.fst)), I.laid (t' := s.toks) (fun b o e => sortedAll_old e) (Nat.le_succ _) ⟨?_, out, n, hv, hn⟩, rfl, q _ (bs.map Prod.snd) _ (by rw [zip_back]; exact pm) (by rw [List.length_map, List.length_map]) p1 p2 (dp_zip fun b hb => zip_dp hd b (pm.mem_iff.mp hb)) ?_ (I.hok.fresh (Nat.le_succ _))⟩
    · rw [p1.length_eq]
      exact hz
    · refine List.pairwise_map.mpr (pw.imp fun {a b} h => ?_)
      rw [dataLe_eq] at h
      have h : (!dataLt b.2 a.2) = true := h
      rwa [Bool.not_eq_true'] at h
theorem cr_sortDK {K : PySem.W.Frag} (h : X.K = K) (hu : X.A.units + 64 < cLine) : CallR X (.builtin "sorted") (rSortD K) := h ▸ cr_sortD hu
end

set_option Elab.async false
set_option linter.all false
set_option maxRecDepth 100000
set_option maxHeartbeats 4000000
open PySem PySem.Spec PyProof.Rows L2
/-! # is a tuple in a set of tuples -/
section
variable {P : Program} {w : World} {A : Around} {E : Value → Shared → Prop} {s : Shared} {a : Addr} {L : List (Addr × List Int)} {es : Array (Int × Value)} {ep : Nat} {t : SetTable}
/-- the step of the way on which the look begins -/
def way0 (t : SetTable) (h : Int) : SetTable.Probe := runAt t.mask (SetTable.bits h % (t.mask + 1)) (SetTable.bits h)
end
section
variable {X : Cx} {K : PySem.W.Frag} {P : Program} {w : World} {σ : L2.St} {H : Hp} {Q : VK}
/-- set(), to hold tuples -/
def rSet0T (P : Program) (w : World) : List V → Hp → VK → Prop := fun xs H Q => xs = [] ∧ ∀ p, H p = none → Q (.ref p) (upd H p (SetTO P w p []))
/-- s.add(t) -/
def rSAddT (K : PySem.W.Frag) (P : Program) (w : World) : V → List V → Hp → VK → Prop := fun x xs H Q => ∃ (D : Addr) (y : V), x = .ref D ∧ xs = [y] ∧ AdT K P w D (fun H' => Q .non H') y H
def tSAddT (K : PySem.W.Frag) (P : Program) (w : World) (to : TE) (t : TA) : TE := fun σ H Q => to σ H fun x H1 => (∃ D L, x = V.ref D ∧ H1 D = some (SetTO P w D L)) ∧ t σ H1 fun xs H2 => rSAddT K P w x xs H2 Q
variable {o e : Expr} {es : List Expr} {to : TE} {t : TA} {apos cpos : Pos}
/-- t in s, t not in s -/
def rInT (K : PySem.W.Frag) (P : Program) (w : World) (neg : Bool) : V → V → Hp → VK → Prop := fun x y H Q => ∃ (b D : Addr) (k : List Int) (L : List (Addr × List Int)), x = .ref b ∧ y = .ref D ∧ SqT K H b (k.map V.int) ∧ H D = some (SetTO P w D L) ∧ (∀ p ∈ L, SqT K H p.1 (p.2.map V.int)) ∧ Q (.bl (xor neg (decide (k ∈ L.map (·.2))))) H
/-- named readings -/
def SAddTN (K : PySem.W.Frag) (P : Program) (w : World) (t : TA) (σ : L2.St) (Q : VK) : VK := fun x H1 => (∃ D L, x = V.ref D ∧ H1 D = some (SetTO P w D L)) ∧ t σ H1 fun xs H2 => rSAddT K P w x xs H2 Q
end

set_option Elab.async false
set_option linter.all false
set_option maxRecDepth 100000
set_option maxHeartbeats 4000000
/-! # orbits of a map that turns a list around, and the list of them -/
section
variable {α : Type} [DecidableEq α]
def itf (f : α → α) : Nat → α → α
  | 0, a => a
  | k + 1, a => f (itf f k a)
/-- f turns A around -/
structure Trn (f : α → α) (A : List α) : Prop where
  nd : A.Nodup
  cl : ∀ a ∈ A, f a ∈ A
  inj : ∀ a ∈ A, ∀ b ∈ A, f a = f b → a = b
variable {f : α → α} {A : List α}
/-- o is the walk around from a -/
def Orb (f : α → α) (a : α) (o : List α) : Prop := ∃ k, 0 < k ∧ o = (List.range k).map (fun i => itf f i a) ∧ itf f k a = a ∧ ∀ j, 0 < j → j < k → itf f j a ≠ a
/-- the walks around, each from its first place in the list; what the law does -/
inductive Wks (f : α → α) : List α → List (List α) → Prop
  | nil : Wks f [] []
  | cons {a : α} {l o : List α} {ws : List (List α)} (h : Orb f a o) (t : Wks f ((a :: l).filter fun z => !decide (z ∈ o)) ws) : Wks f (a :: l) (o :: ws)
/-- what the program does -/
inductive Wkp (f : α → α) : List α → List α → List (List α) → Prop
  | nil {pl : List α} : Wkp f pl [] []
  | skip {a : α} {l pl : List α} {ws : List (List α)} (h : a ∈ pl) (t : Wkp f pl l ws) : Wkp f pl (a :: l) ws
  | take {a : α} {l pl o : List α} {ws : List (List α)} (n : a ∉ pl) (h : Orb f a o) (t : Wkp f (pl ++ o) l ws) : Wkp f pl (a :: l) (o :: ws)
/-! ## the walks the other way around -/
end

set_option Elab.async false
set_option linter.all false
set_option maxRecDepth 100000
set_option maxHeartbeats 4000000
/-! # the arrow behind an arrow, by a rotation -/
/-- the one behind u in l, around -/
def sucL (l : List Int) (u : Int) : Int := l.getD ((l.idxOf u + 1) % l.length) 0
def nxtR (rot : List (List Int)) (p : Int × Int) : Int × Int := (p.2, sucL (rot.getD p.2.toNat []) p.1)
/-- each vertex's item holds its neighbours, each once -/
structure RotOk (N : Int → Int → Prop) (n : Nat) (rot : List (List Int)) : Prop where
  len : rot.length = n
  nd : ∀ l ∈ rot, l.Nodup
  mem : ∀ (v : Nat) (l : List Int), rot[v]? = some l → ∀ u, u ∈ l ↔ N (v : Int) u
def swP (p : Int × Int) : Int × Int := (p.2, p.1)
set_option Elab.async false
set_option linter.all false
set_option maxRecDepth 100000
set_option maxHeartbeats 4000000
open PySem PySem.Spec PyProof.Rows L2
/-! # t[::-1] of a tuple -/
section
variable {prog : Program} {w : World} {A : Around} {E : Value → Shared → Prop} {s : Shared}
theorem rev_adjust (n : Nat) : Builtin.Slice.sliceAdjust none none (-1) (n : Int) = ((n : Int) - 1, -1) := by
  unfold Builtin.Slice.sliceAdjust
  simp
theorem rev_places (n : Nat) : Builtin.Slice.slicePlaces ((n : Int) - 1) (-1) (-1) = n := by
  unfold Builtin.Slice.slicePlaces
  rw [if_neg (by decide)]
  by_cases c : (n : Int) - 1 > -1
  · rw [if_pos c, show -(-1 : Int) = 1 from rfl, Int.ediv_one]
    omega
  · rw [if_neg c]
    show 0 = n
    omega
theorem rev_applied {sl : Addr} {vl vu vs : Value} {n : Nat} {Q : Int × Int × Nat → Shared → Prop} (hs : s.heap.IsSliceOf sl vl vu vs) (pl : IsPart vl none) (pu : IsPart vu none) (ps : IsPart vs (some (-1)))
    (h : Q ((n : Int) - 1, -1, n) s) : wpAny (model prog w) A (Builtin.Slice.sliceApplied (.ref sl) (pure (n : Int))) Q E s := by
  obtain ⟨os, hos, hcs, hds⟩ := id hs
  unfold Builtin.Slice.sliceApplied Builtin.Slice.sliceFields
  refine wpAny_bind (wpAny_bind (wpAny_field hos hds (x := vl) rfl (wpAny_bind (wpAny_field hos hds (x := vu) rfl (wpAny_bind (wpAny_field hos hds (x := vs) rfl (wpAny_pure ?_)))))))
  refine wpAny_bind (HT.slicePart_ ps ?_)
  show wpAny _ _ (if ((-1 : Int) == 0) = true then _ else _) _ _ s
  rw [if_neg (by decide)]
  refine wpAny_bind (HT.slicePart_ pl (wpAny_bind (HT.slicePart_ pu (wpAny_bind (wpAny_pure ?_)))))
  show wpAny _ _ (match Builtin.Slice.sliceAdjust none none (-1) (n : Int) with | (lo, hi) => pure (lo, (-1 : Int), Builtin.Slice.slicePlaces lo hi (-1))) _ _ s
  rw [rev_adjust]
  show wpAny _ _ (pure ((n : Int) - 1, (-1 : Int), Builtin.Slice.slicePlaces ((n : Int) - 1) (-1) (-1))) _ _ s
  rw [rev_places]
  exact wpAny_pure h
theorem rev_pick (xs : Array Value) : ((List.range xs.size).filterMap fun (k : Nat) => xs[(((xs.size : Nat) : Int) - 1 + (k : Int) * (-1)).toNat]?).toArray = xs.toList.reverse.toArray := by
  have e : (fun (k : Nat) => xs[(((xs.size : Nat) : Int) - 1 + (k : Int) * (-1)).toNat]?) = fun k => xs[xs.size - 1 - k]? := by
    funext k
    congr 1
    omega
  rw [e]
  congr 1
  refine List.ext_getElem? fun i => ?_
  have len : ∀ n, n ≤ xs.size → ((List.range n).filterMap fun k => xs[xs.size - 1 - k]?) = xs.toList.reverse.take n := fun n => by
    induction n with
    | zero => exact fun _ => rfl
    | succ n ih =>
      intro hn
      have h1 : xs[xs.size - 1 - n]? = some xs[xs.size - 1 - n] := Array.getElem?_eq_getElem (by omega)
      have h2 : xs.toList.reverse[n]? = some xs[xs.size - 1 - n] := by
        rw [List.getElem?_reverse (by rw [Array.length_toList]; omega), Array.length_toList, ← h1]
        simp
      rw [List.range_succ, List.filterMap_append, ih (by omega), take_next h2]
      congr 1
      simp only [List.filterMap_cons, List.filterMap_nil, h1]
  rw [len xs.size (Nat.le_refl _), List.take_of_length_le (by rw [List.length_reverse, Array.length_toList]; exact Nat.le_refl _)]
open HT in
theorem getItem_rev {t sl : Addr} {items : Array Value} {vl vu vs : Value} {Q : Value → Shared → Prop} (ht : IsTup s.heap t items) (hs : s.heap.IsSliceOf sl vl vu vs) (pl : IsPart vl none) (pu : IsPart vu none) (ps : IsPart vs (some (-1)))
    (h : Q (.ref s.heap.objs.size) { s with heap := s.heap.push { cls := .type "tuple", data := .seq items.toList.reverse.toArray } }) (hsz : items.size ≤ sizeLine) : wpAny (model prog w) A (getItem (.ref t) (.ref sl)) Q E s := by
  have hz : sizeOk (.seq items.toList.reverse.toArray) := by
    show items.toList.reverse.toArray.size ≤ sizeLine
    rw [List.size_toArray, List.length_reverse, Array.length_toList]
    exact hsz
  obtain ⟨os, hos, hcs, hds⟩ := id hs
  have hTs : s.TypeIs (.ref sl) "slice" := ⟨os, hos, hcs⟩
  unfold getItem
  try with_reducible refine wpAny_holding ?_
  first | refine wpAny_bind (wpAny_pure ?_) | skip
  refine wpAny_bind (wpAny_sequenceKey ht.typeIs (by decide) ?_)
  refine wpAny_bind (wpAny_callSpecial?_slot (name := Str.ofString "__getitem__") ht.typeIs PyProof.Rows.slot_tuple_getitem
    (wpAny_call_entry PyProof.Rows.slot_tuple_getitem ht.typeIs entry_tuple_getitem ?_ (args_tuple_getitem _ _)))
  show wpAny _ _ (Builtin.Tuple.tupleItemsOf (.ref t) >>= _) _ _ s
  refine wpAny_bind (tupleItemsOf_ ht ?_)
  refine wpAny_bind (wpAny_typeOf hTs ?_)
  rw [if_pos (by decide)]
  refine wpAny_bind (rev_applied hs pl pu ps ?_)
  show wpAny _ _ (if (((items.size : Int) - 1 == 0) && ((-1 : Int) == 1) && (items.size == items.size)) = true then _ else _) _ _ s
  rw [if_neg (by simp), rev_pick]
  first
    | exact wpAny_bind (m := Builtin.Tuple.tupleExact _) (wpAny_newObj_type (wpAny_pure ⟨_, rfl, wpAny_pure h⟩) hz)
    | exact wpAny_bind (m := Builtin.Tuple.tupleExact _) (wpAny_newObj_type (wpAny_bind (wpAny_pure (wpAny_pure ⟨_, rfl, wpAny_pure h⟩))) hz)
    | exact wpAny_bind (wpAny_bind (m := Builtin.Tuple.tupleExact _) (wpAny_newObj_type (wpAny_pure (wpAny_pure ⟨_, rfl, wpAny_pure h⟩)) hz))
    | exact wpAny_bind (wpAny_bind (m := Builtin.Tuple.tupleExact _) (wpAny_newObj_type (wpAny_pure ⟨_, rfl, wpAny_pure h⟩) hz))
end
section
variable {X : Cx} {K : PySem.W.Frag} {σ : L2.St} {H : Hp} {Q : VK}
def RevTN (K : PySem.W.Frag) (Q : VK) : VK := fun x H1 => ∃ a xs, x = V.ref a ∧ SqT K H1 a xs ∧ ∀ (p : Addr) (o : Obj), H1 p = none → o.dict = none → Q (.ref p) (upd H1 p (.frz o (.tup xs.reverse)))
def tRevT (K : PySem.W.Frag) (te : TE) : TE := fun σ H Q => te σ H (RevTN K Q)
theorem pe_revT {e : Expr} {te : TE} {k : Nat} {p1 p2 p3 pos : Pos} (he : PE X e te) : PE X (.Subscript e (.Slice none none (some (.UnaryOp .USub (.Constant (.int 1) k p1) p2)) p3) pos) (tRevT X.K te) := by
  refine ⟨fun pins s σ H Q I h => ?_⟩
  refine Subscript_ (thn (he.run pins s σ H _ I h) fun v s1 z => ?_)
  obtain ⟨x, H1, I1, r1, a, xs, ex, hx, q⟩ := z
  subst ex
  cases r1
  have hst : PO X (some (.UnaryOp .USub (.Constant (.int 1) k p1) p2)) (tPart (tUn (rU fun i => .int (-i)) (tC (.int 1)))) := po_some (pe_un un_neg pe_int)
  refine wpAny_Slice (thn (po_none.run pins s1 σ H1 (fun o H2 => o = none ∧ H2 = H1) I1 ⟨rfl, rfl⟩) fun vl s2 ⟨l, H2, I2, pl, el, e2⟩ => ?_)
  subst el e2
  refine thn (po_none.run pins s2 σ H2 (fun o H3 => o = none ∧ H3 = H2) I2 ⟨rfl, rfl⟩) fun vu s3 ⟨u, H3, I3, pu, eu, e3⟩ => ?_
  subst eu e3
  refine thn (hst.run pins s3 σ H3 (fun o H4 => o = some (-1) ∧ H4 = H3) I3 ⟨1, rfl, -1, rfl, rfl, rfl⟩) fun vs s4 ⟨o, H4, I4, ps, eo, e4⟩ => ?_
  subst eo e4
  have I5 : Inv X pins σ H4 { s4 with heap := s4.heap.push { cls := .type "slice", data := .fields #[vl, vu, vs] } } := I4.kept (t' := s4.toks) fun b ob q => Heap.get?_push_of_some _ q
  obtain ⟨its, r, ht, hz⟩ := I5.tuple hx
  have hlen := r.length
  show wpAny (model X.prog X.w) X.A (subscriptTail e (.Slice none none (some (.UnaryOp .USub (.Constant (.int 1) k p1) p2)) p3) (.ref a) (.ref s4.heap.objs.size)) (EP X pins σ Q) X.xe { s4 with heap := s4.heap.push { cls := .type "slice", data := .fields #[vl, vu, vs] } }
  refine tail_any (ops := [.ref a, .ref s4.heap.objs.size]) ht.typeIs (PyProof.Rows.slot_tuple_getitem.lookup) ?_ (by with_unfolding_all rfl)
  refine getItem_rev ht (Heap.IsSliceOf.new _ vl vu vs) pl pu ps ?_ (by rw [List.size_toArray]; omega)
  refine ⟨.ref _, _, I5.laid (t' := s4.toks) (o := .frz { cls := .type "tuple", data := .seq its.toArray.toList.reverse.toArray } (.tup xs.reverse)) (fun b ob q => Heap.get?_push_of_some _ q) (Nat.le_refl _) ?_, rfl, q _ _ (I5.hok.fresh (Nat.le_refl _)) rfl⟩
  exact ⟨Heap.get?_push_size _ rfl, by rw [List.length_reverse]; exact hz, _, r.reverse, IsTup.new _ _⟩
theorem PE.revTK {f : Expr} {te : TE} (h : X.K = K) (p : PE X f (tRevT X.K te)) : PE X f (tRevT K te) := h ▸ p
def RevLN (K : PySem.W.Frag) (Q : VK) : VK := fun x H1 => ∃ a xs, x = V.ref a ∧ SqL K H1 a xs ∧ ∀ p, H1 p = none → Q (.ref p) (upd H1 p (.lst xs.reverse))
theorem r_revT {te : TE} (h : te σ H (RevTN K Q)) : tRevT K te σ H Q := h
theorem r_revTN {a : Addr} {xs : List V} (h : SqT K H a xs) (q : ∀ (p : Addr) (o : Obj), H p = none → o.dict = none → Q (.ref p) (upd H p (.frz o (.tup xs.reverse)))) : RevTN K Q (.ref a) H := ⟨a, xs, rfl, h, q⟩
end

set_option Elab.async false
set_option linter.all false
set_option maxRecDepth 100000
set_option maxHeartbeats 4000000
open PySem PySem.Spec PySem.W PySem.Calls PyProof.Rows L2
/-! # sorted of a tuple of data -/
section
variable {prog : Program} {w : World} {A : Around} {E : Value → Shared → Prop} {s : Shared}
theorem collect_tup {l : Addr} {vs : List Value} {Q : List Value → Shared → Prop} (hl : IsTup s.heap l vs.toArray)
    (h : Q vs { s with heap := (s.heap.push (seqObj "list" #[] 0)).update s.heap.objs.size (Obj.mapSeq (· ++ vs.toArray)) }) (hsz : vs.length ≤ sizeLine) :
    wpAny (model prog w) A (collect (.ref l)) Q E s := by
  obtain ⟨o, ho, hc, n, hd⟩ := id hl
  unfold collect
  refine wpAny_bind (wpAny_runValue (codeAny_builtin entry_proto_collect' ?_))
  show wpAny _ _ (do again (.builtin "list.__iadd__" ⟨[← newList [], .ref l], []⟩)) _ _ s
  refine wpAny_bind (wpAny_newList (wpAny_pure ⟨Code.quiet_builtin _ (by decide +kernel), codeAny_builtin entry_list_iadd' ?_⟩))
  show wpAny _ _ (Builtin.List.listExtendWith (.ref s.heap.objs.size) (.ref l) (.ref s.heap.objs.size)) _ _ { s with heap := s.heap.push (seqObj "list" #[] 0) }
  unfold Builtin.List.listExtendWith
  have ho' : (s.heap.push (seqObj "list" #[] 0)).get? l = some o := Heap.get?_push_of_some _ ho
  refine wpAny_bind (wpAny_typeOf (T := "tuple") ⟨o, ho', hc⟩ ?_)
  have ht : (Value.type "tuple" == Value.type "tuple") = true := by rfl
  rw [if_pos (by rw [ht]; simp)]
  refine wpAny_bind (listItems_at ho' hd ?_)
  refine wpAny_bind (listItems_at (xs := #[]) (n := 0) (Heap.get?_push_size _ rfl) rfl ?_)
  rw [if_neg (by simp)]
  refine wpAny_bind (listUpdate_at (xs := #[]) (n := 0) (Heap.get?_push_size _ rfl) rfl ?_ (Nat.zero_le _) (by show (#[] ++ vs.toArray).size ≤ sizeLine + 1; simp only [Array.size_append, List.size_toArray, List.length_nil]; omega))
  refine wpAny_pure ?_
  show wpAny (model prog w) A (do
      let o ← load s.heap.objs.size
      match o.data with
      | .seq xs _ => pure xs.toList
      | _ => unsupported "internal:collect") Q E { s with heap := (s.heap.push (seqObj "list" #[] 0)).update s.heap.objs.size (Obj.mapSeq (· ++ vs.toArray)) }
  refine wpAny_bind (wpAny_load (get?_update_seq (Heap.get?_push_size _ rfl) _) ?_)
  show wpAny _ _ (pure ((#[] : Array Value) ++ vs.toArray).toList) Q E _
  rw [show ((#[] : Array Value) ++ vs.toArray).toList = vs by simp]
  exact wpAny_pure h
theorem sorted_of_sortT {l : Addr} {vs : List Value} {Q : Value → Shared → Prop} (hl : IsTup s.heap l vs.toArray) (hL : vs.length ≤ sizeLine)
    (body : ∀ E' : Value → Shared → Prop, wpAny (model prog w) A.in1.in1 (Builtin.«list.sort» ⟨[.ref (s.heap.objs.size + 1)], []⟩) (fun f s' => f = .done (.ret .none) ∧ Q (.ref (s.heap.objs.size + 1)) s') E' { s with heap := copyHeap s.heap vs }) :
    wpAny (model prog w) A (call (.builtin "sorted") [.ref l]) Q E s := by
  refine call_function_entry_kw kind_sorted plain_sorted entry_sorted (args_sorted1 _) ?_
  unfold Builtin.«sorted»
  refine wpAny_bind (m := checkCount "sorted" 1 1 _) (wpAny_pure ?_)
  refine wpAny_bind (collect_tup hl ?_ hL)
  refine wpAny_bind (wpAny_newList ?_ hL)
  have hsz : ((s.heap.push (seqObj "list" #[] 0)).update s.heap.objs.size (Obj.mapSeq (· ++ vs.toArray))).objs.size = s.heap.objs.size + 1 := by
    rw [Heap.size_update, size_push']
  show wpAny _ _ _ _ _ { s with heap := copyHeap s.heap vs }
  rw [hsz]
  refine wpAny_bind (wpAny_holding (wpAny_call_entry_kw slot_list_sort ⟨_, copyHeap_at s.heap vs, rfl⟩ entry_list_sort ?body (args_list_sort _)))
  case body =>
    show wpAny (model prog w) A.in1.in1 (Builtin.«list.sort» ⟨[.ref (s.heap.objs.size + 1)], []⟩) _ _ _
    refine wpAny_mono (body _) (fun f s' hf => ?_) fun _ _ e => e
    obtain ⟨rfl, hq⟩ := hf
    exact ⟨_, rfl, wpAny_pure ⟨_, rfl, hq⟩⟩
theorem sorted_dataT {β : Type} {R : Value → β → Prop} {enc : β → PyData} {vs : List Value} {bs : List β} {l : Addr} {Q : Value → Shared → Prop} (hl : IsTup s.heap l vs.toArray) (e : EachIs R vs bs) (er : EachIs (fun v b => ∃ as, Reads s.heap v (enc b) as) vs bs) (hal : AllAlike (bs.map enc)) (hk : Sortable (bs.map enc)) (hL : bs.length ≤ sizeLine)
    (hu : ∀ b, b ∈ bs → A.units + 2 + (enc b).depth < cLine) (h : ∀ out, out.length = bs.length → EachIs R out (bs.mergeSort (dataLe false enc)) → Q (.ref (s.heap.objs.size + 1)) { s with heap := sortedAll s.heap vs (List.toArray out) }) :
    wpAny (model prog w) A (call (.builtin "sorted") [.ref l]) Q E s := by
  have er' : EachIs (fun v b => ∃ as, Reads (sortingHeap (copyHeap s.heap vs) (s.heap.objs.size + 1) vs) v (enc b) as) vs bs := er.mono fun _ _ ⟨as, r⟩ => ⟨as, PyProof.Rows.Reads.keeps (fun _ _ => sorting_copy_old) r⟩
  have lv : vs.length ≤ sizeLine := by
    rw [e.length]
    exact hL
  exact sorted_of_sortT hl lv fun _ => list_sort_vals (s := { s with heap := copyHeap s.heap vs }) (copyHeap_at s.heap vs) (SortsAt.data (s := { s with heap := sortingHeap (copyHeap s.heap vs) (s.heap.objs.size + 1) vs }) (each_map (R := fun v d => ∃ as, Reads (sortingHeap (copyHeap s.heap vs) (s.heap.objs.size + 1) vs) v d as) enc er') hal hk (bound_map hu)) lv ⟨rfl, h _ (by rw [sortVals_length false rfl]; exact e.length) (sortVals_data false e er' hal)⟩
end
/-- sorted of a tuple -/
def rSortDT (K : PySem.W.Frag) : List V → Hp → VK → Prop := fun vs H Q => ∃ (a : Addr) (xs : List V) (ds : List PyData), vs = [.ref a] ∧ SqT K H a xs ∧ DpAll K H xs ds ∧ AllAlike ds ∧ Sortable ds ∧ PyData.depthAll ds ≤ 60 ∧
  ∀ (ys : List V) (es : List PyData) (p : Addr), (ys.zip es).Perm (xs.zip ds) → ys.length = es.length → ys.Perm xs → es.Perm ds → DpAll K H ys es → es.Pairwise (fun d e => dataLt e d = false) → H p = none → Q (.ref p) (upd H p (.lst ys))
section
variable {X : Cx}
theorem cr_sortDT (hu : X.A.units + 64 < cLine) : CallR X (.builtin "sorted") (rSortDT X.K) := by
  intro pins s σ H vs us Q I r h
  obtain ⟨a, xs, ds, rfl, hl, hd, al, sb, dep, q⟩ := h
  rw [Vals.ref1 r]
  obtain ⟨its, rv, hL, hz⟩ := I.tuple hl
  obtain ⟨e1, e2⟩ := each_of I rv hd
  have es := zip_snd hd
  have lz : (xs.zip ds).length = xs.length := by
    have := dp_len hd
    rw [List.length_zip]
    omega
  refine sorted_dataT (enc := Prod.snd) hL e1 e2 (by rw [es]; exact al) (by rw [es]; exact sb) (by rw [lz]; exact hz) (fun b hb => ?_) fun out lo ho => ?_
  · have := deep_mem (ds := ds) (d := b.2) (by rw [← es]; exact List.mem_map.mpr ⟨b, hb, rfl⟩)
    show X.A.units + 2 + b.2.depth < cLine
    generalize b.2.depth = k at this ⊢
    omega
  · have pm : ((xs.zip ds).mergeSort (dataLe false Prod.snd)).Perm (xs.zip ds) := List.mergeSort_perm _ _
    have pw : ((xs.zip ds).mergeSort (dataLe false Prod.snd)).Pairwise (fun a b => dataLe false Prod.snd a b = true) := List.pairwise_mergeSort (fun a b c h1 h2 => by
      rw [dataLe_eq] at *
      exact dLe_trans _ _ _ h1 h2) (fun a b => by
      rw [dataLe_eq]
      exact dLe_total _ _) _
    have hv := vals_each ho
    generalize (xs.zip ds).mergeSort (dataLe false Prod.snd) = bs at pm pw hv
    have p1 : (bs.map Prod.fst).Perm xs := by
      have z := pm.map Prod.fst
      have l2 : ds.length = xs.length := by rw [← es, List.length_map, lz]
      rwa [List.map_fst_zip (by omega)] at z
    have p2 : (bs.map Prod.snd).Perm ds := by
      have z := pm.map Prod.snd
      rwa [es] at z
    obtain ⟨n, hn⟩ := sortedAll_at s.heap its out.toArray
    refine ⟨.ref (s.heap.objs.size + 1), upd H (s.heap.objs.size + 1) (.lst (bs.map Prod.fst)), I.laid (t' := s.toks) (fun b o e => sortedAll_old e) (Nat.le_succ _) ⟨?_, out, n, hv, hn⟩, rfl, q _ (bs.map Prod.snd) _ (by rw [zip_back]; exact pm) (by rw [List.length_map, List.length_map]) p1 p2 (dp_zip fun b hb => zip_dp hd b (pm.mem_iff.mp hb)) ?_ (I.hok.fresh (Nat.le_succ _))⟩
    · rw [p1.length_eq]
      exact hz
    · refine List.pairwise_map.mpr (pw.imp fun {a b} h => ?_)
      rw [dataLe_eq] at h
      have h : (!dataLt b.2 a.2) = true := h
      rwa [Bool.not_eq_true'] at h
theorem cr_sortDTK {K : PySem.W.Frag} (h : X.K = K) (hu : X.A.units + 64 < cLine) : CallR X (.builtin "sorted") (rSortDT K) := h ▸ cr_sortDT hu
end
/-! # one sorted list alone -/
/-- data that their signs tell apart -/
def Told (ds : List PyData) : Prop := ∀ d ∈ ds, ∀ e ∈ ds, keyToks d = keyToks e → d = e
set_option Elab.async false
set_option linter.all false
set_option maxRecDepth 100000
set_option maxHeartbeats 4000000
/-! # decompositions -/
theorem con_map {R R' : Int → Int → Prop} {f : Int → Int} (h : ∀ a b, R a b → f a = f b ∨ R' (f a) (f b)) {a b : Int} (c : Con R a b) : Con R' (f a) (f b) := by
  induction c with
  | refl => exact .refl
  | step c r ih =>
    rcases h _ _ r with e | r'
    · rw [← e]
      exact ih
    · exact .step ih r'
theorem con_mono {R R' : Int → Int → Prop} (h : ∀ a b, R a b → R' a b) {a b : Int} (c : Con R a b) : Con R' a b := con_map (f := id) (fun a b r => .inr (h a b r)) c
/-- linked, both in S -/
def RL (S : Int → Prop) (L : List (Int × Int)) (a b : Int) : Prop := S a ∧ S b ∧ ((a, b) ∈ L ∨ (b, a) ∈ L)
theorem RL.symm {S : Int → Prop} {L : List (Int × Int)} (a b : Int) (h : RL S L a b) : RL S L b a := ⟨h.2.1, h.1, h.2.2.symm⟩
/-- more of those that no links join, than there are vertices without links -/
theorem reps (V : List Int) (nd : V.Nodup) : ∀ L : List (Int × Int), ∃ R : List Int, R.Nodup ∧ (∀ r ∈ R, r ∈ V) ∧ V.length ≤ R.length + L.length ∧ ∀ a ∈ R, ∀ b ∈ R, Con (fun x y => (x, y) ∈ L ∨ (y, x) ∈ L) a b → a = b
  | [] => ⟨V, nd, fun _ h => h, Nat.le_refl _, fun a _ b _ c => by
    cases c with
    | refl => rfl
    | step _ r => rcases r with r | r <;> cases r⟩
  | (p, q) :: L => by
    obtain ⟨R, nR, sub, len, ap⟩ := reps V nd L
    let C := Con (fun x y => (x, y) ∈ L ∨ (y, x) ∈ L)
    have sy : ∀ {x y}, C x y → C y x := fun h => h.symm fun a b r => r.symm
    have tr : ∀ {x y z}, C x y → C y z → C x z := fun h k => h.trans k
    have split : ∀ {x y}, Con (fun x y => (x, y) ∈ (p, q) :: L ∨ (y, x) ∈ (p, q) :: L) x y → C x y ∨ (C x p ∧ C q y) ∨ (C x q ∧ C p y) := fun {x y} c => by
      induction c with
      | refl => exact .inl .refl
      | @step a b c r ih =>
        have r' : (a = p ∧ b = q) ∨ (a = q ∧ b = p) ∨ ((a, b) ∈ L ∨ (b, a) ∈ L) := by
          rcases r with r | r
          · rcases List.mem_cons.mp r with e | e
            · exact .inl ⟨congrArg Prod.fst e, congrArg Prod.snd e⟩
            · exact .inr (.inr (.inl e))
          · rcases List.mem_cons.mp r with e | e
            · exact .inr (.inl ⟨congrArg Prod.snd e, congrArg Prod.fst e⟩)
            · exact .inr (.inr (.inr e))
        rcases r' with ⟨rfl, rfl⟩ | ⟨rfl, rfl⟩ | r'
        · rcases ih with h | ⟨h, k⟩ | ⟨h, k⟩
          · exact .inr (.inl ⟨h, .refl⟩)
          · exact .inr (.inl ⟨h, .refl⟩)
          · exact .inl h
        · rcases ih with h | ⟨h, k⟩ | ⟨h, k⟩
          · exact .inr (.inr ⟨h, .refl⟩)
          · exact .inl h
          · exact .inr (.inr ⟨h, .refl⟩)
        · rcases ih with h | ⟨h, k⟩ | ⟨h, k⟩
          · exact .inl (.step h r')
          · exact .inr (.inl ⟨h, .step k r'⟩)
          · exact .inr (.inr ⟨h, .step k r'⟩)
    by_cases h : ∃ r ∈ R, C r p
    · obtain ⟨r, hr, rp⟩ := h
      refine ⟨R.erase r, nR.erase r, fun z hz => sub z (List.mem_of_mem_erase hz), ?_, fun a ha b hb c => ?_⟩
      · rw [List.length_erase_of_mem hr]
        have := List.length_pos_of_mem hr
        simp only [List.length_cons]
        omega
      · obtain ⟨ha1, ha2⟩ := (nR.mem_erase_iff).mp ha
        obtain ⟨hb1, hb2⟩ := (nR.mem_erase_iff).mp hb
        rcases split c with k | ⟨k1, k2⟩ | ⟨k1, k2⟩
        · exact ap a ha2 b hb2 k
        · exact absurd (ap a ha2 r hr (tr k1 (sy rp))) ha1
        · exact absurd (ap b hb2 r hr (tr (sy k2) (sy rp))) hb1
    · refine ⟨R, nR, sub, by simp only [List.length_cons]; omega, fun a ha b hb c => ?_⟩
      rcases split c with k | ⟨k1, k2⟩ | ⟨k1, k2⟩
      · exact ap a ha b hb k
      · exact absurd ⟨a, ha, k1⟩ h
      · exact absurd ⟨b, hb, sy k2⟩ h
/-- what is connected has links enough -/
theorem conn_len {V : List Int} (nd : V.Nodup) {L : List (Int × Int)} (h : ∀ a ∈ V, ∀ b ∈ V, Con (fun x y => (x, y) ∈ L ∨ (y, x) ∈ L) a b) : V.length ≤ L.length + 1 := by
  obtain ⟨R, nR, sub, len, ap⟩ := reps V nd L
  have : R.length ≤ 1 := by
    match R, nR, sub, ap with
    | [], _, _, _ => exact Nat.zero_le _
    | [_], _, _, _ => exact Nat.le_refl _
    | a :: b :: r, nR, sub, ap =>
      have e := ap a List.mem_cons_self b (List.mem_cons_of_mem _ List.mem_cons_self) (h a (sub a List.mem_cons_self) b (sub b (List.mem_cons_of_mem _ List.mem_cons_self)))
      exact absurd e ((List.pairwise_cons.mp nR).1 b List.mem_cons_self)
  omega
theorem nodup_rg (m : Nat) : ((List.range m).map fun (i : Nat) => (i : Int)).Nodup := by
  rw [List.Nodup, List.pairwise_map]
  exact List.nodup_range.imp fun {i j} h e => h (by have e2 : (i : Int) = (j : Int) := e; omega)
/-- one of a list twice: fewer do -/
theorem dup_less {α : Type} [DecidableEq α] : ∀ {l : List α}, ¬ l.Nodup → ∃ k : List α, k.length < l.length ∧ ∀ z, z ∈ l → z ∈ k
  | [], h => absurd .nil h
  | a :: l, h => by
    by_cases c : a ∈ l
    · exact ⟨l, Nat.lt_succ_self _, fun z hz => by
        rcases List.mem_cons.mp hz with e | e
        · rw [e]; exact c
        · exact e⟩
    · have : ¬ l.Nodup := fun n => h (List.nodup_cons.mpr ⟨c, n⟩)
      obtain ⟨k, lk, mk⟩ := dup_less this
      refine ⟨a :: k, by simp only [List.length_cons]; omega, fun z hz => ?_⟩
      rcases List.mem_cons.mp hz with e | e
      · rw [e]; exact List.mem_cons_self
      · exact List.mem_cons_of_mem _ (mk z e)
def nodeI (m : Nat) (i : Int) : Prop := 0 ≤ i ∧ i < (m : Int)
def bagAt (bags : List (List Int)) (i : Int) : List Int := bags.getD i.toNat []
def hasV (bags : List (List Int)) (v : Int) (i : Int) : Prop := nodeI bags.length i ∧ v ∈ bagAt bags i
theorem bag_mem {bags : List (List Int)} {i : Int} (h : nodeI bags.length i) : bagAt bags i ∈ bags := by
  unfold bagAt nodeI at *
  have hl : i.toNat < bags.length := by omega
  rw [List.getD_eq_getElem?_getD, List.getElem?_eq_getElem hl]
  exact List.getElem_mem hl
theorem bag_get {bags : List (List Int)} {i : Int} (h : nodeI bags.length i) : bags[i.toNat]? = some (bagAt bags i) := by
  unfold bagAt nodeI at *
  have hl : i.toNat < bags.length := by omega
  rw [List.getD_eq_getElem?_getD, List.getElem?_eq_getElem hl]
  rfl
theorem bag_of {bags : List (List Int)} {k : Nat} {b : List Int} (h : bags[k]? = some b) : bagAt bags (k : Int) = b := by
  unfold bagAt
  rw [List.getD_eq_getElem?_getD, show ((k : Int)).toNat = k by omega, h]
  rfl
theorem mem_bag {bags : List (List Int)} {b : List Int} (h : b ∈ bags) : ∃ i, nodeI bags.length i ∧ bagAt bags i = b := by
  obtain ⟨k, hk⟩ := List.mem_iff_getElem?.mp h
  have := (List.getElem?_eq_some_iff.mp hk).1
  exact ⟨(k : Int), by unfold nodeI; omega, bag_of hk⟩
/-- a decomposition of the graph -/
structure Tdc (n : Int) (ps : List (Int × Int)) (bags : List (List Int)) (L : List (Int × Int)) : Prop where
  ne : 0 < bags.length
  st : ∀ b ∈ bags, b.Pairwise (· < ·) ∧ b ≠ [] ∧ ∀ v ∈ b, 0 ≤ v ∧ v < n
  inn : ∀ l ∈ L, nodeI bags.length l.1 ∧ nodeI bags.length l.2 ∧ l.1 ≠ l.2
  cnt : L.length + 1 = bags.length
  con : ∀ a b, nodeI bags.length a → nodeI bags.length b → Con (RL (nodeI bags.length) L) a b
  ed : ∀ p ∈ ps, ∃ b ∈ bags, p.1 ∈ b ∧ p.2 ∈ b
  ve : ∀ v, 0 ≤ v → v < n → ∃ b ∈ bags, v ∈ b
  vc : ∀ v a b, hasV bags v a → hasV bags v b → Con (RL (hasV bags v) L) a b
theorem nrm_mem {L : List (Int × Int)} {a b : Int} (h : (a, b) ∈ L ∨ (b, a) ∈ L) : nrm (a, b) ∈ L.map nrm := by
  rcases h with h | h
  · exact List.mem_map.mpr ⟨_, h, rfl⟩
  · exact List.mem_map.mpr ⟨_, h, nrm_cm b a⟩
theorem nrm_or {a b : Int} : nrm (a, b) = (a, b) ∨ nrm (a, b) = (b, a) := by
  unfold nrm
  by_cases c : a ≤ b
  · exact .inl (Prod.ext (by dsimp only; omega) (by dsimp only; omega))
  · exact .inr (Prod.ext (by dsimp only; omega) (by dsimp only; omega))
theorem nrm_memO {L : List (Int × Int)} {a b : Int} (h : (a, b) ∈ L ∨ (b, a) ∈ L) : (a, b) ∈ L.map nrm ∨ (b, a) ∈ L.map nrm := by
  have := nrm_mem h
  rcases nrm_or (a := a) (b := b) with e | e <;> rw [e] at this
  · exact .inl this
  · exact .inr this
section
variable {n : Int} {ps L : List (Int × Int)} {bags : List (List Int)}
/-- no two links join the same -/
theorem Tdc.nodup (t : Tdc n ps bags L) : (L.map nrm).Nodup := by
  refine Classical.byContradiction fun c => ?_
  obtain ⟨k, lk, mk⟩ := dup_less c
  have := conn_len (nodup_rg bags.length) (L := k) fun a ha b hb => by
    obtain ⟨i, hi, rfl⟩ := List.mem_map.mp ha
    obtain ⟨j, hj, rfl⟩ := List.mem_map.mp hb
    have h1 := List.mem_range.mp hi
    have h2 := List.mem_range.mp hj
    refine con_mono (fun a b r => ?_) (t.con i j ⟨by omega, by omega⟩ ⟨by omega, by omega⟩)
    exact (nrm_memO r.2.2).imp (mk _) (mk _)
  rw [List.length_map, List.length_range] at this
  rw [List.length_map] at lk
  have := t.cnt
  omega
/-- the links in another order, either end first -/
theorem Tdc.links (t : Tdc n ps bags L) {M : List (Int × Int)} (pm : M.Perm (L.map nrm)) : Tdc n ps bags M := by
  have mm : ∀ {a b : Int}, ((a, b) ∈ L ∨ (b, a) ∈ L) → (a, b) ∈ M ∨ (b, a) ∈ M := fun h => (nrm_memO h).imp pm.mem_iff.mpr pm.mem_iff.mpr
  have rl : ∀ {S : Int → Prop} {a b : Int}, Con (RL S L) a b → Con (RL S M) a b := fun c => con_mono (fun a b r => ⟨r.1, r.2.1, mm r.2.2⟩) c
  refine ⟨t.ne, t.st, fun l hl => ?_, by have := t.cnt; rw [pm.length_eq, List.length_map]; exact this, fun a b ha hb => rl (t.con a b ha hb), t.ed, t.ve, fun v a b ha hb => rl (t.vc v a b ha hb)⟩
  obtain ⟨⟨x, y⟩, hp, e⟩ := List.mem_map.mp (pm.mem_iff.mp hl)
  obtain ⟨h1, h2, h3⟩ := t.inn _ hp
  dsimp only at h1 h2 h3
  rcases nrm_or (a := x) (b := y) with e' | e' <;> rw [e'] at e <;> subst e
  · exact ⟨h1, h2, h3⟩
  · exact ⟨h2, h1, Ne.symm h3⟩
/-- one more bag, within one that is there -/
theorem Tdc.grow (t : Tdc n ps bags L) {i : Int} {k : List Int} (hi : nodeI bags.length i) (ne : k ≠ []) (sub : k.Sublist (bagAt bags i)) : Tdc n ps (bags ++ [k]) (L ++ [(i, (bags.length : Int))]) := by
  have lb : (bags ++ [k]).length = bags.length + 1 := by rw [List.length_append]; rfl
  have nd : ∀ {a}, nodeI (bags ++ [k]).length a → nodeI bags.length a ∨ a = (bags.length : Int) := fun {a} h => by
    rw [lb] at h
    unfold nodeI at *
    omega
  have ndL : ∀ {a}, nodeI bags.length a → nodeI (bags ++ [k]).length a := fun {a} h => by
    rw [lb]
    unfold nodeI at *
    omega
  have b1 : ∀ {a}, nodeI bags.length a → bagAt (bags ++ [k]) a = bagAt bags a := fun {a} h => by
    have e := bag_get h
    unfold bagAt nodeI at *
    rw [List.getD_eq_getElem?_getD, List.getElem?_append_left (by omega), e]
    rfl
  have b2 : bagAt (bags ++ [k]) (bags.length : Int) = k := bag_of (by
    rw [List.getElem?_append_right (Nat.le_refl _), Nat.sub_self]
    rfl)
  have h1 : ∀ {v a}, hasV (bags ++ [k]) v a → hasV bags v a ∨ (a = (bags.length : Int) ∧ v ∈ k) := fun {v a} h => by
    rcases nd h.1 with c | c
    · have h2 := h.2
      rw [b1 c] at h2
      exact .inl ⟨c, h2⟩
    · have h2 := h.2
      rw [c, b2] at h2
      exact .inr ⟨c, h2⟩
  have h2 : ∀ {v a}, hasV bags v a → hasV (bags ++ [k]) v a := fun {v a} h => ⟨ndL h.1, by rw [b1 h.1]; exact h.2⟩
  have last : nodeI (bags ++ [k]).length (bags.length : Int) := by
    rw [lb]
    unfold nodeI
    omega
  have link : ((i, (bags.length : Int)) ∈ L ++ [(i, (bags.length : Int))]) := List.mem_append_right _ List.mem_cons_self
  refine ⟨by omega, fun b hb => ?_, fun l hl => ?_, by rw [List.length_append, lb]; have := t.cnt; simp only [List.length_cons, List.length_nil]; omega, fun a b ha hb => ?_, fun p hp => ?_, fun v v0 v1 => ?_, fun v a b ha hb => ?_⟩
  · rcases List.mem_append.mp hb with c | c
    · exact t.st b c
    · rw [List.mem_singleton.mp c]
      obtain ⟨s1, s2, s3⟩ := t.st _ (bag_mem hi)
      exact ⟨s1.sublist sub, ne, fun v hv => s3 v (sub.mem hv)⟩
  · rcases List.mem_append.mp hl with c | c
    · obtain ⟨x, y, z⟩ := t.inn l c
      exact ⟨ndL x, ndL y, z⟩
    · rw [List.mem_singleton.mp c]
      exact ⟨ndL hi, last, by unfold nodeI at hi; show i ≠ (bags.length : Int); omega⟩
  · have all : ∀ a, nodeI (bags ++ [k]).length a → Con (RL (nodeI (bags ++ [k]).length) (L ++ [(i, (bags.length : Int))])) i a := fun a ha => by
      rcases nd ha with c | c
      · exact con_mono (fun a b r => ⟨ndL r.1, ndL r.2.1, r.2.2.imp (List.mem_append_left _) (List.mem_append_left _)⟩) (t.con i a hi c)
      · rw [c]
        exact .step .refl ⟨ndL hi, last, .inl link⟩
    exact ((all a ha).symm RL.symm).trans (all b hb)
  · obtain ⟨b, hb, h⟩ := t.ed p hp
    exact ⟨b, List.mem_append_left _ hb, h⟩
  · obtain ⟨b, hb, h⟩ := t.ve v v0 v1
    exact ⟨b, List.mem_append_left _ hb, h⟩
  · have old : ∀ {a b}, hasV bags v a → hasV bags v b → Con (RL (hasV (bags ++ [k]) v) (L ++ [(i, (bags.length : Int))])) a b := fun {a b} ha hb => con_mono (fun a b r => ⟨h2 r.1, h2 r.2.1, r.2.2.imp (List.mem_append_left _) (List.mem_append_left _)⟩) (t.vc v a b ha hb)
    have new : v ∈ k → hasV bags v i ∧ RL (hasV (bags ++ [k]) v) (L ++ [(i, (bags.length : Int))]) i (bags.length : Int) := fun hv => by
      have hi' : hasV bags v i := ⟨hi, sub.mem hv⟩
      exact ⟨hi', h2 hi', ⟨last, by rw [b2]; exact hv⟩, .inl link⟩
    rcases h1 ha with ca | ⟨ea, ka⟩
    · rcases h1 hb with cb | ⟨eb, kb⟩
      · exact old ca cb
      · obtain ⟨x, y⟩ := new kb
        rw [eb]
        exact (old ca x).step y
    · obtain ⟨x, y⟩ := new ka
      rw [ea]
      rcases h1 hb with cb | ⟨eb, kb⟩
      · exact (Con.step .refl (RL.symm _ _ y)).trans (old x cb)
      · rw [eb]
        exact .refl
/-- the bags in another order: f tells where a bag goes -/
theorem Tdc.move (t : Tdc n ps bags L) {bags' : List (List Int)} {f g : Int → Int} (len : bags'.length = bags.length) (f1 : ∀ a, nodeI bags.length a → nodeI bags.length (f a)) (g1 : ∀ a, nodeI bags.length a → nodeI bags.length (g a)) (gf : ∀ a, nodeI bags.length a → g (f a) = a) (fg : ∀ a, nodeI bags.length a → f (g a) = a)
    (hb : ∀ a, nodeI bags.length a → bagAt bags' a = bagAt bags (g a)) : Tdc n ps bags' (L.map fun l => (f l.1, f l.2)) := by
  have bf : ∀ a, nodeI bags.length a → bagAt bags' (f a) = bagAt bags a := fun a ha => by rw [hb _ (f1 a ha), gf a ha]
  have hv : ∀ {v a}, hasV bags' v a → hasV bags v (g a) := fun {v a} h => by
    have h1 := h.1
    rw [len] at h1
    exact ⟨g1 a h1, by rw [← hb a h1]; exact h.2⟩
  have vh : ∀ {v a}, hasV bags v a → hasV bags' v (f a) := fun {v a} h => ⟨by rw [len]; exact f1 a h.1, by rw [bf a h.1]; exact h.2⟩
  have lk : ∀ {a b}, ((a, b) ∈ L ∨ (b, a) ∈ L) → (f a, f b) ∈ L.map (fun l => (f l.1, f l.2)) ∨ (f b, f a) ∈ L.map (fun l => (f l.1, f l.2)) := fun h => h.imp (fun h => List.mem_map.mpr ⟨_, h, rfl⟩) fun h => List.mem_map.mpr ⟨_, h, rfl⟩
  have mb : ∀ b ∈ bags, b ∈ bags' := fun b h => by
    obtain ⟨i, hi, e⟩ := mem_bag h
    have := bag_mem (bags := bags') (i := f i) (by rw [len]; exact f1 i hi)
    rwa [bf i hi, e] at this
  have mb' : ∀ b ∈ bags', b ∈ bags := fun b h => by
    obtain ⟨i, hi, e⟩ := mem_bag h
    rw [len] at hi
    rw [← e, hb i hi]
    exact bag_mem (g1 i hi)
  refine ⟨by rw [len]; exact t.ne, fun b h => t.st b (mb' b h), fun l hl => ?_, by rw [List.length_map, len]; exact t.cnt, fun a b ha hb => ?_, fun p hp => ?_, fun v v0 v1 => ?_, fun v a b ha hb => ?_⟩
  · obtain ⟨p, hp, rfl⟩ := List.mem_map.mp hl
    obtain ⟨x, y, z⟩ := t.inn p hp
    rw [len]
    exact ⟨f1 _ x, f1 _ y, fun e => z (by rw [← gf _ x, ← gf _ y]; exact congrArg g e)⟩
  · rw [len] at ha hb ⊢
    have := con_map (R' := RL (nodeI bags.length) (L.map fun l => (f l.1, f l.2))) (f := f) (fun a b r => .inr ⟨f1 a r.1, f1 b r.2.1, lk r.2.2⟩) (t.con (g a) (g b) (g1 a ha) (g1 b hb))
    rwa [fg a ha, fg b hb] at this
  · obtain ⟨b, hb, h⟩ := t.ed p hp
    exact ⟨b, mb b hb, h⟩
  · obtain ⟨b, hb, h⟩ := t.ve v v0 v1
    exact ⟨b, mb b hb, h⟩
  · have := con_map (R' := RL (hasV bags' v) (L.map fun l => (f l.1, f l.2))) (f := f) (fun a b r => .inr ⟨vh r.1, vh r.2.1, lk r.2.2⟩) (t.vc v (g a) (g b) (hv ha) (hv hb))
    have ha1 := ha.1
    have hb1 := hb.1
    rw [len] at ha1 hb1
    rwa [fg a ha1, fg b hb1] at this
/-! ## a bag within a linked one goes -/
def mvI (s t a : Int) : Int := let y := if a = s then t else a; if s < y then y - 1 else y
theorem map_inj_on {α β : Type} {f : α → β} {l : List α} (h : (l.map f).Nodup) {a b : α} (ha : a ∈ l) (hb : b ∈ l) (e : f a = f b) : a = b := by
  induction l with
  | nil => cases ha
  | cons c l ih =>
    obtain ⟨n1, n2⟩ := List.nodup_cons.mp h
    rcases List.mem_cons.mp ha with ea | ha
    · rcases List.mem_cons.mp hb with eb | hb
      · rw [ea, eb]
      · exact absurd (List.mem_map.mpr ⟨b, hb, by rw [← ea]; exact e.symm⟩) n1
    · rcases List.mem_cons.mp hb with eb | hb
      · exact absurd (List.mem_map.mpr ⟨a, ha, by rw [← eb]; exact e⟩) n1
      · exact ih n2 ha hb
end

set_option Elab.async false
set_option linter.all false
set_option maxRecDepth 100000
set_option maxHeartbeats 4000000
/-! # the decomposition that an order gives -/
def crossP (l : List Int) : List (Int × Int) := (allP l.length).map fun p => nrm (l.getD p.1.toNat 0, l.getD p.2.toNat 0)
theorem getD_i {l : List Int} {i : Nat} (h : i < l.length) : l.getD i 0 = l[i] := by
  rw [List.getD_eq_getElem?_getD, List.getElem?_eq_getElem h]
  rfl
theorem cross_mem {l : List Int} {u w : Int} (hu : u ∈ l) (hw : w ∈ l) (ne : u ≠ w) : nrm (u, w) ∈ crossP l := by
  obtain ⟨i, hi, rfl⟩ := List.mem_iff_getElem.mp hu
  obtain ⟨j, hj, rfl⟩ := List.mem_iff_getElem.mp hw
  rcases Nat.lt_trichotomy i j with c | c | c
  · exact List.mem_map.mpr ⟨((i : Int), (j : Int)), mem_allP.mpr ⟨by dsimp only; omega, by dsimp only; omega, by dsimp only; omega⟩, by
      show nrm (l.getD ((i : Int)).toNat 0, l.getD ((j : Int)).toNat 0) = _
      rw [show ((i : Int)).toNat = i by omega, show ((j : Int)).toNat = j by omega, getD_i hi, getD_i hj]⟩
  · subst c
    exact absurd rfl ne
  · exact List.mem_map.mpr ⟨((j : Int), (i : Int)), mem_allP.mpr ⟨by dsimp only; omega, by dsimp only; omega, by dsimp only; omega⟩, by
      show nrm (l.getD ((j : Int)).toNat 0, l.getD ((i : Int)).toNat 0) = _
      rw [show ((i : Int)).toNat = i by omega, show ((j : Int)).toNat = j by omega, getD_i hi, getD_i hj]
      exact nrm_cm _ _⟩
theorem cross_len (l : List Int) : (crossP l).length ≤ l.length * l.length := by
  unfold crossP
  rw [List.length_map]
  exact preP_len
def laterL (q : List (Int × Int)) (v : Int) (o : List Int) : List Int := o.filter fun u => decide (nrm (u, v) ∈ q)
def fillL : List (Int × Int) → List Int → List (List Int)
  | _, [] => []
  | q, v :: o => laterL q v o :: fillL (q ++ crossP (laterL q v o)) o
theorem fill_len : ∀ (o : List Int) (q : List (Int × Int)), (fillL q o).length = o.length
  | [], _ => rfl
  | v :: o, q => by
    show (fillL _ o).length + 1 = o.length + 1
    rw [fill_len o]
theorem fill_sub : ∀ (o : List Int) (q : List (Int × Int)) {k : Nat} {r : List Int}, (fillL q o)[k]? = some r → r.Sublist (o.drop (k + 1))
  | [], _, _, _, h => by simp [fillL] at h
  | v :: o, q, 0, r, h => by
    have e : laterL q v o = r := by simpa [fillL] using h
    subst e
    exact List.filter_sublist
  | v :: o, q, k + 1, r, h => by
    have e : (fillL (q ++ crossP (laterL q v o)) o)[k]? = some r := by simpa [fillL] using h
    exact fill_sub o _ e
theorem fill_edge : ∀ (o : List Int) (q : List (Int × Int)) {k : Nat} {r : List Int} {v w : Int}, (fillL q o)[k]? = some r → o[k]? = some v → w ∈ o.drop (k + 1) → nrm (w, v) ∈ q → w ∈ r
  | [], _, _, _, _, _, h, _, _, _ => by simp [fillL] at h
  | x :: o, q, 0, r, v, w, h, e, m, hq => by
    have e1 : laterL q x o = r := by simpa [fillL] using h
    have e2 : x = v := by simpa using e
    subst e1
    subst e2
    exact List.mem_filter.mpr ⟨m, by simp [hq]⟩
  | x :: o, q, k + 1, r, v, w, h, e, m, hq => by
    have e1 : (fillL (q ++ crossP (laterL q x o)) o)[k]? = some r := by simpa [fillL] using h
    exact fill_edge o _ e1 (by simpa using e) m (List.mem_append_left _ hq)
theorem fill_fill : ∀ (o : List Int) (q : List (Int × Int)) {k p : Nat} {r r' : List Int} {u w : Int}, (fillL q o)[k]? = some r → u ∈ r → w ∈ r → u ≠ w → o[p]? = some u → k < p → (fillL q o)[p]? = some r' → w ∈ o.drop (p + 1) → w ∈ r'
  | [], _, _, _, _, _, _, _, h, _, _, _, _, _, _, _ => by simp [fillL] at h
  | x :: o, q, k, 0, r, r', u, w, h, hu, hw, ne, e, kp, h', m => absurd kp (Nat.not_lt_zero _)
  | x :: o, q, 0, p + 1, r, r', u, w, h, hu, hw, ne, e, kp, h', m => by
    have e1 : laterL q x o = r := by simpa [fillL] using h
    have e2 : (fillL (q ++ crossP (laterL q x o)) o)[p]? = some r' := by simpa [fillL] using h'
    refine fill_edge o _ e2 (by simpa using e) m (List.mem_append_right _ ?_)
    rw [e1]
    exact cross_mem hw hu (Ne.symm ne)
  | x :: o, q, k + 1, p + 1, r, r', u, w, h, hu, hw, ne, e, kp, h', m => by
    have e1 : (fillL (q ++ crossP (laterL q x o)) o)[k]? = some r := by simpa [fillL] using h
    have e2 : (fillL (q ++ crossP (laterL q x o)) o)[p]? = some r' := by simpa [fillL] using h'
    exact fill_fill o _ e1 hu hw ne (by simpa using e) (by omega) e2 m
/-- the bag that k's bag is linked to -/
def parO (o : List Int) (rows : List (List Int)) (k : Nat) : Nat := match rows[k]? with
  | some (u :: _) => o.idxOf u
  | _ => k + 1
theorem mem_drop {o : List Int} (nd : o.Nodup) {k : Nat} {w : Int} (h : w ∈ o.drop k) : k ≤ o.idxOf w ∧ o.idxOf w < o.length ∧ w ∈ o := by
  obtain ⟨i, hi, rfl⟩ := List.mem_iff_getElem.mp h
  rw [List.length_drop] at hi
  have e : (o.drop k)[i]'(by rw [List.length_drop]; exact hi) = o[k + i] := List.getElem_drop
  rw [e]
  have hl : k + i < o.length := by omega
  have m : o[k + i] ∈ o := List.getElem_mem hl
  have h1 : o.idxOf o[k + i] < o.length := List.idxOf_lt_length_of_mem m
  have h2 : o[o.idxOf o[k + i]] = o[k + i] := List.getElem_idxOf h1
  have pw := List.pairwise_iff_getElem.mp nd
  rcases Nat.lt_trichotomy (o.idxOf o[k + i]) (k + i) with c | c | c
  · exact absurd h2 (pw _ _ h1 hl c)
  · exact ⟨by omega, h1, m⟩
  · exact absurd h2.symm (pw _ _ hl h1 c)
theorem idx_at {o : List Int} (nd : o.Nodup) {i : Nat} (h : i < o.length) : o.idxOf o[i] = i := by
  have h1 : o.idxOf o[i] < o.length := List.idxOf_lt_length_of_mem (List.getElem_mem h)
  have h2 : o[o.idxOf o[i]] = o[i] := List.getElem_idxOf h1
  have pw := List.pairwise_iff_getElem.mp nd
  rcases Nat.lt_trichotomy (o.idxOf o[i]) i with c | c | c
  · exact absurd h2 (pw _ _ h1 h c)
  · exact c
  · exact absurd h2.symm (pw _ _ h h1 c)
theorem drop_of_idx {o : List Int} {k : Nat} {w : Int} (m : w ∈ o) (h : k ≤ o.idxOf w) : w ∈ o.drop k := by
  have h1 : o.idxOf w < o.length := List.idxOf_lt_length_of_mem m
  have h2 : o[o.idxOf w] = w := List.getElem_idxOf h1
  refine List.mem_iff_getElem.mpr ⟨o.idxOf w - k, by rw [List.length_drop]; omega, ?_⟩
  rw [List.getElem_drop]
  have e : ∀ j (hj : j < o.length), j = o.idxOf w → o[j] = w := fun j hj e => by
    subst e
    exact h2
  exact e _ _ (by omega)
/-- the first of some stands first -/
theorem first_idx {o : List Int} (nd : o.Nodup) {u : Int} {r : List Int} {k : Nat} (s : (u :: r).Sublist (o.drop k)) {w : Int} (h : w ∈ u :: r) : o.idxOf u ≤ o.idxOf w := by
  rcases List.mem_cons.mp h with e | h
  · rw [e]
    exact Nat.le_refl _
  · have nd' := nd.sublist (List.drop_sublist k o)
    have pw : ((u :: r).Pairwise fun a b => o.idxOf a < o.idxOf b) := by
      refine List.Pairwise.sublist s (List.Pairwise.sublist (List.drop_sublist k o) ?_)
      rw [List.pairwise_iff_getElem]
      intro i j hi hj lt
      rw [idx_at nd hi, idx_at nd hj]
      exact lt
    exact Nat.le_of_lt ((List.pairwise_cons.mp pw).1 w h)
section
variable {n : Nat} {ps : List (Int × Int)} {o : List Int}
theorem par_ok (nd : o.Nodup) (q : List (Int × Int)) {k : Nat} (h : k + 1 < o.length) : k < parO o (fillL q o) k ∧ parO o (fillL q o) k < o.length := by
  unfold parO
  cases e : (fillL q o)[k]? with
  | none => exact ⟨Nat.lt_succ_self _, h⟩
  | some r =>
    cases r with
    | nil => exact ⟨Nat.lt_succ_self _, h⟩
    | cons u r =>
      have s := fill_sub o q e
      obtain ⟨h1, h2, _⟩ := mem_drop nd (s.mem List.mem_cons_self)
      exact ⟨h1, h2⟩
theorem order_tdc (one : 1 ≤ n) (nd : o.Nodup) (mem : ∀ v, v ∈ o ↔ 0 ≤ v ∧ v < (n : Int)) (len : o.length = n) (hps : ∀ p ∈ ps, 0 ≤ p.1 ∧ p.1 < p.2 ∧ p.2 < (n : Int)) {bags : List (List Int)} (lb : bags.length = n)
    (hb : ∀ (k : Nat) (v : Int) (r b : List Int), o[k]? = some v → (fillL ps o)[k]? = some r → bags[k]? = some b → b.Pairwise (· < ·) ∧ ∀ z, z ∈ b ↔ z = v ∨ z ∈ r) :
    Tdc (n : Int) ps bags ((List.range (n - 1)).map fun (k : Nat) => ((k : Int), (parO o (fillL ps o) k : Int))) := by
  have lr := fill_len o ps
  -- what stands at k
  have att : ∀ k, k < n → ∃ v r b, o[k]? = some v ∧ (fillL ps o)[k]? = some r ∧ bags[k]? = some b ∧ b.Pairwise (· < ·) ∧ (∀ z, z ∈ b ↔ z = v ∨ z ∈ r) ∧ bagAt bags (k : Int) = b ∧ r.Sublist (o.drop (k + 1)) := fun k hk => by
    have h1 := List.getElem?_eq_getElem (l := o) (i := k) (by omega)
    have h2 := List.getElem?_eq_getElem (l := fillL ps o) (i := k) (by omega)
    have h3 := List.getElem?_eq_getElem (l := bags) (i := k) (by omega)
    obtain ⟨a, b⟩ := hb k _ _ _ h1 h2 h3
    exact ⟨_, _, _, h1, h2, h3, a, b, bag_of h3, fill_sub o ps h2⟩
  have idx : ∀ v ∈ o, o.idxOf v < n ∧ o[o.idxOf v]? = some v := fun v hv => by
    have h1 : o.idxOf v < o.length := List.idxOf_lt_length_of_mem hv
    exact ⟨by omega, by rw [List.getElem?_eq_getElem h1, List.getElem_idxOf h1]⟩
  have lk : ∀ k, k + 1 < n → ((k : Int), (parO o (fillL ps o) k : Int)) ∈ (List.range (n - 1)).map fun (k : Nat) => ((k : Int), (parO o (fillL ps o) k : Int)) := fun k hk => List.mem_map.mpr ⟨k, List.mem_range.mpr (by omega), rfl⟩
  have pk : ∀ k, k + 1 < n → k < parO o (fillL ps o) k ∧ parO o (fillL ps o) k < n := fun k hk => by
    have := par_ok nd ps (k := k) (by omega)
    omega
  refine ⟨by omega, fun b hb' => ?_, fun l hl => ?_, by rw [List.length_map, List.length_range]; omega, fun a b ha hb' => ?_, fun p hp => ?_, fun v v0 v1 => ?_, fun v a b ha hb' => ?_⟩
  · obtain ⟨i, hi, e⟩ := mem_bag hb'
    unfold nodeI at hi
    obtain ⟨v, r, b', h1, h2, h3, asc, m, eb, sb⟩ := att i.toNat (by omega)
    have ei : ((i.toNat : Nat) : Int) = i := by omega
    rw [ei, e] at eb
    subst eb
    have vm := (mem v).mp (List.mem_of_getElem? h1)
    refine ⟨asc, fun e0 => ?_, fun z hz => ?_⟩
    · have := (m v).mpr (.inl rfl)
      rw [e0] at this
      exact List.not_mem_nil this
    · rcases (m z).mp hz with c | c
      · rw [c]; exact vm
      · exact (mem z).mp ((List.drop_sublist _ o).mem (sb.mem c))
  · obtain ⟨k, hk, rfl⟩ := List.mem_map.mp hl
    have hk := List.mem_range.mp hk
    have := pk k (by omega)
    unfold nodeI
    dsimp only
    omega
  · -- each place leads to the last
    have all : ∀ d k, n - 1 - k ≤ d → k < n → Con (RL (nodeI bags.length) ((List.range (n - 1)).map fun (k : Nat) => ((k : Int), (parO o (fillL ps o) k : Int)))) (k : Int) ((n - 1 : Nat) : Int) := fun d => by
      induction d with
      | zero =>
        intro k h1 h2
        rw [show k = n - 1 by omega]
        exact .refl
      | succ d ih =>
        intro k h1 h2
        by_cases c : k + 1 < n
        · have := pk k c
          refine Con.trans (.step .refl ⟨?_, ?_, .inl (lk k c)⟩) (ih (parO o (fillL ps o) k) (by omega) (by omega))
          · unfold nodeI; omega
          · unfold nodeI; omega
        · rw [show k = n - 1 by omega]
          exact .refl
    unfold nodeI at ha hb'
    have h1 := all n a.toNat (by omega) (by omega)
    have h2 := all n b.toNat (by omega) (by omega)
    rw [show ((a.toNat : Nat) : Int) = a by omega] at h1
    rw [show ((b.toNat : Nat) : Int) = b by omega] at h2
    exact h1.trans (h2.symm RL.symm)
  · obtain ⟨p0, p1, p2⟩ := hps p hp
    have m1 := (mem p.1).mpr ⟨p0, by omega⟩
    have m2 := (mem p.2).mpr ⟨by omega, p2⟩
    have ne : p.1 ≠ p.2 := by omega
    have ep : nrm (p.2, p.1) = p := by
      unfold nrm
      exact Prod.ext (by dsimp only; omega) (by dsimp only; omega)
    have ep' : nrm (p.1, p.2) = p := by
      rw [nrm_cm]
      exact ep
    obtain ⟨i1, e1⟩ := idx _ m1
    obtain ⟨i2, e2⟩ := idx _ m2
    have both : ∀ {x y : Int}, x ∈ o → y ∈ o → nrm (y, x) ∈ ps → o.idxOf x < o.idxOf y → ∃ b ∈ bags, x ∈ b ∧ y ∈ b := fun {x y} hx hy hq lt => by
      obtain ⟨ix, ex⟩ := idx x hx
      obtain ⟨v, r, b, h1, h2, h3, asc, m, eb, sb⟩ := att _ ix
      rw [ex] at h1
      cases h1
      have := fill_edge o ps h2 ex (drop_of_idx hy (by omega)) hq
      exact ⟨b, List.mem_of_getElem? h3, (m _).mpr (.inl rfl), (m _).mpr (.inr this)⟩
    rcases Nat.lt_trichotomy (o.idxOf p.1) (o.idxOf p.2) with c | c | c
    · exact both m1 m2 (by rw [ep]; exact hp) c
    · rw [c, e2] at e1
      exact absurd (Option.some.inj e1).symm ne
    · obtain ⟨b, hb1, h1, h2⟩ := both m2 m1 (by rw [ep']; exact hp) c
      exact ⟨b, hb1, h2, h1⟩
  · have m1 := (mem v).mpr ⟨v0, v1⟩
    obtain ⟨i1, e1⟩ := idx v m1
    obtain ⟨v', r, b, h1, h2, h3, asc, m, eb, sb⟩ := att _ i1
    rw [e1] at h1
    cases h1
    exact ⟨b, List.mem_of_getElem? h3, (m _).mpr (.inl rfl)⟩
  · -- each bag with v leads to v's own
    have own : ∀ k, k < n → v ∈ bagAt bags (k : Int) → v ∈ o ∧ k ≤ o.idxOf v := fun k hk h => by
      obtain ⟨v', r, b, h1, h2, h3, asc, m, eb, sb⟩ := att k hk
      rw [eb] at h
      rcases (m v).mp h with c | c
      · subst c
        have hl := (List.getElem?_eq_some_iff.mp h1).1
        have := (List.getElem?_eq_some_iff.mp h1).2
        refine ⟨List.mem_of_getElem? h1, ?_⟩
        rw [← this, idx_at nd hl]
        exact Nat.le_refl _
      · obtain ⟨x, _, z⟩ := mem_drop nd (sb.mem c)
        exact ⟨z, by omega⟩
    have all : ∀ d k, o.idxOf v - k ≤ d → k < n → v ∈ bagAt bags (k : Int) → Con (RL (hasV bags v) ((List.range (n - 1)).map fun (k : Nat) => ((k : Int), (parO o (fillL ps o) k : Int)))) (k : Int) (o.idxOf v : Int) := fun d => by
      induction d with
      | zero =>
        intro k h1 h2 h3
        have := own k h2 h3
        rw [show k = o.idxOf v by omega]
        exact .refl
      | succ d ih =>
        intro k h1 h2 h3
        obtain ⟨vo, le⟩ := own k h2 h3
        by_cases c : k = o.idxOf v
        · rw [← c]
          exact .refl
        · obtain ⟨iv, ev⟩ := idx v vo
          obtain ⟨v', r, b, g1, g2, g3, asc, m, eb, sb⟩ := att k h2
          have hr : v ∈ r := by
            rw [eb] at h3
            rcases (m v).mp h3 with e | e
            · subst e
              have hl := (List.getElem?_eq_some_iff.mp g1).1
              have e9 := (List.getElem?_eq_some_iff.mp g1).2
              rw [← e9, idx_at nd hl] at c
              exact absurd rfl c
            · exact e
          obtain ⟨u, r', rfl⟩ : ∃ u r', r = u :: r' := by
            cases r with
            | nil => cases hr
            | cons u r' => exact ⟨u, r', rfl⟩
          have ep : parO o (fillL ps o) k = o.idxOf u := by
            unfold parO
            rw [g2]
          obtain ⟨u1, u2, u3⟩ := mem_drop nd (sb.mem List.mem_cons_self)
          have le2 := first_idx nd sb hr
          obtain ⟨iu, eu⟩ := idx u u3
          -- the linked bag holds v
          have hp : v ∈ bagAt bags (o.idxOf u : Int) := by
            obtain ⟨w, s, b', k1, k2, k3, _, m', eb', _⟩ := att _ iu
            rw [eu] at k1
            cases k1
            rw [eb']
            by_cases e : u = v
            · exact (m' v).mpr (.inl e.symm)
            · refine (m' v).mpr (.inr (fill_fill o ps g2 List.mem_cons_self hr e eu (by omega) k2 (drop_of_idx vo ?_)))
              rcases Nat.lt_or_ge (o.idxOf u) (o.idxOf v) with h | h
              · exact h
              · have e9 : o.idxOf u = o.idxOf v := by omega
                rw [e9, ev] at eu
                exact absurd (Option.some.inj eu).symm e
          have kn : k + 1 < n := by omega
          have hl := lk k kn
          rw [ep] at hl
          refine Con.trans (.step .refl ⟨⟨?_, h3⟩, ⟨?_, hp⟩, .inl hl⟩) (ih (o.idxOf u) (by omega) iu hp)
          · unfold nodeI; omega
          · unfold nodeI; omega
    have ha1 := ha.1
    have hb1 := hb'.1
    unfold nodeI at ha1 hb1
    have ea : ((a.toNat : Nat) : Int) = a := by omega
    have eb : ((b.toNat : Nat) : Int) = b := by omega
    have h1 := all n a.toNat (by
      have := (own a.toNat (by omega) (by rw [ea]; exact ha.2)).1
      have := idx v this
      omega) (by omega) (by rw [ea]; exact ha.2)
    have h2 := all n b.toNat (by
      have := (own b.toNat (by omega) (by rw [eb]; exact hb'.2)).1
      have := idx v this
      omega) (by omega) (by rw [eb]; exact hb'.2)
    rw [ea] at h1
    rw [eb] at h2
    exact h1.trans (h2.symm RL.symm)
end

set_option Elab.async false
set_option linter.all false
set_option maxRecDepth 100000
set_option maxHeartbeats 4000000
open PySem PySem.Spec PySem.W PySem.Calls PyProof.Rows L2
/-! # list.remove of data; (a, b) = a list -/
section
variable {X : Cx}
/-- (a, b, ..) = a list of that length -/
def gLstT (K : PySem.W.Frag) (n : Nat) (t : TGs) : TG := fun v σ H Q => ∃ a xs, v = .ref a ∧ SqL K H a xs ∧ xs.length = n ∧ t xs σ H Q
theorem pg_lstT {es : List Expr} {k : Nat} {t : TGs} {n : Nat} {pos : Pos} (hc : X.calm = true) (h : PGs X es t)
    (hn : (assignEach es X.env).length = n := by rfl) (hst : (assignEach es X.env).findIdx? (·.1) = none := by rfl) : PG X (.Tuple es k pos) (gLstT X.K n t) := by
  refine ⟨fun pins s σ H v u Q I r hw => ?_⟩
  obtain ⟨a, xs, e1, hq, hl, hw⟩ := hw
  subst e1
  cases r
  obtain ⟨its, rv, ht, hz⟩ := I.list hq
  have hx9 : (assignEach es X.env).length = its.toArray.size := by
    rw [hn, ← hl, rv.length, List.size_toArray]
  rw [assign_Tuple]
  refine wpAny_bind (wpAny_standAt ?_)
  unfold unpack
  rw [hx9, hst]
  refine wpAny_bind (wpAny_holding (kun_itemsOf (I.ok.hd hc) ht.isList fun h' hx => ?_))
  have I1 : Inv X pins σ H { s with heap := h' } := I.kept (t' := s.toks) fun b o e => hx b o (Nat.ne_of_lt (Heap.lt_size e)) e
  exact h.run pins _ σ H xs _ Q I1 (by simpa using rv) hw
theorem PG.lstK {K : PySem.W.Frag} {e : Expr} {n : Nat} {t : TGs} (h : X.K = K) (p : PG X e (gLstT X.K n t)) : PG X e (gLstT K n t) := h ▸ p
theorem r_glst {K : PySem.W.Frag} {σ : L2.St} {H : Hp} {n : Nat} {g : TGs} {p : Addr} {xs : List V} {q : L2.St → Hp → Prop} (h : SqL K H p xs) (l : xs.length = n) (s : g xs σ H q) : gLstT K n g (.ref p) σ H q := ⟨p, xs, rfl, h, l, s⟩
/-- xs.remove(y): the first that equals y goes -/
def rRemD (K : PySem.W.Frag) : V → List V → Hp → VK → Prop := fun x xs H Q => ∃ (l : Addr) (ys : List V) (y : V) (ds : List PyData) (d : PyData) (j : Nat), x = .ref l ∧ xs = [y] ∧ H l = some (.lst ys) ∧ DpAll K H ys ds ∧ Dp K H y d ∧ PyData.plainAll ds = true ∧ d.plain = true ∧ d.depth ≤ 60 ∧
  SeqAt.dataPlace ds d = some j ∧ Q .non (upd H l (.lst (ys.eraseIdx j)))
end
def tI (ns : List Int) : PyData := .tuple (ns.map PyData.int)
section
variable {K : PySem.W.Frag} {σ : L2.St} {H : Hp} {Q : VK} {te : TE}
end
set_option Elab.async false
set_option linter.all false
set_option maxRecDepth 100000
set_option maxHeartbeats 4000000
open PySem PySem.Spec PySem.W PySem.Calls PyProof.Rows L2
/-! # a op b op c op d, as a test -/
section
variable {X : Cx} {a b c d : Expr} {ta tb tc td : TE} {pos : Pos}
def tChain3 (r r' r'' : R2) (ta tb tc td : TE) : TE := fun σ H Q => ta σ H fun x H1 => tb σ H1 fun y H2 => r x y H2 fun z H3 => ∃ k, z = .bl k ∧
  (if k = true then tc σ H3 fun w H4 => r' y w H4 fun z' H5 => ∃ k', z' = .bl k' ∧ (if k' = true then td σ H5 fun u H6 => r'' w u H6 Q else Q (.bl false) H5) else Q (.bl false) H3)
theorem pt_chain3 {op op' op'' : CmpOp} {r r' r'' : R2} (ho : OpR X (compareOp op) r) (ho' : OpR X (compareOp op') r') (ho'' : OpR X (compareOp op'') r'') (ha : PE X a ta) (hb : PE X b tb) (hc : PE X c tc) (hd : PE X d td)
    (hm : lastMarks [op, op', op''] [b, c, d] = false := by with_unfolding_all rfl) : PT X (.Compare a [op, op', op''] [b, c, d] pos) (tTest (tChain3 r r' r'' ta tb tc td)) := by
  refine ⟨fun pins s σ H Q I h => ?_⟩
  refine isTrue_chain (thn (ha.run pins s σ H _ I h) fun v s1 ⟨x, H1, I1, r1, q1⟩ => test_link (thn (hb.run pins s1 σ H1 _ I1 q1) fun u s2 ⟨y, H2, I2, r2, q2⟩ =>
    thn (ho pins s2 σ H2 x y v u _ I2 r1 r2 q2) fun d s3 ⟨z, H3, I3, r3, k, e, q3⟩ => ?_)) hm
  subst e
  cases r3
  refine wpAny_truthy_bool ?_
  cases k with
  | false =>
    obtain ⟨k', e', q'⟩ := q3
    cases e'
    exact ite_ff ⟨H3, I3, q'⟩
  | true =>
    refine ite_tt (test_link (thn (hc.run pins s3 σ H3 _ I3 q3) fun w' s4 ⟨z', H4, I4, r4, q4⟩ => thn (ho' pins s4 σ H4 y z' u w' _ I4 r2 r4 q4) fun d' s5 ⟨z2, H5, I5, r5, k2, e2, q5⟩ => ?_))
    subst e2
    cases r5
    refine wpAny_truthy_bool ?_
    cases k2 with
    | false =>
      obtain ⟨k', e', q'⟩ := q5
      cases e'
      exact ite_ff ⟨H5, I5, q'⟩
    | true =>
      refine ite_tt (test_last (thn (hd.run pins s5 σ H5 _ I5 q5) fun w2 s6 ⟨z3, H6, I6, r6, q6⟩ => thn (ho'' pins s6 σ H6 z' z3 w' w2 _ I6 r4 r6 q6) fun d' s7 ⟨z4, H7, I7, r7, k3, e3, q7⟩ => ?_))
      subst e3
      cases r7
      exact wpAny_truthy_bool ⟨H7, I7, q7⟩
end
section
variable {σ : L2.St} {H : Hp} {Q : VK} {ta tb tc td : TE} {r r' r'' : R2}
def Ch3N (r' r'' : R2) (tc td : TE) (σ : L2.St) (Q : VK) (y z : V) (H3 : Hp) : Prop := ∃ k, z = .bl k ∧ (if k = true then tc σ H3 fun w H4 => r' y w H4 fun z' H5 => ∃ k', z' = .bl k' ∧ (if k' = true then td σ H5 fun u H6 => r'' w u H6 Q else Q (.bl false) H5) else Q (.bl false) H3)
def Ch3M (r'' : R2) (td : TE) (σ : L2.St) (Q : VK) (w z : V) (H3 : Hp) : Prop := ∃ k, z = .bl k ∧ (if k = true then td σ H3 fun u H6 => r'' w u H6 Q else Q (.bl false) H3)
theorem r_chain3 (h : ta σ H fun x H1 => tb σ H1 fun y H2 => r x y H2 (Ch3N r' r'' tc td σ Q y)) : tChain3 r r' r'' ta tb tc td σ H Q := h
theorem r_ch3n {y : V} {b : Bool} (h : if b = true then tc σ H fun w H4 => r' y w H4 (Ch3M r'' td σ Q w) else Q (.bl false) H) : Ch3N r' r'' tc td σ Q y (.bl b) H := ⟨b, rfl, h⟩
theorem r_ch3m {w : V} {b : Bool} (h : if b = true then td σ H fun u H6 => r'' w u H6 Q else Q (.bl false) H) : Ch3M r'' td σ Q w (.bl b) H := ⟨b, rfl, h⟩
end

set_option Elab.async false
set_option linter.all false
set_option maxRecDepth 100000
set_option maxHeartbeats 4000000
open PySem PySem.Spec PyProof.Rows L2 LamX
/-! # a lambda of one parameter, handed to a def of two -/
/-- one parameter; else captured names and globals -/
structure LamS1 (x : Str) (sc scope : Scope) : Prop where
  kind : scope.kind = .function
  co : scope.isCoroutine = false
  gen : scope.isGenerator = false
  own : ∀ y ∈ scope.names, (y.2 = .local → y.1 = x) ∧ y.2 ≠ .cell
  par : scope.names.lookup x = some .local
  free : ∀ y ∈ scope.names, y.2 = .free → sc.names.lookup y.1 = some .cell ∨ sc.names.lookup y.1 = some .free
def lamS1B (x : Str) (sc scope : Scope) : Bool :=
  decide (scope.kind = .function) && !scope.isCoroutine && !scope.isGenerator && decide (scope.names.lookup x = some .local) && scope.names.all fun y => (!decide (y.2 = .local) || decide (y.1 = x)) && !decide (y.2 = .cell) && (!decide (y.2 = .free) || decide (sc.names.lookup y.1 = some .cell) || decide (sc.names.lookup y.1 = some .free))
theorem lamS1_by {x : Str} {sc scope : Scope} (h : lamS1B x sc scope = true) : LamS1 x sc scope := by
  unfold lamS1B at h
  simp only [Bool.and_eq_true, Bool.or_eq_true, Bool.not_eq_true', decide_eq_true_eq, decide_eq_false_iff_not, List.all_eq_true] at h
  obtain ⟨⟨⟨⟨h1, h2⟩, h3⟩, h5⟩, h4⟩ := h
  refine ⟨h1, h2, h3, fun y hy => ⟨fun e => ?_, (h4 y hy).1.2⟩, h5, fun y hy e => ?_⟩
  · rcases (h4 y hy).1.1 with z | z
    · exact absurd e z
    · exact z
  · rcases (h4 y hy).2 with (z | z) | z
    · exact absurd e z
    · exact .inl z
    · exact .inr z
theorem LamS1.has {X : Cx} {x : Str} {scope : Scope} (L : LamS1 x X.env.scope scope) (ok : X.Ok) : ∀ y ∈ scope.names, y.2 = .free → ∃ c, X.env.cells.lookup y.1 = some c := fun y hy e => by
  rcases L.free y hy e with k | k
  · exact ok.has _ (.inl k)
  · exact ok.has _ (.inr k)
theorem nodup_at {α : Type} {N : List α} (nd : N.Nodup) {i j : Nat} {x : α} (h1 : N[i]? = some x) (h2 : N[j]? = some x) : i = j := by
  obtain ⟨a1, b1⟩ := List.getElem?_eq_some_iff.mp h1
  obtain ⟨a2, b2⟩ := List.getElem?_eq_some_iff.mp h2
  have pw := List.pairwise_iff_getElem.mp nd
  rcases Nat.lt_trichotomy i j with c | c | c
  · exact absurd (b1.trans b2.symm) (pw _ _ a1 a2 c)
  · exact c
  · exact absurd (b2.trans b1.symm) (pw _ _ a2 a1 c)
section
variable {X : Cx} {pins : List (Addr × Obj)} {σ : L2.St} {H HZ : Hp} {s s1 : Shared}
theorem lam_start1 {A : Around} {outer : List Env} {E : XK} {scope : Scope} {f c' : Addr} {h₁ : Heap} {tk : Nat} {x : Str} {ix : Nat} {xv : V} {u : Value} (I : Inv X pins σ H s) (L : LamS1 x X.env.scope scope) (hx : X.N[ix]? = some x) (hN : X.N.Nodup) (rx : RelV xv u) (e0 : Env0 X.prog X.w X.K X.mg X.base A outer s1 HZ) (hd : A.handled = none)
    (un : Un (frs X.stack) [] H HZ s.heap s1.heap) (hns : h₁.Ns s1.heap.objs.size fun y => ([(x, u)] : List (Str × Value)).reverse.lookup y) (kp : ∀ b o, s1.heap.get? b = some o → h₁.get? b = some o) :
    Inv (lamCx X A outer s1 HZ E scope f c') [] (σ.set ix (some xv)) HZ { s1 with heap := h₁, toks := tk } := by
  have hfree := L.has I.ok
  have cm : ∀ {y c}, (cloFrom X.env.cells scope.names []).lookup y = some c → X.env.cells.lookup y = some c := fun {y c} e => by
    rcases cloFrom_mem (PySem.mem_of_lookup e) with hm | ⟨h1, h2⟩
    · cases hm
    · obtain ⟨c1, hc⟩ := hfree _ h1 rfl
      have hc : X.env.cells.lookup y = some c1 := hc
      have e2 : c = c1 := by
        rw [h2, hc] <;> rfl
      rw [e2]
      exact hc
  have look : ∀ {y}, scope.names.lookup y = some .free → ∃ c, (cloFrom X.env.cells scope.names []).lookup y = some c := fun {y} hl => by
    have hy : (y, NameKind.free) ∈ scope.names := PySem.mem_of_lookup hl
    exact mem_lookup (cloFrom_has (cells := X.env.cells) (acc := []) hy)
  have cellK : ∀ {c : Addr} {v : Option Value}, H c = none → s.heap.IsCell c v → h₁.IsCell c v := fun {c v} n ⟨o, ho, hd⟩ => by
    obtain ⟨sl, q⟩ := un.any ho n (by simp)
    exact ⟨_, kp _ _ q, hd⟩
  have noA : ∀ b : Addr, b ∉ (lamCx X A outer s1 HZ E scope f c').ex := fun b z => absurd (show b ∈ ([] : List Addr) from z) (by simp)
  have ixl : ix < σ.length := by
    rw [I.len]
    exact (List.getElem?_eq_some_iff.mp hx).1
  refine ⟨⟨e0.mod, L.kind, rfl, rfl, Nat.le_refl _, fun y z c e1 e2 => I.ok.inj y z c (cm e1) (cm e2), fun y hy => ?_, fun y c z _ => ?_, fun _ => hd, Around.frames_deeper e0.frames, .inr ⟨rfl, rfl⟩, fun b z => absurd z (noA b), e0.bs, e0.bsz, fun b _ _ => noA b,
      fun b z => absurd z (noA b), e0.funs, e0.frf⟩,
    rfl, e0.bare, Un.kept kp, ⟨_, hns, fun i y v e1 e2 e3 => ?_⟩, fun y c e => ?_, e0.hok.fresh (Nat.le_refl _), fun y c e => ?_, fun q hq => absurd (show q ∈ ([] : List (Addr × Obj)) ++ [] from hq) (by simp), e0.hok.kept kp, by rw [List.length_set]; exact I.len⟩
  · have hy : scope.names.lookup y = some .cell ∨ scope.names.lookup y = some .free := hy
    rcases hy with hy | hy
    · exact absurd rfl (L.own _ (PySem.mem_of_lookup hy)).2
    · exact look hy
  · have z : false = true := z
    cases z
  · have e3 : Vis scope y := e3
    have e1 : X.N[i]? = some y := e1
    by_cases hi : i = ix
    · subst hi
      rw [hx] at e1
      cases e1
      rw [List.getElem?_set_self ixl] at e2
      cases e2
      refine ⟨u, rx, .inl ⟨L.par, ?_⟩⟩
      simp [List.lookup]
    · rw [List.getElem?_set_ne (Ne.symm hi)] at e2
      have yx : y ≠ x := fun e => by
        subst e
        exact hi (nodup_at hN e1 hx)
      rcases e3 with k | k | k
      · exact absurd ((L.own _ (PySem.mem_of_lookup k)).1 rfl) yx
      · exact absurd rfl (L.own _ (PySem.mem_of_lookup k)).2
      · obtain ⟨m, hn, hl⟩ := I.loc
        have hvis : Vis X.env.scope y := (L.free _ (PySem.mem_of_lookup k) rfl).elim (fun k => .inr (.inl k)) (fun k => .inr (.inr k))
        obtain ⟨w', r, q⟩ := hl i y v e1 e2 hvis
        obtain ⟨c2, h2⟩ := look k
        refine ⟨w', r, .inr ⟨.inr k, c2, h2, ?_⟩⟩
        have c1 := cm h2
        rcases q with ⟨k', _⟩ | ⟨_, c3, e', z⟩
        · have k' : X.env.scope.names.lookup y = some .local := k'
          rcases L.free _ (PySem.mem_of_lookup k) rfl with k2 | k2 <;> rw [show X.env.scope.names.lookup y = _ from k2] at k' <;> cases k'
        · rw [c1] at e'
          cases e'
          exact cellK (I.freeC y _ c1) z
  · obtain ⟨w', z⟩ := I.cell y c (cm e)
    exact ⟨w', cellK (I.freeC y c (cm e)) z⟩
  · obtain ⟨v, o, ho, hd⟩ := I.cell y c (cm e)
    exact un.free c o ho (I.freeC y c (cm e)) (by simp)
end
/-- the def that calls what it got: TT tells what it makes of the lambda's reading (by the argument) and of its own second argument -/
def GivesTo2 (X : Cx) (Ng : List Str) (x : Str) (sg : Scope) (g : Addr) (cdg : Value) (bg : List Stmt) (a : Str) (q : Str) (k : Nat) (TT : (V → Hp → VK → Prop) → V → Hp → VK → Prop) : Prop :=
  ∀ (f c' : Addr) (s : Shared) (H : Hp) (Q : VK) (v2 : V) (tl : V → Hp → VK → Prop), Room (k + 1) (X.A.deeper (envOfC x sg s.heap.objs.size g cdg)) →
    (∀ (arg : Expr) (ta : TE) (p1 p2 : Pos), PE (cxOf C8.CX0 X.prog X.w X.K X.mg X.base Ng x sg g cdg X.A X.stack s H C8.E0).nox arg ta →
      starEach [arg] (envOfC x sg s.heap.objs.size g cdg) = (false, eval arg (envOfC x sg s.heap.objs.size g cdg)) :: starEach [] (envOfC x sg s.heap.objs.size g cdg) →
      PE (cxOf C8.CX0 X.prog X.w X.K X.mg X.base Ng x sg g cdg X.A X.stack s H C8.E0).nox (.Call (.Name a p1) [arg] [] p2) (fun σZ HZ Q => σZ[0]? = some (some (.ref f)) ∧ ta σZ HZ fun xv H1 => H1 c' = some (CodeO c' q) ∧ tl xv H1 Q)) →
    H c' = some (CodeO c' q) → TT tl v2 H Q →
    ∃ t, PSs (cxOf C8.CX0 X.prog X.w X.K X.mg X.base Ng x sg g cdg X.A X.stack s H C8.E0).nox bg t ∧ t { nx := fun _ H' => Q .non H', rt := Q } (L2.start Ng [.ref f, v2]) H
def tLam2 (T : List (Addr × Str)) (TT : (V → Hp → VK → Prop) → V → Hp → VK → Prop) (ix j : Nat) (t : TE) : TE := fun σ H Q => Tabs T H ∧ ∃ v2, σ[j]? = some (some v2) ∧ ∀ H1, ExtN H H1 → Tabs T H1 → TT (fun xv H' Q' => t (σ.set ix (some xv)) H' Q') v2 H1 Q
section
variable {X : Cx}
end

set_option Elab.async false
set_option linter.all false
set_option maxRecDepth 100000
set_option maxHeartbeats 4000000
open PySem PySem.Spec PySem.W PySem.Calls PyProof.Rows L2
/-! # dicts whose keys are tuples: {k: v}, sorted(d) -/
section
variable {X : Cx}
def tDisp1 (tk tv : TE) : TE := fun σ H Q => ∀ p, H p = none → tk σ (upd H p (.dT [])) fun y H1 => tv σ H1 fun z H2 => PutT p (Q (.ref p)) y z H2
end
/-- sorted of a dict with tuples as keys -/
def rSortDd (K : PySem.W.Frag) : List V → Hp → VK → Prop := fun vs H Q => ∃ (d : Addr) (kvs : List (List L2.Key × V)) (ds : List PyData), vs = [.ref d] ∧ H d = some (.dT kvs) ∧ (∀ bs : List Addr, IsKeys H kvs bs → DpAll K H (bs.map V.ref) ds) ∧ AllAlike ds ∧ Sortable ds ∧ PyData.depthAll ds ≤ 60 ∧
  ∀ (bs : List Addr) (ys : List V) (es : List PyData) (p : Addr), IsKeys H kvs bs → (ys.zip es).Perm ((bs.map V.ref).zip ds) → ys.length = es.length → ys.Perm (bs.map V.ref) → es.Perm ds → DpAll K H ys es → es.Pairwise (fun d e => dataLt e d = false) → H p = none → Q (.ref p) (upd H p (.lst ys))
section
variable {X : Cx}
end

set_option Elab.async false
set_option linter.all false
set_option maxRecDepth 100000
set_option maxHeartbeats 4000000
open PySem PySem.Spec PySem.W PyProof.Rows L2 LamX
/-! # all but the tables stand -/
theorem ext_same {H H' : Hp} (s : Same H H') : ExtN H H' := fun b o h _ => s b o h
theorem ext_tk {H H' : Hp} (x : ExtN H H') : TK H H' := fun b xs e => x b _ e (fun ps z => nomatch z)
theorem ext_lst {H H' : Hp} (x : ExtN H H') {a : Addr} {xs : List V} (h : H a = some (.lst xs)) : H' a = some (.lst xs) := x a _ h (fun ps z => nomatch z)
theorem ext_tup {H H' : Hp} (x : ExtN H H') {a : Addr} {xs : List V} (h : H a = some (.tup xs)) : H' a = some (.tup xs) := x a _ h (fun ps z => nomatch z)
theorem tabs_same {T : List (Addr × Str)} {H H' : Hp} (t : Tabs T H) (s : Same H H') : Tabs T H' := t.ext s
theorem tabs_upd {T : List (Addr × Str)} {H : Hp} {f : Addr} {u o : HO} (t : Tabs T H) (hf : H f = some u) (n1 : ∀ ps, u ≠ .tbl ps) (n2 : ∀ c q, u ≠ CodeO c q) : Tabs T (upd H f o) := fun p hp => by
  obtain ⟨ps, h1, h2, h3⟩ := t p hp
  refine ⟨ps, ?_, h2, fun pos cv hc => ?_⟩
  · rw [upd_ne (fun z => by rw [z, hf] at h1; exact n1 ps (Option.some.inj h1))]
    exact h1
  · obtain ⟨c, e1, e2⟩ := h3 pos cv hc
    refine ⟨c, e1, ?_⟩
    rw [upd_ne (fun z => by subst z; rw [hf] at e2; exact n2 _ p.2 (Option.some.inj e2))]
    exact e2
/-! # dicts with pairs as keys -/
def kk (p : Int × Int) : List L2.Key := [.inl p.1, .inl p.2]
section
variable {X : Cx} {σ : L2.St} {H : Hp} {Q : VK} {D : L2.Ends}
def DputN (D : L2.Ends) (σ : L2.St) (v x : V) : VK := fun y H3 => ∃ a H4, x = .ref a ∧ DPut H3 a y v H4 ∧ D.nx σ H4
end
/-! # a dict's keys in order -/
theorem deep_prD : ∀ ps : List (Int × Int), PyData.depthAll (ps.map prD2) ≤ 1
  | [] => by simp [PyData.depthAll]
  | p :: ps => by
    have h1 := deep_prD ps
    rw [List.map_cons]
    simp only [PyData.depthAll]
    have : (prD2 p).depth ≤ 1 := by simp [prD2, PyData.depth, PyData.depthAll]
    omega
theorem al_prD (ps : List (Int × Int)) : AllAlike (ps.map prD2) := AllAlike.of fun p q => by simp [prD2, alike, alikeAll]
theorem so_prD (ps : List (Int × Int)) : Sortable (ps.map prD2) := Sortable.tuples fun p => ⟨_, _, rfl⟩
theorem lt_prD {p q : Int × Int} : dataLt (prD2 q) (prD2 p) = false ↔ leP p q := by
  show dataLt (.tuple [.int q.1, .int q.2]) (.tuple [.int p.1, .int p.2]) = false ↔ _
  rw [dataLt_ii, decide_eq_false_iff_not]
  unfold leP
  omega
/-! # what can be reached -/
inductive Rch {α : Type} (R : α → α → Prop) (a : α) : α → Prop
  | refl : Rch R a a
  | step {b c : α} : Rch R a b → R b c → Rch R a c
set_option Elab.async false
set_option linter.all false
set_option maxRecDepth 100000
set_option maxHeartbeats 4000000
open PySem PySem.Spec PySem.W PyProof.Rows L2 LamX
/-! # dicts with ints as keys -/
section
variable {X : Cx} {σ : L2.St} {H : Hp} {Q : VK} {D : L2.Ends}
def DinN (Q : VK) (y : V) : VK := fun x H2 => ∃ a o, x = .ref a ∧ DGet H2 a y o ∧ Q (.bl o.isSome) H2
/-- {k: v} with ints -/
def DispN (Q : VK) (p : Addr) (x y : V) : Hp → Prop := fun H2 => H2 p = some (.dK []) ∧ ∃ kvs : List (L2.Key × V), [(x, y)] = kvs.map (fun kv => (kV kv.1, kv.2)) ∧ kvs.length ≤ 15 ∧ Q (.ref p) (upd H2 p (.dK (mergeK [] kvs)))
end
/-! # enumerate over a list -/
section
variable {X : Cx} {K : PySem.W.Frag} {σ : L2.St} {H : Hp} {Q : VK} {nx : L2.St → Hp → Prop}
def EnL (K : PySem.W.Frag) (R : It → Hp → Prop) : List V → Hp → Prop := fun vs H1 => ∃ a xs, vs = [.ref a] ∧ SqL K H1 a xs ∧ R (Ite K a) H1
end
/-! # a def that knows its own code -/
theorem okV {P : Program} {w : World} {K : PySem.W.Frag} {mg : Str → Option Value} {base : Heap} {x qual : Str} {st : Stmt} {f : Addr} {fd : FuncData} {N ps : List Str} {k : Nat} {sp : Sp} (F : Fun K x qual st f fd) (S : FnScope N ps (defScope st)) (len : ∀ vs H Q E, sp vs H Q E → vs.length = ps.length)
    (body : ∀ (cdv : Value) (A : Around) (outer : List Env) (s : Shared) (H : Hp) (vs : List V) (Q : VK) (E : XK), fd.code = cdv → Room k (A.deeper (envOfC qual (defScope st) s.heap.objs.size f cdv)) → sp vs H Q E →
      ∃ t, PSs (cxOf CX0 P w K mg base N qual (defScope st) f cdv A outer s H E).nox (defBody st) t ∧ t { nx := fun _ H' => Q .non H', rt := Q } (L2.start N vs) H) : FnOk P w K mg base CX0 (k + 1) f fd ps sp := by
  obtain ⟨oc, od, kV, doc, pm, an, cdv, ct, osl, rfl, lk, hcd⟩ := F.ex
  exact fn_of lk hcd S len fun A outer s H vs Q E hr hsp => by
    obtain ⟨t, h, q⟩ := body cdv A outer s H vs Q E rfl hr hsp
    exact ⟨t, h.nox, q⟩
/-- the name of a lambda in the def x -/
def lamN (x : Str) : Str := (envOfC x default 0 0 .none).qual ++ "<lambda>"
theorem tabsGr {T : List (Addr × Str)} {H H' : Hp} {a : Addr} {xs : List V} (g : Gr a H H') (ha : H a = some (.lst xs)) (t : Tabs T H) : Tabs T H' := fun p hp => by
  obtain ⟨ps, h1, h2, h3⟩ := t p hp
  refine ⟨ps, g _ _ (fun z => by rw [z, ha] at h1; cases h1) h1, h2, fun pos cv hc => ?_⟩
  obtain ⟨c, e1, e2⟩ := h3 pos cv hc
  exact ⟨c, e1, g _ _ (fun z => by
    subst z
    rw [ha] at e2
    unfold CodeO at e2
    cases e2) e2⟩
set_option Elab.async false
set_option linter.all false
set_option maxRecDepth 100000
set_option maxHeartbeats 4000000
open PySem PySem.Spec PyProof.Rows L2 LamX
/-! # all(.. for x in ..) over anything that PI serves -/
/-- the generator's own scope: its name, the walked thing, captured names, globals -/
structure GenS1 (x : Str) (sc scope : Scope) : Prop where
  kind : scope.kind = .function
  co : scope.isCoroutine = false
  own : ∀ y ∈ scope.names, (y.2 = .local → y.1 = x ∨ y.1 = (".0" : Str)) ∧ y.2 ≠ .cell
  dot : scope.names.lookup (".0" : Str) = some .local
  par : scope.names.lookup x = some .local
  free : ∀ y ∈ scope.names, y.2 = .free → sc.names.lookup y.1 = some .cell ∨ sc.names.lookup y.1 = some .free
def genS1B (x : Str) (sc scope : Scope) : Bool :=
  decide (scope.kind = .function) && !scope.isCoroutine && decide (scope.names.lookup (".0" : Str) = some .local) && decide (scope.names.lookup x = some .local) && scope.names.all fun y => (!decide (y.2 = .local) || decide (y.1 = x) || decide (y.1 = (".0" : Str))) && !decide (y.2 = .cell) && (!decide (y.2 = .free) || decide (sc.names.lookup y.1 = some .cell) || decide (sc.names.lookup y.1 = some .free))
theorem genS1_by {x : Str} {sc scope : Scope} (h : genS1B x sc scope = true) : GenS1 x sc scope := by
  unfold genS1B at h
  simp only [Bool.and_eq_true, Bool.or_eq_true, Bool.not_eq_true', decide_eq_true_eq, decide_eq_false_iff_not, List.all_eq_true] at h
  obtain ⟨⟨⟨⟨h1, h2⟩, h3⟩, h5⟩, h4⟩ := h
  refine ⟨h1, h2, fun y hy => ⟨fun e => ?_, (h4 y hy).1.2⟩, h3, h5, fun y hy e => ?_⟩
  · rcases (h4 y hy).1.1 with (z | z) | z
    · exact absurd e z
    · exact .inl z
    · exact .inr z
  · rcases (h4 y hy).2 with (z | z) | z
    · exact absurd e z
    · exact .inl z
    · exact .inr z
theorem GenS1.has {X : Cx} {x : Str} {scope : Scope} (L : GenS1 x X.env.scope scope) (ok : X.Ok) : ∀ y ∈ scope.names, y.2 = .free → ∃ c, X.env.cells.lookup y.1 = some c := fun y hy e => by
  rcases L.free y hy e with k | k
  · exact ok.has _ (.inl k)
  · exact ok.has _ (.inr k)
abbrev gEnv (X : Cx) (scope : Scope) (C : Addr) (code : Value) : Env := genEnv scope (cloFrom X.env.cells scope.names []) C code builtinsNs X.env
/-- the context of the element, entered at s -/
def genCx (X : Cx) (A : Around) (s : Shared) (H : Hp) (scope : Scope) (C : Addr) (code : Value) (fp : List Addr) : Cx where
  prog := X.prog
  w := X.w
  K := X.K
  mg := X.mg
  base := X.base
  A := A
  N := X.N
  s_0 := s
  H_0 := H
  env := gEnv X scope C code
  outer := X.stack
  stack := gEnv X scope C code :: X.stack
  ex := fp
  fn := fun _ => false
  calm := true
  pn := []
  xe := fun _ _ => False
section
variable {X : Cx} {pins : List (Addr × Obj)} {σ : L2.St} {H : Hp} {s : Shared}
theorem gen_code {T : List (Addr × Str)} {c P : Addr} {scope : Scope} {gpos : Pos} {Q E : Value → Shared → Prop} (I : Inv X pins σ H s) (TB : LamX.TabB X.base X.mg c P) (hcode : X.env.code = .ref c)
    (hm : (P, X.env.qual ++ "<genexpr>") ∈ T) (hu : ∀ p ∈ T, p.1 = P → p.2 = X.env.qual ++ "<genexpr>") (hT : Tabs T H)
    (h : ∀ (code : Value) (H1 : Hp) (h' : Heap) (tk : Nat), Inv X pins σ H1 { s with heap := h', toks := tk } → ExtN H H1 → Tabs T H1 → (∀ b o, b ≠ P → s.heap.get? b = some o → h'.get? b = some o) → H P ≠ none → (∀ b o, s.heap.get? b = some o → H b = none → H1 b = none) → Q code { s with heap := h', toks := tk }) :
    wpAny (model X.prog X.w) X.A (genexprCode X.env gpos (X.env.qual ++ "<genexpr>") scope) Q E s := by
  obtain ⟨ps, hP, ht, ha⟩ := hT _ hm
  have hPs : s.heap.get? P = some { cls := .none, data := .fields ps } := I.hok P _ hP
  have cd : PySem.W.CodeHd s.heap c P := TB.code.keeps I.bk
  have hPn : H P ≠ none := by rw [hP]; exact fun z => nomatch z
  cases hf : codeAmong gpos ps.toList with
  | none =>
    refine wpAny_genexprCodeX hcode (cd.code hPs ht) (cd.tab hPs) hf fun c' h' tk hx hge hlt hco' hrec htab' _ => ?_
    obtain ⟨c2, oc, vs, t, e2, hoc, hd, hv⟩ := hrec
    cases e2
    have nC : H c' = none := I.hok.fresh hge
    have I1 := inv_table (q := X.env.qual ++ "<genexpr>") (t' := tk) (more := #[rawInt gpos.line, rawInt gpos.col, .ref c']) (h' := h') I hP hx htab'.2 hge ⟨oc, vs, t, hoc, hd, hv⟩
    have hE : ExtN H (upd (upd H P (.tbl (ps ++ #[rawInt gpos.line, rawInt gpos.col, .ref c']))) c' (CodeO c' (X.env.qual ++ "<genexpr>"))) := fun b o e n => by
      rw [upd_ne (ne_of_none e nC), upd_ne (fun z => n ps (Option.some.inj (e.symm.trans (by rw [z]; exact hP))))]
      exact e
    have eL : (ps ++ #[rawInt gpos.line, rawInt gpos.col, .ref c']).toList = ps.toList ++ [rawInt gpos.line, rawInt gpos.col, .ref c'] := by simp
    refine h _ _ h' tk I1 hE (fun p hp => ?_) hx hPn fun b o e n => ?_
    · by_cases hb : p.1 = P
      · rw [hu p hp hb, hb]
        refine ⟨_, by rw [upd_ne (ne_of_none hP nC), upd_same], by rw [eL]; exact PySem.TriplesOk_snoc _ _ _ _ ht, fun p' cv hcv => ?_⟩
        rw [eL] at hcv
        rcases among_app _ ht hcv with z | z
        · obtain ⟨c0, e1, e2⟩ := ha p' cv z
          exact ⟨c0, e1, hE _ _ e2 codeO_ne⟩
        · exact ⟨c', z, upd_same⟩
      · obtain ⟨ps', a1, a2, a3⟩ := hT p hp
        refine ⟨ps', by rw [upd_ne (ne_of_none a1 nC), upd_ne hb]; exact a1, a2, fun p' cv hcv => ?_⟩
        obtain ⟨c0, e1, e2⟩ := a3 p' cv hcv
        exact ⟨c0, e1, hE _ _ e2 codeO_ne⟩
    · rw [upd_ne (Nat.ne_of_lt (Nat.lt_of_lt_of_le (Heap.lt_size e) hge)), upd_ne (fun z => hPn (by have z : b = P := z; rw [← z]; exact n))]
      exact n
  | some cv =>
    refine wpAny_genexprCode_hit hcode (cd.code hPs ht) hf ?_
    exact h cv H s.heap s.toks I (ExtN.refl H) hT (fun _ _ _ e => e) hPn fun _ _ _ n => n
theorem gen_start {A : Around} {scope : Scope} {x : Str} {ix : Nat} {code it : Value} {fp : List Addr} {h' : Heap} {tk : Nat} {g' : Array GenState} (I : Inv X pins σ H s) (L : GenS1 x X.env.scope scope) (hx : X.N[ix]? = some x) (hN : X.N.Nodup) (h0 : (".0" : Str) ∉ X.N)
    (hd : A.handled = none) (hfr : A.frames = some (gEnv X scope s.heap.objs.size code :: X.stack)) (hfp : ∀ b ∈ fp, FpOk X pins H b ∧ b < s.heap.objs.size)
    (hns : h'.Ns s.heap.objs.size fun y => if y = ".0" then some it else none) (kp : ∀ b o, s.heap.get? b = some o → h'.get? b = some o) (hg : AllBare g') :
    Inv (genCx X A s H scope s.heap.objs.size code fp) [] (wipe σ [ix]) H { s with heap := h', toks := tk, gens := g' } := by
  have hfree := L.has I.ok
  have cm : ∀ {y c}, (cloFrom X.env.cells scope.names []).lookup y = some c → X.env.cells.lookup y = some c := fun {y c} e => by
    rcases cloFrom_mem (PySem.mem_of_lookup e) with hm | ⟨h1, h2⟩
    · cases hm
    · obtain ⟨c1, hc⟩ := hfree _ h1 rfl
      have hc : X.env.cells.lookup y = some c1 := hc
      have e2 : c = c1 := by
        rw [h2, hc] <;> rfl
      rw [e2]
      exact hc
  have look : ∀ {y}, scope.names.lookup y = some .free → ∃ c, (cloFrom X.env.cells scope.names []).lookup y = some c := fun {y} hl => by
    have hy : (y, NameKind.free) ∈ scope.names := PySem.mem_of_lookup hl
    exact mem_lookup (cloFrom_has (cells := X.env.cells) (acc := []) hy)
  have cellK : ∀ {c : Addr} {v : Option Value}, s.heap.IsCell c v → h'.IsCell c v := fun {c v} ⟨o, ho, hd⟩ => ⟨_, kp _ _ ho, hd⟩
  have okZ : (genCx X A s H scope s.heap.objs.size code fp).Ok := by
    refine ⟨I.ok.mod, L.kind, I.ok.glob, rfl, Nat.le_refl _, fun y z c e1 e2 => I.ok.inj y z c (cm e1) (cm e2), fun y hy => ?_, fun y c z _ => ?_, fun _ => hd, hfr, .inr ⟨rfl, rfl⟩, fun b hb => ⟨?_, fun y c e z => ?_⟩, I.bs, Nat.le_trans I.ok.bsz I.sz, fun b o e hb => ?_, fun b hb z => ?_, I.stack, I.stkFree⟩
    · have hy : scope.names.lookup y = some .cell ∨ scope.names.lookup y = some .free := hy
      rcases hy with hy | hy
      · exact absurd rfl (L.own _ (PySem.mem_of_lookup hy)).2
      · exact look hy
    · have z : false = true := z
      cases z
    · exact Nat.ne_of_lt (hfp b hb).2
    · exact (hfp b hb).1.2.2.2.2.1 y c (cm e) z
    · rcases (hfp b hb).1.2.2.2.1 with z | z
      · exact I.ok.noex b o e z
      · exact absurd (Nat.lt_of_lt_of_le (Heap.lt_size e) (Nat.le_trans I.ok.bsz z)) (Nat.lt_irrefl _)
    · rcases List.mem_cons.mp (I.stkSub b z) with z | z
      · exact (hfp b hb).1.2.1 z
      · exact (hfp b hb).1.2.2.1 z
  refine ⟨okZ, rfl, hg, Un.kept kp, ⟨_, hns, fun i y v e1 e2 e3 => ?_⟩, fun y c e => ?_, I.hok.fresh (Nat.le_refl _), fun y c e => I.freeC y c (cm e), fun q hq => absurd (show q ∈ ([] : List (Addr × Obj)) ++ [] from hq) (by simp), I.hok.kept kp, by rw [wipe_length]; exact I.len⟩
  · have e3 : Vis scope y := e3
    have e1 : X.N[i]? = some y := e1
    obtain ⟨e2', hne⟩ := wipe_some e2
    rcases e3 with k | k | k
    · rcases (L.own _ (PySem.mem_of_lookup k)).1 rfl with z | z
      · have z : y = x := z
        subst z
        exact absurd (List.mem_singleton.mpr (nodup_at hN e1 hx)) hne
      · have z : y = (".0" : Str) := z
        subst z
        exact absurd (List.mem_of_getElem? e1) h0
    · exact absurd rfl (L.own _ (PySem.mem_of_lookup k)).2
    · obtain ⟨m, hn, hl⟩ := I.loc
      have hvis : Vis X.env.scope y := (L.free _ (PySem.mem_of_lookup k) rfl).elim (fun k => .inr (.inl k)) (fun k => .inr (.inr k))
      obtain ⟨w', r, q⟩ := hl i y v e1 e2' hvis
      obtain ⟨c2, h2⟩ := look k
      refine ⟨w', r, .inr ⟨.inr k, c2, h2, ?_⟩⟩
      have c1 := cm h2
      rcases q with ⟨k', _⟩ | ⟨_, c3, e', z⟩
      · have k' : X.env.scope.names.lookup y = some .local := k'
        rcases L.free _ (PySem.mem_of_lookup k) rfl with k2 | k2 <;> rw [show X.env.scope.names.lookup y = _ from k2] at k' <;> cases k'
      · rw [c1] at e'
        cases e'
        exact cellK z
  · obtain ⟨w', z⟩ := I.cell y c (cm e)
    exact ⟨w', cellK z⟩
end
/-- what is left once the iterated thing is there -/
def GAll (J : It) (g : TG) (te : TE) (ix : Nat) (σ : L2.St) (Q : VK) (H2 : Hp) : Prop := ∃ W : Nat → Nat → Hp → Prop, (∃ m, W 0 m H2) ∧ ∀ i m H, W i m H → (J.stop i H ∧ Q (.bl true) H) ∨
  (J.go i H ∧ ∃ Nx : Hp → Prop, (∀ H', Nx H' → ∃ m', m' < m ∧ W (i + 1) m' H') ∧ ∀ x H', J.yld i H x H' → g x (wipe σ [ix]) H' fun σ2 H3 => wipe σ2 [ix] = wipe σ [ix] ∧ te σ2 H3 fun y H4 => ∃ b, y = .bl b ∧ if b = true then Nx H4 else Q (.bl false) H4)
def tGenAll (T : List (Addr × Str)) (wi : TI) (g : TG) (te : TE) (ix : Nat) : TE := fun σ H Q => wi σ H fun J H1 => Tabs T H1 ∧ ∀ H2, ExtN H1 H2 → Tabs T H2 → GAll J g te ix σ Q H2
theorem inv_gens {X : Cx} {pins : List (Addr × Obj)} {σ : L2.St} {H : Hp} {s : Shared} (I : Inv X pins σ H s) {g' : Array GenState} (hg : AllBare g') : Inv X pins σ H { s with gens := g' } :=
  ⟨I.ok, I.os, hg, I.base, I.loc, I.cell, I.free, I.freeC, I.pin, I.hok, I.len⟩
theorem bare_set {s : Shared} {g : Nat} {x : GenState} (hb : AllBare s.gens) (hx : x.bare = true) : AllBare (s.setGen g x).gens := fun y hy => by
  show y.bare = true
  have hy : y ∈ s.gens.setIfInBounds g x := hy
  rcases Array.mem_or_eq_of_mem_setIfInBounds hy with z | z
  · exact hb y z
  · rw [z]; exact hx
/-- the generator's object -/
abbrev gObj (n : Nat) (q : Str) (t : Tok) : Obj := { cls := .type "generator", data := .fields #[.int n 0, .str "<genexpr>" (t + 1), .str q (t + 1 + 1)] }
section
variable {X : Cx} {elt iter : Expr} {x : Str} {px : Pos} {scope : Scope} {pos : Pos}
abbrev lCode (elt iter : Expr) (x : Str) (px : Pos) (scope : Scope) (pos : Pos) (it : Value) (ce : Env) : Code := .compLoop (.GeneratorExp elt [⟨.Name x px, iter, [], 0⟩] scope pos) 0 it .none ce
/-- between two items all but the generators' table stands -/
structure Still (s s' : Shared) : Prop where
  heap : s'.heap = s.heap
  os : s'.os = s.os
  bare : AllBare s'.gens
theorem inv_still {Y : Cx} {pins : List (Addr × Obj)} {σ : L2.St} {H : Hp} {s s' : Shared} (I : Inv Y pins σ H s) (z : Still s s') : Inv Y pins σ H s' :=
  ⟨I.ok, z.os.trans I.os, z.bare, by rw [z.heap]; exact I.base, by rw [z.heap]; exact I.loc, by rw [z.heap]; exact I.cell, I.free, I.freeC, by rw [z.heap]; exact I.pin, by rw [z.heap]; exact I.hok, I.len⟩
/-- what a turn's end says, by the answer b; kap: the way on -/
def GYp (Z : Cx) (pg : List (Addr × Obj)) (Q : VK) : Protocol := fun _ _ v s kap => ∃ (b : Bool), v = .bool b ∧ AllBare s.gens ∧ (∃ σ' H', Inv Z pg σ' H' s ∧ (b = false → Q (.bl false) H')) ∧ (b = true → ∀ s', Still s s' → kap (.send .none) s')
def GRp (Z : Cx) (pg : List (Addr × Obj)) (Q : VK) (s₁ : Shared) : Prop := ∃ σ' H', Inv Z pg σ' H' s₁ ∧ Q (.bl true) H'
theorem gen_seg {Z : Cx} {Ag : Around} {J : It} {g : TG} {te : TE} {ix : Nat} {σ : L2.St} {Q : VK} {W : Nat → Nat → Hp → Prop} {fp : List Addr} {tn : Nat → Heap → Prop} {it : Addr} {a : Addr} {go : Obj}
    (ho : Ag.over (lCode elt iter x px scope pos (.ref it) Z.env) [] = Z.A) (hc : Z.calm = true) (hex : Z.ex = fp) (hpn : Z.pn = []) (hco : Z.env.scope.isCoroutine = false) (hxe : Z.xe = fun _ _ => False) (haf : ∀ b ∈ fp, a ≠ b)
    (T : Turn Z.prog Z.w Z.K (.Name x px) J fp it tn) (hg : PG Z (.Name x px) g) (he : PE Z elt te)
    (turn : ∀ i m H, W i m H → (J.stop i H ∧ Q (.bl true) H) ∨ (J.go i H ∧ ∃ Nx : Hp → Prop, (∀ H', Nx H' → ∃ m', m' < m ∧ W (i + 1) m' H') ∧ ∀ x H', J.yld i H x H' → g x (wipe σ [ix]) H' fun σ2 H3 => wipe σ2 [ix] = wipe σ [ix] ∧ te σ2 H3 fun y H4 => ∃ b, y = .bl b ∧ if b = true then Nx H4 else Q (.bl false) H4)) :
    ∀ (m n i : Nat) (s₀ s : Shared) (H : Hp), m < n → W i m H → Inv Z [(a, go)] (wipe σ [ix]) H s → tn i s.heap → (∀ b ∈ fp, H b = none) →
      Seg (model Z.prog Z.w) Ag (fun n s₀ r s₁ => r = .ok .next ∧ GRp Z [(a, go)] Q s₁) (GYp Z [(a, go)] Q) n s₀ (lCode elt iter x px scope pos (.ref it) Z.env) ((model Z.prog Z.w).den (lCode elt iter x px scope pos (.ref it) Z.env)) [] s := by
  have stat : ∀ {σ' : L2.St} {H' : Hp} {s' : Shared}, Inv Z [(a, go)] σ' H' s' → (∀ b ∈ fp, H' b = none) → ∀ b ∈ fp, FpOk Z [(a, go)] H' b := fun {σ' H' s'} I' hn b hb => by
    have hb' : b ∈ Z.ex := by rw [hex]; exact hb
    refine ⟨hn b hb, (I'.ok.exf b hb').1, I'.ok.exfs b hb', .inl hb', fun x c e => (I'.ok.exf b hb').2 x c e, fun p hp => ?_⟩
    rw [hpn] at hp
    have hp : p = (a, go) := List.mem_singleton.mp hp
    rw [hp]
    exact haf b hb
  intro m
  induction m using Nat.strongRecOn with
  | ind m ih =>
    intro n i s₀ s H hmn w I st hn
    show Seg _ Ag _ _ _ s₀ _ ((compTurn (.GeneratorExp elt [⟨.Name x px, iter, [], 0⟩] scope pos) 0 (.ref it) .none Z.env).onRaise (leaving Z.env)) [] s
    rw [compTurn_gen, Sem.onRaise_eq_wrap]
    refine seg_bind_wrap (wpAny_standAt ?_)
    rcases turn i m H w with ⟨stop, qq⟩ | ⟨go', Nx, hNx, step⟩
    · refine seg_bind_wrap ?_
      rw [ho]
      refine wpAny_mono (T.done Z rfl rfl rfl hc i [(a, go)] s _ H (fun _ _ => False) I (stat I hn) st stop) (fun r s1 ⟨e, I1⟩ => ?_) (fun _ _ z => False.elim z)
      subst e
      exact seg_end (.ok .next) ⟨rfl, _, H, I1, qq⟩
    · refine seg_bind_wrap ?_
      rw [ho]
      refine wpAny_mono (T.item Z rfl rfl rfl hc i [(a, go)] s _ H (fun _ _ => False) I (stat I hn) st go') (fun r s1 ⟨u, e, h2⟩ => ?_) (fun _ _ z => False.elim z)
      subst e
      refine seg_bind_wrap ?_
      rw [ho]
      refine wpAny_mono h2 (fun _ s2 ⟨y, H', I2, ry, hy, st2, hn2⟩ => ?_) (fun _ _ z => False.elim z)
      have I2' := I2.pinned (stat I2 hn2) (T.obj _ _ st2)
      refine seg_bind_wrap ?_
      rw [ho]
      refine wpAny_mono (hg.run _ s2 _ H' y u _ I2' ry (step y H' hy)) (fun _ s3 ⟨σ3, H3, I3, hw3, q3⟩ => ?_) (fun e s' z => by rw [hxe] at z; exact False.elim z)
      refine seg_bind_wrap ?_
      rw [ho]
      refine wpAny_tests_nil ?_
      simp only [if_true]
      have hyo : ∀ v, yieldOut Z.env v = yieldValue v := fun v => by simp only [yieldOut, hco, Bool.false_eq_true, if_false]
      simp only [hyo]
      rw [Sem.bind_eq_wrap', Sem.bind_eq_wrap', Sem.wrap_wrap, Sem.wrap_wrap]
      refine seg_wrap ?_
      rw [ho]
      refine wpAny_mono (he.run _ s3 σ3 H3 _ I3 q3) (fun v s4 ⟨yv, H4, I4, r4, b, eb, q4⟩ => ?_) (fun e s' z => by rw [hxe] at z; exact False.elim z)
      subst eb
      have r4 : v = .bool b := r4
      subst r4
      have I4' : Inv Z [(a, go)] σ3 H4 s4 := I4.unpinned
      cases n with
      | zero => exact absurd hmn (Nat.not_lt_zero _)
      | succ n =>
      refine seg_at (seg_yield rfl rfl rfl ⟨b, rfl, I4.bare, ⟨σ3, H4, I4', fun e => ?_⟩, fun e s' z => ?_⟩)
      · subst e
        exact q4
      · subst e
        simp only [if_true] at q4
        obtain ⟨m', hm, w'⟩ := hNx _ q4
        have J4 := inv_still I4 z
        have pin' : ∀ b ∈ fp, ∀ o, s2.heap.get? b = some o → s'.heap.get? b = some o ∧ H4 b = none := fun b hb o e =>
          let z := J4.pin (b, o) (List.mem_append_right _ (List.mem_append_right _ (mem_pinsAt hb e)))
          ⟨z.1, z.2.1⟩
        have hl : (wipe σ [ix]).length = σ3.length := by rw [← hw3, wipe_length]
        refine seg_again rfl (ih m' hm n (i + 1) s' s' H4 (by omega) w' ((J4.unpinned (pins := [(a, go)])).weak hl (fun j v e => ?_)) (T.keep _ _ _ st2 fun b hb o e => (pin' b hb o e).1) fun b hb => ?_)
        · rw [← hw3] at e
          exact (wipe_some e).1
        · obtain ⟨o, e, _⟩ := T.obj _ _ st2 b hb
          exact (pin' b hb o e).2
theorem gen_env_over {Ag : Around} {ce : Env} {it : Addr} : Ag.over (lCode elt iter x px scope pos (.ref it) ce) [] = Ag.deeper ce := by
  first
    | rfl
    | (obtain ⟨hd, d, fr, gs, u⟩ := Ag; simp [Around.over, Around.deeper, marksOver, frameCount, unitsOf, envsOf, guardsOf, pushEnvs, pushGuards, Code.envs, Code.env?, Code.isFrame, Code.guards, Code.isGuard, Code.weight, Code.frames, Code.isCreation, Code.isCaller, Code.cUnits])
/-- the first wake -/
theorem gen_first {Z : Cx} {Ag : Around} {J : It} {Q : VK} {fp : List Addr} {tn : Nat → Heap → Prop} {it : Addr} {a : Addr} {go : Obj}
    (T : Turn Z.prog Z.w Z.K (.Name x px) J fp it tn) {n : Nat} {s₀ s : Shared} (st : tn 0 s.heap)
    (loop : Seg (model Z.prog Z.w) Ag (fun n s₀ r s₁ => r = .ok .next ∧ GRp Z [(a, go)] Q s₁) (GYp Z [(a, go)] Q) n s₀ (lCode elt iter x px scope pos (.ref it) Z.env) ((model Z.prog Z.w).den (lCode elt iter x px scope pos (.ref it) Z.env)) [] s) :
    Seg (model Z.prog Z.w) Ag (fun n s₀ r s₁ => r = .ok .next ∧ GRp Z [(a, go)] Q s₁) (GYp Z [(a, go)] Q) n s₀ (.compStart (.GeneratorExp elt [⟨.Name x px, iter, [], 0⟩] scope pos) 0 (.ref it) .none Z.env) ((model Z.prog Z.w).den (.compStart (.GeneratorExp elt [⟨.Name x px, iter, [], 0⟩] scope pos) 0 (.ref it) .none Z.env)) [] s := by
  show Seg _ Ag _ _ _ s₀ _ ((compStart (.GeneratorExp elt [⟨.Name x px, iter, [], 0⟩] scope pos) 0 (.ref it) .none Z.env).onRaise (leaving Z.env)) [] s
  unfold compStart
  rw [Sem.onRaise_eq_wrap]
  show Seg _ Ag _ _ _ s₀ _ ((ask >>= _).wrap _ _ _ _) [] s
  refine seg_bind_wrap (wpAny_askSetting ?_)
  split
  · exact seg_again rfl loop
  · first
      | exact seg_bind_wrap (wpAny_rule (seg_bind_wrap (wpAny_standAt (seg_bind_wrap (T.self _ 0 s _ _ st (seg_again rfl loop))))))
      | (refine seg_bind_wrap (wpAny_rule ?_); show Seg _ Ag _ _ _ s₀ _ ((standAt iter.pos >>= _).wrap _ _ _ _) [] s; exact seg_bind_wrap (wpAny_standAt (seg_bind_wrap (T.self _ 0 s _ _ st (seg_again rfl loop)))))
end
/-- all, over such a generator -/
theorem all_loop {Z : Cx} {A : Around} {pg : List (Addr × Obj)} {Q : VK} {a : Addr} {gi : Nat} {q : Str} {t : Tok} {R : Result → Shared → Prop} (hh : A.handled = none) (hroom : A.depth < recursionLimit) (hpg : pg = [(a, gObj gi q t)])
    (hR : ∀ b s', (∃ σ' H', Inv Z pg σ' H' s' ∧ Q (.bl b) H') → R (.ok (.ret (.bool b))) s') :
    ∀ (n : Nat) (s : Shared) (gs : GenState) (σ' : L2.St) (H : Hp), Inv Z pg σ' H s → s.gens[gi]? = some gs →
      (gs.Goes (model Z.prog Z.w) A.in1.in1 (fun n s₀ r s₁ => r = .ok .next ∧ GRp Z pg Q s₁) (GYp Z pg Q) n (.send .none) (s.setGen gi .running)) →
      codeAny (model Z.prog Z.w) A (.builtin "all.loop" ⟨[.ref a], []⟩) R s := by
  have isg : ∀ {σ' : L2.St} {H : Hp} {s : Shared}, Inv Z pg σ' H s → s.heap.IsGen a gi := fun {σ' H s} I => by
    have := (I.pin (a, gObj gi q t) (List.mem_append_right _ (by rw [hpg]; exact List.mem_cons_self))).1
    exact ⟨_, _, _, this, rfl, rfl, rfl⟩
  have gsa : ∀ {s₁ : Shared} {x : GenState}, gi + 1 ≤ (s₁.setGen gi x).gens.size → (s₁.setGen gi x).gens[gi]? = some x := fun {s₁ x} h => by
    rw [GenW.setGen_size] at h
    have hlt : gi < s₁.gens.size := h
    simp [Shared.setGen, hlt]
  intro n
  induction n with
  | zero =>
    intro s gs σ' H I hgs hgo
    refine codeAny_builtin F.entry_all_loop ?_
    rw [Around.under_plainId F.plain_all_loop _]
    show wpAny _ A.in1 (pyNext (.ref a) >>= _) _ _ s
    refine wpAny_bind (wpAny_pyNext_genexpQ (P := fun _ _ s₁ => GRp Z pg Q s₁) hh I.nolimit hroom (isg I) hgs hgo (fun v s₁ gs' hb hv => ?_) (fun s₁ hp h' hk => ?_))
    · obtain ⟨b, rfl, hbare, ⟨σ1, H1, I1, qf⟩, kap⟩ := hv
      cases b with
      | true => exact (kap rfl s₁ ⟨rfl, rfl, hbare⟩).elim
      | false =>
        refine wpAny_bind (wpAny_holding (wpAny_truthy_bool ?_))
        refine wpAny_bind (wpAny_letGo ?_)
        simp only [Bool.false_eq_true, if_false]
        refine wpAny_bind (wpAny_rule (wpAny_pure ?_))
        exact hR false _ ⟨σ1, H1, inv_gens I1 (bare_set I1.bare hb), qf rfl⟩
    · obtain ⟨σ1, H1, I1, q1⟩ := hp
      refine wpAny_bind (wpAny_rule (wpAny_pure ?_))
      exact hR true _ ⟨σ1, H1, (inv_gens I1 (bare_set I1.bare rfl)).kept hk, q1⟩
  | succ n ih =>
    intro s gs σ' H I hgs hgo
    have hlt : gi + 1 ≤ s.gens.size := (Array.getElem?_eq_some_iff.mp hgs).1
    refine codeAny_builtin F.entry_all_loop ?_
    rw [Around.under_plainId F.plain_all_loop _]
    show wpAny _ A.in1 (pyNext (.ref a) >>= _) _ _ s
    refine wpAny_bind (GenW.wpAny_gsz hlt (wpAny_pyNext_genexpQ (P := fun _ _ s₁ => GRp Z pg Q s₁) hh I.nolimit hroom (isg I) hgs hgo (fun v s₁ gs' hb hv => ?_) (fun s₁ hp h' hk => ?_)))
    · intro hsz
      obtain ⟨b, rfl, hbare, ⟨σ1, H1, I1, qf⟩, kap⟩ := hv
      have J1 := inv_gens I1 (g' := (s₁.setGen gi gs').gens) (bare_set I1.bare hb)
      refine wpAny_bind (wpAny_holding (wpAny_truthy_bool ?_))
      refine wpAny_bind (wpAny_letGo ?_)
      cases b with
      | true =>
        simp only [if_true]
        refine wpAny_pure ⟨plainId_quiet F.plain_all_loop _, ih _ gs' σ1 H1 J1 (gsa hsz) ?_⟩
        have h2 := kap rfl ((s₁.setGen gi gs').setGen gi .running) ⟨rfl, rfl, bare_set (bare_set I1.bare hb) rfl⟩
        exact h2
      | false =>
        simp only [Bool.false_eq_true, if_false]
        refine wpAny_bind (wpAny_rule (wpAny_pure ?_))
        exact hR false _ ⟨σ1, H1, J1, qf rfl⟩
    · intro hsz
      obtain ⟨σ1, H1, I1, q1⟩ := hp
      refine wpAny_bind (wpAny_rule (wpAny_pure ?_))
      exact hR true _ ⟨σ1, H1, (inv_gens I1 (bare_set I1.bare rfl)).kept hk, q1⟩
section
variable {X : Cx}
/-- all(elt for x in iter) -/
theorem pe_allG {T : List (Addr × Str)} {c P : Addr} {elt iter : Expr} {x : Str} {px p pos gpos : Pos} {scope : Scope} {wi : TI} {g : TG} {te : TE} {ix k : Nat}
    (hr : Room (k + 3) X.A) (hga : Gl X "all") (hma : X.mg "all" = none) (hb : bootBuiltins "all" = some (.builtin "all")) (TB : LamX.TabB X.base X.mg c P) (hcode : X.env.code = .ref c) (hm : (P, X.env.qual ++ "<genexpr>") ∈ T) (hu : ∀ p ∈ T, p.1 = P → p.2 = X.env.qual ++ "<genexpr>")
    (L : GenS1 x X.env.scope scope) (hx : X.N[ix]? = some x) (hN : X.N.Nodup) (h0 : (".0" : Str) ∉ X.N) (hi : PI X (.Name x px) iter wi)
    (hg : ∀ (A : Around) (s : Shared) (H : Hp) (C : Addr) (code : Value) (fp : List Addr), PG (genCx X A s H scope C code fp) (.Name x px) g)
    (hel : ∀ (A : Around) (s : Shared) (H : Hp) (C : Addr) (code : Value) (fp : List Addr), Room k A → PE (genCx X A s H scope C code fp) elt te)
    (hs : ∀ v, genFold iter X.env v = pure v := by intro _; rfl)
    (he : starEach [.GeneratorExp elt [⟨.Name x px, iter, [], 0⟩] scope gpos] X.env = (false, eval (.GeneratorExp elt [⟨.Name x px, iter, [], 0⟩] scope gpos) X.env) :: starEach [] X.env := by rfl) :
    PE X (.Call (.Name "all" p) [.GeneratorExp elt [⟨.Name x px, iter, [], 0⟩] scope gpos] [] pos) (tGenAll T wi g te ix) := by
  refine ⟨fun pins s σ H Q I h => ?_⟩
  refine wpAny_Call_Name_kw (ld_blt I hga hma hb ?_)
  refine PyProof.Rows.callWith_builtin1 ?_ he (by rfl)
  rw [he]
  show wpAny _ _ (spliced ((false, eval (.GeneratorExp elt [⟨.Name x px, iter, [], 0⟩] scope gpos) X.env) :: backTo pos (starEach [] X.env))) _ _ s
  refine Calls.spliced_cons ?_
  refine wpAny_GeneratorExp_make L.co (closure_ok (L.has I.ok)) (fun y hy => (L.own y hy).2) L.dot L.kind (by have := hr.dp; omega) ?_ hs
  refine thn (hi.run pins s σ H _ I h) fun xv s1 h1 => thn h1 fun itv s2 ⟨it, fp, tn, J, H2, e2, I2, Tn, st2, f2, hT, q2⟩ => ?_
  subst e2
  refine ⟨I2.nolimit, ?_⟩
  refine gen_code I2 TB hcode hm hu hT fun code H3 h3 tk3 I3 eN T3 k3 hPn fr3 => ?_
  obtain ⟨bm, ob, e1, e2, _, e4, e5, e6, e7, e8⟩ := TB.bm
  refine wpAny_builtinsFor (m := X.mg) (by rw [I3.ok.glob]; exact I3.mod.glob.keeps I3.bk) e1 e2 (I3.bk _ _ e5) e6 e7 e8 ?_
  intro h' hn' hs'
  refine Calls.spliced_nil ?_
  -- the state ahead of the call
  have keep' : ∀ b o, h3.get? b = some o → h'.get? b = some o := fun b o e => hs'.extBut b o (Nat.ne_of_lt (Heap.lt_size e)) (Heap.get?_push_of_some _ e)
  have keep5 : ∀ (go : Obj) b o, h3.get? b = some o → (h'.push go).get? b = some o := fun go b o e => Heap.get?_push_of_some _ (keep' b o e)
  have hsz : h'.objs.size = h3.objs.size + 1 := by rw [hs'.1, Heap.size_push]
  have sz : ∀ b ∈ fp, b < h3.objs.size ∧ H3 b = none := fun b hb => by
    obtain ⟨o, e, _⟩ := Tn.obj _ _ st2 b hb
    have n := (f2 b hb).1
    have nP : b ≠ P := fun z => hPn (by rw [← z]; exact n)
    exact ⟨Heap.lt_size (k3 b o nP e), fr3 b o e n⟩
  have f3 : ∀ b ∈ fp, FpOk X pins H3 b ∧ b < h3.objs.size := fun b hb => ⟨⟨(sz b hb).2, (f2 b hb).2⟩, (sz b hb).1⟩
  have nofr : ∀ f, h3.objs.size ≤ f → f ∉ frs X.stack := fun f hf z => by
    rcases List.mem_cons.mp (I3.stkSub _ z) with e | e
    · have h1 := I3.lt
      rw [← e] at h1
      exact Nat.lt_irrefl _ (Nat.lt_of_lt_of_le h1 hf)
    · exact I3.nofs hf e
  have hrA : Room k (X.A.in1.in1.deeper (gEnv X scope h3.objs.size code)) := (hr.in1.in1).deeper _
  have J0 := gen_start (A := X.A.in1.in1.deeper (gEnv X scope h3.objs.size code)) (tk := tk3 + 1 + 1 + 1) (h' := h'.push (gObj s2.gens.size (X.env.qual ++ "<genexpr>") tk3)) (g' := s2.gens.push (.fresh (.compStart (.GeneratorExp elt [⟨.Name x px, iter, [], 0⟩] scope gpos) 0 (.ref it) .none (gEnv X scope h3.objs.size code)))) (code := code) (it := .ref it) (fp := fp) I3 L hx hN h0 hrA.hd (Around.frames_deeper I3.ok.frames) f3 (hn'.push _) (keep5 _) (I2.bare.push rfl)
  have nA : H3 h'.objs.size = none := I3.hok.fresh (by show h3.objs.size ≤ _; omega)
  have J : Inv (genCx X (X.A.in1.in1.deeper (gEnv X scope h3.objs.size code)) { s2 with heap := h3, toks := tk3 } H3 scope h3.objs.size code fp) [(h'.objs.size, gObj s2.gens.size (X.env.qual ++ "<genexpr>") tk3)] (wipe σ [ix]) H3 _ := J0.pins_of fun p hp => by
    rw [List.mem_singleton.mp hp]
    refine ⟨Heap.get?_push_size _ rfl, nA, ?_, nofr _ (by show h3.objs.size ≤ h'.objs.size; omega), fun v z => by cases z⟩
    show h'.objs.size ≠ h3.objs.size
    omega
  have st5 : tn 0 (h'.push (gObj s2.gens.size (X.env.qual ++ "<genexpr>") tk3)) := Tn.keep _ _ _ st2 fun b hb o e => keep5 _ b o (k3 b o (fun z => hPn (by rw [← z]; exact (f2 b hb).1)) e)
  obtain ⟨W, ⟨m0, w0⟩, turn⟩ := q2 H3 eN T3
  have loop := gen_seg (elt := elt) (iter := iter) (x := x) (px := px) (scope := scope) (pos := gpos) (it := it) (a := h'.objs.size) (go := gObj s2.gens.size (X.env.qual ++ "<genexpr>") tk3) (Ag := X.A.in1.in1) gen_env_over (rfl : (genCx X (X.A.in1.in1.deeper (gEnv X scope h3.objs.size code)) { s2 with heap := h3, toks := tk3 } H3 scope h3.objs.size code fp).calm = true) rfl rfl L.co rfl (fun b hb => Nat.ne_of_gt (Nat.lt_of_lt_of_le (sz b hb).1 (by rw [hsz]; exact Nat.le_succ _))) Tn (hg _ _ _ _ _ _) (hel _ _ _ _ _ _ hrA) turn m0 (m0 + 1) 0
  refine call_function_tree F.kind_all F.plain_all F.entry_all (F.args_all1 _) ?_
  unfold Builtin.«all»
  refine wpAny_bind (m := oneArg "all" _) (wpAny_pure ?_)
  have isg : (h'.push (gObj s2.gens.size (X.env.qual ++ "<genexpr>") tk3)).IsGen h'.objs.size s2.gens.size := ⟨_, _, _, Heap.get?_push_size _ rfl, rfl, rfl, rfl⟩
  refine wpAny_bind (wpAny_pyIter_gen isg ?_)
  refine wpAny_pure ⟨plainId_quiet F.plain_all_loop _, all_loop (Z := genCx X (X.A.in1.in1.deeper (gEnv X scope h3.objs.size code)) { s2 with heap := h3, toks := tk3 } H3 scope h3.objs.size code fp) (Q := Q) (q := X.env.qual ++ "<genexpr>") (t := tk3) hr.hd hr.depth rfl (fun b s' ⟨σ', H', IZ, q⟩ => ?_) (m0 + 1) _ _ _ _ J (Array.getElem?_push_size ..) ?_⟩
  · refine ⟨rfl, ?_⟩
    refine gen_first (Z := genCx X (X.A.in1.in1.deeper (gEnv X scope h3.objs.size code)) { s2 with heap := h3, toks := tk3 } H3 scope h3.objs.size code fp) (elt := elt) (iter := iter) (x := x) (px := px) (scope := scope) (pos := gpos) Tn ?_ ?_
    · exact st5
    · exact loop _ _ H3 (Nat.lt_succ_self _) w0 (inv_gens J (bare_set (x := .running) J.bare rfl)) st5 fun b hb => (sz b hb).2
  · exact ⟨.bl b, H', I3.call' (ch := fp) IZ.os IZ.base IZ.hok IZ.bare fun b hb => ⟨(f3 b hb).1.2.2.2.1, (f3 b hb).1.2.1, (f3 b hb).1.2.2.2.2.1, (f3 b hb).1.2.2.2.2.2⟩, rfl, q⟩
end

set_option Elab.async false
set_option linter.all false
set_option maxRecDepth 100000
set_option maxHeartbeats 4000000
open PySem PySem.Spec PyProof.Rows L2 LamX
/-! # the readings of all(.. for x in ..) -/
section
variable {K : PySem.W.Frag} {σ : L2.St} {H H2 : Hp} {Q : VK} {g : TG} {te : TE} {ix : Nat}
def GenN (T : List (Addr × Str)) (g : TG) (te : TE) (ix : Nat) (σ : L2.St) (Q : VK) (J : It) (H1 : Hp) : Prop := Tabs T H1 ∧ ∀ H2, ExtN H1 H2 → Tabs T H2 → GAll J g te ix σ Q H2
theorem r_genAll {T : List (Addr × Str)} {wi : TI} (h : wi σ H (GenN T g te ix σ Q)) : tGenAll T wi g te ix σ H Q := h
/-- a turn's end -/
def GenE (N : Hp → Prop) (Q : VK) : VK := fun y H4 => ∃ b, y = .bl b ∧ if b = true then N H4 else Q (.bl false) H4
theorem r_genE {N : Hp → Prop} {b : Bool} (h : if b = true then N H else Q (.bl false) H) : GenE N Q (.bl b) H := ⟨b, rfl, h⟩
theorem gall_tup {a : Addr} {xs : List V} {σw : L2.St} (Pv : Nat → Hp → Prop) (ew : wipe σ [ix] = σw) (h0 : Pv 0 H2) (hl : ∀ i H, i ≤ xs.length → Pv i H → SqT K H a xs)
    (hs : ∀ (i : Nat) x H, xs[i]? = some x → Pv i H → g x σw H fun σ2 H3 => wipe σ2 [ix] = σw ∧ te σ2 H3 (GenE (Pv (i + 1)) Q)) (hd : ∀ H, Pv xs.length H → Q (.bl true) H) : GAll (Itt K a) g te ix σ Q H2 := by
  subst ew
  refine ⟨fun i m H => m = xs.length - i ∧ i ≤ xs.length ∧ Pv i H, ⟨xs.length, by simp, Nat.zero_le _, h0⟩, ?_⟩
  rintro i m H ⟨rfl, hi, p⟩
  have q := hl i H hi p
  by_cases hlt : i < xs.length
  · refine .inr ⟨⟨xs, xs[i], q, by simp [hlt]⟩, Pv (i + 1), fun H' p' => ⟨xs.length - (i + 1), by omega, rfl, hlt, p'⟩, fun x H' y => ?_⟩
    obtain ⟨e, y⟩ := y
    subst e
    exact hs i x _ (y xs q) p
  · have e : i = xs.length := by omega
    subst e
    exact .inl ⟨⟨xs, q, Nat.le_refl _⟩, hd H p⟩
theorem gall_range {lo : Int} {n : Nat} {σw : L2.St} (Pv : Nat → Hp → Prop) (ew : wipe σ [ix] = σw) (h0 : Pv 0 H2)
    (hs : ∀ (i : Nat) H, i < n → Pv i H → g (.int (lo + i)) σw H fun σ2 H3 => wipe σ2 [ix] = σw ∧ te σ2 H3 (GenE (Pv (i + 1)) Q)) (hd : ∀ H, Pv n H → Q (.bl true) H) : GAll (Itr lo n) g te ix σ Q H2 := by
  subst ew
  refine ⟨fun i m H => m = n - i ∧ i ≤ n ∧ Pv i H, ⟨n, by simp, Nat.zero_le _, h0⟩, ?_⟩
  rintro i m H ⟨rfl, hi, p⟩
  by_cases hlt : i < n
  · refine .inr ⟨hlt, Pv (i + 1), fun H' p' => ⟨n - (i + 1), by omega, rfl, hlt, p'⟩, fun x H' y => ?_⟩
    obtain ⟨e, y⟩ := y
    subst e y
    exact hs i _ hlt p
  · have e : i = n := by omega
    subst e
    exact .inl ⟨Nat.le_refl _, hd H p⟩
end
/-! # set(t) of a tuple of ints, repetitions too -/
def rSetTI (K : PySem.W.Frag) (w : World) : List V → Hp → VK → Prop := fun vs H Q => ∃ (l : Addr) (ns : List Int), vs = [.ref l] ∧ SqT K H l (ns.map V.int) ∧ ns.length ≤ 1000 ∧
  ∀ (p : Addr) (ks : List Int), H p = none → ks.Nodup → (∀ k, k ∈ ks ↔ k ∈ ns) → Q (.ref p) (upd H p (SetO w p (fun j => decide (j ∈ ns)) ks.length))
/-- as many as there are different ones -/
theorem nodup_len {ns ks : List Int} (nd : ks.Nodup) (h : ∀ k, k ∈ ks ↔ k ∈ ns) : ks.length = ns.length ↔ ns.Nodup := by
  constructor
  · intro e
    have sub : ∀ {l : List Int} {m : List Int}, m.Nodup → (∀ k ∈ m, k ∈ l) → m.length = l.length → l.Nodup := by
      intro l
      induction l with
      | nil => intro m _ _ _; exact .nil
      | cons a l ih =>
        intro m md ms me
        have e1 : (m.erase a).length ≤ l.length := by
          by_cases c : a ∈ m
          · rw [List.length_erase_of_mem c]
            simp only [List.length_cons] at me
            omega
          · exfalso
            have s2 : ∀ k ∈ m, k ∈ l := fun k hk => by
              rcases List.mem_cons.mp (ms k hk) with z | z
              · rw [z] at hk
                exact absurd hk c
              · exact z
            have := nodup_le m l md s2
            simp only [List.length_cons] at me
            omega
        by_cases c : a ∈ m
        · have md2 := md.erase a
          have ms2 : ∀ k ∈ m.erase a, k ∈ l := fun k hk => by
            have h1 := (md.mem_erase_iff).mp hk
            rcases List.mem_cons.mp (ms k h1.2) with z | z
            · exact absurd z h1.1
            · exact z
          have el : (m.erase a).length = l.length := by
            rw [List.length_erase_of_mem c]
            simp only [List.length_cons] at me
            omega
          refine List.nodup_cons.mpr ⟨fun ha => ?_, ih md2 ms2 el⟩
          have : ∀ k ∈ m, k ∈ l := fun k hk => by
            rcases List.mem_cons.mp (ms k hk) with z | z
            · rw [z]; exact ha
            · exact z
          have := nodup_le m l md this
          simp only [List.length_cons] at me
          omega
        · exfalso
          have s2 : ∀ k ∈ m, k ∈ l := fun k hk => by
            rcases List.mem_cons.mp (ms k hk) with z | z
            · rw [z] at hk
              exact absurd hk c
            · exact z
          have := nodup_le m l md s2
          simp only [List.length_cons] at me
          omega
    exact sub nd (fun k hk => (h k).mp hk) e
  · intro n
    exact Nat.le_antisymm (nodup_le ks ns nd fun k hk => (h k).mp hk) (nodup_le ns ks n fun k hk => (h k).mpr hk)

set_option Elab.async false
set_option linter.all false
set_option maxRecDepth 100000
set_option maxHeartbeats 4000000
open PySem PySem.Spec PyProof.Rows L2 LamX RZ
/-! # data of any kind, none of whose lists stands at a -/
mutual
inductive DA (a : Addr) (H : Hp) : V → PyData → Prop
  | non : DA a H .non .none
  | bl (b : Bool) : DA a H (.bl b) (.bool b)
  | int (i : Int) : DA a H (.int i) (.int i)
  | str (x : Str) : DA a H (.str x) (.str x)
  | lst {p : Addr} {xs : List V} {ds : List PyData} : p ≠ a → H p = some (.lst xs) → DAs a H xs ds → DA a H (.ref p) (.list ds)
  | tup {p : Addr} {xs : List V} {ds : List PyData} : H p = some (.tup xs) → DAs a H xs ds → DA a H (.ref p) (.tuple ds)
inductive DAs (a : Addr) (H : Hp) : List V → List PyData → Prop
  | nil : DAs a H [] []
  | cons {v : V} {vs : List V} {d : PyData} {ds : List PyData} : DA a H v d → DAs a H vs ds → DAs a H (v :: vs) (d :: ds)
end
/-- no deeper than d, nowhere longer than L -/
def lim : Nat → Nat → PyData → Prop
  | _, _, .none => True
  | _, _, .bool _ => True
  | _, _, .int _ => True
  | _, _, .str x => x.cps.all (· < 0x110000) = true
  | 0, _, .list _ => False
  | 0, _, .tuple _ => False
  | d + 1, L, .list xs => xs.length ≤ L ∧ ∀ x ∈ xs, lim d L x
  | d + 1, L, .tuple xs => xs.length ≤ L ∧ ∀ x ∈ xs, lim d L x
  | _, _, .dict _ => False
/-! ## what a value is -/
def intD : PyData → Bool
  | .int _ => true
  | _ => false
def verD (n : Int) : PyData → Bool
  | .int i => decide (0 ≤ i ∧ i < n)
  | _ => false
def versD (n : Int) : PyData → Bool
  | .tuple ds => ds.all (verD n)
  | _ => false
theorem allI_of : ∀ {ds : List PyData}, ds.all intD = true → ∃ ns : List Int, ds = ns.map PyData.int
  | [], _ => ⟨[], rfl⟩
  | d :: ds, h => by
    rw [List.all_cons, Bool.and_eq_true] at h
    obtain ⟨ns, rfl⟩ := allI_of h.2
    cases d with
    | int i => exact ⟨i :: ns, rfl⟩
    | _ => exact absurd h.1 Bool.false_ne_true
theorem verD_int {n : Int} {d : PyData} (h : verD n d = true) : intD d = true := by
  cases d <;> first | rfl | exact absurd h Bool.false_ne_true
theorem allV_of {n : Int} {ds : List PyData} (h : ds.all (verD n) = true) : ∃ ns : List Int, ds = ns.map PyData.int ∧ ∀ z ∈ ns, 0 ≤ z ∧ z < n := by
  obtain ⟨ns, rfl⟩ := allI_of (List.all_eq_true.mpr fun d hd => verD_int (List.all_eq_true.mp h d hd))
  refine ⟨ns, rfl, fun z hz => ?_⟩
  have := List.all_eq_true.mp h _ (List.mem_map.mpr ⟨z, hz, rfl⟩)
  exact of_decide_eq_true this
theorem versD_of {n : Int} {d : PyData} (h : versD n d = true) : ∃ ns : List Int, d = .tuple (ns.map PyData.int) ∧ ∀ z ∈ ns, 0 ≤ z ∧ z < n := by
  cases d with
  | tuple ds =>
    obtain ⟨ns, rfl, b⟩ := allV_of h
    exact ⟨ns, rfl, b⟩
  | _ => exact absurd h Bool.false_ne_true
theorem versD_ints {n : Int} {ns : List Int} : versD n (.tuple (ns.map PyData.int)) = decide (∀ z ∈ ns, 0 ≤ z ∧ z < n) := by
  show (ns.map PyData.int).all (verD n) = _
  rw [List.all_map]
  apply Bool.eq_iff_iff.mpr
  rw [List.all_eq_true, decide_eq_true_eq]
  exact ⟨fun h z hz => of_decide_eq_true (h z hz), fun h z hz => decide_eq_true (h z hz)⟩
/-! # slices of tuples, the whole too -/
section
variable {X : Cx} {K : PySem.W.Frag} {H : Hp} {Q : VK}
theorem sl_tupAK (h : X.K = K) : SlR X (rSlA K) := h ▸ sl_tupA
theorem cutV_whole (xs : List V) {lo hi : Option Int} (h : HT.sIx xs.length 0 lo = 0 ∧ HT.sIx xs.length xs.length hi = xs.length) : cutV xs lo hi = xs := by
  unfold cutV
  rw [h.1, h.2]
  simp
/-! # zip, d.items() -/
def ZipN (K : PySem.W.Frag) (R : It → Hp → Prop) (vs : List V) (H1 : Hp) : Prop := ∃ a b xs ys, vs = [.ref a, .ref b] ∧ ((SqL K H1 a xs ∧ SqL K H1 b ys ∧ R (Itz K a b) H1) ∨ (SqT K H1 a xs ∧ SqT K H1 b ys ∧ R (ItzT K a b) H1))
/-- a dict that nobody will write is locked -/
def tLk (td : TE) : TE := fun σ H Q => td σ H fun x H1 => ∃ d kvs, x = .ref d ∧ H1 d = some (.dK kvs) ∧ ∀ o, Q (.ref d) (upd H1 d (.frz o (.dK kvs)))
def ItemsN (R : It → Hp → Prop) (x : V) (H1 : Hp) : Prop := ∃ d kvs, x = .ref d ∧ H1 d = some (.dK kvs) ∧ ∀ o0, ∃ d' o kvs', V.ref d = .ref d' ∧ (upd H1 d (.frz o0 (.dK kvs))) d' = some (.frz o (.dK kvs')) ∧ R (Iti d' o kvs') (upd H1 d (.frz o0 (.dK kvs)))
end

set_option Elab.async false
set_option linter.all false
set_option maxRecDepth 100000
set_option maxHeartbeats 4000000
open PySem PySem.Spec PyProof.Rows PySem.SeqAt

theorem dict_eq_declines_int (l : Addr) (es : Array DictEntry) (n : Nat) (dd : Option Addr) (sl : Array (Option Value)) (b : Int) (u : Tok) :
    Meets (Builtin.«dict.__eq__» ⟨[.ref l, .int b u], []⟩) (fun _ R s => s.heap.get? l = some { cls := .type "dict", dict := dd, data := .dict es n, slots := sl } ∧ R (.ok (.ret .notImplemented)) s) :=
  .of_wp fun prog w A R s h => by obtain ⟨hp, g, d, tk, os⟩ := s; obtain ⟨hl, h⟩ := h; have f1 := PySem.F.sub_int_dict; wp_walk using AutoSeq1.wpAny_loadPart' hl; exact ⟨_, rfl, h⟩
theorem int_eq_declines_dict (b : Int) (u : Tok) (l : Addr) (c : Value) (es : Array DictEntry) (n : Nat) (dd : Option Addr) (sl : Array (Option Value)) :
    Meets (Builtin.«int.__eq__» ⟨[.int b u, .ref l], []⟩) (fun _ R s => s.heap.get? l = some { cls := c, dict := dd, data := .dict es n, slots := sl } ∧ R (.ok (.ret .notImplemented)) s) :=
  .of_wp fun prog w A R s h => by obtain ⟨hp, g, d, tk, os⟩ := s; obtain ⟨hl, h⟩ := h; wp_walk using AutoSeq1.wpAny_loadPart' hl, wpAny_load hl; exact ⟨_, rfl, h⟩
theorem rc_dict_int {A : Around} {s : Shared} {l : Addr} {es : Array DictEntry} {n : Nat} {dd : Option Addr} {sl : Array (Option Value)} (b : Int) (u : Tok) (ho : s.heap.get? l = some { cls := .type "dict", dict := dd, data := .dict es n, slots := sl }) (hu : A.units < cLine) : RcAt A s (.ref l) (.int b u) false := fun prog w E Q h =>
  rc_eq_decline_or (k := false) ⟨_, ho, rfl⟩ (typeIs_int s b u) (by decide) PySem.F.sub_int_dict PySem.F.slot_dict_eq PySem.F.slot_int_eq_refl
    (fun _ hq => call_meets PySem.F.slot_dict_eq ⟨_, ho, rfl⟩ PySem.F.entry_dict_eq (PySem.F.args_dict_eq_2 _ _) (dict_eq_declines_int l es n dd sl b u) ⟨ho, hq⟩)
    (fun _ hq => call_meets PySem.F.slot_int_eq_refl (typeIs_int s b u) PySem.F.entry_int_eq (PySem.F.args_int_eq_2 _ _) (int_eq_declines_dict b u l (.type "dict") es n dd sl) ⟨ho, hq⟩)
    (fun _ hq => wpAny_of_eq (rfl : isSame (.ref l) (.int b u) = pure false) hq) (.inr hu) h
open L2
section
variable {X : Cx}
def rOr2 (r1 r2 : R2) : R2 := fun x y H Q => r1 x y H Q ∨ r2 x y H Q
theorem op_or2 {f : Value → Value → Sem Value} {r1 r2 : R2} (h1 : OpR X f r1) (h2 : OpR X f r2) : OpR X f (rOr2 r1 r2) := fun pins s σ H x y v u Q I rx ry h => h.elim (h1 pins s σ H x y v u Q I rx ry) (h2 pins s σ H x y v u Q I rx ry)
/-- t == (): by length alone -/
def rEqTE (K : PySem.W.Frag) : R2 := fun x y H Q => ∃ a b xs, x = .ref a ∧ y = .ref b ∧ SqT K H a xs ∧ SqT K H b [] ∧ Q (.bl xs.isEmpty) H
theorem op_eqTE (hu : X.A.units < cLine) : OpR X (compareOp .Eq) (rEqTE X.K) := by
  intro pins s σ H x y v u Q I rx ry h
  obtain ⟨a, b, xs, rfl, rfl, ha, hb, q⟩ := h
  cases rx
  cases ry
  obtain ⟨its, r1, p1, _⟩ := I.tuple ha
  obtain ⟨its2, r2, p2, _⟩ := I.tuple hb
  cases r2
  refine eq_tupleAt (e := fun _ => true) p1 p2 hu (fun j h1 h2 => absurd h2 (by simp)) ?_
  have e : ((List.range (min its.toArray.size ([] : List Value).toArray.size)).all (fun _ => true) && its.toArray.size == ([] : List Value).toArray.size) = xs.isEmpty := by
    cases r1 with
    | nil => rfl
    | cons _ _ => rfl
  rw [e]
  exact ⟨.bl _, H, I, rfl, q⟩
/-- {..} == i -/
def rEqDI : R2 := fun x y H Q => ∃ a kvs i, x = .ref a ∧ y = .int i ∧ H a = some (.dK kvs) ∧ Q (.bl false) H
theorem op_eqDI (hu : X.A.units < cLine) : OpR X (compareOp .Eq) rEqDI := by
  intro pins s σ H x y v u Q I rx ry h
  obtain ⟨a, kvs, i, rfl, rfl, ha, q⟩ := h
  obtain rfl : v = Value.ref a := rx
  obtain ⟨_, _, _, _, d⟩ := (show ObjOk X.prog X.w H s.heap a (.dK kvs) from I.hok a _ ha)
  obtain ⟨o, es, ep, ho, hx, hd, _⟩ := d
  obtain ⟨cls, dd, data, sl⟩ := o
  obtain rfl : cls = .type "dict" := hx.1
  obtain rfl : data = .dict es ep := hd
  obtain ⟨t, rfl⟩ := ry
  exact rc_dict_int _ _ ho hu _ _ _ _ ⟨.bl _, H, I, rfl, q⟩
/-- [..] == i -/
def rEqLI : R2 := fun x y H Q => ∃ a xs i, x = .ref a ∧ y = .int i ∧ H a = some (.lst xs) ∧ Q (.bl false) H
theorem op_eqLI (hu : X.A.units < cLine) : OpR X (compareOp .Eq) rEqLI := by
  intro pins s σ H x y v u Q I rx ry h
  obtain ⟨a, xs, i, rfl, rfl, ha, q⟩ := h
  obtain rfl : v = Value.ref a := rx
  obtain ⟨t, rfl⟩ := ry
  obtain ⟨its, _, p, _⟩ := I.list (Or.inl (Or.inl ha))
  exact RcAt.list_int _ _ p.isList hu _ _ _ _ ⟨.bl _, H, I, rfl, q⟩
/-- what is asked of a drawn value -/
def rEqX (K : PySem.W.Frag) : R2 := rOr2 (rEqTE K) (rOr2 rEqDI (rOr2 rEqLI (rEqD K)))
theorem op_eqX {K : PySem.W.Frag} (e : X.K = K) (hu : X.A.units + 64 < cLine) : OpR X (compareOp .Eq) (rEqX K) := e ▸ op_or2 (op_eqTE (by omega)) (op_or2 (op_eqDI (by omega)) (op_or2 (op_eqLI (by omega)) (op_eqD hu)))
/-- i < j, or of tuples of ints -/
def rLtIT (K : PySem.W.Frag) : R2 := rOr2 (rI0 fun i j => .bl (decide (i < j))) (rLtT K)
theorem op_ltIT {K : PySem.W.Frag} (e : X.K = K) (hu : X.A.units + 64 < cLine) : OpR X (compareOp .Lt) (rLtIT K) := e ▸ op_or2 op_lt (op_ltT (by omega))
end
section
variable {K : PySem.W.Frag} {H : Hp} {Q : VK}
theorem r_eqTE {a b : Addr} {xs : List V} (ha : SqT K H a xs) (hb : SqT K H b []) (q : Q (.bl xs.isEmpty) H) : rEqX K (.ref a) (.ref b) H Q := .inl ⟨a, b, xs, rfl, rfl, ha, hb, q⟩
theorem r_eqDI {a : Addr} {kvs : List (L2.Key × V)} {i : Int} (ha : H a = some (.dK kvs)) (q : Q (.bl false) H) : rEqX K (.ref a) (.int i) H Q := .inr (.inl ⟨a, kvs, i, rfl, rfl, ha, q⟩)
theorem r_eqXD {x y : V} (h : rEqD K x y H Q) : rEqX K x y H Q := .inr (.inr (.inr h))
theorem r_eqLIX {a : Addr} {xs : List V} {i : Int} (ha : H a = some (.lst xs)) (q : Q (.bl false) H) : rEqX K (.ref a) (.int i) H Q := .inr (.inr (.inl ⟨a, xs, i, rfl, rfl, ha, q⟩))
theorem r_ltI {i j : Int} (q : Q (.bl (decide (i < j))) H) : rLtIT K (.int i) (.int j) H Q := .inl ⟨i, j, rfl, rfl, q⟩
theorem r_ltT {x y : V} (h : rLtT K x y H Q) : rLtIT K x y H Q := .inr h
end

set_option Elab.async false
set_option linter.all false
set_option maxRecDepth 100000
set_option maxHeartbeats 4000000
open PySem PySem.Spec PyProof.Rows L2 LamX RZ
/-- a tuple on the heap -/
abbrev ST (H : Hp) (p : Addr) (xs : List V) : Prop := H p = some (.tup xs) ∨ ∃ o, H p = some (.frz o (.tup xs))
/-! # data of any kind, empty dicts too; none of whose lists and dicts stands at a -/
mutual
inductive DX (a : Addr) (H : Hp) : V → PyData → Prop
  | non : DX a H .non .none
  | bl (b : Bool) : DX a H (.bl b) (.bool b)
  | int (i : Int) : DX a H (.int i) (.int i)
  | str (x : Str) : DX a H (.str x) (.str x)
  | lst {p : Addr} {xs : List V} {ds : List PyData} : p ≠ a → H p = some (.lst xs) → DXs a H xs ds → DX a H (.ref p) (.list ds)
  | tup {p : Addr} {xs : List V} {ds : List PyData} : ST H p xs → DXs a H xs ds → DX a H (.ref p) (.tuple ds)
  | dk {p : Addr} : p ≠ a → H p = some (.dK []) → DX a H (.ref p) (.dict [])
inductive DXs (a : Addr) (H : Hp) : List V → List PyData → Prop
  | nil : DXs a H [] []
  | cons {v : V} {vs : List V} {d : PyData} {ds : List PyData} : DX a H v d → DXs a H vs ds → DXs a H (v :: vs) (d :: ds)
end
theorem ST.keep {a : Addr} {H H' : Hp} (k : ∀ p o, (∀ ps, o ≠ .tbl ps) → (p ≠ a ∨ ∀ xs, o ≠ .lst xs) → H p = some o → H' p = some o) {p : Addr} {xs : List V} (h : ST H p xs) : ST H' p xs :=
  h.elim (fun h => .inl (k _ _ (fun ps z => nomatch z) (.inr fun xs z => nomatch z) h)) fun ⟨o, h⟩ => .inr ⟨o, k _ _ (fun ps z => nomatch z) (.inr fun xs z => nomatch z) h⟩
theorem keep_gr {a : Addr} {H H' : Hp} {ys : List V} (g : Gr a H H') (ha : H a = some (.lst ys)) : ∀ p o, (∀ ps, o ≠ .tbl ps) → (p ≠ a ∨ ∀ xs, o ≠ .lst xs) → H p = some o → H' p = some o := fun p o _ h e => by
  refine g p o ?_ e
  rcases h with h | h
  · exact h
  · intro z
    rw [z, ha] at e
    exact h ys (Option.some.inj e).symm
theorem keep_same {a : Addr} {H H' : Hp} (s : Same H H') : ∀ p o, (∀ ps, o ≠ .tbl ps) → (p ≠ a ∨ ∀ xs, o ≠ .lst xs) → H p = some o → H' p = some o := fun p o _ _ e => s p o e
theorem keep_ext {a : Addr} {H H' : Hp} (s : ExtN H H') : ∀ p o, (∀ ps, o ≠ .tbl ps) → (p ≠ a ∨ ∀ xs, o ≠ .lst xs) → H p = some o → H' p = some o := fun p o n _ e => s p o e n
theorem ST.same {H H' : Hp} (s : Same H H') {p : Addr} {xs : List V} (h : ST H p xs) : ST H' p xs := h.keep (a := 0) (keep_same s)
theorem ST.ext {H H' : Hp} (s : ExtN H H') {p : Addr} {xs : List V} (h : ST H p xs) : ST H' p xs := h.keep (a := 0) (keep_ext s)
theorem ST.gr {a : Addr} {H H' : Hp} {ys : List V} (g : Gr a H H') (ha : H a = some (.lst ys)) {p : Addr} {xs : List V} (h : ST H p xs) : ST H' p xs := h.keep (keep_gr g ha)
mutual
theorem DX.mono {a : Addr} {H H' : Hp} (k : ∀ p o, (∀ ps, o ≠ .tbl ps) → (p ≠ a ∨ ∀ xs, o ≠ .lst xs) → H p = some o → H' p = some o) : ∀ (d : PyData) {v : V}, DX a H v d → DX a H' v d
  | .none, _, h => by cases h; exact .non
  | .bool b, _, h => by cases h; exact .bl b
  | .int i, _, h => by cases h; exact .int i
  | .str x, _, h => by cases h; exact .str x
  | .list ds, _, h => by
    cases h with
    | lst n hs ha => exact .lst n (k _ _ (fun ps z => nomatch z) (.inl n) hs) (DXs.mono k ds ha)
  | .tuple ds, _, h => by
    cases h with
    | tup hs ha => exact .tup (ST.keep k hs) (DXs.mono k ds ha)
  | .dict _, _, h => by
    cases h with
    | dk n hs => exact .dk n (k _ _ (fun ps z => nomatch z) (.inl n) hs)
theorem DXs.mono {a : Addr} {H H' : Hp} (k : ∀ p o, (∀ ps, o ≠ .tbl ps) → (p ≠ a ∨ ∀ xs, o ≠ .lst xs) → H p = some o → H' p = some o) : ∀ (ds : List PyData) {vs : List V}, DXs a H vs ds → DXs a H' vs ds
  | [], _, h => by cases h; exact .nil
  | d :: ds, _, h => by
    cases h with
    | cons h1 h2 => exact .cons (DX.mono k d h1) (DXs.mono k ds h2)
end
theorem DX.gr {a : Addr} {H H' : Hp} {ys : List V} (g : Gr a H H') (ha : H a = some (.lst ys)) {d : PyData} {v : V} (h : DX a H v d) : DX a H' v d := DX.mono (keep_gr g ha) d h
theorem DXs.gr {a : Addr} {H H' : Hp} {ys : List V} (g : Gr a H H') (ha : H a = some (.lst ys)) {ds : List PyData} {vs : List V} (h : DXs a H vs ds) : DXs a H' vs ds := DXs.mono (keep_gr g ha) ds h
theorem DX.same {a : Addr} {H H' : Hp} (s : Same H H') {d : PyData} {v : V} (h : DX a H v d) : DX a H' v d := DX.mono (keep_same s) d h
theorem DXs.same {a : Addr} {H H' : Hp} (s : Same H H') {ds : List PyData} {vs : List V} (h : DXs a H vs ds) : DXs a H' vs ds := DXs.mono (keep_same s) ds h
theorem DX.ext {a : Addr} {H H' : Hp} (s : ExtN H H') {d : PyData} {v : V} (h : DX a H v d) : DX a H' v d := DX.mono (keep_ext s) d h
theorem DXs.ext {a : Addr} {H H' : Hp} (s : ExtN H H') {d : List PyData} {v : List V} (h : DXs a H v d) : DXs a H' v d := DXs.mono (keep_ext s) d h
theorem DXs.pd {a : Addr} {H : Hp} : ∀ (ds : List PyData) {vs : List V}, DXs a H vs ds → Paired (DX a H) vs ds
  | [], _, h => by cases h; exact .nil
  | d :: ds, _, h => by
    cases h with
    | cons h1 h2 => exact .cons h1 (DXs.pd ds h2)
theorem DXs.of {a : Addr} {H : Hp} : ∀ {ds : List PyData} {vs : List V}, Paired (DX a H) vs ds → DXs a H vs ds
  | _, _, .nil => .nil
  | _, _, .cons h r => .cons h (DXs.of r)
theorem DXs.app {a : Addr} {H : Hp} {xs ys : List V} {ds es : List PyData} (h1 : DXs a H xs ds) (h2 : DXs a H ys es) : DXs a H (xs ++ ys) (ds ++ es) := DXs.of (pd_append (DXs.pd _ h1) (DXs.pd _ h2))
theorem DXs.take {a : Addr} {H : Hp} {xs : List V} {ds : List PyData} (n : Nat) (h : DXs a H xs ds) : DXs a H (xs.take n) (ds.take n) := DXs.of (pd_take n (DXs.pd _ h))
theorem DXs.drop {a : Addr} {H : Hp} {xs : List V} {ds : List PyData} (n : Nat) (h : DXs a H xs ds) : DXs a H (xs.drop n) (ds.drop n) := DXs.of (pd_drop n (DXs.pd _ h))
theorem DXs.ints {a : Addr} {H : Hp} : ∀ (ns : List Int), DXs a H (ns.map V.int) (ns.map PyData.int)
  | [] => .nil
  | n :: ns => .cons (.int n) (DXs.ints ns)
theorem DXs.len {a : Addr} {H : Hp} {xs : List V} {ds : List PyData} (h : DXs a H xs ds) : xs.length = ds.length := (DXs.pd _ h).length
theorem DXs.get {a : Addr} {H : Hp} {xs : List V} {ds : List PyData} (h : DXs a H xs ds) {i : Nat} {x : V} {d : PyData} (hx : xs[i]? = some x) (hd : ds[i]? = some d) : DX a H x d := by
  obtain ⟨d', e, r⟩ := pd_get (DXs.pd _ h) hx
  rw [hd] at e
  cases e
  exact r
theorem DXs.rev {a : Addr} {H : Hp} : ∀ {xs : List V} {ds : List PyData}, DXs a H xs ds → DXs a H xs.reverse ds.reverse
  | _, _, .nil => .nil
  | _, _, .cons h r => by
    rw [List.reverse_cons, List.reverse_cons]
    exact (DXs.rev r).app (.cons h .nil)
/-- no deeper than d, nowhere longer than L -/
def limX : Nat → Nat → PyData → Prop
  | _, _, .none => True
  | _, _, .bool _ => True
  | _, _, .int _ => True
  | _, _, .str x => x.cps.all (· < 0x110000) = true
  | 0, _, .list _ => False
  | 0, _, .tuple _ => False
  | d + 1, L, .list xs => xs.length ≤ L ∧ ∀ x ∈ xs, limX d L x
  | d + 1, L, .tuple xs => xs.length ≤ L ∧ ∀ x ∈ xs, limX d L x
  | _, _, .dict _ => True
theorem limX.mono {L L' : Nat} (hL : L ≤ L') : ∀ {d d' : Nat} {t : PyData}, d ≤ d' → limX d L t → limX d' L' t
  | d, d', .none, _, _ => by cases d' <;> trivial
  | d, d', .bool _, _, _ => by cases d' <;> trivial
  | d, d', .int _, _, _ => by cases d' <;> trivial
  | d, d', .str x, _, h => by cases d <;> cases d' <;> exact h
  | 0, _, .list _, _, h => h.elim
  | 0, _, .tuple _, _, h => h.elim
  | d + 1, 0, .list _, h, _ => absurd h (Nat.not_succ_le_zero d)
  | d + 1, 0, .tuple _, h, _ => absurd h (Nat.not_succ_le_zero d)
  | d + 1, d' + 1, .list xs, h, ⟨h1, h2⟩ => ⟨Nat.le_trans h1 hL, fun x hx => limX.mono hL (Nat.le_of_succ_le_succ h) (h2 x hx)⟩
  | d + 1, d' + 1, .tuple xs, h, ⟨h1, h2⟩ => ⟨Nat.le_trans h1 hL, fun x hx => limX.mono hL (Nat.le_of_succ_le_succ h) (h2 x hx)⟩
  | d, d', .dict _, _, h => by cases d' <;> trivial
theorem limX_int {d L : Nat} {i : Int} : limX d L (.int i) := by cases d <;> trivial
theorem limX_mk {d L : Nat} {ds : List PyData} (h : ds.length ≤ L) (k : ∀ x ∈ ds, limX d L x) : limX (d + 1) L (.tuple ds) := ⟨h, k⟩
theorem limX_mkl {d L : Nat} {ds : List PyData} (h : ds.length ≤ L) (k : ∀ x ∈ ds, limX d L x) : limX (d + 1) L (.list ds) := ⟨h, k⟩
theorem limX_tup {d L : Nat} {ds : List PyData} (h : limX d L (.tuple ds)) : ∃ d', d = d' + 1 ∧ ds.length ≤ L ∧ ∀ x ∈ ds, limX d' L x := by
  cases d with
  | zero => exact h.elim
  | succ d => exact ⟨d, rfl, h.1, h.2⟩
section
variable {K : PySem.W.Frag} {H : Hp} {Q : VK}
theorem r_slX {a : Addr} {xs : List V} {lo hi : Option Int} (h : ST H a xs) (q : ∀ p H', Same H H' → ST H' p (cutV xs lo hi) → Q (.ref p) H') : rSlA K (.ref a) lo hi H Q :=
  ⟨a, xs, rfl, .inl h, fun w => q a H (fun _ _ e => e) (by rw [cutV_whole xs w]; exact h), fun _ p hp => q p _ (same_new hp) (.inl upd_same)⟩
theorem r_catX {l b : Addr} {xs zs : List V} (h1 : ST H l xs) (h2 : ST H b zs) (hz : xs.length + zs.length ≤ 100000) (q : ∀ p H', Same H H' → ST H' p (xs ++ zs) → Q (.ref p) H') : rCatA K (.ref l) (.ref b) H Q := by
  refine ⟨l, b, xs, zs, rfl, rfl, .inl h1, .inl h2, small_len hz, fun e => ?_, fun e1 e2 => ?_, fun e1 e2 p hp => q p _ (same_new hp) (.inl upd_same)⟩
  · subst e
    exact q b H (fun _ _ h => h) h2
  · subst e2
    refine q l H (fun _ _ h => h) ?_
    rw [List.append_nil]
    exact h1
end

set_option Elab.async false
set_option linter.all false
set_option maxRecDepth 100000
set_option maxHeartbeats 4000000
open PySem PySem.Spec PySem.W PySem.Calls PyProof.Rows L2 LamX
/-! # sorted(xs, key=f), the keys ints: what f keeps is told by J -/
theorem pick_heap (g : Heap) (c : Addr) : ∃ G : Heap, G.get? c = none ∧ ∀ b, b ≠ c → G.get? b = g.get? b := by
  obtain ⟨G, h1, h2⟩ := restrict g (fun b => decide (b ≠ c))
  exact ⟨G, h2 c (by simp), fun b hb => h1 b (by simpa using hb)⟩
theorem ints_alike (kz : List Int) : AllAlike (kz.map PyData.int) := AllAlike.of fun _ _ => by simp [alike]
theorem ints_sortable (kz : List Int) : Sortable (kz.map PyData.int) := Sortable.others fun _ => ⟨(fun z => nomatch z), (fun _ z => nomatch z)⟩
section
variable {prog : Program} {w : World} {A : Around}
theorem key_rest {f : Value} {a kS : Addr} {e1 : Nat} {vs : List Value} {kz : List Int} {J : Shared → Prop} {P : PySem.Fin → Shared → Prop} {E : Value → Shared → Prop} {s : Shared}
    (hJ : J s) (nk : s.heap.get? kS = some (seqObj "list" #[] 0)) (na : s.heap.get? a = some (seqObj "list" #[] e1)) (hka : kS ≠ a) (hlen : kz.length = vs.length) (hZ : vs.length ≤ sizeLine) (hu : A.units < cLine)
    (quiet : ∀ (s1 : Shared) (g : Heap) (tk : Nat), J s1 → (∀ b o, b ≠ kS → s1.heap.get? b = some o → g.get? b = some o) → J { s1 with heap := g, toks := tk })
    (turn : ∀ (i : Nat) (v : Value) (k : Int), vs[i]? = some v → kz[i]? = some k → ∀ (s1 : Shared) (kA : Array Value) (e : Nat), J s1 → s1.heap.get? kS = some (seqObj "list" kA e) → s1.heap.get? a = some (seqObj "list" #[] e1) →
      wpAny (model prog w) A (call f [v]) (fun u s2 => (∃ t, u = .int k t) ∧ J s2 ∧ s2.heap.get? kS = some (seqObj "list" kA e) ∧ s2.heap.get? a = some (seqObj "list" #[] e1)) (fun _ _ => False) s1)
    (h : ∀ (s1 : Shared) (g : Heap) (tk : Nat) (out : List Value) (c : Nat), J s1 → (∀ b o, b ≠ a → b ≠ kS → s1.heap.get? b = some o → g.get? b = some o) → g.get? a = some (seqObj "list" out.toArray c) → KeyedOut false (kz.map PyData.int) vs out → P (.done (.ret .none)) { s1 with heap := g, toks := tk }) :
    wpAny (model prog w) A (ksk_rest a f false vs.toArray e1 (.ref kS)) P E s := by
  unfold ksk_rest
  refine wpAny_bind (wpAny_rule ?_)
  first
    | rw [List.forIn_toArray]
    | (rw [← Array.forIn_toList]; simp only [List.toList_toArray])
    | rw [← Array.forIn_toList]
  refine wpAny_bind (ksk_fold (fun i s1 => ∃ (kA : Array Value) (e : Nat), J s1 ∧ s1.heap.get? kS = some (seqObj "list" kA e) ∧ s1.heap.get? a = some (seqObj "list" #[] e1) ∧ EachIs (fun (u : Value) (k : Int) => ∃ t, u = .int k t) kA.toList (kz.take i)) vs 0 s ⟨#[], 0, hJ, nk, na, by rw [List.take_zero]; exact .nil⟩ ?stp ?fin)
  case stp =>
    rintro j x s1 hx ⟨kA, e, hJ1, nk1, na1, ek⟩
    simp only [Nat.zero_add] at ek ⊢
    have hj : j < vs.length := (List.getElem?_eq_some_iff.mp hx).1
    obtain ⟨k, hk⟩ : ∃ k, kz[j]? = some k := ⟨_, List.getElem?_eq_getElem (by omega)⟩
    have hsz : kA.size ≤ vs.length := by
      have l1 := ek.length
      rw [Array.length_toList, List.length_take] at l1
      omega
    refine wpAny_bind (wpAny_attempt (wpAny_mono (turn j x k hx hk s1 kA e hJ1 nk1 na1) (fun u s2 h2 => ?_) fun _ _ z => z.elim))
    obtain ⟨⟨t, rfl⟩, hJ2, nk2, na2⟩ := h2
    try dsimp only
    obtain ⟨c2, hc2⟩ : ∃ c2, (s2.heap.update kS (Obj.mapSeq (·.push (.int k t)))).get? kS = some (seqObj "list" (kA.push (.int k t)) c2) := ⟨_, get?_update_seq nk2 (·.push (.int k t))⟩
    have oth : ∀ b o, b ≠ kS → s2.heap.get? b = some o → (s2.heap.update kS (Obj.mapSeq (·.push (.int k t)))).get? b = some o := fun b o hb q => (Heap.get?_update_ne _ _ _ _ hb).trans q
    refine wpAny_bind (listUpdate_at nk2 rfl ?_ (Nat.le_trans hsz hZ) (Nat.le_trans (Nat.le_of_eq (Array.size_push ..)) (Nat.succ_le_succ (Nat.le_trans hsz hZ))))
    refine wpAny_pure ⟨rfl, kA.push (.int k t), c2, quiet s2 _ s2.toks hJ2 oth, hc2, oth _ _ hka.symm na2, ?_⟩
    rw [show (kA.push (Value.int k t)).toList = kA.toList ++ [.int k t] by simp, show kz.take (j + 1) = kz.take j ++ [k] by rw [List.take_add_one, hk]; simp]
    exact each_snoc (R := fun (u : Value) (k : Int) => ∃ t, u = .int k t) ⟨t, rfl⟩ ek
  case fin =>
    rintro s1 ⟨kA, e, hJ1, nk1, na1, ek⟩
    rw [show kz.take (0 + vs.length) = kz from List.take_of_length_le (by omega)] at ek
    have ksz : kA.size = vs.length := by
      have l1 := ek.length
      rw [Array.length_toList] at l1
      omega
    have rd : EachIs (fun v d => ∃ as, Reads s1.heap v d as) kA.toList (kz.map PyData.int) := each_map (R := fun v d => ∃ as, Reads s1.heap v d as) PyData.int (ek.mono fun v k q => by
      obtain ⟨t, rfl⟩ := q
      exact ⟨[], .int k t⟩)
    obtain ⟨G, G1, G2⟩ := pick_heap s1.heap kS
    try dsimp only
    refine wpAny_bind (listItems_at nk1 rfl ?_)
    refine keyH_end (κ := dataKind s1.heap (kz.map PyData.int)) (h₁ := G) (fun b o hb q => ?_) G1 nk1 na1 hka (SortsAt.data rd (ints_alike kz) (ints_sortable kz) fun d hd => ?_) ksz hZ fun g tk c kp ng => h s1 g tk _ c hJ1 (fun b o b1 b2 q => kp b o b1 ((G2 b b2).trans q)) ng ⟨s1.heap, kA.toList, ints_alike kz, rfl, rd⟩
    · have bk : b ≠ kS := fun z => by rw [z, G1] at q; cases q
      rw [← G2 b bk]
      exact q
    · obtain ⟨k, _, rfl⟩ := List.mem_map.mp hd
      show A.units + 0 < cLine
      exact hu
theorem key_tree {f : Value} {a : Addr} {n : Nat} {vs : List Value} {kz : List Int} {J : Shared → Prop} {P : PySem.Fin → Shared → Prop} {E : Value → Shared → Prop} {s : Shared}
    (ho : s.heap.get? a = some (seqObj "list" vs.toArray n)) (hlen : kz.length = vs.length) (hZ : vs.length ≤ sizeLine) (hu : A.units < cLine)
    (J0 : ∀ g : Heap, (∀ b o, b ≠ a → s.heap.get? b = some o → g.get? b = some o) → J { s with heap := g })
    (quiet : ∀ (kS : Addr) (s1 : Shared) (g : Heap) (tk : Nat), s.heap.objs.size ≤ kS → J s1 → (∀ b o, b ≠ kS → s1.heap.get? b = some o → g.get? b = some o) → J { s1 with heap := g, toks := tk })
    (turn : ∀ (kS : Addr) (e1 i : Nat) (v : Value) (k : Int), s.heap.objs.size ≤ kS → vs[i]? = some v → kz[i]? = some k → ∀ (s1 : Shared) (kA : Array Value) (e : Nat), J s1 → s1.heap.get? kS = some (seqObj "list" kA e) → s1.heap.get? a = some (seqObj "list" #[] e1) →
      wpAny (model prog w) A (call f [v]) (fun u s2 => (∃ t, u = .int k t) ∧ J s2 ∧ s2.heap.get? kS = some (seqObj "list" kA e) ∧ s2.heap.get? a = some (seqObj "list" #[] e1)) (fun _ _ => False) s1)
    (h : ∀ (kS : Addr) (s1 : Shared) (g : Heap) (tk : Nat) (out : List Value) (c : Nat), s.heap.objs.size ≤ kS → J s1 → (∀ b o, b ≠ a → b ≠ kS → s1.heap.get? b = some o → g.get? b = some o) → g.get? a = some (seqObj "list" out.toArray c) → KeyedOut false (kz.map PyData.int) vs out → P (.done (.ret .none)) { s1 with heap := g, toks := tk }) :
    wpAny (model prog w) A (ksk_tree a f false) P E s := by
  have ha : a < s.heap.objs.size := Heap.lt_size ho
  obtain ⟨e1, ho1⟩ : ∃ e1, (s.heap.update a (Obj.mapSeq fun _ => (#[] : Array Value))).get? a = some (seqObj "list" #[] e1) := ⟨_, get?_update_seq ho fun _ => #[]⟩
  have sK : ((s.heap.update a (Obj.mapSeq fun _ => (#[] : Array Value))).push (seqObj "tuple" vs.toArray 0)).objs.size = s.heap.objs.size + 1 := by rw [size_push', Heap.size_update]
  unfold ksk_tree
  refine wpAny_bind (listItems_at ho rfl ?_)
  refine wpAny_bind (listUpdate_at ho rfl ?_ (by rw [List.size_toArray]; exact hZ) (Nat.zero_le _))
  refine wpAny_bind (seqEpoch_at ho1 rfl ?_)
  refine wpAny_bind (wpAny_newTuple ?_ (by show vs.length ≤ _; exact hZ))
  refine wpAny_bind (wpAny_newList ?_ (Nat.zero_le _))
  refine wpAny_holding ?_
  refine key_rest (kz := kz) (J := J) (s := { s with heap := ((s.heap.update a (Obj.mapSeq fun _ => (#[] : Array Value))).push (seqObj "tuple" vs.toArray 0)).push (seqObj "list" #[] 0) }) (kS := ((s.heap.update a (Obj.mapSeq fun _ => (#[] : Array Value))).push (seqObj "tuple" vs.toArray 0)).objs.size)
    (J0 _ fun b o hb q => sortingHeap_old hb q) (Heap.get?_push_size _ rfl) (Heap.get?_push_of_some _ (Heap.get?_push_of_some _ ho1)) (by rw [sK]; exact Nat.ne_of_gt (Nat.lt_succ_of_lt ha)) hlen hZ hu
    (fun s1 g tk => quiet _ s1 g tk (by rw [sK]; exact Nat.le_succ _)) (fun i v k => turn _ e1 i v k (by rw [sK]; exact Nat.le_succ _)) fun s1 g tk out c => h _ s1 g tk out c (by rw [sK]; exact Nat.le_succ _)
/-- sorted(t, ..) of a tuple, by keywords -/
theorem sorted_of_sortTK {l : Addr} {vs : List Value} {kw : List (Str × Value)} {Q E : Value → Shared → Prop} {s : Shared} (hl : IsTup s.heap l vs.toArray) (hL : vs.length ≤ sizeLine) (ha1 : argsOk "sorted" ⟨[.ref l], kw⟩) (ha2 : ∀ x, argsOk "list.sort" ⟨[.ref x], kw⟩)
    (body : ∀ E' : Value → Shared → Prop, wpAny (model prog w) A.in1.in1 (Builtin.«list.sort» ⟨[.ref (s.heap.objs.size + 1)], kw⟩) (fun f s' => f = .done (.ret .none) ∧ Q (.ref (s.heap.objs.size + 1)) s') E' { s with heap := copyHeap s.heap vs }) :
    wpAny (model prog w) A (call (.builtin "sorted") [.ref l] kw) Q E s := by
  refine call_function_entry_kw kind_sorted plain_sorted entry_sorted ha1 ?_
  unfold Builtin.«sorted»
  refine wpAny_bind (m := checkCount "sorted" 1 1 _) (wpAny_pure ?_)
  refine wpAny_bind (collect_tup hl ?_ hL)
  refine wpAny_bind (wpAny_newList ?_ hL)
  have hsz : ((s.heap.push (seqObj "list" #[] 0)).update s.heap.objs.size (Obj.mapSeq (· ++ vs.toArray))).objs.size = s.heap.objs.size + 1 := by
    rw [Heap.size_update, size_push']
  show wpAny _ _ _ _ _ { s with heap := copyHeap s.heap vs }
  rw [hsz]
  refine wpAny_bind (wpAny_holding (wpAny_call_entry_kw slot_list_sort ⟨_, copyHeap_at s.heap vs, rfl⟩ entry_list_sort ?body (ha2 _)))
  case body =>
    show wpAny (model prog w) A.in1.in1 (Builtin.«list.sort» ⟨[.ref (s.heap.objs.size + 1)], kw⟩) _ _ _
    refine wpAny_mono (body _) (fun f s' hf => ?_) fun _ _ e => e
    obtain ⟨rfl, hq⟩ := hf
    exact ⟨_, rfl, wpAny_pure ⟨_, rfl, hq⟩⟩
end
/-! # in the layer -/
theorem rd_ext {H H' : Hp} (x : ExtN H H') {a : Addr} {u : HO} (n : ∀ ps, u ≠ .tbl ps) (h : Rd H a u) : Rd H' a u := h.elim (fun h => .inl (x _ _ h n)) fun ⟨o, h⟩ => .inr ⟨o, x _ _ h fun _ z => nomatch z⟩
theorem sqL_ext {K : PySem.W.Frag} {H H' : Hp} (x : ExtN H H') {a : Addr} {xs : List V} (h : SqL K H a xs) : SqL K H' a xs := h.imp (rd_ext x fun _ z => nomatch z) fun z => z
theorem sqT_ext {K : PySem.W.Frag} {H H' : Hp} (x : ExtN H H') {a : Addr} {xs : List V} (h : SqT K H a xs) : SqT K H' a xs := h.imp (rd_ext x fun _ z => nomatch z) fun z => z
section
variable {X : Cx} {pins : List (Addr × Obj)} {σ : L2.St} {H : Hp} {s : Shared}
/-- f(x) gives the int k and keeps all that is known -/
def KeyT (X : Cx) (pins : List (Addr × Obj)) (σ : L2.St) (H : Hp) (u : Value) (x : V) (k : Int) : Prop :=
  ∀ (s1 : Shared) (more : List (Addr × Obj)), Inv X (pins ++ more) σ H s1 → ∀ v, RelV x v → wpAny (model X.prog X.w) X.A.in1.in1 (call u [v]) (fun y s2 => (∃ t, y = .int k t) ∧ Inv X (pins ++ more) σ H s2) (fun _ _ => False) s1
/-- scratch objects -/
structure Own (X : Cx) (pins : List (Addr × Obj)) (H : Hp) (c : Addr) : Prop where
  n : H c = none
  l : c ≠ X.env.locals
  z : X.s_0.heap.objs.size ≤ c
  cl : ∀ x d, X.env.cells.lookup x = some d → d ≠ c
  p : ∀ p ∈ X.pn ++ pins, p.1 ≠ c
  f : c ∉ X.fs
theorem own_of (I : Inv X pins σ H s) {c : Addr} (h : s.heap.objs.size ≤ c) : Own X pins H c := by
  have no : ∀ {b : Addr} {o : Obj}, s.heap.get? b = some o → b ≠ c := fun {b o} e z => by
    have := Heap.lt_size e
    rw [z] at this
    exact Nat.lt_irrefl _ (Nat.lt_of_lt_of_le this h)
  refine ⟨I.hok.fresh h, fun e => ?_, Nat.le_trans I.sz h, fun x d e => ?_, fun p hp => no (I.pin p hp).1, I.nofs h⟩
  · have := I.lt
    rw [← e] at this
    exact Nat.lt_irrefl _ (Nat.lt_of_lt_of_le this h)
  · obtain ⟨v, o, ho, _⟩ := I.cell x d e
    exact no ho
theorem inv_end {a kS : Addr} {g : Heap} {tk : Nat} {ys : List V} {out : List Value} {n : Nat} (I : Inv X pins σ H s) (oa : Own X pins H a) (ok : Own X pins H kS) (k : ∀ b o, b ≠ a → b ≠ kS → s.heap.get? b = some o → g.get? b = some o)
    (hv : Vals ys out) (hn : g.get? a = some (seqObj "list" out.toArray n)) (len : ys.length ≤ sizeLine) : Inv X pins σ (upd H a (.lst ys)) { s with heap := g, toks := tk } := by
  have no : ∀ {b : Addr} {u : HO}, H b = some u → b ≠ a ∧ b ≠ kS := fun {b u} e => ⟨ne_of_none e oa.n, ne_of_none e ok.n⟩
  have up : ∀ {b : Addr} {u : HO}, H b = some u → upd H a (.lst ys) b = some u := fun {b u} e => (upd_ne (no e).1).trans e
  have nch : ∀ {b : Addr}, b ∉ [a, kS] → b ≠ a ∧ b ≠ kS := fun {b} hb => ⟨fun z => hb (by simp [z]), fun z => hb (by simp [z])⟩
  refine I.step (g' := s.gens) (d' := s.drawn) (ch := [a, kS]) (fun b hb => ?_) (fun b o _ _ hc e _ => k b o (nch hc).1 (nch hc).2 e) (fun b o _ _ hc e _ => ⟨o.slots, k b o (nch hc).1 (nch hc).2 e⟩) (fun b o hc _ e => ?_) (fun b o hc e => ⟨o, k b o (nch hc).1 (nch hc).2 e⟩)
    (fun b xs e => up e) (fun b o u e => up e) (fun b ps e => ⟨#[], by rw [up e]; simp⟩) (fun m hm => ?_) (fun b u e => ?_) I.bare
  · have oo : Own X pins H b := by
      rcases List.mem_cons.mp hb with z | z
      · rw [z]; exact oa
      · rw [List.mem_singleton.mp z]; exact ok
    exact ⟨.inr oo.z, oo.l, oo.cl, oo.p⟩
  · rw [upd_ne (nch hc).1]
    exact e
  · obtain ⟨o, es, ep, ho, r⟩ := hm
    exact ⟨o, es, ep, k _ o (Ne.symm oa.l) (Ne.symm ok.l) ho, r⟩
  · by_cases hb : b = a
    · rw [hb, upd_same] at e
      cases e
      rw [hb]
      exact ⟨len, out, n, hv, hn⟩
    · rw [upd_ne hb] at e
      refine (I.hok b u e).stay (fun c v hc q => ?_) (fun c q => up q) fun c xs q => up q
      rcases hc with z | z
      · rw [z] at q ⊢
        exact k _ _ hb (no e).2 q
      · exact k _ _ (no z).1 (no z).2 q
theorem each_zip : ∀ {xs : List V} {vs : List Value} {kz : List Int}, Vals xs vs → kz.length = xs.length → EachIs (fun v (b : V × Int) => RelV b.1 v) vs (xs.zip kz)
  | _, _, [], .nil, _ => .nil
  | _, _, k :: kz, .cons r t, h => .cons r (each_zip t (by simpa using h))
theorem vals_each2 : ∀ {out : List Value} {bs : List (V × Int)}, EachIs (fun v (b : V × Int) => RelV b.1 v) out bs → Vals (bs.map Prod.fst) out
  | _, _, .nil => .nil
  | _, _, .cons h t => .cons h (vals_each2 t)
theorem sort_main {l q : Addr} {xs : List V} {kz : List Int} {Q : VK} {E : Value → Shared → Prop} (hu : X.A.units + 2 < cLine) (I : Inv X pins σ H s) (hl : SqL X.K H l xs ∨ SqT X.K H l xs) (hz : kz.length = xs.length)
    (turn : ∀ (i : Nat) x k, xs[i]? = some x → kz[i]? = some k → KeyT X pins σ H (.ref q) x k)
    (h : ∀ (p : Addr) (zs : List (V × Int)), zs.Perm (xs.zip kz) → zs.Pairwise (fun a b => a.2 ≤ b.2) → H p = none → Q (.ref p) (upd H p (.lst (zs.map Prod.fst)))) :
    wpAny (model X.prog X.w) X.A (call (.builtin "sorted") [.ref l] [(Str.ofString "key", .ref q)]) (EP X pins σ Q) E s := by
  obtain ⟨vs, rv, lz, hl⟩ : ∃ vs : List Value, Vals xs vs ∧ xs.length ≤ sizeLine ∧ (s.heap.IsList l vs.toArray ∨ IsTup s.heap l vs.toArray) := by
    rcases hl with hl | hl
    · obtain ⟨its, r, p, z⟩ := I.list hl
      exact ⟨its, r, z, .inl p.isList⟩
    · obtain ⟨its, r, p, z⟩ := I.tuple hl
      exact ⟨its, r, z, .inr p⟩
  have lv : vs.length = xs.length := rv.length.symm
  have oa : Own X pins H (s.heap.objs.size + 1) := own_of I (Nat.le_succ _)
  have csz : s.heap.objs.size ≤ (copyHeap s.heap vs).objs.size := Nat.le_of_lt (Nat.lt_of_succ_lt (Heap.lt_size (copyHeap_at s.heap vs)))
  have body : ∀ E' : Value → Shared → Prop, wpAny (model X.prog X.w) X.A.in1.in1 (Builtin.«list.sort» ⟨[.ref (s.heap.objs.size + 1)], [(Str.ofString "key", .ref q)]⟩) (fun f s' => f = .done (.ret .none) ∧ EP X pins σ Q (.ref (s.heap.objs.size + 1)) s') E' { s with heap := copyHeap s.heap vs } := fun E' => by
    rw [ksk_t1]
    refine key_tree (kz := kz) (J := Inv X pins σ H) (copyHeap_at s.heap vs) (by omega) (by omega) hu (fun g hg => ?_) (fun kS s1 g tk hk I1 hg => ?_) (fun kS e1 i v k hk hv hkz s1 kA e I1 nk na => ?_) fun kS s1 g tk out c hk I1 hg hn ko => ⟨rfl, ?_⟩
    · exact I.kept (t' := s.toks) fun b o e => hg b o (Nat.ne_of_lt (Nat.lt_succ_of_lt (Heap.lt_size e))) (copyHeap_old e)
    · have ow := own_of I (Nat.le_trans csz hk)
      exact I1.turned hg ow.n ow.l (.inr ow.z) ow.cl ow.p
    · have ow := own_of I (Nat.le_trans csz hk)
      obtain ⟨x, hx, rx⟩ := pd_get2 rv hv
      have I2 : Inv X (pins ++ [(s.heap.objs.size + 1, seqObj "list" #[] e1), (kS, seqObj "list" kA e)]) σ H s1 := I1.pins_of fun p hp => by
        rcases List.mem_append.mp hp with z | z
        · exact I1.pin p (List.mem_append_right _ z)
        · rcases List.mem_cons.mp z with z | z
          · rw [z]
            exact ⟨na, oa.n, oa.l, oa.f, fun v z => nomatch z⟩
          · rw [List.mem_singleton.mp z]
            exact ⟨nk, ow.n, ow.l, ow.f, fun v z => nomatch z⟩
      refine wpAny_mono (turn i x k hx hkz s1 _ I2 v rx) (fun u s2 ⟨hk2, I3⟩ => ⟨hk2, I3.unpinned, ?_, ?_⟩) fun _ _ z => z
      · exact (I3.pin (kS, seqObj "list" kA e) (by simp)).1
      · exact (I3.pin (s.heap.objs.size + 1, seqObj "list" #[] e1) (by simp)).1
    · have ow := own_of I (Nat.le_trans csz hk)
      have es : ((xs.zip kz).map fun b => PyData.int b.2) = kz.map PyData.int := by
        rw [show (fun b : V × Int => PyData.int b.2) = PyData.int ∘ Prod.snd from rfl, ← List.map_map, List.map_snd_zip (by omega)]
      have ho := keyedOut_each (bs := xs.zip kz) (fun b => PyData.int b.2) (by rw [es]; exact ko) (each_zip rv hz)
      have pm : ((xs.zip kz).mergeSort (dataLe false fun b => PyData.int b.2)).Perm (xs.zip kz) := List.mergeSort_perm _ _
      have pw : ((xs.zip kz).mergeSort (dataLe false fun b => PyData.int b.2)).Pairwise (fun a b => dataLe false (fun b : V × Int => PyData.int b.2) a b = true) := List.pairwise_mergeSort (fun a b c h1 h2 => by
        rw [dataLe_int, decide_eq_true_eq] at *
        omega) (fun a b => by
        rw [dataLe_int]
        simp only [Bool.or_eq_true, decide_eq_true_eq]
        omega) _
      generalize (xs.zip kz).mergeSort (dataLe false fun b => PyData.int b.2) = zs at ho pm pw
      refine ⟨.ref (s.heap.objs.size + 1), _, inv_end (n := c) I1 oa ow hg (vals_each2 ho) hn ?_, rfl, h _ zs pm (pw.imp fun {a b} z => ?_) oa.n⟩
      · rw [List.length_map, pm.length_eq, List.length_zip]
        omega
      · rw [dataLe_int] at z
        exact of_decide_eq_true z
  rcases hl with hl | hl
  · exact sorted_of_sort hl (by omega) (ksk_s1 _ _) (fun _ => ksk_l1 _ _) body
  · exact sorted_of_sortTK hl (by omega) (ksk_s1 _ _) (fun _ => ksk_l1 _ _) body
end
/-- sorted(e, key=lambda y: ..) -/
def SortN (K : PySem.W.Frag) (T : List (Addr × Str)) (t : TE) (ix : Nat) (σ : L2.St) (Q : VK) (vs : List V) (H1 : Hp) : Prop := Tabs T H1 ∧ ∃ (l : Addr) (xs : List V) (kz : List Int), vs = [.ref l] ∧ (SqL K H1 l xs ∨ SqT K H1 l xs) ∧ kz.length = xs.length ∧ ∀ H2, ExtN H1 H2 → Tabs T H2 →
  (∀ (i : Nat) x k, xs[i]? = some x → kz[i]? = some k → t (σ.set ix (some x)) H2 fun y H3 => y = .int k ∧ H3 = H2) ∧ ∀ (p : Addr) (zs : List (V × Int)), zs.Perm (xs.zip kz) → zs.Pairwise (fun a b => a.2 ≤ b.2) → H2 p = none → Q (.ref p) (upd H2 p (.lst (zs.map Prod.fst)))
def tSortLam (K : PySem.W.Frag) (T : List (Addr × Str)) (ta : TA) (t : TE) (ix : Nat) : TE := fun σ H Q => ta σ H (SortN K T t ix σ Q)
theorem r_sortLam {K : PySem.W.Frag} {T : List (Addr × Str)} {ta : TA} {t : TE} {ix : Nat} {σ : L2.St} {H : Hp} {Q : VK} (h : ta σ H (SortN K T t ix σ Q)) : tSortLam K T ta t ix σ H Q := h
section
variable {X : Cx} {pins : List (Addr × Obj)} {σ : L2.St} {H : Hp} {s : Shared}
theorem cx_no {P : Program} {w : World} {outer : List Env} {H : Hp} {s s' : Shared} {e : Value} (h : L2.CX P w outer H s C8.E0 e s') : False := by
  obtain ⟨_, _, _, _, _, _, _, _, _, _, _, _, z⟩ := h
  exact z
theorem lam_key {f c' : Addr} {pm ctv : Value} {params : Arguments} {body : Expr} {scope : Scope} {k ix : Nat} {y : Str} {t : TE} {x : V} {z : Int} (hr : Room (k + 3) X.A) (I0 : Inv X pins σ H s) (L : LamS1 y X.env.scope scope) (hx : X.N[ix]? = some y) (hNd : X.N.Nodup)
    (hf : s.heap.get? f = some (PySem.W.kla_obj "<lambda>" (X.env.qual ++ "<lambda>") params body scope (cloFrom X.env.cells scope.names []) pm c' ctv)) (hfn : H f = none) (hfr : f ∉ frs X.stack) (hco : H c' = some (CodeO c' (X.env.qual ++ "<lambda>")))
    (hbind : ∀ u : Value, bindArgs (PySem.W.kla_fn "<lambda>" (X.env.qual ++ "<lambda>") params body scope (cloFrom X.env.cells scope.names []) pm (.ref c') ctv) ⟨[u], []⟩ = pure [(y, u)])
    (hbody : ∀ (A : Around) (outer : List Env) (s : Shared) (H : Hp), Room k (A.deeper (lamEnv X scope s.heap.objs.size f c')) → PE (lamCx X A outer s H C8.E0 scope f c') body t) (ht : t (σ.set ix (some x)) H fun y H3 => y = .int z ∧ H3 = H) :
    KeyT X (pins ++ [(f, PySem.W.kla_obj "<lambda>" (X.env.qual ++ "<lambda>") params body scope (cloFrom X.env.cells scope.names []) pm c' ctv)]) σ H (.ref f) x z := by
  intro s1 more I v rx
  have of1 : s1.heap.get? f = some (PySem.W.kla_obj "<lambda>" (X.env.qual ++ "<lambda>") params body scope (cloFrom X.env.cells scope.names []) pm c' ctv) := (I.pin _ (List.mem_append_right _ (List.mem_append_left _ (List.mem_append_right _ (List.mem_singleton.mpr rfl))))).1
  obtain ⟨⟨oc, vs, tt, hoc, hdc, hvc⟩, _, _⟩ := I.hok c' _ hco
  have hr1 : Room (k + 1) X.A.in1.in1 := hr.in1.in1
  have e0 : Env0 X.prog X.w X.K X.mg X.base X.A.in1.in1 X.stack s1 H := ⟨I.ok.frames, I.ok.mod, I.bs, Nat.le_trans I.ok.bsz I.sz, I.stack, I.stkFree, I.hok, I.bare⟩
  have rc : codeAny (model X.prog X.w) X.A.in1.in1 (.call (.ref f) ⟨[v], []⟩) (CR (L2.CX X.prog X.w) X.stack X.prog X.w H s1 (fun y H3 => y = .int z ∧ H3 = H) C8.E0) s1 := by
    refine PySem.W.kla_callFunE (by have := hr1.dp; omega) of1 rfl L.co L.gen rfl ⟨c', oc, vs, tt, rfl, hoc, hdc, hvc⟩ ?_
    rw [hbind]
    refine wpAny_pure (wpAny_newFunctionEnv (fun y hy => (L.own y hy).2) (fun y hy => by rw [List.mem_singleton.mp hy]; exact L.par) (fun h₁ hns hsb => ⟨I.nolimit.fresh _ hsb, ?_⟩) L.kind)
    show codeAny _ _ (.expr body (lamEnv X scope s1.heap.objs.size f c')) _ _
    have kp : ∀ b o, s1.heap.get? b = some o → h₁.get? b = some o := fun b o e => hsb.extBut b o (Nat.ne_of_lt (Heap.lt_size e)) (Heap.get?_push_of_some _ e)
    have J : Inv (lamCx X X.A.in1.in1 X.stack s1 H C8.E0 scope f c') [] (σ.set ix (some x)) H { s1 with heap := h₁, toks := s1.toks + ([(y, v)] : List (Str × Value)).length } :=
      lam_start1 I L hx hNd rx e0 hr1.hd (Un.refl) hns kp
    refine PySem.W.kla_codeExpr (wpAny_mono ((hbody _ _ s1 H (hr1.deeper _)).run [] _ _ H _ J ht) (fun v s' hq => ?_) fun e s' hq => hq)
    obtain ⟨w', H', J', rv, q⟩ := hq
    exact ⟨w', H', J'.os, J'.bare, J'.base, J'.hok, rv, q⟩
  refine wpAny_call (codeAny_mono rc fun r s' hq => ?_)
  cases r with
  | error e => exact cx_no hq
  | ok fl =>
    cases fl with
    | ret u =>
      obtain ⟨v', H', I', r', e1, e2⟩ := I.after hq
      subst e1
      subst e2
      exact ⟨r', I'⟩
    | next => exact False.elim hq
    | brk => exact False.elim hq
    | cont => exact False.elim hq
theorem pe_sortLam {K : PySem.W.Frag} {T : List (Addr × Str)} {c P : Addr} {y : Str} {e : Expr} {ta : TA} {t : TE} {k ix : Nat} {params : Arguments} {body : Expr} {scope : Scope} {p lpos kpos pos : Pos} (hK : X.K = K) (hr : Room (k + 3) X.A) (hg : Gl X "sorted") (hm : X.mg "sorted" = none)
    (ha : PA X [e] ta) (TB : TabB X.base X.mg c P) (hcode : X.env.code = .ref c) (hmT : (P, X.env.qual ++ "<lambda>") ∈ T) (hu : ∀ p ∈ T, p.1 = P → p.2 = X.env.qual ++ "<lambda>") (L : LamS1 y X.env.scope scope) (hdef : defaultsOf params X.env = ([], []))
    (hbind : ∀ (q : Str) (cl : List (Str × Addr)) (pm cv ctv : Value) (u : Value), bindArgs (PySem.W.kla_fn "<lambda>" q params body scope cl pm cv ctv) ⟨[u], []⟩ = pure [(y, u)]) (hix : X.N[ix]? = some y) (hNd : X.N.Nodup)
    (hbody : ∀ (A : Around) (outer : List Env) (s : Shared) (H : Hp) (f c' : Addr), Room k (A.deeper (lamEnv X scope s.heap.objs.size f c')) → PE (lamCx X A outer s H C8.E0 scope f c') body t)
    (hst : backTo pos (starEach [e] X.env) = (false, eval e X.env) :: backTo pos (starEach [] X.env) := by rfl) (hpl : (backTo pos (starEach [e] X.env)).any (·.1) = false := by rfl) :
    PE X (.Call (.Name "sorted" p) [e] [⟨some "key", .Lambda params body scope lpos, kpos⟩] pos) (tSortLam K T ta t ix) := by
  subst hK
  refine ⟨fun pins s σ H Q I h => ?_⟩
  refine wpAny_Call_Name_kw (ld_blt I hg hm (by rfl) ?_)
  refine PyProof.Rows.callWith_kw (thn (ha.run pos pins s σ H _ I h) fun us s1 ⟨vs, H1, I1, r1, hT, l, xs, kz, e1, hl, hz, q⟩ => ?_) hst hpl rfl rfl
  subst e1
  rw [Vals.ref1 r1]
  show wpAny _ _ (evalAll [(do let v ← eval (.Lambda params body scope lpos) X.env; standAt pos; pure v)]) _ _ s1
  refine wpAny_evalAll_cons (wpAny_bind (lam_make2 I1 TB hcode hmT hu hT hdef (L.has I1.ok) fun f c' pm ctv H2 s2 I2 eN T2 hf hfn hfr hco => wpAny_bind (wpAny_standAt (wpAny_pure (wpAny_evalAll_nil ?_)))))
  obtain ⟨kq, q⟩ := q H2 eN T2
  have fl : f ≠ X.env.locals := fun e => by
    obtain ⟨m, hn, _⟩ := I2.loc
    obtain ⟨o, es, ep, ho, hdat, _⟩ := hn
    rw [← e, hf] at ho
    cases ho
    cases hdat
  have ffs : f ∉ X.fs := fun hm9 => by
    rcases I2.ok.stk with e | ⟨e, _⟩
    · exact hfr (by rw [e]; exact hm9)
    · refine hfr ?_
      rw [e]
      unfold frs
      rw [List.filterMap_cons]
      split
      · exact hm9
      · exact List.mem_cons_of_mem _ hm9
  have Ip : Inv X (pins ++ [(f, PySem.W.kla_obj "<lambda>" (X.env.qual ++ "<lambda>") params body scope (cloFrom X.env.cells scope.names []) pm c' ctv)]) σ H2 s2 := I2.pins_of fun q hq => by
    rcases List.mem_append.mp hq with e | e
    · exact I2.pin q (List.mem_append_right _ e)
    · rw [List.mem_singleton.mp e]
      exact ⟨hf, hfn, fl, ffs, fun v e9 => by cases e9⟩
  have hl2 : SqL X.K H2 l xs ∨ SqT X.K H2 l xs := hl.imp (fun z => sqL_ext eN z) (fun z => sqT_ext eN z)
  refine wpAny_mono (sort_main (E := X.xe) (by have := hr.un; omega) Ip hl2 hz (fun i x k hx hk => ?_) q) (fun u s3 h3 => ?_) fun _ _ z => z
  · exact lam_key hr I2 L hix hNd hf hfn hfr hco (fun u => hbind _ _ _ _ _ u) (fun A outer s H hr2 => hbody A outer s H f c' hr2) (kq i x k hx hk)
  · obtain ⟨v, H3, I3, r3, q3⟩ := h3
    exact ⟨v, H3, I3.unpinned, r3, q3⟩
end

set_option Elab.async false
set_option linter.all false
set_option maxRecDepth 100000
set_option maxHeartbeats 4000000
/-! # forests -/
/-- joined by some of L -/
abbrev Cn (L : List (Int × Int)) : Int → Int → Prop := Con (fun x y => (x, y) ∈ L ∨ (y, x) ∈ L)
theorem Cn.sy {L : List (Int × Int)} {a b : Int} (h : Cn L a b) : Cn L b a := h.symm fun _ _ r => r.symm
theorem Cn.mono {L M : List (Int × Int)} (s : ∀ l ∈ L, l ∈ M) {a b : Int} (h : Cn L a b) : Cn M a b := con_mono (fun _ _ r => r.imp (s _) (s _)) h
theorem cn_split {L : List (Int × Int)} {p q x y : Int} (c : Cn (L ++ [(p, q)]) x y) : Cn L x y ∨ (Cn L x p ∧ Cn L q y) ∨ (Cn L x q ∧ Cn L p y) := by
  induction c with
  | refl => exact .inl .refl
  | @step a b c r ih =>
    have r' : (a = p ∧ b = q) ∨ (a = q ∧ b = p) ∨ ((a, b) ∈ L ∨ (b, a) ∈ L) := by
      rcases r with r | r
      · rcases List.mem_append.mp r with e | e
        · exact .inr (.inr (.inl e))
        · have e := List.mem_singleton.mp e
          exact .inl ⟨congrArg Prod.fst e, congrArg Prod.snd e⟩
      · rcases List.mem_append.mp r with e | e
        · exact .inr (.inr (.inr e))
        · have e := List.mem_singleton.mp e
          exact .inr (.inl ⟨congrArg Prod.snd e, congrArg Prod.fst e⟩)
    rcases r' with ⟨rfl, rfl⟩ | ⟨rfl, rfl⟩ | r'
    · rcases ih with h | ⟨h, k⟩ | ⟨h, k⟩
      · exact .inr (.inl ⟨h, .refl⟩)
      · exact .inr (.inl ⟨h, .refl⟩)
      · exact .inl h
    · rcases ih with h | ⟨h, k⟩ | ⟨h, k⟩
      · exact .inr (.inr ⟨h, .refl⟩)
      · exact .inl h
      · exact .inr (.inr ⟨h, .refl⟩)
    · rcases ih with h | ⟨h, k⟩ | ⟨h, k⟩
      · exact .inl (.step h r')
      · exact .inr (.inl ⟨h, .step k r'⟩)
      · exact .inr (.inr ⟨h, .step k r'⟩)
theorem cn_last {L : List (Int × Int)} {p q : Int} : Cn (L ++ [(p, q)]) p q := .step .refl (.inl (by simp))
theorem cn_left {L : List (Int × Int)} {p q a b : Int} (h : Cn L a b) : Cn (L ++ [(p, q)]) a b := h.mono fun l hl => List.mem_append_left _ hl
/-- none of L closes a cycle with those before it -/
def Acy (L : List (Int × Int)) : Prop := ∀ (i : Nat) p q, L[i]? = some (p, q) → ¬ Cn (L.take i) p q
theorem acy_snoc {L : List (Int × Int)} {p q : Int} : Acy (L ++ [(p, q)]) ↔ Acy L ∧ ¬ Cn L p q := by
  constructor
  · intro h
    refine ⟨fun i a b e => ?_, ?_⟩
    · have il := (List.getElem?_eq_some_iff.mp e).1
      have := h i a b (by rw [List.getElem?_append_left il]; exact e)
      rwa [List.take_append_of_le_length (Nat.le_of_lt il)] at this
    · have := h L.length p q (by rw [List.getElem?_append_right (Nat.le_refl _), Nat.sub_self]; rfl)
      rwa [List.take_left] at this
  · rintro ⟨h, n⟩ i a b e
    rcases Nat.lt_or_ge i L.length with c | c
    · rw [List.getElem?_append_left c] at e
      rw [List.take_append_of_le_length (Nat.le_of_lt c)]
      exact h i a b e
    · rw [List.getElem?_append_right c] at e
      have e0 : i - L.length = 0 := by
        have := (List.getElem?_eq_some_iff.mp e).1
        simp only [List.length_cons, List.length_nil] at this
        omega
      rw [e0] at e
      have e := Option.some.inj e
      cases e
      rw [show i = L.length by omega, List.take_left]
      exact n
theorem acy_nil : Acy [] := fun i p q e => by simp at e
theorem acy_take {L : List (Int × Int)} (h : Acy L) (k : Nat) : Acy (L.take k) := fun i p q e => by
  rw [List.getElem?_take] at e
  split at e
  · rename_i lt
    have := h i p q e
    rwa [List.take_take, Nat.min_eq_left (Nat.le_of_lt lt)]
  · cases e
theorem sub_one {α : Type} {x : α} : ∀ {M : List α}, M.Sublist [x] → M = [] ∨ M = [x]
  | _, .cons _ h => .inl (List.sublist_nil.mp h)
  | _, .cons₂ _ h => .inr (by rw [List.sublist_nil.mp h])
/-- what lies within a forest is one -/
theorem acy_sub : ∀ {L M : List (Int × Int)}, M.Sublist L → Acy L → Acy M := by
  have rv : ∀ (n : Nat) (L M : List (Int × Int)), L.length = n → M.Sublist L → Acy L → Acy M := by
    intro n
    induction n with
    | zero =>
      intro L M e s h
      have : L = [] := List.length_eq_zero_iff.mp e
      subst this
      rw [List.sublist_nil.mp s]
      exact acy_nil
    | succ n ih =>
      intro L M e s h
      obtain ⟨L', l, rfl⟩ : ∃ L' l, L = L' ++ [l] := by
        rcases List.eq_nil_or_concat L with z | ⟨L', l, z⟩
        · rw [z] at e; cases e
        · exact ⟨L', l, by simpa using z⟩
      have el : L'.length = n := by simpa using e
      obtain ⟨p, q⟩ := l
      obtain ⟨h1, h2⟩ := acy_snoc.mp h
      rcases List.sublist_append_iff.mp s with ⟨M1, M2, rfl, s1, s2⟩
      have a1 := ih L' M1 el s1 h1
      rcases sub_one s2 with z | z
      · rw [z, List.append_nil]; exact a1
      · rw [z]
        exact acy_snoc.mpr ⟨a1, fun c => h2 (c.mono fun l hl => s1.mem hl)⟩
  exact fun {L M} s h => rv _ L M rfl s h
/-- as many parts as there are vertices more than links -/
theorem acy_reps {V : List Int} (nd : V.Nodup) : ∀ (n : Nat) (L : List (Int × Int)), L.length = n → Acy L → (∀ l ∈ L, l.1 ∈ V ∧ l.2 ∈ V) → ∃ R : List Int, R.Nodup ∧ (∀ r ∈ R, r ∈ V) ∧ R.length + L.length ≤ V.length ∧ ∀ v ∈ V, ∃ r ∈ R, Cn L r v := by
  intro n
  induction n with
  | zero =>
    intro L e h s
    have : L = [] := List.length_eq_zero_iff.mp e
    subst this
    exact ⟨V, nd, fun _ h => h, by simp, fun v hv => ⟨v, hv, .refl⟩⟩
  | succ n ih =>
    intro L e h s
    obtain ⟨L', l, rfl⟩ : ∃ L' l, L = L' ++ [l] := by
      rcases List.eq_nil_or_concat L with z | ⟨L', l, z⟩
      · rw [z] at e; cases e
      · exact ⟨L', l, by simpa using z⟩
    have el : L'.length = n := by simpa using e
    obtain ⟨p, q⟩ := l
    obtain ⟨h1, h2⟩ := acy_snoc.mp h
    obtain ⟨pv, qv⟩ := s (p, q) (by simp)
    obtain ⟨R, nR, sub, len, cov⟩ := ih L' el h1 fun l hl => s l (List.mem_append_left _ hl)
    obtain ⟨rp, rpR, cp⟩ := cov p pv
    obtain ⟨rq, rqR, cq⟩ := cov q qv
    have ne : rp ≠ rq := fun z => h2 (cp.sy.trans (z ▸ cq))
    refine ⟨R.erase rp, nR.erase rp, fun r hr => sub r (List.mem_of_mem_erase hr), ?_, fun v hv => ?_⟩
    · rw [List.length_erase_of_mem rpR, List.length_append]
      have := List.length_pos_of_mem rpR
      simp only [List.length_cons, List.length_nil]
      omega
    · obtain ⟨r, hr, c⟩ := cov v hv
      by_cases z : r = rp
      · subst z
        exact ⟨rq, (nR.mem_erase_iff).mpr ⟨Ne.symm ne, rqR⟩, (cn_left cq).trans ((cn_last.sy).trans (cn_left (cp.sy.trans c)))⟩
      · exact ⟨r, (nR.mem_erase_iff).mpr ⟨z, hr⟩, cn_left c⟩
theorem acy_len {V : List Int} (nd : V.Nodup) {L : List (Int × Int)} (h : Acy L) (s : ∀ l ∈ L, l.1 ∈ V ∧ l.2 ∈ V) (ne : V ≠ []) : L.length + 1 ≤ V.length := by
  obtain ⟨R, nR, sub, len, cov⟩ := acy_reps nd _ L rfl h s
  obtain ⟨v, hv⟩ := List.exists_mem_of_ne_nil V ne
  obtain ⟨r, hr, _⟩ := cov v hv
  have := List.length_pos_of_mem hr
  omega
/-- links enough, and none closes a cycle: all are joined -/
theorem acy_con {V : List Int} (nd : V.Nodup) {L : List (Int × Int)} (h : Acy L) (s : ∀ l ∈ L, l.1 ∈ V ∧ l.2 ∈ V) (e : L.length + 1 = V.length) : ∀ a ∈ V, ∀ b ∈ V, Cn L a b := by
  obtain ⟨R, nR, sub, len, cov⟩ := acy_reps nd _ L rfl h s
  intro a ha b hb
  obtain ⟨r, hr, c⟩ := cov a ha
  obtain ⟨r', hr', c'⟩ := cov b hb
  have : r = r' := by
    match R, len, hr, hr' with
    | [x], _, hr, hr' => rw [List.mem_singleton.mp hr, List.mem_singleton.mp hr']
    | x :: y :: R, len, _, _ =>
      simp only [List.length_cons] at len
      omega
  subst this
  exact c.sy.trans c'
/-- all are joined by links just enough: none closes a cycle -/
theorem con_acy {V : List Int} (nd : V.Nodup) {L : List (Int × Int)} (h : ∀ a ∈ V, ∀ b ∈ V, Cn L a b) (e : L.length + 1 = V.length) : Acy L := by
  intro i p q hi c
  have il := (List.getElem?_eq_some_iff.mp hi).1
  have er : L = L.take i ++ (p, q) :: L.drop (i + 1) := by
    have e1 : L.drop i = (p, q) :: L.drop (i + 1) := by
      rw [List.drop_eq_getElem_cons il]
      congr 1
      exact (List.getElem?_eq_some_iff.mp hi).2
    rw [← e1, List.take_append_drop]
  have c2 : ∀ a ∈ V, ∀ b ∈ V, Cn (L.eraseIdx i) a b := fun a ha b hb => by
    have sub : ∀ l ∈ L.take i, l ∈ L.eraseIdx i := fun l hl => by
      rw [List.eraseIdx_eq_take_drop_succ]
      exact List.mem_append_left _ hl
    have mem : ∀ l ∈ L, l ∈ L.eraseIdx i ∨ l = (p, q) := fun l hl => by
      rw [List.eraseIdx_eq_take_drop_succ]
      rw [er] at hl
      rcases List.mem_append.mp hl with z | z
      · exact .inl (List.mem_append_left _ z)
      · rcases List.mem_cons.mp z with z | z
        · exact .inr z
        · exact .inl (List.mem_append_right _ z)
    have cpq : Cn (L.eraseIdx i) p q := c.mono sub
    have st : ∀ {x y : Int}, Cn L x y → Cn (L.eraseIdx i) x y := fun {x y} h => by
      induction h with
      | refl => exact .refl
      | @step a b _ r ih =>
        rcases r with r | r
        · rcases mem _ r with z | z
          · exact .step ih (.inl z)
          · cases z
            exact ih.trans cpq
        · rcases mem _ r with z | z
          · exact .step ih (.inr z)
          · cases z
            exact ih.trans cpq.sy
    exact st (h a ha b hb)
  have := conn_len nd c2
  rw [List.length_eraseIdx_of_lt il] at this
  omega
/-! # union-find -/
/-- par: who stands above; rt: who stands on top -/
structure UF (m : Nat) (L : List (Int × Int)) (par rt : Int → Int) (dd : Int → Nat) : Prop where
  pin : ∀ v, nodeI m v → nodeI m (par v)
  rin : ∀ v, nodeI m v → nodeI m (rt v)
  up : ∀ v, nodeI m v → rt (par v) = rt v
  top : ∀ v, nodeI m v → par (rt v) = rt v
  fix : ∀ v, nodeI m v → par v = v → rt v = v
  lt : ∀ v, nodeI m v → par v ≠ v → dd (par v) < dd v
  cn : ∀ a b, nodeI m a → nodeI m b → (Cn L a b ↔ rt a = rt b)
theorem uf_nil (m : Nat) : UF m [] (fun v => v) (fun v => v) (fun _ => 0) :=
  ⟨fun _ h => h, fun _ h => h, fun _ _ => rfl, fun _ _ => rfl, fun _ _ _ => rfl, fun _ _ h => absurd rfl h, fun a b _ _ => Iff.intro (fun h => by
    cases h with
    | refl => rfl
    | step _ r => rcases r with r | r <;> cases r) (fun h => by
    have h : a = b := h
    rw [h]
    exact .refl)⟩
theorem UF.rr {m : Nat} {L : List (Int × Int)} {par rt : Int → Int} {dd : Int → Nat} (h : UF m L par rt dd) {v : Int} (hv : nodeI m v) : rt (rt v) = rt v := h.fix _ (h.rin v hv) (h.top v hv)
theorem UF.join {m : Nat} {L : List (Int × Int)} {par rt : Int → Int} {dd : Int → Nat} (h : UF m L par rt dd) {u v lo hi : Int} (hu : nodeI m u) (hv : nodeI m v) (e : (lo = rt u ∧ hi = rt v) ∨ (lo = rt v ∧ hi = rt u)) (ne : lo ≠ hi) :
    UF m (L ++ [(u, v)]) (fun x => if x = lo then hi else par x) (fun x => if rt x = lo then hi else rt x) (fun x => if rt x = lo then dd x + dd hi + 1 else dd x) := by
  have ln : nodeI m lo := by
    rcases e with ⟨e, _⟩ | ⟨e, _⟩
    · rw [e]; exact h.rin u hu
    · rw [e]; exact h.rin v hv
  have hn : nodeI m hi := by
    rcases e with ⟨_, e⟩ | ⟨_, e⟩
    · rw [e]; exact h.rin v hv
    · rw [e]; exact h.rin u hu
  have rlo : rt lo = lo := by
    rcases e with ⟨e, _⟩ | ⟨e, _⟩
    · rw [e]; exact h.rr hu
    · rw [e]; exact h.rr hv
  have rhi : rt hi = hi := by
    rcases e with ⟨_, e⟩ | ⟨_, e⟩
    · rw [e]; exact h.rr hv
    · rw [e]; exact h.rr hu
  have rhl : rt hi ≠ lo := by rw [rhi]; exact Ne.symm ne
  have plo : par lo = lo := by
    rcases e with ⟨e, _⟩ | ⟨e, _⟩
    · rw [e]; exact h.top u hu
    · rw [e]; exact h.top v hv
  have phi : par hi = hi := by
    rcases e with ⟨_, e⟩ | ⟨_, e⟩
    · rw [e]; exact h.top v hv
    · rw [e]; exact h.top u hu
  -- what stands where
  have cuv : (rt u = lo ∧ rt v = hi) ∨ (rt v = lo ∧ rt u = hi) := e.imp (fun z => ⟨z.1.symm, z.2.symm⟩) (fun z => ⟨z.1.symm, z.2.symm⟩)
  refine ⟨fun x hx => ?_, fun x hx => ?_, fun x hx => ?_, fun x hx => ?_, fun x hx px => ?_, fun x hx px => ?_, fun a b ha hb => ?_⟩
  · try dsimp only
    split
    · exact hn
    · exact h.pin x hx
  · try dsimp only
    split
    · exact hn
    · exact h.rin x hx
  · try dsimp only
    by_cases c : x = lo
    · subst c
      rw [if_pos rfl, if_neg rhl, if_pos rlo, rhi]
    · rw [if_neg c, h.up x hx]
  · try dsimp only
    by_cases c : rt x = lo
    · rw [if_pos c, if_neg (Ne.symm ne), phi]
    · rw [if_neg c, if_neg c, h.top x hx]
  · try dsimp only at px ⊢
    by_cases c : x = lo
    · rw [if_pos c] at px
      exact absurd (px.trans c).symm ne
    · rw [if_neg c] at px
      have := h.fix x hx px
      rw [this, if_neg c]
  · try dsimp only at px ⊢
    by_cases c : x = lo
    · subst c
      rw [if_pos rfl, if_neg rhl, if_pos rlo]
      omega
    · rw [if_neg c] at px ⊢
      have := h.lt x hx px
      rw [h.up x hx]
      split <;> omega
  · try dsimp only
    have q : Cn (L ++ [(u, v)]) a b ↔ Cn L a b ∨ (Cn L a u ∧ Cn L v b) ∨ (Cn L a v ∧ Cn L u b) := ⟨cn_split, fun z => by
      rcases z with z | ⟨z1, z2⟩ | ⟨z1, z2⟩
      · exact cn_left z
      · exact (cn_left z1).trans (cn_last.trans (cn_left z2))
      · exact (cn_left z1).trans (cn_last.sy.trans (cn_left z2))⟩
    rw [q, h.cn a b ha hb, h.cn a u ha hu, h.cn v b hv hb, h.cn a v ha hv, h.cn u b hu hb]
    generalize rt a = x
    generalize rt b = y
    rcases cuv with ⟨e1, e2⟩ | ⟨e1, e2⟩ <;> rw [e1, e2] <;> split <;> split <;> omega

set_option Elab.async false
set_option linter.all false
set_option maxRecDepth 100000
set_option maxHeartbeats 4000000
open PySem PySem.Spec PySem.W PySem.Calls PyProof.Rows L2 LamX
/-! # o[i] op= e, over a list -/
section
variable {X : Cx}
def rGetL (K : PySem.W.Frag) : V → V → Hp → VK → Prop := fun x y H Q => ∃ (p : Addr) (xs : List V) (j : Nat) (v : V), x = .ref p ∧ y = .int (j : Nat) ∧ SqL K H p xs ∧ xs[j]? = some v ∧ Q v H
theorem pg_list : PGet X (rGetL X.K) := by
  intro pins s σ H o i ov iv Q I ro ri h
  obtain ⟨p, xs, j, v, rfl, rfl, hl, hv, q⟩ := h
  obtain rfl : ov = Value.ref p := ro
  obtain ⟨t, rfl⟩ := ri
  obtain ⟨its, r, pl, hz⟩ := I.list hl
  obtain ⟨w, ew, rw'⟩ := r.get hv
  have hn := line63
  have jl := (List.getElem?_eq_some_iff.mp hv).1
  exact wpAny_getItem_list pl.isList (by omega) (by omega) (by simpa using ew) ⟨v, H, I, rw', q⟩
theorem pg_listK {K : PySem.W.Frag} (h : X.K = K) : PGet X (rGetL K) := h ▸ pg_list
theorem cr_anyK {K : PySem.W.Frag} (h : X.K = K) (hc : X.calm = true) : CallR X (.builtin "any") (rAny K) := h ▸ cr_any hc
theorem cr_maxLK {K : PySem.W.Frag} (h : X.K = K) (hc : X.calm = true) : CallR X (.builtin "max") (rMax K) := h ▸ cr_max hc
end
section
variable {K : PySem.W.Frag} {σ : L2.St} {H : Hp} {Q : VK} {nx bk ct : L2.St → Hp → Prop}
/-- behind the object and the index -/
def AugSI (te : TE) (tget : V → V → Hp → VK → Prop) (tip : TIp) (tset : TSet) (σ : L2.St) (nx : L2.St → Hp → Prop) (o i : V) (H2 : Hp) : Prop := tget o i H2 fun x H3 => te σ H3 fun y H4 => tip x y H4 fun z H5 => tset o i z H5 fun H6 => nx σ H6
def AugSV (tip : TIp) (tset : TSet) (σ : L2.St) (nx : L2.St → Hp → Prop) (o i x y : V) (H4 : Hp) : Prop := tip x y H4 fun z H5 => tset o i z H5 fun H6 => nx σ H6
theorem r_augS {to ti te : TE} {tget : V → V → Hp → VK → Prop} {tip : TIp} {tset : TSet} (h : to σ H fun o H1 => ti σ H1 fun i H2 => AugSI te tget tip tset σ nx o i H2) : tAugS to ti te tget tip tset ⟨nx, Q, bk, ct⟩ σ H := h
theorem r_augSI {te : TE} {tip : TIp} {tset : TSet} {p : Addr} {xs : List V} {j : Nat} {v : V} (hl : H p = some (.lst xs)) (hv : xs[j]? = some v) (h : te σ H fun y H4 => AugSV tip tset σ nx (.ref p) (.int (j : Nat)) v y H4) : AugSI te (rGetL K) tip tset σ nx (.ref p) (.int (j : Nat)) H :=
  ⟨p, xs, j, v, rfl, rfl, .inl (.inl hl), hv, h⟩
theorem r_augSV {f : Int → Int → V} {p : Addr} {xs : List V} {j : Nat} {a b : Int} (hl : H p = some (.lst xs)) (hj : j < xs.length) (h : nx σ (upd H p (.lst (xs.set j (f a b))))) : AugSV (rI0 f) rSetL σ nx (.ref p) (.int (j : Nat)) (.int a) (.int b) H :=
  ⟨a, b, rfl, rfl, r_setL hl (j := j) (by
    unfold ixN
    rw [if_pos (by omega), if_pos (by omega)]
    rfl) h⟩
theorem r_maxL {a : Addr} {ns : List Int} (hl : SqL K H a (ns.map V.int)) (ne : 0 < ns.length) (q : ∀ m, m ∈ ns → (∀ y, y ∈ ns → y ≤ m) → Q (.int m) H) : rMax K [.ref a] H Q := ⟨a, ns, rfl, hl, ne, q⟩
end
/-! # name = {..} on one line, the name a local -/
section
variable {X : Cx}
end
/-- x is not True -/
def rNB : R2 := fun x y H Q => ∃ a b, x = .bl a ∧ y = .bl b ∧ Q (.bl (!(a == b))) H
/-- t != (): by length alone -/
def rNeTE (K : PySem.W.Frag) : R2 := fun x y H Q => ∃ a b xs, x = .ref a ∧ y = .ref b ∧ SqT K H a xs ∧ SqT K H b [] ∧ Q (.bl (!xs.isEmpty)) H
theorem op_neTE {X : Cx} (hu : X.A.units < cLine) : OpR X (compareOp .NotEq) (rNeTE X.K) := by
  intro pins s σ H x y v u Q I rx ry h
  obtain ⟨a, b, xs, rfl, rfl, ha, hb, q⟩ := h
  cases rx
  cases ry
  obtain ⟨its, r1, p1, _⟩ := I.tuple ha
  obtain ⟨its2, r2, p2, _⟩ := I.tuple hb
  cases r2
  refine SeqAt.RcNeAt.tuples (e := fun _ => true) p1 p2 hu (fun j h1 h2 => absurd h2 (by simp)) X.prog X.w _ _ ?_
  have e : ((List.range (min its.toArray.size ([] : List Value).toArray.size)).all (fun _ => true) && its.toArray.size == ([] : List Value).toArray.size) = xs.isEmpty := by
    cases r1 with
    | nil => rfl
    | cons _ _ => rfl
  rw [e]
  exact ⟨.bl _, H, I, rfl, q⟩
def rNeX (K : PySem.W.Frag) : R2 := rOr2 (rNeTE K) (rNeD K)
theorem op_neX {X : Cx} {K : PySem.W.Frag} (e : X.K = K) (hu : X.A.units + 64 < cLine) : OpR X (compareOp .NotEq) (rNeX K) := e ▸ op_or2 (op_neTE (by omega)) (op_neD hu)
theorem r_neTE {K : PySem.W.Frag} {H : Hp} {Q : VK} {a b : Addr} {xs : List V} (ha : SqT K H a xs) (hb : SqT K H b []) (q : Q (.bl (!xs.isEmpty)) H) : rNeX K (.ref a) (.ref b) H Q := .inl ⟨a, b, xs, rfl, rfl, ha, hb, q⟩
theorem r_repK {H : Hp} {Q : VK} {l : Addr} {v : V} {k : Nat} (h : H l = some (.lst [v])) (hk : k ≤ 1000) (q : ∀ p, H p = none → Q (.ref p) (upd H p (.lst (List.replicate k v)))) : rRep (.ref l) (.int (k : Int)) H Q := by
  refine ⟨l, k, [v], rfl, rfl, h, by omega, by omega, by simp only [List.length_cons, List.length_nil]; exact small_len (by omega), fun p hp => ?_⟩
  have e : (List.replicate (k : Int).toNat [v]).flatten = List.replicate k v := by
    rw [show (k : Int).toNat = k by omega]
    clear q h hk hp
    induction k with
    | zero => rfl
    | succ k ih => rw [List.replicate_succ, List.flatten_cons, ih, List.replicate_succ]; rfl
  rw [e]
  exact q p hp
/-! # a op b op c op d, as a value -/
section
variable {X : Cx} {a b c d : Expr} {ta tb tc td : TE} {pos : Pos}
theorem pe_chain3 {op op' op'' : CmpOp} {r r' r'' : R2} (ho : OpR X (compareOp op) r) (ho' : OpR X (compareOp op') r') (ho'' : OpR X (compareOp op'') r'') (ha : PE X a ta) (hb : PE X b tb) (hc : PE X c tc) (hd : PE X d td)
    (hm : lastMarks [op, op', op''] [b, c, d] = false := by with_unfolding_all rfl) : PE X (.Compare a [op, op', op''] [b, c, d] pos) (tChain3 r r' r'' ta tb tc td) := by
  refine ⟨fun pins s σ H Q I h => ?_⟩
  refine Compare_chain (thn (ha.run pins s σ H _ I h) fun v s1 ⟨x, H1, I1, r1, q1⟩ => chain_link (thn (hb.run pins s1 σ H1 _ I1 q1) fun u s2 ⟨y, H2, I2, r2, q2⟩ =>
    thn (ho pins s2 σ H2 x y v u _ I2 r1 r2 q2) fun d s3 ⟨z, H3, I3, r3, k, e, q3⟩ => ?_)) hm
  subst e
  cases r3
  refine wpAny_truthy_bool ?_
  cases k with
  | false => exact ite_ff ⟨.bl false, H3, I3, rfl, q3⟩
  | true =>
    refine ite_tt (chain_link (thn (hc.run pins s3 σ H3 _ I3 q3) fun w' s4 ⟨z', H4, I4, r4, q4⟩ => thn (ho' pins s4 σ H4 y z' u w' _ I4 r2 r4 q4) fun d' s5 ⟨z2, H5, I5, r5, k2, e2, q5⟩ => ?_))
    subst e2
    cases r5
    refine wpAny_truthy_bool ?_
    cases k2 with
    | false => exact ite_ff ⟨.bl false, H5, I5, rfl, q5⟩
    | true => exact ite_tt (chain_last (thn (hd.run pins s5 σ H5 _ I5 q5) fun w2 s6 ⟨z3, H6, I6, r6, q6⟩ => ho'' pins s6 σ H6 z' z3 w' w2 Q I6 r4 r6 q6))
end

set_option Elab.async false
set_option linter.all false
set_option maxRecDepth 100000
set_option maxHeartbeats 4000000
/-! # the bags of a vertex in a tree of bags -/
theorem bags_map (bags : List (List Int)) : (rgI (bags.length : Int)).map (bagAt bags) = bags := by
  refine List.ext_getElem? fun i => ?_
  rw [List.getElem?_map]
  unfold rgI
  rw [List.getElem?_map]
  rcases Nat.lt_or_ge i bags.length with h | h
  · rw [List.getElem?_range (by omega), List.getElem?_eq_getElem h]
    exact congrArg some (bag_of (List.getElem?_eq_getElem h))
  · rw [List.getElem?_eq_none (by rw [List.length_range]; omega), List.getElem?_eq_none h]
    rfl
/-- the places of the bags with v -/
def plV (bags : List (List Int)) (v : Int) : List Int := (rgI (bags.length : Int)).filter fun i => decide (v ∈ bagAt bags i)
theorem mem_plV {bags : List (List Int)} {v i : Int} : i ∈ plV bags v ↔ hasV bags v i := by
  unfold plV hasV nodeI
  rw [List.mem_filter, mem_rgI, decide_eq_true_iff]
theorem plV_nd (bags : List (List Int)) (v : Int) : (plV bags v).Nodup := (rgI_nodup _).sublist List.filter_sublist
theorem plV_len (bags : List (List Int)) (v : Int) : (plV bags v).length = (bags.filter fun b => decide (v ∈ b)).length := by
  have h : (bags.filter fun b => decide (v ∈ b)) = ((rgI (bags.length : Int)).map (bagAt bags)).filter fun b => decide (v ∈ b) := by rw [bags_map]
  rw [h, List.filter_map, List.length_map]
  rfl
/-- the links between bags with v -/
def lkV (bags : List (List Int)) (L : List (Int × Int)) (v : Int) : List (Int × Int) := L.filter fun l => decide (v ∈ bagAt bags l.1) && decide (v ∈ bagAt bags l.2)
theorem mem_lkV {bags : List (List Int)} {L : List (Int × Int)} {v : Int} {l : Int × Int} : l ∈ lkV bags L v ↔ l ∈ L ∧ v ∈ bagAt bags l.1 ∧ v ∈ bagAt bags l.2 := by
  unfold lkV
  rw [List.mem_filter, Bool.and_eq_true, decide_eq_true_iff, decide_eq_true_iff]
theorem tog_iff {bags : List (List Int)} {L : List (Int × Int)} {v : Int} (ac : Acy L) (inn : ∀ l ∈ L, nodeI bags.length l.1 ∧ nodeI bags.length l.2) :
    (lkV bags L v).length + 1 = (bags.filter fun b => decide (v ∈ b)).length ↔ (∃ b ∈ bags, v ∈ b) ∧ ∀ a b, hasV bags v a → hasV bags v b → Con (RL (hasV bags v) L) a b := by
  have a1 : Acy (lkV bags L v) := acy_sub List.filter_sublist ac
  have i1 : ∀ l ∈ lkV bags L v, l.1 ∈ plV bags v ∧ l.2 ∈ plV bags v := fun l hl => by
    obtain ⟨h1, h2, h3⟩ := mem_lkV.mp hl
    exact ⟨mem_plV.mpr ⟨(inn l h1).1, h2⟩, mem_plV.mpr ⟨(inn l h1).2, h3⟩⟩
  have rel : ∀ x y : Int, ((x, y) ∈ lkV bags L v ∨ (y, x) ∈ lkV bags L v) ↔ RL (hasV bags v) L x y := fun x y => by
    constructor
    · rintro (h | h)
      · exact ⟨mem_plV.mp (i1 _ h).1, mem_plV.mp (i1 _ h).2, .inl (mem_lkV.mp h).1⟩
      · exact ⟨mem_plV.mp (i1 _ h).2, mem_plV.mp (i1 _ h).1, .inr (mem_lkV.mp h).1⟩
    · rintro ⟨h1, h2, h | h⟩
      · exact .inl (mem_lkV.mpr ⟨h, h1.2, h2.2⟩)
      · exact .inr (mem_lkV.mpr ⟨h, h2.2, h1.2⟩)
  rw [← plV_len]
  constructor
  · intro e
    refine ⟨?_, fun a b ha hb => con_mono (fun x y r => (rel x y).mp r) (acy_con (plV_nd bags v) a1 i1 e a (mem_plV.mpr ha) b (mem_plV.mpr hb))⟩
    obtain ⟨i, hi⟩ := List.exists_mem_of_length_pos (l := plV bags v) (by omega)
    obtain ⟨h1, h2⟩ := mem_plV.mp hi
    exact ⟨_, bag_mem h1, h2⟩
  · rintro ⟨⟨b, hb, vb⟩, c⟩
    obtain ⟨i, hi, e⟩ := mem_bag hb
    have ne : plV bags v ≠ [] := fun z => by
      have : i ∈ plV bags v := mem_plV.mpr ⟨hi, by rw [e]; exact vb⟩
      rw [z] at this
      cases this
    have h1 := acy_len (plV_nd bags v) a1 i1 ne
    have h2 := conn_len (plV_nd bags v) (L := lkV bags L v) fun a ha b hb => con_mono (fun x y r => (rel x y).mpr r) (c a b (mem_plV.mp ha) (mem_plV.mp hb))
    omega
theorem rg_con {m : Nat} {L : List (Int × Int)} (ac : Acy L) (inn : ∀ l ∈ L, nodeI m l.1 ∧ nodeI m l.2) (e : L.length + 1 = m) : ∀ a b, nodeI m a → nodeI m b → Con (RL (nodeI m) L) a b := by
  intro a b ha hb
  have mi : ∀ {i : Int}, nodeI m i → i ∈ rgI (m : Int) := fun {i} h => mem_rgI.mpr h
  refine con_mono (fun x y r => ?_) (acy_con (V := rgI (m : Int)) (rgI_nodup _) ac (fun l hl => ⟨mi (inn l hl).1, mi (inn l hl).2⟩) (by rw [rgI_len]; omega) a (mi ha) b (mi hb))
  rcases r with r | r
  · exact ⟨(inn _ r).1, (inn _ r).2, .inl r⟩
  · exact ⟨(inn _ r).2, (inn _ r).1, .inr r⟩
theorem con_rg {m : Nat} {L : List (Int × Int)} (c : ∀ a b, nodeI m a → nodeI m b → Con (RL (nodeI m) L) a b) (e : L.length + 1 = m) : Acy L :=
  con_acy (V := rgI (m : Int)) (rgI_nodup _) (fun a ha b hb => con_mono (fun x y r => r.2.2) (c a b (mem_rgI.mp ha) (mem_rgI.mp hb))) (by rw [rgI_len]; omega)

set_option Elab.async false
set_option linter.all false
set_option maxRecDepth 100000
set_option maxHeartbeats 4000000
open PySem PySem.Spec PyProof.Rows L2
local macro_rules | `(tactic| walk_at "zs") => `(tactic| first | decide | omega | (dsimp only; omega) | (unfold CMul; omega) | (unfold CDivW; decide) | assumption)
local macro_rules | `(tactic| walk_at "zh") => `(tactic| first | assumption | with_reducible exact upd_same | ((with_reducible refine' (upd_ne ?zn).trans ?zr); (case zn => walk_at "zne"); (case zr => walk_at "zh")))
local macro_rules | `(tactic| walk_at "zw") => `(tactic| (simp only [wipe, List.map_cons, List.map_nil, List.set_cons_succ, List.set_cons_zero]; rfl))
local macro_rules | `(tactic| walk_at "zne") => `(tactic| first | assumption | (apply Ne.symm; assumption) | (refine' ne_of_none ?zh1 ?zh2; (case zh2 => assumption); (case zh1 => walk_at "zh")) | (apply Ne.symm; refine' ne_of_none ?zh1 ?zh2; (case zh2 => assumption); (case zh1 => walk_at "zh")))
local macro_rules | `(tactic| walk_at "zl") => `(tactic| first | assumption | exact Or.inl (Or.inl (by walk_at "zh")))
local macro_rules | `(tactic| walk_at "zat") => `(tactic| first | assumption | exact rfl | exact atI_nat (j := 0) (by rfl))
local macro_rules | `(tactic| walk_at "z1") => `(tactic| first
  | with_reducible refine r_seq ?_
  | with_reducible refine r_asg ?_
  | with_reducible refine r_name0 ?_
  | with_reducible refine r_name1 ?_
  | with_reducible refine r_name2 ?_
  | with_reducible refine r_name3 ?_
  | with_reducible refine r_name4 ?_
  | with_reducible refine r_name5 ?_
  | with_reducible refine r_name6 ?_
  | with_reducible refine r_name7 ?_
  | with_reducible refine r_name8 ?_
  | with_reducible refine r_name9 ?_
  | with_reducible refine r_name10 ?_
  | with_reducible refine r_name11 ?_
  | with_reducible refine r_name12 ?_
  | with_reducible refine r_name13 ?_
  | with_reducible refine r_name14 ?_
  | with_reducible refine r_name15 ?_
  | with_reducible refine r_name16 ?_
  | with_reducible refine r_name17 ?_
  | with_reducible refine r_name18 ?_
  | with_reducible refine r_name19 ?_
  | ((with_reducible show tVar _ _ _ _); refine r_var rfl ?_)
  | with_reducible refine r_c ?_
  | with_reducible refine r_op ?_
  | with_reducible refine r_i0 ?_
  | with_reducible refine r_eqI ?_
  | with_reducible refine r_neI ?_
  | with_reducible refine r_i (by walk_at "zs") ?_
  | with_reducible refine r_cons ?_
  | with_reducible refine r_nil ?_
  | with_reducible refine r_call ?_
  | with_reducible refine r_cb ?_
  | with_reducible refine r_test ?_
  | with_reducible refine r_tB ?_
  | with_reducible refine r_k ?_
  | with_reducible refine r_int1 ?_
  | with_reducible refine r_int1b ?_
  | with_reducible refine r_min2 ?_
  | with_reducible refine r_max2 ?_
  | with_reducible refine r_ret ?_
  | with_reducible refine r_ifS ?_
  | with_reducible refine r_tup ?_
  | with_reducible refine r_lst ?_
  | with_reducible refine r_un ?_
  | with_reducible refine r_u ?_
  | with_reducible refine r_eqB ?_
  | with_reducible refine r_neB ?_
  | with_reducible refine r_not ?_
  | with_reducible refine r_and ?_
  | with_reducible refine r_or ?_
  | with_reducible refine r_if ?_
  | with_reducible refine r_bm ?_
  | with_reducible refine r_lstRg ?_
  | with_reducible refine r_tRg1 ?_
  | with_reducible refine r_r1N ?_
  | with_reducible refine r_sl ?_
  | with_reducible refine r_part ?_
  | with_reducible refine r_partN ?_
  | with_reducible refine r_noPart ?_
  | with_reducible refine r_andV ?_
  | with_reducible refine r_orV ?_
  | with_reducible refine r_notV ?_
  | with_reducible refine r_andN ?_
  | with_reducible refine r_orN ?_
  | with_reducible refine r_notN ?_
  | with_reducible refine r_next ?_
  | with_reducible refine r_drop ?_
  | with_reducible refine r_sub ?_
  | with_reducible refine r_for ?_
  | with_reducible refine r_rng1 ?_
  | with_reducible refine r_rng2 ?_
  | with_reducible refine r_ilist ?_
  | with_reducible refine r_itup ?_
  | with_reducible refine r_lc ?_
  | with_reducible refine r_yes ?_
  | with_reducible refine r_gcons ?_
  | with_reducible refine r_gnil ?_
  | ((with_reducible show Bm _ "list" _ _ _ _ (V.ref _) _); refine' r_bmL ?zh ?zq; (case zh => walk_at "zl"))
  | with_reducible refine iteF ?_
  | with_reducible refine iteT ?_
  | ((with_reducible show rIxL _ (V.ref _) (V.int _) _ _); refine' r_ixL ?zh ?za ?zq; (case zh => walk_at "zl"); (case za => walk_at "zat"))
  | ((with_reducible show rIxT _ (V.ref _) (V.int _) _ _); refine' r_ixT ?zh ?za ?zq; (case zh => walk_at "zl"); (case za => walk_at "zat"))
  | with_reducible refine r_dget ?_
  | with_reducible refine r_star ?_
  | with_reducible refine r_match ?_
  | with_reducible refine r_enumT ?_
  | with_reducible refine r_dnot ?_
  | with_reducible refine r_chain ?_
  | with_reducible refine r_chn ?_
  | with_reducible refine r_callS ?_
  | with_reducible refine r_truth ?_
  | with_reducible refine r_bm0 ?_
  | with_reducible refine r_sadd ?_
  | with_reducible refine r_saddT ?_
  | ((with_reducible show Bm0 _ "list" _ _ (V.ref _) _); refine' r_bm0L ?zh ?zq; (case zh => walk_at "zl"))
  | with_reducible refine r_bm0I ?_
  | with_reducible refine r_bu ?_
  | with_reducible refine r_rng3 ?_
  | with_reducible refine r_bitlen ?_
  | with_reducible refine r_genAll ?_
  | with_reducible refine r_zipA ?_
  | with_reducible refine r_items ?_
  | with_reducible refine r_sortLam ?_
  | with_reducible refine r_augS ?_
  | with_reducible refine r_set0u ?_
  | with_reducible refine r_set1u ?_
  | with_reducible refine r_set2u ?_
  | with_reducible refine r_set3u ?_
  | with_reducible refine r_set4u ?_
  | ((with_reducible show rSetL (V.ref _) (V.int 0) _ _ _); refine' r_set0 ?zh ?zq; (case zh => walk_at "zh"))
  | ((with_reducible show rSetL (V.ref _) (V.int 1) _ _ _); refine' r_set1 ?zh ?zq; (case zh => walk_at "zh"))
  | ((with_reducible show rSetL (V.ref _) (V.int 2) _ _ _); refine' r_set2 ?zh ?zq; (case zh => walk_at "zh"))
  | ((with_reducible show rSetL (V.ref _) (V.int 3) _ _ _); refine' r_set3 ?zh ?zq; (case zh => walk_at "zh"))
  | ((with_reducible show rSetL (V.ref _) (V.int 4) _ _ _); refine' r_set4 ?zh ?zq; (case zh => walk_at "zh"))
  | ((with_reducible show rLen _ [V.ref _] _ _); refine' r_lenL ?zh ?zq; (case zh => walk_at "zl"))
  | ((with_reducible show rLen _ [V.ref _] _ _); refine' r_lenT ?zh ?zq; (case zh => walk_at "zl")))
local macro_rules | `(tactic| walk_at "z") => `(tactic| repeat (walk_at "z1"))

def topS (i : Nat) : Stmt := PySem.Challenge.pw_trellis_k55_decompositions.main.body.getD i (.Pass ⟨0, 0, 0, 0⟩)
/-- a def of the text and where it stands -/
structure DefAt (K : PySem.W.Frag) (mg : Str → Option Value) (x : Str) (st : Stmt) (ps : List Str) where
  f : Addr
  fd : FuncData
  F : Fun K x x st f fd
  b : Binds K fd ps []
  g : mg x = some (.ref f)
/-- the built-ins' names are not the module's own -/
structure Blt (mg : Str → Option Value) : Prop where
  len : mg "len" = none
  range : mg "range" = none
  list : mg "list" = none
  tuple : mg "tuple" = none
  int : mg "int" = none
  min : mg "min" = none
  max : mg "max" = none
  sorted : mg "sorted" = none
  isinstance : mg "isinstance" = none
  bool : mg "bool" = none
  str : mg "str" = none
  enumerate : mg "enumerate" = none
/-! ## the pool -/
def Pool (H : Hp) (a s : Addr) : Prop := ∃ (ns : List Int) (p v c salt : Int), H a = some (.lst [.ref s, .int p, .int v, .int c, .int salt]) ∧ H s = some (.lst (ns.map V.int)) ∧ 0 ≤ p ∧ s ≠ a
theorem Pool.lst {H : Hp} {a s : Addr} (h : Pool H a s) : ∃ xs, H a = some (.lst xs) := by
  obtain ⟨ns, p, v, c, salt, h, _⟩ := h
  exact ⟨_, h⟩
theorem Pool.mono {H H' : Hp} {a s : Addr} (h : Pool H a s) (k : Same H H') : Pool H' a s := by
  obtain ⟨ns, p, v, c, salt, h1, h2, h3, h4⟩ := h
  exact ⟨ns, p, v, c, salt, k _ _ h1, k _ _ h2, h3, h4⟩
theorem Pool.ne {H : Hp} {a s : Addr} (h : Pool H a s) : H a ≠ none := by
  obtain ⟨xs, e⟩ := h.lst
  rw [e]
  exact fun z => nomatch z
theorem Gr.tk {a s : Addr} {H H' : Hp} (g : Gr a H H') (h : Pool H a s) : TK H H' := by
  obtain ⟨xs, e⟩ := h.lst
  exact .of_gr g e
theorem new_ne {H : Hp} {a s l : Addr} (h : Pool H a s) (n : H l = none) : l ≠ a ∧ l ≠ s := by
  obtain ⟨ns, p, v, c, salt, h1, h2, h3, h4⟩ := h
  exact ⟨ne_of_none h1 n |> Ne.symm, ne_of_none h2 n |> Ne.symm⟩
theorem Pool.upd {H : Hp} {a s l : Addr} {o : HO} (h : Pool H a s) (n : l ≠ a ∧ l ≠ s) : Pool (upd H l o) a s := by
  obtain ⟨ns, p, v, c, salt, h1, h2, h3, h4⟩ := h
  exact ⟨ns, p, v, c, salt, (upd_ne (Ne.symm n.1)).trans h1, (upd_ne (Ne.symm n.2)).trans h2, h3, h4⟩
abbrev s_law_spread : Stmt := topS 24
theorem sc_law_spread : FnScope ["cell", "mixed", "total", "k"] ["cell"] (defScope s_law_spread) := ⟨rfl, rfl, rfl, by decide +kernel, rfl, by decide +kernel, by decide +kernel⟩

abbrev s_law_draw : Stmt := topS 25
theorem sc_law_draw : FnScope ["pool", "many", "cell", "mixed", "value"] ["pool", "many"] (defScope s_law_draw) := ⟨rfl, rfl, rfl, by decide +kernel, rfl, by decide +kernel, by decide +kernel⟩

section
variable {P : Program} {w : World} {K : PySem.W.Frag} {mg : Str → Option Value} {base : Heap}
def spSpread : Sp := fun vs H Q _ => ∃ n : Int, vs = [.int n] ∧ ∀ r : Int, Q (.int r) H
theorem ok_spread (T : Blt mg) (D : DefAt K mg "_law_spread" s_law_spread ["cell"]) : FnOk P w K mg base CX0 1 D.f D.fd ["cell"] spSpread := by
  refine D.F.ok sc_law_spread (fun vs H Q E h => ?_) (fun cdv A outer s H vs Q E hr h => ?_)
  · obtain ⟨n, rfl, _⟩ := h
    rfl
  · obtain ⟨n, rfl, q⟩ := h
    refine ⟨_, (pss_cons (ps_set (i := 1) sc_law_spread.nd rfl (Or.inl rfl) (pe_op op_mod (pe_callTy call_int1' (by rfl) T.int (by decide +kernel) (pa_cons (pv 0) pa_nil)) pe_int))
      (pss_cons (ps_set (i := 2) sc_law_spread.nd rfl (Or.inl rfl) pe_int)
      (pss_cons (ps_for PassesOwn.never (by rfl) (pi_range1 (by rfl) T.range (pa_cons pe_int pa_nil)) (pg_name (i := 3) sc_law_spread.nd rfl (Or.inl rfl))
        (pss_cons (ps_set (i := 1) sc_law_spread.nd rfl (Or.inl rfl) (pe_op op_mod (pe_callTy call_int1' (by rfl) T.int (by decide +kernel) (pa_cons (pe_op op_add (pe_op op_add (pe_op op_mul (pv 1) pe_int) pe_int) (pv 3)) pa_nil)) pe_int))
        (pss_one (ps_set (i := 2) sc_law_spread.nd rfl (Or.inl rfl) (pe_op op_add (pe_op op_mul (pv 2) pe_int) (pv 1))))))
      (pss_one (ps_ret (pv 2)))))), ?_⟩
    refine r_at (σ := [some _, none, none, none]) rfl ?_
    walk_at "z"
    refine r_rg1 (by decide) (forR_range (fun _ σ' H' => H' = H ∧ ∃ a b c : Int, ∃ x, σ' = [some (.int a), some (.int b), some (.int c), x]) ⟨rfl, _, _, _, _, rfl⟩ (fun i σ' H' _ ⟨eH, a, b, c, x, eσ⟩ => ?_) fun σ' H' ⟨eH, a, b, c, x, eσ⟩ => ?_)
    · subst eH eσ
      walk_at "z"
      exact ⟨rfl, _, _, _, _, rfl⟩
    · subst eH eσ
      walk_at "z"
      exact q _
/-- a draw: a number from 0 up to the bound; the pool stays a pool; all else stands -/
def spDraw : Sp := fun vs H Q _ => ∃ (a s : Addr) (m : Int), vs = [.ref a, .int m] ∧ Pool H a s ∧ 0 < m ∧ m < 1000000 ∧ ∀ (r : Int) (H' : Hp), 0 ≤ r → r < m → Pool H' a s → Gr a H H' → Q (.int r) H'
theorem ok_draw (T : Blt mg) (D : DefAt K mg "_law_draw" s_law_draw ["pool", "many"]) (D_law_spread : DefAt K mg "_law_spread" s_law_spread ["cell"]) (G_law_spread : FnOk P w K mg base CX0 1 D_law_spread.f D_law_spread.fd ["cell"] spSpread) : FnOk P w K mg base CX0 2 D.f D.fd ["pool", "many"] spDraw := by
  refine D.F.ok sc_law_draw (fun vs H Q E h => ?_) (fun cdv A outer s H vs Q E hr h => ?_)
  · obtain ⟨a, _, m, rfl, _⟩ := h
    rfl
  · obtain ⟨a, s0, m, rfl, ⟨ns, p, v, c, salt, ha, hs, hp, hsa⟩, m0, m1, q⟩ := h
    refine ⟨_, (pss_cons (ps_if (PW.pt (pw_and (pt_cmpR op_le (pe_ix (ix_listK (K := K) rfl) (pv 0) pe_int (fun _ _ => rfl)) pe_int (nomark _)) (pw_and1 (pt_cmpR op_lt (pe_ix (ix_listK (K := K) rfl) (pv 0) pe_int (fun _ _ => rfl)) (pe_callB (call_lenK (K := K) rfl) (by rfl) T.len (by decide +kernel) (pa_cons (pe_ix (ix_listK (K := K) rfl) (pv 0) pe_int (fun _ _ => rfl)) pa_nil)) (nomark _)))))
        (pss_cons (ps_set (i := 2) sc_law_draw.nd rfl (Or.inl rfl) (pe_ix (ix_listK (K := K) rfl) (pe_ix (ix_listK (K := K) rfl) (pv 0) pe_int (fun _ _ => rfl)) (pe_ix (ix_listK (K := K) rfl) (pv 0) pe_int (fun _ _ => rfl)) (fun _ _ => rfl)))
        (pss_cons (ps_asg (pe_op op_add (pe_ix (ix_listK (K := K) rfl) (pv 0) pe_int (fun _ _ => rfl)) pe_int) (pg_sub (pv 0) pe_int set_list))
        (pss_cons (ps_asg (pv 2) (pg_sub (pv 0) pe_int set_list))
        (pss_one (ps_if (pt_cmpR op_lt (pv 2) pe_int (nomark _))
          (pss_one (ps_asg (pe_call G_law_spread (hr.mono (by first | decide | omega)) (by rfl) D_law_spread.g D_law_spread.F.kp D_law_spread.b .nil pass0 (pa_cons (pv 2) pa_nil)) (pg_sub (pv 0) pe_int set_list)))
          pss_nil)))))
        pss_nil)
      (pss_cons (ps_asg (pe_op op_add (pe_ix (ix_listK (K := K) rfl) (pv 0) pe_int (fun _ _ => rfl)) pe_int) (pg_sub (pv 0) pe_int set_list))
      (pss_cons (ps_if (pt_cmpR op_le (pe_ix (ix_listK (K := K) rfl) (pv 0) pe_int (fun _ _ => rfl)) pe_int (nomark _))
        (pss_cons (ps_set (i := 3) sc_law_draw.nd rfl (Or.inl rfl) (pe_op op_mod (pe_callTy call_int1' (by rfl) T.int (by decide +kernel) (pa_cons (pe_op op_add (pe_op op_add (pe_op op_mul (pe_ix (ix_listK (K := K) rfl) (pv 0) pe_int (fun _ _ => rfl)) pe_int) (pe_op op_mul (pe_ix (ix_listK (K := K) rfl) (pv 0) pe_int (fun _ _ => rfl)) pe_int)) pe_int) pa_nil)) pe_int))
        (pss_cons (ps_set (i := 3) sc_law_draw.nd rfl (Or.inl rfl) (pe_op op_mod (pe_callTy call_int1' (by rfl) T.int (by decide +kernel) (pa_cons (pe_op op_add (pe_op op_mul (pv 3) pe_int) (pe_ix (ix_listK (K := K) rfl) (pv 0) pe_int (fun _ _ => rfl))) pa_nil)) pe_int))
        (pss_one (ps_ret (pe_op op_mod (pe_op op_fdivW (pv 3) pe_int) (pv 1))))))
        pss_nil)
      (pss_cons (ps_set (i := 4) sc_law_draw.nd rfl (Or.inl rfl) (pe_op op_mod (pe_callTy call_int1' (by rfl) T.int (by decide +kernel) (pa_cons (pe_ix (ix_listK (K := K) rfl) (pv 0) pe_int (fun _ _ => rfl)) pa_nil)) (pv 1)))
      (pss_cons (ps_asg (pe_op op_fdivW (pe_ix (ix_listK (K := K) rfl) (pv 0) pe_int (fun _ _ => rfl)) (pv 1)) (pg_sub (pv 0) pe_int set_list))
      (pss_one (ps_ret (pv 4)))))))), ?_⟩
    refine r_at (σ := [some _, some _, none, none, none]) rfl ?_
    refine r_seqW (fun σ' H' => ∃ (p v c : Int) (x2 : Option V), σ' = [some (.ref a), some (.int m), x2, none, none] ∧ H' a = some (.lst [.ref s0, .int p, .int v, .int c, .int salt]) ∧ 0 ≤ p ∧ H' s0 = some (.lst (ns.map V.int)) ∧ Gr a H H') ?tail (fun B hB => ?head)
    case head =>
      have sa : s0 ≠ a := hsa
      walk_at "z"
      refine r_ite (fun hv => ?_) (fun hv => ?_)
      · walk_at "z"
        refine r_ite (fun hl => ?_) (fun hl => ?_)
        · rw [List.length_map] at hl
          obtain ⟨cell, _, hc⟩ := at_int hp hl
          walk_at "z"
          have key : ∀ r : Int, B [some (V.ref a), some (V.int m), some (V.int cell), none, none] (upd H a (.lst [.ref s0, .int (p + 1), .int r, .int c, .int salt])) := fun r => hB _ _ ⟨p + 1, r, c, _, rfl, upd_same, by omega, (upd_ne sa).trans hs, .self⟩
          refine r_ite (fun hb => ?_) (fun hb => ?_)
          · walk_at "z"
            refine ⟨_, rfl, fun r => ?_⟩
            walk_at "z"
            exact key _
          · walk_at "z"
            exact key _
        · walk_at "z"
          exact hB _ _ ⟨p, v, c, _, rfl, ha, hp, hs, .refl a H⟩
      · walk_at "z"
        exact hB _ _ ⟨p, v, c, _, rfl, ha, hp, hs, .refl a H⟩
    case tail =>
      rintro σ' H' ⟨p', v', c', x2, rfl, ha', hp', hs', g⟩
      have md : ∀ z : Int, 0 ≤ z % m ∧ z % m < m := fun z => ⟨Int.emod_nonneg z (by omega), Int.emod_lt_of_pos z m0⟩
      have fin : ∀ (z v2 : Int), Q (V.int (z % m)) (upd H' a (.lst [.ref s0, .int p', .int v2, .int (c' + 1), .int salt])) := fun z v2 =>
        q _ _ (md z).1 (md z).2 ⟨ns, p', v2, c' + 1, salt, upd_same, (upd_ne hsa).trans hs', hp', hsa⟩ (g.trans .self)
      walk_at "z"
      refine r_ite (fun hv => ?_) (fun hv => ?_)
      · walk_at "z"
        exact fin _ _
      · walk_at "z"
        refine r_i ⟨m0, (wide_div (i := 0) m0 (b := 20) (by omega) (by decide) (by decide)).2⟩ ?_
        walk_at "z"
        exact fin _ _
/-- the pool of a script -/
abbrev s_law_pool : Stmt := topS 23
theorem sc_law_pool : FnScope ["script", "salt", "cell"] ["script"] (defScope s_law_pool) := ⟨rfl, rfl, rfl, by decide +kernel, rfl, by decide +kernel, by decide +kernel⟩

def spPool (K : PySem.W.Frag) : Sp := fun vs H Q _ => ∃ (l : Addr) (ns : List Int), vs = [.ref l] ∧ SqL K H l (ns.map V.int) ∧ ∀ (a s : Addr) (H' : Hp), H a = none → Same H H' → Pool H' a s → Q (.ref a) H'
theorem cut_ints (ns : List Int) (lo hi : Option Int) : ∃ ms : List Int, cutV (ns.map V.int) lo hi = ms.map V.int ∧ ms.length ≤ ns.length := by
  refine ⟨(ns.drop (HT.sIx ns.length 0 lo)).take (HT.sIx ns.length ns.length hi - HT.sIx ns.length 0 lo), ?_, ?_⟩
  · unfold cutV
    rw [List.length_map, List.map_take, List.map_drop]
  · rw [List.length_take, List.length_drop]
    omega
theorem ok_pool (T : Blt mg) (D : DefAt K mg "_law_pool" s_law_pool ["script"]) : FnOk P w K mg base CX0 1 D.f D.fd ["script"] (spPool K) := by
  refine D.F.ok sc_law_pool (fun vs H Q E h => ?_) (fun cdv A outer s H vs Q E hr h => ?_)
  · obtain ⟨a, m, rfl, _⟩ := h
    rfl
  · obtain ⟨l, ns, rfl, hl, q⟩ := h
    refine ⟨_, (pss_cons (ps_set (i := 1) sc_law_pool.nd rfl (Or.inl rfl) pe_int)
      (pss_cons (ps_for PassesOwn.never (by rfl) (PI.listK (K := K) rfl (pi_list (pe_slice (sl_listK (K := K) rfl) (pv 0) po_none (po_some pe_int)))) (pg_name (i := 2) sc_law_pool.nd rfl (Or.inl rfl))
        (pss_one (ps_set (i := 1) sc_law_pool.nd rfl (Or.inl rfl) (pe_op op_mod (pe_callTy call_int1' (by rfl) T.int (by decide +kernel) (pa_cons (pe_op op_add (pe_op op_mul (pv 1) pe_int) (pv 2)) pa_nil)) pe_int))))
      (pss_one (ps_ret (pe_lst (pa_cons (pe_callTy (call_listK (K := K) rfl) (by rfl) T.list (by decide +kernel) (pa_cons (pv 0) pa_nil)) (pa_cons pe_int (pa_cons pe_int (pa_cons pe_int (pa_cons (pv 1) pa_nil)))))))))), ?_⟩
    refine r_at (σ := [some _, none, none]) rfl ?_
    walk_at "z"
    obtain ⟨ms, em, _⟩ := cut_ints ns none (some 63)
    refine ⟨l, _, rfl, hl, fun c hc => ?_⟩
    have sc : Same H (upd H c (.lst (ms.map V.int))) := same_new hc
    rw [em]
    refine r_il (.inl (.inl upd_same)) (forR_list (xs := ms.map V.int) (fun i σ' H' => H' = upd H c (.lst (ms.map V.int)) ∧ ∃ (z : Int) (x : Option V), σ' = [some (.ref l), some (.int z), x]) ⟨rfl, _, _, rfl⟩ (fun i σ' H' _ ⟨eH, _⟩ => ?_) (fun i x σ' H' hx ⟨eH, z, y, eσ⟩ => ?_) fun σ' H' ⟨eH, z, y, eσ⟩ => ?_)
    · rw [eH]
      exact .inl (.inl upd_same)
    · subst eH eσ
      rw [List.getElem?_map] at hx
      obtain ⟨n, _, rfl⟩ := Option.map_eq_some_iff.mp hx
      walk_at "z"
      exact ⟨rfl, _, _, rfl⟩
    · subst eH eσ
      walk_at "z"
      refine r_listL (sc.seq hl) fun b hb => ?_
      walk_at "z"
      refine r_lstN (by show 5 ≤ sizeLine; decide) fun a ha => ?_
      have sb := sc.trans (same_new (o := .lst (ns.map V.int)) hb)
      exact q a b _ (sb.free ha) (sb.trans (same_new ha)) ⟨ns, 0, 0, 0, z, upd_same, (upd_ne (ne_of_none upd_same ha)).trans upd_same, by omega, ne_of_none upd_same ha⟩
end

set_option Elab.async false
set_option linter.all false
set_option maxRecDepth 100000
set_option maxHeartbeats 4000000
open PySem PySem.Spec PyProof.Rows L2

abbrev s_law_pairs : Stmt := topS 29
theorem sc_law_pairs : FnScope ["n", "found", "u", "v"] ["n"] (defScope s_law_pairs) := ⟨rfl, rfl, rfl, by decide +kernel, rfl, by decide +kernel, by decide +kernel⟩

abbrev s_law_distinct : Stmt := topS 28
theorem sc_law_distinct : FnScope ["rows", "found", "row"] ["rows"] (defScope s_law_distinct) := ⟨rfl, rfl, rfl, by decide +kernel, rfl, by decide +kernel, by decide +kernel⟩

section
variable {P : Program} {w : World} {K : PySem.W.Frag} {mg : Str → Option Value} {base : Heap}
theorem prs_push {H : Hp} {l t : Addr} {xs : List V} {ps : List (Int × Int)} {a b : Int} (hl : H l = some (.lst xs)) (hp : Prs H xs ps) (ht : H t = none) :
    Prs (upd (upd H t (.tup [.int a, .int b])) l (.lst (xs ++ [.ref t]))) (xs ++ [.ref t]) (ps ++ [(a, b)]) := by
  have n : t ≠ l := (ne_of_none hl ht).symm
  have k : TK H (upd (upd H t (.tup [.int a, .int b])) l (.lst (xs ++ [.ref t]))) := fun c ys e => by
    rw [upd_ne (fun z => by rw [z, hl] at e; cases e), upd_ne (ne_of_none e ht)]
    exact e
  exact (hp.tk k).snoc ⟨t, rfl, by rw [upd_ne n]; exact upd_same⟩
/-- all pairs u < v below n -/
def spPairs : Sp := fun vs H Q _ => ∃ n : Nat, vs = [.int (n : Int)] ∧ n ≤ 100 ∧ ∀ (l : Addr) (xs : List V) (H' : Hp), H l = none → Same H H' → H' l = some (.lst xs) → Prs H' xs (allP n) → Q (.ref l) H'
theorem ok_pairs (T : Blt mg) (D : DefAt K mg "_law_pairs" s_law_pairs ["n"]) : FnOk P w K mg base CX0 1 D.f D.fd ["n"] spPairs := by
  refine D.F.ok sc_law_pairs (fun vs H Q E h => ?_) (fun cdv A outer s H vs Q E hr h => ?_)
  · obtain ⟨n, rfl, _⟩ := h
    rfl
  · obtain ⟨n, rfl, hn, q⟩ := h
    refine ⟨_, (pss_cons (ps_set (i := 1) sc_law_pairs.nd rfl (Or.inl rfl) (pe_lst pa_nil))
      (pss_cons (ps_for PassesOwn.never (by rfl) (pi_range1 (by rfl) T.range (pa_cons (pv 0) pa_nil)) (pg_name (i := 2) sc_law_pairs.nd rfl (Or.inl rfl))
        (pss_one (ps_for PassesOwn.never (by rfl) (pi_range2 (by rfl) T.range (pa_cons (pe_op op_add (pv 2) pe_int) (pa_cons (pv 0) pa_nil))) (pg_name (i := 3) sc_law_pairs.nd rfl (Or.inl rfl))
          (pss_one (ps_expr (PE.bmK (K := K) rfl (pe_bm PySem.F.plainAttrs_list PySem.F.slot_list_append PySem.F.type_list_append mt_append (pv 1) (pa_cons (pe_tup (pa_cons (pv 2) (pa_cons (pv 3) pa_nil))) pa_nil))))))))
      (pss_one (ps_ret (pv 1))))), ?_⟩
    refine r_at (σ := [some _, none, none, none]) rfl ?_
    walk_at "z"
    refine r_lstN (by decide) fun f hf => ?_
    walk_at "z"
    refine r_rg1 (by omega) (forR_range (fun i σ' H' => (∃ x2 x3, σ' = [some (.int (n : Int)), some (.ref f), x2, x3]) ∧ Same H H' ∧ ∃ xs, H' f = some (.lst xs) ∧ Prs H' xs (preP n i)) ⟨⟨_, _, rfl⟩, same_new hf, [], upd_same, .nil⟩ ?_ ?_)
    · rintro i σ' H' hi ⟨⟨x2, x3, rfl⟩, sm, xs, hx, hp⟩
      walk_at "z"
      refine r_rg2 (by omega) (forR_range (fun j σ' H' => (∃ x3, σ' = [some (.int (n : Int)), some (.ref f), some (.int (0 + (i : Int))), x3]) ∧ Same H H' ∧ ∃ xs, H' f = some (.lst xs) ∧ Prs H' xs (preP n i ++ rowP i ((i : Int) + 1) j)) ⟨⟨_, rfl⟩, sm, xs, hx, ?_⟩ ?_ ?_)
      · rw [show rowP (i : Int) ((i : Int) + 1) 0 = [] from rfl, List.append_nil]
        exact hp
      · rintro j σ' H' hj ⟨⟨x3, rfl⟩, sm, xs, hx, hp⟩
        walk_at "z"
        refine r_tupN sz2 fun t ht => ?_
        walk_at "z"
        refine r_appT (by walk_at "zh") (small_lt ?_) ?_
        · rw [hp.length, List.length_append, rowP_len]
          have h1 := preP_len (n := n) (i := i)
          have h2 : i * n ≤ 100 * 100 := Nat.mul_le_mul (by omega) hn
          omega
        · refine ⟨⟨_, rfl⟩, same_mut (sm.trans (same_new ht)) hf, _, upd_same, ?_⟩
          rw [rowP_succ, ← List.append_assoc]
          have e1 : (0 : Int) + (i : Int) = i := by omega
          have e2 : (0 : Int) + (i : Int) + 1 + (j : Int) = (i : Int) + 1 + j := by omega
          rw [e2, e1]
          exact prs_push hx hp ht
      · rintro σ' H' ⟨⟨x3, rfl⟩, sm, xs, hx, hp⟩
        refine ⟨⟨_, _, rfl⟩, sm, xs, hx, ?_⟩
        have e : ((n : Int) - (0 + (i : Int) + 1)).toNat = n - 1 - i := by omega
        rw [e] at hp
        exact hp
    · rintro σ' H' ⟨⟨x2, x3, rfl⟩, sm, xs, hx, hp⟩
      walk_at "z"
      exact q f xs H' hf sm hx hp
/-- the rows ascending, each once -/
def spDistinct (K : PySem.W.Frag) : Sp := fun vs H Q _ => ∃ (l : Addr) (xs : List V) (ps : List (Int × Int)), vs = [.ref l] ∧ SqL K H l xs ∧ Prs H xs ps ∧ ps.length ≤ 10000 ∧
  ∀ (f : Addr) (ys : List V) (qs : List (Int × Int)) (H' : Hp), H f = none → Same H H' → H' f = some (.lst ys) → Prs H' ys qs → qs.Pairwise ltP → (∀ p, p ∈ qs ↔ p ∈ ps) → Q (.ref f) H'
theorem ok_distinct (T : Blt mg) (D : DefAt K mg "_law_distinct" s_law_distinct ["rows"]) : FnOk P w K mg base CX0 2 D.f D.fd ["rows"] (spDistinct K) := by
  refine D.F.ok sc_law_distinct (fun vs H Q E h => ?_) (fun cdv A outer s H vs Q E hr h => ?_)
  · obtain ⟨l, xs, ps, rfl, _⟩ := h
    rfl
  · obtain ⟨l, xs, ps, rfl, hl, hp, hlen, q⟩ := h
    refine ⟨_, (pss_cons (ps_set (i := 1) sc_law_distinct.nd rfl (Or.inl rfl) (pe_lst pa_nil))
      (pss_cons (ps_for PassesOwn.never (by rfl) (PI.listK (K := K) rfl (pi_list (pe_callB (cr_sortPrK (K := K) rfl) (by rfl) T.sorted (by decide +kernel) (pa_cons (pv 0) pa_nil)))) (pg_name (i := 2) sc_law_distinct.nd rfl (Or.inl rfl))
        (pss_one (ps_if (PW.pt (pw_or (pt_cmpR (op_eqDK (K := K) rfl hr.units) (pv 1) (pe_lst pa_nil) (nomark _)) (pw_or1 (pt_cmpR (op_neDK (K := K) rfl hr.units) (pe_ix (ix_listK (K := K) rfl) (pv 1) (pe_un un_neg pe_int) (fun _ _ => rfl)) (pv 2) (nomark _)))))
          (pss_one (ps_expr (PE.bmK (K := K) rfl (pe_bm PySem.F.plainAttrs_list PySem.F.slot_list_append PySem.F.type_list_append mt_append (pv 1) (pa_cons (pv 2) pa_nil)))))
          pss_nil)))
      (pss_one (ps_ret (pv 1))))), ?_⟩
    refine r_at (σ := [some _, none, none]) rfl ?_
    walk_at "z"
    refine r_lstN (by decide) fun f hf => ?_
    walk_at "z"
    have s1 : Same H (upd H f (.lst [])) := same_new hf
    refine ⟨l, xs, ps, rfl, s1.seq hl, hp.tk (.of_same s1), fun ys qs p pm hy pw hn => ?_⟩
    have s2 : Same H (upd (upd H f (.lst [])) p (.lst ys)) := s1.trans (same_new hn)
    have pf : f ≠ p := ne_of_none upd_same hn
    refine r_il (.inl (.inl upd_same)) (forR_list (xs := ys) (fun i σ' H' => (∃ x2, σ' = [some (.ref l), some (.ref f), x2]) ∧ Same H H' ∧ H' p = some (.lst ys) ∧ Prs H' ys qs ∧ ∃ zs fs, H' f = some (.lst zs) ∧ Prs H' zs fs ∧ Ded (qs.take i) fs)
      ⟨⟨_, rfl⟩, s2, upd_same, hy.tk (.new hn), [], [], (upd_ne pf).trans upd_same, .nil, .nil⟩ ?_ ?_ ?_)
    · rintro i σ' H' _ ⟨_, _, h, _⟩
      exact .inl (.inl h)
    · rintro i x σ' H' hx ⟨⟨x2, rfl⟩, sm, hpl, hys, zs, fs, hz, hfs, D0⟩
      obtain ⟨r, hr', hxr⟩ := pd_get hys hx
      have tk : qs.take (i + 1) = qs.take i ++ [r] := take_next hr'
      walk_at "z"
      refine r_lstN (by decide) fun e he => ?_
      have ef : f ≠ e := ne_of_none hz he
      have s3 : Same H' (upd H' e (.lst [])) := same_new he
      refine r_eqNil ((upd_ne ef).trans hz) upd_same (hfs.tk (.of_same s3)) ?_
      walk_at "z"
      have pl : ((qs.take i) ++ [r]).Pairwise leP := by
        rw [← tk]
        exact pw.take
      have lens : zs.length < sizeLine := small_lt (by
        have h1 : fs.length ≤ ps.length := by
          have nd := asc_nodup D0.asc
          have sub : ∀ z ∈ fs, z ∈ ps := fun z hz => pm.mem_iff.mp (List.mem_of_mem_take ((D0.mem z).mp hz))
          exact nodup_le _ _ nd sub
        have h2 := hfs.length
        omega)
      -- the row goes behind
      have push : ∀ H2 : Hp, Same H' H2 → H2 f = some (.lst zs) → fs.getLast? ≠ some r → (∃ x2_1, [some (V.ref l), some (V.ref f), some x] = [some (V.ref l), some (V.ref f), x2_1]) ∧ Same H (upd H2 f (.lst (zs ++ [x]))) ∧ (upd H2 f (.lst (zs ++ [x]))) p = some (.lst ys) ∧ Prs (upd H2 f (.lst (zs ++ [x]))) ys qs ∧ ∃ zs_1 fs_1, (upd H2 f (.lst (zs ++ [x]))) f = some (.lst zs_1) ∧ Prs (upd H2 f (.lst (zs ++ [x]))) zs_1 fs_1 ∧ Ded (qs.take (i + 1)) fs_1 := fun H2 sx hf2 hne => by
        have kk : TK H' (upd H2 f (.lst (zs ++ [x]))) := (TK.of_same sx).trans (.lst hf2)
        refine ⟨⟨_, rfl⟩, same_mut (sm.trans sx) hf, ?_, hys.tk kk, _, _, upd_same, (hfs.tk kk).snoc (hxr.tk kk), ?_⟩
        · rw [upd_ne (Ne.symm pf)]
          exact sx _ _ hpl
        · rw [tk]
          exact D0.more pl hne
      refine r_ite (fun h0 => ?_) (fun h0 => ?_)
      · walk_at "z"
        refine r_appT (by walk_at "zh") lens ?_
        refine push _ s3 ((upd_ne ef).trans hz) ?_
        rw [h0]
        exact fun z => nomatch z
      · walk_at "z"
        obtain ⟨r', hr2⟩ : ∃ r', fs.getLast? = some r' := by
          cases q9 : fs.getLast? with
          | some r' => exact ⟨r', rfl⟩
          | none => exact absurd (List.getLast?_eq_none_iff.mp q9) h0
        obtain ⟨x', hx', fx'⟩ := pd_last hfs hr2
        refine r_ixL (.inl (.inl ((upd_ne ef).trans hz))) (at_last hx') ?_
        walk_at "z"
        refine r_neP (fx'.tk (.of_same s3)) (hxr.tk (.of_same s3)) ?_
        walk_at "z"
        refine r_iteN (fun h1 => ?_) (fun h1 => ?_)
        · walk_at "z"
          refine r_appT (by walk_at "zh") lens ?_
          refine push _ s3 ((upd_ne ef).trans hz) ?_
          rw [hr2]
          exact fun z => h1 (Option.some.inj z)
        · walk_at "z"
          refine ⟨⟨_, rfl⟩, sm.trans s3, s3 _ _ hpl, hys.tk (.of_same s3), zs, fs, s3 _ _ hz, hfs.tk (.of_same s3), ?_⟩
          rw [tk]
          exact D0.same (by rw [hr2, h1])
    · rintro σ' H' ⟨⟨x2, rfl⟩, sm, hpl, hys, zs, fs, hz, hfs, D0⟩
      walk_at "z"
      rw [hys.length, List.take_length] at D0
      exact q f zs fs H' hf sm hz hfs D0.asc fun z => (D0.mem z).trans pm.mem_iff
end

set_option Elab.async false
set_option linter.all false
set_option maxRecDepth 100000
set_option maxHeartbeats 4000000
open PySem PySem.Spec PyProof.Rows L2

abbrev s_law_of : Stmt := topS 30
theorem sc_law_of : FnScope ["n", "pairs", "pair"] ["n", "pairs"] (defScope s_law_of) := ⟨rfl, rfl, rfl, by decide +kernel, rfl, by decide +kernel, by decide +kernel⟩

abbrev s_law_met : Stmt := topS 31
theorem sc_law_met : FnScope ["graph", "u", "v"] ["graph", "u", "v"] (defScope s_law_met) := ⟨rfl, rfl, rfl, by decide +kernel, rfl, by decide +kernel, by decide +kernel⟩

section
variable {P : Program} {w : World} {K : PySem.W.Frag} {mg : Str → Option Value} {base : Heap}
/-- the edges stand as a tuple of pairs at e -/
def EdgesAt (H : Hp) (e : Addr) (ps : List (Int × Int)) : Prop := ∃ xs, H e = some (.tup xs) ∧ Prs H xs ps
theorem EdgesAt.tk {H H' : Hp} (k : TK H H') {e : Addr} {ps : List (Int × Int)} (h : EdgesAt H e ps) : EdgesAt H' e ps := by
  obtain ⟨xs, h1, h2⟩ := h
  exact ⟨xs, k _ _ h1, h2.tk k⟩
/-- v is the graph of n and these edges -/
def GrAt (H : Hp) (v : V) (n : Int) (ps : List (Int × Int)) : Prop := ∃ g e, v = .ref g ∧ H g = some (.tup [.int n, .ref e]) ∧ EdgesAt H e ps
theorem GrAt.tk {H H' : Hp} (k : TK H H') {v : V} {n : Int} {ps : List (Int × Int)} (h : GrAt H v n ps) : GrAt H' v n ps := by
  obtain ⟨g, e, h1, h2, h3⟩ := h
  exact ⟨g, e, h1, k _ _ h2, h3.tk k⟩
/-- (n, tuple of distinct(..)) -/
def spOf (K : PySem.W.Frag) : Sp := fun vs H Q _ => ∃ (n : Int) (l : Addr) (xs : List V) (ps : List (Int × Int)), vs = [.int n, .ref l] ∧ SqL K H l xs ∧ Prs H xs ps ∧ ps.length ≤ 10000 ∧
  ∀ (v : V) (qs : List (Int × Int)) (H' : Hp), Same H H' → GrAt H' v n qs → qs.Pairwise ltP → (∀ p, p ∈ qs ↔ ∃ r ∈ ps, p = nrm r) → Q v H'
theorem r_minP {x : V} {p : Int × Int} {H : Hp} {Q : VK} (h : IsP H x p) (q : Q (.int (min p.1 p.2)) H) : rMinT [x] H Q := ⟨x, p, rfl, h, q⟩
theorem r_maxP {x : V} {p : Int × Int} {H : Hp} {Q : VK} (h : IsP H x p) (q : Q (.int (max p.1 p.2)) H) : rMaxT [x] H Q := ⟨x, p, rfl, h, q⟩
theorem ok_of (T : Blt mg) (D : DefAt K mg "_law_of" s_law_of ["n", "pairs"]) (D_law_distinct : DefAt K mg "_law_distinct" s_law_distinct ["rows"]) (G_law_distinct : FnOk P w K mg base CX0 2 D_law_distinct.f D_law_distinct.fd ["rows"] (spDistinct K)) :
    FnOk P w K mg base CX0 3 D.f D.fd ["n", "pairs"] (spOf K) := by
  refine D.F.ok sc_law_of (fun vs H Q E h => ?_) (fun cdv A outer s H vs Q E hr h => ?_)
  · obtain ⟨n, l, xs, ps, rfl, _⟩ := h
    rfl
  · obtain ⟨n, l, xs, ps, rfl, hl, hp, hlen, q⟩ := h
    refine ⟨_, (pss_one (ps_ret (pe_tup (pa_cons (pv 0) (pa_cons (pe_callTy (call_tupleK (K := K) rfl) (by rfl) T.tuple (by decide +kernel) (pa_cons (pe_call G_law_distinct (hr.mono (by first | decide | omega)) (by rfl) D_law_distinct.g D_law_distinct.F.kp D_law_distinct.b .nil pass0 (pa_cons (pe_lc (own := [("pair", 2)]) (by rfl) sc_law_of.nd (PI.listK (K := K) rfl (pi_list (pv 1))) (blkOk_by (own := [("pair", 2)]) (N := ["n", "pairs", "pair"]) (sc := (defScope s_law_of)) (by decide +kernel)) (fun _ _ _ _ _ => (pg_name (i := 2) sc_law_of.nd rfl (Or.inl rfl))) (fun _ _ _ _ _ => pts_nil) (fun _ _ _ _ _ => (pe_tup (pa_cons (pe_callB (cr_minT rfl) (by rfl) T.min (by decide +kernel) (pa_cons (pv 2) pa_nil)) (pa_cons (pe_callB (cr_maxT rfl) (by rfl) T.max (by decide +kernel) (pa_cons (pv 2) pa_nil)) pa_nil))))) pa_nil)) pa_nil)) pa_nil))))), ?_⟩
    refine r_at (σ := [some _, some _, none]) rfl ?_
    walk_at "z"
    refine r_il hl fun d hd => lcR_list (xs := xs) (fun i H' => Same H H' ∧ ∃ ys, H' d = some (.lst ys) ∧ Prs H' ys ((ps.take i).map nrm)) (by walk_at "zw") ⟨same_new hd, [], upd_same, .nil⟩ (fun i H' _ ⟨s1, _⟩ => s1.seq hl) ?_ ?_
    · rintro i x H' hx ⟨s1, ys, hy, hys⟩
      obtain ⟨p, hpi, hxp⟩ := pd_get (hp.tk (.of_same s1)) hx
      walk_at "z"
      refine ⟨rfl, ?_⟩
      walk_at "z"
      refine r_minP hxp ?_
      walk_at "z"
      refine r_maxP hxp ?_
      walk_at "z"
      refine r_tupN sz2 fun t ht => ?_
      refine r_lce (by walk_at "zh") (small_lt ?_) ⟨same_mut (s1.trans (same_new ht)) hd, _, upd_same, ?_⟩
      · rw [hys.length, List.length_map, List.length_take]
        omega
      · rw [take_next hpi, List.map_append]
        exact prs_push hy hys ht
    · rintro H' ⟨s1, ys, hy, hys⟩
      rw [hp.length, List.take_length] at hys
      walk_at "z"
      refine ⟨d, ys, _, rfl, .inl (.inl hy), hys, by rw [List.length_map]; exact hlen, fun f zs qs H2 hf s2 hz hzs asc mem => ?_⟩
      walk_at "z"
      refine r_tupL (.inl (.inl hz)) fun e he => ?_
      walk_at "z"
      refine r_tupN sz2 fun g hg => ?_
      have s3 : Same H2 (upd H2 e (.tup zs)) := same_new he
      have s4 := s3.trans (same_new (o := .tup [.int n, .ref e]) hg)
      refine q _ qs _ ((s1.trans s2).trans s4) ⟨g, e, rfl, upd_same, zs, (upd_ne (ne_of_none upd_same hg)).trans upd_same, hzs.tk (.of_same s4)⟩ asc fun p => ?_
      rw [mem, List.mem_map]
      constructor
      · rintro ⟨r, hr, rfl⟩
        exact ⟨r, hr, rfl⟩
      · rintro ⟨r, hr, rfl⟩
        exact ⟨r, hr, rfl⟩
/-- are u and v neighbours? -/
def spMet : Sp := fun vs H Q _ => ∃ (g : V) (n u v : Int) (ps : List (Int × Int)), vs = [g, .int u, .int v] ∧ GrAt H g n ps ∧ ∀ H', Same H H' → Q (.bl (decide (nrm (u, v) ∈ ps))) H'
/-- the neighbours, ascending -/
def nearL (n : Int) (ps : List (Int × Int)) (v : Int) (k : Nat) : List Int := ((List.range k).map fun (i : Nat) => (i : Int)).filter fun u => decide (u ≠ v ∧ nrm (u, v) ∈ ps)
def spNear : Sp := fun vs H Q _ => ∃ (g : V) (n v : Int) (ps : List (Int × Int)), vs = [g, .int v] ∧ GrAt H g n ps ∧ 0 ≤ n ∧ n ≤ 100 ∧ ∀ (l : Addr) (H' : Hp), H l = none → Same H H' → H' l = some (.lst ((nearL n ps v n.toNat).map V.int)) → Q (.ref l) H'
end

set_option Elab.async false
set_option linter.all false
set_option maxRecDepth 100000
set_option maxHeartbeats 4000000
open PySem PySem.Spec PyProof.Rows L2

abbrev s_law_same : Stmt := topS 26
theorem sc_law_same : FnScope ["actual", "due", "k"] ["actual", "due"] (defScope s_law_same) := ⟨rfl, rfl, rfl, by decide +kernel, rfl, by decide +kernel, by decide +kernel⟩

/-! ## values that are alike -/
def kd : PyData → String
  | .none => "NoneType"
  | .bool _ => "bool"
  | .int _ => "int"
  | .str _ => "str"
  | .list _ => "list"
  | .tuple _ => "tuple"
  | .dict _ => "dict"
/-- no deeper than d, and nowhere long -/
def sm : Nat → PyData → Prop
  | 0, _ => False
  | _ + 1, .none => True
  | _ + 1, .bool _ => True
  | _ + 1, .int _ => True
  | _ + 1, .str x => x.cps.all (· < 0x110000) = true
  | d + 1, .list xs => xs.length ≤ 100000 ∧ ∀ x ∈ xs, sm d x
  | d + 1, .tuple xs => xs.length ≤ 100000 ∧ ∀ x ∈ xs, sm d x
  | _ + 1, .dict _ => False
section
variable {P : Program} {w : World} {K : PySem.W.Frag} {mg : Str → Option Value} {base : Heap}
theorem DpAll.pd {H : Hp} : ∀ (ds : List PyData) {vs : List V}, DpAll K H vs ds → Paired (Dp K H) vs ds
  | [], _, .nil => .nil
  | _ :: ds, _, .cons h r => .cons h (DpAll.pd ds r)
theorem ty_dp {H : Hp} {x : V} {t : PyData} (h : Dp K H x t) : TyX K H x (.type (kd t)) := by
  cases h with
  | non => exact .base .non
  | bl b => exact .base (.bl b)
  | int i => exact .base (.int i)
  | str s => exact .base (.str s)
  | lst h _ =>
    rcases h with (h | ⟨ob, h⟩) | ⟨o, its, n, h1, h2, _⟩
    · exact .base (.lst h)
    · exact .base (.frz h)
    · exact .kList h1 h2
  | tup h _ =>
    rcases h with (h | ⟨ob, h⟩) | ⟨o, its, n, h1, h2, _⟩
    · exact .base (.tup h)
    · exact .fTuple h
    · exact .kTuple h1 h2
theorem r_isiD {H : Hp} {Q : VK} {x : V} {t : PyData} {c k : String} {b : Bool} (h : Dp K H x t) (e1 : kd t = k) (e : kitB k c = some b) (q : Q (.bl b) H) : rIsi K [x, .ty c] H Q :=
  ⟨x, .ty c, .type k, .type c, b, rfl, .ty _, e1 ▸ ty_dp h, kit_ty e, q⟩
theorem r_eqD {H : Hp} {Q : VK} {x y : V} {t : PyData} (hx : Dp K H x t) (hy : Dp K H y t) (c : t.canLay0 = true) (d : t.depth ≤ 64) (q : Q (.bl true) H) : rEqD K x y H Q := by
  have e : SeqAt.shaped t = true := by
    unfold SeqAt.shaped
    rw [c, decide_eq_true d]
    rfl
  refine ⟨t, t, hx, hy, e, e, ?_⟩
  rw [PySem.SeqAt.eqv_refl t c]
  exact q
theorem r_isN {H : Hp} {Q : VK} {x : V} (q : Q (.bl (decide (x = .non))) H) : (fun (x y : V) (H : Hp) (Q : VK) => y = .non ∧ Q (.bl (decide (x = .non))) H) x .non H Q := ⟨rfl, q⟩
def spSame (K : PySem.W.Frag) (d : Nat) : Sp := fun vs H Q _ => ∃ (x y : V) (t : PyData), vs = [x, y] ∧ Dp K H x t ∧ Dp K H y t ∧ sm d t ∧ Q (.bl true) H
theorem ok_same (T : Blt mg) (D_law_same : DefAt K mg "_law_same" s_law_same ["actual", "due"]) : ∀ d : Nat, FnOk P w K mg base CX0 d D_law_same.f D_law_same.fd ["actual", "due"] (spSame K d)
  | 0 => fn_none.imp fun vs H Q E h => by
    obtain ⟨_, _, _, _, _, _, h, _⟩ := h
    exact h
  | d + 1 => by
    have G_law_same := ok_same T D_law_same d
    refine D_law_same.F.ok sc_law_same (fun vs H Q E h => ?_) (fun cdv A outer s H vs Q E hr h => ?_)
    · obtain ⟨x, y, t, rfl, _⟩ := h
      rfl
    · obtain ⟨x, y, t, rfl, hx, hy, hd, q⟩ := h
      refine ⟨_, (pss_cons (ps_if (PW.pt (pw_or (pt_val (pe_callB (call_isiK (K := K) rfl) (by rfl) T.isinstance (by decide +kernel) (pa_cons (pv 1) (pa_cons (pe_bltn (v := .ty "tuple") (u := .type "tuple") (by rfl) T.tuple (by decide +kernel) rfl) pa_nil)))) (pw_or1 (pt_val (pe_callB (call_isiK (K := K) rfl) (by rfl) T.isinstance (by decide +kernel) (pa_cons (pv 1) (pa_cons (pe_bltn (v := .ty "list") (u := .type "list") (by rfl) T.list (by decide +kernel) rfl) pa_nil)))))))
        (pss_cons (ps_if (PW.pt (pw_or (pt_cmpR op_ne (pe_callB (call_isiK (K := K) rfl) (by rfl) T.isinstance (by decide +kernel) (pa_cons (pv 1) (pa_cons (pe_bltn (v := .ty "tuple") (u := .type "tuple") (by rfl) T.tuple (by decide +kernel) rfl) pa_nil))) (pe_callB (call_isiK (K := K) rfl) (by rfl) T.isinstance (by decide +kernel) (pa_cons (pv 0) (pa_cons (pe_bltn (v := .ty "tuple") (u := .type "tuple") (by rfl) T.tuple (by decide +kernel) rfl) pa_nil))) (nomark _)) (pw_or1 (pt_cmpR op_ne (pe_callB (call_isiK (K := K) rfl) (by rfl) T.isinstance (by decide +kernel) (pa_cons (pv 1) (pa_cons (pe_bltn (v := .ty "list") (u := .type "list") (by rfl) T.list (by decide +kernel) rfl) pa_nil))) (pe_callB (call_isiK (K := K) rfl) (by rfl) T.isinstance (by decide +kernel) (pa_cons (pv 0) (pa_cons (pe_bltn (v := .ty "list") (u := .type "list") (by rfl) T.list (by decide +kernel) rfl) pa_nil))) (nomark _)))))
          (pss_one (ps_ret pe_bl))
          pss_nil)
        (pss_cons (ps_if (pt_cmpR op_ne (pe_callB (call_lenK (K := K) rfl) (by rfl) T.len (by decide +kernel) (pa_cons (pv 0) pa_nil)) (pe_callB (call_lenK (K := K) rfl) (by rfl) T.len (by decide +kernel) (pa_cons (pv 1) pa_nil)) (nomark _))
          (pss_one (ps_ret pe_bl))
          pss_nil)
        (pss_cons (ps_for PassesOwn.never (by rfl) (pi_range1 (by rfl) T.range (pa_cons (pe_callB (call_lenK (K := K) rfl) (by rfl) T.len (by decide +kernel) (pa_cons (pv 1) pa_nil)) pa_nil)) (pg_name (i := 2) sc_law_same.nd rfl (Or.inl rfl))
          (pss_one (ps_if (pt_not (pt_val (pe_call G_law_same (hr.mono (by first | decide | omega)) (by rfl) D_law_same.g D_law_same.F.kp D_law_same.b .nil pass0 (pa_cons (pe_ix (ix_eitherK (K := K) rfl) (pv 0) (pv 2) (fun _ _ => rfl)) (pa_cons (pe_ix (ix_eitherK (K := K) rfl) (pv 1) (pv 2) (fun _ _ => rfl)) pa_nil)))))
            (pss_one (ps_ret pe_bl))
            pss_nil)))
        (pss_one (ps_ret pe_bl)))))
        pss_nil)
      (pss_cons (ps_if (pt_cmpR op_isN (pv 1) pe_non (nomark _))
        (pss_one (ps_ret (pe_cmpR op_isN (pv 0) pe_non (nomark _))))
        pss_nil)
      (pss_cons (ps_if (pt_val (pe_callB (call_isiK (K := K) rfl) (by rfl) T.isinstance (by decide +kernel) (pa_cons (pv 1) (pa_cons (pe_bltn (v := .ty "bool") (u := .type "bool") (by rfl) T.bool (by decide +kernel) rfl) pa_nil))))
        (pss_one (ps_ret (pe_and (pe_callB (call_isiK (K := K) rfl) (by rfl) T.isinstance (by decide +kernel) (pa_cons (pv 0) (pa_cons (pe_bltn (v := .ty "bool") (u := .type "bool") (by rfl) T.bool (by decide +kernel) rfl) pa_nil))) (pe_one (pe_cmpR (op_eqDK (K := K) rfl hr.units) (pv 0) (pv 1) (nomark _))))))
        pss_nil)
      (pss_cons (ps_if (pt_val (pe_callB (call_isiK (K := K) rfl) (by rfl) T.isinstance (by decide +kernel) (pa_cons (pv 1) (pa_cons (pe_bltn (v := .ty "int") (u := .type "int") (by rfl) T.int (by decide +kernel) rfl) pa_nil))))
        (pss_one (ps_ret (pe_and (pe_callB (call_isiK (K := K) rfl) (by rfl) T.isinstance (by decide +kernel) (pa_cons (pv 0) (pa_cons (pe_bltn (v := .ty "int") (u := .type "int") (by rfl) T.int (by decide +kernel) rfl) pa_nil))) (pe_and (pe_not (pe_callB (call_isiK (K := K) rfl) (by rfl) T.isinstance (by decide +kernel) (pa_cons (pv 0) (pa_cons (pe_bltn (v := .ty "bool") (u := .type "bool") (by rfl) T.bool (by decide +kernel) rfl) pa_nil)))) (pe_one (pe_cmpR (op_eqDK (K := K) rfl hr.units) (pv 0) (pv 1) (nomark _)))))))
        pss_nil)
      (pss_one (ps_ret (pe_and (pe_callB (call_isiK (K := K) rfl) (by rfl) T.isinstance (by decide +kernel) (pa_cons (pv 0) (pa_cons (pe_bltn (v := .ty "str") (u := .type "str") (by rfl) T.str (by decide +kernel) rfl) pa_nil))) (pe_one (pe_cmpR (op_eqDK (K := K) rfl hr.units) (pv 0) (pv 1) (nomark _)))))))))), ?_⟩
      refine r_at (σ := [some _, some _, none]) rfl ?_
      cases t with
      | none =>
        cases hx; cases hy
        walk_at "z"
        refine r_isiD .non (k := "NoneType") rfl (b := false) (by decide +kernel) ?_
        walk_at "z"
        refine r_isiD .non (k := "NoneType") rfl (b := false) (by decide +kernel) ?_
        walk_at "z"
        refine r_isN ?_
        walk_at "z"
        refine iteT ?_
        walk_at "z"
        refine r_isN ?_
        exact q
      | bool b =>
        cases hx; cases hy
        walk_at "z"
        refine r_isiD (.bl b) (k := "bool") rfl (b := false) (by decide +kernel) ?_
        walk_at "z"
        refine r_isiD (.bl b) (k := "bool") rfl (b := false) (by decide +kernel) ?_
        walk_at "z"
        refine r_isN ?_
        walk_at "z"
        refine iteF ?_
        walk_at "z"
        refine r_isiD (.bl b) (k := "bool") rfl (b := true) (by decide +kernel) ?_
        walk_at "z"
        refine r_isiD (.bl b) (k := "bool") rfl (b := true) (by decide +kernel) ?_
        walk_at "z"
        exact r_eqD (.bl b) (.bl b) (by simp [PyData.canLay0]) (by simp [PyData.depth]) q
      | int i =>
        cases hx; cases hy
        walk_at "z"
        refine r_isiD (.int i) (k := "int") rfl (b := false) (by decide +kernel) ?_
        walk_at "z"
        refine r_isiD (.int i) (k := "int") rfl (b := false) (by decide +kernel) ?_
        walk_at "z"
        refine r_isN ?_
        walk_at "z"
        refine iteF ?_
        walk_at "z"
        refine r_isiD (.int i) (k := "int") rfl (b := false) (by decide +kernel) ?_
        walk_at "z"
        refine r_isiD (.int i) (k := "int") rfl (b := true) (by decide +kernel) ?_
        walk_at "z"
        refine r_isiD (.int i) (k := "int") rfl (b := true) (by decide +kernel) ?_
        walk_at "z"
        refine r_isiD (.int i) (k := "int") rfl (b := false) (by decide +kernel) ?_
        walk_at "z"
        refine iteT ?_
        walk_at "z"
        exact r_eqD (.int i) (.int i) (by simp [PyData.canLay0]) (by simp [PyData.depth]) q
      | str z =>
        cases hx; cases hy
        walk_at "z"
        refine r_isiD (.str z) (k := "str") rfl (b := false) (by decide +kernel) ?_
        walk_at "z"
        refine r_isiD (.str z) (k := "str") rfl (b := false) (by decide +kernel) ?_
        walk_at "z"
        refine r_isN ?_
        walk_at "z"
        refine iteF ?_
        walk_at "z"
        refine r_isiD (.str z) (k := "str") rfl (b := false) (by decide +kernel) ?_
        walk_at "z"
        refine r_isiD (.str z) (k := "str") rfl (b := false) (by decide +kernel) ?_
        walk_at "z"
        refine r_isiD (.str z) (k := "str") rfl (b := true) (by decide +kernel) ?_
        walk_at "z"
        exact r_eqD (.str z) (.str z) (by unfold PyData.canLay0; exact hd) (by simp [PyData.depth]) q
      | list ds =>
        obtain ⟨hn, hm⟩ := hd
        cases id hx with
        | @lst a xs _ hxs hxd =>
        cases id hy with
        | @lst b ys _ hys hyd =>
        have px := DpAll.pd _ hxd
        have py := DpAll.pd _ hyd
        have lx := px.length
        have ly := py.length
        walk_at "z"
        refine r_isiD hy (k := "list") rfl (b := false) (by decide +kernel) ?_
        walk_at "z"
        refine r_isiD hy (k := "list") rfl (b := true) (by decide +kernel) ?_
        walk_at "z"
        refine r_isiD hy (k := "list") rfl (b := false) (by decide +kernel) ?_
        walk_at "z"
        refine r_isiD hx (k := "list") rfl (b := false) (by decide +kernel) ?_
        walk_at "z"
        refine iteF ?_
        walk_at "z"
        refine r_isiD hy (k := "list") rfl (b := true) (by decide +kernel) ?_
        walk_at "z"
        refine r_isiD hx (k := "list") rfl (b := true) (by decide +kernel) ?_
        walk_at "z"
        refine iteF ?_
        walk_at "z"
        refine r_iteN (fun h => absurd (by omega) h) (fun _ => ?_)
        walk_at "z"
        walk_at "z"
        refine r_rg1 (by omega) (forR_range (fun i σ' H' => H' = H ∧ ∃ x2, σ' = [some (.ref a), some (.ref b), x2]) ⟨rfl, _, rfl⟩ ?_ ?_)
        · rintro i σ' H' hi ⟨rfl, x2, rfl⟩
          have hi' : i < ds.length := by omega
          obtain ⟨x, hxi, hxt⟩ := pd_get2 px (List.getElem?_eq_getElem hi')
          obtain ⟨y, hyi, hyt⟩ := pd_get2 py (List.getElem?_eq_getElem hi')
          have e0 : (0 : Int) + (i : Int) = i := by omega
          walk_at "z"
          rw [e0]
          refine r_ixE (.inl hxs) (atI_nat hxi) ?_
          walk_at "z"
          refine r_ixE (.inl hys) (atI_nat hyi) ?_
          walk_at "z"
          refine ⟨x, y, ds[i], rfl, hxt, hyt, hm _ (List.getElem_mem hi'), ?_⟩
          walk_at "z"
          refine iteF ?_
          exact ⟨rfl, _, rfl⟩
        · rintro σ' H' ⟨rfl, x2, rfl⟩
          walk_at "z"
          exact q
      | tuple ds =>
        obtain ⟨hn, hm⟩ := hd
        cases id hx with
        | @tup a xs _ hxs hxd =>
        cases id hy with
        | @tup b ys _ hys hyd =>
        have px := DpAll.pd _ hxd
        have py := DpAll.pd _ hyd
        have lx := px.length
        have ly := py.length
        walk_at "z"
        refine r_isiD hy (k := "tuple") rfl (b := true) (by decide +kernel) ?_
        walk_at "z"
        refine r_isiD hy (k := "tuple") rfl (b := true) (by decide +kernel) ?_
        walk_at "z"
        refine r_isiD hx (k := "tuple") rfl (b := true) (by decide +kernel) ?_
        walk_at "z"
        refine iteF ?_
        walk_at "z"
        refine r_isiD hy (k := "tuple") rfl (b := false) (by decide +kernel) ?_
        walk_at "z"
        refine r_isiD hx (k := "tuple") rfl (b := false) (by decide +kernel) ?_
        walk_at "z"
        refine iteF ?_
        walk_at "z"
        refine r_iteN (fun h => absurd (by omega) h) (fun _ => ?_)
        walk_at "z"
        walk_at "z"
        refine r_rg1 (by omega) (forR_range (fun i σ' H' => H' = H ∧ ∃ x2, σ' = [some (.ref a), some (.ref b), x2]) ⟨rfl, _, rfl⟩ ?_ ?_)
        · rintro i σ' H' hi ⟨rfl, x2, rfl⟩
          have hi' : i < ds.length := by omega
          obtain ⟨x, hxi, hxt⟩ := pd_get2 px (List.getElem?_eq_getElem hi')
          obtain ⟨y, hyi, hyt⟩ := pd_get2 py (List.getElem?_eq_getElem hi')
          have e0 : (0 : Int) + (i : Int) = i := by omega
          walk_at "z"
          rw [e0]
          refine r_ixE (.inr hxs) (atI_nat hxi) ?_
          walk_at "z"
          refine r_ixE (.inr hys) (atI_nat hyi) ?_
          walk_at "z"
          refine ⟨x, y, ds[i], rfl, hxt, hyt, hm _ (List.getElem_mem hi'), ?_⟩
          walk_at "z"
          refine iteF ?_
          exact ⟨rfl, _, rfl⟩
        · rintro σ' H' ⟨rfl, x2, rfl⟩
          walk_at "z"
          exact q
      | dict ds => exact hd.elim
end

set_option Elab.async false
set_option linter.all false
set_option maxRecDepth 100000
set_option maxHeartbeats 4000000
open PySem PySem.Spec PyProof.Rows L2 LamX RZ

abbrev s_is_integer : Stmt := topS 1
theorem sc_is_integer : FnScope ["value"] ["value"] (defScope s_is_integer) := ⟨rfl, rfl, rfl, by decide +kernel, rfl, by decide +kernel, by decide +kernel⟩

abbrev s_is_tuple : Stmt := topS 2
theorem sc_is_tuple : FnScope ["value", "many"] ["value", "many"] (defScope s_is_tuple) := ⟨rfl, rfl, rfl, by decide +kernel, rfl, by decide +kernel, by decide +kernel⟩

abbrev s_is_vertex : Stmt := topS 3
theorem sc_is_vertex : FnScope ["n", "value"] ["n", "value"] (defScope s_is_vertex) := ⟨rfl, rfl, rfl, by decide +kernel, rfl, by decide +kernel, by decide +kernel⟩

abbrev s_are_vertices : Stmt := topS 4
theorem sc_are_vertices : FnScope ["n", "value", "v"] ["n", "value"] (defScope s_are_vertices) := ⟨rfl, rfl, rfl, by decide +kernel, rfl, by decide +kernel, by decide +kernel⟩

abbrev s_is_set : Stmt := topS 5
theorem sc_is_set : FnScope ["n", "value"] ["n", "value"] (defScope s_is_set) := ⟨rfl, rfl, rfl, by decide +kernel, rfl, by decide +kernel, by decide +kernel⟩

abbrev s_is_ascending : Stmt := topS 6
theorem sc_is_ascending : FnScope ["items", "at"] ["items"] (defScope s_is_ascending) := ⟨rfl, rfl, rfl, by decide +kernel, rfl, by decide +kernel, by decide +kernel⟩

/-- the name of a generator expression in the def x -/
def genN (x : Str) : Str := (envOfC x default 0 0 .none).qual ++ "<genexpr>"
theorem ty_dx {K : PySem.W.Frag} {a : Addr} {H : Hp} {x : V} {t : PyData} (h : DX a H x t) : TyX K H x (.type (kd t)) := by
  cases h with
  | non => exact .base .non
  | bl b => exact .base (.bl b)
  | int i => exact .base (.int i)
  | str s => exact .base (.str s)
  | lst _ h _ => exact .base (.lst h)
  | tup h _ => exact h.elim (fun h => .base (.tup h)) fun ⟨o, h⟩ => .fTuple h
  | dk _ h => exact .base (.dK h)
theorem r_isiX {K : PySem.W.Frag} {a : Addr} {H : Hp} {Q : VK} {x : V} {t : PyData} {c k : String} {b : Bool} (h : DX a H x t) (e1 : kd t = k) (e : kitB k c = some b) (q : Q (.bl b) H) : rIsi K [x, .ty c] H Q :=
  ⟨x, .ty c, .type k, .type c, b, rfl, .ty _, e1 ▸ ty_dx h, kit_ty e, q⟩
/-- the kinds -/
def tupD : PyData → Bool
  | .tuple _ => true
  | _ => false
theorem kit_tup (t : PyData) : kitB (kd t) "tuple" = some (tupD t) := by
  cases t with
  | none => exact (show kitB "NoneType" "tuple" = some false by decide +kernel)
  | bool b => exact (show kitB "bool" "tuple" = some false by decide +kernel)
  | int b => exact (show kitB "int" "tuple" = some false by decide +kernel)
  | str b => exact (show kitB "str" "tuple" = some false by decide +kernel)
  | list b => exact (show kitB "list" "tuple" = some false by decide +kernel)
  | tuple b => exact (show kitB "tuple" "tuple" = some true by decide +kernel)
  | dict b => exact (show kitB "dict" "tuple" = some false by decide +kernel)
theorem tupD_of {t : PyData} (h : tupD t = true) : ∃ ds, t = .tuple ds := by
  cases t with
  | tuple ds => exact ⟨ds, rfl⟩
  | _ => exact absurd h Bool.false_ne_true
/-- each item less than the next -/
def adjI (ns : List Int) : Prop := ∀ (j : Nat) x y, ns[j]? = some x → ns[j + 1]? = some y → x < y
def adjP (ps : List (Int × Int)) : Prop := ∀ (j : Nat) x y, ps[j]? = some x → ps[j + 1]? = some y → ltP x y
def edgD (n : Int) (d : PyData) : Prop := ∃ u v : Int, d = .tuple [.int u, .int v] ∧ 0 ≤ u ∧ u < v ∧ v < n
section
variable {P : Program} {w : World} {K : PySem.W.Frag} {mg : Str → Option Value} {base : Heap}
def spIntX (b : Addr) : Sp := fun vs H Q _ => ∃ (v : V) (d : PyData), vs = [v] ∧ DX b H v d ∧ Q (.bl (intD d)) H
theorem ok_intX {b : Addr} (T : Blt mg) (D : DefAt K mg "is_integer" s_is_integer ["value"]) : FnOk P w K mg base CX0 1 D.f D.fd ["value"] (spIntX b) := by
  refine D.F.ok sc_is_integer (fun vs H Q E h => ?_) (fun cdv A outer s H vs Q E hr h => ?_)
  · obtain ⟨v, d, rfl, _⟩ := h
    rfl
  · obtain ⟨v, d, rfl, hd, q⟩ := h
    refine ⟨_, (pss_one (ps_ret (pe_and (pe_callB (call_isiK (K := K) rfl) (by rfl) T.isinstance (by decide +kernel) (pa_cons (pv 0) (pa_cons (pe_bltn (v := .ty "int") (u := .type "int") (by rfl) T.int (by decide +kernel) rfl) pa_nil))) (pe_one (pe_not (pe_callB (call_isiK (K := K) rfl) (by rfl) T.isinstance (by decide +kernel) (pa_cons (pv 0) (pa_cons (pe_bltn (v := .ty "bool") (u := .type "bool") (by rfl) T.bool (by decide +kernel) rfl) pa_nil)))))))), ?_⟩
    refine r_at (σ := [some _]) rfl ?_
    walk_at "z"
    cases d with
    | int i =>
      refine r_isiX hd (k := "int") rfl (b := true) (by decide +kernel) ?_
      walk_at "z"
      refine r_isiX hd (k := "int") rfl (b := false) (by decide +kernel) ?_
      walk_at "z"
      exact q
    | bool i =>
      refine r_isiX hd (k := "bool") rfl (b := true) (by decide +kernel) ?_
      walk_at "z"
      refine r_isiX hd (k := "bool") rfl (b := true) (by decide +kernel) ?_
      walk_at "z"
      exact q
    | none =>
      refine r_isiX hd (k := "NoneType") rfl (b := false) (by decide +kernel) ?_
      walk_at "z"
      exact q
    | str x =>
      refine r_isiX hd (k := "str") rfl (b := false) (by decide +kernel) ?_
      walk_at "z"
      exact q
    | list ds =>
      refine r_isiX hd (k := "list") rfl (b := false) (by decide +kernel) ?_
      walk_at "z"
      exact q
    | tuple ds =>
      refine r_isiX hd (k := "tuple") rfl (b := false) (by decide +kernel) ?_
      walk_at "z"
      exact q
    | dict ds =>
      refine r_isiX hd (k := "dict") rfl (b := false) (by decide +kernel) ?_
      walk_at "z"
      exact q
def lenD (m : Int) : PyData → Bool
  | .tuple ds => decide ((ds.length : Int) = m)
  | _ => false
def spTupX (b : Addr) : Sp := fun vs H Q _ => ∃ (v : V) (d : PyData) (m : Int), vs = [v, .int m] ∧ DX b H v d ∧ Q (.bl (lenD m d)) H
theorem ok_tupX {b : Addr} (T : Blt mg) (D : DefAt K mg "is_tuple" s_is_tuple ["value", "many"]) : FnOk P w K mg base CX0 1 D.f D.fd ["value", "many"] (spTupX b) := by
  refine D.F.ok sc_is_tuple (fun vs H Q E h => ?_) (fun cdv A outer s H vs Q E hr h => ?_)
  · obtain ⟨v, d, m, rfl, _⟩ := h
    rfl
  · obtain ⟨v, d, m, rfl, hd, q⟩ := h
    refine ⟨_, (pss_one (ps_ret (pe_and (pe_callB (call_isiK (K := K) rfl) (by rfl) T.isinstance (by decide +kernel) (pa_cons (pv 0) (pa_cons (pe_bltn (v := .ty "tuple") (u := .type "tuple") (by rfl) T.tuple (by decide +kernel) rfl) pa_nil))) (pe_one (pe_cmpR op_eq (pe_callB (call_lenK (K := K) rfl) (by rfl) T.len (by decide +kernel) (pa_cons (pv 0) pa_nil)) (pv 1) (nomark _)))))), ?_⟩
    refine r_at (σ := [some _, some _]) rfl ?_
    walk_at "z"
    refine r_isiX hd rfl (kit_tup d) ?_
    cases e : tupD d with
    | false =>
      walk_at "z"
      have : lenD m d = false := by
        cases d with
        | tuple ds => exact absurd e.symm Bool.false_ne_true
        | _ => rfl
      rw [this] at q
      exact q
    | true =>
      obtain ⟨ds, rfl⟩ := tupD_of e
      cases id hd with
      | @tup p xs _ hp hxd =>
      have hq : SqT K H p xs := .inl hp
      walk_at "z"
      rw [hxd.len]
      exact q
def spVxX (b : Addr) : Sp := fun vs H Q _ => ∃ (n : Int) (v : V) (d : PyData), vs = [.int n, v] ∧ DX b H v d ∧ Q (.bl (verD n d)) H
theorem ok_vxX {b : Addr} (T : Blt mg) (D : DefAt K mg "is_vertex" s_is_vertex ["n", "value"]) (D_is_integer : DefAt K mg "is_integer" s_is_integer ["value"]) (G_is_integer : FnOk P w K mg base CX0 1 D_is_integer.f D_is_integer.fd ["value"] (spIntX b)) :
    FnOk P w K mg base CX0 2 D.f D.fd ["n", "value"] (spVxX b) := by
  refine D.F.ok sc_is_vertex (fun vs H Q E h => ?_) (fun cdv A outer s H vs Q E hr h => ?_)
  · obtain ⟨n, v, d, rfl, _⟩ := h
    rfl
  · obtain ⟨n, v, d, rfl, hd, q⟩ := h
    refine ⟨_, (pss_one (ps_ret (pe_and (pe_call G_is_integer (hr.mono (by first | decide | omega)) (by rfl) D_is_integer.g D_is_integer.F.kp D_is_integer.b .nil pass0 (pa_cons (pv 1) pa_nil)) (pe_one (pe_chain op_le op_lt pe_int (pv 1) (pv 0)))))), ?_⟩
    refine r_at (σ := [some _, some _]) rfl ?_
    walk_at "z"
    refine ⟨v, d, rfl, hd, ?_⟩
    walk_at "z"
    cases d with
    | int i =>
      cases hd
      walk_at "z"
      refine iteT ?_
      walk_at "z"
      refine r_ite (fun h => ?_) (fun h => ?_)
      · walk_at "z"
        have e : verD n (.int i) = decide (i < n) := by simp [verD, h]
        rw [e] at q
        exact q
      · have e : verD n (.int i) = false := by simp [verD, h]
        rw [e] at q
        exact q
    | _ => exact iteF q
def spVsX (b : Addr) (TT : List (Addr × Str)) : Sp := fun vs H Q _ => ∃ (n : Int) (v : V) (d : PyData), vs = [.int n, v] ∧ DX b H v d ∧ Tabs TT H ∧ ∀ H', ExtN H H' → Tabs TT H' → Q (.bl (versD n d)) H'
theorem all_take {α : Type} {p : α → Bool} {l : List α} {i : Nat} {x : α} (h : l[i]? = some x) (t : (l.take i).all p = true) : (l.take (i + 1)).all p = p x := by
  rw [take_next h, List.all_append, t, Bool.true_and, List.all_cons, List.all_nil, Bool.and_true]
theorem all_false {α : Type} {p : α → Bool} {l : List α} {i : Nat} {x : α} (h : l[i]? = some x) (t : p x = false) : l.all p = false := by
  cases e : l.all p with
  | false => rfl
  | true =>
    have := List.all_eq_true.mp e x (List.mem_of_getElem? h)
    rw [t] at this
    cases this
theorem ok_vsX {b c PT : Addr} {TT : List (Addr × Str)} (TB : TabB base mg c PT) (hm9 : (PT, genN "are_vertices") ∈ TT) (hu9 : ∀ p ∈ TT, p.1 = PT → p.2 = genN "are_vertices") (T : Blt mg) (z_all : mg "all" = none) (D : DefAt K mg "are_vertices" s_are_vertices ["n", "value"]) (hco : D.fd.code = .ref c)
    (D_is_vertex : DefAt K mg "is_vertex" s_is_vertex ["n", "value"]) (G_is_vertex : FnOk P w K mg base CX0 2 D_is_vertex.f D_is_vertex.fd ["n", "value"] (spVxX b)) : FnOk P w K mg base CX0 7 D.f D.fd ["n", "value"] (spVsX b TT) := by
  refine okV D.F sc_are_vertices (fun vs H Q E h => ?_) (fun cdv A outer s H vs Q E hcv hr h => ?_)
  · obtain ⟨n, v, d, rfl, _⟩ := h
    rfl
  · obtain ⟨n, v, d, rfl, hd, hT, q⟩ := h
    obtain rfl : cdv = .ref c := hcv.symm.trans hco
    refine ⟨_, (pss_one (ps_ret (pe_and (pe_callB (call_isiK (K := K) rfl) (by rfl) T.isinstance (by decide +kernel) (pa_cons (pv 1) (pa_cons (pe_bltn (v := .ty "tuple") (u := .type "tuple") (by rfl) T.tuple (by decide +kernel) rfl) pa_nil))) (pe_one (pe_allG (k := 3) (hr.mono (by first | decide | omega)) (by rfl) z_all (by decide +kernel) TB rfl hm9 hu9 (genS1_by (sc := defScope s_are_vertices) (by decide +kernel)) (ix := 2) rfl sc_are_vertices.nd (show (".0" : Str) ∉ (["n", "value", "v"] : List Str) by decide +kernel) (PI.tupK (K := K) rfl (pi_tup (pv 1))) (fun _ _ _ _ _ _ => (pg_name (i := 2) sc_are_vertices.nd rfl (Or.inl rfl))) (fun _ _ _ _ _ _ hr => (pe_call G_is_vertex (hr.mono (by first | decide | omega)) (by rfl) D_is_vertex.g D_is_vertex.F.kp D_is_vertex.b .nil pass0 (pa_cons (pv 0) (pa_cons (pv 2) pa_nil))))))))), ?_⟩
    refine r_at (σ := [some _, some _, none]) rfl ?_
    walk_at "z"
    refine r_isiX hd rfl (kit_tup d) ?_
    cases et : tupD d with
    | false =>
      walk_at "z"
      have : versD n d = false := by
        cases d with
        | tuple ds => exact absurd et.symm Bool.false_ne_true
        | _ => rfl
      have := this ▸ q H (ExtN.refl H) hT
      exact this
    | true =>
      obtain ⟨ds, rfl⟩ := tupD_of et
      cases id hd with
      | @tup p xs _ hxs hxd =>
      walk_at "z"
      refine r_it (.inl hxs) ⟨hT, fun H2 e2 T2 => gall_tup (xs := xs) (fun i H' => H' = H2 ∧ (ds.take i).all (verD n) = true) (by walk_at "zw") ⟨rfl, rfl⟩ (fun i H' _ ⟨e, _⟩ => e ▸ .inl (hxs.ext e2)) ?_ ?_⟩
      · rintro i x H' hx ⟨rfl, al⟩
        obtain ⟨d, hd1, fd⟩ := pd_get (DXs.pd _ (hxd.ext e2)) hx
        walk_at "z"
        refine ⟨rfl, ?_⟩
        walk_at "z"
        refine ⟨n, x, d, rfl, fd, ?_⟩
        refine r_genE ?_
        cases e : verD n d with
        | true => exact ⟨rfl, (all_take hd1 al).trans e⟩
        | false =>
          have := q H' e2 T2
          rw [show versD n (.tuple ds) = ds.all (verD n) from rfl, all_false hd1 e] at this
          exact this
      · rintro H' ⟨rfl, al⟩
        rw [hxd.len, List.take_length] at al
        have := q H' e2 T2
        rw [show versD n (.tuple ds) = ds.all (verD n) from rfl, al] at this
        exact this
end

set_option Elab.async false
set_option linter.all false
set_option maxRecDepth 100000
set_option maxHeartbeats 4000000
open PySem PySem.Spec PyProof.Rows L2 LamX RZ

theorem lex_pair {p q : Int × Int} : HT.lexLt [p.1, p.2] [q.1, q.2] = true ↔ ltP p q := by
  rw [HT.lexLt_cons, HT.lexLt_cons, HT.lexLt_nil_nil]
  unfold ltP
  by_cases h : p.1 = q.1
  · rw [if_pos h]
    by_cases k : p.2 = q.2
    · rw [if_pos k]
      simp [h, k]
    · rw [if_neg k, decide_eq_true_eq]
      omega
  · rw [if_neg h, decide_eq_true_eq]
    omega
def prX (p : Int × Int) : PyData := .tuple [.int p.1, .int p.2]
def setX (n : Int) (d : PyData) : Prop := ∃ ns : List Int, d = .tuple (ns.map PyData.int) ∧ (∀ z ∈ ns, 0 ≤ z ∧ z < n) ∧ adjI ns
def edsX (n : Int) (d : PyData) : Prop := ∃ ps : List (Int × Int), d = .tuple (ps.map prX) ∧ (∀ p ∈ ps, 0 ≤ p.1 ∧ p.1 < p.2 ∧ p.2 < n) ∧ adjP ps
def gphX (d : PyData) : Prop := ∃ (n : Int) (ps : List (Int × Int)), d = .tuple [.int n, .tuple (ps.map prX)] ∧ 1 ≤ n ∧ n ≤ 60 ∧ (∀ p ∈ ps, 0 ≤ p.1 ∧ p.1 < p.2 ∧ p.2 < n) ∧ adjP ps
theorem ints_inj {ns ms : List Int} (h : ns.map PyData.int = ms.map PyData.int) : ns = ms := List.map_inj_right (fun a b e => by cases e; rfl) |>.mp h
theorem prX_inj {p q : Int × Int} (h : prX p = prX q) : p = q := by
  obtain ⟨a, b⟩ := p
  obtain ⟨c, d⟩ := q
  have := PyData.tuple.inj h
  simp only [List.cons.injEq, PyData.int.injEq, and_true] at this
  exact Prod.ext this.1 this.2
theorem prXs_inj {ps qs : List (Int × Int)} (h : ps.map prX = qs.map prX) : ps = qs := List.map_inj_right (fun a b e => prX_inj e) |>.mp h
theorem dx_ints {a : Addr} {H : Hp} : ∀ {ns : List Int} {vs : List V}, DXs a H vs (ns.map PyData.int) → vs = ns.map V.int
  | [], _, h => by cases h; rfl
  | n :: ns, _, h => by
    cases h with
    | cons h1 h2 =>
      cases h1
      rw [dx_ints h2]
      rfl
/-- a pair, how ever it came -/
def IsPX (H : Hp) (x : V) (p : Int × Int) : Prop := ∃ t, x = .ref t ∧ ST H t [.int p.1, .int p.2]
abbrev PrsX (H : Hp) : List V → List (Int × Int) → Prop := Paired (IsPX H)
theorem PrsX.ext {H H' : Hp} (s : ExtN H H') : ∀ {xs : List V} {ps : List (Int × Int)}, PrsX H xs ps → PrsX H' xs ps
  | _, _, .nil => .nil
  | _, _, .cons ⟨t, e, h⟩ r => .cons ⟨t, e, h.ext s⟩ (PrsX.ext s r)
theorem dx_pr {a : Addr} {H : Hp} {x : V} {p : Int × Int} (h : DX a H x (prX p)) : IsPX H x p := by
  unfold prX at h
  cases h with
  | tup hp hx =>
    have := dx_ints (ns := [p.1, p.2]) hx
    subst this
    exact ⟨_, rfl, hp⟩
theorem dx_prs {a : Addr} {H : Hp} : ∀ {ps : List (Int × Int)} {vs : List V}, DXs a H vs (ps.map prX) → PrsX H vs ps
  | [], _, h => by cases h; exact .nil
  | p :: ps, _, h => by
    cases h with
    | cons h1 h2 => exact .cons (dx_pr h1) (dx_prs h2)
theorem dx_of_prs {a : Addr} {H : Hp} : ∀ {ps : List (Int × Int)} {vs : List V}, Prs H vs ps → DXs a H vs (ps.map prX)
  | _, _, .nil => .nil
  | _, _, .cons ⟨t, e, h⟩ r => by
    subst e
    exact .cons (.tup (.inl h) (.cons (.int _) (.cons (.int _) .nil))) (dx_of_prs r)
/-- the items that are edges, one by one -/
theorem eds_of {n : Int} : ∀ {ds : List PyData}, (∀ d ∈ ds, edgD n d) → ∃ ps : List (Int × Int), ds = ps.map prX ∧ ∀ p ∈ ps, 0 ≤ p.1 ∧ p.1 < p.2 ∧ p.2 < n
  | [], _ => ⟨[], rfl, fun p hp => (nomatch hp)⟩
  | d :: ds, h => by
    obtain ⟨ps, e, hp⟩ := eds_of (n := n) (ds := ds) fun d hd => h d (List.mem_cons_of_mem _ hd)
    obtain ⟨u, v, rfl, h1, h2, h3⟩ := h d List.mem_cons_self
    refine ⟨(u, v) :: ps, by rw [e]; rfl, fun p hp' => ?_⟩
    rcases List.mem_cons.mp hp' with rfl | c
    · exact ⟨h1, h2, h3⟩
    · exact hp p c
section
variable {P : Program} {w : World} {K : PySem.W.Frag} {mg : Str → Option Value} {base : Heap}
def spAscX (TT : List (Addr × Str)) : Sp := fun vs H Q _ => ∃ p : Addr, vs = [.ref p] ∧ Tabs TT H ∧
  ((∃ ns : List Int, ST H p (ns.map V.int) ∧ ns.length ≤ 100000 ∧ ∀ (b : Bool) H', ExtN H H' → Tabs TT H' → (b = true ↔ adjI ns) → Q (.bl b) H') ∨
   (∃ (xs : List V) (ps : List (Int × Int)), ST H p xs ∧ PrsX H xs ps ∧ ps.length ≤ 100000 ∧ ∀ (b : Bool) H', ExtN H H' → Tabs TT H' → (b = true ↔ adjP ps) → Q (.bl b) H'))
theorem ok_ascX {c PT : Addr} {TT : List (Addr × Str)} (TB : TabB base mg c PT) (hm9 : (PT, genN "is_ascending") ∈ TT) (hu9 : ∀ p ∈ TT, p.1 = PT → p.2 = genN "is_ascending") (T : Blt mg) (z_all : mg "all" = none) (D : DefAt K mg "is_ascending" s_is_ascending ["items"]) (hco : D.fd.code = .ref c) :
    FnOk P w K mg base CX0 7 D.f D.fd ["items"] (spAscX TT) := by
  refine okV D.F sc_is_ascending (fun vs H Q E h => ?_) (fun cdv A outer s H vs Q E hcv hr h => ?_)
  · obtain ⟨p, rfl, _⟩ := h
    rfl
  · obtain ⟨p, rfl, hT, h⟩ := h
    obtain rfl : cdv = .ref c := hcv.symm.trans hco
    refine ⟨_, (pss_one (ps_ret (pe_allG (k := 3) (hr.mono (by first | decide | omega)) (by rfl) z_all (by decide +kernel) TB rfl hm9 hu9 (genS1_by (sc := defScope s_is_ascending) (by decide +kernel)) (ix := 1) rfl sc_is_ascending.nd (show (".0" : Str) ∉ (["items", "at"] : List Str) by decide +kernel) (pi_range1 (by rfl) T.range (pa_cons (pe_op op_sub (pe_callB (call_lenK (K := K) rfl) (by rfl) T.len (by decide +kernel) (pa_cons (pv 0) pa_nil)) pe_int) pa_nil)) (fun _ _ _ _ _ _ => (pg_name (i := 1) sc_is_ascending.nd rfl (Or.inl rfl))) (fun _ _ _ _ _ _ hr => (pe_cmpR (op_ltIT (K := K) rfl hr.units) (pe_ix (ix_tupK (K := K) rfl) (pv 0) (pv 1) (fun _ _ => rfl)) (pe_ix (ix_tupK (K := K) rfl) (pv 0) (pe_op op_add (pv 1) pe_int) (fun _ _ => rfl)) (nomark _)))))), ?_⟩
    refine r_at (σ := [some _, none]) rfl ?_
    rcases h with ⟨ns, hp, ln, q⟩ | ⟨xs, ps, hp, hxs, ln, q⟩
    · have hq : SqT K H p (ns.map V.int) := .inl hp
      walk_at "z"
      rw [List.length_map]
      refine r_rg1 (by omega) ⟨hT, fun H2 e2 T2 => gall_range (fun i H' => H' = H2 ∧ ∀ j : Nat, j < i → ∀ x y, ns[j]? = some x → ns[j + 1]? = some y → x < y) (by walk_at "zw") ⟨rfl, fun j hj => absurd hj (Nat.not_lt_zero j)⟩ ?_ ?_⟩
      · rintro i H' hi ⟨rfl, al⟩
        have hp2 := hp.ext e2
        have hq2 : SqT K H' p _ := .inl hp2
        obtain ⟨x, hx⟩ : ∃ x, ns[i]? = some x := ⟨_, List.getElem?_eq_getElem (by omega)⟩
        obtain ⟨y, hy⟩ : ∃ x, ns[i + 1]? = some x := ⟨_, List.getElem?_eq_getElem (by omega)⟩
        walk_at "z"
        refine ⟨rfl, ?_⟩
        walk_at "z"
        refine r_ixT (.inl hp2) (at_of (j := i) (by omega) (by rw [List.getElem?_map, hx]; rfl)) ?_
        walk_at "z"
        refine r_ixT (.inl hp2) (at_of (j := i + 1) (by omega) (by rw [List.getElem?_map, hy]; rfl)) ?_
        walk_at "z"
        refine r_ltI ?_
        refine r_genE ?_
        by_cases c : x < y
        · rw [decide_eq_true c]
          refine ⟨rfl, fun j hj x' y' hx' hy' => ?_⟩
          by_cases ej : j = i
          · rw [ej] at hx' hy'
            rw [hx] at hx'
            rw [hy] at hy'
            cases hx'
            cases hy'
            exact c
          · exact al j (by omega) x' y' hx' hy'
        · rw [decide_eq_false c]
          exact q false H' e2 T2 ⟨fun h => (nomatch h), fun h => (c (h i x y hx hy)).elim⟩
      · rintro H' ⟨rfl, al⟩
        refine q true H' e2 T2 ⟨fun _ j x y hx hy => al j ?_ x y hx hy, fun _ => rfl⟩
        have := (List.getElem?_eq_some_iff.mp hy).1
        omega
    · have lx := hxs.length
      have hq : SqT K H p xs := .inl hp
      walk_at "z"
      refine r_rg1 (by omega) ⟨hT, fun H2 e2 T2 => gall_range (fun i H' => H' = H2 ∧ ∀ j : Nat, j < i → ∀ x y, ps[j]? = some x → ps[j + 1]? = some y → ltP x y) (by walk_at "zw") ⟨rfl, fun j hj => absurd hj (Nat.not_lt_zero j)⟩ ?_ ?_⟩
      · rintro i H' hi ⟨rfl, al⟩
        have hp2 := hp.ext e2
        have hq2 : SqT K H' p _ := .inl hp2
        have hxs2 := hxs.ext e2
        obtain ⟨x, hx⟩ : ∃ x, ps[i]? = some x := ⟨_, List.getElem?_eq_getElem (by omega)⟩
        obtain ⟨y, hy⟩ : ∃ x, ps[i + 1]? = some x := ⟨_, List.getElem?_eq_getElem (by omega)⟩
        obtain ⟨x', hx', ⟨ta, rfl, hta⟩⟩ := pd_get2 hxs2 hx
        obtain ⟨y', hy', ⟨tb, rfl, htb⟩⟩ := pd_get2 hxs2 hy
        walk_at "z"
        refine ⟨rfl, ?_⟩
        walk_at "z"
        refine r_ixT (.inl hp2) (at_of (j := i) (by omega) hx') ?_
        walk_at "z"
        refine r_ixT (.inl hp2) (at_of (j := i + 1) (by omega) hy') ?_
        walk_at "z"
        refine r_ltT ⟨ta, tb, [x.1, x.2], [y.1, y.2], rfl, rfl, .inl hta, .inl htb, ?_⟩
        refine r_genE ?_
        cases c : HT.lexLt [x.1, x.2] [y.1, y.2] with
        | true =>
          refine ⟨rfl, fun j hj x' y' hx' hy' => ?_⟩
          by_cases ej : j = i
          · rw [ej] at hx' hy'
            rw [hx] at hx'
            rw [hy] at hy'
            cases hx'
            cases hy'
            exact lex_pair.mp c
          · exact al j (by omega) x' y' hx' hy'
        | false =>
          exact q false H' e2 T2 ⟨fun h => (nomatch h), fun h => by
            have := lex_pair.mpr (h i x y hx hy)
            rw [c] at this
            cases this⟩
      · rintro H' ⟨rfl, al⟩
        refine q true H' e2 T2 ⟨fun _ j x y hx hy => al j ?_ x y hx hy, fun _ => rfl⟩
        have := (List.getElem?_eq_some_iff.mp hy).1
        omega
def spSetX (b : Addr) (TT : List (Addr × Str)) : Sp := fun vs H Q _ => ∃ (n : Int) (v : V) (d : PyData), vs = [.int n, v] ∧ DX b H v d ∧ (∀ ds, d = .tuple ds → ds.length ≤ 100000) ∧ Tabs TT H ∧ ∀ (r : Bool) H', ExtN H H' → Tabs TT H' → (r = true ↔ setX n d) → Q (.bl r) H'
theorem ok_setX {b : Addr} {TT : List (Addr × Str)} (T : Blt mg) (D : DefAt K mg "is_set" s_is_set ["n", "value"]) (D_are_vertices : DefAt K mg "are_vertices" s_are_vertices ["n", "value"]) (G_are_vertices : FnOk P w K mg base CX0 7 D_are_vertices.f D_are_vertices.fd ["n", "value"] (spVsX b TT))
    (D_is_ascending : DefAt K mg "is_ascending" s_is_ascending ["items"]) (G_is_ascending : FnOk P w K mg base CX0 7 D_is_ascending.f D_is_ascending.fd ["items"] (spAscX TT)) : FnOk P w K mg base CX0 8 D.f D.fd ["n", "value"] (spSetX b TT) := by
  refine D.F.ok sc_is_set (fun vs H Q E h => ?_) (fun cdv A outer s H vs Q E hr h => ?_)
  · obtain ⟨n, v, d, rfl, _⟩ := h
    rfl
  · obtain ⟨n, v, d, rfl, hd, len, hT, q⟩ := h
    refine ⟨_, (pss_one (ps_ret (pe_and (pe_call G_are_vertices (hr.mono (by first | decide | omega)) (by rfl) D_are_vertices.g D_are_vertices.F.kp D_are_vertices.b .nil pass0 (pa_cons (pv 0) (pa_cons (pv 1) pa_nil))) (pe_one (pe_call G_is_ascending (hr.mono (by first | decide | omega)) (by rfl) D_is_ascending.g D_is_ascending.F.kp D_is_ascending.b .nil pass0 (pa_cons (pv 1) pa_nil)))))), ?_⟩
    refine r_at (σ := [some _, some _]) rfl ?_
    walk_at "z"
    refine ⟨n, v, d, rfl, hd, hT, fun H1 e1 T1 => ?_⟩
    cases e : versD n d with
    | false =>
      walk_at "z"
      refine q false H1 e1 T1 ⟨fun h => (nomatch h), fun ⟨ns, ed, bd, _⟩ => ?_⟩
      rw [ed, versD_ints, decide_eq_true bd] at e
      cases e
    | true =>
      obtain ⟨ns, rfl, bd⟩ := versD_of e
      have ln := len _ rfl
      rw [List.length_map] at ln
      cases hd.ext e1 with
      | @tup p xs _ hxs hxd =>
      rw [dx_ints hxd] at hxs
      walk_at "z"
      refine ⟨p, rfl, T1, .inl ⟨ns, hxs, ln, fun r H2 e2 T2 hr2 => ?_⟩⟩
      refine q r H2 (e1.trans e2) T2 (hr2.trans ⟨fun h => ⟨ns, rfl, bd, h⟩, fun ⟨ms, em, _, h⟩ => ?_⟩)
      rw [ints_inj (PyData.tuple.inj em)]
      exact h
def spEdgX (b : Addr) (TT : List (Addr × Str)) : Sp := fun vs H Q _ => ∃ (n : Int) (v : V) (d : PyData), vs = [.int n, v] ∧ DX b H v d ∧ Tabs TT H ∧ ∀ (r : Bool) H', ExtN H H' → Tabs TT H' → (r = true ↔ edgD n d) → Q (.bl r) H'
def spEdsX (b : Addr) (TT : List (Addr × Str)) : Sp := fun vs H Q _ => ∃ (n : Int) (v : V) (d : PyData), vs = [.int n, v] ∧ DX b H v d ∧ (∀ ds, d = .tuple ds → ds.length ≤ 100000) ∧ Tabs TT H ∧ ∀ (r : Bool) H', ExtN H H' → Tabs TT H' → (r = true ↔ edsX n d) → Q (.bl r) H'
def sizD : PyData → Bool
  | .int i => decide (1 ≤ i) && decide (i ≤ 60)
  | _ => false
def spSizX (b : Addr) : Sp := fun vs H Q _ => ∃ (v : V) (d : PyData), vs = [v] ∧ DX b H v d ∧ Q (.bl (sizD d)) H
def spGphX (b : Addr) (TT : List (Addr × Str)) : Sp := fun vs H Q _ => ∃ (v : V) (d : PyData), vs = [v] ∧ DX b H v d ∧ (∃ D, limX D 100000 d) ∧ Tabs TT H ∧ ∀ (r : Bool) H', ExtN H H' → Tabs TT H' → (r = true ↔ gphX d) → Q (.bl r) H'
end

set_option Elab.async false
set_option linter.all false
set_option maxRecDepth 100000
set_option maxHeartbeats 4000000
open PySem PySem.Spec PyProof.Rows L2 LamX RZ

abbrev s_law_is_int : Stmt := topS 27
theorem sc_law_is_int : FnScope ["x"] ["x"] (defScope s_law_is_int) := ⟨rfl, rfl, rfl, by decide +kernel, rfl, by decide +kernel, by decide +kernel⟩

abbrev s_law_strange : Stmt := topS 45
theorem sc_law_strange : FnScope ["pool", "value", "n", "rows"] ["pool", "value", "n"] (defScope s_law_strange) := ⟨rfl, rfl, rfl, by decide +kernel, rfl, by decide +kernel, by decide +kernel⟩

theorem Pool.dx {a s : Addr} {H H' : Hp} (h : Pool H a s) (g : Gr a H H') {v : V} {t : PyData} (d : DX a H v t) : DX a H' v t := by
  obtain ⟨xs, hx⟩ := h.lst
  exact d.gr g hx
theorem Pool.dxs {a s : Addr} {H H' : Hp} (h : Pool H a s) (g : Gr a H H') {v : List V} {t : List PyData} (d : DXs a H v t) : DXs a H' v t := by
  obtain ⟨xs, hx⟩ := h.lst
  exact d.gr g hx
theorem Pool.st {a s : Addr} {H H' : Hp} (h : Pool H a s) (g : Gr a H H') {p : Addr} {xs : List V} (d : ST H p xs) : ST H' p xs := by
  obtain ⟨ys, hx⟩ := h.lst
  exact d.gr g hx
section
variable {P : Program} {w : World} {K : PySem.W.Frag} {mg : Str → Option Value} {base : Heap}
theorem ok_lintX {b : Addr} (T : Blt mg) (D : DefAt K mg "_law_is_int" s_law_is_int ["x"]) : FnOk P w K mg base CX0 1 D.f D.fd ["x"] (spIntX b) := by
  refine D.F.ok sc_law_is_int (fun vs H Q E h => ?_) (fun cdv A outer s H vs Q E hr h => ?_)
  · obtain ⟨v, d, rfl, _⟩ := h
    rfl
  · obtain ⟨v, d, rfl, hd, q⟩ := h
    refine ⟨_, (pss_one (ps_ret (pe_and (pe_callB (call_isiK (K := K) rfl) (by rfl) T.isinstance (by decide +kernel) (pa_cons (pv 0) (pa_cons (pe_bltn (v := .ty "int") (u := .type "int") (by rfl) T.int (by decide +kernel) rfl) pa_nil))) (pe_one (pe_not (pe_callB (call_isiK (K := K) rfl) (by rfl) T.isinstance (by decide +kernel) (pa_cons (pv 0) (pa_cons (pe_bltn (v := .ty "bool") (u := .type "bool") (by rfl) T.bool (by decide +kernel) rfl) pa_nil)))))))), ?_⟩
    refine r_at (σ := [some _]) rfl ?_
    walk_at "z"
    cases d with
    | int i =>
      refine r_isiX hd (k := "int") rfl (b := true) (by decide +kernel) ?_
      walk_at "z"
      refine r_isiX hd (k := "int") rfl (b := false) (by decide +kernel) ?_
      walk_at "z"
      exact q
    | bool i =>
      refine r_isiX hd (k := "bool") rfl (b := true) (by decide +kernel) ?_
      walk_at "z"
      refine r_isiX hd (k := "bool") rfl (b := true) (by decide +kernel) ?_
      walk_at "z"
      exact q
    | none =>
      refine r_isiX hd (k := "NoneType") rfl (b := false) (by decide +kernel) ?_
      walk_at "z"
      exact q
    | str x =>
      refine r_isiX hd (k := "str") rfl (b := false) (by decide +kernel) ?_
      walk_at "z"
      exact q
    | list ds =>
      refine r_isiX hd (k := "list") rfl (b := false) (by decide +kernel) ?_
      walk_at "z"
      exact q
    | tuple ds =>
      refine r_isiX hd (k := "tuple") rfl (b := false) (by decide +kernel) ?_
      walk_at "z"
      exact q
    | dict ds =>
      refine r_isiX hd (k := "dict") rfl (b := false) (by decide +kernel) ?_
      walk_at "z"
      exact q
theorem forall_cons {α : Type} {p : α → Prop} {a : α} {l : List α} (h : p a) (k : ∀ x ∈ l, p x) : ∀ x ∈ a :: l, p x := fun x hx => by
  rcases List.mem_cons.mp hx with rfl | c
  · exact h
  · exact k x c
theorem r_catL {H : Hp} {Q : VK} {l b : Addr} {xs zs : List V} (h1 : H l = some (.lst xs)) (h2 : H b = some (.lst zs)) (hz : xs.length + zs.length ≤ 100000) (q : ∀ p, H p = none → Q (.ref p) (upd H p (.lst (xs ++ zs)))) : rCat (.ref l) (.ref b) H Q := ⟨l, b, xs, zs, rfl, rfl, h1, h2, small_len hz, q⟩
def spStr : Sp := fun vs H Q _ => ∃ (a s : Addr) (v : V) (t : PyData) (d L : Nat) (n : Int), vs = [.ref a, v, .int n] ∧ Pool H a s ∧ DX a H v t ∧ limX d L t ∧ L ≤ 10000 ∧ 0 ≤ n ∧ n ≤ 100 ∧
  ∀ (v' : V) (t' : PyData) (H' : Hp), Pool H' a s → Gr a H H' → DX a H' v' t' → limX (d + 2) (2 * L + 2) t' → Q v' H'
theorem yes_ok : (Str.ofString "yes").cps.all (· < 0x110000) = true := by decide +kernel
theorem union_ok : (Str.ofString "union").cps.all (· < 0x110000) = true := by decide +kernel
theorem lim_str {d L : Nat} {x : Str} (h : x.cps.all (· < 0x110000) = true) : limX d L (.str x) := by cases d <;> exact h
theorem lim_lit (d L : Nat) (n : Int) : ∀ x ∈ [PyData.none, .bool true, .bool false, .str (Str.ofString "yes"), .tuple [], .list [], .dict [], .int 0, .int n, .tuple [.int 0], .str (Str.ofString "union"), .tuple [.tuple []], .int (-1)], limX (d + 2) (2 * L + 2) x :=
  forall_cons trivial (forall_cons trivial (forall_cons trivial (forall_cons (lim_str yes_ok) (forall_cons ⟨Nat.zero_le _, fun x hx => nomatch hx⟩ (forall_cons ⟨Nat.zero_le _, fun x hx => nomatch hx⟩ (forall_cons trivial (forall_cons trivial (forall_cons trivial
  (forall_cons (limX_mk (by simp only [List.length_cons, List.length_nil]; omega) (forall_cons limX_int fun x hx => nomatch hx)) (forall_cons (lim_str union_ok) (forall_cons (limX_mk (by simp only [List.length_cons, List.length_nil]; omega) (forall_cons (limX_mk (Nat.zero_le _) fun x hx => nomatch hx) fun x hx => nomatch hx)) (forall_cons limX_int fun x hx => nomatch hx))))))))))))
theorem eq_one {H : Hp} {Q : VK} {a : Addr} {v : V} {t : PyData} {d L : Nat} (h : DX a H v t) (nt : tupD t = false) (l : limX d L t) (q : ∀ b, Q (.bl b) H) : rEqX K v (.int 1) H Q := by
  have one : SeqAt.shaped (.int 1) = true := by rfl
  cases h with
  | non => exact r_eqXD ⟨.none, .int 1, .non, .int 1, by rfl, one, q _⟩
  | bl b => exact r_eqXD ⟨.bool b, .int 1, .bl b, .int 1, by rfl, one, q _⟩
  | int i => exact r_eqXD ⟨.int i, .int 1, .int i, .int 1, by rfl, one, q _⟩
  | str x =>
    have hx : x.cps.all (· < 0x110000) = true := by cases d <;> exact l
    exact r_eqXD ⟨.str x, .int 1, .str x, .int 1, shaped_of hx (Nat.zero_le _), one, q _⟩
  | lst n h _ => exact r_eqLIX h (q _)
  | dk n h => exact r_eqDI h (q _)
  | tup h _ => exact absurd nt.symm Bool.false_ne_true
set_option hygiene false in
local macro_rules | `(tactic| walk_at "zend") => `(tactic| (
  walk_at "z"
  rw [lx17]
  refine ⟨a, s0, 17, rfl, hP14, by omega, by omega, fun r H15 r0 r1 hP15 g15 => ?_⟩
  have hl15 := g15 _ _ nl6.1 hl14
  have hx15 := hP14.dxs g15 hx14
  obtain ⟨y, hy⟩ : ∃ y, xs17[r.toNat]? = some y := ⟨_, List.getElem?_eq_getElem (by omega)⟩
  obtain ⟨z, hz, hyz⟩ := pd_get (DXs.pd _ hx15) hy
  walk_at "z"
  refine r_ixL (.inl (.inl hl15)) (at_of (j := r.toNat) (by omega) hy) ?_
  exact q y z H15 hP15 ((g1.trans (Gr.of_same s114)).trans g15) hyz (lim17 z (List.mem_of_getElem? hz))))
set_option hygiene false in
local macro_rules | `(tactic| walk_at "zrows") => `(tactic| (
  walk_at "z"
  refine r_tupN (by decide) fun e1 he1 => ?_
  have s2 := same_new (o := .tup []) he1
  have f1 : (upd H1 e1 (.tup [])) e1 = some (.tup []) := upd_same
  generalize upd H1 e1 (.tup []) = H2 at s2 f1 ⊢
  walk_at "z"
  refine r_lstN (by decide) fun l1 hl1 => ?_
  have nl1 := new_ne (hP1.mono s2) hl1
  have s3 := same_new (o := .lst []) hl1
  have f2 : (upd H2 l1 (.lst [])) l1 = some (.lst []) := upd_same
  generalize upd H2 l1 (.lst []) = H3 at s3 f2 ⊢
  walk_at "z"
  intro d1 hd1
  have nd1 := new_ne ((hP1.mono s2).mono s3) hd1
  have s4 := same_new (o := .dK []) hd1
  have f3 : (upd H3 d1 (.dK [])) d1 = some (.dK []) := upd_same
  generalize upd H3 d1 (.dK []) = H4 at s4 f3 ⊢
  walk_at "z"
  refine r_tupN sz1 fun t1 ht1 => ?_
  have s5 := same_new (o := .tup [.int 0]) ht1
  have f4 : (upd H4 t1 (.tup [.int 0])) t1 = some (.tup [.int 0]) := upd_same
  generalize upd H4 t1 (.tup [.int 0]) = H5 at s5 f4 ⊢
  walk_at "z"
  refine r_tupN (by decide) fun e2 he2 => ?_
  have s6 := same_new (o := .tup []) he2
  have f5 : (upd H5 e2 (.tup [])) e2 = some (.tup []) := upd_same
  generalize upd H5 e2 (.tup []) = H6 at s6 f5 ⊢
  walk_at "z"
  refine r_tupN sz1 fun t2 ht2 => ?_
  have s7 := same_new (o := .tup [.ref e2]) ht2
  have f6 : (upd H6 t2 (.tup [.ref e2])) t2 = some (.tup [.ref e2]) := upd_same
  generalize upd H6 t2 (.tup [.ref e2]) = H7 at s7 f6 ⊢
  walk_at "z"
  have s27 : Same H2 H7 := (s3.trans s4).trans ((s5.trans s6).trans s7)
  have lit7 : DXs a H7 [.non, .bl true, .bl false, .str (Str.ofString "yes"), .ref e1, .ref l1, .ref d1, .int 0, .int n, .ref t1, .str (Str.ofString "union"), .ref t2, .int (-1)] [PyData.none, .bool true, .bool false, .str (Str.ofString "yes"), .tuple [], .list [], .dict [], .int 0, .int n, .tuple [.int 0], .str (Str.ofString "union"), .tuple [.tuple []], .int (-1)] :=
    .cons .non (.cons (.bl _) (.cons (.bl _) (.cons (.str _) (.cons (.tup (.inl (s27 _ _ f1)) .nil) (.cons (.lst nl1.1 (((s4.trans s5).trans (s6.trans s7)) _ _ f2) .nil) (.cons (.dk nd1.1 ((s5.trans (s6.trans s7)) _ _ f3)) (.cons (.int _) (.cons (.int _)
    (.cons (.tup (.inl ((s6.trans s7) _ _ f4)) (.cons (.int 0) .nil)) (.cons (.str _) (.cons (.tup (.inl f6) (.cons (.tup (.inl (s7 _ _ f5)) .nil) .nil)) (.cons (.int _) .nil))))))))))))
  refine r_lstN (small_len (by simp only [List.length_cons, List.length_nil]; omega)) fun R hR => ?_
  have lim13 := lim_lit d L n
  have len13 : [V.non, .bl true, .bl false, .str (Str.ofString "yes"), .ref e1, .ref l1, .ref d1, .int 0, .int n, .ref t1, .str (Str.ofString "union"), .ref t2, .int (-1)].length = 13 := rfl
  generalize [V.non, .bl true, .bl false, .str (Str.ofString "yes"), .ref e1, .ref l1, .ref d1, .int 0, .int n, .ref t1, .str (Str.ofString "union"), .ref t2, .int (-1)] = xs13 at lit7 len13 ⊢
  generalize [PyData.none, .bool true, .bool false, .str (Str.ofString "yes"), .tuple [], .list [], .dict [], .int 0, .int n, .tuple [.int 0], .str (Str.ofString "union"), .tuple [.tuple []], .int (-1)] = ds13 at lit7 lim13
  have s8 := same_new (o := .lst xs13) hR
  have f8 : (upd H7 R (.lst xs13)) R = some (.lst xs13) := upd_same
  have lit8 := lit7.same s8
  have s18 := s2.trans (s27.trans s8)
  have hP8 := hP1.mono s18
  have hd8 := (hP.dx g1 hd).same s18
  generalize upd H7 R (.lst xs13) = H8 at f8 lit8 s18 hP8 hd8 ⊢
  walk_at "z"
  refine r_isiX hd8 rfl (kit_tup t) ?_
  cases et : tupD t with
  | true =>
    obtain ⟨ds, rfl⟩ := tupD_of et
    obtain ⟨d', rfl, ll, le⟩ := limX_tup hl
    cases hd8 with
    | @tup p xs _ hp8 hxd8 =>
    have lx := hxd8.len
    walk_at "z"
    refine r_listT (.inl hp8) fun l2 hl2 => ?_
    have nl2 := new_ne hP8 hl2
    have s9 := same_new (o := .lst xs) hl2
    have f9 : (upd H8 l2 (.lst xs)) l2 = some (.lst xs) := upd_same
    generalize upd H8 l2 (.lst xs) = H9 at s9 f9 ⊢
    have hp9 := hp8.same s9
    walk_at "z"
    refine r_catX hp9 hp9 (by omega) fun c1 H10 s10 hc10 => ?_
    walk_at "z"
    refine r_tupN sz1 fun t3 ht3 => ?_
    have s11 := same_new (o := .tup [.ref p]) ht3
    have f11 : (upd H10 t3 (.tup [.ref p])) t3 = some (.tup [.ref p]) := upd_same
    generalize upd H10 t3 (.tup [.ref p]) = H11 at s11 f11 ⊢
    have hp11 := (hp9.same s10).same s11
    walk_at "z"
    refine r_revT ?_
    walk_at "z"
    refine r_revTN (.inl hp11) fun rv o hrv _ => ?_
    have s12 := same_new (o := .frz o (.tup xs.reverse)) hrv
    have f12 : (upd H11 rv (.frz o (.tup xs.reverse))) rv = some (.frz o (.tup xs.reverse)) := upd_same
    generalize upd H11 rv (.frz o (.tup xs.reverse)) = H12 at s12 f12 ⊢
    walk_at "z"
    have s8c := (s9.trans s10).trans (s11.trans s12)
    have hxd12 := hxd8.same s8c
    have four : DXs a H12 [.ref l2, .ref c1, .ref t3, .ref rv] [.list ds, .tuple (ds ++ ds), .tuple [.tuple ds], .tuple ds.reverse] :=
      .cons (.lst nl2.1 (((s10.trans s11).trans s12) _ _ f9) hxd12) (.cons (.tup (hc10.same (s11.trans s12)) (hxd12.app hxd12)) (.cons (.tup (.inl (s12 _ _ f11)) (.cons (.tup (hp8.same s8c) hxd12) .nil)) (.cons (.tup (.inr ⟨o, f12⟩) hxd12.rev) .nil)))
    have lim4 : ∀ x ∈ [PyData.list ds, .tuple (ds ++ ds), .tuple [.tuple ds], .tuple ds.reverse], limX (d' + 1 + 2) (2 * L + 2) x := by
      have lm : ∀ x ∈ ds, limX (d' + 2) (2 * L + 2) x := fun x hx => (le x hx).mono (by omega) (by omega)
      refine forall_cons (limX_mkl (by omega) lm) (forall_cons (limX_mk (by rw [List.length_append]; omega) fun x hx => (List.mem_append.mp hx).elim (lm x) (lm x)) (forall_cons (limX_mk (by simp only [List.length_cons, List.length_nil]; omega) (forall_cons (limX_mk (by omega) fun x hx => (le x hx).mono (by omega) (by omega)) fun x hx => nomatch hx)) (forall_cons (limX_mk (by rw [List.length_reverse]; omega) fun x hx => lm x (List.mem_reverse.mp hx)) fun x hx => nomatch hx)))
    refine r_lstN (small_len (by simp only [List.length_cons, List.length_nil]; omega)) fun l5 hl5 => ?_
    have len4 : [V.ref l2, .ref c1, .ref t3, .ref rv].length = 4 := rfl
    generalize [V.ref l2, .ref c1, .ref t3, .ref rv] = xs4 at four len4 ⊢
    generalize [PyData.list ds, .tuple (ds ++ ds), .tuple [.tuple ds], .tuple ds.reverse] = ds4 at four lim4
    have s13 := same_new (o := .lst xs4) hl5
    have f13 : (upd H12 l5 (.lst xs4)) l5 = some (.lst xs4) := upd_same
    have s8d := s8c.trans s13
    have four13 := four.same s13
    generalize upd H12 l5 (.lst xs4) = H13 at s13 f13 s8d four13 ⊢
    walk_at "z"
    refine r_catL (s8d _ _ f8) f13 (by omega) fun l6 hl6 => ?_
    have lx17 : (xs13 ++ xs4).length = 17 := by rw [List.length_append, len13, len4]
    have hx13 := (lit8.same s8d).app four13
    have lim17 : ∀ x ∈ ds13 ++ ds4, limX (d' + 1 + 2) (2 * L + 2) x := fun x hx => (List.mem_append.mp hx).elim (lim13 x) (lim4 x)
    generalize xs13 ++ xs4 = xs17 at lx17 hx13 ⊢
    generalize ds13 ++ ds4 = ds17 at hx13 lim17
    have nl6 := new_ne (hP8.mono s8d) hl6
    have s14 := same_new (o := .lst xs17) hl6
    have hl14 : (upd H13 l6 (.lst xs17)) l6 = some (.lst xs17) := upd_same
    have hx14 := hx13.same s14
    have s114 := s18.trans (s8d.trans s14)
    have hP14 := hP1.mono s114
    generalize upd H13 l6 (.lst xs17) = H14 at hl14 hx14 s114 hP14 ⊢
    walk_at "zend"
  | false =>
    walk_at "z"
    refine r_tupN sz1 fun t3 ht3 => ?_
    have s9 := same_new (o := .tup [v]) ht3
    have f9 : (upd H8 t3 (.tup [v])) t3 = some (.tup [v]) := upd_same
    generalize upd H8 t3 (.tup [v]) = H9 at s9 f9 ⊢
    walk_at "z"
    refine r_lstN sz1 fun l2 hl2 => ?_
    have nl2 := new_ne (hP8.mono s9) hl2
    have s10 := same_new (o := .lst [v]) hl2
    have f10 : (upd H9 l2 (.lst [v])) l2 = some (.lst [v]) := upd_same
    generalize upd H9 l2 (.lst [v]) = H10 at s10 f10 ⊢
    have s810 := s9.trans s10
    have hd10 := hd8.same s810
    walk_at "z"
    refine eq_one hd10 et hl fun b => ?_
    walk_at "z"
    refine ⟨n, rfl, log_small n0 n1, ?_⟩
    walk_at "z"
    have four : DXs a H10 [.ref t3, .ref l2, .bl b, .str (Str.ofString (toString n))] [.tuple [t], .list [t], .bool b, .str (Str.ofString (toString n))] :=
      .cons (.tup (.inl (s10 _ _ f9)) (.cons hd10 .nil)) (.cons (.lst nl2.1 f10 (.cons hd10 .nil)) (.cons (.bl _) (.cons (.str _) .nil)))
    have lim4 : ∀ x ∈ [PyData.tuple [t], .list [t], .bool b, .str (Str.ofString (toString n))], limX (d + 2) (2 * L + 2) x := by
      have lm : ∀ x ∈ [t], limX (d + 1) (2 * L + 2) x := forall_cons (hl.mono (by omega) (by omega)) fun x hx => nomatch hx
      exact forall_cons (limX_mk (by simp only [List.length_cons, List.length_nil]; omega) lm) (forall_cons (limX_mkl (by simp only [List.length_cons, List.length_nil]; omega) lm) (forall_cons trivial (forall_cons (lim_str (int_str n)) fun x hx => nomatch hx)))
    refine r_lstN (small_len (by simp only [List.length_cons, List.length_nil]; omega)) fun l5 hl5 => ?_
    have len4 : [V.ref t3, .ref l2, .bl b, .str (Str.ofString (toString n))].length = 4 := rfl
    generalize [V.ref t3, .ref l2, .bl b, .str (Str.ofString (toString n))] = xs4 at four len4 ⊢
    generalize [PyData.tuple [t], .list [t], .bool b, .str (Str.ofString (toString n))] = ds4 at four lim4
    have s13 := same_new (o := .lst xs4) hl5
    have f13 : (upd H10 l5 (.lst xs4)) l5 = some (.lst xs4) := upd_same
    have s8d := s810.trans s13
    have four13 := four.same s13
    generalize upd H10 l5 (.lst xs4) = H13 at s13 f13 s8d four13 ⊢
    walk_at "z"
    refine r_catL (s8d _ _ f8) f13 (by omega) fun l6 hl6 => ?_
    have lx17 : (xs13 ++ xs4).length = 17 := by rw [List.length_append, len13, len4]
    have hx13 := (lit8.same s8d).app four13
    have lim17 : ∀ x ∈ ds13 ++ ds4, limX (d + 2) (2 * L + 2) x := fun x hx => (List.mem_append.mp hx).elim (lim13 x) (lim4 x)
    generalize xs13 ++ xs4 = xs17 at lx17 hx13 ⊢
    generalize ds13 ++ ds4 = ds17 at hx13 lim17
    have nl6 := new_ne (hP8.mono s8d) hl6
    have s14 := same_new (o := .lst xs17) hl6
    have hl14 : (upd H13 l6 (.lst xs17)) l6 = some (.lst xs17) := upd_same
    have hx14 := hx13.same s14
    have s114 := s18.trans (s8d.trans s14)
    have hP14 := hP1.mono s114
    generalize upd H13 l6 (.lst xs17) = H14 at hl14 hx14 s114 hP14 ⊢
    walk_at "zend"))
theorem log_small {n : Int} (h0 : 0 ≤ n) (h1 : n ≤ 100) : n.natAbs.log2 < 1920 := by
  have : n.natAbs < 2 ^ 7 := by omega
  rcases Nat.eq_zero_or_pos n.natAbs with h | h
  · rw [h]
    decide
  · have := (Nat.log2_lt (by omega)).mpr this
    omega
theorem ch_lt (c : Char) : c.toNat < 0x110000 := by
  rcases c.valid with h | h
  · exact Nat.lt_trans h (by decide)
  · exact h.2
theorem int_str (n : Int) : (Str.ofString (toString n)).cps.all (· < 0x110000) = true := by
  rw [Str.ofString_eq_toList]
  show ((toString n).toList.map Char.toNat).toArray.all _ = true
  rw [List.all_toArray, List.all_map, List.all_eq_true]
  intro c _
  exact decide_eq_true (ch_lt c)
theorem ok_strange (T : Blt mg) (D : DefAt K mg "_law_strange" s_law_strange ["pool", "value", "n"]) (D_law_draw : DefAt K mg "_law_draw" s_law_draw ["pool", "many"]) (G_law_draw : FnOk P w K mg base CX0 2 D_law_draw.f D_law_draw.fd ["pool", "many"] spDraw)
    (D_law_is_int : DefAt K mg "_law_is_int" s_law_is_int ["x"]) (G_law_is_int : ∀ b, FnOk P w K mg base CX0 1 D_law_is_int.f D_law_is_int.fd ["x"] (spIntX b)) : FnOk P w K mg base CX0 3 D.f D.fd ["pool", "value", "n"] spStr := by
  refine D.F.ok sc_law_strange (fun vs H Q E h => ?_) (fun cdv A outer s H vs Q E hr h => ?_)
  · obtain ⟨a, s, v, t, d, L, n, rfl, _⟩ := h
    rfl
  · obtain ⟨a, s0, v, t, d, L, n, rfl, hP, hd, hl, hL, n0, n1, q⟩ := h
    have G_law_is_int := G_law_is_int a
    refine ⟨_, (pss_cons (ps_if (PW.pt (pw_and (pt_val (pe_call G_law_is_int (hr.mono (by first | decide | omega)) (by rfl) D_law_is_int.g D_law_is_int.F.kp D_law_is_int.b .nil pass0 (pa_cons (pv 1) pa_nil))) (pw_and1 (pt_cmpR op_gt (pe_call G_law_draw (hr.mono (by first | decide | omega)) (by rfl) D_law_draw.g D_law_draw.F.kp D_law_draw.b .nil pass0 (pa_cons (pv 0) (pa_cons pe_int pa_nil))) pe_int (nomark _)))))
        (pss_one (ps_ret (pe_ix (ix_listK (K := K) rfl) (pe_lst (pa_cons (pe_op op_add (pv 1) pe_int) (pa_cons (pe_op op_sub (pv 1) pe_int) (pa_cons (pe_call G_law_draw (hr.mono (by first | decide | omega)) (by rfl) D_law_draw.g D_law_draw.F.kp D_law_draw.b .nil pass0 (pa_cons (pv 0) (pa_cons (pe_op op_add (pv 2) pe_int) pa_nil))) (pa_cons (pe_un un_neg pe_int) (pa_cons (pv 2) pa_nil)))))) (pe_call G_law_draw (hr.mono (by first | decide | omega)) (by rfl) D_law_draw.g D_law_draw.F.kp D_law_draw.b .nil pass0 (pa_cons (pv 0) (pa_cons pe_int pa_nil))) (fun _ _ => rfl))))
        pss_nil)
      (pss_cons (ps_set (i := 3) sc_law_strange.nd rfl (Or.inl rfl) (pe_lst (pa_cons pe_non (pa_cons pe_bl (pa_cons pe_bl (pa_cons pe_str (pa_cons (pe_tup pa_nil) (pa_cons (pe_lst pa_nil) (pa_cons pe_dnewK (pa_cons pe_int (pa_cons (pv 2) (pa_cons (pe_tup (pa_cons pe_int pa_nil)) (pa_cons pe_str (pa_cons (pe_tup (pa_cons (pe_tup pa_nil) pa_nil)) (pa_cons (pe_un un_neg pe_int) pa_nil)))))))))))))))
      (pss_cons (ps_if (pt_val (pe_callB (call_isiK (K := K) rfl) (by rfl) T.isinstance (by decide +kernel) (pa_cons (pv 1) (pa_cons (pe_bltn (v := .ty "tuple") (u := .type "tuple") (by rfl) T.tuple (by decide +kernel) rfl) pa_nil))))
        (pss_one (ps_set (i := 3) sc_law_strange.nd rfl (Or.inl rfl) (pe_op op_cat (pv 3) (pe_lst (pa_cons (pe_callTy (call_listK (K := K) rfl) (by rfl) T.list (by decide +kernel) (pa_cons (pv 1) pa_nil)) (pa_cons (pe_op (op_catAK (K := K) rfl) (pv 1) (pv 1)) (pa_cons (pe_tup (pa_cons (pv 1) pa_nil)) (pa_cons (PE.revTK (K := K) rfl (pe_revT (pv 1))) pa_nil))))))))
        (pss_one (ps_set (i := 3) sc_law_strange.nd rfl (Or.inl rfl) (pe_op op_cat (pv 3) (pe_lst (pa_cons (pe_tup (pa_cons (pv 1) pa_nil)) (pa_cons (pe_lst (pa_cons (pv 1) pa_nil)) (pa_cons (pe_cmpR (op_eqX (K := K) rfl hr.units) (pv 1) pe_int (nomark _)) (pa_cons (pe_callTy call_str_int (by rfl) T.str (by decide +kernel) (pa_cons (pv 2) pa_nil)) pa_nil)))))))))
      (pss_one (ps_ret (pe_ix (ix_listK (K := K) rfl) (pv 3) (pe_call G_law_draw (hr.mono (by first | decide | omega)) (by rfl) D_law_draw.g D_law_draw.F.kp D_law_draw.b .nil pass0 (pa_cons (pv 0) (pa_cons (pe_callB (call_lenK (K := K) rfl) (by rfl) T.len (by decide +kernel) (pa_cons (pv 3) pa_nil)) pa_nil))) (fun _ _ => rfl))))))), ?_⟩
    refine r_at (σ := [some _, some _, some _, none]) rfl ?_
    walk_at "z"
    refine ⟨v, t, rfl, hd, ?_⟩
    cases ei : intD t with
    | false =>
      obtain ⟨H1, eH⟩ : ∃ H1, H1 = H := ⟨H, rfl⟩
      have hP1 : Pool H1 a s0 := eH ▸ hP
      have g1 : Gr a H H1 := eH ▸ Gr.refl a H
      rw [← eH]
      walk_at "zrows"
    | true =>
      walk_at "z"
      refine ⟨a, s0, 3, rfl, hP, by omega, by omega, fun r3 H1 r30 r31 hP1 g1 => ?_⟩
      walk_at "z"
      refine r_ite (fun h3 => ?_) (fun h3 => ?_)
      · obtain ⟨i, rfl⟩ : ∃ i, t = .int i := by
          cases t with
          | int i => exact ⟨i, rfl⟩
          | _ => exact absurd ei Bool.false_ne_true
        cases hd
        walk_at "z"
        refine ⟨a, s0, _, rfl, hP1, by omega, by omega, fun r4 H2 r40 r41 hP2 g2 => ?_⟩
        walk_at "z"
        refine r_lstN (small_len (by simp only [List.length_cons, List.length_nil]; omega)) fun l hl2 => ?_
        have nl := new_ne hP2 hl2
        have hP3 := hP2.mono (same_new (o := .lst [.int (i + 1), .int (i - 1), .int r4, .int (-1), .int n]) hl2)
        have g3 := g2.trans (Gr.new (o := .lst [.int (i + 1), .int (i - 1), .int r4, .int (-1), .int n]) hl2)
        have hl3 : (upd H2 l (.lst [.int (i + 1), .int (i - 1), .int r4, .int (-1), .int n])) l = some (.lst ([i + 1, i - 1, r4, -1, n].map V.int)) := upd_same
        generalize upd H2 l (.lst [.int (i + 1), .int (i - 1), .int r4, .int (-1), .int n]) = H3 at hP3 g3 hl3 ⊢
        walk_at "z"
        refine ⟨a, s0, 5, rfl, hP3, by omega, by omega, fun r5 H4 r50 r51 hP4 g4 => ?_⟩
        have hl4 := g4 _ _ nl.1 hl3
        obtain ⟨y, hy⟩ : ∃ y, [i + 1, i - 1, r4, -1, n][r5.toNat]? = some y := ⟨_, List.getElem?_eq_getElem (by simp only [List.length_cons, List.length_nil]; omega)⟩
        walk_at "z"
        refine r_ixL (.inl (.inl hl4)) (at_of (j := r5.toNat) (by omega) (by rw [List.getElem?_map, hy]; rfl)) ?_
        exact q _ (.int y) H4 hP4 ((g1.trans g3).trans g4) (.int y) limX_int
      · walk_at "zrows"
end

set_option Elab.async false
set_option linter.all false
set_option maxRecDepth 100000
set_option maxHeartbeats 4000000
open PySem PySem.Spec PyProof.Rows L2 LamX RZ

abbrev s_law_spoilt : Stmt := topS 46
theorem sc_law_spoilt : FnScope ["pool", "value", "n", "at", "way"] ["pool", "value", "n"] (defScope s_law_spoilt) := ⟨rfl, rfl, rfl, by decide +kernel, rfl, by decide +kernel, by decide +kernel⟩

theorem DXs.cut {a : Addr} {H : Hp} {xs : List V} {ds : List PyData} (h : DXs a H xs ds) (lo hi : Option Int) : ∃ es, DXs a H (cutV xs lo hi) es ∧ es.length ≤ ds.length ∧ ∀ x ∈ es, x ∈ ds := by
  unfold cutV
  refine ⟨_, (h.drop _).take _, ?_, fun x hx => List.mem_of_mem_drop (List.mem_of_mem_take hx)⟩
  rw [List.length_take, List.length_drop]
  omega
section
variable {P : Program} {w : World} {K : PySem.W.Frag} {mg : Str → Option Value} {base : Heap}
def spSpo (e : Nat) : Sp := fun vs H Q _ => ∃ (a s : Addr) (v : V) (t : PyData) (d L : Nat) (n : Int), vs = [.ref a, v, .int n] ∧ Pool H a s ∧ DX a H v t ∧ d + 1 ≤ e ∧ limX d L t ∧ L ≤ 10000 ∧ 1 ≤ n ∧ n ≤ 100 ∧
  ∀ (v' : V) (t' : PyData) (H' : Hp), Pool H' a s → Gr a H H' → DX a H' v' t' → limX (d + 2) (4 * L + 4) t' → Q v' H'
theorem ok_spoilt (T : Blt mg) (D_law_spoilt : DefAt K mg "_law_spoilt" s_law_spoilt ["pool", "value", "n"]) (D_law_draw : DefAt K mg "_law_draw" s_law_draw ["pool", "many"]) (G_law_draw : FnOk P w K mg base CX0 2 D_law_draw.f D_law_draw.fd ["pool", "many"] spDraw)
    (D_law_strange : DefAt K mg "_law_strange" s_law_strange ["pool", "value", "n"]) (G_law_strange : FnOk P w K mg base CX0 3 D_law_strange.f D_law_strange.fd ["pool", "value", "n"] spStr) : ∀ e : Nat, FnOk P w K mg base CX0 (e + 4) D_law_spoilt.f D_law_spoilt.fd ["pool", "value", "n"] (spSpo e)
  | 0 => fn_none.imp fun vs H Q E h => by
    obtain ⟨_, _, _, _, _, _, _, _, _, _, h, _⟩ := h
    omega
  | e + 1 => by
    have G_law_spoilt := ok_spoilt T D_law_spoilt D_law_draw G_law_draw D_law_strange G_law_strange e
    refine D_law_spoilt.F.ok sc_law_spoilt (fun vs H Q E h => ?_) (fun cdv A outer s H vs Q E hr h => ?_)
    · obtain ⟨a, s, v, t, d, L, n, rfl, _⟩ := h
      rfl
    · obtain ⟨a, s0, v, t, d, L, n, rfl, hP, hd, ed, hl, hL, n0, n1, q⟩ := h
      refine ⟨_, (pss_cons (ps_if (PW.pt (pw_or (pt_not (pt_val (pe_callB (call_isiK (K := K) rfl) (by rfl) T.isinstance (by decide +kernel) (pa_cons (pv 1) (pa_cons (pe_bltn (v := .ty "tuple") (u := .type "tuple") (by rfl) T.tuple (by decide +kernel) rfl) pa_nil))))) (pw_or (pt_cmpR (op_eqX (K := K) rfl hr.units) (pv 1) (pe_tup pa_nil) (nomark _)) (pw_or1 (pt_cmpR op_eq (pe_call G_law_draw (hr.mono (by first | decide | omega)) (by rfl) D_law_draw.g D_law_draw.F.kp D_law_draw.b .nil pass0 (pa_cons (pv 0) (pa_cons pe_int pa_nil))) pe_int (nomark _))))))
        (pss_one (ps_ret (pe_call G_law_strange (hr.mono (by first | decide | omega)) (by rfl) D_law_strange.g D_law_strange.F.kp D_law_strange.b .nil pass0 (pa_cons (pv 0) (pa_cons (pv 1) (pa_cons (pv 2) pa_nil))))))
        pss_nil)
      (pss_cons (ps_set (i := 3) sc_law_spoilt.nd rfl (Or.inl rfl) (pe_call G_law_draw (hr.mono (by first | decide | omega)) (by rfl) D_law_draw.g D_law_draw.F.kp D_law_draw.b .nil pass0 (pa_cons (pv 0) (pa_cons (pe_callB (call_lenK (K := K) rfl) (by rfl) T.len (by decide +kernel) (pa_cons (pv 1) pa_nil)) pa_nil))))
      (pss_cons (ps_set (i := 4) sc_law_spoilt.nd rfl (Or.inl rfl) (pe_call G_law_draw (hr.mono (by first | decide | omega)) (by rfl) D_law_draw.g D_law_draw.F.kp D_law_draw.b .nil pass0 (pa_cons (pv 0) (pa_cons pe_int pa_nil))))
      (pss_cons (ps_if (pt_cmpR op_eq (pv 4) pe_int (nomark _))
        (pss_one (ps_ret (pe_op (op_catAK (K := K) rfl) (pe_slice (sl_tupAK (K := K) rfl) (pv 1) po_none (po_some (pv 3))) (pe_slice (sl_tupAK (K := K) rfl) (pv 1) (po_some (pe_op op_add (pv 3) pe_int)) po_none))))
        pss_nil)
      (pss_cons (ps_if (pt_cmpR op_eq (pv 4) pe_int (nomark _))
        (pss_one (ps_ret (pe_op (op_catAK (K := K) rfl) (pe_op (op_catAK (K := K) rfl) (pe_slice (sl_tupAK (K := K) rfl) (pv 1) po_none (po_some (pv 3))) (pe_tup (pa_cons (pe_ix (ix_tupK (K := K) rfl) (pv 1) (pv 3) (fun _ _ => rfl)) pa_nil))) (pe_slice (sl_tupAK (K := K) rfl) (pv 1) (po_some (pv 3)) po_none))))
        pss_nil)
      (pss_cons (ps_if (pt_cmpR op_eq (pv 4) pe_int (nomark _))
        (pss_one (ps_ret (pe_op (op_catAK (K := K) rfl) (pe_op (op_catAK (K := K) rfl) (pe_op (op_catAK (K := K) rfl) (pe_slice (sl_tupAK (K := K) rfl) (pv 1) po_none (po_some (pv 3))) (pe_slice (sl_tupAK (K := K) rfl) (pv 1) (po_some (pe_op op_add (pv 3) pe_int)) (po_some (pe_op op_add (pv 3) pe_int)))) (pe_slice (sl_tupAK (K := K) rfl) (pv 1) (po_some (pv 3)) (po_some (pe_op op_add (pv 3) pe_int)))) (pe_slice (sl_tupAK (K := K) rfl) (pv 1) (po_some (pe_op op_add (pv 3) pe_int)) po_none))))
        pss_nil)
      (pss_cons (ps_if (pt_cmpR op_eq (pv 4) pe_int (nomark _))
        (pss_one (ps_ret (pe_op (op_catAK (K := K) rfl) (pv 1) (pe_tup (pa_cons (pe_call G_law_draw (hr.mono (by first | decide | omega)) (by rfl) D_law_draw.g D_law_draw.F.kp D_law_draw.b .nil pass0 (pa_cons (pv 0) (pa_cons (pv 2) pa_nil))) pa_nil)))))
        pss_nil)
      (pss_one (ps_ret (pe_op (op_catAK (K := K) rfl) (pe_op (op_catAK (K := K) rfl) (pe_slice (sl_tupAK (K := K) rfl) (pv 1) po_none (po_some (pv 3))) (pe_tup (pa_cons (pe_call G_law_spoilt (hr.mono (by first | decide | omega)) (by rfl) D_law_spoilt.g D_law_spoilt.F.kp D_law_spoilt.b .nil pass0 (pa_cons (pv 0) (pa_cons (pe_ix (ix_tupK (K := K) rfl) (pv 1) (pv 3) (fun _ _ => rfl)) (pa_cons (pv 2) pa_nil)))) pa_nil))) (pe_slice (sl_tupAK (K := K) rfl) (pv 1) (po_some (pe_op op_add (pv 3) pe_int)) po_none))))))))))), ?_⟩
      refine r_at (σ := [some _, some _, some _, none, none]) rfl ?_
      walk_at "z"
      refine r_isiX hd rfl (kit_tup t) ?_
      cases et : tupD t with
      | false =>
        walk_at "z"
        refine iteT (iteT ?_)
        walk_at "z"
        exact ⟨a, s0, v, t, d, L, n, rfl, hP, hd, hl, hL, by omega, n1, fun v' t' H' hP' g' hd' hl' => q v' t' H' hP' g' hd' (hl'.mono (by omega) (by omega))⟩
      | true =>
        obtain ⟨ds, rfl⟩ := tupD_of et
        obtain ⟨d', rfl, ll, le⟩ := limX_tup hl
        cases id hd with
        | @tup p xs _ hp hxd =>
        have lx := hxd.len
        walk_at "z"
        refine iteF ?_
        walk_at "z"
        refine r_tupN (by decide) fun e1 he1 => ?_
        have s1 := same_new (o := .tup []) he1
        have f1 : (upd H e1 (.tup [])) e1 = some (.tup []) := upd_same
        have hP1 := hP.mono s1
        have hd1 := hd.same s1
        have hp1 := hp.same s1
        have hxd1 := hxd.same s1
        generalize upd H e1 (.tup []) = H1 at s1 f1 hP1 hd1 hp1 hxd1 ⊢
        have g1 : Gr a H H1 := Gr.of_same s1
        refine r_eqTE (.inl hp1) (.inl (.inl f1)) ?_
        by_cases lz : ds.length = 0
        · have e0 : xs = [] := List.length_eq_zero_iff.mp (by omega)
          subst e0
          rw [show ([] : List V).isEmpty = true from rfl]
          walk_at "z"
          exact ⟨a, s0, .ref p, _, d' + 1, L, n, rfl, hP1, hd1, hl, hL, by omega, n1, fun v' t' H' hP' g' hd' hl' => q v' t' H' hP' (g1.trans g') hd' (hl'.mono (by omega) (by omega))⟩
        have e0 : xs.isEmpty = false := by
          cases xs with
          | nil =>
            simp at lx
            omega
          | cons _ _ => rfl
        rw [e0]
        walk_at "z"
        refine ⟨a, s0, 6, rfl, hP1, by omega, by omega, fun r6 H2 r60 r61 hP2 g2 => ?_⟩
        have hd2 := hP1.dx g2 hd1
        have g02 := g1.trans g2
        walk_at "z"
        refine r_ite (fun h6 => ?_) (fun h6 => ?_)
        · walk_at "z"
          exact ⟨a, s0, .ref p, _, d' + 1, L, n, rfl, hP2, hd2, hl, hL, by omega, n1, fun v' t' H' hP' g' hd' hl' => q v' t' H' hP' (g02.trans g') hd' (hl'.mono (by omega) (by omega))⟩
        · have hp2 := hP1.st g2 hp1
          have hq2 : SqT K H2 p xs := .inl hp2
          walk_at "z"
          refine ⟨a, s0, _, rfl, hP2, by omega, by omega, fun c H3 c0 c1 hP3 g3 => ?_⟩
          walk_at "z"
          refine ⟨a, s0, 8, rfl, hP3, by omega, by omega, fun r8 H4 r80 r81 hP4 g4 => ?_⟩
          have g34 := g3.trans g4
          have hp4 := hP2.st g34 hp2
          have hxd4 := hP2.dxs g34 (hP1.dxs g2 hxd1)
          have g04 := g02.trans g34
          have ec : ((c.toNat : Nat) : Int) = c := by omega
          have hc : c.toNat < ds.length := by omega
          obtain ⟨z, hz⟩ : ∃ z, ds[c.toNat]? = some z := ⟨_, List.getElem?_eq_getElem hc⟩
          obtain ⟨y, hy⟩ : ∃ y, xs[c.toNat]? = some y := ⟨_, List.getElem?_eq_getElem (by omega)⟩
          have lim2 : ∀ x ∈ ds, limX (d' + 2) (4 * L + 4) x := fun x hx => (le x hx).mono (by omega) (by omega)
          walk_at "z"
          refine r_ite (fun w0 => ?_) (fun w0 => ?_)
          · walk_at "z"
            refine r_slX hp4 fun p5 H5 s5 hp5 => ?_
            have hp5x := hp4.same s5
            walk_at "z"
            refine r_slX hp5x fun p6 H6 s6 hp6 => ?_
            have hp56 := hp5.same s6
            obtain ⟨es5, de5, le5, m5⟩ := (hxd4.same (s5.trans s6)).cut none (some c)
            obtain ⟨es6, de6, le6, m6⟩ := (hxd4.same (s5.trans s6)).cut (some (c + 1)) none
            have k5 := de5.len
            have k6 := de6.len
            walk_at "z"
            refine r_catX hp56 hp6 (by omega) fun p7 H7 s7 hp7 => ?_
            have s47 := (s5.trans s6).trans s7
            refine q _ (.tuple (es5 ++ es6)) H7 (hP4.mono s47) (g04.trans (Gr.of_same s47)) (.tup hp7 ((de5.app de6).same s7)) (limX_mk (by rw [List.length_append]; omega) fun x hx => ?_)
            rcases List.mem_append.mp hx with hx | hx
            · exact lim2 x (m5 x hx)
            · exact lim2 x (m6 x hx)
          · walk_at "z"
            refine r_ite (fun w1 => ?_) (fun w1 => ?_)
            · walk_at "z"
              refine r_slX hp4 fun p5 H5 s5 hp5 => ?_
              have hp5x := hp4.same s5
              walk_at "z"
              refine r_ixT (.inl hp5x) (at_of (j := c.toNat) (by omega) hy) ?_
              walk_at "z"
              refine r_tupN sz1 fun q1 hq1 => ?_
              have s6 := same_new (o := .tup [y]) hq1
              have hq6 : (upd H5 q1 (.tup [y])) q1 = some (.tup [y]) := upd_same
              generalize upd H5 q1 (.tup [y]) = H6 at s6 hq6 ⊢
              have hp6 := hp5.same s6
              have hp6x := hp5x.same s6
              have hyd6 := (hxd4.same (s5.trans s6)).get hy hz
              obtain ⟨es5, de5, le5, m5⟩ := (hxd4.same (s5.trans s6)).cut none (some c)
              have k5 := de5.len
              walk_at "z"
              refine r_catX hp6 (.inl hq6) (by simp only [List.length_cons, List.length_nil]; omega) fun p7 H7 s7 hp7 => ?_
              have hp7x := hp6x.same s7
              walk_at "z"
              refine r_slX hp7x fun p8 H8 s8 hp8 => ?_
              have s48 := (s5.trans s6).trans (s7.trans s8)
              obtain ⟨es8, de8, le8, m8⟩ := (hxd4.same s48).cut (some c) none
              have k8 := de8.len
              walk_at "z"
              refine r_catX (hp7.same s8) hp8 (by rw [List.length_append]; simp only [List.length_cons, List.length_nil]; omega) fun p9 H9 s9 hp9 => ?_
              refine q _ (.tuple (es5 ++ [z] ++ es8)) H9 (hP4.mono (s48.trans s9)) (g04.trans (Gr.of_same (s48.trans s9))) (.tup hp9 (((de5.same ((s7.trans s8).trans s9)).app (.cons (hyd6.same ((s7.trans s8).trans s9)) .nil)).app (de8.same s9))) (limX_mk (by rw [List.length_append, List.length_append]; simp only [List.length_cons, List.length_nil]; omega) fun x hx => ?_)
              rcases List.mem_append.mp hx with hx | hx
              · rcases List.mem_append.mp hx with hx | hx
                · exact lim2 x (m5 x hx)
                · rw [List.mem_singleton.mp hx]
                  exact lim2 z (List.mem_of_getElem? hz)
              · exact lim2 x (m8 x hx)
            · walk_at "z"
              refine r_ite (fun w2 => ?_) (fun w2 => ?_)
              · walk_at "z"
                refine r_slX hp4 fun p5 H5 s5 hp5 => ?_
                have hp5x := hp4.same s5
                walk_at "z"
                refine r_slX hp5x fun p6 H6 s6 hp6 => ?_
                have hp6x := hp5x.same s6
                obtain ⟨es5, de5, le5, m5⟩ := (hxd4.same (s5.trans s6)).cut none (some c)
                obtain ⟨es6, de6, le6, m6⟩ := (hxd4.same (s5.trans s6)).cut (some (c + 1)) (some (c + 2))
                have k5 := de5.len
                have k6 := de6.len
                walk_at "z"
                refine r_catX (hp5.same s6) hp6 (by omega) fun p7 H7 s7 hp7 => ?_
                have hp7x := hp6x.same s7
                walk_at "z"
                refine r_slX hp7x fun p8 H8 s8 hp8 => ?_
                have hp8x := hp7x.same s8
                have s48 := (s5.trans s6).trans (s7.trans s8)
                obtain ⟨es8, de8, le8, m8⟩ := (hxd4.same s48).cut (some c) (some (c + 1))
                have k8 := de8.len
                walk_at "z"
                refine r_catX (hp7.same s8) hp8 (by rw [List.length_append]; omega) fun p9 H9 s9 hp9 => ?_
                have hp9x := hp8x.same s9
                walk_at "z"
                refine r_slX hp9x fun p10 H10 s10 hp10 => ?_
                have s4a := s48.trans (s9.trans s10)
                obtain ⟨es10, de10, le10, m10⟩ := (hxd4.same s4a).cut (some (c + 2)) none
                have k10 := de10.len
                walk_at "z"
                refine r_catX (hp9.same s10) hp10 (by rw [List.length_append, List.length_append]; omega) fun p11 H11 s11 hp11 => ?_
                have s4b := s4a.trans s11
                have s8b := (s9.trans s10).trans s11
                refine q _ (.tuple (es5 ++ es6 ++ es8 ++ es10)) H11 (hP4.mono s4b) (g04.trans (Gr.of_same s4b)) (.tup hp11 ((((de5.app de6).same ((s7.trans s8).trans s8b)).app (de8.same s8b)).app (de10.same s11))) (limX_mk (by rw [List.length_append, List.length_append, List.length_append]; omega) fun x hx => ?_)
                rcases List.mem_append.mp hx with hx | hx
                · rcases List.mem_append.mp hx with hx | hx
                  · rcases List.mem_append.mp hx with hx | hx
                    · exact lim2 x (m5 x hx)
                    · exact lim2 x (m6 x hx)
                  · exact lim2 x (m8 x hx)
                · exact lim2 x (m10 x hx)
              · walk_at "z"
                refine r_ite (fun w3 => ?_) (fun w3 => ?_)
                · walk_at "z"
                  refine ⟨a, s0, n, rfl, hP4, by omega, by omega, fun k H5 k0 k1 hP5 g5 => ?_⟩
                  have hp5 := hP4.st g5 hp4
                  have hxd5 := hP4.dxs g5 hxd4
                  walk_at "z"
                  refine r_tupN sz1 fun q1 hq1 => ?_
                  have s6 := same_new (o := .tup [.int k]) hq1
                  have hq6 : (upd H5 q1 (.tup [.int k])) q1 = some (.tup [.int k]) := upd_same
                  generalize upd H5 q1 (.tup [.int k]) = H6 at s6 hq6 ⊢
                  walk_at "z"
                  refine r_catX (hp5.same s6) (.inl hq6) (by simp only [List.length_cons, List.length_nil]; omega) fun p7 H7 s7 hp7 => ?_
                  have s57 := s6.trans s7
                  refine q _ (.tuple (ds ++ [.int k])) H7 (hP5.mono s57) ((g04.trans g5).trans (Gr.of_same s57)) (.tup hp7 ((hxd5.same s57).app (.cons (.int k) .nil))) (limX_mk (by rw [List.length_append]; simp only [List.length_cons, List.length_nil]; omega) fun x hx => ?_)
                  rcases List.mem_append.mp hx with hx | hx
                  · exact lim2 x hx
                  · rw [List.mem_singleton.mp hx]
                    exact limX_int
                · walk_at "z"
                  refine r_slX hp4 fun p5 H5 s5 hp5 => ?_
                  have hp5x := hp4.same s5
                  walk_at "z"
                  refine r_ixT (.inl hp5x) (at_of (j := c.toNat) (by omega) hy) ?_
                  walk_at "z"
                  have hP5 := hP4.mono s5
                  have hxd5 := hxd4.same s5
                  refine ⟨a, s0, y, z, d', L, n, rfl, hP5, hxd5.get hy hz, by omega, le z (List.mem_of_getElem? hz), hL, n0, n1, fun v' t' H6 hP6 g6 hd6 hl6 => ?_⟩
                  have hp6 := hP5.st g6 hp5
                  have hp6x := hP5.st g6 hp5x
                  have hxd6 := hP5.dxs g6 hxd5
                  walk_at "z"
                  refine r_tupN sz1 fun q1 hq1 => ?_
                  have s7 := same_new (o := .tup [v']) hq1
                  have hq7 : (upd H6 q1 (.tup [v'])) q1 = some (.tup [v']) := upd_same
                  generalize upd H6 q1 (.tup [v']) = H7 at s7 hq7 ⊢
                  have hxd7 := hxd6.same s7
                  obtain ⟨es5, de5, le5, m5⟩ := hxd7.cut none (some c)
                  have k5 := de5.len
                  walk_at "z"
                  refine r_catX (hp6.same s7) (.inl hq7) (by simp only [List.length_cons, List.length_nil]; omega) fun p8 H8 s8 hp8 => ?_
                  walk_at "z"
                  refine r_slX ((hp6x.same s7).same s8) fun p9 H9 s9 hp9 => ?_
                  have s79 := s8.trans s9
                  obtain ⟨es9, de9, le9, m9⟩ := (hxd7.same s79).cut (some (c + 1)) none
                  have k9 := de9.len
                  walk_at "z"
                  refine r_catX (hp8.same s9) hp9 (by rw [List.length_append]; simp only [List.length_cons, List.length_nil]; omega) fun p10 H10 s10 hp10 => ?_
                  have s6a := (s7.trans s79).trans s10
                  have s7a := s79.trans s10
                  refine q _ (.tuple (es5 ++ [t'] ++ es9)) H10 (hP6.mono s6a) (((g04.trans (Gr.of_same s5)).trans g6).trans (Gr.of_same s6a)) (.tup hp10 (((de5.same s7a).app (.cons (hd6.same s6a) .nil)).app (de9.same s10))) (limX_mk (by rw [List.length_append, List.length_append]; simp only [List.length_cons, List.length_nil]; omega) fun x hx => ?_)
                  rcases List.mem_append.mp hx with hx | hx
                  · rcases List.mem_append.mp hx with hx | hx
                    · exact lim2 x (m5 x hx)
                    · rw [List.mem_singleton.mp hx]
                      exact hl6.mono (by omega) (by omega)
                  · exact lim2 x (m9 x hx)
end

set_option Elab.async false
set_option linter.all false
set_option maxRecDepth 100000
set_option maxHeartbeats 4000000
open PySem PySem.Spec PyProof.Rows L2 LamX RZ

def kds : List Str := ["connected", "bipartite", "forest", "block", "chordal", "interval", "cograph", "comparability", "permutation", "prime", "planar", "outerplanar", "degenerate", "indegree", "forests", "trees", "width", "colours", "independent", "matching", "linked", "isomorphic"]
def nks : List Str := ["degenerate", "indegree", "forests", "trees", "width", "colours", "independent", "matching"]
def bodyX (n : Int) (w : Str) (ds : List PyData) : Prop :=
  w ∈ kds ∧ (if w = "linked" then ∃ s t k : Int, ds = [.int s, .int t, .int k] ∧ (0 ≤ s ∧ s < n) ∧ (0 ≤ t ∧ t < n) ∧ s ≠ t ∧ 0 ≤ k
    else if w = "isomorphic" then ∃ g, ds = [g] ∧ gphX g else if w ∈ nks then ∃ k : Int, ds = [.int k] ∧ 0 ≤ k else ds = [])
def qX (n : Int) (d : PyData) : Prop := ∃ (w : Str) (ds : List PyData), d = .tuple (.str w :: ds) ∧ bodyX n w ds
def strD : PyData → Bool
  | .str _ => true
  | _ => false
def numD : PyData → Bool
  | .int i => decide (i ≥ 0)
  | _ => false
section
variable {P : Program} {w : World} {K : PySem.W.Frag} {mg : Str → Option Value} {base : Heap}
def spNumX (b : Addr) : Sp := fun vs H Q _ => ∃ (v : V) (d : PyData), vs = [v] ∧ DX b H v d ∧ Q (.bl (numD d)) H
def endsD (n : Int) (s t : PyData) : Prop := ∃ i j : Int, s = .int i ∧ t = .int j ∧ (0 ≤ i ∧ i < n) ∧ (0 ≤ j ∧ j < n) ∧ i ≠ j
def spEndsX (b : Addr) : Sp := fun vs H Q _ => ∃ (g x y : V) (n : Int) (ps : List (Int × Int)) (s t : PyData), vs = [g, x, y] ∧ GrAt H g n ps ∧ DX b H x s ∧ DX b H y t ∧ ∀ r : Bool, (r = true ↔ endsD n s t) → Q (.bl r) H
def spQX (b : Addr) (TT : List (Addr × Str)) : Sp := fun vs H Q _ => ∃ (g v : V) (n : Int) (ps : List (Int × Int)) (d : PyData), vs = [g, v] ∧ GrAt H g n ps ∧ DX b H v d ∧ (∃ D, limX D 100000 d) ∧ Tabs TT H ∧ ∀ (r : Bool) H', ExtN H H' → Tabs TT H' → (r = true ↔ qX n d) → Q (.bl r) H'
end

set_option Elab.async false
set_option linter.all false
set_option maxRecDepth 100000
set_option maxHeartbeats 4000000
open PySem PySem.Spec PyProof.Rows L2 LamX RZ

/-- the first i pairs rise -/
def adK (ps : List (Int × Int)) (i : Nat) : Prop := ∀ j : Nat, j < i → ∀ x y, ps[j]? = some x → ps[j + 1]? = some y → ltP x y
theorem PrsX.same {H H' : Hp} (s : Same H H') {xs : List V} {ps : List (Int × Int)} (h : PrsX H xs ps) : PrsX H' xs ps := PrsX.ext (ext_same s) h
theorem IsPX.dp {K : PySem.W.Frag} {H : Hp} {x : V} {p : Int × Int} (h : IsPX H x p) : Dp K H x (prD2 p) := by
  obtain ⟨t, rfl, ht⟩ := h
  exact .tup (.inl ht) (.cons (.int _) (.cons (.int _) .nil))
theorem PrsX.dps {K : PySem.W.Frag} {H : Hp} : ∀ {xs : List V} {ps : List (Int × Int)}, PrsX H xs ps → DpAll K H xs (ps.map prD2)
  | _, _, .nil => .nil
  | _, _, .cons a r => .cons a.dp (PrsX.dps r)
theorem PrsX.keep {a : Addr} {H H' : Hp} (k : ∀ p o, (∀ ps, o ≠ .tbl ps) → (p ≠ a ∨ ∀ xs, o ≠ .lst xs) → H p = some o → H' p = some o) : ∀ {xs : List V} {ps : List (Int × Int)}, PrsX H xs ps → PrsX H' xs ps
  | _, _, .nil => .nil
  | _, _, .cons ⟨t, e, h⟩ r => .cons ⟨t, e, h.keep k⟩ (PrsX.keep k r)
theorem zipX {H : Hp} : ∀ {xs : List V} {ps : List (Int × Int)}, PrsX H xs ps → ∀ z ∈ xs.zip (ps.map prD2), ∃ p, z.2 = prD2 p ∧ IsPX H z.1 p
  | _, _, .nil, z, h => by simp at h
  | _, _, .cons a t, z, h => by
    rw [List.map_cons, List.zip_cons_cons] at h
    rcases List.mem_cons.mp h with rfl | h
    · exact ⟨_, rfl, a⟩
    · exact zipX t z h
theorem mkX {H : Hp} : ∀ {ys : List V} {es : List PyData}, ys.length = es.length → (∀ z ∈ ys.zip es, ∃ p, z.2 = prD2 p ∧ IsPX H z.1 p) → ∃ qs : List (Int × Int), es = qs.map prD2 ∧ PrsX H ys qs
  | [], [], _, _ => ⟨[], rfl, .nil⟩
  | [], _ :: _, h, _ => by simp at h
  | _ :: _, [], h, _ => by simp at h
  | y :: ys, e :: es, h, k => by
    obtain ⟨qs, e1, h1⟩ := mkX (ys := ys) (es := es) (by simpa using h) fun z hz => k z (by rw [List.zip_cons_cons]; exact List.mem_cons_of_mem _ hz)
    obtain ⟨p, e2, h2⟩ := k (y, e) (by rw [List.zip_cons_cons]; exact List.mem_cons_self)
    have e2 : e = prD2 p := e2
    exact ⟨p :: qs, by rw [e1, e2]; rfl, .cons h2 h1⟩
theorem perm_prD {qs ps : List (Int × Int)} (h : (qs.map prD2).Perm (ps.map prD2)) : qs.Perm ps := by
  have := h.map (fun d => match d with | PyData.tuple [.int a, .int b] => (a, b) | _ => (0, 0))
  rw [List.map_map, List.map_map] at this
  have e : ((fun d => match d with | PyData.tuple [.int a, .int b] => (a, b) | _ => ((0, 0) : Int × Int)) ∘ prD2) = id := funext fun p => rfl
  rw [e, List.map_id, List.map_id] at this
  exact this
section
variable {P : Program} {w : World} {K : PySem.W.Frag} {mg : Str → Option Value} {base : Heap}
def spDisX (K : PySem.W.Frag) : Sp := fun vs H Q _ => ∃ (l : Addr) (xs : List V) (ps : List (Int × Int)), vs = [.ref l] ∧ SqL K H l xs ∧ PrsX H xs ps ∧ ps.length ≤ 100000 ∧
  ∀ (f : Addr) (ys : List V) (qs : List (Int × Int)) (H' : Hp), Same H H' → H' f = some (.lst ys) → PrsX H' ys qs → qs.Pairwise ltP → (∀ p, p ∈ qs ↔ p ∈ ps) → Q (.ref f) H'
theorem ok_disX (T : Blt mg) (D : DefAt K mg "_law_distinct" s_law_distinct ["rows"]) : FnOk P w K mg base CX0 1 D.f D.fd ["rows"] (spDisX K) := by
  refine D.F.ok sc_law_distinct (fun vs H Q E h => ?_) (fun cdv A outer s H vs Q E hr h => ?_)
  · obtain ⟨l, xs, ps, rfl, _⟩ := h
    rfl
  · obtain ⟨l, xs, ps, rfl, hl, hp, hlen, q⟩ := h
    refine ⟨_, (pss_cons (ps_set (i := 1) sc_law_distinct.nd rfl (Or.inl rfl) (pe_lst pa_nil))
      (pss_cons (ps_for PassesOwn.never (by rfl) (PI.listK (K := K) rfl (pi_list (pe_callB (cr_sortDK (K := K) rfl hr.units) (by rfl) T.sorted (by decide +kernel) (pa_cons (pv 0) pa_nil)))) (pg_name (i := 2) sc_law_distinct.nd rfl (Or.inl rfl))
        (pss_one (ps_if (PW.pt (pw_or (pt_cmpR (op_eqDK (K := K) rfl hr.units) (pv 1) (pe_lst pa_nil) (nomark _)) (pw_or1 (pt_cmpR (op_neDK (K := K) rfl hr.units) (pe_ix (ix_listK (K := K) rfl) (pv 1) (pe_un un_neg pe_int) (fun _ _ => rfl)) (pv 2) (nomark _)))))
          (pss_one (ps_expr (PE.bmK (K := K) rfl (pe_bm PySem.F.plainAttrs_list PySem.F.slot_list_append PySem.F.type_list_append mt_append (pv 1) (pa_cons (pv 2) pa_nil)))))
          pss_nil)))
      (pss_one (ps_ret (pv 1))))), ?_⟩
    refine r_at (σ := [some _, none, none]) rfl ?_
    walk_at "z"
    refine r_lstN (by decide) fun f hf => ?_
    walk_at "z"
    have s1 : Same H (upd H f (.lst [])) := same_new hf
    have hp1 := hp.same s1
    refine ⟨l, xs, ps.map prD2, rfl, s1.seq hl, hp1.dps, al_prD ps, so_prD ps, by have := deep_prD ps; omega, fun ys es p z ln pmv pme _ pw hn => ?_⟩
    obtain ⟨qs, rfl, hy⟩ := mkX ln fun z' hz' => zipX hp1 z' (z.mem_iff.mp hz')
    have pm := perm_prD pme
    have pwq : qs.Pairwise leP := (List.pairwise_map.mp pw).imp fun h => lt_prD.mp h
    have s2 : Same H (upd (upd H f (.lst [])) p (.lst ys)) := s1.trans (same_new hn)
    have pf : f ≠ p := ne_of_none upd_same hn
    refine r_il (.inl (.inl upd_same)) (forR_list (xs := ys) (fun i σ' H' => (∃ x2, σ' = [some (.ref l), some (.ref f), x2]) ∧ Same H H' ∧ H' p = some (.lst ys) ∧ PrsX H' ys qs ∧ ∃ zs fs, H' f = some (.lst zs) ∧ PrsX H' zs fs ∧ Ded (qs.take i) fs ∧ fs.length ≤ i)
      ⟨⟨_, rfl⟩, s2, upd_same, hy.same (same_new hn), [], [], (upd_ne pf).trans upd_same, .nil, .nil, Nat.le_refl 0⟩ ?_ ?_ ?_)
    · rintro i σ' H' _ ⟨_, _, h, _⟩
      exact .inl (.inl h)
    · rintro i x σ' H' hx ⟨⟨x2, rfl⟩, sm, hpl, hys, zs, fs, hz, hfs, D0, lf⟩
      obtain ⟨r, hr', hxr⟩ := pd_get hys hx
      have il := (List.getElem?_eq_some_iff.mp hr').1
      have tk : qs.take (i + 1) = qs.take i ++ [r] := take_next hr'
      have ql := pm.length_eq
      walk_at "z"
      refine r_lstN (by decide) fun e he => ?_
      have ef : f ≠ e := ne_of_none hz he
      have s3 : Same H' (upd H' e (.lst [])) := same_new he
      have hz3 : (upd H' e (.lst [])) f = some (.lst zs) := (upd_ne ef).trans hz
      have he3 : (upd H' e (.lst [])) e = some (.lst []) := upd_same
      have hfs3 := hfs.same s3
      have hys3 := hys.same s3
      have hpl3 := s3 _ _ hpl
      have sm3 := sm.trans s3
      have hxr3 : IsPX (upd H' e (.lst [])) x r := by
        obtain ⟨t, e, h⟩ := hxr
        exact ⟨t, e, h.same s3⟩
      generalize upd H' e (.lst []) = H3 at s3 hz3 he3 hfs3 hys3 hpl3 sm3 hxr3 ⊢
      refine ⟨.list (fs.map prD2), .list [], .lst (.inl (.inl hz3)) hfs3.dps, .lst (.inl (.inl he3)) .nil, prD2s_shL fs, prD2s_shL [], ?_⟩
      have e0 : PyData.eqv (.list (fs.map prD2)) (.list []) = decide (fs = []) := by
        cases fs with
        | nil => rfl
        | cons _ _ => rfl
      rw [e0]
      walk_at "z"
      have lens : zs.length < sizeLine := small_lt (by rw [hfs.length]; omega)
      have pl : ((qs.take i) ++ [r]).Pairwise leP := by
        rw [← tk]
        exact pwq.take
      have push : fs.getLast? ≠ some r → (∃ x2_1, [some (V.ref l), some (V.ref f), some x] = [some (V.ref l), some (V.ref f), x2_1]) ∧ Same H (upd H3 f (.lst (zs ++ [x]))) ∧ (upd H3 f (.lst (zs ++ [x]))) p = some (.lst ys) ∧ PrsX (upd H3 f (.lst (zs ++ [x]))) ys qs ∧ ∃ zs' fs', (upd H3 f (.lst (zs ++ [x]))) f = some (.lst zs') ∧ PrsX (upd H3 f (.lst (zs ++ [x]))) zs' fs' ∧ Ded (qs.take (i + 1)) fs' ∧ fs'.length ≤ i + 1 := fun hne => by
        have kk : ∀ b o, (∀ ps, o ≠ .tbl ps) → (b ≠ f ∨ ∀ xs, o ≠ .lst xs) → H3 b = some o → (upd H3 f (.lst (zs ++ [x]))) b = some o := fun b o _ h eo => by
          have bf : b ≠ f := by
            rcases h with h | h
            · exact h
            · intro z
              rw [z, hz3] at eo
              exact h zs (Option.some.inj eo).symm
          rw [upd_ne bf]
          exact eo
        refine ⟨⟨_, rfl⟩, same_mut sm3 hf, (upd_ne (Ne.symm pf)).trans hpl3, hys3.keep kk, zs ++ [x], fs ++ [r], upd_same, pd_append (hfs3.keep kk) (.cons ?_ .nil), ?_, by rw [List.length_append]; simp only [List.length_cons, List.length_nil]; omega⟩
        · obtain ⟨t, e, h⟩ := hxr3
          exact ⟨t, e, h.keep kk⟩
        · rw [tk]
          exact D0.more pl hne
      refine r_ite (fun h0 => ?_) (fun h0 => ?_)
      · walk_at "z"
        refine r_appT hz3 lens (push ?_)
        rw [h0]
        exact fun z => nomatch z
      · walk_at "z"
        obtain ⟨r', hr2⟩ : ∃ r', fs.getLast? = some r' := by
          cases q9 : fs.getLast? with
          | some r' => exact ⟨r', rfl⟩
          | none => exact absurd (List.getLast?_eq_none_iff.mp q9) h0
        obtain ⟨x', hx', fx'⟩ := pd_last hfs3 hr2
        refine r_ixL (.inl (.inl hz3)) (at_last hx') ?_
        walk_at "z"
        refine ⟨prD2 r', prD2 r, fx'.dp, hxr3.dp, prD2_shaped r', prD2_shaped r, ?_⟩
        rw [prD2_eqv]
        walk_at "z"
        refine r_iteN (fun h1 => ?_) (fun h1 => ?_)
        · walk_at "z"
          refine r_appT hz3 lens (push ?_)
          rw [hr2]
          exact fun z => h1 (Option.some.inj z)
        · walk_at "z"
          refine ⟨⟨_, rfl⟩, sm3, hpl3, hys3, zs, fs, hz3, hfs3, ?_, by omega⟩
          rw [tk]
          exact D0.same (by rw [hr2, h1])
    · rintro σ' H' ⟨⟨x2, rfl⟩, sm, hpl, hys, zs, fs, hz, hfs, D0, _⟩
      walk_at "z"
      rw [hys.length, List.take_length] at D0
      exact q f zs fs H' sm hz hfs D0.asc fun z => (D0.mem z).trans pm.mem_iff
def spKinds : Sp := fun vs H Q _ => vs = [] ∧ ∀ (l : Addr) (H' : Hp), H l = none → Same H H' → H' l = some (.lst (kds.map V.str)) → Q (.ref l) H'
end

set_option Elab.async false
set_option linter.all false
set_option maxRecDepth 100000
set_option maxHeartbeats 4000000
open PySem PySem.Spec PyProof.Rows L2 LamX RZ

abbrev s_top : Stmt := topS 12
theorem sc_top : FnScope ["above", "v"] ["above", "v"] (defScope s_top) := ⟨rfl, rfl, rfl, by decide +kernel, rfl, by decide +kernel, by decide +kernel⟩

abbrev s_is_forest : Stmt := topS 11
theorem sc_is_forest : FnScope ["n", "edges", "above", "u", "v", "low", "high", "sizes", "top"] ["n", "edges"] (defScope s_is_forest) := ⟨rfl, rfl, rfl, by decide +kernel, rfl, by decide +kernel, by decide +kernel⟩

abbrev s_is_spanning_tree : Stmt := topS 13
theorem sc_is_spanning_tree : FnScope ["n", "edges"] ["n", "edges"] (defScope s_is_spanning_tree) := ⟨rfl, rfl, rfl, by decide +kernel, rfl, by decide +kernel, by decide +kernel⟩

theorem extN_mut {H H' : Hp} {p : Addr} {o : HO} (x : ExtN H H') (h : H p = none) : ExtN H (upd H' p o) := fun b u e n => by
  rw [upd_ne (ne_of_none e h)]
  exact x b u e n
theorem extN_new {H : Hp} {p : Addr} {o : HO} (h : H p = none) : ExtN H (upd H p o) := extN_mut (.refl H) h
theorem tabsL {T : List (Addr × Str)} {H : Hp} {f : Addr} {xs : List V} {o : HO} (t : Tabs T H) (hf : H f = some (.lst xs)) : Tabs T (upd H f o) := tabs_upd t hf (fun _ z => nomatch z) (fun c q z => by unfold CodeO at z; cases z)
theorem tabsN {T : List (Addr × Str)} {H : Hp} {f : Addr} {o : HO} (t : Tabs T H) (hf : H f = none) : Tabs T (upd H f o) := tabs_same t (same_new hf)
theorem natI {m : Nat} {v : Int} (h : nodeI m v) : ∃ j : Nat, v = (j : Int) ∧ j < m := by
  unfold nodeI at h
  exact ⟨v.toNat, by omega, by omega⟩
theorem ixN_nat {n j : Nat} (h : j < n) : ixN n (j : Int) = some j := by
  unfold ixN
  rw [if_pos (by omega), if_pos (by omega)]
  rfl
theorem PrsX.len {H : Hp} {xs : List V} {ps : List (Int × Int)} (h : PrsX H xs ps) : xs.length = ps.length := Paired.length h
section
variable {P : Program} {w : World} {K : PySem.W.Frag} {mg : Str → Option Value} {base : Heap}
def spTop : Sp := fun vs H Q _ => ∃ (a : Addr) (as : List Int) (m : Nat) (L : List (Int × Int)) (par rt : Int → Int) (dd : Int → Nat) (v : Int), vs = [.ref a, .int v] ∧ H a = some (.lst (as.map V.int)) ∧ UF m L par rt dd ∧ (∀ j : Nat, j < m → as[j]? = some (par j)) ∧ nodeI m v ∧ Q (.int (rt v)) H
theorem ok_top (T : Blt mg) (D : DefAt K mg "_top" s_top ["above", "v"]) : FnOk P w K mg base CX0 1 D.f D.fd ["above", "v"] spTop := by
  refine D.F.ok sc_top (fun vs H Q E h => ?_) (fun cdv A outer s H vs Q E hr h => ?_)
  · obtain ⟨a, as, m, L, par, rt, dd, v, rfl, _⟩ := h
    rfl
  · obtain ⟨a, as, m, L, par, rt, dd, v, rfl, ha, uf, hp, nv, q⟩ := h
    have at_ : ∀ {x : Int}, nodeI m x → atI (as.map V.int) x = some (.int (par x)) := fun {x} hx => by
      obtain ⟨j, rfl, hj⟩ := natI hx
      exact atI_nat (by rw [List.getElem?_map, hp j hj]; rfl)
    refine ⟨_, (pss_cons (ps_while PassesOwn.never (pt_cmpR op_ne (pe_ix (ix_listK (K := K) rfl) (pv 0) (pv 1) (fun _ _ => rfl)) (pv 1) (nomark _))
        (pss_one (ps_set (i := 1) sc_top.nd rfl (Or.inl rfl) (pe_ix (ix_listK (K := K) rfl) (pv 0) (pv 1) (fun _ _ => rfl)))))
      (pss_one (ps_ret (pv 1)))), ?_⟩
    refine r_at (σ := [some _, some _]) rfl ?_
    walk_at "z1"
    refine r_while (fun k σ' H' => ∃ x, σ' = [some (.ref a), some (.int x)] ∧ H' = H ∧ nodeI m x ∧ rt x = rt v ∧ k = dd x) (dd v) ⟨v, rfl, rfl, nv, rfl, rfl⟩ ?_
    rintro k σ' H' ⟨x, rfl, rfl, nx, rx, rfl⟩
    have ax := at_ nx
    walk_at "z"
    refine r_iteN (fun ne => ?_) (fun e => ?_)
    · refine r_whGo ?_
      walk_at "z"
      exact ⟨_, uf.lt x nx ne, par x, rfl, rfl, uf.pin x nx, (uf.up x nx).trans rx, rfl⟩
    · walk_at "z"
      rw [← uf.fix x nx e, rx]
      exact q
def spForest (TT : List (Addr × Str)) : Sp := fun vs H Q _ => ∃ (m : Nat) (t : Addr) (xs : List V) (L : List (Int × Int)), vs = [.int (m : Nat), .ref t] ∧ ST H t xs ∧ PrsX H xs L ∧ (∀ l ∈ L, nodeI m l.1 ∧ nodeI m l.2) ∧ m ≤ 1000 ∧ Tabs TT H ∧
  ∀ (b : Bool) H', ExtN H H' → Tabs TT H' → (b = true ↔ Acy L) → Q (.bl b) H'
theorem ok_forest {c PT : Addr} {TT : List (Addr × Str)} (TB : TabB base mg c PT) (hm9 : (PT, lamN "is_forest") ∈ TT) (hu9 : ∀ p ∈ TT, p.1 = PT → p.2 = lamN "is_forest") (T : Blt mg) (D : DefAt K mg "is_forest" s_is_forest ["n", "edges"]) (hco : D.fd.code = .ref c)
    (D_top : DefAt K mg "_top" s_top ["above", "v"]) (G_top : FnOk P w K mg base CX0 1 D_top.f D_top.fd ["above", "v"] spTop) : FnOk P w K mg base CX0 6 D.f D.fd ["n", "edges"] (spForest TT) := by
  refine okV D.F sc_is_forest (fun vs H Q E h => ?_) (fun cdv A outer s H vs Q E hcv hr h => ?_)
  · obtain ⟨m, t, xs, L, rfl, _⟩ := h
    rfl
  · obtain ⟨m, t, xs, L, rfl, ht, hx, nd, m1, hT, q⟩ := h
    obtain rfl : cdv = .ref c := hcv.symm.trans hco
    have lx := hx.len
    refine ⟨_, (pss_cons (ps_set (i := 2) sc_is_forest.nd rfl (Or.inl rfl) (pe_listRg rfl (by rfl) T.list (prg_1 (by rfl) T.range (pv 0))))
      (pss_cons (ps_set (i := 7) sc_is_forest.nd rfl (Or.inr rfl) (pe_op op_rep (pe_lst (pa_cons pe_int pa_nil)) (pv 0)))
      (pss_cons (ps_for PassesOwn.never (by rfl) (PI.tupK (K := K) rfl (pi_tup (pv 1))) (PG.tupK (K := K) rfl (pg_tup (n := 2) rfl (pgs_cons (pg_name (i := 3) sc_is_forest.nd rfl (Or.inl rfl)) (pgs_cons (pg_name (i := 4) sc_is_forest.nd rfl (Or.inl rfl)) pgs_nil))))
        (pss_cons (ps_asg (pe_sortLam (K := K) (T := TT) (y := "top") (k := 2) (ix := 8) rfl (hr.mono (by first | decide | omega)) (by rfl) T.sorted (pa_cons (pe_lst (pa_cons (pe_call G_top (hr.mono (by first | decide | omega)) (by rfl) D_top.g D_top.F.kp D_top.b .nil pass0 (pa_cons (pv 2) (pa_cons (pv 3) pa_nil))) (pa_cons (pe_call G_top (hr.mono (by first | decide | omega)) (by rfl) D_top.g D_top.F.kp D_top.b .nil pass0 (pa_cons (pv 2) (pa_cons (pv 4) pa_nil))) pa_nil))) pa_nil) TB rfl hm9 hu9 (lamS1_by (sc := defScope s_is_forest) (by decide +kernel)) (by rfl) (fun _ _ _ _ _ _ => by rfl) rfl sc_is_forest.nd (fun A outer s H f c hr => (pe_ix (ix_listK (K := K) rfl) (pv 7) (pv 8) (fun _ _ => rfl)))) (PG.lstK (K := K) rfl (pg_lstT (n := 2) rfl (pgs_cons (pg_name (i := 5) sc_is_forest.nd rfl (Or.inl rfl)) (pgs_cons (pg_name (i := 6) sc_is_forest.nd rfl (Or.inl rfl)) pgs_nil)))))
        (pss_cons (ps_if (pt_cmpR op_eq (pv 5) (pv 6) (nomark _))
          (pss_one (ps_ret pe_bl))
          pss_nil)
        (pss_cons (ps_asg (pv 6) (pg_sub (pv 2) (pv 5) set_list))
        (pss_one (ps_augS (pv 7) (pv 6) (pg_listK (K := K) rfl) (pe_ix (ix_listK (K := K) rfl) (pv 7) (pv 5) (fun _ _ => rfl)) ip_add set_list))))))
      (pss_one (ps_ret pe_bl))))), ?_⟩
    refine r_at (σ := [some _, some _, none, none, none, none, none, none, none]) rfl ?_
    walk_at "z"
    refine r_lRg (by omega) (by omega) fun A hA => ?_
    have s1 : Same H (upd H A (.lst ((rgI (m : Int)).map V.int))) := same_new hA
    have hA1 : (upd H A (.lst ((rgI (m : Int)).map V.int))) A = some (.lst ((rgI (m : Int)).map V.int)) := upd_same
    generalize upd H A (.lst ((rgI (m : Int)).map V.int)) = H1 at s1 hA1 ⊢
    walk_at "z"
    refine r_lstN sz1 fun l0 hl0 => ?_
    have s2 : Same H1 (upd H1 l0 (.lst [.int 1])) := same_new hl0
    have hl2 : (upd H1 l0 (.lst [.int 1])) l0 = some (.lst [.int 1]) := upd_same
    generalize upd H1 l0 (.lst [.int 1]) = H2 at s2 hl2 ⊢
    walk_at "z"
    refine r_repK hl2 m1 fun S hS => ?_
    have S0 : H S = none := (s1.trans s2).free hS
    have s03 := (s1.trans s2).trans (same_new (o := .lst (List.replicate m (.int 1))) hS)
    have e3 := ext_same s03
    have T3 := tabs_same hT s03
    have hA3 : (upd H2 S (.lst (List.replicate m (.int 1)))) A = some (.lst ((rgI (m : Int)).map V.int)) := (same_new hS) _ _ (s2 _ _ hA1)
    have hS3 : (upd H2 S (.lst (List.replicate m (.int 1)))) S = some (.lst ((List.replicate m (1 : Int)).map V.int)) := by rw [List.map_replicate]; exact upd_same
    have nAS : A ≠ S := ne_of_none (s2 _ _ hA1) hS
    generalize upd H2 S (.lst (List.replicate m (.int 1))) = H3 at e3 T3 hA3 hS3 ⊢
    walk_at "z"
    refine r_it (.inl (ht.ext e3)) (forR_tup (xs := xs) (fun i σ' H' => ∃ (as ss : List Int) (x3 x4 x5 x6 x8 : Option V) (par rt : Int → Int) (dd : Int → Nat), σ' = [some (.int (m : Nat)), some (.ref t), some (.ref A), x3, x4, x5, x6, some (.ref S), x8] ∧ ExtN H H' ∧ Tabs TT H' ∧ H' A = some (.lst (as.map V.int)) ∧ H' S = some (.lst (ss.map V.int)) ∧ as.length = m ∧ ss.length = m ∧ UF m (L.take i) par rt dd ∧ (∀ j : Nat, j < m → as[j]? = some (par j)) ∧ Acy (L.take i))
      ⟨_, _, _, _, _, _, _, _, _, _, rfl, e3, T3, hA3, hS3, by rw [rgI_len]; omega, List.length_replicate, uf_nil m, fun j hj => by
        unfold rgI
        rw [List.getElem?_map, List.getElem?_range (by omega)]
        rfl, acy_nil⟩ (fun i σ' H' _ ⟨_, _, _, _, _, _, _, _, _, _, _, e, _⟩ => .inl (ht.ext e)) ?_ ?_)
    · rintro i x σ' H4 hxi ⟨as, ss, x3, x4, x5, x6, x8, par, rt, dd, rfl, e4, T4, hA4, hS4, la, ls, uf, hp, ac⟩
      obtain ⟨⟨u, v⟩, hl, tx, rfl, htx⟩ := pd_get (hx.ext e4) hxi
      obtain ⟨nu, nv⟩ := nd _ (List.mem_of_getElem? hl)
      dsimp only at nu nv htx
      refine r_gtup (.inl htx) rfl ?_
      walk_at "z"
      refine ⟨A, as, m, L.take i, par, rt, dd, u, rfl, hA4, uf, hp, nu, ?_⟩
      walk_at "z"
      refine ⟨A, as, m, L.take i, par, rt, dd, v, rfl, hA4, uf, hp, nv, ?_⟩
      walk_at "z"
      refine r_lstN sz2 fun l1 hl1 => ?_
      have e5 : ExtN H4 (upd H4 l1 (.lst [.int (rt u), .int (rt v)])) := extN_new hl1
      have T5 := tabsN (o := .lst [.int (rt u), .int (rt v)]) T4 hl1
      have hl5 : (upd H4 l1 (.lst [.int (rt u), .int (rt v)])) l1 = some (.lst [.int (rt u), .int (rt v)]) := upd_same
      generalize upd H4 l1 (.lst [.int (rt u), .int (rt v)]) = H5 at e5 T5 hl5 ⊢
      obtain ⟨ju, eu, hju⟩ := natI (uf.rin u nu)
      obtain ⟨jv, ev, hjv⟩ := natI (uf.rin v nv)
      obtain ⟨ku, hku⟩ : ∃ k, ss[ju]? = some k := ⟨_, List.getElem?_eq_getElem (by omega)⟩
      obtain ⟨kv, hkv⟩ : ∃ k, ss[jv]? = some k := ⟨_, List.getElem?_eq_getElem (by omega)⟩
      walk_at "z"
      refine ⟨T5, l1, [.int (rt u), .int (rt v)], [ku, kv], rfl, .inl (.inl (.inl hl5)), rfl, fun H6 e6 T6 => ⟨fun i x k hx hk => ?_, fun p zs pm _ hp6 => ?_⟩⟩
      · have hS6 := ext_lst (e5.trans e6) hS4
        match i, hx, hk with
        | 0, hx, hk =>
          cases hx
          cases hk
          walk_at "z"
          refine r_ixL (.inl (.inl hS6)) (at_of (j := ju) (by omega) (by rw [List.getElem?_map, hku]; rfl)) ?_
          exact ⟨rfl, rfl⟩
        | 1, hx, hk =>
          cases hx
          cases hk
          walk_at "z"
          refine r_ixL (.inl (.inl hS6)) (at_of (j := jv) (by omega) (by rw [List.getElem?_map, hkv]; rfl)) ?_
          exact ⟨rfl, rfl⟩
        | i + 2, hx, hk => simp at hx
      · have e46 := e5.trans e6
        have hA6 := ext_lst e46 hA4
        have hS6 := ext_lst e46 hS4
        obtain ⟨jl, jh, ez, hjl, hjh, el⟩ : ∃ jl jh : Nat, zs.map Prod.fst = [V.int (jl : Nat), V.int (jh : Nat)] ∧ jl < m ∧ jh < m ∧ (((jl : Int) = rt u ∧ (jh : Int) = rt v) ∨ ((jl : Int) = rt v ∧ (jh : Int) = rt u)) := by
          rcases ksk_perm2 pm with z | z
          · exact ⟨ju, jv, by rw [z, eu, ev]; rfl, hju, hjv, .inl ⟨eu.symm, ev.symm⟩⟩
          · exact ⟨jv, ju, by rw [z, eu, ev]; rfl, hjv, hju, .inr ⟨ev.symm, eu.symm⟩⟩
        rw [ez]
        have e7 : ExtN H4 (upd H6 p (.lst [.int (jl : Nat), .int (jh : Nat)])) := e46.trans (extN_new hp6)
        have T7 := tabsN (o := .lst [.int (jl : Nat), .int (jh : Nat)]) T6 hp6
        have hp7 : (upd H6 p (.lst [.int (jl : Nat), .int (jh : Nat)])) p = some (.lst [.int (jl : Nat), .int (jh : Nat)]) := upd_same
        have hA7 := ext_lst e7 hA4
        have hS7 := ext_lst e7 hS4
        generalize upd H6 p (.lst [.int (jl : Nat), .int (jh : Nat)]) = H7 at e7 T7 hp7 hA7 hS7 ⊢
        refine r_glst (.inl (.inl hp7)) rfl ?_
        have e07 := e4.trans e7
        have tk : L.take (i + 1) = L.take i ++ [(u, v)] := take_next hl
        walk_at "z"
        refine r_ite (fun c => ?_) (fun ne => ?_)
        · walk_at "z"
          refine q false H7 e07 T7 ⟨fun z => Bool.noConfusion z, fun z => ?_⟩
          have h1 := acy_take z (i + 1)
          rw [tk] at h1
          refine absurd ((uf.cn u v nu nv).mpr ?_) (acy_snoc.mp h1).2
          rcases el with ⟨a1, a2⟩ | ⟨a1, a2⟩
          · rw [← a1, ← a2]; exact c
          · rw [← a1, ← a2]; exact c.symm
        · walk_at "z"
          refine r_setL hA7 (ixN_nat (by rw [List.length_map]; omega)) ?_
          have hA8 : (upd H7 A (.lst ((as.map V.int).set jl (.int (jh : Nat))))) A = some (.lst ((as.set jl (jh : Int)).map V.int)) := by
            rw [List.map_set]
            exact upd_same
          have hS8 : (upd H7 A (.lst ((as.map V.int).set jl (.int (jh : Nat))))) S = some (.lst (ss.map V.int)) := (upd_ne (Ne.symm nAS)).trans hS7
          have e8 : ExtN H (upd H7 A (.lst ((as.map V.int).set jl (.int (jh : Nat))))) := extN_mut e07 hA
          have T8 := tabsL (o := .lst ((as.map V.int).set jl (.int (jh : Nat)))) T7 hA7
          generalize upd H7 A (.lst ((as.map V.int).set jl (.int (jh : Nat)))) = H8 at hA8 hS8 e8 T8 ⊢
          obtain ⟨kl, hkl⟩ : ∃ k, ss[jl]? = some k := ⟨_, List.getElem?_eq_getElem (by omega)⟩
          obtain ⟨kh, hkh⟩ : ∃ k, ss[jh]? = some k := ⟨_, List.getElem?_eq_getElem (by omega)⟩
          walk_at "z"
          refine r_augSI hS8 (by rw [List.getElem?_map, hkh]; rfl) ?_
          walk_at "z"
          refine r_ixL (.inl (.inl hS8)) (at_of (j := jl) (by omega) (by rw [List.getElem?_map, hkl]; rfl)) ?_
          refine r_augSV hS8 (by rw [List.length_map]; omega) ?_
          have hA9 : (upd H8 S (.lst ((ss.map V.int).set jh (.int (kh + kl))))) A = some (.lst ((as.set jl (jh : Int)).map V.int)) := (upd_ne nAS).trans hA8
          refine ⟨as.set jl (jh : Int), ss.set jh (kh + kl), _, _, _, _, _, (fun x => if x = (jl : Int) then (jh : Int) else par x), (fun x => if rt x = (jl : Int) then (jh : Int) else rt x), (fun x => if rt x = (jl : Int) then dd x + dd (jh : Int) + 1 else dd x), rfl, extN_mut e8 S0, tabsL T8 hS8, hA9, by rw [List.map_set]; exact upd_same, by rw [List.length_set]; exact la, by rw [List.length_set]; exact ls, ?_, ?_, ?_⟩
          · rw [tk]
            exact uf.join nu nv el ne
          · intro j hj
            rw [List.getElem?_set]
            by_cases z : jl = j
            · subst z
              rw [if_pos rfl, if_pos (by omega)]
              simp
            · rw [if_neg z, hp j hj]
              show some (par (j : Int)) = some (if (j : Int) = (jl : Int) then (jh : Int) else par (j : Int))
              rw [if_neg (by omega)]
          · rw [tk]
            refine acy_snoc.mpr ⟨ac, fun z => ne ?_⟩
            have := (uf.cn u v nu nv).mp z
            rcases el with ⟨a1, a2⟩ | ⟨a1, a2⟩
            · rw [a1, a2]; exact this
            · rw [a1, a2]; exact this.symm
    · rintro σ' H4 ⟨as, ss, x3, x4, x5, x6, x8, par, rt, dd, rfl, e4, T4, hA4, hS4, la, ls, uf, hp, ac⟩
      rw [lx, List.take_length] at ac
      walk_at "z"
      exact q true H4 e4 T4 ⟨fun _ => ac, fun _ => rfl⟩
def spSpan (TT : List (Addr × Str)) : Sp := fun vs H Q _ => ∃ (m : Nat) (t : Addr) (xs : List V) (L : List (Int × Int)), vs = [.int (m : Nat), .ref t] ∧ ST H t xs ∧ PrsX H xs L ∧ (∀ l ∈ L, nodeI m l.1 ∧ nodeI m l.2) ∧ m ≤ 1000 ∧ Tabs TT H ∧
  ∀ (b : Bool) H', ExtN H H' → Tabs TT H' → (b = true ↔ L.length + 1 = m ∧ Acy L) → Q (.bl b) H'
theorem ok_span {TT : List (Addr × Str)} (T : Blt mg) (D : DefAt K mg "is_spanning_tree" s_is_spanning_tree ["n", "edges"]) (D_is_forest : DefAt K mg "is_forest" s_is_forest ["n", "edges"]) (G_is_forest : FnOk P w K mg base CX0 6 D_is_forest.f D_is_forest.fd ["n", "edges"] (spForest TT)) :
    FnOk P w K mg base CX0 7 D.f D.fd ["n", "edges"] (spSpan TT) := by
  refine D.F.ok sc_is_spanning_tree (fun vs H Q E h => ?_) (fun cdv A outer s H vs Q E hr h => ?_)
  · obtain ⟨m, t, xs, L, rfl, _⟩ := h
    rfl
  · obtain ⟨m, t, xs, L, rfl, ht, hx, nd, m1, hT, q⟩ := h
    have lx := hx.len
    have hq : SqT K H t xs := .inl ht
    refine ⟨_, (pss_one (ps_ret (pe_and (pe_cmpR op_eq (pe_callB (call_lenK (K := K) rfl) (by rfl) T.len (by decide +kernel) (pa_cons (pv 1) pa_nil)) (pe_op op_sub (pv 0) pe_int) (nomark _)) (pe_one (pe_call G_is_forest (hr.mono (by first | decide | omega)) (by rfl) D_is_forest.g D_is_forest.F.kp D_is_forest.b .nil pass0 (pa_cons (pv 0) (pa_cons (pv 1) pa_nil))))))), ?_⟩
    refine r_at (σ := [some _, some _]) rfl ?_
    walk_at "z"
    refine r_ite (fun c => ?_) (fun c => ?_)
    · walk_at "z"
      refine ⟨m, t, xs, L, rfl, ht, hx, nd, m1, hT, fun b H1 e1 T1 hb => ?_⟩
      exact q b H1 e1 T1 (hb.trans ⟨fun z => ⟨by omega, z⟩, fun z => z.2⟩)
    · exact q false H (.refl H) hT ⟨fun z => Bool.noConfusion z, fun z => absurd (by omega) c⟩
end

set_option Elab.async false
set_option linter.all false
set_option maxRecDepth 100000
set_option maxHeartbeats 4000000
open PySem PySem.Spec PyProof.Rows L2

abbrev s_mask_of : Stmt := topS 8
theorem sc_mask_of : FnScope ["members", "mask", "v"] ["members"] (defScope s_mask_of) := ⟨rfl, rfl, rfl, by decide +kernel, rfl, by decide +kernel, by decide +kernel⟩

/-- the neighbours of v in the order of the edges -/
def adjL (ps : List (Int × Int)) (v : Nat) : List Int := ps.flatMap fun p => (if p.1 = (v : Int) then [p.2] else []) ++ (if p.2 = (v : Int) then [p.1] else [])
section
variable {P : Program} {w : World} {K : PySem.W.Frag} {mg : Str → Option Value} {base : Heap}
/-- a list of lists of neighbours -/
def spNLists : Sp := fun vs H Q _ => ∃ (g : V) (n : Nat) (ps : List (Int × Int)), vs = [g] ∧ GrAt H g (n : Int) ps ∧ n ≤ 100 ∧ ps.length ≤ 10000 ∧ (∀ p ∈ ps, 0 ≤ p.1 ∧ p.1 < p.2 ∧ p.2 < (n : Int)) ∧
  ∀ (l : Addr) (as : List Addr) (H' : Hp), Same H H' → H' l = some (.lst (as.map V.ref)) → as.length = n → (∀ i a, as[i]? = some a → H' a = some (.lst ((adjL ps i).map V.int))) → Q (.ref l) H'
/-- the bits of a list or tuple -/
def spMask (K : PySem.W.Frag) : Sp := fun vs H Q _ => ∃ (l : Addr) (ns : List Int), vs = [.ref l] ∧ (SqL K H l (ns.map V.int) ∨ SqT K H l (ns.map V.int)) ∧ (∀ v ∈ ns, 0 ≤ v ∧ v < 1000) ∧ ∀ x : Int, Msk x (fun i => i ∈ ns) → Q (.int x) H
theorem ok_mask (T : Blt mg) (D : DefAt K mg "mask_of" s_mask_of ["members"]) : FnOk P w K mg base CX0 1 D.f D.fd ["members"] (spMask K) := by
  refine D.F.ok sc_mask_of (fun vs H Q E h => ?_) (fun cdv A outer s H vs Q E hr h => ?_)
  · obtain ⟨l, ns, rfl, _⟩ := h
    rfl
  · obtain ⟨l, ns, rfl, hl, bd, q⟩ := h
    have step : ∀ (i : Nat) (v x : Int), ns[i]? = some v → Msk x (fun z => z ∈ ns.take i) → Msk (Builtin.bitOr x (1 * 2 ^ v.toNat)) (fun z => z ∈ ns.take (i + 1)) := fun i v x hv m => by
      rw [take_next hv]
      exact m.snoc (bd v (List.mem_of_getElem? hv)).1
    rcases hl with hl | hl
    · refine ⟨_, (pss_cons (ps_set (i := 1) sc_mask_of.nd rfl (Or.inl rfl) pe_int)
      (pss_cons (ps_for PassesOwn.never (by rfl) (PI.listK (K := K) rfl (pi_list (pv 0))) (pg_name (i := 2) sc_mask_of.nd rfl (Or.inl rfl))
        (pss_one (ps_aug (i := 1) sc_mask_of.nd rfl (Or.inl rfl) (pe_op op_shl pe_int (pv 2)) iop_or)))
      (pss_one (ps_ret (pv 1))))), ?_⟩
      refine r_at (σ := [some _, none, none]) rfl ?_
      walk_at "z"
      refine r_il hl (forR_list (xs := ns.map V.int) (fun i σ' H' => H' = H ∧ ∃ (x : Int) (z : Option V), σ' = [some (.ref l), some (.int x), z] ∧ Msk x (fun z => z ∈ ns.take i)) ⟨rfl, _, _, rfl, .nil⟩ (fun i σ' H' _ ⟨eH, _⟩ => eH ▸ hl) ?_ ?_)
      · rintro i v σ' H' hv ⟨rfl, x, z, rfl, m⟩
        rw [List.getElem?_map] at hv
        obtain ⟨v, hv9, rfl⟩ := Option.map_eq_some_iff.mp hv
        obtain ⟨b0, b1⟩ := bd v (List.mem_of_getElem? hv9)
        walk_at "z"
        refine r_aug rfl ?_
        walk_at "z"
        refine r_i ⟨by omega, by omega, by decide⟩ ?_
        refine r_augOr rfl ?_
        exact ⟨rfl, _, _, rfl, step i v x hv9 m⟩
      · rintro σ' H' ⟨rfl, x, z, rfl, m⟩
        rw [List.length_map, List.take_length] at m
        walk_at "z"
        exact q x m
    · refine ⟨_, (pss_cons (ps_set (i := 1) sc_mask_of.nd rfl (Or.inl rfl) pe_int)
      (pss_cons (ps_for PassesOwn.never (by rfl) (PI.tupK (K := K) rfl (pi_tup (pv 0))) (pg_name (i := 2) sc_mask_of.nd rfl (Or.inl rfl))
        (pss_one (ps_aug (i := 1) sc_mask_of.nd rfl (Or.inl rfl) (pe_op op_shl pe_int (pv 2)) iop_or)))
      (pss_one (ps_ret (pv 1))))), ?_⟩
      refine r_at (σ := [some _, none, none]) rfl ?_
      walk_at "z"
      refine r_it hl (forR_tup (xs := ns.map V.int) (fun i σ' H' => H' = H ∧ ∃ (x : Int) (z : Option V), σ' = [some (.ref l), some (.int x), z] ∧ Msk x (fun z => z ∈ ns.take i)) ⟨rfl, _, _, rfl, .nil⟩ (fun i σ' H' _ ⟨eH, _⟩ => eH ▸ hl) ?_ ?_)
      · rintro i v σ' H' hv ⟨rfl, x, z, rfl, m⟩
        rw [List.getElem?_map] at hv
        obtain ⟨v, hv9, rfl⟩ := Option.map_eq_some_iff.mp hv
        obtain ⟨b0, b1⟩ := bd v (List.mem_of_getElem? hv9)
        walk_at "z"
        refine r_aug rfl ?_
        walk_at "z"
        refine r_i ⟨by omega, by omega, by decide⟩ ?_
        refine r_augOr rfl ?_
        exact ⟨rfl, _, _, rfl, step i v x hv9 m⟩
      · rintro σ' H' ⟨rfl, x, z, rfl, m⟩
        rw [List.length_map, List.take_length] at m
        walk_at "z"
        exact q x m
def spNMasks : Sp := fun vs H Q _ => ∃ (g : V) (n : Nat) (ps : List (Int × Int)), vs = [g] ∧ GrAt H g (n : Int) ps ∧ n ≤ 100 ∧ ps.length ≤ 10000 ∧ (∀ p ∈ ps, 0 ≤ p.1 ∧ p.1 < p.2 ∧ p.2 < (n : Int)) ∧
  ∀ (l : Addr) (ms : List Int) (H' : Hp), Same H H' → H' l = some (.lst (ms.map V.int)) → ms.length = n → (∀ i m, ms[i]? = some m → Msk m (fun z => z ∈ adjL ps i)) → Q (.ref l) H'
end

set_option Elab.async false
set_option linter.all false
set_option maxRecDepth 100000
set_option maxHeartbeats 4000000
open PySem PySem.Spec PyProof.Rows L2

abbrev s_law_shuffled : Stmt := topS 32
theorem sc_law_shuffled : FnScope ["pool", "items", "rest", "found", "k"] ["pool", "items"] (defScope s_law_shuffled) := ⟨rfl, rfl, rfl, by decide +kernel, rfl, by decide +kernel, by decide +kernel⟩

abbrev s_law_moved : Stmt := topS 33
theorem sc_law_moved : FnScope ["graph", "order", "pair"] ["graph", "order"] (defScope s_law_moved) := ⟨rfl, rfl, rfl, by decide +kernel, rfl, by decide +kernel, by decide +kernel⟩

abbrev s_law_other : Stmt := topS 34
theorem sc_law_other : FnScope ["graph", "pair"] ["graph"] (defScope s_law_other) := ⟨rfl, rfl, rfl, by decide +kernel, rfl, by decide +kernel, by decide +kernel⟩

section
variable {P : Program} {w : World} {K : PySem.W.Frag} {mg : Str → Option Value} {base : Heap}
theorem r_popAt {H : Hp} {Q : VK} {l : Addr} {xs : List V} {i : Int} {k : Nat} {y : V} (h : H l = some (.lst xs)) (e : i = (k : Int)) (hk : k < 1000000) (hy : xs[k]? = some y) (q : Q y (upd H l (.lst (xs.eraseIdx k)))) : rPopAt (.ref l) [.int i] H Q := by
  have hlt : k < xs.length := (List.getElem?_eq_some_iff.mp hy).1
  refine ⟨l, xs, i, k, y, rfl, rfl, h, by omega, by omega, ?_, hy, q⟩
  subst e
  unfold seqIndex?
  simp only [show ¬ ((k : Int) < 0) by omega, if_false]
  rw [if_pos (by simp; omega)]
  rfl
theorem map_erase {α β : Type} (f : α → β) : ∀ (l : List α) (k : Nat), (l.map f).eraseIdx k = (l.eraseIdx k).map f
  | [], _ => by simp
  | _ :: _, 0 => rfl
  | x :: l, k + 1 => by
    show f x :: (l.map f).eraseIdx k = f x :: (l.eraseIdx k).map f
    rw [map_erase f l k]
theorem get_erase_perm {α : Type} : ∀ (l : List α) {k : Nat} {x : α}, l[k]? = some x → (x :: l.eraseIdx k).Perm l
  | [], _, _, h => by simp at h
  | y :: l, 0, x, h => by
    have e : y = x := Option.some.inj h
    subst e
    exact .refl _
  | y :: l, k + 1, x, h => by
    have ih := get_erase_perm l (k := k) h
    show (x :: y :: l.eraseIdx k).Perm (y :: l)
    exact (List.Perm.swap y x _).trans (ih.cons y)
/-- the items in some order -/
def spShuf (K : PySem.W.Frag) : Sp := fun vs H Q _ => ∃ (a s l : Addr) (ns : List Int), vs = [.ref a, .ref l] ∧ Pool H a s ∧ l ≠ a ∧ H l = some (.lst (ns.map V.int)) ∧ ns.length ≤ 1000 ∧
  ∀ (f : Addr) (ms : List Int) (H' : Hp), H f = none → f ≠ a → Pool H' a s → Gr a H H' → H' f = some (.lst (ms.map V.int)) → ms.Perm ns → Q (.ref f) H'
theorem ok_shuffled (T : Blt mg) (D : DefAt K mg "_law_shuffled" s_law_shuffled ["pool", "items"]) (D_law_draw : DefAt K mg "_law_draw" s_law_draw ["pool", "many"]) (G_law_draw : FnOk P w K mg base CX0 2 D_law_draw.f D_law_draw.fd ["pool", "many"] spDraw) :
    FnOk P w K mg base CX0 3 D.f D.fd ["pool", "items"] (spShuf K) := by
  refine D.F.ok sc_law_shuffled (fun vs H Q E h => ?_) (fun cdv A outer s H vs Q E hr h => ?_)
  · obtain ⟨a, s, l, ns, rfl, _⟩ := h
    rfl
  · obtain ⟨a, s0, l, ns, rfl, hP, hla, hl, hlen, q⟩ := h
    refine ⟨_, (pss_cons (ps_set (i := 2) sc_law_shuffled.nd rfl (Or.inl rfl) (pe_callTy (call_listK (K := K) rfl) (by rfl) T.list (by decide +kernel) (pa_cons (pv 1) pa_nil)))
      (pss_cons (ps_set (i := 3) sc_law_shuffled.nd rfl (Or.inl rfl) (pe_lst pa_nil))
      (pss_cons (ps_for PassesOwn.never (by rfl) (pi_range1 (by rfl) T.range (pa_cons (pe_callB (call_lenK (K := K) rfl) (by rfl) T.len (by decide +kernel) (pa_cons (pv 2) pa_nil)) pa_nil)) (pg_name (i := 4) sc_law_shuffled.nd rfl (Or.inl rfl))
        (pss_one (ps_expr (PE.bmK (K := K) rfl (pe_bm PySem.F.plainAttrs_list PySem.F.slot_list_append PySem.F.type_list_append mt_append (pv 3) (pa_cons (PE.bmK (K := K) rfl (pe_bm PySem.F.plainAttrs_list PySem.F.slot_list_pop PySem.F.type_list_pop mt_popAt (pv 2) (pa_cons (pe_call G_law_draw (hr.mono (by first | decide | omega)) (by rfl) D_law_draw.g D_law_draw.F.kp D_law_draw.b .nil pass0 (pa_cons (pv 0) (pa_cons (pe_callB (call_lenK (K := K) rfl) (by rfl) T.len (by decide +kernel) (pa_cons (pv 2) pa_nil)) pa_nil))) pa_nil))) pa_nil))))))
      (pss_one (ps_ret (pv 3)))))), ?_⟩
    refine r_at (σ := [some _, some _, none, none, none]) rfl ?_
    walk_at "z"
    refine r_listL (.inl (.inl hl)) fun r hr1 => ?_
    walk_at "z"
    refine r_lstN (by decide) fun f hf => ?_
    have rf : r ≠ f := ne_of_none upd_same hf
    have hf0 : H f = none := (same_new hr1).free hf
    walk_at "z"
    rw [List.length_map]
    refine r_rg1 (by omega) (forR_range (fun i σ' H' => (∃ x4, σ' = [some (.ref a), some (.ref l), some (.ref r), some (.ref f), x4]) ∧ Pool H' a s0 ∧ Gr a H H' ∧ ∃ xs ys : List Int, H' r = some (.lst (xs.map V.int)) ∧ H' f = some (.lst (ys.map V.int)) ∧ (xs ++ ys).Perm ns ∧ ys.length = i)
      ⟨⟨_, rfl⟩, (hP.mono (same_new hr1)).mono (same_new hf), (Gr.new hr1).trans (.new hf), ns, [], (upd_ne rf).trans upd_same, upd_same, by rw [List.append_nil], rfl⟩ ?_ ?_)
    · rintro i σ' H' hi ⟨⟨x4, rfl⟩, hP', g, xs, ys, hx, hy, pm, hlen2⟩
      have hi : i < ns.length := by omega
      have lx : xs.length + i = ns.length := by
        have := pm.length_eq
        rw [List.length_append] at this
        omega
      walk_at "z"
      rw [List.length_map]
      refine ⟨a, s0, _, rfl, hP', by omega, by omega, fun c H2 c0 c1 hP2 g2 => ?_⟩
      walk_at "z"
      have hx2 := g2 _ _ (new_ne hP hr1).1 hx
      have hy2 := g2 _ _ (new_ne hP hf0).1 hy
      have hc : c.toNat < xs.length := by omega
      have gx : xs[c.toNat]? = some xs[c.toNat] := List.getElem?_eq_getElem hc
      refine r_popAt hx2 (k := c.toNat) (y := V.int xs[c.toNat]) (by omega) (by omega) (by rw [List.getElem?_map, gx]; rfl) ?_
      rw [map_erase]
      walk_at "z"
      refine r_appT ((upd_ne (Ne.symm rf)).trans hy2) (small_lt ?_) ?_
      · rw [List.length_map]
        omega
      · refine ⟨⟨_, rfl⟩, (hP2.upd (new_ne hP hr1)).upd (new_ne hP hf0), ((g.trans g2).mut hr1).mut hf0, xs.eraseIdx c.toNat, ys ++ [xs[c.toNat]], ?_, ?_, ?_, ?_⟩
        · rw [upd_ne rf]
          exact upd_same
        · rw [List.map_append]
          exact upd_same
        · refine List.Perm.trans ?_ pm
          have p1 : (xs.eraseIdx c.toNat ++ (ys ++ [xs[c.toNat]])).Perm ([xs[c.toNat]] ++ (xs.eraseIdx c.toNat ++ ys)) := by
            rw [← List.append_assoc]
            exact List.perm_append_comm
          exact p1.trans ((get_erase_perm xs gx).append_right ys)
        · rw [List.length_append, hlen2]
          rfl
    · rintro σ' H' ⟨⟨x4, rfl⟩, hP', g, xs, ys, hx, hy, pm, hlen2⟩
      walk_at "z"
      have lx : xs = [] := by
        have := pm.length_eq
        rw [List.length_append] at this
        exact List.eq_nil_of_length_eq_zero (by omega)
      subst lx
      exact q f ys H' hf0 (new_ne hP hf0).1 hP' g hy pm
/-- the graph whose vertices have other numbers -/
def ordP (o : List Int) (p : Int × Int) : Int × Int := (o.getD p.1.toNat 0, o.getD p.2.toNat 0)
def spMoved (K : PySem.W.Frag) : Sp := fun vs H Q _ => ∃ (g : V) (l : Addr) (n : Int) (ps : List (Int × Int)) (o : List Int), vs = [g, .ref l] ∧ GrAt H g n ps ∧ (SqL K H l (o.map V.int) ∨ SqT K H l (o.map V.int)) ∧ ps.length ≤ 10000 ∧
  (∀ p ∈ ps, 0 ≤ p.1 ∧ p.1 < o.length ∧ 0 ≤ p.2 ∧ p.2 < o.length) ∧
  ∀ (v : V) (qs : List (Int × Int)) (H' : Hp), Same H H' → GrAt H' v n qs → qs.Pairwise ltP → (∀ p, p ∈ qs ↔ ∃ r ∈ ps, p = nrm (ordP o r)) → Q v H'
theorem Same.seqT {K : PySem.W.Frag} {H H' : Hp} {a : Addr} {xs : List V} (e : Same H H') (h : SqT K H a xs) : SqT K H' a xs := by
  rcases h with (h | ⟨o, h⟩) | h
  · exact .inl (.inl (e _ _ h))
  · exact .inl (.inr ⟨o, e _ _ h⟩)
  · exact .inr h
theorem at_ord {o : List Int} {z : Int} (h0 : 0 ≤ z) (h1 : z < o.length) : atI (o.map V.int) z = some (.int (o.getD z.toNat 0)) := by
  have hlt : z.toNat < o.length := by omega
  refine at_of (j := z.toNat) (by omega) ?_
  rw [List.getElem?_map, List.getElem?_eq_getElem hlt, List.getD_eq_getElem?_getD, List.getElem?_eq_getElem hlt]
  rfl
theorem ok_moved (T : Blt mg) (D : DefAt K mg "_law_moved" s_law_moved ["graph", "order"]) (D_law_of : DefAt K mg "_law_of" s_law_of ["n", "pairs"]) (G_law_of : FnOk P w K mg base CX0 3 D_law_of.f D_law_of.fd ["n", "pairs"] (spOf K)) :
    FnOk P w K mg base CX0 4 D.f D.fd ["graph", "order"] (spMoved K) := by
  refine D.F.ok sc_law_moved (fun vs H Q E h => ?_) (fun cdv A outer s H vs Q E hr h => ?_)
  · obtain ⟨g, l, n, ps, o, rfl, _⟩ := h
    rfl
  · obtain ⟨g, l, n, ps, o, rfl, ⟨ga, e, rfl, hg, xs, he, hp⟩, ho, hlen, bd, q⟩ := h
    refine ⟨_, (pss_one (ps_ret (pe_call G_law_of (hr.mono (by first | decide | omega)) (by rfl) D_law_of.g D_law_of.F.kp D_law_of.b .nil pass0 (pa_cons (pe_ix (ix_tupK (K := K) rfl) (pv 0) pe_int (fun _ _ => rfl)) (pa_cons (pe_lc (own := [("pair", 2)]) (by rfl) sc_law_moved.nd (PI.tupK (K := K) rfl (pi_tup (pe_ix (ix_tupK (K := K) rfl) (pv 0) pe_int (fun _ _ => rfl)))) (blkOk_by (own := [("pair", 2)]) (N := ["graph", "order", "pair"]) (sc := (defScope s_law_moved)) (by decide +kernel)) (fun _ _ _ _ _ => (pg_name (i := 2) sc_law_moved.nd rfl (Or.inl rfl))) (fun _ _ _ _ _ => pts_nil) (fun _ _ _ _ _ => (pe_tup (pa_cons (pe_ix (ix_eitherK (K := K) rfl) (pv 1) (pe_ix (ix_tupK (K := K) rfl) (pv 2) pe_int (fun _ _ => rfl)) (fun _ _ => rfl)) (pa_cons (pe_ix (ix_eitherK (K := K) rfl) (pv 1) (pe_ix (ix_tupK (K := K) rfl) (pv 2) pe_int (fun _ _ => rfl)) (fun _ _ => rfl)) pa_nil))))) pa_nil))))), ?_⟩
    refine r_at (σ := [some _, some _, none]) rfl ?_
    walk_at "z"
    refine r_it (.inl (.inl he)) fun d hd => lcR_tup (xs := xs) (fun i H' => Same H H' ∧ ∃ ys, H' d = some (.lst ys) ∧ Prs H' ys ((ps.take i).map (ordP o))) (by walk_at "zw") ⟨same_new hd, [], upd_same, .nil⟩ (fun i H' _ ⟨s1, _⟩ => .inl (.inl (s1 _ _ he))) ?_ ?_
    · rintro i x H' hx ⟨s1, ys, hy, hys⟩
      obtain ⟨p, hpi, hxp⟩ := pd_get (hp.tk (.of_same s1)) hx
      obtain ⟨t, rfl, ht⟩ := hxp
      obtain ⟨b1, b2, b3, b4⟩ := bd p (List.mem_of_getElem? hpi)
      have ho' : SqL K H' l (o.map V.int) ∨ SqT K H' l (o.map V.int) := ho.imp s1.seq (Same.seqT s1)
      walk_at "z"
      refine ⟨rfl, ?_⟩
      walk_at "z"
      refine r_ixE ho' (at_ord b1 b2) ?_
      walk_at "z"
      refine r_ixE ho' (at_ord b3 b4) ?_
      walk_at "z"
      refine r_tupN sz2 fun t2 ht2 => ?_
      refine r_lce (by walk_at "zh") (small_lt ?_) ⟨same_mut (s1.trans (same_new ht2)) hd, _, upd_same, ?_⟩
      · rw [hys.length, List.length_map, List.length_take]
        omega
      · rw [take_next hpi, List.map_append]
        exact prs_push hy hys ht2
    · rintro H' ⟨s1, ys, hy, hys⟩
      rw [hp.length, List.take_length] at hys
      walk_at "z"
      refine ⟨n, d, ys, _, rfl, .inl (.inl hy), hys, by rw [List.length_map]; exact hlen, fun v qs H2 s2 hv asc mem => ?_⟩
      refine q v qs H2 (s1.trans s2) hv asc fun p => ?_
      rw [mem]
      constructor
      · rintro ⟨r, hr, rfl⟩
        obtain ⟨r', hr', rfl⟩ := List.mem_map.mp hr
        exact ⟨r', hr', rfl⟩
      · rintro ⟨r, hr, rfl⟩
        exact ⟨_, List.mem_map.mpr ⟨r, hr, rfl⟩, rfl⟩
/-- the graph of the pairs that are none -/
def spOther : Sp := fun vs H Q _ => ∃ (g : V) (n : Nat) (ps : List (Int × Int)), vs = [g] ∧ GrAt H g (n : Int) ps ∧ n ≤ 100 ∧
  ∀ (v : V) (H' : Hp), Same H H' → GrAt H' v (n : Int) ((allP n).filter fun p => decide (p ∉ ps)) → Q v H'
theorem ok_other (T : Blt mg) (D : DefAt K mg "_law_other" s_law_other ["graph"]) (D_law_pairs : DefAt K mg "_law_pairs" s_law_pairs ["n"]) (G_law_pairs : FnOk P w K mg base CX0 1 D_law_pairs.f D_law_pairs.fd ["n"] spPairs) :
    FnOk P w K mg base CX0 2 D.f D.fd ["graph"] spOther := by
  refine D.F.ok sc_law_other (fun vs H Q E h => ?_) (fun cdv A outer s H vs Q E hr h => ?_)
  · obtain ⟨g, n, ps, rfl, _⟩ := h
    rfl
  · obtain ⟨g, n, ps, rfl, ⟨ga, e, rfl, hg, xs, he, hp⟩, hn, q⟩ := h
    refine ⟨_, (pss_one (ps_ret (pe_tup (pa_cons (pe_ix (ix_tupK (K := K) rfl) (pv 0) pe_int (fun _ _ => rfl)) (pa_cons (pe_callTy (call_tupleK (K := K) rfl) (by rfl) T.tuple (by decide +kernel) (pa_cons (pe_lc (own := [("pair", 1)]) (by rfl) sc_law_other.nd (PI.listK (K := K) rfl (pi_list (pe_call G_law_pairs (hr.mono (by first | decide | omega)) (by rfl) D_law_pairs.g D_law_pairs.F.kp D_law_pairs.b .nil pass0 (pa_cons (pe_ix (ix_tupK (K := K) rfl) (pv 0) pe_int (fun _ _ => rfl)) pa_nil)))) (blkOk_by (own := [("pair", 1)]) (N := ["graph", "pair"]) (sc := (defScope s_law_other)) (by decide +kernel)) (fun _ _ _ _ _ => (pg_name (i := 1) sc_law_other.nd rfl (Or.inl rfl))) (fun _ _ _ _ _ => (pts_one (pt_cmpR (op_ninPK (K := K) rfl hr) (pv 1) (pe_ix (ix_tupK (K := K) rfl) (pv 0) pe_int (fun _ _ => rfl)) (by rfl)))) (fun _ _ _ _ _ => (pv 1))) pa_nil)) pa_nil))))), ?_⟩
    refine r_at (σ := [some _, none]) rfl ?_
    walk_at "z"
    refine ⟨n, rfl, hn, fun l zs H1 hl s1 hz hzs => ?_⟩
    refine r_il (.inl (.inl hz)) fun d hd => lcR_list (xs := zs) (fun i H' => Same H1 H' ∧ ∃ ys, H' d = some (.lst ys) ∧ Prs H' ys (((allP n).take i).filter fun p => decide (p ∉ ps))) (by walk_at "zw") ⟨same_new hd, [], upd_same, .nil⟩ (fun i H' _ ⟨s2, _⟩ => .inl (.inl (s2 _ _ hz))) ?_ ?_
    · rintro i x H' hx ⟨s2, ys, hy, hys⟩
      obtain ⟨p, hpi, hxp⟩ := pd_get (hzs.tk (.of_same s2)) hx
      have sm := s1.trans s2
      walk_at "z"
      refine ⟨rfl, ?_⟩
      have hg' := sm _ _ hg
      have he' := sm _ _ he
      walk_at "z"
      refine ⟨p, e, xs, ps, hxp, rfl, .inl (.inl he'), hp.tk (.of_same sm), ?_⟩
      walk_at "z"
      have suc : ((allP n).take (i + 1)).filter (fun p => decide (p ∉ ps)) = ((allP n).take i).filter (fun p => decide (p ∉ ps)) ++ (if p ∉ ps then [p] else []) := by
        rw [take_next hpi, List.filter_append, List.filter_cons, List.filter_nil]
        by_cases h : p ∈ ps <;> simp [h]
      refine r_iteN (fun h => ?_) (fun h => ?_)
      · walk_at "z"
        refine r_lce hy (small_lt ?_) ⟨same_mut s2 hd, _, upd_same, ?_⟩
        · have h1 := hys.length
          have h2 := List.length_filter_le (fun p => decide (p ∉ ps)) ((allP n).take i)
          have h3 : ((allP n).take i).length ≤ (allP n).length := by
            rw [List.length_take]
            omega
          have h4 := preP_len (n := n) (i := n)
          have h5 : n * n ≤ 100 * 100 := Nat.mul_le_mul hn hn
          unfold allP at *
          omega
        · rw [suc, if_pos h]
          have kk : TK H' (upd H' d (.lst (ys ++ [x]))) := .lst hy
          exact (hys.tk kk).snoc (hxp.tk kk)
      · refine ⟨s2, ys, hy, ?_⟩
        rw [suc, if_neg (fun z => z h), List.append_nil]
        exact hys
    · rintro H' ⟨s2, ys, hy, hys⟩
      rw [hzs.length, List.take_length] at hys
      walk_at "z"
      refine r_tupL (.inl (.inl hy)) fun e2 he2 => ?_
      walk_at "z"
      refine r_tupN sz2 fun g2 hg2 => ?_
      have s3 : Same H' (upd H' e2 (.tup ys)) := same_new he2
      have s4 := s3.trans (same_new (o := .tup [.int (n : Int), .ref e2]) hg2)
      exact q _ _ ((s1.trans s2).trans s4) ⟨g2, e2, rfl, upd_same, ys, (upd_ne (ne_of_none upd_same hg2)).trans upd_same, hys.tk (.of_same s4)⟩
end

set_option Elab.async false
set_option linter.all false
set_option maxRecDepth 100000
set_option maxHeartbeats 4000000
open PySem PySem.Spec PyProof.Rows L2

/-- a tuple of ints -/
def ITup (H : Hp) (x : V) (ns : List Int) : Prop := ∃ t, x = .ref t ∧ H t = some (.tup (ns.map V.int))
theorem ITup.tk {H H' : Hp} (k : TK H H') {x : V} {ns : List Int} (h : ITup H x ns) : ITup H' x ns := by
  obtain ⟨t, e, h⟩ := h
  exact ⟨t, e, k _ _ h⟩
abbrev ITups (H : Hp) : List V → List (List Int) → Prop := Paired (ITup H)
theorem ITups.tk {H H' : Hp} (k : TK H H') : ∀ {xs : List V} {ps : List (List Int)}, ITups H xs ps → ITups H' xs ps
  | _, _, .nil => .nil
  | _, _, .cons h t => .cons (h.tk k) (ITups.tk k t)
/-- two sets touch -/
def TouchP (ps : List (Int × Int)) (one two : List Int) : Prop := ∃ u ∈ one, ∃ v ∈ two, u = v ∨ nrm (u, v) ∈ ps
section
variable {P : Program} {w : World} {K : PySem.W.Frag} {mg : Str → Option Value} {base : Heap}
/-- the set of a mask, ascending -/
def spMem : Sp := fun vs H Q _ => ∃ (x : Int) (S : Int → Prop), vs = [.int x] ∧ Msk x S ∧ (∀ i : Nat, S i → i < 1000) ∧
  ∀ (p : Addr) (ns : List Int) (H' : Hp), Same H H' → H' p = some (.tup (ns.map V.int)) → H p = none → ns.Pairwise (· < ·) → (∀ z, z ∈ ns ↔ 0 ≤ z ∧ S z) → Q (.ref p) H'
theorem asc_len {n : Nat} {ns : List Int} (asc : ns.Pairwise (· < ·)) (h : ∀ v ∈ ns, 0 ≤ v ∧ v < (n : Int)) : ns.length ≤ n := by
  have nd : ns.Nodup := asc.imp fun {a b} h => by omega
  have := nodup_le ns (rgI (n : Int)) nd fun v hv => mem_rgI.mpr (h v hv)
  rw [rgI_len] at this
  omega
/-- the mask of the neighbours of a mask -/
def spNearM : Sp := fun vs H Q _ => ∃ (l : Addr) (x : Int) (ms : List Int) (S : Int → Prop) (A : Nat → List Int), vs = [.ref l, .int x] ∧ H l = some (.lst (ms.map V.int)) ∧ Msk x S ∧ (∀ i : Nat, S i → i < ms.length ∧ i < 1000) ∧
  (∀ i m, ms[i]? = some m → Msk m (fun z => z ∈ A i)) ∧ ∀ (y : Int) (H' : Hp), Same H H' → Msk y (fun i => ∃ v : Nat, S v ∧ i ∈ A v) → Q (.int y) H'
def spTouch (K : PySem.W.Frag) : Sp := fun vs H Q _ => ∃ (g : V) (n : Nat) (ps : List (Int × Int)) (a b : Addr) (one two : List Int), vs = [g, .ref a, .ref b] ∧ GrAt H g (n : Int) ps ∧ n ≤ 100 ∧ ps.length ≤ 10000 ∧ (∀ p ∈ ps, 0 ≤ p.1 ∧ p.1 < p.2 ∧ p.2 < (n : Int)) ∧
  SqT K H a (one.map V.int) ∧ SqT K H b (two.map V.int) ∧ (∀ v ∈ one, 0 ≤ v ∧ v < (n : Int)) ∧ (∀ v ∈ two, 0 ≤ v ∧ v < (n : Int)) ∧ ∀ (r : Bool) (H' : Hp), Same H H' → (r = true ↔ TouchP ps one two) → Q (.bl r) H'
def HitsP (ns : List Int) (oss : List (List Int)) : Prop := ∀ o ∈ oss, ∃ v ∈ ns, v ∈ o
def spHits (K : PySem.W.Frag) : Sp := fun vs H Q _ => ∃ (a b : Addr) (ns : List Int) (xs : List V) (oss : List (List Int)), vs = [.ref a, .ref b] ∧ SqT K H a (ns.map V.int) ∧ H b = some (.tup xs) ∧ ITups H xs oss ∧ oss.length ≤ 10000 ∧ (∀ v ∈ ns, 0 ≤ v ∧ v < 1000) ∧ (∀ o ∈ oss, ∀ v ∈ o, 0 ≤ v ∧ v < 1000) ∧
  ∀ (r : Bool) (H' : Hp), Same H H' → (r = true ↔ HitsP ns oss) → Q (.bl r) H'
end

set_option Elab.async false
set_option linter.all false
set_option maxRecDepth 100000
set_option maxHeartbeats 4000000
open PySem PySem.Spec PyProof.Rows L2

abbrev s_law_random_graph : Stmt := topS 35
theorem sc_law_random_graph : FnScope ["pool", "most", "n", "dense", "pair"] ["pool", "most"] (defScope s_law_random_graph) := ⟨rfl, rfl, rfl, by decide +kernel, rfl, by decide +kernel, by decide +kernel⟩

section
variable {P : Program} {w : World} {K : PySem.W.Frag} {mg : Str → Option Value} {base : Heap}
theorem r_pick2 {H : Hp} {Q : VK} {l : Addr} {i j : Int} {b : Bool} (h : H l = some (.lst [.int i, .int j])) (q : ∀ m, m = i ∨ m = j → Q (.int m) H) : rIxL K (.ref l) (.int (if b = true then 1 else 0)) H Q := by
  cases b with
  | true => exact r_ixL (.inl (.inl h)) rfl (q j (.inr rfl))
  | false => exact r_ixL (.inl (.inl h)) rfl (q i (.inl rfl))
theorem good_filter {n : Nat} (h : 1 ≤ n) (c : Int × Int → Bool) : GoodG (n : Int) ((allP n).filter c) :=
  ⟨by omega, (allP_asc n).filter _, fun p hp => mem_allP.mp (List.mem_filter.mp hp).1⟩
theorem allP_small {n : Nat} (h : n ≤ 100) : (allP n).length ≤ 10000 := by
  have h4 := preP_len (n := n) (i := n)
  have h5 : n * n ≤ 100 * 100 := Nat.mul_le_mul h h
  unfold allP
  omega
/-- a drawn graph of n vertices -/
def GenQ (a s : Addr) (H : Hp) (n : Int) (Q : VK) : Prop := ∀ (v : V) (qs : List (Int × Int)) (H' : Hp), Pool H' a s → Gr a H H' → GrAt H' v n qs → GoodG n qs → Q v H'
def spRandom : Sp := fun vs H Q _ => ∃ (a s : Addr) (most : Int), vs = [.ref a, .int most] ∧ Pool H a s ∧ 1 ≤ most ∧ most ≤ 100 ∧ ∀ n : Int, 1 ≤ n → n ≤ most → GenQ a s H n Q
theorem ok_random (T : Blt mg) (D : DefAt K mg "_law_random_graph" s_law_random_graph ["pool", "most"]) (D_law_draw : DefAt K mg "_law_draw" s_law_draw ["pool", "many"]) (G_law_draw : FnOk P w K mg base CX0 2 D_law_draw.f D_law_draw.fd ["pool", "many"] spDraw)
    (D_law_pairs : DefAt K mg "_law_pairs" s_law_pairs ["n"]) (G_law_pairs : FnOk P w K mg base CX0 1 D_law_pairs.f D_law_pairs.fd ["n"] spPairs) :
    FnOk P w K mg base CX0 3 D.f D.fd ["pool", "most"] spRandom := by
  refine D.F.ok sc_law_random_graph (fun vs H Q E h => ?_) (fun cdv A outer s H vs Q E hr h => ?_)
  · obtain ⟨a, s, most, rfl, _⟩ := h
    rfl
  · obtain ⟨a, s0, most, rfl, hP, m1, m2, q⟩ := h
    refine ⟨_, (pss_cons (ps_set (i := 2) sc_law_random_graph.nd rfl (Or.inl rfl) (pe_ix (ix_listK (K := K) rfl) (pe_lst (pa_cons (pv 1) (pa_cons (pe_op op_add pe_int (pe_call G_law_draw (hr.mono (by first | decide | omega)) (by rfl) D_law_draw.g D_law_draw.F.kp D_law_draw.b .nil pass0 (pa_cons (pv 0) (pa_cons (pv 1) pa_nil)))) pa_nil))) (pe_callTy call_int1' (by rfl) T.int (by decide +kernel) (pa_cons (pe_cmpR op_eq (pe_call G_law_draw (hr.mono (by first | decide | omega)) (by rfl) D_law_draw.g D_law_draw.F.kp D_law_draw.b .nil pass0 (pa_cons (pv 0) (pa_cons pe_int pa_nil))) pe_int (nomark _)) pa_nil)) (fun _ _ => rfl)))
      (pss_cons (ps_set (i := 3) sc_law_random_graph.nd rfl (Or.inr rfl) (pe_op op_add pe_int (pe_call G_law_draw (hr.mono (by first | decide | omega)) (by rfl) D_law_draw.g D_law_draw.F.kp D_law_draw.b .nil pass0 (pa_cons (pv 0) (pa_cons pe_int pa_nil)))))
      (pss_one (ps_ret (pe_tup (pa_cons (pv 2) (pa_cons (pe_callTy (call_tupleK (K := K) rfl) (by rfl) T.tuple (by decide +kernel) (pa_cons (pe_lc (own := [("pair", 4)]) (by rfl) sc_law_random_graph.nd (PI.listK (K := K) rfl (pi_list (pe_call G_law_pairs (hr.mono (by first | decide | omega)) (by rfl) D_law_pairs.g D_law_pairs.F.kp D_law_pairs.b .nil pass0 (pa_cons (pv 2) pa_nil)))) (blkOk_by (own := [("pair", 4)]) (N := ["pool", "most", "n", "dense", "pair"]) (sc := (defScope s_law_random_graph)) (by decide +kernel)) (fun _ _ _ _ _ => (pg_name (i := 4) sc_law_random_graph.nd rfl (Or.inl rfl))) (fun _ _ _ _ _ => (pts_one (pt_cmpR op_lt (pe_call G_law_draw (hr.mono (by first | decide | omega)) (by rfl) D_law_draw.g D_law_draw.F.kp D_law_draw.b .nil pass0 (pa_cons (pv 0) (pa_cons pe_int pa_nil))) (pv 3) (nomark _)))) (fun _ _ _ _ _ => (pv 4))) pa_nil)) pa_nil))))))), ?_⟩
    refine r_at (σ := [some _, some _, none, none, none]) rfl ?_
    walk_at "z"
    refine ⟨a, s0, most, rfl, hP, by omega, by omega, fun r H1 r0 r1 hP1 g1 => ?_⟩
    walk_at "z"
    refine r_lstN sz2 fun l hl => ?_
    walk_at "z"
    refine ⟨a, s0, 3, rfl, hP1.mono (same_new hl), by omega, by omega, fun r2 H2 _ _ hP2 g2 => ?_⟩
    have hl2 := g2 _ _ (new_ne hP1 hl).1 upd_same
    walk_at "z"
    refine r_pick2 hl2 fun n hn => ?_
    have g3 : Gr a H H2 := (g1.trans (.new hl)).trans g2
    walk_at "z"
    refine ⟨a, s0, 5, rfl, hP2, by omega, by omega, fun r3 H3 _ _ hP3 g4 => ?_⟩
    walk_at "z"
    obtain ⟨n', rfl⟩ : ∃ n' : Nat, n = (n' : Int) := ⟨n.toNat, by omega⟩
    refine ⟨n', rfl, by omega, fun f xs H4 hf s4 hx hp => ?_⟩
    have hP4 := hP3.mono s4
    have g5 : Gr a H H4 := (g3.trans g4).trans (.of_same s4)
    refine r_il (.inl (.inl hx)) fun d hd => lcR_list (xs := xs) (fun i H' => Pool H' a s0 ∧ Gr a H4 H' ∧ ∃ ys c, H' d = some (.lst ys) ∧ Prs H' ys (((allP n').take i).filter c)) (by walk_at "zw") ⟨hP4.mono (same_new hd), .new hd, [], fun _ => true, upd_same, .nil⟩ (fun i H' _ ⟨_, g, _⟩ => .inl (.inl (g _ _ (new_ne hP3 hf).1 hx))) ?_ ?_
    · rintro i x H' hx2 ⟨hP', g, ys, c, hy, hys⟩
      obtain ⟨p, hpi, hxp⟩ := pd_get (hp.tk (g.tk hP4)) hx2
      walk_at "z"
      refine ⟨rfl, ?_⟩
      walk_at "z"
      refine ⟨a, s0, 6, rfl, hP', by omega, by omega, fun r4 H5 _ _ hP5 g6 => ?_⟩
      have hy5 := g6 _ _ (new_ne hP4 hd).1 hy
      have kk := g6.tk hP'
      have pn : p ∉ (allP n').take i := fun z => by
        have nd := asc_nodup (allP_asc n')
        have e := take_next hpi
        have nd2 : ((allP n').take (i + 1)).Nodup := nd.sublist (List.take_sublist _ _)
        rw [e] at nd2
        exact (List.nodup_append.mp nd2).2.2 p z p (List.mem_singleton.mpr rfl) rfl
      -- the test's answer at this pair
      have ext : ∀ b : Bool, ((allP n').take (i + 1)).filter (fun z => if z = p then b else c z) = ((allP n').take i).filter c ++ (if b = true then [p] else []) := fun b => by
        rw [take_next hpi, List.filter_append]
        congr 1
        · refine List.filter_congr fun z hz => ?_
          rw [if_neg (fun e => pn (by rw [← e]; exact hz))]
        · cases b <;> simp
      walk_at "z"
      refine r_ite (fun h => ?_) (fun h => ?_)
      · walk_at "z"
        refine r_lce hy5 (small_lt ?_) ⟨hP5.upd (new_ne hP4 hd), (g.trans g6).mut hd, _, fun z => if z = p then true else c z, upd_same, ?_⟩
        · have h1 := hys.length
          have h2 := List.length_filter_le c ((allP n').take i)
          have h3 := allP_small (n := n') (by omega)
          rw [List.length_take] at h2
          omega
        · rw [ext true, if_pos rfl]
          have k2 : TK H5 (upd H5 d (.lst (ys ++ [x]))) := .lst hy5
          exact ((hys.tk kk).tk k2).snoc ((hxp.tk kk).tk k2)
      · refine ⟨hP5, g.trans g6, ys, fun z => if z = p then false else c z, hy5, ?_⟩
        rw [ext false, if_neg Bool.false_ne_true, List.append_nil]
        exact hys.tk kk
    · rintro H' ⟨hP', g, ys, c, hy, hys⟩
      rw [hp.length, List.take_length] at hys
      walk_at "z"
      refine r_tupL (.inl (.inl hy)) fun e he => ?_
      walk_at "z"
      refine r_tupN sz2 fun t ht => ?_
      have s5 : Same H' (upd H' e (.tup ys)) := same_new he
      have s6 := s5.trans (same_new (o := .tup [.int (n' : Int), .ref e]) ht)
      exact q _ (by omega) (by omega) _ _ _ (hP'.mono s6) ((g5.trans g).trans (.of_same s6)) ⟨t, e, rfl, upd_same, ys, (upd_ne (ne_of_none upd_same ht)).trans upd_same, hys.tk (.of_same s6)⟩ (good_filter (by omega) c)
end

set_option Elab.async false
set_option linter.all false
set_option maxRecDepth 100000
set_option maxHeartbeats 4000000
open PySem PySem.Spec PyProof.Rows L2

abbrev s_law_interval_rows : Stmt := topS 36
theorem sc_law_interval_rows : FnScope ["pool", "n", "rows", "k", "start"] ["pool", "n"] (defScope s_law_interval_rows) := ⟨rfl, rfl, rfl, by decide +kernel, rfl, by decide +kernel, by decide +kernel⟩

abbrev s_law_interval_graph : Stmt := topS 37
theorem sc_law_interval_graph : FnScope ["rows", "pair"] ["rows"] (defScope s_law_interval_graph) := ⟨rfl, rfl, rfl, by decide +kernel, rfl, by decide +kernel, by decide +kernel⟩

section
variable {P : Program} {w : World} {K : PySem.W.Frag} {mg : Str → Option Value} {base : Heap}
theorem flt_next {n i : Nat} {p : Int × Int} (h : (allP n)[i]? = some p) (c : Int × Int → Bool) (b : Bool) : ∃ c' : Int × Int → Bool, ((allP n).take (i + 1)).filter c' = ((allP n).take i).filter c ++ (if b = true then [p] else []) := by
  have pn : p ∉ (allP n).take i := fun z => by
    have nd := asc_nodup (allP_asc n)
    have e := take_next h
    have nd2 : ((allP n).take (i + 1)).Nodup := nd.sublist (List.take_sublist _ _)
    rw [e] at nd2
    exact (List.nodup_append.mp nd2).2.2 p z p (List.mem_singleton.mpr rfl) rfl
  refine ⟨fun z => if z = p then b else c z, ?_⟩
  rw [take_next h, List.filter_append]
  congr 1
  · refine List.filter_congr fun z hz => ?_
    rw [if_neg (fun e => pn (by rw [← e]; exact hz))]
  · cases b <;> simp
theorem flt_small {n i : Nat} (hn : n ≤ 100) (c : Int × Int → Bool) : (((allP n).take i).filter c).length < 100000 := by
  have h2 := List.length_filter_le c ((allP n).take i)
  have h3 := allP_small hn
  rw [List.length_take] at h2
  omega
theorem at_pd {α : Type} {F : V → α → Prop} {xs : List V} {ps : List α} {z : Int} (h : Paired F xs ps) (h0 : 0 ≤ z) (h1 : z < ps.length) : ∃ y r, atI xs z = some y ∧ ps[z.toNat]? = some r ∧ F y r := by
  have hlt : z.toNat < ps.length := by omega
  obtain ⟨y, hy, f⟩ := pd_get2 h (List.getElem?_eq_getElem hlt)
  exact ⟨y, _, at_of (j := z.toNat) (by omega) hy, List.getElem?_eq_getElem hlt, f⟩
/-- n drawn intervals -/
def spRows : Sp := fun vs H Q _ => ∃ (a s : Addr) (n : Int), vs = [.ref a, .int n] ∧ Pool H a s ∧ 0 ≤ n ∧ n ≤ 100 ∧ ∀ (f : Addr) (xs : List V) (ps : List (Int × Int)) (H' : Hp), H f = none → Pool H' a s → Gr a H H' → H' f = some (.lst xs) → Prs H' xs ps → ps.length = n.toNat → Q (.ref f) H'
theorem ok_rows (T : Blt mg) (D : DefAt K mg "_law_interval_rows" s_law_interval_rows ["pool", "n"]) (D_law_draw : DefAt K mg "_law_draw" s_law_draw ["pool", "many"]) (G_law_draw : FnOk P w K mg base CX0 2 D_law_draw.f D_law_draw.fd ["pool", "many"] spDraw) :
    FnOk P w K mg base CX0 3 D.f D.fd ["pool", "n"] spRows := by
  refine D.F.ok sc_law_interval_rows (fun vs H Q E h => ?_) (fun cdv A outer s H vs Q E hr h => ?_)
  · obtain ⟨a, s, n, rfl, _⟩ := h
    rfl
  · obtain ⟨a, s0, n, rfl, hP, n0, n1, q⟩ := h
    refine ⟨_, (pss_cons (ps_set (i := 2) sc_law_interval_rows.nd rfl (Or.inl rfl) (pe_lst pa_nil))
      (pss_cons (ps_for PassesOwn.never (by rfl) (pi_range1 (by rfl) T.range (pa_cons (pv 1) pa_nil)) (pg_name (i := 3) sc_law_interval_rows.nd rfl (Or.inl rfl))
        (pss_cons (ps_set (i := 4) sc_law_interval_rows.nd rfl (Or.inl rfl) (pe_op op_sub (pe_call G_law_draw (hr.mono (by first | decide | omega)) (by rfl) D_law_draw.g D_law_draw.F.kp D_law_draw.b .nil pass0 (pa_cons (pv 0) (pa_cons pe_int pa_nil))) pe_int))
        (pss_one (ps_expr (PE.bmK (K := K) rfl (pe_bm PySem.F.plainAttrs_list PySem.F.slot_list_append PySem.F.type_list_append mt_append (pv 2) (pa_cons (pe_tup (pa_cons (pv 4) (pa_cons (pe_op op_add (pv 4) (pe_call G_law_draw (hr.mono (by first | decide | omega)) (by rfl) D_law_draw.g D_law_draw.F.kp D_law_draw.b .nil pass0 (pa_cons (pv 0) (pa_cons (pe_ix (ix_listK (K := K) rfl) (pe_lst (pa_cons pe_int (pa_cons pe_int (pa_cons pe_int pa_nil)))) (pe_call G_law_draw (hr.mono (by first | decide | omega)) (by rfl) D_law_draw.g D_law_draw.F.kp D_law_draw.b .nil pass0 (pa_cons (pv 0) (pa_cons pe_int pa_nil))) (fun _ _ => rfl)) pa_nil)))) pa_nil))) pa_nil)))))))
      (pss_one (ps_ret (pv 2))))), ?_⟩
    refine r_at (σ := [some _, some _, none, none, none]) rfl ?_
    walk_at "z"
    refine r_lstN (by decide) fun f hf => ?_
    have fa := new_ne hP hf
    walk_at "z"
    refine r_rg1 (by omega) (forR_range (fun i σ' H' => (∃ x3 x4, σ' = [some (.ref a), some (.int n), some (.ref f), x3, x4]) ∧ Pool H' a s0 ∧ Gr a H H' ∧ ∃ xs ps, H' f = some (.lst xs) ∧ Prs H' xs ps ∧ ps.length = i) ⟨⟨_, _, rfl⟩, hP.mono (same_new hf), .new hf, [], [], upd_same, .nil, rfl⟩ ?_ ?_)
    · rintro i σ' H' hi ⟨⟨x3, x4, rfl⟩, hP', g, xs, ps, hx, hp, hl⟩
      walk_at "z"
      refine ⟨a, s0, 9, rfl, hP', by omega, by omega, fun r H1 _ _ hP1 g1 => ?_⟩
      have hx1 := g1 _ _ fa.1 hx
      walk_at "z"
      refine r_lstN sz3 fun l hl3 => ?_
      walk_at "z"
      refine ⟨a, s0, 3, rfl, hP1.mono (same_new hl3), by omega, by omega, fun r2 H2 b0 b1 hP2 g2 => ?_⟩
      have hl2 := g2 _ _ (new_ne hP1 hl3).1 upd_same
      obtain ⟨m, hm, m0, m1⟩ : ∃ m : Int, atI [V.int 1, V.int 3, V.int 6] r2 = some (.int m) ∧ 0 < m ∧ m < 10 := by
        have e : r2 = 0 ∨ r2 = 1 ∨ r2 = 2 := by omega
        rcases e with e | e | e <;> subst e
        · exact ⟨1, rfl, by omega, by omega⟩
        · exact ⟨3, rfl, by omega, by omega⟩
        · exact ⟨6, rfl, by omega, by omega⟩
      walk_at "z"
      refine ⟨a, s0, m, rfl, hP2, by omega, by omega, fun r3 H3 _ _ hP3 g3 => ?_⟩
      walk_at "z"
      have g4 : Gr a H' H3 := ((g1.trans (.new hl3)).trans g2).trans g3
      have hx3 := g4 _ _ fa.1 hx
      refine r_tupN sz2 fun t ht => ?_
      walk_at "z"
      refine r_appT (by walk_at "zh") (small_lt ?_) ?_
      · rw [hp.length, hl]
        omega
      · refine ⟨⟨_, _, rfl⟩, (hP3.mono (same_new ht)).upd fa, ((g.trans g4).trans (.new ht)).mut hf, _, ps ++ [_], upd_same, prs_push hx3 (hp.tk (g4.tk hP')) ht, ?_⟩
        rw [List.length_append, hl]
        rfl
    · rintro σ' H' ⟨⟨x3, x4, rfl⟩, hP', g, xs, ps, hx, hp, hl⟩
      walk_at "z"
      exact q f xs ps H' hf hP' g hx hp hl
/-- the graph of intervals -/
def spIvGraph (K : PySem.W.Frag) : Sp := fun vs H Q _ => ∃ (l : Addr) (xs : List V) (ps : List (Int × Int)), vs = [.ref l] ∧ SqL K H l xs ∧ Prs H xs ps ∧ ps.length ≤ 100 ∧
  ∀ (v : V) (c : Int × Int → Bool) (H' : Hp), Same H H' → GrAt H' v (ps.length : Int) ((allP ps.length).filter c) → Q v H'
theorem ok_ivgraph (T : Blt mg) (D : DefAt K mg "_law_interval_graph" s_law_interval_graph ["rows"]) (D_law_pairs : DefAt K mg "_law_pairs" s_law_pairs ["n"]) (G_law_pairs : FnOk P w K mg base CX0 1 D_law_pairs.f D_law_pairs.fd ["n"] spPairs) :
    FnOk P w K mg base CX0 2 D.f D.fd ["rows"] (spIvGraph K) := by
  refine D.F.ok sc_law_interval_graph (fun vs H Q E h => ?_) (fun cdv A outer s H vs Q E hr h => ?_)
  · obtain ⟨l, xs, ps, rfl, _⟩ := h
    rfl
  · obtain ⟨l, xs, ps, rfl, hl, hp, hlen, q⟩ := h
    refine ⟨_, (pss_one (ps_ret (pe_tup (pa_cons (pe_callB (call_lenK (K := K) rfl) (by rfl) T.len (by decide +kernel) (pa_cons (pv 0) pa_nil)) (pa_cons (pe_callTy (call_tupleK (K := K) rfl) (by rfl) T.tuple (by decide +kernel) (pa_cons (pe_lc (own := [("pair", 1)]) (by rfl) sc_law_interval_graph.nd (PI.listK (K := K) rfl (pi_list (pe_call G_law_pairs (hr.mono (by first | decide | omega)) (by rfl) D_law_pairs.g D_law_pairs.F.kp D_law_pairs.b .nil pass0 (pa_cons (pe_callB (call_lenK (K := K) rfl) (by rfl) T.len (by decide +kernel) (pa_cons (pv 0) pa_nil)) pa_nil)))) (blkOk_by (own := [("pair", 1)]) (N := ["rows", "pair"]) (sc := (defScope s_law_interval_graph)) (by decide +kernel)) (fun _ _ _ _ _ => (pg_name (i := 1) sc_law_interval_graph.nd rfl (Or.inl rfl))) (fun _ _ _ _ _ => (pts_one (PW.pt (pw_and (pt_cmpR op_le (pe_ix (ix_tupK (K := K) rfl) (pe_ix (ix_listK (K := K) rfl) (pv 0) (pe_ix (ix_tupK (K := K) rfl) (pv 1) pe_int (fun _ _ => rfl)) (fun _ _ => rfl)) pe_int (fun _ _ => rfl)) (pe_ix (ix_tupK (K := K) rfl) (pe_ix (ix_listK (K := K) rfl) (pv 0) (pe_ix (ix_tupK (K := K) rfl) (pv 1) pe_int (fun _ _ => rfl)) (fun _ _ => rfl)) pe_int (fun _ _ => rfl)) (nomark _)) (pw_and1 (pt_cmpR op_le (pe_ix (ix_tupK (K := K) rfl) (pe_ix (ix_listK (K := K) rfl) (pv 0) (pe_ix (ix_tupK (K := K) rfl) (pv 1) pe_int (fun _ _ => rfl)) (fun _ _ => rfl)) pe_int (fun _ _ => rfl)) (pe_ix (ix_tupK (K := K) rfl) (pe_ix (ix_listK (K := K) rfl) (pv 0) (pe_ix (ix_tupK (K := K) rfl) (pv 1) pe_int (fun _ _ => rfl)) (fun _ _ => rfl)) pe_int (fun _ _ => rfl)) (nomark _))))))) (fun _ _ _ _ _ => (pv 1))) pa_nil)) pa_nil))))), ?_⟩
    refine r_at (σ := [some _, none]) rfl ?_
    walk_at "z"
    rw [hp.length]
    refine ⟨ps.length, rfl, hlen, fun f zs H1 hf s1 hz hzs => ?_⟩
    refine r_il (.inl (.inl hz)) fun d hd => lcR_list (xs := zs) (fun i H' => Same H1 H' ∧ ∃ ys c, H' d = some (.lst ys) ∧ Prs H' ys (((allP ps.length).take i).filter c)) (by walk_at "zw") ⟨same_new hd, [], fun _ => true, upd_same, .nil⟩ (fun i H' _ ⟨s2, _⟩ => .inl (.inl (s2 _ _ hz))) ?_ ?_
    · rintro i x H' hx ⟨s2, ys, c, hy, hys⟩
      obtain ⟨p, hpi, hxp⟩ := pd_get (hzs.tk (.of_same s2)) hx
      obtain ⟨b1, b2, b3⟩ := mem_allP.mp (List.mem_of_getElem? hpi)
      obtain ⟨t, rfl, ht⟩ := id hxp
      have sm := s1.trans s2
      have hl' := sm.seq hl
      have hp' := hp.tk (.of_same sm)
      obtain ⟨y1, r1, e1, _, t1, rfl, f1⟩ := at_pd hp' b1 (by omega)
      obtain ⟨y2, r2, e2, _, t2, rfl, f2⟩ := at_pd hp' (show 0 ≤ p.2 by omega) (by omega)
      -- the turn's end
      have yes : LcE d (fun H' => Same H1 H' ∧ ∃ ys c, H' d = some (.lst ys) ∧ Prs H' ys (((allP ps.length).take (i + 1)).filter c)) (V.ref t) H' := by
        obtain ⟨c', e⟩ := flt_next hpi c true
        refine r_lce hy (small_lt (by rw [hys.length]; exact flt_small hlen c)) ⟨same_mut s2 hd, _, c', upd_same, ?_⟩
        rw [e, if_pos rfl]
        exact (hys.tk (.lst hy)).snoc (hxp.tk (.lst hy))
      have no : Same H1 H' ∧ ∃ ys c, H' d = some (.lst ys) ∧ Prs H' ys (((allP ps.length).take (i + 1)).filter c) := by
        obtain ⟨c', e⟩ := flt_next hpi c false
        refine ⟨s2, ys, c', hy, ?_⟩
        rw [e, if_neg Bool.false_ne_true, List.append_nil]
        exact hys
      walk_at "z"
      refine ⟨rfl, ?_⟩
      walk_at "z"
      refine r_ite (fun h => ?_) (fun h => ?_)
      · walk_at "z"
        refine r_ite (fun h => ?_) (fun h => ?_)
        · walk_at "z"
          exact yes
        · exact no
      · walk_at "z"
        exact no
    · rintro H' ⟨s2, ys, c, hy, hys⟩
      rw [hzs.length, List.take_length] at hys
      walk_at "z"
      refine r_tupL (.inl (.inl hy)) fun e he => ?_
      walk_at "z"
      refine r_tupN sz2 fun t ht => ?_
      have s5 : Same H' (upd H' e (.tup ys)) := same_new he
      have s6 := s5.trans (same_new (o := .tup [.int (ps.length : Int), .ref e]) ht)
      exact q _ c _ ((s1.trans s2).trans s6) ⟨t, e, rfl, upd_same, ys, (upd_ne (ne_of_none upd_same ht)).trans upd_same, hys.tk (.of_same s6)⟩
end

set_option Elab.async false
set_option linter.all false
set_option maxRecDepth 100000
set_option maxHeartbeats 4000000
open PySem PySem.Spec PyProof.Rows L2

abbrev s_law_ringed : Stmt := topS 55
theorem sc_law_ringed : FnScope ["pool", "n", "m", "pairs", "v", "k", "u"] ["pool", "n"] (defScope s_law_ringed) := ⟨rfl, rfl, rfl, by decide +kernel, rfl, by decide +kernel, by decide +kernel⟩

abbrev s_law_clique_graph : Stmt := topS 40
theorem sc_law_clique_graph : FnScope ["pool", "n", "cliques", "pairs", "v", "base", "kept", "u"] ["pool", "n"] (defScope s_law_clique_graph) := ⟨rfl, rfl, rfl, by decide +kernel, rfl, by decide +kernel, by decide +kernel⟩

section
variable {P : Program} {w : World} {K : PySem.W.Frag} {mg : Str → Option Value} {base : Heap}
theorem idx_spec : ∀ {ns : List Int} {z : Int}, z ∈ ns → ns[ns.idxOf z]? = some z ∧ ∀ m, m < ns.idxOf z → ns[m]? ≠ some z
  | [], _, h => by cases h
  | x :: ns, z, h => by
    rw [List.idxOf_cons]
    by_cases e : x = z
    · subst e
      simp
    · have hz : z ∈ ns := by
        rcases List.mem_cons.mp h with q | q
        · exact absurd q.symm e
        · exact q
      obtain ⟨h1, h2⟩ := idx_spec hz
      have eb : (x == z) = false := by simp [e]
      rw [eb]
      simp only [cond_false]
      refine ⟨by simpa using h1, fun m hm => ?_⟩
      cases m with
      | zero => simp [e]
      | succ m =>
        have := h2 m (by omega)
        simpa using this
theorem flat_ints (ns : List Int) : (ns.map V.int).all flatV = true := by
  rw [List.all_eq_true]
  intro x hx
  obtain ⟨n, _, rfl⟩ := List.mem_map.mp hx
  rfl
theorem eqV_int (i j : Int) : eqV (.int i) (.int j) = decide (i = j) := by
  show (i == j) = decide (i = j)
  exact int_beq i j
theorem r_index {H : Hp} {Q : VK} {l : Addr} {ns : List Int} {z : Int} (h : SqL K H l (ns.map V.int)) (hm : z ∈ ns) (q : Q (.int (ns.idxOf z : Nat)) H) : rIndex K (.ref l) [.int z] H Q := by
  obtain ⟨h1, h2⟩ := idx_spec hm
  refine ⟨l, ns.map V.int, .int z, ns.idxOf z, .int z, rfl, rfl, h, rfl, flat_ints ns, by rw [List.getElem?_map, h1]; rfl, by rw [eqV_int]; simp, fun m z' hm hz => ?_, q⟩
  rw [List.getElem?_map] at hz
  obtain ⟨y, hy, rfl⟩ := Option.map_eq_some_iff.mp hz
  rw [eqV_int]
  refine decide_eq_false fun e => h2 m hm ?_
  rw [hy, e]
abbrev s_law_turned_graph : Stmt := topS 38
theorem sc_law_turned_graph : FnScope ["one", "two", "first", "second", "found", "u", "v"] ["one", "two"] (defScope s_law_turned_graph) := ⟨rfl, rfl, rfl, by decide +kernel, rfl, by decide +kernel, by decide +kernel⟩

/-- the pairs that stand in another order in both -/
def spTurned (K : PySem.W.Frag) : Sp := fun vs H Q _ => ∃ (l1 l2 : Addr) (ns ms : List Int), vs = [.ref l1, .ref l2] ∧ SqL K H l1 (ns.map V.int) ∧ SqL K H l2 (ms.map V.int) ∧ ns.length ≤ 100 ∧ (∀ z : Int, 0 ≤ z → z < ns.length → z ∈ ns ∧ z ∈ ms) ∧
  ∀ (v : V) (c : Int × Int → Bool) (H' : Hp), Same H H' → GrAt H' v (ns.length : Int) ((allP ns.length).filter c) → Q v H'
theorem ok_turned (T : Blt mg) (D : DefAt K mg "_law_turned_graph" s_law_turned_graph ["one", "two"]) (D_law_pairs : DefAt K mg "_law_pairs" s_law_pairs ["n"]) (G_law_pairs : FnOk P w K mg base CX0 1 D_law_pairs.f D_law_pairs.fd ["n"] spPairs) :
    FnOk P w K mg base CX0 2 D.f D.fd ["one", "two"] (spTurned K) := by
  refine D.F.ok sc_law_turned_graph (fun vs H Q E h => ?_) (fun cdv A outer s H vs Q E hr h => ?_)
  · obtain ⟨l1, l2, ns, ms, rfl, _⟩ := h
    rfl
  · obtain ⟨l1, l2, ns, ms, rfl, hl1, hl2, hlen, hall, q⟩ := h
    refine ⟨_, (pss_cons (ps_set (i := 2) sc_law_turned_graph.nd rfl (Or.inl rfl) (pe_callTy (call_listK (K := K) rfl) (by rfl) T.list (by decide +kernel) (pa_cons (pv 0) pa_nil)))
      (pss_cons (ps_set (i := 3) sc_law_turned_graph.nd rfl (Or.inl rfl) (pe_callTy (call_listK (K := K) rfl) (by rfl) T.list (by decide +kernel) (pa_cons (pv 1) pa_nil)))
      (pss_cons (ps_set (i := 4) sc_law_turned_graph.nd rfl (Or.inl rfl) (pe_lst pa_nil))
      (pss_cons (ps_for PassesOwn.never (by rfl) (PI.listK (K := K) rfl (pi_list (pe_call G_law_pairs (hr.mono (by first | decide | omega)) (by rfl) D_law_pairs.g D_law_pairs.F.kp D_law_pairs.b .nil pass0 (pa_cons (pe_callB (call_lenK (K := K) rfl) (by rfl) T.len (by decide +kernel) (pa_cons (pv 2) pa_nil)) pa_nil)))) (PG.tupK (K := K) rfl (pg_tup (n := 2) rfl (pgs_cons (pg_name (i := 5) sc_law_turned_graph.nd rfl (Or.inl rfl)) (pgs_cons (pg_name (i := 6) sc_law_turned_graph.nd rfl (Or.inl rfl)) pgs_nil))))
        (pss_one (ps_if (pt_cmpR op_ne (pe_cmpR op_lt (PE.bmK (K := K) rfl (pe_bm PySem.F.plainAttrs_list PySem.F.slot_list_index PySem.F.type_list_index (mt_indexK (K := K) rfl) (pv 2) (pa_cons (pv 5) pa_nil))) (PE.bmK (K := K) rfl (pe_bm PySem.F.plainAttrs_list PySem.F.slot_list_index PySem.F.type_list_index (mt_indexK (K := K) rfl) (pv 2) (pa_cons (pv 6) pa_nil))) (nomark _)) (pe_cmpR op_lt (PE.bmK (K := K) rfl (pe_bm PySem.F.plainAttrs_list PySem.F.slot_list_index PySem.F.type_list_index (mt_indexK (K := K) rfl) (pv 3) (pa_cons (pv 5) pa_nil))) (PE.bmK (K := K) rfl (pe_bm PySem.F.plainAttrs_list PySem.F.slot_list_index PySem.F.type_list_index (mt_indexK (K := K) rfl) (pv 3) (pa_cons (pv 6) pa_nil))) (nomark _)) (nomark _))
          (pss_one (ps_expr (PE.bmK (K := K) rfl (pe_bm PySem.F.plainAttrs_list PySem.F.slot_list_append PySem.F.type_list_append mt_append (pv 4) (pa_cons (pe_tup (pa_cons (pv 5) (pa_cons (pv 6) pa_nil))) pa_nil)))))
          pss_nil)))
      (pss_one (ps_ret (pe_tup (pa_cons (pe_callB (call_lenK (K := K) rfl) (by rfl) T.len (by decide +kernel) (pa_cons (pv 2) pa_nil)) (pa_cons (pe_callTy (call_tupleK (K := K) rfl) (by rfl) T.tuple (by decide +kernel) (pa_cons (pv 4) pa_nil)) pa_nil))))))))), ?_⟩
    refine r_at (σ := [some _, some _, none, none, none, none, none]) rfl ?_
    walk_at "z"
    refine r_listL hl1 fun f1 hf1 => ?_
    have sa : Same H (upd H f1 (.lst (ns.map V.int))) := same_new hf1
    walk_at "z"
    refine r_listL (sa.seq hl2) fun f2 hf2 => ?_
    have sb := sa.trans (same_new (o := .lst (ms.map V.int)) hf2)
    walk_at "z"
    refine r_lstN (by decide) fun f hf => ?_
    have sc := sb.trans (same_new (o := .lst []) hf)
    have n12 : f1 ≠ f2 := ne_of_none upd_same hf2
    have n1f : f1 ≠ f := ne_of_none ((upd_ne n12).trans upd_same) hf
    have n2f : f2 ≠ f := ne_of_none upd_same hf
    walk_at "z"
    rw [List.length_map]
    refine ⟨ns.length, rfl, hlen, fun l zs H1 hl s1 hz hzs => ?_⟩
    have h1 : H1 f1 = some (.lst (ns.map V.int)) := s1 _ _ ((upd_ne n1f).trans ((upd_ne n12).trans upd_same))
    have h2 : H1 f2 = some (.lst (ms.map V.int)) := s1 _ _ ((upd_ne n2f).trans upd_same)
    have hff : H1 f = some (.lst []) := s1 _ _ upd_same
    have nlf : l ≠ f := fun e => by
      rw [e, upd_same] at hl
      cases hl
    have hf0 : H f = none := sb.free hf
    -- the lists that stand
    refine r_il (.inl (.inl hz)) (forR_list (xs := zs) (fun i σ' H' => (∃ x5 x6, σ' = [some (.ref l1), some (.ref l2), some (.ref f1), some (.ref f2), some (.ref f), x5, x6]) ∧ Same H H' ∧ TK H1 H' ∧ H' l = some (.lst zs) ∧ H' f1 = some (.lst (ns.map V.int)) ∧ H' f2 = some (.lst (ms.map V.int)) ∧ ∃ ys c, H' f = some (.lst ys) ∧ Prs H' ys (((allP ns.length).take i).filter c))
      ⟨⟨_, _, rfl⟩, sc.trans s1, .refl _, hz, h1, h2, [], fun _ => true, hff, .nil⟩ (fun i σ' H' _ ⟨_, _, _, h, _⟩ => .inl (.inl h)) ?_ ?_)
    · rintro i x σ' H' hx ⟨⟨x5, x6, rfl⟩, sm, tk, hl', g1, g2, ys, c, hy, hys⟩
      obtain ⟨p, hpi, hxp⟩ := pd_get (hzs.tk tk) hx
      obtain ⟨b1, b2, b3⟩ := mem_allP.mp (List.mem_of_getElem? hpi)
      obtain ⟨t, rfl, ht⟩ := id hxp
      obtain ⟨m1, m2⟩ := hall p.1 b1 (by omega)
      obtain ⟨m3, m4⟩ := hall p.2 (by omega) (by omega)
      refine r_gtup (.inl (.inl ht)) rfl ?_
      walk_at "z"
      refine r_index (.inl (.inl g1)) m1 ?_
      walk_at "z"
      refine r_index (.inl (.inl g1)) m3 ?_
      walk_at "z"
      refine r_index (.inl (.inl g2)) m2 ?_
      walk_at "z"
      refine r_index (.inl (.inl g2)) m4 ?_
      walk_at "z"
      refine r_iteB (fun h => ?_) (fun h => ?_)
      · walk_at "z"
        refine r_tupN sz2 fun t2 ht2 => ?_
        walk_at "z"
        obtain ⟨c', e⟩ := flt_next hpi c true
        refine r_appT (by walk_at "zh") (small_lt (by rw [hys.length]; exact flt_small hlen c)) ?_
        have kk : TK H' (upd (upd H' t2 (.tup [.int p.1, .int p.2])) f (.lst (ys ++ [.ref t2]))) := (TK.new ht2).trans (.lst (by walk_at "zh"))
        have old : ∀ (b : Addr) (o : HO), b ≠ f → H' b = some o → (upd (upd H' t2 (.tup [.int p.1, .int p.2])) f (.lst (ys ++ [.ref t2]))) b = some o := fun b o n e => by
          rw [upd_ne n, upd_ne (ne_of_none e ht2)]
          exact e
        refine ⟨⟨_, _, rfl⟩, same_mut (sm.trans (same_new ht2)) hf0, tk.trans kk, old _ _ nlf hl', old _ _ n1f g1, old _ _ n2f g2, _, c', upd_same, ?_⟩
        rw [e, if_pos rfl]
        exact prs_push hy hys ht2
      · walk_at "z"
        obtain ⟨c', e⟩ := flt_next hpi c false
        refine ⟨⟨_, _, rfl⟩, sm, tk, hl', g1, g2, ys, c', hy, ?_⟩
        rw [e, if_neg Bool.false_ne_true, List.append_nil]
        exact hys
    · rintro σ' H' ⟨⟨x5, x6, rfl⟩, sm, tk, hl', g1, g2, ys, c, hy, hys⟩
      rw [hzs.length, List.take_length] at hys
      walk_at "z"
      rw [List.length_map]
      refine r_tupL (.inl (.inl hy)) fun e he => ?_
      walk_at "z"
      refine r_tupN sz2 fun t ht => ?_
      have s5 : Same H' (upd H' e (.tup ys)) := same_new he
      have s6 := s5.trans (same_new (o := .tup [.int (ns.length : Int), .ref e]) ht)
      exact q _ c _ (sm.trans s6) ⟨t, e, rfl, upd_same, ys, (upd_ne (ne_of_none upd_same ht)).trans upd_same, hys.tk (.of_same s6)⟩
theorem good_of {n : Int} {ps qs : List (Int × Int)} (h1 : 1 ≤ n) (bd : ∀ r ∈ ps, 0 ≤ r.1 ∧ r.1 < n ∧ 0 ≤ r.2 ∧ r.2 < n ∧ r.1 ≠ r.2) (asc : qs.Pairwise ltP) (mem : ∀ p, p ∈ qs ↔ ∃ r ∈ ps, p = nrm r) : GoodG n qs := by
  refine ⟨h1, asc, fun p hp => ?_⟩
  obtain ⟨r, hr, rfl⟩ := (mem p).mp hp
  obtain ⟨b1, b2, b3, b4, b5⟩ := bd r hr
  unfold nrm
  simp only
  omega
/-- a ring and more -/
def spRinged : Sp := fun vs H Q _ => ∃ (a s : Addr) (n : Int), vs = [.ref a, .int n] ∧ Pool H a s ∧ 1 ≤ n ∧ n ≤ 60 ∧ GenQ a s H n Q
theorem r_cat {H : Hp} {Q : VK} {l b : Addr} {xs zs : List V} (h1 : H l = some (.lst xs)) (h2 : H b = some (.lst zs)) (hz : xs.length + zs.length ≤ 100000) (q : ∀ p, H p = none → Q (.ref p) (upd H p (.lst (xs ++ zs)))) : rCat (.ref l) (.ref b) H Q := ⟨l, b, xs, zs, rfl, rfl, h1, h2, small_len hz, q⟩
theorem ok_ringed (T : Blt mg) (D : DefAt K mg "_law_ringed" s_law_ringed ["pool", "n"]) (D_law_draw : DefAt K mg "_law_draw" s_law_draw ["pool", "many"]) (G_law_draw : FnOk P w K mg base CX0 2 D_law_draw.f D_law_draw.fd ["pool", "many"] spDraw)
    (D_law_of : DefAt K mg "_law_of" s_law_of ["n", "pairs"]) (G_law_of : FnOk P w K mg base CX0 3 D_law_of.f D_law_of.fd ["n", "pairs"] (spOf K)) :
    FnOk P w K mg base CX0 4 D.f D.fd ["pool", "n"] spRinged := by
  refine D.F.ok sc_law_ringed (fun vs H Q E h => ?_) (fun cdv A outer s H vs Q E hr h => ?_)
  · obtain ⟨a, s, n, rfl, _⟩ := h
    rfl
  · obtain ⟨a, s0, n, rfl, hP, n0, n1, q⟩ := h
    refine ⟨_, (pss_cons (ps_set (i := 2) sc_law_ringed.nd rfl (Or.inr rfl) (pe_op op_sub (pv 1) (pe_call G_law_draw (hr.mono (by first | decide | omega)) (by rfl) D_law_draw.g D_law_draw.F.kp D_law_draw.b .nil pass0 (pa_cons (pv 0) (pa_cons (pe_callB (call_max2' rfl) (by rfl) T.max (by decide +kernel) (pa_cons pe_int (pa_cons (pe_op op_sub (pv 1) pe_int) pa_nil))) pa_nil)))))
      (pss_cons (ps_setLc (i := 3) (own := [("k", 5)]) (by rfl) sc_law_ringed.nd rfl rfl (sw_true rfl rfl rfl (by decide +kernel)) (pi_range1 (by rfl) T.range (pa_cons (pv 2) pa_nil)) (blkOk_by (own := [("k", 5)]) (N := ["pool", "n", "m", "pairs", "v", "k", "u"]) (sc := (defScope s_law_ringed)) (by decide +kernel)) (fun _ _ _ _ _ => (pg_name (i := 5) sc_law_ringed.nd rfl (Or.inl rfl))) (fun _ _ _ _ _ => (pts_one (pt_cmpR op_gt (pv 2) pe_int (nomark _)))) (fun _ _ _ _ _ => (pe_tup (pa_cons (pv 5) (pa_cons (pe_op op_mod (pe_op op_add (pv 5) pe_int) (pv 2)) pa_nil)))))
      (pss_cons (ps_for PassesOwn.never (by rfl) (pi_range2 (by rfl) T.range (pa_cons (pv 2) (pa_cons (pv 1) pa_nil))) (pg_name (i := 4) sc_law_ringed.nd rfl (Or.inr rfl))
        (pss_one (ps_set (i := 3) sc_law_ringed.nd rfl (Or.inl rfl) (pe_op op_cat (pv 3) (pe_lc (own := [("u", 6)]) (by rfl) sc_law_ringed.nd (pi_range1 (by rfl) T.range (pa_cons (pv 4) pa_nil)) (blkOk_by (own := [("u", 6)]) (N := ["pool", "n", "m", "pairs", "v", "k", "u"]) (sc := (defScope s_law_ringed)) (by decide +kernel)) (fun _ _ _ _ _ => (pg_name (i := 6) sc_law_ringed.nd rfl (Or.inl rfl))) (fun _ _ _ _ _ => (pts_one (pt_cmpR op_eq (pe_call G_law_draw (hr.mono (by first | decide | omega)) (by rfl) D_law_draw.g D_law_draw.F.kp D_law_draw.b .nil pass0 (pa_cons (pv 0) (pa_cons pe_int pa_nil))) pe_int (nomark _)))) (fun _ _ _ _ _ => (pe_tup (pa_cons (pv 6) (pa_cons (pv 4) pa_nil)))))))))
      (pss_one (ps_ret (pe_call G_law_of (hr.mono (by first | decide | omega)) (by rfl) D_law_of.g D_law_of.F.kp D_law_of.b .nil pass0 (pa_cons (pv 1) (pa_cons (pv 3) pa_nil)))))))), ?_⟩
    refine r_at (σ := [some _, some _, none, none, none, none, none]) rfl ?_
    walk_at "z"
    refine ⟨a, s0, _, rfl, hP, by omega, by omega, fun r H1 r0 r1 hP1 g1 => ?_⟩
    walk_at "z"
    obtain ⟨m, hm⟩ : ∃ m : Nat, n - r = (m : Int) := ⟨(n - r).toNat, by omega⟩
    rw [hm]
    have m1 : 1 ≤ m := by omega
    have m2 : m ≤ n.toNat := by omega
    let Bd : List (Int × Int) → Prop := fun ps => ∀ p ∈ ps, 0 ≤ p.1 ∧ p.1 < n ∧ 0 ≤ p.2 ∧ p.2 < n ∧ p.1 ≠ p.2
    have bd1 : ∀ {ps : List (Int × Int)} {u v : Int}, Bd ps → 0 ≤ u → u < n → 0 ≤ v → v < n → u ≠ v → Bd (ps ++ [(u, v)]) := fun {ps u v} h h1 h2 h3 h4 h5 p hp => by
      rcases List.mem_append.mp hp with z | z
      · exact h p z
      · rw [List.mem_singleton.mp z]
        exact ⟨h1, h2, h3, h4, h5⟩
    refine r_rg1 (by omega) fun d hd => lcR_range (fun i H' => Same H1 H' ∧ ∃ ys ps, H' d = some (.lst ys) ∧ Prs H' ys ps ∧ Bd ps ∧ ps.length ≤ i) (by walk_at "zw") ⟨same_new hd, [], [], upd_same, .nil, (fun p hp => by cases hp), Nat.le_refl _⟩ ?_ ?_
    · rintro i H' hi ⟨sm, ys, ps, hy, hys, bd, hl⟩
      have hi : i < m := by omega
      walk_at "z"
      refine ⟨rfl, ?_⟩
      walk_at "z"
      refine r_ite (fun h => ?_) (fun h => ?_)
      · walk_at "z"
        refine r_tupN sz2 fun t ht => ?_
        have hmod : 0 ≤ (0 + (i : Int) + 1) % (m : Int) ∧ (0 + (i : Int) + 1) % (m : Int) < m := ⟨Int.emod_nonneg _ (by omega), Int.emod_lt_of_pos _ (by omega)⟩
        have hne : (0 + (i : Int)) ≠ (0 + (i : Int) + 1) % (m : Int) := by
          by_cases e : i + 1 = m
          · have : (0 + (i : Int) + 1) % (m : Int) = 0 := by
              rw [show (0 : Int) + (i : Int) + 1 = (m : Int) by omega]
              exact Int.emod_self
            omega
          · have : (0 + (i : Int) + 1) % (m : Int) = 0 + (i : Int) + 1 := Int.emod_eq_of_lt (by omega) (by omega)
            omega
        refine r_lce (by walk_at "zh") (small_lt (by rw [hys.length]; omega)) ⟨same_mut (sm.trans (same_new ht)) hd, _, _, upd_same, prs_push hy hys ht, bd1 bd (by omega) (by omega) hmod.1 (by omega) hne, by rw [List.length_append]; simp only [List.length_cons, List.length_nil]; omega⟩
      · exact ⟨sm, ys, ps, hy, hys, bd, by omega⟩
    · rintro H' ⟨sm, ys, ps, hy, hys, bd, hl⟩
      walk_at "z"
      have g2 : Gr a H H' := g1.trans (.of_same sm)
      refine r_rg2 (by omega) (forR_range (fun i σ' H' => (∃ b x4, σ' = [some (.ref a), some (.int n), some (.int (m : Int)), some (.ref b), x4, none, none] ∧ (b ≠ a ∧ b ≠ s0) ∧ ∃ ys ps, H' b = some (.lst ys) ∧ Prs H' ys ps ∧ Bd ps ∧ ps.length ≤ 60 + 60 * i) ∧ Pool H' a s0 ∧ Gr a H H') ⟨⟨d, _, rfl, new_ne hP1 hd, ys, ps, hy, hys, bd, by omega⟩, hP1.mono sm, g2⟩ ?_ ?_)
      · rintro i σ' H' hi ⟨⟨b, x4, rfl, ba, ys, ps, hy, hys, bd, hl⟩, hP', g⟩
        have hi : m + i < n.toNat := by omega
        walk_at "z"
        refine r_rg1 (by omega) fun c hc => lcR_range (fun j H3 => Pool H3 a s0 ∧ Gr a H' H3 ∧ ∃ zs rs, H3 c = some (.lst zs) ∧ Prs H3 zs rs ∧ Bd rs ∧ rs.length ≤ j) (by walk_at "zw") ⟨hP'.mono (same_new hc), .new hc, [], [], upd_same, .nil, (fun p hp => by cases hp), Nat.le_refl _⟩ ?_ ?_
        · rintro j H3 hj ⟨hP3, g3, zs, rs, hz, hzs, bdr, hlr⟩
          have hj : j < m + i := by omega
          walk_at "z"
          refine ⟨rfl, ?_⟩
          walk_at "z"
          refine ⟨a, s0, 3, rfl, hP3, by omega, by omega, fun r2 H4 _ _ hP4 g4 => ?_⟩
          have ca := new_ne hP' hc
          have hz4 := g4 _ _ ca.1 hz
          walk_at "z"
          refine r_ite (fun h => ?_) (fun h => ?_)
          · walk_at "z"
            refine r_tupN sz2 fun t ht => ?_
            refine r_lce (by walk_at "zh") (small_lt (by rw [hzs.length]; omega)) ⟨(hP4.mono (same_new ht)).upd ca, ((g3.trans g4).trans (.new ht)).mut hc, _, _, upd_same, prs_push hz4 (hzs.tk (g4.tk hP3)) ht, bd1 bdr (by omega) (by omega) (by omega) (by omega) (by omega), by rw [List.length_append]; simp only [List.length_cons, List.length_nil]; omega⟩
          · exact ⟨hP4, g3.trans g4, zs, rs, hz4, hzs.tk (g4.tk hP3), bdr, by omega⟩
        · rintro H3 ⟨hP3, g3, zs, rs, hz, hzs, bdr, hlr⟩
          have hy3 := g3 _ _ ba.1 hy
          refine r_cat hy3 hz (by rw [hys.length, hzs.length]; omega) fun e he => ?_
          walk_at "z"
          refine ⟨⟨e, _, rfl, new_ne hP3 he, _, ps ++ rs, upd_same, Prs.tk (.new he) (pd_append (hys.tk (g3.tk hP')) hzs), fun p hp => ?_, ?_⟩, hP3.mono (same_new he), (g.trans g3).trans (.new he)⟩
          · rcases List.mem_append.mp hp with z | z
            · exact bd p z
            · exact bdr p z
          · rw [List.length_append]
            omega
      · rintro σ' H' ⟨⟨b, x4, rfl, ba, ys, ps, hy, hys, bd, hl⟩, hP', g⟩
        walk_at "z"
        refine ⟨n, b, ys, ps, rfl, .inl (.inl hy), hys, by omega, fun v qs H2 s2 hv asc mem => ?_⟩
        exact q v qs H2 (hP'.mono s2) (g.trans (.of_same s2)) hv (good_of n0 bd asc mem)
theorem lt_of_le_nodup {ps : List (Int × Int)} (h1 : ps.Pairwise leP) (h2 : ps.Nodup) : ps.Pairwise ltP := (List.pairwise_and_iff.mpr ⟨h1, h2⟩).imp fun {p q} h => ltP_of_le_ne h.1 h.2
/-- a graph of cliques -/
def spClique : Sp := fun vs H Q _ => ∃ (a s : Addr) (n : Int), vs = [.ref a, .int n] ∧ Pool H a s ∧ 1 ≤ n ∧ n ≤ 60 ∧ GenQ a s H n Q
/-- lists of different vertices below i -/
def Clq (H : Hp) (C a s : Addr) (as : List Addr) (i : Nat) : Prop := ∀ x ∈ as, x ≠ C ∧ x ≠ a ∧ x ≠ s ∧ ∃ ns : List Int, H x = some (.lst (ns.map V.int)) ∧ ns.Nodup ∧ (∀ z ∈ ns, 0 ≤ z ∧ z < i) ∧ ns.length ≤ i
theorem ok_clique (T : Blt mg) (D : DefAt K mg "_law_clique_graph" s_law_clique_graph ["pool", "n"]) (D_law_draw : DefAt K mg "_law_draw" s_law_draw ["pool", "many"]) (G_law_draw : FnOk P w K mg base CX0 2 D_law_draw.f D_law_draw.fd ["pool", "many"] spDraw) :
    FnOk P w K mg base CX0 4 D.f D.fd ["pool", "n"] spClique := by
  refine D.F.ok sc_law_clique_graph (fun vs H Q E h => ?_) (fun cdv A outer s H vs Q E hr h => ?_)
  · obtain ⟨a, s, n, rfl, _⟩ := h
    rfl
  · obtain ⟨a, s0, n, rfl, hP, n0, n1, q⟩ := h
    refine ⟨_, (pss_cons (ps_set (i := 2) sc_law_clique_graph.nd rfl (Or.inl rfl) (pe_lst (pa_cons (pe_lst pa_nil) pa_nil)))
      (pss_cons (ps_set (i := 3) sc_law_clique_graph.nd rfl (Or.inl rfl) (pe_lst pa_nil))
      (pss_cons (ps_for PassesOwn.never (by rfl) (pi_range1 (by rfl) T.range (pa_cons (pv 1) pa_nil)) (pg_name (i := 4) sc_law_clique_graph.nd rfl (Or.inr rfl))
        (pss_cons (ps_set (i := 5) sc_law_clique_graph.nd rfl (Or.inl rfl) (pe_ix (ix_listK (K := K) rfl) (pv 2) (pe_call G_law_draw (hr.mono (by first | decide | omega)) (by rfl) D_law_draw.g D_law_draw.F.kp D_law_draw.b .nil pass0 (pa_cons (pv 0) (pa_cons (pe_callB (call_lenK (K := K) rfl) (by rfl) T.len (by decide +kernel) (pa_cons (pv 2) pa_nil)) pa_nil))) (fun _ _ => rfl)))
        (pss_cons (ps_setLc (i := 6) (own := [("u", 7)]) (by rfl) sc_law_clique_graph.nd rfl rfl (sw_true rfl rfl rfl (by decide +kernel)) (PI.listK (K := K) rfl (pi_list (pv 5))) (blkOk_by (own := [("u", 7)]) (N := ["pool", "n", "cliques", "pairs", "v", "base", "kept", "u"]) (sc := (defScope s_law_clique_graph)) (by decide +kernel)) (fun _ _ _ _ _ => (pg_name (i := 7) sc_law_clique_graph.nd rfl (Or.inl rfl))) (fun _ _ _ _ _ => (pts_one (pt_cmpR op_gt (pe_call G_law_draw (hr.mono (by first | decide | omega)) (by rfl) D_law_draw.g D_law_draw.F.kp D_law_draw.b .nil pass0 (pa_cons (pv 0) (pa_cons pe_int pa_nil))) pe_int (nomark _)))) (fun _ _ _ _ _ => (pv 7)))
        (pss_cons (ps_set (i := 3) sc_law_clique_graph.nd rfl (Or.inl rfl) (pe_op op_cat (pv 3) (pe_lc (own := [("u", 7)]) (by rfl) sc_law_clique_graph.nd (PI.listK (K := K) rfl (pi_list (pv 6))) (blkOk_by (own := [("u", 7)]) (N := ["pool", "n", "cliques", "pairs", "v", "base", "kept", "u"]) (sc := (defScope s_law_clique_graph)) (by decide +kernel)) (fun _ _ _ _ _ => (pg_name (i := 7) sc_law_clique_graph.nd rfl (Or.inl rfl))) (fun _ _ _ _ _ => pts_nil) (fun _ _ _ _ _ => (pe_tup (pa_cons (pv 7) (pa_cons (pv 4) pa_nil)))))))
        (pss_one (ps_expr (PE.bmK (K := K) rfl (pe_bm PySem.F.plainAttrs_list PySem.F.slot_list_append PySem.F.type_list_append mt_append (pv 2) (pa_cons (pe_op op_cat (pv 6) (pe_lst (pa_cons (pv 4) pa_nil))) pa_nil)))))))))
      (pss_one (ps_ret (pe_tup (pa_cons (pv 1) (pa_cons (pe_callTy (call_tupleK (K := K) rfl) (by rfl) T.tuple (by decide +kernel) (pa_cons (pe_callB (cr_sortPrK (K := K) rfl) (by rfl) T.sorted (by decide +kernel) (pa_cons (pv 3) pa_nil)) pa_nil)) pa_nil)))))))), ?_⟩
    refine r_at (σ := [some _, some _, none, none, none, none, none, none]) rfl ?_
    walk_at "z"
    refine r_lstN (by decide) fun c0 hc0 => ?_
    walk_at "z"
    refine r_lstN sz1 fun C hC => ?_
    have hC0 : H C = none := (same_new hc0).free hC
    walk_at "z"
    refine r_lstN (by decide) fun q0 hq0 => ?_
    walk_at "z"
    have nC := new_ne hP hC0
    have n0C : c0 ≠ C := ne_of_none upd_same hC
    have nqC : C ≠ q0 := ne_of_none upd_same hq0
    have n0q : c0 ≠ q0 := ne_of_none ((upd_ne n0C).trans upd_same) hq0
    refine r_rg1 (by omega) (forR_range (fun i σ' H' => (∃ b x4 x5 x6, σ' = [some (.ref a), some (.int n), some (.ref C), some (.ref b), x4, x5, x6, none] ∧ (b ≠ a ∧ b ≠ s0 ∧ b ≠ C) ∧ ∃ ys ps, H' b = some (.lst ys) ∧ Prs H' ys ps ∧ ps.Nodup ∧ (∀ p ∈ ps, 0 ≤ p.1 ∧ p.1 < p.2 ∧ p.2 < i) ∧ ps.length ≤ 60 * i) ∧ Pool H' a s0 ∧ Gr a H H' ∧
        ∃ as : List Addr, H' C = some (.lst (as.map V.ref)) ∧ as.length = i + 1 ∧ Clq H' C a s0 as i) ⟨⟨q0, _, _, _, rfl, ?_, [], [], upd_same, .nil, .nil, (fun p hp => by cases hp), Nat.zero_le _⟩, ?_, ?_, [c0], ?_, rfl, ?_⟩ ?_ ?_)
    · have h1 : H q0 = none := ((same_new hc0).trans (same_new hC)).free hq0
      exact ⟨(new_ne hP h1).1, (new_ne hP h1).2, Ne.symm nqC⟩
    · exact ((hP.mono (same_new hc0)).mono (same_new hC)).mono (same_new hq0)
    · exact ((Gr.new hc0).trans (.new hC)).trans (.new hq0)
    · exact (upd_ne nqC).trans upd_same
    · intro x hx
      rw [List.mem_singleton.mp hx]
      exact ⟨n0C, (new_ne hP hc0).1, (new_ne hP hc0).2, [], (upd_ne n0q).trans ((upd_ne n0C).trans upd_same), .nil, (fun z hz => by cases hz), Nat.zero_le _⟩
    · rintro i σ' H' hi ⟨⟨b, x4, x5, x6, rfl, ⟨ba, bs, bC⟩, ys, ps, hy, hys, nd, bd, hl⟩, hP', g, as, hcs, hlen, hclq⟩
      have hi : i < n.toNat := by omega
      walk_at "z"
      rw [List.length_map, hlen]
      refine ⟨a, s0, _, rfl, hP', by omega, by omega, fun r H1 r0 r1 hP1 g1 => ?_⟩
      have hcs1 := g1 _ _ nC.1 hcs
      have hrt : r.toNat < as.length := by omega
      obtain ⟨x, hx⟩ : ∃ x, as[r.toNat]? = some x := ⟨_, List.getElem?_eq_getElem hrt⟩
      obtain ⟨xC, xa, xs, ns, hns, nns, bns, lns⟩ := hclq x (List.mem_of_getElem? hx)
      refine r_ixL (.inl (.inl hcs1)) (v := V.ref x) (at_of (j := r.toNat) (by omega) (by rw [List.getElem?_map, hx]; rfl)) ?_
      walk_at "z"
      have hx1 := g1 _ _ xa hns
      -- kept
      refine r_il (.inl (.inl hx1)) fun d hd => lcR_list (xs := ns.map V.int) (fun j H2 => Pool H2 a s0 ∧ Gr a H1 H2 ∧ ∃ ms : List Int, H2 d = some (.lst (ms.map V.int)) ∧ ms.Sublist (ns.take j)) (by walk_at "zw") ⟨hP1.mono (same_new hd), .new hd, [], upd_same, List.nil_sublist _⟩ (fun j H2 _ ⟨_, g2, _⟩ => .inl (.inl (g2 _ _ xa hx1))) ?_ ?_
      · rintro j y H2 hy2 ⟨hP2, g2, ms, hms, sub⟩
        rw [List.getElem?_map] at hy2
        obtain ⟨z, hz, rfl⟩ := Option.map_eq_some_iff.mp hy2
        walk_at "z"
        refine ⟨rfl, ?_⟩
        walk_at "z"
        refine ⟨a, s0, 4, rfl, hP2, by omega, by omega, fun r2 H3 _ _ hP3 g3 => ?_⟩
        have hms3 := g3 _ _ (new_ne hP1 hd).1 hms
        have sl : ms.length ≤ 60 := by
          have h1 := sub.length_le
          rw [List.length_take] at h1
          omega
        walk_at "z"
        refine r_ite (fun h => ?_) (fun h => ?_)
        · walk_at "z"
          refine r_lce hms3 (small_lt (by rw [List.length_map]; omega)) ⟨hP3.upd (new_ne hP1 hd), (g2.trans g3).mut hd, ms ++ [z], by rw [List.map_append]; exact upd_same, ?_⟩
          rw [take_next hz]
          exact sub.append (List.Sublist.refl _)
        · refine ⟨hP3, g2.trans g3, ms, hms3, ?_⟩
          rw [take_next hz]
          exact sub.trans (List.sublist_append_left _ _)
      · rintro H2 ⟨hP2, g2, ms, hms, sub⟩
        rw [List.length_map, List.take_length] at sub
        have nms : ms.Nodup := nns.sublist sub
        have bms : ∀ z ∈ ms, 0 ≤ z ∧ z < i := fun z hz => bns z (sub.subset hz)
        have lms : ms.length ≤ i := Nat.le_trans sub.length_le lns
        have dne := new_ne hP1 hd
        have dC : d ≠ C := (ne_of_none hcs1 hd).symm
        have db : d ≠ b := (ne_of_none (g1 _ _ ba hy) hd).symm
        have hy2 := g2 _ _ ba (g1 _ _ ba hy)
        have kk : TK H' H2 := (g1.tk hP').trans (g2.tk hP1)
        have hys2 := Prs.tk kk hys
        walk_at "z"
        -- the pairs of kept and v
        refine r_il (.inl (.inl hms)) fun e he => lcR_list (xs := ms.map V.int) (fun j H3 => Same H2 H3 ∧ ∃ zs, H3 e = some (.lst zs) ∧ Prs H3 zs ((ms.take j).map fun u => (u, 0 + (i : Int)))) (by walk_at "zw") ⟨same_new he, [], upd_same, .nil⟩ (fun j H3 _ ⟨s3, _⟩ => .inl (.inl (s3 _ _ hms))) ?_ ?_
        · rintro j y H3 hy3 ⟨s3, zs, hz, hzs⟩
          rw [List.getElem?_map] at hy3
          obtain ⟨z, hzj, rfl⟩ := Option.map_eq_some_iff.mp hy3
          walk_at "z"
          refine ⟨rfl, ?_⟩
          walk_at "z"
          refine r_tupN sz2 fun t ht => ?_
          refine r_lce (by walk_at "zh") (small_lt ?_) ⟨same_mut (s3.trans (same_new ht)) he, _, upd_same, ?_⟩
          · rw [hzs.length, List.length_map, List.length_take]
            omega
          · rw [take_next hzj, List.map_append]
            exact prs_push hz hzs ht
        · rintro H3 ⟨s3, zs, hz, hzs⟩
          rw [List.length_map, List.take_length] at hzs
          have hy3 := s3 _ _ hy2
          refine r_cat hy3 hz (by rw [hys.length, hzs.length, List.length_map]; omega) fun b2 hb2 => ?_
          have s4 : Same H2 (upd H3 b2 (.lst (ys ++ zs))) := s3.trans (same_new hb2)
          have hC2 := g2 _ _ nC.1 hcs1
          have b2C : b2 ≠ C := (ne_of_none (s3 _ _ hC2) hb2).symm
          have hms4 := s4 _ _ hms
          have hC4 := s4 _ _ hC2
          walk_at "z"
          refine r_lstN sz1 fun v1 hv1 => ?_
          have s5 := s4.trans (same_new (o := .lst [V.int (0 + (i : Int))]) hv1)
          refine r_cat (s5 _ _ hms) upd_same (by rw [List.length_map]; simp only [List.length_cons, List.length_nil]; omega) fun k2 hk2 => ?_
          have s6 := s5.trans (same_new (o := .lst (ms.map V.int ++ [V.int (0 + (i : Int))])) hk2)
          walk_at "z"
          refine r_appT (s6 _ _ hC2) (small_lt (by rw [List.length_map]; omega)) ?_
          have hP6 := hP2.mono s6
          have k2C : k2 ≠ C := (ne_of_none (s5 _ _ hC2) hk2).symm
          have k2ne := new_ne (hP2.mono s5) hk2
          have b2ne := new_ne (hP2.mono s3) hb2
          have eC : e ≠ C := (ne_of_none hC2 he).symm
          -- what stood at H2, stands, but for C
          let HE := upd (upd (upd (upd H3 b2 (.lst (ys ++ zs))) v1 (.lst [V.int (0 + (i : Int))])) k2 (.lst (ms.map V.int ++ [V.int (0 + (i : Int))]))) C (.lst (as.map V.ref ++ [.ref k2]))
          have old : ∀ (x : Addr) (o : HO), x ≠ C → H2 x = some o → HE x = some o := fun x o n e => (upd_ne n).trans (s6 _ _ e)
          have old3 : ∀ (x : Addr) (o : HO), x ≠ C → H3 x = some o → HE x = some o := fun x o n e => (upd_ne n).trans ((same_new hk2) _ _ ((same_new hv1) _ _ ((same_new hb2) _ _ e)))
          have k3 : TK H3 HE := fun x o e => old3 x _ (fun z => by rw [z, s3 _ _ hC2] at e; cases e) e
          have b2v : b2 ≠ v1 := ne_of_none upd_same hv1
          have b2k : b2 ≠ k2 := ne_of_none ((upd_ne b2v).trans upd_same) hk2
          refine ⟨⟨b2, _, _, _, rfl, ⟨b2ne.1, b2ne.2, b2C⟩, ys ++ zs, ps ++ ms.map (fun u => (u, 0 + (i : Int))), ?_, ?_, ?_, ?_, ?_⟩, hP6.upd nC, (((g.trans g1).trans g2).trans (.of_same s6)).mut hC0, as ++ [k2], ?_, ?_, ?_⟩
          · exact (upd_ne b2C).trans ((upd_ne b2k).trans ((upd_ne b2v).trans upd_same))
          · exact Prs.tk k3 (pd_append (Prs.tk (.of_same s3) hys2) hzs)
          · refine List.nodup_append.mpr ⟨nd, ?_, fun p hp r hr => ?_⟩
            · exact List.pairwise_map.mpr (nms.imp fun {x y} hne e => hne (by injection e))
            · obtain ⟨u, hu, rfl⟩ := List.mem_map.mp hr
              intro e
              have := (bd p hp).2.2
              rw [e] at this
              simp only at this
              omega
          · intro p hp
            rcases List.mem_append.mp hp with z | z
            · have := bd p z
              omega
            · obtain ⟨u, hu, rfl⟩ := List.mem_map.mp z
              have := bms u hu
              simp only
              omega
          · rw [List.length_append, List.length_map]
            omega
          · rw [List.map_append]
            exact upd_same
          · rw [List.length_append, hlen]
            rfl
          · intro y hy4
            rcases List.mem_append.mp hy4 with z | z
            · obtain ⟨z1, z2, z3, ns', z4, z5, z6, z7⟩ := hclq y z
              exact ⟨z1, z2, z3, ns', old _ _ z1 (g2 _ _ z2 (g1 _ _ z2 z4)), z5, fun q9 h9 => by have := z6 q9 h9; omega, by omega⟩
            · rw [List.mem_singleton.mp z]
              refine ⟨k2C, k2ne.1, k2ne.2, ms ++ [0 + (i : Int)], ?_, ?_, ?_, ?_⟩
              · rw [List.map_append]
                exact (upd_ne k2C).trans upd_same
              · refine List.nodup_append.mpr ⟨nms, List.pairwise_singleton _ _, fun u hu r hr e => ?_⟩
                rw [List.mem_singleton.mp hr] at e
                have := bms u hu
                omega
              · intro u hu
                rcases List.mem_append.mp hu with z | z
                · have := bms u z
                  omega
                · rw [List.mem_singleton.mp z]
                  omega
              · rw [List.length_append]
                simp only [List.length_cons, List.length_nil]
                omega
    · rintro σ' H' ⟨⟨b, x4, x5, x6, rfl, ⟨ba, bs, bC⟩, ys, ps, hy, hys, nd, bd, hl⟩, hP', g, _⟩
      walk_at "z"
      refine ⟨b, ys, ps, rfl, .inl (.inl hy), hys, fun zs qs f pm hz pw hf => ?_⟩
      walk_at "z"
      refine r_tupL (.inl (.inl upd_same)) fun e he => ?_
      walk_at "z"
      refine r_tupN sz2 fun t ht => ?_
      have s4 := ((same_new (o := .lst zs) hf).trans (same_new (o := .tup zs) he)).trans (same_new (o := .tup [.int n, .ref e]) ht)
      refine q _ qs _ (hP'.mono s4) (g.trans (.of_same s4)) ⟨t, e, rfl, upd_same, zs, (upd_ne (ne_of_none upd_same ht)).trans upd_same, Prs.tk (.of_same s4) hz⟩ ⟨n0, lt_of_le_nodup pw (pm.nodup_iff.mpr nd), fun p hp => ?_⟩
      have := bd p (pm.mem_iff.mp hp)
      omega
end

set_option Elab.async false
set_option linter.all false
set_option maxRecDepth 100000
set_option maxHeartbeats 4000000
open PySem PySem.Spec PyProof.Rows L2

abbrev s_law_ordered_graph : Stmt := topS 39
theorem sc_law_ordered_graph : FnScope ["pool", "n", "u", "v", "above", "w", "pair"] ["pool", "n"] (defScope s_law_ordered_graph) := ⟨rfl, rfl, rfl, by decide +kernel, rfl, by decide +kernel, by decide +kernel⟩

/-- n rows of n truth values at b, unknown to H0 -/
def Mat (H0 H : Hp) (b : Addr) (n : Nat) : Prop := ∃ as : List Addr, H b = some (.lst (as.map V.ref)) ∧ as.length = n ∧ ∀ x ∈ as, x ≠ b ∧ H0 x = none ∧ ∃ bs : List Bool, H x = some (.lst (bs.map V.bl)) ∧ bs.length = n
/-- a place read -/
theorem Mat.at {H0 H : Hp} {b : Addr} {n i j : Nat} (M : Mat H0 H b n) (hi : i < n) (hj : j < n) : ∃ (rows : List V) (x : Addr) (row : List V) (c : Bool), H b = some (.lst rows) ∧ atI rows (i : Int) = some (.ref x) ∧ H x = some (.lst row) ∧ atI row (j : Int) = some (.bl c) := by
  obtain ⟨as, hb, hl, hx⟩ := M
  have hlt : i < as.length := by omega
  obtain ⟨_, _, bs, h1, h2⟩ := hx as[i] (List.getElem_mem hlt)
  refine ⟨_, as[i], _, bs[j]'(by omega), hb, atI_nat (by rw [List.getElem?_map, List.getElem?_eq_getElem hlt]; rfl), h1, atI_nat (by rw [List.getElem?_map, List.getElem?_eq_getElem (by omega)]; rfl)⟩
/-- a place written -/
theorem Mat.set {H0 H : Hp} {b x : Addr} {n i j : Nat} {rows row : List V} {c : Bool} (M : Mat H0 H b n) (hi : i < n) (hb : H b = some (.lst rows)) (hx : atI rows (i : Int) = some (.ref x)) (hr : H x = some (.lst row)) :
    row.length = n ∧ H0 x = none ∧ Mat H0 (upd H x (.lst (row.set j (.bl c)))) b n := by
  obtain ⟨as, hb2, hl, hall⟩ := M
  rw [hb2] at hb
  cases hb
  have hlt : i < as.length := by omega
  have e : as[i] = x := by
    rw [atI_nat (v := V.ref as[i]) (by rw [List.getElem?_map, List.getElem?_eq_getElem hlt]; rfl)] at hx
    injection (Option.some.inj hx)
  have hm : x ∈ as := by rw [← e]; exact List.getElem_mem hlt
  obtain ⟨n1, n2, bs, h1, h2⟩ := hall x hm
  rw [h1] at hr
  cases hr
  refine ⟨by rw [List.length_map]; exact h2, n2, as, (upd_ne (Ne.symm n1)).trans hb2, hl, fun y hy => ?_⟩
  obtain ⟨m1, m2, cs, k1, k2⟩ := hall y hy
  refine ⟨m1, m2, ?_⟩
  by_cases e2 : y = x
  · subst e2
    exact ⟨bs.set j c, by rw [List.map_set]; exact upd_same, by rw [List.length_set]; exact h2⟩
  · exact ⟨cs, (upd_ne e2).trans k1, k2⟩
section
variable {P : Program} {w : World} {K : PySem.W.Frag} {mg : Str → Option Value} {base : Heap}
def spOrdered : Sp := fun vs H Q _ => ∃ (a s : Addr) (n : Int), vs = [.ref a, .int n] ∧ Pool H a s ∧ 1 ≤ n ∧ n ≤ 60 ∧ GenQ a s H n Q
theorem ok_ordered (T : Blt mg) (D : DefAt K mg "_law_ordered_graph" s_law_ordered_graph ["pool", "n"]) (D_law_draw : DefAt K mg "_law_draw" s_law_draw ["pool", "many"]) (G_law_draw : FnOk P w K mg base CX0 2 D_law_draw.f D_law_draw.fd ["pool", "many"] spDraw)
    (D_law_pairs : DefAt K mg "_law_pairs" s_law_pairs ["n"]) (G_law_pairs : FnOk P w K mg base CX0 1 D_law_pairs.f D_law_pairs.fd ["n"] spPairs) :
    FnOk P w K mg base CX0 4 D.f D.fd ["pool", "n"] spOrdered := by
  refine D.F.ok sc_law_ordered_graph (fun vs H Q E h => ?_) (fun cdv A outer s H vs Q E hr h => ?_)
  · obtain ⟨a, s, n, rfl, _⟩ := h
    rfl
  · obtain ⟨a, s0, n, rfl, hP, n0, n1, q⟩ := h
    refine ⟨_, (pss_cons (ps_set (i := 4) sc_law_ordered_graph.nd rfl (Or.inr rfl) (pe_lc (own := [("u", 2)]) (by rfl) sc_law_ordered_graph.nd (pi_range1 (by rfl) T.range (pa_cons (pv 1) pa_nil)) (blkOk_by (own := [("u", 2)]) (N := ["pool", "n", "u", "v", "above", "w", "pair"]) (sc := (defScope s_law_ordered_graph)) (by decide +kernel)) (fun _ _ _ _ _ => (pg_name (i := 2) sc_law_ordered_graph.nd rfl (Or.inr rfl))) (fun _ _ _ _ _ => pts_nil) (fun _ _ _ _ _ => (pe_lc (own := [("v", 3)]) (by rfl) sc_law_ordered_graph.nd (pi_range1 (by rfl) T.range (pa_cons (pv 1) pa_nil)) (blkOk_by (own := [("v", 3)]) (N := ["pool", "n", "u", "v", "above", "w", "pair"]) (sc := ({ kind := .function, names := [(PySem.Str.ofString ".0", PySem.NameKind.local), (PySem.Str.ofString "u", PySem.NameKind.cell), (PySem.Str.ofString "range", PySem.NameKind.globalImplicit), (PySem.Str.ofString "n", PySem.NameKind.cell), (PySem.Str.ofString "pool", PySem.NameKind.cell)], isGenerator := false, isCoroutine := false, more := [] } : PySem.Scope)) (by decide +kernel)) (fun _ _ _ _ _ => (pg_name (i := 3) sc_law_ordered_graph.nd rfl (Or.inl rfl))) (fun _ _ _ _ _ => pts_nil) (fun _ _ _ _ _ => (pe_and (pe_cmpR op_lt (pv 2) (pv 3) (nomark _)) (pe_one (pe_cmpR op_eq (pe_call G_law_draw (hr.mono (by first | decide | omega)) (by rfl) D_law_draw.g D_law_draw.F.kp D_law_draw.b .nil pass0 (pa_cons (pv 0) (pa_cons pe_int pa_nil))) pe_int (nomark _)))))))))
      (pss_cons (ps_for PassesOwn.never (by rfl) (pi_range1 (by rfl) T.range (pa_cons (pv 1) pa_nil)) (pg_name (i := 5) sc_law_ordered_graph.nd rfl (Or.inl rfl))
        (pss_one (ps_for PassesOwn.never (by rfl) (pi_range1 (by rfl) T.range (pa_cons (pv 1) pa_nil)) (pg_name (i := 2) sc_law_ordered_graph.nd rfl (Or.inl rfl))
          (pss_one (ps_for PassesOwn.never (by rfl) (pi_range1 (by rfl) T.range (pa_cons (pv 1) pa_nil)) (pg_name (i := 3) sc_law_ordered_graph.nd rfl (Or.inl rfl))
            (pss_one (ps_asg (pe_or (pe_ix (ix_listK (K := K) rfl) (pe_ix (ix_listK (K := K) rfl) (pv 4) (pv 2) (fun _ _ => rfl)) (pv 3) (fun _ _ => rfl)) (pe_one (pe_and (pe_ix (ix_listK (K := K) rfl) (pe_ix (ix_listK (K := K) rfl) (pv 4) (pv 2) (fun _ _ => rfl)) (pv 5) (fun _ _ => rfl)) (pe_one (pe_ix (ix_listK (K := K) rfl) (pe_ix (ix_listK (K := K) rfl) (pv 4) (pv 5) (fun _ _ => rfl)) (pv 3) (fun _ _ => rfl)))))) (pg_sub (pe_ix (ix_listK (K := K) rfl) (pv 4) (pv 2) (fun _ _ => rfl)) (pv 3) set_list))))))))
      (pss_one (ps_ret (pe_tup (pa_cons (pv 1) (pa_cons (pe_callTy (call_tupleK (K := K) rfl) (by rfl) T.tuple (by decide +kernel) (pa_cons (pe_lc (own := [("pair", 6)]) (by rfl) sc_law_ordered_graph.nd (PI.listK (K := K) rfl (pi_list (pe_call G_law_pairs (hr.mono (by first | decide | omega)) (by rfl) D_law_pairs.g D_law_pairs.F.kp D_law_pairs.b .nil pass0 (pa_cons (pv 1) pa_nil)))) (blkOk_by (own := [("pair", 6)]) (N := ["pool", "n", "u", "v", "above", "w", "pair"]) (sc := (defScope s_law_ordered_graph)) (by decide +kernel)) (fun _ _ _ _ _ => (pg_name (i := 6) sc_law_ordered_graph.nd rfl (Or.inl rfl))) (fun _ _ _ _ _ => (pts_one (pt_val (pe_ix (ix_listK (K := K) rfl) (pe_ix (ix_listK (K := K) rfl) (pv 4) (pe_ix (ix_tupK (K := K) rfl) (pv 6) pe_int (fun _ _ => rfl)) (fun _ _ => rfl)) (pe_ix (ix_tupK (K := K) rfl) (pv 6) pe_int (fun _ _ => rfl)) (fun _ _ => rfl))))) (fun _ _ _ _ _ => (pv 6))) pa_nil)) pa_nil))))))), ?_⟩
    refine r_at (σ := [some _, some _, none, none, none, none, none]) rfl ?_
    walk_at "z"
    refine r_rg1 (by omega) fun d hd => lcR_range (fun i H' => Pool H' a s0 ∧ Gr a H H' ∧ ∃ as : List Addr, H' d = some (.lst (as.map V.ref)) ∧ as.length = i ∧ ∀ x ∈ as, x ≠ d ∧ H x = none ∧ ∃ bs : List Bool, H' x = some (.lst (bs.map V.bl)) ∧ bs.length = n.toNat)
      (by walk_at "zw") ⟨hP.mono (same_new hd), .new hd, [], upd_same, rfl, fun x hx => by cases hx⟩ ?_ ?_
    · rintro i H' hi ⟨hP', g, as, hds, hl, hall⟩
      have dne := new_ne hP hd
      walk_at "z"
      refine ⟨rfl, ?_⟩
      walk_at "z"
      -- the row
      refine r_rg1 (by omega) fun e he => lcR_range (fun j H2 => Pool H2 a s0 ∧ Gr a H' H2 ∧ ∃ bs : List Bool, H2 e = some (.lst (bs.map V.bl)) ∧ bs.length = j) (by walk_at "zw") ⟨hP'.mono (same_new he), .new he, [], upd_same, rfl⟩ ?_ ?_
      · rintro j H2 hj ⟨hP2, g2, bs, hbs, hlb⟩
        have ene := new_ne hP' he
        walk_at "z"
        refine ⟨rfl, ?_⟩
        walk_at "z"
        refine r_ite (fun h => ?_) (fun h => ?_)
        · walk_at "z"
          refine ⟨a, s0, 3, rfl, hP2, by omega, by omega, fun r H3 _ _ hP3 g3 => ?_⟩
          have hb3 := g3 _ _ ene.1 hbs
          walk_at "z"
          refine r_lce hb3 (small_lt (by rw [List.length_map]; omega)) ⟨hP3.upd ene, (g2.trans g3).mut he, bs ++ [_], by rw [List.map_append]; exact upd_same, by rw [List.length_append, hlb]; rfl⟩
        · walk_at "z"
          refine r_lce hbs (small_lt (by rw [List.length_map]; omega)) ⟨hP2.upd ene, g2.mut he, bs ++ [false], by rw [List.map_append]; exact upd_same, by rw [List.length_append, hlb]; rfl⟩
      · rintro H2 ⟨hP2, g2, bs, hbs, hlb⟩
        have ene := new_ne hP' he
        have hd2 := g2 _ _ dne.1 hds
        have ed : e ≠ d := (ne_of_none hds he).symm
        refine r_lce hd2 (small_lt (by rw [List.length_map]; omega)) ⟨hP2.upd dne, (g.trans g2).mut hd, as ++ [e], by rw [List.map_append]; exact upd_same, by rw [List.length_append, hl]; rfl, fun x hx => ?_⟩
        rcases List.mem_append.mp hx with z | z
        · obtain ⟨z1, z2, cs, z3, z4⟩ := hall x z
          exact ⟨z1, z2, cs, (upd_ne z1).trans (g2 _ _ (new_ne hP z2).1 z3), z4⟩
        · rw [List.mem_singleton.mp z]
          exact ⟨ed, g.free hP'.ne he, bs, (upd_ne ed).trans hbs, hlb⟩
    · rintro H1 ⟨hP1, g1, as, hds, hl, hall⟩
      have M1 : Mat H H1 d n.toNat := ⟨as, hds, hl, hall⟩
      walk_at "z"
      refine r_rg1 (by omega) (forR_range (fun k σ' H' => (∃ x2 x3 x5, σ' = [some (.ref a), some (.int n), x2, x3, some (.ref d), x5, none]) ∧ Pool H' a s0 ∧ Gr a H H' ∧ Mat H H' d n.toNat) ⟨⟨_, _, _, rfl⟩, hP1, g1, M1⟩ ?_ ?_)
      · rintro k σ' H' hk ⟨⟨x2, x3, x5, rfl⟩, hP', g, M⟩
        walk_at "z"
        refine r_rg1 (by omega) (forR_range (fun i σ' H' => (∃ x2 x3, σ' = [some (.ref a), some (.int n), x2, x3, some (.ref d), some (.int (0 + (k : Int))), none]) ∧ Pool H' a s0 ∧ Gr a H H' ∧ Mat H H' d n.toNat) ⟨⟨_, _, rfl⟩, hP', g, M⟩ ?_ ?_)
        · rintro i σ' H' hi ⟨⟨x2, x3, rfl⟩, hP', g, M⟩
          walk_at "z"
          refine r_rg1 (by omega) (forR_range (fun j σ' H' => (∃ x3, σ' = [some (.ref a), some (.int n), some (.int (0 + (i : Int))), x3, some (.ref d), some (.int (0 + (k : Int))), none]) ∧ Pool H' a s0 ∧ Gr a H H' ∧ Mat H H' d n.toNat) ⟨⟨_, rfl⟩, hP', g, M⟩ ?_ ?_)
          · rintro j σ' H' hj ⟨⟨x3, rfl⟩, hP', g, M⟩
            have e0 : ∀ z : Nat, (0 : Int) + (z : Int) = z := fun z => by omega
            obtain ⟨rows, x, row, c1, hb, hx, hr1, hc1⟩ := M.at hi hj
            obtain ⟨rows2, y, row2, c2, hb2, hx2, hr2, hc2⟩ := M.at hi hk
            obtain ⟨rows3, w3, row3, c3, hb3, hx3, hr3, hc3⟩ := M.at hk hj
            simp only [e0]
            rw [hb] at hb2 hb3
            cases hb2
            cases hb3
            rw [hx] at hx2
            cases hx2
            rw [hr1] at hr2
            cases hr2
            have fin : ∀ c : Bool, (∃ x3, [some (V.ref a), some (V.int n), some (V.int (i : Int)), some (V.int (j : Int)), some (V.ref d), some (V.int (k : Int)), none] = [some (V.ref a), some (V.int n), some (V.int (i : Int)), x3, some (V.ref d), some (V.int (k : Int)), none]) ∧ Pool (upd H' x (.lst (row.set j (.bl c)))) a s0 ∧ Gr a H (upd H' x (.lst (row.set j (.bl c)))) ∧ Mat H (upd H' x (.lst (row.set j (.bl c)))) d n.toNat := fun c => by
              obtain ⟨_, hn, M'⟩ := M.set (c := c) hi hb hx hr1 (j := j)
              exact ⟨⟨_, rfl⟩, hP'.upd (new_ne hP hn), g.mut hn, M'⟩
            have lr : j < row.length := by
              obtain ⟨h1, _, _⟩ := M.set (c := true) hi hb hx hr1 (j := j)
              omega
            walk_at "z"
            refine r_iteB (fun h => ?_) (fun h => ?_)
            · walk_at "z"
              refine r_setL hr1 (ixN_nat lr) ?_
              exact fin true
            · walk_at "z"
              refine r_iteB (fun h => ?_) (fun h => ?_)
              · walk_at "z"
                refine r_setL hr1 (ixN_nat lr) ?_
                exact fin c3
              · walk_at "z"
                refine r_setL hr1 (ixN_nat lr) ?_
                exact fin false
          · rintro σ' H' ⟨⟨x3, rfl⟩, hP', g, M⟩
            exact ⟨⟨_, _, rfl⟩, hP', g, M⟩
        · rintro σ' H' ⟨⟨x2, x3, rfl⟩, hP', g, M⟩
          exact ⟨⟨_, _, _, rfl⟩, hP', g, M⟩
      · rintro σ' H2 ⟨⟨x2, x3, x5, rfl⟩, hP2, g2, M⟩
        walk_at "z"
        obtain ⟨n', rfl⟩ : ∃ n' : Nat, n = (n' : Int) := ⟨n.toNat, by omega⟩
        refine ⟨n', rfl, by omega, fun f xs H4 hf s4 hx hp => ?_⟩
        have hP4 := hP2.mono s4
        have g5 : Gr a H H4 := g2.trans (.of_same s4)
        have M4 : Mat H H4 d n' := by
          obtain ⟨as, h1, h2, h3⟩ := M
          exact ⟨as, s4 _ _ h1, h2, fun y hy => by
            obtain ⟨z1, z2, cs, z3, z4⟩ := h3 y hy
            exact ⟨z1, z2, cs, s4 _ _ z3, z4⟩⟩
        refine r_il (.inl (.inl hx)) fun e he => lcR_list (xs := xs) (fun i H' => Same H4 H' ∧ ∃ ys c, H' e = some (.lst ys) ∧ Prs H' ys (((allP n').take i).filter c)) (by walk_at "zw") ⟨same_new he, [], fun _ => true, upd_same, .nil⟩ (fun i H' _ ⟨s5, _⟩ => .inl (.inl (s5 _ _ hx))) ?_ ?_
        · rintro i x H' hxi ⟨s5, ys, c, hy, hys⟩
          obtain ⟨p, hpi, hxp⟩ := pd_get (Prs.tk (.of_same s5) hp) hxi
          obtain ⟨b1, b2, b3⟩ := mem_allP.mp (List.mem_of_getElem? hpi)
          obtain ⟨t, rfl, ht⟩ := id hxp
          obtain ⟨i1, hi1⟩ : ∃ i1 : Nat, p.1 = (i1 : Int) := ⟨p.1.toNat, by omega⟩
          obtain ⟨j1, hj1⟩ : ∃ j1 : Nat, p.2 = (j1 : Int) := ⟨p.2.toNat, by omega⟩
          obtain ⟨rows, y, row, c1, hb, hx1, hr1, hc1⟩ := M4.at (i := i1) (j := j1) (by omega) (by omega)
          walk_at "z"
          refine ⟨rfl, ?_⟩
          walk_at "z"
          rw [hi1]
          refine r_ixL (.inl (.inl (s5 _ _ hb))) hx1 ?_
          walk_at "z"
          rw [hj1]
          refine r_ixL (.inl (.inl (s5 _ _ hr1))) hc1 ?_
          walk_at "z"
          obtain ⟨c', ec⟩ := flt_next hpi c c1
          refine r_iteB (fun h => ?_) (fun h => ?_)
          · walk_at "z"
            refine r_lce hy (small_lt (by rw [hys.length]; exact flt_small (by omega) c)) ⟨same_mut s5 he, _, c', upd_same, ?_⟩
            rw [ec, if_pos h]
            exact (Prs.tk (.lst hy) hys).snoc (hxp.tk (.lst hy))
          · refine ⟨s5, ys, c', hy, ?_⟩
            rw [ec, if_neg (by rw [h]; exact Bool.false_ne_true), List.append_nil]
            exact hys
        · rintro H' ⟨s5, ys, c, hy, hys⟩
          rw [hp.length, List.take_length] at hys
          walk_at "z"
          refine r_tupL (.inl (.inl hy)) fun e2 he2 => ?_
          walk_at "z"
          refine r_tupN sz2 fun t ht => ?_
          have s6 : Same H' (upd H' e2 (.tup ys)) := same_new he2
          have s7 := s6.trans (same_new (o := .tup [.int (n' : Int), .ref e2]) ht)
          exact q _ _ _ (((hP4.mono s5)).mono s7) ((g5.trans (.of_same s5)).trans (.of_same s7)) ⟨t, e2, rfl, upd_same, ys, (upd_ne (ne_of_none upd_same ht)).trans upd_same, Prs.tk (.of_same s7) hys⟩ (good_filter (by omega) c)
end

set_option Elab.async false
set_option linter.all false
set_option maxRecDepth 100000
set_option maxHeartbeats 4000000
open PySem PySem.Spec PyProof.Rows L2

abbrev s_law_drawn_tree : Stmt := topS 41
theorem sc_law_drawn_tree : FnScope ["pool", "leaves", "trees", "k", "many", "parts", "j"] ["pool", "leaves"] (defScope s_law_drawn_tree) := ⟨rfl, rfl, rfl, by decide +kernel, rfl, by decide +kernel, by decide +kernel⟩

abbrev s_law_leaves : Stmt := topS 42
theorem sc_law_leaves : FnScope ["tree", "found", "part"] ["tree"] (defScope s_law_leaves) := ⟨rfl, rfl, rfl, by decide +kernel, rfl, by decide +kernel, by decide +kernel⟩

abbrev s_law_tree_pairs : Stmt := topS 43
theorem sc_law_tree_pairs : FnScope ["tree", "found", "before", "part", "leaves", "u", "v"] ["tree"] (defScope s_law_tree_pairs) := ⟨rfl, rfl, rfl, by decide +kernel, rfl, by decide +kernel, by decide +kernel⟩

/-! ## trees -/
inductive Tr where
  | leaf (z : Int)
  | node (w : Bool) (ts : List Tr)
def wd (w : Bool) : PySem.Str := if w then "join" else "union"
mutual
def lv : Tr → List Int
  | .leaf z => [z]
  | .node _ ts => lvs ts
def lvs : List Tr → List Int
  | [] => []
  | t :: ts => lv t ++ lvs ts
end
mutual
def dp : Tr → Nat
  | .leaf _ => 0
  | .node _ ts => dps ts + 1
def dps : List Tr → Nat
  | [] => 0
  | t :: ts => max (dp t) (dps ts)
end
mutual
/-- every node has two trees or more -/
def wf : Tr → Prop
  | .leaf _ => True
  | .node _ ts => 2 ≤ ts.length ∧ wfs ts
def wfs : List Tr → Prop
  | [] => True
  | t :: ts => wf t ∧ wfs ts
end
mutual
inductive TreeAt (H : Hp) : V → Tr → Prop
  | leaf (z : Int) : TreeAt H (.int z) (.leaf z)
  | node {a : Addr} {xs : List V} {ts : List Tr} (w : Bool) (h : H a = some (.tup (.str (wd w) :: xs))) (t : TreesAt H xs ts) : TreeAt H (.ref a) (.node w ts)
inductive TreesAt (H : Hp) : List V → List Tr → Prop
  | nil : TreesAt H [] []
  | cons {x : V} {xs : List V} {t : Tr} {ts : List Tr} (h : TreeAt H x t) (r : TreesAt H xs ts) : TreesAt H (x :: xs) (t :: ts)
end
mutual
theorem TreeAt.tk {H H' : Hp} (k : TK H H') : ∀ (t : Tr) {v : V}, TreeAt H v t → TreeAt H' v t
  | .leaf _, _, .leaf z => .leaf z
  | .node _ ts, _, .node w h t => .node w (k _ _ h) (TreesAt.tk k ts t)
theorem TreesAt.tk {H H' : Hp} (k : TK H H') : ∀ (ts : List Tr) {vs : List V}, TreesAt H vs ts → TreesAt H' vs ts
  | [], _, .nil => .nil
  | t :: ts, _, .cons h r => .cons (TreeAt.tk k t h) (TreesAt.tk k ts r)
end
theorem TreesAt.pd {H : Hp} : ∀ (ts : List Tr) {vs : List V}, TreesAt H vs ts → Paired (TreeAt H) vs ts
  | [], _, .nil => .nil
  | _ :: ts, _, .cons h r => .cons h (TreesAt.pd ts r)
theorem TreesAt.of {H : Hp} : ∀ {ts : List Tr} {vs : List V}, Paired (TreeAt H) vs ts → TreesAt H vs ts
  | _, _, .nil => .nil
  | _, _, .cons h r => .cons h (TreesAt.of r)
theorem lvs_append : ∀ (ts us : List Tr), lvs (ts ++ us) = lvs ts ++ lvs us
  | [], us => by simp [lvs]
  | t :: ts, us => by simp only [List.cons_append, lvs, lvs_append ts us, List.append_assoc]
theorem wfs_mem : ∀ {ts : List Tr}, wfs ts ↔ ∀ t ∈ ts, wf t
  | [] => by simp [wfs]
  | t :: ts => by simp [wfs, wfs_mem (ts := ts)]
theorem lvs_perm {ts us : List Tr} (h : ts.Perm us) : (lvs ts).Perm (lvs us) := by
  induction h with
  | nil => exact .refl _
  | cons x _ ih => simp only [lvs]; exact ih.append_left _
  | swap x y l =>
    simp only [lvs, ← List.append_assoc]
    exact List.perm_append_comm.append_right _
  | trans _ _ h1 h2 => exact h1.trans h2
mutual
/-- depth and leaves -/
theorem dp_lv : ∀ (t : Tr), wf t → dp t + 1 ≤ (lv t).length
  | .leaf _, _ => by simp [dp, lv]
  | .node _ ts, h => by
    simp only [wf] at h
    have := dps_lvs ts h.2
    simp only [dp, lv]
    omega
theorem dps_lvs : ∀ (ts : List Tr), wfs ts → dps ts + ts.length ≤ (lvs ts).length
  | [], _ => by simp [dps, lvs]
  | t :: ts, h => by
    simp only [wfs] at h
    have h1 := dp_lv t h.1
    have h2 := dps_lvs ts h.2
    simp only [dps, lvs, List.length_append, List.length_cons]
    omega
end
theorem dps_mem : ∀ {ts : List Tr} {t : Tr}, t ∈ ts → dp t ≤ dps ts
  | [], _, h => by cases h
  | u :: ts, t, h => by
    simp only [dps]
    rcases List.mem_cons.mp h with e | e
    · rw [e]
      omega
    · have := dps_mem e
      omega
section
variable {P : Program} {w : World} {K : PySem.W.Frag} {mg : Str → Option Value} {base : Heap}
theorem r_isiInt {H : Hp} {Q : VK} {i : Int} (q : Q (.bl false) H) : rIsi K [.int i, .ty "tuple"] H Q := ⟨.int i, .ty "tuple", .type "int", .type "tuple", false, rfl, .ty _, .base (.int i), kit_ty (by decide +kernel), q⟩
theorem r_isiTup {H : Hp} {Q : VK} {a : Addr} {xs : List V} (h : H a = some (.tup xs)) (q : Q (.bl true) H) : rIsi K [.ref a, .ty "tuple"] H Q := ⟨.ref a, .ty "tuple", .type "tuple", .type "tuple", true, rfl, .ty _, .base (.tup h), kit_ty (by decide +kernel), q⟩
theorem cut_tail (x : V) (xs : List V) : cutV (x :: xs) (some 1) none = xs := by
  unfold cutV
  have e : HT.sIx (x :: xs).length 0 (some 1) = 1 := by
    rw [show (1 : Int) = ((1 : Nat) : Int) from rfl, HT.sIx_nat]
    simp only [List.length_cons]
    omega
  rw [e, HT.sIx_none]
  simp only [List.drop_succ_cons, List.drop_zero, List.length_cons, Nat.add_sub_cancel]
  exact List.take_length
/-- t[1:] -/
theorem r_tail {H : Hp} {Q : VK} {a : Addr} {x : V} {xs : List V} (h : H a = some (.tup (x :: xs))) (q : ∀ p, H p = none → Q (.ref p) (upd H p (.tup xs))) : rSlT K (.ref a) (some 1) none H Q := by
  refine ⟨a, x :: xs, rfl, .inl (.inl h), fun z => ?_, fun p hp => by rw [cut_tail]; exact q p hp⟩
  have e : HT.sIx (x :: xs).length 0 (some 1) = 1 := by
    rw [show (1 : Int) = ((1 : Nat) : Int) from rfl, HT.sIx_nat]
    simp only [List.length_cons]
    omega
  rw [e] at z
  exact absurd z.1 (by decide)
/-- the leaves from the left -/
def spLeaves (d : Nat) : Sp := fun vs H Q _ => ∃ (v : V) (t : Tr), vs = [v] ∧ TreeAt H v t ∧ dp t < d ∧ (lv t).length ≤ 100 ∧ ∀ (l : Addr) (H' : Hp), Same H H' → H' l = some (.lst ((lv t).map V.int)) → Q (.ref l) H'
theorem ok_leaves (T : Blt mg) (D_law_leaves : DefAt K mg "_law_leaves" s_law_leaves ["tree"]) : ∀ d : Nat, FnOk P w K mg base CX0 d D_law_leaves.f D_law_leaves.fd ["tree"] (spLeaves d)
  | 0 => fn_none.imp fun vs H Q E h => by
    obtain ⟨_, _, _, _, h, _⟩ := h
    omega
  | d + 1 => by
    have G_law_leaves := ok_leaves T D_law_leaves d
    refine D_law_leaves.F.ok sc_law_leaves (fun vs H Q E h => ?_) (fun cdv A outer s H vs Q E hr h => ?_)
    · obtain ⟨v, t, rfl, _⟩ := h
      rfl
    · obtain ⟨v, t, rfl, ht, hd, hl, q⟩ := h
      refine ⟨_, (pss_cons (ps_if (pt_not (pt_val (pe_callB (call_isiK (K := K) rfl) (by rfl) T.isinstance (by decide +kernel) (pa_cons (pv 0) (pa_cons (pe_bltn (v := .ty "tuple") (u := .type "tuple") (by rfl) T.tuple (by decide +kernel) rfl) pa_nil)))))
        (pss_one (ps_ret (pe_lst (pa_cons (pv 0) pa_nil))))
        pss_nil)
      (pss_cons (ps_set (i := 1) sc_law_leaves.nd rfl (Or.inl rfl) (pe_lst pa_nil))
      (pss_cons (ps_for PassesOwn.never (by rfl) (PI.tupK (K := K) rfl (pi_tup (pe_slice (sl_tupK (K := K) rfl) (pv 0) (po_some pe_int) po_none))) (pg_name (i := 2) sc_law_leaves.nd rfl (Or.inl rfl))
        (pss_one (ps_set (i := 1) sc_law_leaves.nd rfl (Or.inl rfl) (pe_op op_cat (pv 1) (pe_call G_law_leaves (hr.mono (by first | decide | omega)) (by rfl) D_law_leaves.g D_law_leaves.F.kp D_law_leaves.b .nil pass0 (pa_cons (pv 2) pa_nil))))))
      (pss_one (ps_ret (pv 1)))))), ?_⟩
      refine r_at (σ := [some _, none, none]) rfl ?_
      cases ht with
      | leaf z =>
        walk_at "z"
        refine r_isiInt ?_
        walk_at "z"
        refine iteT ?_
        walk_at "z"
        refine r_lstN sz1 fun l hl => ?_
        exact q l _ (same_new hl) upd_same
      | @node a xs ts w0 ha hts =>
        walk_at "z"
        refine r_isiTup ha ?_
        walk_at "z"
        refine iteF ?_
        walk_at "z"
        refine r_lstN (by decide) fun f hf => ?_
        walk_at "z"
        have ha1 : (upd H f (.lst [])) a = some (.tup (.str (wd w0) :: xs)) := same_new hf _ _ ha
        refine r_tail ha1 fun p hp => ?_
        have fp : f ≠ p := ne_of_none upd_same hp
        have sp : Same H (upd (upd H f (.lst [])) p (.tup xs)) := (same_new hf).trans (same_new hp)
        have pr := hts.pd
        refine r_it (.inl (.inl upd_same)) (forR_tup (xs := xs) (fun i σ' H' => (∃ b x2, σ' = [some (.ref a), some (.ref b), x2] ∧ H' b = some (.lst ((lvs (ts.take i)).map V.int))) ∧ Same H H' ∧ H' p = some (.tup xs)) ⟨⟨f, _, rfl, (upd_ne fp).trans upd_same⟩, sp, upd_same⟩ (fun i σ' H' _ ⟨_, _, h⟩ => .inl (.inl h)) ?_ ?_)
        · rintro i x σ' H' hx ⟨⟨b, x2, rfl, hb⟩, sm, hp'⟩
          obtain ⟨t, hti, hxt⟩ := pd_get pr hx
          have hm := List.mem_of_getElem? hti
          have h1 : dp t < d := by
            have := dps_mem hm
            simp only [dp] at hd
            omega
          have e1 : ts.take (i + 1) = ts.take i ++ [t] := take_next hti
          have e2 : lvs (ts.take (i + 1)) = lvs (ts.take i) ++ lv t := by
            rw [e1, lvs_append]
            simp [lvs]
          have le : (lvs (ts.take i)).length + (lv t).length ≤ 100 := by
            have e3 : lvs ts = lvs (ts.take (i + 1)) ++ lvs (ts.drop (i + 1)) := by rw [← lvs_append, List.take_append_drop]
            have e4 := congrArg List.length e3
            rw [e2] at e4
            simp only [List.length_append] at e4
            simp only [lv] at hl
            omega
          walk_at "z"
          refine ⟨x, t, rfl, hxt.tk (.of_same sm), h1, by omega, fun l H2 s2 hll => ?_⟩
          walk_at "z"
          refine r_cat (s2 _ _ hb) hll (by simp only [List.length_map]; omega) fun c hc => ?_
          walk_at "z"
          refine ⟨⟨c, _, rfl, ?_⟩, (sm.trans s2).trans (same_new hc), same_new hc _ _ (s2 _ _ hp')⟩
          rw [e2, List.map_append]
          exact upd_same
        · rintro σ' H' ⟨⟨b, x2, rfl, hb⟩, sm, hp'⟩
          walk_at "z"
          rw [pr.length, List.take_length] at hb
          exact q b H' sm hb
/-- the pairs that a join joins -/
def spTreePairs (d : Nat) : Sp := fun vs H Q _ => ∃ (v : V) (t : Tr), vs = [v] ∧ TreeAt H v t ∧ dp t < d ∧ (lv t).length ≤ 60 ∧ (lv t).Nodup ∧ ∀ (l : Addr) (xs : List V) (ps : List (Int × Int)) (H' : Hp), Same H H' → H' l = some (.lst xs) → Prs H' xs ps →
  (∀ p ∈ ps, p.1 ∈ lv t ∧ p.2 ∈ lv t ∧ p.1 ≠ p.2) → ps.length ≤ (lv t).length * (lv t).length → Q (.ref l) H'
theorem r_eqJoin {H : Hp} {Q : VK} {w0 : Bool} (q : Q (.bl w0) H) : rEq (.str (wd w0)) (.str "join") H Q := by
  refine ⟨rfl, ?_⟩
  cases w0 with
  | true => exact q
  | false => exact q
theorem ok_tree_pairs (T : Blt mg) (D_law_tree_pairs : DefAt K mg "_law_tree_pairs" s_law_tree_pairs ["tree"]) (D_law_leaves : DefAt K mg "_law_leaves" s_law_leaves ["tree"]) : ∀ d : Nat, FnOk P w K mg base CX0 (d + 1) D_law_tree_pairs.f D_law_tree_pairs.fd ["tree"] (spTreePairs d)
  | 0 => fn_none.imp fun vs H Q E h => by
    obtain ⟨_, _, _, _, h, _⟩ := h
    omega
  | d + 1 => by
    have G_law_tree_pairs := ok_tree_pairs T D_law_tree_pairs D_law_leaves d
    have G_law_leaves : FnOk P w K mg base CX0 d D_law_leaves.f D_law_leaves.fd ["tree"] (spLeaves d) := ok_leaves T D_law_leaves d
    refine D_law_tree_pairs.F.ok sc_law_tree_pairs (fun vs H Q E h => ?_) (fun cdv A outer s H vs Q E hr h => ?_)
    · obtain ⟨v, t, rfl, _⟩ := h
      rfl
    · obtain ⟨v, t, rfl, ht, hd, hl, nd, q⟩ := h
      refine ⟨_, (pss_cons (ps_if (pt_not (pt_val (pe_callB (call_isiK (K := K) rfl) (by rfl) T.isinstance (by decide +kernel) (pa_cons (pv 0) (pa_cons (pe_bltn (v := .ty "tuple") (u := .type "tuple") (by rfl) T.tuple (by decide +kernel) rfl) pa_nil)))))
        (pss_one (ps_ret (pe_lst pa_nil)))
        pss_nil)
      (pss_cons (ps_set (i := 1) sc_law_tree_pairs.nd rfl (Or.inl rfl) (pe_lst pa_nil))
      (pss_cons (ps_set (i := 2) sc_law_tree_pairs.nd rfl (Or.inl rfl) (pe_lst pa_nil))
      (pss_cons (ps_for PassesOwn.never (by rfl) (PI.tupK (K := K) rfl (pi_tup (pe_slice (sl_tupK (K := K) rfl) (pv 0) (po_some pe_int) po_none))) (pg_name (i := 3) sc_law_tree_pairs.nd rfl (Or.inl rfl))
        (pss_cons (ps_set (i := 1) sc_law_tree_pairs.nd rfl (Or.inl rfl) (pe_op op_cat (pv 1) (pe_call G_law_tree_pairs (hr.mono (by first | decide | omega)) (by rfl) D_law_tree_pairs.g D_law_tree_pairs.F.kp D_law_tree_pairs.b .nil pass0 (pa_cons (pv 3) pa_nil))))
        (pss_cons (ps_set (i := 4) sc_law_tree_pairs.nd rfl (Or.inl rfl) (pe_call G_law_leaves (hr.mono (by first | decide | omega)) (by rfl) D_law_leaves.g D_law_leaves.F.kp D_law_leaves.b .nil pass0 (pa_cons (pv 3) pa_nil)))
        (pss_cons (ps_if (pt_cmpR op_eq (pe_ix (ix_tupK (K := K) rfl) (pv 0) pe_int (fun _ _ => rfl)) pe_str (nomark _))
          (pss_one (ps_for PassesOwn.never (by rfl) (PI.listK (K := K) rfl (pi_list (pv 2))) (pg_name (i := 5) sc_law_tree_pairs.nd rfl (Or.inr rfl))
            (pss_one (ps_set (i := 1) sc_law_tree_pairs.nd rfl (Or.inl rfl) (pe_op op_cat (pv 1) (pe_lc (own := [("v", 6)]) (by rfl) sc_law_tree_pairs.nd (PI.listK (K := K) rfl (pi_list (pv 4))) (blkOk_by (own := [("v", 6)]) (N := ["tree", "found", "before", "part", "leaves", "u", "v"]) (sc := (defScope s_law_tree_pairs)) (by decide +kernel)) (fun _ _ _ _ _ => (pg_name (i := 6) sc_law_tree_pairs.nd rfl (Or.inl rfl))) (fun _ _ _ _ _ => pts_nil) (fun _ _ _ _ _ => (pe_tup (pa_cons (pe_callB (call_min2' rfl) (by rfl) T.min (by decide +kernel) (pa_cons (pv 5) (pa_cons (pv 6) pa_nil))) (pa_cons (pe_callB (call_max2' rfl) (by rfl) T.max (by decide +kernel) (pa_cons (pv 5) (pa_cons (pv 6) pa_nil))) pa_nil))))))))))
          pss_nil)
        (pss_one (ps_set (i := 2) sc_law_tree_pairs.nd rfl (Or.inl rfl) (pe_op op_cat (pv 2) (pv 4))))))))
      (pss_one (ps_ret (pv 1))))))), ?_⟩
      refine r_at (σ := [some _, none, none, none, none, none, none]) rfl ?_
      cases ht with
      | leaf z =>
        walk_at "z"
        refine r_isiInt ?_
        walk_at "z"
        refine iteT ?_
        walk_at "z"
        refine r_lstN (by decide) fun l hl => ?_
        exact q l [] [] _ (same_new hl) upd_same .nil (fun p hp => by cases hp) (Nat.zero_le _)
      | @node a xs ts w0 ha hts =>
        walk_at "z"
        refine r_isiTup ha ?_
        walk_at "z"
        refine iteF ?_
        walk_at "z"
        refine r_lstN (by decide) fun f hf => ?_
        walk_at "z"
        refine r_lstN (by decide) fun b0 hb0 => ?_
        have sb := (same_new (o := .lst []) hf).trans (same_new (o := .lst []) hb0)
        have ha1 := sb _ _ ha
        have fb : f ≠ b0 := ne_of_none upd_same hb0
        walk_at "z"
        refine r_tail ha1 fun p hp => ?_
        have sp := sb.trans (same_new (o := .tup xs) hp)
        have bp : b0 ≠ p := ne_of_none upd_same hp
        have fp : f ≠ p := ne_of_none ((upd_ne fb).trans upd_same) hp
        have pr := hts.pd
        simp only [lv] at hl nd q
        refine r_it (.inl (.inl upd_same)) (forR_tup (xs := xs) (fun i σ' H' => (∃ f b x3 x4 x5, σ' = [some (.ref a), some (.ref f), some (.ref b), x3, x4, x5, none] ∧ H' b = some (.lst ((lvs (ts.take i)).map V.int)) ∧ ∃ ys ps, H' f = some (.lst ys) ∧ Prs H' ys ps ∧ (∀ p ∈ ps, p.1 ∈ lvs (ts.take i) ∧ p.2 ∈ lvs (ts.take i) ∧ p.1 ≠ p.2) ∧ ps.length ≤ (lvs (ts.take i)).length * (lvs (ts.take i)).length) ∧ Same H H' ∧ H' p = some (.tup xs))
          ⟨⟨f, b0, _, _, _, rfl, (upd_ne bp).trans upd_same, [], [], (upd_ne fp).trans ((upd_ne fb).trans upd_same), .nil, (fun p hp => by cases hp), Nat.zero_le _⟩, sp, upd_same⟩ (fun i σ' H' _ ⟨_, _, h⟩ => .inl (.inl h)) ?_ ?_)
        · rintro i x σ' H' hx ⟨⟨f, b, x3, x4, x5, rfl, hb, ys, ps, hy, hys, mem, len⟩, sm, hp'⟩
          obtain ⟨t, hti, hxt⟩ := pd_get pr hx
          have hm := List.mem_of_getElem? hti
          have h1 : dp t < d := by
            have := dps_mem hm
            simp only [dp] at hd
            omega
          have e1 : ts.take (i + 1) = ts.take i ++ [t] := take_next hti
          have e2 : lvs (ts.take (i + 1)) = lvs (ts.take i) ++ lv t := by
            rw [e1, lvs_append]
            simp [lvs]
          have e3 : lvs ts = lvs (ts.take i) ++ lv t ++ lvs (ts.drop (i + 1)) := by rw [← e2, ← lvs_append, List.take_append_drop]
          have le : (lvs (ts.take i)).length + (lv t).length ≤ 60 := by
            have e4 := congrArg List.length e3
            simp only [List.length_append] at e4
            omega
          rw [e3] at nd
          obtain ⟨nd1, _, _⟩ := List.nodup_append.mp nd
          obtain ⟨_, ndt, dis⟩ := List.nodup_append.mp nd1
          walk_at "z"
          refine ⟨x, t, rfl, hxt.tk (.of_same sm), h1, by omega, ndt, fun l zs rs H2 s2 hz hzs memr lenr => ?_⟩
          walk_at "z"
          have hy2 := s2 _ _ hy
          have hb2 := s2 _ _ hb
          have lps : ps.length ≤ 60 * 60 := Nat.le_trans len (Nat.mul_le_mul (by omega) (by omega))
          have lrs : rs.length ≤ 60 * 60 := Nat.le_trans lenr (Nat.mul_le_mul (by omega) (by omega))
          refine r_cat hy2 hz (by rw [hys.length, hzs.length]; omega) fun c hc => ?_
          have s3 : Same H2 (upd H2 c (.lst (ys ++ zs))) := same_new hc
          have sm2 := sm.trans s2
          have sm3 := sm2.trans s3
          have prc := pd_append (Prs.tk (.of_same (s2.trans s3)) hys) (Prs.tk (.of_same s3) hzs)
          walk_at "z"
          refine ⟨x, t, rfl, hxt.tk (.of_same sm3), h1, by omega, fun l3 H3 s4 hl4 => ?_⟩
          have sm4 := sm3.trans s4
          have ha4 := sm4 _ _ ha
          have hb4 := s4 _ _ (s3 _ _ hb2)
          have hc4 : H3 c = some (.lst (ys ++ zs)) := s4 _ _ upd_same
          have hp4 := s4 _ _ (s3 _ _ (s2 _ _ hp'))
          have prc4 := Prs.tk (.of_same s4) prc
          have memB : ∀ z ∈ lvs (ts.take i), z ∈ lvs (ts.take (i + 1)) := fun z hz => by rw [e2]; exact List.mem_append_left _ hz
          have memL : ∀ z ∈ lv t, z ∈ lvs (ts.take (i + 1)) := fun z hz => by rw [e2]; exact List.mem_append_right _ hz
          have memc : ∀ p ∈ ps ++ rs, p.1 ∈ lvs (ts.take (i + 1)) ∧ p.2 ∈ lvs (ts.take (i + 1)) ∧ p.1 ≠ p.2 := fun p hp => by
            rcases List.mem_append.mp hp with z | z
            · obtain ⟨m1, m2, m3⟩ := mem p z
              exact ⟨memB _ m1, memB _ m2, m3⟩
            · obtain ⟨m1, m2, m3⟩ := memr p z
              exact ⟨memL _ m1, memL _ m2, m3⟩
          have sq : (lvs (ts.take (i + 1))).length * (lvs (ts.take (i + 1))).length = (lvs (ts.take i)).length * (lvs (ts.take i)).length + (lv t).length * (lv t).length + 2 * ((lvs (ts.take i)).length * (lv t).length) := by
            rw [e2, List.length_append, Nat.add_mul, Nat.mul_add, Nat.mul_add, Nat.mul_comm (lv t).length (lvs (ts.take i)).length]
            omega
          have bnd : (lvs (ts.take i)).length * (lv t).length ≤ 60 * 60 := Nat.mul_le_mul (by omega) (by omega)
          walk_at "z"
          refine r_eqJoin ?_
          walk_at "z"
          refine r_iteB (fun hw => ?_) (fun hw => ?_)
          · walk_at "z"
            refine r_il (.inl (.inl hb4)) (forR_list (xs := (lvs (ts.take i)).map V.int) (fun j σ' H' => (∃ f x5, σ' = [some (.ref a), some (.ref f), some (.ref b), some x, some (.ref l3), x5, none] ∧ ∃ ys ps, H' f = some (.lst ys) ∧ Prs H' ys ps ∧ (∀ p ∈ ps, p.1 ∈ lvs (ts.take (i + 1)) ∧ p.2 ∈ lvs (ts.take (i + 1)) ∧ p.1 ≠ p.2) ∧ ps.length ≤ (lvs (ts.take i)).length * (lvs (ts.take i)).length + (lv t).length * (lv t).length + j * (lv t).length) ∧ Same H3 H')
              ⟨⟨c, _, rfl, _, _, hc4, prc4, memc, by rw [List.length_append]; omega⟩, .refl _⟩ (fun j σ' H' _ ⟨_, s5⟩ => .inl (.inl (s5 _ _ hb4))) ?_ ?_)
            · rintro j u0 σ' H' hu ⟨⟨f, x5, rfl, ys, ps, hy, hys, mem2, len2⟩, s5⟩
              rw [List.getElem?_map] at hu
              obtain ⟨u, hu2, rfl⟩ := Option.map_eq_some_iff.mp hu
              have uB := List.mem_of_getElem? hu2
              have jl : j < (lvs (ts.take i)).length := (List.getElem?_eq_some_iff.mp hu2).1
              have jb : j * (lv t).length ≤ 60 * 60 := Nat.mul_le_mul (by omega) (by omega)
              have bb : (lvs (ts.take i)).length * (lvs (ts.take i)).length ≤ 60 * 60 := Nat.mul_le_mul (by omega) (by omega)
              have ll : (lv t).length * (lv t).length ≤ 60 * 60 := Nat.mul_le_mul (by omega) (by omega)
              walk_at "z"
              refine r_il (.inl (.inl (s5 _ _ hl4))) fun e he => lcR_list (xs := (lv t).map V.int) (fun k H6 => Same H' H6 ∧ ∃ zs, H6 e = some (.lst zs) ∧ Prs H6 zs (((lv t).take k).map fun v => (min u v, max u v))) (by walk_at "zw") ⟨same_new he, [], upd_same, .nil⟩ (fun k H6 _ ⟨s6, _⟩ => .inl (.inl (s6 _ _ (s5 _ _ hl4)))) ?_ ?_
              · rintro k v0 H6 hv ⟨s6, zs, hz, hzs⟩
                rw [List.getElem?_map] at hv
                obtain ⟨v, hv2, rfl⟩ := Option.map_eq_some_iff.mp hv
                walk_at "z"
                refine ⟨rfl, ?_⟩
                walk_at "z"
                refine r_tupN sz2 fun t2 ht2 => ?_
                refine r_lce (by walk_at "zh") (small_lt ?_) ⟨same_mut (s6.trans (same_new ht2)) he, _, upd_same, ?_⟩
                · rw [hzs.length, List.length_map, List.length_take]
                  omega
                · rw [take_next hv2, List.map_append]
                  exact prs_push hz hzs ht2
              · rintro H6 ⟨s6, zs, hz, hzs⟩
                rw [List.length_map, List.take_length] at hzs
                refine r_cat (s6 _ _ hy) hz (by rw [hys.length, hzs.length, List.length_map]; omega) fun g hg => ?_
                walk_at "z"
                refine ⟨⟨g, _, rfl, _, _, upd_same, Prs.tk (.new hg) (pd_append (Prs.tk (.of_same s6) hys) hzs), fun p hp => ?_, ?_⟩, (s5.trans s6).trans (same_new hg)⟩
                · rcases List.mem_append.mp hp with z | z
                  · exact mem2 p z
                  · obtain ⟨v, hv, rfl⟩ := List.mem_map.mp z
                    have ne := dis u uB v hv
                    have mu := memB u uB
                    have mv := memL v hv
                    rcases Int.lt_or_lt_of_ne ne with q1 | q1
                    · rw [Int.min_eq_left (Int.le_of_lt q1), Int.max_eq_right (Int.le_of_lt q1)]
                      exact ⟨mu, mv, ne⟩
                    · rw [Int.min_eq_right (Int.le_of_lt q1), Int.max_eq_left (Int.le_of_lt q1)]
                      exact ⟨mv, mu, ne.symm⟩
                · rw [List.length_append, List.length_map, Nat.succ_mul]
                  omega
            · rintro σ' H' ⟨⟨f, x5, rfl, ys, ps, hy, hys, mem2, len2⟩, s5⟩
              walk_at "z"
              rw [List.length_map] at len2
              refine r_cat (s5 _ _ hb4) (s5 _ _ hl4) (by simp only [List.length_map]; omega) fun g hg => ?_
              walk_at "z"
              refine ⟨⟨f, g, _, _, _, rfl, ?_, ys, ps, same_new hg _ _ hy, Prs.tk (.new hg) hys, mem2, ?_⟩, (sm4.trans s5).trans (same_new hg), same_new hg _ _ (s5 _ _ hp4)⟩
              · rw [e2, List.map_append]
                exact upd_same
              · rw [sq]
                omega
          · walk_at "z"
            refine r_cat hb4 hl4 (by simp only [List.length_map]; omega) fun g hg => ?_
            walk_at "z"
            refine ⟨⟨c, g, _, _, _, rfl, ?_, _, _, same_new hg _ _ hc4, Prs.tk (.new hg) prc4, memc, ?_⟩, sm4.trans (same_new hg), same_new hg _ _ hp4⟩
            · rw [e2, List.map_append]
              exact upd_same
            · rw [sq, List.length_append]
              omega
        · rintro σ' H' ⟨⟨f, b, x3, x4, x5, rfl, hb, ys, ps, hy, hys, mem, len⟩, sm, hp'⟩
          walk_at "z"
          rw [pr.length, List.take_length] at mem len
          exact q f ys ps H' sm hy hys mem len
/-- a drawn tree over some of the leaves -/
def spDrawn : Sp := fun vs H Q _ => ∃ (a s l : Addr) (ns : List Int), vs = [.ref a, .ref l] ∧ Pool H a s ∧ H l = some (.lst (ns.map V.int)) ∧ 1 ≤ ns.length ∧ ns.length ≤ 60 ∧
  ∀ (v : V) (t : Tr) (H' : Hp), Pool H' a s → Gr a H H' → TreeAt H' v t → wf t → (∃ ms, (lv t ++ ms).Perm ns) → Q v H'
theorem leafs {H : Hp} : ∀ ns : List Int, Paired (TreeAt H) (ns.map V.int) (ns.map Tr.leaf)
  | [] => .nil
  | n :: ns => .cons (.leaf n) (leafs ns)
theorem lvs_leafs : ∀ ns : List Int, lvs (ns.map Tr.leaf) = ns
  | [] => rfl
  | n :: ns => by simp [lvs, lv, lvs_leafs ns]
theorem pdT_tk {H H' : Hp} (k : TK H H') {vs : List V} {ts : List Tr} (h : Paired (TreeAt H) vs ts) : Paired (TreeAt H') vs ts := (TreesAt.tk k ts (TreesAt.of h)).pd
theorem pd_erase {α β : Type} {F : α → β → Prop} : ∀ {xs : List α} {ps : List β} (k : Nat), Paired F xs ps → Paired F (xs.eraseIdx k) (ps.eraseIdx k)
  | _, _, _, .nil => .nil
  | _, _, 0, .cons _ t => t
  | _, _, k + 1, .cons f t => .cons f (pd_erase k t)
theorem ok_drawn (T : Blt mg) (D : DefAt K mg "_law_drawn_tree" s_law_drawn_tree ["pool", "leaves"]) (D_law_draw : DefAt K mg "_law_draw" s_law_draw ["pool", "many"]) (G_law_draw : FnOk P w K mg base CX0 2 D_law_draw.f D_law_draw.fd ["pool", "many"] spDraw) :
    FnOk P w K mg base CX0 4 D.f D.fd ["pool", "leaves"] spDrawn := by
  refine D.F.ok sc_law_drawn_tree (fun vs H Q E h => ?_) (fun cdv A outer s H vs Q E hr h => ?_)
  · obtain ⟨a, s, l, ns, rfl, _⟩ := h
    rfl
  · obtain ⟨a, s0, l, ns, rfl, hP, hl, l1, l2, q⟩ := h
    refine ⟨_, (pss_cons (ps_set (i := 2) sc_law_drawn_tree.nd rfl (Or.inr rfl) (pe_callTy (call_listK (K := K) rfl) (by rfl) T.list (by decide +kernel) (pa_cons (pv 1) pa_nil)))
      (pss_cons (ps_for PassesOwn.never (by rfl) (pi_range1 (by rfl) T.range (pa_cons (pe_op op_sub (pe_callB (call_lenK (K := K) rfl) (by rfl) T.len (by decide +kernel) (pa_cons (pv 2) pa_nil)) pe_int) pa_nil)) (pg_name (i := 3) sc_law_drawn_tree.nd rfl (Or.inl rfl))
        (pss_one (ps_if (pt_cmpR op_gt (pe_callB (call_lenK (K := K) rfl) (by rfl) T.len (by decide +kernel) (pa_cons (pv 2) pa_nil)) pe_int (nomark _))
          (pss_cons (ps_set (i := 4) sc_law_drawn_tree.nd rfl (Or.inl rfl) (pe_callB (call_min2' rfl) (by rfl) T.min (by decide +kernel) (pa_cons (pe_callB (call_lenK (K := K) rfl) (by rfl) T.len (by decide +kernel) (pa_cons (pv 2) pa_nil)) (pa_cons (pe_op op_add pe_int (pe_call G_law_draw (hr.mono (by first | decide | omega)) (by rfl) D_law_draw.g D_law_draw.F.kp D_law_draw.b .nil pass0 (pa_cons (pv 0) (pa_cons pe_int pa_nil)))) pa_nil))))
          (pss_cons (ps_setLc (i := 5) (own := [("j", 6)]) (by rfl) sc_law_drawn_tree.nd rfl rfl (sw_true rfl rfl rfl (by decide +kernel)) (pi_range1 (by rfl) T.range (pa_cons (pv 4) pa_nil)) (blkOk_by (own := [("j", 6)]) (N := ["pool", "leaves", "trees", "k", "many", "parts", "j"]) (sc := (defScope s_law_drawn_tree)) (by decide +kernel)) (fun _ _ _ _ _ => (pg_name (i := 6) sc_law_drawn_tree.nd rfl (Or.inl rfl))) (fun _ _ _ _ _ => pts_nil) (fun _ _ _ _ _ => (PE.bmK (K := K) rfl (pe_bm PySem.F.plainAttrs_list PySem.F.slot_list_pop PySem.F.type_list_pop mt_popAt (pv 2) (pa_cons (pe_call G_law_draw (hr.mono (by first | decide | omega)) (by rfl) D_law_draw.g D_law_draw.F.kp D_law_draw.b .nil pass0 (pa_cons (pv 0) (pa_cons (pe_callB (call_lenK (K := K) rfl) (by rfl) T.len (by decide +kernel) (pa_cons (pv 2) pa_nil)) pa_nil))) pa_nil)))))
          (pss_one (ps_expr (PE.bmK (K := K) rfl (pe_bm PySem.F.plainAttrs_list PySem.F.slot_list_append PySem.F.type_list_append mt_append (pv 2) (pa_cons (pe_op (op_catTK (K := K) rfl) (pe_tup (pa_cons (pe_ix (ix_listK (K := K) rfl) (pe_lst (pa_cons pe_str (pa_cons pe_str pa_nil))) (pe_call G_law_draw (hr.mono (by first | decide | omega)) (by rfl) D_law_draw.g D_law_draw.F.kp D_law_draw.b .nil pass0 (pa_cons (pv 0) (pa_cons pe_int pa_nil))) (fun _ _ => rfl)) pa_nil)) (pe_callTy (call_tupleK (K := K) rfl) (by rfl) T.tuple (by decide +kernel) (pa_cons (pv 5) pa_nil))) pa_nil)))))))
          pss_nil)))
      (pss_one (ps_ret (pe_ix (ix_listK (K := K) rfl) (pv 2) pe_int (fun _ _ => rfl)))))), ?_⟩
    refine r_at (σ := [some _, some _, none, none, none, none, none]) rfl ?_
    walk_at "z"
    refine r_listL (.inl (.inl hl)) fun r hr0 => ?_
    have rne := new_ne hP hr0
    walk_at "z"
    rw [List.length_map]
    refine r_rg1 (by omega) (forR_range (fun i σ' H' => (∃ x3 x4 x5, σ' = [some (.ref a), some (.ref l), some (.ref r), x3, x4, x5, none]) ∧ Pool H' a s0 ∧ Gr a H H' ∧ ∃ vs ts, H' r = some (.lst vs) ∧ Paired (TreeAt H') vs ts ∧ (lvs ts).Perm ns ∧ (∀ t ∈ ts, wf t) ∧ 1 ≤ ts.length ∧ ts.length ≤ 60)
      ⟨⟨_, _, _, rfl⟩, hP.mono (same_new hr0), .new hr0, _, ns.map Tr.leaf, upd_same, leafs ns, by rw [lvs_leafs], ?_, by rw [List.length_map]; exact l1, by rw [List.length_map]; exact l2⟩ ?_ ?_)
    · intro t ht
      obtain ⟨z, _, rfl⟩ := List.mem_map.mp ht
      simp [wf]
    · rintro i σ' H' hi ⟨⟨x3, x4, x5, rfl⟩, hP', g, vs, ts, hv, hvt, pm, hwf, t1, t2⟩
      walk_at "z"
      rw [hvt.length]
      refine r_ite (fun h => ?_) (fun h => ?_)
      · walk_at "z"
        refine ⟨a, s0, 2, rfl, hP', by omega, by omega, fun c H1 c0 c1 hP1 g1 => ?_⟩
        have hv1 := g1 _ _ rne.1 hv
        have hvt1 := pdT_tk (g1.tk hP') hvt
        walk_at "z"
        rw [hvt.length]
        obtain ⟨m, hm⟩ : ∃ m : Nat, min (ts.length : Int) (2 + c) = (m : Int) := ⟨(min (ts.length : Int) (2 + c)).toNat, by omega⟩
        rw [hm]
        refine r_rg1 (by omega) fun d hd => lcR_range (fun j H2 => Pool H2 a s0 ∧ Gr a H H2 ∧ ∃ vs2 ts2 us qs, H2 r = some (.lst vs2) ∧ Paired (TreeAt H2) vs2 ts2 ∧ H2 d = some (.lst us) ∧ Paired (TreeAt H2) us qs ∧ (ts2 ++ qs).Perm ts ∧ qs.length = j)
          (by walk_at "zw") ⟨hP1.mono (same_new hd), (g.trans g1).trans (.new hd), vs, ts, [], [], same_new hd _ _ hv1, pdT_tk (.new hd) hvt1, upd_same, .nil, by rw [List.append_nil], rfl⟩ ?_ ?_
        · rintro j H2 hj ⟨hP2, g2, vs2, ts2, us, qs, hv2, hvt2, hu, hut, pm2, hlq⟩
          have dne := new_ne hP1 hd
          have dr : d ≠ r := (ne_of_none hv1 hd).symm
          have lts : ts2.length + j = ts.length := by
            have := pm2.length_eq
            rw [List.length_append, hlq] at this
            omega
          walk_at "z"
          refine ⟨rfl, ?_⟩
          walk_at "z"
          rw [hvt2.length]
          refine ⟨a, s0, _, rfl, hP2, by omega, by omega, fun b H3 b0 b1 hP3 g3 => ?_⟩
          have hv3 := g3 _ _ rne.1 hv2
          have hvt3 := pdT_tk (g3.tk hP2) hvt2
          have hu3 := g3 _ _ dne.1 hu
          have hut3 := pdT_tk (g3.tk hP2) hut
          walk_at "z"
          have hb : b.toNat < ts2.length := by omega
          have gt : ts2[b.toNat]? = some ts2[b.toNat] := List.getElem?_eq_getElem hb
          obtain ⟨y, hy, hyt⟩ := pd_get2 hvt3 gt
          refine r_popAt hv3 (k := b.toNat) (y := y) (by omega) (by omega) hy ?_
          have k4 : TK H3 (upd H3 r (.lst (vs2.eraseIdx b.toNat))) := .lst hv3
          have k5 : TK H3 (upd (upd H3 r (.lst (vs2.eraseIdx b.toNat))) d (.lst (us ++ [y]))) := k4.trans (.lst ((upd_ne dr).trans hu3))
          refine r_lce ((upd_ne dr).trans hu3) (small_lt (by rw [hut.length]; omega)) ⟨(hP3.upd rne).upd dne, ((g2.trans g3).mut hr0).mut ((g.trans g1).free hP1.ne hd), vs2.eraseIdx b.toNat, ts2.eraseIdx b.toNat, us ++ [y], qs ++ [ts2[b.toNat]], (upd_ne (Ne.symm dr)).trans upd_same, pdT_tk k5 (pd_erase _ hvt3), upd_same, (pdT_tk k5 hut3).snoc (TreeAt.tk k5 _ hyt), ?_, by rw [List.length_append, hlq]; rfl⟩
          refine List.Perm.trans ?_ pm2
          have p1 : (ts2.eraseIdx b.toNat ++ (qs ++ [ts2[b.toNat]])).Perm ([ts2[b.toNat]] ++ (ts2.eraseIdx b.toNat ++ qs)) := by
            rw [← List.append_assoc]
            exact List.perm_append_comm
          exact p1.trans ((get_erase_perm ts2 gt).append_right qs)
        · rintro H2 ⟨hP2, g2, vs2, ts2, us, qs, hv2, hvt2, hu, hut, pm2, hlq⟩
          have dne := new_ne hP1 hd
          walk_at "z"
          refine r_lstN sz2 fun e he => ?_
          have hP3 := hP2.mono (same_new (o := .lst [.str "union", .str "join"]) he)
          walk_at "z"
          refine ⟨a, s0, 2, rfl, hP3, by omega, by omega, fun b H3 b0 b1 hP4 g3 => ?_⟩
          have he3 := g3 _ _ (new_ne hP2 he).1 upd_same
          obtain ⟨w0, hw⟩ : ∃ w0 : Bool, atI [V.str "union", V.str "join"] b = some (.str (wd w0)) := by
            have e : b = 0 ∨ b = 1 := by omega
            rcases e with e | e <;> subst e
            · exact ⟨false, rfl⟩
            · exact ⟨true, rfl⟩
          have s1 : Gr a H2 H3 := (Gr.new he).trans g3
          have hv3 := s1 _ _ rne.1 hv2
          have hu3 := s1 _ _ dne.1 hu
          walk_at "z"
          refine r_tupN sz1 fun t3 ht3 => ?_
          have k3 : Same H3 (upd H3 t3 (.tup [.str (wd w0)])) := same_new ht3
          have hu4 := k3 _ _ hu3
          walk_at "z"
          refine r_tupL (.inl (.inl hu4)) fun t4 ht4 => ?_
          have k4 := k3.trans (same_new (o := .tup us) ht4)
          have t34 : t3 ≠ t4 := ne_of_none upd_same ht4
          have lus : us.length = m := by rw [hut.length, hlq]; omega
          have une : us ≠ [] := fun z => by
            rw [z] at lus
            simp only [List.length_nil] at lus
            omega
          refine ⟨t3, t4, [.str (wd w0)], us, rfl, rfl, .inl (.inl ((upd_ne t34).trans upd_same)),   .inl (.inl upd_same), List.cons_ne_nil _ _, small_len (by simp only [List.length_cons, List.length_nil]; omega), fun z => absurd z une, fun _ t5 ht5 => ?_⟩
          have k5 := k4.trans (same_new (o := .tup ([.str (wd w0)] ++ us)) ht5)
          walk_at "z"
          refine r_appT (k5 _ _ hv3) (small_lt (by rw [hvt2.length]; have := pm2.length_eq; rw [List.length_append] at this; omega)) ?_
          have kk : TK H2 (upd (upd (upd (upd H3 t3 (.tup [.str (wd w0)])) t4 (.tup us)) t5 (.tup ([.str (wd w0)] ++ us))) r (.lst (vs2 ++ [.ref t5]))) := (s1.tk hP2).trans ((TK.of_same k5).trans (.lst (k5 _ _ hv3)))
          have r5 : t5 ≠ r := (ne_of_none (k4 _ _ hv3) ht5).symm
          refine ⟨⟨_, _, _, rfl⟩, (hP4.mono k5).upd rne, ((g2.trans s1).trans (.of_same k5)).mut hr0, _, ts2 ++ [.node w0 qs], upd_same, (pdT_tk kk hvt2).snoc (show TreeAt (upd (upd (upd (upd H3 t3 (.tup [.str (wd w0)])) t4 (.tup us)) t5 (.tup ([.str (wd w0)] ++ us))) r (.lst (vs2 ++ [.ref t5]))) (.ref t5) (.node w0 qs) from TreeAt.node w0 (xs := us) ((upd_ne r5).trans upd_same) (TreesAt.of (pdT_tk kk hut))), ?_, fun t ht => ?_, ?_, ?_⟩
          · have e : lvs (ts2 ++ [.node w0 qs]) = lvs (ts2 ++ qs) := by
              rw [lvs_append, lvs_append]
              simp [lvs, lv]
            rw [e]
            exact (lvs_perm pm2).trans pm
          · rcases List.mem_append.mp ht with z | z
            · exact hwf t (pm2.mem_iff.mp (List.mem_append_left _ z))
            · rw [List.mem_singleton.mp z]
              simp only [wf]
              exact ⟨by omega, wfs_mem.mpr fun t2 ht2 => hwf t2 (pm2.mem_iff.mp (List.mem_append_right _ ht2))⟩
          · rw [List.length_append]
            simp
          · have := pm2.length_eq
            rw [List.length_append] at this ⊢
            simp only [List.length_cons, List.length_nil]
            omega
      · exact ⟨⟨_, _, _, rfl⟩, hP', g, vs, ts, hv, hvt, pm, hwf, t1, t2⟩
    · rintro σ' H' ⟨⟨x3, x4, x5, rfl⟩, hP', g, vs, ts, hv, hvt, pm, hwf, t1, t2⟩
      walk_at "z"
      obtain ⟨t, ht⟩ : ∃ t, ts[0]? = some t := ⟨_, List.getElem?_eq_getElem (by omega)⟩
      obtain ⟨y, hy, hyt⟩ := pd_get2 hvt ht
      refine r_ixL (.inl (.inl hv)) (atI_nat (j := 0) hy) ?_
      obtain ⟨rest, e⟩ : ∃ rest, ts = t :: rest := by
        cases ts with
        | nil => simp at t1
        | cons u us =>
          have : u = t := Option.some.inj ht
          exact ⟨us, by rw [this]⟩
      refine q y t H' hP' g hyt (hwf t (List.mem_of_getElem? ht)) ⟨lvs rest, ?_⟩
      rw [e] at pm
      exact pm
end

set_option Elab.async false
set_option linter.all false
set_option maxRecDepth 100000
set_option maxHeartbeats 4000000
open PySem PySem.Spec PyProof.Rows L2

abbrev s_law_graph : Stmt := topS 44
theorem sc_law_graph : FnScope ["pool", "most", "way", "n", "graph"] ["pool", "most"] (defScope s_law_graph) := ⟨rfl, rfl, rfl, by decide +kernel, rfl, by decide +kernel, by decide +kernel⟩

section
variable {P : Program} {w : World} {K : PySem.W.Frag} {mg : Str → Option Value} {base : Heap}
theorem moved_good {n : Int} {o : List Int} {ps qs : List (Int × Int)} (g : GoodG n ps) (ho : o.Perm (rgI n)) (asc : qs.Pairwise ltP) (mem : ∀ p, p ∈ qs ↔ ∃ r ∈ ps, p = nrm (ordP o r)) : GoodG n qs := by
  have hl : o.length = n.toNat := by rw [ho.length_eq, rgI_len]
  have nd : o.Nodup := ho.nodup_iff.mpr (rgI_nodup n)
  have bd : ∀ z : Int, 0 ≤ z → z < n → 0 ≤ o.getD z.toNat 0 ∧ o.getD z.toNat 0 < n := fun z h0 h1 => by
    have hlt : z.toNat < o.length := by omega
    rw [List.getD_eq_getElem?_getD, List.getElem?_eq_getElem hlt]
    exact mem_rgI.mp (ho.mem_iff.mp (List.getElem_mem hlt))
  refine good_of g.one (ps := ps.map (ordP o)) (fun r hr => ?_) asc fun p => (mem p).trans ⟨?_, ?_⟩
  · obtain ⟨r0, hr0, rfl⟩ := List.mem_map.mp hr
    obtain ⟨b1, b2, b3⟩ := g.inn r0 hr0
    have h1 := bd r0.1 b1 (by omega)
    have h2 := bd r0.2 (by omega) b3
    refine ⟨h1.1, h1.2, h2.1, h2.2, fun e => ?_⟩
    have l1 : r0.1.toNat < o.length := by omega
    have l2 : r0.2.toNat < o.length := by omega
    unfold ordP at e
    simp only [List.getD_eq_getElem?_getD, List.getElem?_eq_getElem l1, List.getElem?_eq_getElem l2, Option.getD_some] at e
    have := (List.getElem_inj nd).mp e
    omega
  · rintro ⟨r, hr, rfl⟩
    exact ⟨_, List.mem_map.mpr ⟨r, hr, rfl⟩, rfl⟩
  · rintro ⟨r, hr, rfl⟩
    obtain ⟨r0, hr0, rfl⟩ := List.mem_map.mp hr
    exact ⟨r0, hr0, rfl⟩
/-- a drawn graph -/
def spGraph : Sp := fun vs H Q _ => ∃ (a s : Addr) (most : Int), vs = [.ref a, .int most] ∧ Pool H a s ∧ 1 ≤ most ∧ most ≤ 60 ∧ ∀ n : Int, 1 ≤ n → n ≤ most → GenQ a s H n Q
theorem ok_graph (T : Blt mg) (D : DefAt K mg "_law_graph" s_law_graph ["pool", "most"])
    (D_law_draw : DefAt K mg "_law_draw" s_law_draw ["pool", "many"]) (G_law_draw : FnOk P w K mg base CX0 2 D_law_draw.f D_law_draw.fd ["pool", "many"] spDraw)
    (D_law_interval_rows : DefAt K mg "_law_interval_rows" s_law_interval_rows ["pool", "n"]) (G_law_interval_rows : FnOk P w K mg base CX0 3 D_law_interval_rows.f D_law_interval_rows.fd ["pool", "n"] spRows)
    (D_law_interval_graph : DefAt K mg "_law_interval_graph" s_law_interval_graph ["rows"]) (G_law_interval_graph : FnOk P w K mg base CX0 2 D_law_interval_graph.f D_law_interval_graph.fd ["rows"] (spIvGraph K))
    (D_law_turned_graph : DefAt K mg "_law_turned_graph" s_law_turned_graph ["one", "two"]) (G_law_turned_graph : FnOk P w K mg base CX0 2 D_law_turned_graph.f D_law_turned_graph.fd ["one", "two"] (spTurned K))
    (D_law_shuffled : DefAt K mg "_law_shuffled" s_law_shuffled ["pool", "items"]) (G_law_shuffled : FnOk P w K mg base CX0 3 D_law_shuffled.f D_law_shuffled.fd ["pool", "items"] (spShuf K))
    (D_law_ordered_graph : DefAt K mg "_law_ordered_graph" s_law_ordered_graph ["pool", "n"]) (G_law_ordered_graph : FnOk P w K mg base CX0 4 D_law_ordered_graph.f D_law_ordered_graph.fd ["pool", "n"] spOrdered)
    (D_law_clique_graph : DefAt K mg "_law_clique_graph" s_law_clique_graph ["pool", "n"]) (G_law_clique_graph : FnOk P w K mg base CX0 4 D_law_clique_graph.f D_law_clique_graph.fd ["pool", "n"] spClique)
    (D_law_of : DefAt K mg "_law_of" s_law_of ["n", "pairs"]) (G_law_of : FnOk P w K mg base CX0 3 D_law_of.f D_law_of.fd ["n", "pairs"] (spOf K))
    (D_law_tree_pairs : DefAt K mg "_law_tree_pairs" s_law_tree_pairs ["tree"]) (G_law_tree_pairs : FnOk P w K mg base CX0 62 D_law_tree_pairs.f D_law_tree_pairs.fd ["tree"] (spTreePairs 61))
    (D_law_drawn_tree : DefAt K mg "_law_drawn_tree" s_law_drawn_tree ["pool", "leaves"]) (G_law_drawn_tree : FnOk P w K mg base CX0 4 D_law_drawn_tree.f D_law_drawn_tree.fd ["pool", "leaves"] spDrawn)
    (D_law_ringed : DefAt K mg "_law_ringed" s_law_ringed ["pool", "n"]) (G_law_ringed : FnOk P w K mg base CX0 4 D_law_ringed.f D_law_ringed.fd ["pool", "n"] spRinged)
    (D_law_other : DefAt K mg "_law_other" s_law_other ["graph"]) (G_law_other : FnOk P w K mg base CX0 2 D_law_other.f D_law_other.fd ["graph"] spOther)
    (D_law_random_graph : DefAt K mg "_law_random_graph" s_law_random_graph ["pool", "most"]) (G_law_random_graph : FnOk P w K mg base CX0 3 D_law_random_graph.f D_law_random_graph.fd ["pool", "most"] spRandom)
    (D_law_moved : DefAt K mg "_law_moved" s_law_moved ["graph", "order"]) (G_law_moved : FnOk P w K mg base CX0 4 D_law_moved.f D_law_moved.fd ["graph", "order"] (spMoved K)) :
    FnOk P w K mg base CX0 63 D.f D.fd ["pool", "most"] spGraph := by
  refine D.F.ok sc_law_graph (fun vs H Q E h => ?_) (fun cdv A outer s H vs Q E hr h => ?_)
  · obtain ⟨a, s, most, rfl, _⟩ := h
    rfl
  · obtain ⟨a, s0, most, rfl, hP, m1, m2, q⟩ := h
    refine ⟨_, (pss_cons (ps_set (i := 2) sc_law_graph.nd rfl (Or.inl rfl) (pe_call G_law_draw (hr.mono (by first | decide | omega)) (by rfl) D_law_draw.g D_law_draw.F.kp D_law_draw.b .nil pass0 (pa_cons (pv 0) (pa_cons pe_int pa_nil))))
      (pss_cons (ps_set (i := 3) sc_law_graph.nd rfl (Or.inl rfl) (pe_ix (ix_listK (K := K) rfl) (pe_lst (pa_cons (pv 1) (pa_cons (pe_op op_add pe_int (pe_call G_law_draw (hr.mono (by first | decide | omega)) (by rfl) D_law_draw.g D_law_draw.F.kp D_law_draw.b .nil pass0 (pa_cons (pv 0) (pa_cons (pv 1) pa_nil)))) pa_nil))) (pe_callTy call_int1' (by rfl) T.int (by decide +kernel) (pa_cons (pe_cmpR op_eq (pe_call G_law_draw (hr.mono (by first | decide | omega)) (by rfl) D_law_draw.g D_law_draw.F.kp D_law_draw.b .nil pass0 (pa_cons (pv 0) (pa_cons pe_int pa_nil))) pe_int (nomark _)) pa_nil)) (fun _ _ => rfl)))
      (pss_cons (ps_if (pt_cmpR op_eq (pv 2) pe_int (nomark _))
        (pss_one (ps_set (i := 4) sc_law_graph.nd rfl (Or.inl rfl) (pe_call G_law_interval_graph (hr.mono (by first | decide | omega)) (by rfl) D_law_interval_graph.g D_law_interval_graph.F.kp D_law_interval_graph.b .nil pass0 (pa_cons (pe_call G_law_interval_rows (hr.mono (by first | decide | omega)) (by rfl) D_law_interval_rows.g D_law_interval_rows.F.kp D_law_interval_rows.b .nil pass0 (pa_cons (pv 0) (pa_cons (pv 3) pa_nil))) pa_nil))))
        (pss_one (ps_if (pt_cmpR op_eq (pv 2) pe_int (nomark _))
          (pss_one (ps_set (i := 4) sc_law_graph.nd rfl (Or.inl rfl) (pe_call G_law_turned_graph (hr.mono (by first | decide | omega)) (by rfl) D_law_turned_graph.g D_law_turned_graph.F.kp D_law_turned_graph.b .nil pass0 (pa_cons (pe_listRg rfl (by rfl) T.list (prg_1 (by rfl) T.range (pv 3))) (pa_cons (pe_call G_law_shuffled (hr.mono (by first | decide | omega)) (by rfl) D_law_shuffled.g D_law_shuffled.F.kp D_law_shuffled.b .nil pass0 (pa_cons (pv 0) (pa_cons (pe_listRg rfl (by rfl) T.list (prg_1 (by rfl) T.range (pv 3))) pa_nil))) pa_nil)))))
          (pss_one (ps_if (pt_cmpR op_eq (pv 2) pe_int (nomark _))
            (pss_one (ps_set (i := 4) sc_law_graph.nd rfl (Or.inl rfl) (pe_call G_law_ordered_graph (hr.mono (by first | decide | omega)) (by rfl) D_law_ordered_graph.g D_law_ordered_graph.F.kp D_law_ordered_graph.b .nil pass0 (pa_cons (pv 0) (pa_cons (pv 3) pa_nil)))))
            (pss_one (ps_if (pt_cmpR op_eq (pv 2) pe_int (nomark _))
              (pss_one (ps_set (i := 4) sc_law_graph.nd rfl (Or.inl rfl) (pe_call G_law_clique_graph (hr.mono (by first | decide | omega)) (by rfl) D_law_clique_graph.g D_law_clique_graph.F.kp D_law_clique_graph.b .nil pass0 (pa_cons (pv 0) (pa_cons (pv 3) pa_nil)))))
              (pss_one (ps_if (pt_cmpR op_eq (pv 2) pe_int (nomark _))
                (pss_one (ps_set (i := 4) sc_law_graph.nd rfl (Or.inl rfl) (pe_call G_law_of (hr.mono (by first | decide | omega)) (by rfl) D_law_of.g D_law_of.F.kp D_law_of.b .nil pass0 (pa_cons (pv 3) (pa_cons (pe_call G_law_tree_pairs (hr.mono (by first | decide | omega)) (by rfl) D_law_tree_pairs.g D_law_tree_pairs.F.kp D_law_tree_pairs.b .nil pass0 (pa_cons (pe_call G_law_drawn_tree (hr.mono (by first | decide | omega)) (by rfl) D_law_drawn_tree.g D_law_drawn_tree.F.kp D_law_drawn_tree.b .nil pass0 (pa_cons (pv 0) (pa_cons (pe_listRg rfl (by rfl) T.list (prg_1 (by rfl) T.range (pv 3))) pa_nil))) pa_nil)) pa_nil)))))
                (pss_one (ps_if (pt_cmpR op_lt (pv 2) pe_int (nomark _))
                  (pss_one (ps_set (i := 4) sc_law_graph.nd rfl (Or.inl rfl) (pe_call G_law_ringed (hr.mono (by first | decide | omega)) (by rfl) D_law_ringed.g D_law_ringed.F.kp D_law_ringed.b .nil pass0 (pa_cons (pv 0) (pa_cons (pv 3) pa_nil)))))
                  (pss_one (ps_if (pt_cmpR op_eq (pv 2) pe_int (nomark _))
                    (pss_one (ps_set (i := 4) sc_law_graph.nd rfl (Or.inl rfl) (pe_call G_law_other (hr.mono (by first | decide | omega)) (by rfl) D_law_other.g D_law_other.F.kp D_law_other.b .nil pass0 (pa_cons (pe_call G_law_clique_graph (hr.mono (by first | decide | omega)) (by rfl) D_law_clique_graph.g D_law_clique_graph.F.kp D_law_clique_graph.b .nil pass0 (pa_cons (pv 0) (pa_cons (pv 3) pa_nil))) pa_nil))))
                    (pss_one (ps_set (i := 4) sc_law_graph.nd rfl (Or.inl rfl) (pe_call G_law_random_graph (hr.mono (by first | decide | omega)) (by rfl) D_law_random_graph.g D_law_random_graph.F.kp D_law_random_graph.b .nil pass0 (pa_cons (pv 0) (pa_cons (pv 1) pa_nil))))))))))))))))))
      (pss_cons (ps_if (pt_cmpR op_eq (pe_call G_law_draw (hr.mono (by first | decide | omega)) (by rfl) D_law_draw.g D_law_draw.F.kp D_law_draw.b .nil pass0 (pa_cons (pv 0) (pa_cons pe_int pa_nil))) pe_int (nomark _))
        (pss_one (ps_set (i := 4) sc_law_graph.nd rfl (Or.inl rfl) (pe_call G_law_other (hr.mono (by first | decide | omega)) (by rfl) D_law_other.g D_law_other.F.kp D_law_other.b .nil pass0 (pa_cons (pv 4) pa_nil))))
        pss_nil)
      (pss_cons (ps_if (pt_cmpR op_gt (pe_call G_law_draw (hr.mono (by first | decide | omega)) (by rfl) D_law_draw.g D_law_draw.F.kp D_law_draw.b .nil pass0 (pa_cons (pv 0) (pa_cons pe_int pa_nil))) pe_int (nomark _))
        (pss_one (ps_set (i := 4) sc_law_graph.nd rfl (Or.inl rfl) (pe_call G_law_moved (hr.mono (by first | decide | omega)) (by rfl) D_law_moved.g D_law_moved.F.kp D_law_moved.b .nil pass0 (pa_cons (pv 4) (pa_cons (pe_call G_law_shuffled (hr.mono (by first | decide | omega)) (by rfl) D_law_shuffled.g D_law_shuffled.F.kp D_law_shuffled.b .nil pass0 (pa_cons (pv 0) (pa_cons (pe_listRg rfl (by rfl) T.list (prg_1 (by rfl) T.range (pe_ix (ix_tupK (K := K) rfl) (pv 4) pe_int (fun _ _ => rfl)))) pa_nil))) pa_nil)))))
        pss_nil)
      (pss_one (ps_ret (pv 4)))))))), ?_⟩
    refine r_at (σ := [some _, some _, none, none, none]) rfl ?_
    let W : L2.St → Hp → Prop := fun σ' H' => ∃ (x2 x3 : Option V) (v : V) (n : Int) (qs : List (Int × Int)), σ' = [some (.ref a), some (.int most), x2, x3, some v] ∧ Pool H' a s0 ∧ Gr a H H' ∧ GrAt H' v n qs ∧ GoodG n qs ∧ n ≤ most
    walk_at "z"
    refine ⟨a, s0, 14, rfl, hP, by omega, by omega, fun way H1 w0 w1 hP1 g1 => ?_⟩
    walk_at "z"
    refine ⟨a, s0, most, rfl, hP1, by omega, by omega, fun r H2 r0 r1 hP2 g2 => ?_⟩
    walk_at "z"
    refine r_lstN sz2 fun l hl => ?_
    walk_at "z"
    refine ⟨a, s0, 3, rfl, hP2.mono (same_new hl), by omega, by omega, fun r2 H3 _ _ hP3 g3 => ?_⟩
    have hl2 := g3 _ _ (new_ne hP2 hl).1 upd_same
    walk_at "z"
    refine r_pick2 hl2 fun n hn => ?_
    have g : Gr a H H3 := ((g1.trans g2).trans (.new hl)).trans g3
    have n0 : 1 ≤ n := by omega
    have n1 : n ≤ most := by omega
    walk_at "z1"
    refine r_seqW W ?tail fun B hB => ?head
    case head =>
      -- what each way gives is enough
      have fin : ∀ (v : V) (qs : List (Int × Int)) (H' : Hp), Pool H' a s0 → Gr a H3 H' → GrAt H' v n qs → GoodG n qs → B [some (.ref a), some (.int most), some (.int way), some (.int n), some v] H' := fun v qs H' p' g' hv hg =>
        hB _ _ ⟨_, _, v, n, qs, rfl, p', g.trans g', hv, hg, n1⟩
      have nn : ((n.toNat : Nat) : Int) = n := by omega
      have flt : ∀ (v : V) (c : Int × Int → Bool) (H' : Hp), Pool H' a s0 → Gr a H3 H' → GrAt H' v n ((allP n.toNat).filter c) → B [some (.ref a), some (.int most), some (.int way), some (.int n), some v] H' := fun v c H' p' g' hv =>
        fin v _ H' p' g' hv (by have := good_filter (n := n.toNat) (by omega) c; rw [nn] at this; exact this)
      walk_at "z"
      refine r_ite (fun h0 => ?_) (fun h0 => ?_)
      · walk_at "z"
        refine ⟨a, s0, n, rfl, hP3, by omega, by omega, fun f xs ps H4 hf hP4 g4 hx hp hlen => ?_⟩
        walk_at "z"
        refine ⟨f, xs, ps, rfl, .inl (.inl hx), hp, by omega, fun v c H5 s5 hv => ?_⟩
        walk_at "z"
        rw [hlen] at hv
        exact flt v c H5 (hP4.mono s5) (g4.trans (.of_same s5)) (by rw [nn] at hv; exact hv)
      walk_at "z"
      refine r_ite (fun h0 => ?_) (fun h0 => ?_)
      · walk_at "z"
        refine r_lRg (by omega) (by omega) fun l1 hl1 => ?_
        walk_at "z"
        refine r_lRg (by omega) (by omega) fun l2 hl2 => ?_
        walk_at "z"
        have hP4 := hP3.mono (same_new (o := .lst ((rgI n).map V.int)) hl1)
        have hP5 := hP4.mono (same_new (o := .lst ((rgI n).map V.int)) hl2)
        have n12 : l1 ≠ l2 := ne_of_none upd_same hl2
        refine ⟨a, s0, l2, rgI n, rfl, hP5, (new_ne hP4 hl2).1, upd_same, by rw [rgI_len]; omega, fun f ms H4 hf hfa hP6 g6 hms pm => ?_⟩
        walk_at "z"
        have h1 := g6 _ _ (new_ne hP3 hl1).1 ((upd_ne n12).trans upd_same)
        refine ⟨l1, f, rgI n, ms, rfl, .inl (.inl h1), .inl (.inl hms), by rw [rgI_len]; omega, fun z z0 z1 => ?_, fun v c H5 s5 hv => ?_⟩
        · rw [rgI_len] at z1
          have hm : z ∈ rgI n := mem_rgI.mpr ⟨z0, by omega⟩
          exact ⟨hm, pm.mem_iff.mpr hm⟩
        · walk_at "z"
          rw [rgI_len] at hv
          exact flt v c H5 (hP6.mono s5) ((((Gr.new hl1).trans (.new hl2)).trans g6).trans (.of_same s5)) (by rw [nn] at hv; exact hv)
      walk_at "z"
      refine r_ite (fun h0 => ?_) (fun h0 => ?_)
      · walk_at "z"
        refine ⟨a, s0, n, rfl, hP3, by omega, by omega, fun v qs H4 hP4 g4 hv hg => ?_⟩
        walk_at "z"
        exact fin v qs H4 hP4 g4 hv hg
      walk_at "z"
      refine r_ite (fun h0 => ?_) (fun h0 => ?_)
      · walk_at "z"
        refine ⟨a, s0, n, rfl, hP3, by omega, by omega, fun v qs H4 hP4 g4 hv hg => ?_⟩
        walk_at "z"
        exact fin v qs H4 hP4 g4 hv hg
      walk_at "z"
      refine r_ite (fun h0 => ?_) (fun h0 => ?_)
      · walk_at "z"
        refine r_lRg (by omega) (by omega) fun l1 hl1 => ?_
        walk_at "z"
        have hP4 := hP3.mono (same_new (o := .lst ((rgI n).map V.int)) hl1)
        refine ⟨a, s0, l1, rgI n, rfl, hP4, upd_same, by rw [rgI_len]; omega, by rw [rgI_len]; omega, fun v t H4 hP5 g5 ht hwf ⟨ms, pm⟩ => ?_⟩
        walk_at "z"
        have nd : (lv t).Nodup := (List.nodup_append.mp (pm.nodup_iff.mpr (rgI_nodup n))).1
        have ll : (lv t).length ≤ 60 := by
          have := pm.length_eq
          rw [List.length_append, rgI_len] at this
          omega
        have mem : ∀ z ∈ lv t, 0 ≤ z ∧ z < n := fun z hz => mem_rgI.mp (pm.mem_iff.mp (List.mem_append_left _ hz))
        refine ⟨v, t, rfl, ht, by have := dp_lv t hwf; omega, ll, nd, fun f xs ps H5 s5 hx hp hm hlen => ?_⟩
        walk_at "z"
        have sq : (lv t).length * (lv t).length ≤ 60 * 60 := Nat.mul_le_mul ll ll
        refine ⟨n, f, xs, ps, rfl, .inl (.inl hx), hp, by omega, fun v2 qs H6 s6 hv asc memq => ?_⟩
        walk_at "z"
        refine fin v2 qs H6 ((hP5.mono s5).mono s6) ((((Gr.new hl1).trans g5).trans (.of_same s5)).trans (.of_same s6)) hv (good_of n0 (fun r hr => ?_) asc memq)
        obtain ⟨k1, k2, k3⟩ := hm r hr
        have := mem r.1 k1
        have := mem r.2 k2
        omega
      walk_at "z"
      refine r_ite (fun h0 => ?_) (fun h0 => ?_)
      · walk_at "z"
        refine ⟨a, s0, n, rfl, hP3, by omega, by omega, fun v qs H4 hP4 g4 hv hg => ?_⟩
        walk_at "z"
        exact fin v qs H4 hP4 g4 hv hg
      walk_at "z"
      refine r_ite (fun h0 => ?_) (fun h0 => ?_)
      · walk_at "z"
        refine ⟨a, s0, n, rfl, hP3, by omega, by omega, fun v qs H4 hP4 g4 hv hg => ?_⟩
        walk_at "z"
        refine ⟨v, n.toNat, qs, rfl, by rw [nn]; exact hv, by omega, fun v2 H5 s5 hv2 => ?_⟩
        walk_at "z"
        exact flt v2 _ H5 (hP4.mono s5) (g4.trans (.of_same s5)) (by rw [nn] at hv2; exact hv2)
      · walk_at "z"
        refine ⟨a, s0, most, rfl, hP3, m1, by omega, fun n2 k1 k2 v qs H4 hP4 g4 hv hg => ?_⟩
        walk_at "z"
        exact hB _ _ ⟨_, _, v, n2, qs, rfl, hP4, g.trans g4, hv, hg, k2⟩
    case tail =>
      rintro σ' H4 ⟨x2, x3, v, n2, qs, rfl, hP4, g4, hv, hg, hn2⟩
      refine r_seqW W ?tail2 fun B hB => ?head2
      case head2 =>
        walk_at "z"
        refine ⟨a, s0, 4, rfl, hP4, by omega, by omega, fun c H5 _ _ hP5 g5 => ?_⟩
        have hv5 := hv.tk (g5.tk hP4)
        walk_at "z"
        refine r_ite (fun h0 => ?_) (fun h0 => ?_)
        · walk_at "z"
          have nn : ((n2.toNat : Nat) : Int) = n2 := by have := hg.one; omega
          refine ⟨v, n2.toNat, qs, rfl, by rw [nn]; exact hv5, by omega, fun v2 H6 s6 hv2 => ?_⟩
          walk_at "z"
          have gf := good_filter (n := n2.toNat) (by have := hg.one; omega) fun p => decide (p ∉ qs)
          rw [nn] at hv2 gf
          exact hB _ _ ⟨_, _, v2, n2, _, rfl, hP5.mono s6, (g4.trans g5).trans (.of_same s6), hv2, gf, hn2⟩
        · walk_at "z"
          exact hB _ _ ⟨_, _, v, n2, qs, rfl, hP5, g4.trans g5, hv5, hg, hn2⟩
      case tail2 =>
        rintro σ' H4 ⟨x2, x3, v, n2, qs, rfl, hP4, g4, hv, hg, hn2⟩
        refine r_seqW W ?tail3 fun B hB => ?head3
        case head3 =>
          walk_at "z"
          refine ⟨a, s0, 3, rfl, hP4, by omega, by omega, fun c H5 _ _ hP5 g5 => ?_⟩
          have hv5 := hv.tk (g5.tk hP4)
          walk_at "z"
          refine r_ite (fun h0 => ?_) (fun h0 => ?_)
          · obtain ⟨ga, e, rfl, hga, he⟩ := id hv5
            walk_at "z"
            refine r_lRg (by have := hg.one; omega) (by omega) fun l1 hl1 => ?_
            walk_at "z"
            have hP6 := hP5.mono (same_new (o := .lst ((rgI n2).map V.int)) hl1)
            refine ⟨a, s0, l1, rgI n2, rfl, hP6, (new_ne hP5 hl1).1, upd_same, by rw [rgI_len]; omega, fun f ms H6 hf hfa hP7 g7 hms pm => ?_⟩
            have gk : Gr a H5 H6 := (Gr.new hl1).trans g7
            have hv6 := hv5.tk (gk.tk hP5)
            walk_at "z"
            have lms : ms.length = n2.toNat := by rw [pm.length_eq, rgI_len]
            have lqs : qs.length ≤ 10000 := by
              have h1 := nodup_le qs (allP n2.toNat) (asc_nodup hg.asc) fun p hp => by
                obtain ⟨b1, b2, b3⟩ := hg.inn p hp
                exact mem_allP.mpr ⟨b1, b2, by omega⟩
              have h2 := allP_small (n := n2.toNat) (by omega)
              omega
            refine ⟨.ref ga, f, n2, qs, ms, rfl, hv6, .inl (.inl (.inl hms)), lqs, fun p hp => ?_, fun v2 rs H7 s7 hv7 asc mem => ?_⟩
            · obtain ⟨b1, b2, b3⟩ := hg.inn p hp
              omega
            · walk_at "z"
              exact hB _ _ ⟨_, _, v2, n2, rs, rfl, hP7.mono s7, ((g4.trans g5).trans gk).trans (.of_same s7), hv7, moved_good hg pm asc mem, hn2⟩
          · walk_at "z"
            exact hB _ _ ⟨_, _, v, n2, qs, rfl, hP5, g4.trans g5, hv5, hg, hn2⟩
        case tail3 =>
          rintro σ' H4 ⟨x2, x3, v, n2, qs, rfl, hP4, g4, hv, hg, hn2⟩
          walk_at "z"
          exact q n2 hg.one hn2 v qs H4 hP4 g4 hv hg
end

set_option Elab.async false
set_option linter.all false
set_option maxRecDepth 100000
set_option maxHeartbeats 4000000
open PySem PySem.Spec PyProof.Rows L2

section
variable {P : Program} {w : World} {K : PySem.W.Frag} {mg : Str → Option Value} {base : Heap}
/-- (u, v) or (v, u) -/
def spEdge : Sp := fun vs H Q _ => ∃ u v : Int, vs = [.int u, .int v] ∧ ∀ x H', Same H H' → IsP H' x (nrm (u, v)) → Q x H'
def spAre : Sp := fun vs H Q _ => ∃ (g : V) (n u v : Int) (ps : List (Int × Int)), vs = [g, .int u, .int v] ∧ GrAt H g n ps ∧ ∀ H', Same H H' → Q (.bl (decide (nrm (u, v) ∈ ps))) H'
end

set_option Elab.async false
set_option linter.all false
set_option maxRecDepth 100000
set_option maxHeartbeats 4000000
open PySem PySem.Spec PyProof.Rows L2

section
variable {P : Program} {w : World} {K : PySem.W.Frag} {mg : Str → Option Value} {base : Heap}
theorem inV_ints (ns : List Int) (z : Int) : inV (.int z) (ns.map V.int) = decide (z ∈ ns) := by
  unfold inV
  rw [List.any_map]
  refine Bool.eq_iff_iff.mpr ?_
  rw [List.any_eq_true, decide_eq_true_eq]
  constructor
  · rintro ⟨y, hy, h⟩
    have h1 : eqV (.int y) (.int z) = true := h
    rw [eqV_int] at h1
    rw [← of_decide_eq_true h1]
    exact hy
  · intro h
    refine ⟨z, h, ?_⟩
    show eqV (.int z) (.int z) = true
    rw [eqV_int]
    exact decide_eq_true rfl
theorem r_ninI {H : Hp} {Q : VK} {m : Addr} {ns : List Int} {z : Int} (h : SqL K H m (ns.map V.int) ∨ SqT K H m (ns.map V.int)) (q : Q (.bl (!decide (z ∈ ns))) H) : rIn K true (.int z) (.ref m) H Q := ⟨m, _, rfl, h, rfl, flat_ints ns, by
  rw [if_pos rfl, inV_ints]
  exact q⟩
theorem r_inI {H : Hp} {Q : VK} {m : Addr} {ns : List Int} {z : Int} (h : SqL K H m (ns.map V.int) ∨ SqT K H m (ns.map V.int)) (q : Q (.bl (decide (z ∈ ns))) H) : rIn K false (.int z) (.ref m) H Q := ⟨m, _, rfl, h, rfl, flat_ints ns, by
  rw [if_neg Bool.false_ne_true, inV_ints]
  exact q⟩
/-- the edges with both ends in a set -/
def inL (ns : List Int) (ps : List (Int × Int)) : List (Int × Int) := ps.filter fun p => decide (p.1 ∈ ns) && decide (p.2 ∈ ns)
def spEin (K : PySem.W.Frag) : Sp := fun vs H Q _ => ∃ (g : V) (n : Int) (m : Addr) (ns : List Int) (ps : List (Int × Int)), vs = [g, .ref m] ∧ GrAt H g n ps ∧ ps.length ≤ 10000 ∧ (SqL K H m (ns.map V.int) ∨ SqT K H m (ns.map V.int)) ∧
  ∀ (l : Addr) (ys : List V) (H' : Hp), H l = none → Same H H' → H' l = some (.lst ys) → Prs H' ys (inL ns ps) → Q (.ref l) H'
def spIns (K : PySem.W.Frag) : Sp := fun vs H Q _ => ∃ (g : V) (n : Int) (m : Addr) (ns : List Int) (ps : List (Int × Int)), vs = [g, .ref m] ∧ GrAt H g n ps ∧ ps.length ≤ 10000 ∧ (SqL K H m (ns.map V.int) ∨ SqT K H m (ns.map V.int)) ∧
  ∀ (H' : Hp), Same H H' → Q (.int ((inL ns ps).length : Nat)) H'
end

set_option Elab.async false
set_option linter.all false
set_option maxRecDepth 100000
set_option maxHeartbeats 4000000
open PySem PySem.Spec PyProof.Rows L2
/-! graphs and pairs as data -/
def pT (p : Int × Int) : PyData := .tuple [.int p.1, .int p.2]
def gT (n : Int) (ps : List (Int × Int)) : PyData := .tuple [.int n, .tuple (ps.map pT)]
section
variable {K : PySem.W.Frag} {H : Hp} {Q : VK}
theorem dp_pair {x : V} {p : Int × Int} (h : IsP H x p) : Dp K H x (pT p) := by
  obtain ⟨t, rfl, ht⟩ := h
  exact .tup (.inl (.inl ht)) (.cons (.int _) (.cons (.int _) .nil))
theorem dp_prs : ∀ {xs : List V} {ps : List (Int × Int)}, Prs H xs ps → DpAll K H xs (ps.map pT)
  | _, _, .nil => .nil
  | _, _, .cons h r => .cons (dp_pair h) (dp_prs r)
theorem dp_list {l : Addr} {xs : List V} {ps : List (Int × Int)} (h : SqL K H l xs) (hp : Prs H xs ps) : Dp K H (.ref l) (.list (ps.map pT)) := .lst h (dp_prs hp)
theorem lay_pT : ∀ ps : List (Int × Int), PyData.canLayAll0 (ps.map pT) = true
  | [] => by simp [PyData.canLayAll0]
  | p :: ps => by
    rw [List.map_cons]
    simp only [PyData.canLayAll0, pT, PyData.canLay0, Bool.and_self, Bool.true_and]
    exact lay_pT ps
theorem deep_pT : ∀ ps : List (Int × Int), PyData.depthAll (ps.map pT) ≤ 1
  | [] => by simp [PyData.depthAll]
  | p :: ps => by
    have := deep_pT ps
    rw [List.map_cons]
    simp only [PyData.depthAll, pT, PyData.depth]
    omega
end

set_option Elab.async false
set_option linter.all false
set_option maxRecDepth 100000
set_option maxHeartbeats 4000000
open PySem PySem.Spec PyProof.Rows L2

section
variable {P : Program} {w : World} {K : PySem.W.Frag} {mg : Str → Option Value} {base : Heap}
/-- the graph in another order -/
def spRen (K : PySem.W.Frag) : Sp := fun vs H Q _ => ∃ (g : V) (l : Addr) (n : Int) (ps : List (Int × Int)) (o : List Int), vs = [g, .ref l] ∧ GrAt H g n ps ∧ SqT K H l (o.map V.int) ∧ ps.length ≤ 60 ∧
  (∀ p ∈ ps, 0 ≤ p.1 ∧ p.1 < o.length ∧ 0 ≤ p.2 ∧ p.2 < o.length) ∧ (∀ p ∈ ps, 0 ≤ (ordP o p).1 ∧ (ordP o p).1 < 64 ∧ 0 ≤ (ordP o p).2 ∧ (ordP o p).2 < 64) ∧
  ∀ (v : V) (qs : List (Int × Int)) (H' : Hp), Same H H' → GrAt H' v n qs → qs.Pairwise ltP → (∀ p, p ∈ qs ↔ ∃ r ∈ ps, p = nrm (ordP o r)) → Q v H'
/-- which pairs a dict has as keys -/
def HasP (kvs : List (List L2.Key × V)) (ps : List (Int × Int)) : Prop := ∀ p : Int × Int, (valV kvs [.inl p.1, .inl p.2]).isSome = decide (p ∈ ps)
def spCpl : Sp := fun vs H Q _ => ∃ (g : V) (n : Nat) (ps : List (Int × Int)), vs = [g] ∧ GrAt H g (n : Int) ps ∧ n ≤ 100 ∧ ps.length ≤ 10000 ∧
  ∀ (v : V) (H' : Hp), Same H H' → GrAt H' v (n : Int) ((allP n).filter fun p => !decide (p ∈ ps)) → Q v H'
/-- the places of both ends -/
def ixP (ns : List Int) (r : Int × Int) : Int × Int := ((ns.idxOf r.1 : Nat), (ns.idxOf r.2 : Nat))
def spInd (K : PySem.W.Frag) : Sp := fun vs H Q _ => ∃ (g : V) (n : Int) (m : Addr) (ns : List Int) (ps : List (Int × Int)), vs = [g, .ref m] ∧ GrAt H g n ps ∧ SqT K H m (ns.map V.int) ∧ ns.Nodup ∧ ns.length ≤ 60 ∧ ps.length ≤ 10000 ∧ (inL ns ps).length ≤ 60 ∧
  ∀ (v : V) (qs : List (Int × Int)) (H' : Hp), Same H H' → GrAt H' v (ns.length : Nat) qs → qs.Pairwise ltP → (∀ p, p ∈ qs ↔ ∃ r ∈ inL ns ps, p = nrm (ixP ns r)) → Q v H'
end

set_option Elab.async false
set_option linter.all false
set_option maxRecDepth 100000
set_option maxHeartbeats 4000000
open PySem PySem.Spec PyProof.Rows L2

section
variable {P : Program} {w : World} {K : PySem.W.Frag} {mg : Str → Option Value} {base : Heap}
/-- lists of neighbours stand -/
def AdjAt (H : Hp) (l : Addr) (n : Nat) (ps : List (Int × Int)) : Prop := ∃ as : List Addr, H l = some (.lst (as.map V.ref)) ∧ as.length = n ∧ ∀ i a, as[i]? = some a → H a = some (.lst ((adjL ps i).map V.int))
def spReached : Sp := fun vs H Q _ => ∃ (l : Addr) (n : Nat) (ps : List (Int × Int)) (v : Int), vs = [.ref l, .int v] ∧ AdjAt H l n ps ∧ n ≤ 60 ∧ ps.length ≤ 10000 ∧ (∀ p ∈ ps, 0 ≤ p.1 ∧ p.1 < p.2 ∧ p.2 < (n : Int)) ∧ 0 ≤ v ∧ v < (n : Int) ∧
  ∀ (f : Addr) (qs : List Int) (H' : Hp), Same H H' → H' f = some (.lst (qs.map V.int)) → qs.Pairwise (· < ·) → (∀ z, z ∈ qs ↔ Con (RWi (rgI (n : Int)) ps) v z) → Q (.ref f) H'
end

set_option Elab.async false
set_option linter.all false
set_option maxRecDepth 100000
set_option maxHeartbeats 4000000
open PySem PySem.Spec PyProof.Rows L2

section
variable {P : Program} {w : World} {K : PySem.W.Frag} {mg : Str → Option Value} {base : Heap}
def spComps : Sp := fun vs H Q _ => ∃ (g : V) (n : Nat) (ps : List (Int × Int)), vs = [g] ∧ GrAt H g (n : Int) ps ∧ n ≤ 60 ∧ ps.length ≤ 10000 ∧ (∀ p ∈ ps, 0 ≤ p.1 ∧ p.1 < p.2 ∧ p.2 < (n : Int)) ∧
  ∀ (l : Addr) (xs : List V) (qs : List (List Int)) (H' : Hp), H l = none → Same H H' → H' l = some (.lst xs) → ITups H' xs qs → Parts (rgI (n : Int)) ps qs → (∀ v ∈ rgI (n : Int), ∃ c ∈ qs, v ∈ c) → qs.length ≤ n → (∀ c ∈ qs, c.length ≤ n) → Q (.ref l) H'
end

set_option Elab.async false
set_option linter.all false
set_option maxRecDepth 100000
set_option maxHeartbeats 4000000
open PySem PySem.Spec PyProof.Rows L2

abbrev s_law_reach : Stmt := topS 47
theorem sc_law_reach : FnScope ["graph", "v", "members", "found", "k", "u", "w"] ["graph", "v", "members"] (defScope s_law_reach) := ⟨rfl, rfl, rfl, by decide +kernel, rfl, by decide +kernel, by decide +kernel⟩

abbrev s_law_joined : Stmt := topS 48
theorem sc_law_joined : FnScope ["graph", "members"] ["graph", "members"] (defScope s_law_joined) := ⟨rfl, rfl, rfl, by decide +kernel, rfl, by decide +kernel, by decide +kernel⟩

section
variable {P : Program} {w : World} {K : PySem.W.Frag} {mg : Str → Option Value} {base : Heap}
/-- ints ascending, each once -/
def spDistI (K : PySem.W.Frag) : Sp := fun vs H Q _ => ∃ (l : Addr) (ns : List Int), vs = [.ref l] ∧ SqL K H l (ns.map V.int) ∧ ns.length < 64 ∧
  ∀ (f : Addr) (qs : List Int) (H' : Hp), Same H H' → H' f = some (.lst (qs.map V.int)) → qs.Pairwise (· < ·) → (∀ p, p ∈ qs ↔ p ∈ ns) → Q (.ref f) H'
/-- what is reached from v within some vertices -/
def spReach (K : PySem.W.Frag) : Sp := fun vs H Q _ => ∃ (g : V) (n v : Int) (ps : List (Int × Int)) (l : Addr) (ns : List Int), vs = [g, .int v, .ref l] ∧ GrAt H g n ps ∧ H l = some (.lst (ns.map V.int)) ∧ ns.Nodup ∧ ns.length ≤ 60 ∧
  ∀ (t : Addr) (qs : List Int) (H' : Hp), Same H H' → H' t = some (.tup (qs.map V.int)) → qs.Pairwise (· < ·) → v ∈ qs → (∀ z ∈ qs, z = v ∨ z ∈ ns) → Q (.ref t) H'
end

set_option Elab.async false
set_option linter.all false
set_option maxRecDepth 100000
set_option maxHeartbeats 4000000
open PySem PySem.Spec PyProof.Rows L2

/-- what an induced graph keeps -/
structure IndOf (ns : List Int) (ps qs : List (Int × Int)) : Prop where
  nd : ns.Nodup
  inn : ∀ p ∈ ps, p.1 < p.2
  mem : ∀ p, p ∈ qs ↔ ∃ r ∈ inL ns ps, p = nrm (ixP ns r)
def ixI (ns : List Int) (z : Int) : Int := (ns.idxOf z : Nat)
/-- all are connected with the first -/
def Joined (ns : List Int) (ps : List (Int × Int)) : Prop := ∃ z r, ns = z :: r ∧ ∀ v ∈ ns, Con (RWi ns ps) z v
section
variable {P : Program} {w : World} {K : PySem.W.Frag} {mg : Str → Option Value} {base : Heap}
def spConn (K : PySem.W.Frag) : Sp := fun vs H Q _ => ∃ (g : V) (n : Nat) (m : Addr) (ns : List Int) (ps : List (Int × Int)), vs = [g, .ref m] ∧ GrAt H g (n : Int) ps ∧ SqT K H m (ns.map V.int) ∧ ns.Nodup ∧ ns.length ≤ 60 ∧ ps.length ≤ 60 ∧ (∀ p ∈ ps, 0 ≤ p.1 ∧ p.1 < p.2 ∧ p.2 < (n : Int)) ∧
  ∀ (b : Bool) (H' : Hp), Same H H' → (b = true ↔ Joined ns ps) → Q (.bl b) H'
end

set_option Elab.async false
set_option linter.all false
set_option maxRecDepth 100000
set_option maxHeartbeats 4000000
open PySem PySem.Spec PyProof.Rows L2

structure DedL (qs fs : List (List Int)) : Prop where
  asc : fs.Pairwise (fun x y => lexI x y = true)
  mem : ∀ z, z ∈ fs ↔ z ∈ qs
  last : fs.getLast? = qs.getLast?
section
variable {P : Program} {w : World} {K : PySem.W.Frag} {mg : Str → Option Value} {base : Heap}
/-- tuples ascending, each once -/
def spDistT (K : PySem.W.Frag) : Sp := fun vs H Q _ => ∃ (l : Addr) (xs : List V) (ps : List (List Int)), vs = [.ref l] ∧ SqL K H l xs ∧ ITups H xs ps ∧ (∀ c ∈ ps, c ≠ []) ∧ ps.length ≤ 10000 ∧
  ∀ (f : Addr) (ys : List V) (qs : List (List Int)) (H' : Hp), Same H H' → H' f = some (.lst ys) → ITups H' ys qs → qs.Pairwise (fun x y => lexI x y = true) → (∀ p, p ∈ qs ↔ p ∈ ps) → Q (.ref f) H'
end

set_option Elab.async false
set_option linter.all false
set_option maxRecDepth 100000
set_option maxHeartbeats 4000000
open PySem PySem.Spec PyProof.Rows L2

section
variable {P : Program} {w : World} {K : PySem.W.Frag} {mg : Str → Option Value} {base : Heap}
def Shut (ns : List Int) (ps : List (Int × Int)) (fs : List Int) : Prop := ∀ a ∈ fs, ∀ b, RWi ns ps a b → b ∈ fs
/-- exactly what is reached from v within some vertices -/
def spReachC (K : PySem.W.Frag) : Sp := fun vs H Q _ => ∃ (g : V) (n v : Int) (ps : List (Int × Int)) (l : Addr) (ns : List Int), vs = [g, .int v, .ref l] ∧ GrAt H g n ps ∧ H l = some (.lst (ns.map V.int)) ∧ ns.Nodup ∧ ns.length ≤ 60 ∧ v ∈ ns ∧
  ∀ (t : Addr) (qs : List Int) (H' : Hp), Same H H' → H' t = some (.tup (qs.map V.int)) → qs.Pairwise (· < ·) → (∀ z, z ∈ qs ↔ Con (RWi ns ps) v z) → Q (.ref t) H'
def spJoinedC : Sp := fun vs H Q _ => ∃ (g x : V) (n : Int) (ps : List (Int × Int)) (ns : List Int), vs = [g, x] ∧ GrAt H g n ps ∧ ITup H x ns ∧ ns.Nodup ∧ ns.length ≤ 60 ∧ ∀ (b : Bool) (H' : Hp), Same H H' → (b = true ↔ Joined ns ps) → Q (.bl b) H'
def spLComps : Sp := fun vs H Q _ => ∃ (g : V) (n : Nat) (ps : List (Int × Int)), vs = [g] ∧ GrAt H g (n : Int) ps ∧ n ≤ 60 ∧ ∀ (l : Addr) (xs : List V) (qs : List (List Int)) (H' : Hp), Same H H' → H' l = some (.lst xs) → ITups H' xs qs → Parts (rgI (n : Int)) ps qs → Q (.ref l) H'
end

set_option Elab.async false
set_option linter.all false
set_option maxRecDepth 100000
set_option maxHeartbeats 4000000
open PySem PySem.Spec PyProof.Rows L2

abbrev s_is_within : Stmt := topS 9
theorem sc_is_within : FnScope ["part", "whole"] ["part", "whole"] (defScope s_is_within) := ⟨rfl, rfl, rfl, by decide +kernel, rfl, by decide +kernel, by decide +kernel⟩

/-- bags on the heap -/
def BgAt (H : Hp) (v : V) (bags : List (List Int)) : Prop := ∃ t xs, v = .ref t ∧ H t = some (.tup xs) ∧ ITups H xs bags
def LkAt (H : Hp) (v : V) (L : List (Int × Int)) : Prop := ∃ t xs, v = .ref t ∧ H t = some (.tup xs) ∧ Prs H xs L
def DcAt (H : Hp) (v : V) (bags : List (List Int)) (L : List (Int × Int)) : Prop := ∃ t b l, v = .ref t ∧ H t = some (.tup [b, l]) ∧ BgAt H b bags ∧ LkAt H l L
theorem BgAt.tk {H H' : Hp} (k : TK H H') {v : V} {bags : List (List Int)} (h : BgAt H v bags) : BgAt H' v bags := by
  obtain ⟨t, xs, e, h1, h2⟩ := h
  exact ⟨t, xs, e, k _ _ h1, ITups.tk k h2⟩
theorem LkAt.tk {H H' : Hp} (k : TK H H') {v : V} {L : List (Int × Int)} (h : LkAt H v L) : LkAt H' v L := by
  obtain ⟨t, xs, e, h1, h2⟩ := h
  exact ⟨t, xs, e, k _ _ h1, Prs.tk k h2⟩
section
variable {P : Program} {w : World} {K : PySem.W.Frag} {mg : Str → Option Value} {base : Heap}
def spWithin : Sp := fun vs H Q _ => ∃ (x y : Int) (S T : Int → Prop), vs = [.int x, .int y] ∧ Msk x S ∧ Msk y T ∧ ∀ b : Bool, (b = true ↔ ∀ i : Nat, S i → T i) → Q (.bl b) H
theorem ok_within (T : Blt mg) (D : DefAt K mg "is_within" s_is_within ["part", "whole"]) : FnOk P w K mg base CX0 1 D.f D.fd ["part", "whole"] spWithin := by
  refine D.F.ok sc_is_within (fun vs H Q E h => ?_) (fun cdv A outer s H vs Q E hr h => ?_)
  · obtain ⟨x, y, S, T', rfl, _⟩ := h
    rfl
  · obtain ⟨x, y, S, T', rfl, mx, my, q⟩ := h
    refine ⟨_, (pss_one (ps_ret (pe_cmpR op_eq (pe_op op_and (pv 0) (pv 1)) (pv 0) (nomark _)))), ?_⟩
    refine r_at (σ := [some _, some _]) rfl ?_
    walk_at "z"
    refine q _ (decide_eq_true_iff.trans (((mx.and my).eq_iff mx).trans ⟨fun h i hi => ((h i).mpr hi).2, fun h i => ⟨fun k => k.1, fun k => ⟨k, h i k⟩⟩⟩))
def spMoved1 : Sp := fun vs H Q _ => ∃ (a s k : Int), vs = [.int a, .int s, .int k] ∧ Q (.int (mvI s k a)) H
theorem flt_nextI {l : List Int} {i : Nat} {v : Int} (h : l[i]? = some v) (P : Int → Bool) : (l.take (i + 1)).filter P = (l.take i).filter P ++ (if P v = true then [v] else []) := by
  rw [take_next h, List.filter_append, List.filter_cons, List.filter_nil]
def spMeets (K : PySem.W.Frag) : Sp := fun vs H Q _ => ∃ (d l : V) (bags : List (List Int)) (L : List (Int × Int)) (i j : Int), vs = [d, l] ∧ DcAt H d bags L ∧ IsP H l (i, j) ∧ nodeI bags.length i ∧ nodeI bags.length j ∧ (∀ b ∈ bags, b.length ≤ 1000) ∧
  ∀ (t : Addr) (H' : Hp), Same H H' → H' t = some (.tup (((bagAt bags i).filter fun v => decide (v ∈ bagAt bags j)).map V.int)) → Q (.ref t) H'
/-- the bag of s lies within that of k -/
def SubB (bags : List (List Int)) (s k : Int) : Prop := ∀ v ∈ bagAt bags s, v ∈ bagAt bags k
def spSpare : Sp := fun vs H Q _ => ∃ (b l : V) (bags : List (List Int)) (L : List (Int × Int)), vs = [b, l] ∧ BgAt H b bags ∧ LkAt H l L ∧ bags.length ≤ 100 ∧ (∀ c ∈ bags, ∀ v ∈ c, 0 ≤ v ∧ v < 1000) ∧ (∀ l ∈ L, nodeI bags.length l.1 ∧ nodeI bags.length l.2) ∧
  ((∀ l ∈ L, ¬ SubB bags l.1 l.2 ∧ ¬ SubB bags l.2 l.1) → ∀ H', Same H H' → Q .non H') ∧ ∀ (x : V) (s k : Int) (H' : Hp), Same H H' → IsP H' x (s, k) → ((s, k) ∈ L ∨ (k, s) ∈ L) → SubB bags s k → Q x H'
/-- moved: where each bag goes -/
def spMerged : Sp := fun vs H Q _ => ∃ (b l p : V) (bags : List (List Int)) (L : List (Int × Int)) (s k : Int), vs = [b, l, p] ∧ BgAt H b bags ∧ LkAt H l L ∧ IsP H p (s, k) ∧ nodeI bags.length s ∧ nodeI bags.length k ∧ bags.length ≤ 100 ∧ L.length ≤ 1000 ∧ (∀ l ∈ L, nodeI bags.length l.1 ∧ nodeI bags.length l.2) ∧
  ∀ (v : V) (M : List (Int × Int)) (H' : Hp), Same H H' → DcAt H' v (bags.eraseIdx s.toNat) M → M.Perm (((L.map fun l => (mvI s k l.1, mvI s k l.2)).filter fun l => !decide (l.1 = l.2)).map nrm) → M.Pairwise leP → Q v H'
end

set_option Elab.async false
set_option linter.all false
set_option maxRecDepth 100000
set_option maxHeartbeats 4000000
open PySem PySem.Spec PyProof.Rows L2

/-- lower end first, ascending, each once -/
def NL (L : List (Int × Int)) : Prop := (∀ l ∈ L, l.1 < l.2) ∧ L.Pairwise ltP
theorem nl_of {L M : List (Int × Int)} (pm : M.Perm (L.map nrm)) (pw : M.Pairwise leP) (ne : ∀ l ∈ L, l.1 ≠ l.2) (nd : (L.map nrm).Nodup) : NL M := by
  refine ⟨fun l hl => ?_, ?_⟩
  · obtain ⟨p, hp, rfl⟩ := List.mem_map.mp (pm.mem_iff.mp hl)
    have := ne p hp
    unfold nrm
    dsimp only
    omega
  · have nd' : M.Nodup := pm.nodup_iff.mpr nd
    exact (List.Pairwise.and pw nd').imp fun {a b} h => ltP_of_le_ne h.1 h.2
/-- no bag lies within a linked one -/
def NoSub (bags : List (List Int)) (L : List (Int × Int)) : Prop := ∀ l ∈ L, ¬ SubB bags l.1 l.2 ∧ ¬ SubB bags l.2 l.1
section
variable {P : Program} {w : World} {K : PySem.W.Frag} {mg : Str → Option Value} {base : Heap}
def spSmall : Sp := fun vs H Q _ => ∃ (g d : V) (n : Int) (ps : List (Int × Int)) (bags : List (List Int)) (L : List (Int × Int)), vs = [g, d] ∧ DcAt H d bags L ∧ Tdc n ps bags L ∧ NL L ∧ bags.length ≤ 100 ∧ n ≤ 1000 ∧
  ∀ (v : V) (bags' : List (List Int)) (M : List (Int × Int)) (H' : Hp), Same H H' → DcAt H' v bags' M → Tdc n ps bags' M → NL M → bags'.Sublist bags → (∀ c ∈ bags, ∃ c' ∈ bags', ∀ v ∈ c, v ∈ c') → NoSub bags' M → Q v H'
end

set_option Elab.async false
set_option linter.all false
set_option maxRecDepth 100000
set_option maxHeartbeats 4000000
open PySem PySem.Spec PyProof.Rows L2 LamX RZ

abbrev s_is_link : Stmt := topS 18
theorem sc_is_link : FnScope ["many", "value"] ["many", "value"] (defScope s_is_link) := ⟨rfl, rfl, rfl, by decide +kernel, rfl, by decide +kernel, by decide +kernel⟩

abbrev s_are_bags : Stmt := topS 16
theorem sc_are_bags : FnScope ["n", "value", "bag"] ["n", "value"] (defScope s_are_bags) := ⟨rfl, rfl, rfl, by decide +kernel, rfl, by decide +kernel, by decide +kernel⟩

abbrev s_are_links : Stmt := topS 17
theorem sc_are_links : FnScope ["many", "value", "link"] ["many", "value"] (defScope s_are_links) := ⟨rfl, rfl, rfl, by decide +kernel, rfl, by decide +kernel, by decide +kernel⟩

theorem adjI_pw : ∀ {ns : List Int}, adjI ns → ns.Pairwise (· < ·)
  | [], _ => .nil
  | [p], _ => List.pairwise_singleton _ _
  | p :: q :: ps, h => by
    have h1 : adjI (q :: ps) := fun j x y hx hy => h (j + 1) x y hx hy
    have pw := adjI_pw h1
    refine List.pairwise_cons.mpr ⟨fun z hz => ?_, pw⟩
    have pq : p < q := h 0 p q rfl rfl
    rcases List.mem_cons.mp hz with rfl | hz
    · exact pq
    · have qz := (List.pairwise_cons.mp pw).1 z hz
      omega
theorem pw_adjI {ns : List Int} (h : ns.Pairwise (· < ·)) : adjI ns := fun j x y hx hy => by
  obtain ⟨h1, e1⟩ := List.getElem?_eq_some_iff.mp hx
  obtain ⟨h2, e2⟩ := List.getElem?_eq_some_iff.mp hy
  have := List.pairwise_iff_getElem.mp h j (j + 1) h1 h2 (Nat.lt_succ_self j)
  rw [e1, e2] at this
  exact this
theorem adjP_pw : ∀ {ps : List (Int × Int)}, adjP ps → ps.Pairwise ltP
  | [], _ => .nil
  | [p], _ => List.pairwise_singleton _ _
  | p :: q :: ps, h => by
    have h1 : adjP (q :: ps) := fun j x y hx hy => h (j + 1) x y hx hy
    have pw := adjP_pw h1
    refine List.pairwise_cons.mpr ⟨fun z hz => ?_, pw⟩
    have pq : ltP p q := h 0 p q rfl rfl
    rcases List.mem_cons.mp hz with rfl | hz
    · exact pq
    · exact ltP_trans pq ((List.pairwise_cons.mp pw).1 z hz)
theorem pw_adjP {ns : List (Int × Int)} (h : ns.Pairwise ltP) : adjP ns := fun j x y hx hy => by
  obtain ⟨h1, e1⟩ := List.getElem?_eq_some_iff.mp hx
  obtain ⟨h2, e2⟩ := List.getElem?_eq_some_iff.mp hy
  have := List.pairwise_iff_getElem.mp h j (j + 1) h1 h2 (Nat.lt_succ_self j)
  rw [e1, e2] at this
  exact this
/-- a tuple of ints, how ever it came -/
def ITupX (H : Hp) (x : V) (ns : List Int) : Prop := ∃ t, x = .ref t ∧ ST H t (ns.map V.int)
abbrev ITupsX (H : Hp) : List V → List (List Int) → Prop := Paired (ITupX H)
theorem ITupsX.ext {H H' : Hp} (s : ExtN H H') : ∀ {xs : List V} {bs : List (List Int)}, ITupsX H xs bs → ITupsX H' xs bs
  | _, _, .nil => .nil
  | _, _, .cons ⟨t, e, h⟩ r => .cons ⟨t, e, h.ext s⟩ (ITupsX.ext s r)
theorem dx_tup {a : Addr} {H : Hp} {x : V} {ns : List Int} (h : DX a H x (tI ns)) : ITupX H x ns := by
  unfold tI at h
  cases h with
  | tup hp hx =>
    rw [dx_ints hx] at hp
    exact ⟨_, rfl, hp⟩
theorem dx_tups {a : Addr} {H : Hp} : ∀ {bs : List (List Int)} {vs : List V}, DXs a H vs (bs.map tI) → ITupsX H vs bs
  | [], _, h => by cases h; exact .nil
  | b :: bs, _, h => by
    cases h with
    | cons h1 h2 => exact .cons (dx_tup h1) (dx_tups h2)
def bagX (n : Int) (d : PyData) : Prop := ∃ ns : List Int, d = tI ns ∧ ns ≠ [] ∧ (∀ z ∈ ns, 0 ≤ z ∧ z < n) ∧ adjI ns
def bagsX (n : Int) (d : PyData) : Prop := ∃ bags : List (List Int), d = .tuple (bags.map tI) ∧ bags ≠ [] ∧ ∀ c ∈ bags, c ≠ [] ∧ (∀ z ∈ c, 0 ≤ z ∧ z < n) ∧ adjI c
def lnksX (m : Nat) (d : PyData) : Prop := ∃ L : List (Int × Int), d = .tuple (L.map prX) ∧ (∀ l ∈ L, 0 ≤ l.1 ∧ l.1 < l.2 ∧ l.2 < (m : Int)) ∧ adjP L ∧ L.length + 1 = m ∧ Acy L
theorem tI_inj {a b : List Int} (h : tI a = tI b) : a = b := ints_inj (PyData.tuple.inj h)
theorem tIs_inj {as bs : List (List Int)} (h : as.map tI = bs.map tI) : as = bs := List.map_inj_right (fun a b e => tI_inj e) |>.mp h
theorem bags_of {n : Int} : ∀ {ds : List PyData}, (∀ d ∈ ds, bagX n d) → ∃ bags : List (List Int), ds = bags.map tI ∧ ∀ c ∈ bags, c ≠ [] ∧ (∀ z ∈ c, 0 ≤ z ∧ z < n) ∧ adjI c
  | [], _ => ⟨[], rfl, fun p hp => (nomatch hp)⟩
  | d :: ds, h => by
    obtain ⟨bs, e, hb⟩ := bags_of (n := n) (ds := ds) fun d hd => h d (List.mem_cons_of_mem _ hd)
    obtain ⟨ns, rfl, h1⟩ := h d List.mem_cons_self
    refine ⟨ns :: bs, by rw [e]; rfl, fun c hc => ?_⟩
    rcases List.mem_cons.mp hc with rfl | z
    · exact h1
    · exact hb c z
section
variable {P : Program} {w : World} {K : PySem.W.Frag} {mg : Str → Option Value} {base : Heap}
def spLink (b : Addr) : Sp := fun vs H Q _ => ∃ (m : Int) (v : V) (d : PyData), vs = [.int m, v] ∧ DX b H v d ∧ ∀ r : Bool, (r = true ↔ edgD m d) → Q (.bl r) H
theorem ok_link {b : Addr} (T : Blt mg) (D : DefAt K mg "_is_link" s_is_link ["many", "value"]) (D_is_tuple : DefAt K mg "is_tuple" s_is_tuple ["value", "many"]) (G_is_tuple : FnOk P w K mg base CX0 1 D_is_tuple.f D_is_tuple.fd ["value", "many"] (spTupX b))
    (D_is_integer : DefAt K mg "is_integer" s_is_integer ["value"]) (G_is_integer : FnOk P w K mg base CX0 1 D_is_integer.f D_is_integer.fd ["value"] (spIntX b)) : FnOk P w K mg base CX0 2 D.f D.fd ["many", "value"] (spLink b) := by
  refine D.F.ok sc_is_link (fun vs H Q E h => ?_) (fun cdv A outer s H vs Q E hr h => ?_)
  · obtain ⟨m, v, d, rfl, _⟩ := h
    rfl
  · obtain ⟨m, v, d, rfl, hd, q⟩ := h
    refine ⟨_, (pss_cons (ps_if (PW.pt (pw_or (pt_not (pt_val (pe_call G_is_tuple (hr.mono (by first | decide | omega)) (by rfl) D_is_tuple.g D_is_tuple.F.kp D_is_tuple.b .nil pass0 (pa_cons (pv 1) (pa_cons pe_int pa_nil))))) (pw_or (pt_not (pt_val (pe_call G_is_integer (hr.mono (by first | decide | omega)) (by rfl) D_is_integer.g D_is_integer.F.kp D_is_integer.b .nil pass0 (pa_cons (pe_ix (ix_tupK (K := K) rfl) (pv 1) pe_int (fun _ _ => rfl)) pa_nil)))) (pw_or1 (pt_not (pt_val (pe_call G_is_integer (hr.mono (by first | decide | omega)) (by rfl) D_is_integer.g D_is_integer.F.kp D_is_integer.b .nil pass0 (pa_cons (pe_ix (ix_tupK (K := K) rfl) (pv 1) pe_int (fun _ _ => rfl)) pa_nil))))))))
        (pss_one (ps_ret pe_bl))
        pss_nil)
      (pss_one (ps_ret (pe_chain3 op_le op_lt op_lt pe_int (pe_ix (ix_tupK (K := K) rfl) (pv 1) pe_int (fun _ _ => rfl)) (pe_ix (ix_tupK (K := K) rfl) (pv 1) pe_int (fun _ _ => rfl)) (pv 0))))), ?_⟩
    refine r_at (σ := [some _, some _]) rfl ?_
    walk_at "z"
    refine ⟨v, d, 2, rfl, hd, ?_⟩
    cases e : lenD 2 d with
    | false =>
      walk_at "z"
      refine iteT ?_
      walk_at "z"
      refine q false ⟨fun h => (nomatch h), fun ⟨u, v', ed, _⟩ => ?_⟩
      rw [ed] at e
      cases e
    | true =>
      obtain ⟨ds, rfl, l2⟩ : ∃ ds, d = .tuple ds ∧ ds.length = 2 := by
        cases d with
        | tuple ds => exact ⟨ds, rfl, by have := of_decide_eq_true e; omega⟩
        | _ => exact absurd e Bool.false_ne_true
      match ds, l2 with
      | [d1, d2], _ =>
      cases id hd with
      | @tup p xs _ hxs hxd =>
      cases hxd with
      | @cons x1 _ _ _ hd1 hr1 =>
      cases hr1 with
      | @cons x2 _ _ _ hd2 hr2 =>
      cases hr2
      have a0 : atI [x1, x2] 0 = some x1 := atI_nat (j := 0) rfl
      have a1 : atI [x1, x2] 1 = some x2 := atI_nat (j := 1) rfl
      walk_at "z"
      refine iteF ?_
      walk_at "z"
      refine r_ixT (.inl hxs) a0 ?_
      walk_at "z"
      refine ⟨x1, d1, rfl, hd1, ?_⟩
      cases e1 : intD d1 with
      | false =>
        walk_at "z"
        refine iteT ?_
        walk_at "z"
        refine q false ⟨fun h => (nomatch h), fun ⟨u, v', ed, _⟩ => ?_⟩
        have := PyData.tuple.inj ed
        simp only [List.cons.injEq, and_true] at this
        rw [this.1] at e1
        cases e1
      | true =>
        obtain ⟨i, rfl⟩ : ∃ i, d1 = .int i := by
          cases d1 with
          | int i => exact ⟨i, rfl⟩
          | _ => exact absurd e1 Bool.false_ne_true
        cases hd1
        walk_at "z"
        refine iteF ?_
        walk_at "z"
        refine r_ixT (.inl hxs) a1 ?_
        walk_at "z"
        refine ⟨x2, d2, rfl, hd2, ?_⟩
        cases e2 : intD d2 with
        | false =>
          walk_at "z"
          refine iteT ?_
          walk_at "z"
          refine q false ⟨fun h => (nomatch h), fun ⟨u, v', ed, _⟩ => ?_⟩
          have := PyData.tuple.inj ed
          simp only [List.cons.injEq, and_true] at this
          rw [this.2] at e2
          cases e2
        | true =>
          obtain ⟨j, rfl⟩ : ∃ i, d2 = .int i := by
            cases d2 with
            | int i => exact ⟨i, rfl⟩
            | _ => exact absurd e2 Bool.false_ne_true
          cases hd2
          have fin : ∀ r : Bool, (r = true ↔ (0 ≤ i ∧ i < j ∧ j < m)) → Q (.bl r) H := fun r hr => q r (hr.trans ⟨fun ⟨h1, h2, h3⟩ => ⟨i, j, rfl, h1, h2, h3⟩, fun ⟨u, v', ed, h1, h2, h3⟩ => by
            have := PyData.tuple.inj ed
            simp only [List.cons.injEq, PyData.int.injEq, and_true] at this
            rw [this.1, this.2]
            exact ⟨h1, h2, h3⟩⟩)
          walk_at "z"
          refine iteF ?_
          walk_at "z"
          refine r_chain3 ?_
          walk_at "z"
          refine r_ixT (.inl hxs) a0 ?_
          walk_at "z"
          refine r_ch3n ?_
          refine r_ite (fun c0 => ?_) (fun c0 => ?_)
          · walk_at "z"
            refine r_ixT (.inl hxs) a1 ?_
            walk_at "z"
            refine r_ch3m ?_
            refine r_ite (fun c1 => ?_) (fun c1 => ?_)
            · walk_at "z"
              exact fin _ ⟨fun h => ⟨c0, c1, of_decide_eq_true h⟩, fun h => decide_eq_true h.2.2⟩
            · exact fin false ⟨fun h => (nomatch h), fun h => absurd h.2.1 c1⟩
          · exact fin false ⟨fun h => (nomatch h), fun h => absurd h.1 c0⟩
def spBags (b : Addr) (TT : List (Addr × Str)) : Sp := fun vs H Q _ => ∃ (n : Int) (v : V) (d : PyData), vs = [.int n, v] ∧ DX b H v d ∧ (∃ D, limX D 100000 d) ∧ Tabs TT H ∧ ∀ (r : Bool) H', ExtN H H' → Tabs TT H' → (r = true ↔ bagsX n d) → Q (.bl r) H'
theorem ok_bags {b c PT : Addr} {TT : List (Addr × Str)} (TB : TabB base mg c PT) (hm9 : (PT, genN "_are_bags") ∈ TT) (hu9 : ∀ p ∈ TT, p.1 = PT → p.2 = genN "_are_bags") (T : Blt mg) (z_all : mg "all" = none) (D : DefAt K mg "_are_bags" s_are_bags ["n", "value"]) (hco : D.fd.code = .ref c)
    (D_is_set : DefAt K mg "is_set" s_is_set ["n", "value"]) (G_is_set : FnOk P w K mg base CX0 8 D_is_set.f D_is_set.fd ["n", "value"] (spSetX b TT)) : FnOk P w K mg base CX0 13 D.f D.fd ["n", "value"] (spBags b TT) := by
  refine okV D.F sc_are_bags (fun vs H Q E h => ?_) (fun cdv A outer s H vs Q E hcv hr h => ?_)
  · obtain ⟨n, v, d, rfl, _⟩ := h
    rfl
  · obtain ⟨n, v, d, rfl, hd, ⟨DD, hl⟩, hT, q⟩ := h
    obtain rfl : cdv = .ref c := hcv.symm.trans hco
    refine ⟨_, (pss_one (ps_ret (pe_and (pe_callB (call_isiK (K := K) rfl) (by rfl) T.isinstance (by decide +kernel) (pa_cons (pv 1) (pa_cons (pe_bltn (v := .ty "tuple") (u := .type "tuple") (by rfl) T.tuple (by decide +kernel) rfl) pa_nil))) (pe_and (pe_cmpR (op_neX (K := K) rfl hr.units) (pv 1) (pe_tup pa_nil) (nomark _)) (pe_one (pe_allG (k := 9) (hr.mono (by first | decide | omega)) (by rfl) z_all (by decide +kernel) TB rfl hm9 hu9 (genS1_by (sc := defScope s_are_bags) (by decide +kernel)) (ix := 2) rfl sc_are_bags.nd (show (".0" : Str) ∉ (["n", "value", "bag"] : List Str) by decide +kernel) (PI.tupK (K := K) rfl (pi_tup (pv 1))) (fun _ _ _ _ _ _ => (pg_name (i := 2) sc_are_bags.nd rfl (Or.inl rfl))) (fun _ _ _ _ _ _ hr => (pe_and (pe_call G_is_set (hr.mono (by first | decide | omega)) (by rfl) D_is_set.g D_is_set.F.kp D_is_set.b .nil pass0 (pa_cons (pv 0) (pa_cons (pv 2) pa_nil))) (pe_one (pe_cmpR (op_neX (K := K) rfl hr.units) (pv 2) (pe_tup pa_nil) (nomark _))))))))))), ?_⟩
    refine r_at (σ := [some _, some _, none]) rfl ?_
    walk_at "z"
    refine r_isiX hd rfl (kit_tup d) ?_
    cases et : tupD d with
    | false =>
      walk_at "z"
      refine q false H (.refl H) hT ⟨fun h => (nomatch h), fun ⟨ps, e, _⟩ => ?_⟩
      rw [e] at et
      cases et
    | true =>
      obtain ⟨ds, rfl⟩ := tupD_of et
      obtain ⟨D1, _, _, lim1⟩ := limX_tup hl
      cases id hd with
      | @tup p xs _ hxs hxd =>
      walk_at "z"
      refine r_tupN (by decide) fun e he => ?_
      have s1 : Same H (upd H e (.tup [])) := same_new he
      have he1 : (upd H e (.tup [])) e = some (.tup []) := upd_same
      generalize upd H e (.tup []) = H1 at s1 he1 ⊢
      have T1 := tabs_same hT s1
      have lx := hxd.len
      refine r_neTE (.inl (hxs.same s1)) (.inl (.inl he1)) ?_
      cases xs with
      | nil =>
        walk_at "z"
        refine iteF ?_
        refine q false H1 (ext_same s1) T1 ⟨fun h => (nomatch h), fun ⟨bs, e, ne, _⟩ => ?_⟩
        have e := PyData.tuple.inj e
        rw [e, List.length_map] at lx
        exact absurd (List.length_eq_zero_iff.mp lx.symm) ne
      | cons x0 xs0 =>
        generalize hxx : x0 :: xs0 = xs at hxs hxd lx ⊢
        rw [show xs.isEmpty = false by rw [← hxx]; rfl]
        walk_at "z"
        refine iteT ?_
        walk_at "z"
        refine r_it (.inl (hxs.same s1)) ⟨T1, fun H2 e2 T2 => gall_tup (xs := xs) (fun i H' => ExtN H H' ∧ Tabs TT H' ∧ ∀ d ∈ ds.take i, bagX n d) (by walk_at "zw") ⟨(ext_same s1).trans e2, T2, fun d hd => by simp at hd⟩ (fun i H' _ ⟨e3, _⟩ => .inl (hxs.ext e3)) ?_ ?_⟩
        · rintro i x H' hx ⟨e3, T3, al⟩
          obtain ⟨d, hd1, fd⟩ := pd_get (DXs.pd _ (hxd.ext e3)) hx
          have ld := lim1 d (List.mem_of_getElem? hd1)
          have bad : ∀ H4, ExtN H H4 → Tabs TT H4 → ¬ bagX n d → Q (.bl false) H4 := fun H4 e4 T4 no => q false H4 e4 T4 ⟨fun h => (nomatch h), fun ⟨bs, e, _, bd⟩ => by
            have e := PyData.tuple.inj e
            have dm := List.mem_of_getElem? hd1
            rw [e] at dm
            obtain ⟨c', hc', rfl⟩ := List.mem_map.mp dm
            exact absurd ⟨c', rfl, bd c' hc'⟩ no⟩
          walk_at "z"
          refine ⟨rfl, ?_⟩
          walk_at "z"
          refine ⟨n, x, d, rfl, fd, fun es ee => by
            subst ee
            obtain ⟨_, _, h, _⟩ := limX_tup ld
            exact h, T3, fun r H4 e4 T4 hr4 => ?_⟩
          cases r with
          | false =>
            walk_at "z"
            refine r_genE ?_
            refine iteF ?_
            refine bad H4 (e3.trans e4) T4 fun ⟨ns, e, _, h1, h2⟩ => ?_
            have := hr4.mpr ⟨ns, e, h1, h2⟩
            cases this
          | true =>
            obtain ⟨ns, rfl, h1, h2⟩ := hr4.mp rfl
            cases fd.ext e4 with
            | @tup pb ys _ hys hyd =>
            rw [dx_ints hyd] at hys
            walk_at "z"
            refine r_tupN (by decide) fun e9 he9 => ?_
            have s5 : Same H4 (upd H4 e9 (.tup [])) := same_new he9
            have he5 : (upd H4 e9 (.tup [])) e9 = some (.tup []) := upd_same
            generalize upd H4 e9 (.tup []) = H5 at s5 he5 ⊢
            have T5 := tabs_same T4 s5
            have e5 := (e3.trans e4).trans (ext_same s5)
            refine r_neTE (.inl (hys.same s5)) (.inl (.inl he5)) ?_
            refine r_genE ?_
            cases ns with
            | nil =>
              refine iteF ?_
              refine bad H5 e5 T5 fun ⟨ns', e, ne, _⟩ => ?_
              exact ne (tI_inj (show tI ns' = tI [] from e.symm))
            | cons z zs =>
              refine iteT ?_
              refine ⟨e5, T5, fun y hy => ?_⟩
              rw [take_next hd1] at hy
              rcases List.mem_append.mp hy with k | k
              · exact al y k
              · rw [List.mem_singleton.mp k]
                exact ⟨z :: zs, rfl, (fun k => nomatch k), h1, h2⟩
        · rintro H' ⟨e3, T3, al⟩
          rw [lx, List.take_length] at al
          obtain ⟨bs, rfl, bd⟩ := bags_of al
          refine q true H' e3 T3 ⟨fun _ => ⟨bs, rfl, fun k => ?_, bd⟩, fun _ => rfl⟩
          rw [k, ← hxx] at lx
          cases lx
def spLinks (b : Addr) (TT : List (Addr × Str)) : Sp := fun vs H Q _ => ∃ (m : Nat) (v : V) (d : PyData), vs = [.int (m : Nat), v] ∧ DX b H v d ∧ (∃ D, limX D 100000 d) ∧ m ≤ 1000 ∧ Tabs TT H ∧ ∀ (r : Bool) H', ExtN H H' → Tabs TT H' → (r = true ↔ lnksX m d) → Q (.bl r) H'
theorem ok_links {b c PT : Addr} {TT : List (Addr × Str)} (TB : TabB base mg c PT) (hm9 : (PT, genN "_are_links") ∈ TT) (hu9 : ∀ p ∈ TT, p.1 = PT → p.2 = genN "_are_links") (T : Blt mg) (z_all : mg "all" = none) (D : DefAt K mg "_are_links" s_are_links ["many", "value"]) (hco : D.fd.code = .ref c)
    (D_is_link : DefAt K mg "_is_link" s_is_link ["many", "value"]) (G_is_link : FnOk P w K mg base CX0 2 D_is_link.f D_is_link.fd ["many", "value"] (spLink b)) (D_is_ascending : DefAt K mg "is_ascending" s_is_ascending ["items"]) (G_is_ascending : FnOk P w K mg base CX0 7 D_is_ascending.f D_is_ascending.fd ["items"] (spAscX TT))
    (D_is_spanning_tree : DefAt K mg "is_spanning_tree" s_is_spanning_tree ["n", "edges"]) (G_is_spanning_tree : FnOk P w K mg base CX0 7 D_is_spanning_tree.f D_is_spanning_tree.fd ["n", "edges"] (spSpan TT)) : FnOk P w K mg base CX0 8 D.f D.fd ["many", "value"] (spLinks b TT) := by
  refine okV D.F sc_are_links (fun vs H Q E h => ?_) (fun cdv A outer s H vs Q E hcv hr h => ?_)
  · obtain ⟨n, v, d, rfl, _⟩ := h
    rfl
  · obtain ⟨m, v, d, rfl, hd, ⟨DD, hl⟩, m1, hT, q⟩ := h
    obtain rfl : cdv = .ref c := hcv.symm.trans hco
    refine ⟨_, (pss_cons (ps_if (PW.pt (pw_or (pt_not (pt_val (pe_callB (call_isiK (K := K) rfl) (by rfl) T.isinstance (by decide +kernel) (pa_cons (pv 1) (pa_cons (pe_bltn (v := .ty "tuple") (u := .type "tuple") (by rfl) T.tuple (by decide +kernel) rfl) pa_nil))))) (pw_or1 (pt_not (pt_val (pe_allG (k := 3) (hr.mono (by first | decide | omega)) (by rfl) z_all (by decide +kernel) TB rfl hm9 hu9 (genS1_by (sc := defScope s_are_links) (by decide +kernel)) (ix := 2) rfl sc_are_links.nd (show (".0" : Str) ∉ (["many", "value", "link"] : List Str) by decide +kernel) (PI.tupK (K := K) rfl (pi_tup (pv 1))) (fun _ _ _ _ _ _ => (pg_name (i := 2) sc_are_links.nd rfl (Or.inl rfl))) (fun _ _ _ _ _ _ hr => (pe_call G_is_link (hr.mono (by first | decide | omega)) (by rfl) D_is_link.g D_is_link.F.kp D_is_link.b .nil pass0 (pa_cons (pv 0) (pa_cons (pv 2) pa_nil))))))))))
        (pss_one (ps_ret pe_bl))
        pss_nil)
      (pss_one (ps_ret (pe_and (pe_call G_is_ascending (hr.mono (by first | decide | omega)) (by rfl) D_is_ascending.g D_is_ascending.F.kp D_is_ascending.b .nil pass0 (pa_cons (pv 1) pa_nil)) (pe_one (pe_call G_is_spanning_tree (hr.mono (by first | decide | omega)) (by rfl) D_is_spanning_tree.g D_is_spanning_tree.F.kp D_is_spanning_tree.b .nil pass0 (pa_cons (pv 0) (pa_cons (pv 1) pa_nil)))))))), ?_⟩
    refine r_at (σ := [some _, some _, none]) rfl ?_
    walk_at "z"
    refine r_isiX hd rfl (kit_tup d) ?_
    cases et : tupD d with
    | false =>
      walk_at "z"
      refine iteT ?_
      walk_at "z"
      refine q false H (.refl H) hT ⟨fun h => (nomatch h), fun ⟨ps, e, _⟩ => ?_⟩
      rw [e] at et
      cases et
    | true =>
      obtain ⟨ds, rfl⟩ := tupD_of et
      obtain ⟨D1, _, ln, lim1⟩ := limX_tup hl
      cases id hd with
      | @tup p xs _ hxs hxd =>
      have lx := hxd.len
      walk_at "z"
      refine iteF ?_
      walk_at "z"
      refine r_it (.inl hxs) ⟨hT, fun H2 e2 T2 => gall_tup (xs := xs) (fun i H' => ExtN H H' ∧ Tabs TT H' ∧ ∀ d ∈ ds.take i, edgD (m : Int) d) (by walk_at "zw") ⟨e2, T2, fun d hd => by simp at hd⟩ (fun i H' _ ⟨e3, _⟩ => .inl (hxs.ext e3)) ?_ ?_⟩
      · rintro i x H' hx ⟨e3, T3, al⟩
        obtain ⟨d, hd1, fd⟩ := pd_get (DXs.pd _ (hxd.ext e3)) hx
        walk_at "z"
        refine ⟨rfl, ?_⟩
        walk_at "z"
        refine ⟨(m : Int), x, d, rfl, fd, fun r hr4 => ?_⟩
        refine r_genE ?_
        cases r with
        | true =>
          refine iteT ⟨e3, T3, fun z hz => ?_⟩
          rw [take_next hd1] at hz
          rcases List.mem_append.mp hz with k | k
          · exact al z k
          · rw [List.mem_singleton.mp k]
            exact hr4.mp rfl
        | false =>
          refine iteF ?_
          walk_at "z"
          refine q false H' e3 T3 ⟨fun h => (nomatch h), fun ⟨L, e, bd, _⟩ => ?_⟩
          have e := PyData.tuple.inj e
          have dm := List.mem_of_getElem? hd1
          rw [e] at dm
          obtain ⟨p', hp', rfl⟩ := List.mem_map.mp dm
          have := hr4.mpr ⟨p'.1, p'.2, rfl, bd p' hp'⟩
          cases this
      · rintro H' ⟨e3, T3, al⟩
        rw [lx, List.take_length] at al
        obtain ⟨L, rfl, bd⟩ := eds_of al
        rw [List.length_map] at ln
        have hp3 := dx_prs (hxd.ext e3)
        have uniq : ∀ {L' : List (Int × Int)}, PyData.tuple (L.map prX) = .tuple (L'.map prX) → L = L' := fun e => prXs_inj (PyData.tuple.inj e)
        walk_at "z"
        refine iteF ?_
        walk_at "z"
        refine ⟨p, rfl, T3, .inr ⟨xs, L, hxs.ext e3, hp3, ln, fun r H4 e4 T4 hr4 => ?_⟩⟩
        cases r with
        | false =>
          walk_at "z"
          refine q false H4 (e3.trans e4) T4 ⟨fun h => (nomatch h), fun ⟨L', e, _, h, _⟩ => ?_⟩
          rw [← uniq e] at h
          have := hr4.mpr h
          cases this
        | true =>
          walk_at "z"
          refine ⟨m, p, xs, L, rfl, hxs.ext (e3.trans e4), hp3.ext e4, fun l hl => ?_, m1, T4, fun r H5 e5 T5 hr5 => ?_⟩
          · have := bd l hl
            unfold nodeI
            omega
          · refine q r H5 ((e3.trans e4).trans e5) T5 (hr5.trans ⟨fun h => ⟨L, rfl, bd, hr4.mp rfl, h.1, h.2⟩, fun ⟨L', e, _, _, h1, h2⟩ => ?_⟩)
            rw [← uniq e] at h1 h2
            exact ⟨h1, h2⟩
end

set_option Elab.async false
set_option linter.all false
set_option maxRecDepth 100000
set_option maxHeartbeats 4000000
open PySem PySem.Spec PyProof.Rows L2 LamX RZ

abbrev s_holds_edges : Stmt := topS 19
theorem sc_holds_edges : FnScope ["graph", "bags", "masks", "ends", "bag", "edge", "pair", "mask"] ["graph", "bags"] (defScope s_holds_edges) := ⟨rfl, rfl, rfl, by decide +kernel, rfl, by decide +kernel, by decide +kernel⟩

abbrev s_is_together : Stmt := topS 20
theorem sc_is_together : FnScope ["v", "bags", "links", "many", "joining", "link", "bag"] ["v", "bags", "links"] (defScope s_is_together) := ⟨rfl, rfl, rfl, by decide +kernel, rfl, by decide +kernel, by decide +kernel⟩

abbrev s_is_decomposition : Stmt := topS 15
theorem sc_is_decomposition : FnScope ["graph", "value", "bags", "links", "v"] ["graph", "value"] (defScope s_is_decomposition) := ⟨rfl, rfl, rfl, by decide +kernel, rfl, by decide +kernel, by decide +kernel⟩

abbrev s_width_of : Stmt := topS 21
theorem sc_width_of : FnScope ["decomposition", "bag"] ["decomposition"] (defScope s_width_of) := ⟨rfl, rfl, rfl, by decide +kernel, rfl, by decide +kernel, by decide +kernel⟩

theorem r_anyB {K : PySem.W.Frag} {H : Hp} {Q : VK} {a : Addr} {bs : List Bool} (h : H a = some (.lst (bs.map V.bl))) (q : Q (.bl (bs.any id)) H) : rAny K [.ref a] H Q := ⟨a, bs, rfl, .inl (.inl h), q⟩
theorem all_snoc {bs : List Bool} {b : Bool} : (bs ++ [b]).all id = true ↔ bs.all id = true ∧ b = true := by
  rw [List.all_append, Bool.and_eq_true]
  simp
theorem any_snoc {bs : List Bool} {b : Bool} : (bs ++ [b]).any id = true ↔ bs.any id = true ∨ b = true := by
  rw [List.any_append, Bool.or_eq_true]
  simp
/-- the value is a decomposition -/
def decX (n : Int) (ps : List (Int × Int)) (d : PyData) : Prop := ∃ (bags : List (List Int)) (L : List (Int × Int)), d = .tuple [.tuple (bags.map tI), .tuple (L.map prX)] ∧ Tdc n ps bags L ∧ NL L
theorem tdc_of {n : Int} {ps : List (Int × Int)} {bags : List (List Int)} {L : List (Int × Int)} (ne : bags ≠ []) (hb : ∀ c ∈ bags, c ≠ [] ∧ (∀ z ∈ c, 0 ≤ z ∧ z < n) ∧ adjI c) (hl : ∀ l ∈ L, 0 ≤ l.1 ∧ l.1 < l.2 ∧ l.2 < (bags.length : Int)) (ad : adjP L) (cn : L.length + 1 = bags.length) (ac : Acy L)
    (he : ∀ p ∈ ps, ∃ c ∈ bags, p.1 ∈ c ∧ p.2 ∈ c) (ht : ∀ v, 0 ≤ v → v < n → (lkV bags L v).length + 1 = (bags.filter fun b => decide (v ∈ b)).length) : Tdc n ps bags L ∧ NL L := by
  have inn : ∀ l ∈ L, nodeI bags.length l.1 ∧ nodeI bags.length l.2 := fun l h => by
    have := hl l h
    unfold nodeI
    omega
  refine ⟨⟨List.length_pos_iff.mpr ne, fun b h => ⟨adjI_pw (hb b h).2.2, (hb b h).1, (hb b h).2.1⟩, fun l h => ⟨(inn l h).1, (inn l h).2, by have := hl l h; omega⟩, cn, rg_con ac inn cn, he, fun v h0 h1 => ((tog_iff ac inn).mp (ht v h0 h1)).1, fun v a b ha hb' => ?_⟩, fun l h => (hl l h).2.1, adjP_pw ad⟩
  have := (hb _ (bag_mem ha.1)).2.1 v ha.2
  exact ((tog_iff ac inn).mp (ht v this.1 this.2)).2 a b ha hb'
theorem of_tdc {n : Int} {ps : List (Int × Int)} {bags : List (List Int)} {L : List (Int × Int)} (t : Tdc n ps bags L) (nl : NL L) : bags ≠ [] ∧ (∀ c ∈ bags, c ≠ [] ∧ (∀ z ∈ c, 0 ≤ z ∧ z < n) ∧ adjI c) ∧ (∀ l ∈ L, 0 ≤ l.1 ∧ l.1 < l.2 ∧ l.2 < (bags.length : Int)) ∧ adjP L ∧ L.length + 1 = bags.length ∧ Acy L ∧
    (∀ p ∈ ps, ∃ c ∈ bags, p.1 ∈ c ∧ p.2 ∈ c) ∧ ∀ v, 0 ≤ v → v < n → (lkV bags L v).length + 1 = (bags.filter fun b => decide (v ∈ b)).length := by
  have ac : Acy L := con_rg t.con t.cnt
  refine ⟨List.length_pos_iff.mp t.ne, fun c h => ⟨(t.st c h).2.1, (t.st c h).2.2, pw_adjI (t.st c h).1⟩, fun l h => ?_, pw_adjP nl.2, t.cnt, ac, t.ed, fun v h0 h1 => (tog_iff ac fun l h => ⟨(t.inn l h).1, (t.inn l h).2.1⟩).mpr ⟨t.ve v h0 h1, fun a b ha hb => t.vc v a b ha hb⟩⟩
  have h1 := t.inn l h
  have h2 := nl.1 l h
  unfold nodeI at h1
  omega
section
variable {P : Program} {w : World} {K : PySem.W.Frag} {mg : Str → Option Value} {base : Heap}
def spHold : Sp := fun vs H Q _ => ∃ (g : V) (n : Int) (ps : List (Int × Int)) (t : Addr) (xs : List V) (bags : List (List Int)), vs = [g, .ref t] ∧ GrAt H g n ps ∧ ST H t xs ∧ ITupsX H xs bags ∧ (∀ p ∈ ps, 0 ≤ p.1 ∧ p.1 < p.2 ∧ p.2 < 1000) ∧ (∀ c ∈ bags, ∀ z ∈ c, 0 ≤ z ∧ z < 1000) ∧ ps.length ≤ 10000 ∧ bags.length ≤ 10000 ∧
  ∀ (b : Bool) H', Same H H' → (b = true ↔ ∀ p ∈ ps, ∃ c ∈ bags, p.1 ∈ c ∧ p.2 ∈ c) → Q (.bl b) H'
theorem ok_hold (T : Blt mg) (z_all : mg "all" = none) (z_any : mg "any" = none) (D : DefAt K mg "_holds_edges" s_holds_edges ["graph", "bags"]) (D_mask_of : DefAt K mg "mask_of" s_mask_of ["members"]) (G_mask_of : FnOk P w K mg base CX0 1 D_mask_of.f D_mask_of.fd ["members"] (spMask K))
    (D_is_within : DefAt K mg "is_within" s_is_within ["part", "whole"]) (G_is_within : FnOk P w K mg base CX0 1 D_is_within.f D_is_within.fd ["part", "whole"] spWithin) : FnOk P w K mg base CX0 2 D.f D.fd ["graph", "bags"] spHold := by
  refine D.F.ok sc_holds_edges (fun vs H Q E h => ?_) (fun cdv A outer s H vs Q E hr h => ?_)
  · obtain ⟨g, n, ps, t, xs, bags, rfl, _⟩ := h
    rfl
  · obtain ⟨g, n, ps, t, xs, bags, rfl, ⟨ga, e, rfl, hg, xs0, he, hp⟩, ht, hx, bp, bb, lp, lb, q⟩ := h
    have lx : xs.length = bags.length := hx.length
    have l0 : xs0.length = ps.length := hp.length
    refine ⟨_, (pss_cons (ps_set (i := 2) sc_holds_edges.nd rfl (Or.inr rfl) (pe_lc (own := [("bag", 4)]) (by rfl) sc_holds_edges.nd (PI.tupK (K := K) rfl (pi_tup (pv 1))) (blkOk_by (own := [("bag", 4)]) (N := ["graph", "bags", "masks", "ends", "bag", "edge", "pair", "mask"]) (sc := (defScope s_holds_edges)) (by decide +kernel)) (fun _ _ _ _ _ => (pg_name (i := 4) sc_holds_edges.nd rfl (Or.inl rfl))) (fun _ _ _ _ _ => pts_nil) (fun _ _ _ _ _ => (pe_call G_mask_of (hr.mono (by first | decide | omega)) (by rfl) D_mask_of.g D_mask_of.F.kp D_mask_of.b .nil pass0 (pa_cons (pv 4) pa_nil)))))
      (pss_cons (ps_setLc (i := 3) (own := [("edge", 5)]) (by rfl) sc_holds_edges.nd rfl rfl (sw_true rfl rfl rfl (by decide +kernel)) (PI.tupK (K := K) rfl (pi_tup (pe_ix (ix_tupK (K := K) rfl) (pv 0) pe_int (fun _ _ => rfl)))) (blkOk_by (own := [("edge", 5)]) (N := ["graph", "bags", "masks", "ends", "bag", "edge", "pair", "mask"]) (sc := (defScope s_holds_edges)) (by decide +kernel)) (fun _ _ _ _ _ => (pg_name (i := 5) sc_holds_edges.nd rfl (Or.inl rfl))) (fun _ _ _ _ _ => pts_nil) (fun _ _ _ _ _ => (pe_call G_mask_of (hr.mono (by first | decide | omega)) (by rfl) D_mask_of.g D_mask_of.F.kp D_mask_of.b .nil pass0 (pa_cons (pv 5) pa_nil))))
      (pss_one (ps_ret (pe_callB (cr_allK (K := K) rfl rfl) (by rfl) z_all (by decide +kernel) (pa_cons (pe_lc (own := [("pair", 6)]) (by rfl) sc_holds_edges.nd (PI.listK (K := K) rfl (pi_list (pv 3))) (blkOk_by (own := [("pair", 6)]) (N := ["graph", "bags", "masks", "ends", "bag", "edge", "pair", "mask"]) (sc := (defScope s_holds_edges)) (by decide +kernel)) (fun _ _ _ _ _ => (pg_name (i := 6) sc_holds_edges.nd rfl (Or.inr rfl))) (fun _ _ _ _ _ => pts_nil) (fun _ _ _ _ _ => (pe_callB (cr_anyK (K := K) rfl rfl) (by rfl) z_any (by decide +kernel) (pa_cons (pe_lc (own := [("mask", 7)]) (by rfl) sc_holds_edges.nd (PI.listK (K := K) rfl (pi_list (pv 2))) (blkOk_by (own := [("mask", 7)]) (N := ["graph", "bags", "masks", "ends", "bag", "edge", "pair", "mask"]) (sc := ({ kind := .function, names := [(PySem.Str.ofString ".0", PySem.NameKind.local), (PySem.Str.ofString "pair", PySem.NameKind.cell), (PySem.Str.ofString "any", PySem.NameKind.globalImplicit), (PySem.Str.ofString "masks", PySem.NameKind.cell)], isGenerator := false, isCoroutine := false, more := [] } : PySem.Scope)) (by decide +kernel)) (fun _ _ _ _ _ => (pg_name (i := 7) sc_holds_edges.nd rfl (Or.inl rfl))) (fun _ _ _ _ _ => pts_nil) (fun _ _ _ _ _ => (pe_call G_is_within (hr.mono (by first | decide | omega)) (by rfl) D_is_within.g D_is_within.F.kp D_is_within.b .nil pass0 (pa_cons (pv 6) (pa_cons (pv 7) pa_nil))))) pa_nil)))) pa_nil)))))), ?_⟩
    refine r_at (σ := [some _, some _, none, none, none, none, none, none]) rfl ?_
    walk_at "z"
    refine r_it (.inl ht) fun c hc => lcR_tup (xs := xs) (fun m H' => Same H H' ∧ ∃ ms : List Int, H' c = some (.lst (ms.map V.int)) ∧ Paired (fun (x : Int) (ns : List Int) => Msk x (fun i => i ∈ ns)) ms (bags.take m)) (by walk_at "zw") ⟨same_new hc, [], upd_same, .nil⟩ (fun i H' _ ⟨s2, _⟩ => .inl (ht.same s2)) ?_ ?_
    · rintro m v H' hv ⟨s2, ms, hms, pms⟩
      obtain ⟨ns, hns, tv, rfl, htv⟩ := pd_get hx hv
      have il := (List.getElem?_eq_some_iff.mp hns).1
      have lms := pms.length
      rw [List.length_take] at lms
      walk_at "z"
      refine ⟨rfl, ?_⟩
      walk_at "z"
      refine ⟨tv, ns, rfl, .inr (.inl (htv.same s2)), bb ns (List.mem_of_getElem? hns), fun x mx => ?_⟩
      refine r_lce hms (small_lt (by rw [List.length_map]; omega)) ⟨same_mut s2 hc, ms ++ [x], by rw [List.map_append]; exact upd_same, ?_⟩
      rw [take_next hns]
      exact pms.snoc mx
    · rintro H1 ⟨s1, ms, hms, pms⟩
      rw [lx, List.take_length] at pms
      have hg1 := s1 _ _ hg
      have he1 := s1 _ _ he
      have hp1 := hp.tk (.of_same s1)
      have lms : ms.length = bags.length := pms.length
      walk_at "z"
      refine r_it (.inl (.inl he1)) fun d hd => lcR_tup (xs := xs0) (fun m H' => Same H1 H' ∧ ∃ es : List Int, H' d = some (.lst (es.map V.int)) ∧ Paired (fun (x : Int) (p : Int × Int) => Msk x (fun i => i ∈ [p.1, p.2])) es (ps.take m)) (by walk_at "zw") ⟨same_new hd, [], upd_same, .nil⟩ (fun i H' _ ⟨s2, _⟩ => .inl (.inl (s2 _ _ he1))) ?_ ?_
      · rintro m v H' hv ⟨s2, es, hes, pes⟩
        obtain ⟨p, hpp, tv, rfl, htv⟩ := pd_get hp1 hv
        have bpp := bp p (List.mem_of_getElem? hpp)
        have il := (List.getElem?_eq_some_iff.mp hpp).1
        have les := pes.length
        rw [List.length_take] at les
        walk_at "z"
        refine ⟨rfl, ?_⟩
        walk_at "z"
        refine ⟨tv, [p.1, p.2], rfl, .inr (.inl (.inl (s2 _ _ htv))), fun z hz => ?_, fun x mx => ?_⟩
        · rcases List.mem_cons.mp hz with k | k
          · rw [k]; omega
          · rw [List.mem_singleton.mp k]; omega
        · refine r_lce hes (small_lt (by rw [List.length_map]; omega)) ⟨same_mut s2 hd, es ++ [x], by rw [List.map_append]; exact upd_same, ?_⟩
          rw [take_next hpp]
          exact pes.snoc mx
      · rintro H2 ⟨s2, es, hes, pes⟩
        rw [l0, List.take_length] at pes
        have hms2 := s2 _ _ hms
        have s02 := s1.trans s2
        have les : es.length = ps.length := pes.length
        walk_at "z"
        refine r_il (.inl (.inl hes)) fun f hf => lcR_list (xs := es.map V.int) (fun m H' => Same H2 H' ∧ ∃ bs : List Bool, H' f = some (.lst (bs.map V.bl)) ∧ bs.length = m ∧ (bs.all id = true ↔ ∀ p ∈ ps.take m, ∃ c ∈ bags, p.1 ∈ c ∧ p.2 ∈ c)) (by walk_at "zw") ⟨same_new hf, [], upd_same, rfl, by simp⟩ (fun i H' _ ⟨s3, _⟩ => .inl (.inl (s3 _ _ hes))) ?_ ?_
        · rintro m v H3 hv ⟨s3, bs, hbs, lbs, al⟩
          rw [List.getElem?_map] at hv
          obtain ⟨x, hx1, rfl⟩ := Option.map_eq_some_iff.mp hv
          obtain ⟨p, hpp, mx⟩ := pd_get pes hx1
          have bpp := bp p (List.mem_of_getElem? hpp)
          have im := (List.getElem?_eq_some_iff.mp hx1).1
          have hms3 := s3 _ _ hms2
          walk_at "z"
          refine ⟨rfl, ?_⟩
          walk_at "z"
          refine r_il (.inl (.inl hms3)) fun k hk => lcR_list (xs := ms.map V.int) (fun m H' => Same H3 H' ∧ ∃ cs : List Bool, H' k = some (.lst (cs.map V.bl)) ∧ cs.length = m ∧ (cs.any id = true ↔ ∃ c ∈ bags.take m, p.1 ∈ c ∧ p.2 ∈ c)) (by walk_at "zw") ⟨same_new hk, [], upd_same, rfl, by simp⟩ (fun i H' _ ⟨s4, _⟩ => .inl (.inl (s4 _ _ hms3))) ?_ ?_
          · rintro j y H4 hy ⟨s4, cs, hcs, lcs, an⟩
            rw [List.getElem?_map] at hy
            obtain ⟨z, hz1, rfl⟩ := Option.map_eq_some_iff.mp hy
            obtain ⟨ns, hns, mz⟩ := pd_get pms hz1
            have ij := (List.getElem?_eq_some_iff.mp hz1).1
            walk_at "z"
            refine ⟨rfl, ?_⟩
            walk_at "z"
            refine ⟨x, z, _, _, rfl, mx, mz, fun b hb => ?_⟩
            refine r_lce hcs (small_lt (by rw [List.length_map]; omega)) ⟨same_mut s4 hk, cs ++ [b], by rw [List.map_append]; exact upd_same, by rw [List.length_append, lcs]; rfl, ?_⟩
            rw [any_snoc, an, hb, take_next hns]
            have key : (∀ i : Nat, (i : Int) ∈ [p.1, p.2] → (i : Int) ∈ ns) ↔ p.1 ∈ ns ∧ p.2 ∈ ns := by
              constructor
              · intro h
                have h1 := h p.1.toNat
                have h2 := h p.2.toNat
                rw [show ((p.1.toNat : Nat) : Int) = p.1 by omega] at h1
                rw [show ((p.2.toNat : Nat) : Int) = p.2 by omega] at h2
                exact ⟨h1 (by simp), h2 (by simp)⟩
              · rintro ⟨h1, h2⟩ i hi
                rcases List.mem_cons.mp hi with e | e
                · rw [e]; exact h1
                · rw [List.mem_singleton.mp e]; exact h2
            rw [key]
            constructor
            · rintro (⟨c, hc, h⟩ | h)
              · exact ⟨c, List.mem_append_left _ hc, h⟩
              · exact ⟨ns, by simp, h⟩
            · rintro ⟨c, hc, h⟩
              rcases List.mem_append.mp hc with e | e
              · exact .inl ⟨c, e, h⟩
              · rw [List.mem_singleton.mp e] at h
                exact .inr h
          · rintro H4 ⟨s4, cs, hcs, lcs, an⟩
            rw [List.length_map, lms, List.take_length] at an
            walk_at "z"
            refine r_anyB hcs ?_
            have hbs4 := s4 _ _ hbs
            refine r_lce hbs4 (small_lt (by rw [List.length_map]; omega)) ⟨same_mut (s3.trans s4) hf, bs ++ [cs.any id], by rw [List.map_append]; exact upd_same, by rw [List.length_append, lbs]; rfl, ?_⟩
            rw [all_snoc, al, an, take_next hpp]
            constructor
            · rintro ⟨h1, h2⟩ r hr
              rcases List.mem_append.mp hr with e | e
              · exact h1 r e
              · rw [List.mem_singleton.mp e]; exact h2
            · exact fun h => ⟨fun r hr => h r (List.mem_append_left _ hr), h p (by simp)⟩
        · rintro H3 ⟨s3, bs, hbs, lbs, al⟩
          rw [List.length_map, les, List.take_length] at al
          walk_at "z"
          refine r_all hbs ?_
          exact q _ H3 (s02.trans s3) al
def spTog : Sp := fun vs H Q _ => ∃ (v : Int) (tb tl : Addr) (xs ls : List V) (bags : List (List Int)) (L : List (Int × Int)), vs = [.int v, .ref tb, .ref tl] ∧ ST H tb xs ∧ ITupsX H xs bags ∧ ST H tl ls ∧ PrsX H ls L ∧ (∀ l ∈ L, nodeI bags.length l.1 ∧ nodeI bags.length l.2) ∧ bags.length ≤ 10000 ∧ L.length ≤ 10000 ∧
  ∀ (b : Bool) H', Same H H' → (b = true ↔ (lkV bags L v).length + 1 = (bags.filter fun c => decide (v ∈ c)).length) → Q (.bl b) H'
theorem ok_tog (T : Blt mg) (D : DefAt K mg "_is_together" s_is_together ["v", "bags", "links"]) : FnOk P w K mg base CX0 1 D.f D.fd ["v", "bags", "links"] spTog := by
  refine D.F.ok sc_is_together (fun vs H Q E h => ?_) (fun cdv A outer s H vs Q E hr h => ?_)
  · obtain ⟨v, tb, tl, xs, ls, bags, L, rfl, _⟩ := h
    rfl
  · obtain ⟨v, tb, tl, xs, ls, bags, L, rfl, htb, hx, htl, hl, nd, lb, lL, q⟩ := h
    have lx : xs.length = bags.length := hx.length
    have ll : ls.length = L.length := hl.length
    refine ⟨_, (pss_cons (ps_set (i := 3) sc_is_together.nd rfl (Or.inl rfl) (pe_callB (call_lenK (K := K) rfl) (by rfl) T.len (by decide +kernel) (pa_cons (pe_lc (own := [("bag", 6)]) (by rfl) sc_is_together.nd (PI.tupK (K := K) rfl (pi_tup (pv 1))) (blkOk_by (own := [("bag", 6)]) (N := ["v", "bags", "links", "many", "joining", "link", "bag"]) (sc := (defScope s_is_together)) (by decide +kernel)) (fun _ _ _ _ _ => (pg_name (i := 6) sc_is_together.nd rfl (Or.inl rfl))) (fun _ _ _ _ _ => (pts_one (pt_cmpR (op_inSeqK (K := K) rfl) (pv 0) (pv 6) (by rfl)))) (fun _ _ _ _ _ => (pv 6))) pa_nil)))
      (pss_cons (ps_setLc (i := 4) (own := [("link", 5)]) (by rfl) sc_is_together.nd rfl rfl (sw_true rfl rfl rfl (by decide +kernel)) (PI.tupK (K := K) rfl (pi_tup (pv 2))) (blkOk_by (own := [("link", 5)]) (N := ["v", "bags", "links", "many", "joining", "link", "bag"]) (sc := (defScope s_is_together)) (by decide +kernel)) (fun _ _ _ _ _ => (pg_name (i := 5) sc_is_together.nd rfl (Or.inl rfl))) (fun _ _ _ _ _ => (pts_one (PW.pt (pw_and (pt_cmpR (op_inSeqK (K := K) rfl) (pv 0) (pe_ix (ix_tupK (K := K) rfl) (pv 1) (pe_ix (ix_tupK (K := K) rfl) (pv 5) pe_int (fun _ _ => rfl)) (fun _ _ => rfl)) (by rfl)) (pw_and1 (pt_cmpR (op_inSeqK (K := K) rfl) (pv 0) (pe_ix (ix_tupK (K := K) rfl) (pv 1) (pe_ix (ix_tupK (K := K) rfl) (pv 5) pe_int (fun _ _ => rfl)) (fun _ _ => rfl)) (by rfl))))))) (fun _ _ _ _ _ => (pv 5)))
      (pss_one (ps_ret (pe_cmpR op_eq (pe_callB (call_lenK (K := K) rfl) (by rfl) T.len (by decide +kernel) (pa_cons (pv 4) pa_nil)) (pe_op op_sub (pv 3) pe_int) (nomark _)))))), ?_⟩
    refine r_at (σ := [some _, some _, some _, none, none, none, none]) rfl ?_
    walk_at "z"
    refine r_it (.inl htb) fun c hc => lcR_tup (xs := xs) (fun m H' => Same H H' ∧ ∃ zs : List V, H' c = some (.lst zs) ∧ zs.length = ((bags.take m).filter fun c => decide (v ∈ c)).length) (by walk_at "zw") ⟨same_new hc, [], upd_same, rfl⟩ (fun i H' _ ⟨s2, _⟩ => .inl (htb.same s2)) ?_ ?_
    · rintro m y H' hy ⟨s2, zs, hzs, lz⟩
      obtain ⟨ns, hns, tv, rfl, htv⟩ := pd_get hx hy
      have il := (List.getElem?_eq_some_iff.mp hns).1
      have lz1 : zs.length ≤ m := by
        have := List.length_filter_le (fun c => decide (v ∈ c)) (bags.take m)
        rw [List.length_take] at this
        omega
      have e9 : ((bags.take (m + 1)).filter fun c => decide (v ∈ c)) = ((bags.take m).filter fun c => decide (v ∈ c)) ++ (if v ∈ ns then [ns] else []) := by
        rw [take_next hns, List.filter_append, List.filter_cons, List.filter_nil]
        by_cases c : v ∈ ns <;> simp [c]
      walk_at "z"
      refine ⟨rfl, ?_⟩
      walk_at "z"
      refine r_inI (.inr (.inl (htv.same s2))) ?_
      walk_at "z"
      refine r_ite (fun c1 => ?_) (fun c1 => ?_)
      · walk_at "z"
        refine r_lce hzs (small_lt (by omega)) ⟨same_mut s2 hc, _, upd_same, ?_⟩
        rw [e9, if_pos c1, List.length_append, List.length_append, lz]
        rfl
      · refine ⟨s2, zs, hzs, ?_⟩
        rw [e9, if_neg c1, List.append_nil]
        exact lz
    · rintro H1 ⟨s1, zs, hzs, lz⟩
      rw [lx, List.take_length] at lz
      walk_at "z"
      refine r_it (.inl (htl.same s1)) fun d hd => lcR_tup (xs := ls) (fun m H' => Same H1 H' ∧ ∃ us : List V, H' d = some (.lst us) ∧ us.length = (lkV bags (L.take m) v).length) (by walk_at "zw") ⟨same_new hd, [], upd_same, rfl⟩ (fun i H' _ ⟨s2, _⟩ => .inl (htl.same (s1.trans s2))) ?_ ?_
      · rintro m y H' hy ⟨s2, us, hus, lu⟩
        have s02 := s1.trans s2
        obtain ⟨⟨i, j⟩, hlm, ty, rfl, hty⟩ := pd_get hl hy
        obtain ⟨ni, nj⟩ := nd _ (List.mem_of_getElem? hlm)
        dsimp only at ni nj hty
        have hty2 := hty.same s02
        have htb2 := htb.same s02
        have a0 : atI [V.int i, V.int j] 0 = some (.int i) := atI_nat (j := 0) rfl
        have a1 : atI [V.int i, V.int j] 1 = some (.int j) := atI_nat (j := 1) rfl
        have bg : ∀ {i : Int}, nodeI bags.length i → ∃ x, atI xs i = some (.ref x) ∧ ST H' x ((bagAt bags i).map V.int) := fun {i} n => by
          obtain ⟨x, hx2, tx, rfl, htx⟩ := pd_get2 hx (bag_get n)
          obtain ⟨k, rfl, hk⟩ := natI n
          exact ⟨tx, atI_nat (by simpa using hx2), htx.same s02⟩
        obtain ⟨xi, ai, hxi⟩ := bg ni
        obtain ⟨xj, aj, hxj⟩ := bg nj
        have il := (List.getElem?_eq_some_iff.mp hlm).1
        have lu1 : us.length ≤ m := by
          have := List.length_filter_le (fun l : Int × Int => decide (v ∈ bagAt bags l.1) && decide (v ∈ bagAt bags l.2)) (L.take m)
          rw [List.length_take] at this
          unfold lkV at lu
          omega
        have e9 : lkV bags (L.take (m + 1)) v = lkV bags (L.take m) v ++ (if v ∈ bagAt bags i ∧ v ∈ bagAt bags j then [(i, j)] else []) := by
          unfold lkV
          rw [take_next hlm, List.filter_append, List.filter_cons, List.filter_nil]
          by_cases c1 : v ∈ bagAt bags i <;> by_cases c2 : v ∈ bagAt bags j <;> simp [c1, c2]
        have no : ¬ (v ∈ bagAt bags i ∧ v ∈ bagAt bags j) → Same H1 H' ∧ ∃ us : List V, H' d = some (.lst us) ∧ us.length = (lkV bags (L.take (m + 1)) v).length := fun n => ⟨s2, us, hus, by rw [e9, if_neg n, List.append_nil]; exact lu⟩
        walk_at "z"
        refine ⟨rfl, ?_⟩
        walk_at "z"
        refine r_ixT (.inl hty2) a0 ?_
        walk_at "z"
        refine r_ixT (.inl htb2) ai ?_
        walk_at "z"
        refine r_inI (.inr (.inl hxi)) ?_
        walk_at "z"
        refine r_ite (fun c1 => ?_) (fun c1 => ?_)
        · walk_at "z"
          refine r_ixT (.inl hty2) a1 ?_
          walk_at "z"
          refine r_ixT (.inl htb2) aj ?_
          walk_at "z"
          refine r_inI (.inr (.inl hxj)) ?_
          walk_at "z"
          refine r_ite (fun c2 => ?_) (fun c2 => ?_)
          · walk_at "z"
            refine r_lce hus (small_lt (by omega)) ⟨same_mut s2 hd, _, upd_same, ?_⟩
            rw [e9, if_pos ⟨c1, c2⟩, List.length_append, List.length_append, lu]
            rfl
          · exact no fun h => c2 h.2
        · exact iteF (no fun h => c1 h.1)
      · rintro H2 ⟨s2, us, hus, lu⟩
        rw [ll, List.take_length] at lu
        walk_at "z"
        refine q _ H2 (s1.trans s2) (decide_eq_true_iff.trans ?_)
        rw [lu, lz]
        omega
def spDecX (b : Addr) (TT : List (Addr × Str)) : Sp := fun vs H Q _ => ∃ (g : V) (n : Int) (ps : List (Int × Int)) (v : V) (d : PyData), vs = [g, v] ∧ GrAt H g n ps ∧ (∀ p ∈ ps, 0 ≤ p.1 ∧ p.1 < p.2 ∧ p.2 < n) ∧ 0 ≤ n ∧ n ≤ 100 ∧ ps.length ≤ 10000 ∧ DX b H v d ∧ (∃ D, limX D 1000 d) ∧ Tabs TT H ∧
  ∀ (r : Bool) H', ExtN H H' → Tabs TT H' → (r = true ↔ decX n ps d) → Q (.bl r) H'
theorem ok_decX {b : Addr} {TT : List (Addr × Str)} (T : Blt mg) (z_all : mg "all" = none) (D : DefAt K mg "is_decomposition" s_is_decomposition ["graph", "value"]) (D_is_tuple : DefAt K mg "is_tuple" s_is_tuple ["value", "many"]) (G_is_tuple : FnOk P w K mg base CX0 1 D_is_tuple.f D_is_tuple.fd ["value", "many"] (spTupX b))
    (D_are_bags : DefAt K mg "_are_bags" s_are_bags ["n", "value"]) (G_are_bags : FnOk P w K mg base CX0 13 D_are_bags.f D_are_bags.fd ["n", "value"] (spBags b TT)) (D_are_links : DefAt K mg "_are_links" s_are_links ["many", "value"]) (G_are_links : FnOk P w K mg base CX0 8 D_are_links.f D_are_links.fd ["many", "value"] (spLinks b TT))
    (D_holds_edges : DefAt K mg "_holds_edges" s_holds_edges ["graph", "bags"]) (G_holds_edges : FnOk P w K mg base CX0 2 D_holds_edges.f D_holds_edges.fd ["graph", "bags"] spHold) (D_is_together : DefAt K mg "_is_together" s_is_together ["v", "bags", "links"]) (G_is_together : FnOk P w K mg base CX0 1 D_is_together.f D_is_together.fd ["v", "bags", "links"] spTog) :
    FnOk P w K mg base CX0 14 D.f D.fd ["graph", "value"] (spDecX b TT) := by
  refine D.F.ok sc_is_decomposition (fun vs H Q E h => ?_) (fun cdv A outer s H vs Q E hr h => ?_)
  · obtain ⟨g, n, ps, v, d, rfl, _⟩ := h
    rfl
  · obtain ⟨g, n, ps, v, d, rfl, hgr, bp, n0, n1, lp, hd, ⟨DD, hl⟩, hT, q⟩ := h
    obtain ⟨ga, ge, rfl, hg, xs0, he, hpr⟩ := id hgr
    refine ⟨_, (pss_cons (ps_if (pt_not (pt_val (pe_call G_is_tuple (hr.mono (by first | decide | omega)) (by rfl) D_is_tuple.g D_is_tuple.F.kp D_is_tuple.b .nil pass0 (pa_cons (pv 1) (pa_cons pe_int pa_nil)))))
        (pss_one (ps_ret pe_bl))
        pss_nil)
      (pss_cons (ps_asg (pv 1) (PG.tupK (K := K) rfl (pg_tup (n := 2) rfl (pgs_cons (pg_name (i := 2) sc_is_decomposition.nd rfl (Or.inr rfl)) (pgs_cons (pg_name (i := 3) sc_is_decomposition.nd rfl (Or.inr rfl)) pgs_nil)))))
      (pss_cons (ps_if (PW.pt (pw_or (pt_not (pt_val (pe_call G_are_bags (hr.mono (by first | decide | omega)) (by rfl) D_are_bags.g D_are_bags.F.kp D_are_bags.b .nil pass0 (pa_cons (pe_ix (ix_tupK (K := K) rfl) (pv 0) pe_int (fun _ _ => rfl)) (pa_cons (pv 2) pa_nil))))) (pw_or1 (pt_not (pt_val (pe_call G_are_links (hr.mono (by first | decide | omega)) (by rfl) D_are_links.g D_are_links.F.kp D_are_links.b .nil pass0 (pa_cons (pe_callB (call_lenK (K := K) rfl) (by rfl) T.len (by decide +kernel) (pa_cons (pv 2) pa_nil)) (pa_cons (pv 3) pa_nil))))))))
        (pss_one (ps_ret pe_bl))
        pss_nil)
      (pss_one (ps_ret (pe_and (pe_call G_holds_edges (hr.mono (by first | decide | omega)) (by rfl) D_holds_edges.g D_holds_edges.F.kp D_holds_edges.b .nil pass0 (pa_cons (pv 0) (pa_cons (pv 2) pa_nil))) (pe_one (pe_callB (cr_allK (K := K) rfl rfl) (by rfl) z_all (by decide +kernel) (pa_cons (pe_lc (own := [("v", 4)]) (by rfl) sc_is_decomposition.nd (pi_range1 (by rfl) T.range (pa_cons (pe_ix (ix_tupK (K := K) rfl) (pv 0) pe_int (fun _ _ => rfl)) pa_nil)) (blkOk_by (own := [("v", 4)]) (N := ["graph", "value", "bags", "links", "v"]) (sc := (defScope s_is_decomposition)) (by decide +kernel)) (fun _ _ _ _ _ => (pg_name (i := 4) sc_is_decomposition.nd rfl (Or.inl rfl))) (fun _ _ _ _ _ => pts_nil) (fun _ _ _ _ _ => (pe_call G_is_together (hr.mono (by first | decide | omega)) (by rfl) D_is_together.g D_is_together.F.kp D_is_together.b .nil pass0 (pa_cons (pv 4) (pa_cons (pv 2) (pa_cons (pv 3) pa_nil)))))) pa_nil))))))))), ?_⟩
    refine r_at (σ := [some _, some _, none, none, none]) rfl ?_
    walk_at "z"
    refine ⟨v, d, 2, rfl, hd, ?_⟩
    cases e : lenD 2 d with
    | false =>
      walk_at "z"
      refine iteT ?_
      walk_at "z"
      refine q false H (.refl H) hT ⟨fun h => (nomatch h), fun ⟨bags, L, ed, _⟩ => ?_⟩
      rw [ed] at e
      cases e
    | true =>
      obtain ⟨ds, rfl, l2⟩ : ∃ ds, d = .tuple ds ∧ ds.length = 2 := by
        cases d with
        | tuple ds => exact ⟨ds, rfl, by have := of_decide_eq_true e; omega⟩
        | _ => exact absurd e Bool.false_ne_true
      match ds, l2 with
      | [d1, d2], _ =>
      obtain ⟨D1, _, _, lim1⟩ := limX_tup hl
      have lm1 := lim1 d1 (by simp)
      have lm2 := lim1 d2 (by simp)
      cases id hd with
      | @tup p xs _ hxs hxd =>
      cases hxd with
      | @cons x1 _ _ _ hd1 hr1 =>
      cases hr1 with
      | @cons x2 _ _ _ hd2 hr2 =>
      cases hr2
      walk_at "z"
      refine iteF ?_
      walk_at "z"
      refine r_gtup (.inl hxs) rfl ?_
      walk_at "z"
      refine ⟨n, x1, d1, rfl, hd1, ⟨D1, limX.mono (by omega) (Nat.le_refl _) lm1⟩, hT, fun r H1 e1 T1 hr1 => ?_⟩
      cases r with
      | false =>
        walk_at "z"
        refine iteT ?_
        walk_at "z"
        refine q false H1 e1 T1 ⟨fun h => (nomatch h), fun ⟨bags, L, ed, t, nl⟩ => ?_⟩
        have := PyData.tuple.inj ed
        simp only [List.cons.injEq, and_true] at this
        obtain ⟨o1, o2, _⟩ := of_tdc t nl
        have := hr1.mpr ⟨bags, this.1, o1, o2⟩
        cases this
      | true =>
        obtain ⟨bags, rfl, b1, b2⟩ := hr1.mp rfl
        obtain ⟨_, _, lb, _⟩ := limX_tup lm1
        rw [List.length_map] at lb
        cases hd1 with
        | @tup tb xb _ htb hxb =>
        have hbx := dx_tups hxb
        have lxb : xb.length = bags.length := hbx.length
        have htb1 := htb.ext e1
        have hq1 : SqT K H1 tb xb := .inl htb1
        walk_at "z"
        refine iteF ?_
        walk_at "z"
        refine ⟨bags.length, x2, d2, by rw [lxb]; rfl, hd2.ext e1, ⟨D1, limX.mono (by omega) (Nat.le_refl _) lm2⟩, lb, T1, fun r H2 e2 T2 hr2 => ?_⟩
        have e02 := e1.trans e2
        have uniq : ∀ {bags' : List (List Int)} {L' : List (Int × Int)}, PyData.tuple [.tuple (bags.map tI), d2] = .tuple [.tuple (bags'.map tI), .tuple (L'.map prX)] → bags = bags' ∧ d2 = .tuple (L'.map prX) := fun ed => by
          have := PyData.tuple.inj ed
          simp only [List.cons.injEq, and_true] at this
          exact ⟨tIs_inj (PyData.tuple.inj this.1), this.2⟩
        cases r with
        | false =>
          walk_at "z"
          refine iteT ?_
          walk_at "z"
          refine q false H2 e02 T2 ⟨fun h => (nomatch h), fun ⟨bags', L, ed, t, nl⟩ => ?_⟩
          obtain ⟨u1, u2⟩ := uniq ed
          obtain ⟨_, _, o3, o4, o5, o6, _⟩ := of_tdc t nl
          rw [← u1] at o3 o5
          have := hr2.mpr ⟨L, u2, o3, o4, o5, o6⟩
          cases this
        | true =>
          obtain ⟨L, rfl, l1, l2, l3, l4⟩ := hr2.mp rfl
          cases hd2 with
          | @tup tl xl _ htl hxl =>
          have hlx := dx_prs hxl
          have whole : ∀ r : Bool, (r = true ↔ (∀ p ∈ ps, ∃ c ∈ bags, p.1 ∈ c ∧ p.2 ∈ c) ∧ ∀ v, 0 ≤ v → v < n → (lkV bags L v).length + 1 = (bags.filter fun b => decide (v ∈ b)).length) → ∀ H', ExtN H H' → Tabs TT H' → Q (.bl r) H' := fun r hr H' e T => q r H' e T (hr.trans ⟨fun ⟨h1, h2⟩ => by
            obtain ⟨t, nl⟩ := tdc_of b1 b2 l1 l2 l3 l4 h1 h2
            exact ⟨bags, L, rfl, t, nl⟩, fun ⟨bags', L', ed, t, nl⟩ => by
            obtain ⟨u1, u2⟩ := uniq ed
            have u3 := prXs_inj (PyData.tuple.inj u2)
            subst u1
            subst u3
            obtain ⟨_, _, _, _, _, _, o7, o8⟩ := of_tdc t nl
            exact ⟨o7, o8⟩⟩)
          have hgr2 := hgr.tk (ext_tk e02)
          have hg2 := ext_tup e02 hg
          walk_at "z"
          refine iteF ?_
          walk_at "z"
          refine ⟨.ref ga, n, ps, tb, xb, bags, rfl, hgr2, htb.ext e02, hbx.ext e02, fun p hp => by have := bp p hp; omega, fun c hc z hz => by have := (b2 c hc).2.1 z hz; omega, lp, by omega, fun r H3 s3 hr3 => ?_⟩
          have e03 := e02.trans (ext_same s3)
          have T3 := tabs_same T2 s3
          cases r with
          | false =>
            walk_at "z"
            exact whole false ⟨fun h => (nomatch h), fun h => by have := hr3.mpr h.1; cases this⟩ H3 e03 T3
          | true =>
            have hold := hr3.mp rfl
            have hg3 := s3 _ _ hg2
            walk_at "z"
            obtain ⟨N, rfl⟩ : ∃ N : Nat, n = (N : Int) := ⟨n.toNat, by omega⟩
            refine r_rg1 (by omega) fun f hf => lcR_range (fun m H' => Same H3 H' ∧ ∃ bs : List Bool, H' f = some (.lst (bs.map V.bl)) ∧ bs.length = m ∧ (bs.all id = true ↔ ∀ v : Int, 0 ≤ v → v < (m : Int) → (lkV bags L v).length + 1 = (bags.filter fun b => decide (v ∈ b)).length)) (by walk_at "zw") ⟨same_new hf, [], upd_same, rfl, by simp; omega⟩ ?_ ?_
            · rintro m H4 hm ⟨s4, bs, hbs, lbs, al⟩
              have e04 := e03.trans (ext_same s4)
              have em : (0 : Int) + (m : Int) = (m : Int) := by omega
              walk_at "z"
              refine ⟨rfl, ?_⟩
              walk_at "z"
              refine ⟨(0 : Int) + (m : Int), tb, tl, xb, xl, bags, L, rfl, htb.ext e04, hbx.ext e04, htl.ext e04, hlx.ext e04, fun l hl => by have := l1 l hl; unfold nodeI; omega, by omega, by omega, fun b5 H5 s5 hb5 => ?_⟩
              have hbs5 := s5 _ _ hbs
              refine r_lce hbs5 (small_lt (by rw [List.length_map]; omega)) ⟨same_mut (s4.trans s5) hf, bs ++ [b5], by rw [List.map_append]; exact upd_same, by rw [List.length_append, lbs]; rfl, ?_⟩
              rw [all_snoc, al, hb5, em]
              constructor
              · rintro ⟨h1, h2⟩ v v0 v1
                by_cases c : v = (m : Int)
                · rw [c]; exact h2
                · exact h1 v v0 (by omega)
              · exact fun h => ⟨fun v v0 v1 => h v v0 (by omega), h (m : Int) (by omega) (by omega)⟩
            · rintro H4 ⟨s4, bs, hbs, lbs, al⟩
              walk_at "z"
              refine r_all hbs ?_
              refine whole _ (al.trans ⟨fun h => ⟨hold, fun v v0 v1 => h v v0 (by omega)⟩, fun h v v0 v1 => h.2 v v0 (by omega)⟩) H4 (e03.trans (ext_same s4)) (tabs_same T3 s4)
def spWid : Sp := fun vs H Q _ => ∃ (t tb : Addr) (l : V) (xs : List V) (bags : List (List Int)), vs = [.ref t] ∧ ST H t [.ref tb, l] ∧ ST H tb xs ∧ ITupsX H xs bags ∧ bags ≠ [] ∧ bags.length ≤ 10000 ∧
  ∀ (m : Int) H', Same H H' → (∃ c ∈ bags, m = (c.length : Int) - 1) → (∀ c ∈ bags, (c.length : Int) - 1 ≤ m) → Q (.int m) H'
theorem ok_wid (T : Blt mg) (D : DefAt K mg "width_of" s_width_of ["decomposition"]) : FnOk P w K mg base CX0 1 D.f D.fd ["decomposition"] spWid := by
  refine D.F.ok sc_width_of (fun vs H Q E h => ?_) (fun cdv A outer s H vs Q E hr h => ?_)
  · obtain ⟨t, tb, l, xs, bags, rfl, _⟩ := h
    rfl
  · obtain ⟨t, tb, l, xs, bags, rfl, ht, htb, hx, ne, lb, q⟩ := h
    have lx : xs.length = bags.length := hx.length
    have a0 : atI [V.ref tb, l] 0 = some (.ref tb) := atI_nat (j := 0) rfl
    refine ⟨_, (pss_one (ps_ret (pe_op op_sub (pe_callB (cr_maxLK (K := K) rfl rfl) (by rfl) T.max (by decide +kernel) (pa_cons (pe_lc (own := [("bag", 1)]) (by rfl) sc_width_of.nd (PI.tupK (K := K) rfl (pi_tup (pe_ix (ix_tupK (K := K) rfl) (pv 0) pe_int (fun _ _ => rfl)))) (blkOk_by (own := [("bag", 1)]) (N := ["decomposition", "bag"]) (sc := (defScope s_width_of)) (by decide +kernel)) (fun _ _ _ _ _ => (pg_name (i := 1) sc_width_of.nd rfl (Or.inl rfl))) (fun _ _ _ _ _ => pts_nil) (fun _ _ _ _ _ => (pe_callB (call_lenK (K := K) rfl) (by rfl) T.len (by decide +kernel) (pa_cons (pv 1) pa_nil)))) pa_nil)) pe_int))), ?_⟩
    refine r_at (σ := [some _, none]) rfl ?_
    walk_at "z"
    refine r_ixT (.inl ht) a0 ?_
    walk_at "z"
    refine r_it (.inl htb) fun c hc => lcR_tup (xs := xs) (fun m H' => Same H H' ∧ H' c = some (.lst (((bags.take m).map fun c => (c.length : Int)).map V.int))) (by walk_at "zw") ⟨same_new hc, upd_same⟩ (fun i H' _ ⟨s2, _⟩ => .inl (htb.same s2)) ?_ ?_
    · rintro m y H' hy ⟨s2, hcs⟩
      obtain ⟨ns, hns, tv, rfl, htv⟩ := pd_get hx hy
      have il := (List.getElem?_eq_some_iff.mp hns).1
      have hq : SqT K H' tv (ns.map V.int) := .inl (htv.same s2)
      walk_at "z"
      refine ⟨rfl, ?_⟩
      walk_at "z"
      rw [List.length_map]
      refine r_lce hcs (small_lt (by rw [List.length_map, List.length_map, List.length_take]; omega)) ⟨same_mut s2 hc, ?_⟩
      rw [take_next hns, List.map_append, List.map_append]
      exact upd_same
    · rintro H1 ⟨s1, hcs⟩
      rw [lx, List.take_length] at hcs
      walk_at "z"
      refine r_maxL (.inl (.inl hcs)) (by rw [List.length_map]; exact List.length_pos_iff.mpr ne) fun m hm hx => ?_
      walk_at "z"
      obtain ⟨c, hc, rfl⟩ := List.mem_map.mp hm
      exact q _ H1 s1 ⟨c, hc, rfl⟩ fun c' hc' => by
        have := hx _ (List.mem_map.mpr ⟨c', hc', rfl⟩)
        omega
end

set_option Elab.async false
set_option linter.all false
set_option maxRecDepth 100000
set_option maxHeartbeats 4000000
open PySem PySem.Spec PyProof.Rows L2 LamX RZ
section
variable {X : Cx}
/-- x in t, t a tuple of pairs that may be frozen -/
def rInX (K : PySem.W.Frag) : R2 := fun x y H Q => ∃ (p : Int × Int) (b : Addr) (xs : List V) (ps : List (Int × Int)), IsP H x p ∧ y = .ref b ∧ SqT K H b xs ∧ PrsX H xs ps ∧ Q (.bl (decide (p ∈ ps))) H
theorem op_inXD {k : Nat} (hr : Room k X.A) : OpR X (compareOp .In) (rInX X.K) := by
  intro pins s σ H x y v u Q I rx ry h
  obtain ⟨p, b, xs, ps, hx, rfl, hb, hp, q⟩ := h
  obtain ⟨as, r1⟩ := Dp.reads I (prD2 p) x v hx.dp rx
  obtain ⟨bs, r2⟩ := Dp.reads I (.tuple (ps.map prD2)) (.ref b) u (.tup hb hp.dps) ry
  exact SeqAt.in_tuple_reads r2 r1 (prD2s_lay ps) (prD2_lay p) (roomP hr.units p) ⟨.bl _, H, I, rfl, by rw [prD2s_any]; exact q⟩
theorem op_inXK {K : PySem.W.Frag} {k : Nat} (h : X.K = K) (hr : Room k X.A) : OpR X (compareOp .In) (rInX K) := h ▸ op_inXD hr
end

abbrev s_law_is_row : Stmt := topS 49
theorem sc_law_is_row : FnScope ["graph", "value", "v"] ["graph", "value"] (defScope s_law_is_row) := ⟨rfl, rfl, rfl, by decide +kernel, rfl, by decide +kernel, by decide +kernel⟩

abbrev s_law_is_set : Stmt := topS 50
theorem sc_law_is_set : FnScope ["graph", "value"] ["graph", "value"] (defScope s_law_is_set) := ⟨rfl, rfl, rfl, by decide +kernel, rfl, by decide +kernel, by decide +kernel⟩

def fI : V → PyData
  | .int i => .int i
  | _ => .none
theorem mkI : ∀ {ys : List V} {es : List PyData}, ys.length = es.length → (∀ z ∈ ys.zip es, ∃ i : Int, z = (V.int i, PyData.int i)) → ∃ qs : List Int, es = qs.map PyData.int ∧ ys = qs.map V.int
  | [], [], _, _ => ⟨[], rfl, rfl⟩
  | [], _ :: _, h, _ => by simp at h
  | _ :: _, [], h, _ => by simp at h
  | y :: ys, e :: es, h, k => by
    obtain ⟨qs, e1, h1⟩ := mkI (ys := ys) (es := es) (by simpa using h) fun z hz => k z (by rw [List.zip_cons_cons]; exact List.mem_cons_of_mem _ hz)
    obtain ⟨i, e2⟩ := k (y, e) (by rw [List.zip_cons_cons]; exact List.mem_cons_self)
    have e3 : y = V.int i := congrArg Prod.fst e2
    have e4 : e = PyData.int i := congrArg Prod.snd e2
    exact ⟨i :: qs, by rw [e1, e4]; rfl, by rw [h1, e3]; rfl⟩
theorem perm_I {qs ns : List Int} (h : (qs.map PyData.int).Perm (ns.map PyData.int)) : qs.Perm ns := by
  have := h.map (fun d => match d with | PyData.int a => a | _ => 0)
  rw [List.map_map, List.map_map] at this
  have e : ((fun d => match d with | PyData.int a => a | _ => (0 : Int)) ∘ PyData.int) = id := funext fun p => rfl
  rw [e, List.map_id, List.map_id] at this
  exact this
theorem sortI {ns : List Int} {ys : List V} {es : List PyData} (z : (ys.zip es).Perm ((ns.map V.int).zip (ns.map PyData.int))) (l : ys.length = es.length) (pe : es.Perm (ns.map PyData.int)) (pw : es.Pairwise fun d e => PySem.W.dataLt e d = false) :
    ∃ qs : List Int, ys = qs.map V.int ∧ qs.Perm ns ∧ qs.Pairwise (· ≤ ·) := by
  obtain ⟨qs, rfl, rfl⟩ := mkI l fun w hw => by
    have := z.mem_iff.mp hw
    rw [List.zip_map'] at this
    obtain ⟨i, _, rfl⟩ := List.mem_map.mp this
    exact ⟨i, rfl⟩
  refine ⟨qs, rfl, perm_I pe, (List.pairwise_map.mp pw).imp fun {a b} h => ?_⟩
  rw [PySem.W.dataLt_int] at h
  have := of_decide_eq_false h
  omega
theorem al_I (ns : List Int) : PySem.W.AllAlike (ns.map PyData.int) := PySem.W.AllAlike.of (enc := PyData.int) fun b b' => by simp [PySem.W.alike]
theorem so_I (ns : List Int) : PySem.W.Sortable (ns.map PyData.int) := PySem.W.Sortable.others (enc := PyData.int) fun b => ⟨by simp, fun xs => by simp⟩
theorem lstI_eqv (ns ms : List Int) : PyData.eqv (.list (ns.map PyData.int)) (.list (ms.map PyData.int)) = decide (ns = ms) := by
  simp only [PyData.eqv]
  exact eqvI ns ms
theorem lstI_sh (ns : List Int) : SeqAt.shaped (.list (ns.map PyData.int)) = true := shaped_of (lstI_lay ns) (by have := lstI_depth ns; omega)
theorem ints_all : ∀ {ds : List PyData}, (∀ d ∈ ds, intD d = true) → ∃ ns : List Int, ds = ns.map PyData.int
  | [], _ => ⟨[], rfl⟩
  | d :: ds, h => by
    obtain ⟨ns, rfl⟩ := ints_all (ds := ds) fun x hx => h x (List.mem_cons_of_mem _ hx)
    have h1 := h d List.mem_cons_self
    cases d with
    | int i => exact ⟨i :: ns, rfl⟩
    | _ => exact absurd h1 Bool.false_ne_true
/-- a graph whose edges may be frozen tuples -/
def GrX (H : Hp) (v : V) (n : Int) (ps : List (Int × Int)) : Prop := ∃ (g e : Addr) (xs : List V), v = .ref g ∧ H g = some (.tup [.int n, .ref e]) ∧ ST H e xs ∧ PrsX H xs ps
theorem GrX.same {H H' : Hp} (s : Same H H') {v : V} {n : Int} {ps : List (Int × Int)} (h : GrX H v n ps) : GrX H' v n ps := by
  obtain ⟨g, e, xs, rfl, h1, h2, h3⟩ := h
  exact ⟨g, e, xs, rfl, s _ _ h1, h2.same s, h3.same s⟩
def rowX (n : Int) (d : PyData) : Prop := ∃ ns : List Int, d = tI ns ∧ (∀ z ∈ ns, 0 ≤ z ∧ z < n) ∧ ns.Nodup
section
variable {P : Program} {w : World} {K : PySem.W.Frag} {mg : Str → Option Value} {base : Heap}
theorem r_sortITX {a : Addr} {ns : List Int} {H : Hp} {Q : VK} (h : SqT K H a (ns.map V.int)) (q : ∀ (qs : List Int) p, qs.Perm ns → qs.Pairwise (· ≤ ·) → H p = none → Q (.ref p) (upd H p (.lst (qs.map V.int)))) : rSortDT K [.ref a] H Q :=
  ⟨a, ns.map V.int, ns.map PyData.int, rfl, h, dps_int ns, al_I ns, so_I ns, by have := depI ns; omega, fun ys es p z l pm pe _ pw hn => by
    obtain ⟨qs, rfl, h1, h2⟩ := sortI z l pe pw
    exact q qs p h1 h2 hn⟩
def spDisJ (K : PySem.W.Frag) : Sp := fun vs H Q _ => ∃ (l : Addr) (ns : List Int), vs = [.ref l] ∧ SqL K H l (ns.map V.int) ∧ ns.length ≤ 100000 ∧
  ∀ (f : Addr) (qs : List Int) (H' : Hp), Same H H' → H' f = some (.lst (qs.map V.int)) → qs.Pairwise (· < ·) → (∀ p, p ∈ qs ↔ p ∈ ns) → Q (.ref f) H'
theorem ok_disJ (T : Blt mg) (D : DefAt K mg "_law_distinct" s_law_distinct ["rows"]) : FnOk P w K mg base CX0 1 D.f D.fd ["rows"] (spDisJ K) := by
  refine D.F.ok sc_law_distinct (fun vs H Q E h => ?_) (fun cdv A outer s H vs Q E hr h => ?_)
  · obtain ⟨l, ns, rfl, _⟩ := h
    rfl
  · obtain ⟨l, ns, rfl, hl, hlen, q⟩ := h
    refine ⟨_, (pss_cons (ps_set (i := 1) sc_law_distinct.nd rfl (Or.inl rfl) (pe_lst pa_nil))
      (pss_cons (ps_for PassesOwn.never (by rfl) (PI.listK (K := K) rfl (pi_list (pe_callB (cr_sortDK (K := K) rfl hr.units) (by rfl) T.sorted (by decide +kernel) (pa_cons (pv 0) pa_nil)))) (pg_name (i := 2) sc_law_distinct.nd rfl (Or.inl rfl))
        (pss_one (ps_if (PW.pt (pw_or (pt_cmpR (op_eqDK (K := K) rfl hr.units) (pv 1) (pe_lst pa_nil) (nomark _)) (pw_or1 (pt_cmpR (op_neDK (K := K) rfl hr.units) (pe_ix (ix_listK (K := K) rfl) (pv 1) (pe_un un_neg pe_int) (fun _ _ => rfl)) (pv 2) (nomark _)))))
          (pss_one (ps_expr (PE.bmK (K := K) rfl (pe_bm PySem.F.plainAttrs_list PySem.F.slot_list_append PySem.F.type_list_append mt_append (pv 1) (pa_cons (pv 2) pa_nil)))))
          pss_nil)))
      (pss_one (ps_ret (pv 1))))), ?_⟩
    refine r_at (σ := [some _, none, none]) rfl ?_
    walk_at "z"
    refine r_lstN (by decide) fun f hf => ?_
    walk_at "z"
    have s1 : Same H (upd H f (.lst [])) := same_new hf
    refine ⟨l, ns.map V.int, ns.map PyData.int, rfl, s1.seq hl, dps_int ns, al_I ns, so_I ns, by have := depI ns; omega, fun ys es p z ln pmv pme _ pw hn => ?_⟩
    obtain ⟨qs, rfl, pm, pwq⟩ := sortI z ln pme pw
    have s2 : Same H (upd (upd H f (.lst [])) p (.lst (qs.map V.int))) := s1.trans (same_new hn)
    have pf : f ≠ p := ne_of_none upd_same hn
    refine r_il (.inl (.inl upd_same)) (forR_list (xs := qs.map V.int) (fun i σ' H' => (∃ x2, σ' = [some (.ref l), some (.ref f), x2]) ∧ Same H H' ∧ H' p = some (.lst (qs.map V.int)) ∧ ∃ fs, H' f = some (.lst (fs.map V.int)) ∧ DedI (qs.take i) fs ∧ fs.length ≤ i)
      ⟨⟨_, rfl⟩, s2, upd_same, [], (upd_ne pf).trans upd_same, .nil, Nat.le_refl 0⟩ ?_ ?_ ?_)
    · rintro i σ' H' _ ⟨_, _, h, _⟩
      exact .inl (.inl h)
    · rintro i x σ' H' hx ⟨⟨x2, rfl⟩, sm, hpl, fs, hz, D0, lf⟩
      rw [List.getElem?_map] at hx
      obtain ⟨r, hr', rfl⟩ := Option.map_eq_some_iff.mp hx
      have il := (List.getElem?_eq_some_iff.mp hr').1
      have tk : qs.take (i + 1) = qs.take i ++ [r] := take_next hr'
      have ql := pm.length_eq
      walk_at "z"
      refine r_lstN (by decide) fun e he => ?_
      have s3 : Same H' (upd H' e (.lst [])) := same_new he
      have hz3 : (upd H' e (.lst [])) f = some (.lst (fs.map V.int)) := s3 _ _ hz
      have he3 : (upd H' e (.lst [])) e = some (.lst []) := upd_same
      have hpl3 := s3 _ _ hpl
      have sm3 := sm.trans s3
      generalize upd H' e (.lst []) = H3 at s3 hz3 he3 hpl3 sm3 ⊢
      refine ⟨.list (fs.map PyData.int), .list ([].map PyData.int), .lst (.inl (.inl hz3)) (dps_int fs), .lst (.inl (.inl he3)) .nil, lstI_sh fs, lstI_sh [], ?_⟩
      rw [lstI_eqv]
      walk_at "z"
      have lens : (fs.map V.int).length < sizeLine := small_lt (by rw [List.length_map]; omega)
      have pl : ((qs.take i) ++ [r]).Pairwise (· ≤ ·) := by
        rw [← tk]
        exact pwq.take
      have push : fs.getLast? ≠ some r → (∃ x2_1, [some (V.ref l), some (V.ref f), some (V.int r)] = [some (V.ref l), some (V.ref f), x2_1]) ∧ Same H (upd H3 f (.lst (fs.map V.int ++ [.int r]))) ∧ (upd H3 f (.lst (fs.map V.int ++ [.int r]))) p = some (.lst (qs.map V.int)) ∧ ∃ fs', (upd H3 f (.lst (fs.map V.int ++ [.int r]))) f = some (.lst (fs'.map V.int)) ∧ DedI (qs.take (i + 1)) fs' ∧ fs'.length ≤ i + 1 := fun hne =>
        ⟨⟨_, rfl⟩, same_mut sm3 hf, (upd_ne (Ne.symm pf)).trans hpl3, fs ++ [r], by rw [List.map_append]; exact upd_same, by rw [tk]; exact D0.more pl hne, by rw [List.length_append]; simp only [List.length_cons, List.length_nil]; omega⟩
      refine r_ite (fun h0 => ?_) (fun h0 => ?_)
      · walk_at "z"
        refine r_appT hz3 lens (push ?_)
        rw [h0]
        exact fun z => nomatch z
      · walk_at "z"
        obtain ⟨r', hr2⟩ : ∃ r', fs.getLast? = some r' := by
          cases q9 : fs.getLast? with
          | some r' => exact ⟨r', rfl⟩
          | none => exact absurd (List.getLast?_eq_none_iff.mp q9) h0
        refine r_ixL (.inl (.inl hz3)) (at_last (z := V.int r') (by rw [List.getLast?_map, hr2]; rfl)) ?_
        walk_at "z"
        refine ⟨.int r', .int r, .int _, .int _, by rfl, by rfl, ?_⟩
        rw [show PyData.eqv (.int r') (.int r) = decide (r' = r) by simp [PyData.eqv]; rfl]
        walk_at "z"
        refine r_iteN (fun h1 => ?_) (fun h1 => ?_)
        · walk_at "z"
          refine r_appT hz3 lens (push ?_)
          rw [hr2]
          exact fun z => h1 (Option.some.inj z)
        · walk_at "z"
          refine ⟨⟨_, rfl⟩, sm3, hpl3, fs, hz3, ?_, by omega⟩
          rw [tk]
          exact D0.same (by rw [hr2, h1])
    · rintro σ' H' ⟨⟨x2, rfl⟩, sm, hpl, fs, hz, D0, _⟩
      walk_at "z"
      rw [List.length_map, List.take_length] at D0
      exact q f fs H' sm hz D0.asc fun z => (D0.mem z).trans pm.mem_iff
def spLRowX (b : Addr) : Sp := fun vs H Q _ => ∃ (g v : V) (n : Int) (ps : List (Int × Int)) (d : PyData), vs = [g, v] ∧ GrAt H g n ps ∧ DX b H v d ∧ (∀ ds, d = .tuple ds → ds.length ≤ 10000) ∧ ∀ (r : Bool) H', Same H H' → (r = true ↔ rowX n d) → Q (.bl r) H'
theorem ok_lrowX {b : Addr} (T : Blt mg) (D : DefAt K mg "_law_is_row" s_law_is_row ["graph", "value"]) (D_law_is_int : DefAt K mg "_law_is_int" s_law_is_int ["x"]) (G_law_is_int : FnOk P w K mg base CX0 1 D_law_is_int.f D_law_is_int.fd ["x"] (spIntX b))
    (D_law_distinct : DefAt K mg "_law_distinct" s_law_distinct ["rows"]) (G_law_distinct : FnOk P w K mg base CX0 1 D_law_distinct.f D_law_distinct.fd ["rows"] (spDisJ K)) :
    FnOk P w K mg base CX0 3 D.f D.fd ["graph", "value"] (spLRowX b) := by
  refine D.F.ok sc_law_is_row (fun vs H Q E h => ?_) (fun cdv A outer s H vs Q E hr h => ?_)
  · obtain ⟨g, v, n, ps, d, rfl, _⟩ := h
    rfl
  · obtain ⟨g, v, n, ps, d, rfl, hgr, hd, ll, q⟩ := h
    obtain ⟨ga, e, rfl, hg, xs0, he, hp⟩ := id hgr
    have S0 : Same H H := fun _ _ h => h
    refine ⟨_, (pss_cons (ps_if (PW.pt (pw_or (pt_not (pt_val (pe_callB (call_isiK (K := K) rfl) (by rfl) T.isinstance (by decide +kernel) (pa_cons (pv 1) (pa_cons (pe_bltn (v := .ty "tuple") (u := .type "tuple") (by rfl) T.tuple (by decide +kernel) rfl) pa_nil))))) (pw_or1 (pt_cmpR op_gt (pe_callB (call_lenK (K := K) rfl) (by rfl) T.len (by decide +kernel) (pa_cons (pe_lc (own := [("v", 2)]) (by rfl) sc_law_is_row.nd (PI.tupK (K := K) rfl (pi_tup (pv 1))) (blkOk_by (own := [("v", 2)]) (N := ["graph", "value", "v"]) (sc := (defScope s_law_is_row)) (by decide +kernel)) (fun _ _ _ _ _ => (pg_name (i := 2) sc_law_is_row.nd rfl (Or.inl rfl))) (fun _ _ _ _ _ => (pts_one (pt_not (pt_val (pe_call G_law_is_int (hr.mono (by first | decide | omega)) (by rfl) D_law_is_int.g D_law_is_int.F.kp D_law_is_int.b .nil pass0 (pa_cons (pv 2) pa_nil)))))) (fun _ _ _ _ _ => (pv 2))) pa_nil)) pe_int (nomark _)))))
        (pss_one (ps_ret pe_bl))
        pss_nil)
      (pss_one (ps_ret (pe_and (pe_cmpR op_eq (pe_callB (call_lenK (K := K) rfl) (by rfl) T.len (by decide +kernel) (pa_cons (pe_lc (own := [("v", 2)]) (by rfl) sc_law_is_row.nd (PI.tupK (K := K) rfl (pi_tup (pv 1))) (blkOk_by (own := [("v", 2)]) (N := ["graph", "value", "v"]) (sc := (defScope s_law_is_row)) (by decide +kernel)) (fun _ _ _ _ _ => (pg_name (i := 2) sc_law_is_row.nd rfl (Or.inl rfl))) (fun _ _ _ _ _ => (pts_one (pt_not (pt_chain op_le op_lt pe_int (pv 2) (pe_ix (ix_tupK (K := K) rfl) (pv 0) pe_int (fun _ _ => rfl)))))) (fun _ _ _ _ _ => (pv 2))) pa_nil)) pe_int (nomark _)) (pe_one (pe_cmpR op_eq (pe_callB (call_lenK (K := K) rfl) (by rfl) T.len (by decide +kernel) (pa_cons (pe_call G_law_distinct (hr.mono (by first | decide | omega)) (by rfl) D_law_distinct.g D_law_distinct.F.kp D_law_distinct.b .nil pass0 (pa_cons (pe_callTy (call_listK (K := K) rfl) (by rfl) T.list (by decide +kernel) (pa_cons (pv 1) pa_nil)) pa_nil)) pa_nil)) (pe_callB (call_lenK (K := K) rfl) (by rfl) T.len (by decide +kernel) (pa_cons (pv 1) pa_nil)) (nomark _))))))), ?_⟩
    refine r_at (σ := [some _, some _, none]) rfl ?_
    walk_at "z"
    refine r_isiX hd rfl (kit_tup d) ?_
    cases et : tupD d with
    | false =>
      walk_at "z"
      refine iteT ?_
      walk_at "z"
      refine q false H S0 ⟨fun h => (nomatch h), fun ⟨ns, ed, _⟩ => ?_⟩
      rw [ed] at et
      cases et
    | true =>
      obtain ⟨ds, rfl⟩ := tupD_of et
      have l1 := ll ds rfl
      cases id hd with
      | @tup t xs _ ht hxd =>
      have lx := hxd.len
      walk_at "z"
      refine iteF ?_
      walk_at "z"
      refine r_it (.inl ht) fun c hc => lcR_tup (xs := xs) (fun m H' => Same H H' ∧ ∃ zs, H' c = some (.lst zs) ∧ zs.length ≤ m ∧ (zs = [] ↔ ∀ d ∈ ds.take m, intD d = true)) (by walk_at "zw") ⟨same_new hc, [], upd_same, Nat.le_refl _, by simp⟩ (fun i H' _ ⟨s2, _⟩ => .inl (ht.same s2)) ?_ ?_
      · rintro m y H' hy ⟨s2, zs, hcs, lz, al⟩
        obtain ⟨dd, hdd, hyd⟩ := pd_get (DXs.pd _ (hxd.same s2)) hy
        have il := (List.getElem?_eq_some_iff.mp hdd).1
        walk_at "z"
        refine ⟨rfl, ?_⟩
        walk_at "z"
        refine ⟨y, dd, rfl, hyd, ?_⟩
        cases ei : intD dd with
        | true =>
          walk_at "z"
          refine iteF ⟨s2, zs, hcs, by omega, al.trans ?_⟩
          rw [take_next hdd]
          exact ⟨fun h d hd => (List.mem_append.mp hd).elim (h d) fun c => by rw [List.mem_singleton.mp c]; exact ei, fun h d hd => h d (List.mem_append_left _ hd)⟩
        | false =>
          walk_at "z"
          refine iteT ?_
          walk_at "z"
          refine r_lce hcs (small_lt (by omega)) ⟨same_mut s2 hc, _, upd_same, by rw [List.length_append]; simp only [List.length_cons, List.length_nil]; omega, fun h => absurd h (by simp), fun h => ?_⟩
          have := h dd (by rw [take_next hdd]; exact List.mem_append_right _ List.mem_cons_self)
          rw [ei] at this
          cases this
      · rintro H1 ⟨s1, zs, hcs, lz, al⟩
        rw [lx, List.take_length] at al
        have hg1 := s1 _ _ hg
        have ht1 := ht.same s1
        walk_at "z"
        refine r_ite (fun h => ?_) (fun h => ?_)
        · walk_at "z"
          refine q false H1 s1 ⟨fun h => (nomatch h), fun ⟨ns, ed, _⟩ => ?_⟩
          rw [PyData.tuple.inj ed] at al
          have e0 : zs = [] := al.mpr fun d hd => by
            obtain ⟨i, _, rfl⟩ := List.mem_map.mp hd
            rfl
          rw [e0] at h
          simp at h
        · obtain ⟨ns, rfl⟩ := ints_all (al.mp (List.eq_nil_of_length_eq_zero (by omega)))
          have exs := dx_ints hxd
          subst exs
          rw [List.length_map] at l1
          walk_at "z"
          refine r_it (.inl ht1) fun f hf => lcR_tup (xs := ns.map V.int) (fun m H' => Same H1 H' ∧ ∃ us : List V, H' f = some (.lst us) ∧ us.length ≤ m ∧ (us = [] ↔ ∀ z ∈ ns.take m, 0 ≤ z ∧ z < n)) (by walk_at "zw") ⟨same_new hf, [], upd_same, Nat.le_refl _, by simp⟩ (fun i H' _ ⟨s2, _⟩ => .inl (ht1.same s2)) ?_ ?_
          · rintro m y H' hy ⟨s2, us, hus, lu, al2⟩
            rw [List.getElem?_map] at hy
            obtain ⟨z, hz, rfl⟩ := Option.map_eq_some_iff.mp hy
            have il := (List.getElem?_eq_some_iff.mp hz).1
            have hg2 := s2 _ _ hg1
            have bad : ¬ (0 ≤ z ∧ z < n) → Same H1 (upd H' f (.lst (us ++ [.int z]))) ∧ ∃ us' : List V, (upd H' f (.lst (us ++ [.int z]))) f = some (.lst us') ∧ us'.length ≤ m + 1 ∧ (us' = [] ↔ ∀ z ∈ ns.take (m + 1), 0 ≤ z ∧ z < n) := fun no =>
              ⟨same_mut s2 hf, _, upd_same, by rw [List.length_append]; simp only [List.length_cons, List.length_nil]; omega, fun h => absurd h (by simp), fun h => absurd (h z (by rw [take_next hz]; exact List.mem_append_right _ List.mem_cons_self)) no⟩
            walk_at "z"
            refine ⟨rfl, ?_⟩
            walk_at "z"
            refine r_ite (fun z0 => ?_) (fun z0 => ?_)
            · walk_at "z"
              by_cases z1 : z < n
              · rw [decide_eq_true z1]
                refine iteF ⟨s2, us, hus, by omega, al2.trans ?_⟩
                rw [take_next hz]
                exact ⟨fun h d hd => (List.mem_append.mp hd).elim (h d) fun c => by rw [List.mem_singleton.mp c]; exact ⟨z0, z1⟩, fun h d hd => h d (List.mem_append_left _ hd)⟩
              · rw [decide_eq_false z1]
                refine iteT ?_
                walk_at "z"
                exact r_lce hus (small_lt (by omega)) (bad fun h => z1 h.2)
            · walk_at "z"
              refine iteT ?_
              walk_at "z"
              exact r_lce hus (small_lt (by omega)) (bad fun h => z0 h.1)
          · rintro H2 ⟨s2, us, hus, lu, al2⟩
            rw [List.length_map, List.take_length] at al2
            have s02 := s1.trans s2
            have ht2 := ht.same s02
            have row : ∀ r : Bool, (r = true ↔ (∀ z ∈ ns, 0 ≤ z ∧ z < n) ∧ ns.Nodup) → (r = true ↔ rowX n (.tuple (ns.map PyData.int))) := fun r h => h.trans ⟨fun h => ⟨ns, rfl, h⟩, fun ⟨ms, e, h⟩ => by
              rw [tI_inj (a := ns) e]
              exact h⟩
            walk_at "z"
            refine r_ite (fun h0 => ?_) (fun h0 => ?_)
            · have bd := al2.mp (List.eq_nil_of_length_eq_zero (by omega))
              have hq2 : SqT K H2 t (ns.map V.int) := .inl ht2
              walk_at "z"
              refine r_listT (.inl ht2) fun l hl => ?_
              have s3 : Same H2 (upd H2 l (.lst (ns.map V.int))) := same_new hl
              have hl3 : (upd H2 l (.lst (ns.map V.int))) l = some (.lst (ns.map V.int)) := upd_same
              generalize upd H2 l (.lst (ns.map V.int)) = H3 at s3 hl3 ⊢
              walk_at "z"
              refine ⟨l, ns, rfl, .inl (.inl hl3), by omega, fun f qs H4 s4 hf asc4 mem4 => ?_⟩
              have s04 := (s02.trans s3).trans s4
              have hq4 : SqT K H4 t (ns.map V.int) := .inl (ht.same s04)
              walk_at "z"
              refine q _ H4 s04 (row _ (decide_eq_true_iff.trans ?_))
              have nl := nodup_len (asc4.imp fun h => by omega : qs.Nodup) mem4
              rw [List.length_map, List.length_map]
              exact ⟨fun h => ⟨bd, nl.mp (by omega)⟩, fun h => by have := nl.mpr h.2; omega⟩
            · refine q false H2 s02 (row _ ⟨fun h => (nomatch h), fun h => absurd ?_ h0⟩)
              rw [al2.mpr h.1]
              rfl
def spLSetX (b : Addr) : Sp := fun vs H Q _ => ∃ (g v : V) (n : Int) (ps : List (Int × Int)) (d : PyData), vs = [g, v] ∧ GrAt H g n ps ∧ DX b H v d ∧ (∀ ds, d = .tuple ds → ds.length ≤ 10000) ∧ ∀ (r : Bool) H', Same H H' → (r = true ↔ setX n d) → Q (.bl r) H'
theorem ok_lsetX {b : Addr} (T : Blt mg) (D : DefAt K mg "_law_is_set" s_law_is_set ["graph", "value"]) (D_law_is_row : DefAt K mg "_law_is_row" s_law_is_row ["graph", "value"]) (G_law_is_row : FnOk P w K mg base CX0 3 D_law_is_row.f D_law_is_row.fd ["graph", "value"] (spLRowX b)) :
    FnOk P w K mg base CX0 4 D.f D.fd ["graph", "value"] (spLSetX b) := by
  refine D.F.ok sc_law_is_set (fun vs H Q E h => ?_) (fun cdv A outer s H vs Q E hr h => ?_)
  · obtain ⟨g, v, n, ps, d, rfl, _⟩ := h
    rfl
  · obtain ⟨g, v, n, ps, d, rfl, hgr, hd, ll, q⟩ := h
    refine ⟨_, (pss_one (ps_ret (pe_and (pe_call G_law_is_row (hr.mono (by first | decide | omega)) (by rfl) D_law_is_row.g D_law_is_row.F.kp D_law_is_row.b .nil pass0 (pa_cons (pv 0) (pa_cons (pv 1) pa_nil))) (pe_one (pe_cmpR (op_eqDK (K := K) rfl hr.units) (pe_callTy (call_listK (K := K) rfl) (by rfl) T.list (by decide +kernel) (pa_cons (pv 1) pa_nil)) (pe_callB (cr_sortDTK (K := K) rfl hr.units) (by rfl) T.sorted (by decide +kernel) (pa_cons (pv 1) pa_nil)) (nomark _)))))), ?_⟩
    refine r_at (σ := [some _, some _]) rfl ?_
    walk_at "z"
    refine ⟨g, v, n, ps, d, rfl, hgr, hd, ll, fun r H1 s1 hr1 => ?_⟩
    cases r with
    | false =>
      walk_at "z"
      refine q false H1 s1 ⟨fun h => (nomatch h), fun ⟨ns, ed, bd, ad⟩ => ?_⟩
      have := hr1.mpr ⟨ns, ed, bd, (adjI_pw ad).imp fun h => by omega⟩
      cases this
    | true =>
      obtain ⟨ns, rfl, bd, nd⟩ := hr1.mp rfl
      obtain ⟨t, rfl, ht⟩ := dx_tup hd
      have ht1 := ht.same s1
      walk_at "z"
      refine r_listT (.inl ht1) fun l hl => ?_
      have s2 : Same H1 (upd H1 l (.lst (ns.map V.int))) := same_new hl
      have hl2 : (upd H1 l (.lst (ns.map V.int))) l = some (.lst (ns.map V.int)) := upd_same
      generalize upd H1 l (.lst (ns.map V.int)) = H2 at s2 hl2 ⊢
      walk_at "z"
      refine r_sortITX (.inl (ht1.same s2)) fun qs p pm pw hp => ?_
      have s3 : Same H2 (upd H2 p (.lst (qs.map V.int))) := same_new hp
      refine ⟨.list (ns.map PyData.int), .list (qs.map PyData.int), .lst (.inl (.inl (s3 _ _ hl2))) (dps_int ns), .lst (.inl (.inl upd_same)) (dps_int qs), lstI_sh ns, lstI_sh qs, ?_⟩
      rw [lstI_eqv]
      refine q _ _ ((s1.trans s2).trans s3) (decide_eq_true_iff.trans ⟨fun h => ⟨ns, rfl, bd, pw_adjI ?_⟩, fun ⟨ms, e, _, ad⟩ => ?_⟩)
      · rw [← h] at pw
        exact (pw.and nd).imp fun h => by omega
      · rw [← tI_inj (a := ns) e] at ad
        exact asc_eqZ (adjI_pw ad) ((pw.and (pm.nodup_iff.mpr nd)).imp fun h => by omega) fun z => pm.mem_iff.symm
end

set_option Elab.async false
set_option linter.all false
set_option maxRecDepth 100000
set_option maxHeartbeats 4000000
open PySem PySem.Spec PyProof.Rows L2 LamX RZ

section
variable {P : Program} {w : World} {K : PySem.W.Frag} {mg : Str → Option Value} {base : Heap}
def spMetX : Sp := fun vs H Q _ => ∃ (g : V) (n u v : Int) (ps : List (Int × Int)), vs = [g, .int u, .int v] ∧ GrX H g n ps ∧ ∀ H', Same H H' → Q (.bl (decide (nrm (u, v) ∈ ps))) H'
theorem ok_metX (T : Blt mg) (D : DefAt K mg "_law_met" s_law_met ["graph", "u", "v"]) : FnOk P w K mg base CX0 2 D.f D.fd ["graph", "u", "v"] spMetX := by
  refine D.F.ok sc_law_met (fun vs H Q E h => ?_) (fun cdv A outer s H vs Q E hr h => ?_)
  · obtain ⟨g, n, u, v, ps, rfl, _⟩ := h
    rfl
  · obtain ⟨g, n, u, v, ps, rfl, ⟨ga, e, xs, rfl, hg, he, hp⟩, q⟩ := h
    refine ⟨_, (pss_one (ps_ret (pe_cmpR (op_inXK (K := K) rfl hr) (pe_tup (pa_cons (pe_callB (call_min2' rfl) (by rfl) T.min (by decide +kernel) (pa_cons (pv 1) (pa_cons (pv 2) pa_nil))) (pa_cons (pe_callB (call_max2' rfl) (by rfl) T.max (by decide +kernel) (pa_cons (pv 1) (pa_cons (pv 2) pa_nil))) pa_nil))) (pe_ix (ix_tupK (K := K) rfl) (pv 0) pe_int (fun _ _ => rfl)) (by rfl)))), ?_⟩
    refine r_at (σ := [some _, some _, some _]) rfl ?_
    walk_at "z"
    refine r_tupN sz2 fun t ht => ?_
    have s1 : Same H (upd H t (.tup [.int (min u v), .int (max u v)])) := same_new ht
    walk_at "z"
    refine ⟨(min u v, max u v), e, xs, ps, ⟨t, rfl, upd_same⟩, rfl, .inl (he.same s1), hp.same s1, ?_⟩
    exact q _ s1
/-- exactly what is reached from v within some vertices -/
def spReachX (K : PySem.W.Frag) : Sp := fun vs H Q _ => ∃ (g : V) (n v : Int) (ps : List (Int × Int)) (l : Addr) (ns : List Int), vs = [g, .int v, .ref l] ∧ GrX H g n ps ∧ H l = some (.lst (ns.map V.int)) ∧ ns.Nodup ∧ ns.length ≤ 5000 ∧ v ∈ ns ∧
  ∀ (t : Addr) (qs : List Int) (H' : Hp), Same H H' → H' t = some (.tup (qs.map V.int)) → qs.Pairwise (· < ·) → (∀ z, z ∈ qs ↔ Con (RWi ns ps) v z) → Q (.ref t) H'
theorem ok_reachX (T : Blt mg) (D : DefAt K mg "_law_reach" s_law_reach ["graph", "v", "members"]) (D_law_met : DefAt K mg "_law_met" s_law_met ["graph", "u", "v"]) (G_law_met : FnOk P w K mg base CX0 2 D_law_met.f D_law_met.fd ["graph", "u", "v"] spMetX)
    (D_law_distinct : DefAt K mg "_law_distinct" s_law_distinct ["rows"]) (G_law_distinct : FnOk P w K mg base CX0 1 D_law_distinct.f D_law_distinct.fd ["rows"] (spDisJ K)) :
    FnOk P w K mg base CX0 3 D.f D.fd ["graph", "v", "members"] (spReachX K) := by
  refine D.F.ok sc_law_reach (fun vs H Q E h => ?_) (fun cdv A outer s H vs Q E hr h => ?_)
  · obtain ⟨g, n, v, ps, l, ns, rfl, _⟩ := h
    rfl
  · obtain ⟨g, n, v, ps, l, ns, rfl, hgr, hl, nd, hn, vin, q⟩ := h
    refine ⟨_, (pss_cons (ps_set (i := 3) sc_law_reach.nd rfl (Or.inr rfl) (pe_lst (pa_cons (pv 1) pa_nil)))
      (pss_cons (ps_for PassesOwn.never (by rfl) (pi_range1 (by rfl) T.range (pa_cons (pe_callB (call_lenK (K := K) rfl) (by rfl) T.len (by decide +kernel) (pa_cons (pv 2) pa_nil)) pa_nil)) (pg_name (i := 4) sc_law_reach.nd rfl (Or.inl rfl))
        (pss_one (ps_for PassesOwn.never (by rfl) (PI.listK (K := K) rfl (pi_list (pe_callTy (call_listK (K := K) rfl) (by rfl) T.list (by decide +kernel) (pa_cons (pv 3) pa_nil)))) (pg_name (i := 5) sc_law_reach.nd rfl (Or.inr rfl))
          (pss_one (ps_set (i := 3) sc_law_reach.nd rfl (Or.inr rfl) (pe_op op_cat (pv 3) (pe_lc (own := [("w", 6)]) (by rfl) sc_law_reach.nd (PI.listK (K := K) rfl (pi_list (pv 2))) (blkOk_by (own := [("w", 6)]) (N := ["graph", "v", "members", "found", "k", "u", "w"]) (sc := (defScope s_law_reach)) (by decide +kernel)) (fun _ _ _ _ _ => (pg_name (i := 6) sc_law_reach.nd rfl (Or.inl rfl))) (fun _ _ _ _ _ => (pts_one (PW.pt (pw_and (pt_cmpR (op_ninSeqK (K := K) rfl) (pv 6) (pv 3) (by rfl)) (pw_and1 (pt_val (pe_call G_law_met (hr.mono (by first | decide | omega)) (by rfl) D_law_met.g D_law_met.F.kp D_law_met.b .nil pass0 (pa_cons (pv 0) (pa_cons (pv 5) (pa_cons (pv 6) pa_nil)))))))))) (fun _ _ _ _ _ => (pv 6)))))))))
      (pss_one (ps_ret (pe_callTy (call_tupleK (K := K) rfl) (by rfl) T.tuple (by decide +kernel) (pa_cons (pe_call G_law_distinct (hr.mono (by first | decide | omega)) (by rfl) D_law_distinct.g D_law_distinct.F.kp D_law_distinct.b .nil pass0 (pa_cons (pv 3) pa_nil)) pa_nil)))))), ?_⟩
    refine r_at (σ := [some _, some _, some _, none, none, none, none]) rfl ?_
    walk_at "z"
    refine r_lstN sz1 fun f0 hf0 => ?_
    have bnd : ∀ fs : List Int, fs.Nodup → (∀ z ∈ fs, Con (RWi ns ps) v z) → fs.length ≤ ns.length := fun fs h1 h2 => nodup_le fs ns h1 fun z hz => (h2 z hz).inn vin
    let I : List Int → L2.St → Hp → Prop := fun fs σ' H' => ∃ (f : Addr) (x4 x5 x6 : Option V), σ' = [some g, some (.int v), some (.ref l), some (.ref f), x4, x5, x6] ∧ Same H H' ∧ H' f = some (.lst (fs.map V.int)) ∧ fs.Nodup ∧ v ∈ fs ∧ (∀ z ∈ fs, Con (RWi ns ps) v z)
    walk_at "z"
    refine r_rg1 (by rw [List.length_map]; omega) (forR_range (fun i σ' H' => ∃ fs, I fs σ' H' ∧ (Shut ns ps fs ∨ i + 1 ≤ fs.length)) ⟨[v], ⟨f0, _, _, _, rfl, same_new hf0, upd_same, by simp, List.mem_cons_self, fun z hz => by rw [List.mem_singleton.mp hz]; exact .refl⟩, .inr (Nat.le_refl 1)⟩ ?_ ?_)
    · rintro i σ' H1 hi ⟨fs, ⟨f, x4, x5, x6, rfl, s1, hf, nf, vf, con⟩, alt⟩
      walk_at "z"
      refine r_listL (.inl (.inl hf)) fun c hc => ?_
      have s2 := s1.trans (same_new (o := .lst (fs.map V.int)) hc)
      refine r_il (.inl (.inl upd_same)) (forR_list (xs := fs.map V.int) (fun j σ' H' => Same (upd H1 c (.lst (fs.map V.int))) H' ∧ ∃ gs, I (fs ++ gs) σ' H' ∧ ∀ a ∈ fs.take j, ∀ b, RWi ns ps a b → b ∈ fs ++ gs) ⟨fun _ _ z => z, [], ⟨f, _, _, _, rfl, s2, by rw [List.append_nil]; exact same_new hc _ _ hf, by rw [List.append_nil]; exact nf, by rw [List.append_nil]; exact vf, by rw [List.append_nil]; exact con⟩, fun a ha => (nomatch ha)⟩ (fun j σ' H' _ ⟨s3, _⟩ => .inl (.inl (s3 _ _ upd_same))) ?_ ?_)
      · rintro j x σ' H2 hx ⟨s3, ex, ⟨f', x4, x5, x6, rfl, s4, hf', ng, vg, cong⟩, done⟩
        rw [List.getElem?_map] at hx
        obtain ⟨u, hu, rfl⟩ := Option.map_eq_some_iff.mp hx
        have uf := List.mem_of_getElem? hu
        have ug : u ∈ fs ++ ex := List.mem_append_left _ uf
        have uns := (con u uf).inn vin
        have lg := bnd (fs ++ ex) ng cong
        have hl2 := s4 _ _ hl
        generalize hgs : fs ++ ex = gs at hf' ng vg cong done ug lg
        walk_at "z"
        refine r_il (.inl (.inl hl2)) fun d hd => lcR_list (xs := ns.map V.int) (fun i H' => Same H2 H' ∧ ∃ es : List Int, H' d = some (.lst (es.map V.int)) ∧ es.Nodup ∧ (∀ z ∈ es, z ∉ gs ∧ z ∈ ns.take i ∧ nrm (u, z) ∈ ps) ∧ (∀ z ∈ ns.take i, nrm (u, z) ∈ ps → z ∈ gs ∨ z ∈ es)) (by walk_at "zw") ⟨same_new hd, [], upd_same, .nil, fun z h => (nomatch h), fun z h => (nomatch h)⟩ (fun i H' _ ⟨s5, _⟩ => .inl (.inl (s5 _ _ hl2))) ?_ ?_
        · rintro i x H' hx ⟨s5, es, he, ne, me, al⟩
          rw [List.getElem?_map] at hx
          obtain ⟨z, hz, rfl⟩ := Option.map_eq_some_iff.mp hx
          have il := (List.getElem?_eq_some_iff.mp hz).1
          have hf5 := s5 _ _ hf'
          have keep : ∀ H3 : Hp, Same H' H3 → (nrm (u, z) ∈ ps → z ∈ gs) → Same H2 H3 ∧ ∃ es_1 : List Int, H3 d = some (.lst (es_1.map V.int)) ∧ es_1.Nodup ∧ (∀ z ∈ es_1, z ∉ gs ∧ z ∈ ns.take (i + 1) ∧ nrm (u, z) ∈ ps) ∧ (∀ z ∈ ns.take (i + 1), nrm (u, z) ∈ ps → z ∈ gs ∨ z ∈ es_1) := fun H3 s6 no => ⟨s5.trans s6, es, s6 _ _ he, ne, fun y hy => ⟨(me y hy).1, by rw [take_next hz]; exact List.mem_append_left _ (me y hy).2.1, (me y hy).2.2⟩, fun y hy hp => by
            rw [take_next hz] at hy
            rcases List.mem_append.mp hy with c | c
            · exact al y c hp
            · rw [List.mem_singleton.mp c] at hp ⊢
              exact .inl (no hp)⟩
          walk_at "z"
          refine ⟨rfl, ?_⟩
          walk_at "z"
          refine r_ninI (ns := gs) (.inl (.inl (.inl hf5))) ?_
          walk_at "z"
          refine r_iteN (fun h1 => ?_) (fun h1 => ?_)
          · walk_at "z"
            refine ⟨g, n, u, z, ps, rfl, hgr.same (s4.trans s5), fun H3 s6 => ?_⟩
            have he3 := s6 _ _ he
            walk_at "z"
            refine r_ite (fun h2 => ?_) (fun h2 => ?_)
            · walk_at "z"
              have le : es.length ≤ ns.length := nodup_le es ns ne fun y hy => List.mem_of_mem_take (me y hy).2.1
              refine r_lce he3 (small_lt (by rw [List.length_map]; omega)) ⟨same_mut (s5.trans s6) hd, es ++ [z], by rw [List.map_append]; exact upd_same, List.nodup_append.mpr ⟨ne, by simp, fun y hy b hb => ?_⟩, fun y hy => ?_, fun y hy hp => ?_⟩
              · rw [List.mem_singleton.mp hb]
                intro e
                subst e
                obtain ⟨k, hk, ek⟩ := List.mem_iff_getElem.mp (me y hy).2.1
                rw [List.length_take] at hk
                rw [List.getElem_take] at ek
                obtain ⟨li, ei⟩ := List.getElem?_eq_some_iff.mp hz
                have := (List.getElem_inj nd).mp (ek.trans ei.symm)
                omega
              · rw [take_next hz]
                rcases List.mem_append.mp hy with c | c
                · exact ⟨(me y c).1, List.mem_append_left _ (me y c).2.1, (me y c).2.2⟩
                · rw [List.mem_singleton.mp c]
                  exact ⟨h1, List.mem_append_right _ (List.mem_singleton.mpr rfl), h2⟩
              · rw [take_next hz] at hy
                rcases List.mem_append.mp hy with c | c
                · exact (al y c hp).imp id fun z => List.mem_append_left _ z
                · exact .inr (List.mem_append_right _ c)
            · exact keep H3 s6 fun h => absurd h h2
          · walk_at "z"
            exact keep H' (fun _ _ z => z) fun _ => h1
        · rintro H3 ⟨s5, es, he, ne, me, al⟩
          rw [List.length_map, List.take_length] at me al
          have le : es.length ≤ ns.length := nodup_le es ns ne fun y hy => (me y hy).2.1
          walk_at "z"
          refine r_cat (s5 _ _ hf') he (by rw [List.length_map, List.length_map]; omega) fun c2 hc2 => ?_
          refine ⟨(s3.trans s5).trans (same_new hc2), ex ++ es, ⟨c2, _, _, _, rfl, (s4.trans s5).trans (same_new hc2), by rw [← List.append_assoc, hgs, List.map_append]; exact upd_same, by rw [← List.append_assoc, hgs]; exact List.nodup_append.mpr ⟨ng, ne, fun y hy b hb e => (me b hb).1 (e ▸ hy)⟩, by rw [← List.append_assoc, hgs]; exact List.mem_append_left _ vg, fun y hy => ?_⟩, fun a ha b r => ?_⟩
          · rw [← List.append_assoc, hgs] at hy
            rcases List.mem_append.mp hy with c | c
            · exact cong y c
            · exact .step (con u uf) ⟨uns, (me y c).2.1, (me y c).2.2⟩
          · rw [← List.append_assoc, hgs]
            rw [take_next hu] at ha
            rcases List.mem_append.mp ha with c | c
            · exact List.mem_append_left _ (done a c b r)
            · rw [List.mem_singleton.mp c] at r
              exact (al b r.2.1 r.2.2).elim (fun z => List.mem_append_left _ z) fun z => List.mem_append_right _ z
      · rintro σ' H2 ⟨_, gs, h, done⟩
        rw [List.length_map, List.take_length] at done
        refine ⟨fs ++ gs, h, ?_⟩
        obtain ⟨f', x4, x5, x6, _, _, _, ng, vg, cong⟩ := h
        rcases alt with sh | le
        · refine .inl fun a ha b r => ?_
          have inF : ∀ z, Con (RWi ns ps) v z → z ∈ fs := fun z h => Con.closed (S := fun z => z ∈ fs) vf (fun a b ha r => sh a ha b r) h
          exact List.mem_append_left _ (sh a (inF a (cong a ha)) b r)
        · cases gs with
          | nil =>
            refine .inl ?_
            rw [List.append_nil] at done ⊢
            exact fun a ha b r => done a ha b r
          | cons y ys =>
            refine .inr ?_
            rw [List.length_append, List.length_cons]
            omega
    · rintro σ' H1 ⟨fs, ⟨f, x4, x5, x6, rfl, s1, hf, nf, vf, con⟩, alt⟩
      have lf := bnd fs nf con
      rw [List.length_map] at alt
      have sh : Shut ns ps fs := alt.elim id fun h => by omega
      walk_at "z"
      refine ⟨f, fs, rfl, .inl (.inl hf), by omega, fun f2 qs H2 s2 hf2 asc mem => ?_⟩
      walk_at "z"
      refine r_tupL (.inl (.inl hf2)) fun t ht => ?_
      exact q t qs _ ((s1.trans s2).trans (same_new ht)) upd_same asc fun z => (mem z).trans ⟨con z, fun h => Con.closed (S := fun z => z ∈ fs) vf (fun a b ha r => sh a ha b r) h⟩
def spJoinedX : Sp := fun vs H Q _ => ∃ (g x : V) (n : Int) (ps : List (Int × Int)) (ns : List Int), vs = [g, x] ∧ GrX H g n ps ∧ ITup H x ns ∧ ns.Nodup ∧ ns.length ≤ 5000 ∧ ∀ (b : Bool) (H' : Hp), Same H H' → (b = true ↔ Joined ns ps) → Q (.bl b) H'
theorem ok_joinedX (T : Blt mg) (D : DefAt K mg "_law_joined" s_law_joined ["graph", "members"]) (D_law_reach : DefAt K mg "_law_reach" s_law_reach ["graph", "v", "members"]) (G_law_reach : FnOk P w K mg base CX0 3 D_law_reach.f D_law_reach.fd ["graph", "v", "members"] (spReachX K)) :
    FnOk P w K mg base CX0 4 D.f D.fd ["graph", "members"] spJoinedX := by
  refine D.F.ok sc_law_joined (fun vs H Q E h => ?_) (fun cdv A outer s H vs Q E hr h => ?_)
  · obtain ⟨g, x, n, ps, ns, rfl, _⟩ := h
    rfl
  · obtain ⟨g, x, n, ps, ns, rfl, hgr, ⟨t, rfl, ht⟩, nd, hn, q⟩ := h
    refine ⟨_, (pss_one (ps_ret (pe_and (pe_cmpR op_gt (pe_callB (call_lenK (K := K) rfl) (by rfl) T.len (by decide +kernel) (pa_cons (pv 1) pa_nil)) pe_int (nomark _)) (pe_one (pe_cmpR op_eq (pe_callB (call_lenK (K := K) rfl) (by rfl) T.len (by decide +kernel) (pa_cons (pe_call G_law_reach (hr.mono (by first | decide | omega)) (by rfl) D_law_reach.g D_law_reach.F.kp D_law_reach.b .nil pass0 (pa_cons (pv 0) (pa_cons (pe_ix (ix_tupK (K := K) rfl) (pv 1) pe_int (fun _ _ => rfl)) (pa_cons (pe_callTy (call_listK (K := K) rfl) (by rfl) T.list (by decide +kernel) (pa_cons (pv 1) pa_nil)) pa_nil)))) pa_nil)) (pe_callB (call_lenK (K := K) rfl) (by rfl) T.len (by decide +kernel) (pa_cons (pv 1) pa_nil)) (nomark _)))))), ?_⟩
    refine r_at (σ := [some _, some _]) rfl ?_
    walk_at "z"
    refine r_ite (fun h => ?_) (fun h => ?_)
    · rw [List.length_map] at h
      obtain ⟨z, r, rfl⟩ : ∃ z r, ns = z :: r := by
        cases ns with
        | nil => simp at h
        | cons z r => exact ⟨z, r, rfl⟩
      walk_at "z"
      refine r_listT (.inl (.inl ht)) fun l hl => ?_
      have s1 : Same H (upd H l (.lst ((z :: r).map V.int))) := same_new hl
      have ht1 := s1 _ _ ht
      walk_at "z"
      refine ⟨g, n, z, ps, l, z :: r, rfl, hgr.same s1, upd_same, nd, hn, List.mem_cons_self, fun t2 qs H2 s2 ht2 asc mem => ?_⟩
      have ht12 := s2 _ _ ht1
      walk_at "z"
      refine q _ H2 (s1.trans s2) (decide_eq_true_iff.trans ?_)
      have qnd : qs.Nodup := asc.imp fun h => by omega
      have qsub : ∀ y ∈ qs, y ∈ z :: r := fun y hy => ((mem y).mp hy).inn List.mem_cons_self
      have l1 := nodup_le qs (z :: r) qnd qsub
      rw [List.length_map, List.length_map]
      constructor
      · intro e
        refine ⟨z, r, rfl, fun v hv => (mem v).mp (Classical.byContradiction fun c => ?_)⟩
        have := nodup_le (v :: qs) (z :: r) (List.nodup_cons.mpr ⟨c, qnd⟩) fun y hy => by
          rcases List.mem_cons.mp hy with d | d
          · rw [d]; exact hv
          · exact qsub y d
        rw [List.length_cons] at this
        omega
      · rintro ⟨z', r', e, all⟩
        injection e with ez er
        subst ez
        have := nodup_le (z :: r) qs nd fun y hy => (mem y).mpr (all y hy)
        omega
    · rw [List.length_map] at h
      walk_at "z"
      refine q _ H (fun _ _ z => z) ⟨fun e => Bool.noConfusion e, fun ⟨z, r, e, _⟩ => ?_⟩
      rw [e] at h
      simp at h
end

set_option Elab.async false
set_option linter.all false
set_option maxRecDepth 100000
set_option maxHeartbeats 4000000
open PySem PySem.Spec PyProof.Rows L2 LamX RZ

abbrev s_law_is_decomposition : Stmt := topS 51
theorem sc_law_is_decomposition : FnScope ["graph", "value", "bags", "links", "many", "link", "u", "v", "bag", "k"] ["graph", "value"] (defScope s_law_is_decomposition) := ⟨rfl, rfl, rfl, by decide +kernel, rfl, by decide +kernel, by decide +kernel⟩

theorem con_rw {S : Int → Prop} {L : List (Int × Int)} (nl : ∀ l ∈ L, l.1 < l.2) {ns : List Int} (hs : ∀ i, S i → i ∈ ns) {a b : Int} (h : Con (RL S L) a b) : Con (RWi ns L) a b := con_mono (fun x y r => ⟨hs x r.1, hs y r.2.1, by
  have key : ∀ {x y : Int}, (x, y) ∈ L → nrm (x, y) ∈ L := fun {x y} m => by
    have := nl _ m
    dsimp only at this
    have e : nrm (x, y) = (x, y) := by
      unfold nrm
      exact Prod.ext (by dsimp only; omega) (by dsimp only; omega)
    rw [e]
    exact m
  rcases r.2.2 with m | m
  · exact key m
  · rw [nrm_cm]
    exact key m⟩) h
theorem joined_of {S : Int → Prop} {L : List (Int × Int)} (nl : ∀ l ∈ L, l.1 < l.2) {ns : List Int} (hs : ∀ i, S i ↔ i ∈ ns) (ne : ns ≠ []) (c : ∀ a b, S a → S b → Con (RL S L) a b) : Joined ns L := by
  cases ns with
  | nil => exact absurd rfl ne
  | cons z r => exact ⟨z, r, rfl, fun v hv => con_rw nl (fun i h => (hs i).mp h) (c z v ((hs z).mpr List.mem_cons_self) ((hs v).mpr hv))⟩
theorem of_joined {S : Int → Prop} {L : List (Int × Int)} {ns : List Int} (hs : ∀ i, S i ↔ i ∈ ns) (j : Joined ns L) : ns ≠ [] ∧ ∀ a b, S a → S b → Con (RL S L) a b := by
  obtain ⟨z, r, e, all⟩ := j
  have up : ∀ v, S v → Con (RL S L) z v := fun v hv => con_mono (fun x y q => ⟨(hs x).mpr q.1, (hs y).mpr q.2.1, by
    have m := q.2.2
    unfold nrm at m
    dsimp only at m
    by_cases c : x ≤ y
    · rw [show min x y = x by omega, show max x y = y by omega] at m
      exact .inl m
    · rw [show min x y = y by omega, show max x y = x by omega] at m
      exact .inr m⟩) (all v ((hs v).mp hv))
  refine ⟨by rw [e]; exact (fun h => (nomatch h)), fun a b ha hb => ?_⟩
  exact (Con.symm (fun x y q => ⟨q.2.1, q.1, q.2.2.symm⟩) (up a ha)).trans (up b hb)
/-- the nodes whose bag holds v -/
def ksB (bags : List (List Int)) (v : Int) (k : Nat) : List Int := ((List.range k).map fun (i : Nat) => (i : Int)).filter fun i => decide (v ∈ bagAt bags i)
theorem ksB_mem {bags : List (List Int)} {v i : Int} : hasV bags v i ↔ i ∈ ksB bags v bags.length := by
  unfold ksB hasV
  rw [List.mem_filter, decide_eq_true_iff]
  refine and_congr ?_ Iff.rfl
  have := mem_rgI (n := (bags.length : Int)) (z := i)
  unfold rgI at this
  rw [Int.toNat_natCast] at this
  rw [this]
  rfl
theorem ksB_nodup {bags : List (List Int)} {v : Int} {k : Nat} : (ksB bags v k).Nodup := by
  exact (nodup_rg k).sublist List.filter_sublist
theorem ksB_len {bags : List (List Int)} {v : Int} {k : Nat} : (ksB bags v k).length ≤ k := by
  have := List.length_filter_le (fun i => decide (v ∈ bagAt bags i)) ((List.range k).map fun (i : Nat) => (i : Int))
  rw [List.length_map, List.length_range] at this
  exact this
theorem ksB_succ {bags : List (List Int)} {v : Int} {k : Nat} : ksB bags v (k + 1) = ksB bags v k ++ (if v ∈ bagAt bags (k : Int) then [(k : Int)] else []) := by
  unfold ksB
  rw [List.range_succ, List.map_append, List.filter_append, List.map_cons, List.map_nil, List.filter_cons, List.filter_nil]
  by_cases c : v ∈ bagAt bags (k : Int) <;> simp [c]
/-- what the law asks of bags and links -/
theorem lawT {n : Int} {ps : List (Int × Int)} {bags : List (List Int)} {L : List (Int × Int)} (hb : ∀ c ∈ bags, c ≠ [] ∧ (∀ z ∈ c, 0 ≤ z ∧ z < n) ∧ adjI c) (hl : ∀ l ∈ L, 0 ≤ l.1 ∧ l.1 < l.2 ∧ l.2 < (bags.length : Int)) (ne : 0 < bags.length) (cn : L.length + 1 = bags.length) :
    (Tdc n ps bags L ∧ NL L) ↔ L.Pairwise ltP ∧ Joined (rgI (bags.length : Int)) L ∧ (∀ p ∈ ps, ∃ c ∈ bags, p.1 ∈ c ∧ p.2 ∈ c) ∧ ∀ v, 0 ≤ v → v < n → Joined (ksB bags v bags.length) L := by
  have l1 : ∀ l ∈ L, l.1 < l.2 := fun l h => (hl l h).2.1
  have hn : ∀ i, nodeI bags.length i ↔ i ∈ rgI (bags.length : Int) := fun i => by
    rw [mem_rgI]
    rfl
  constructor
  · rintro ⟨t, nl⟩
    refine ⟨nl.2, joined_of l1 hn (fun e0 => ?_) t.con, t.ed, fun v v0 v1 => joined_of l1 (fun i => ksB_mem) (fun e0 => ?_) (t.vc v)⟩
    · have := rgI_len (bags.length : Int)
      rw [e0] at this
      simp only [List.length_nil] at this
      omega
    · obtain ⟨c, hc, vc⟩ := t.ve v v0 v1
      obtain ⟨i, hi, ei⟩ := mem_bag hc
      have := ksB_mem.mp (⟨hi, by rw [ei]; exact vc⟩ : hasV bags v i)
      rw [e0] at this
      exact List.not_mem_nil this
  · rintro ⟨pw, jn, ed, jv⟩
    refine ⟨⟨ne, fun c h => ⟨adjI_pw (hb c h).2.2, (hb c h).1, (hb c h).2.1⟩, fun l h => ?_, cn, (of_joined hn jn).2, ed, fun v v0 v1 => ?_, fun v a b ha hb' => ?_⟩, l1, pw⟩
    · have := hl l h
      exact ⟨⟨this.1, by omega⟩, ⟨by omega, this.2.2⟩, by omega⟩
    · have h1 := (of_joined (S := hasV bags v) (fun i => ksB_mem) (jv v v0 v1)).1
      cases ek : ksB bags v bags.length with
      | nil => exact absurd ek h1
      | cons i r =>
        have : hasV bags v i := ksB_mem.mpr (by rw [ek]; exact List.mem_cons_self)
        exact ⟨_, bag_mem this.1, this.2⟩
    · have b := (hb _ (bag_mem ha.1)).2.1 v ha.2
      exact (of_joined (S := hasV bags v) (fun i => ksB_mem) (jv v b.1 b.2)).2 a _ ha hb'
section
variable {P : Program} {w : World} {K : PySem.W.Frag} {mg : Str → Option Value} {base : Heap}
def TRgM (Q : VK) (a b : Int) (H1 : Hp) : Prop := RgOk a b ∧ ∀ q, H1 q = none → Q (.ref q) (upd H1 q (.tup (rgV a b)))
theorem r_tupRgM {t : L2.St → Hp → (Int → Int → Hp → Prop) → Prop} {σ : L2.St} {H : Hp} {Q : VK} (h : t σ H (TRgM Q)) : tTupRg t σ H Q := h
theorem r_tRgM {H : Hp} {Q : VK} {n : Int} (h0 : 0 ≤ n) (h1 : n ≤ 10000) (q : ∀ p, H p = none → Q (.ref p) (upd H p (.tup ((rgI n).map V.int)))) : TRgM Q 0 n H := ⟨.of_le (by omega) (by omega) (by omega) h0, fun p hp => by
  rw [rgV_rgI]
  exact q p hp⟩
theorem eqv_prs' : ∀ ps qs : List (Int × Int), PyData.eqv (.list (ps.map prD2)) (.list (qs.map prD2)) = decide (ps = qs)
  | [], [] => by rfl
  | [], _ :: _ => by rfl
  | _ :: _, [] => by rfl
  | p :: ps, q :: qs => by
    have ih := eqv_prs' ps qs
    simp only [PyData.eqv] at ih
    simp only [List.map_cons, PyData.eqv, PyData.eqvAll, prD2_eqv, ih]
    apply Bool.eq_iff_iff.mpr
    simp
def spIsDecX (b : Addr) : Sp := fun vs H Q _ => ∃ (g v : V) (n : Int) (ps : List (Int × Int)) (d : PyData), vs = [g, v] ∧ GrAt H g n ps ∧ 0 ≤ n ∧ n ≤ 100 ∧ DX b H v d ∧ (∃ D, limX D 1000 d) ∧ ∀ (r : Bool) H', Same H H' → (r = true ↔ decX n ps d) → Q (.bl r) H'
theorem ok_isdecX {b : Addr} (T : Blt mg) (D : DefAt K mg "_law_is_decomposition" s_law_is_decomposition ["graph", "value"]) (D_law_is_int : DefAt K mg "_law_is_int" s_law_is_int ["x"]) (G_law_is_int : FnOk P w K mg base CX0 1 D_law_is_int.f D_law_is_int.fd ["x"] (spIntX b))
    (D_law_is_set : DefAt K mg "_law_is_set" s_law_is_set ["graph", "value"]) (G_law_is_set : FnOk P w K mg base CX0 4 D_law_is_set.f D_law_is_set.fd ["graph", "value"] (spLSetX b))
    (D_law_distinct : DefAt K mg "_law_distinct" s_law_distinct ["rows"]) (G_law_distinct : FnOk P w K mg base CX0 1 D_law_distinct.f D_law_distinct.fd ["rows"] (spDisX K))
    (D_law_joined : DefAt K mg "_law_joined" s_law_joined ["graph", "members"]) (G_law_joined : FnOk P w K mg base CX0 4 D_law_joined.f D_law_joined.fd ["graph", "members"] spJoinedX) :
    FnOk P w K mg base CX0 5 D.f D.fd ["graph", "value"] (spIsDecX b) := by
  refine D.F.ok sc_law_is_decomposition (fun vs H Q E h => ?_) (fun cdv A outer s H vs Q E hr h => ?_)
  · obtain ⟨g, v, n, ps, d, rfl, _⟩ := h
    rfl
  · obtain ⟨g, v, n, ps, d, rfl, hgr, n0, n1, hd, ⟨DD, hl⟩, q⟩ := h
    obtain ⟨ga, ge, rfl, hg, xs0, he, hp⟩ := id hgr
    have S0 : Same H H := fun _ _ h => h
    refine ⟨_, (pss_cons (ps_if (PW.pt (pw_or (pt_not (pt_val (pe_callB (call_isiK (K := K) rfl) (by rfl) T.isinstance (by decide +kernel) (pa_cons (pv 1) (pa_cons (pe_bltn (v := .ty "tuple") (u := .type "tuple") (by rfl) T.tuple (by decide +kernel) rfl) pa_nil))))) (pw_or (pt_cmpR op_ne (pe_callB (call_lenK (K := K) rfl) (by rfl) T.len (by decide +kernel) (pa_cons (pv 1) pa_nil)) pe_int (nomark _)) (pw_or (pt_not (pt_val (pe_callB (call_isiK (K := K) rfl) (by rfl) T.isinstance (by decide +kernel) (pa_cons (pe_ix (ix_tupK (K := K) rfl) (pv 1) pe_int (fun _ _ => rfl)) (pa_cons (pe_bltn (v := .ty "tuple") (u := .type "tuple") (by rfl) T.tuple (by decide +kernel) rfl) pa_nil))))) (pw_or1 (pt_not (pt_val (pe_callB (call_isiK (K := K) rfl) (by rfl) T.isinstance (by decide +kernel) (pa_cons (pe_ix (ix_tupK (K := K) rfl) (pv 1) pe_int (fun _ _ => rfl)) (pa_cons (pe_bltn (v := .ty "tuple") (u := .type "tuple") (by rfl) T.tuple (by decide +kernel) rfl) pa_nil))))))))))
        (pss_one (ps_ret pe_bl))
        pss_nil)
      (pss_cons (ps_asg (pv 1) (PG.tupK (K := K) rfl (pg_tup (n := 2) rfl (pgs_cons (pg_name (i := 2) sc_law_is_decomposition.nd rfl (Or.inr rfl)) (pgs_cons (pg_name (i := 3) sc_law_is_decomposition.nd rfl (Or.inl rfl)) pgs_nil)))))
      (pss_cons (ps_set (i := 4) sc_law_is_decomposition.nd rfl (Or.inl rfl) (pe_callB (call_lenK (K := K) rfl) (by rfl) T.len (by decide +kernel) (pa_cons (pv 2) pa_nil)))
      (pss_cons (ps_if (PW.pt (pw_or (pt_cmpR op_lt (pv 4) pe_int (nomark _)) (pw_or (pt_cmpR op_ne (pe_callB (call_lenK (K := K) rfl) (by rfl) T.len (by decide +kernel) (pa_cons (pv 3) pa_nil)) (pe_op op_sub (pv 4) pe_int) (nomark _)) (pw_or1 (pt_cmpR op_gt (pe_callB (call_lenK (K := K) rfl) (by rfl) T.len (by decide +kernel) (pa_cons (pe_lc (own := [("bag", 8)]) (by rfl) sc_law_is_decomposition.nd (PI.tupK (K := K) rfl (pi_tup (pv 2))) (blkOk_by (own := [("bag", 8)]) (N := ["graph", "value", "bags", "links", "many", "link", "u", "v", "bag", "k"]) (sc := (defScope s_law_is_decomposition)) (by decide +kernel)) (fun _ _ _ _ _ => (pg_name (i := 8) sc_law_is_decomposition.nd rfl (Or.inl rfl))) (fun _ _ _ _ _ => (pts_one (PW.pt (pw_or (pt_not (pt_val (pe_call G_law_is_set (hr.mono (by first | decide | omega)) (by rfl) D_law_is_set.g D_law_is_set.F.kp D_law_is_set.b .nil pass0 (pa_cons (pv 0) (pa_cons (pv 8) pa_nil))))) (pw_or1 (pt_cmpR (op_eqDK (K := K) rfl hr.units) (pv 8) (pe_tup pa_nil) (nomark _))))))) (fun _ _ _ _ _ => (pv 8))) pa_nil)) pe_int (nomark _))))))
        (pss_one (ps_ret pe_bl))
        pss_nil)
      (pss_cons (ps_for PassesOwn.never (by rfl) (PI.tupK (K := K) rfl (pi_tup (pv 3))) (pg_name (i := 5) sc_law_is_decomposition.nd rfl (Or.inl rfl))
        (pss_cons (ps_if (PW.pt (pw_or (pt_not (pt_val (pe_callB (call_isiK (K := K) rfl) (by rfl) T.isinstance (by decide +kernel) (pa_cons (pv 5) (pa_cons (pe_bltn (v := .ty "tuple") (u := .type "tuple") (by rfl) T.tuple (by decide +kernel) rfl) pa_nil))))) (pw_or (pt_cmpR op_ne (pe_callB (call_lenK (K := K) rfl) (by rfl) T.len (by decide +kernel) (pa_cons (pv 5) pa_nil)) pe_int (nomark _)) (pw_or (pt_not (pt_val (pe_call G_law_is_int (hr.mono (by first | decide | omega)) (by rfl) D_law_is_int.g D_law_is_int.F.kp D_law_is_int.b .nil pass0 (pa_cons (pe_ix (ix_tupK (K := K) rfl) (pv 5) pe_int (fun _ _ => rfl)) pa_nil)))) (pw_or1 (pt_not (pt_val (pe_call G_law_is_int (hr.mono (by first | decide | omega)) (by rfl) D_law_is_int.g D_law_is_int.F.kp D_law_is_int.b .nil pass0 (pa_cons (pe_ix (ix_tupK (K := K) rfl) (pv 5) pe_int (fun _ _ => rfl)) pa_nil)))))))))
          (pss_one (ps_ret pe_bl))
          pss_nil)
        (pss_one (ps_if (pt_not (pt_chain3 op_le op_lt op_lt pe_int (pe_ix (ix_tupK (K := K) rfl) (pv 5) pe_int (fun _ _ => rfl)) (pe_ix (ix_tupK (K := K) rfl) (pv 5) pe_int (fun _ _ => rfl)) (pv 4)))
          (pss_one (ps_ret pe_bl))
          pss_nil))))
      (pss_cons (ps_if (PW.pt (pw_or (pt_cmpR (op_neDK (K := K) rfl hr.units) (pe_callTy (call_listK (K := K) rfl) (by rfl) T.list (by decide +kernel) (pa_cons (pv 3) pa_nil)) (pe_call G_law_distinct (hr.mono (by first | decide | omega)) (by rfl) D_law_distinct.g D_law_distinct.F.kp D_law_distinct.b .nil pass0 (pa_cons (pe_callTy (call_listK (K := K) rfl) (by rfl) T.list (by decide +kernel) (pa_cons (pv 3) pa_nil)) pa_nil)) (nomark _)) (pw_or1 (pt_not (pt_val (pe_call G_law_joined (hr.mono (by first | decide | omega)) (by rfl) D_law_joined.g D_law_joined.F.kp D_law_joined.b .nil pass0 (pa_cons (pe_tup (pa_cons (pv 4) (pa_cons (pv 3) pa_nil))) (pa_cons (pe_tupRg rfl (by rfl) T.tuple (prg_1 (by rfl) T.range (pv 4))) pa_nil))))))))
        (pss_one (ps_ret pe_bl))
        pss_nil)
      (pss_cons (ps_for PassesOwn.never (by rfl) (PI.tupK (K := K) rfl (pi_tup (pe_ix (ix_tupK (K := K) rfl) (pv 0) pe_int (fun _ _ => rfl)))) (PG.tupK (K := K) rfl (pg_tup (n := 2) rfl (pgs_cons (pg_name (i := 6) sc_law_is_decomposition.nd rfl (Or.inr rfl)) (pgs_cons (pg_name (i := 7) sc_law_is_decomposition.nd rfl (Or.inr rfl)) pgs_nil))))
        (pss_one (ps_if (pt_cmpR op_eq (pe_callB (call_lenK (K := K) rfl) (by rfl) T.len (by decide +kernel) (pa_cons (pe_lc (own := [("bag", 8)]) (by rfl) sc_law_is_decomposition.nd (PI.tupK (K := K) rfl (pi_tup (pv 2))) (blkOk_by (own := [("bag", 8)]) (N := ["graph", "value", "bags", "links", "many", "link", "u", "v", "bag", "k"]) (sc := (defScope s_law_is_decomposition)) (by decide +kernel)) (fun _ _ _ _ _ => (pg_name (i := 8) sc_law_is_decomposition.nd rfl (Or.inl rfl))) (fun _ _ _ _ _ => (pts_one (PW.pt (pw_and (pt_cmpR (op_inSeqK (K := K) rfl) (pv 6) (pv 8) (by rfl)) (pw_and1 (pt_cmpR (op_inSeqK (K := K) rfl) (pv 7) (pv 8) (by rfl))))))) (fun _ _ _ _ _ => (pv 8))) pa_nil)) pe_int (nomark _))
          (pss_one (ps_ret pe_bl))
          pss_nil)))
      (pss_cons (ps_for PassesOwn.never (by rfl) (pi_range1 (by rfl) T.range (pa_cons (pe_ix (ix_tupK (K := K) rfl) (pv 0) pe_int (fun _ _ => rfl)) pa_nil)) (pg_name (i := 7) sc_law_is_decomposition.nd rfl (Or.inr rfl))
        (pss_one (ps_if (pt_not (pt_val (pe_call G_law_joined (hr.mono (by first | decide | omega)) (by rfl) D_law_joined.g D_law_joined.F.kp D_law_joined.b .nil pass0 (pa_cons (pe_tup (pa_cons (pv 4) (pa_cons (pv 3) pa_nil))) (pa_cons (pe_callTy (call_tupleK (K := K) rfl) (by rfl) T.tuple (by decide +kernel) (pa_cons (pe_lc (own := [("k", 9)]) (by rfl) sc_law_is_decomposition.nd (pi_range1 (by rfl) T.range (pa_cons (pv 4) pa_nil)) (blkOk_by (own := [("k", 9)]) (N := ["graph", "value", "bags", "links", "many", "link", "u", "v", "bag", "k"]) (sc := (defScope s_law_is_decomposition)) (by decide +kernel)) (fun _ _ _ _ _ => (pg_name (i := 9) sc_law_is_decomposition.nd rfl (Or.inl rfl))) (fun _ _ _ _ _ => (pts_one (pt_cmpR (op_inSeqK (K := K) rfl) (pv 7) (pe_ix (ix_tupK (K := K) rfl) (pv 2) (pv 9) (fun _ _ => rfl)) (by rfl)))) (fun _ _ _ _ _ => (pv 9))) pa_nil)) pa_nil)))))
          (pss_one (ps_ret pe_bl))
          pss_nil)))
      (pss_one (ps_ret pe_bl)))))))))), ?_⟩
    refine r_at (σ := [some _, some _, none, none, none, none, none, none, none, none]) rfl ?_
    walk_at "z"
    refine r_isiX hd rfl (kit_tup d) ?_
    cases et : tupD d with
    | false =>
      walk_at "z"
      refine iteT (iteT ?_)
      walk_at "z"
      refine q false H S0 ⟨fun h => (nomatch h), fun ⟨bags, L, ed, _⟩ => ?_⟩
      rw [ed] at et
      cases et
    | true =>
      obtain ⟨ds, rfl⟩ := tupD_of et
      obtain ⟨D1, _, lds, lim1⟩ := limX_tup hl
      cases id hd with
      | @tup t xs _ ht hxd =>
      have lx := hxd.len
      have hq : SqT K H t xs := .inl ht
      walk_at "z"
      refine iteF ?_
      walk_at "z"
      by_cases l2 : ds.length = 2
      · rw [decide_eq_true (show (xs.length : Int) = 2 by omega)]
        match ds, l2, hxd, lim1, lx, hd, q with
        | [d1, d2], _, hxd, lim1, lx, hd, q =>
        have lm1 := lim1 d1 (by simp)
        have lm2 := lim1 d2 (by simp)
        cases hxd with
        | @cons x1 _ _ _ hd1 hr1 =>
        cases hr1 with
        | @cons x2 _ _ _ hd2 hr2 =>
        cases hr2
        have bad : (tupD d1 = false ∨ tupD d2 = false) → ¬ decX n ps (.tuple [d1, d2]) := fun h ⟨bags, L, e, _⟩ => by
          have e := PyData.tuple.inj e
          simp only [List.cons.injEq, and_true] at e
          rcases h with h | h
          · rw [e.1] at h
            cases h
          · rw [e.2] at h
            cases h
        walk_at "z"
        refine iteF ?_
        walk_at "z"
        refine r_isiX hd1 rfl (kit_tup d1) ?_
        cases e1 : tupD d1 with
        | false =>
          walk_at "z"
          refine iteT (iteT ?_)
          walk_at "z"
          exact q false H S0 ⟨fun h => (nomatch h), fun h => (bad (.inl e1) h).elim⟩
        | true =>
          obtain ⟨bs, rfl⟩ := tupD_of e1
          walk_at "z"
          refine iteF ?_
          walk_at "z"
          refine r_isiX hd2 rfl (kit_tup d2) ?_
          cases e2 : tupD d2 with
          | false =>
            walk_at "z"
            refine iteT ?_
            walk_at "z"
            exact q false H S0 ⟨fun h => (nomatch h), fun h => (bad (.inr e2) h).elim⟩
          | true =>
            obtain ⟨es, rfl⟩ := tupD_of e2
            obtain ⟨D2, _, lbs, limb⟩ := limX_tup lm1
            obtain ⟨D3, _, les, _⟩ := limX_tup lm2
            cases hd1 with
            | @tup tb xb _ htb hxb =>
            cases hd2 with
            | @tup tl xl _ htl hxl =>
            have lxb := hxb.len
            have lxl := hxl.len
            have hqb : SqT K H tb xb := .inl htb
            have hql : SqT K H tl xl := .inl htl
            have no : (∀ bags L, bs = bags.map tI → es = L.map prX → Tdc n ps bags L → NL L → False) → ∀ H', Same H H' → Q (.bl false) H' := fun h H' s' => q false H' s' ⟨fun h => (nomatch h), fun ⟨bags, L, ed, t, nl⟩ => by
              have ed := PyData.tuple.inj ed
              simp only [List.cons.injEq, PyData.tuple.injEq, and_true] at ed
              exact (h bags L ed.1 ed.2 t nl).elim⟩
            walk_at "z"
            refine iteF ?_
            walk_at "z"
            refine r_gtup (.inl ht) rfl ?_
            walk_at "z"
            refine r_ite (fun h1 => ?_) (fun h1 => ?_)
            · walk_at "z"
              refine no (fun bags L eb _ t _ => ?_) H S0
              have := t.ne
              rw [eb, List.length_map] at lxb
              omega
            walk_at "z"
            refine r_iteN (fun h2 => ?_) (fun h2 => ?_)
            · walk_at "z"
              refine no (fun bags L eb el t _ => ?_) H S0
              have := t.cnt
              rw [eb, List.length_map] at lxb
              rw [el, List.length_map] at lxl
              omega
            walk_at "z"
            refine r_it (.inl htb) fun c hc => lcR_tup (xs := xb) (fun m H' => Same H H' ∧ ∃ zs : List V, H' c = some (.lst zs) ∧ zs.length ≤ m ∧ (zs = [] ↔ ∀ d ∈ bs.take m, bagX n d)) (by walk_at "zw") ⟨same_new hc, [], upd_same, Nat.le_refl _, by simp⟩ (fun i H' _ ⟨s2, _⟩ => .inl (htb.same s2)) ?_ ?_
            · rintro m y H' hy ⟨s2, zs, hcs, lz, al⟩
              obtain ⟨dd, hdd, hyd⟩ := pd_get (DXs.pd _ (hxb.same s2)) hy
              have il := (List.getElem?_eq_some_iff.mp hdd).1
              have dm := List.mem_of_getElem? hdd
              have push : ¬ bagX n dd → ∀ H3, Same H' H3 → LcE c (fun H' => Same H H' ∧ ∃ zs : List V, H' c = some (.lst zs) ∧ zs.length ≤ m + 1 ∧ (zs = [] ↔ ∀ d ∈ bs.take (m + 1), bagX n d)) y H3 := fun nb H3 s3 => r_lce (s3 _ _ hcs) (small_lt (by omega)) ⟨same_mut (s2.trans s3) hc, _, upd_same, by rw [List.length_append]; simp only [List.length_cons, List.length_nil]; omega, fun h => absurd h (by simp), fun h => absurd (h dd (by rw [take_next hdd]; exact List.mem_append_right _ List.mem_cons_self)) nb⟩
              walk_at "z"
              refine ⟨rfl, ?_⟩
              walk_at "z"
              refine ⟨.ref ga, y, n, ps, dd, rfl, hgr.tk (.of_same s2), hyd, fun ds' e' => ?_, fun r H3 s3 hr3 => ?_⟩
              · have := limb dd dm
                rw [e'] at this
                obtain ⟨_, _, l9, _⟩ := limX_tup this
                omega
              cases r with
              | false =>
                walk_at "z"
                refine iteT (iteT ?_)
                walk_at "z"
                exact push (fun ⟨ns, e9, _, b9, a9⟩ => by have := hr3.mpr ⟨ns, e9, b9, a9⟩; cases this) H3 s3
              | true =>
                obtain ⟨ns, rfl, b9, a9⟩ := hr3.mp rfl
                have hy3 := hyd.same s3
                obtain ⟨ty, rfl, hty⟩ := dx_tup hy3
                walk_at "z"
                refine iteF ?_
                walk_at "z"
                refine r_tupN (by decide) fun te hte => ?_
                have s4 : Same H3 (upd H3 te (.tup [])) := same_new hte
                have s34 := s3.trans s4
                refine ⟨.tuple (ns.map PyData.int), .tuple ([].map PyData.int), .tup (.inl (hty.same s4)) (dps_int ns), .tup (.inl (.inl upd_same)) .nil, shaped_of (tupI_lay ns) (by have := tupI_depth ns; omega), shaped_of (tupI_lay []) (by have := tupI_depth []; omega), ?_⟩
                rw [tupI_eqv]
                walk_at "z"
                refine r_ite (fun h3 => ?_) (fun h3 => ?_)
                · walk_at "z"
                  refine push (fun ⟨ms, e9, n9, _⟩ => n9 ?_) _ s34
                  rw [← tI_inj (a := ns) e9]
                  exact h3
                · refine ⟨s2.trans s34, zs, s34 _ _ hcs, by omega, al.trans ?_⟩
                  rw [take_next hdd]
                  exact ⟨fun h d hd => (List.mem_append.mp hd).elim (h d) fun c => by rw [List.mem_singleton.mp c]; exact ⟨ns, rfl, h3, b9, a9⟩, fun h d hd => h d (List.mem_append_left _ hd)⟩
            rintro H1 ⟨s1, zs, hcs, lz, al⟩
            rw [lxb, List.take_length] at al
            walk_at "z"
            refine r_ite (fun h3 => ?_) (fun h3 => ?_)
            · walk_at "z"
              refine no (fun bags L eb _ t nl => ?_) H1 s1
              have e0 : zs = [] := al.mpr fun d hd => by
                rw [eb] at hd
                obtain ⟨c, hc, rfl⟩ := List.mem_map.mp hd
                exact ⟨c, rfl, (of_tdc t nl).2.1 c hc⟩
              rw [e0] at h3
              simp at h3
            obtain ⟨bags, rfl, hb⟩ := bags_of (al.mp (List.eq_nil_of_length_eq_zero (by omega)))
            rw [List.length_map] at lxb lbs
            have hbx := dx_tups hxb
            walk_at "z"
            -- each link is a pair of places
            refine r_it (.inl (htl.same s1)) (forR_tup (xs := xl) (fun m σ' H' => (∃ x5 x6 x7 x8 x9, σ' = [some (.ref ga), some (.ref t), some (.ref tb), some (.ref tl), some (.int (xb.length : Nat)), x5, x6, x7, x8, x9]) ∧ Same H H' ∧ ∀ z ∈ es.take m, edgD (xb.length : Nat) z) ⟨⟨_, _, _, _, _, rfl⟩, s1, fun z hz => by simp at hz⟩ (fun i σ' H' _ ⟨_, s2, _⟩ => .inl (htl.same s2)) ?_ ?_)
            · rintro i x σ' H2 hx ⟨⟨x5, x6, x7, x8, x9, rfl⟩, s2, al9⟩
              obtain ⟨dd, hdd, hxd⟩ := pd_get (DXs.pd _ (hxl.same s2)) hx
              have no2 : ¬ edgD (xb.length : Nat) dd → ∀ (H' : Hp), Same H H' → Q (.bl false) H' := fun h => no fun bags' L eb el t nl => by
                have m := List.mem_of_getElem? hdd
                rw [el] at m
                obtain ⟨l, hl', rfl⟩ := List.mem_map.mp m
                have b2 := (of_tdc t nl).2.2.1 l hl'
                have b3 := tIs_inj eb
                rw [← b3] at b2
                exact h ⟨l.1, l.2, rfl, b2.1, b2.2.1, by omega⟩
              walk_at "z"
              refine r_isiX hxd rfl (kit_tup dd) ?_
              cases e3 : tupD dd with
              | false =>
                walk_at "z"
                refine iteT (iteT ?_)
                walk_at "z"
                refine no2 (fun ⟨u, v, e, _⟩ => ?_) H2 s2
                rw [e] at e3
                cases e3
              | true =>
                obtain ⟨fs, rfl⟩ := tupD_of e3
                cases hxd with
                | @tup p3 zs3 _ hp3 hzd =>
                have lz3 := hzd.len
                have hq3 : SqT K H2 p3 zs3 := .inl hp3
                walk_at "z"
                refine iteF ?_
                walk_at "z"
                by_cases f2 : fs.length = 2
                · rw [decide_eq_true (show (zs3.length : Int) = 2 by omega)]
                  match fs, f2, hzd, lz3, no2, hdd with
                  | [a1, a2], _, hzd, lz3, no2, hdd =>
                  cases hzd with
                  | @cons y1 _ _ _ ha1 hb1 =>
                  cases hb1 with
                  | @cons y2 _ _ _ ha2 hb2 =>
                  cases hb2
                  walk_at "z"
                  refine iteF ?_
                  walk_at "z"
                  refine ⟨y1, a1, rfl, ha1, ?_⟩
                  have badI : (intD a1 = false ∨ intD a2 = false) → ¬ edgD (xb.length : Nat) (.tuple [a1, a2]) := fun h ⟨u, v, e, _⟩ => by
                    have e := PyData.tuple.inj e
                    simp only [List.cons.injEq, and_true] at e
                    rcases h with h | h
                    · rw [e.1] at h
                      cases h
                    · rw [e.2] at h
                      cases h
                  cases e4 : intD a1 with
                  | false =>
                    walk_at "z"
                    refine iteT (iteT ?_)
                    walk_at "z"
                    exact no2 (badI (.inl e4)) H2 s2
                  | true =>
                    walk_at "z"
                    refine iteF ?_
                    walk_at "z"
                    refine ⟨y2, a2, rfl, ha2, ?_⟩
                    cases e5 : intD a2 with
                    | false =>
                      walk_at "z"
                      refine iteT ?_
                      walk_at "z"
                      exact no2 (badI (.inr e5)) H2 s2
                    | true =>
                      obtain ⟨u, rfl⟩ : ∃ u, a1 = .int u := by
                        cases a1 with
                        | int u => exact ⟨u, rfl⟩
                        | _ => exact absurd e4 Bool.false_ne_true
                      obtain ⟨v, rfl⟩ : ∃ v, a2 = .int v := by
                        cases a2 with
                        | int v => exact ⟨v, rfl⟩
                        | _ => exact absurd e5 Bool.false_ne_true
                      cases ha1
                      cases ha2
                      have badU : ¬ (0 ≤ u ∧ u < v ∧ v < ((xb.length : Nat) : Int)) → ¬ edgD (xb.length : Nat) (.tuple [.int u, .int v]) := fun h ⟨u', v', e, h1⟩ => by
                        have e := PyData.tuple.inj e
                        simp only [List.cons.injEq, PyData.int.injEq, and_true] at e
                        rw [← e.1, ← e.2] at h1
                        exact h h1
                      walk_at "z"
                      refine iteF ?_
                      walk_at "z"
                      refine r_chain3 ?_
                      walk_at "z"
                      refine r_ch3n ?_
                      refine r_ite (fun u0 => ?_) (fun u0 => ?_)
                      · walk_at "z"
                        refine r_ch3m ?_
                        refine r_ite (fun uv => ?_) (fun uv => ?_)
                        · walk_at "z"
                          by_cases vn : v < ((xb.length : Nat) : Int)
                          · rw [decide_eq_true vn]
                            refine iteF ?_
                            walk_at "z"
                            refine ⟨⟨_, _, _, _, _, rfl⟩, s2, fun z hz => ?_⟩
                            rw [take_next hdd] at hz
                            rcases List.mem_append.mp hz with c | c
                            · exact al9 z c
                            · rw [List.mem_singleton.mp c]
                              exact ⟨u, v, rfl, u0, uv, vn⟩
                          · rw [decide_eq_false vn]
                            refine iteT ?_
                            walk_at "z"
                            exact no2 (badU fun h => vn h.2.2) H2 s2
                        · walk_at "z"
                          refine iteT ?_
                          walk_at "z"
                          exact no2 (badU fun h => uv h.2.1) H2 s2
                      · walk_at "z"
                        refine iteT ?_
                        walk_at "z"
                        exact no2 (badU fun h => u0 h.1) H2 s2
                · rw [decide_eq_false (show ¬ (zs3.length : Int) = 2 by omega)]
                  walk_at "z"
                  refine iteT (iteT ?_)
                  walk_at "z"
                  refine no2 (fun ⟨u, v, e, _⟩ => ?_) H2 s2
                  have e := PyData.tuple.inj e
                  rw [e] at f2
                  exact (f2 rfl).elim
            · rintro σ' H2 ⟨⟨x5, x6, x7, x8, x9, rfl⟩, s2, al9⟩
              rw [lxl, List.take_length] at al9
              obtain ⟨L, rfl, bd⟩ := eds_of al9
              rw [List.length_map] at lxl les
              have hlx := dx_prs hxl
              have cn : L.length + 1 = bags.length := by omega
              have bd' : ∀ l ∈ L, 0 ≤ l.1 ∧ l.1 < l.2 ∧ l.2 < (bags.length : Int) := fun l h => by have := bd l h; omega
              have TT := lawT (n := n) (ps := ps) hb bd' (by omega) cn
              have no3 : ¬ (Tdc n ps bags L ∧ NL L) → ∀ H', Same H H' → Q (.bl false) H' := fun h => no fun bags' L' eb el t nl => by
                have b3 := tIs_inj eb
                have b4 := prXs_inj el
                subst b3
                subst b4
                exact h ⟨t, nl⟩
              have htl2 := htl.same s2
              walk_at "z"
              refine r_listT (.inl htl2) fun l1 hl1 => ?_
              have s3 := same_new (o := .lst xl) hl1
              have f3 : (upd H2 l1 (.lst xl)) l1 = some (.lst xl) := upd_same
              generalize upd H2 l1 (.lst xl) = H3 at s3 f3 ⊢
              walk_at "z"
              refine r_listT (.inl (htl2.same s3)) fun l2 hl2 => ?_
              have s4 := same_new (o := .lst xl) hl2
              have f4 : (upd H3 l2 (.lst xl)) l2 = some (.lst xl) := upd_same
              generalize upd H3 l2 (.lst xl) = H4 at s4 f4 ⊢
              have s04 := (s2.trans s3).trans s4
              walk_at "z"
              refine ⟨l2, xl, L, rfl, .inl (.inl f4), hlx.same s04, by omega, fun f zs qs H5 s5 hz hzs asc mem => ?_⟩
              have s05 := s04.trans s5
              refine ⟨.list (L.map prD2), .list (qs.map prD2), .lst (.inl (.inl ((s4.trans s5) _ _ f3))) (hlx.same s05).dps, .lst (.inl (.inl hz)) hzs.dps, prD2s_shL L, prD2s_shL qs, ?_⟩
              rw [eqv_prs']
              walk_at "z"
              refine r_iteN (fun h4 => ?_) (fun h4 => ?_)
              · walk_at "z"
                refine no3 (fun h => h4 ?_) H5 s05
                exact asc_ext (TT.mp h).1 asc fun z => (mem z).symm
              have pw : L.Pairwise ltP := by
                rw [h4]
                exact asc
              walk_at "z"
              refine r_tupN sz2 fun tg htg => ?_
              have s6 : Same H5 (upd H5 tg (.tup [.int (xb.length : Nat), .ref tl])) := same_new htg
              have hg6 : GrX (upd H5 tg (.tup [.int (xb.length : Nat), .ref tl])) (.ref tg) ((xb.length : Nat) : Int) L := ⟨tg, tl, xl, rfl, upd_same, (htl.same s05).same s6, (hlx.same s05).same s6⟩
              generalize upd H5 tg (.tup [.int (xb.length : Nat), .ref tl]) = H6 at s6 hg6 ⊢
              walk_at "z"
              refine r_tupRgM ?_
              walk_at "z"
              refine r_tRgM (by omega) (by omega) fun tm htm => ?_
              have s7 : Same H6 (upd H6 tm (.tup ((rgI ((xb.length : Nat) : Int)).map V.int))) := same_new htm
              have hm7 : (upd H6 tm (.tup ((rgI ((xb.length : Nat) : Int)).map V.int))) tm = some (.tup ((rgI ((xb.length : Nat) : Int)).map V.int)) := upd_same
              generalize upd H6 tm (.tup ((rgI ((xb.length : Nat) : Int)).map V.int)) = H7 at s7 hm7 ⊢
              walk_at "z"
              refine ⟨.ref tg, .ref tm, ((xb.length : Nat) : Int), L, rgI ((xb.length : Nat) : Int), rfl, hg6.same s7, ⟨tm, rfl, hm7⟩, nodup_rg _, by rw [rgI_len]; omega, fun b1 H8 s8 hb1 => ?_⟩
              have s08 := ((s05.trans s6).trans s7).trans s8
              cases b1 with
              | false =>
                walk_at "z"
                refine iteT ?_
                walk_at "z"
                refine no3 (fun h => ?_) H8 s08
                have := hb1.mpr (by rw [lxb]; exact (TT.mp h).2.1)
                cases this
              | true =>
                have jn := hb1.mp rfl
                rw [lxb] at jn
                have hg8 := s08 _ _ hg
                have he8 := s08 _ _ he
                walk_at "z"
                refine iteF ?_
                walk_at "z"
                -- each edge lies in a bag
                refine r_it (.inl (.inl he8)) (forR_tup (xs := xs0) (fun m σ' H' => (∃ x6 x7 x8 x9, σ' = [some (.ref ga), some (.ref t), some (.ref tb), some (.ref tl), some (.int (xb.length : Nat)), x5, x6, x7, x8, x9]) ∧ Same H H' ∧ ∀ p ∈ ps.take m, ∃ c ∈ bags, p.1 ∈ c ∧ p.2 ∈ c) ⟨⟨_, _, _, _, rfl⟩, s08, fun z hz => by simp at hz⟩ (fun i σ' H' _ ⟨_, s, _⟩ => .inl (.inl (s _ _ he))) ?_ ?_)
                · rintro m y σ' H9 hy ⟨⟨y6, y7, y8, y9, rfl⟩, s9, al8⟩
                  obtain ⟨⟨u, v⟩, hpi, ty, rfl, hty⟩ := pd_get (hp.tk (.of_same s9)) hy
                  dsimp only at hty
                  have htb9 := htb.same s9
                  refine r_gtup (.inl (.inl hty)) rfl ?_
                  walk_at "z"
                  refine r_it (.inl htb9) fun c8 hc8 => lcR_tup (xs := xb) (fun k H' => Same H9 H' ∧ ∃ zs : List V, H' c8 = some (.lst zs) ∧ zs.length ≤ k ∧ (zs = [] ↔ ∀ bb ∈ bags.take k, ¬ (u ∈ bb ∧ v ∈ bb))) (by walk_at "zw") ⟨same_new hc8, [], upd_same, Nat.le_refl _, by simp⟩ (fun i H' _ ⟨s2, _⟩ => .inl (htb9.same s2)) ?_ ?_
                  · rintro k z H' hz ⟨sA, zs, hzs, lz, ok⟩
                    obtain ⟨ns, hns, tz, rfl, htz⟩ := pd_get (hbx.ext (ext_same (s9.trans sA))) hz
                    have ik := (List.getElem?_eq_some_iff.mp hns).1
                    have push : (u ∈ ns ∧ v ∈ ns) → LcE c8 (fun H' => Same H9 H' ∧ ∃ zs : List V, H' c8 = some (.lst zs) ∧ zs.length ≤ k + 1 ∧ (zs = [] ↔ ∀ bb ∈ bags.take (k + 1), ¬ (u ∈ bb ∧ v ∈ bb))) (.ref tz) H' := fun yes => r_lce hzs (small_lt (by omega)) ⟨same_mut sA hc8, _, upd_same, by rw [List.length_append]; simp only [List.length_cons, List.length_nil]; omega, fun h => absurd h (by simp), fun h => absurd yes (h ns (by rw [take_next hns]; exact List.mem_append_right _ List.mem_cons_self))⟩
                    have keep : ¬ (u ∈ ns ∧ v ∈ ns) → Same H9 H' ∧ ∃ zs : List V, H' c8 = some (.lst zs) ∧ zs.length ≤ k + 1 ∧ (zs = [] ↔ ∀ bb ∈ bags.take (k + 1), ¬ (u ∈ bb ∧ v ∈ bb)) := fun no => ⟨sA, zs, hzs, by omega, ok.trans (by
                      rw [take_next hns]
                      exact ⟨fun h d hd => (List.mem_append.mp hd).elim (h d) fun c => by rw [List.mem_singleton.mp c]; exact no, fun h d hd => h d (List.mem_append_left _ hd)⟩)⟩
                    walk_at "z"
                    refine ⟨rfl, ?_⟩
                    walk_at "z"
                    refine r_inI (.inr (.inl htz)) ?_
                    walk_at "z"
                    refine r_ite (fun h1 => ?_) (fun h1 => ?_)
                    · walk_at "z"
                      refine r_inI (.inr (.inl htz)) ?_
                      walk_at "z"
                      refine r_ite (fun h2 => ?_) (fun h2 => ?_)
                      · walk_at "z"
                        exact push ⟨h1, h2⟩
                      · exact keep fun h => h2 h.2
                    · exact iteF (keep fun h => h1 h.1)
                  · rintro HA ⟨sA, zs, hzs, lz, ok⟩
                    rw [lxb, List.take_length] at ok
                    walk_at "z"
                    refine r_ite (fun h5 => ?_) (fun h5 => ?_)
                    · walk_at "z"
                      refine no3 (fun h => ?_) HA (s9.trans sA)
                      obtain ⟨c, hc, hu, hv⟩ := (TT.mp h).2.2.1 _ (List.mem_of_getElem? hpi)
                      exact ok.mp (List.eq_nil_of_length_eq_zero (by omega)) c hc ⟨hu, hv⟩
                    · walk_at "z"
                      refine ⟨⟨_, _, _, _, rfl⟩, s9.trans sA, fun p hp' => ?_⟩
                      rw [take_next hpi] at hp'
                      rcases List.mem_append.mp hp' with c | c
                      · exact al8 p c
                      · rw [List.mem_singleton.mp c]
                        refine Classical.byContradiction fun nn => h5 ?_
                        rw [ok.mpr fun bb hbb hh => nn ⟨bb, hbb, hh⟩]
                        rfl
                · rintro σ' H9 ⟨⟨y6, y7, y8, y9, rfl⟩, s9, al8⟩
                  rw [hp.length, List.take_length] at al8
                  have hg9 := s9 _ _ hg
                  walk_at "z"
                  refine r_rg1 (by omega) (forR_range (fun m σ' H' => (∃ x7 x8 x9, σ' = [some (.ref ga), some (.ref t), some (.ref tb), some (.ref tl), some (.int (xb.length : Nat)), x5, y6, x7, x8, x9]) ∧ Same H H' ∧ ∀ v : Int, 0 ≤ v → v < (m : Int) → Joined (ksB bags v bags.length) L) ⟨⟨_, _, _, rfl⟩, s9, fun v h0 h1 => by omega⟩ ?_ ?_)
                  · rintro m σ' HA hm ⟨⟨z7, z8, z9, rfl⟩, sA, al7⟩
                    have em : (0 : Int) + (m : Int) = (m : Int) := by omega
                    walk_at "z"
                    refine r_tupN sz2 fun tg2 htg2 => ?_
                    have sB : Same HA (upd HA tg2 (.tup [.int (xb.length : Nat), .ref tl])) := same_new htg2
                    have hgB : GrX (upd HA tg2 (.tup [.int (xb.length : Nat), .ref tl])) (.ref tg2) ((xb.length : Nat) : Int) L := ⟨tg2, tl, xl, rfl, upd_same, (htl.same sA).same sB, (hlx.same sA).same sB⟩
                    generalize upd HA tg2 (.tup [.int (xb.length : Nat), .ref tl]) = HB at sB hgB ⊢
                    have s0B := sA.trans sB
                    walk_at "z"
                    refine r_rg1 (by omega) fun cA hcA => lcR_range (fun k H' => Same HB H' ∧ H' cA = some (.lst ((ksB bags (m : Int) k).map V.int))) (by walk_at "zw") ⟨same_new hcA, upd_same⟩ ?_ ?_
                    · rintro k H' hk ⟨sC, hcC⟩
                      have ek : (0 : Int) + (k : Int) = (k : Int) := by omega
                      obtain ⟨y, hy⟩ : ∃ y, xb[k]? = some y := ⟨_, List.getElem?_eq_getElem (by omega)⟩
                      obtain ⟨ns, hns, tz, rfl, htz⟩ := pd_get (hbx.ext (ext_same (s0B.trans sC))) hy
                      have eb : bagAt bags (k : Int) = ns := by
                        unfold bagAt
                        rw [Int.toNat_natCast, List.getD_eq_getElem?_getD, hns]
                        rfl
                      have l9 : ((ksB bags (m : Int) k).map V.int).length < sizeLine := small_lt (by
                        have := ksB_len (bags := bags) (v := (m : Int)) (k := k)
                        rw [List.length_map]
                        omega)
                      walk_at "z"
                      refine ⟨rfl, ?_⟩
                      walk_at "z"
                      refine r_ixT (.inl (htb.same (s0B.trans sC))) (at_of (j := k) (by omega) hy) ?_
                      walk_at "z"
                      refine r_inI (.inr (.inl htz)) ?_
                      rw [em]
                      walk_at "z"
                      refine r_ite (fun h1 => ?_) (fun h1 => ?_)
                      · walk_at "z"
                        refine r_lce hcC l9 ⟨same_mut sC hcA, ?_⟩
                        rw [ksB_succ, eb, if_pos h1, List.map_append, ek]
                        exact upd_same
                      · refine ⟨sC, ?_⟩
                        rw [ksB_succ, eb, if_neg h1, List.append_nil]
                        exact hcC
                    · rintro HC ⟨sC, hcC⟩
                      rw [Int.toNat_natCast, lxb] at hcC
                      walk_at "z"
                      refine r_tupL (.inl (.inl hcC)) fun tk htk => ?_
                      have sD : Same HC (upd HC tk (.tup ((ksB bags (m : Int) bags.length).map V.int))) := same_new htk
                      have hkD : (upd HC tk (.tup ((ksB bags (m : Int) bags.length).map V.int))) tk = some (.tup ((ksB bags (m : Int) bags.length).map V.int)) := upd_same
                      generalize upd HC tk (.tup ((ksB bags (m : Int) bags.length).map V.int)) = HD at sD hkD ⊢
                      walk_at "z"
                      refine ⟨.ref tg2, .ref tk, ((xb.length : Nat) : Int), L, ksB bags (m : Int) bags.length, rfl, hgB.same (sC.trans sD), ⟨tk, rfl, hkD⟩, ksB_nodup, by have := ksB_len (bags := bags) (v := (m : Int)) (k := bags.length); omega, fun b2 HE sE hb2 => ?_⟩
                      have s0E := ((s0B.trans sC).trans sD).trans sE
                      cases b2 with
                      | false =>
                        walk_at "z"
                        refine iteT ?_
                        walk_at "z"
                        refine no3 (fun h => ?_) HE s0E
                        have := hb2.mpr ((TT.mp h).2.2.2 (m : Int) (by omega) (by omega))
                        cases this
                      | true =>
                        walk_at "z"
                        refine iteF ?_
                        walk_at "z"
                        refine ⟨⟨_, _, _, rfl⟩, s0E, fun v v0 v1 => ?_⟩
                        by_cases c : v = (m : Int)
                        · rw [c]
                          exact hb2.mp rfl
                        · exact al7 v v0 (by omega)
                  · rintro σ' HA ⟨⟨z7, z8, z9, rfl⟩, sA, al7⟩
                    walk_at "z"
                    obtain ⟨t9, nl9⟩ := TT.mpr ⟨pw, jn, al8, fun v v0 v1 => al7 v v0 (by omega)⟩
                    exact q true HA sA ⟨fun _ => ⟨bags, L, rfl, t9, nl9⟩, fun _ => rfl⟩
      · rw [decide_eq_false (show ¬ (xs.length : Int) = 2 by omega)]
        walk_at "z"
        refine iteT (iteT ?_)
        walk_at "z"
        refine q false H S0 ⟨fun h => (nomatch h), fun ⟨bags, L, ed, _⟩ => ?_⟩
        have ed := PyData.tuple.inj ed
        rw [ed] at l2
        exact (l2 rfl).elim
end

set_option Elab.async false
set_option linter.all false
set_option maxRecDepth 100000
set_option maxHeartbeats 4000000
open PySem PySem.Spec PyProof.Rows L2

section
variable {P : Program} {w : World} {K : PySem.W.Frag} {mg : Str → Option Value} {base : Heap}
theorem pT_eqv (a b : Int × Int) : PyData.eqv (pT a) (pT b) = decide (a = b) := by
  have h := tupI_eqv [a.1, a.2] [b.1, b.2]
  show PyData.eqv (.tuple ([a.1, a.2].map PyData.int)) (.tuple ([b.1, b.2].map PyData.int)) = _
  rw [h]
  obtain ⟨a1, a2⟩ := a
  obtain ⟨b1, b2⟩ := b
  simp
theorem pT_any (p : Int × Int) : ∀ ps : List (Int × Int), ((ps.map pT).any fun z => PyData.eqv z (pT p)) = decide (p ∈ ps)
  | [] => by simp
  | q :: ps => by
    rw [List.map_cons, List.any_cons, pT_any p ps, pT_eqv]
    by_cases e : q = p
    · simp [e]
    · have e2 : ¬ p = q := fun z => e z.symm
      simp [e, e2]
/-- a pair in a list of pairs -/
theorem r_inLP {x : V} {p : Int × Int} {l : Addr} {xs : List V} {ps : List (Int × Int)} {H : Hp} {Q : VK} (hx : IsP H x p) (hl : SqL K H l xs) (hp : Prs H xs ps) (q : Q (.bl (decide (p ∈ ps))) H) : rInD K x (.ref l) H Q := by
  refine ⟨pT p, ps.map pT, dp_pair hx, dp_list hl hp, shaped_of ?_ ?_, shaped_of ?_ ?_, ?_⟩
  · have := lay_pT [p]
    simpa [PyData.canLayAll0] using this
  · have := deep_pT [p]
    simp only [List.map_cons, List.map_nil, PyData.depthAll] at this
    omega
  · unfold PyData.canLay0
    exact lay_pT ps
  · have := deep_pT ps
    unfold PyData.depth
    omega
  · rw [pT_any]
    exact q
/-- which pairs are among these, either way round -/
def isE (es : List (Int × Int)) (p : Int × Int) : Bool := decide (p ∈ es) || decide ((p.2, p.1) ∈ es)
def spSorted (K : PySem.W.Frag) : Sp := fun vs H Q _ => ∃ (n : Nat) (l : Addr) (xs : List V) (es : List (Int × Int)), vs = [.int (n : Int), .ref l] ∧ n ≤ 100 ∧ SqL K H l xs ∧ Prs H xs es ∧
  ∀ (v : V) (H' : Hp), Same H H' → GrAt H' v (n : Int) ((allP n).filter (isE es)) → Q v H'
end

set_option Elab.async false
set_option linter.all false
set_option maxRecDepth 100000
set_option maxHeartbeats 4000000
open PySem PySem.Spec PyProof.Rows L2

abbrev s_law_filled : Stmt := topS 52
theorem sc_law_filled : FnScope ["graph", "order", "pairs", "rows", "k", "later", "u", "i", "j"] ["graph", "order"] (defScope s_law_filled) := ⟨rfl, rfl, rfl, by decide +kernel, rfl, by decide +kernel, by decide +kernel⟩

abbrev s_law_from_order : Stmt := topS 53
theorem sc_law_from_order : FnScope ["graph", "order", "rows", "k", "bags", "links"] ["graph", "order"] (defScope s_law_from_order) := ⟨rfl, rfl, rfl, by decide +kernel, rfl, by decide +kernel, by decide +kernel⟩

/-- a list of ints, not at F -/
def LiAt (F : Addr) (H : Hp) (y : V) (r : List Int) : Prop := ∃ t, t ≠ F ∧ y = V.ref t ∧ H t = some (.lst (r.map V.int))
theorem lis_gr {F : Addr} {H H' : Hp} (g : Gr F H H') {ys : List V} {rs : List (List Int)} (h : Paired (LiAt F H) ys rs) : Paired (LiAt F H') ys rs := by
  induction h with
  | nil => exact .nil
  | cons a t ih =>
    obtain ⟨t, n, e, h1⟩ := a
    exact .cons ⟨t, n, e, g _ _ n h1⟩ ih
theorem map_drop {ns : List Int} (k : Nat) : (ns.map V.int).drop k = (ns.drop k).map V.int := by rw [List.map_drop]
section
variable {P : Program} {w : World} {K : PySem.W.Frag} {mg : Str → Option Value} {base : Heap}
theorem r_slLFrom {a : Addr} {xs : List V} {k : Nat} {H : Hp} {Q : VK} (h : SqL K H a xs) (hk : k ≤ xs.length) (q : ∀ p, H p = none → Q (.ref p) (upd H p (.lst (xs.drop k)))) : rSlL K (.ref a) (some (k : Int)) none H Q :=
  ⟨a, xs, rfl, h, by rw [cut_from xs k hk]; exact q⟩
def spFilled : Sp := fun vs H Q _ => ∃ (g : V) (l : Addr) (n : Int) (ps : List (Int × Int)) (o : List Int), vs = [g, .ref l] ∧ GrAt H g n ps ∧ H l = some (.lst (o.map V.int)) ∧ o.length ≤ 10 ∧ ps.length ≤ 1000 ∧
  ∀ (R : Addr) (rs : List V) (H' : Hp), H R = none → Same H H' → H' R = some (.lst rs) → Paired (LiAt R H') rs (fillL ps o) → Q (.ref R) H'
theorem ok_filled (T : Blt mg) (D : DefAt K mg "_law_filled" s_law_filled ["graph", "order"]) (D_law_pairs : DefAt K mg "_law_pairs" s_law_pairs ["n"]) (G_law_pairs : FnOk P w K mg base CX0 1 D_law_pairs.f D_law_pairs.fd ["n"] spPairs) :
    FnOk P w K mg base CX0 2 D.f D.fd ["graph", "order"] spFilled := by
  refine D.F.ok sc_law_filled (fun vs H Q E h => ?_) (fun cdv A outer s H vs Q E hr h => ?_)
  · obtain ⟨g, l, n, ps, o, rfl, _⟩ := h
    rfl
  · obtain ⟨g, l, n, ps, o, rfl, ⟨ga, e, rfl, hg, xs0, he, hp⟩, hl, lo, lps, q⟩ := h
    refine ⟨_, (pss_cons (ps_set (i := 2) sc_law_filled.nd rfl (Or.inr rfl) (pe_callTy (call_listK (K := K) rfl) (by rfl) T.list (by decide +kernel) (pa_cons (pe_ix (ix_tupK (K := K) rfl) (pv 0) pe_int (fun _ _ => rfl)) pa_nil)))
      (pss_cons (ps_set (i := 3) sc_law_filled.nd rfl (Or.inl rfl) (pe_lst pa_nil))
      (pss_cons (ps_for PassesOwn.never (by rfl) (pi_range1 (by rfl) T.range (pa_cons (pe_callB (call_lenK (K := K) rfl) (by rfl) T.len (by decide +kernel) (pa_cons (pv 1) pa_nil)) pa_nil)) (pg_name (i := 4) sc_law_filled.nd rfl (Or.inr rfl))
        (pss_cons (ps_set (i := 5) sc_law_filled.nd rfl (Or.inr rfl) (pe_lc (own := [("u", 6)]) (by rfl) sc_law_filled.nd (PI.listK (K := K) rfl (pi_list (pe_slice (sl_listK (K := K) rfl) (pv 1) (po_some (pe_op op_add (pv 4) pe_int)) po_none))) (blkOk_by (own := [("u", 6)]) (N := ["graph", "order", "pairs", "rows", "k", "later", "u", "i", "j"]) (sc := (defScope s_law_filled)) (by decide +kernel)) (fun _ _ _ _ _ => (pg_name (i := 6) sc_law_filled.nd rfl (Or.inl rfl))) (fun _ _ _ _ _ => (pts_one (pt_cmpR (op_inDK (K := K) rfl (units65 hr)) (pe_tup (pa_cons (pe_callB (call_min2' rfl) (by rfl) T.min (by decide +kernel) (pa_cons (pv 6) (pa_cons (pe_ix (ix_listK (K := K) rfl) (pv 1) (pv 4) (fun _ _ => rfl)) pa_nil))) (pa_cons (pe_callB (call_max2' rfl) (by rfl) T.max (by decide +kernel) (pa_cons (pv 6) (pa_cons (pe_ix (ix_listK (K := K) rfl) (pv 1) (pv 4) (fun _ _ => rfl)) pa_nil))) pa_nil))) (pv 2) (by rfl)))) (fun _ _ _ _ _ => (pv 6))))
        (pss_cons (ps_expr (PE.bmK (K := K) rfl (pe_bm PySem.F.plainAttrs_list PySem.F.slot_list_append PySem.F.type_list_append mt_append (pv 3) (pa_cons (pv 5) pa_nil))))
        (pss_one (ps_set (i := 2) sc_law_filled.nd rfl (Or.inr rfl) (pe_op op_cat (pv 2) (pe_lc (own := [("i", 7), ("j", 8)]) (by rfl) sc_law_filled.nd (PI.listK (K := K) rfl (pi_list (pe_call G_law_pairs (hr.mono (by first | decide | omega)) (by rfl) D_law_pairs.g D_law_pairs.F.kp D_law_pairs.b .nil pass0 (pa_cons (pe_callB (call_lenK (K := K) rfl) (by rfl) T.len (by decide +kernel) (pa_cons (pv 5) pa_nil)) pa_nil)))) (blkOk_by (own := [("i", 7), ("j", 8)]) (N := ["graph", "order", "pairs", "rows", "k", "later", "u", "i", "j"]) (sc := (defScope s_law_filled)) (by decide +kernel)) (fun _ _ _ _ _ => (PG.tupK (K := K) rfl (pg_tup (n := 2) rfl (pgs_cons (pg_name (i := 7) sc_law_filled.nd rfl (Or.inl rfl)) (pgs_cons (pg_name (i := 8) sc_law_filled.nd rfl (Or.inl rfl)) pgs_nil))))) (fun _ _ _ _ _ => pts_nil) (fun _ _ _ _ _ => (pe_tup (pa_cons (pe_callB (call_min2' rfl) (by rfl) T.min (by decide +kernel) (pa_cons (pe_ix (ix_listK (K := K) rfl) (pv 5) (pv 7) (fun _ _ => rfl)) (pa_cons (pe_ix (ix_listK (K := K) rfl) (pv 5) (pv 8) (fun _ _ => rfl)) pa_nil))) (pa_cons (pe_callB (call_max2' rfl) (by rfl) T.max (by decide +kernel) (pa_cons (pe_ix (ix_listK (K := K) rfl) (pv 5) (pv 7) (fun _ _ => rfl)) (pa_cons (pe_ix (ix_listK (K := K) rfl) (pv 5) (pv 8) (fun _ _ => rfl)) pa_nil))) pa_nil)))))))))))
      (pss_one (ps_ret (pv 3)))))), ?_⟩
    refine r_at (σ := [some _, some _, none, none, none, none, none, none, none]) rfl ?_
    walk_at "z"
    refine r_listT (.inl (.inl he)) fun c hc => ?_
    have s1 : Same H (upd H c (.lst xs0)) := same_new hc
    have hc1 : (upd H c (.lst xs0)) c = some (.lst xs0) := upd_same
    have hp1 := hp.tk (.of_same s1)
    generalize upd H c (.lst xs0) = H1 at s1 hc1 hp1 ⊢
    walk_at "z"
    refine r_lstN (by decide) fun F hF => ?_
    have s2 : Same H1 (upd H1 F (.lst [])) := same_new hF
    have hF2 : (upd H1 F (.lst [])) F = some (.lst []) := upd_same
    have F0 : H F = none := s1.free hF
    have ncF : c ≠ F := ne_of_none hc1 hF
    have hp2 := hp1.tk (.of_same s2)
    have hc2 := s2 _ _ hc1
    have hl2 := (s1.trans s2) _ _ hl
    have s02 := s1.trans s2
    generalize upd H1 F (.lst []) = H2 at s02 hc2 hF2 hp2 hl2 ⊢
    walk_at "z"
    rw [List.length_map]
    refine r_rg1 (by omega) (forR_range (fun i σ' H' => ∃ (pl : Addr) (xs : List V) (qs : List (Int × Int)) (rs : List V) (rows : List (List Int)) (x4 x5 x6 x7 x8 : Option V), σ' = [some (.ref ga), some (.ref l), some (.ref pl), some (.ref F), x4, x5, x6, x7, x8] ∧ Same H H' ∧ pl ≠ F ∧ H' pl = some (.lst xs) ∧ Prs H' xs qs ∧ H' F = some (.lst rs) ∧ Paired (LiAt F H') rs rows ∧ rows.length = i ∧ qs.length ≤ 1000 + i * 100 ∧ rows ++ fillL qs (o.drop i) = fillL ps o)
      ⟨c, xs0, ps, [], [], _, _, _, _, _, rfl, s02, ncF, hc2, hp2, hF2, .nil, rfl, by omega, rfl⟩ ?_ ?_)
    · rintro i σ' H3 hi ⟨pl, xs, qs, rs, rows, x4, x5, x6, x7, x8, rfl, s3, nplF, hpl, pxs, hF3, prs, lr, lqs, tl⟩
      have hl3 := s3 _ _ hl
      have hi' : i < o.length := by omega
      have oi : o[i]? = some o[i] := List.getElem?_eq_getElem hi'
      have ai : atI (o.map V.int) (0 + (i : Int)) = some (.int o[i]) := by
        rw [show (0 : Int) + (i : Int) = (i : Int) by omega]
        exact atI_nat (by rw [List.getElem?_map, oi]; rfl)
      walk_at "z"
      have ek : (0 : Int) + (i : Int) + 1 = ((i + 1 : Nat) : Int) := by omega
      rw [ek]
      refine r_slLFrom (.inl (.inl hl3)) (by rw [List.length_map]; omega) fun sl hsl => ?_
      rw [map_drop]
      have s4 : Same H3 (upd H3 sl (.lst ((o.drop (i + 1)).map V.int))) := same_new hsl
      have hsl4 : (upd H3 sl (.lst ((o.drop (i + 1)).map V.int))) sl = some (.lst ((o.drop (i + 1)).map V.int)) := upd_same
      generalize upd H3 sl (.lst ((o.drop (i + 1)).map V.int)) = H4 at s4 hsl4 ⊢
      have hl4 := s4 _ _ hl3
      have hpl4 := s4 _ _ hpl
      have pxs4 := Prs.tk (.of_same s4) pxs
      walk_at "z"
      refine r_il (.inl (.inl hsl4)) fun d hd => lcR_list (xs := (o.drop (i + 1)).map V.int) (fun m H' => Same H4 H' ∧ H' d = some (.lst (((((o.drop (i + 1)).take m).filter fun u => decide (nrm (u, o[i]) ∈ qs))).map V.int))) (by walk_at "zw") ⟨same_new hd, upd_same⟩ (fun i H' _ ⟨s2, _⟩ => .inl (.inl (s2 _ _ hsl4))) ?_ ?_
      · rintro m y H' hy ⟨s2, hds⟩
        rw [List.getElem?_map] at hy
        obtain ⟨u, hu, rfl⟩ := Option.map_eq_some_iff.mp hy
        have e9 := flt_nextI hu (fun u => decide (nrm (u, o[i]) ∈ qs))
        have len9 : (((((o.drop (i + 1)).take m).filter fun u => decide (nrm (u, o[i]) ∈ qs))).map V.int).length ≤ 10 := by
          have h1 := List.length_filter_le (fun u => decide (nrm (u, o[i]) ∈ qs)) ((o.drop (i + 1)).take m)
          rw [List.length_take, List.length_drop] at h1
          rw [List.length_map]
          omega
        have hl5 := s2 _ _ hl4
        walk_at "z"
        refine ⟨rfl, ?_⟩
        walk_at "z"
        refine r_tupN sz2 fun t ht => ?_
        have sT := s2.trans (same_new (o := .tup [.int (min u o[i]), .int (max u o[i])]) ht)
        have kT : IsP (upd H' t (.tup [.int (min u o[i]), .int (max u o[i])])) (.ref t) (nrm (u, o[i])) := ⟨t, rfl, upd_same⟩
        have hdT := (same_new (o := .tup [.int (min u o[i]), .int (max u o[i])]) ht) _ _ hds
        generalize upd H' t (.tup [.int (min u o[i]), .int (max u o[i])]) = H5 at sT kT hdT ⊢
        walk_at "z"
        refine r_inLP kT (.inl (.inl (sT _ _ hpl4))) (Prs.tk (.of_same sT) pxs4) ?_
        walk_at "z"
        refine r_ite (fun c1 => ?_) (fun c1 => ?_)
        · walk_at "z"
          refine r_lce hdT (small_lt (by omega)) ⟨same_mut sT hd, ?_⟩
          rw [e9, if_pos (by simp [c1]), List.map_append]
          exact upd_same
        · refine ⟨sT, ?_⟩
          rw [e9, if_neg (by simp [c1]), List.append_nil]
          exact hdT
      · rintro H5 ⟨s5, hds⟩
        rw [List.length_map, List.take_length] at hds
        have el : (o.drop (i + 1)).filter (fun u => decide (nrm (u, o[i]) ∈ qs)) = laterL qs o[i] (o.drop (i + 1)) := rfl
        rw [el] at hds
        have llat : (laterL qs o[i] (o.drop (i + 1))).length ≤ 10 := by
          have h1 := List.length_filter_le (fun u => decide (nrm (u, o[i]) ∈ qs)) (o.drop (i + 1))
          rw [List.length_drop] at h1
          show ((o.drop (i + 1)).filter fun u => decide (nrm (u, o[i]) ∈ qs)).length ≤ 10
          omega
        generalize hL : laterL qs o[i] (o.drop (i + 1)) = lat at hds llat
        have s35 := s4.trans s5
        have s05 := s3.trans s35
        have hF5 := s35 _ _ hF3
        have lrs := prs.length
        have dF : d ≠ F := fun e => by
          rw [e] at hd
          rw [s4 _ _ hF3] at hd
          cases hd
        walk_at "z"
        refine r_appT hF5 (small_lt (by omega)) ?_
        have k6 : TK H5 (upd H5 F (.lst (rs ++ [.ref d]))) := .lst hF5
        have s06 : Same H (upd H5 F (.lst (rs ++ [.ref d]))) := same_mut s05 F0
        have prs6 : Paired (LiAt F (upd H5 F (.lst (rs ++ [.ref d])))) (rs ++ [.ref d]) (rows ++ [lat]) := (lis_gr ((Gr.of_same s35).trans .self) prs).snoc ⟨d, dF, rfl, (upd_ne dF).trans hds⟩
        have hF6 : (upd H5 F (.lst (rs ++ [.ref d]))) F = some (.lst (rs ++ [.ref d])) := upd_same
        have hd6 : (upd H5 F (.lst (rs ++ [.ref d]))) d = some (.lst (lat.map V.int)) := (upd_ne dF).trans hds
        have hpl6 : (upd H5 F (.lst (rs ++ [.ref d]))) pl = some (.lst xs) := (upd_ne nplF).trans (s35 _ _ hpl)
        have pxs6 := Prs.tk ((TK.of_same s35).trans k6) pxs
        generalize upd H5 F (.lst (rs ++ [.ref d])) = H6 at s06 prs6 hF6 hd6 hpl6 pxs6 ⊢
        walk_at "z"
        rw [List.length_map]
        refine ⟨lat.length, rfl, by omega, fun pp ys H7 hpp0 s67 hpp pys => ?_⟩
        have hd7 := s67 _ _ hd6
        have F06 : H6 F ≠ none := by rw [hF6]; exact Option.some_ne_none _
        walk_at "z"
        refine r_il (.inl (.inl hpp)) fun f hf => lcR_list (xs := ys) (fun m H' => Same H7 H' ∧ ∃ zs, H' f = some (.lst zs) ∧ Prs H' zs (((allP lat.length).take m).map fun p => nrm (lat.getD p.1.toNat 0, lat.getD p.2.toNat 0))) (by walk_at "zw") ⟨same_new hf, [], upd_same, .nil⟩ (fun i H' _ ⟨s2, _⟩ => .inl (.inl (s2 _ _ hpp))) ?_ ?_
        · rintro m y H' hy ⟨s2, zs, hzs, pzs⟩
          obtain ⟨⟨x, z⟩, hp, t, rfl, ht⟩ := pd_get (pys.tk (.of_same s2)) hy
          have im := (List.getElem?_eq_some_iff.mp hp).1
          obtain ⟨p0, p1, p2⟩ := mem_allP.mp (List.mem_of_getElem? hp)
          dsimp only at p0 p1 p2 ht
          have lal : (allP lat.length).length ≤ 100 := by
            have h1 : (allP lat.length).length ≤ lat.length * lat.length := preP_len
            have : lat.length * lat.length ≤ 10 * 10 := Nat.mul_le_mul llat llat
            omega
          have lzs := pzs.length
          rw [List.length_map, List.length_take] at lzs
          have gi : ∀ {j : Int}, 0 ≤ j → j < (lat.length : Int) → atI (lat.map V.int) j = some (.int (lat.getD j.toNat 0)) := fun {j} j0 j1 => by
            have h1 : j.toNat < lat.length := by omega
            have : atI (lat.map V.int) ((j.toNat : Nat) : Int) = some (.int (lat.getD j.toNat 0)) := atI_nat (by
              rw [List.getElem?_map, List.getElem?_eq_getElem h1, getD_i h1]
              rfl)
            rwa [show ((j.toNat : Nat) : Int) = j by omega] at this
          have ax := gi (j := x) p0 (by omega)
          have az := gi (j := z) (by omega) p2
          have hd8 := s2 _ _ hd7
          refine r_gtup (.inl (.inl ht)) rfl ?_
          walk_at "z"
          refine ⟨rfl, ?_⟩
          walk_at "z"
          refine r_tupN sz2 fun t2 ht2 => ?_
          refine r_lce (by walk_at "zh") (small_lt (by omega)) ⟨same_mut (s2.trans (same_new ht2)) hf, _, upd_same, ?_⟩
          rw [take_next hp, List.map_append]
          exact prs_push hzs pzs ht2
        · rintro H8 ⟨s78, zs, hzs, pzs⟩
          rw [pys.length, List.take_length] at pzs
          have ec : (allP lat.length).map (fun p => nrm (lat.getD p.1.toNat 0, lat.getD p.2.toNat 0)) = crossP lat := rfl
          rw [ec] at pzs
          have lc := cross_len lat
          have lc2 : lat.length * lat.length ≤ 10 * 10 := Nat.mul_le_mul llat llat
          have lz := pzs.length
          have lxs := pxs.length
          have s68 := s67.trans s78
          walk_at "z"
          refine r_cat (s68 _ _ hpl6) hzs (by omega) fun k hk => ?_
          have s89 : Same H8 (upd H8 k (.lst (xs ++ zs))) := same_new hk
          have s69 := s68.trans s89
          have nkF : k ≠ F := fun e => by
            rw [e] at hk
            rw [s68 _ _ hF6] at hk
            cases hk
          walk_at "z"
          refine ⟨k, xs ++ zs, qs ++ crossP lat, rs ++ [.ref d], rows ++ [lat], _, _, _, _, _, rfl, s06.trans s69, nkF, upd_same, Prs.tk (.new hk) (pd_append (Prs.tk (.of_same s68) pxs6) pzs), s69 _ _ hF6, lis_gr (.of_same s69) prs6, by rw [List.length_append, lr]; rfl, by rw [List.length_append]; omega, ?_⟩
          rw [← tl, List.append_assoc]
          congr 1
          have ed : o.drop i = o[i] :: o.drop (i + 1) := List.drop_eq_getElem_cons hi'
          rw [ed]
          show lat :: fillL (qs ++ crossP lat) (o.drop (i + 1)) = laterL qs o[i] (o.drop (i + 1)) :: fillL (qs ++ crossP (laterL qs o[i] (o.drop (i + 1)))) (o.drop (i + 1))
          rw [hL]
    · rintro σ' H3 ⟨pl, xs, qs, rs, rows, x4, x5, x6, x7, x8, rfl, s3, nplF, hpl, pxs, hF3, prs, lr, lqs, tl⟩
      walk_at "z"
      have en : ((o.length : Nat) : Int).toNat = o.length := by omega
      rw [en, List.drop_length] at tl
      have tl' : rows = fillL ps o := by
        rw [← tl]
        show rows = rows ++ []
        rw [List.append_nil]
      rw [tl'] at prs
      exact q F rs H3 F0 s3 hF3 prs
theorem r_neNilL {m e : Addr} {ns : List Int} {H : Hp} {Q : VK} (h : H m = some (.lst (ns.map V.int))) (he : H e = some (.lst [])) (q : Q (.bl (!decide (ns = []))) H) : rNeD K (.ref m) (.ref e) H Q := by
  refine ⟨.list (ns.map PyData.int), .list [], .lst (.inl (.inl h)) (dps_int ns), .lst (.inl (.inl he)) .nil, shaped_of (lstI_lay ns) (by have := lstI_depth ns; omega), shaped_of (by simp [PyData.canLay0, PyData.canLayAll0]) (by simp [PyData.depth, PyData.depthAll]), ?_⟩
  cases ns with
  | nil => exact q
  | cons a ns => exact q
theorem asc_of_perm {v : Int} {r ms : List Int} (nd : (v :: r).Nodup) (pm : ms.Perm (v :: r)) (pw : ms.Pairwise (· ≤ ·)) : ms.Pairwise (· < ·) ∧ ∀ z, z ∈ ms ↔ z = v ∨ z ∈ r := by
  refine ⟨(List.Pairwise.and pw (pm.nodup_iff.mpr nd)).imp fun {a b} h => ?_, fun z => ?_⟩
  · have h1 := h.1
    have h2 := h.2
    omega
  · rw [pm.mem_iff, List.mem_cons]
def spFromOrder : Sp := fun vs H Q _ => ∃ (g : V) (l : Addr) (n : Nat) (ps : List (Int × Int)) (o : List Int), vs = [g, .ref l] ∧ GrAt H g (n : Int) ps ∧ GoodG (n : Int) ps ∧ H l = some (.lst (o.map V.int)) ∧ o.Nodup ∧ (∀ v, v ∈ o ↔ 0 ≤ v ∧ v < (n : Int)) ∧ o.length = n ∧ n ≤ 10 ∧ ps.length ≤ 1000 ∧
  ∀ (v : V) (bags : List (List Int)) (L : List (Int × Int)) (H' : Hp), Same H H' → DcAt H' v bags L → Tdc (n : Int) ps bags L → NL L → bags.length = n → Q v H'
theorem ok_from_order (T : Blt mg) (D : DefAt K mg "_law_from_order" s_law_from_order ["graph", "order"]) (D_law_filled : DefAt K mg "_law_filled" s_law_filled ["graph", "order"]) (G_law_filled : FnOk P w K mg base CX0 2 D_law_filled.f D_law_filled.fd ["graph", "order"] spFilled) :
    FnOk P w K mg base CX0 3 D.f D.fd ["graph", "order"] spFromOrder := by
  refine D.F.ok sc_law_from_order (fun vs H Q E h => ?_) (fun cdv A outer s H vs Q E hr h => ?_)
  · obtain ⟨g, l, n, ps, o, rfl, _⟩ := h
    rfl
  · obtain ⟨g, l, n, ps, o, rfl, hgr, gd, hl, nd, mem, len, n10, lps, q⟩ := h
    have one : 1 ≤ n := by have := gd.one; omega
    refine ⟨_, (pss_cons (ps_set (i := 2) sc_law_from_order.nd rfl (Or.inr rfl) (pe_call G_law_filled (hr.mono (by first | decide | omega)) (by rfl) D_law_filled.g D_law_filled.F.kp D_law_filled.b .nil pass0 (pa_cons (pv 0) (pa_cons (pv 1) pa_nil))))
      (pss_cons (ps_set (i := 4) sc_law_from_order.nd rfl (Or.inl rfl) (pe_callTy (call_tupleK (K := K) rfl) (by rfl) T.tuple (by decide +kernel) (pa_cons (pe_lc (own := [("k", 3)]) (by rfl) sc_law_from_order.nd (pi_range1 (by rfl) T.range (pa_cons (pe_callB (call_lenK (K := K) rfl) (by rfl) T.len (by decide +kernel) (pa_cons (pv 1) pa_nil)) pa_nil)) (blkOk_by (own := [("k", 3)]) (N := ["graph", "order", "rows", "k", "bags", "links"]) (sc := (defScope s_law_from_order)) (by decide +kernel)) (fun _ _ _ _ _ => (pg_name (i := 3) sc_law_from_order.nd rfl (Or.inl rfl))) (fun _ _ _ _ _ => pts_nil) (fun _ _ _ _ _ => (pe_callTy (call_tupleK (K := K) rfl) (by rfl) T.tuple (by decide +kernel) (pa_cons (pe_callB (cr_sortedK (K := K) rfl) (by rfl) T.sorted (by decide +kernel) (pa_cons (pe_op op_cat (pe_lst (pa_cons (pe_ix (ix_listK (K := K) rfl) (pv 1) (pv 3) (fun _ _ => rfl)) pa_nil)) (pe_ix (ix_listK (K := K) rfl) (pv 2) (pv 3) (fun _ _ => rfl))) pa_nil)) pa_nil)))) pa_nil)))
      (pss_cons (ps_set (i := 5) sc_law_from_order.nd rfl (Or.inl rfl) (pe_lst pa_nil))
      (pss_cons (ps_for PassesOwn.never (by rfl) (pi_range1 (by rfl) T.range (pa_cons (pe_callB (call_lenK (K := K) rfl) (by rfl) T.len (by decide +kernel) (pa_cons (pv 1) pa_nil)) pa_nil)) (pg_name (i := 3) sc_law_from_order.nd rfl (Or.inl rfl))
        (pss_one (ps_if (pt_cmpR (op_neDK (K := K) rfl hr.units) (pe_ix (ix_listK (K := K) rfl) (pv 2) (pv 3) (fun _ _ => rfl)) (pe_lst pa_nil) (nomark _))
          (pss_one (ps_expr (PE.bmK (K := K) rfl (pe_bm PySem.F.plainAttrs_list PySem.F.slot_list_append PySem.F.type_list_append mt_append (pv 5) (pa_cons (pe_tup (pa_cons (pv 3) (pa_cons (PE.bmK (K := K) rfl (pe_bm PySem.F.plainAttrs_list PySem.F.slot_list_index PySem.F.type_list_index (mt_indexK (K := K) rfl) (pe_callTy (call_listK (K := K) rfl) (by rfl) T.list (by decide +kernel) (pa_cons (pv 1) pa_nil)) (pa_cons (pe_ix (ix_listK (K := K) rfl) (pe_ix (ix_listK (K := K) rfl) (pv 2) (pv 3) (fun _ _ => rfl)) pe_int (fun _ _ => rfl)) pa_nil))) pa_nil))) pa_nil)))))
          (pss_one (ps_if (pt_cmpR op_lt (pv 3) (pe_op op_sub (pe_callB (call_lenK (K := K) rfl) (by rfl) T.len (by decide +kernel) (pa_cons (pv 1) pa_nil)) pe_int) (nomark _))
            (pss_one (ps_expr (PE.bmK (K := K) rfl (pe_bm PySem.F.plainAttrs_list PySem.F.slot_list_append PySem.F.type_list_append mt_append (pv 5) (pa_cons (pe_tup (pa_cons (pv 3) (pa_cons (pe_op op_add (pv 3) pe_int) pa_nil))) pa_nil)))))
            pss_nil)))))
      (pss_one (ps_ret (pe_tup (pa_cons (pv 4) (pa_cons (pe_callTy (call_tupleK (K := K) rfl) (by rfl) T.tuple (by decide +kernel) (pa_cons (pe_callB (cr_sortPrK (K := K) rfl) (by rfl) T.sorted (by decide +kernel) (pa_cons (pv 5) pa_nil)) pa_nil)) pa_nil))))))))), ?_⟩
    refine r_at (σ := [some _, some _, none, none, none, none]) rfl ?_
    walk_at "z"
    refine ⟨g, l, (n : Int), ps, o, rfl, hgr, hl, by omega, lps, fun R rs H1 R0 s1 hR prs => ?_⟩
    have hl1 := s1 _ _ hl
    have lrs := prs.length
    have lfl := fill_len o ps
    have oat : ∀ {k : Nat}, k < n → ∃ v r t, o[k]? = some v ∧ (fillL ps o)[k]? = some r ∧ atI (o.map V.int) (k : Int) = some (.int v) ∧ atI rs (k : Int) = some (.ref t) ∧ H1 t = some (.lst (r.map V.int)) ∧ r.Sublist (o.drop (k + 1)) := fun {k} hk => by
      have h1 := List.getElem?_eq_getElem (l := o) (i := k) (by omega)
      have h2 := List.getElem?_eq_getElem (l := fillL ps o) (i := k) (by omega)
      obtain ⟨y, hy, t, _, rfl, ht⟩ := pd_get2 prs h2
      exact ⟨_, _, t, h1, h2, atI_nat (by rw [List.getElem?_map, h1]; rfl), atI_nat hy, ht, fill_sub o ps h2⟩
    walk_at "z"
    rw [List.length_map]
    refine r_rg1 (by omega) fun d hd => lcR_range (fun m H' => Same H1 H' ∧ ∃ ys bs, H' d = some (.lst ys) ∧ ITups H' ys bs ∧ bs.length = m ∧ ∀ (k : Nat) (v : Int) (r b : List Int), o[k]? = some v → (fillL ps o)[k]? = some r → bs[k]? = some b → b.Pairwise (· < ·) ∧ ∀ z, z ∈ b ↔ z = v ∨ z ∈ r) (by walk_at "zw") ⟨same_new hd, [], [], upd_same, .nil, rfl, fun k v r b _ _ h => by simp at h⟩ ?_ ?_
    · rintro m H' hm ⟨s2, ys, bs, hys, pys, lbs, all⟩
      obtain ⟨v, r, t, ov, fr, av, ar, ht, sub⟩ := oat (k := m) (by omega)
      have em : (0 : Int) + (m : Int) = (m : Int) := by omega
      have hl2 := s2 _ _ hl1
      have hR2 := s2 _ _ hR
      have ht2 := s2 _ _ ht
      have lys := pys.length
      rw [← em] at av ar
      have lr : r.length ≤ 10 := by
        have := sub.length_le
        rw [List.length_drop] at this
        omega
      walk_at "z"
      refine ⟨rfl, ?_⟩
      walk_at "z"
      refine r_lstN sz1 fun e he => ?_
      have sA : Same H' (upd H' e (.lst [.int v])) := same_new he
      have heA : (upd H' e (.lst [.int v])) e = some (.lst [.int v]) := upd_same
      generalize upd H' e (.lst [.int v]) = HA at sA heA ⊢
      have hRA := sA _ _ hR2
      have htA := sA _ _ ht2
      walk_at "z"
      refine r_cat heA htA (by rw [List.length_map]; simp only [List.length_cons, List.length_nil]; omega) fun f hf => ?_
      have ec : [V.int v] ++ r.map V.int = (v :: r).map V.int := rfl
      rw [ec]
      have sB : Same HA (upd HA f (.lst ((v :: r).map V.int))) := same_new hf
      have hfB : (upd HA f (.lst ((v :: r).map V.int))) f = some (.lst ((v :: r).map V.int)) := upd_same
      generalize upd HA f (.lst ((v :: r).map V.int)) = HB at sB hfB ⊢
      walk_at "z"
      refine r_sortI (.inl (.inl hfB)) (by simp only [List.length_cons]; omega) fun ms p pm pw hp => ?_
      have sC : Same HB (upd HB p (.lst (ms.map V.int))) := same_new hp
      have hpC : (upd HB p (.lst (ms.map V.int))) p = some (.lst (ms.map V.int)) := upd_same
      generalize upd HB p (.lst (ms.map V.int)) = HC at sC hpC ⊢
      walk_at "z"
      refine r_tupL (.inl (.inl hpC)) fun tt htt => ?_
      have sD : Same HC (upd HC tt (.tup (ms.map V.int))) := same_new htt
      have htD : (upd HC tt (.tup (ms.map V.int))) tt = some (.tup (ms.map V.int)) := upd_same
      generalize upd HC tt (.tup (ms.map V.int)) = HD at sD htD ⊢
      have sAll := ((sA.trans sB).trans sC).trans sD
      have hysD := sAll _ _ hys
      have kE : TK HD (upd HD d (.lst (ys ++ [.ref tt]))) := .lst hysD
      have vr : (v :: r).Nodup := by
        refine List.nodup_cons.mpr ⟨fun h => ?_, nd.sublist (sub.trans (List.drop_sublist _ _))⟩
        obtain ⟨x, y, _⟩ := mem_drop nd (sub.mem h)
        have hl9 := (List.getElem?_eq_some_iff.mp ov).1
        have e9 := (List.getElem?_eq_some_iff.mp ov).2
        rw [← e9, idx_at nd hl9] at x
        omega
      refine r_lce hysD (small_lt (by omega)) ⟨same_mut (s2.trans sAll) hd, _, bs ++ [ms], upd_same, (ITups.tk ((TK.of_same sAll).trans kE) pys).snoc ⟨tt, rfl, kE _ _ htD⟩, by rw [List.length_append, lbs]; rfl, fun k v' r' b ho hf hb => ?_⟩
      rcases Nat.lt_or_ge k bs.length with h | h
      · rw [List.getElem?_append_left h] at hb
        exact all k v' r' b ho hf hb
      · rw [List.getElem?_append_right h] at hb
        have ek : k = m := by
          have := (List.getElem?_eq_some_iff.mp hb).1
          simp only [List.length_cons, List.length_nil] at this
          omega
        subst ek
        rw [lbs, Nat.sub_self] at hb
        have e9 : ms = b := by simpa using hb
        rw [ov] at ho
        rw [fr] at hf
        cases ho
        cases hf
        subst e9
        exact asc_of_perm vr pm pw
    · rintro H2 ⟨s2, ys, bs, hys, pys, lbs, all⟩
      have en : ((o.length : Nat) : Int).toNat = n := by omega
      rw [en] at lbs
      walk_at "z"
      refine r_tupL (.inl (.inl hys)) fun tb htb => ?_
      have s3 : Same H2 (upd H2 tb (.tup ys)) := same_new htb
      have hb3 : BgAt (upd H2 tb (.tup ys)) (.ref tb) bs := ⟨tb, ys, rfl, upd_same, ITups.tk (.of_same s3) pys⟩
      generalize upd H2 tb (.tup ys) = H3 at s3 hb3 ⊢
      walk_at "z"
      refine r_lstN (by decide) fun F hF => ?_
      have s4 : Same H3 (upd H3 F (.lst [])) := same_new hF
      have hF4 : (upd H3 F (.lst [])) F = some (.lst []) := upd_same
      have hb4 := hb3.tk (.of_same s4)
      have F1 : H1 F = none := (s2.trans s3).free hF
      generalize upd H3 F (.lst []) = H4 at s4 hF4 hb4 ⊢
      have s14 := (s2.trans s3).trans s4
      have hl4 := s14 _ _ hl1
      have tdc := order_tdc one nd mem len (ps := ps) (fun p hp => by have := gd.inn p hp; omega) (bags := bs) lbs all
      walk_at "z"
      rw [List.length_map]
      refine r_rg1 (by omega) (forR_range (fun i σ' H' => (∃ x3 x6, σ' = [some g, some (.ref l), some (.ref R), x3, some (.ref tb), some (.ref F)] ∧ x6 = x3) ∧ Same H1 H' ∧ BgAt H' (.ref tb) bs ∧ ∃ ls, H' F = some (.lst ls) ∧ Prs H' ls ((List.range (min i (n - 1))).map fun (k : Nat) => ((k : Int), (parO o (fillL ps o) k : Int))))
        ⟨⟨_, _, rfl, rfl⟩, s14, hb4, [], hF4, by rw [Nat.zero_min]; exact .nil⟩ ?_ ?_)
      · rintro i σ' H5 hi ⟨⟨x3, x6, rfl, _⟩, s5, hb5, ls, hF5, pls⟩
        obtain ⟨v, r, t, ov, fr, av, ar, ht, sub⟩ := oat (k := i) (by omega)
        have em : (0 : Int) + (i : Int) = (i : Int) := by omega
        rw [← em] at av ar
        have hl5 := s5 _ _ hl1
        have hR5 := s5 _ _ hR
        have ht5 := s5 _ _ ht
        have lls := pls.length
        rw [List.length_map, List.length_range] at lls
        have mn : min i (n - 1) ≤ 10 := by omega
        -- one more link
        have push : ∀ {H6 : Hp} {c : Addr} {j : Nat}, i + 1 < n → parO o (fillL ps o) i = j → Same H5 H6 → H6 c = none → ∃ ls', (upd (upd H6 c (.tup [.int (0 + (i : Int)), .int (j : Int)])) F (.lst (ls ++ [.ref c]))) F = some (.lst ls') ∧ Prs (upd (upd H6 c (.tup [.int (0 + (i : Int)), .int (j : Int)])) F (.lst (ls ++ [.ref c]))) ls' ((List.range (min (i + 1) (n - 1))).map fun (k : Nat) => ((k : Int), (parO o (fillL ps o) k : Int))) := fun {H6 c j} h e s6 hc => by
          refine ⟨_, upd_same, ?_⟩
          rw [show min (i + 1) (n - 1) = i + 1 by omega, List.range_succ, List.map_append, List.map_cons, List.map_nil, e]
          rw [show min i (n - 1) = i by omega] at pls
          have := prs_push (a := 0 + (i : Int)) (b := (j : Int)) (s6 _ _ hF5) (pls.tk (.of_same s6)) hc
          have e2 : (((i : Nat) : Int), (j : Int)) = (0 + (i : Int), (j : Int)) := by rw [em]
          rw [e2]
          exact this
        have H1F : H1 F = none := F1
        walk_at "z"
        refine r_lstN (by decide) fun e he => ?_
        have sA : Same H5 (upd H5 e (.lst [])) := same_new he
        have heA : (upd H5 e (.lst [])) e = some (.lst []) := upd_same
        generalize upd H5 e (.lst []) = HA at sA heA ⊢
        have hlA := sA _ _ hl5
        have hRA := sA _ _ hR5
        have htA := sA _ _ ht5
        have hFA := sA _ _ hF5
        refine r_neNilL htA heA ?_
        walk_at "z"
        refine r_iteN (fun ne => ?_) (fun eq => ?_)
        · obtain ⟨u, r', rfl⟩ : ∃ u r', r = u :: r' := by
            cases r with
            | nil => exact absurd rfl ne
            | cons u r' => exact ⟨u, r', rfl⟩
          have um := sub.mem (List.mem_cons_self (a := u) (l := r'))
          obtain ⟨u1, u2, u3⟩ := mem_drop nd um
          have ep : parO o (fillL ps o) i = o.idxOf u := by
            unfold parO
            rw [fr]
          have au : atI ((u :: r').map V.int) 0 = some (.int u) := atI_nat (j := 0) rfl
          walk_at "z"
          refine r_listL (.inl (.inl hlA)) fun lc hlc => ?_
          have sB : Same HA (upd HA lc (.lst (o.map V.int))) := same_new hlc
          have hlB : (upd HA lc (.lst (o.map V.int))) lc = some (.lst (o.map V.int)) := upd_same
          generalize upd HA lc (.lst (o.map V.int)) = HB at sB hlB ⊢
          have hRB := sB _ _ hRA
          have htB := sB _ _ htA
          have hFB := sB _ _ hFA
          walk_at "z"
          refine r_index (.inl (.inl hlB)) u3 ?_
          walk_at "z"
          refine r_tupN sz2 fun c hc => ?_
          have hFC := (same_new (o := .tup [.int (0 + (i : Int)), .int (o.idxOf u : Nat)]) hc) _ _ hFB
          walk_at "z"
          refine r_appT hFC (small_lt (by omega)) ?_
          obtain ⟨ls', h1, h2⟩ := push (H6 := HB) (c := c) (by omega) ep (sA.trans sB) hc
          refine ⟨⟨_, _, rfl, rfl⟩, same_mut ((s5.trans (sA.trans sB)).trans (same_new hc)) H1F, ?_, ls', h1, h2⟩
          exact (hb5.tk (((TK.of_same (sA.trans sB)).trans (.new hc)).trans (.lst hFC)))
        · walk_at "z"
          rw [List.length_map]
          refine r_ite (fun lt => ?_) (fun ge => ?_)
          · have ep : parO o (fillL ps o) i = i + 1 := by
              unfold parO
              rw [fr, eq]
            walk_at "z"
            refine r_tupN sz2 fun c hc => ?_
            rw [show (0 : Int) + (i : Int) + 1 = ((i + 1 : Nat) : Int) by omega]
            have hFC := (same_new (o := .tup [.int (0 + (i : Int)), .int ((i + 1 : Nat) : Int)]) hc) _ _ hFA
            walk_at "z"
            refine r_appT hFC (small_lt (by omega)) ?_
            obtain ⟨ls', h1, h2⟩ := push (H6 := HA) (c := c) (by omega) ep sA hc
            refine ⟨⟨_, _, rfl, rfl⟩, same_mut ((s5.trans sA).trans (same_new hc)) H1F, ?_, ls', h1, h2⟩
            exact (hb5.tk (((TK.of_same sA).trans (.new hc)).trans (.lst hFC)))
          · walk_at "z"
            refine ⟨⟨_, _, rfl, rfl⟩, s5.trans sA, hb5.tk (.of_same sA), ls, hFA, ?_⟩
            rw [show min (i + 1) (n - 1) = min i (n - 1) by omega]
            exact pls.tk (.of_same sA)
      · rintro σ' H5 ⟨⟨x3, x6, rfl, _⟩, s5, hb5, ls, hF5, pls⟩
        rw [show min ((o.length : Nat) : Int).toNat (n - 1) = n - 1 by omega] at pls
        walk_at "z"
        refine ⟨F, _, _, rfl, .inl (.inl hF5), pls, fun us qs p pm hu pw hp => ?_⟩
        have s6 : Same H5 (upd H5 p (.lst us)) := same_new hp
        have hp6 : (upd H5 p (.lst us)) p = some (.lst us) := upd_same
        have hu6 := hu.tk (.of_same s6)
        generalize upd H5 p (.lst us) = H6 at s6 hp6 hu6 ⊢
        walk_at "z"
        refine r_tupL (.inl (.inl hp6)) fun tm htm => ?_
        have s7 : Same H6 (upd H6 tm (.tup us)) := same_new htm
        have hm7 : LkAt (upd H6 tm (.tup us)) (.ref tm) qs := ⟨tm, us, rfl, upd_same, hu6.tk (.of_same s7)⟩
        generalize upd H6 tm (.tup us) = H7 at s7 hm7 ⊢
        walk_at "z"
        refine r_tupN sz2 fun tr htr => ?_
        have s8 : Same H7 (upd H7 tr (.tup [.ref tb, .ref tm])) := same_new htr
        have en2 : (((List.range (n - 1)).map fun (k : Nat) => ((k : Int), (parO o (fillL ps o) k : Int))).map nrm) = (List.range (n - 1)).map fun (k : Nat) => ((k : Int), (parO o (fillL ps o) k : Int)) := by
          rw [List.map_map]
          refine List.map_congr_left fun k hk => ?_
          have hk := List.mem_range.mp hk
          have := par_ok nd ps (k := k) (by omega)
          show nrm ((k : Int), (parO o (fillL ps o) k : Int)) = _
          unfold nrm
          exact Prod.ext (by dsimp only; omega) (by dsimp only; omega)
        have pm' : qs.Perm (((List.range (n - 1)).map fun (k : Nat) => ((k : Int), (parO o (fillL ps o) k : Int))).map nrm) := by
          rw [en2]
          exact pm
        exact q (.ref tr) bs qs _ ((s1.trans s5).trans ((s6.trans s7).trans s8)) ⟨tr, .ref tb, .ref tm, rfl, upd_same, hb5.tk (((TK.of_same s6).trans (.of_same s7)).trans (.of_same s8)), hm7.tk (.of_same s8)⟩ (tdc.links pm') (nl_of pm' pw (fun l hl => (tdc.inn l hl).2.2) tdc.nodup) lbs
end

set_option Elab.async false
set_option linter.all false
set_option maxRecDepth 100000
set_option maxHeartbeats 4000000
open PySem PySem.Spec PyProof.Rows L2

abbrev s_law_grown_bags : Stmt := topS 54
theorem sc_law_grown_bags : FnScope ["pool", "decomposition", "bags", "links", "k", "at", "kept", "order", "moved", "i", "j", "v"] ["pool", "decomposition"] (defScope s_law_grown_bags) := ⟨rfl, rfl, rfl, by decide +kernel, rfl, by decide +kernel, by decide +kernel⟩

section
variable {P : Program} {w : World} {K : PySem.W.Frag} {mg : Str → Option Value} {base : Heap}
theorem sub_next {l zs : List Int} {i : Nat} {v : Int} (s : zs.Sublist (l.take i)) (h : l[i]? = some v) : (zs ++ [v]).Sublist (l.take (i + 1)) ∧ zs.Sublist (l.take (i + 1)) := by
  rw [take_next h]
  exact ⟨List.Sublist.append s (.refl _), s.trans (List.sublist_append_left _ _)⟩
def spGrown : Sp := fun vs H Q _ => ∃ (a s : Addr) (d : V) (n : Int) (ps : List (Int × Int)) (bags : List (List Int)) (L : List (Int × Int)), vs = [.ref a, d] ∧ Pool H a s ∧ DcAt H d bags L ∧ Tdc n ps bags L ∧ bags.length ≤ 10 ∧ n ≤ 1000 ∧ (∀ b ∈ bags, b.length ≤ 100) ∧
  ∀ (v : V) (bags' : List (List Int)) (M : List (Int × Int)) (H' : Hp), Pool H' a s → Gr a H H' → DcAt H' v bags' M → Tdc n ps bags' M → NL M → bags'.length ≤ 20 → (∀ b ∈ bags', b.length ≤ 100) → Q v H'
theorem ok_grown (T : Blt mg) (D : DefAt K mg "_law_grown_bags" s_law_grown_bags ["pool", "decomposition"]) (D_law_draw : DefAt K mg "_law_draw" s_law_draw ["pool", "many"]) (G_law_draw : FnOk P w K mg base CX0 2 D_law_draw.f D_law_draw.fd ["pool", "many"] spDraw)
    (D_law_shuffled : DefAt K mg "_law_shuffled" s_law_shuffled ["pool", "items"]) (G_law_shuffled : FnOk P w K mg base CX0 3 D_law_shuffled.f D_law_shuffled.fd ["pool", "items"] (spShuf K)) :
    FnOk P w K mg base CX0 4 D.f D.fd ["pool", "decomposition"] spGrown := by
  refine D.F.ok sc_law_grown_bags (fun vs H Q E h => ?_) (fun cdv A outer s H vs Q E hr h => ?_)
  · obtain ⟨a, s, d, n, ps, bags, L, rfl, _⟩ := h
    rfl
  · obtain ⟨a, s0, d, n, ps, bags, L, rfl, hP, hd, t, lb, n1, small, q⟩ := h
    obtain ⟨td, b, l, rfl, htd, ⟨tb, xs, rfl, htb, pxs⟩, ⟨tl, ls, rfl, htl, pls⟩⟩ := id hd
    refine ⟨_, (pss_cons (ps_set (i := 2) sc_law_grown_bags.nd rfl (Or.inr rfl) (pe_callTy (call_listK (K := K) rfl) (by rfl) T.list (by decide +kernel) (pa_cons (pe_ix (ix_tupK (K := K) rfl) (pv 1) pe_int (fun _ _ => rfl)) pa_nil)))
      (pss_cons (ps_set (i := 3) sc_law_grown_bags.nd rfl (Or.inl rfl) (pe_callTy (call_listK (K := K) rfl) (by rfl) T.list (by decide +kernel) (pa_cons (pe_ix (ix_tupK (K := K) rfl) (pv 1) pe_int (fun _ _ => rfl)) pa_nil)))
      (pss_cons (ps_for PassesOwn.never (by rfl) (pi_range1 (by rfl) T.range (pa_cons (pe_call G_law_draw (hr.mono (by first | decide | omega)) (by rfl) D_law_draw.g D_law_draw.F.kp D_law_draw.b .nil pass0 (pa_cons (pv 0) (pa_cons pe_int pa_nil))) pa_nil)) (pg_name (i := 4) sc_law_grown_bags.nd rfl (Or.inl rfl))
        (pss_cons (ps_set (i := 5) sc_law_grown_bags.nd rfl (Or.inl rfl) (pe_call G_law_draw (hr.mono (by first | decide | omega)) (by rfl) D_law_draw.g D_law_draw.F.kp D_law_draw.b .nil pass0 (pa_cons (pv 0) (pa_cons (pe_callB (call_lenK (K := K) rfl) (by rfl) T.len (by decide +kernel) (pa_cons (pv 2) pa_nil)) pa_nil))))
        (pss_cons (ps_set (i := 6) sc_law_grown_bags.nd rfl (Or.inl rfl) (pe_callTy (call_tupleK (K := K) rfl) (by rfl) T.tuple (by decide +kernel) (pa_cons (pe_lc (own := [("v", 11)]) (by rfl) sc_law_grown_bags.nd (PI.tupK (K := K) rfl (pi_tup (pe_ix (ix_listK (K := K) rfl) (pv 2) (pv 5) (fun _ _ => rfl)))) (blkOk_by (own := [("v", 11)]) (N := ["pool", "decomposition", "bags", "links", "k", "at", "kept", "order", "moved", "i", "j", "v"]) (sc := (defScope s_law_grown_bags)) (by decide +kernel)) (fun _ _ _ _ _ => (pg_name (i := 11) sc_law_grown_bags.nd rfl (Or.inl rfl))) (fun _ _ _ _ _ => (pts_one (pt_cmpR op_gt (pe_call G_law_draw (hr.mono (by first | decide | omega)) (by rfl) D_law_draw.g D_law_draw.F.kp D_law_draw.b .nil pass0 (pa_cons (pv 0) (pa_cons pe_int pa_nil))) pe_int (nomark _)))) (fun _ _ _ _ _ => (pv 11))) pa_nil)))
        (pss_one (ps_if (pt_cmpR (op_neDK (K := K) rfl hr.units) (pv 6) (pe_tup pa_nil) (nomark _))
          (pss_cons (ps_expr (PE.bmK (K := K) rfl (pe_bm PySem.F.plainAttrs_list PySem.F.slot_list_append PySem.F.type_list_append mt_append (pv 3) (pa_cons (pe_tup (pa_cons (pv 5) (pa_cons (pe_callB (call_lenK (K := K) rfl) (by rfl) T.len (by decide +kernel) (pa_cons (pv 2) pa_nil)) pa_nil))) pa_nil))))
          (pss_one (ps_expr (PE.bmK (K := K) rfl (pe_bm PySem.F.plainAttrs_list PySem.F.slot_list_append PySem.F.type_list_append mt_append (pv 2) (pa_cons (pv 6) pa_nil))))))
          pss_nil)))))
      (pss_cons (ps_set (i := 7) sc_law_grown_bags.nd rfl (Or.inr rfl) (pe_call G_law_shuffled (hr.mono (by first | decide | omega)) (by rfl) D_law_shuffled.g D_law_shuffled.F.kp D_law_shuffled.b .nil pass0 (pa_cons (pv 0) (pa_cons (pe_listRg rfl (by rfl) T.list (prg_1 (by rfl) T.range (pe_callB (call_lenK (K := K) rfl) (by rfl) T.len (by decide +kernel) (pa_cons (pv 2) pa_nil)))) pa_nil))))
      (pss_cons (ps_setLc (i := 8) (own := [("k", 4)]) (by rfl) sc_law_grown_bags.nd rfl rfl (sw_true rfl rfl rfl (by decide +kernel)) (pi_range1 (by rfl) T.range (pa_cons (pe_callB (call_lenK (K := K) rfl) (by rfl) T.len (by decide +kernel) (pa_cons (pv 2) pa_nil)) pa_nil)) (blkOk_by (own := [("k", 4)]) (N := ["pool", "decomposition", "bags", "links", "k", "at", "kept", "order", "moved", "i", "j", "v"]) (sc := (defScope s_law_grown_bags)) (by decide +kernel)) (fun _ _ _ _ _ => (pg_name (i := 4) sc_law_grown_bags.nd rfl (Or.inl rfl))) (fun _ _ _ _ _ => pts_nil) (fun _ _ _ _ _ => (pe_ix (ix_listK (K := K) rfl) (pv 2) (PE.bmK (K := K) rfl (pe_bm PySem.F.plainAttrs_list PySem.F.slot_list_index PySem.F.type_list_index (mt_indexK (K := K) rfl) (pv 7) (pa_cons (pv 4) pa_nil))) (fun _ _ => rfl))))
      (pss_cons (ps_set (i := 3) sc_law_grown_bags.nd rfl (Or.inl rfl) (pe_callB (cr_sortPrK (K := K) rfl) (by rfl) T.sorted (by decide +kernel) (pa_cons (pe_lc (own := [("i", 9), ("j", 10)]) (by rfl) sc_law_grown_bags.nd (PI.listK (K := K) rfl (pi_list (pv 3))) (blkOk_by (own := [("i", 9), ("j", 10)]) (N := ["pool", "decomposition", "bags", "links", "k", "at", "kept", "order", "moved", "i", "j", "v"]) (sc := (defScope s_law_grown_bags)) (by decide +kernel)) (fun _ _ _ _ _ => (PG.tupK (K := K) rfl (pg_tup (n := 2) rfl (pgs_cons (pg_name (i := 9) sc_law_grown_bags.nd rfl (Or.inl rfl)) (pgs_cons (pg_name (i := 10) sc_law_grown_bags.nd rfl (Or.inl rfl)) pgs_nil))))) (fun _ _ _ _ _ => pts_nil) (fun _ _ _ _ _ => (pe_tup (pa_cons (pe_callB (call_min2' rfl) (by rfl) T.min (by decide +kernel) (pa_cons (pe_ix (ix_listK (K := K) rfl) (pv 7) (pv 9) (fun _ _ => rfl)) (pa_cons (pe_ix (ix_listK (K := K) rfl) (pv 7) (pv 10) (fun _ _ => rfl)) pa_nil))) (pa_cons (pe_callB (call_max2' rfl) (by rfl) T.max (by decide +kernel) (pa_cons (pe_ix (ix_listK (K := K) rfl) (pv 7) (pv 9) (fun _ _ => rfl)) (pa_cons (pe_ix (ix_listK (K := K) rfl) (pv 7) (pv 10) (fun _ _ => rfl)) pa_nil))) pa_nil))))) pa_nil)))
      (pss_one (ps_ret (pe_tup (pa_cons (pe_callTy (call_tupleK (K := K) rfl) (by rfl) T.tuple (by decide +kernel) (pa_cons (pv 8) pa_nil)) (pa_cons (pe_callTy (call_tupleK (K := K) rfl) (by rfl) T.tuple (by decide +kernel) (pa_cons (pv 3) pa_nil)) pa_nil))))))))))), ?_⟩
    refine r_at (σ := [some _, some _, none, none, none, none, none, none, none, none, none, none]) rfl ?_
    walk_at "z"
    refine r_listT (.inl (.inl htb)) fun B hB => ?_
    have s1 : Same H (upd H B (.lst xs)) := same_new hB
    have hB1 : (upd H B (.lst xs)) B = some (.lst xs) := upd_same
    have hP1 := hP.mono s1
    have B0 : H B = none := hB
    generalize upd H B (.lst xs) = H1 at s1 hB1 hP1 ⊢
    have htd1 := s1 _ _ htd
    have htl1 := s1 _ _ htl
    walk_at "z"
    refine r_listT (.inl (.inl htl1)) fun C hC => ?_
    have s2 : Same H1 (upd H1 C (.lst ls)) := same_new hC
    have hC2 : (upd H1 C (.lst ls)) C = some (.lst ls) := upd_same
    have hB2 := s2 _ _ hB1
    have hP2 := hP1.mono s2
    have C0 : H C = none := s1.free hC
    have nBC : B ≠ C := ne_of_none hB1 hC
    have s02 := s1.trans s2
    have pxs2 : ITups (upd H1 C (.lst ls)) xs bags := ITups.tk (.of_same s02) pxs
    have pls2 := pls.tk (.of_same s02)
    generalize upd H1 C (.lst ls) = H2 at s02 hB2 hC2 hP2 pxs2 pls2 ⊢
    walk_at "z"
    refine ⟨a, s0, 4, rfl, hP2, by omega, by omega, fun r H3 r0 r1 hP3 g3 => ?_⟩
    have aB : B ≠ a := (new_ne hP B0).1
    have aC : C ≠ a := (new_ne hP C0).1
    have g03 : Gr a H H3 := (Gr.of_same s02).trans g3
    have k23 := g3.tk hP2
    walk_at "z"
    refine r_rg1 (by omega) (forR_range (fun i σ' H' => ∃ (ys : List V) (bs : List (List Int)) (zs : List V) (M : List (Int × Int)) (x4 x5 x6 x7 x8 x9 x10 x11 : Option V), σ' = [some (.ref a), some (.ref td), some (.ref B), some (.ref C), x4, x5, x6, x7, x8, x9, x10, x11] ∧ Pool H' a s0 ∧ Gr a H H' ∧ H' B = some (.lst ys) ∧ ITups H' ys bs ∧ H' C = some (.lst zs) ∧ Prs H' zs M ∧ Tdc n ps bs M ∧ bs.length ≤ 10 + i ∧ (∀ b ∈ bs, b.length ≤ 100))
      ⟨xs, bags, ls, L, _, _, _, _, _, _, _, _, rfl, hP3, g03, g3 _ _ aB hB2, ITups.tk k23 pxs2, g3 _ _ aC hC2, pls2.tk k23, t, by omega, small⟩ ?_ ?_)
    · rintro i σ' H4 hi ⟨ys, bs, zs, M, x4, x5, x6, x7, x8, x9, x10, x11, rfl, hP4, g4, hB4, pys, hC4, pzs, t4, lb4, sm4⟩
      have lys := pys.length
      have ne4 := t4.ne
      have lzs := pzs.length
      have cnt4 := t4.cnt
      walk_at "z"
      refine ⟨a, s0, _, rfl, hP4, by omega, by omega, fun c H5 c0 c1 hP5 g5 => ?_⟩
      have nc : nodeI bs.length c := ⟨c0, by omega⟩
      have k45 := g5.tk hP4
      have hB5 := g5 _ _ aB hB4
      have hC5 := g5 _ _ aC hC4
      have pys5 : ITups H5 ys bs := ITups.tk k45 pys
      have pzs5 := pzs.tk k45
      obtain ⟨y, hy, ty, rfl, hty⟩ := pd_get2 pys5 (bag_get nc)
      have smc := sm4 _ (bag_mem nc)
      have ay : atI ys c = some (.ref ty) := by
        have := atI_nat hy
        rwa [show ((c.toNat : Nat) : Int) = c by omega] at this
      walk_at "z"
      refine r_it (.inl (.inl hty)) fun D' hD' => lcR_tup (xs := (bagAt bs c).map V.int) (fun m H' => Pool H' a s0 ∧ Gr a H5 H' ∧ ∃ zs : List Int, H' D' = some (.lst (zs.map V.int)) ∧ zs.Sublist ((bagAt bs c).take m)) (by walk_at "zw") ⟨hP5.mono (same_new hD'), .new hD', [], upd_same, List.nil_sublist _⟩ (fun i H' _ ⟨hP', g', _⟩ => .inl (.inl (g'.tk hP5 _ _ hty))) ?_ ?_
      · rintro m v H6 hv ⟨hP6, g6, zs, hzs, sub⟩
        rw [List.getElem?_map] at hv
        obtain ⟨z, hz, rfl⟩ := Option.map_eq_some_iff.mp hv
        obtain ⟨sx, sy⟩ := sub_next sub hz
        have il := (List.getElem?_eq_some_iff.mp hz).1
        have lz := sub.length_le
        rw [List.length_take] at lz
        have nD := (new_ne hP5 hD').1
        walk_at "z"
        refine ⟨rfl, ?_⟩
        walk_at "z"
        refine ⟨a, s0, 3, rfl, hP6, by omega, by omega, fun e H7 e0 e1 hP7 g7 => ?_⟩
        have hzs7 := g7 _ _ nD hzs
        walk_at "z"
        refine r_ite (fun c1 => ?_) (fun c1 => ?_)
        · walk_at "z"
          refine r_lce hzs7 (small_lt (by rw [List.length_map]; omega)) ⟨hP7.upd (new_ne hP5 hD'), (g6.trans g7).mut hD', zs ++ [z], by rw [List.map_append]; exact upd_same, sx⟩
        · exact ⟨hP7, g6.trans g7, zs, hzs7, sy⟩
      · rintro H6 ⟨hP6, g6, zs', hzs, sub⟩
        rw [List.length_map, List.take_length] at sub
        have hB6 := g6 _ _ aB hB5
        have hC6 := g6 _ _ aC hC5
        walk_at "z"
        refine r_tupL (.inl (.inl hzs)) fun tk htk => ?_
        have s7 : Same H6 (upd H6 tk (.tup (zs'.map V.int))) := same_new htk
        have hk7 : (upd H6 tk (.tup (zs'.map V.int))) tk = some (.tup (zs'.map V.int)) := upd_same
        generalize upd H6 tk (.tup (zs'.map V.int)) = H7 at s7 hk7 ⊢
        walk_at "z"
        refine r_tupN (small_len (by simp)) fun te hte => ?_
        have s8 : Same H7 (upd H7 te (.tup [])) := same_new hte
        have he8 : (upd H7 te (.tup [])) te = some (.tup ([].map V.int)) := upd_same
        generalize upd H7 te (.tup []) = H8 at s8 he8 ⊢
        have s68 := s7.trans s8
        have hk8 := s8 _ _ hk7
        have hB8 := s68 _ _ hB6
        have hC8 := s68 _ _ hC6
        have hP8 := hP6.mono s68
        have g58 : Gr a H5 H8 := g6.trans (.of_same s68)
        have g08 : Gr a H H8 := (g4.trans g5).trans g58
        have k58 := g58.tk hP5
        have pys8 : ITups H8 ys bs := ITups.tk k58 pys5
        have pzs8 := pzs5.tk k58
        refine r_neTI (ns := zs') (ms := []) (.inl (.inl hk8)) (.inl (.inl he8)) ?_
        walk_at "z"
        refine r_iteN (fun ne => ?_) (fun eq => ?_)
        · walk_at "z"
          refine r_tupN sz2 fun tp htp => ?_
          have s9 : Same H8 (upd H8 tp (.tup [.int c, .int (ys.length : Nat)])) := same_new htp
          have hp9 : IsP (upd H8 tp (.tup [.int c, .int (ys.length : Nat)])) (.ref tp) (c, (ys.length : Int)) := ⟨tp, rfl, upd_same⟩
          have hP9 := hP8.mono s9
          have hB9 := s9 _ _ hB8
          have hC9 := s9 _ _ hC8
          have hk9 := s9 _ _ hk8
          have pys9 : ITups _ ys bs := ITups.tk (.of_same s9) pys8
          have pzs9 := pzs8.tk (.of_same s9)
          have g09 : Gr a H _ := g08.trans (.of_same s9)
          generalize upd H8 tp (.tup [.int c, .int (ys.length : Nat)]) = H9 at s9 hp9 hP9 hB9 hC9 hk9 pys9 pzs9 g09 ⊢
          walk_at "z"
          refine r_appT hC9 (small_lt (by omega)) ?_
          have kA : TK H9 (upd H9 C (.lst (zs ++ [.ref tp]))) := .lst hC9
          have hBA : (upd H9 C (.lst (zs ++ [.ref tp]))) B = some (.lst ys) := (upd_ne nBC).trans hB9
          have hCA : (upd H9 C (.lst (zs ++ [.ref tp]))) C = some (.lst (zs ++ [.ref tp])) := upd_same
          have hkA := kA _ _ hk9
          have pysA : ITups _ ys bs := ITups.tk kA pys9
          have pzsA := (pzs9.tk kA).snoc (hp9.tk kA)
          have hPA := hP9.upd (o := .lst (zs ++ [.ref tp])) (new_ne hP C0)
          have g0A : Gr a H (upd H9 C (.lst (zs ++ [.ref tp]))) := g09.mut C0
          generalize upd H9 C (.lst (zs ++ [.ref tp])) = HA at kA hBA hCA hkA pysA pzsA hPA g0A ⊢
          walk_at "z"
          refine r_appT hBA (small_lt (by omega)) ?_
          have kB : TK HA (upd HA B (.lst (ys ++ [.ref tk]))) := .lst hBA
          have tg := t4.grow nc ne sub
          rw [← lys] at tg
          refine ⟨ys ++ [.ref tk], bs ++ [zs'], zs ++ [.ref tp], M ++ [(c, (ys.length : Int))], _, _, _, _, _, _, _, _, rfl, hPA.upd (new_ne hP B0), g0A.mut B0, upd_same, (ITups.tk kB pysA).snoc ⟨tk, rfl, kB _ _ hkA⟩, (upd_ne nBC.symm).trans hCA, Prs.tk kB pzsA, tg, by rw [List.length_append]; simp only [List.length_cons, List.length_nil]; omega, fun b hb => ?_⟩
          rcases List.mem_append.mp hb with h | h
          · exact sm4 b h
          · rw [List.mem_singleton.mp h]
            have := sub.length_le
            omega
        · walk_at "z"
          exact ⟨ys, bs, zs, M, _, _, _, _, _, _, _, _, rfl, hP8, g08, hB8, pys8, hC8, pzs8, t4, by omega, sm4⟩
    · rintro σ' H4 ⟨ys, bs, zs, M, x4, x5, x6, x7, x8, x9, x10, x11, rfl, hP4, g4, hB4, pys, hC4, pzs, t4, lb4, sm4⟩
      have lys := pys.length
      have ne4 := t4.ne
      have lzs := pzs.length
      have cnt4 := t4.cnt
      walk_at "z"
      refine r_lRg (by omega) (by omega) fun l1 hl1 => ?_
      have s5 : Same H4 (upd H4 l1 (.lst ((rgI (ys.length : Int)).map V.int))) := same_new hl1
      have hl5 : (upd H4 l1 (.lst ((rgI (ys.length : Int)).map V.int))) l1 = some (.lst ((rgI (ys.length : Int)).map V.int)) := upd_same
      have hP5 := hP4.mono s5
      have l1a := (new_ne hP4 hl1).1
      have hB5 := s5 _ _ hB4
      have hC5 := s5 _ _ hC4
      have pys5 : ITups _ ys bs := ITups.tk (.of_same s5) pys
      have pzs5 := pzs.tk (.of_same s5)
      have g05 : Gr a H _ := g4.trans (.of_same s5)
      generalize upd H4 l1 (.lst ((rgI (ys.length : Int)).map V.int)) = H5 at s5 hl5 hP5 hB5 hC5 pys5 pzs5 g05 ⊢
      walk_at "z"
      refine ⟨a, s0, l1, rgI (ys.length : Int), rfl, hP5, l1a, hl5, by rw [rgI_len]; omega, fun fo od H6 hfo0 hfa hP6 g6 hfo pm => ?_⟩
      have hB6 := g6 _ _ aB hB5
      have hC6 := g6 _ _ aC hC5
      have k56 := g6.tk hP5
      have pys6 : ITups H6 ys bs := ITups.tk k56 pys5
      have pzs6 := pzs5.tk k56
      have nod : od.Nodup := pm.nodup_iff.mpr (nodup_rg _)
      have lod : od.length = bs.length := by
        rw [pm.length_eq, rgI_len]
        omega
      have mod : ∀ z, z ∈ od ↔ nodeI bs.length z := fun z => by
        rw [pm.mem_iff, mem_rgI, lys]
        rfl
      have idx : ∀ {k : Int}, nodeI bs.length k → od.idxOf k < bs.length ∧ od.getD (od.idxOf k) 0 = k := fun {k} h => by
        have m := (mod k).mpr h
        have h1 : od.idxOf k < od.length := List.idxOf_lt_length_of_mem m
        exact ⟨by omega, by rw [getD_i h1, List.getElem_idxOf h1]⟩
      have fat : ∀ {k : Int}, nodeI bs.length k → nodeI bs.length (od.getD k.toNat 0) ∧ (od.idxOf (od.getD k.toNat 0) : Int) = k ∧ atI (od.map V.int) k = some (.int (od.getD k.toNat 0)) := fun {k} h => by
        unfold nodeI at h
        have h1 : k.toNat < od.length := by omega
        refine ⟨?_, ?_, ?_⟩
        · rw [getD_i h1]
          exact (mod _).mp (List.getElem_mem h1)
        · rw [getD_i h1, idx_at nod h1]
          omega
        · have : atI (od.map V.int) ((k.toNat : Nat) : Int) = some (.int (od.getD k.toNat 0)) := atI_nat (by
            rw [List.getElem?_map, List.getElem?_eq_getElem h1, getD_i h1]
            rfl)
          rwa [show ((k.toNat : Nat) : Int) = k by omega] at this
      walk_at "z"
      refine r_rg1 (by omega) fun D' hD' => lcR_range (fun m H' => Same H6 H' ∧ ∃ us, H' D' = some (.lst us) ∧ ITups H' us ((List.range m).map fun (k : Nat) => bagAt bs (od.idxOf (k : Int) : Int))) (by walk_at "zw") ⟨same_new hD', [], upd_same, .nil⟩ ?_ ?_
      · rintro m H' hm ⟨s2, us, hus, pus⟩
        have em : (0 : Int) + (m : Int) = (m : Int) := by omega
        have nm : nodeI bs.length (m : Int) := by
          unfold nodeI
          omega
        obtain ⟨i1, i2⟩ := idx nm
        have ni : nodeI bs.length ((od.idxOf (m : Int) : Nat) : Int) := by
          unfold nodeI
          omega
        obtain ⟨y, hy, ty, rfl, hty⟩ := pd_get2 pys6 (bag_get ni)
        have ay : atI ys ((od.idxOf (m : Int) : Nat) : Int) = some (.ref ty) := atI_nat hy
        have hB7 := s2 _ _ hB6
        have hfo7 := s2 _ _ hfo
        have lus := pus.length
        rw [List.length_map, List.length_range] at lus
        walk_at "z"
        refine ⟨rfl, ?_⟩
        walk_at "z"
        rw [em]
        refine r_index (.inl (.inl hfo7)) ((mod _).mpr nm) ?_
        walk_at "z"
        have kE : TK H' (upd H' D' (.lst (us ++ [.ref ty]))) := .lst hus
        refine r_lce hus (small_lt (by omega)) ⟨same_mut s2 hD', _, upd_same, ?_⟩
        rw [List.range_succ, List.map_append]
        exact (ITups.tk kE pus).snoc ⟨ty, rfl, kE _ _ (s2 _ _ hty)⟩
      · rintro H7 ⟨s7, us, hus, pus⟩
        rw [show ((ys.length : Nat) : Int).toNat = bs.length by omega] at pus
        have hC7 := s7 _ _ hC6
        have hfo7 := s7 _ _ hfo
        have pzs7 := pzs6.tk (.of_same s7)
        walk_at "z"
        refine r_il (.inl (.inl hC7)) fun E' hE' => lcR_list (xs := zs) (fun m H' => Same H7 H' ∧ ∃ ws, H' E' = some (.lst ws) ∧ Prs H' ws ((M.take m).map fun l => nrm (od.getD l.1.toNat 0, od.getD l.2.toNat 0))) (by walk_at "zw") ⟨same_new hE', [], upd_same, .nil⟩ (fun i H' _ ⟨s2, _⟩ => .inl (.inl (s2 _ _ hC7))) ?_ ?_
        · rintro m y H' hy ⟨s2, ws, hws, pws⟩
          obtain ⟨⟨i, j⟩, hl, ty, rfl, hty⟩ := pd_get (pzs7.tk (.of_same s2)) hy
          have im := (List.getElem?_eq_some_iff.mp hl).1
          obtain ⟨ni, nj, _⟩ := t4.inn _ (List.mem_of_getElem? hl)
          dsimp only at ni nj hty
          have ai := (fat ni).2.2
          have aj := (fat nj).2.2
          have hfo8 := s2 _ _ hfo7
          have lws := pws.length
          rw [List.length_map, List.length_take] at lws
          refine r_gtup (.inl (.inl hty)) rfl ?_
          walk_at "z"
          refine ⟨rfl, ?_⟩
          walk_at "z"
          refine r_tupN sz2 fun t2 ht2 => ?_
          refine r_lce (by walk_at "zh") (small_lt (by omega)) ⟨same_mut (s2.trans (same_new ht2)) hE', _, upd_same, ?_⟩
          rw [take_next hl, List.map_append]
          exact prs_push hws pws ht2
        · rintro H8 ⟨s8, ws, hws, pws⟩
          rw [lzs, List.take_length] at pws
          walk_at "z"
          refine ⟨E', _, _, rfl, .inl (.inl hws), pws, fun as qs p pm' ha pw hp => ?_⟩
          have s9 : Same H8 (upd H8 p (.lst as)) := same_new hp
          have hp9 : (upd H8 p (.lst as)) p = some (.lst as) := upd_same
          have ha9 := ha.tk (.of_same s9)
          generalize upd H8 p (.lst as) = H9 at s9 hp9 ha9 ⊢
          have hus9 := s9 _ _ (s8 _ _ hus)
          walk_at "z"
          refine r_tupL (.inl (.inl hus9)) fun tb' htb' => ?_
          have sA : Same H9 (upd H9 tb' (.tup us)) := same_new htb'
          have hbA : (upd H9 tb' (.tup us)) tb' = some (.tup us) := upd_same
          generalize upd H9 tb' (.tup us) = HA at sA hbA ⊢
          have hpA := sA _ _ hp9
          walk_at "z"
          refine r_tupL (.inl (.inl hpA)) fun tm htm => ?_
          have sB : Same HA (upd HA tm (.tup as)) := same_new htm
          have hmB : LkAt (upd HA tm (.tup as)) (.ref tm) qs := ⟨tm, as, rfl, upd_same, ha9.tk ((TK.of_same sA).trans (.of_same sB))⟩
          generalize upd HA tm (.tup as) = HB at sB hmB ⊢
          walk_at "z"
          refine r_tupN sz2 fun tr htr => ?_
          have sC : Same HB (upd HB tr (.tup [.ref tb', .ref tm])) := same_new htr
          have s7B := ((s8.trans s9).trans sA).trans sB
          have s6C := (s7.trans s7B).trans sC
          have lbs : ((List.range bs.length).map fun (k : Nat) => bagAt bs (od.idxOf (k : Int) : Int)).length = bs.length := by rw [List.length_map, List.length_range]
          have tmv := t4.move (bags' := (List.range bs.length).map fun (k : Nat) => bagAt bs (od.idxOf (k : Int) : Int)) (f := fun k => od.getD k.toNat 0) (g := fun k => (od.idxOf k : Int)) lbs (fun k h => (fat h).1) (fun k h => by
            obtain ⟨x, _⟩ := idx h
            unfold nodeI
            omega) (fun k h => (fat h).2.1) (fun k h => by
            rw [show ((od.idxOf k : Nat) : Int).toNat = od.idxOf k by omega]
            exact (idx h).2) (fun k h => by
            unfold nodeI at h
            have h9 := bag_of (bags := (List.range bs.length).map fun (k : Nat) => bagAt bs (od.idxOf (k : Int) : Int)) (k := k.toNat) (b := bagAt bs (od.idxOf k : Int)) (by
              rw [List.getElem?_map, List.getElem?_range (by omega)]
              show some (bagAt bs (od.idxOf ((k.toNat : Nat) : Int) : Int)) = _
              rw [show ((k.toNat : Nat) : Int) = k by omega])
            rwa [show ((k.toNat : Nat) : Int) = k by omega] at h9)
          have pm2 : qs.Perm ((M.map fun l => (od.getD l.1.toNat 0, od.getD l.2.toNat 0)).map nrm) := by
            rw [List.map_map]
            exact pm'
          refine q (.ref tr) _ qs _ (hP6.mono s6C) ((g05.trans g6).trans (.of_same s6C)) ⟨tr, .ref tb', .ref tm, rfl, upd_same, ⟨tb', us, rfl, sC _ _ (sB _ _ hbA), ITups.tk (.of_same (s7B.trans sC)) pus⟩, hmB.tk (.of_same sC)⟩ (tmv.links pm2) (nl_of pm2 pw (fun l hl => (tmv.inn l hl).2.2) tmv.nodup) (by rw [lbs]; omega) (fun b hb => ?_)
          obtain ⟨k, hk, rfl⟩ := List.mem_map.mp hb
          have hk := List.mem_range.mp hk
          have nk : nodeI bs.length (k : Int) := by unfold nodeI; omega
          obtain ⟨x, _⟩ := idx nk
          exact sm4 _ (bag_mem (by unfold nodeI; omega))
end

set_option Elab.async false
set_option linter.all false
set_option maxRecDepth 100000
set_option maxHeartbeats 4000000
open PySem PySem.Spec PyProof.Rows L2 LamX RZ

abbrev s_law : Stmt := topS 56
theorem sc_law : FnScope ["script", "pool", "graph", "k", "one", "value", "j", "good", "pair", "bag"] ["script"] (defScope s_law) := ⟨rfl, rfl, rfl, by decide +kernel, rfl, by decide +kernel, by decide +kernel⟩

theorem Pool.ext {H H' : Hp} {a s : Addr} (h : Pool H a s) (k : ExtN H H') : Pool H' a s := by
  obtain ⟨ns, p, v, c, salt, h1, h2, h3, h4⟩ := h
  exact ⟨ns, p, v, c, salt, ext_lst k h1, ext_lst k h2, h3, h4⟩
theorem Pool.tab {TB : List (Addr × Str)} {a s : Addr} {H H' : Hp} (h : Pool H a s) (g : Gr a H H') (r : Tabs TB H) : Tabs TB H' := by
  obtain ⟨xs, hx⟩ := h.lst
  exact tabsGr g hx r
theorem gd_len8 {n : Int} {ps : List (Int × Int)} (g : GoodG n ps) (n8 : n ≤ 8) : ps.length ≤ 64 := by
  have := nodup_le ps ((List.range 8).flatMap fun (i : Nat) => (List.range 8).map fun (j : Nat) => ((i : Int), (j : Int))) (asc_nodup g.asc) fun p hp => by
    have b1 := g.inn p hp
    refine List.mem_flatMap.mpr ⟨p.1.toNat, List.mem_range.mpr (by omega), List.mem_map.mpr ⟨p.2.toNat, List.mem_range.mpr (by omega), ?_⟩⟩
    exact Prod.ext (by show ((p.1.toNat : Nat) : Int) = p.1; omega) (by show ((p.2.toNat : Nat) : Int) = p.2; omega)
  have e : ((List.range 8).flatMap fun (i : Nat) => (List.range 8).map fun (j : Nat) => ((i : Int), (j : Int))).length = 64 := by decide
  omega
theorem dx_of_tups {a : Addr} {H : Hp} : ∀ {xs : List V} {bs : List (List Int)}, ITups H xs bs → DXs a H xs (bs.map tI)
  | _, _, .nil => .nil
  | _, _, .cons ⟨t, e, h⟩ r => by
    subst e
    exact .cons (.tup (.inl h) (DXs.ints _)) (dx_of_tups r)
theorem dx_dec {a : Addr} {H : Hp} {v : V} {bags : List (List Int)} {L : List (Int × Int)} (h : DcAt H v bags L) : DX a H v (.tuple [.tuple (bags.map tI), .tuple (L.map prX)]) := by
  obtain ⟨t, b, l, rfl, ht, ⟨tb, xb, rfl, htb, pb⟩, ⟨tl, xl, rfl, htl, pl⟩⟩ := h
  exact .tup (.inl ht) (.cons (.tup (.inl htb) (dx_of_tups pb)) (.cons (.tup (.inl htl) (dx_of_prs pl)) .nil))
theorem lim_dec {bags : List (List Int)} {L : List (Int × Int)} (h1 : bags.length ≤ 20) (h2 : ∀ c ∈ bags, c.length ≤ 20) (h3 : L.length ≤ 20) : limX 3 20 (.tuple [.tuple (bags.map tI), .tuple (L.map prX)]) := by
  refine limX_mk (by simp) fun x hx => ?_
  rcases List.mem_cons.mp hx with rfl | hx
  · refine limX_mk (by rw [List.length_map]; omega) fun y hy => ?_
    obtain ⟨c, hc, rfl⟩ := List.mem_map.mp hy
    refine limX_mk (by rw [List.length_map]; have := h2 c hc; omega) fun z hz => ?_
    obtain ⟨i, _, rfl⟩ := List.mem_map.mp hz
    exact limX_int
  · rw [List.mem_singleton.mp hx]
    refine limX_mk (by rw [List.length_map]; omega) fun y hy => ?_
    obtain ⟨p, hp, rfl⟩ := List.mem_map.mp hy
    refine limX_mk (by simp) fun z hz => ?_
    rcases List.mem_cons.mp hz with rfl | hz
    · exact limX_int
    · rw [List.mem_singleton.mp hz]
      exact limX_int
theorem sub_nextP {l zs : List (Int × Int)} {i : Nat} {v : Int × Int} (s : zs.Sublist (l.take i)) (h : l[i]? = some v) : (zs ++ [v]).Sublist (l.take (i + 1)) ∧ zs.Sublist (l.take (i + 1)) := by
  rw [take_next h]
  exact ⟨List.Sublist.append s (.refl _), s.trans (List.sublist_append_left _ _)⟩
section
variable {P : Program} {w : World} {K : PySem.W.Frag} {mg : Str → Option Value} {base : Heap}
theorem fn_ex {k : Nat} {f : Addr} {fd : FuncData} {ps : List PySem.Str} {CX : CXT} {ι : Type} {sp : ι → Sp} (h : ∀ b, FnOk P w K mg base CX k f fd ps (sp b)) : FnOk P w K mg base CX k f fd ps (fun vs H Q E => ∃ b, sp b vs H Q E) :=
  ⟨fun vs H Q E ⟨b, x⟩ => (h b).1 vs H Q E x, fun x1 x2 x3 x4 x5 x6 x7 x8 x9 x10 x11 x12 x13 ⟨b, x⟩ => (h b).2 x1 x2 x3 x4 x5 x6 x7 x8 x9 x10 x11 x12 x13 x⟩
def spDecA (TT : List (Addr × Str)) : Sp := fun vs H Q E => ∃ b, spDecX b TT vs H Q E
def spIsDecA : Sp := fun vs H Q E => ∃ b, spIsDecX b vs H Q E
set_option hygiene false in
local macro_rules | `(tactic| walk_at "zone") => `(tactic| (
  walk_at "z"
  refine r_lRg (by omega) (by omega) fun l1 hl1 => ?_
  have s45 : Same H4 (upd H4 l1 (.lst ((rgI (n : Int)).map V.int))) := same_new hl1
  have hl15 : (upd H4 l1 (.lst ((rgI (n : Int)).map V.int))) l1 = some (.lst ((rgI (n : Int)).map V.int)) := upd_same
  have hP5 := hP4.mono s45
  have l1a := (new_ne hP4 hl1).1
  have T5 := tabs_same T4 s45
  have hg5 := hg4.tk (.of_same s45)
  have hq5 := hq4.tk (.of_same s45)
  generalize upd H4 l1 (.lst ((rgI (n : Int)).map V.int)) = H5 at s45 hl15 hP5 T5 hg5 hq5 ⊢
  walk_at "z"
  refine ⟨a, s0, l1, rgI (n : Int), rfl, hP5, l1a, hl15, by rw [rgI_len]; omega, fun fo od H6 hfo0 hfa hP6 g6 hfo pm => ?_⟩
  have T6 := hP5.tab g6 T5
  have hg6 := hg5.tk (g6.tk hP5)
  have hq6 := hq5.tk (g6.tk hP5)
  have odn : od.Nodup := pm.nodup_iff.mpr (rgI_nodup _)
  have odm : ∀ v, v ∈ od ↔ 0 ≤ v ∧ v < (n : Int) := fun v => by rw [pm.mem_iff, mem_rgI]
  have odl : od.length = n := by rw [pm.length_eq, rgI_len]; omega
  walk_at "z"
  refine ⟨_, fo, n, qs, od, rfl, hq6, gdq, hfo, odn, odm, odl, by omega, by omega, fun v0 bags L H7 s67 hd7 tdc nl lbg => ?_⟩
  have hP7 := hP6.mono s67
  have T7 := tabs_same T6 s67
  have hg7 := hg6.tk (.of_same s67)
  have smb : ∀ c ∈ bags, c.length ≤ 8 := fun c hc => by
    obtain ⟨b1, b2, b3⟩ := tdc.st c hc
    have := asc_len (n := n) b1 b3
    omega
  walk_at "z"
  refine ⟨a, s0, v0, (n : Int), qs, bags, L, rfl, hP7, hd7, tdc, by omega, by omega, fun c hc => by have := smb c hc; omega, fun v1 bags1 M H8 hP8 g8 hd8 tdc8 nl8 lb8 _ => ?_⟩
  have T8 := hP7.tab g8 T7
  have hg8 := hg7.tk (g8.tk hP7)
  have cnt8 := tdc8.cnt
  have hx8 : DX a H8 v1 _ := dx_dec hd8
  have hl8 := lim_dec (bags := bags1) (L := M) lb8 (fun c hc => by
    obtain ⟨b1, b2, b3⟩ := tdc8.st c hc
    have := asc_len (n := n) b1 b3
    omega) (by omega)
  generalize PyData.tuple [.tuple (bags1.map tI), .tuple (M.map prX)] = t8 at hx8 hl8
  walk_at "z"
  refine ⟨a, s0, 3, rfl, hP8, by omega, by omega, fun r9 H9 r90 r91 hP9 g9 => ?_⟩
  have T9 := hP8.tab g9 T8
  have hg9 := hg8.tk (g9.tk hP8)
  have hx9 := hP8.dx g9 hx8
  walk_at "z"
  refine r_rg1 (by omega) (forR_range (fun j σ' H' => (∃ xg gw x6 x7 x8 x9 t, σ' = [some (.ref l), some (.ref a), some (.ref ga), some (.int ((0 : Int) + (i : Int))), xg, some gw, x6, x7, x8, x9] ∧ DX a H' gw t ∧ limX (3 + 2 * j) (20 * 5 ^ j) t) ∧ Pool H' a s0 ∧ GrAt H' (.ref ga) (n : Int) p1 ∧ Tabs TT H') ⟨⟨_, _, _, _, _, _, _, rfl, hx9, hl8⟩, hP9, hg9, T9⟩ ?_ ?_)
  · rintro j σ' HA hj ⟨⟨xg, gw, x6, x7, x8, x9, t, rfl, hxA, hlA⟩, hPA, hgA, TA⟩
    obtain ⟨ga', eA, ega, hgaA, hgeA⟩ := id hgA
    cases ega
    have i1 : j ≤ 1 := by omega
    have p5 : 5 ^ j ≤ 5 ^ 1 := Nat.pow_le_pow_right (by decide) i1
    have p0 : 1 ≤ 5 ^ j := Nat.one_le_pow _ _ (by decide)
    walk_at "z"
    refine ⟨a, s0, gw, t, 3 + 2 * j, 20 * 5 ^ j, (n : Int), rfl, hPA, hxA, by omega, hlA, by omega, by omega, by omega, fun v' t' HB hPB gB hxB hlB => ?_⟩
    exact ⟨⟨_, _, _, _, _, _, _, rfl, hxB, hlB.mono (by omega) (by have := Nat.pow_succ 5 j; omega)⟩, hPB, hgA.tk (gB.tk hPA), hPA.tab gB TA⟩
  · rintro σ' HA ⟨⟨xg, gw, x6, x7, x8, x9, t, rfl, hxA, hlA⟩, hPA, hgA, TA⟩
    have p5 : 5 ^ r9.toNat ≤ 5 ^ 2 := Nat.pow_le_pow_right (by decide) (by omega)
    have hl9 : limX (3 + 2 * r9.toNat) 1000 t := hlA.mono (by omega) (by omega)
    walk_at "z"
    refine ⟨a, .ref ga, gw, (n : Int), p1, t, rfl, hgA, by omega, by omega, hxA, ⟨_, hl9⟩, fun r HB sB hrB => ?_⟩
    have TB := tabs_same TA sB
    have hPB := hPA.mono sB
    have hgB := hgA.tk (.of_same sB)
    have hxB := hxA.same sB
    walk_at "z"
    refine ⟨a, .ref ga, (n : Int), p1, gw, t, rfl, hgB, inn, by omega, by omega, by omega, hxB, ⟨_, hl9⟩, TB, fun r2 HC eC TC hrC => ?_⟩
    have er : r2 = r := Bool.eq_iff_iff.mpr (hrC.trans hrB.symm)
    subst er
    have hPC := hPB.ext eC
    have hgC := hgB.tk (ext_tk eC)
    have hxC := hxB.ext eC
    walk_at "z"
    refine ⟨.bl r2, .bl r2, .bool r2, rfl, .bl _, .bl _, trivial, ?_⟩
    walk_at "z"
    refine iteF ?_
    walk_at "z"
    cases r2 with
    | false =>
      refine iteF ?_
      walk_at "z"
      exact ⟨⟨_, _, _, _, _, _, _, rfl⟩, hPC, hgC, TC⟩
    | true =>
      obtain ⟨bags2, L2, rfl, tdc2, nl2⟩ := hrB.mp rfl
      obtain ⟨D1, _, _, lim1⟩ := limX_tup hl9
      obtain ⟨_, _, lb2, _⟩ := limX_tup (lim1 (.tuple (bags2.map tI)) (by simp))
      rw [List.length_map] at lb2
      cases hxC with
      | @tup tq xq _ htq hxq =>
      cases hxq with
      | @cons y1 _ _ _ hy1 hr1 =>
      cases hr1 with
      | @cons y2 _ _ _ hy2 hr2 =>
      cases hr2
      cases hy1 with
      | @tup tb xb _ htb hxb =>
      have hbx := dx_tups hxb
      have lxb : xb.length = bags2.length := hbx.length
      have ne2 : bags2 ≠ [] := List.length_pos_iff.mp tdc2.ne
      walk_at "z"
      refine ⟨tq, tb, y2, xb, bags2, rfl, htq, htb, hbx, ne2, by omega, fun m HD sD hm1 hm2 => ?_⟩
      have htqD := htq.same sD
      have htbD := htb.same sD
      have hbxD := hbx.ext (ext_same sD)
      have a0 : atI [V.ref tb, y2] 0 = some (.ref tb) := atI_nat (j := 0) rfl
      walk_at "z"
      refine r_ixT (.inl htqD) a0 ?_
      walk_at "z"
      refine r_it (.inl htbD) fun c hc => lcR_tup (xs := xb) (fun m H' => Same HD H' ∧ H' c = some (.lst (((bags2.take m).map fun c => (c.length : Int)).map V.int))) (by walk_at "zw") ⟨same_new hc, upd_same⟩ (fun i H' _ ⟨s2, _⟩ => .inl (htbD.same s2)) ?_ ?_
      · rintro j y H' hy ⟨s2, hcs⟩
        obtain ⟨nsb, hns, tv, rfl, htv⟩ := pd_get (hbxD.ext (ext_same s2)) hy
        have il := (List.getElem?_eq_some_iff.mp hns).1
        have hqv : SqT K H' tv (nsb.map V.int) := .inl htv
        walk_at "z"
        refine ⟨rfl, ?_⟩
        walk_at "z"
        rw [List.length_map]
        refine r_lce hcs (small_lt (by rw [List.length_map, List.length_map, List.length_take]; omega)) ⟨same_mut s2 hc, ?_⟩
        rw [take_next hns, List.map_append, List.map_append]
        exact upd_same
      · rintro HE ⟨sE, hcs⟩
        rw [lxb, List.take_length] at hcs
        walk_at "z"
        refine r_maxL (.inl (.inl hcs)) (by rw [List.length_map]; exact List.length_pos_iff.mpr ne2) fun m' hm hx => ?_
        have em : m = m' - 1 := by
          obtain ⟨c1, hc1, e1⟩ := hm1
          obtain ⟨c2, hc2, e2⟩ := List.mem_map.mp hm
          have a1 := hm2 c2 hc2
          have a2 := hx _ (List.mem_map.mpr ⟨c1, hc1, rfl⟩)
          omega
        walk_at "z"
        refine ⟨.int m, .int (m' - 1), .int m, rfl, .int _, by rw [em]; exact .int _, trivial, ?_⟩
        walk_at "z"
        refine iteF ?_
        walk_at "z"
        have sDE := sD.trans sE
        exact ⟨⟨_, _, _, _, _, _, _, rfl⟩, hPC.mono sDE, hgC.tk (.of_same sDE), tabs_same TC sDE⟩))
def spLaw (K : PySem.W.Frag) (TT : List (Addr × Str)) : Sp := fun vs H Q _ => ∃ (l : Addr) (ns : List Int), vs = [.ref l] ∧ SqL K H l (ns.map V.int) ∧ Tabs TT H ∧ ∀ H', Q (.bl true) H'
theorem ok_law {TT : List (Addr × Str)} (T : Blt mg) (D : DefAt K mg "law" s_law ["script"])
    (D_law_pool : DefAt K mg "_law_pool" s_law_pool ["script"]) (G_law_pool : FnOk P w K mg base CX0 1 D_law_pool.f D_law_pool.fd ["script"] (spPool K))
    (D_law_graph : DefAt K mg "_law_graph" s_law_graph ["pool", "most"]) (G_law_graph : FnOk P w K mg base CX0 63 D_law_graph.f D_law_graph.fd ["pool", "most"] spGraph)
    (D_law_draw : DefAt K mg "_law_draw" s_law_draw ["pool", "many"]) (G_law_draw : FnOk P w K mg base CX0 2 D_law_draw.f D_law_draw.fd ["pool", "many"] spDraw)
    (D_law_shuffled : DefAt K mg "_law_shuffled" s_law_shuffled ["pool", "items"]) (G_law_shuffled : FnOk P w K mg base CX0 3 D_law_shuffled.f D_law_shuffled.fd ["pool", "items"] (spShuf K))
    (D_law_from_order : DefAt K mg "_law_from_order" s_law_from_order ["graph", "order"]) (G_law_from_order : FnOk P w K mg base CX0 3 D_law_from_order.f D_law_from_order.fd ["graph", "order"] spFromOrder)
    (D_law_grown_bags : DefAt K mg "_law_grown_bags" s_law_grown_bags ["pool", "decomposition"]) (G_law_grown_bags : FnOk P w K mg base CX0 4 D_law_grown_bags.f D_law_grown_bags.fd ["pool", "decomposition"] spGrown)
    (D_law_spoilt : DefAt K mg "_law_spoilt" s_law_spoilt ["pool", "value", "n"]) (G_law_spoilt : FnOk P w K mg base CX0 10 D_law_spoilt.f D_law_spoilt.fd ["pool", "value", "n"] (spSpo 6))
    (D_law_is_decomposition : DefAt K mg "_law_is_decomposition" s_law_is_decomposition ["graph", "value"]) (G_law_is_decomposition : FnOk P w K mg base CX0 5 D_law_is_decomposition.f D_law_is_decomposition.fd ["graph", "value"] spIsDecA)
    (D_is_decomposition : DefAt K mg "is_decomposition" s_is_decomposition ["graph", "value"]) (G_is_decomposition : FnOk P w K mg base CX0 14 D_is_decomposition.f D_is_decomposition.fd ["graph", "value"] (spDecA TT))
    (D_width_of : DefAt K mg "width_of" s_width_of ["decomposition"]) (G_width_of : FnOk P w K mg base CX0 1 D_width_of.f D_width_of.fd ["decomposition"] spWid)
    (D_law_same : DefAt K mg "_law_same" s_law_same ["actual", "due"]) (G_law_same : FnOk P w K mg base CX0 4 D_law_same.f D_law_same.fd ["actual", "due"] (spSame K 4)) :
    FnOk P w K mg base CX0 64 D.f D.fd ["script"] (spLaw K TT) := by
  refine D.F.ok sc_law (fun vs H Q E h => ?_) (fun cdv A outer s H vs Q E hr h => ?_)
  · obtain ⟨l, ns, rfl, _⟩ := h
    rfl
  · obtain ⟨l, ns, rfl, hl, hT, q⟩ := h
    refine ⟨_, (pss_cons (ps_set (i := 1) sc_law.nd rfl (Or.inr rfl) (pe_call G_law_pool (hr.mono (by first | decide | omega)) (by rfl) D_law_pool.g D_law_pool.F.kp D_law_pool.b .nil pass0 (pa_cons (pv 0) pa_nil)))
      (pss_cons (ps_set (i := 2) sc_law.nd rfl (Or.inl rfl) (pe_call G_law_graph (hr.mono (by first | decide | omega)) (by rfl) D_law_graph.g D_law_graph.F.kp D_law_graph.b .nil pass0 (pa_cons (pv 1) (pa_cons pe_int pa_nil))))
      (pss_cons (ps_for PassesOwn.never (by rfl) (pi_range1 (by rfl) T.range (pa_cons pe_int pa_nil)) (pg_name (i := 3) sc_law.nd rfl (Or.inl rfl))
        (pss_cons (ps_set (i := 4) sc_law.nd rfl (Or.inl rfl) (pe_ifExp (pt_cmpR op_gt (pe_call G_law_draw (hr.mono (by first | decide | omega)) (by rfl) D_law_draw.g D_law_draw.F.kp D_law_draw.b .nil pass0 (pa_cons (pv 1) (pa_cons pe_int pa_nil))) pe_int (nomark _)) (pv 2) (pe_tup (pa_cons (pe_ix (ix_tupK (K := K) rfl) (pv 2) pe_int (fun _ _ => rfl)) (pa_cons (pe_callTy (call_tupleK (K := K) rfl) (by rfl) T.tuple (by decide +kernel) (pa_cons (pe_lc (own := [("pair", 8)]) (by rfl) sc_law.nd (PI.tupK (K := K) rfl (pi_tup (pe_ix (ix_tupK (K := K) rfl) (pv 2) pe_int (fun _ _ => rfl)))) (blkOk_by (own := [("pair", 8)]) (N := ["script", "pool", "graph", "k", "one", "value", "j", "good", "pair", "bag"]) (sc := (defScope s_law)) (by decide +kernel)) (fun _ _ _ _ _ => (pg_name (i := 8) sc_law.nd rfl (Or.inl rfl))) (fun _ _ _ _ _ => (pts_one (pt_cmpR op_gt (pe_call G_law_draw (hr.mono (by first | decide | omega)) (by rfl) D_law_draw.g D_law_draw.F.kp D_law_draw.b .nil pass0 (pa_cons (pv 1) (pa_cons pe_int pa_nil))) pe_int (nomark _)))) (fun _ _ _ _ _ => (pv 8))) pa_nil)) pa_nil)))))
        (pss_cons (ps_set (i := 5) sc_law.nd rfl (Or.inl rfl) (pe_call G_law_grown_bags (hr.mono (by first | decide | omega)) (by rfl) D_law_grown_bags.g D_law_grown_bags.F.kp D_law_grown_bags.b .nil pass0 (pa_cons (pv 1) (pa_cons (pe_call G_law_from_order (hr.mono (by first | decide | omega)) (by rfl) D_law_from_order.g D_law_from_order.F.kp D_law_from_order.b .nil pass0 (pa_cons (pv 4) (pa_cons (pe_call G_law_shuffled (hr.mono (by first | decide | omega)) (by rfl) D_law_shuffled.g D_law_shuffled.F.kp D_law_shuffled.b .nil pass0 (pa_cons (pv 1) (pa_cons (pe_listRg rfl (by rfl) T.list (prg_1 (by rfl) T.range (pe_ix (ix_tupK (K := K) rfl) (pv 2) pe_int (fun _ _ => rfl)))) pa_nil))) pa_nil))) pa_nil))))
        (pss_cons (ps_for PassesOwn.never (by rfl) (pi_range1 (by rfl) T.range (pa_cons (pe_call G_law_draw (hr.mono (by first | decide | omega)) (by rfl) D_law_draw.g D_law_draw.F.kp D_law_draw.b .nil pass0 (pa_cons (pv 1) (pa_cons pe_int pa_nil))) pa_nil)) (pg_name (i := 6) sc_law.nd rfl (Or.inl rfl))
          (pss_one (ps_set (i := 5) sc_law.nd rfl (Or.inl rfl) (pe_call G_law_spoilt (hr.mono (by first | decide | omega)) (by rfl) D_law_spoilt.g D_law_spoilt.F.kp D_law_spoilt.b .nil pass0 (pa_cons (pv 1) (pa_cons (pv 5) (pa_cons (pe_ix (ix_tupK (K := K) rfl) (pv 2) pe_int (fun _ _ => rfl)) pa_nil)))))))
        (pss_cons (ps_set (i := 7) sc_law.nd rfl (Or.inl rfl) (pe_call G_law_is_decomposition (hr.mono (by first | decide | omega)) (by rfl) D_law_is_decomposition.g D_law_is_decomposition.F.kp D_law_is_decomposition.b .nil pass0 (pa_cons (pv 2) (pa_cons (pv 5) pa_nil))))
        (pss_cons (ps_if (pt_not (pt_val (pe_call G_law_same (hr.mono (by first | decide | omega)) (by rfl) D_law_same.g D_law_same.F.kp D_law_same.b .nil pass0 (pa_cons (pe_call G_is_decomposition (hr.mono (by first | decide | omega)) (by rfl) D_is_decomposition.g D_is_decomposition.F.kp D_is_decomposition.b .nil pass0 (pa_cons (pv 2) (pa_cons (pv 5) pa_nil))) (pa_cons (pv 7) pa_nil)))))
          (pss_one (ps_ret pe_bl))
          pss_nil)
        (pss_one (ps_if (PW.pt (pw_and (pt_val (pv 7)) (pw_and1 (pt_not (pt_val (pe_call G_law_same (hr.mono (by first | decide | omega)) (by rfl) D_law_same.g D_law_same.F.kp D_law_same.b .nil pass0 (pa_cons (pe_call G_width_of (hr.mono (by first | decide | omega)) (by rfl) D_width_of.g D_width_of.F.kp D_width_of.b .nil pass0 (pa_cons (pv 5) pa_nil)) (pa_cons (pe_op op_sub (pe_callB (cr_maxLK (K := K) rfl rfl) (by rfl) T.max (by decide +kernel) (pa_cons (pe_lc (own := [("bag", 9)]) (by rfl) sc_law.nd (PI.tupK (K := K) rfl (pi_tup (pe_ix (ix_tupK (K := K) rfl) (pv 5) pe_int (fun _ _ => rfl)))) (blkOk_by (own := [("bag", 9)]) (N := ["script", "pool", "graph", "k", "one", "value", "j", "good", "pair", "bag"]) (sc := (defScope s_law)) (by decide +kernel)) (fun _ _ _ _ _ => (pg_name (i := 9) sc_law.nd rfl (Or.inl rfl))) (fun _ _ _ _ _ => pts_nil) (fun _ _ _ _ _ => (pe_callB (call_lenK (K := K) rfl) (by rfl) T.len (by decide +kernel) (pa_cons (pv 9) pa_nil)))) pa_nil)) pe_int) pa_nil))))))))
          (pss_one (ps_ret pe_bl))
          pss_nil))))))))
      (pss_one (ps_ret pe_bl))))), ?_⟩
    refine r_at (σ := [some _, none, none, none, none, none, none, none, none, none]) rfl ?_
    walk_at "z"
    refine ⟨l, ns, rfl, hl, fun a s0 H1 ha s1 hP1 => ?_⟩
    have T1 := tabs_same hT s1
    walk_at "z"
    refine ⟨a, s0, 6, rfl, hP1, by omega, by omega, fun n1 n10 n11 g p1 H2 hP2 g2 hg2 gd => ?_⟩
    obtain ⟨n, rfl⟩ : ∃ n : Nat, n1 = (n : Int) := ⟨n1.toNat, by omega⟩
    obtain ⟨ga, e, rfl, hga, hge⟩ := id hg2
    have lps := gd_len8 gd (by omega)
    have T2 := hP1.tab g2 T1
    have inn : ∀ p ∈ p1, 0 ≤ p.1 ∧ p.1 < p.2 ∧ p.2 < (n : Int) := gd.inn
    walk_at "z"
    refine r_rg1 (by omega) (forR_range (fun i σ' H' => (∃ x3 x4 x5 x6 x7 x8 x9, σ' = [some (.ref l), some (.ref a), some (.ref ga), x3, x4, x5, x6, x7, x8, x9]) ∧ Pool H' a s0 ∧ GrAt H' (.ref ga) (n : Int) p1 ∧ Tabs TT H') ⟨⟨_, _, _, _, _, _, _, rfl⟩, hP2, hg2, T2⟩ ?_ ?_)
    · rintro i σ' H3 hi ⟨⟨x3, x4, x5, x6, x7, x8, x9, rfl⟩, hP3, hg3, T3⟩
      walk_at "z"
      refine ⟨a, s0, 4, rfl, hP3, by omega, by omega, fun r4 H4 r40 r41 hP4 g4 => ?_⟩
      have T4 := hP3.tab g4 T3
      have hg4 := hg3.tk (g4.tk hP3)
      walk_at "z"
      refine r_ite (fun h4 => ?_) (fun h4 => ?_)
      · obtain ⟨qs, eqs⟩ : ∃ qs, qs = p1 := ⟨p1, rfl⟩
        have hq4 : GrAt H4 (.ref ga) (n : Int) qs := by rw [eqs]; exact hg4
        have gdq : GoodG (n : Int) qs := by rw [eqs]; exact gd
        have lqs : qs.length ≤ 64 := by rw [eqs]; exact lps
        obtain ⟨ga', e4, ega, hga4, hge4⟩ := id hg4
        cases ega
        walk_at "zone"
      · obtain ⟨ga', e4, ega, hga4, xs4, he4, hp4⟩ := id hg4
        cases ega
        walk_at "z"
        refine r_it (.inl (.inl he4)) fun D' hD' => lcR_tup (xs := xs4) (fun m H' => Pool H' a s0 ∧ Gr a H4 H' ∧ ∃ (zs : List V) (M : List (Int × Int)), H' D' = some (.lst zs) ∧ Prs H' zs M ∧ M.Sublist (p1.take m)) (by walk_at "zw") ⟨hP4.mono (same_new hD'), .new hD', [], [], upd_same, .nil, List.nil_sublist _⟩ (fun i H' _ ⟨hP', g', _⟩ => .inl (.inl (g'.tk hP4 _ _ he4))) ?_ ?_
        · rintro m y H5 hy ⟨hP5, g5, zs, M, hzs, pz, sub⟩
          obtain ⟨pp, hpp, ty, rfl, hty⟩ := pd_get hp4 hy
          obtain ⟨sx, sy⟩ := sub_nextP sub hpp
          have il := (List.getElem?_eq_some_iff.mp hpp).1
          have lz := sub.length_le
          rw [List.length_take] at lz
          have lzs := pz.length
          have nD := (new_ne hP4 hD').1
          walk_at "z"
          refine ⟨rfl, ?_⟩
          walk_at "z"
          refine ⟨a, s0, 4, rfl, hP5, by omega, by omega, fun e5 H6 e50 e51 hP6 g6 => ?_⟩
          have hzs6 := g6 _ _ nD hzs
          have pz6 := pz.tk (g6.tk hP5)
          walk_at "z"
          refine r_ite (fun c1 => ?_) (fun c1 => ?_)
          · walk_at "z"
            have hty6 := (g5.trans g6).tk hP4 _ _ hty
            refine r_lce hzs6 (small_lt (by omega)) ⟨hP6.upd (new_ne hP4 hD'), (g5.trans g6).mut hD', _, M ++ [pp], upd_same, pd_append (pz6.tk (.lst hzs6)) (.cons ⟨ty, rfl, (TK.lst hzs6) _ _ hty6⟩ .nil), sx⟩
          · exact ⟨hP6, g5.trans g6, zs, M, hzs6, pz6, sy⟩
        · rintro H5 ⟨hP5, g5, zs, qs, hzs, pz, sub⟩
          rw [hp4.length, List.take_length] at sub
          have T5 := hP4.tab g5 T4
          have hg5 := hg4.tk (g5.tk hP4)
          walk_at "z"
          refine r_tupL (.inl (.inl hzs)) fun tk htk => ?_
          have s6 : Same H5 (upd H5 tk (.tup zs)) := same_new htk
          have hk6 : (upd H5 tk (.tup zs)) tk = some (.tup zs) := upd_same
          have hP6 := hP5.mono s6
          have T6 := tabs_same T5 s6
          have hg6 := hg5.tk (.of_same s6)
          have pz6 := pz.tk (.of_same s6)
          generalize upd H5 tk (.tup zs) = H6 at s6 hk6 hP6 T6 hg6 pz6 ⊢
          walk_at "z"
          refine r_tupN sz2 fun tg htg => ?_
          have s7 : Same H6 (upd H6 tg (.tup [.int (n : Int), .ref tk])) := same_new htg
          have hP4 := hP6.mono s7
          have T4 := tabs_same T6 s7
          have hg4 := hg6.tk (.of_same s7)
          have hq4 : GrAt (upd H6 tg (.tup [.int (n : Int), .ref tk])) (.ref tg) (n : Int) qs := ⟨tg, tk, rfl, upd_same, zs, s7 _ _ hk6, pz6.tk (.of_same s7)⟩
          have gdq : GoodG (n : Int) qs := ⟨gd.one, gd.asc.sublist sub, fun p hp => gd.inn p (sub.subset hp)⟩
          have lqs : qs.length ≤ 64 := by have := sub.length_le; omega
          generalize upd H6 tg (.tup [.int (n : Int), .ref tk]) = H4 at s7 hP4 T4 hg4 hq4 ⊢
          obtain ⟨ga', e4, ega, hga4, hge4⟩ := id hg4
          cases ega
          walk_at "zone"
    · rintro σ' H3 ⟨⟨x3, x4, x5, x6, x7, x8, x9, rfl⟩, hP3, hg3, T3⟩
      walk_at "z"
      exact q H3
end

set_option Elab.async false
set_option linter.all false
set_option maxRecDepth 100000
set_option maxHeartbeats 4000000
open PySem PySem.Spec PyProof.Rows L2 LamX
/-- a def of the top, as the head tells it -/
def dfd (x : Str) (st : Stmt) : He.DefD := ⟨(x, none), x, x, defArgs st, defBody st, defScope st, [], []⟩
def fnX : List He.DefD := [dfd "is_integer" s_is_integer, dfd "is_tuple" s_is_tuple, dfd "is_vertex" s_is_vertex, dfd "are_vertices" s_are_vertices, dfd "is_set" s_is_set, dfd "is_ascending" s_is_ascending, dfd "mask_of" s_mask_of, dfd "is_within" s_is_within, dfd "is_forest" s_is_forest, dfd "_top" s_top, dfd "is_spanning_tree" s_is_spanning_tree, dfd "is_decomposition" s_is_decomposition, dfd "_are_bags" s_are_bags, dfd "_are_links" s_are_links, dfd "_is_link" s_is_link, dfd "_holds_edges" s_holds_edges, dfd "_is_together" s_is_together, dfd "width_of" s_width_of, dfd "_law_pool" s_law_pool, dfd "_law_spread" s_law_spread, dfd "_law_draw" s_law_draw, dfd "_law_same" s_law_same, dfd "_law_is_int" s_law_is_int, dfd "_law_distinct" s_law_distinct, dfd "_law_pairs" s_law_pairs] ++ ([dfd "_law_of" s_law_of, dfd "_law_met" s_law_met, dfd "_law_shuffled" s_law_shuffled, dfd "_law_moved" s_law_moved, dfd "_law_other" s_law_other, dfd "_law_random_graph" s_law_random_graph, dfd "_law_interval_rows" s_law_interval_rows, dfd "_law_interval_graph" s_law_interval_graph, dfd "_law_turned_graph" s_law_turned_graph, dfd "_law_ordered_graph" s_law_ordered_graph, dfd "_law_clique_graph" s_law_clique_graph, dfd "_law_drawn_tree" s_law_drawn_tree, dfd "_law_leaves" s_law_leaves, dfd "_law_tree_pairs" s_law_tree_pairs, dfd "_law_graph" s_law_graph, dfd "_law_strange" s_law_strange, dfd "_law_spoilt" s_law_spoilt, dfd "_law_reach" s_law_reach, dfd "_law_joined" s_law_joined, dfd "_law_is_row" s_law_is_row, dfd "_law_is_set" s_law_is_set, dfd "_law_is_decomposition" s_law_is_decomposition, dfd "_law_filled" s_law_filled, dfd "_law_from_order" s_law_from_order, dfd "_law_grown_bags" s_law_grown_bags] ++ ([dfd "_law_ringed" s_law_ringed, dfd "law" s_law]))
def faX : List He.Fa := [.glo "is_integer", .glo "is_tuple", .glo "is_vertex", .glo "are_vertices", .glo "is_set", .glo "is_ascending", .glo "mask_of", .glo "is_within", .glo "is_forest", .glo "_top", .glo "is_spanning_tree", .glo "is_decomposition", .glo "_are_bags", .glo "_are_links", .glo "_is_link", .glo "_holds_edges", .glo "_is_together", .glo "width_of", .glo "_law_pool", .glo "_law_spread", .glo "_law_draw", .glo "_law_same", .glo "_law_is_int", .glo "_law_distinct", .glo "_law_pairs"] ++ ([.glo "_law_of", .glo "_law_met", .glo "_law_shuffled", .glo "_law_moved", .glo "_law_other", .glo "_law_random_graph", .glo "_law_interval_rows", .glo "_law_interval_graph", .glo "_law_turned_graph", .glo "_law_ordered_graph", .glo "_law_clique_graph", .glo "_law_drawn_tree", .glo "_law_leaves", .glo "_law_tree_pairs", .glo "_law_graph", .glo "_law_strange", .glo "_law_spoilt", .glo "_law_reach", .glo "_law_joined", .glo "_law_is_row", .glo "_law_is_set", .glo "_law_is_decomposition", .glo "_law_filled", .glo "_law_from_order", .glo "_law_grown_bags"] ++ ([.glo "_law_ringed", .glo "law", .free "len", .free "range", .free "list", .free "tuple", .free "int", .free "min", .free "max", .free "sorted", .free "isinstance", .free "bool", .free "str", .free "enumerate", .free "all", .free "set", .free "zip", .free "any"]))
def tfX : List He.Defn := [("is_forest", none), ("are_vertices", none), ("is_ascending", none), ("_are_bags", none), ("_are_links", none)]
def exX (K : PySem.W.Frag) : Bool := decide (([(He.cT K ("is_forest", none)).2, (He.cT K ("are_vertices", none)).2, (He.cT K ("is_ascending", none)).2, (He.cT K ("_are_bags", none)).2, (He.cT K ("_are_links", none)).2] : List Addr).Nodup)
abbrev hkX : PySem.W.Hook := He.hookX 4 faX fnX [] tfX exX
def obX (s : PySem.W.SharedT) : He.AlX := He.obsX 4 faX fnX [] tfX exX (HandSHeadRun.getT s)
theorem obX_eq (s : PySem.W.SharedT) : obX s = hkX.obs s.abs := He.obsX_eq (HandSHeadRun.getT_eq s)
theorem code_of {K : PySem.W.Frag} {x : Str} {st : Stmt} {f : Addr} {fd : FuncData} (F : Fun K x x st f fd) {p : Str × Option Str} (hp : He.fAd K p = f) : fd.code = .ref (He.codeOf K p) := by
  obtain ⟨oc, od, kV, doc, pm, an, cdr, ct, osl, efd, lk, hcd⟩ := F.ex
  obtain ⟨c, rfl⟩ := He.codeIn_ref hcd
  have e : fd.code = .ref c := by rw [efd] <;> rfl
  rw [He.codeOf_eq (by rw [hp]; exact lk) e]
  exact e
set_option maxHeartbeats 0 in
theorem facts {lw : PySem.W.OpenLaw} {w : World} {K : PySem.W.Frag} {h : Heap} {mg : Str → Option Value} {fa : Addr} (X : K.In h) (G : h.Ns mainGlobals mg) (hfa : mg "law" = some (.ref fa)) (c : He.SaysX faX fnX [] tfX exX w h K) :
    LamX.LawAtS lw w K L2.CX0 64 63 "script" mg fa h := by
  obtain ⟨fd0, F0⟩ := c.t.d.def_ 0 (d := dfd "is_integer" s_is_integer) rfl
  have FF0 : Fun K "is_integer" "is_integer" s_is_integer (He.fAd K ("is_integer", none)) fd0 := He5.fun_of F0
  have D_is_integer : DefAt K mg "is_integer" s_is_integer ["value"] := ⟨He.fAd K ("is_integer", none), fd0, FF0, FF0.binds (ps := ["value"]) fun _ _ _ _ _ _ us hl => match us, hl with | [_], _ => rfl, He.glo_ok X G (c.t.d.fact 0 (f := .glo "is_integer") rfl)⟩
  obtain ⟨fd1, F1⟩ := c.t.d.def_ 1 (d := dfd "is_tuple" s_is_tuple) rfl
  have FF1 : Fun K "is_tuple" "is_tuple" s_is_tuple (He.fAd K ("is_tuple", none)) fd1 := He5.fun_of F1
  have D_is_tuple : DefAt K mg "is_tuple" s_is_tuple ["value", "many"] := ⟨He.fAd K ("is_tuple", none), fd1, FF1, FF1.binds (ps := ["value", "many"]) fun _ _ _ _ _ _ us hl => match us, hl with | [_, _], _ => rfl, He.glo_ok X G (c.t.d.fact 1 (f := .glo "is_tuple") rfl)⟩
  obtain ⟨fd2, F2⟩ := c.t.d.def_ 2 (d := dfd "is_vertex" s_is_vertex) rfl
  have FF2 : Fun K "is_vertex" "is_vertex" s_is_vertex (He.fAd K ("is_vertex", none)) fd2 := He5.fun_of F2
  have D_is_vertex : DefAt K mg "is_vertex" s_is_vertex ["n", "value"] := ⟨He.fAd K ("is_vertex", none), fd2, FF2, FF2.binds (ps := ["n", "value"]) fun _ _ _ _ _ _ us hl => match us, hl with | [_, _], _ => rfl, He.glo_ok X G (c.t.d.fact 2 (f := .glo "is_vertex") rfl)⟩
  obtain ⟨fd3, F3⟩ := c.t.d.def_ 3 (d := dfd "are_vertices" s_are_vertices) rfl
  have FF3 : Fun K "are_vertices" "are_vertices" s_are_vertices (He.fAd K ("are_vertices", none)) fd3 := He5.fun_of F3
  let D_are_vertices : DefAt K mg "are_vertices" s_are_vertices ["n", "value"] := ⟨He.fAd K ("are_vertices", none), fd3, FF3, FF3.binds (ps := ["n", "value"]) fun _ _ _ _ _ _ us hl => match us, hl with | [_, _], _ => rfl, He.glo_ok X G (c.t.d.fact 3 (f := .glo "are_vertices") rfl)⟩
  obtain ⟨fd4, F4⟩ := c.t.d.def_ 4 (d := dfd "is_set" s_is_set) rfl
  have FF4 : Fun K "is_set" "is_set" s_is_set (He.fAd K ("is_set", none)) fd4 := He5.fun_of F4
  have D_is_set : DefAt K mg "is_set" s_is_set ["n", "value"] := ⟨He.fAd K ("is_set", none), fd4, FF4, FF4.binds (ps := ["n", "value"]) fun _ _ _ _ _ _ us hl => match us, hl with | [_, _], _ => rfl, He.glo_ok X G (c.t.d.fact 4 (f := .glo "is_set") rfl)⟩
  obtain ⟨fd5, F5⟩ := c.t.d.def_ 5 (d := dfd "is_ascending" s_is_ascending) rfl
  have FF5 : Fun K "is_ascending" "is_ascending" s_is_ascending (He.fAd K ("is_ascending", none)) fd5 := He5.fun_of F5
  let D_is_ascending : DefAt K mg "is_ascending" s_is_ascending ["items"] := ⟨He.fAd K ("is_ascending", none), fd5, FF5, FF5.binds (ps := ["items"]) fun _ _ _ _ _ _ us hl => match us, hl with | [_], _ => rfl, He.glo_ok X G (c.t.d.fact 5 (f := .glo "is_ascending") rfl)⟩
  obtain ⟨fd6, F6⟩ := c.t.d.def_ 6 (d := dfd "mask_of" s_mask_of) rfl
  have FF6 : Fun K "mask_of" "mask_of" s_mask_of (He.fAd K ("mask_of", none)) fd6 := He5.fun_of F6
  have D_mask_of : DefAt K mg "mask_of" s_mask_of ["members"] := ⟨He.fAd K ("mask_of", none), fd6, FF6, FF6.binds (ps := ["members"]) fun _ _ _ _ _ _ us hl => match us, hl with | [_], _ => rfl, He.glo_ok X G (c.t.d.fact 6 (f := .glo "mask_of") rfl)⟩
  obtain ⟨fd7, F7⟩ := c.t.d.def_ 7 (d := dfd "is_within" s_is_within) rfl
  have FF7 : Fun K "is_within" "is_within" s_is_within (He.fAd K ("is_within", none)) fd7 := He5.fun_of F7
  have D_is_within : DefAt K mg "is_within" s_is_within ["part", "whole"] := ⟨He.fAd K ("is_within", none), fd7, FF7, FF7.binds (ps := ["part", "whole"]) fun _ _ _ _ _ _ us hl => match us, hl with | [_, _], _ => rfl, He.glo_ok X G (c.t.d.fact 7 (f := .glo "is_within") rfl)⟩
  obtain ⟨fd8, F8⟩ := c.t.d.def_ 8 (d := dfd "is_forest" s_is_forest) rfl
  have FF8 : Fun K "is_forest" "is_forest" s_is_forest (He.fAd K ("is_forest", none)) fd8 := He5.fun_of F8
  let D_is_forest : DefAt K mg "is_forest" s_is_forest ["n", "edges"] := ⟨He.fAd K ("is_forest", none), fd8, FF8, FF8.binds (ps := ["n", "edges"]) fun _ _ _ _ _ _ us hl => match us, hl with | [_, _], _ => rfl, He.glo_ok X G (c.t.d.fact 8 (f := .glo "is_forest") rfl)⟩
  obtain ⟨fd9, F9⟩ := c.t.d.def_ 9 (d := dfd "_top" s_top) rfl
  have FF9 : Fun K "_top" "_top" s_top (He.fAd K ("_top", none)) fd9 := He5.fun_of F9
  have D_top : DefAt K mg "_top" s_top ["above", "v"] := ⟨He.fAd K ("_top", none), fd9, FF9, FF9.binds (ps := ["above", "v"]) fun _ _ _ _ _ _ us hl => match us, hl with | [_, _], _ => rfl, He.glo_ok X G (c.t.d.fact 9 (f := .glo "_top") rfl)⟩
  obtain ⟨fd10, F10⟩ := c.t.d.def_ 10 (d := dfd "is_spanning_tree" s_is_spanning_tree) rfl
  have FF10 : Fun K "is_spanning_tree" "is_spanning_tree" s_is_spanning_tree (He.fAd K ("is_spanning_tree", none)) fd10 := He5.fun_of F10
  have D_is_spanning_tree : DefAt K mg "is_spanning_tree" s_is_spanning_tree ["n", "edges"] := ⟨He.fAd K ("is_spanning_tree", none), fd10, FF10, FF10.binds (ps := ["n", "edges"]) fun _ _ _ _ _ _ us hl => match us, hl with | [_, _], _ => rfl, He.glo_ok X G (c.t.d.fact 10 (f := .glo "is_spanning_tree") rfl)⟩
  obtain ⟨fd11, F11⟩ := c.t.d.def_ 11 (d := dfd "is_decomposition" s_is_decomposition) rfl
  have FF11 : Fun K "is_decomposition" "is_decomposition" s_is_decomposition (He.fAd K ("is_decomposition", none)) fd11 := He5.fun_of F11
  have D_is_decomposition : DefAt K mg "is_decomposition" s_is_decomposition ["graph", "value"] := ⟨He.fAd K ("is_decomposition", none), fd11, FF11, FF11.binds (ps := ["graph", "value"]) fun _ _ _ _ _ _ us hl => match us, hl with | [_, _], _ => rfl, He.glo_ok X G (c.t.d.fact 11 (f := .glo "is_decomposition") rfl)⟩
  obtain ⟨fd12, F12⟩ := c.t.d.def_ 12 (d := dfd "_are_bags" s_are_bags) rfl
  have FF12 : Fun K "_are_bags" "_are_bags" s_are_bags (He.fAd K ("_are_bags", none)) fd12 := He5.fun_of F12
  let D_are_bags : DefAt K mg "_are_bags" s_are_bags ["n", "value"] := ⟨He.fAd K ("_are_bags", none), fd12, FF12, FF12.binds (ps := ["n", "value"]) fun _ _ _ _ _ _ us hl => match us, hl with | [_, _], _ => rfl, He.glo_ok X G (c.t.d.fact 12 (f := .glo "_are_bags") rfl)⟩
  obtain ⟨fd13, F13⟩ := c.t.d.def_ 13 (d := dfd "_are_links" s_are_links) rfl
  have FF13 : Fun K "_are_links" "_are_links" s_are_links (He.fAd K ("_are_links", none)) fd13 := He5.fun_of F13
  let D_are_links : DefAt K mg "_are_links" s_are_links ["many", "value"] := ⟨He.fAd K ("_are_links", none), fd13, FF13, FF13.binds (ps := ["many", "value"]) fun _ _ _ _ _ _ us hl => match us, hl with | [_, _], _ => rfl, He.glo_ok X G (c.t.d.fact 13 (f := .glo "_are_links") rfl)⟩
  obtain ⟨fd14, F14⟩ := c.t.d.def_ 14 (d := dfd "_is_link" s_is_link) rfl
  have FF14 : Fun K "_is_link" "_is_link" s_is_link (He.fAd K ("_is_link", none)) fd14 := He5.fun_of F14
  have D_is_link : DefAt K mg "_is_link" s_is_link ["many", "value"] := ⟨He.fAd K ("_is_link", none), fd14, FF14, FF14.binds (ps := ["many", "value"]) fun _ _ _ _ _ _ us hl => match us, hl with | [_, _], _ => rfl, He.glo_ok X G (c.t.d.fact 14 (f := .glo "_is_link") rfl)⟩
  obtain ⟨fd15, F15⟩ := c.t.d.def_ 15 (d := dfd "_holds_edges" s_holds_edges) rfl
  have FF15 : Fun K "_holds_edges" "_holds_edges" s_holds_edges (He.fAd K ("_holds_edges", none)) fd15 := He5.fun_of F15
  have D_holds_edges : DefAt K mg "_holds_edges" s_holds_edges ["graph", "bags"] := ⟨He.fAd K ("_holds_edges", none), fd15, FF15, FF15.binds (ps := ["graph", "bags"]) fun _ _ _ _ _ _ us hl => match us, hl with | [_, _], _ => rfl, He.glo_ok X G (c.t.d.fact 15 (f := .glo "_holds_edges") rfl)⟩
  obtain ⟨fd16, F16⟩ := c.t.d.def_ 16 (d := dfd "_is_together" s_is_together) rfl
  have FF16 : Fun K "_is_together" "_is_together" s_is_together (He.fAd K ("_is_together", none)) fd16 := He5.fun_of F16
  have D_is_together : DefAt K mg "_is_together" s_is_together ["v", "bags", "links"] := ⟨He.fAd K ("_is_together", none), fd16, FF16, FF16.binds (ps := ["v", "bags", "links"]) fun _ _ _ _ _ _ us hl => match us, hl with | [_, _, _], _ => rfl, He.glo_ok X G (c.t.d.fact 16 (f := .glo "_is_together") rfl)⟩
  obtain ⟨fd17, F17⟩ := c.t.d.def_ 17 (d := dfd "width_of" s_width_of) rfl
  have FF17 : Fun K "width_of" "width_of" s_width_of (He.fAd K ("width_of", none)) fd17 := He5.fun_of F17
  have D_width_of : DefAt K mg "width_of" s_width_of ["decomposition"] := ⟨He.fAd K ("width_of", none), fd17, FF17, FF17.binds (ps := ["decomposition"]) fun _ _ _ _ _ _ us hl => match us, hl with | [_], _ => rfl, He.glo_ok X G (c.t.d.fact 17 (f := .glo "width_of") rfl)⟩
  obtain ⟨fd18, F18⟩ := c.t.d.def_ 18 (d := dfd "_law_pool" s_law_pool) rfl
  have FF18 : Fun K "_law_pool" "_law_pool" s_law_pool (He.fAd K ("_law_pool", none)) fd18 := He5.fun_of F18
  have D_law_pool : DefAt K mg "_law_pool" s_law_pool ["script"] := ⟨He.fAd K ("_law_pool", none), fd18, FF18, FF18.binds (ps := ["script"]) fun _ _ _ _ _ _ us hl => match us, hl with | [_], _ => rfl, He.glo_ok X G (c.t.d.fact 18 (f := .glo "_law_pool") rfl)⟩
  obtain ⟨fd19, F19⟩ := c.t.d.def_ 19 (d := dfd "_law_spread" s_law_spread) rfl
  have FF19 : Fun K "_law_spread" "_law_spread" s_law_spread (He.fAd K ("_law_spread", none)) fd19 := He5.fun_of F19
  have D_law_spread : DefAt K mg "_law_spread" s_law_spread ["cell"] := ⟨He.fAd K ("_law_spread", none), fd19, FF19, FF19.binds (ps := ["cell"]) fun _ _ _ _ _ _ us hl => match us, hl with | [_], _ => rfl, He.glo_ok X G (c.t.d.fact 19 (f := .glo "_law_spread") rfl)⟩
  obtain ⟨fd20, F20⟩ := c.t.d.def_ 20 (d := dfd "_law_draw" s_law_draw) rfl
  have FF20 : Fun K "_law_draw" "_law_draw" s_law_draw (He.fAd K ("_law_draw", none)) fd20 := He5.fun_of F20
  have D_law_draw : DefAt K mg "_law_draw" s_law_draw ["pool", "many"] := ⟨He.fAd K ("_law_draw", none), fd20, FF20, FF20.binds (ps := ["pool", "many"]) fun _ _ _ _ _ _ us hl => match us, hl with | [_, _], _ => rfl, He.glo_ok X G (c.t.d.fact 20 (f := .glo "_law_draw") rfl)⟩
  obtain ⟨fd21, F21⟩ := c.t.d.def_ 21 (d := dfd "_law_same" s_law_same) rfl
  have FF21 : Fun K "_law_same" "_law_same" s_law_same (He.fAd K ("_law_same", none)) fd21 := He5.fun_of F21
  have D_law_same : DefAt K mg "_law_same" s_law_same ["actual", "due"] := ⟨He.fAd K ("_law_same", none), fd21, FF21, FF21.binds (ps := ["actual", "due"]) fun _ _ _ _ _ _ us hl => match us, hl with | [_, _], _ => rfl, He.glo_ok X G (c.t.d.fact 21 (f := .glo "_law_same") rfl)⟩
  obtain ⟨fd22, F22⟩ := c.t.d.def_ 22 (d := dfd "_law_is_int" s_law_is_int) rfl
  have FF22 : Fun K "_law_is_int" "_law_is_int" s_law_is_int (He.fAd K ("_law_is_int", none)) fd22 := He5.fun_of F22
  have D_law_is_int : DefAt K mg "_law_is_int" s_law_is_int ["x"] := ⟨He.fAd K ("_law_is_int", none), fd22, FF22, FF22.binds (ps := ["x"]) fun _ _ _ _ _ _ us hl => match us, hl with | [_], _ => rfl, He.glo_ok X G (c.t.d.fact 22 (f := .glo "_law_is_int") rfl)⟩
  obtain ⟨fd23, F23⟩ := c.t.d.def_ 23 (d := dfd "_law_distinct" s_law_distinct) rfl
  have FF23 : Fun K "_law_distinct" "_law_distinct" s_law_distinct (He.fAd K ("_law_distinct", none)) fd23 := He5.fun_of F23
  have D_law_distinct : DefAt K mg "_law_distinct" s_law_distinct ["rows"] := ⟨He.fAd K ("_law_distinct", none), fd23, FF23, FF23.binds (ps := ["rows"]) fun _ _ _ _ _ _ us hl => match us, hl with | [_], _ => rfl, He.glo_ok X G (c.t.d.fact 23 (f := .glo "_law_distinct") rfl)⟩
  obtain ⟨fd24, F24⟩ := c.t.d.def_ 24 (d := dfd "_law_pairs" s_law_pairs) rfl
  have FF24 : Fun K "_law_pairs" "_law_pairs" s_law_pairs (He.fAd K ("_law_pairs", none)) fd24 := He5.fun_of F24
  have D_law_pairs : DefAt K mg "_law_pairs" s_law_pairs ["n"] := ⟨He.fAd K ("_law_pairs", none), fd24, FF24, FF24.binds (ps := ["n"]) fun _ _ _ _ _ _ us hl => match us, hl with | [_], _ => rfl, He.glo_ok X G (c.t.d.fact 24 (f := .glo "_law_pairs") rfl)⟩
  obtain ⟨fd25, F25⟩ := c.t.d.def_ 25 (d := dfd "_law_of" s_law_of) rfl
  have FF25 : Fun K "_law_of" "_law_of" s_law_of (He.fAd K ("_law_of", none)) fd25 := He5.fun_of F25
  have D_law_of : DefAt K mg "_law_of" s_law_of ["n", "pairs"] := ⟨He.fAd K ("_law_of", none), fd25, FF25, FF25.binds (ps := ["n", "pairs"]) fun _ _ _ _ _ _ us hl => match us, hl with | [_, _], _ => rfl, He.glo_ok X G (c.t.d.fact 25 (f := .glo "_law_of") rfl)⟩
  obtain ⟨fd26, F26⟩ := c.t.d.def_ 26 (d := dfd "_law_met" s_law_met) rfl
  have FF26 : Fun K "_law_met" "_law_met" s_law_met (He.fAd K ("_law_met", none)) fd26 := He5.fun_of F26
  have D_law_met : DefAt K mg "_law_met" s_law_met ["graph", "u", "v"] := ⟨He.fAd K ("_law_met", none), fd26, FF26, FF26.binds (ps := ["graph", "u", "v"]) fun _ _ _ _ _ _ us hl => match us, hl with | [_, _, _], _ => rfl, He.glo_ok X G (c.t.d.fact 26 (f := .glo "_law_met") rfl)⟩
  obtain ⟨fd27, F27⟩ := c.t.d.def_ 27 (d := dfd "_law_shuffled" s_law_shuffled) rfl
  have FF27 : Fun K "_law_shuffled" "_law_shuffled" s_law_shuffled (He.fAd K ("_law_shuffled", none)) fd27 := He5.fun_of F27
  have D_law_shuffled : DefAt K mg "_law_shuffled" s_law_shuffled ["pool", "items"] := ⟨He.fAd K ("_law_shuffled", none), fd27, FF27, FF27.binds (ps := ["pool", "items"]) fun _ _ _ _ _ _ us hl => match us, hl with | [_, _], _ => rfl, He.glo_ok X G (c.t.d.fact 27 (f := .glo "_law_shuffled") rfl)⟩
  obtain ⟨fd28, F28⟩ := c.t.d.def_ 28 (d := dfd "_law_moved" s_law_moved) rfl
  have FF28 : Fun K "_law_moved" "_law_moved" s_law_moved (He.fAd K ("_law_moved", none)) fd28 := He5.fun_of F28
  have D_law_moved : DefAt K mg "_law_moved" s_law_moved ["graph", "order"] := ⟨He.fAd K ("_law_moved", none), fd28, FF28, FF28.binds (ps := ["graph", "order"]) fun _ _ _ _ _ _ us hl => match us, hl with | [_, _], _ => rfl, He.glo_ok X G (c.t.d.fact 28 (f := .glo "_law_moved") rfl)⟩
  obtain ⟨fd29, F29⟩ := c.t.d.def_ 29 (d := dfd "_law_other" s_law_other) rfl
  have FF29 : Fun K "_law_other" "_law_other" s_law_other (He.fAd K ("_law_other", none)) fd29 := He5.fun_of F29
  have D_law_other : DefAt K mg "_law_other" s_law_other ["graph"] := ⟨He.fAd K ("_law_other", none), fd29, FF29, FF29.binds (ps := ["graph"]) fun _ _ _ _ _ _ us hl => match us, hl with | [_], _ => rfl, He.glo_ok X G (c.t.d.fact 29 (f := .glo "_law_other") rfl)⟩
  obtain ⟨fd30, F30⟩ := c.t.d.def_ 30 (d := dfd "_law_random_graph" s_law_random_graph) rfl
  have FF30 : Fun K "_law_random_graph" "_law_random_graph" s_law_random_graph (He.fAd K ("_law_random_graph", none)) fd30 := He5.fun_of F30
  have D_law_random_graph : DefAt K mg "_law_random_graph" s_law_random_graph ["pool", "most"] := ⟨He.fAd K ("_law_random_graph", none), fd30, FF30, FF30.binds (ps := ["pool", "most"]) fun _ _ _ _ _ _ us hl => match us, hl with | [_, _], _ => rfl, He.glo_ok X G (c.t.d.fact 30 (f := .glo "_law_random_graph") rfl)⟩
  obtain ⟨fd31, F31⟩ := c.t.d.def_ 31 (d := dfd "_law_interval_rows" s_law_interval_rows) rfl
  have FF31 : Fun K "_law_interval_rows" "_law_interval_rows" s_law_interval_rows (He.fAd K ("_law_interval_rows", none)) fd31 := He5.fun_of F31
  have D_law_interval_rows : DefAt K mg "_law_interval_rows" s_law_interval_rows ["pool", "n"] := ⟨He.fAd K ("_law_interval_rows", none), fd31, FF31, FF31.binds (ps := ["pool", "n"]) fun _ _ _ _ _ _ us hl => match us, hl with | [_, _], _ => rfl, He.glo_ok X G (c.t.d.fact 31 (f := .glo "_law_interval_rows") rfl)⟩
  obtain ⟨fd32, F32⟩ := c.t.d.def_ 32 (d := dfd "_law_interval_graph" s_law_interval_graph) rfl
  have FF32 : Fun K "_law_interval_graph" "_law_interval_graph" s_law_interval_graph (He.fAd K ("_law_interval_graph", none)) fd32 := He5.fun_of F32
  have D_law_interval_graph : DefAt K mg "_law_interval_graph" s_law_interval_graph ["rows"] := ⟨He.fAd K ("_law_interval_graph", none), fd32, FF32, FF32.binds (ps := ["rows"]) fun _ _ _ _ _ _ us hl => match us, hl with | [_], _ => rfl, He.glo_ok X G (c.t.d.fact 32 (f := .glo "_law_interval_graph") rfl)⟩
  obtain ⟨fd33, F33⟩ := c.t.d.def_ 33 (d := dfd "_law_turned_graph" s_law_turned_graph) rfl
  have FF33 : Fun K "_law_turned_graph" "_law_turned_graph" s_law_turned_graph (He.fAd K ("_law_turned_graph", none)) fd33 := He5.fun_of F33
  have D_law_turned_graph : DefAt K mg "_law_turned_graph" s_law_turned_graph ["one", "two"] := ⟨He.fAd K ("_law_turned_graph", none), fd33, FF33, FF33.binds (ps := ["one", "two"]) fun _ _ _ _ _ _ us hl => match us, hl with | [_, _], _ => rfl, He.glo_ok X G (c.t.d.fact 33 (f := .glo "_law_turned_graph") rfl)⟩
  obtain ⟨fd34, F34⟩ := c.t.d.def_ 34 (d := dfd "_law_ordered_graph" s_law_ordered_graph) rfl
  have FF34 : Fun K "_law_ordered_graph" "_law_ordered_graph" s_law_ordered_graph (He.fAd K ("_law_ordered_graph", none)) fd34 := He5.fun_of F34
  have D_law_ordered_graph : DefAt K mg "_law_ordered_graph" s_law_ordered_graph ["pool", "n"] := ⟨He.fAd K ("_law_ordered_graph", none), fd34, FF34, FF34.binds (ps := ["pool", "n"]) fun _ _ _ _ _ _ us hl => match us, hl with | [_, _], _ => rfl, He.glo_ok X G (c.t.d.fact 34 (f := .glo "_law_ordered_graph") rfl)⟩
  obtain ⟨fd35, F35⟩ := c.t.d.def_ 35 (d := dfd "_law_clique_graph" s_law_clique_graph) rfl
  have FF35 : Fun K "_law_clique_graph" "_law_clique_graph" s_law_clique_graph (He.fAd K ("_law_clique_graph", none)) fd35 := He5.fun_of F35
  have D_law_clique_graph : DefAt K mg "_law_clique_graph" s_law_clique_graph ["pool", "n"] := ⟨He.fAd K ("_law_clique_graph", none), fd35, FF35, FF35.binds (ps := ["pool", "n"]) fun _ _ _ _ _ _ us hl => match us, hl with | [_, _], _ => rfl, He.glo_ok X G (c.t.d.fact 35 (f := .glo "_law_clique_graph") rfl)⟩
  obtain ⟨fd36, F36⟩ := c.t.d.def_ 36 (d := dfd "_law_drawn_tree" s_law_drawn_tree) rfl
  have FF36 : Fun K "_law_drawn_tree" "_law_drawn_tree" s_law_drawn_tree (He.fAd K ("_law_drawn_tree", none)) fd36 := He5.fun_of F36
  have D_law_drawn_tree : DefAt K mg "_law_drawn_tree" s_law_drawn_tree ["pool", "leaves"] := ⟨He.fAd K ("_law_drawn_tree", none), fd36, FF36, FF36.binds (ps := ["pool", "leaves"]) fun _ _ _ _ _ _ us hl => match us, hl with | [_, _], _ => rfl, He.glo_ok X G (c.t.d.fact 36 (f := .glo "_law_drawn_tree") rfl)⟩
  obtain ⟨fd37, F37⟩ := c.t.d.def_ 37 (d := dfd "_law_leaves" s_law_leaves) rfl
  have FF37 : Fun K "_law_leaves" "_law_leaves" s_law_leaves (He.fAd K ("_law_leaves", none)) fd37 := He5.fun_of F37
  have D_law_leaves : DefAt K mg "_law_leaves" s_law_leaves ["tree"] := ⟨He.fAd K ("_law_leaves", none), fd37, FF37, FF37.binds (ps := ["tree"]) fun _ _ _ _ _ _ us hl => match us, hl with | [_], _ => rfl, He.glo_ok X G (c.t.d.fact 37 (f := .glo "_law_leaves") rfl)⟩
  obtain ⟨fd38, F38⟩ := c.t.d.def_ 38 (d := dfd "_law_tree_pairs" s_law_tree_pairs) rfl
  have FF38 : Fun K "_law_tree_pairs" "_law_tree_pairs" s_law_tree_pairs (He.fAd K ("_law_tree_pairs", none)) fd38 := He5.fun_of F38
  have D_law_tree_pairs : DefAt K mg "_law_tree_pairs" s_law_tree_pairs ["tree"] := ⟨He.fAd K ("_law_tree_pairs", none), fd38, FF38, FF38.binds (ps := ["tree"]) fun _ _ _ _ _ _ us hl => match us, hl with | [_], _ => rfl, He.glo_ok X G (c.t.d.fact 38 (f := .glo "_law_tree_pairs") rfl)⟩
  obtain ⟨fd39, F39⟩ := c.t.d.def_ 39 (d := dfd "_law_graph" s_law_graph) rfl
  have FF39 : Fun K "_law_graph" "_law_graph" s_law_graph (He.fAd K ("_law_graph", none)) fd39 := He5.fun_of F39
  have D_law_graph : DefAt K mg "_law_graph" s_law_graph ["pool", "most"] := ⟨He.fAd K ("_law_graph", none), fd39, FF39, FF39.binds (ps := ["pool", "most"]) fun _ _ _ _ _ _ us hl => match us, hl with | [_, _], _ => rfl, He.glo_ok X G (c.t.d.fact 39 (f := .glo "_law_graph") rfl)⟩
  obtain ⟨fd40, F40⟩ := c.t.d.def_ 40 (d := dfd "_law_strange" s_law_strange) rfl
  have FF40 : Fun K "_law_strange" "_law_strange" s_law_strange (He.fAd K ("_law_strange", none)) fd40 := He5.fun_of F40
  have D_law_strange : DefAt K mg "_law_strange" s_law_strange ["pool", "value", "n"] := ⟨He.fAd K ("_law_strange", none), fd40, FF40, FF40.binds (ps := ["pool", "value", "n"]) fun _ _ _ _ _ _ us hl => match us, hl with | [_, _, _], _ => rfl, He.glo_ok X G (c.t.d.fact 40 (f := .glo "_law_strange") rfl)⟩
  obtain ⟨fd41, F41⟩ := c.t.d.def_ 41 (d := dfd "_law_spoilt" s_law_spoilt) rfl
  have FF41 : Fun K "_law_spoilt" "_law_spoilt" s_law_spoilt (He.fAd K ("_law_spoilt", none)) fd41 := He5.fun_of F41
  have D_law_spoilt : DefAt K mg "_law_spoilt" s_law_spoilt ["pool", "value", "n"] := ⟨He.fAd K ("_law_spoilt", none), fd41, FF41, FF41.binds (ps := ["pool", "value", "n"]) fun _ _ _ _ _ _ us hl => match us, hl with | [_, _, _], _ => rfl, He.glo_ok X G (c.t.d.fact 41 (f := .glo "_law_spoilt") rfl)⟩
  obtain ⟨fd42, F42⟩ := c.t.d.def_ 42 (d := dfd "_law_reach" s_law_reach) rfl
  have FF42 : Fun K "_law_reach" "_law_reach" s_law_reach (He.fAd K ("_law_reach", none)) fd42 := He5.fun_of F42
  have D_law_reach : DefAt K mg "_law_reach" s_law_reach ["graph", "v", "members"] := ⟨He.fAd K ("_law_reach", none), fd42, FF42, FF42.binds (ps := ["graph", "v", "members"]) fun _ _ _ _ _ _ us hl => match us, hl with | [_, _, _], _ => rfl, He.glo_ok X G (c.t.d.fact 42 (f := .glo "_law_reach") rfl)⟩
  obtain ⟨fd43, F43⟩ := c.t.d.def_ 43 (d := dfd "_law_joined" s_law_joined) rfl
  have FF43 : Fun K "_law_joined" "_law_joined" s_law_joined (He.fAd K ("_law_joined", none)) fd43 := He5.fun_of F43
  have D_law_joined : DefAt K mg "_law_joined" s_law_joined ["graph", "members"] := ⟨He.fAd K ("_law_joined", none), fd43, FF43, FF43.binds (ps := ["graph", "members"]) fun _ _ _ _ _ _ us hl => match us, hl with | [_, _], _ => rfl, He.glo_ok X G (c.t.d.fact 43 (f := .glo "_law_joined") rfl)⟩
  obtain ⟨fd44, F44⟩ := c.t.d.def_ 44 (d := dfd "_law_is_row" s_law_is_row) rfl
  have FF44 : Fun K "_law_is_row" "_law_is_row" s_law_is_row (He.fAd K ("_law_is_row", none)) fd44 := He5.fun_of F44
  have D_law_is_row : DefAt K mg "_law_is_row" s_law_is_row ["graph", "value"] := ⟨He.fAd K ("_law_is_row", none), fd44, FF44, FF44.binds (ps := ["graph", "value"]) fun _ _ _ _ _ _ us hl => match us, hl with | [_, _], _ => rfl, He.glo_ok X G (c.t.d.fact 44 (f := .glo "_law_is_row") rfl)⟩
  obtain ⟨fd45, F45⟩ := c.t.d.def_ 45 (d := dfd "_law_is_set" s_law_is_set) rfl
  have FF45 : Fun K "_law_is_set" "_law_is_set" s_law_is_set (He.fAd K ("_law_is_set", none)) fd45 := He5.fun_of F45
  have D_law_is_set : DefAt K mg "_law_is_set" s_law_is_set ["graph", "value"] := ⟨He.fAd K ("_law_is_set", none), fd45, FF45, FF45.binds (ps := ["graph", "value"]) fun _ _ _ _ _ _ us hl => match us, hl with | [_, _], _ => rfl, He.glo_ok X G (c.t.d.fact 45 (f := .glo "_law_is_set") rfl)⟩
  obtain ⟨fd46, F46⟩ := c.t.d.def_ 46 (d := dfd "_law_is_decomposition" s_law_is_decomposition) rfl
  have FF46 : Fun K "_law_is_decomposition" "_law_is_decomposition" s_law_is_decomposition (He.fAd K ("_law_is_decomposition", none)) fd46 := He5.fun_of F46
  have D_law_is_decomposition : DefAt K mg "_law_is_decomposition" s_law_is_decomposition ["graph", "value"] := ⟨He.fAd K ("_law_is_decomposition", none), fd46, FF46, FF46.binds (ps := ["graph", "value"]) fun _ _ _ _ _ _ us hl => match us, hl with | [_, _], _ => rfl, He.glo_ok X G (c.t.d.fact 46 (f := .glo "_law_is_decomposition") rfl)⟩
  obtain ⟨fd47, F47⟩ := c.t.d.def_ 47 (d := dfd "_law_filled" s_law_filled) rfl
  have FF47 : Fun K "_law_filled" "_law_filled" s_law_filled (He.fAd K ("_law_filled", none)) fd47 := He5.fun_of F47
  have D_law_filled : DefAt K mg "_law_filled" s_law_filled ["graph", "order"] := ⟨He.fAd K ("_law_filled", none), fd47, FF47, FF47.binds (ps := ["graph", "order"]) fun _ _ _ _ _ _ us hl => match us, hl with | [_, _], _ => rfl, He.glo_ok X G (c.t.d.fact 47 (f := .glo "_law_filled") rfl)⟩
  obtain ⟨fd48, F48⟩ := c.t.d.def_ 48 (d := dfd "_law_from_order" s_law_from_order) rfl
  have FF48 : Fun K "_law_from_order" "_law_from_order" s_law_from_order (He.fAd K ("_law_from_order", none)) fd48 := He5.fun_of F48
  have D_law_from_order : DefAt K mg "_law_from_order" s_law_from_order ["graph", "order"] := ⟨He.fAd K ("_law_from_order", none), fd48, FF48, FF48.binds (ps := ["graph", "order"]) fun _ _ _ _ _ _ us hl => match us, hl with | [_, _], _ => rfl, He.glo_ok X G (c.t.d.fact 48 (f := .glo "_law_from_order") rfl)⟩
  obtain ⟨fd49, F49⟩ := c.t.d.def_ 49 (d := dfd "_law_grown_bags" s_law_grown_bags) rfl
  have FF49 : Fun K "_law_grown_bags" "_law_grown_bags" s_law_grown_bags (He.fAd K ("_law_grown_bags", none)) fd49 := He5.fun_of F49
  have D_law_grown_bags : DefAt K mg "_law_grown_bags" s_law_grown_bags ["pool", "decomposition"] := ⟨He.fAd K ("_law_grown_bags", none), fd49, FF49, FF49.binds (ps := ["pool", "decomposition"]) fun _ _ _ _ _ _ us hl => match us, hl with | [_, _], _ => rfl, He.glo_ok X G (c.t.d.fact 49 (f := .glo "_law_grown_bags") rfl)⟩
  obtain ⟨fd50, F50⟩ := c.t.d.def_ 50 (d := dfd "_law_ringed" s_law_ringed) rfl
  have FF50 : Fun K "_law_ringed" "_law_ringed" s_law_ringed (He.fAd K ("_law_ringed", none)) fd50 := He5.fun_of F50
  have D_law_ringed : DefAt K mg "_law_ringed" s_law_ringed ["pool", "n"] := ⟨He.fAd K ("_law_ringed", none), fd50, FF50, FF50.binds (ps := ["pool", "n"]) fun _ _ _ _ _ _ us hl => match us, hl with | [_, _], _ => rfl, He.glo_ok X G (c.t.d.fact 50 (f := .glo "_law_ringed") rfl)⟩
  obtain ⟨fd51, F51⟩ := c.t.d.def_ 51 (d := dfd "law" s_law) rfl
  have FF51 : Fun K "law" "law" s_law (He.fAd K ("law", none)) fd51 := He5.fun_of F51
  let D_law : DefAt K mg "law" s_law ["script"] := ⟨He.fAd K ("law", none), fd51, FF51, FF51.binds (ps := ["script"]) fun _ _ _ _ _ _ us hl => match us, hl with | [_], _ => rfl, He.glo_ok X G (c.t.d.fact 51 (f := .glo "law") rfl)⟩
  have Z_all : mg "all" = none := He.free_ok X G (c.t.d.fact 64 (f := .free "all") rfl)
  have Z_set : mg "set" = none := He.free_ok X G (c.t.d.fact 65 (f := .free "set") rfl)
  have Z_zip : mg "zip" = none := He.free_ok X G (c.t.d.fact 66 (f := .free "zip") rfl)
  have Z_any : mg "any" = none := He.free_ok X G (c.t.d.fact 67 (f := .free "any") rfl)
  have e := hfa.symm.trans D_law.g
  cases e
  have T : Blt mg := ⟨He.free_ok X G (c.t.d.fact 52 (f := .free "len") rfl), He.free_ok X G (c.t.d.fact 53 (f := .free "range") rfl), He.free_ok X G (c.t.d.fact 54 (f := .free "list") rfl), He.free_ok X G (c.t.d.fact 55 (f := .free "tuple") rfl), He.free_ok X G (c.t.d.fact 56 (f := .free "int") rfl), He.free_ok X G (c.t.d.fact 57 (f := .free "min") rfl), He.free_ok X G (c.t.d.fact 58 (f := .free "max") rfl), He.free_ok X G (c.t.d.fact 59 (f := .free "sorted") rfl), He.free_ok X G (c.t.d.fact 60 (f := .free "isinstance") rfl), He.free_ok X G (c.t.d.fact 61 (f := .free "bool") rfl), He.free_ok X G (c.t.d.fact 62 (f := .free "str") rfl), He.free_ok X G (c.t.d.fact 63 (f := .free "enumerate") rfl)⟩
  have hnd : ([(He.cT K ("is_forest", none)).2, (He.cT K ("are_vertices", none)).2, (He.cT K ("is_ascending", none)).2, (He.cT K ("_are_bags", none)).2, (He.cT K ("_are_links", none)).2] : List Addr).Nodup := of_decide_eq_true c.more
  have m0 : (("is_forest", none) : He.Defn) ∈ tfX := List.mem_cons_self
  have hco0 : D_is_forest.fd.code = .ref (He.cT K ("is_forest", none)).1 := code_of D_is_forest.F rfl
  have m1 : (("are_vertices", none) : He.Defn) ∈ tfX := (List.mem_cons_of_mem _ List.mem_cons_self)
  have hco1 : D_are_vertices.fd.code = .ref (He.cT K ("are_vertices", none)).1 := code_of D_are_vertices.F rfl
  have m2 : (("is_ascending", none) : He.Defn) ∈ tfX := (List.mem_cons_of_mem _ (List.mem_cons_of_mem _ List.mem_cons_self))
  have hco2 : D_is_ascending.fd.code = .ref (He.cT K ("is_ascending", none)).1 := code_of D_is_ascending.F rfl
  have m3 : (("_are_bags", none) : He.Defn) ∈ tfX := (List.mem_cons_of_mem _ (List.mem_cons_of_mem _ (List.mem_cons_of_mem _ List.mem_cons_self)))
  have hco3 : D_are_bags.fd.code = .ref (He.cT K ("_are_bags", none)).1 := code_of D_are_bags.F rfl
  have m4 : (("_are_links", none) : He.Defn) ∈ tfX := (List.mem_cons_of_mem _ (List.mem_cons_of_mem _ (List.mem_cons_of_mem _ (List.mem_cons_of_mem _ List.mem_cons_self))))
  have hco4 : D_are_links.fd.code = .ref (He.cT K ("_are_links", none)).1 := code_of D_are_links.F rfl
  let TT : List (Addr × Str) := [((He.cT K ("is_forest", none)).2, lamN "is_forest"), ((He.cT K ("are_vertices", none)).2, genN "are_vertices"), ((He.cT K ("is_ascending", none)).2, genN "is_ascending"), ((He.cT K ("_are_bags", none)).2, genN "_are_bags"), ((He.cT K ("_are_links", none)).2, genN "_are_links")]
  have hnd' : (TT.map Prod.fst).Nodup := hnd
  have hu : ∀ {A : Addr} {N : Str}, (A, N) ∈ TT → ∀ p ∈ TT, p.1 = A → p.2 = N := fun {A N} hm p hp e => congrArg Prod.snd (map_inj_on hnd' hp hm e)
  have i0 : ((He.cT K ("is_forest", none)).2, lamN "is_forest") ∈ TT := List.mem_cons_self
  have i1 : ((He.cT K ("are_vertices", none)).2, genN "are_vertices") ∈ TT := (List.mem_cons_of_mem _ List.mem_cons_self)
  have i2 : ((He.cT K ("is_ascending", none)).2, genN "is_ascending") ∈ TT := (List.mem_cons_of_mem _ (List.mem_cons_of_mem _ List.mem_cons_self))
  have i3 : ((He.cT K ("_are_bags", none)).2, genN "_are_bags") ∈ TT := (List.mem_cons_of_mem _ (List.mem_cons_of_mem _ (List.mem_cons_of_mem _ List.mem_cons_self)))
  have i4 : ((He.cT K ("_are_links", none)).2, genN "_are_links") ∈ TT := (List.mem_cons_of_mem _ (List.mem_cons_of_mem _ (List.mem_cons_of_mem _ (List.mem_cons_of_mem _ List.mem_cons_self))))
  refine ⟨D_law.fd, tfX.map (He.cT K), spLaw K TT, fun p hp => ?_, fun p hp => ?_, fun p hp => ?_, fun s v => FunD.bindsA (ps := ["script"]) F51 (fun _ _ _ _ _ _ us hl => match us, hl with | [_], _ => rfl) s [v] rfl,
    fun H a ns _ _ hH hS => ⟨a, ns, rfl, hS, fun p hp => ?_, fun _ => rfl⟩, fun base _ _ hTB => ?_⟩
  · obtain ⟨d, hd, rfl⟩ := List.mem_map.mp hp
    exact c.empty _ hd
  · obtain ⟨d, hd, rfl⟩ := List.mem_map.mp hp
    exact c.out _ hd
  · obtain ⟨d, hd, rfl⟩ := List.mem_map.mp hp
    exact PySem.W.codeHd_of_K X (c.hd _ hd)
  · have hH' : ∀ d ∈ tfX, H (He.cT K d).2 = some (.tbl #[]) := fun d hd => hH _ (List.mem_map.mpr ⟨d, hd, rfl⟩)
    rcases List.mem_cons.mp hp with rfl | hp
    · exact TabS.nil (hH' _ m0)
    rcases List.mem_cons.mp hp with rfl | hp
    · exact TabS.nil (hH' _ m1)
    rcases List.mem_cons.mp hp with rfl | hp
    · exact TabS.nil (hH' _ m2)
    rcases List.mem_cons.mp hp with rfl | hp
    · exact TabS.nil (hH' _ m3)
    rw [List.mem_singleton.mp hp]
    exact TabS.nil (hH' _ m4)
  have hTB' : ∀ d ∈ tfX, LamX.TabB base mg (He.cT K d).1 (He.cT K d).2 := fun d hd => hTB _ (List.mem_map.mpr ⟨d, hd, rfl⟩)
  have TB0 := hTB' _ m0
  have TB1 := hTB' _ m1
  have TB2 := hTB' _ m2
  have TB3 := hTB' _ m3
  have TB4 := hTB' _ m4
  have G_spread := ok_spread (P := lw.prog) (w := w) (base := base) T D_law_spread
  have G_draw := ok_draw T D_law_draw D_law_spread G_spread
  have G_pool := ok_pool (P := lw.prog) (w := w) (base := base) T D_law_pool
  have G_pairs := ok_pairs (P := lw.prog) (w := w) (base := base) T D_law_pairs
  have G_distinct := ok_distinct (P := lw.prog) (w := w) (base := base) T D_law_distinct
  have G_of := ok_of T D_law_of D_law_distinct G_distinct
  have G_shuf := ok_shuffled T D_law_shuffled D_law_draw G_draw
  have G_moved := ok_moved T D_law_moved D_law_of G_of
  have G_other := ok_other T D_law_other D_law_pairs G_pairs
  have G_random := ok_random T D_law_random_graph D_law_draw G_draw D_law_pairs G_pairs
  have G_rows := ok_rows T D_law_interval_rows D_law_draw G_draw
  have G_iv := ok_ivgraph T D_law_interval_graph D_law_pairs G_pairs
  have G_turned := ok_turned T D_law_turned_graph D_law_pairs G_pairs
  have G_ringed := ok_ringed T D_law_ringed D_law_draw G_draw D_law_of G_of
  have G_ordered := ok_ordered T D_law_ordered_graph D_law_draw G_draw D_law_pairs G_pairs
  have G_clique := ok_clique T D_law_clique_graph D_law_draw G_draw
  have G_drawn := ok_drawn T D_law_drawn_tree D_law_draw G_draw
  have G_tp := ok_tree_pairs (P := lw.prog) (w := w) (base := base) T D_law_tree_pairs D_law_leaves 61
  have G_graph := ok_graph T D_law_graph D_law_draw G_draw D_law_interval_rows G_rows D_law_interval_graph G_iv D_law_turned_graph G_turned D_law_shuffled G_shuf D_law_ordered_graph G_ordered D_law_clique_graph G_clique D_law_of G_of D_law_tree_pairs G_tp D_law_drawn_tree G_drawn D_law_ringed G_ringed D_law_other G_other D_law_random_graph G_random D_law_moved G_moved
  have G_same := ok_same (P := lw.prog) (w := w) (base := base) T D_law_same 4
  have G_mask := ok_mask (P := lw.prog) (w := w) (base := base) (K := K) T D_mask_of
  have G_within := ok_within (P := lw.prog) (w := w) (base := base) (K := K) T D_is_within
  have G_top := ok_top (P := lw.prog) (w := w) (base := base) (K := K) T D_top
  have G_fo := ok_forest (TT := TT) TB0 i0 (hu i0) T D_is_forest hco0 D_top G_top
  have G_sp := ok_span T D_is_spanning_tree D_is_forest G_fo
  have G_ho := ok_hold T Z_all Z_any D_holds_edges D_mask_of G_mask D_is_within G_within
  have G_to := ok_tog (P := lw.prog) (w := w) (base := base) (K := K) T D_is_together
  have G_asc := ok_ascX (P := lw.prog) (w := w) (K := K) (TT := TT) TB2 i2 (hu i2) T Z_all D_is_ascending hco2
  have G_wi := ok_wid (P := lw.prog) (w := w) (base := base) (K := K) T D_width_of
  have G_de : ∀ b, FnOk lw.prog w K mg base CX0 14 D_is_decomposition.f D_is_decomposition.fd ["graph", "value"] (spDecX b TT) := fun b => by
    have G_int := ok_intX (b := b) (P := lw.prog) (w := w) (base := base) (K := K) T D_is_integer
    have G_tup := ok_tupX (b := b) (P := lw.prog) (w := w) (base := base) (K := K) T D_is_tuple
    have G_vx := ok_vxX T D_is_vertex D_is_integer G_int
    have G_vs := ok_vsX (TT := TT) TB1 i1 (hu i1) T Z_all D_are_vertices hco1 D_is_vertex G_vx
    have G_set := ok_setX T D_is_set D_are_vertices G_vs D_is_ascending G_asc
    have G_lk := ok_link T D_is_link D_is_tuple G_tup D_is_integer G_int
    have G_bg := ok_bags (TT := TT) TB3 i3 (hu i3) T Z_all D_are_bags hco3 D_is_set G_set
    have G_ls := ok_links (TT := TT) TB4 i4 (hu i4) T Z_all D_are_links hco4 D_is_link G_lk D_is_ascending G_asc D_is_spanning_tree G_sp
    exact ok_decX T Z_all D_is_decomposition D_is_tuple G_tup D_are_bags G_bg D_are_links G_ls D_holds_edges G_ho D_is_together G_to
  have G_li : ∀ b, FnOk lw.prog w K mg base CX0 1 D_law_is_int.f D_law_is_int.fd ["x"] (spIntX b) := fun b => ok_lintX (b := b) T D_law_is_int
  have G_str := ok_strange T D_law_strange D_law_draw G_draw D_law_is_int G_li
  have G_spo := ok_spoilt T D_law_spoilt D_law_draw G_draw D_law_strange G_str 6
  have G_fi := ok_filled T D_law_filled D_law_pairs G_pairs
  have G_lo := ok_from_order T D_law_from_order D_law_filled G_fi
  have G_gr := ok_grown T D_law_grown_bags D_law_draw G_draw D_law_shuffled G_shuf
  have G_disX := ok_disX (P := lw.prog) (w := w) (base := base) (K := K) T D_law_distinct
  have G_disJ := ok_disJ (P := lw.prog) (w := w) (base := base) (K := K) T D_law_distinct
  have G_met := ok_metX (P := lw.prog) (w := w) (base := base) (K := K) T D_law_met
  have G_re := ok_reachX T D_law_reach D_law_met G_met D_law_distinct G_disJ
  have G_jo := ok_joinedX T D_law_joined D_law_reach G_re
  have G_ld : ∀ b, FnOk lw.prog w K mg base CX0 5 D_law_is_decomposition.f D_law_is_decomposition.fd ["graph", "value"] (spIsDecX b) := fun b => by
    have G_ro := ok_lrowX T D_law_is_row D_law_is_int (G_li b) D_law_distinct G_disJ
    have G_se := ok_lsetX T D_law_is_set D_law_is_row G_ro
    exact ok_isdecX T D_law_is_decomposition D_law_is_int (G_li b) D_law_is_set G_se D_law_distinct G_disX D_law_joined G_jo
  exact ok_law T D_law D_law_pool G_pool D_law_graph G_graph D_law_draw G_draw D_law_shuffled G_shuf D_law_from_order G_lo D_law_grown_bags G_gr D_law_spoilt G_spo D_law_is_decomposition (fn_ex G_ld) D_is_decomposition (fn_ex G_de) D_width_of G_wi D_law_same G_same

set_option Elab.async false
set_option linter.all false
set_option maxRecDepth 100000
set_option maxHeartbeats 0
open PySem PySem.W PySem.Calls PyProof.Rows L2
abbrev RX : OpenRow := OpenLaw.row PySem.Challenge.rw_trellis_k55_decompositions
abbrev qProg : Program := view RX.prog [56]
def names0 : List PySem.Str := ["__name__", "is_integer", "is_tuple", "is_vertex", "are_vertices", "is_set", "is_ascending", "mask_of", "is_within", "is_forest", "_top", "is_spanning_tree", "is_decomposition", "_are_bags", "_are_links", "_is_link", "_holds_edges", "_is_together", "width_of", "_law_pool", "_law_spread", "_law_draw", "_law_same", "_law_is_int", "_law_distinct", "_law_pairs", "_law_of", "_law_met", "_law_shuffled", "_law_moved"]
def names1 : List PySem.Str := ["_law_other", "_law_random_graph", "_law_interval_rows", "_law_interval_graph", "_law_turned_graph", "_law_ordered_graph", "_law_clique_graph", "_law_drawn_tree", "_law_leaves", "_law_tree_pairs", "_law_graph", "_law_strange", "_law_spoilt", "_law_reach", "_law_joined", "_law_is_row", "_law_is_set", "_law_is_decomposition", "_law_filled", "_law_from_order", "_law_grown_bags", "_law_ringed"]
def names : List PySem.Str := names0 ++ (names1)
theorem runX (w : World) : HandSHeadRun.RunEq RX qProg hkX obX 4000 names w := by
  intro os
  kernel_rfl

end Z
set_option Elab.async false
set_option linter.all false
set_option maxRecDepth 100000
open PySem PySem.W PySem.Calls PyProof.Rows
set_option maxHeartbeats 0 in
theorem PySem.Challenge.cw_trellis_k55_decompositions_holds : PySem.Challenge.rw_trellis_k55_decompositions.Holds := by
  w_on; o_law
  refine HandSHeadRun.head_any (r := OpenLaw.row PySem.Challenge.rw_trellis_k55_decompositions) (q := Z.qProg) (H := Z.hkX) (ob := Z.obX) (M := 4000) (loose := Z.names) (d := HandSHeadRun.topDef (OpenLaw.row PySem.Challenge.rw_trellis_k55_decompositions).prog 56) (kwd := []) Z.obX_eq
    (by kernel_rfl) (fun s => by kernel_rfl) Z.runX (by kernel_rfl) (by kernel_rfl) (by kernel_rfl) (by rfl) (by first | assumption | decide +kernel) (by decide +kernel) ⟨rfl, rfl, rfl, rfl, rfl, by decide +kernel⟩ ?hw ?hc
  case hw => w_witness2
  case hc =>
    refine LamX.walk_ofTsE (l := PySem.Challenge.rw_trellis_k55_decompositions) (n := 63) (k := 64) (x := "script") (CX := fun _ => L2.CX0) rfl (by decide) rfl ⟨rfl, by decide, by decide⟩ ?F (fun _ _ _ _ _ h => h)
    intro w mg fa h Y G hmg0
    obtain ⟨K, KX, c⟩ := Y
    have hmg : mg ("law" : PySem.Str) = some (.ref fa) := by
      have e : (HandSHeadRun.topDef (OpenLaw.row PySem.Challenge.rw_trellis_k55_decompositions).prog 56).name = ("law" : PySem.Str) := by kernel_rfl
      rw [← e]
      exact hmg0
    exact ⟨K, KX, Z.facts KX G hmg c⟩
