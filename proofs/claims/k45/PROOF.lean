import PyProof.Rows.All
import Wide.All
import OpenK.AllK
import Wide.FinOn
import HandS.ForMost
import HandS.Wide
import HandS.TupSets
import HandS.Deep
import HandS.IsInst
import HandS.Conv
import HandS.SortRule
import PyProof.WalkInts
import HandS.SetBool
import HandS.ExcOwn
import HandS.WordsExc
import HandS.ExcIs
import HandS.TryOnly
import HandS.TryElse
import HandS.More
import KE.GoesEnum
import KE.GoesMore
import HandS.DictTup
import HandS.DictComp
import HandS.Iter
import HandS.TupAny
import PyProof.Rows.MatchSeqLen
import PyProof.RulesMatch
import HandS.Star
import HandS.ExcCtx
import HandS.Hot
import HandS.HotCalls
import PyProof.MinMaxWalk
import HandS.Text
import HandS.Strs
import HandS.SetIn
import KE.KSetDisp
import PyProof.SetRoads
import HandS.SortOrd
import KE.KIndexOf
import KE.DataMinMax
import KE.SortData
import PyProof.Rows.RowBridgeK
import KE.KRevSl
import HandS.Style
import PySem.Challenge.RW_trellis_k45_faces
set_option Elab.async false
set_option linter.all false
set_option maxRecDepth 100000
set_option maxHeartbeats 2000000
namespace Z
open PySem PySem.Spec PyProof.Rows L2

/-! ## heaps -/
/-- all but what stands at a is as it was -/
def Gr (a : Addr) (H H' : Hp) : Prop := ∀ b o, b ≠ a → H b = some o → H' b = some o
theorem Gr.refl (a : Addr) (H : Hp) : Gr a H H := fun _ _ _ h => h
theorem Gr.trans {a : Addr} {H H1 H2 : Hp} (x : Gr a H H1) (y : Gr a H1 H2) : Gr a H H2 := fun b o n h => y b o n (x b o n h)
theorem Gr.of_same {a : Addr} {H H' : Hp} (x : Same H H') : Gr a H H' := fun b o _ h => x b o h
theorem same_new {H : Hp} {p : Addr} {o : HO} (h : H p = none) : Same H (upd H p o) := fun b u e => by
  rw [upd_ne (ne_of_none e h)]
  exact e
theorem Gr.new {a : Addr} {H : Hp} {p : Addr} {o : HO} (h : H p = none) : Gr a H (upd H p o) := .of_same (same_new h)
/-- the object at a itself is written -/
theorem Gr.self {a : Addr} {H : Hp} {o : HO} : Gr a H (upd H a o) := fun b u n e => by
  rw [upd_ne n]
  exact e
/-- an object that H did not know is written -/
theorem Gr.mut {a : Addr} {H H' : Hp} {p : Addr} {o : HO} (x : Gr a H H') (h : H p = none) : Gr a H (upd H' p o) := fun b u n e => by
  rw [upd_ne (ne_of_none e h)]
  exact x b u n e
theorem same_mut {H H' : Hp} {p : Addr} {o : HO} (x : Same H H') (h : H p = none) : Same H (upd H' p o) := fun b u e => by
  rw [upd_ne (ne_of_none e h)]
  exact x b u e
/-- what is free now was free then -/
theorem Gr.free {a : Addr} {H H' : Hp} (x : Gr a H H') (ha : H' a ≠ none) {p : Addr} (h : H' p = none) : H p = none := by
  cases e : H p with
  | none => rfl
  | some o =>
    by_cases n : p = a
    · rw [n] at h
      exact absurd h ha
    · rw [x p o n e] at h
      cases h
theorem some_ne {H : Hp} {a : Addr} {o : HO} (h : H a = some o) : H a ≠ none := by
  rw [h]
  exact fun z => nomatch z
/-- the tuples stand -/
def TK (H H' : Hp) : Prop := ∀ b xs, H b = some (.tup xs) → H' b = some (.tup xs)
theorem TK.refl (H : Hp) : TK H H := fun _ _ h => h
theorem TK.trans {H H1 H2 : Hp} (x : TK H H1) (y : TK H1 H2) : TK H H2 := fun b o h => y b o (x b o h)
theorem TK.of_same {H H' : Hp} (x : Same H H') : TK H H' := fun b o h => x b _ h
theorem TK.of_gr {a : Addr} {H H' : Hp} {xs : List V} (x : Gr a H H') (h : H a = some (.lst xs)) : TK H H' := fun b o e => x b _ (fun n => by
  rw [n, h] at e
  cases e) e
theorem TK.lst {H : Hp} {p : Addr} {xs ys : List V} (h : H p = some (.lst xs)) : TK H (upd H p (.lst ys)) := fun b o e => by
  rw [upd_ne (fun n => by rw [n, h] at e; cases e)]
  exact e
theorem TK.new {H : Hp} {p : Addr} {o : HO} (h : H p = none) : TK H (upd H p o) := .of_same (same_new h)

/-! ## pairs -/
/-- x is the tuple of these two ints -/
def IsP (H : Hp) (x : V) (p : Int × Int) : Prop := ∃ t, x = .ref t ∧ H t = some (.tup [.int p.1, .int p.2])
theorem IsP.tk {H H' : Hp} (k : TK H H') {x : V} {p : Int × Int} (h : IsP H x p) : IsP H' x p := by
  obtain ⟨t, e, h⟩ := h
  exact ⟨t, e, k _ _ h⟩
abbrev Prs (H : Hp) : List V → List (Int × Int) → Prop := Paired (IsP H)
theorem Prs.tk {H H' : Hp} (k : TK H H') : ∀ {xs : List V} {ps : List (Int × Int)}, Prs H xs ps → Prs H' xs ps
  | _, _, .nil => .nil
  | _, _, .cons h t => .cons (h.tk k) (Prs.tk k t)
theorem pd_get {α β : Type} {F : α → β → Prop} : ∀ {xs : List α} {ps : List β} {i : Nat} {x : α}, Paired F xs ps → xs[i]? = some x → ∃ p, ps[i]? = some p ∧ F x p
  | _, _, _, _, .nil, h => by simp at h
  | _, _, 0, _, .cons f _, h => by
    have e := Option.some.inj h
    subst e
    exact ⟨_, rfl, f⟩
  | _, _, i + 1, _, .cons _ t, h => pd_get (i := i) t h
theorem pd_get2 {α β : Type} {F : α → β → Prop} : ∀ {xs : List α} {ps : List β} {i : Nat} {p : β}, Paired F xs ps → ps[i]? = some p → ∃ x, xs[i]? = some x ∧ F x p
  | _, _, _, _, .nil, h => by simp at h
  | _, _, 0, _, .cons f _, h => by
    have e := Option.some.inj h
    subst e
    exact ⟨_, rfl, f⟩
  | _, _, i + 1, _, .cons _ t, h => pd_get2 (i := i) t h
theorem pd_mem {α β : Type} {F : α → β → Prop} {xs : List α} {ps : List β} {x : α} (h : Paired F xs ps) (hx : x ∈ xs) : ∃ p ∈ ps, F x p := by
  obtain ⟨i, hi, e⟩ := List.mem_iff_getElem.mp hx
  obtain ⟨p, hp, f⟩ := pd_get h (List.getElem?_eq_some_iff.mpr ⟨hi, e⟩)
  exact ⟨p, List.mem_of_getElem? hp, f⟩
theorem pd_perm {α β : Type} {F : α → β → Prop} {xs ys : List α} (pm : ys.Perm xs) : ∀ {ps : List β}, Paired F xs ps → ∃ qs, qs.Perm ps ∧ Paired F ys qs := by
  induction pm with
  | nil => intro ps h; cases h; exact ⟨[], .nil, .nil⟩
  | cons x _ ih =>
    intro ps h
    cases h with
    | cons f t =>
      obtain ⟨qs, q1, q2⟩ := ih t
      exact ⟨_, q1.cons _, .cons f q2⟩
  | swap x y l =>
    intro ps h
    cases h with
    | cons f t =>
      cases t with
      | cons g u => exact ⟨_, .swap _ _ _, .cons g (.cons f u)⟩
  | trans _ _ ih1 ih2 =>
    intro ps h
    obtain ⟨qs, q1, q2⟩ := ih2 h
    obtain ⟨rs, r1, r2⟩ := ih1 q2
    exact ⟨rs, r1.trans q1, r2⟩
theorem pd_append {α β : Type} {F : α → β → Prop} : ∀ {xs ys : List α} {ps qs : List β}, Paired F xs ps → Paired F ys qs → Paired F (xs ++ ys) (ps ++ qs)
  | _, _, _, _, .nil, h => h
  | _, _, _, _, .cons f t, h => .cons f (pd_append t h)
theorem pd_take {α β : Type} {F : α → β → Prop} : ∀ {xs : List α} {ps : List β} (n : Nat), Paired F xs ps → Paired F (xs.take n) (ps.take n)
  | _, _, 0, _ => .nil
  | _, _, _ + 1, .nil => .nil
  | _, _, n + 1, .cons f t => .cons f (pd_take n t)
theorem pd_drop {α β : Type} {F : α → β → Prop} : ∀ {xs : List α} {ps : List β} (n : Nat), Paired F xs ps → Paired F (xs.drop n) (ps.drop n)
  | _, _, 0, h => h
  | _, _, _ + 1, .nil => .nil
  | _, _, n + 1, .cons _ t => pd_drop n t

/-! ## data, for == and in -/
theorem IsP.dp {K : PySem.W.Frag} {H : Hp} {x : V} {p : Int × Int} (h : IsP H x p) : Dp K H x (.tuple [.int p.1, .int p.2]) := by
  obtain ⟨t, rfl, h⟩ := h
  exact .tup (.inl (.inl h)) (.cons (.int _) (.cons (.int _) .nil))
def prD2 (p : Int × Int) : PyData := .tuple [.int p.1, .int p.2]
theorem Prs.dps {K : PySem.W.Frag} {H : Hp} : ∀ {xs : List V} {ps : List (Int × Int)}, Prs H xs ps → DpAll K H xs (ps.map prD2)
  | _, _, .nil => .nil
  | _, _, .cons h t => .cons h.dp (Prs.dps t)
theorem prD2_lay (z : Int × Int) : (prD2 z).canLay0 = true := by simp [prD2, PyData.canLay0, PyData.canLayAll0]
theorem prD2_depth (z : Int × Int) : (prD2 z).depth = 1 := by simp [prD2, PyData.depth, PyData.depthAll]
theorem prD2s_lay : ∀ zs : List (Int × Int), PyData.canLayAll0 (zs.map prD2) = true
  | [] => by simp [PyData.canLayAll0]
  | z :: zs => by simp [PyData.canLayAll0, prD2_lay z, prD2s_lay zs]
theorem prD2s_depth : ∀ zs : List (Int × Int), PyData.depthAll (zs.map prD2) ≤ 1
  | [] => by simp [PyData.depthAll]
  | z :: zs => by
    have h1 := prD2s_depth zs
    have h2 := prD2_depth z
    simp only [List.map_cons, PyData.depthAll]
    omega
theorem shaped_of {d : PyData} (h1 : d.canLay0 = true) (h2 : d.depth ≤ 64) : SeqAt.shaped d = true := by
  show (d.canLay0 && decide (d.depth ≤ 64)) = true
  rw [Bool.and_eq_true]
  exact ⟨h1, decide_eq_true h2⟩
theorem prD2_shaped (z : Int × Int) : SeqAt.shaped (prD2 z) = true := shaped_of (prD2_lay z) (by rw [prD2_depth]; omega)
theorem prD2s_shT (zs : List (Int × Int)) : SeqAt.shaped (.tuple (zs.map prD2)) = true := shaped_of (by simp only [PyData.canLay0]; exact prD2s_lay zs) (by
  have h := prD2s_depth zs
  simp only [PyData.depth]
  omega)
theorem prD2s_shL (zs : List (Int × Int)) : SeqAt.shaped (.list (zs.map prD2)) = true := shaped_of (by simp only [PyData.canLay0]; exact prD2s_lay zs) (by
  have h := prD2s_depth zs
  simp only [PyData.depth]
  omega)
theorem prD2_eqv (z w : Int × Int) : PyData.eqv (prD2 z) (prD2 w) = decide (z = w) := by
  obtain ⟨a, b⟩ := z
  obtain ⟨c, d⟩ := w
  have e : PyData.eqv (prD2 (a, b)) (prD2 (c, d)) = ((a == c) && ((b == d) && true)) := by simp only [prD2, PyData.eqv, PyData.eqvAll]
  rw [e]
  by_cases h1 : a = c <;> by_cases h2 : b = d <;> simp [h1, h2]
theorem prD2s_any (zs : List (Int × Int)) (w : Int × Int) : ((zs.map prD2).any fun z => PyData.eqv z (prD2 w)) = decide (w ∈ zs) := by
  induction zs with
  | nil => simp
  | cons z zs ih =>
    rw [List.map_cons, List.any_cons, ih, prD2_eqv]
    by_cases h : z = w
    · simp [h]
    · have h' : ¬ w = z := fun q => h q.symm
      simp [h, h']

/-! ## rules of my own -/
section
variable {X : Cx}
/-- x in t, t a tuple of pairs -/
def rInP (K : PySem.W.Frag) : R2 := fun x y H Q => ∃ (p : Int × Int) (b : Addr) (xs : List V) (ps : List (Int × Int)), IsP H x p ∧ y = .ref b ∧ SqT K H b xs ∧ Prs H xs ps ∧ Q (.bl (decide (p ∈ ps))) H
def rNinP (K : PySem.W.Frag) : R2 := fun x y H Q => ∃ (p : Int × Int) (b : Addr) (xs : List V) (ps : List (Int × Int)), IsP H x p ∧ y = .ref b ∧ SqT K H b xs ∧ Prs H xs ps ∧ Q (.bl (!decide (p ∈ ps))) H
theorem units65 {k : Nat} {A : Around} (r : Room k A) : A.units + 65 < cLine := by have := r.un; omega
theorem roomP {A : Around} {ds : List PyData} (h : A.units + 64 < cLine) (p : Int × Int) : A.units + 1 + min (PyData.depthAll ds) (prD2 p).depth < cLine := by
  have := Nat.min_le_right (PyData.depthAll ds) (prD2 p).depth
  rw [prD2_depth] at this
  rw [prD2_depth]
  omega
theorem op_inTD {k : Nat} (hr : Room k X.A) : OpR X (compareOp .In) (rInP X.K) := by
  intro pins s σ H x y v u Q I rx ry h
  obtain ⟨p, b, xs, ps, hx, rfl, hb, hp, q⟩ := h
  obtain ⟨as, r1⟩ := Dp.reads I (prD2 p) x v hx.dp rx
  obtain ⟨bs, r2⟩ := Dp.reads I (.tuple (ps.map prD2)) (.ref b) u (.tup hb hp.dps) ry
  exact SeqAt.in_tuple_reads r2 r1 (prD2s_lay ps) (prD2_lay p) (roomP hr.units p) ⟨.bl _, H, I, rfl, by rw [prD2s_any]; exact q⟩
theorem op_notInTD {k : Nat} (hr : Room k X.A) : OpR X (compareOp .NotIn) (rNinP X.K) := by
  intro pins s σ H x y v u Q I rx ry h
  obtain ⟨p, b, xs, ps, hx, rfl, hb, hp, q⟩ := h
  obtain ⟨as, r1⟩ := Dp.reads I (prD2 p) x v hx.dp rx
  obtain ⟨bs, r2⟩ := Dp.reads I (.tuple (ps.map prD2)) (.ref b) u (.tup hb hp.dps) ry
  exact SeqAt.notIn_tuple_reads r2 r1 (prD2s_lay ps) (prD2_lay p) (roomP hr.units p) ⟨.bl _, H, I, rfl, by rw [prD2s_any]; exact q⟩
/-- min, max of a pair -/
def rMinT : List V → Hp → VK → Prop := fun vs H Q => ∃ (x : V) (p : Int × Int), vs = [x] ∧ IsP H x p ∧ Q (.int (min p.1 p.2)) H
def rMaxT : List V → Hp → VK → Prop := fun vs H Q => ∃ (x : V) (p : Int × Int), vs = [x] ∧ IsP H x p ∧ Q (.int (max p.1 p.2)) H
theorem pair_raw {pins : List (Addr × Obj)} {σ : L2.St} {H : Hp} {s : Shared} {t : Addr} {i j : Int} (I : Inv X pins σ H s) (h : H t = some (.tup [.int i, .int j])) :
    ∃ a b, s.heap.IsTuple t (intItems #[(i, a), (j, b)]) := by
  obtain ⟨its, rv, ⟨o, ho, hc, n, hd⟩, _⟩ := I.tuple (SqT.of (K := X.K) h)
  obtain ⟨u, w, e, r1, r2⟩ := vals2 rv
  obtain ⟨a, rfl⟩ := r1
  obtain ⟨b, rfl⟩ := r2
  subst e
  exact ⟨a, b, o, ho, hc, n, by simpa [intItems] using hd⟩
theorem cr_minT (hc : X.calm = true) : CallR X (.builtin "min") rMinT := by
  intro pins s σ H vs us Q I r h
  obtain ⟨x, ⟨i, j⟩, rfl, ⟨t, rfl, ht⟩, q⟩ := h
  rw [Vals.ref1 r]
  obtain ⟨a, b, hT⟩ := pair_raw I ht
  have hlt : t < s.heap.objs.size := by
    obtain ⟨o, ho, _⟩ := hT
    exact Heap.lt_size ho
  refine call_min_walk (wpAny_pyIter_tuple hT ?_)
  refine ⟨_, _, _, _, _, _, _, rfl, Walks.tuple (A := X.A.in1) (I.ok.hd hc) s.heap.objs.size t (Nat.ne_of_lt hlt) (intItems #[(i, a), (j, b)]),
    ⟨⟨_, Heap.get?_push_size _ rfl, rfl, rfl⟩, hT.push _⟩, fun c hm => ?_, by simp [intItems], CmpOf.ints_lt (numAt #[(i, a), (j, b)]) (fun _ _ => intItems_at), fun v h' tk hP hk => ?_⟩
  · show c < (s.heap.push _).objs.size
    rw [Heap.size_push]
    rcases List.mem_cons.mp hm with e | hm
    · rw [e]
      exact Nat.lt_succ_self _
    · rw [List.mem_singleton.mp hm]
      exact Nat.lt_succ_of_lt hlt
  · obtain ⟨tt, rfl⟩ := intItems_at hP
    obtain ⟨h1, h2⟩ := argBest_lt (numAt #[(i, a), (j, b)]) ((intItems #[(i, a), (j, b)]).size - 1)
    have e1 : (intItems #[(i, a), (j, b)]).size - 1 = 1 := by simp [intItems]
    rw [e1] at h1 h2 ⊢
    have n0 : numAt #[(i, a), (j, b)] 0 = i := rfl
    have n1 : numAt #[(i, a), (j, b)] 1 = j := rfl
    have g0 := h2 0 (by omega)
    have g1 := h2 1 (by omega)
    rw [n0] at g0
    rw [n1] at g1
    have ev : numAt #[(i, a), (j, b)] (argBest (fun k l => decide (numAt #[(i, a), (j, b)] k < numAt #[(i, a), (j, b)] l)) 1) = min i j := by
      generalize argBest (fun k l => decide (numAt #[(i, a), (j, b)] k < numAt #[(i, a), (j, b)] l)) 1 = z at h1 g0 g1 ⊢
      have hz : z = 0 ∨ z = 1 := by omega
      rcases hz with e | e
      · subst e; rw [n0] at g0 g1 ⊢; omega
      · subst e; rw [n1] at g0 g1 ⊢; omega
    refine ⟨.int (min i j), H, I.kept (t' := tk) fun b u e => hk b u (fun hmem => ?_) (Heap.get?_push_of_some _ e), ⟨tt, by rw [ev]⟩, q⟩
    have e2 := Heap.lt_size e
    rw [List.mem_singleton.mp hmem] at e2
    exact absurd e2 (Nat.lt_irrefl _)
theorem cr_maxT (hc : X.calm = true) : CallR X (.builtin "max") rMaxT := by
  intro pins s σ H vs us Q I r h
  obtain ⟨x, ⟨i, j⟩, rfl, ⟨t, rfl, ht⟩, q⟩ := h
  rw [Vals.ref1 r]
  obtain ⟨a, b, hT⟩ := pair_raw I ht
  have hlt : t < s.heap.objs.size := by
    obtain ⟨o, ho, _⟩ := hT
    exact Heap.lt_size ho
  refine call_max_walk (wpAny_pyIter_tuple hT ?_)
  refine ⟨_, _, _, _, _, _, _, rfl, Walks.tuple (A := X.A.in1) (I.ok.hd hc) s.heap.objs.size t (Nat.ne_of_lt hlt) (intItems #[(i, a), (j, b)]),
    ⟨⟨_, Heap.get?_push_size _ rfl, rfl, rfl⟩, hT.push _⟩, fun c hm => ?_, by simp [intItems], CmpOf.ints_gt (numAt #[(i, a), (j, b)]) (fun _ _ => intItems_at), fun v h' tk hP hk => ?_⟩
  · show c < (s.heap.push _).objs.size
    rw [Heap.size_push]
    rcases List.mem_cons.mp hm with e | hm
    · rw [e]
      exact Nat.lt_succ_self _
    · rw [List.mem_singleton.mp hm]
      exact Nat.lt_succ_of_lt hlt
  · obtain ⟨tt, rfl⟩ := intItems_at hP
    obtain ⟨h1, h2⟩ := argBest_gt (numAt #[(i, a), (j, b)]) ((intItems #[(i, a), (j, b)]).size - 1)
    have e1 : (intItems #[(i, a), (j, b)]).size - 1 = 1 := by simp [intItems]
    rw [e1] at h1 h2 ⊢
    have n0 : numAt #[(i, a), (j, b)] 0 = i := rfl
    have n1 : numAt #[(i, a), (j, b)] 1 = j := rfl
    have g0 := h2 0 (by omega)
    have g1 := h2 1 (by omega)
    rw [n0] at g0
    rw [n1] at g1
    have ev : numAt #[(i, a), (j, b)] (argBest (fun k l => decide (numAt #[(i, a), (j, b)] k > numAt #[(i, a), (j, b)] l)) 1) = max i j := by
      generalize argBest (fun k l => decide (numAt #[(i, a), (j, b)] k > numAt #[(i, a), (j, b)] l)) 1 = z at h1 g0 g1 ⊢
      have hz : z = 0 ∨ z = 1 := by omega
      rcases hz with e | e
      · subst e; rw [n0] at g0 g1 ⊢; omega
      · subst e; rw [n1] at g0 g1 ⊢; omega
    refine ⟨.int (max i j), H, I.kept (t' := tk) fun b u e => hk b u (fun hmem => ?_) (Heap.get?_push_of_some _ e), ⟨tt, by rw [ev]⟩, q⟩
    have e2 := Heap.lt_size e
    rw [List.mem_singleton.mp hmem] at e2
    exact absurd e2 (Nat.lt_irrefl _)
/-- the order of pairs -/
def leP (p q : Int × Int) : Prop := p.1 < q.1 ∨ (p.1 = q.1 ∧ p.2 ≤ q.2)
def ltP (p q : Int × Int) : Prop := p.1 < q.1 ∨ (p.1 = q.1 ∧ p.2 < q.2)
/-- which pair stands at x -/
def kP (H : Hp) : V → Int × Int
  | .ref t => match H t with
    | some (.tup [.int i, .int j]) => (i, j)
    | _ => (0, 0)
  | _ => (0, 0)
theorem IsP.k {H : Hp} {x : V} {p : Int × Int} (h : IsP H x p) : kP H x = p := by
  obtain ⟨t, rfl, h⟩ := h
  simp only [kP, h]
/-- sorted(xs), xs a list of pairs -/
def rSortPr (K : PySem.W.Frag) : List V → Hp → VK → Prop := fun vs H Q => ∃ (a : Addr) (xs : List V) (ps : List (Int × Int)), vs = [V.ref a] ∧ SqL K H a xs ∧ Prs H xs ps ∧
  ∀ (ys : List V) (qs : List (Int × Int)) (p : Addr), qs.Perm ps → Prs H ys qs → qs.Pairwise leP → H p = none → Q (.ref p) (upd H p (.lst ys))
theorem prs_of_k {H : Hp} : ∀ {ys : List V}, (∀ y ∈ ys, IsP H y (kP H y)) → Prs H ys (ys.map (kP H))
  | [], _ => .nil
  | y :: ys, h => .cons (h y List.mem_cons_self) (prs_of_k fun z hz => h z (List.mem_cons_of_mem _ hz))
theorem prs_k {H : Hp} : ∀ {xs : List V} {ps : List (Int × Int)}, Prs H xs ps → xs.map (kP H) = ps
  | _, _, .nil => rfl
  | _, _, .cons h t => by rw [List.map_cons, h.k, prs_k t]
theorem cr_sortPr : CallR X (.builtin "sorted") (rSortPr X.K) := by
  intro pins s σ H vs us Q I r h
  obtain ⟨a, xs, ps, rfl, hs, hp, q⟩ := h
  have at_ : ∀ x ∈ xs, IsP H x (kP H x) := fun x hx => by
    obtain ⟨p, _, f⟩ := pd_mem hp hx
    rw [f.k]
    exact f
  refine cr_sortedPO pins s σ H [V.ref a] us Q I r ⟨a, xs, kP H, rfl, hs, fun x hx => ?_, fun ys p sr st hn => ?_⟩
  · obtain ⟨t, e, h⟩ := at_ x hx
    exact ⟨t, e, h⟩
  · refine q ys (ys.map (kP H)) p ?_ (prs_of_k fun y hy => at_ y (st.perm.mem_iff.mp hy)) ?_ hn
    · rw [← prs_k hp]
      exact st.perm.map _
    · refine List.pairwise_map.mpr (List.Pairwise.imp (fun {x y} h => ?_) sr)
      have h2 := SrtO.lexB_no.mp h
      unfold leP
      omega
end

set_option Elab.async false
set_option linter.all false
set_option maxRecDepth 100000
set_option maxHeartbeats 2000000
open PySem PySem.Spec PyProof.Rows L2
/-! ## steps of a reading -/
theorem int_beq (i j : Int) : (i == j) = decide (i = j) := by
  by_cases h : i = j <;> simp [h]
def rInt1 : List V → Hp → VK → Prop := fun xs H Q => (∃ i, xs = [.int i] ∧ Q (.int i) H) ∨ ∃ k, xs = [.bl k] ∧ Q (.int (if k then 1 else 0)) H
def rMin2 : List V → Hp → VK → Prop := fun xs H Q => ∃ i j, xs = [.int i, .int j] ∧ Q (.int (if j < i then j else i)) H
def rMax2 : List V → Hp → VK → Prop := fun xs H Q => ∃ i j, xs = [.int i, .int j] ∧ Q (.int (if j > i then j else i)) H
def rLen (K : PySem.W.Frag) : List V → Hp → VK → Prop := fun xs H Q => ∃ p ys, xs = [.ref p] ∧ (SqL K H p ys ∨ SqT K H p ys) ∧ Q (.int ys.length) H
def rListOf (K : PySem.W.Frag) : List V → Hp → VK → Prop := fun xs H Q => ∃ p ys, xs = [.ref p] ∧ (SqL K H p ys ∨ SqT K H p ys) ∧ ∀ l, H l = none → Q (.ref l) (upd H l (.lst ys))
def rTupOf (K : PySem.W.Frag) : List V → Hp → VK → Prop := fun xs H Q => ∃ p ys, xs = [.ref p] ∧ ((SqL K H p ys ∧ ∀ l, H l = none → Q (.ref l) (upd H l (.tup ys))) ∨ (SqT K H p ys ∧ Q (.ref p) H))
section
variable {X : Cx}
theorem ix_either : IxR X (fun x y H Q => rIxL X.K x y H Q ∨ rIxT X.K x y H Q) := ix_list.or ix_tup
variable {K : PySem.W.Frag}
theorem ix_listK (h : X.K = K) : IxR X (rIxL K) := h ▸ ix_list
theorem ix_tupK (h : X.K = K) : IxR X (rIxT K) := h ▸ ix_tup
theorem ix_eitherK (h : X.K = K) : IxR X (fun x y H Q => rIxL K x y H Q ∨ rIxT K x y H Q) := h ▸ ix_list.or ix_tup
theorem sl_listK (h : X.K = K) : SlR X (rSlL K) := h ▸ sl_list
theorem sl_tupK (h : X.K = K) : SlR X (rSlT K) := h ▸ sl_tup
theorem op_inSeqK (h : X.K = K) : OpR X (compareOp .In) (rIn K false) := h ▸ op_in_seq
theorem op_ninSeqK (h : X.K = K) : OpR X (compareOp .NotIn) (rIn K true) := h ▸ op_notIn_seq
theorem op_inPK {k : Nat} (h : X.K = K) (hr : Room k X.A) : OpR X (compareOp .In) (rInP K) := h ▸ op_inTD hr
theorem op_ninPK {k : Nat} (h : X.K = K) (hr : Room k X.A) : OpR X (compareOp .NotIn) (rNinP K) := h ▸ op_notInTD hr
theorem op_eqDK (h : X.K = K) (hu : X.A.units + 64 < cLine) : OpR X (compareOp .Eq) (rEqD K) := h ▸ op_eqD hu
theorem op_neDK (h : X.K = K) (hu : X.A.units + 64 < cLine) : OpR X (compareOp .NotEq) (rNeD K) := h ▸ op_neD hu
theorem op_catTK (h : X.K = K) : OpR X (binaryOp .Add) (rCatT K) := h ▸ op_catT
theorem PE.bmK {e : Expr} {T : String} {r : V → List V → Hp → VK → Prop} {to : TE} {t : TA} (h : X.K = K) (p : PE X e (tBM X.K T r to t)) : PE X e (tBM K T r to t) := h ▸ p
theorem PG.tupK {e : Expr} {n : Nat} {t : TGs} (h : X.K = K) (p : PG X e (gTup X.K n t)) : PG X e (gTup K n t) := h ▸ p
theorem PI.listK {tg e : Expr} {tl : TE} (h : X.K = K) (p : PI X tg e (iList X.K tl)) : PI X tg e (iList K tl) := h ▸ p
theorem PI.tupK {tg e : Expr} {tl : TE} (h : X.K = K) (p : PI X tg e (iTup X.K tl)) : PI X tg e (iTup K tl) := h ▸ p
theorem mt_indexK (h : X.K = K) : MtR X "list.index" (rIndex K) := h ▸ mt_index
theorem cr_sortPrK (h : X.K = K) : CallR X (.builtin "sorted") (rSortPr K) := h ▸ cr_sortPr
theorem call_isiK (h : X.K = K) : CallR X (.builtin "isinstance") (rIsi K) := h ▸ call_isi
theorem call_lenK (h : X.K = K) : CallR X (.builtin "len") (rLen K) := h ▸ call_len_seq
theorem call_listK (h : X.K = K) : CallR X (.type "list") (rListOf K) := h ▸ call_list_of
theorem call_tupleK (h : X.K = K) : CallR X (.type "tuple") (rTupOf K) := h ▸ call_tuple_of
theorem call_int1' : CallR X (.type "int") rInt1 := call_int1
theorem call_min2' (hc : X.calm = true) : CallR X (.builtin "min") rMin2 := call_min2 hc
theorem call_max2' (hc : X.calm = true) : CallR X (.builtin "max") rMax2 := call_max2 hc
theorem call_len' : CallR X (.builtin "len") (rLen X.K) := call_len_seq
theorem call_list' : CallR X (.type "list") (rListOf X.K) := call_list_of
theorem call_tuple' : CallR X (.type "tuple") (rTupOf X.K) := call_tuple_of
end
section
variable {K : PySem.W.Frag} {σ : L2.St} {H : Hp} {Q : VK} {ta tb tc te : TE} {t u : TT}
theorem r_var {i : Nat} {v : V} (h : σ[i]? = some (some v)) (q : Q v H) : tVar i σ H Q := ⟨v, h, q⟩
theorem r_c {v : V} (q : Q v H) : tC v σ H Q := q
theorem r_op {r : R2} (h : ta σ H fun x H1 => tb σ H1 fun y H2 => r x y H2 Q) : tOp r ta tb σ H Q := h
theorem r_un {r : V → Hp → VK → Prop} (h : ta σ H fun x H1 => r x H1 Q) : tUn r ta σ H Q := h
theorem r_i0 {g : Int → Int → V} {i j : Int} (q : Q (g i j) H) : rI0 g (.int i) (.int j) H Q := ⟨i, j, rfl, rfl, q⟩
theorem r_i {C : Int → Int → Prop} {g : Int → Int → V} {i j : Int} (c : C i j) (q : Q (g i j) H) : rI C g (.int i) (.int j) H Q := ⟨i, j, rfl, rfl, c, q⟩
theorem r_u {g : Int → V} {i : Int} (q : Q (g i) H) : rU g (.int i) H Q := ⟨i, rfl, q⟩
theorem r_eqI {i j : Int} (q : Q (.bl (decide (i = j))) H) : rEq (.int i) (.int j) H Q := ⟨rfl, by rw [dec_int, int_beq]; exact q⟩
theorem r_neI {i j : Int} (q : Q (.bl (!decide (i = j))) H) : rNe (.int i) (.int j) H Q := ⟨rfl, by rw [dec_int, int_beq]; exact q⟩
theorem r_eqB {i j : Bool} (q : Q (.bl (i == j)) H) : rEq (.bl i) (.bl j) H Q := ⟨rfl, by rw [dec_bl]; exact q⟩
theorem r_neB {i j : Bool} (q : Q (.bl (!(i == j))) H) : rNe (.bl i) (.bl j) H Q := ⟨rfl, by rw [dec_bl]; exact q⟩
def TupN (Q : VK) (xs : List V) (H1 : Hp) : Prop := xs.length ≤ sizeLine ∧ ∀ p, H1 p = none → Q (.ref p) (upd H1 p (.tup xs))
def LstN (Q : VK) (xs : List V) (H1 : Hp) : Prop := xs.length ≤ sizeLine ∧ ∀ p, H1 p = none → Q (.ref p) (upd H1 p (.lst xs))
theorem r_tup {ta : TA} (h : ta σ H (TupN Q)) : tTup ta σ H Q := h
theorem r_lst {ta : TA} (h : ta σ H (LstN Q)) : tLst ta σ H Q := h
theorem r_tupN {xs : List V} (l : xs.length ≤ sizeLine) (q : ∀ p, H p = none → Q (.ref p) (upd H p (.tup xs))) : TupN Q xs H := ⟨l, q⟩
theorem r_lstN {xs : List V} (l : xs.length ≤ sizeLine) (q : ∀ p, H p = none → Q (.ref p) (upd H p (.lst xs))) : LstN Q xs H := ⟨l, q⟩
theorem r_nil {Q : List V → Hp → Prop} (q : Q [] H) : tNil σ H Q := q
theorem r_cons {tr : TA} {Q : List V → Hp → Prop} (h : ta σ H fun x H1 => tr σ H1 fun xs H2 => Q (x :: xs) H2) : tCons ta tr σ H Q := h
theorem r_call {sp : Sp} {dvs : List V} {E : XK} {ta : TA} (h : ta σ H fun vs H1 => sp (vs ++ dvs) H1 Q E) : tCall sp dvs E ta σ H Q := h
theorem r_cb {r : List V → Hp → VK → Prop} {ta : TA} (h : ta σ H fun vs H1 => r vs H1 Q) : tCB r ta σ H Q := h
def KB (Q : Bool → Hp → Prop) (x : V) (H : Hp) : Prop := ∃ k, x = .bl k ∧ Q k H
theorem r_test {Q : Bool → Hp → Prop} (h : te σ H fun x H1 => KB Q x H1) : tTest te σ H Q := h
theorem r_tB {Q : Bool → Hp → Prop} (h : te σ H fun x H1 => KB Q x H1) : tB te σ H Q := h
theorem r_k {Q : Bool → Hp → Prop} {b : Bool} (q : Q b H) : KB Q (.bl b) H := ⟨b, rfl, q⟩
theorem r_not {Q : Bool → Hp → Prop} (h : t σ H fun c H1 => Q (!c) H1) : tNot t σ H Q := h
theorem r_and {Q : Bool → Hp → Prop} (h : t σ H fun c H1 => if c = true then u σ H1 Q else Q false H1) : tAnd t u σ H Q := h
theorem r_or {Q : Bool → Hp → Prop} (h : t σ H fun c H1 => if c = true then Q true H1 else u σ H1 Q) : tOr t u σ H Q := h
theorem r_if (h : t σ H fun c H1 => if c = true then ta σ H1 Q else tb σ H1 Q) : tIf t ta tb σ H Q := h
def Bm (K : PySem.W.Frag) (T : String) (r : V → List V → Hp → VK → Prop) (ta : TA) (σ : L2.St) (Q : VK) (x : V) (H1 : Hp) : Prop := tyV K T x H1 ∧ ta σ H1 fun xs H2 => r x xs H2 Q
theorem r_bm {T : String} {r : V → List V → Hp → VK → Prop} {ta : TA} (h : te σ H (Bm K T r ta σ Q)) : tBM K T r te ta σ H Q := h
def AndN (tb : TE) (σ : L2.St) (Q : VK) (x : V) (H1 : Hp) : Prop := ∃ c, x = .bl c ∧ if c = true then tb σ H1 Q else Q (.bl false) H1
def OrN (tb : TE) (σ : L2.St) (Q : VK) (x : V) (H1 : Hp) : Prop := ∃ c, x = .bl c ∧ if c = true then Q (.bl true) H1 else tb σ H1 Q
def NotN (Q : VK) (x : V) (H1 : Hp) : Prop := ∃ c, x = .bl c ∧ Q (.bl (!c)) H1
theorem r_andV (h : ta σ H (AndN tb σ Q)) : tAndV ta tb σ H Q := h
theorem r_orV (h : ta σ H (OrN tb σ Q)) : tOrV ta tb σ H Q := h
theorem r_notV (h : ta σ H (NotN Q)) : tNotV ta σ H Q := h
theorem r_andN {c : Bool} (h : if c = true then tb σ H Q else Q (.bl false) H) : AndN tb σ Q (.bl c) H := ⟨c, rfl, h⟩
theorem r_orN {c : Bool} (h : if c = true then Q (.bl true) H else tb σ H Q) : OrN tb σ Q (.bl c) H := ⟨c, rfl, h⟩
theorem r_notN {c : Bool} (q : Q (.bl (!c)) H) : NotN Q (.bl c) H := ⟨c, rfl, q⟩
def PartN (Q : Option Int → Hp → Prop) (x : V) (H1 : Hp) : Prop := ∃ i, x = .int i ∧ Q (some i) H1
theorem r_sl {r : V → Option Int → Option Int → Hp → VK → Prop} {tl th : TO} (h : te σ H fun x H1 => tl σ H1 fun l H2 => th σ H2 fun u H3 => r x l u H3 Q) : tSl r te tl th σ H Q := h
theorem r_part {Q : Option Int → Hp → Prop} (h : te σ H (PartN Q)) : tPart te σ H Q := h
theorem r_partN {Q : Option Int → Hp → Prop} {i : Int} (q : Q (some i) H) : PartN Q (.int i) H := ⟨i, rfl, q⟩
theorem r_noPart {Q : Option Int → Hp → Prop} (q : Q none H) : tNoPart σ H Q := q
def LRg (Q : VK) (a b : Int) (H1 : Hp) : Prop := RgOk a b ∧ ∀ q, H1 q = none → Q (.ref q) (upd H1 q (.lst (rgV a b)))
def R1N (Q : Int → Int → Hp → Prop) (x : V) (H1 : Hp) : Prop := ∃ n, x = .int n ∧ Q 0 n H1
theorem r_lstRg {t : L2.St → Hp → (Int → Int → Hp → Prop) → Prop} (h : t σ H (LRg Q)) : tLstRg t σ H Q := h
theorem r_tRg1 {Q : Int → Int → Hp → Prop} (h : ta σ H (R1N Q)) : tRg1 ta σ H Q := h
theorem r_r1N {Q : Int → Int → Hp → Prop} {n : Int} (q : Q 0 n H) : R1N Q (.int n) H := ⟨n, rfl, q⟩
theorem r_bmL {r : V → List V → Hp → VK → Prop} {ta : TA} {p : Addr} {xs : List V} (h : SqL K H p xs) (q : ta σ H fun xs H2 => r (.ref p) xs H2 Q) : Bm K "list" r ta σ Q (.ref p) H := ⟨.inl ⟨rfl, _, h⟩, q⟩
theorem r_ixL {p : Addr} {xs : List V} {i : Int} {v : V} (h : SqL K H p xs) (a : atI xs i = some v) (q : Q v H) : rIxL K (.ref p) (.int i) H Q := ⟨p, xs, i, v, rfl, rfl, h, a, q⟩
theorem r_ixT {p : Addr} {xs : List V} {i : Int} {v : V} (h : SqT K H p xs) (a : atI xs i = some v) (q : Q v H) : rIxT K (.ref p) (.int i) H Q := ⟨p, xs, i, v, rfl, rfl, h, a, q⟩
variable {nx bk ct : L2.St → Hp → Prop} {a b : TS}
theorem r_next (q : nx σ H) : tNext ⟨nx, Q, bk, ct⟩ σ H := q
theorem r_seq (h : a ⟨b ⟨nx, Q, bk, ct⟩, Q, bk, ct⟩ σ H) : tSeq a b ⟨nx, Q, bk, ct⟩ σ H := h
/-- a block's tail, once for all ways that lead to it -/
theorem r_seqW (W : L2.St → Hp → Prop) (tail : ∀ σ' H', W σ' H' → b ⟨nx, Q, bk, ct⟩ σ' H') (head : ∀ B : L2.St → Hp → Prop, (∀ σ' H', W σ' H' → B σ' H') → a ⟨B, Q, bk, ct⟩ σ H) : tSeq a b ⟨nx, Q, bk, ct⟩ σ H := head _ tail
theorem r_ret (h : te σ H Q) : tRet te ⟨nx, Q, bk, ct⟩ σ H := h
theorem r_drop (h : te σ H fun _ H1 => nx σ H1) : tDrop te ⟨nx, Q, bk, ct⟩ σ H := h
theorem r_ifS (h : t σ H fun c H1 => if c = true then a ⟨nx, Q, bk, ct⟩ σ H1 else b ⟨nx, Q, bk, ct⟩ σ H1) : tIfS t a b ⟨nx, Q, bk, ct⟩ σ H := h
theorem r_asg {g : TG} (h : te σ H fun x H1 => g x σ H1 nx) : tAsg te g ⟨nx, Q, bk, ct⟩ σ H := h
theorem r_name {i : Nat} {v : V} {σ' : L2.St} {q : L2.St → Hp → Prop} (e : σ.set i (some v) = σ') (h : q σ' H) : gName i v σ H q := by
  subst e
  exact h
theorem r_name0 {x0 : Option V} {σ : L2.St} {v : V} {q : L2.St → Hp → Prop} (h : q (some v :: σ) H) : gName 0 v (x0 :: σ) H q := h
theorem r_name1 {x0 x1 : Option V} {σ : L2.St} {v : V} {q : L2.St → Hp → Prop} (h : q (x0 :: some v :: σ) H) : gName 1 v (x0 :: x1 :: σ) H q := h
theorem r_name2 {x0 x1 x2 : Option V} {σ : L2.St} {v : V} {q : L2.St → Hp → Prop} (h : q (x0 :: x1 :: some v :: σ) H) : gName 2 v (x0 :: x1 :: x2 :: σ) H q := h
theorem r_name3 {x0 x1 x2 x3 : Option V} {σ : L2.St} {v : V} {q : L2.St → Hp → Prop} (h : q (x0 :: x1 :: x2 :: some v :: σ) H) : gName 3 v (x0 :: x1 :: x2 :: x3 :: σ) H q := h
theorem r_name4 {x0 x1 x2 x3 x4 : Option V} {σ : L2.St} {v : V} {q : L2.St → Hp → Prop} (h : q (x0 :: x1 :: x2 :: x3 :: some v :: σ) H) : gName 4 v (x0 :: x1 :: x2 :: x3 :: x4 :: σ) H q := h
theorem r_name5 {x0 x1 x2 x3 x4 x5 : Option V} {σ : L2.St} {v : V} {q : L2.St → Hp → Prop} (h : q (x0 :: x1 :: x2 :: x3 :: x4 :: some v :: σ) H) : gName 5 v (x0 :: x1 :: x2 :: x3 :: x4 :: x5 :: σ) H q := h
theorem r_name6 {x0 x1 x2 x3 x4 x5 x6 : Option V} {σ : L2.St} {v : V} {q : L2.St → Hp → Prop} (h : q (x0 :: x1 :: x2 :: x3 :: x4 :: x5 :: some v :: σ) H) : gName 6 v (x0 :: x1 :: x2 :: x3 :: x4 :: x5 :: x6 :: σ) H q := h
theorem r_name7 {x0 x1 x2 x3 x4 x5 x6 x7 : Option V} {σ : L2.St} {v : V} {q : L2.St → Hp → Prop} (h : q (x0 :: x1 :: x2 :: x3 :: x4 :: x5 :: x6 :: some v :: σ) H) : gName 7 v (x0 :: x1 :: x2 :: x3 :: x4 :: x5 :: x6 :: x7 :: σ) H q := h
theorem r_name8 {x0 x1 x2 x3 x4 x5 x6 x7 x8 : Option V} {σ : L2.St} {v : V} {q : L2.St → Hp → Prop} (h : q (x0 :: x1 :: x2 :: x3 :: x4 :: x5 :: x6 :: x7 :: some v :: σ) H) : gName 8 v (x0 :: x1 :: x2 :: x3 :: x4 :: x5 :: x6 :: x7 :: x8 :: σ) H q := h
theorem r_name9 {x0 x1 x2 x3 x4 x5 x6 x7 x8 x9 : Option V} {σ : L2.St} {v : V} {q : L2.St → Hp → Prop} (h : q (x0 :: x1 :: x2 :: x3 :: x4 :: x5 :: x6 :: x7 :: x8 :: some v :: σ) H) : gName 9 v (x0 :: x1 :: x2 :: x3 :: x4 :: x5 :: x6 :: x7 :: x8 :: x9 :: σ) H q := h
theorem r_name10 {x0 x1 x2 x3 x4 x5 x6 x7 x8 x9 x10 : Option V} {σ : L2.St} {v : V} {q : L2.St → Hp → Prop} (h : q (x0 :: x1 :: x2 :: x3 :: x4 :: x5 :: x6 :: x7 :: x8 :: x9 :: some v :: σ) H) : gName 10 v (x0 :: x1 :: x2 :: x3 :: x4 :: x5 :: x6 :: x7 :: x8 :: x9 :: x10 :: σ) H q := h
theorem r_name11 {x0 x1 x2 x3 x4 x5 x6 x7 x8 x9 x10 x11 : Option V} {σ : L2.St} {v : V} {q : L2.St → Hp → Prop} (h : q (x0 :: x1 :: x2 :: x3 :: x4 :: x5 :: x6 :: x7 :: x8 :: x9 :: x10 :: some v :: σ) H) : gName 11 v (x0 :: x1 :: x2 :: x3 :: x4 :: x5 :: x6 :: x7 :: x8 :: x9 :: x10 :: x11 :: σ) H q := h
theorem r_name12 {x0 x1 x2 x3 x4 x5 x6 x7 x8 x9 x10 x11 x12 : Option V} {σ : L2.St} {v : V} {q : L2.St → Hp → Prop} (h : q (x0 :: x1 :: x2 :: x3 :: x4 :: x5 :: x6 :: x7 :: x8 :: x9 :: x10 :: x11 :: some v :: σ) H) : gName 12 v (x0 :: x1 :: x2 :: x3 :: x4 :: x5 :: x6 :: x7 :: x8 :: x9 :: x10 :: x11 :: x12 :: σ) H q := h
theorem r_name13 {x0 x1 x2 x3 x4 x5 x6 x7 x8 x9 x10 x11 x12 x13 : Option V} {σ : L2.St} {v : V} {q : L2.St → Hp → Prop} (h : q (x0 :: x1 :: x2 :: x3 :: x4 :: x5 :: x6 :: x7 :: x8 :: x9 :: x10 :: x11 :: x12 :: some v :: σ) H) : gName 13 v (x0 :: x1 :: x2 :: x3 :: x4 :: x5 :: x6 :: x7 :: x8 :: x9 :: x10 :: x11 :: x12 :: x13 :: σ) H q := h
theorem r_sub {to ti : TE} {ts : TSet} {v : V} {q : L2.St → Hp → Prop} (h : to σ H fun o H1 => ti σ H1 fun i H2 => ts o i v H2 fun H3 => q σ H3) : gSub to ti ts v σ H q := h
theorem r_setL {p : Addr} {xs : List V} {k : Int} {j : Nat} {v : V} {q : Hp → Prop} (h : H p = some (.lst xs)) (e : ixN xs.length k = some j) (s : q (upd H p (.lst (xs.set j v)))) : rSetL (.ref p) (.int k) v H q := ⟨p, xs, k, j, rfl, rfl, h, e, s⟩
theorem r_set0 {p : Addr} {x0 : V} {xs : List V} {v : V} {q : Hp → Prop} (h : H p = some (.lst (x0 :: xs))) (s : q (upd H p (.lst (v :: xs)))) : rSetL (.ref p) (.int 0) v H q := ⟨p, _, 0, 0, rfl, rfl, h, by
  unfold ixN
  rw [if_pos (by decide), if_pos (by simp only [List.length_cons]; omega)]
  rfl, s⟩
theorem r_set0u {p : Addr} {x0 : V} {xs : List V} {v : V} {q : Hp → Prop} (s : q (upd H p (.lst (v :: xs)))) : rSetL (.ref p) (.int 0) v (upd H p (.lst (x0 :: xs))) q := r_set0 upd_same (by
  rw [upd_upd]
  exact s)
theorem r_set1 {p : Addr} {x0 x1 : V} {xs : List V} {v : V} {q : Hp → Prop} (h : H p = some (.lst (x0 :: x1 :: xs))) (s : q (upd H p (.lst (x0 :: v :: xs)))) : rSetL (.ref p) (.int 1) v H q := ⟨p, _, 1, 1, rfl, rfl, h, by
  unfold ixN
  rw [if_pos (by decide), if_pos (by simp only [List.length_cons]; omega)]
  rfl, s⟩
theorem r_set1u {p : Addr} {x0 x1 : V} {xs : List V} {v : V} {q : Hp → Prop} (s : q (upd H p (.lst (x0 :: v :: xs)))) : rSetL (.ref p) (.int 1) v (upd H p (.lst (x0 :: x1 :: xs))) q := r_set1 upd_same (by
  rw [upd_upd]
  exact s)
theorem r_set2 {p : Addr} {x0 x1 x2 : V} {xs : List V} {v : V} {q : Hp → Prop} (h : H p = some (.lst (x0 :: x1 :: x2 :: xs))) (s : q (upd H p (.lst (x0 :: x1 :: v :: xs)))) : rSetL (.ref p) (.int 2) v H q := ⟨p, _, 2, 2, rfl, rfl, h, by
  unfold ixN
  rw [if_pos (by decide), if_pos (by simp only [List.length_cons]; omega)]
  rfl, s⟩
theorem r_set2u {p : Addr} {x0 x1 x2 : V} {xs : List V} {v : V} {q : Hp → Prop} (s : q (upd H p (.lst (x0 :: x1 :: v :: xs)))) : rSetL (.ref p) (.int 2) v (upd H p (.lst (x0 :: x1 :: x2 :: xs))) q := r_set2 upd_same (by
  rw [upd_upd]
  exact s)
theorem r_set3 {p : Addr} {x0 x1 x2 x3 : V} {xs : List V} {v : V} {q : Hp → Prop} (h : H p = some (.lst (x0 :: x1 :: x2 :: x3 :: xs))) (s : q (upd H p (.lst (x0 :: x1 :: x2 :: v :: xs)))) : rSetL (.ref p) (.int 3) v H q := ⟨p, _, 3, 3, rfl, rfl, h, by
  unfold ixN
  rw [if_pos (by decide), if_pos (by simp only [List.length_cons]; omega)]
  rfl, s⟩
theorem r_set3u {p : Addr} {x0 x1 x2 x3 : V} {xs : List V} {v : V} {q : Hp → Prop} (s : q (upd H p (.lst (x0 :: x1 :: x2 :: v :: xs)))) : rSetL (.ref p) (.int 3) v (upd H p (.lst (x0 :: x1 :: x2 :: x3 :: xs))) q := r_set3 upd_same (by
  rw [upd_upd]
  exact s)
theorem r_set4 {p : Addr} {x0 x1 x2 x3 x4 : V} {xs : List V} {v : V} {q : Hp → Prop} (h : H p = some (.lst (x0 :: x1 :: x2 :: x3 :: x4 :: xs))) (s : q (upd H p (.lst (x0 :: x1 :: x2 :: x3 :: v :: xs)))) : rSetL (.ref p) (.int 4) v H q := ⟨p, _, 4, 4, rfl, rfl, h, by
  unfold ixN
  rw [if_pos (by decide), if_pos (by simp only [List.length_cons]; omega)]
  rfl, s⟩
theorem r_set4u {p : Addr} {x0 x1 x2 x3 x4 : V} {xs : List V} {v : V} {q : Hp → Prop} (s : q (upd H p (.lst (x0 :: x1 :: x2 :: x3 :: v :: xs)))) : rSetL (.ref p) (.int 4) v (upd H p (.lst (x0 :: x1 :: x2 :: x3 :: x4 :: xs))) q := r_set4 upd_same (by
  rw [upd_upd]
  exact s)
theorem r_gtup {n : Nat} {g : TGs} {p : Addr} {xs : List V} {q : L2.St → Hp → Prop} (h : SqT K H p xs) (l : xs.length = n) (s : g xs σ H q) : gTup K n g (.ref p) σ H q := ⟨p, xs, rfl, h, l, s⟩
theorem r_gcons {g : TG} {gs : TGs} {v : V} {r : List V} {q : L2.St → Hp → Prop} (h : g v σ H fun σ' H' => gs r σ' H' q) : gCons g gs (v :: r) σ H q := ⟨v, r, rfl, h⟩
theorem r_gnil {q : L2.St → Hp → Prop} (h : q σ H) : gNil [] σ H q := ⟨rfl, h⟩
/-- a test whose answer is open, or known -/
theorem r_ite {p : Prop} [Decidable p] {A B : Prop} (h1 : p → A) (h2 : ¬ p → B) : if decide p = true then A else B := by
  by_cases h : p
  · rw [decide_eq_true h, if_pos rfl]
    exact h1 h
  · rw [decide_eq_false h, if_neg Bool.false_ne_true]
    exact h2 h
theorem r_iteN {p : Prop} [Decidable p] {A B : Prop} (h1 : ¬ p → A) (h2 : p → B) : if (!decide p) = true then A else B := by
  by_cases h : p
  · rw [decide_eq_true h]
    exact iteF (h2 h)
  · rw [decide_eq_false h]
    exact iteT (h1 h)
theorem r_iteB {b : Bool} {A B : Prop} (h1 : b = true → A) (h2 : b = false → B) : if b = true then A else B := by
  cases b with
  | true => exact iteT (h1 rfl)
  | false => exact iteF (h2 rfl)
/-! loops: what is left once the iterated thing is there -/
def ForR (J : It) (g : TG) (tb : TS) (nx : L2.St → Hp → Prop) (Q : VK) (σ : L2.St) (H : Hp) : Prop := ∃ W : Nat → Nat → L2.St → Hp → Prop, (∃ m, W 0 m σ H) ∧ ∀ i m σ H, W i m σ H →
  (J.stop i H ∧ nx σ H) ∨ (J.go i H ∧ ∃ N : L2.St → Hp → Prop, (∀ σ' H', N σ' H' → ∃ m', m' < m ∧ W (i + 1) m' σ' H') ∧ ∀ x H', J.yld i H x H' → g x σ H' fun σ2 H2 => tb ⟨N, Q, nx, N⟩ σ2 H2)
theorem r_for {wi : TI} {g : TG} {tb : TS} (h : wi σ H fun J H1 => ForR J g tb nx Q σ H1) : tFor wi g tb ⟨nx, Q, bk, ct⟩ σ H := h
def Rg1 (R : It → Hp → Prop) (vs : List V) (H : Hp) : Prop := ∃ j : Int, vs = [.int j] ∧ -(2 ^ 62) ≤ j ∧ j < 2 ^ 62 ∧ R (Itr 0 j.toNat) H
def Rg2 (R : It → Hp → Prop) (vs : List V) (H : Hp) : Prop := ∃ i j : Int, vs = [.int i, .int j] ∧ (-(2 ^ 62) ≤ i ∧ i < 2 ^ 62 ∧ -(2 ^ 62) ≤ j ∧ j < 2 ^ 62) ∧ R (Itr i (j - i).toNat) H
theorem r_rng1 {ta : TA} {R : It → Hp → Prop} (h : ta σ H (Rg1 R)) : iRng1 ta σ H R := h
theorem r_rng2 {ta : TA} {R : It → Hp → Prop} (h : ta σ H (Rg2 R)) : iRng2 ta σ H R := h
theorem r_rg1 {j : Int} {R : It → Hp → Prop} (h1 : -4611686018427387904 ≤ j ∧ j < 4611686018427387904) (h : R (Itr 0 j.toNat) H) : Rg1 R [V.int j] H := ⟨j, rfl, h1.1, h1.2, h⟩
theorem r_rg2 {i j : Int} {R : It → Hp → Prop} (h1 : -4611686018427387904 ≤ i ∧ i < 4611686018427387904 ∧ -4611686018427387904 ≤ j ∧ j < 4611686018427387904) (h : R (Itr i (j - i).toNat) H) : Rg2 R [V.int i, V.int j] H := ⟨i, j, rfl, h1, h⟩
def Il (K : PySem.W.Frag) (R : It → Hp → Prop) (x : V) (H : Hp) : Prop := ∃ a, x = .ref a ∧ (∃ xs, SqL K H a xs) ∧ R (Itl K a) H
def Itp (K : PySem.W.Frag) (R : It → Hp → Prop) (x : V) (H : Hp) : Prop := ∃ a, x = .ref a ∧ (∃ xs, SqT K H a xs) ∧ R (Itt K a) H
theorem r_ilist {R : It → Hp → Prop} (h : te σ H (Il K R)) : iList K te σ H R := h
theorem r_itup {R : It → Hp → Prop} (h : te σ H (Itp K R)) : iTup K te σ H R := h
theorem r_il {a : Addr} {xs : List V} {R : It → Hp → Prop} (h : SqL K H a xs) (q : R (Itl K a) H) : Il K R (.ref a) H := ⟨a, rfl, ⟨xs, h⟩, q⟩
theorem r_it {a : Addr} {xs : List V} {R : It → Hp → Prop} (h : SqT K H a xs) (q : R (Itt K a) H) : Itp K R (.ref a) H := ⟨a, rfl, ⟨xs, h⟩, q⟩
theorem forR_range {lo : Int} {n : Nat} {g : TG} {tb : TS} (Pv : Nat → L2.St → Hp → Prop) (h0 : Pv 0 σ H)
    (hs : ∀ (i : Nat) σ H, i < n → Pv i σ H → g (.int (lo + i)) σ H fun σ2 H2 => tb ⟨Pv (i + 1), Q, nx, Pv (i + 1)⟩ σ2 H2) (hd : ∀ σ H, Pv n σ H → nx σ H) : ForR (Itr lo n) g tb nx Q σ H :=
  for_range (D := ⟨nx, Q, nx, nx⟩) Pv h0 hs hd
theorem forR_list {a : Addr} {xs : List V} {g : TG} {tb : TS} (Pv : Nat → L2.St → Hp → Prop) (h0 : Pv 0 σ H) (hl : ∀ i σ H, i ≤ xs.length → Pv i σ H → SqL K H a xs)
    (hs : ∀ (i : Nat) x σ H, xs[i]? = some x → Pv i σ H → g x σ H fun σ2 H2 => tb ⟨Pv (i + 1), Q, nx, Pv (i + 1)⟩ σ2 H2) (hd : ∀ σ H, Pv xs.length σ H → nx σ H) : ForR (Itl K a) g tb nx Q σ H :=
  for_list (D := ⟨nx, Q, nx, nx⟩) Pv h0 hl hs hd
theorem forR_tup {a : Addr} {xs : List V} {g : TG} {tb : TS} (Pv : Nat → L2.St → Hp → Prop) (h0 : Pv 0 σ H) (hl : ∀ i σ H, i ≤ xs.length → Pv i σ H → SqT K H a xs)
    (hs : ∀ (i : Nat) x σ H, xs[i]? = some x → Pv i σ H → g x σ H fun σ2 H2 => tb ⟨Pv (i + 1), Q, nx, Pv (i + 1)⟩ σ2 H2) (hd : ∀ σ H, Pv xs.length σ H → nx σ H) : ForR (Itt K a) g tb nx Q σ H :=
  for_tup (D := ⟨nx, Q, nx, nx⟩) Pv h0 hl hs hd
/-! comprehensions likewise -/
def LcR (J : It) (g : TG) (tt : TT) (te : TE) (vs : List Nat) (σ : L2.St) (D : Addr) (Q : VK) (H1 : Hp) : Prop := ∃ W : Nat → Nat → Hp → Prop, (∃ m, W 0 m (upd H1 D (.lst []))) ∧ ∀ i m H, W i m H →
  (J.stop i H ∧ Q (.ref D) H) ∨ (J.go i H ∧ ∃ Nx : Hp → Prop, (∀ H', Nx H' → ∃ m', m' < m ∧ W (i + 1) m' H') ∧ ∀ x H', J.yld i H x H' → g x (wipe σ vs) H' fun σ2 H2 => wipe σ2 vs = wipe σ vs ∧ tt σ2 H2 fun b H3 =>
    if b = true then te σ2 H3 fun y H4 => ∃ acc, H4 D = some (.lst acc) ∧ acc.length < sizeLine ∧ Nx (upd H4 D (.lst (acc ++ [y]))) else Nx H3)
theorem r_lc {wi : TI} {g : TG} {tt : TT} {vs : List Nat} (h : wi σ H fun J H1 => ∀ D, H1 D = none → LcR J g tt te vs σ D Q H1) : tLc wi g tt te vs σ H Q := h
/-- one turn's end of a comprehension: the item goes to D -/
def LcE (D : Addr) (N : Hp → Prop) (y : V) (H4 : Hp) : Prop := ∃ acc, H4 D = some (.lst acc) ∧ acc.length < sizeLine ∧ N (upd H4 D (.lst (acc ++ [y])))
theorem lcR_range {lo : Int} {n : Nat} {g : TG} {tt : TT} {vs : List Nat} {D : Addr} {σw : L2.St} (Pv : Nat → Hp → Prop) (ew : wipe σ vs = σw) (h0 : Pv 0 (upd H D (.lst [])))
    (hs : ∀ (i : Nat) H, i < n → Pv i H → g (.int (lo + i)) σw H fun σ2 H2 => wipe σ2 vs = σw ∧ tt σ2 H2 fun b H3 => if b = true then te σ2 H3 (LcE D (Pv (i + 1))) else Pv (i + 1) H3) (hd : ∀ H, Pv n H → Q (.ref D) H) :
    LcR (Itr lo n) g tt te vs σ D Q H := by
  subst ew
  exact lc_range (Qd := Q (.ref D)) Pv h0 hs hd
theorem lcR_list {a : Addr} {xs : List V} {g : TG} {tt : TT} {vs : List Nat} {D : Addr} {σw : L2.St} (Pv : Nat → Hp → Prop) (ew : wipe σ vs = σw) (h0 : Pv 0 (upd H D (.lst []))) (hl : ∀ i H, i ≤ xs.length → Pv i H → SqL K H a xs)
    (hs : ∀ (i : Nat) x H, xs[i]? = some x → Pv i H → g x σw H fun σ2 H2 => wipe σ2 vs = σw ∧ tt σ2 H2 fun b H3 => if b = true then te σ2 H3 (LcE D (Pv (i + 1))) else Pv (i + 1) H3) (hd : ∀ H, Pv xs.length H → Q (.ref D) H) :
    LcR (Itl K a) g tt te vs σ D Q H := by
  subst ew
  exact lc_list (Qd := Q (.ref D)) Pv h0 hl hs hd
theorem lcR_tup {a : Addr} {xs : List V} {g : TG} {tt : TT} {vs : List Nat} {D : Addr} {σw : L2.St} (Pv : Nat → Hp → Prop) (ew : wipe σ vs = σw) (h0 : Pv 0 (upd H D (.lst []))) (hl : ∀ i H, i ≤ xs.length → Pv i H → SqT K H a xs)
    (hs : ∀ (i : Nat) x H, xs[i]? = some x → Pv i H → g x σw H fun σ2 H2 => wipe σ2 vs = σw ∧ tt σ2 H2 fun b H3 => if b = true then te σ2 H3 (LcE D (Pv (i + 1))) else Pv (i + 1) H3) (hd : ∀ H, Pv xs.length H → Q (.ref D) H) :
    LcR (Itt K a) g tt te vs σ D Q H := by
  subst ew
  exact lc_tup (Qd := Q (.ref D)) Pv h0 hl hs hd
theorem r_yes {Q : Bool → Hp → Prop} (q : Q true H) : tYes σ H Q := q
theorem r_lce {D : Addr} {N : Hp → Prop} {y : V} {acc : List V} (h : H D = some (.lst acc)) (l : acc.length < sizeLine) (q : N (upd H D (.lst (acc ++ [y])))) : LcE D N y H := ⟨acc, h, l, q⟩
theorem r_int1 {i : Int} (q : Q (.int i) H) : rInt1 [.int i] H Q := .inl ⟨i, rfl, q⟩
theorem r_int1b {b : Bool} (q : Q (.int (if b then 1 else 0)) H) : rInt1 [.bl b] H Q := .inr ⟨b, rfl, q⟩
theorem r_min2 {i j : Int} (q : Q (.int (min i j)) H) : rMin2 [.int i, .int j] H Q := ⟨i, j, rfl, by
  rw [show (if j < i then j else i) = min i j by split <;> omega]
  exact q⟩
theorem r_max2 {i j : Int} (q : Q (.int (max i j)) H) : rMax2 [.int i, .int j] H Q := ⟨i, j, rfl, by
  rw [show (if j > i then j else i) = max i j by split <;> omega]
  exact q⟩
theorem r_lenL {p : Addr} {ys : List V} (h : SqL K H p ys) (q : Q (.int ys.length) H) : rLen K [.ref p] H Q := ⟨p, ys, rfl, .inl h, q⟩
theorem r_lenT {p : Addr} {ys : List V} (h : SqT K H p ys) (q : Q (.int ys.length) H) : rLen K [.ref p] H Q := ⟨p, ys, rfl, .inr h, q⟩
theorem r_listL {p : Addr} {ys : List V} (h : SqL K H p ys) (q : ∀ l, H l = none → Q (.ref l) (upd H l (.lst ys))) : rListOf K [.ref p] H Q := ⟨p, ys, rfl, .inl h, q⟩
theorem r_listT {p : Addr} {ys : List V} (h : SqT K H p ys) (q : ∀ l, H l = none → Q (.ref l) (upd H l (.lst ys))) : rListOf K [.ref p] H Q := ⟨p, ys, rfl, .inr h, q⟩
theorem r_tupL {p : Addr} {ys : List V} (h : SqL K H p ys) (q : ∀ l, H l = none → Q (.ref l) (upd H l (.tup ys))) : rTupOf K [.ref p] H Q := ⟨p, ys, rfl, .inl ⟨h, q⟩⟩
theorem r_tupT {p : Addr} {ys : List V} (h : SqT K H p ys) (q : Q (.ref p) H) : rTupOf K [.ref p] H Q := ⟨p, ys, rfl, .inr ⟨h, q⟩⟩
theorem r_at {N : List PySem.Str} {vs : List V} {t : TS} {D : Ends} (e : L2.start N vs = σ) (h : t D σ H) : t D (L2.start N vs) H := by
  rw [e]
  exact h
/-! methods of lists -/
theorem r_appU {l : Addr} {xs : List V} {y : V} (s : xs.length < sizeLine) (q : Q .non (upd H l (.lst (xs ++ [y])))) : rAppend (.ref l) [y] (upd H l (.lst xs)) Q := ⟨l, xs, y, rfl, rfl, upd_same, s, by
  rw [upd_upd]
  exact q⟩
theorem r_appT {l : Addr} {xs : List V} {y : V} (h : H l = some (.lst xs)) (s : xs.length < sizeLine) (q : Q .non (upd H l (.lst (xs ++ [y])))) : rAppend (.ref l) [y] H Q := ⟨l, xs, y, rfl, rfl, h, s, q⟩
end
theorem at_int {ns : List Int} {p : Int} (h0 : 0 ≤ p) (h1 : p < ns.length) : ∃ c ∈ ns, atI (ns.map V.int) p = some (.int c) := by
  have hlt : p.toNat < ns.length := by omega
  refine ⟨ns[p.toNat], List.getElem_mem hlt, at_of (j := p.toNat) (by omega) ?_⟩
  rw [List.getElem?_map, List.getElem?_eq_getElem hlt]
  rfl
/-- 0 .. n - 1 -/
def rgI (n : Int) : List Int := (List.range n.toNat).map fun (i : Nat) => (i : Int)
theorem rgI_len (n : Int) : (rgI n).length = n.toNat := by
  unfold rgI
  rw [List.length_map, List.length_range]
theorem mem_rgI {n z : Int} : z ∈ rgI n ↔ 0 ≤ z ∧ z < n := by
  unfold rgI
  rw [List.mem_map]
  constructor
  · rintro ⟨i, hi, rfl⟩
    rw [List.mem_range] at hi
    omega
  · rintro ⟨h1, h2⟩
    exact ⟨z.toNat, List.mem_range.mpr (by omega), by omega⟩
theorem rgI_nodup (n : Int) : (rgI n).Nodup := by
  unfold rgI
  exact List.pairwise_map.mpr (List.nodup_range.imp fun {i j} h e => h (by omega))
theorem rgV_rgI (n : Int) : rgV 0 n = (rgI n).map V.int := by
  unfold rgV rgI
  rw [List.map_map, Int.sub_zero]
  refine List.map_congr_left fun i _ => ?_
  show V.int (0 + (i : Int)) = V.int (i : Int)
  rw [Int.zero_add]
theorem r_lRg {H : Hp} {Q : VK} {n : Int} (h0 : 0 ≤ n) (h1 : n ≤ 10000) (q : ∀ p, H p = none → Q (.ref p) (upd H p (.lst ((rgI n).map V.int)))) : LRg Q 0 n H := ⟨.of_le (by omega) (by omega) (by omega) h0, fun p hp => by
  rw [rgV_rgI]
  exact q p hp⟩
theorem small_len {n : Nat} (h : n ≤ 100000) : n ≤ sizeLine := Nat.le_trans h (by decide)
theorem small_lt {n : Nat} (h : n < 100000) : n < sizeLine := Nat.lt_of_lt_of_le h (by decide)

set_option Elab.async false
set_option linter.all false
open PySem PySem.Spec PyProof.Rows L2
/-! ## the mathematics of pairs -/
def rowP (u lo : Int) (k : Nat) : List (Int × Int) := (List.range k).map fun (j : Nat) => (u, lo + (j : Int))
theorem rowP_succ (u lo : Int) (k : Nat) : rowP u lo (k + 1) = rowP u lo k ++ [(u, lo + (k : Int))] := by
  unfold rowP
  rw [List.range_succ, List.map_append]
  rfl
theorem mem_rowP {u lo : Int} {k : Nat} {p : Int × Int} : p ∈ rowP u lo k ↔ p.1 = u ∧ lo ≤ p.2 ∧ p.2 < lo + k := by
  unfold rowP
  rw [List.mem_map]
  constructor
  · rintro ⟨j, hj, rfl⟩
    rw [List.mem_range] at hj
    exact ⟨rfl, by show lo ≤ lo + (j : Int); omega, by show lo + (j : Int) < lo + k; omega⟩
  · obtain ⟨a, b⟩ := p
    rintro ⟨h1, h2, h3⟩
    refine ⟨(b - lo).toNat, List.mem_range.mpr (by simp only at h2 h3; omega), ?_⟩
    simp only at h1 h2 h3 ⊢
    rw [h1, show lo + ((b - lo).toNat : Int) = b by omega]
theorem rowP_asc (u lo : Int) : ∀ k, (rowP u lo k).Pairwise ltP
  | 0 => List.Pairwise.nil
  | k + 1 => by
    rw [rowP_succ]
    refine List.pairwise_append.mpr ⟨rowP_asc u lo k, List.pairwise_singleton _ _, fun p hp q hq => ?_⟩
    obtain ⟨h1, h2, h3⟩ := mem_rowP.mp hp
    rw [List.mem_singleton.mp hq]
    exact .inr ⟨h1, h3⟩
theorem rowP_len (u lo : Int) (k : Nat) : (rowP u lo k).length = k := by
  unfold rowP
  rw [List.length_map, List.length_range]
def preP (n : Nat) : Nat → List (Int × Int)
  | 0 => []
  | i + 1 => preP n i ++ rowP (i : Int) ((i : Int) + 1) (n - 1 - i)
def allP (n : Nat) : List (Int × Int) := preP n n
theorem mem_preP {n : Nat} {p : Int × Int} : ∀ {i : Nat}, i ≤ n → (p ∈ preP n i ↔ 0 ≤ p.1 ∧ p.1 < i ∧ p.1 < p.2 ∧ p.2 < n)
  | 0, _ => by
    constructor
    · intro h
      cases h
    · rintro ⟨h1, h2, _⟩
      have h2 : p.1 < 0 := h2
      omega
  | i + 1, hi => by
    show p ∈ preP n i ++ rowP (i : Int) ((i : Int) + 1) (n - 1 - i) ↔ _
    rw [List.mem_append, mem_preP (by omega : i ≤ n), mem_rowP]
    constructor
    · rintro (⟨h1, h2, h3, h4⟩ | ⟨h1, h2, h3⟩)
      · exact ⟨h1, by omega, h3, h4⟩
      · exact ⟨by omega, by omega, by omega, by omega⟩
    · rintro ⟨h1, h2, h3, h4⟩
      by_cases e : p.1 = (i : Int)
      · exact .inr ⟨e, by omega, by omega⟩
      · exact .inl ⟨h1, by omega, h3, h4⟩
theorem mem_allP {n : Nat} {p : Int × Int} : p ∈ allP n ↔ 0 ≤ p.1 ∧ p.1 < p.2 ∧ p.2 < n := by
  unfold allP
  rw [mem_preP (Nat.le_refl n)]
  omega
theorem preP_asc {n : Nat} : ∀ {i : Nat}, i ≤ n → (preP n i).Pairwise ltP
  | 0, _ => .nil
  | i + 1, hi => by
    show (preP n i ++ rowP (i : Int) ((i : Int) + 1) (n - 1 - i)).Pairwise ltP
    refine List.pairwise_append.mpr ⟨preP_asc (by omega), rowP_asc _ _ _, fun p hp q hq => ?_⟩
    have h1 := (mem_preP (by omega : i ≤ n)).mp hp
    have h2 := mem_rowP.mp hq
    exact .inl (by omega)
theorem allP_asc (n : Nat) : (allP n).Pairwise ltP := preP_asc (Nat.le_refl n)
theorem preP_len {n : Nat} : ∀ {i : Nat}, (preP n i).length ≤ i * n
  | 0 => Nat.zero_le _
  | i + 1 => by
    show (preP n i ++ rowP (i : Int) ((i : Int) + 1) (n - 1 - i)).length ≤ _
    rw [List.length_append, rowP_len, Nat.succ_mul]
    have := preP_len (n := n) (i := i)
    omega
theorem ltP_irrefl (p : Int × Int) : ¬ ltP p p := by
  unfold ltP
  omega
theorem ltP_trans {p q r : Int × Int} (h1 : ltP p q) (h2 : ltP q r) : ltP p r := by
  unfold ltP at *
  omega
theorem ltP_of_le_ne {p q : Int × Int} (h : leP p q) (n : p ≠ q) : ltP p q := by
  obtain ⟨a, b⟩ := p
  obtain ⟨c, d⟩ := q
  unfold leP at h
  unfold ltP
  simp only at *
  by_cases h2 : a = c
  · by_cases h3 : b = d
    · exact absurd (by rw [h2, h3]) n
    · omega
  · omega
theorem asc_nodup {ps : List (Int × Int)} (h : ps.Pairwise ltP) : ps.Nodup := by
  refine List.Pairwise.imp (R := ltP) (fun {p q} h => ?_) h
  intro e
  rw [e] at h
  exact ltP_irrefl q h
/-- two ascending lists of the same members are one -/
theorem asc_ext : ∀ {ps qs : List (Int × Int)}, ps.Pairwise ltP → qs.Pairwise ltP → (∀ p, p ∈ ps ↔ p ∈ qs) → ps = qs
  | [], [], _, _, _ => rfl
  | [], q :: qs, _, _, h => absurd ((h q).mpr List.mem_cons_self) (by simp)
  | p :: ps, [], _, _, h => absurd ((h p).mp List.mem_cons_self) (by simp)
  | p :: ps, q :: qs, h1, h2, h => by
    obtain ⟨a1, a2⟩ := List.pairwise_cons.mp h1
    obtain ⟨b1, b2⟩ := List.pairwise_cons.mp h2
    have e : p = q := by
      rcases List.mem_cons.mp ((h p).mp List.mem_cons_self) with e | e
      · exact e
      · rcases List.mem_cons.mp ((h q).mpr List.mem_cons_self) with e2 | e2
        · exact e2.symm
        · exact absurd (ltP_trans (a1 q e2) (b1 p e)) (ltP_irrefl p)
    subst e
    rw [asc_ext a2 b2 fun r => ?_]
    constructor
    · intro hr
      rcases List.mem_cons.mp ((h r).mp (List.mem_cons_of_mem _ hr)) with e | e
      · rw [e] at hr
        exact absurd (a1 p hr) (ltP_irrefl p)
      · exact e
    · intro hr
      rcases List.mem_cons.mp ((h r).mpr (List.mem_cons_of_mem _ hr)) with e | e
      · rw [e] at hr
        exact absurd (b1 p hr) (ltP_irrefl p)
      · exact e
theorem nodup_le {α : Type} [DecidableEq α] : ∀ (l m : List α), l.Nodup → (∀ x ∈ l, x ∈ m) → l.length ≤ m.length
  | [], _, _, _ => Nat.zero_le _
  | x :: l, m, hn, hs => by
    obtain ⟨h1, h2⟩ := List.nodup_cons.mp hn
    have hx : x ∈ m := hs x List.mem_cons_self
    have ih := nodup_le l (m.erase x) h2 fun y hy => by
      have hne : y ≠ x := by
        intro e
        rw [e] at hy
        exact h1 hy
      exact (List.mem_erase_of_ne hne).2 (hs y (List.mem_cons_of_mem _ hy))
    have e := List.length_erase_of_mem hx
    have p := List.length_pos_of_mem hx
    simp only [List.length_cons]
    omega
/-- what the walk over the sorted rows keeps: ascending, the same members, the same last one -/
structure Ded (qs fs : List (Int × Int)) : Prop where
  asc : fs.Pairwise ltP
  mem : ∀ p, p ∈ fs ↔ p ∈ qs
  last : fs.getLast? = qs.getLast?
theorem Ded.nil : Ded [] [] := ⟨.nil, fun _ => Iff.rfl, rfl⟩
theorem last_snoc {α : Type} (l : List α) (x : α) : (l ++ [x]).getLast? = some x := by simp
/-- the last row again -/
theorem Ded.same {qs fs : List (Int × Int)} {q : Int × Int} (D : Ded qs fs) (h : fs.getLast? = some q) : Ded (qs ++ [q]) fs := by
  refine ⟨D.asc, fun p => ?_, by rw [last_snoc, h]⟩
  rw [List.mem_append, List.mem_singleton, D.mem]
  constructor
  · exact .inl
  · rintro (z | z)
    · exact z
    · rw [z, ← D.mem]
      exact List.mem_of_getLast? h
/-- another one -/
theorem Ded.more {qs fs : List (Int × Int)} {q : Int × Int} (D : Ded qs fs) (hl : (qs ++ [q]).Pairwise leP) (h : fs.getLast? ≠ some q) : Ded (qs ++ [q]) (fs ++ [q]) := by
  refine ⟨?_, fun p => ?_, by rw [last_snoc, last_snoc]⟩
  · refine List.pairwise_append.mpr ⟨D.asc, List.pairwise_singleton _ _, fun p hp r hr => ?_⟩
    rw [List.mem_singleton.mp hr]
    obtain ⟨l1, _, l3⟩ := List.pairwise_append.mp hl
    have hle : ∀ z ∈ qs, leP z q := fun z hz => l3 z hz q (List.mem_singleton.mpr rfl)
    -- fs is not empty; its last one is not q
    obtain ⟨z, hz⟩ : ∃ z, fs.getLast? = some z := by
      cases e : fs.getLast? with
      | some z => exact ⟨z, rfl⟩
      | none =>
        rw [List.getLast?_eq_none_iff] at e
        rw [e] at hp
        cases hp
    have zq : ltP z q := ltP_of_le_ne (hle z ((D.mem z).mp (List.mem_of_getLast? hz))) fun e => h (by rw [hz, e])
    obtain ⟨pre, e⟩ : ∃ pre, fs = pre ++ [z] := by
      obtain ⟨hne, e⟩ := List.getLast?_eq_some_iff.mp hz
      exact ⟨_, e⟩
    rw [e] at hp
    rcases List.mem_append.mp hp with h1 | h1
    · have a := D.asc
      rw [e] at a
      exact ltP_trans ((List.pairwise_append.mp a).2.2 p h1 z (List.mem_singleton.mpr rfl)) zq
    · rw [List.mem_singleton.mp h1]
      exact zq
  · rw [List.mem_append, List.mem_append, D.mem]
theorem sz1 {a : V} : [a].length ≤ sizeLine := by show 1 ≤ sizeLine; decide
theorem sz2 {a b : V} : [a, b].length ≤ sizeLine := by show 2 ≤ sizeLine; decide
theorem sz3 {a b c : V} : [a, b, c].length ≤ sizeLine := by show 3 ≤ sizeLine; decide
theorem sz4 {a b c d : V} : [a, b, c, d].length ≤ sizeLine := by show 4 ≤ sizeLine; decide
theorem sz5 {a b c d e : V} : [a, b, c, d, e].length ≤ sizeLine := by show 5 ≤ sizeLine; decide
theorem at_last {zs : List V} {z : V} (h : zs.getLast? = some z) : atI zs (-1) = some z := by
  obtain ⟨pre, e⟩ := List.getLast?_eq_some_iff.mp h
  rw [e]
  exact atI_last _ _
theorem pd_last {α β : Type} {F : α → β → Prop} {xs : List α} {ps : List β} {p : β} (h : Paired F xs ps) (hp : ps.getLast? = some p) : ∃ x, xs.getLast? = some x ∧ F x p := by
  rw [List.getLast?_eq_getElem?] at hp
  obtain ⟨x, hx, f⟩ := pd_get2 h hp
  refine ⟨x, ?_, f⟩
  rw [List.getLast?_eq_getElem?, h.length]
  exact hx
section
variable {K : PySem.W.Frag} {H : Hp} {Q : VK}
theorem r_eqNil {f e : Addr} {xs : List V} {ps : List (Int × Int)} (h : H f = some (.lst xs)) (he : H e = some (.lst [])) (hp : Prs H xs ps) (q : Q (.bl (decide (ps = []))) H) : rEqD K (.ref f) (.ref e) H Q := by
  refine ⟨.list (ps.map prD2), .list [], .lst (.inl (.inl h)) hp.dps, .lst (.inl (.inl he)) .nil, prD2s_shL ps, prD2s_shL [], ?_⟩
  cases ps with
  | nil => exact q
  | cons p ps => exact q
theorem r_neP {x y : V} {p r : Int × Int} (hx : IsP H x p) (hy : IsP H y r) (q : Q (.bl (!decide (p = r))) H) : rNeD K x y H Q :=
  ⟨prD2 p, prD2 r, hx.dp, hy.dp, prD2_shaped p, prD2_shaped r, by rw [prD2_eqv]; exact q⟩
end
/-- a pair with its less end first -/
def nrm (p : Int × Int) : Int × Int := (min p.1 p.2, max p.1 p.2)
/-- a graph: the number of vertices, the ascending edges -/
structure GoodG (n : Int) (ps : List (Int × Int)) : Prop where
  one : 1 ≤ n
  asc : ps.Pairwise ltP
  inn : ∀ p ∈ ps, 0 ≤ p.1 ∧ p.1 < p.2 ∧ p.2 < n

set_option Elab.async false
set_option linter.all false
set_option maxRecDepth 100000
set_option maxHeartbeats 4000000
open PySem PySem.Spec PyProof.Rows L2
/-! # sets of tuples that a comprehension lays -/
section
variable {X : Cx}
/-- D takes the tuple y in -/
def AdT (K : PySem.W.Frag) (P : Program) (w : World) (D : Addr) (N : Hp → Prop) : V → Hp → Prop := fun y H => ∃ (b : Addr) (k : List Int) (L : List (Addr × List Int)), y = .ref b ∧ SqT K H b (k.map V.int) ∧ H D = some (SetTO P w D L) ∧
  (∀ p ∈ L, SqT K H p.1 (p.2.map V.int)) ∧ L.length + 1 < 64 ∧ ∀ L', (k ∈ L.map (·.2) → L' = L) → (k ∉ L.map (·.2) → L'.Perm ((b, k) :: L)) → N (upd H D (SetTO P w D L'))
theorem addT_ok {pins : List (Addr × Obj)} {σ : L2.St} {H : Hp} {s : Shared} {E : Value → Shared → Prop} {D : Addr} {N : Hp → Prop} {y : V} {u : Value} {Q : Value → Shared → Prop} (hu : X.A.units + 64 < cLine) (I : Inv X pins σ H s) (r : RelV y u)
    (h : AdT X.K X.prog X.w D N y H) (q : ∀ s' H', Inv X pins σ H' s' → N H' → Q .none s') : wpAny (model X.prog X.w) X.A (call (.builtin "set.add") [.ref D, u]) Q E s := by
  obtain ⟨b, k, L, rfl, hb, hD, hL, few, n⟩ := h
  cases r
  have R0 : SetT0 X.prog X.w s.heap D L := (I.hok D _ hD).1
  obtain ⟨es, ep, t, R⟩ := R0.full fun p hp => I.isT (hL p hp)
  have hx := I.isT hb
  have ty : s.TypeIs (.ref D) "set" := by
    obtain ⟨o, ho, hex, _⟩ := R.ob
    exact ⟨o, ho, hex.1⟩
  refine wpAny_call_entry F.slot_set_add ty F.entry_set_add ?_ (F.args_set_add_2 _ _)
  unfold Builtin.«set.add» Builtin.Frozenset.oneOther Builtin.Frozenset.addrOf setAdd
  simp only [List.isEmpty_nil, bind_assoc]
  refine (wpAny_bind (wpAny_pure ?_)); (try dsimp only)
  refine (wpAny_bind (wpAny_pure ?_)); (try dsimp only)
  refine (wpAny_bind ?_); refine (wpAny_holding ?_)
  refine (wpAny_bind (wpAny_pyHash_tuple (by rw [Around.in1_units]; omega) hx ?_))
  refine add_at (s := { s with toks := s.toks + (k.length + 1) }) R hx (by rw [Around.in1_units]; omega) few fun _ h' L' es' ep' t' sb R' same more => ?_
  show wpAny _ _ (ret Value.none) _ _ _
  have he : ∃ o, h'.get? D = some o := by
    obtain ⟨o, ho, _⟩ := R'.ob
    exact ⟨o, ho⟩
  exact wpAny_pure ⟨_, rfl, q _ _ (I.write (e := D) (t' := s.toks + (k.length + 1)) (by rw [hD]; trivial) (.inl rfl) (fun c o hc ho => (sb.2 c hc).trans ho) he (setTO_new R'.t0)) (n L' same more)⟩
/-- the set's own reading: what is met, turn by turn -/
def ScR (K : PySem.W.Frag) (P : Program) (w : World) (J : It) (g : TG) (tt : TT) (te : TE) (vs : List Nat) (σ : L2.St) (D : Addr) (Q : VK) (H1 : Hp) : Prop := ∃ W : Nat → Nat → Hp → Prop, (∃ m0, W 0 m0 (upd H1 D (SetTO P w D []))) ∧ ∀ i m H, W i m H →
  (J.stop i H ∧ Q (.ref D) H) ∨ (J.go i H ∧ ∃ Nx : Hp → Prop, (∀ H', Nx H' → ∃ m', m' < m ∧ W (i + 1) m' H') ∧ ∀ x H', J.yld i H x H' → g x (wipe σ vs) H' fun σ2 H2 => wipe σ2 vs = wipe σ vs ∧ tt σ2 H2 fun b H3 => if b = true then te σ2 H3 (AdT K P w D Nx) else Nx H3)
def tST (K : PySem.W.Frag) (P : Program) (w : World) (wi : TI) (g : TG) (tt : TT) (te : TE) (vs : List Nat) : TE := fun σ H Q => wi σ H fun J H1 => ∀ D, H1 D = none → ScR K P w J g tt te vs σ D Q H1
theorem freshT {H : Hp} {h : Heap} {D : Addr} {P : Program} {w : World} (e : h.objs.size = D) : ObjOk P w H (h.push { cls := .type "set", dict := none, data := .set #[] 0 (.fresh 0 0 (!w.params.followText "set-order")) }) D (SetTO P w D []) := by
  subst e
  exact setTO_new (setTR_fresh (Heap.get?_push_size _ rfl)).t0
variable {elt tg iter : Expr} {ifs : List Expr} {scope : Scope} {own : List (PySem.Str × Nat)} {pos : Pos} {wi : TI} {g : TG} {tt : TT} {te : TE}
theorem pe_setT (hu : X.A.units + 64 < cLine) (hc : X.calm = true) (hN : X.N.Nodup) (hi : PI X tg iter wi) (ok : BlkOk X.N X.env.scope scope own)
    (hg : ∀ (s0 : Shared) (H0 : Hp) (C0 : Addr) (l0 : List (PySem.Str × Addr)) (fp : List Addr), PG (X.blk s0 H0 scope (compEnvC scope l0 C0 X.env) fp) tg g)
    (ht : ∀ (s0 : Shared) (H0 : Hp) (C0 : Addr) (l0 : List (PySem.Str × Addr)) (fp : List Addr), PTs (X.blk s0 H0 scope (compEnvC scope l0 C0 X.env) fp) ifs tt)
    (he : ∀ (s0 : Shared) (H0 : Hp) (C0 : Addr) (l0 : List (PySem.Str × Addr)) (fp : List Addr), PE (X.blk s0 H0 scope (compEnvC scope l0 C0 X.env) fp) elt te)
    (hs : ∀ x, foldedSetIterable iter X.env x = pure x := by intro _; rfl) :
    PE X (.SetComp elt [⟨tg, iter, ifs, 0⟩] scope pos) (tST X.K X.prog X.w wi g tt te (own.map (·.2))) := by
  refine ⟨fun pins s σ H Q I h => ?_⟩
  rw [PpSet.eval_SetComp]
  have hfr : ∀ y ∈ scope.names, y.2 = .free → ∃ c, X.env.cells.lookup y.1 = some c := fun y hy e => (ok.free y hy e).elim (fun k => I.ok.has _ (.inl k)) (fun k => I.ok.has _ (.inr k))
  refine wpAny_comprehension_free (use := none) rfl hs (closure_ok hfr) ok.kind (fun y hy e => by rw [ok.uniq y hy, e]) (thn (hi.run pins s σ H _ I h) fun xv s1 hx => thn hx fun itv s2 h2 => ?_)
  obtain ⟨it, fp, tn, J, H2, e2, I2, T, st2, f2, q⟩ := h2
  subst e2
  refine PpSet.newSet_ok (newEnv_comp ?_)
  generalize hD : s2.heap.objs.size = D
  have dn : H2 D = none := I2.hok.fresh (Nat.le_of_eq hD)
  obtain ⟨W, ⟨m0, w0⟩, turn⟩ := q D dn
  let ob : Obj := { cls := .type "set", dict := none, data := .set #[] 0 (.fresh 0 0 (!X.w.params.followText "set-order")) }
  show codeAny _ _ _ _ ({ ({ s2 with heap := s2.heap.push ob } : Shared) with heap := _ } : Shared)
  generalize es3 : ({ s2 with heap := s2.heap.push ob } : Shared) = s3
  have hp3 : s3.heap = s2.heap.push ob := by rw [← es3]
  let H3 : Hp := upd H2 D (SetTO X.prog X.w D [])
  have J3 : Inv X pins σ H3 s3 := by
    rw [← es3]
    exact I2.laid (t' := s2.toks) (fun b o e => Heap.get?_push_of_some _ e) (Nat.le_of_eq hD) (freshT hD)
  have lt : ∀ b ∈ fp, b < s2.heap.objs.size := fun b hb => by
    obtain ⟨o, e, _⟩ := T.obj _ _ st2 b hb
    exact Heap.lt_size e
  have F3 : ∀ b ∈ fp, FpOk X pins H3 b ∧ b < s3.heap.objs.size := fun b hb => by
    have l1 := lt b hb
    refine ⟨⟨?_, (f2 b hb).2⟩, by rw [hp3, Heap.size_push]; exact Nat.lt_succ_of_lt l1⟩
    show upd H2 D _ b = none
    rw [upd_ne (Nat.ne_of_lt (hD ▸ l1))]
    exact (f2 b hb).1
  have st3 : tn 0 s3.heap := T.keep _ _ _ st2 fun b _ o e => by rw [hp3]; exact Heap.get?_push_of_some _ e
  have J4 := block_start J3 ok hN F3
  have pg := hg s3 H3 s3.heap.objs.size (cellsFrom (s3.heap.objs.size + 1) scope.names (cloFrom X.env.cells scope.names [])) fp
  have pt := ht s3 H3 s3.heap.objs.size (cellsFrom (s3.heap.objs.size + 1) scope.names (cloFrom X.env.cells scope.names [])) fp
  have pe := he s3 H3 s3.heap.objs.size (cellsFrom (s3.heap.objs.size + 1) scope.names (cloFrom X.env.cells scope.names [])) fp
  show codeAny _ _ (.compStart (.SetComp elt [⟨tg, iter, ifs, 0⟩] scope pos) 0 (.ref it) (.ref D) (compEnvC scope (cellsFrom (s3.heap.objs.size + 1) scope.names (cloFrom X.env.cells scope.names [])) s3.heap.objs.size X.env)) _ { s3 with heap := pushCells (s3.heap.push { cls := .type "dict", data := .dict #[] }) scope.names }
  generalize ece : compEnvC scope (cellsFrom (s3.heap.objs.size + 1) scope.names (cloFrom X.env.cells scope.names [])) s3.heap.objs.size X.env = ce at J4 pg pt pe ⊢
  have ceL : ce.locals = s3.heap.objs.size := by rw [← ece]; rfl
  generalize es4 : ({ s3 with heap := pushCells (s3.heap.push { cls := .type "dict", data := .dict #[] }) scope.names } : Shared) = s4 at J4 ⊢
  have st4 : tn 0 s4.heap := T.keep _ _ _ st3 fun b _ o e => by rw [← es4]; exact pushCells_keeps _ _ _ _ (Heap.get?_push_of_some _ e)
  let Y : Cx := X.blk s3 H3 scope ce fp
  have fpOf : ∀ {σ' : L2.St} {H' : Hp} {s' : Shared}, Inv Y [] σ' H' s' → (∀ b ∈ fp, H' b = none) → ∀ b ∈ fp, FpOk Y [] H' b := fun {σ' H' s'} I' hn b hb =>
    ⟨hn b hb, (I'.ok.exf b hb).1, I'.ok.exfs b hb, .inl hb, fun x c e => (I'.ok.exf b hb).2 x c e, fun p hp => absurd (show p ∈ ([] : List (Addr × Obj)) ++ [] from hp) (by simp)⟩
  refine (fun loop => PpSet.codeAny_compStart_set loop (T.self X.A 0 _ _ _ st4 loop)) ?_
  refine PpSet.compLoopS_any (fun n s' => ∃ i H', Inv Y [] (wipe σ (own.map (·.2))) H' s' ∧ tn i s'.heap ∧ (∀ b ∈ fp, H' b = none) ∧ W i n H') ?_ m0 ⟨0, H3, J4, st4, fun b hb => (F3 b hb).1.1, w0⟩
  rintro n s5 ⟨i, H5, J5, st5, n5, w5⟩
  rcases turn i n H5 w5 with ⟨stop, qq⟩ | ⟨go, Nx, hNx, step⟩
  · -- the end
    refine thnF (T.done Y rfl rfl rfl hc i [] s5 _ H5 (fun _ _ => False) J5 (fpOf J5 n5) st5 stop) fun r s6 ⟨hr, J6⟩ => ?_
    subst hr
    have J7 : Inv X pins σ H5 s6 := J3.call' (ch := fp) J6.os J6.base J6.hok J6.bare fun b hb => ⟨(F3 b hb).1.2.2.2.1, (F3 b hb).1.2.1, (F3 b hb).1.2.2.2.2.1, (F3 b hb).1.2.2.2.2.2⟩
    have nC : H5 s3.heap.objs.size = none := ceL ▸ (show H5 ce.locals = none from J6.free)
    obtain ⟨mm, hn, _⟩ := J6.loc
    refine ⟨mm, ceL ▸ (show s6.heap.Ns ce.locals mm from hn), fun h'' sb => ?_⟩
    obtain ⟨f0, f1, f2, f3, f4, f5⟩ := J3.fpOk (Nat.le_refl _) nC
    exact ⟨.ref D, H5, J7.turned (t' := s6.toks) (fun b o hb e => (sb.2 b hb).trans e) f0 f1 f3 f4 f5, rfl, qq⟩
  · -- a turn
    refine thnF (T.item Y rfl rfl rfl hc i [] s5 _ H5 (fun _ _ => False) J5 (fpOf J5 n5) st5 go) fun r s6 ⟨u, hr, h6⟩ => ?_
    subst hr
    refine thnF h6 fun _ s7 ⟨x, H7, J7, r7, y7, st7, n7⟩ => ?_
    have J8 := J7.pinned (fpOf J7 n7) (T.obj _ _ st7)
    refine thnF (pg.run _ s7 _ H7 x u _ J8 r7 (step x H7 y7)) fun _ s8 ⟨σ8, H8, J9, hw8, q8⟩ => ?_
    refine thnF (pt.run _ s8 σ8 H8 _ J9 q8) fun b s9 ⟨H9, Ja, q9⟩ => ?_
    have fin : ∀ (s' : Shared) (H' : Hp), Inv Y ([] ++ pinsAt fp s7.heap) σ8 H' s' → Nx H' → ∃ m, m < n ∧ ∃ i H', Inv Y [] (wipe σ (own.map (·.2))) H' s' ∧ tn i s'.heap ∧ (∀ b ∈ fp, H' b = none) ∧ W i m H' := fun s' H' Jz nx => by
      obtain ⟨m', hm, w'⟩ := hNx H' nx
      have pin : ∀ b ∈ fp, ∀ o, s7.heap.get? b = some o → s'.heap.get? b = some o ∧ H' b = none := fun b hb o e => by
        have z := Jz.pin (b, o) (List.mem_append_right _ (List.mem_append_right _ (mem_pinsAt hb e)))
        exact ⟨z.1, z.2.1⟩
      have hlen : (wipe σ (own.map (·.2))).length = σ8.length := by rw [← hw8, wipe_length]
      refine ⟨m', hm, i + 1, H', (Jz.unpinned (pins := [])).weak hlen (fun j v e => ?_), T.keep _ _ _ st7 fun b hb o e => (pin b hb o e).1, fun b hb => ?_, w'⟩
      · rw [← hw8] at e
        exact (wipe_some e).1
      · obtain ⟨o, e, _⟩ := T.obj _ _ st7 b hb
        exact (pin b hb o e).2
    cases b with
    | false =>
      simp only [Bool.false_eq_true, if_false] at q9 ⊢
      exact fin _ _ Ja q9
    | true =>
      simp only [if_true] at q9 ⊢
      refine thnF (pe.run _ s9 σ8 H9 _ Ja q9) fun z s10 ⟨yv, Hb, Jb, rb, ad⟩ => ?_
      exact addT_ok (X := Y) hu Jb rb ad fin
end
section
variable {X : Cx} {K : PySem.W.Frag} {P : Program} {w : World}
theorem PE.setK {e : Expr} {wi : TI} {g : TG} {tt : TT} {te : TE} {vs : List Nat} (h1 : X.K = K) (h2 : X.prog = P) (h3 : X.w = w) (p : PE X e (tST X.K X.prog X.w wi g tt te vs)) : PE X e (tST K P w wi g tt te vs) := h1 ▸ h2 ▸ h3 ▸ p
theorem cr_sortedTK (h1 : X.K = K) (h2 : X.prog = P) (h3 : X.w = w) (hc : X.calm = true) : CallR X (.builtin "sorted") (rSortedT K P w) := h1 ▸ h2 ▸ h3 ▸ cr_sortedT hc
variable {σ : L2.St} {H : Hp} {Q : VK}
theorem r_set {wi : TI} {g : TG} {tt : TT} {te : TE} {vs : List Nat} (h : wi σ H fun J H1 => ∀ D, H1 D = none → ScR K P w J g tt te vs σ D Q H1) : tST K P w wi g tt te vs σ H Q := h
theorem scR_list {a : Addr} {xs : List V} {g : TG} {tt : TT} {te : TE} {vs : List Nat} {D : Addr} {σw : L2.St} (Pv : Nat → Hp → Prop) (ew : wipe σ vs = σw) (h0 : Pv 0 (upd H D (SetTO P w D []))) (hl : ∀ i H, i ≤ xs.length → Pv i H → SqL K H a xs)
    (hs : ∀ (i : Nat) x H, xs[i]? = some x → Pv i H → g x σw H fun σ2 H2 => wipe σ2 vs = σw ∧ tt σ2 H2 fun b H3 => if b = true then te σ2 H3 (AdT K P w D (Pv (i + 1))) else Pv (i + 1) H3) (hd : ∀ H, Pv xs.length H → Q (.ref D) H) :
    ScR K P w (Itl K a) g tt te vs σ D Q H := by
  subst ew
  refine ⟨fun i m H => (m = xs.length - i ∧ i ≤ xs.length) ∧ Pv i H, ⟨_, ⟨rfl, Nat.zero_le _⟩, h0⟩, fun i m H ⟨⟨em, hi⟩, p⟩ => ?_⟩
  subst em
  have hq := hl i H hi p
  rcases Nat.lt_or_ge i xs.length with c | c
  · exact .inr ⟨⟨xs, xs[i], hq, List.getElem?_eq_getElem c⟩, Pv (i + 1), fun H' p' => ⟨_, by omega, ⟨rfl, c⟩, p'⟩, fun x H' ⟨e, y⟩ => e ▸ hs i x _ (y xs hq) p⟩
  · have e : i = xs.length := by omega
    exact .inl ⟨⟨xs, hq, c⟩, hd H (e ▸ p)⟩
theorem TK.setO {L : List (Addr × List Int)} {D a : Addr} {o : HO} (h : H D = some (SetTO P w a L)) : TK H (upd H D o) := fun b xs e => by
  rw [upd_ne (fun n => by rw [n, h] at e; cases e)]
  exact e
/-- the set of these pairs -/
def SetP (P : Program) (w : World) (H : Hp) (D : Addr) (qs : List (Int × Int)) : Prop := ∃ L, H D = some (SetTO P w D L) ∧ (∀ p ∈ L, H p.1 = some (.tup (p.2.map V.int))) ∧ (∀ k, k ∈ L.map (·.2) ↔ ∃ q ∈ qs, k = [q.1, q.2]) ∧ L.length ≤ qs.length
theorem setP_nil {D : Addr} : SetP P w (upd H D (SetTO P w D [])) D [] := ⟨[], upd_same, fun p h => (by cases h), fun k => by simp, Nat.le_refl _⟩
theorem SetP.tk {H' : Hp} {D : Addr} {qs : List (Int × Int)} (h : SetP P w H D qs) (k : TK H H') (e : H' D = H D) : SetP P w H' D qs := by
  obtain ⟨L, h1, h2, h3⟩ := h
  exact ⟨L, e.trans h1, fun p hp => k _ _ (h2 p hp), h3⟩
theorem SetP.add {D : Addr} {qs : List (Int × Int)} {y : V} {q : Int × Int} {N : Hp → Prop} (h : SetP P w H D qs) (hy : IsP H y q) (few : qs.length ≤ 62) (n : ∀ o, SetP P w (upd H D o) D (qs ++ [q]) → N (upd H D o)) : AdT K P w D N y H := by
  obtain ⟨L, h1, h2, h3, h4⟩ := h
  obtain ⟨t, rfl, ht⟩ := hy
  refine ⟨t, [q.1, q.2], L, rfl, .inl (.inl ht), h1, fun p hp => .inl (.inl (h2 p hp)), by omega, fun L' c1 c2 => n _ ⟨L', upd_same, ?_⟩⟩
  have tk : TK H (upd H D (SetTO P w D L')) := .setO h1
  by_cases c : [q.1, q.2] ∈ L.map (·.2)
  · rw [c1 c]
    refine ⟨fun p hp => ?_, fun k => ?_, by rw [List.length_append]; omega⟩
    · have := tk _ _ (h2 p hp)
      rw [c1 c] at this
      exact this
    · rw [h3]
      constructor
      · rintro ⟨r, hr, e⟩
        exact ⟨r, List.mem_append_left _ hr, e⟩
      · rintro ⟨r, hr, e⟩
        rcases List.mem_append.mp hr with z | z
        · exact ⟨r, z, e⟩
        · rw [List.mem_singleton.mp z] at e
          exact (h3 k).mp (e ▸ c)
  · have pm := c2 c
    refine ⟨fun p hp => ?_, fun k => ?_, ?_⟩
    · rcases List.mem_cons.mp (pm.mem_iff.mp hp) with z | z
      · rw [z]
        exact tk _ _ ht
      · exact tk _ _ (h2 p z)
    · rw [(pm.map (·.2)).mem_iff, List.map_cons, List.mem_cons, h3]
      constructor
      · rintro (e | ⟨r, hr, e⟩)
        · exact ⟨q, List.mem_append_right _ (List.mem_singleton.mpr rfl), e⟩
        · exact ⟨r, List.mem_append_left _ hr, e⟩
      · rintro ⟨r, hr, e⟩
        rcases List.mem_append.mp hr with z | z
        · exact .inr ⟨r, z, e⟩
        · rw [List.mem_singleton.mp z] at e
          exact .inl e
    · rw [pm.length_eq, List.length_cons, List.length_append]
      simp only [List.length_cons, List.length_nil]
      omega
/-- the pairs of a set, in their order -/
theorem r_sortT {D : Addr} {qs : List (Int × Int)} (h : SetP P w H D qs) (bd : ∀ q ∈ qs, 0 ≤ q.1 ∧ q.1 < 64 ∧ 0 ≤ q.2 ∧ q.2 < 64)
    (q : ∀ p xs ps, H p = none → Prs H xs ps → ps.Pairwise ltP → (∀ r, r ∈ ps ↔ r ∈ qs) → ps.length ≤ qs.length → Q (.ref p) (upd H p (.lst xs))) : rSortedT K P w [.ref D] H Q := by
  obtain ⟨L, h1, h2, h3, h4⟩ := h
  have two : ∀ p ∈ L, ∃ r ∈ qs, p.2 = [r.1, r.2] := fun p hp => (h3 p.2).mp (List.mem_map_of_mem hp)
  refine ⟨D, L, 2, 64, rfl, h1, fun p hp => .inl (.inl (h2 p hp)), by decide, fun p hp => ?_, fun L' p pm nd few asc hp => ?_⟩
  · obtain ⟨r, hr, e⟩ := two p hp
    obtain ⟨b1, b2, b3, b4⟩ := bd r hr
    rw [e]
    refine ⟨rfl, fun m hm => ?_⟩
    rcases List.mem_cons.mp hm with z | z
    · exact ⟨by omega, by omega⟩
    · have := List.mem_singleton.mp z
      exact ⟨by omega, by omega⟩
  · let pr : Addr × List Int → Int × Int := fun x => (x.2.getD 0 0, x.2.getD 1 0)
    have two' : ∀ x ∈ L', ∃ r ∈ qs, x.2 = [r.1, r.2] ∧ pr x = r := fun x hx => by
      obtain ⟨r, hr, e⟩ := two x (pm.mem_iff.mp hx)
      refine ⟨r, hr, e, ?_⟩
      show (x.2.getD 0 0, x.2.getD 1 0) = r
      rw [e]
      rfl
    refine q p _ (L'.map pr) hp ?_ ?_ (fun r => ?_) (by rw [List.length_map, pm.length_eq]; exact h4)
    · have : ∀ l : List (Addr × List Int), (∀ x ∈ l, x ∈ L') → Prs H (l.map fun q => V.ref q.1) (l.map pr) := by
        intro l
        induction l with
        | nil => exact fun _ => .nil
        | cons x l ih =>
          intro hl
          obtain ⟨r, hr, e, e2⟩ := two' x (hl x List.mem_cons_self)
          refine .cons ⟨x.1, rfl, ?_⟩ (ih fun z hz => hl z (List.mem_cons_of_mem _ hz))
          have e3 := h2 x (pm.mem_iff.mp (hl x List.mem_cons_self))
          rw [e3, e, e2]
          rfl
      exact this L' fun x hx => hx
    · rw [List.pairwise_map]
      have nd' := List.pairwise_map.mp nd
      refine List.Pairwise.imp_of_mem ?_ (List.pairwise_and_iff.mpr ⟨asc, nd'⟩)
      rintro x z hx hz ⟨c, ne⟩
      obtain ⟨r, hr, e, e2⟩ := two' x hx
      obtain ⟨t, ht, f, f2⟩ := two' z hz
      obtain ⟨b1, b2, b3, b4⟩ := bd r hr
      obtain ⟨c1, c2, c3, c4⟩ := bd t ht
      rw [e, f] at c
      have ne2 : ([r.1, r.2] : List Int) ≠ [t.1, t.2] := fun y => ne (by rw [e, f, y])
      rw [e2, f2]
      exact pair_lt c ne2 ⟨b1, b2⟩ ⟨b3, b4⟩ ⟨c1, c2⟩ ⟨c3, c4⟩
    · rw [List.mem_map]
      constructor
      · rintro ⟨x, hx, rfl⟩
        obtain ⟨t, ht, f, f2⟩ := two' x hx
        rw [f2]
        exact ht
      · intro hr
        obtain ⟨x, hx, e⟩ := List.mem_map.mp ((h3 [r.1, r.2]).mpr ⟨r, hr, rfl⟩)
        refine ⟨x, pm.mem_iff.mpr hx, ?_⟩
        show (x.2.getD 0 0, x.2.getD 1 0) = r
        rw [e]
        rfl
end
section
variable {P : Program} {w : World} {K : PySem.W.Frag} {mg : Str → Option Value} {base : Heap}
/-- a promise that nothing keeps to is kept -/
theorem fn_none {k : Nat} {f : Addr} {fd : FuncData} {ps : List PySem.Str} {CX : CXT} : FnOk P w K mg base CX k f fd ps (fun _ _ _ _ => False) := ⟨fun _ _ _ _ h => h.elim, fun _ _ _ _ _ _ _ _ _ _ _ _ _ h => h.elim⟩
theorem r_ixE {H : Hp} {Q : VK} {l : Addr} {xs : List V} {i : Int} {v : V} (h : SqL K H l xs ∨ SqT K H l xs) (e : atI xs i = some v) (q : Q v H) : rIxL K (.ref l) (.int i) H Q ∨ rIxT K (.ref l) (.int i) H Q := by
  rcases h with h | h
  · exact .inl (r_ixL h e q)
  · exact .inr (r_ixT h e q)
end

set_option Elab.async false
set_option linter.all false
set_option maxRecDepth 100000
set_option maxHeartbeats 4000000
open PySem PySem.Spec PyProof.Rows L2
/-- an own error's class -/
structure ExcD (K : PySem.W.Frag) (mg : Str → Option Value) (x : Str) where
  C : Addr
  g : mg x = some (.ref C)
  k : PySem.W.keepIn K (.ref C) = true
  q : PySem.W.excIn K C [.type "ValueError", .type "Exception", .type "BaseException", .type "object"] "ValueError.__new__" = true
  ex : PySem.W.subIn K (.ref C) (.type "BaseException") = some true
  ty : PySem.W.typeIn K (.ref C) = some (.type "type")
  me : PySem.W.subIn K (.ref C) (.ref C) = some true
  cc : ExcC K C
section
variable {K : PySem.W.Frag} {mg : Str → Option Value} {x : Str}
theorem ExcD.exm (D : ExcD K mg x) : PySem.W.exmOne K (.ref D.C) (.ref D.C) = some true := PySem.W.exm_ref D.ex D.cc.hd D.ty D.me
/-- isinstance(e, ..) of what was caught -/
def rIsEc (K : PySem.W.Frag) (D a : Addr) (cls : Value) (d : Option Addr) : List V → Hp → VK → Prop := fun xs H Q => cls = .ref D ∧ d = none ∧ rIsE K D a xs H Q
theorem call_isEc {X : Cx} {a D : Addr} {oe : Obj} {pn : List (Addr × Obj)} {cls : Value} {d : Option Addr} (hk : X.K = K) (C : ExcC K D) (hz : Zc cls d oe) (hf : ∃ vs, oe.data = .fields vs) : CallR (X.suite a ((a, oe) :: pn)) (.builtin "isinstance") (rIsEc K D a cls d) := by
  subst hk
  intro pins s σ H xs us Q I r h
  obtain ⟨rfl, rfl, h⟩ := h
  exact call_isE C hz hf pins s σ H xs us Q I r h
variable {σ : L2.St} {H : Hp} {Q : VK}
theorem r_isEc {D a : Addr} {cls : Value} {d : Option Addr} {c : V} {cv : Value} {b : Bool} (h1 : cls = .ref D) (h2 : d = none) (hc : ∀ u, RelV c u → u = cv) (hk : PySem.W.kitOne K (.ref D) cv = some b) (q : Q (.bl b) H) : rIsEc K D a cls d [.ref a, c] H Q := ⟨h1, h2, c, cv, b, rfl, hc, hk, q⟩
theorem rel_ref {a : Addr} : RelV (.ref a) (.ref a) := rfl
theorem rel_int {i : Int} {t : Tok} : RelV (.int i) (.int i t) := ⟨t, rfl⟩
/-! chains of comparisons -/
def ChN (r' : R2) (tc : TE) (σ : L2.St) (Q : VK) (y : V) : VK := fun z H3 => ∃ k, z = .bl k ∧ (if k = true then tc σ H3 fun w' H4 => r' y w' H4 Q else Q (.bl false) H3)
theorem r_chain {r r' : R2} {ta tb tc : TE} (h : ta σ H fun x H1 => tb σ H1 fun y H2 => r x y H2 (ChN r' tc σ Q y)) : tChain r r' ta tb tc σ H Q := h
theorem r_chn {r' : R2} {tc : TE} {y : V} {b : Bool} (h : if b = true then tc σ H fun w' H4 => r' y w' H4 Q else Q (.bl false) H) : ChN r' tc σ Q y (.bl b) H := ⟨b, rfl, h⟩
theorem r_callS {sp : Sp} {E : L2.St → XK} {t : TA} (h : t σ H fun vs H1 => sp vs H1 Q (E σ)) : tCallS sp E t σ H Q := h
def rInsN : V → List V → Hp → VK → Prop := fun x vs H Q => ∃ (l : Addr) (xs : List V) (i : Int) (y : V), x = .ref l ∧ vs = [.int i, y] ∧ H l = some (.lst xs) ∧ xs.length < sizeLine ∧ 0 ≤ i ∧ i < 2 ^ 63 ∧ Q .non (upd H l (.lst (xs.take i.toNat ++ [y] ++ xs.drop i.toNat)))
theorem mt_insertN {X : Cx} : MtR X "list.insert" rInsN := mt_insert
theorem r_insN {l : Addr} {xs : List V} {i : Int} {y : V} (h : H l = some (.lst xs)) (s : xs.length < 100000) (h0 : 0 ≤ i) (h1 : i < 1000000) (q : Q .non (upd H l (.lst (xs.take i.toNat ++ [y] ++ xs.drop i.toNat)))) : rInsN (.ref l) [.int i, y] H Q :=
  ⟨l, xs, i, y, rfl, rfl, h, small_lt s, h0, by omega, q⟩
end

set_option Elab.async false
set_option linter.all false
set_option maxRecDepth 100000
set_option maxHeartbeats 4000000
open PySem PySem.Spec PyProof.Rows L2
/-! # enumerate over a tuple -/
theorem enumNew1 {v : Value} {o : Obj} {F : Heap → Prop} (B : Begins v o F) : Meets (Builtin.«enumerate.__new__» ⟨[.type "enumerate", v], []⟩) (fun _ R s => F s.heap ∧
    R (.ok (.ret (.ref (s.heap.push o).objs.size))) { s with heap := (s.heap.push o).push { cls := .type "enumerate", data := .fields #[.none, .bool false, .ref s.heap.objs.size, rawInt 0, .none, .none] } }) :=
  .of_wp fun prog w A R s h => by
    obtain ⟨hp, gs, dr, tk, os⟩ := s
    obtain ⟨h1, h⟩ := h
    have hsub := sub_enumerate
    have q1 : ∀ {A' : Around} {E' : Value → Shared → Prop} {Q' : Value → Shared → Prop}, Q' (.ref hp.objs.size) ⟨hp.push o, gs, dr, tk, os⟩ → wpAny (model prog w) A' (pyIter v) Q' E' ⟨hp, gs, dr, tk, os⟩ := fun q => B.iter prog w _ _ ⟨hp, gs, dr, tk, os⟩ _ h1 q
    wp_walk using q1
    refine wpAny_stack_any fun st => wpAny_pure ?_
    split
    · rename_i c _ _ _ _ _
      cases (c == Value.type "enumerate") <;> (wp_walk using q1; exact ⟨_, rfl, h⟩)
    · wp_walk using q1
      exact ⟨_, rfl, h⟩
section
variable {prog : Program} {w : World} {A : Around} {E : Value → Shared → Prop} {s : Shared}
theorem callEnum1 {v : Value} {o : Obj} {Fh : Heap → Prop} {Q : Value → Shared → Prop} (B : Begins v o Fh) (h1 : Fh s.heap)
    (h : ∀ h', IsEnum h' (s.heap.objs.size + 1) s.heap.objs.size 0 .none → h'.get? s.heap.objs.size = some o → h'.objs.size = s.heap.objs.size + 2 → (∀ b x, s.heap.get? b = some x → h'.get? b = some x) → Q (.ref (s.heap.objs.size + 1)) { s with heap := h' }) :
    wpAny (model prog w) A (call (.type "enumerate") [v]) Q E s := by
  refine callType_new F.called_enumerate (by decide) (F.typeCall_enumerate_1 _) (F.newCall_enumerate_1 _) (fun ob => F.args_object_init_2 ob _) F.entry_enumerate_new (enumNew1 B) ⟨h1, ?_⟩
  have hz : (s.heap.push o).objs.size = s.heap.objs.size + 1 := Heap.size_push ..
  show _ ∧ _
  rw [hz]
  have he : IsEnum ((s.heap.push o).push { cls := .type "enumerate", data := .fields #[.none, .bool false, .ref s.heap.objs.size, rawInt 0, .none, .none] }) (s.heap.objs.size + 1) s.heap.objs.size 0 .none := by
    have z := Heap.get?_push_size (s.heap.push o) (o := { cls := .type "enumerate", data := .fields #[.none, .bool false, .ref s.heap.objs.size, rawInt 0, .none, .none] }) rfl
    rw [hz] at z
    exact z
  exact ⟨⟨_, he, rfl⟩, h _ he (Heap.get?_push_of_some _ (Heap.get?_push_size _ B.free)) (by rw [Heap.size_push, hz]) fun b x e => Heap.get?_push_of_some _ (Heap.get?_push_of_some _ e)⟩
theorem enumEndT {e it t : Addr} {i : Nat} {items : Array Value} {c : Int} {old : Value} {Q : Option Value → Shared → Prop} (hh : A.handled = none) (he : IsEnum s.heap e it c old) (hit : s.heap.IsTupleIter it t i) (ht : s.heap.IsTuple t items) (hx : items[i]? = none)
    (q : ∀ h', Heap.ExtBut it s.heap h' → Q none { s with heap := h' }) : wpAny (model prog w) A (pyNext (.ref e)) Q E s := by
  have ty : s.TypeIs (.ref e) "enumerate" := ⟨_, he, rfl⟩
  unfold pyNext
  refine wpAny_bind (wpAny_attempt (wpAny_callSpecial?_slot (name := Str.ofString "__next__") ty F.slot_enumerate_next (wpAny_call_entry F.slot_enumerate_next ty F.entry_enumerate_next ?_ (F.args_enumerate_next_1 _))))
  show wpAny _ _ (field (.ref e) 2 >>= _) _ _ _
  refine wpAny_bind (wpAny_field he rfl (x := .ref it) rfl (wpAny_bind (wpAny_nextOf_tuple_end hh hit ht hx fun h' x eb ⟨o, ho, hc⟩ => ?_)))
  exact wpAny_bind (wpAny_isInstance (T := "StopIteration") (b := true) ⟨o, ho, hc⟩ isSubtype_stop (wpAny_pure (q _ eb)))
end
/-- the tuple at a, its items in new pairs -/
def IteT (K : PySem.W.Frag) (a : Addr) : It :=
  ⟨fun i H => ∃ (xs : List V) (x : V), SqT K H a xs ∧ xs[i]? = some x, fun i H v H' => ∃ T x, v = .ref T ∧ H T = none ∧ H' = upd H T (.tup [.int (i : Nat), x]) ∧ ∀ xs, SqT K H a xs → xs[i]? = some x, fun i H => ∃ xs : List V, SqT K H a xs ∧ xs.length ≤ i⟩
theorem turnEnumT {P : Program} {w : World} {K : PySem.W.Frag} {elts : List Expr} {kk : Nat} {tpos : Pos} (a e it : Addr) (hat : a ≠ it) :
    Turn P w K (.Tuple elts kk tpos) (IteT K a) [e, it] e (fun i h => (∃ old, IsEnum h e it ((i : Nat) : Int) old) ∧ h.IsTupleIter it a i ∧ e ≠ it ∧ a ≠ e) where
  mem := by simp
  obj := fun i h st b hb => by
    obtain ⟨⟨old, he⟩, ⟨o, ho, hc, hd⟩, _⟩ := st
    rcases (show b = e ∨ b = it by simpa using hb) with z | z
    · subst z; exact ⟨_, he, fun v q => nomatch q⟩
    · subst z; exact ⟨o, ho, fun v q => by rw [hd] at q; cases q⟩
  keep := fun i h h' st k => by
    obtain ⟨⟨old, he⟩, hi, hne⟩ := st
    exact ⟨⟨old, k e (by simp) _ he⟩, hi.at fun o q => k it (by simp) o q, hne⟩
  item := by
    intro X hP hw hK hc i pins s σ H E I hf st hg
    subst hP hw hK
    obtain ⟨⟨old, he⟩, hit, hne, hae⟩ := st
    obtain ⟨xs, x, hq, hx⟩ := hg
    obtain ⟨its, rv, p, hz⟩ := I.tuple hq
    obtain ⟨u, hu, ru⟩ := rv.get hx
    have hel : e < s.heap.objs.size := Heap.lt_size he
    have hil : it < s.heap.objs.size := by obtain ⟨_, q, _⟩ := hit; exact Heap.lt_size q
    have hlt : i < its.toArray.size := by
      have := (List.getElem?_eq_some_iff.mp hu).1
      simpa using this
    refine wpAny_pyNext_enum_itemD (Draws.tuple (by exact I.ok.hd hc) it a hat its.toArray) he ⟨hit, p⟩ hlt hne (by simp [hne, Ne.symm hae]) fun y h' tk hy ho hst hT hsz hk => ?_
    have ey : y = u := by
      have z : its[i]? = some y := by simpa using hy
      exact Option.some.inj (z.symm.trans hu)
    subst ey
    refine ⟨_, rfl, wpAny_letOwnedTupleGo_enum (s := { s with heap := h', toks := tk + 1 }) ho fun h'' he' sb => ?_⟩
    have hT2 : h''.get? s.heap.objs.size = some { cls := .type "tuple", data := .seq #[.int i tk, y] } := (sb.2 _ (Nat.ne_of_gt hel)).trans hT
    have new : ObjOk X.prog X.w (upd H s.heap.objs.size (.tup [.int (i : Nat), x])) h'' s.heap.objs.size (.tup [.int (i : Nat), x]) := ⟨sz2, [.int i tk, y], .cons ⟨_, rfl⟩ (.cons ru .nil), ⟨_, hT2, rfl, _, rfl⟩⟩
    have I1 : Inv X pins σ (upd H s.heap.objs.size (.tup [.int (i : Nat), x])) { s with heap := h'', toks := tk + 1 } :=
      I.turnedNew (ch := [e, it]) (fun b ob hb q => (sb.2 b (fun z => hb (by simp [z]))).trans (hk b ob (fun z => hb (by simp [z])) (fun z => hb (by simp [z])) q)) hf (Nat.le_refl _) new
    refine ⟨.ref s.heap.objs.size, _, I1, rfl, ⟨_, x, rfl, I.hok.fresh (Nat.le_refl _), rfl, fun ys hy => by rw [I.tuple_inj hy hq]; exact hx⟩, ⟨⟨y, ?_⟩, hst.1.at fun o q => (sb.2 it (Ne.symm hne)).trans q, hne, hae⟩, fun b hb => ?_⟩
    · rw [show ((i + 1 : Nat) : Int) = (i : Int) + 1 by omega]
      exact he'
    · have hb' : b < s.heap.objs.size := by
        rcases (show b = e ∨ b = it by simpa using hb) with z | z
        · exact z ▸ hel
        · exact z ▸ hil
      rw [upd_ne (Nat.ne_of_lt hb')]
      exact (hf b hb).1
  done := by
    intro X hP hw hK hc i pins s σ H E I hf st hg
    subst hP hw hK
    obtain ⟨⟨old, he⟩, hit, hne, hae⟩ := st
    obtain ⟨xs, hq, hx⟩ := hg
    obtain ⟨its, rv, p, hz⟩ := I.tuple hq
    obtain ⟨f0, f1, f2, f3, f4, f5⟩ := hf it (by simp)
    have hl := rv.length
    exact enumEndT (I.ok.hd hc) he hit p (by simp; omega) fun h' eb => ⟨rfl, I.turned (t' := s.toks) (fun b o hb q => eb b o hb q) f0 f1 f3 f4 f5⟩
  self := fun A i s Q E st h => by
    obtain ⟨⟨_, he⟩, _⟩ := st
    exact wpAny_pyIter_enum he h
def iEnumT (K : PySem.W.Frag) (ta : TA) : TI := fun σ H R => ta σ H fun vs H1 => ∃ a xs, vs = [.ref a] ∧ SqT K H1 a xs ∧ R (IteT K a) H1
theorem pi_enumT {X : Cx} {e : Expr} {ta : TA} {p pos tpos : Pos} {elts : List Expr} {kk : Nat} (hg : Gl X "enumerate") (hm : X.mg "enumerate" = none) (ha : PA X [e] ta) (hs : starEach [e] X.env = [(false, eval e X.env)] := by rfl) :
    PI X (.Tuple elts kk tpos) (.Call (.Name "enumerate" p) [e] [] pos) (iEnumT X.K ta) := by
  refine ⟨fun pins s σ H R I h => Call_ (ld_blt I hg hm boot_enumerate (PyProof.Rows.callWith_type1 (thn (ha.run pos pins s σ H _ I h) fun us s1 ⟨vs, H1, I1, r1, a, xs, ex, hq, q⟩ => ?_) hs rfl))⟩
  subst ex
  cases r1 with
  | cons r rr =>
    cases rr
    cases r
    obtain ⟨its, rv, p', hz⟩ := I1.tuple hq
    have hlt : a < s1.heap.objs.size := by
      obtain ⟨o, ho, _⟩ := p'
      exact Heap.lt_size ho
    refine callEnum1 (begins_tuple a its.toArray) p' fun h' he hit hsz hk => wpAny_pyIter_enum he ?_
    have I2 : Inv X pins σ H1 { s1 with heap := h' } := I1.kept (t' := s1.toks) hk
    refine ⟨s1.heap.objs.size + 1, [s1.heap.objs.size + 1, s1.heap.objs.size], _, _, H1, rfl, I2, turnEnumT a (s1.heap.objs.size + 1) s1.heap.objs.size (Nat.ne_of_lt hlt), ⟨⟨.none, he⟩, ⟨_, hit, rfl, rfl⟩, Nat.succ_ne_self _, Nat.ne_of_lt (Nat.lt_succ_of_lt hlt)⟩, fun b hb => ?_, q⟩
    have hle : s1.heap.objs.size ≤ b := by
      rcases (show b = s1.heap.objs.size + 1 ∨ b = s1.heap.objs.size by simpa using hb) with z | z
      · rw [z]; exact Nat.le_add_right _ _
      · rw [z]; exact Nat.le_refl _
    exact I1.fpOk hle (I1.hok.fresh hle)
/-! # dicts whose keys are tuples, laid by a comprehension -/
section
variable {X : Cx}
def PutT (D : Addr) (N : Hp → Prop) (y z : V) (H : Hp) : Prop := ∃ (kvs : List (List L2.Key × V)) (k : List L2.Key) (b : Addr), y = .ref b ∧ H D = some (.dT kvs) ∧ H b = some (.tup (k.map kV)) ∧ kvs.length < sizeLine ∧ N (upd H D (.dT (putK kvs k z)))
theorem putT_ok {pins : List (Addr × Obj)} {σ : L2.St} {H : Hp} {s : Shared} {E : Value → Shared → Prop} {D : Addr} {N : Hp → Prop} {y z : V} {u r : Value} {Q : Unit → Shared → Prop} (hu : X.A.units + 64 < cLine) (I : Inv X pins σ H s) (ry : RelV y u) (rv : RelV z r)
    (g : PutT D N y z H) (q : ∀ s' H', Inv X pins σ H' s' → N H' → Q () s') : wpAny (model X.prog X.w) X.A (dictSet D u r) Q E s := by
  obtain ⟨kvs, k, b, rfl, hD, hb, few, n⟩ := g
  cases ry
  obtain ⟨zl, hd, xs, rel, dd⟩ := dt_of I.hok hD
  have e1 : xs.length ≤ sizeLine := by rw [← Paired.length rel]; exact zl
  have e2 : (putK kvs k z).length ≤ sizeLine := by have := length_putK kvs k z; omega
  refine wpAny_dictSet_heap (hsz := e1) (knd := tupleKind (mixKind X.prog X.w)) (show X.A.units < cLine by omega) (key_of I.hok hb) dd fun h' dd' hs => ?_
  obtain ⟨o, es, ep, ho, a2, a3, a4, _, a5⟩ := dd'
  refine q _ _ (d_write (ob := .dT (putK kvs k z)) I (by rw [hD]; exact True.intro) hs ⟨o, ho⟩ ⟨e2, hd, _, (rel.put k hb rv).keeps fun c ys ec => ?_, o, es, ep, ho, a2, a3, a4, a5⟩) n
  rw [upd_ne (ne_of ec hD (fun x => nomatch x))]
  exact ec
def DcR (J : It) (g : TG) (tt : TT) (tk tv : TE) (vs : List Nat) (σ : L2.St) (D : Addr) (Q : VK) (H1 : Hp) : Prop := ∃ W : Nat → Nat → Hp → Prop, (∃ m0, W 0 m0 (upd H1 D (.dT []))) ∧ ∀ i m H, W i m H →
  (J.stop i H ∧ Q (.ref D) H) ∨ (J.go i H ∧ ∃ Nx : Hp → Prop, (∀ H', Nx H' → ∃ m', m' < m ∧ W (i + 1) m' H') ∧ ∀ x H', J.yld i H x H' → g x (wipe σ vs) H' fun σ2 H2 => wipe σ2 vs = wipe σ vs ∧ tt σ2 H2 fun b H3 => if b = true then tk σ2 H3 fun y H4 => tv σ2 H4 (PutT D Nx y) else Nx H3)
def tDcT (wi : TI) (g : TG) (tt : TT) (tk tv : TE) (vs : List Nat) : TE := fun σ H Q => wi σ H fun J H1 => ∀ D, H1 D = none → DcR J g tt tk tv vs σ D Q H1
variable {kx vx tg iter : Expr} {ifs : List Expr} {scope : Scope} {own : List (PySem.Str × Nat)} {pos : Pos} {wi : TI} {g : TG} {tt : TT} {tk tv : TE}
theorem pe_dcT (hu : X.A.units + 64 < cLine) (hc : X.calm = true) (hN : X.N.Nodup) (hi : PI X tg iter wi) (ok : BlkOk X.N X.env.scope scope own)
    (hg : ∀ (s0 : Shared) (H0 : Hp) (C0 : Addr) (l0 : List (PySem.Str × Addr)) (fp : List Addr), PG (X.blk s0 H0 scope (compEnvC scope l0 C0 X.env) fp) tg g)
    (ht : ∀ (s0 : Shared) (H0 : Hp) (C0 : Addr) (l0 : List (PySem.Str × Addr)) (fp : List Addr), PTs (X.blk s0 H0 scope (compEnvC scope l0 C0 X.env) fp) ifs tt)
    (he : ∀ (s0 : Shared) (H0 : Hp) (C0 : Addr) (l0 : List (PySem.Str × Addr)) (fp : List Addr), PE (X.blk s0 H0 scope (compEnvC scope l0 C0 X.env) fp) kx tk)
    (hv : ∀ (s0 : Shared) (H0 : Hp) (C0 : Addr) (l0 : List (PySem.Str × Addr)) (fp : List Addr), PE (X.blk s0 H0 scope (compEnvC scope l0 C0 X.env) fp) vx tv)
    (hs : ∀ x, foldedSetIterable iter X.env x = pure x := by intro _; rfl) :
    PE X (.DictComp kx vx [⟨tg, iter, ifs, 0⟩] scope pos) (tDcT wi g tt tk tv (own.map (·.2))) := by
  refine ⟨fun pins s σ H Q I h => ?_⟩
  rw [arm_eval_DictComp]
  have hfr : ∀ y ∈ scope.names, y.2 = .free → ∃ c, X.env.cells.lookup y.1 = some c := fun y hy e => (ok.free y hy e).elim (fun k => I.ok.has _ (.inl k)) (fun k => I.ok.has _ (.inr k))
  refine wpAny_comprehension_free (use := none) rfl hs (closure_ok hfr) ok.kind (fun y hy e => by rw [ok.uniq y hy, e]) (thn (hi.run pins s σ H _ I h) fun xv s1 hx => thn hx fun itv s2 h2 => ?_)
  obtain ⟨it, fp, tn, J, H2, e2, I2, T, st2, f2, q⟩ := h2
  subst e2
  refine wpAny_newObj_type (newEnv_comp ?_)
  generalize hD : s2.heap.objs.size = D
  have dn : H2 D = none := I2.hok.fresh (Nat.le_of_eq hD)
  obtain ⟨W, ⟨m0, w0⟩, turn⟩ := q D dn
  let ob : Obj := { cls := .type "dict", data := .dict #[] }
  show codeAny _ _ _ _ ({ ({ s2 with heap := s2.heap.push ob } : Shared) with heap := _ } : Shared)
  generalize es3 : ({ s2 with heap := s2.heap.push ob } : Shared) = s3
  have hp3 : s3.heap = s2.heap.push ob := by rw [← es3]
  let H3 : Hp := upd H2 D (.dT [])
  have J3 : Inv X pins σ H3 s3 := by
    rw [← es3]
    exact I2.laid (t' := s2.toks) (fun b o e => Heap.get?_push_of_some _ e) (Nat.le_of_eq hD) (by rw [← hD]; exact dt_empty s2.heap I2.big)
  have lt : ∀ b ∈ fp, b < s2.heap.objs.size := fun b hb => by
    obtain ⟨o, e, _⟩ := T.obj _ _ st2 b hb
    exact Heap.lt_size e
  have F3 : ∀ b ∈ fp, FpOk X pins H3 b ∧ b < s3.heap.objs.size := fun b hb => by
    have l1 := lt b hb
    refine ⟨⟨?_, (f2 b hb).2⟩, by rw [hp3, Heap.size_push]; exact Nat.lt_succ_of_lt l1⟩
    show upd H2 D _ b = none
    rw [upd_ne (Nat.ne_of_lt (hD ▸ l1))]
    exact (f2 b hb).1
  have st3 : tn 0 s3.heap := T.keep _ _ _ st2 fun b _ o e => by rw [hp3]; exact Heap.get?_push_of_some _ e
  have J4 := block_start J3 ok hN F3
  have pg := hg s3 H3 s3.heap.objs.size (cellsFrom (s3.heap.objs.size + 1) scope.names (cloFrom X.env.cells scope.names [])) fp
  have pt := ht s3 H3 s3.heap.objs.size (cellsFrom (s3.heap.objs.size + 1) scope.names (cloFrom X.env.cells scope.names [])) fp
  have pk := he s3 H3 s3.heap.objs.size (cellsFrom (s3.heap.objs.size + 1) scope.names (cloFrom X.env.cells scope.names [])) fp
  have pe := hv s3 H3 s3.heap.objs.size (cellsFrom (s3.heap.objs.size + 1) scope.names (cloFrom X.env.cells scope.names [])) fp
  show codeAny _ _ (.compStart (.DictComp kx vx [⟨tg, iter, ifs, 0⟩] scope pos) 0 (.ref it) (.ref D) (compEnvC scope (cellsFrom (s3.heap.objs.size + 1) scope.names (cloFrom X.env.cells scope.names [])) s3.heap.objs.size X.env)) _ { s3 with heap := pushCells (s3.heap.push { cls := .type "dict", data := .dict #[] }) scope.names }
  generalize ece : compEnvC scope (cellsFrom (s3.heap.objs.size + 1) scope.names (cloFrom X.env.cells scope.names [])) s3.heap.objs.size X.env = ce at J4 pg pt pk pe ⊢
  have ceL : ce.locals = s3.heap.objs.size := by rw [← ece]; rfl
  generalize es4 : ({ s3 with heap := pushCells (s3.heap.push { cls := .type "dict", data := .dict #[] }) scope.names } : Shared) = s4 at J4 ⊢
  have st4 : tn 0 s4.heap := T.keep _ _ _ st3 fun b _ o e => by rw [← es4]; exact pushCells_keeps _ _ _ _ (Heap.get?_push_of_some _ e)
  let Y : Cx := X.blk s3 H3 scope ce fp
  have fpOf : ∀ {σ' : L2.St} {H' : Hp} {s' : Shared}, Inv Y [] σ' H' s' → (∀ b ∈ fp, H' b = none) → ∀ b ∈ fp, FpOk Y [] H' b := fun {σ' H' s'} I' hn b hb =>
    ⟨hn b hb, (I'.ok.exf b hb).1, I'.ok.exfs b hb, .inl hb, fun x c e => (I'.ok.exf b hb).2 x c e, fun p hp => absurd (show p ∈ ([] : List (Addr × Obj)) ++ [] from hp) (by simp)⟩
  refine (fun loop => codeAny_compStart_dict loop (T.self X.A 0 _ _ _ st4 loop)) ?_
  refine compLoop_anyD (fun n s' => ∃ i H', Inv Y [] (wipe σ (own.map (·.2))) H' s' ∧ tn i s'.heap ∧ (∀ b ∈ fp, H' b = none) ∧ W i n H') ?_ m0 ⟨0, H3, J4, st4, fun b hb => (F3 b hb).1.1, w0⟩
  rintro n s5 ⟨i, H5, J5, st5, n5, w5⟩
  rcases turn i n H5 w5 with ⟨stop, qq⟩ | ⟨go, Nx, hNx, step⟩
  · -- the end
    refine thnF (T.done Y rfl rfl rfl hc i [] s5 _ H5 (fun _ _ => False) J5 (fpOf J5 n5) st5 stop) fun r s6 ⟨hr, J6⟩ => ?_
    subst hr
    have J7 : Inv X pins σ H5 s6 := J3.call' (ch := fp) J6.os J6.base J6.hok J6.bare fun b hb => ⟨(F3 b hb).1.2.2.2.1, (F3 b hb).1.2.1, (F3 b hb).1.2.2.2.2.1, (F3 b hb).1.2.2.2.2.2⟩
    have nC : H5 s3.heap.objs.size = none := ceL ▸ (show H5 ce.locals = none from J6.free)
    obtain ⟨mm, hn, _⟩ := J6.loc
    refine ⟨mm, ceL ▸ (show s6.heap.Ns ce.locals mm from hn), fun h'' sb => ?_⟩
    obtain ⟨f0, f1, f2, f3, f4, f5⟩ := J3.fpOk (Nat.le_refl _) nC
    exact ⟨.ref D, H5, J7.turned (t' := s6.toks) (fun b o hb e => (sb.2 b hb).trans e) f0 f1 f3 f4 f5, rfl, qq⟩
  · -- a turn
    refine thnF (T.item Y rfl rfl rfl hc i [] s5 _ H5 (fun _ _ => False) J5 (fpOf J5 n5) st5 go) fun r s6 ⟨u, hr, h6⟩ => ?_
    subst hr
    refine thnF h6 fun _ s7 ⟨x, H7, J7, r7, y7, st7, n7⟩ => ?_
    have J8 := J7.pinned (fpOf J7 n7) (T.obj _ _ st7)
    refine thnF (pg.run _ s7 _ H7 x u _ J8 r7 (step x H7 y7)) fun _ s8 ⟨σ8, H8, J9, hw8, q8⟩ => ?_
    refine thnF (pt.run _ s8 σ8 H8 _ J9 q8) fun b s9 ⟨H9, Ja, q9⟩ => ?_
    have fin : ∀ (s' : Shared) (H' : Hp), Inv Y ([] ++ pinsAt fp s7.heap) σ8 H' s' → Nx H' → ∃ m, m < n ∧ ∃ i H', Inv Y [] (wipe σ (own.map (·.2))) H' s' ∧ tn i s'.heap ∧ (∀ b ∈ fp, H' b = none) ∧ W i m H' := fun s' H' Jz nx => by
      obtain ⟨m', hm, w'⟩ := hNx H' nx
      have pin : ∀ b ∈ fp, ∀ o, s7.heap.get? b = some o → s'.heap.get? b = some o ∧ H' b = none := fun b hb o e => by
        have z := Jz.pin (b, o) (List.mem_append_right _ (List.mem_append_right _ (mem_pinsAt hb e)))
        exact ⟨z.1, z.2.1⟩
      have hlen : (wipe σ (own.map (·.2))).length = σ8.length := by rw [← hw8, wipe_length]
      refine ⟨m', hm, i + 1, H', (Jz.unpinned (pins := [])).weak hlen (fun j v e => ?_), T.keep _ _ _ st7 fun b hb o e => (pin b hb o e).1, fun b hb => ?_, w'⟩
      · rw [← hw8] at e
        exact (wipe_some e).1
      · obtain ⟨o, e, _⟩ := T.obj _ _ st7 b hb
        exact (pin b hb o e).2
    cases b with
    | false =>
      simp only [Bool.false_eq_true, if_false] at q9 ⊢
      exact fin _ _ Ja q9
    | true =>
      simp only [if_true] at q9 ⊢
      refine thnF (pk.run _ s9 σ8 H9 _ Ja q9) fun z s10 ⟨yk, Hb, Jb, rb, qb⟩ => ?_
      refine thnF (pe.run _ s10 σ8 Hb _ Jb qb) fun z2 s11 ⟨yv, Hc, Jc, rc, ad⟩ => ?_
      exact putT_ok (X := Y) hu Jc rb rc ad fin
end

set_option Elab.async false
set_option linter.all false
set_option maxRecDepth 100000
set_option maxHeartbeats 4000000
open PySem PySem.Spec PyProof.Rows L2
section
variable {X : Cx} {K : PySem.W.Frag} {P : Program} {w : World} {σ : L2.St} {H : Hp} {Q : VK} {D : Addr}
theorem PI.enumTK {tg e : Expr} {ta : TA} (h : X.K = K) (p : PI X tg e (iEnumT X.K ta)) : PI X tg e (iEnumT K ta) := h ▸ p
def EnT (K : PySem.W.Frag) (R : It → Hp → Prop) : List V → Hp → Prop := fun vs H1 => ∃ a xs, vs = [.ref a] ∧ SqT K H1 a xs ∧ R (IteT K a) H1
theorem r_enumT {ta : TA} {R : It → Hp → Prop} (h : ta σ H (EnT K R)) : iEnumT K ta σ H R := h
theorem r_en {a : Addr} {xs : List V} {R : It → Hp → Prop} (h : SqT K H a xs) (q : R (IteT K a) H) : EnT K R [.ref a] H := ⟨a, xs, rfl, h, q⟩
/-! ## number dicts -/
def PutK (D : Addr) (N : Hp → Prop) (y z : V) (H : Hp) : Prop := ∃ (kvs : List (L2.Key × V)) (k : L2.Key), y = kV k ∧ H D = some (.dK kvs) ∧ kvs.length < sizeLine ∧ N (upd H D (.dK (putK kvs k z)))
theorem r_putK {N : Hp → Prop} {i : Int} {z : V} {kvs : List (L2.Key × V)} (h : H D = some (.dK kvs)) (s : kvs.length < 100000) (n : N (upd H D (.dK (putK kvs (.inl i) z)))) : PutK D N (.int i) z H := ⟨kvs, .inl i, rfl, h, small_lt s, n⟩
def KcR (J : It) (g : TG) (tt : TT) (tk tv : TE) (vs : List Nat) (σ : L2.St) (D : Addr) (Q : VK) (H1 : Hp) : Prop := ∃ W : Nat → Nat → Hp → Prop, (∃ m0, W 0 m0 (upd H1 D (.dK []))) ∧ ∀ i m H, W i m H →
  (J.stop i H ∧ Q (.ref D) H) ∨ (J.go i H ∧ ∃ Nx : Hp → Prop, (∀ H', Nx H' → ∃ m', m' < m ∧ W (i + 1) m' H') ∧ ∀ x H', J.yld i H x H' → g x (wipe σ vs) H' fun σ2 H2 => wipe σ2 vs = wipe σ vs ∧ tt σ2 H2 fun b H3 => if b = true then tk σ2 H3 fun y H4 => tv σ2 H4 (fun z H5 => PutK D Nx y z H5) else Nx H3)
theorem r_dcK {wi : TI} {g : TG} {tt : TT} {tk tv : TE} {vs : List Nat} (h : wi σ H fun J H1 => ∀ D, H1 D = none → KcR J g tt tk tv vs σ D Q H1) : tDc wi g tt tk tv vs σ H Q := h
theorem r_dcT {wi : TI} {g : TG} {tt : TT} {tk tv : TE} {vs : List Nat} (h : wi σ H fun J H1 => ∀ D, H1 D = none → DcR J g tt tk tv vs σ D Q H1) : tDcT wi g tt tk tv vs σ H Q := h
theorem kcR_enumT {a : Addr} {xs : List V} {g : TG} {tt : TT} {tk tv : TE} {vs : List Nat} {σw : L2.St} (Pv : Nat → Hp → Prop) (ew : wipe σ vs = σw) (h0 : Pv 0 (upd H D (.dK []))) (hl : ∀ i H, i ≤ xs.length → Pv i H → SqT K H a xs)
    (hs : ∀ (i : Nat) x H T, xs[i]? = some x → Pv i H → H T = none → g (.ref T) σw (upd H T (.tup [.int (i : Nat), x])) fun σ2 H2 => wipe σ2 vs = σw ∧ tt σ2 H2 fun b H3 => if b = true then tk σ2 H3 fun y H4 => tv σ2 H4 (fun z H5 => PutK D (Pv (i + 1)) y z H5) else Pv (i + 1) H3) (hd : ∀ H, Pv xs.length H → Q (.ref D) H) :
    KcR (IteT K a) g tt tk tv vs σ D Q H := by
  subst ew
  refine ⟨fun i m H => (m = xs.length - i ∧ i ≤ xs.length) ∧ Pv i H, ⟨_, ⟨rfl, Nat.zero_le _⟩, h0⟩, fun i m H ⟨⟨em, hi⟩, p⟩ => ?_⟩
  subst em
  have hq := hl i H hi p
  rcases Nat.lt_or_ge i xs.length with c | c
  · refine .inr ⟨⟨xs, xs[i], hq, List.getElem?_eq_getElem c⟩, Pv (i + 1), fun H' p' => ⟨_, by omega, ⟨rfl, c⟩, p'⟩, fun x H' ⟨T, y, e1, e2, e3, e4⟩ => ?_⟩
    subst e1 e3
    exact hs i y H T (e4 xs hq) p e2
  · have e : i = xs.length := by omega
    exact .inl ⟨⟨xs, hq, c⟩, hd H (e ▸ p)⟩
theorem dcR_tup {a : Addr} {xs : List V} {g : TG} {tt : TT} {tk tv : TE} {vs : List Nat} {σw : L2.St} (Pv : Nat → Hp → Prop) (ew : wipe σ vs = σw) (h0 : Pv 0 (upd H D (.dT []))) (hl : ∀ i H, i ≤ xs.length → Pv i H → SqT K H a xs)
    (hs : ∀ (i : Nat) x H, xs[i]? = some x → Pv i H → g x σw H fun σ2 H2 => wipe σ2 vs = σw ∧ tt σ2 H2 fun b H3 => if b = true then tk σ2 H3 fun y H4 => tv σ2 H4 (PutT D (Pv (i + 1)) y) else Pv (i + 1) H3) (hd : ∀ H, Pv xs.length H → Q (.ref D) H) :
    DcR (Itt K a) g tt tk tv vs σ D Q H := by
  subst ew
  refine ⟨fun i m H => (m = xs.length - i ∧ i ≤ xs.length) ∧ Pv i H, ⟨_, ⟨rfl, Nat.zero_le _⟩, h0⟩, fun i m H ⟨⟨em, hi⟩, p⟩ => ?_⟩
  subst em
  have hq := hl i H hi p
  rcases Nat.lt_or_ge i xs.length with c | c
  · exact .inr ⟨⟨xs, xs[i], hq, List.getElem?_eq_getElem c⟩, Pv (i + 1), fun H' p' => ⟨_, by omega, ⟨rfl, c⟩, p'⟩, fun x H' ⟨e, y⟩ => e ▸ hs i x _ (y xs hq) p⟩
  · have e : i = xs.length := by omega
    exact .inl ⟨⟨xs, hq, c⟩, hd H (e ▸ p)⟩
/-! ## two clauses -/
def LnR (J1 : It) (g1 : TG) (tt1 : TT) (te : TE) (vs1 : List Nat) (σ2 : L2.St) (D : Addr) (Nx : Hp → Prop) (H4 : Hp) : Prop := ∃ W1 : Nat → Nat → Hp → Prop, (∃ m1, W1 0 m1 H4) ∧ ∀ j k H, W1 j k H →
  (J1.stop j H ∧ Nx H) ∨ (J1.go j H ∧ ∃ Nx1 : Hp → Prop, (∀ H', Nx1 H' → ∃ k', k' < k ∧ W1 (j + 1) k' H') ∧ ∀ x H', J1.yld j H x H' → g1 x (wipe σ2 vs1) H' fun σ3 H5 => wipe σ3 vs1 = wipe σ2 vs1 ∧ tt1 σ3 H5 fun b H6 => if b = true then te σ3 H6 (LcE D Nx1) else Nx1 H6)
def Lc2R (J : It) (g : TG) (tt : TT) (wi1 : TI) (g1 : TG) (tt1 : TT) (te : TE) (vs vs1 : List Nat) (σ : L2.St) (D : Addr) (Q : VK) (H1 : Hp) : Prop := ∃ W : Nat → Nat → Hp → Prop, (∃ m0, W 0 m0 (upd H1 D (.lst []))) ∧ ∀ i m H, W i m H →
  (J.stop i H ∧ Q (.ref D) H) ∨ (J.go i H ∧ ∃ Nx : Hp → Prop, (∀ H', Nx H' → ∃ m', m' < m ∧ W (i + 1) m' H') ∧ ∀ x H', J.yld i H x H' → g x (wipe σ vs) H' fun σ2 H2 => wipe σ2 vs = wipe σ vs ∧ tt σ2 H2 fun b H3 => if b = true then wi1 σ2 H3 fun J1 H4 => LnR J1 g1 tt1 te vs1 σ2 D Nx H4 else Nx H3)
theorem r_lc2 {wi wi1 : TI} {g g1 : TG} {tt tt1 : TT} {te : TE} {vs vs1 : List Nat} (h : wi σ H fun J H1 => ∀ D, H1 D = none → Lc2R J g tt wi1 g1 tt1 te vs vs1 σ D Q H1) : tLc2 wi g tt wi1 g1 tt1 te vs vs1 σ H Q := h
theorem lnR_range {lo : Int} {n : Nat} {g1 : TG} {tt1 : TT} {te : TE} {vs1 : List Nat} {σ2 σw : L2.St} {Nx : Hp → Prop} (Pv : Nat → Hp → Prop) (ew : wipe σ2 vs1 = σw) (h0 : Pv 0 H)
    (hs : ∀ (i : Nat) H, i < n → Pv i H → g1 (.int (lo + i)) σw H fun σ3 H5 => wipe σ3 vs1 = σw ∧ tt1 σ3 H5 fun b H6 => if b = true then te σ3 H6 (LcE D (Pv (i + 1))) else Pv (i + 1) H6) (hd : ∀ H, Pv n H → Nx H) : LnR (Itr lo n) g1 tt1 te vs1 σ2 D Nx H := by
  subst ew
  refine ⟨fun i m H => (m = n - i ∧ i ≤ n) ∧ Pv i H, ⟨_, ⟨rfl, Nat.zero_le _⟩, h0⟩, fun i m H ⟨⟨em, hi⟩, p⟩ => ?_⟩
  subst em
  rcases Nat.lt_or_ge i n with c | c
  · refine .inr ⟨c, Pv (i + 1), fun H' p' => ⟨_, by omega, ⟨rfl, c⟩, p'⟩, fun x H' ⟨e1, e2⟩ => ?_⟩
    subst e1 e2
    exact hs i _ c p
  · have e : i = n := by omega
    exact .inl ⟨c, hd H (e ▸ p)⟩
theorem lc2R_range {lo : Int} {n : Nat} {wi1 : TI} {g g1 : TG} {tt tt1 : TT} {te : TE} {vs vs1 : List Nat} {σw : L2.St} (Pv : Nat → Hp → Prop) (ew : wipe σ vs = σw) (h0 : Pv 0 (upd H D (.lst [])))
    (hs : ∀ (i : Nat) H, i < n → Pv i H → g (.int (lo + i)) σw H fun σ2 H2 => wipe σ2 vs = σw ∧ tt σ2 H2 fun b H3 => if b = true then wi1 σ2 H3 fun J1 H4 => LnR J1 g1 tt1 te vs1 σ2 D (Pv (i + 1)) H4 else Pv (i + 1) H3) (hd : ∀ H, Pv n H → Q (.ref D) H) : Lc2R (Itr lo n) g tt wi1 g1 tt1 te vs vs1 σ D Q H := by
  subst ew
  refine ⟨fun i m H => (m = n - i ∧ i ≤ n) ∧ Pv i H, ⟨_, ⟨rfl, Nat.zero_le _⟩, h0⟩, fun i m H ⟨⟨em, hi⟩, p⟩ => ?_⟩
  subst em
  rcases Nat.lt_or_ge i n with c | c
  · refine .inr ⟨c, Pv (i + 1), fun H' p' => ⟨_, by omega, ⟨rfl, c⟩, p'⟩, fun x H' ⟨e1, e2⟩ => ?_⟩
    subst e1 e2
    exact hs i _ c p
  · have e : i = n := by omega
    exact .inl ⟨c, hd H (e ▸ p)⟩
/-! ## what dicts hold -/
def DgN (Q : VK) (x : V) : VK := fun y H2 => ∃ a v, x = .ref a ∧ DGet H2 a y (some v) ∧ Q v H2
theorem r_dget {td ty : TE} (h : td σ H fun x H1 => ty σ H1 (DgN Q x)) : tDGet td ty σ H Q := h
theorem r_dgK {a : Addr} {kvs : List (L2.Key × V)} {i : Int} {v : V} (h : H a = some (.dK kvs)) (e : valV kvs (.inl i) = some v) (q : Q v H) : DgN Q (.ref a) (.int i) H := ⟨a, v, rfl, e ▸ DGet.k (k := .inl i) h, q⟩
def DnN (Q : VK) (y : V) : VK := fun x H2 => ∃ a o, x = .ref a ∧ DGet H2 a y o ∧ Q (.bl (!o.isSome)) H2
theorem r_dnot {td ty : TE} (h : ty σ H fun y H1 => td σ H1 (DnN Q y)) : tDNotIn ty td σ H Q := h
theorem r_dnT {a b : Addr} {kvs : List (List L2.Key × V)} {k : List L2.Key} (h : H a = some (.dT kvs)) (hb : H b = some (.tup (k.map kV))) (q : Q (.bl (!(valV kvs k).isSome)) H) : DnN Q (.ref b) (.ref a) H := ⟨a, _, rfl, .t h hb, q⟩
theorem op_catAK (h : X.K = K) : OpR X (binaryOp .Add) (rCatA K) := h ▸ op_catA
theorem r_catA {l b : Addr} {xs zs : List V} (h1 : H l = some (.tup xs)) (h2 : H b = some (.tup zs)) (hz : xs.length + zs.length ≤ 100000) (q : ∀ p H', Same H H' → H' p = some (.tup (xs ++ zs)) → Q (.ref p) H') : rCatA K (.ref l) (.ref b) H Q := by
  refine ⟨l, b, xs, zs, rfl, rfl, .inl (.inl h1), .inl (.inl h2), small_len hz, fun e => ?_, fun e1 e2 => ?_, fun e1 e2 p hp => q p _ (same_new hp) upd_same⟩
  · subst e
    exact q b H (fun _ _ h => h) h2
  · subst e2
    refine q l H (fun _ _ h => h) ?_
    rw [List.append_nil]
    exact h1
end

set_option Elab.async false
set_option linter.all false
set_option maxRecDepth 100000
set_option maxHeartbeats 4000000
open PySem PySem.Spec PyProof.Rows L2
/-! # match on tuples: a word, then names -/
/-- each pattern of these is a bare name -/
inductive Caps : List Pattern → List PySem.Str → Prop where
  | nil : Caps [] []
  | cons {ps : List Pattern} {ns : List PySem.Str} (n : PySem.Str) (p : Pos) (r : Caps ps ns) : Caps (.MatchAs none (some n) p :: ps) (n :: ns)
section
variable {M : Model} {A : Around} {E : Value → Shared → Prop} {env : Env}
theorem caps_each {ps : List Pattern} {ns : List PySem.Str} (c : Caps ps ns) : ∀ {us : List Value} {s : Shared} {Q : Option (List (PySem.Str × Value)) → Shared → Prop}, us.length = ns.length → Q (some (ns.zip us)) s → wpAny M A (matchEach ps env us) Q E s := by
  induction c with
  | nil =>
    intro us s Q hl h
    have e : us = [] := List.length_eq_zero_iff.mp hl
    subst e
    exact wpAny_matchEach_nil h
  | @cons ps ns n p r ih =>
    intro us s Q hl h
    cases us with
    | nil => cases hl
    | cons u us =>
      refine wpAny_matchEach_cons (wpAny_matchPattern_Capture ?_)
      exact ih (by simpa using hl) h
theorem Caps.len {ps : List Pattern} {ns : List PySem.Str} (c : Caps ps ns) : ps.length = ns.length := by
  induction c with
  | nil => rfl
  | cons n p r ih => simp [ih]
theorem zip_names (f : PySem.Str → Value → Sem Unit) : ∀ (ns : List PySem.Str) (us : List Value), us.length = ns.length → ((ns.zip us).map fun (n, _) => f n) = ns.map f ∧ (ns.zip us).map (·.2) = us
  | [], [], _ => ⟨rfl, rfl⟩
  | [], _ :: _, h => by cases h
  | _ :: _, [], h => by cases h
  | n :: ns, u :: us, h => by
    obtain ⟨h1, h2⟩ := zip_names f ns us (by simpa using h)
    simp only [List.zip_cons_cons, List.map_cons]
    exact ⟨by rw [h1], by rw [h2]⟩
end
section
variable {X : Cx}
/-- names that are bound, one after another -/
structure PBn (X : Cx) (ns : List PySem.Str) (t : TGs) : Prop where
  run : ∀ (pins : List (Addr × Obj)) (s : Shared) (σ : L2.St) (H : Hp) (vs : List V) (us : List Value) (Q : L2.St → Hp → Prop), Inv X pins σ H s → Vals vs us → t vs σ H Q → wpAny (model X.prog X.w) X.A (assignInOrder (ns.map (bindName X.env)) us) (fun _ s' => ∃ σ' H', Inv X pins σ' H' s' ∧ Q σ' H') X.xe s
theorem bn_nil : PBn X [] gNil := ⟨fun pins s σ H vs us Q I r h => by
  obtain ⟨e, h⟩ := h
  subst e
  cases r
  exact assignInOrder_nil ⟨σ, H, I, h⟩⟩
theorem bn_cons {i : Nat} {x : PySem.Str} {ns : List PySem.Str} {u : TGs} (hN : X.N.Nodup) (hi : X.N[i]? = some x) (hx : Loc X.env.scope x) (h2 : PBn X ns u) (hf : X.fn x = true ∨ X.env.scope.names.lookup x = some .local := by first | exact .inl rfl | exact .inr rfl) : PBn X (x :: ns) (gCons (gName i) u) := ⟨fun pins s σ H vs us Q I r h => by
  obtain ⟨v, vr, e, h⟩ := h
  subst e
  cases r with
  | @cons _ u0 _ us0 r0 rs =>
    have st : wpAny (model X.prog X.w) X.A (bindName X.env x u0) (fun _ s' => ∃ σ' H', Inv X pins σ' H' s' ∧ u vr σ' H' Q) X.xe s := wpAny_bindName (store_ok I hN hi hx r0 (fun s' I' => ⟨_, H, I', h⟩) hf)
    exact wpAny_assignInOrder_more (thn st fun _ s1 ⟨σ1, H1, I1, q1⟩ => h2.run pins s1 σ1 H1 _ _ Q I1 rs q1)⟩
/-- the cases of a match, behind the subject -/
structure PMc (X : Cx) (cs : List MatchCase) (t : V → TS) : Prop where
  run : ∀ (pins : List (Addr × Obj)) (s : Shared) (σ : L2.St) (H : Hp) (D : Ends) (v : V) (u : Value) (first : Bool), Inv X pins σ H s → RelV v u → t v D σ H → wpAny (model X.prog X.w) X.A (matchCases cs X.env u first) (SP X pins D) X.xe s
theorem pm_nil : PMc X [] (fun _ D σ H => D.nx σ H) := ⟨fun pins s σ H D v u first I r h => wpAny_matchCases_nil ⟨σ, H, I, h⟩⟩
def tMatch (te : TE) (t : V → TS) : TS := fun D σ H => te σ H fun v H1 => t v D σ H1
theorem ps_match {e : Expr} {cs : List MatchCase} {pos : Pos} {te : TE} {t : V → TS} (he : PE X e te) (hc : PMc X cs t) : PS X (.Match e cs pos) (tMatch te t) :=
  ⟨fun pins s σ H D I h => wpAny_Match (thn (he.run pins s σ H _ I h) fun u s1 ⟨v, H1, I1, r, q⟩ => hc.run pins s1 σ H1 D v u true I1 r q)⟩
/-- case [z, n1, ..] -/
def tWord (K : PySem.W.Frag) (z : PySem.Str) (n : Nat) (g : TGs) (tb : TS) (rest : V → TS) : V → TS := fun v D σ H => ∃ (a : Addr) (y : PySem.Str) (xs : List V), v = .ref a ∧ SqT K H a (.str y :: xs) ∧ (xs.length ≠ n → rest v D σ H) ∧
  (xs.length = n → (y = z → g xs σ H fun σ' H' => tb D σ' H') ∧ (y ≠ z → rest v D σ H))
theorem pm_word {z : PySem.Str} {j : Nat} {p1 p2 p3 : Pos} {ps : List Pattern} {ns : List PySem.Str} {body : List Stmt} {cs : List MatchCase} {g : TGs} {tb : TS} {rest : V → TS} (hc : X.calm = true) (c : Caps ps ns) (hg : PBn X ns g) (hb : PSs X body tb) (hr : PMc X cs rest)
    (hs : (Pattern.MatchValue (.Constant (.str z) j p1) p2 :: ps).findIdx? (·.isStar) = none := by rfl)
    (hw : ((Pattern.MatchValue (.Constant (.str z) j p1) p2 :: ps).all fun p => p.isWildcard || (p.isStar && p.names.isEmpty)) = false := by rfl) :
    PMc X (⟨.MatchSequence (.MatchValue (.Constant (.str z) j p1) p2 :: ps) p3, none, body⟩ :: cs) (tWord X.K z ns.length g tb rest) := by
  refine ⟨fun pins s σ H D v u first I r h => ?_⟩
  obtain ⟨a, y, xs, rfl, hq, other, here⟩ := h
  cases r
  obtain ⟨its, rv, p, hz⟩ := I.tuple hq
  obtain ⟨u0, us, rfl, r0, rs⟩ : ∃ u0 us, its = u0 :: us ∧ RelV (.str y) u0 ∧ Vals xs us := by
    cases rv with
    | cons r0 rs => exact ⟨_, _, rfl, r0, rs⟩
  have xl : xs.length = us.length := rs.length
  have fit : (((u0 :: us).toArray.size : Nat) : Int) < 2 ^ 63 := by
    have h1 : (u0 :: us).toArray.size ≤ sizeLine := by
      have z := hz
      simp only [List.length_cons] at z
      simp only [List.size_toArray, List.length_cons]
      omega
    rw [sizeLine_eq] at h1
    omega
  refine wpAny_matchCases_cons ?_
  by_cases hl : xs.length = ns.length
  · refine matchSeq_tuple_hit p fit (by simp [c.len, ← hl, xl]) ?_ hs hw
    have en : (Pattern.MatchValue (.Constant (.str z) j p1) p2 :: ps).length = (u0 :: us).toArray.size := by simp [c.len, ← hl, xl]
    rw [en]
    refine wpAny_unpackItems_tuple (I.ok.hd hc) p fun h' eb => ?_
    have I1 : Inv X pins σ H { s with heap := h', toks := s.toks + 1 + 1 } := I.kept (t' := s.toks + 1 + 1) fun b o e => eb b o (Nat.ne_of_lt (Heap.lt_size e)) e
    show wpAny _ _ (matchEach _ _ (u0 :: us)) _ _ _
    refine wpAny_matchEach_cons (wpAny_matchPattern_Value ?_)
    have pz : PE X (.Constant (.str z) j p1) (tC (.str z)) := pe_str
    refine thn (pz.run pins _ σ H (fun x H' => x = .str z ∧ H' = H) I1 ⟨rfl, rfl⟩) fun uz s2 ⟨vz, H2, I2, rz, ez, eh⟩ => ?_
    subst ez eh
    refine thn (op_eq pins s2 σ H2 (.str y) (.str z) u0 uz (fun x H' => x = .bl (decide (y = z)) ∧ H' = H2) I2 r0 rz ⟨rfl, ?_, rfl⟩) fun uc s3 ⟨vc, H3, I3, rc, ec, eh3⟩ => ?_
    · exact congrArg V.bl (by simp)
    · subst ec eh3
      cases (show uc = Value.bool (decide (y = z)) from rc)
      have fin : rest (.ref a) D σ H3 → wpAny (model X.prog X.w) X.A (matchCases cs X.env (.ref a) false) (SP X pins D) X.xe s3 := fun w => hr.run pins s3 σ H3 D (.ref a) (.ref a) false I3 rfl w
      obtain ⟨yes, no⟩ := here hl
      refine wpAny_truthy_bool ?_
      by_cases e : y = z
      · rw [decide_eq_true e, if_pos rfl]
        refine caps_each c (by omega) ?_
        obtain ⟨z1, z2⟩ := zip_names (bindName X.env) ns us (by omega)
        show wpAny _ _ (assignInOrder ((([] : List (PySem.Str × Value)) ++ ns.zip us).map fun (n, _) => bindName X.env n) ((([] : List (PySem.Str × Value)) ++ ns.zip us).map (·.2))) _ _ _
        rw [List.nil_append, z1, z2]
        refine thn (hg.run pins s3 σ H3 xs us _ I3 rs (yes e)) fun _ s4 ⟨σ4, H4, I4, q4⟩ => ?_
        exact hb.run pins s4 σ4 H4 D I4 q4
      · rw [decide_eq_false e]
        exact fin (no e)
  · refine matchSeq_tuple_miss p fit (by simp [c.len]; omega) ?_ hs hw
    exact hr.run pins _ σ H D (.ref a) (.ref a) false (I.kept (t' := _) fun b o e => e) rfl (other hl)
theorem pm_wordK {K : PySem.W.Frag} (hk : X.K = K) {z : PySem.Str} {j : Nat} {p1 p2 p3 : Pos} {ps : List Pattern} {ns : List PySem.Str} {body : List Stmt} {cs : List MatchCase} {g : TGs} {tb : TS} {rest : V → TS} (hc : X.calm = true) (c : Caps ps ns) (hg : PBn X ns g) (hb : PSs X body tb) (hr : PMc X cs rest)
    (hs : (Pattern.MatchValue (.Constant (.str z) j p1) p2 :: ps).findIdx? (·.isStar) = none := by rfl)
    (hw : ((Pattern.MatchValue (.Constant (.str z) j p1) p2 :: ps).all fun p => p.isWildcard || (p.isStar && p.names.isEmpty)) = false := by rfl) :
    PMc X (⟨.MatchSequence (.MatchValue (.Constant (.str z) j p1) p2 :: ps) p3, none, body⟩ :: cs) (tWord K z ns.length g tb rest) := hk ▸ pm_word hc c hg hb hr hs hw
theorem pa_starK {K : PySem.W.Frag} {e : Expr} {p : Pos} {es : List Expr} {te : TE} {t : TA} (hk : X.K = K) (he : PE X e te) (ha : PA X es t) : PA X (.Starred e p :: es) (StX.tStar K te t) := hk ▸ StX.pa_star he ha
variable {K : PySem.W.Frag} {σ : L2.St} {H : Hp} {D : Ends}
theorem r_match {te : TE} {t : V → TS} (h : te σ H fun v H1 => t v D σ H1) : tMatch te t D σ H := h
theorem r_wHit {z : PySem.Str} {n : Nat} {g : TGs} {tb : TS} {rest : V → TS} {a : Addr} {xs : List V} (h : H a = some (.tup (.str z :: xs))) (hl : xs.length = n) (q : g xs σ H fun σ' H' => tb D σ' H') : tWord K z n g tb rest (.ref a) D σ H :=
  ⟨a, z, xs, rfl, .inl (.inl h), fun x => absurd hl x, fun _ => ⟨fun _ => q, fun x => absurd rfl x⟩⟩
theorem r_wMiss {z y : PySem.Str} {n : Nat} {g : TGs} {tb : TS} {rest : V → TS} {a : Addr} {xs : List V} (h : H a = some (.tup (.str y :: xs))) (ne : xs.length ≠ n ∨ y ≠ z) (q : rest (.ref a) D σ H) : tWord K z n g tb rest (.ref a) D σ H :=
  ⟨a, y, xs, rfl, .inl (.inl h), fun _ => q, fun hl => ⟨fun e => (ne.elim (fun x => absurd hl x) fun x => absurd e x), fun _ => q⟩⟩
def StN (K : PySem.W.Frag) (t : TA) (σ : L2.St) (Q : List V → Hp → Prop) : VK := fun x H1 => ∃ p xs, x = V.ref p ∧ (SqT K H1 p xs ∨ SqL K H1 p xs) ∧ t σ H1 fun ys H2 => Q (xs ++ ys) H2
theorem r_star {te : TE} {t : TA} {Q : List V → Hp → Prop} (h : te σ H (StN K t σ Q)) : StX.tStar K te t σ H Q := h
theorem r_stN {t : TA} {Q : List V → Hp → Prop} {p : Addr} {xs : List V} (h : H p = some (.tup xs)) (q : t σ H fun ys H2 => Q (xs ++ ys) H2) : StN K t σ Q (.ref p) H := ⟨p, xs, rfl, .inl (.inl (.inl h)), q⟩
end

set_option Elab.async false
set_option linter.all false
set_option maxRecDepth 100000
set_option maxHeartbeats 4000000
open PySem PySem.Spec PyProof.Rows L2
/-! # try .. except X as e: .. else: .. -/
section
variable {X : Cx} {cx nm : Str} {cv : Value} {k : Nat} {bd su : List Stmt} {b0 : Stmt} {p1 p2 p3 : Pos} {tb : WX → TS} {ts : Addr → Value → Option Addr → TS} {Wo : WX}
theorem ps_try_asE {els : List Stmt} {te : TS} (hels : PSs X els te) (hst : X.stack = X.env :: X.outer) (hfm : X.env.frame = some X.env.locals) (nd : X.N.Nodup) (hk : X.N[k]? = some nm) (hkind : X.env.kindOf nm = some .local) (hnm : Names X cx cv) (tk : L2N.Takes X Wo)
    (hbd : ∀ (W : WX) (pn : List (Addr × Obj)) (xe : Value → Shared → Prop), L2N.Takes (X.tr pn xe) W → PassesOwn (model X.prog X.w) X.A X.env xe → PSs (X.tr pn xe) bd (tb W))
    (hsu : ∀ (a : Addr) (oe : Obj) (cls : Value) (d : Option Addr) (pn : List (Addr × Obj)), L2N.Zn cls d oe → (∃ vs, oe.data = .fields vs) → PSs (X.suite a ((a, oe) :: pn)) (b0 :: su) (ts a cls d)) :
    PS X (.Try bd [.ExceptHandler (some (.Name cx p1)) (some nm) (b0 :: su) p2] els [] p3) (fun D σ H => tb (wAs X.K cv k ts Wo D) { D with nx := te D } σ H) :=
  ⟨fun pins s σ H D I goal => by
    have okI := I.ok
    have frm : X.A.frames = some (X.env :: X.outer) := by rw [okI.frames, hst]
    refine wpAny_Try_except (wpAny_mono ((hbd (wAs X.K cv k ts Wo D) (X.pn ++ pins) (fun e t => wpAny (model X.prog X.w) X.A (noteFrame e X.env)
      (fun _ t2 => wpAny (model X.prog X.w) X.A (setFlight e none) (fun _ t3 => wpAny (model X.prog X.w) X.A (handleBy e X.env [.ExceptHandler (some (.Name cx p1)) (some nm) (b0 :: su) p2]) (SP X pins D) X.xe t3) X.xe t2) X.xe t)
      (fun u t caught => ?_) PassesOwn.looking).run [] s σ H { D with nx := te D } (I.toTry _) goal) (fun fl t done => ?_) (fun _ _ he => he))
    · obtain ⟨a, B, sI, pins', σ1, H1, cls, d, rfl, Jt, nb, up1, sky0, free, ocs, agr, yes, mat, ifYes, ifNo⟩ := caught
      have J := Jt.ofTry okI
      refine L2N.Sky.land L2N.Zn.steady frm hfm (by rw [← hst]; exact sky0) fun hb fb ub => ?_
      have Jb : Inv X pins σ1 H1 { t with heap := hb } := J.landed nb fb.1 (up1.trans ub) ocs agr
      obtain ⟨ob, vb, getb, zb, datb⟩ := fb.there
      have apart : a ∉ frs (X.env :: X.outer) := fun mem => by
        obtain ⟨_, o', e', bad⟩ := fb.2.2.1.mem mem
        rw [getb] at e'
        cases e'
        exact bad _ datb
      have neL : a ≠ X.env.locals := fun z => apart (List.mem_filterMap.mpr ⟨X.env, List.mem_cons_self, by rw [hfm, z]⟩)
      have neF : a ∉ X.fs := fun mem => by
        obtain ⟨e, he, z⟩ := List.mem_filterMap.mp mem
        exact apart (List.mem_filterMap.mpr ⟨e, List.mem_cons_of_mem _ he, z⟩)
      have Sb := Jb.suite getb datb free neL neF
      refine wpAny_handleBy_cons (codeAny_handlers_test ?_) (by intro z; cases z)
      have look := PySem.W.exm_one (M := model X.prog X.w) (Jb.kIn) (fun A Q E s' kk z => wpAny_typeOf_ref (kk _ _ getb) (by rw [zb.1]; exact z) : PySem.W.Looks (model X.prog X.w) hb (typeOf (.ref a)) cls) mat
      have head : ∀ {Q E : Value → Shared → Prop}, Q cv { t with heap := hb } → wpAny (model X.prog X.w) (X.A.mark (some (.ref a))) (eval (.Name cx p1) X.env) Q E { t with heap := hb } := fun {Q E} z => by
        obtain ⟨g1, g2, g3 | ⟨g3, g4, g5⟩⟩ := hnm
        · exact ld_glob (X := X.suite a ((a, ob) :: (X.pn ++ pins))) Sb g1 g3 z g2
        · exact ld_blt (X := X.suite a ((a, ob) :: (X.pn ++ pins))) Sb g1 g3 g4 z g5 g2
      refine head (look.here ?_)
      cases yes with
      | true =>
        refine codeAny_handlers_suite_as (HandSPX.lands_againZ fb fun hc fc uc => ?_)
        obtain ⟨oc, vc, getc, zc, datc⟩ := fc.there
        have Jc : Inv X pins σ1 H1 { t with heap := hc } := J.landed nb fc.1 ((up1.trans ub).trans uc) ocs agr
        refine store_ok (X := X.suite a ((a, oc) :: (X.pn ++ pins))) (v := .ref a) (Jc.suite getc datc free neL neF) nd hk (.inl hkind) rfl (fun t5 S5 => ?_) (.inr hkind)
        refine wpAny_mono ((hsu a oc cls d (X.pn ++ pins) zc ⟨_, datc⟩).run [] t5 _ H1 _ S5 (ifYes rfl a free)) (fun fl t6 done => ?_) (fun _ _ z => False.elim z)
        have away : ∀ {σe : L2.St} {He : Hp} {Q : Shared → Prop}, Inv (X.suite a ((a, oc) :: (X.pn ++ pins))) [] σe He t6 → (∀ t7, Inv X pins (σe.set k none) He t7 → Q t7) →
            wpAny (model X.prog X.w) X.A (do bindName X.env nm .none; unbindBehindTheSuite X.env nm p2) (fun _ t7 => Q t7) X.xe t6 := fun Se z => gone_ok (Se.unsuite okI) nd hk hkind z
        cases fl with
        | next => obtain ⟨_, _, Se, z⟩ := done; exact away Se fun _ Jz => ⟨_, _, Jz, z⟩
        | brk => obtain ⟨_, _, Se, z⟩ := done; exact away Se fun _ Jz => ⟨_, _, Jz, z⟩
        | cont => obtain ⟨_, _, Se, z⟩ := done; exact away Se fun _ Jz => ⟨_, _, Jz, z⟩
        | ret u => obtain ⟨_, _, _, Se, r, z⟩ := done; exact away Se fun _ Jz => ⟨_, _, _, Jz, r, z⟩
      | false =>
        refine wpAny_handleBy_nil ?_
        obtain ⟨_, _, _, oe, vs, T, oT, _, he, _, hd, first, _⟩ := id fb
        unfold PySem.passOn
        refine wpAny_bind (wpAny_field he hd first ?_)
        rw [if_neg (show ¬ ((Value.ref T == Value.none) = true) from by simp)]
        have out : wpAny (model X.prog X.w) X.A (setFlight (.ref a) X.env.frame) (fun _ t4 => wpAny (model X.prog X.w) X.A (throw (.ref a) : Sem Flow) (SP X pins D) X.xe t4) X.xe { t with heap := hb } := by
          rw [hfm]
          exact HandSPX.setFlight_upZ fb fun hc sky2 uc => wpAny_throw (tk _ _ ⟨a, B, sI, pins, σ1, H1, cls, d, rfl, J, nb, (up1.trans ub).trans uc, .inr (.inr (by rw [hst]; exact sky2)), free, ocs, agr, ifNo rfl⟩)
        first
          | exact wpAny_bind (wpAny_pure (wpAny_bind out))
          | exact wpAny_bind out
    · cases fl with
      | next => obtain ⟨σ1, H1, J, z⟩ := done; exact hels.run pins t σ1 H1 D (J.ofTry okI) z
      | brk => obtain ⟨σ1, H1, J, z⟩ := done; exact ⟨σ1, H1, J.ofTry okI, z⟩
      | cont => obtain ⟨σ1, H1, J, z⟩ := done; exact ⟨σ1, H1, J.ofTry okI, z⟩
      | ret u => obtain ⟨v, σ1, H1, J, r, z⟩ := done; exact ⟨v, σ1, H1, J.ofTry okI, r, z⟩⟩
end

set_option Elab.async false
set_option linter.all false
set_option maxRecDepth 100000
set_option maxHeartbeats 4000000
open PySem PySem.Spec PyProof.Rows L2
/-! # what a suite of except may do: min and max of two ints, calls -/
section
variable {prog : Program} {w : World} {A : Around} {E : Value → Shared → Prop} {s : Shared}
theorem tup_end_hot {it t x1 : Addr} {i : Nat} {items : Array Value} {Q : Option Value → Shared → Prop} (hot : HotX.HotAt A x1 s.heap) (ne : x1 ≠ it) (hit : s.heap.IsTupleIter it t i) (ht : s.heap.IsTuple t items) (none_ : items[i]? = none)
    (q : ∀ h', Heap.ExtBut it s.heap h' → Q none { s with heap := h' }) : wpAny (model prog w) A (pyNext (.ref it)) Q E s := by
  obtain ⟨hh, o1, v1, g1, d1, c1⟩ := hot
  obtain ⟨o, ho, hc, hd⟩ := id hit
  obtain ⟨ol, hol, _, nl, hdl⟩ := ht
  unfold pyNext
  refine wpAny_bind (wpAny_attempt (wpAny_callSpecial?_slot (name := Str.ofString "__next__") hit.typeIs F.slot_tuple_iterator_next
    (wpAny_call_entry F.slot_tuple_iterator_next hit.typeIs F.entry_tuple_iterator_next ?_ (F.args_tuple_iterator_next_1 _))))
  refine wpAny_bind (m := field (.ref it) 0) (wpAny_field ho hd (x := .ref t) rfl ?_)
  rw [if_neg (show ¬ ((Value.ref t == Value.none) = true) from Bool.false_ne_true)]
  refine wpAny_bind (m := field (.ref it) 1) (wpAny_field ho hd (x := .int i 0) rfl ?_)
  refine wpAny_bind (m := seqItems? (.ref t)) (wpAny_seqItems hol hdl ?_)
  simp only [Int.toNat_natCast, none_]
  refine wpAny_bind (wpAny_rule (wpAny_bind (wpAny_setField ho hd (by simp) ?_)))
  refine wpAny_bind (m := newExc (.type "StopIteration") []) ?_
  simp only [newExc, newTuple]
  refine wpAny_bind (wpAny_newObj_type ?_ (by size_fits))
  refine wpAny_bind (m := firstArgMember _ _) (wpAny_of_eq (a := Value.none) (by first | rfl | (simp only [firstArgMember]; rfl)) ?_)
  refine wpAny_newObj_type ?_ (by size_fits)
  have old : ∀ {b : Addr} {u : Obj}, b ≠ it → s.heap.get? b = some u → (s.heap.update it (Obj.mapFields (·.setIfInBounds 0 .none))).get? b = some u := fun nb e => (Heap.get?_update_other _ _ (Ne.symm nb)).trans e
  refine HotX.raiseNew_hot ⟨hh, o1, v1, Heap.get?_push_of_some _ (Heap.get?_push_of_some _ (old ne g1)), d1, c1⟩ (Nat.ne_of_lt (Heap.lt_size (Heap.get?_push_of_some _ (old ne g1)))) (Heap.get?_push_size _ rfl) rfl (by first | (simp; done) | (simp; omega) | (simp only [Array.size_append]; simp; omega)) ?_
  refine wpAny_bind (wpAny_isInstance (T := "StopIteration") (b := true) ⟨_, Heap.get?_update_self _ (Heap.get?_push_size _ rfl) rfl, rfl⟩ isSubtype_stop ?_)
  refine wpAny_pure (q _ fun b u nb e => ?_)
  rw [Heap.get?_update_other _ _ (Nat.ne_of_gt (Heap.lt_size (Heap.get?_push_of_some _ (old nb e))))]
  exact Heap.get?_push_of_some _ (Heap.get?_push_of_some _ (old nb e))
/-- a tuple's walk while an exception is handled -/
theorem walks_tup_hot {x1 : Addr} {o1 : Obj} {v1 : Array Value} (hh : A.handled = some (.ref x1)) (d1 : o1.data = .fields v1) (c1 : v1[2]? = some .none) (I ax : Addr) (n1 : ax ≠ I) (n2 : x1 ≠ I) (items : Array Value) :
    Walks prog w A I [I, ax, x1] [I] items.size (fun i v => items[i]? = some v) (fun i h => (h.IsTupleIter I ax i ∧ h.IsTuple ax items) ∧ h.get? x1 = some o1) where
  sub := fun b hb => by simp at hb; simp [hb]
  frame := fun _ _ _ st k => ⟨⟨st.1.1.at fun o e => k I (by simp) o e, st.1.2.at fun o e => k ax (by simp) o e⟩, k x1 (by simp) _ st.2⟩
  item := fun i s Q E hi st q => by
    refine wpAny_pyNext_tuple_item st.1.1 st.1.2 (x := items[i]) (by simp [hi]) fun h' hit' hs' => ?_
    exact q _ h' s.toks (by simp [hi]) ⟨⟨hit', st.1.2.extBut hs'.extBut n1⟩, hs'.extBut x1 o1 n2 st.2⟩ fun b o hb e => hs'.extBut b o (fun h => hb (by simp [h])) e
  done := fun s Q E st q => tup_end_hot ⟨hh, o1, v1, st.2, d1, c1⟩ n2 st.1.1 st.1.2 (by simp) fun h' he => q h' s.toks fun b o hb e => he b o (fun h => hb (by simp [h])) e
  self := fun _ _ _ _ st q => wpAny_pyIter_tupleiter st.1.1 q
theorem min2_hot {x1 : Addr} {a b : Int} {t u : Tok} {Q : Value → Shared → Prop} (hot : HotX.HotAt A x1 s.heap) (q : ∀ h' tk, (∀ c o, s.heap.get? c = some o → h'.get? c = some o) → Q (if b < a then .int b u else .int a t) { s with heap := h', toks := tk }) :
    wpAny (model prog w) A (call (.builtin "min") [.int a t, .int b u]) Q E s := by
  obtain ⟨hh, o1, v1, g1, d1, c1⟩ := hot
  have hT : (s.heap.push { cls := .type "tuple", data := .seq #[.int a t, .int b u] }).IsTuple s.heap.objs.size (intItems #[(a, t), (b, u)]) := ⟨_, Heap.get?_push_size _ rfl, rfl, 0, by simp [intItems]⟩
  have hsz : (s.heap.push { cls := .type "tuple", data := .seq #[.int a t, .int b u] }).objs.size = s.heap.objs.size + 1 := Heap.size_push ..
  have l1 := Heap.lt_size g1
  refine call_min_two (wpAny_pyIter_tuple hT ?_)
  refine ⟨_, _, _, _, _, _, _, rfl, walks_tup_hot (A := A.in1) hh d1 c1 _ s.heap.objs.size (by rw [hsz]; exact Nat.ne_of_lt (Nat.lt_succ_self _)) (by rw [hsz]; exact Nat.ne_of_lt (Nat.lt_succ_of_lt l1)) (intItems #[(a, t), (b, u)]),
    ⟨⟨⟨_, Heap.get?_push_size _ rfl, rfl, rfl⟩, hT.push _⟩, Heap.get?_push_of_some _ (Heap.get?_push_of_some _ g1)⟩, fun c hc => ?_, by simp [intItems], CmpOf.ints_lt (numAt #[(a, t), (b, u)]) (fun _ _ => intItems_at), fun v h' tk hP hk => ?_⟩
  · have sz : ((s.heap.push { cls := .type "tuple", data := .seq #[.int a t, .int b u] }).push { cls := .type "tuple_iterator", data := .fields #[.ref s.heap.objs.size, .int (0 : Nat) 0] }).objs.size = s.heap.objs.size + 2 := by rw [Heap.size_push, hsz]
    have lt : c < s.heap.objs.size + 2 := by
      simp only [List.mem_cons, List.not_mem_nil, or_false] at hc
      rcases hc with e | e | e
      · rw [e, hsz]; exact Nat.lt_succ_self _
      · rw [e]; exact Nat.lt_succ_of_lt (Nat.lt_succ_self _)
      · rw [e]; exact Nat.lt_succ_of_lt (Nat.lt_succ_of_lt l1)
    exact sz ▸ lt
  · have old : ∀ c o, s.heap.get? c = some o → h'.get? c = some o := fun c o e => hk c o (fun hm => by
      have := Heap.lt_size e
      rw [List.mem_singleton.mp hm, hsz] at this
      exact absurd (Nat.lt_of_succ_lt this) (Nat.lt_irrefl _)) (Heap.get?_push_of_some _ (Heap.get?_push_of_some _ e))
    have hv : v = if b < a then Value.int b u else Value.int a t := by
      have e1 : (intItems #[(a, t), (b, u)]).size - 1 = 1 := by simp [intItems]
      rw [e1] at hP
      by_cases c : b < a
      · have e : argBest (fun i j => decide (numAt #[(a, t), (b, u)] i < numAt #[(a, t), (b, u)] j)) 1 = 1 := by simp [argBest, numAt, c]
        rw [e] at hP
        simpa [intItems, c] using hP.symm
      · have e : argBest (fun i j => decide (numAt #[(a, t), (b, u)] i < numAt #[(a, t), (b, u)] j)) 1 = 0 := by simp [argBest, numAt, c]
        rw [e] at hP
        simpa [intItems, c] using hP.symm
    rw [hv]
    exact q h' tk old
theorem max2_hot {x1 : Addr} {a b : Int} {t u : Tok} {Q : Value → Shared → Prop} (hot : HotX.HotAt A x1 s.heap) (q : ∀ h' tk, (∀ c o, s.heap.get? c = some o → h'.get? c = some o) → Q (if b > a then .int b u else .int a t) { s with heap := h', toks := tk }) :
    wpAny (model prog w) A (call (.builtin "max") [.int a t, .int b u]) Q E s := by
  obtain ⟨hh, o1, v1, g1, d1, c1⟩ := hot
  have hT : (s.heap.push { cls := .type "tuple", data := .seq #[.int a t, .int b u] }).IsTuple s.heap.objs.size (intItems #[(a, t), (b, u)]) := ⟨_, Heap.get?_push_size _ rfl, rfl, 0, by simp [intItems]⟩
  have hsz : (s.heap.push { cls := .type "tuple", data := .seq #[.int a t, .int b u] }).objs.size = s.heap.objs.size + 1 := Heap.size_push ..
  have l1 := Heap.lt_size g1
  refine call_max_two (wpAny_pyIter_tuple hT ?_)
  refine ⟨_, _, _, _, _, _, _, rfl, walks_tup_hot (A := A.in1) hh d1 c1 _ s.heap.objs.size (by rw [hsz]; exact Nat.ne_of_lt (Nat.lt_succ_self _)) (by rw [hsz]; exact Nat.ne_of_lt (Nat.lt_succ_of_lt l1)) (intItems #[(a, t), (b, u)]),
    ⟨⟨⟨_, Heap.get?_push_size _ rfl, rfl, rfl⟩, hT.push _⟩, Heap.get?_push_of_some _ (Heap.get?_push_of_some _ g1)⟩, fun c hc => ?_, by simp [intItems], CmpOf.ints_gt (numAt #[(a, t), (b, u)]) (fun _ _ => intItems_at), fun v h' tk hP hk => ?_⟩
  · have sz : ((s.heap.push { cls := .type "tuple", data := .seq #[.int a t, .int b u] }).push { cls := .type "tuple_iterator", data := .fields #[.ref s.heap.objs.size, .int (0 : Nat) 0] }).objs.size = s.heap.objs.size + 2 := by rw [Heap.size_push, hsz]
    have lt : c < s.heap.objs.size + 2 := by
      simp only [List.mem_cons, List.not_mem_nil, or_false] at hc
      rcases hc with e | e | e
      · rw [e, hsz]; exact Nat.lt_succ_self _
      · rw [e]; exact Nat.lt_succ_of_lt (Nat.lt_succ_self _)
      · rw [e]; exact Nat.lt_succ_of_lt (Nat.lt_succ_of_lt l1)
    exact sz ▸ lt
  · have old : ∀ c o, s.heap.get? c = some o → h'.get? c = some o := fun c o e => hk c o (fun hm => by
      have := Heap.lt_size e
      rw [List.mem_singleton.mp hm, hsz] at this
      exact absurd (Nat.lt_of_succ_lt this) (Nat.lt_irrefl _)) (Heap.get?_push_of_some _ (Heap.get?_push_of_some _ e))
    have hv : v = if b > a then Value.int b u else Value.int a t := by
      have e1 : (intItems #[(a, t), (b, u)]).size - 1 = 1 := by simp [intItems]
      rw [e1] at hP
      by_cases c : b > a
      · have e : argBest (fun i j => decide (numAt #[(a, t), (b, u)] i > numAt #[(a, t), (b, u)] j)) 1 = 1 := by first | (simp [argBest, numAt, c]; done) | (simp [argBest, numAt]; omega)
        rw [e] at hP
        simpa [intItems, c] using hP.symm
      · have e : argBest (fun i j => decide (numAt #[(a, t), (b, u)] i > numAt #[(a, t), (b, u)] j)) 1 = 0 := by first | (simp [argBest, numAt, c]; done) | (simp [argBest, numAt]; omega)
        rw [e] at hP
        simpa [intItems, c] using hP.symm
    rw [hv]
    exact q h' tk old
end
section
variable {X : Cx}
theorem call_min2H (hc : L2H.HotC X) : CallR X (.builtin "min") rMin2 := by
  intro pins s σ H xs us Q I r h
  obtain ⟨i, j, rfl, q⟩ := h
  obtain ⟨u, w', rfl, ⟨t, rfl⟩, ⟨t', rfl⟩⟩ := vals2 r
  obtain ⟨x1, hot⟩ := hc.at I
  refine min2_hot hot fun h' tk k => ⟨_, H, I.kept k, ?_, q⟩
  by_cases c : j < i
  · rw [if_pos c, if_pos c]; exact ⟨_, rfl⟩
  · rw [if_neg c, if_neg c]; exact ⟨_, rfl⟩
theorem call_max2H (hc : L2H.HotC X) : CallR X (.builtin "max") rMax2 := by
  intro pins s σ H xs us Q I r h
  obtain ⟨i, j, rfl, q⟩ := h
  obtain ⟨u, w', rfl, ⟨t, rfl⟩, ⟨t', rfl⟩⟩ := vals2 r
  obtain ⟨x1, hot⟩ := hc.at I
  refine max2_hot hot fun h' tk k => ⟨_, H, I.kept k, ?_, q⟩
  by_cases c : j > i
  · rw [if_pos c, if_pos c]; exact ⟨_, rfl⟩
  · rw [if_neg c, if_neg c]; exact ⟨_, rfl⟩
theorem op_inPH {k : Nat} (hr : L2H.RoomH k X.A) : OpR X (compareOp .In) (rInP X.K) := by
  intro pins s σ H x y v u Q I rx ry h
  obtain ⟨p, b, xs, ps, hx, rfl, hb, hp, q⟩ := h
  obtain ⟨as, r1⟩ := Dp.reads I (prD2 p) x v hx.dp rx
  obtain ⟨bs, r2⟩ := Dp.reads I (.tuple (ps.map prD2)) (.ref b) u (.tup hb hp.dps) ry
  exact SeqAt.in_tuple_reads r2 r1 (prD2s_lay ps) (prD2_lay p) (roomP (by have := hr.un; omega) p) ⟨.bl _, H, I, rfl, by rw [prD2s_any]; exact q⟩
theorem op_inPHK {K : PySem.W.Frag} {k : Nat} (h : X.K = K) (hr : L2H.RoomH k X.A) : OpR X (compareOp .In) (rInP K) := h ▸ op_inPH hr
end
section
variable {P : Program} {w : World} {K : PySem.W.Frag} {mg : Str → Option Value} {base : Heap}
/-- a def called in a suite of except -/
theorem okH {x qual : Str} {st : Stmt} {f : Addr} {fd : FuncData} {N ps : List Str} {k : Nat} {sp : Sp} {CX : CXT} (F : Fun K x qual st f fd) (S : FnScope N ps (defScope st)) (len : ∀ vs H Q E, sp vs H Q E → vs.length = ps.length)
    (body : ∀ (cdv : Value) (A : Around) (outer : List Env) (s : Shared) (H : Hp) (vs : List V) (Q : VK) (E : XK) (p : Addr × Obj), L2H.Hot1 A p → L2H.RoomH k (A.deeper (envOfC qual (defScope st) s.heap.objs.size f cdv)) → sp vs H Q E →
      ∃ t, PSs (L2H.cxH CX P w K mg base N qual (defScope st) f cdv A outer s H E p) (defBody st) t ∧ t { nx := fun _ H' => Q .non H', rt := Q } (L2.start N vs) H) : L2H.FnH P w K mg base CX (k + 1) f fd ps sp := by
  obtain ⟨oc, od, kV, doc, pm, an, cdv, ct, osl, rfl, lk, hcd⟩ := F.ex
  exact L2H.fn_ofH lk hcd S len fun A outer s H vs Q E p hot hr hsp => body cdv A outer s H vs Q E p hot hr hsp
theorem pass0H {X : Cx} (σ : L2.St) : PassesAt CX0 X σ (fun _ _ _ => False) := fun _ _ _ _ _ _ h => h.elim
/-- a def that lets out errors whose context is None -/
theorem okN {x qual : Str} {st : Stmt} {f : Addr} {fd : FuncData} {N ps : List Str} {k : Nat} {sp : Sp} (F : Fun K x qual st f fd) (S : FnScope N ps (defScope st)) (len : ∀ vs H Q E, sp vs H Q E → vs.length = ps.length)
    (body : ∀ (cdv : Value) (A : Around) (outer : List Env) (s : Shared) (H : Hp) (vs : List V) (Q : VK) (E : XK), Room k (A.deeper (envOfC qual (defScope st) s.heap.objs.size f cdv)) → sp vs H Q E →
      ∃ t, PSs (cxOf (L2N.CX P w) P w K mg base N qual (defScope st) f cdv A outer s H E) (defBody st) t ∧ t { nx := fun _ H' => Q .non H', rt := Q } (L2.start N vs) H) : FnOk P w K mg base (L2N.CX P w) (k + 1) f fd ps sp := by
  obtain ⟨oc, od, kV, doc, pm, an, cdv, ct, osl, rfl, lk, hcd⟩ := F.ex
  exact fn_of lk hcd S len fun A outer s H vs Q E hr hsp => body cdv A outer s H vs Q E hr hsp
theorem takesN0 {X : Cx} : L2N.Takes X (fun _ _ _ _ => False) := fun _ _ x => by
  obtain ⟨_, _, _, _, _, _, _, _, _, _, _, _, _, _, _, _, z⟩ := x
  exact z.elim
/-- the suite knows the handled exception -/
theorem hot_suite {X : Cx} {a : Addr} {oe : Obj} {cls : Value} {d : Option Addr} {pn : List (Addr × Obj)} (hz : L2N.Zn cls d oe) (hf : ∃ vs, oe.data = .fields vs) : L2H.HotC (X.suite a ((a, oe) :: pn)) := by
  obtain ⟨vs, e⟩ := hf
  exact ⟨(a, oe), ⟨rfl, vs, e, hz.2.2 vs e⟩, List.mem_cons_self⟩
theorem roomH_suite {k : Nat} {X : Cx} {a : Addr} {pn : List (Addr × Obj)} (r : Room k X.A) : L2H.RoomH k (X.suite a pn).A := ⟨r.dp, r.un⟩
end

set_option Elab.async false
set_option linter.all false
set_option maxRecDepth 100000
set_option maxHeartbeats 4000000
open PySem PySem.Spec PyProof.Rows L2
/-- an expression that is never reached -/
def tDead : TE := fun _ _ _ => False
theorem pe_dead {X : Cx} {e : Expr} : PE X e tDead := ⟨fun _ _ _ _ _ _ h => (show False from h).elim⟩
section
variable {K : PySem.W.Frag} {H : Hp} {Q : VK}
theorem r_neSame {x y : V} {t : PyData} (hx : Dp K H x t) (hy : Dp K H y t) (c : t.canLay0 = true) (d : t.depth ≤ 64) (q : Q (.bl false) H) : rNeD K x y H Q := by
  have e : SeqAt.shaped t = true := shaped_of c d
  refine ⟨t, t, hx, hy, e, e, ?_⟩
  rw [PySem.SeqAt.eqv_refl t c]
  exact q
end

set_option Elab.async false
set_option linter.all false
set_option maxRecDepth 100000
set_option maxHeartbeats 4000000
open PySem PySem.Spec PyProof.Rows L2
/-! # sets as the bits of a number -/
structure Msk (x : Int) (S : Int → Prop) : Prop where
  nn : 0 ≤ x
  bits : ∀ i : Nat, x.toNat.testBit i = true ↔ S i
theorem Msk.zero : Msk 0 (fun _ => False) := ⟨by omega, fun i => by simp⟩
theorem Msk.shl {v : Int} (h : 0 ≤ v) : Msk (1 * 2 ^ v.toNat) (fun i => i = v) := by
  have e : (1 * 2 ^ v.toNat : Int) = ((2 ^ v.toNat : Nat) : Int) := by
    rw [Int.one_mul]
    exact (PySem.W.kbt_cast v.toNat).symm
  rw [e]
  refine ⟨Int.natCast_nonneg _, fun i => ?_⟩
  rw [Int.toNat_natCast, Nat.testBit_two_pow, decide_eq_true_eq]
  omega
theorem Msk.or {x y : Int} {S T : Int → Prop} (a : Msk x S) (b : Msk y T) : Msk (Builtin.bitOr x y) (fun i => S i ∨ T i) := by
  rw [Bits.bitOr_pp a.nn b.nn]
  refine ⟨Int.natCast_nonneg _, fun i => ?_⟩
  rw [Int.toNat_natCast, Nat.testBit_or, Bool.or_eq_true, a.bits, b.bits]
theorem Msk.and {x y : Int} {S T : Int → Prop} (a : Msk x S) (b : Msk y T) : Msk (Builtin.bitAnd x y) (fun i => S i ∧ T i) := by
  rw [bitAnd_pp a.nn b.nn]
  refine ⟨Int.natCast_nonneg _, fun i => ?_⟩
  rw [Int.toNat_natCast, Nat.testBit_and, Bool.and_eq_true, a.bits, b.bits]
theorem Msk.congr {x : Int} {S T : Int → Prop} (a : Msk x S) (h : ∀ i : Nat, S i ↔ T i) : Msk x T := ⟨a.nn, fun i => (a.bits i).trans (h i)⟩
theorem Msk.ne0 {x : Int} {S : Int → Prop} (a : Msk x S) : x ≠ 0 ↔ ∃ i : Nat, S i := by
  constructor
  · intro h
    have : x.toNat ≠ 0 := by have := a.nn; omega
    obtain ⟨i, hi⟩ := Nat.exists_testBit_of_ne_zero this
    exact ⟨i, (a.bits i).mp hi⟩
  · rintro ⟨i, hi⟩ e
    have := (a.bits i).mpr hi
    rw [e] at this
    simp at this
theorem Msk.uniq {x y : Int} {S : Int → Prop} (a : Msk x S) (b : Msk y S) : x = y := by
  have : x.toNat = y.toNat := Nat.eq_of_testBit_eq fun i => by
    have h1 := a.bits i
    have h2 := b.bits i
    cases c : x.toNat.testBit i <;> cases d : y.toNat.testBit i <;> simp_all
  have := a.nn
  have := b.nn
  omega
/-- what ors do: a mask of the items of a list -/
theorem Msk.snoc {x v : Int} {ns : List Int} (a : Msk x (fun i => i ∈ ns)) (h : 0 ≤ v) : Msk (Builtin.bitOr x (1 * 2 ^ v.toNat)) (fun i => i ∈ ns ++ [v]) :=
  (a.or (.shl h)).congr fun i => by rw [List.mem_append, List.mem_singleton]
theorem Msk.nil : Msk 0 (fun i => i ∈ ([] : List Int)) := Msk.zero.congr fun i => by simp
/-! ## ints as data -/
theorem dps_int {K : PySem.W.Frag} {H : Hp} : ∀ ns : List Int, DpAll K H (ns.map V.int) (ns.map PyData.int)
  | [] => .nil
  | _ :: ns => .cons (.int _) (dps_int ns)
theorem layI : ∀ ns : List Int, PyData.canLayAll0 (ns.map PyData.int) = true
  | [] => by simp [PyData.canLayAll0]
  | n :: ns => by
    rw [List.map_cons]
    simp only [PyData.canLayAll0, PyData.canLay0, Bool.true_and]
    exact layI ns
theorem depI : ∀ ns : List Int, PyData.depthAll (ns.map PyData.int) ≤ 0
  | [] => by simp [PyData.depthAll]
  | n :: ns => by
    have := depI ns
    rw [List.map_cons]
    simp only [PyData.depthAll, PyData.depth]
    omega
theorem tupI_lay (ns : List Int) : (PyData.tuple (ns.map PyData.int)).canLay0 = true := by
  simp only [PyData.canLay0]
  exact layI ns
theorem tupI_depth (ns : List Int) : (PyData.tuple (ns.map PyData.int)).depth ≤ 1 := by
  have := depI ns
  simp only [PyData.depth]
  omega
theorem lstI_lay (ns : List Int) : (PyData.list (ns.map PyData.int)).canLay0 = true := by
  simp only [PyData.canLay0]
  exact layI ns
theorem lstI_depth (ns : List Int) : (PyData.list (ns.map PyData.int)).depth ≤ 1 := by
  have := depI ns
  simp only [PyData.depth]
  omega
theorem eqvI : ∀ ns ms : List Int, PyData.eqvAll (ns.map PyData.int) (ms.map PyData.int) = decide (ns = ms)
  | [], [] => by simp [PyData.eqvAll]
  | [], _ :: _ => by simp [PyData.eqvAll]
  | _ :: _, [] => by simp [PyData.eqvAll]
  | n :: ns, m :: ms => by
    rw [List.map_cons, List.map_cons]
    simp only [PyData.eqvAll, PyData.eqv]
    rw [eqvI ns ms]
    by_cases h1 : n = m <;> by_cases h2 : ns = ms <;> simp [h1, h2]
theorem tupI_eqv (ns ms : List Int) : PyData.eqv (.tuple (ns.map PyData.int)) (.tuple (ms.map PyData.int)) = decide (ns = ms) := by
  simp only [PyData.eqv]
  exact eqvI ns ms
/-- ints ascending, each once -/
structure DedI (qs fs : List Int) : Prop where
  asc : fs.Pairwise (· < ·)
  mem : ∀ z, z ∈ fs ↔ z ∈ qs
  last : fs.getLast? = qs.getLast?
theorem DedI.nil : DedI [] [] := ⟨.nil, fun _ => Iff.rfl, rfl⟩
theorem DedI.same {qs fs : List Int} {q : Int} (D : DedI qs fs) (h : fs.getLast? = some q) : DedI (qs ++ [q]) fs := by
  refine ⟨D.asc, fun z => ?_, by rw [h, List.getLast?_append]; simp⟩
  rw [List.mem_append, ← D.mem, List.mem_singleton]
  refine ⟨.inl, fun c => c.elim id fun e => ?_⟩
  rw [e]
  exact List.mem_of_getLast? h
theorem DedI.more {qs fs : List Int} {q : Int} (D : DedI qs fs) (hl : (qs ++ [q]).Pairwise (· ≤ ·)) (h : fs.getLast? ≠ some q) : DedI (qs ++ [q]) (fs ++ [q]) := by
  obtain ⟨p1, p2, p3⟩ := List.pairwise_append.mp hl
  refine ⟨List.pairwise_append.mpr ⟨D.asc, by simp, fun a ha b hb => ?_⟩, fun z => by rw [List.mem_append, List.mem_append, D.mem], by rw [List.getLast?_append, List.getLast?_append]; simp⟩
  rw [List.mem_singleton.mp hb]
  have le := p3 a ((D.mem a).mp ha) q List.mem_cons_self
  rcases Int.lt_or_eq_of_le le with e | e
  · exact e
  refine absurd ?_ h
  subst e
  obtain ⟨b, hb'⟩ : ∃ b, fs.getLast? = some b := by
    cases q9 : fs.getLast? with
    | some r => exact ⟨r, rfl⟩
    | none =>
      rw [List.getLast?_eq_none_iff.mp q9] at ha
      cases ha
  have hbq := p3 b ((D.mem b).mp (List.mem_of_getLast? hb')) a List.mem_cons_self
  have hab : a ≤ b := by
    obtain ⟨ys, e⟩ := List.getLast?_eq_some_iff.mp hb'
    rw [e] at ha
    have pw := D.asc
    rw [e] at pw
    rcases List.mem_append.mp ha with c | c
    · have := (List.pairwise_append.mp pw).2.2 a c b List.mem_cons_self
      omega
    · rw [List.mem_singleton.mp c]
      omega
  rw [hb', show b = a by omega]
section
variable {X : Cx} {K : PySem.W.Frag} {σ : L2.St} {H : Hp} {Q : VK}
theorem r_eqNilI {f e : Addr} {ns : List Int} (h : H f = some (.lst (ns.map V.int))) (he : H e = some (.lst [])) (q : Q (.bl (decide (ns = []))) H) : rEqD K (.ref f) (.ref e) H Q := by
  refine ⟨.list (ns.map PyData.int), .list [], .lst (.inl (.inl h)) (dps_int ns), .lst (.inl (.inl he)) .nil, shaped_of (lstI_lay ns) (by have := lstI_depth ns; omega), shaped_of (lstI_lay []) (by have := lstI_depth []; simp only [List.map_nil] at this; omega), ?_⟩
  cases ns with
  | nil => exact q
  | cons p ps => exact q
theorem r_neTI {f e : Addr} {ns ms : List Int} (h : SqT K H f (ns.map V.int)) (he : SqT K H e (ms.map V.int)) (q : Q (.bl (!decide (ns = ms))) H) : rNeD K (.ref f) (.ref e) H Q := by
  refine ⟨.tuple (ns.map PyData.int), .tuple (ms.map PyData.int), .tup h (dps_int ns), .tup he (dps_int ms), shaped_of (tupI_lay ns) (by have := tupI_depth ns; omega), shaped_of (tupI_lay ms) (by have := tupI_depth ms; omega), ?_⟩
  rw [tupI_eqv]
  exact q
theorem r_sortI {a : Addr} {ns : List Int} {R : VK} (h : SqL K H a (ns.map V.int)) (l : ns.length < 64) (q : ∀ (ms : List Int) (p : Addr), ms.Perm ns → ms.Pairwise (· ≤ ·) → H p = none → R (.ref p) (upd H p (.lst (ms.map V.int)))) : rSorted K [.ref a] H R := ⟨a, ns, rfl, h, l, q⟩
theorem op_inDK (h : X.K = K) (hu : X.A.units + 65 < cLine) : OpR X (compareOp .In) (rInD K) := h ▸ op_inD hu
theorem op_notInDK (h : X.K = K) (hu : X.A.units + 65 < cLine) : OpR X (compareOp .NotIn) (rNotInD K) := h ▸ op_notInD hu
theorem cr_allK (h : X.K = K) (hc : X.calm = true) : CallR X (.builtin "all") (rAll K) := h ▸ cr_all hc
theorem r_all {a : Addr} {bs : List Bool} (h : H a = some (.lst (bs.map V.bl))) (q : Q (.bl (bs.all id)) H) : rAll K [.ref a] H Q := ⟨a, bs, rfl, .inl (.inl h), q⟩
def AugN (i : Nat) (ti : TIp) (σ : L2.St) (nx : L2.St → Hp → Prop) (x : V) : VK := fun y H1 => ti x y H1 fun z H2 => nx (σ.set i (some z)) H2
theorem r_aug {i : Nat} {te : TE} {ti : TIp} {nx bk ct : L2.St → Hp → Prop} {x : V} (e : σ[i]? = some (some x)) (h : te σ H (AugN i ti σ nx x)) : tAug i te ti ⟨nx, Q, bk, ct⟩ σ H := ⟨x, e, h⟩
theorem r_augOr {i : Nat} {nx : L2.St → Hp → Prop} {a b : Int} {σ' : L2.St} (e : σ.set i (some (.int (Builtin.bitOr a b))) = σ') (h : nx σ' H) : AugN i (rI0 fun i j => .int (Builtin.bitOr i j)) σ nx (.int a) (.int b) H := ⟨a, b, rfl, rfl, by subst e; exact h⟩
end

set_option Elab.async false
set_option linter.all false
set_option maxRecDepth 100000
set_option maxHeartbeats 4000000
open PySem PySem.Spec PyProof.Rows L2
/-! # sets of ints: {x}, and a def that knows its code -/
section
variable {P : Program} {w : World} {A : Around} {E : Value → Shared → Prop} {s : Shared} {a : Addr} {S : Int → Bool} {n : Nat}
theorem put_int {k : Int} {tk : Tok} {Q : Bool → Shared → Prop} (R : SetR w s.heap a S n) (room : n + 1 < scanBound)
    (h : ∀ h', Heap.SameBut a s.heap h' → SetR w h' a (fun j => S j || decide (j = k)) (if S k = true then n else n + 1) → Q (!S k) { s with heap := h', toks := s.toks + 1 }) : wpAny (model P w) A (setAdd a (.int k tk)) Q E s := by
  unfold setAdd
  exact wpAny_holding (wpAny_bind ((intKind P w).pyHash (intKind_is P w k tk) (setR_add_hashed (s := { s with toks := s.toks + 1 }) R room h)))
end
section
variable {X : Cx}
/-- {x}: the set first, then the item -/
def tSet1 (w : World) (te : TE) : TE := fun σ H Q => ∀ p, H p = none → te σ (upd H p (SetO w p (fun _ => false) 0)) fun x H1 => ∃ k, x = .int k ∧ H1 p = some (SetO w p (fun _ => false) 0) ∧ Q (.ref p) (upd H1 p (SetO w p (fun j => decide (j = k)) 1))
theorem pe_set1 {e : Expr} {te : TE} {pos : Pos} (hcd : PySem.W.kdsCode X.K X.env.code = true) (he : PE X e te) (hst : starEach [e] X.env = [(false, eval e X.env)] := by rfl) : PE X (.Set [e] 0 pos) (tSet1 X.w te) := by
  refine ⟨fun pins s σ H Q I h => ?_⟩
  rw [arm_eval_Set]
  refine wpAny_bind (wpAny_standAt ?_)
  refine wpAny_bind (PySem.W.kds_main (I.kIn) hcd fun b => ?_)
  rw [hst]
  have hroad : displayRoad 0 [e] = .oneByOne := rfl
  rw [hroad]
  show wpAny (model X.prog X.w) X.A (setDisplay .oneByOne b [(false, (eval e X.env >>= fun v => standAt pos >>= fun _ => pure v : Sem Value))]) _ _ s
  generalize hact : (eval e X.env >>= fun v => standAt pos >>= fun _ => pure v : Sem Value) = act
  unfold setDisplay
  have t1 : (if ([(false, act)] : List (Bool × Sem Value)).length > 30 then 0 else (([(false, act)] : List (Bool × Sem Value)).findIdx? (·.1)).getD ([(false, act)] : List (Bool × Sem Value)).length) = 1 := rfl
  dsimp only
  rw [if_neg (by decide)]
  refine wpAny_bind (PpSet.newSet_ok ?_)
  dsimp only
  rw [t1]
  refine wpAny_bind (wpAny_holding ?_)
  show wpAny (model X.prog X.w) X.A (evalAll [act] >>= _) _ _ _
  generalize hD : s.heap.objs.size = D
  have dn : H D = none := I.hok.fresh (Nat.le_of_eq hD)
  have new : SetR X.w (s.heap.push { cls := .type "set", dict := none, data := .set #[] 0 (.fresh 0 0 (!X.w.params.followText "set-order")) }) D (fun _ => false) 0 := by
    rw [← hD]
    exact setR_fresh X.w
  have I1 : Inv X pins σ (upd H D (SetO X.w D (fun _ => false) 0)) { s with heap := s.heap.push { cls := .type "set", dict := none, data := .set #[] 0 (.fresh 0 0 (!X.w.params.followText "set-order")) } } :=
    I.laid (t' := s.toks) (fun b u e => Heap.get?_push_of_some _ e) (Nat.le_of_eq hD) (setO_new new)
  refine wpAny_bind (wpAny_evalAll_cons ?_)
  rw [← hact]
  refine wpAny_bind (thn (he.run pins _ σ _ _ I1 (h D dn)) fun v s1 ⟨x, H1, I2, r1, k, e1, hs, q⟩ => ?_)
  subst e1
  obtain ⟨tk, rfl⟩ := r1
  refine wpAny_bind (wpAny_standAt (wpAny_pure ?_))
  refine wpAny_evalAll_nil ?_
  rw [List.forIn_cons]
  have R1 := setO_get I2 hs
  refine wpAny_bind (wpAny_holding ?_)
  refine wpAny_bind (wpAny_bind (wpAny_bind (put_int R1 (by decide) fun h' sb new => wpAny_pure ?_)))
  dsimp only
  rw [List.forIn_nil]
  refine wpAny_pure ?_
  rw [if_neg (by decide)]
  refine wpAny_pure ?_
  show wpAny (model X.prog X.w) X.A (forIn ([] : List (Bool × Sem Value)) PUnit.unit _ >>= _) _ _ _
  rw [List.forIn_nil]
  refine wpAny_bind (wpAny_pure (wpAny_pure (wpAny_pure ?_)))
  have he : ∃ u, h'.get? D = some u := by
    have ⟨o, _, _, _, ho, _⟩ := new
    exact ⟨o, ho⟩
  have efn : (fun j : Int => (fun _ => false) j || decide (j = k)) = fun j => decide (j = k) := by funext j; simp
  have e1 : (if (fun _ : Int => false) k = true then 0 else 0 + 1) = 1 := by simp
  rw [efn, e1] at new
  exact ⟨.ref D, upd H1 D (SetO X.w D (fun j => decide (j = k)) 1), I2.write (e := D) (t' := s1.toks + 1) (by rw [hs]; trivial) (.inl rfl) (fun b u hb hu => (sb.2 b hb).trans hu) he (setO_new new), rfl, q⟩
end
section
variable {P : Program} {w : World} {K : PySem.W.Frag} {mg : Str → Option Value} {base : Heap}
/-- a def's body, its own code at hand -/
theorem okC {x qual : Str} {st : Stmt} {f : Addr} {fd : FuncData} {N ps : List Str} {k : Nat} {sp : Sp} (F : Fun K x qual st f fd) (S : FnScope N ps (defScope st)) (len : ∀ vs H Q E, sp vs H Q E → vs.length = ps.length)
    (body : ∀ (cdv : Value) (A : Around) (outer : List Env) (s : Shared) (H : Hp) (vs : List V) (Q : VK) (E : XK), PySem.W.kdsCode K cdv = true → Room k (A.deeper (envOfC qual (defScope st) s.heap.objs.size f cdv)) → sp vs H Q E →
      ∃ t, PSs (cxOf CX0 P w K mg base N qual (defScope st) f cdv A outer s H E).nox (defBody st) t ∧ t { nx := fun _ H' => Q .non H', rt := Q } (L2.start N vs) H) : FnOk P w K mg base CX0 (k + 1) f fd ps sp := by
  obtain ⟨oc, od, kV, doc, pm, an, cdv, ct, osl, rfl, lk, hcd⟩ := F.ex
  exact fn_of lk hcd S len fun A outer s H vs Q E hr hsp => by
    obtain ⟨t, h, q⟩ := body cdv A outer s H vs Q E (kdsCode_of hcd) hr hsp
    exact ⟨t, h.nox, q⟩
end
section
variable {X : Cx} {w : World} {σ : L2.St} {H : Hp} {Q : VK}
theorem cr_set0W (h : X.w = w) : CallR X (.type "set") (rSet0 w) := h ▸ cr_set0
theorem cr_sortedSetW (h : X.w = w) (hc : X.calm = true) : CallR X (.builtin "sorted") (rSortedSet w) := h ▸ cr_sortedSet hc
theorem op_sinW (h : X.w = w) : OpR X (compareOp .In) (rSIn w) := h ▸ or_sin
theorem op_sninW (h : X.w = w) : OpR X (compareOp .NotIn) (rSNotIn w) := h ▸ or_snotin
theorem PE.saddW {e : Expr} {to : TE} {t : TA} (h : X.w = w) (p : PE X e (tSAdd X.w to t)) : PE X e (tSAdd w to t) := h ▸ p
theorem PE.set1W {e : Expr} {te : TE} (h : X.w = w) (p : PE X e (tSet1 X.w te)) : PE X e (tSet1 w te) := h ▸ p
def SAddN (w : World) (t : TA) (σ : L2.St) (Q : VK) : VK := fun x H1 => (∃ a S n, x = V.ref a ∧ H1 a = some (SetO w a S n)) ∧ t σ H1 fun xs H2 => rSAdd w x xs H2 Q
theorem r_sadd {to : TE} {t : TA} (h : to σ H (SAddN w t σ Q)) : tSAdd w to t σ H Q := h
theorem r_saddN {t : TA} {a : Addr} {S : Int → Bool} {n : Nat} (h : H a = some (SetO w a S n)) (q : t σ H fun xs H2 => rSAdd w (.ref a) xs H2 Q) : SAddN w t σ Q (.ref a) H := ⟨⟨a, S, n, rfl, h⟩, q⟩
end

set_option Elab.async false
set_option linter.all false
set_option maxRecDepth 100000
set_option maxHeartbeats 4000000
open PySem PySem.Spec PyProof.Rows L2
/-! # list.extend of a tuple, len of a set -/
section
open PySem.AutoSeq1 in
theorem ext_tup_meets (l b : Addr) (its us : Array Value) (n m : Nat) (d : Option Addr) (sl : Array (Option Value)) (h0 : ¬(!its.isEmpty && Builtin.List.listTooLong (its.size + us.size)) = true) (h1 : its.size ≤ sizeLine) (h2 : its.size + us.size ≤ sizeLine + 1) :
    Meets (Builtin.«list.extend» ⟨[.ref l, .ref b], []⟩) (fun _ R s => s.heap.get? l = some { cls := .type "list", dict := none, data := .seq its n, slots := #[] } ∧ s.heap.get? b = some { cls := .type "tuple", dict := d, data := .seq us m, slots := sl } ∧
      R (.ok (.ret Value.none)) { s with heap := s.heap.update l (Obj.mapSeq fun x => x ++ us), toks := s.toks }) := by
  refine .of_wp fun prog w A R s h => ?_
  obtain ⟨hp, g, dr, tk, os⟩ := s
  obtain ⟨hl, hb, h⟩ := h
  have f1 := idx_int
  have f2 := AutoSeq1.sub_tuple_tuple
  have f3 := AutoSeq1.sub_list_list
  have f4 := AutoSeq1.sub_tuple_list
  have f5 := AutoSeq1.sub_list_tuple
  have hz : (its ++ us).size ≤ sizeLine + 1 := by
    rw [Array.size_append]
    exact h2
  wp_walk using (wpAny_updateSeq hl rfl (hz := h1) (_hz' := hz)), wpAny_loadPart' hl, wpAny_loadPart' hb
  exact ⟨_, rfl, h⟩
end
section
variable {X : Cx} {K : PySem.W.Frag} {w : World}
def rExtT (K : PySem.W.Frag) : V → List V → Hp → VK → Prop := fun x vs H Q => ∃ l b xs zs, x = .ref l ∧ vs = [.ref b] ∧ H l = some (.lst xs) ∧ SqT K H b zs ∧ xs.length + zs.length ≤ sizeLine ∧ Q .non (upd H l (.lst (xs ++ zs)))
theorem mt_extT : MtM X "list.extend" (rExtT X.K) := by
  intro pins s σ H x vs v us Q I rx rv h
  obtain ⟨l, b, xs, zs, rfl, rfl, hH, hB, hz, q⟩ := h
  cases rx
  obtain ⟨u, rfl, ru⟩ := rv.one
  cases ru
  obtain ⟨z, its, n, r, hl, e⟩ := I.lstM hH
  obtain ⟨us, r2, ⟨o, ho, hc, m, hd⟩, z2⟩ := I.tuple hB
  have hl2 := r2.length
  obtain ⟨cls, dict, data, slots⟩ := o
  simp only at hc hd
  subst hc hd
  have hsz : its.toArray.size + us.toArray.size ≤ sizeLine := by
    rw [List.size_toArray, List.size_toArray]
    omega
  have short : ¬ (!its.toArray.isEmpty && Builtin.List.listTooLong (its.toArray.size + us.toArray.size)) = true := by
    rw [notLongL hsz, Bool.and_false]
    exact Bool.false_ne_true
  refine call_meets F.slot_list_extend ⟨_, e, rfl⟩ F.entry_list_extend (F.args_list_extend_2 _ _) (ext_tup_meets l b its.toArray us.toArray n m dict slots short (by rw [List.size_toArray]; omega) (by omega)) ⟨e, ho, ?_⟩
  refine ⟨.non, _, I.lset (its' := its ++ us) hH e (by simp) (r.append r2) ?_, rfl, q⟩
  rw [List.length_append]
  omega
theorem mt_extTK (h : X.K = K) : MtM X "list.extend" (rExtT K) := h ▸ mt_extT
theorem r_extT {H : Hp} {Q : VK} {l b : Addr} {xs zs : List V} (h : H l = some (.lst xs)) (hb : SqT K H b zs) (hz : xs.length + zs.length ≤ 100000) (q : Q .non (upd H l (.lst (xs ++ zs)))) : rExtT K (.ref l) [.ref b] H Q := ⟨l, b, xs, zs, rfl, rfl, h, hb, small_len hz, q⟩
theorem r_ext {H : Hp} {Q : VK} {l b : Addr} {xs zs : List V} (h : H l = some (.lst xs)) (hb : H b = some (.lst zs)) (hz : xs.length + zs.length ≤ 100000) (q : Q .non (upd H l (.lst (xs ++ zs)))) : rExtend (.ref l) [.ref b] H Q := ⟨l, b, xs, zs, rfl, rfl, h, hb, small_len hz, q⟩
def rLenSet (w : World) : List V → Hp → VK → Prop := fun vs H Q => ∃ (a : Addr) (S : Int → Bool) (n : Nat), vs = [V.ref a] ∧ H a = some (SetO w a S n) ∧ Q (.int n) H
theorem call_lenSet (hw : X.w = w) : CallR X (.builtin "len") (rLenSet w) := by
  subst hw
  intro pins s σ H vs us Q I r h
  obtain ⟨a, S, n, rfl, ha, q⟩ := h
  rw [Vals.ref1 r]
  obtain ⟨o, es, ep, t, ho, hex, hd, _, _, _, hb, hf, hn, _⟩ := setO_get I ha
  refine call_len_set ho hex hd hf (by have : (scanBound : Int) = 4096 := rfl; omega) ?_
  exact ⟨.int n, H, I.kept (t' := s.toks + 1 + 1) fun _ _ e => e, by rw [hn]; exact ⟨_, rfl⟩, q⟩
end

set_option Elab.async false
set_option linter.all false
set_option maxRecDepth 100000
set_option maxHeartbeats 4000000
open PySem PySem.Spec PyProof.Rows L2
/-! # truth of lists, pop(), while, two clauses over lists -/
section
variable {X : Cx} {K : PySem.W.Frag} {w : World} {σ : L2.St} {H : Hp} {Q : VK}
theorem rel_str {x : PySem.Str} {t : Tok} : RelV (.str x) (.str x t) := ⟨t, rfl⟩
def TruN (K : PySem.W.Frag) (Q : Bool → Hp → Prop) : VK := fun x H' => ∃ k, TruV K x H' k ∧ Q k H'
def tTruth (K : PySem.W.Frag) (ta : TE) : TT := fun σ H Q => ta σ H (TruN K Q)
theorem pt_truthK {a : Expr} {ta : TE} (h : X.K = K) (ha : PE X a ta) (he : ∀ whole, isTrue a X.env whole = (do let v ← whole; standAt a.pos; holding [v] (truthy v))) : PT X a (tTruth K ta) := by
  subst h
  exact pt_truth ha he
theorem r_truth {ta : TE} {Q : Bool → Hp → Prop} (h : ta σ H (TruN K Q)) : tTruth K ta σ H Q := h
theorem r_truL {Q : Bool → Hp → Prop} {l : Addr} {xs : List V} (h : H l = some (.lst xs)) (q : Q (!xs.isEmpty) H) : TruN K Q (.ref l) H := ⟨_, .inl ⟨xs, .inl (.inl h), rfl⟩, q⟩
def Bm0 (K : PySem.W.Frag) (T : String) (r : V → List V → Hp → VK → Prop) (Q : VK) : VK := fun x H1 => tyV K T x H1 ∧ r x [] H1 Q
theorem PE.bm0K {e : Expr} {T : String} {r : V → List V → Hp → VK → Prop} {to : TE} (h : X.K = K) (p : PE X e (tBM0 X.K T r to)) : PE X e (tBM0 K T r to) := h ▸ p
theorem r_bm0 {T : String} {r : V → List V → Hp → VK → Prop} {te : TE} (h : te σ H (Bm0 K T r Q)) : tBM0 K T r te σ H Q := h
theorem r_bm0L {r : V → List V → Hp → VK → Prop} {p : Addr} {xs : List V} (h : SqL K H p xs) (q : r (.ref p) [] H Q) : Bm0 K "list" r Q (.ref p) H := ⟨.inl ⟨rfl, _, h⟩, q⟩
/-- xs.pop() -/
theorem r_popL {l : Addr} {xs : List V} {y : V} (h : H l = some (.lst (xs ++ [y]))) (q : Q y (upd H l (.lst xs))) : rPop (.ref l) [] H Q := ⟨l, xs ++ [y], y, rfl, rfl, h, by simp, by rw [List.dropLast_concat]; exact q⟩
variable {nx bk ct : L2.St → Hp → Prop}
theorem r_while {tc : TT} {tb : TS} (W : Nat → L2.St → Hp → Prop) (m0 : Nat) (h0 : W m0 σ H)
    (hs : ∀ m σ H, W m σ H → tc σ H fun b H1 => if b = true then ∃ N : L2.St → Hp → Prop, (∀ σ' H', N σ' H' → ∃ m', m' < m ∧ W m' σ' H') ∧ tb ⟨N, Q, nx, N⟩ σ H1 else nx σ H1) : tWhile tc tb ⟨nx, Q, bk, ct⟩ σ H := ⟨W, ⟨m0, h0⟩, hs⟩
theorem r_whGo {tb : TS} {W : Nat → L2.St → Hp → Prop} {m : Nat} (h : tb ⟨fun σ' H' => ∃ m', m' < m ∧ W m' σ' H', Q, nx, fun σ' H' => ∃ m', m' < m ∧ W m' σ' H'⟩ σ H) : ∃ N : L2.St → Hp → Prop, (∀ σ' H', N σ' H' → ∃ m', m' < m ∧ W m' σ' H') ∧ tb ⟨N, Q, nx, N⟩ σ H := ⟨_, fun _ _ z => z, h⟩
theorem lnR_list {D a : Addr} {xs : List V} {g1 : TG} {tt1 : TT} {te : TE} {vs1 : List Nat} {σ2 σw : L2.St} {Nx : Hp → Prop} (Pv : Nat → Hp → Prop) (ew : wipe σ2 vs1 = σw) (h0 : Pv 0 H) (hl : ∀ i H, i ≤ xs.length → Pv i H → SqL K H a xs)
    (hs : ∀ (i : Nat) x H, xs[i]? = some x → Pv i H → g1 x σw H fun σ3 H5 => wipe σ3 vs1 = σw ∧ tt1 σ3 H5 fun b H6 => if b = true then te σ3 H6 (LcE D (Pv (i + 1))) else Pv (i + 1) H6) (hd : ∀ H, Pv xs.length H → Nx H) : LnR (Itl K a) g1 tt1 te vs1 σ2 D Nx H := by
  subst ew
  refine ⟨fun i m H => (m = xs.length - i ∧ i ≤ xs.length) ∧ Pv i H, ⟨_, ⟨rfl, Nat.zero_le _⟩, h0⟩, fun i m H ⟨⟨em, hi⟩, p⟩ => ?_⟩
  subst em
  have hq := hl i H hi p
  rcases Nat.lt_or_ge i xs.length with c | c
  · exact .inr ⟨⟨xs, xs[i], hq, List.getElem?_eq_getElem c⟩, Pv (i + 1), fun H' p' => ⟨_, by omega, ⟨rfl, c⟩, p'⟩, fun x H' ⟨e, y⟩ => e ▸ hs i x _ (y xs hq) p⟩
  · have e : i = xs.length := by omega
    exact .inl ⟨⟨xs, hq, c⟩, hd H (e ▸ p)⟩
theorem lc2R_list {D a : Addr} {xs : List V} {wi1 : TI} {g g1 : TG} {tt tt1 : TT} {te : TE} {vs vs1 : List Nat} {σw : L2.St} (Pv : Nat → Hp → Prop) (ew : wipe σ vs = σw) (h0 : Pv 0 (upd H D (.lst []))) (hl : ∀ i H, i ≤ xs.length → Pv i H → SqL K H a xs)
    (hs : ∀ (i : Nat) x H, xs[i]? = some x → Pv i H → g x σw H fun σ2 H2 => wipe σ2 vs = σw ∧ tt σ2 H2 fun b H3 => if b = true then wi1 σ2 H3 fun J1 H4 => LnR J1 g1 tt1 te vs1 σ2 D (Pv (i + 1)) H4 else Pv (i + 1) H3) (hd : ∀ H, Pv xs.length H → Q (.ref D) H) : Lc2R (Itl K a) g tt wi1 g1 tt1 te vs vs1 σ D Q H := by
  subst ew
  refine ⟨fun i m H => (m = xs.length - i ∧ i ≤ xs.length) ∧ Pv i H, ⟨_, ⟨rfl, Nat.zero_le _⟩, h0⟩, fun i m H ⟨⟨em, hi⟩, p⟩ => ?_⟩
  subst em
  have hq := hl i H hi p
  rcases Nat.lt_or_ge i xs.length with c | c
  · exact .inr ⟨⟨xs, xs[i], hq, List.getElem?_eq_getElem c⟩, Pv (i + 1), fun H' p' => ⟨_, by omega, ⟨rfl, c⟩, p'⟩, fun x H' ⟨e, y⟩ => e ▸ hs i x _ (y xs hq) p⟩
  · have e : i = xs.length := by omega
    exact .inl ⟨⟨xs, hq, c⟩, hd H (e ▸ p)⟩
theorem r_eqLI {f e : Addr} {ns ms : List Int} (h : SqL K H f (ns.map V.int)) (he : SqL K H e (ms.map V.int)) (q : Q (.bl (decide (ns = ms))) H) : rEqD K (.ref f) (.ref e) H Q := by
  refine ⟨.list (ns.map PyData.int), .list (ms.map PyData.int), .lst h (dps_int ns), .lst he (dps_int ms), shaped_of (lstI_lay ns) (by have := lstI_depth ns; omega), shaped_of (lstI_lay ms) (by have := lstI_depth ms; omega), ?_⟩
  simp only [PyData.eqv]
  rw [eqvI]
  exact q
/-- sets of ints -/
theorem r_set0W (q : ∀ p, H p = none → Q (.ref p) (upd H p (SetO w p (fun _ => false) 0))) : rSet0 w [] H Q := ⟨rfl, q⟩
theorem r_snin {k : Int} {a : Addr} {S : Int → Bool} {n : Nat} (h : H a = some (SetO w a S n)) (q : Q (.bl (!S k)) H) : rSNotIn w (.int k) (.ref a) H Q := ⟨k, a, S, n, rfl, rfl, h, q⟩
theorem r_saddI {k : Int} {a : Addr} {S : Int → Bool} {n : Nat} (h : H a = some (SetO w a S n)) (s : n + 1 < 4096) (q : Q .non (upd H a (SetO w a (fun j => S j || decide (j = k)) (if S k = true then n else n + 1)))) : rSAdd w (.ref a) [.int k] H Q := ⟨a, k, S, n, rfl, rfl, h, s, q⟩
theorem r_lenSet {a : Addr} {S : Int → Bool} {n : Nat} (h : H a = some (SetO w a S n)) (q : Q (.int n) H) : rLenSet w [.ref a] H Q := ⟨a, S, n, rfl, h, q⟩
/-- t[:i], t[j:] -/
theorem cut_to (xs : List V) (k : Nat) (h : k ≤ xs.length) : cutV xs none (some (k : Int)) = xs.take k := by
  unfold cutV
  rw [HT.sIx_none, HT.sIx_nat, List.drop_zero, Nat.sub_zero, Nat.min_eq_left h]
theorem cut_from (xs : List V) (k : Nat) (h : k ≤ xs.length) : cutV xs (some (k : Int)) none = xs.drop k := by
  unfold cutV
  rw [HT.sIx_none, HT.sIx_nat, Nat.min_eq_left h]
  exact List.take_of_length_le (by rw [List.length_drop]; omega)
theorem r_slTo {a : Addr} {xs : List V} {k : Int} (h : H a = some (.tup xs)) (h0 : 0 ≤ k) (h1 : k < xs.length) (q : ∀ p, H p = none → Q (.ref p) (upd H p (.tup (xs.take k.toNat)))) : rSlT K (.ref a) none (some k) H Q := by
  obtain ⟨j, rfl⟩ : ∃ j : Nat, k = j := ⟨k.toNat, by omega⟩
  refine ⟨a, xs, rfl, .inl (.inl h), fun z => ?_, fun p hp => by rw [cut_to xs j (by omega)]; exact q p hp⟩
  rw [HT.sIx_nat] at z
  omega
theorem r_slFrom {a : Addr} {xs : List V} {k : Int} (h : H a = some (.tup xs)) (h0 : 1 ≤ k) (h1 : k ≤ xs.length) (q : ∀ p, H p = none → Q (.ref p) (upd H p (.tup (xs.drop k.toNat)))) : rSlT K (.ref a) (some k) none H Q := by
  obtain ⟨j, rfl⟩ : ∃ j : Nat, k = j := ⟨k.toNat, by omega⟩
  refine ⟨a, xs, rfl, .inl (.inl h), fun z => ?_, fun p hp => by rw [cut_from xs j (by omega)]; exact q p hp⟩
  rw [HT.sIx_nat] at z
  omega
end

set_option Elab.async false
set_option linter.all false
set_option maxRecDepth 100000
set_option maxHeartbeats 4000000
open PySem PySem.Spec PyProof.Rows L2
/-! # sorted of tuples of ints of any lengths -/
def lexI : List Int → List Int → Bool
  | [], [] => false
  | [], _ :: _ => true
  | _ :: _, [] => false
  | a :: as, b :: bs => if a = b then lexI as bs else decide (a < b)
theorem lexI_asym : ∀ x y : List Int, lexI x y = true → lexI y x = false
  | [], [], h => by simp [lexI] at h
  | [], _ :: _, _ => by simp [lexI]
  | _ :: _, [], h => by simp [lexI] at h
  | a :: as, b :: bs, h => by
    simp only [lexI] at h ⊢
    by_cases c : a = b
    · rw [if_pos c] at h
      rw [if_pos c.symm]
      exact lexI_asym as bs h
    · rw [if_neg c] at h
      rw [if_neg (fun z => c z.symm)]
      have := of_decide_eq_true h
      exact decide_eq_false (by omega)
theorem lexI_tr : ∀ x y z : List Int, lexI y x = false → lexI z y = false → lexI z x = false
  | [], _, [], _, _ => by simp [lexI]
  | [], _, _ :: _, _, _ => by simp [lexI]
  | _ :: _, [], _, h, _ => by simp [lexI] at h
  | _ :: _, _ :: _, [], _, h => by simp [lexI] at h
  | a :: as, b :: bs, c :: cs, h1, h2 => by
    simp only [lexI] at h1 h2 ⊢
    by_cases e1 : b = a
    · rw [if_pos e1] at h1
      by_cases e2 : c = b
      · rw [if_pos e2] at h2
        rw [if_pos (e2.trans e1)]
        exact lexI_tr as bs cs h1 h2
      · rw [if_neg e2] at h2
        have := of_decide_eq_false h2
        rw [if_neg (fun z => e2 (z.trans e1.symm))]
        exact decide_eq_false (by omega)
    · rw [if_neg e1] at h1
      have q1 := of_decide_eq_false h1
      by_cases e2 : c = b
      · rw [if_neg (fun z => e1 (e2.symm.trans z))]
        exact decide_eq_false (by omega)
      · rw [if_neg e2] at h2
        have q2 := of_decide_eq_false h2
        rw [if_neg (by omega)]
        exact decide_eq_false (by omega)
theorem lexI_eq : ∀ x y : List Int, lexI x y = false → lexI y x = false → x = y
  | [], [], _, _ => rfl
  | [], _ :: _, h, _ => by simp [lexI] at h
  | _ :: _, [], _, h => by simp [lexI] at h
  | a :: as, b :: bs, h1, h2 => by
    simp only [lexI] at h1 h2
    by_cases c : a = b
    · rw [if_pos c] at h1
      rw [if_pos c.symm] at h2
      rw [c, lexI_eq as bs h1 h2]
    · rw [if_neg c] at h1
      rw [if_neg (fun z => c z.symm)] at h2
      have := of_decide_eq_false h1
      have := of_decide_eq_false h2
      omega
theorem swoI {α : Type} (k : α → List Int) : SrtO.Swo fun v u => lexI (k v) (k u) := ⟨fun x y h => lexI_asym _ _ h, fun x y z h1 h2 => lexI_tr _ _ _ h1 h2⟩
section
variable {prog : Program} {w : World} {A : Around} {E : Value → Shared → Prop} {s : Shared}
theorem lex_go {b fin : Bool} {Q : Bool → Shared → Prop} : ∀ (ns ms : List Int) (us vs : List Value) (i : Nat), IntsAre us ns → IntsAre vs ms → fin = decide (ns.length < ms.length) → Q (lexI ns ms) s → PySem.W.KatLex prog w A b fin Q (us.zip vs) i s
  | _, _, _, _, _, .nil, .nil, e, h => by
    subst e
    exact PySem.W.kat_nil h
  | _, _, _, _, _, .nil, .cons _ _ _, e, h => by
    subst e
    rw [List.zip_nil_left]
    refine PySem.W.kat_nil ?_
    rw [decide_eq_true (by simp)]
    exact h
  | _, _, _, _, _, .cons _ _ _, .nil, e, h => by
    subst e
    rw [List.zip_nil_right]
    refine PySem.W.kat_nil ?_
    rw [decide_eq_false (by simp)]
    exact h
  | _, _, _, _, i, .cons p t hx, .cons q u hy, e, h => by
    rw [List.zip_cons_cons]
    refine PySem.W.kat_cons (wpAny_eqBool_int ?_)
    simp only [lexI] at h
    by_cases c : p = q
    · rw [if_pos c] at h
      rw [beq_iff_eq.mpr c]
      refine PySem.W.kat_yes (lex_go _ _ _ _ (i + 1) hx hy ?_ h)
      rw [e]
      simp
    · rw [if_neg c] at h
      rw [beq_eq_false_iff_ne.mpr c]
      exact PySem.W.kat_no (TS.oneLt_ints _ h)
theorem cmpI {b : Bool} {vs : List Value} {k : Value → List Int} (hp : ∀ v ∈ vs, TS.TupInts s.heap v (k v)) : SrtO.Cmp prog w A s (tuples' b) (fun p => p.1 ∈ vs) (SrtO.lt2 fun v u => lexI (k v) (k u)) := by
  intro p q hm hm'
  obtain ⟨a1, us1, e1, ⟨o1, g1, c1, n1, d1⟩, i1⟩ := hp _ hm
  obtain ⟨a2, us2, e2, ⟨o2, g2, c2, n2, d2⟩, i2⟩ := hp _ hm'
  show wpAny (model prog w) A (keyLt' (tuples' b) p.1 q.1) (fun r s' => s' = s ∧ r = lexI (k p.1) (k q.1)) (fun _ _ => False) s
  generalize k p.1 = ns at i1 ⊢
  generalize k q.1 = ms at i2 ⊢
  rw [e1, e2]
  refine PySem.W.kat_lt g1 d1 g2 d2 (lex_go ns ms _ _ 0 i1 i2 ?_ ⟨rfl, rfl⟩)
  have l1 := i1.length
  have l2 := i2.length
  rw [Array.length_toList] at l1 l2
  rw [l1, l2]
theorem firstsI {h : Heap} {k : Value → List Int} : ∀ vs : List Value, (∀ v ∈ vs, TS.TupInts h v (k v) ∧ k v ≠ []) → ∃ fs, PySem.W.KatTups h vs fs ∧ fs.length = vs.length ∧ ∀ f ∈ fs, ∃ n t, f = Value.int n t
  | [], _ => ⟨[], PySem.W.KatTups.nil, rfl, fun f hf => (nomatch hf)⟩
  | v :: vs, hv => by
    obtain ⟨fs, kt, lf, hi⟩ := firstsI vs fun u hu => hv u (List.mem_cons_of_mem _ hu)
    obtain ⟨⟨a, us, rfl, ⟨o, ho, hc, n, hd⟩, i⟩, ne⟩ := hv v List.mem_cons_self
    generalize k (Value.ref a) = ns at i ne
    generalize e : us.toList = ul at i
    cases i with
    | nil => exact absurd rfl ne
    | @cons m t ul' ns' it =>
      refine ⟨Value.int m t :: fs, PySem.W.KatTups.cons ho hc hd ?_ kt, by simp [lf], fun f hf => ?_⟩
      · have z := congrArg (fun l : List Value => l[0]?) e
        simpa using z
      · rcases List.mem_cons.mp hf with c | c
        · exact ⟨m, t, c⟩
        · exact hi f c
theorem sortedI {l : Addr} {vs : List Value} {k : Value → List Int} {Q : Value → Shared → Prop} (hl : s.heap.IsList l vs.toArray) (hz : vs.length ≤ sizeLine) (hp : ∀ v ∈ vs, TS.TupInts s.heap v (k v) ∧ k v ≠ [])
    (h : ∀ (h' : Heap) (d : Addr) (out : List Value), SrtO.Srtd (fun v u => lexI (k v) (k u)) out → SrtO.Stb (fun v u => lexI (k v) (k u)) out vs → (∀ b o, s.heap.get? b = some o → h'.get? b = some o) → s.heap.objs.size ≤ d → (∃ n, h'.get? d = some (seqObj "list" out.toArray n)) → Q (.ref d) { s with heap := h' }) :
    wpAny (model prog w) A (call (.builtin "sorted") [.ref l]) Q E s := by
  refine SrtO.sorted_ord (swoI k) hl hz (fun h2 h₁ a ha kk => ?_) fun out hs hb => h _ _ out hs hb (fun b o e => sortedAll_old e) (Nat.le_succ _) (sortedAll_at s.heap vs out.toArray)
  intro h' keep
  have hp' : ∀ v ∈ vs, TS.TupInts h' v (k v) ∧ k v ≠ [] := fun v hm => ⟨(hp v hm).1.keeps fun b o e _ => keep b o (kk b o e).1 (kk b o e).2, (hp v hm).2⟩
  obtain ⟨fs, f1, f2, f3⟩ := firstsI vs hp'
  refine ⟨tuples' (Value.type "int" != Value.type "tuple"), fun Q E hq => ?_, cmpI fun v hv => (hp' v hv).1⟩
  refine PySem.W.kat_kind (T := .type "int") f1 (by omega) (fun f hm => ?_) (by rfl) hq
  obtain ⟨x, t, rfl⟩ := f3 f hm
  exact PySem.W.Looks.now
end
/-- the ints of a tracked tuple -/
def kI (H : Hp) : V → List Int
  | .ref t => match H t with
    | some (.tup ys) => ys.filterMap fun y => match y with
      | .int i => some i
      | _ => none
    | _ => []
  | _ => []
theorem kI_ints : ∀ ns : List Int, (ns.map V.int).filterMap (fun y => match y with | .int i => some i | _ => none) = ns
  | [] => rfl
  | n :: ns => by
    rw [List.map_cons, List.filterMap_cons]
    show n :: _ = _
    rw [kI_ints ns]
theorem kI_at {H : Hp} {t : Addr} {ns : List Int} (h : H t = some (.tup (ns.map V.int))) : kI H (.ref t) = ns := by
  unfold kI
  simp only [h]
  exact kI_ints ns
def rSortL (K : PySem.W.Frag) : List V → Hp → VK → Prop := fun vs H Q => ∃ (a : Addr) (xs : List V), vs = [V.ref a] ∧ SqL K H a xs ∧ (∀ x ∈ xs, ∃ t ns, x = V.ref t ∧ H t = some (.tup (ns.map V.int)) ∧ ns ≠ []) ∧
  ∀ ys p, ys.Pairwise (fun x y => lexI (kI H y) (kI H x) = false) → ys.Perm xs → H p = none → Q (.ref p) (upd H p (.lst ys))
section
variable {X : Cx} {K : PySem.W.Frag}
theorem cr_sortL : CallR X (.builtin "sorted") (rSortL X.K) := by
  intro pins s σ H vs us Q I r h
  obtain ⟨a, xs, rfl, hs, hx, q⟩ := h
  obtain ⟨its, rv, hl, hz⟩ := I.list hs
  rw [Vals.ref1 r]
  obtain ⟨e1, e2⟩ := refs_back rv fun x m => by
    obtain ⟨t, _, e, _⟩ := hx x m
    exact ⟨t, e⟩
  refine sortedI (k := fun u => kI H (backV u)) hl.isList (by rw [← rv.length]; exact hz) (fun v hv => ?_) fun h' d out h1 h2 kp hd hn => ?_
  · obtain ⟨t, rfl⟩ := e2 v hv
    have hm : V.ref t ∈ xs := by
      rw [e1]
      exact List.mem_map.mpr ⟨_, hv, rfl⟩
    obtain ⟨t', ns, e, ht, ne⟩ := hx _ hm
    cases e
    have ek : kI H (backV (Value.ref t)) = ns := kI_at ht
    obtain ⟨us, ru, hT, _⟩ := I.tuple (.inl (.inl ht) : SqT X.K H t (ns.map V.int))
    rw [ek]
    exact ⟨⟨t, us.toArray, rfl, hT, by simpa using ru.ints⟩, ne⟩
  · have h3 : ∀ u ∈ out, ∃ a, u = Value.ref a := fun u hu => e2 u (h2.perm.mem_iff.mp hu)
    obtain ⟨n, hn⟩ := hn
    have hp : (out.map backV).Perm xs := by
      rw [e1]
      exact h2.perm.map backV
    refine ⟨.ref d, upd H d (.lst (out.map backV)), I.laid (t' := s.toks) kp hd ⟨?_, out, n, vals_back h3, hn⟩, rfl, q _ d (List.pairwise_map.mpr h1) hp (I.hok.fresh hd)⟩
    rw [hp.length_eq]
    exact hz
theorem cr_sortLK (h : X.K = K) : CallR X (.builtin "sorted") (rSortL K) := h ▸ cr_sortL
end

set_option Elab.async false
set_option linter.all false
set_option maxRecDepth 100000
set_option maxHeartbeats 4000000
open PySem PySem.Spec PyProof.Rows L2
/-! # what is connected -/
inductive Con (R : Int → Int → Prop) (v : Int) : Int → Prop
  | refl : Con R v v
  | step {a b : Int} (h : Con R v a) (r : R a b) : Con R v b
theorem Con.trans {R : Int → Int → Prop} {u v z : Int} (h : Con R u v) (k : Con R v z) : Con R u z := by
  induction k with
  | refl => exact h
  | step _ r ih => exact .step ih r
theorem Con.symm {R : Int → Int → Prop} (hs : ∀ a b, R a b → R b a) {u v : Int} (h : Con R u v) : Con R v u := by
  induction h with
  | refl => exact .refl
  | step _ r ih => exact Con.trans (.step .refl (hs _ _ r)) ih
theorem Con.closed {R : Int → Int → Prop} {v : Int} {S : Int → Prop} (h0 : S v) (hc : ∀ a b, S a → R a b → S b) {z : Int} (h : Con R v z) : S z := by
  induction h with
  | refl => exact h0
  | step _ r ih => exact hc _ _ ih r
theorem lexI_irr : ∀ x : List Int, lexI x x = false
  | [] => rfl
  | a :: as => by simp [lexI, lexI_irr as]
theorem asc_eqL : ∀ {ps qs : List (List Int)}, ps.Pairwise (fun x y => lexI x y = true) → qs.Pairwise (fun x y => lexI x y = true) → (∀ p, p ∈ ps ↔ p ∈ qs) → ps = qs
  | [], [], _, _, _ => rfl
  | [], q :: qs, _, _, h => absurd ((h q).mpr List.mem_cons_self) (by simp)
  | p :: ps, [], _, _, h => absurd ((h p).mp List.mem_cons_self) (by simp)
  | p :: ps, q :: qs, h1, h2, h => by
    obtain ⟨a1, b1⟩ := List.pairwise_cons.mp h1
    obtain ⟨a2, b2⟩ := List.pairwise_cons.mp h2
    have e : p = q := by
      rcases List.mem_cons.mp ((h p).mp List.mem_cons_self) with e | e
      · exact e
      · rcases List.mem_cons.mp ((h q).mpr List.mem_cons_self) with e' | e'
        · exact e'.symm
        · have c1 := a2 p e
          have c2 := lexI_asym _ _ (a1 q e')
          rw [c1] at c2
          cases c2
    subst e
    refine congrArg (p :: ·) (asc_eqL b1 b2 fun z => ⟨fun hz => ?_, fun hz => ?_⟩)
    · rcases List.mem_cons.mp ((h z).mp (List.mem_cons_of_mem _ hz)) with e | e
      · have c := a1 z hz
        rw [e, lexI_irr] at c
        cases c
      · exact e
    · rcases List.mem_cons.mp ((h z).mpr (List.mem_cons_of_mem _ hz)) with e | e
      · have c := a2 z hz
        rw [e, lexI_irr] at c
        cases c
      · exact e
theorem asc_eqZ : ∀ {ps qs : List Int}, ps.Pairwise (· < ·) → qs.Pairwise (· < ·) → (∀ p, p ∈ ps ↔ p ∈ qs) → ps = qs
  | [], [], _, _, _ => rfl
  | [], q :: qs, _, _, h => absurd ((h q).mpr List.mem_cons_self) (by simp)
  | p :: ps, [], _, _, h => absurd ((h p).mp List.mem_cons_self) (by simp)
  | p :: ps, q :: qs, h1, h2, h => by
    obtain ⟨a1, b1⟩ := List.pairwise_cons.mp h1
    obtain ⟨a2, b2⟩ := List.pairwise_cons.mp h2
    have e : p = q := by
      rcases List.mem_cons.mp ((h p).mp List.mem_cons_self) with e | e
      · exact e
      · rcases List.mem_cons.mp ((h q).mpr List.mem_cons_self) with e' | e'
        · exact e'.symm
        · have := a2 p e
          have := a1 q e'
          omega
    subst e
    refine congrArg (p :: ·) (asc_eqZ b1 b2 fun z => ⟨fun hz => ?_, fun hz => ?_⟩)
    · rcases List.mem_cons.mp ((h z).mp (List.mem_cons_of_mem _ hz)) with e | e
      · have := a1 z hz
        omega
      · exact e
    · rcases List.mem_cons.mp ((h z).mpr (List.mem_cons_of_mem _ hz)) with e | e
      · have := a2 z hz
        omega
      · exact e
/-- neighbours within some vertices -/
def RWi (ns : List Int) (ps : List (Int × Int)) (a b : Int) : Prop := a ∈ ns ∧ b ∈ ns ∧ nrm (a, b) ∈ ps
theorem nrm_cm (u v : Int) : nrm (u, v) = nrm (v, u) := by
  unfold nrm
  exact Prod.ext (by dsimp only; omega) (by dsimp only; omega)
theorem RWi.symm {ns : List Int} {ps : List (Int × Int)} (a b : Int) (h : RWi ns ps a b) : RWi ns ps b a := ⟨h.2.1, h.1, nrm_cm a b ▸ h.2.2⟩
theorem Con.inn {ns : List Int} {ps : List (Int × Int)} {v z : Int} (hv : v ∈ ns) (h : Con (RWi ns ps) v z) : z ∈ ns := Con.closed (S := fun z => z ∈ ns) hv (fun _ _ _ r => r.2.1) h
/-- the classes of a graph: what the components are -/
structure Parts (ns : List Int) (ps : List (Int × Int)) (qs : List (List Int)) : Prop where
  asc : qs.Pairwise (fun x y => lexI x y = true)
  cls : ∀ c, c ∈ qs ↔ ∃ v ∈ ns, c.Pairwise (· < ·) ∧ ∀ z, z ∈ c ↔ Con (RWi ns ps) v z
theorem Parts.uniq {ns : List Int} {ps : List (Int × Int)} {qs rs : List (List Int)} (h : Parts ns ps qs) (k : Parts ns ps rs) : qs = rs := asc_eqL h.asc k.asc fun c => (h.cls c).trans (k.cls c).symm
/-- one part: all are connected with the first -/
theorem Parts.one {z : Int} {ns : List Int} {ps : List (Int × Int)} {qs : List (List Int)} (h : Parts (z :: ns) ps qs) (mk : ∀ v ∈ z :: ns, ∃ c ∈ qs, v ∈ c) : qs.length = 1 ↔ ∀ v ∈ z :: ns, Con (RWi (z :: ns) ps) z v := by
  obtain ⟨c0, hc0, z0⟩ := mk z List.mem_cons_self
  constructor
  · intro e v hv
    obtain ⟨c, hc, vc⟩ := mk v hv
    obtain ⟨x, rfl⟩ := List.length_eq_one_iff.mp e
    rw [List.mem_singleton.mp hc0] at z0
    rw [List.mem_singleton.mp hc] at vc
    obtain ⟨u, hu, _, mem⟩ := (h.cls x).mp List.mem_cons_self
    exact ((mem z).mp z0).symm (RWi.symm) |>.trans ((mem v).mp vc)
  · intro all
    have same : ∀ c ∈ qs, c = c0 := fun c hc => by
      obtain ⟨u, hu, a1, m1⟩ := (h.cls c).mp hc
      obtain ⟨u0, hu0, a2, m2⟩ := (h.cls c0).mp hc0
      refine asc_eqZ a1 a2 fun y => (m1 y).trans (Iff.trans ⟨fun k => ?_, fun k => ?_⟩ (m2 y).symm)
      · exact ((all u0 hu0).symm RWi.symm).trans ((all u hu).trans k)
      · exact ((all u hu).symm RWi.symm).trans ((all u0 hu0).trans k)
    match qs, hc0, same, h.asc with
    | [], hc, _, _ => cases hc
    | [_], _, _, _ => rfl
    | a :: b :: r, _, s, pw =>
      have e1 := s a List.mem_cons_self
      have e2 := s b (List.mem_cons_of_mem _ List.mem_cons_self)
      have := (List.pairwise_cons.mp pw).1 b List.mem_cons_self
      rw [e1, e2, lexI_irr] at this
      cases this

set_option Elab.async false
set_option linter.all false
set_option maxRecDepth 100000
set_option maxHeartbeats 4000000
open PySem PySem.Spec PyProof.Rows L2
/-! # t.index(x), t of ints -/
def rTIdx (K : PySem.W.Frag) : V → List V → Hp → VK → Prop := fun x xs H Q => ∃ (p : Addr) (ns : List Int) (k : Int), x = .ref p ∧ xs = [.int k] ∧ SqT K H p (ns.map V.int) ∧ k ∈ ns ∧ Q (.int (ns.idxOf k : Nat)) H
section
variable {X : Cx} {K : PySem.W.Frag}
theorem mt_tupIdx : MtR X "tuple.index" (rTIdx X.K) := by
  intro pins s σ H x xs v us Q I rx rs h
  obtain ⟨p, ns, k, rfl, rfl, hq, hk, q⟩ := h
  cases rx
  obtain ⟨u, rfl, t, rfl⟩ := vals1 rs
  obtain ⟨its, r, pl, hz⟩ := I.tuple hq
  exact SeqAt.tuple_index_ints (show s.heap.IsTuple p its.toArray from pl) r.ints hk ⟨.int _, H, I.tok _, ⟨_, rfl⟩, q⟩
theorem mt_tupIdxK (h : X.K = K) : MtR X "tuple.index" (rTIdx K) := h ▸ mt_tupIdx
end

set_option Elab.async false
set_option linter.all false
set_option maxRecDepth 100000
set_option maxHeartbeats 4000000
open PySem PySem.Spec PyProof.Rows L2
/-! # the bits of any whole number -/
def Bit (x : Int) (i : Nat) : Bool := if 0 ≤ x then x.toNat.testBit i else !(Builtin.bitNot x).toNat.testBit i
theorem Bit_nn {x : Int} (h : 0 ≤ x) (i : Nat) : Bit x i = x.toNat.testBit i := if_pos h
theorem Bit_neg {x : Int} (h : x < 0) (i : Nat) : Bit x i = !(Builtin.bitNot x).toNat.testBit i := if_neg (by omega)
theorem bitNot_not (x : Int) : Builtin.bitNot (Builtin.bitNot x) = x := by unfold Builtin.bitNot; omega
theorem Bit_not (x : Int) (i : Nat) : Bit (Builtin.bitNot x) i = !Bit x i := by
  by_cases h : 0 ≤ x
  · rw [Bit_nn h, Bit_neg (by unfold Builtin.bitNot; omega), bitNot_not]
  · rw [Bit_neg (x := x) (by omega), Bit_nn (by unfold Builtin.bitNot; omega), Bool.not_not]
theorem sub_and_bits (a b i : Nat) : (a - (a &&& b)).testBit i = (a.testBit i && !b.testBit i) := by
  have e : a - (a &&& b) = a ^^^ (a &&& b) := by
    have h1 := Bits.bitXor_pp (x := a) (y := ((a &&& b : Nat) : Int)) (by omega) (by omega)
    have h2 := bitXor_and (a : Int) ((a &&& b : Nat) : Int)
    rw [bitAnd_pp (x := a) (y := ((a &&& b : Nat) : Int)) (by omega) (by omega)] at h2
    rw [Int.toNat_natCast, Int.toNat_natCast] at h1 h2
    have e3 : a &&& (a &&& b) = a &&& b := by
      apply Nat.eq_of_testBit_eq
      intro j
      rw [Nat.testBit_and, Nat.testBit_and]
      cases a.testBit j <;> simp
    rw [e3] at h2
    have : a &&& b ≤ a := Nat.and_le_left
    omega
  rw [e, Nat.testBit_xor, Nat.testBit_and]
  cases a.testBit i <;> cases b.testBit i <;> rfl
theorem bitAnd_pn {x y : Int} (hx : 0 ≤ x) (hy : y < 0) : Builtin.bitAnd x y = ((x.toNat - (x.toNat &&& (Builtin.bitNot y).toNat) : Nat) : Int) := by
  have h : x.toNat &&& (Builtin.bitNot y).toNat ≤ x.toNat := Nat.and_le_left
  have : Builtin.bitAnd x y = x - ((x.toNat &&& (Builtin.bitNot y).toNat : Nat) : Int) := by
    unfold Builtin.bitAnd
    rw [decide_eq_true hx, decide_eq_false (by omega : ¬ 0 ≤ y)]
  omega
theorem bitAnd_np {x y : Int} (hx : x < 0) (hy : 0 ≤ y) : Builtin.bitAnd x y = ((y.toNat - (y.toNat &&& (Builtin.bitNot x).toNat) : Nat) : Int) := by
  have h : y.toNat &&& (Builtin.bitNot x).toNat ≤ y.toNat := Nat.and_le_left
  have : Builtin.bitAnd x y = y - ((y.toNat &&& (Builtin.bitNot x).toNat : Nat) : Int) := by
    unfold Builtin.bitAnd
    rw [decide_eq_false (by omega : ¬ 0 ≤ x), decide_eq_true hy]
  omega
theorem bitAnd_nn {x y : Int} (hx : x < 0) (hy : y < 0) : Builtin.bitAnd x y = Builtin.bitNot (((Builtin.bitNot x).toNat ||| (Builtin.bitNot y).toNat : Nat) : Int) := by
  unfold Builtin.bitAnd
  rw [decide_eq_false (by omega : ¬ 0 ≤ x), decide_eq_false (by omega : ¬ 0 ≤ y)]
theorem Bit_and (x y : Int) (i : Nat) : Bit (Builtin.bitAnd x y) i = (Bit x i && Bit y i) := by
  by_cases hx : 0 ≤ x <;> by_cases hy : 0 ≤ y
  · rw [bitAnd_pp hx hy, Bit_nn (by omega), Bit_nn hx, Bit_nn hy, Int.toNat_natCast, Nat.testBit_and]
  · rw [bitAnd_pn hx (by omega), Bit_nn (by omega), Bit_nn hx, Bit_neg (by omega), Int.toNat_natCast, sub_and_bits]
  · rw [bitAnd_np (by omega) hy, Bit_nn (by omega), Bit_nn hy, Bit_neg (by omega), Int.toNat_natCast, sub_and_bits, Bool.and_comm]
  · rw [bitAnd_nn (by omega) (by omega), Bit_not, Bit_nn (by omega), Bit_neg (by omega), Bit_neg (by omega), Int.toNat_natCast, Nat.testBit_or, Bool.not_or]
theorem Bit_or (x y : Int) (i : Nat) : Bit (Builtin.bitOr x y) i = (Bit x i || Bit y i) := by
  show Bit (Builtin.bitNot (Builtin.bitAnd (Builtin.bitNot x) (Builtin.bitNot y))) i = _
  rw [Bit_not, Bit_and, Bit_not, Bit_not, Bool.not_and, Bool.not_not, Bool.not_not]
theorem bitAnd_left {x y : Int} (hx : 0 ≤ x) : 0 ≤ Builtin.bitAnd x y := by
  by_cases hy : 0 ≤ y
  · rw [bitAnd_pp hx hy]; omega
  · rw [bitAnd_pn hx (by omega)]; omega
theorem bitAnd_right {x y : Int} (hy : 0 ≤ y) : 0 ≤ Builtin.bitAnd x y := by
  by_cases hx : 0 ≤ x
  · rw [bitAnd_pp hx hy]; omega
  · rw [bitAnd_np (by omega) hy]; omega
/-- the lowest bit -/
theorem low_nat : ∀ n : Nat, 0 < n → ∃ k, n.testBit k = true ∧ (∀ i, i < k → n.testBit i = false) ∧ 2 ^ k ≤ n ∧ n &&& (n - 1) = n - 2 ^ k := by
  intro n
  induction n using Nat.strongRecOn with
  | _ n ih =>
    intro h
    by_cases c : n % 2 = 1
    · refine ⟨0, by rw [Nat.testBit_zero]; exact decide_eq_true c, fun i hi => absurd hi (Nat.not_lt_zero _), by rw [Nat.pow_zero]; exact h, ?_⟩
      rw [Nat.pow_zero]
      apply Nat.eq_of_testBit_eq
      intro j
      rw [Nat.testBit_and]
      cases j with
      | zero =>
        rw [Nat.testBit_zero, Nat.testBit_zero, decide_eq_true c, Bool.true_and]
      | succ j =>
        rw [Nat.testBit_succ, Nat.testBit_succ, show (n - 1) / 2 = n / 2 by omega, Bool.and_self]
    · obtain ⟨k, h1, h2, h3, h4⟩ := ih (n / 2) (by omega) (by omega)
      have e2 : 2 ^ (k + 1) = 2 * 2 ^ k := by rw [Nat.pow_succ]; omega
      refine ⟨k + 1, by rw [Nat.testBit_succ]; exact h1, fun i hi => ?_, by omega, ?_⟩
      · cases i with
        | zero => rw [Nat.testBit_zero]; exact decide_eq_false c
        | succ i => rw [Nat.testBit_succ]; exact h2 i (by omega)
      · have e3 : n - 2 ^ (k + 1) = 2 * (n / 2 - 2 ^ k) := by omega
        rw [e3, ← h4]
        apply Nat.eq_of_testBit_eq
        intro j
        rw [Nat.testBit_and]
        cases j with
        | zero =>
          rw [Nat.testBit_zero, Nat.testBit_zero, Nat.testBit_zero, decide_eq_false c, Bool.false_and]
          exact (decide_eq_false (by omega)).symm
        | succ j =>
          rw [Nat.testBit_succ, Nat.testBit_succ, Nat.testBit_succ, show (n - 1) / 2 = n / 2 - 1 by omega, show 2 * (n / 2 &&& (n / 2 - 1)) / 2 = (n / 2 &&& (n / 2 - 1)) by omega, Nat.testBit_and]
/-- x & -x, and what is left of x without it -/
theorem low_bit {x : Int} (h : 0 < x) : ∃ k : Nat, Builtin.bitAnd x (-x) = ((2 ^ k : Nat) : Int) ∧ Bit x k = true ∧ (∀ i, i < k → Bit x i = false) ∧ 0 ≤ Builtin.bitXor x (Builtin.bitAnd x (-x)) ∧ Builtin.bitXor x (Builtin.bitAnd x (-x)) < x ∧
    ∀ i, Bit (Builtin.bitXor x (Builtin.bitAnd x (-x))) i = (Bit x i && !decide (i = k)) := by
  obtain ⟨k, h1, h2, h3, h4⟩ := low_nat x.toNat (by omega)
  have p0 : 0 < 2 ^ k := Nat.two_pow_pos k
  have tb : ∀ j, (2 ^ k).testBit j = decide (k = j) := fun j => Nat.testBit_two_pow
  refine ⟨k, ?_⟩
  generalize 2 ^ k = p at *
  have e : Builtin.bitAnd x (-x) = (p : Int) := by
    rw [bitAnd_pn (by omega) (by omega), show (Builtin.bitNot (-x)).toNat = x.toNat - 1 by unfold Builtin.bitNot; omega, h4]
    omega
  have e5 : x.toNat ^^^ p = x.toNat - p := by
    rw [← h4]
    apply Nat.eq_of_testBit_eq
    intro j
    rw [Nat.testBit_xor, tb]
    by_cases c : k = j
    · subst c
      rw [h1, decide_eq_true rfl, Nat.testBit_and, h1]
      have h9 := sub_and_bits x.toNat (x.toNat - 1) k
      rw [h4, show x.toNat - (x.toNat - p) = p by omega, tb, decide_eq_true rfl, h1] at h9
      revert h9
      cases (x.toNat - 1).testBit k <;> simp
    · have h9 := sub_and_bits x.toNat (x.toNat - 1) j
      rw [h4, show x.toNat - (x.toNat - p) = p by omega, tb, decide_eq_false c] at h9
      rw [decide_eq_false c, Nat.testBit_and]
      revert h9
      cases x.toNat.testBit j <;> cases (x.toNat - 1).testBit j <;> simp
  have e7 : Builtin.bitXor x (p : Int) = ((x.toNat ^^^ p : Nat) : Int) := by
    rw [Bits.bitXor_pp (by omega) (by omega), Int.toNat_natCast]
  rw [e, e7]
  refine ⟨rfl, by rw [Bit_nn (by omega)]; exact h1, fun i hi => by rw [Bit_nn (by omega)]; exact h2 i hi, by omega, by rw [e5]; omega, fun i => ?_⟩
  rw [Bit_nn (by omega), Int.toNat_natCast, Nat.testBit_xor, tb, Bit_nn (by omega)]
  by_cases c : i = k
  · subst c
    rw [h1]
    simp
  · rw [decide_eq_false c, decide_eq_false (fun z => c z.symm)]
    cases x.toNat.testBit i <;> rfl
theorem intBits_pow (k : Nat) : Builtin.Int.intBits ((2 ^ k : Nat) : Int) = k + 1 := by
  unfold Builtin.Int.intBits
  have p : 0 < 2 ^ k := Nat.two_pow_pos k
  rw [Int.natAbs_natCast, Nat.log2_two_pow, if_neg]
  generalize 2 ^ k = q at *
  rw [beq_iff_eq]
  omega

set_option Elab.async false
set_option linter.all false
set_option maxRecDepth 100000
set_option maxHeartbeats 4000000
open PySem PySem.Spec PyProof.Rows L2
/-! # masks: their lowest bit, what is not in them -/
def Bts (x : Int) (S : Int → Prop) : Prop := ∀ i : Nat, Bit x i = true ↔ S i
theorem Msk.bts {x : Int} {S : Int → Prop} (a : Msk x S) : Bts x S := fun i => by rw [Bit_nn a.nn]; exact a.bits i
theorem Msk.of {x : Int} {S : Int → Prop} (h : 0 ≤ x) (b : Bts x S) : Msk x S := ⟨h, fun i => by rw [← Bit_nn h]; exact b i⟩
theorem Bts.not {x : Int} {S : Int → Prop} (a : Bts x S) : Bts (Builtin.bitNot x) (fun i => ¬ S i) := fun i => by
  show Bit (Builtin.bitNot x) i = true ↔ ¬ S i
  rw [Bit_not, ← a i]
  cases Bit x i <;> simp
theorem Bts.and {x y : Int} {S T : Int → Prop} (a : Bts x S) (b : Bts y T) : Bts (Builtin.bitAnd x y) (fun i => S i ∧ T i) := fun i => by
  rw [Bit_and, Bool.and_eq_true, a i, b i]
theorem Bts.or {x y : Int} {S T : Int → Prop} (a : Bts x S) (b : Bts y T) : Bts (Builtin.bitOr x y) (fun i => S i ∨ T i) := fun i => by
  rw [Bit_or, Bool.or_eq_true, a i, b i]
theorem Msk.andB {x y : Int} {S T : Int → Prop} (a : Msk x S) (b : Bts y T) : Msk (Builtin.bitAnd x y) (fun i => S i ∧ T i) := .of (bitAnd_left a.nn) (a.bts.and b)
theorem Msk.bAnd {x y : Int} {S T : Int → Prop} (a : Bts x S) (b : Msk y T) : Msk (Builtin.bitAnd x y) (fun i => S i ∧ T i) := .of (bitAnd_right b.nn) (a.and b.bts)
/-- all vertices below n -/
theorem Msk.full {n : Int} (h : 0 ≤ n) : Msk (1 * 2 ^ n.toNat - 1) (fun i => i < n) := by
  have e : (1 * 2 ^ n.toNat - 1 : Int) = ((2 ^ n.toNat - 1 : Nat) : Int) := by
    have p := Nat.two_pow_pos n.toNat
    have c := PySem.W.kbt_cast n.toNat
    generalize 2 ^ n.toNat = q at *
    omega
  rw [e]
  refine ⟨Int.natCast_nonneg _, fun i => ?_⟩
  rw [Int.toNat_natCast, Nat.testBit_two_pow_sub_one, decide_eq_true_eq]
  omega
theorem Msk.sub {x y : Int} {S T : Int → Prop} (a : Msk x S) (b : Msk y T) (h : ∀ i : Nat, S i ↔ T i) : x = y := (a.congr h).uniq b
theorem Msk.eq_iff {x y : Int} {S T : Int → Prop} (a : Msk x S) (b : Msk y T) : x = y ↔ ∀ i : Nat, S i ↔ T i := by
  refine ⟨fun e i => ?_, a.sub b⟩
  subst e
  exact (a.bits i).symm.trans (b.bits i)
/-- x.bit_length() -/
def rBitLen : V → List V → Hp → VK → Prop := fun x xs H Q => ∃ i : Int, x = .int i ∧ xs = [] ∧ Q (.int (Builtin.Int.intBits i)) H
theorem mt_bitlen {X : Cx} : MtR X "int.bit_length" rBitLen := by
  intro pins s σ H x xs v us Q I rx rv h
  obtain ⟨i, rfl, rfl, q⟩ := h
  obtain ⟨t, rfl⟩ := rx
  have hus : us = [] := rv.zero
  subst hus
  exact call_int_bit_length ⟨.int _, H, I.tok _, ⟨_, rfl⟩, q⟩
section
variable {K : PySem.W.Frag} {σ : L2.St} {H : Hp} {Q : VK}
theorem r_bm0I {r : V → List V → Hp → VK → Prop} {i : Int} (q : r (.int i) [] H Q) : Bm0 K "int" r Q (.int i) H := ⟨rfl, q⟩
theorem r_bitlen {i : Int} (q : Q (.int (Builtin.Int.intBits i)) H) : rBitLen (.int i) [] H Q := ⟨i, rfl, rfl, q⟩
theorem r_augI {i : Nat} {f : Int → Int → V} {nx : L2.St → Hp → Prop} {a b : Int} {σ' : L2.St} (e : σ.set i (some (f a b)) = σ') (h : nx σ' H) : AugN i (rI0 f) σ nx (.int a) (.int b) H := ⟨a, b, rfl, rfl, by subst e; exact h⟩
end

set_option Elab.async false
set_option linter.all false
set_option maxRecDepth 100000
set_option maxHeartbeats 4000000
open PySem PySem.Spec PySem.W PyProof.Rows L2
/-! # the least of a list of data -/
theorem min_go : ∀ (ds : List PyData) (d : PyData), minD d ds ∈ d :: ds ∧ ∀ y ∈ d :: ds, dataLt y (minD d ds) = false := by
  intro ds
  induction ds with
  | nil =>
    intro d
    refine ⟨List.mem_cons_self, fun y hy => ?_⟩
    rw [List.mem_singleton.mp hy]
    exact lex_irrefl (O := itemOrd) _
  | cons e ds ih =>
    intro d
    have step : minD d (e :: ds) = minD (if dataLt e d then e else d) ds := rfl
    rw [step]
    by_cases c : dataLt e d = true
    · rw [if_pos c]
      obtain ⟨h1, h2⟩ := ih e
      refine ⟨List.mem_cons_of_mem _ h1, fun y hy => ?_⟩
      rcases List.mem_cons.mp hy with rfl | hy
      · have h3 := h2 e List.mem_cons_self
        cases q : dataLt y (minD e ds) with
        | false => rfl
        | true =>
          have := lex_trans (O := itemOrd) _ _ _ c q
          exact absurd (h3.symm.trans this) Bool.false_ne_true
      · exact h2 y hy
    · rw [if_neg c]
      obtain ⟨h1, h2⟩ := ih d
      refine ⟨?_, fun y hy => ?_⟩
      · rcases List.mem_cons.mp h1 with h | h
        · rw [h]
          exact List.mem_cons_self
        · exact List.mem_cons_of_mem _ (List.mem_cons_of_mem _ h)
      · rcases List.mem_cons.mp hy with rfl | hy
        · exact h2 y List.mem_cons_self
        · rcases List.mem_cons.mp hy with rfl | hy
          · cases q : dataLt y (minD d ds) with
            | false => rfl
            | true =>
              rcases lex_negTrans (O := itemOrd) _ (keyToks d) _ q with z | z
              · exact absurd z c
              · exact absurd ((h2 d List.mem_cons_self).symm.trans z) Bool.false_ne_true
          · exact h2 y (List.mem_cons_of_mem _ hy)
def rMinD (K : PySem.W.Frag) : List V → Hp → VK → Prop := fun vs H Q => ∃ (a : Addr) (xs : List V) (d : PyData) (ds : List PyData), vs = [.ref a] ∧ SqL K H a xs ∧ DpAll K H xs (d :: ds) ∧ AlikeAll (d :: ds) ∧ PyData.depthAll (d :: ds) ≤ 60 ∧
  ∀ (i : Nat) (x : V), xs[i]? = some x → (d :: ds)[i]? = some (minD d ds) → Q x H
section
variable {X : Cx}
theorem dpall_at {K : PySem.W.Frag} {H : Hp} : ∀ {xs : List V} {ds : List PyData} (i : Nat) {x : V}, DpAll K H xs ds → xs[i]? = some x → ∃ d, ds[i]? = some d ∧ Dp K H x d
  | _, _, _, _, .nil, h => by simp at h
  | _, _, 0, _, .cons h _, e => ⟨_, rfl, by
    have := Option.some.inj e
    exact this ▸ h⟩
  | _, _, i + 1, _, .cons _ t, e => dpall_at i t e
theorem cr_minD (hc : X.calm = true) (hu : X.A.units + 64 < cLine) : CallR X (.builtin "min") (rMinD X.K) := by
  intro pins s σ H vs us Q I r h
  obtain ⟨a, xs, d, ds, rfl, hl, hd, al, dep, q⟩ := h
  rw [Vals.ref1 r]
  obtain ⟨its, rv, hL, hz⟩ := I.list hl
  obtain ⟨as, ra⟩ := Dp.readsAll I (d :: ds) xs its hd rv
  refine min_list_data (I.ok.hd hc) hL.isList (by simpa using ra) al (by omega) fun i v h' tk bs hi rd hk => ?_
  have hi' : its[i]? = some v := by simpa using hi
  obtain ⟨x, hx, rx⟩ := pd_get2 rv hi'
  obtain ⟨d', hd', dx⟩ := dpall_at i hd hx
  obtain ⟨bs', rd'⟩ := Dp.reads I d' x v dx rx
  have e := (reads_det (fun b o z _ => hk b o z) rd' rd).1
  exact ⟨x, H, I.kept hk, rx, q i x hx (e ▸ hd')⟩
theorem cr_minDK {K : PySem.W.Frag} (h : X.K = K) (hc : X.calm = true) (hu : X.A.units + 64 < cLine) : CallR X (.builtin "min") (rMinD K) := h ▸ cr_minD hc hu
end

set_option Elab.async false
set_option linter.all false
set_option maxRecDepth 100000
set_option maxHeartbeats 4000000
open PySem PySem.Spec PyProof.Rows L2
/-! # ranges downwards, methods of tuples, slices of lists -/
section
variable {X : Cx} {K : PySem.W.Frag} {σ : L2.St} {H : Hp} {Q : VK}
def Rg3N (R : It → Hp → Prop) (vs : List V) (H1 : Hp) : Prop := ∃ (i j c : Int) (n : Nat), vs = [.int i, .int j, .int c] ∧ RgC i j c n ∧ R (Itc i c n) H1
theorem r_rng3 {ta : TA} {R : It → Hp → Prop} (h : ta σ H (Rg3N R)) : iRng3 ta σ H R := h
theorem r_rg3 {i j : Int} {R : It → Hp → Prop} (h1 : -4611686018427387904 ≤ i ∧ i < 4611686018427387904 ∧ -4611686018427387904 ≤ j ∧ j < 4611686018427387904) (h : R (Itc i (-1) (i - j).toNat) H) : Rg3N R [V.int i, V.int j, V.int (-1)] H :=
  ⟨i, j, -1, _, rfl, RgC.neg h1.1 h1.2.1 h1.2.2.1 h1.2.2.2, h⟩
theorem forR_rangeC {lo c : Int} {n : Nat} {g : TG} {tb : TS} {nx : L2.St → Hp → Prop} (Pv : Nat → L2.St → Hp → Prop) (h0 : Pv 0 σ H)
    (hs : ∀ (i : Nat) σ H, i < n → Pv i σ H → g (.int (lo + (i : Nat) * c)) σ H fun σ2 H2 => tb ⟨Pv (i + 1), Q, nx, Pv (i + 1)⟩ σ2 H2) (hd : ∀ σ H, Pv n σ H → nx σ H) : ForR (Itc lo c n) g tb nx Q σ H :=
  for_rangeC (D := ⟨nx, Q, nx, nx⟩) Pv h0 hs hd
/-- tuple(l), its object known not to have a dict -/
def rTupF (K : PySem.W.Frag) : List V → Hp → VK → Prop := fun vs H Q => ∃ (p : Addr) (ys : List V), vs = [V.ref p] ∧ SqL K H p ys ∧ ∀ (l : Addr) (o : Obj), H l = none → o.dict = none → Q (.ref l) (upd H l (.frz o (.tup ys)))
theorem cr_tupF : CallR X (.type "tuple") (rTupF X.K) := by
  intro pins s σ H xs us Q I r h
  obtain ⟨p, ys, rfl, hq, q⟩ := h
  rw [Vals.ref1 r]
  obtain ⟨its, rv, pl, hz⟩ := I.list hq
  have len := rv.length
  refine call_tuple_list pl.isList (fun h' kp => ?_) (by rw [List.size_toArray, ← len]; exact hz)
  have I1 : Inv X pins σ H { s with heap := h' } := I.kept kp
  have new : ObjOk X.prog X.w (upd H h'.objs.size (.frz { cls := .type "tuple", data := .seq its.toArray } (.tup ys))) (h'.push { cls := .type "tuple", data := .seq its.toArray }) h'.objs.size (.frz { cls := .type "tuple", data := .seq its.toArray } (.tup ys)) :=
    ⟨Heap.get?_push_size _ rfl, hz, its, rv, IsTup.new _ _⟩
  exact ⟨.ref h'.objs.size, _, I1.laid (fun b o e => Heap.get?_push_of_some _ e) (Nat.le_refl _) new, rfl, q _ _ (I1.hok.fresh (Nat.le_refl _)) rfl⟩
theorem cr_tupFK (h : X.K = K) : CallR X (.type "tuple") (rTupF K) := h ▸ cr_tupF
theorem cr_sortedK (h : X.K = K) : CallR X (.builtin "sorted") (rSorted K) := h ▸ cr_sorted
/-- a method of such a tuple, with arguments -/
def FrT (H : Hp) (p : Addr) (ys : List V) : Prop := ∃ o : Obj, H p = some (.frz o (.tup ys)) ∧ o.dict = none
def tBU (r : V → List V → Hp → VK → Prop) (to : TE) (t : TA) : TE := fun σ H Q => to σ H fun x H1 => (∃ p ys, x = V.ref p ∧ FrT H1 p ys) ∧ t σ H1 fun xs H2 => r x xs H2 Q
theorem tup_type {pins : List (Addr × Obj)} {s : Shared} {p : Addr} {ys : List V} (I : Inv X pins σ H s) (h : FrT H p ys) : s.TypeIs (.ref p) "tuple" ∧ ∀ a, Value.ref p = .ref a → ∃ ob, s.heap.get? a = some ob ∧ ob.dict = none := by
  obtain ⟨o, ho, nd⟩ := h
  obtain ⟨g, _, its, _, ⟨o', ho', hc, _⟩⟩ := I.hok p _ ho
  have e : o' = o := Option.some.inj (ho'.symm.trans g)
  subst e
  refine ⟨⟨o', ho', hc⟩, fun a e => ?_⟩
  cases e
  exact ⟨o', ho', nd⟩
theorem pe_bu {ob ar : Expr} {rest : List Expr} {to : TE} {t : TA} {nm : Str} {ap cp : Pos} {id : String} {r : V → List V → Hp → VK → Prop} (pa : PlainAttrs "tuple") (sl : Slot "tuple" nm id) (ty : typeOf (.builtin id) = pure (.type "method_descriptor")) (hm : MtR X id r) (ho : PE X ob to) (ha : PA X (ar :: rest) t)
    (hb : attributeBase ob nm X.env (eval ob X.env) = eval ob X.env := by rfl)
    (hf : ((backTo cp (starEach (ar :: rest) X.env)).all (fun x => !x.1) && (backToKw cp (keywordEach [] X.env)).all (fun x => x.1.isSome) && decide ((ar :: rest).length + ([] : List Keyword).length + (if ([] : List Keyword).isEmpty then 0 else 1) < 30)) = true := by rfl)
    (hl : (ap.endLine == cp.line) = true := by rfl) (hs : starEach (ar :: rest) X.env = (false, eval ar X.env) :: starEach rest X.env := by rfl) (hp : (backTo cp (starEach rest X.env)).any (·.1) = false := by rfl) : PE X (.Call (.Attribute ob nm ap) (ar :: rest) [] cp) (tBU r to t) := by
  refine ⟨fun pins s σ H Q I h => ?_⟩
  refine wpAny_Call_method_late hb hf hl rfl (thn (ho.run pins s σ H _ I h) fun v s1 z => ?_)
  obtain ⟨x, H1, I1, r1, ⟨p, ys, e, hq⟩, q1⟩ := z
  subst e
  cases r1
  obtain ⟨t1, t2⟩ := tup_type I1 hq
  refine ⟨"tuple", id, pa, sl, ty, t1, t2, ?_⟩
  have hA := ha.run cp pins s1 σ H1 _ I1 q1
  rw [hs] at hA ⊢
  refine Calls.callWith_builtin (by show (false || (backTo cp (starEach rest X.env)).any (·.1)) = false; rw [hp]; rfl) (Calls.evalArgs_plain ?_)
  exact thn hA fun us s2 ⟨vs, H2, I2, r2, q2⟩ => hm pins s2 σ H2 _ vs _ us Q I2 (show L2.RelV (V.ref p) (Value.ref p) from rfl) r2 q2
def BuN (r : V → List V → Hp → VK → Prop) (t : TA) (σ : L2.St) (Q : VK) : VK := fun x H1 => (∃ p ys, x = V.ref p ∧ FrT H1 p ys) ∧ t σ H1 fun xs H2 => r x xs H2 Q
theorem r_bu {r : V → List V → Hp → VK → Prop} {to : TE} {t : TA} (h : to σ H (BuN r t σ Q)) : tBU r to t σ H Q := h
theorem r_buT {r : V → List V → Hp → VK → Prop} {t : TA} {p : Addr} {ys : List V} (h : FrT H p ys) (q : t σ H fun xs H2 => r (.ref p) xs H2 Q) : BuN r t σ Q (.ref p) H := ⟨⟨p, ys, rfl, h⟩, q⟩
theorem r_tupF {p : Addr} {ys : List V} (h : SqL K H p ys) (q : ∀ (l : Addr) (o : Obj), H l = none → o.dict = none → Q (.ref l) (upd H l (.frz o (.tup ys)))) : rTupF K [.ref p] H Q := ⟨p, ys, rfl, h, q⟩
theorem FrT.sq {p : Addr} {ys : List V} (h : FrT H p ys) : SqT K H p ys := by
  obtain ⟨o, h, _⟩ := h
  exact .inl (.inr ⟨o, h⟩)
theorem r_name14 {x0 x1 x2 x3 x4 x5 x6 x7 x8 x9 x10 x11 x12 x13 x14 : Option V} {σ : L2.St} {v : V} {q : L2.St → Hp → Prop} (h : q (x0 :: x1 :: x2 :: x3 :: x4 :: x5 :: x6 :: x7 :: x8 :: x9 :: x10 :: x11 :: x12 :: x13 :: some v :: σ) H) : gName 14 v (x0 :: x1 :: x2 :: x3 :: x4 :: x5 :: x6 :: x7 :: x8 :: x9 :: x10 :: x11 :: x12 :: x13 :: x14 :: σ) H q := h
theorem r_name15 {x0 x1 x2 x3 x4 x5 x6 x7 x8 x9 x10 x11 x12 x13 x14 x15 : Option V} {σ : L2.St} {v : V} {q : L2.St → Hp → Prop} (h : q (x0 :: x1 :: x2 :: x3 :: x4 :: x5 :: x6 :: x7 :: x8 :: x9 :: x10 :: x11 :: x12 :: x13 :: x14 :: some v :: σ) H) : gName 15 v (x0 :: x1 :: x2 :: x3 :: x4 :: x5 :: x6 :: x7 :: x8 :: x9 :: x10 :: x11 :: x12 :: x13 :: x14 :: x15 :: σ) H q := h
theorem r_name16 {x0 x1 x2 x3 x4 x5 x6 x7 x8 x9 x10 x11 x12 x13 x14 x15 x16 : Option V} {σ : L2.St} {v : V} {q : L2.St → Hp → Prop} (h : q (x0 :: x1 :: x2 :: x3 :: x4 :: x5 :: x6 :: x7 :: x8 :: x9 :: x10 :: x11 :: x12 :: x13 :: x14 :: x15 :: some v :: σ) H) : gName 16 v (x0 :: x1 :: x2 :: x3 :: x4 :: x5 :: x6 :: x7 :: x8 :: x9 :: x10 :: x11 :: x12 :: x13 :: x14 :: x15 :: x16 :: σ) H q := h
theorem r_name17 {x0 x1 x2 x3 x4 x5 x6 x7 x8 x9 x10 x11 x12 x13 x14 x15 x16 x17 : Option V} {σ : L2.St} {v : V} {q : L2.St → Hp → Prop} (h : q (x0 :: x1 :: x2 :: x3 :: x4 :: x5 :: x6 :: x7 :: x8 :: x9 :: x10 :: x11 :: x12 :: x13 :: x14 :: x15 :: x16 :: some v :: σ) H) : gName 17 v (x0 :: x1 :: x2 :: x3 :: x4 :: x5 :: x6 :: x7 :: x8 :: x9 :: x10 :: x11 :: x12 :: x13 :: x14 :: x15 :: x16 :: x17 :: σ) H q := h
theorem r_name18 {x0 x1 x2 x3 x4 x5 x6 x7 x8 x9 x10 x11 x12 x13 x14 x15 x16 x17 x18 : Option V} {σ : L2.St} {v : V} {q : L2.St → Hp → Prop} (h : q (x0 :: x1 :: x2 :: x3 :: x4 :: x5 :: x6 :: x7 :: x8 :: x9 :: x10 :: x11 :: x12 :: x13 :: x14 :: x15 :: x16 :: x17 :: some v :: σ) H) : gName 18 v (x0 :: x1 :: x2 :: x3 :: x4 :: x5 :: x6 :: x7 :: x8 :: x9 :: x10 :: x11 :: x12 :: x13 :: x14 :: x15 :: x16 :: x17 :: x18 :: σ) H q := h
theorem r_name19 {x0 x1 x2 x3 x4 x5 x6 x7 x8 x9 x10 x11 x12 x13 x14 x15 x16 x17 x18 x19 : Option V} {σ : L2.St} {v : V} {q : L2.St → Hp → Prop} (h : q (x0 :: x1 :: x2 :: x3 :: x4 :: x5 :: x6 :: x7 :: x8 :: x9 :: x10 :: x11 :: x12 :: x13 :: x14 :: x15 :: x16 :: x17 :: x18 :: some v :: σ) H) : gName 19 v (x0 :: x1 :: x2 :: x3 :: x4 :: x5 :: x6 :: x7 :: x8 :: x9 :: x10 :: x11 :: x12 :: x13 :: x14 :: x15 :: x16 :: x17 :: x18 :: x19 :: σ) H q := h
theorem r_tidx {p : Addr} {ns : List Int} {k : Int} (h : SqT K H p (ns.map V.int)) (hk : k ∈ ns) (q : Q (.int (ns.idxOf k : Nat)) H) : rTIdx K (.ref p) [.int k] H Q := ⟨p, ns, k, rfl, rfl, h, hk, q⟩
/-- xs[:k], xs[k:-1] -/
theorem r_slLTo {a : Addr} {xs : List V} {k : Nat} (h : SqL K H a xs) (hk : k ≤ xs.length) (q : ∀ p, H p = none → Q (.ref p) (upd H p (.lst (xs.take k)))) : rSlL K (.ref a) none (some (k : Int)) H Q :=
  ⟨a, xs, rfl, h, by rw [cut_to xs k hk]; exact q⟩
theorem cut_mid (xs : List V) (k : Nat) (h : k < xs.length) : cutV xs (some (k : Int)) (some (-1)) = xs.dropLast.drop k := by
  unfold cutV
  have e : HT.sIx xs.length xs.length (some (-1)) = xs.length - 1 := by
    show (if (-1 : Int) < 0 then ((-1 : Int) + (xs.length : Int)).toNat else min (-1 : Int).toNat xs.length) = xs.length - 1
    rw [if_pos (by omega)]
    omega
  rw [e, HT.sIx_nat, Nat.min_eq_left (by omega), List.dropLast_eq_take, List.drop_take]
theorem r_slLMid {a : Addr} {xs : List V} {k : Nat} (h : SqL K H a xs) (hk : k < xs.length) (q : ∀ p, H p = none → Q (.ref p) (upd H p (.lst (xs.dropLast.drop k)))) : rSlL K (.ref a) (some (k : Int)) (some (-1)) H Q :=
  ⟨a, xs, rfl, h, by rw [cut_mid xs k hk]; exact q⟩
theorem r_slTFrom {a : Addr} {x : V} {xs : List V} (h : SqT K H a (x :: xs)) (q : ∀ p, H p = none → Q (.ref p) (upd H p (.tup xs))) : rSlT K (.ref a) (some 1) none H Q := by
  refine ⟨a, x :: xs, rfl, h, ?_, ?_⟩
  · have e : HT.sIx (x :: xs).length 0 (some 1) = 1 := by
      rw [show (1 : Int) = ((1 : Nat) : Int) from rfl, HT.sIx_nat]
      simp
    rw [e]
    exact fun z => absurd z.1 (by decide)
  · have e := cut_from (x :: xs) 1 (by simp)
    rw [show ((1 : Nat) : Int) = 1 from rfl] at e
    rw [e]
    exact q
end

set_option Elab.async false
set_option linter.all false
set_option maxRecDepth 100000
set_option maxHeartbeats 4000000
open PySem PySem.Spec PySem.W PyProof.Rows L2
/-! # sorted of a list of data -/
theorem dLe_trans (a b c : PyData) (h1 : (!dataLt b a) = true) (h2 : (!dataLt c b) = true) : (!dataLt c a) = true := by
  cases q : dataLt c a with
  | false => rfl
  | true =>
    rw [Bool.not_eq_true'] at h1 h2
    rcases lex_negTrans (O := itemOrd) _ (keyToks b) _ q with z | z
    · exact absurd (h2.symm.trans z) Bool.false_ne_true
    · exact absurd (h1.symm.trans z) Bool.false_ne_true
theorem dLe_total (a b : PyData) : (!dataLt b a || !dataLt a b) = true := by
  cases p : dataLt b a with
  | false => rfl
  | true =>
    cases q : dataLt a b with
    | false => rfl
    | true =>
      have h := lex_trans (O := itemOrd) _ _ _ p q
      exact absurd ((lex_irrefl (O := itemOrd) _).symm.trans h) Bool.false_ne_true
theorem zip_snd {K : PySem.W.Frag} {H : Hp} : ∀ {xs : List V} {ds : List PyData}, DpAll K H xs ds → (xs.zip ds).map Prod.snd = ds
  | _, _, .nil => rfl
  | _, _, .cons _ t => by rw [List.zip_cons_cons, List.map_cons, zip_snd t]
theorem dp_len {K : PySem.W.Frag} {H : Hp} : ∀ {xs : List V} {ds : List PyData}, DpAll K H xs ds → xs.length = ds.length
  | _, _, .nil => rfl
  | _, _, .cons _ t => by rw [List.length_cons, List.length_cons, dp_len t]
theorem zip_dp {K : PySem.W.Frag} {H : Hp} : ∀ {xs : List V} {ds : List PyData}, DpAll K H xs ds → ∀ b ∈ xs.zip ds, Dp K H b.1 b.2
  | _, _, .nil, b, h => by cases h
  | _, _, .cons a t, b, h => by
    rw [List.zip_cons_cons] at h
    rcases List.mem_cons.mp h with rfl | h
    · exact a
    · exact zip_dp t b h
theorem dp_zip {K : PySem.W.Frag} {H : Hp} : ∀ {bs : List (V × PyData)}, (∀ b ∈ bs, Dp K H b.1 b.2) → DpAll K H (bs.map Prod.fst) (bs.map Prod.snd)
  | [], _ => .nil
  | b :: bs, h => .cons (h b List.mem_cons_self) (dp_zip fun c hc => h c (List.mem_cons_of_mem _ hc))
theorem zip_back : ∀ bs : List (V × PyData), (bs.map Prod.fst).zip (bs.map Prod.snd) = bs
  | [] => rfl
  | b :: bs => by rw [List.map_cons, List.map_cons, List.zip_cons_cons, zip_back bs]
theorem deep_mem {ds : List PyData} {d : PyData} (h : d ∈ ds) : d.depth ≤ PyData.depthAll ds := by
  induction ds with
  | nil => cases h
  | cons e ds ih =>
    simp only [PyData.depthAll]
    rcases List.mem_cons.mp h with rfl | h
    · omega
    · have := ih h
      omega
def rSortD (K : PySem.W.Frag) : List V → Hp → VK → Prop := fun vs H Q => ∃ (a : Addr) (xs : List V) (ds : List PyData), vs = [.ref a] ∧ SqL K H a xs ∧ DpAll K H xs ds ∧ AllAlike ds ∧ Sortable ds ∧ PyData.depthAll ds ≤ 60 ∧
  ∀ (ys : List V) (es : List PyData) (p : Addr), (ys.zip es).Perm (xs.zip ds) → ys.length = es.length → ys.Perm xs → es.Perm ds → DpAll K H ys es → es.Pairwise (fun d e => dataLt e d = false) → H p = none → Q (.ref p) (upd H p (.lst ys))
section
variable {X : Cx}
theorem each_of {pins : List (Addr × Obj)} {s : Shared} {σ : L2.St} {H : Hp} (I : Inv X pins σ H s) : ∀ {xs : List V} {its : List Value} {ds : List PyData}, Vals xs its → DpAll X.K H xs ds →
    EachIs (fun v (b : V × PyData) => RelV b.1 v) its (xs.zip ds) ∧ EachIs (fun v (b : V × PyData) => ∃ as, Reads s.heap v b.2 as) its (xs.zip ds)
  | _, _, _, .nil, .nil => ⟨.nil, .nil⟩
  | _, _, _, .cons r rs, .cons h t => by
    obtain ⟨h1, h2⟩ := each_of I rs t
    exact ⟨.cons r h1, .cons (Dp.reads I _ _ _ h r) h2⟩
theorem vals_each : ∀ {out : List Value} {bs : List (V × PyData)}, EachIs (fun v (b : V × PyData) => RelV b.1 v) out bs → Vals (bs.map Prod.fst) out
  | _, _, .nil => .nil
  | _, _, .cons h t => .cons h (vals_each t)
theorem cr_sortD (hu : X.A.units + 64 < cLine) : CallR X (.builtin "sorted") (rSortD X.K) := by
  intro pins s σ H vs us Q I r h
  obtain ⟨a, xs, ds, rfl, hl, hd, al, sb, dep, q⟩ := h
  rw [Vals.ref1 r]
  obtain ⟨its, rv, hL, hz⟩ := I.list hl
  obtain ⟨e1, e2⟩ := each_of I rv hd
  have es := zip_snd hd
  have lz : (xs.zip ds).length = xs.length := by
    have := dp_len hd
    rw [List.length_zip]
    omega
  refine sorted_data (enc := Prod.snd) hL.isList e1 e2 (by rw [es]; exact al) (by rw [es]; exact sb) (by rw [lz]; exact hz) (fun b hb => ?_) fun out lo ho => ?_
  · have := deep_mem (ds := ds) (d := b.2) (by rw [← es]; exact List.mem_map.mpr ⟨b, hb, rfl⟩)
    show X.A.units + 2 + b.2.depth < cLine
    generalize b.2.depth = k at this ⊢
    omega
  · have pm : ((xs.zip ds).mergeSort (dataLe false Prod.snd)).Perm (xs.zip ds) := List.mergeSort_perm _ _
    have pw : ((xs.zip ds).mergeSort (dataLe false Prod.snd)).Pairwise (fun a b => dataLe false Prod.snd a b = true) := List.pairwise_mergeSort (fun a b c h1 h2 => by
      rw [dataLe_eq] at *
      exact dLe_trans _ _ _ h1 h2) (fun a b => by
      rw [dataLe_eq]
      exact dLe_total _ _) _
    have hv := vals_each ho
    generalize (xs.zip ds).mergeSort (dataLe false Prod.snd) = bs at pm pw hv
    have p1 : (bs.map Prod.fst).Perm xs := by
      have z := pm.map Prod.fst
      have l2 : ds.length = xs.length := by rw [← es, List.length_map, lz]
      rwa [List.map_fst_zip (by omega)] at z
    have p2 : (bs.map Prod.snd).Perm ds := by
      have z := pm.map Prod.snd
      rwa [es] at z
    obtain ⟨n, hn⟩ := sortedAll_at s.heap its out.toArray
    refine ⟨.ref (s.heap.objs.size + 1), upd H (s.heap.objs.size + 1) (.lst (bs.map Prod.fst)), I.laid (t' := s.toks) (fun b o e => sortedAll_old e) (Nat.le_succ _) ⟨?_, out, n, hv, hn⟩, rfl, q _ (bs.map Prod.snd) _ (by rw [zip_back]; exact pm) (by rw [List.length_map, List.length_map]) p1 p2 (dp_zip fun b hb => zip_dp hd b (pm.mem_iff.mp hb)) ?_ (I.hok.fresh (Nat.le_succ _))⟩
    · rw [p1.length_eq]
      exact hz
    · refine List.pairwise_map.mpr (pw.imp fun {a b} h => ?_)
      rw [dataLe_eq] at h
      have h : (!dataLt b.2 a.2) = true := h
      rwa [Bool.not_eq_true'] at h
theorem cr_sortDK {K : PySem.W.Frag} (h : X.K = K) (hu : X.A.units + 64 < cLine) : CallR X (.builtin "sorted") (rSortD K) := h ▸ cr_sortD hu
end

set_option Elab.async false
set_option linter.all false
set_option maxRecDepth 100000
set_option maxHeartbeats 4000000
open PySem PySem.Spec PyProof.Rows L2
/-! # is a tuple in a set of tuples -/
section
variable {P : Program} {w : World} {A : Around} {E : Value → Shared → Prop} {s : Shared} {a : Addr} {L : List (Addr × List Int)} {es : Array (Int × Value)} {ep : Nat} {t : SetTable}
/-- the step of the way on which the look begins -/
def way0 (t : SetTable) (h : Int) : SetTable.Probe := runAt t.mask (SetTable.bits h % (t.mask + 1)) (SetTable.bits h)
theorem way0_dummy (t : SetTable) (h : Int) : ∀ c, (nth t.mask (way0 t h) c).dummy = none := by
  have all : ∀ (c : Nat) (p : SetTable.Probe), p.dummy = none → (nth t.mask p c).dummy = none := fun c => by
    induction c with
    | zero => exact fun p h => h
    | succ c ih =>
      intro p h
      refine ih _ ?_
      unfold adv
      split <;> exact h
  exact fun c => all c _ rfl
theorem look_from (R : SetTR P w s.heap a L es ep t) {x : Addr} {k : List Int} (hx : IsT P w s.heap k x) (hu : A.units < cLine) {K : Nat} (hKf : K < 10 * SetTable.turns t.mask)
    (hK : way t.mask (thash P w k) K ∉ t.place.toList) (hKb : ∀ c, c < K → way t.mask (thash P w k) c ∈ t.place.toList) {Q : SetFound → Shared → Prop}
    (yes : k ∈ L.map (·.2) → ∀ i, Q (.there (some i)) s) (no : k ∉ L.map (·.2) → ∀ j, Q (.free j false) s) :
    ∀ (f c : Nat) (stand : Option SetTable.Probe), stand.getD (t.probeStart (thash P w k)) = nth t.mask (way0 t (thash P w k)) c → c ≤ K → K - c < f →
      (∀ (i : Nat) p, L[i]? = some p → p.2 = k → ∃ c', c ≤ c' ∧ c' < K ∧ t.place.toList[i]? = some (way t.mask (thash P w k) c')) →
      wpAny (model P w) A (setSearchFrom a (.ref x) (thash P w k) false f stand) Q E s := by
  intro f
  induction f with
  | zero => exact fun c stand _ _ h => absurd h (Nat.not_lt_zero _)
  | succ f ih =>
    intro c stand hst hc hf hre
    obtain ⟨o, ho, hex, hd⟩ := R.ob
    rw [setSearchFrom_succ]
    refine wpAny_bind (wpAny_setState_of ho hd R.fits ?_)
    dsimp only
    refine wp_if_neg R.gw ?_
    try refine wpAny_bind (wpAny_pure ?_)
    have sh : ∀ q, nth t.mask (nth t.mask (way0 t (thash P w k)) c) q = nth t.mask (way0 t (thash P w k)) (c + q) := fun q => (nth_add t.mask c _ q).symm
    have wj : ∀ q, (nth t.mask (nth t.mask (way0 t (thash P w k)) c) q).j = way t.mask (thash P w k) (c + q) := fun q => congrArg SetTable.Probe.j (sh q)
    have hashAt : ∀ (i : Nat) p, L[i]? = some p → (fun i => (es[i]?.map (·.1)).getD 0) i = thash P w p.2 := fun i p hp => by
      show (es[i]?.map (·.1)).getD 0 = _
      rw [R.entry hp]
      rfl
    have lies : ∀ (i : Nat) {j : Nat}, t.place.toList[i]? = some j → ∃ p, L[i]? = some p := fun i j h => by
      have h1 := (List.getElem?_eq_some_iff.mp h).1
      have h2 := R.tab.sz
      rw [List.length_map] at h2
      rw [Array.length_toList] at h1
      exact ⟨_, List.getElem?_eq_getElem (by omega : i < L.length)⟩
    rcases go_spec t R.tab.ris R.tab.dm (fun i => (es[i]?.map (·.1)).getD 0) (thash P w k) (10 * SetTable.turns t.mask) (K - c) _ (way0_dummy t _ c) (by omega)
      (fun q hq => by rw [wj]; exact hKb (c + q) (by omega)) (by rw [wj, show c + (K - c) = K by omega]; exact hK) with ⟨q, i, hq, hi, _, hno, hpr⟩ | ⟨hno, hpr⟩
    · rw [wj] at hi
      have hpr' : t.probe (fun i => (es[i]?.map (·.1)).getD 0) (thash P w k) (stand.getD (t.probeStart (thash P w k))) = some (.candidate (way t.mask (thash P w k) (c + q)) i (nth t.mask (way0 t (thash P w k)) (c + (q + 1)))) := by
        rw [hst, ← wj, ← sh]
        exact hpr
      rw [hpr']
      dsimp only
      obtain ⟨p, hp⟩ := lies i hi
      have hm : p ∈ L := List.mem_of_getElem? hp
      have live := slot_live R.tab.ris hi
      have rest : wpAny (model P w) A (searchRest a (.ref x) (thash P w k) false f es t (way t.mask (thash P w k) (c + q)) i (nth t.mask (way0 t (thash P w k)) (c + (q + 1)))) Q E s := by
        unfold searchRest
        rw [R.entry hp]
        dsimp only
        refine wpAny_bind (wpAny_holding (wpAny_eqBool_tuple hu (R.tup p hm) hx ?_))
        refine wpAny_bind (wpAny_setState_of ho hd R.fits ?_)
        dsimp only
        refine wp_if_neg (by simp) ?_
        try refine wpAny_bind (wpAny_pure ?_)
        rw [sameMem]
        dsimp only
        simp only [if_true, live, R.entry hp]
        refine wpAny_bind (wpAny_isSame_ref_self (wpAny_bind (wpAny_pure ?_)))
        simp only [if_true]
        by_cases e : p.2 = k
        · refine wp_if_pos (by simp [e]) ?_
          exact wpAny_pure (yes (List.mem_map.mpr ⟨p, hm, e⟩) i)
        · refine wp_if_neg (by simp [e]) ?_
          refine ih (c + (q + 1)) _ rfl (by omega) (by omega) fun i0 p0 h0 e0 => ?_
          obtain ⟨c', a1, a2, a3⟩ := hre i0 p0 h0 e0
          refine ⟨c', ?_, a2, a3⟩
          rcases Nat.lt_trichotomy c' (c + q) with z | z | z
          · refine absurd ((hashAt i0 p0 h0).trans (congrArg (thash P w) e0)) (hno (c' - c) i0 (by omega) ?_)
            rw [wj, show c + (c' - c) = c' by omega]
            exact a3
          · rw [z] at a3
            have l0 := slot_live R.tab.ris a3
            rw [live] at l0
            injection l0 with l0
            rw [← l0, hp] at h0
            exact absurd ((congrArg Prod.snd (Option.some.inj h0)).trans e0) e
          · omega
      by_cases hl : t.led = true
      · refine wp_if_neg (by simp [hl]) ?_
        try refine wpAny_bind (wpAny_pure ?_)
        exact rest
      · refine wp_if_pos (by simp [hl]) ?_
        refine wpAny_bind (seen_tup hx (fun y hy => ?_) ?_)
        · obtain ⟨e, he, ee⟩ := List.mem_map.mp hy
          have he1 : e ∈ es ∧ e.1 = thash P w k := by simpa using he
          have he2 : e ∈ es.toList := by simpa using he1.1
          rw [R.rows] at he2
          obtain ⟨p2, hp2, e2⟩ := List.mem_map.mp he2
          exact ⟨p2.2, p2.1, by rw [← ee, ← e2], R.tup p2 hp2⟩
        · refine wp_if_neg (by decide) ?_
          try refine wpAny_bind (wpAny_pure ?_)
          exact rest
    · have hpr' : t.probe (fun i => (es[i]?.map (·.1)).getD 0) (thash P w k) (stand.getD (t.probeStart (thash P w k))) = some (.empty (nth t.mask (nth t.mask (way0 t (thash P w k)) c) (K - c)).j none) := by
        rw [hst]
        exact hpr
      rw [hpr']
      dsimp only
      refine wpAny_pure (no (fun hm => ?_) _)
      obtain ⟨p0, h0, e0⟩ := List.mem_map.mp hm
      obtain ⟨i0, h1, e1⟩ := List.getElem_of_mem h0
      have h00 : L[i0]? = some p0 := by rw [List.getElem?_eq_getElem h1, e1]
      obtain ⟨c', a1, a2, a3⟩ := hre i0 p0 h00 e0
      refine absurd ((hashAt i0 p0 h00).trans (congrArg (thash P w) e0)) (hno (c' - c) i0 (by omega) ?_)
      rw [wj, show c + (c' - c) = c' by omega]
      exact a3
theorem find_tup (R : SetTR P w s.heap a L es ep t) {x : Addr} {k : List Int} (hx : IsT P w s.heap k x) (hu : A.units < cLine) {Q : Option Nat → Shared → Prop} (h : ∀ r : Option Nat, r.isSome = decide (k ∈ L.map (·.2)) → Q r s) :
    wpAny (model P w) A (setFind a (.ref x) (thash P w k)) Q E s := by
  obtain ⟨o, ho, hex, hd⟩ := R.ob
  have hroom := R.room
  obtain ⟨K, hKf, hK, hKb⟩ := R.tab.first (by rw [List.length_map]; omega) (thash P w k)
  have big : K < 100000 := by
    have : 10 * SetTable.turns t.mask ≤ 1420 := by
      unfold SetTable.turns
      rcases R.tab.mok with e | e | e <;> omega
    omega
  unfold setFind
  show wpAny _ _ (setFindIn a (.ref x) (thash P w k) (99999 + 1)) _ _ _
  unfold setFindIn
  refine wpAny_bind (wpAny_setState_of ho hd R.fits ?_)
  dsimp only
  refine wp_if_neg (by simp [byScan, Value.scannable]) ?_
  try refine wpAny_bind (wpAny_pure ?_)
  unfold setSearch
  refine wpAny_bind (look_from R hx hu hKf hK hKb (fun hm i => ?_) (fun hm j => ?_) 100000 0 none rfl (Nat.zero_le _) (by omega) fun i p hp e => ?_)
  · exact wpAny_pure (h _ (by rw [decide_eq_true hm]; rfl))
  · exact wpAny_pure (h _ (by rw [decide_eq_false hm]; rfl))
  · have hi : (L.map fun p => thash P w p.2)[i]? = some (thash P w k) := by
      rw [List.getElem?_map, hp, ← e]
      rfl
    have hil : i < t.place.toList.length := by
      have h1 := (List.getElem?_eq_some_iff.mp hp).1
      have h2 := R.tab.sz
      rw [List.length_map] at h2
      rw [Array.length_toList]
      omega
    have hj := List.getElem?_eq_getElem hil
    obtain ⟨c, hc, e⟩ := R.tab.before hK hi hj
    exact ⟨c, Nat.zero_le _, hc, by rw [hj, e]⟩
theorem contains_tup (R : SetTR P w s.heap a L es ep t) {x : Addr} {k : List Int} (hx : IsT P w s.heap k x) (hu : A.units + 64 < cLine) {Q : Bool → Shared → Prop} (h : ∀ n, Q (decide (k ∈ L.map (·.2))) { s with toks := s.toks + n }) :
    wpAny (model P w) A (contains (.ref a) (.ref x)) Q E s := by
  have ty : s.TypeIs (.ref a) "set" := by
    obtain ⟨o, ho, hex, _⟩ := R.ob
    exact ⟨o, ho, hex.1⟩
  unfold contains
  try with_reducible refine wpAny_holding ?_
  refine wpAny_bind (wpAny_specialOf ty F.slot_set_contains.lookup ?_)
  show wpAny _ _ (if (some (Value.builtin "set.__contains__") == some Value.none) = true then _ else _) _ E s
  rw [if_neg (by rw [beq_builtin_none]; exact Bool.false_ne_true)]
  refine wpAny_bind (wpAny_callSpecialUnlessNone?_slot (name := Str.ofString "__contains__") ty F.slot_set_contains
    (wpAny_call_entry F.slot_set_contains ty entry_set_contains ?_ (F.args_set_contains_2 _ _)))
  unfold Builtin.«frozenset.__contains__» Builtin.Frozenset.oneOther
  simp only [List.isEmpty_nil, bind_assoc]
  unfold Builtin.Frozenset.addrOf Builtin.Frozenset.withSetAsKey setContains
  refine wpAny_bind (wpAny_pure ?_)
  try dsimp only
  refine wpAny_bind (wpAny_pure ?_)
  try dsimp only
  refine wpAny_bind (wpAny_tryCatch ?_)
  refine wpAny_holding ?_
  refine wpAny_bind (wpAny_pyHash_tuple (by first | omega | (rw [Around.in1_units]; omega) | (rw [Around.in1_units, Around.in1_units]; omega)) hx ?_)
  refine wpAny_bind (find_tup (s := { s with toks := s.toks + (k.length + 1) }) R hx (by first | omega | (rw [Around.in1_units]; omega) | (rw [Around.in1_units, Around.in1_units]; omega)) fun r hr => ?_)
  refine wpAny_pure ?_
  show wpAny _ _ (ret (Value.bool r.isSome)) _ _ _
  rw [hr]
  exact wpAny_pure ⟨_, rfl, wpAny_truthy_bool (h _)⟩
end
section
variable {X : Cx} {K : PySem.W.Frag} {P : Program} {w : World} {σ : L2.St} {H : Hp} {Q : VK}
/-- set(), to hold tuples -/
def rSet0T (P : Program) (w : World) : List V → Hp → VK → Prop := fun xs H Q => xs = [] ∧ ∀ p, H p = none → Q (.ref p) (upd H p (SetTO P w p []))
theorem cr_set0T : CallR X (.type "set") (rSet0T X.prog X.w) := by
  intro pins s σ H xs us Q I r h
  obtain ⟨rfl, q⟩ := h
  cases r
  refine setR_new fun _ => ?_
  exact ⟨.ref _, upd H s.heap.objs.size (SetTO X.prog X.w s.heap.objs.size []), I.laid (t' := s.toks) (fun b u e => Heap.get?_push_of_some _ e) (Nat.le_refl _) (freshT rfl), rfl, q _ (I.hok.fresh (Nat.le_refl _))⟩
theorem cr_set0TK (h2 : X.prog = P) (h3 : X.w = w) : CallR X (.type "set") (rSet0T P w) := h2 ▸ h3 ▸ cr_set0T
/-- s.add(t) -/
def rSAddT (K : PySem.W.Frag) (P : Program) (w : World) : V → List V → Hp → VK → Prop := fun x xs H Q => ∃ (D : Addr) (y : V), x = .ref D ∧ xs = [y] ∧ AdT K P w D (fun H' => Q .non H') y H
theorem mt_saddT (hu : X.A.units + 64 < cLine) : MtR X "set.add" (rSAddT X.K X.prog X.w) := by
  intro pins s σ H x xs v us Q I rx rxs h
  obtain ⟨D, y, rfl, rfl, ad⟩ := h
  cases rx
  cases rxs with
  | cons ry rt =>
    cases rt
    exact addT_ok hu I ry ad fun s' H' I' n => ⟨.non, H', I', rfl, n⟩
def tSAddT (K : PySem.W.Frag) (P : Program) (w : World) (to : TE) (t : TA) : TE := fun σ H Q => to σ H fun x H1 => (∃ D L, x = V.ref D ∧ H1 D = some (SetTO P w D L)) ∧ t σ H1 fun xs H2 => rSAddT K P w x xs H2 Q
variable {o e : Expr} {es : List Expr} {to : TE} {t : TA} {apos cpos : Pos}
theorem pe_saddT (hu : X.A.units + 64 < cLine) (ho : PE X o to) (ha : PA X (e :: es) t)
    (hb : attributeBase o "add" X.env (eval o X.env) = eval o X.env := by rfl)
    (hf : ((backTo cpos (starEach (e :: es) X.env)).all (fun x => !x.1) && (backToKw cpos (keywordEach [] X.env)).all (fun x => x.1.isSome) && decide ((e :: es).length + ([] : List Keyword).length + (if ([] : List Keyword).isEmpty then 0 else 1) < 30)) = true := by rfl)
    (hl : (apos.endLine == cpos.line) = true := by rfl) (hs : starEach (e :: es) X.env = (false, eval e X.env) :: starEach es X.env := by rfl) (hp : (backTo cpos (starEach es X.env)).any (·.1) = false := by rfl) :
    PE X (.Call (.Attribute o "add" apos) (e :: es) [] cpos) (tSAddT X.K X.prog X.w to t) := by
  refine ⟨fun pins s σ H Q I h => ?_⟩
  refine wpAny_Call_method_late hb hf hl rfl (thn (ho.run pins s σ H _ I h) fun v s1 z => ?_)
  obtain ⟨x, H1, I1, r1, ⟨D, L, e1, hD⟩, q1⟩ := z
  subst e1
  cases r1
  have R0 : SetT0 X.prog X.w s1.heap D L := (I1.hok D _ hD).1
  obtain ⟨_, _, _, ⟨ob, hob, hex, _⟩, _⟩ := R0.ex
  refine ⟨"set", "set.add", F.plainAttrs_set, F.slot_set_add, F.type_set_add, ⟨ob, hob, hex.1⟩, fun b e2 => ?_, ?_⟩
  · cases e2
    exact ⟨ob, hob, hex.2.1⟩
  have hA := ha.run cpos pins s1 σ H1 _ I1 q1
  rw [hs] at hA ⊢
  refine Calls.callWith_builtin (by show (false || (backTo cpos (starEach es X.env)).any (·.1)) = false; rw [hp]; rfl) (Calls.evalArgs_plain ?_)
  exact thn hA fun us s2 ⟨vs, H2, I2, r2, q2⟩ => mt_saddT hu pins s2 σ H2 (.ref D) vs (.ref D) us Q I2 (show L2.RelV (V.ref D) (Value.ref D) from rfl) r2 q2
/-- t in s, t not in s -/
def rInT (K : PySem.W.Frag) (P : Program) (w : World) (neg : Bool) : V → V → Hp → VK → Prop := fun x y H Q => ∃ (b D : Addr) (k : List Int) (L : List (Addr × List Int)), x = .ref b ∧ y = .ref D ∧ SqT K H b (k.map V.int) ∧ H D = some (SetTO P w D L) ∧ (∀ p ∈ L, SqT K H p.1 (p.2.map V.int)) ∧ Q (.bl (xor neg (decide (k ∈ L.map (·.2))))) H
theorem inT_raw {pins : List (Addr × Obj)} {s : Shared} {E : Value → Shared → Prop} {b D : Addr} {k : List Int} {L : List (Addr × List Int)} {R : Bool → Shared → Prop} (hu : X.A.units + 64 < cLine) (I : Inv X pins σ H s) (hb : SqT X.K H b (k.map V.int)) (hD : H D = some (SetTO X.prog X.w D L)) (hL : ∀ p ∈ L, SqT X.K H p.1 (p.2.map V.int)) (q : ∀ n, R (decide (k ∈ L.map (·.2))) { s with toks := s.toks + n }) :
    wpAny (model X.prog X.w) X.A (contains (.ref D) (.ref b)) R E s := by
  have R0 : SetT0 X.prog X.w s.heap D L := (I.hok D _ hD).1
  obtain ⟨es, ep, t, R'⟩ := R0.full fun p hp => I.isT (hL p hp)
  exact contains_tup R' (I.isT hb) hu q
theorem op_inT (hu : X.A.units + 64 < cLine) : OpR X (compareOp .In) (rInT X.K X.prog X.w false) := by
  intro pins s σ H x y v u Q I rx ry h
  obtain ⟨b, D, k, L, rfl, rfl, hb, hD, hL, q⟩ := h
  cases rx
  cases ry
  show wpAny _ _ (do return Value.bool (← contains (Value.ref D) (Value.ref b))) _ _ s
  refine wpAny_bind (inT_raw hu I hb hD hL fun n => ?_)
  exact wpAny_pure ⟨V.bl (decide (k ∈ L.map fun p : Addr × List Int => p.2)), H, I.tok _, rfl, by rw [Bool.false_xor] at q; exact q⟩
theorem op_ninT (hu : X.A.units + 64 < cLine) : OpR X (compareOp .NotIn) (rInT X.K X.prog X.w true) := by
  intro pins s σ H x y v u Q I rx ry h
  obtain ⟨b, D, k, L, rfl, rfl, hb, hD, hL, q⟩ := h
  cases rx
  cases ry
  show wpAny _ _ (do return Value.bool (!(← contains (Value.ref D) (Value.ref b)))) _ _ s
  refine wpAny_bind (inT_raw hu I hb hD hL fun n => ?_)
  exact wpAny_pure ⟨V.bl (!decide (k ∈ L.map fun p : Addr × List Int => p.2)), H, I.tok _, rfl, by rw [Bool.true_xor] at q; exact q⟩
theorem op_inTK (h1 : X.K = K) (h2 : X.prog = P) (h3 : X.w = w) (hu : X.A.units + 64 < cLine) : OpR X (compareOp .In) (rInT K P w false) := h1 ▸ h2 ▸ h3 ▸ op_inT hu
theorem op_ninTK (h1 : X.K = K) (h2 : X.prog = P) (h3 : X.w = w) (hu : X.A.units + 64 < cLine) : OpR X (compareOp .NotIn) (rInT K P w true) := h1 ▸ h2 ▸ h3 ▸ op_ninT hu
theorem PE.saddTK {f : Expr} {to : TE} {t : TA} (h1 : X.K = K) (h2 : X.prog = P) (h3 : X.w = w) (p : PE X f (tSAddT X.K X.prog X.w to t)) : PE X f (tSAddT K P w to t) := h1 ▸ h2 ▸ h3 ▸ p
/-- named readings -/
def SAddTN (K : PySem.W.Frag) (P : Program) (w : World) (t : TA) (σ : L2.St) (Q : VK) : VK := fun x H1 => (∃ D L, x = V.ref D ∧ H1 D = some (SetTO P w D L)) ∧ t σ H1 fun xs H2 => rSAddT K P w x xs H2 Q
theorem r_saddT {to : TE} {t : TA} (h : to σ H (SAddTN K P w t σ Q)) : tSAddT K P w to t σ H Q := h
theorem r_saddTN {t : TA} {D : Addr} {qs : List (Int × Int)} (h : SetP P w H D qs) (q : t σ H fun xs H2 => rSAddT K P w (.ref D) xs H2 Q) : SAddTN K P w t σ Q (.ref D) H := by
  obtain ⟨L, hL, _⟩ := h
  exact ⟨⟨D, L, rfl, hL⟩, q⟩
theorem r_saddP {D : Addr} {qs : List (Int × Int)} {y : V} {q : Int × Int} (h : SetP P w H D qs) (hy : IsP H y q) (few : qs.length ≤ 62) (n : ∀ o, SetP P w (upd H D o) D (qs ++ [q]) → Q .non (upd H D o)) : rSAddT K P w (.ref D) [y] H Q := ⟨D, y, rfl, rfl, SetP.add h hy few n⟩
theorem r_inP {neg : Bool} {D : Addr} {qs : List (Int × Int)} {y : V} {q : Int × Int} (h : SetP P w H D qs) (hy : IsP H y q) (c : Q (.bl (xor neg (decide (q ∈ qs)))) H) : rInT K P w neg y (.ref D) H Q := by
  obtain ⟨L, hL, ht, mem, _⟩ := h
  obtain ⟨b, rfl, hb⟩ := hy
  have e : ([q.1, q.2] ∈ L.map fun p : Addr × List Int => p.2) ↔ q ∈ qs := by
    rw [mem]
    constructor
    · rintro ⟨r, hr, e⟩
      injection e with e1 e2
      injection e2 with e2 _
      have : q = r := Prod.ext e1 e2
      exact this ▸ hr
    · exact fun h => ⟨q, h, rfl⟩
  refine ⟨b, D, [q.1, q.2], L, rfl, rfl, .inl (.inl hb), hL, fun p hp => .inl (.inl (ht p hp)), ?_⟩
  rw [show decide ([q.1, q.2] ∈ L.map fun p : Addr × List Int => p.2) = decide (q ∈ qs) from decide_eq_decide.mpr e]
  exact c
end

set_option Elab.async false
set_option linter.all false
set_option maxRecDepth 100000
set_option maxHeartbeats 4000000
/-! # orbits of a map that turns a list around, and the list of them -/
section
variable {α : Type} [DecidableEq α]
def itf (f : α → α) : Nat → α → α
  | 0, a => a
  | k + 1, a => f (itf f k a)
theorem itf_add (f : α → α) (i : Nat) : ∀ (j : Nat) (a : α), itf f (i + j) a = itf f j (itf f i a)
  | 0, a => rfl
  | j + 1, a => by
    show f (itf f (i + j) a) = f (itf f j (itf f i a))
    rw [itf_add f i j a]
/-- f turns A around -/
structure Trn (f : α → α) (A : List α) : Prop where
  nd : A.Nodup
  cl : ∀ a ∈ A, f a ∈ A
  inj : ∀ a ∈ A, ∀ b ∈ A, f a = f b → a = b
variable {f : α → α} {A : List α}
theorem Trn.itf (t : Trn f A) {a : α} (h : a ∈ A) : ∀ k, itf f k a ∈ A
  | 0 => h
  | k + 1 => t.cl _ (Trn.itf t h k)
theorem Trn.cancel (t : Trn f A) {a b : α} (ha : a ∈ A) (hb : b ∈ A) : ∀ k, Z.itf f k a = Z.itf f k b → a = b
  | 0, h => h
  | k + 1, h => Trn.cancel t ha hb k (t.inj _ (t.itf ha k) _ (t.itf hb k) h)
theorem Trn.back (t : Trn f A) {a : α} (h : a ∈ A) : ∃ k, 0 < k ∧ k ≤ A.length ∧ Z.itf f k a = a := by
  refine Classical.byContradiction fun no => ?_
  have nd : ((List.range (A.length + 1)).map fun i => Z.itf f i a).Nodup := by
    rw [List.Nodup, List.pairwise_map]
    refine List.Pairwise.imp_of_mem (R := fun i j => i < j) ?_ List.pairwise_lt_range
    intro i j hi hj lt e
    have h1 := List.mem_range.mp hi
    have h2 := List.mem_range.mp hj
    have e2 : Z.itf f i a = Z.itf f i (Z.itf f (j - i) a) := by
      rw [← itf_add f (j - i) i a, show j - i + i = j by omega]
      exact e
    exact no ⟨j - i, by omega, by omega, (t.cancel h (t.itf h _) i e2).symm⟩
  have := nodup_le _ A nd fun z hz => by
    obtain ⟨i, _, rfl⟩ := List.mem_map.mp hz
    exact t.itf h i
  rw [List.length_map, List.length_range] at this
  omega
/-- the turns that lead back, the fewest -/
theorem Trn.least (t : Trn f A) {a : α} (h : a ∈ A) : ∃ k, (0 < k ∧ k ≤ A.length ∧ Z.itf f k a = a) ∧ ∀ j, 0 < j → j < k → Z.itf f j a ≠ a := by
  obtain ⟨k, hk⟩ := t.back h
  have all : ∀ n k, k ≤ n → (0 < k ∧ k ≤ A.length ∧ Z.itf f k a = a) → ∃ k, (0 < k ∧ k ≤ A.length ∧ Z.itf f k a = a) ∧ ∀ j, 0 < j → j < k → Z.itf f j a ≠ a := fun n => by
    induction n with
    | zero => exact fun k h1 h2 => absurd h2.1 (by omega)
    | succ n ih =>
      intro k h1 h2
      by_cases c : ∃ j, 0 < j ∧ j < k ∧ Z.itf f j a = a
      · obtain ⟨j, j0, j1, e⟩ := c
        exact ih j (by omega) ⟨j0, by omega, e⟩
      · exact ⟨k, h2, fun j j0 j1 e => c ⟨j, j0, j1, e⟩⟩
  exact all k k (Nat.le_refl k) hk
/-- o is the walk around from a -/
def Orb (f : α → α) (a : α) (o : List α) : Prop := ∃ k, 0 < k ∧ o = (List.range k).map (fun i => itf f i a) ∧ itf f k a = a ∧ ∀ j, 0 < j → j < k → itf f j a ≠ a
theorem orb_uniq {a : α} {o p : List α} (h : Orb f a o) (k : Orb f a p) : o = p := by
  obtain ⟨m, m0, rfl, e, l⟩ := h
  obtain ⟨n, n0, rfl, e', l'⟩ := k
  rcases Nat.lt_trichotomy m n with c | c | c
  · exact absurd e (l' m m0 c)
  · rw [c]
  · exact absurd e' (l n n0 c)
theorem Trn.orb (t : Trn f A) {a : α} (h : a ∈ A) : ∃ o, Orb f a o := by
  obtain ⟨k, ⟨k0, _, e⟩, l⟩ := t.least h
  exact ⟨_, k, k0, rfl, e, l⟩
theorem Orb.mem {a : α} {o : List α} (h : Orb f a o) {z : α} : z ∈ o ↔ ∃ j, z = itf f j a := by
  obtain ⟨k, k0, rfl, e, l⟩ := h
  rw [List.mem_map]
  constructor
  · rintro ⟨i, _, rfl⟩
    exact ⟨i, rfl⟩
  · rintro ⟨j, rfl⟩
    have step : ∀ n j, j ≤ n → ∃ i, i ∈ List.range k ∧ itf f i a = itf f j a := fun n => by
      induction n with
      | zero => exact fun j hj => ⟨0, List.mem_range.mpr k0, by rw [Nat.le_zero.mp hj]⟩
      | succ n ih =>
        intro j hj
        by_cases c : j < k
        · exact ⟨j, List.mem_range.mpr c, rfl⟩
        · obtain ⟨i, hi, h⟩ := ih (j - k) (by omega)
          refine ⟨i, hi, h.trans ?_⟩
          have := itf_add f k (j - k) a
          rw [e, show k + (j - k) = j by omega] at this
          exact this.symm
    exact step j j (Nat.le_refl j)
theorem Orb.self {a : α} {o : List α} (h : Orb f a o) : a ∈ o := h.mem.mpr ⟨0, rfl⟩
theorem Orb.sub (t : Trn f A) {a : α} {o : List α} (ha : a ∈ A) (h : Orb f a o) : ∀ z ∈ o, z ∈ A := fun z hz => by
  obtain ⟨j, rfl⟩ := h.mem.mp hz
  exact t.itf ha j
theorem Orb.nodup (t : Trn f A) {a : α} {o : List α} (ha : a ∈ A) (h : Orb f a o) : o.Nodup := by
  obtain ⟨k, k0, rfl, e, l⟩ := h
  rw [List.Nodup, List.pairwise_map]
  refine List.Pairwise.imp_of_mem (R := fun i j => i < j) ?_ List.pairwise_lt_range
  intro i j hi hj lt e1
  have h2 := List.mem_range.mp hj
  have e2 : itf f i a = itf f i (itf f (j - i) a) := by
    rw [← itf_add f (j - i) i a, show j - i + i = j by omega]
    exact e1
  exact l (j - i) (by omega) (by omega) (t.cancel ha (t.itf ha _) i e2).symm
/-- the walk from another place of it has the same members -/
theorem Orb.other {a b : α} {o p : List α} (h : Orb f a o) (k : Orb f b p) (m : b ∈ o) (z : α) : z ∈ p ↔ z ∈ o := by
  obtain ⟨i, rfl⟩ := h.mem.mp m
  rw [k.mem, h.mem]
  constructor
  · rintro ⟨j, rfl⟩
    exact ⟨i + j, (itf_add f i j a).symm⟩
  · rintro ⟨j, rfl⟩
    obtain ⟨n, n0, _, e, _⟩ := h
    have many : ∀ q, itf f (n * q) a = a := fun q => by
      induction q with
      | zero => rfl
      | succ q ih => rw [Nat.mul_succ, itf_add, ih, e]
    refine ⟨n * i - i + j, ?_⟩
    rw [← itf_add]
    have : i ≤ n * i := by
      calc i = 1 * i := (Nat.one_mul i).symm
        _ ≤ n * i := Nat.mul_le_mul_right i n0
    rw [show i + (n * i - i + j) = n * i + j by omega, itf_add, many]
/-- the walks around, each from its first place in the list; what the law does -/
inductive Wks (f : α → α) : List α → List (List α) → Prop
  | nil : Wks f [] []
  | cons {a : α} {l o : List α} {ws : List (List α)} (h : Orb f a o) (t : Wks f ((a :: l).filter fun z => !decide (z ∈ o)) ws) : Wks f (a :: l) (o :: ws)
/-- what the program does -/
inductive Wkp (f : α → α) : List α → List α → List (List α) → Prop
  | nil {pl : List α} : Wkp f pl [] []
  | skip {a : α} {l pl : List α} {ws : List (List α)} (h : a ∈ pl) (t : Wkp f pl l ws) : Wkp f pl (a :: l) ws
  | take {a : α} {l pl o : List α} {ws : List (List α)} (n : a ∉ pl) (h : Orb f a o) (t : Wkp f (pl ++ o) l ws) : Wkp f pl (a :: l) (o :: ws)
theorem wkp_wks {pl l : List α} {ws : List (List α)} (h : Wkp f pl l ws) : Wks f (l.filter fun z => !decide (z ∈ pl)) ws := by
  induction h with
  | nil => exact .nil
  | @skip a l pl ws h t ih =>
    rw [List.filter_cons, if_neg (by simp [h])]
    exact ih
  | @take a l pl o ws n h t ih =>
    rw [List.filter_cons, if_pos (by simp [n])]
    refine .cons h ?_
    have e : (a :: l.filter fun z => !decide (z ∈ pl)).filter (fun z => !decide (z ∈ o)) = l.filter fun z => !decide (z ∈ pl ++ o) := by
      rw [List.filter_cons, if_neg (by simp [h.self]), List.filter_filter]
      refine List.filter_congr fun z _ => ?_
      by_cases h1 : z ∈ pl <;> by_cases h2 : z ∈ o <;> simp [h1, h2]
    rw [e]
    exact ih
theorem wks_uniq {l : List α} {ws vs : List (List α)} (h : Wks f l ws) (k : Wks f l vs) : ws = vs := by
  induction h generalizing vs with
  | nil => cases k; rfl
  | cons h t ih =>
    cases k with
    | cons h' t' =>
      have e := orb_uniq h h'
      subst e
      rw [ih t']
/-- each walk is one, and each place is in one -/
theorem Wks.ok {l : List α} {ws : List (List α)} (h : Wks f l ws) : (∀ o ∈ ws, ∃ a ∈ l, Orb f a o) ∧ ∀ z ∈ l, ∃ o ∈ ws, z ∈ o := by
  induction h with
  | nil => exact ⟨fun o h => (nomatch h), fun z h => (nomatch h)⟩
  | @cons a l o ws h t ih =>
    obtain ⟨h1, h2⟩ := ih
    refine ⟨fun p hp => ?_, fun z hz => ?_⟩
    · rcases List.mem_cons.mp hp with rfl | hp
      · exact ⟨a, List.mem_cons_self, h⟩
      · obtain ⟨b, hb, k⟩ := h1 p hp
        exact ⟨b, (List.mem_filter.mp hb).1, k⟩
    · by_cases c : z ∈ o
      · exact ⟨o, List.mem_cons_self, c⟩
      · obtain ⟨p, hp, k⟩ := h2 z (List.mem_filter.mpr ⟨hz, by simp [c]⟩)
        exact ⟨p, List.mem_cons_of_mem _ hp, k⟩
/-- different walks have nothing in common -/
theorem Wks.dj {l : List α} {ws : List (List α)} (h : Wks f l ws) (t : Trn f A) (s : ∀ z ∈ l, z ∈ A) : ws.Pairwise fun o p => ∀ z ∈ o, z ∉ p := by
  induction h with
  | nil => exact .nil
  | @cons a l o ws h k ih =>
    refine List.pairwise_cons.mpr ⟨fun p hp z hz hzp => ?_, ih fun z hz => s z (List.mem_filter.mp hz).1⟩
    obtain ⟨b, hb, hob⟩ := k.ok.1 p hp
    obtain ⟨hb1, hb2⟩ := List.mem_filter.mp hb
    have nb : b ∉ o := by simpa using hb2
    refine nb ?_
    -- z is in both: so b is in o
    obtain ⟨oz, hz'⟩ := t.orb (h.sub t (s a List.mem_cons_self) z hz)
    have m1 := h.other hz' hz b
    have m2 := hob.other hz' hzp b
    exact m1.mp (m2.mpr hob.self)
/-! ## the walks the other way around -/
theorem back_it {g r : α → α} (t : Trn f A) (c : ∀ x ∈ A, g (r (f x)) = r x) {x : α} (hx : x ∈ A) : ∀ j, itf g j (r (itf f j x)) = r x
  | 0 => rfl
  | j + 1 => by
    have e := itf_add g 1 j (r (itf f (j + 1) x))
    rw [Nat.add_comm 1 j] at e
    rw [e]
    show itf g j (g (r (f (itf f j x)))) = r x
    rw [c _ (t.itf hx j)]
    exact back_it t c hx j
theorem Orb.rev {g r : α → α} (t : Trn f A) (c : ∀ x ∈ A, g (r (f x)) = r x) (ri : ∀ x y, r x = r y → x = y) {a : α} {o : List α} (ha : a ∈ A) (h : Orb f a o) : ∃ p, Orb g (r a) p ∧ ∀ z, z ∈ p ↔ ∃ y ∈ o, z = r y := by
  have h0 := h
  obtain ⟨k, k0, rfl, e, l⟩ := h
  have at' : ∀ j, j ≤ k → itf g j (r a) = r (itf f (k - j) a) := fun j hj => by
    have h1 := back_it t c (t.itf ha (k - j)) j
    rw [← itf_add, show k - j + j = k by omega, e] at h1
    exact h1
  have ho : Orb g (r a) ((List.range k).map fun i => itf g i (r a)) := ⟨k, k0, rfl, by rw [at' k (Nat.le_refl k), Nat.sub_self]; rfl, fun j j0 j1 e1 => by
    rw [at' j (by omega)] at e1
    exact l (k - j) (by omega) (by omega) (ri _ _ e1)⟩
  refine ⟨_, ho, fun z => ⟨fun hz => ?_, ?_⟩⟩
  · obtain ⟨i, hi, rfl⟩ := List.mem_map.mp hz
    have hi := List.mem_range.mp hi
    exact ⟨_, h0.mem.mpr ⟨k - i, rfl⟩, at' i (by omega)⟩
  · rintro ⟨y, hy, rfl⟩
    obtain ⟨i, hi, rfl⟩ := List.mem_map.mp hy
    have hi := List.mem_range.mp hi
    refine ho.mem.mpr ⟨k - i, ?_⟩
    rw [at' (k - i) (by omega), show k - (k - i) = i by omega]
/-- each walk of the one, turned, is one of the other -/
theorem wks_rev {g r : α → α} {B : List α} (t : Trn f A) (u : Trn g B) (c : ∀ x ∈ A, g (r (f x)) = r x) (ri : ∀ x y, r x = r y → x = y) (rB : ∀ x ∈ A, r x ∈ B) {ws vs : List (List α)} (h : Wks f A ws) (k : Wks g B vs) {o : List α} (ho : o ∈ ws) : ∃ p ∈ vs, ∀ z, z ∈ p ↔ ∃ y ∈ o, z = r y := by
  obtain ⟨a, ha, hoa⟩ := h.ok.1 o ho
  obtain ⟨q, hq, mq⟩ := hoa.rev t c ri ha
  obtain ⟨p, hp, m⟩ := k.ok.2 _ (rB a ha)
  obtain ⟨b, hb, hob⟩ := k.ok.1 p hp
  refine ⟨p, hp, fun z => ?_⟩
  rw [← mq]
  exact (hob.other hq m z).symm
end

set_option Elab.async false
set_option linter.all false
set_option maxRecDepth 100000
set_option maxHeartbeats 4000000
/-! # the arrow behind an arrow, by a rotation -/
/-- the one behind u in l, around -/
def sucL (l : List Int) (u : Int) : Int := l.getD ((l.idxOf u + 1) % l.length) 0
theorem getD_at {l : List Int} {i : Nat} (h : i < l.length) : l.getD i 0 = l[i] := by
  rw [List.getD_eq_getElem?_getD, List.getElem?_eq_getElem h]
  rfl
theorem suc_mem {l : List Int} {u : Int} (h : u ∈ l) : sucL l u ∈ l := by
  have h1 := List.length_pos_of_mem h
  unfold sucL
  rw [getD_at (Nat.mod_lt _ h1)]
  exact List.getElem_mem _
theorem idx_get {l : List Int} (nd : l.Nodup) {i : Nat} (h : i < l.length) : l.idxOf l[i] = i := by
  have h1 : l.idxOf l[i] < l.length := List.idxOf_lt_length_of_mem (List.getElem_mem h)
  have h2 : l[l.idxOf l[i]] = l[i] := List.getElem_idxOf h1
  have pw := List.pairwise_iff_getElem.mp nd
  rcases Nat.lt_trichotomy (l.idxOf l[i]) i with c | c | c
  · exact absurd h2 (pw _ _ h1 h c)
  · exact c
  · exact absurd h2.symm (pw _ _ h h1 c)
theorem suc_rev {l : List Int} (nd : l.Nodup) {u : Int} (h : u ∈ l) : sucL l.reverse (sucL l u) = u := by
  obtain ⟨i, hi, rfl⟩ := List.mem_iff_getElem.mp h
  have h1 : (i + 1) % l.length < l.length := Nat.mod_lt _ (by omega)
  have e1 : sucL l l[i] = l[(i + 1) % l.length] := by
    unfold sucL
    rw [idx_get nd hi, getD_at h1]
  have ndr : l.reverse.Nodup := (List.reverse_perm l).nodup_iff.mpr nd
  have hr : l.length - 1 - (i + 1) % l.length < l.reverse.length := by
    rw [List.length_reverse]
    omega
  have e2 : l[(i + 1) % l.length] = l.reverse[l.length - 1 - (i + 1) % l.length] := by
    rw [List.getElem_reverse]
    congr 1
    omega
  rw [e1, e2]
  unfold sucL
  rw [idx_get ndr hr, List.length_reverse]
  have h3 : (l.length - 1 - (i + 1) % l.length + 1) % l.length = l.length - 1 - i := by
    by_cases c : i + 1 < l.length
    · rw [Nat.mod_eq_of_lt c, show l.length - 1 - (i + 1) + 1 = l.length - 1 - i by omega]
      exact Nat.mod_eq_of_lt (by omega)
    · have e : i + 1 = l.length := by omega
      rw [e, Nat.mod_self, show l.length - 1 - 0 + 1 = l.length by omega, Nat.mod_self]
      omega
  rw [h3, getD_at (by rw [List.length_reverse]; omega), List.getElem_reverse]
  congr 1
  omega
theorem suc_inj {l : List Int} (nd : l.Nodup) {u v : Int} (hu : u ∈ l) (hv : v ∈ l) (e : sucL l u = sucL l v) : u = v := by
  rw [← suc_rev nd hu, ← suc_rev nd hv, e]
def nxtR (rot : List (List Int)) (p : Int × Int) : Int × Int := (p.2, sucL (rot.getD p.2.toNat []) p.1)
/-- each vertex's item holds its neighbours, each once -/
structure RotOk (N : Int → Int → Prop) (n : Nat) (rot : List (List Int)) : Prop where
  len : rot.length = n
  nd : ∀ l ∈ rot, l.Nodup
  mem : ∀ (v : Nat) (l : List Int), rot[v]? = some l → ∀ u, u ∈ l ↔ N (v : Int) u
theorem RotOk.item {N : Int → Int → Prop} {n : Nat} {rot : List (List Int)} (r : RotOk N n rot) {v : Int} (h : 0 ≤ v ∧ v < (n : Int)) : ∃ l, rot[v.toNat]? = some l ∧ rot.getD v.toNat [] = l ∧ l.Nodup ∧ ∀ u, u ∈ l ↔ N v u := by
  have hl : v.toNat < rot.length := by
    rw [r.len]
    omega
  have e := List.getElem?_eq_getElem hl
  refine ⟨rot[v.toNat], e, by rw [List.getD_eq_getElem?_getD, e]; rfl, r.nd _ (List.getElem_mem hl), fun u => ?_⟩
  have := r.mem v.toNat _ e u
  rwa [show ((v.toNat : Nat) : Int) = v by omega] at this
theorem RotOk.rev {N : Int → Int → Prop} {n : Nat} {rot : List (List Int)} (r : RotOk N n rot) : RotOk N n (rot.map List.reverse) := by
  refine ⟨by rw [List.length_map]; exact r.len, fun l hl => ?_, fun v l hl u => ?_⟩
  · obtain ⟨m, hm, rfl⟩ := List.mem_map.mp hl
    exact (List.reverse_perm m).nodup_iff.mpr (r.nd m hm)
  · rw [List.getElem?_map] at hl
    obtain ⟨m, hm, rfl⟩ := Option.map_eq_some_iff.mp hl
    rw [List.mem_reverse]
    exact r.mem v m hm u
theorem nxt_trn {N : Int → Int → Prop} {n : Nat} {rot : List (List Int)} {A : List (Int × Int)} (sy : ∀ a b, N a b → N b a) (r : RotOk N n rot) (nd : A.Nodup) (hA : ∀ p, p ∈ A ↔ N p.1 p.2) (bd : ∀ p ∈ A, 0 ≤ p.2 ∧ p.2 < (n : Int)) : Trn (nxtR rot) A := by
  refine ⟨nd, fun p hp => ?_, fun p hp q hq e => ?_⟩
  · obtain ⟨l, _, e, _, m⟩ := r.item (bd p hp)
    refine (hA _).mpr ?_
    show N p.2 (sucL (rot.getD p.2.toNat []) p.1)
    rw [e, ← m]
    exact suc_mem ((m p.1).mpr (sy _ _ ((hA p).mp hp)))
  · have e1 : p.2 = q.2 := congrArg Prod.fst e
    have e2 : sucL (rot.getD p.2.toNat []) p.1 = sucL (rot.getD q.2.toNat []) q.1 := congrArg Prod.snd e
    obtain ⟨l, _, e, nl, m⟩ := r.item (bd p hp)
    rw [← e1, e] at e2
    refine Prod.ext (suc_inj nl ((m p.1).mpr (sy _ _ ((hA p).mp hp))) ((m q.1).mpr ?_) e2) e1
    rw [e1]
    exact sy _ _ ((hA q).mp hq)
def swP (p : Int × Int) : Int × Int := (p.2, p.1)
theorem nxt_rev {N : Int → Int → Prop} {n : Nat} {rot : List (List Int)} {A : List (Int × Int)} (sy : ∀ a b, N a b → N b a) (r : RotOk N n rot) (hA : ∀ p, p ∈ A ↔ N p.1 p.2) (bd : ∀ p ∈ A, 0 ≤ p.2 ∧ p.2 < (n : Int)) : ∀ p ∈ A, nxtR (rot.map List.reverse) (swP (nxtR rot p)) = swP p := fun p hp => by
  obtain ⟨l, hl, e, nl, m⟩ := r.item (bd p hp)
  have e' : (rot.map List.reverse).getD p.2.toNat [] = l.reverse := by
    rw [List.getD_eq_getElem?_getD, List.getElem?_map, hl]
    rfl
  show (p.2, sucL ((rot.map List.reverse).getD p.2.toNat []) (sucL (rot.getD p.2.toNat []) p.1)) = (p.2, p.1)
  rw [e, e', suc_rev nl ((m p.1).mpr (sy _ _ ((hA p).mp hp)))]

set_option Elab.async false
set_option linter.all false
set_option maxRecDepth 100000
set_option maxHeartbeats 4000000
open PySem PySem.Spec PyProof.Rows L2
/-! # t[::-1] of a tuple -/
section
variable {prog : Program} {w : World} {A : Around} {E : Value → Shared → Prop} {s : Shared}
theorem rev_adjust (n : Nat) : Builtin.Slice.sliceAdjust none none (-1) (n : Int) = ((n : Int) - 1, -1) := by
  unfold Builtin.Slice.sliceAdjust
  simp
theorem rev_places (n : Nat) : Builtin.Slice.slicePlaces ((n : Int) - 1) (-1) (-1) = n := by
  unfold Builtin.Slice.slicePlaces
  rw [if_neg (by decide)]
  by_cases c : (n : Int) - 1 > -1
  · rw [if_pos c, show -(-1 : Int) = 1 from rfl, Int.ediv_one]
    omega
  · rw [if_neg c]
    show 0 = n
    omega
theorem rev_applied {sl : Addr} {vl vu vs : Value} {n : Nat} {Q : Int × Int × Nat → Shared → Prop} (hs : s.heap.IsSliceOf sl vl vu vs) (pl : IsPart vl none) (pu : IsPart vu none) (ps : IsPart vs (some (-1)))
    (h : Q ((n : Int) - 1, -1, n) s) : wpAny (model prog w) A (Builtin.Slice.sliceApplied (.ref sl) (pure (n : Int))) Q E s := by
  obtain ⟨os, hos, hcs, hds⟩ := id hs
  unfold Builtin.Slice.sliceApplied Builtin.Slice.sliceFields
  refine wpAny_bind (wpAny_bind (wpAny_field hos hds (x := vl) rfl (wpAny_bind (wpAny_field hos hds (x := vu) rfl (wpAny_bind (wpAny_field hos hds (x := vs) rfl (wpAny_pure ?_)))))))
  refine wpAny_bind (HT.slicePart_ ps ?_)
  show wpAny _ _ (if ((-1 : Int) == 0) = true then _ else _) _ _ s
  rw [if_neg (by decide)]
  refine wpAny_bind (HT.slicePart_ pl (wpAny_bind (HT.slicePart_ pu (wpAny_bind (wpAny_pure ?_)))))
  show wpAny _ _ (match Builtin.Slice.sliceAdjust none none (-1) (n : Int) with | (lo, hi) => pure (lo, (-1 : Int), Builtin.Slice.slicePlaces lo hi (-1))) _ _ s
  rw [rev_adjust]
  show wpAny _ _ (pure ((n : Int) - 1, (-1 : Int), Builtin.Slice.slicePlaces ((n : Int) - 1) (-1) (-1))) _ _ s
  rw [rev_places]
  exact wpAny_pure h
theorem rev_pick (xs : Array Value) : ((List.range xs.size).filterMap fun (k : Nat) => xs[(((xs.size : Nat) : Int) - 1 + (k : Int) * (-1)).toNat]?).toArray = xs.toList.reverse.toArray := by
  have e : (fun (k : Nat) => xs[(((xs.size : Nat) : Int) - 1 + (k : Int) * (-1)).toNat]?) = fun k => xs[xs.size - 1 - k]? := by
    funext k
    congr 1
    omega
  rw [e]
  congr 1
  refine List.ext_getElem? fun i => ?_
  have len : ∀ n, n ≤ xs.size → ((List.range n).filterMap fun k => xs[xs.size - 1 - k]?) = xs.toList.reverse.take n := fun n => by
    induction n with
    | zero => exact fun _ => rfl
    | succ n ih =>
      intro hn
      have h1 : xs[xs.size - 1 - n]? = some xs[xs.size - 1 - n] := Array.getElem?_eq_getElem (by omega)
      have h2 : xs.toList.reverse[n]? = some xs[xs.size - 1 - n] := by
        rw [List.getElem?_reverse (by rw [Array.length_toList]; omega), Array.length_toList, ← h1]
        simp
      rw [List.range_succ, List.filterMap_append, ih (by omega), take_next h2]
      congr 1
      simp only [List.filterMap_cons, List.filterMap_nil, h1]
  rw [len xs.size (Nat.le_refl _), List.take_of_length_le (by rw [List.length_reverse, Array.length_toList]; exact Nat.le_refl _)]
open HT in
theorem getItem_rev {t sl : Addr} {items : Array Value} {vl vu vs : Value} {Q : Value → Shared → Prop} (ht : IsTup s.heap t items) (hs : s.heap.IsSliceOf sl vl vu vs) (pl : IsPart vl none) (pu : IsPart vu none) (ps : IsPart vs (some (-1)))
    (h : Q (.ref s.heap.objs.size) { s with heap := s.heap.push { cls := .type "tuple", data := .seq items.toList.reverse.toArray } }) (hsz : items.size ≤ sizeLine) : wpAny (model prog w) A (getItem (.ref t) (.ref sl)) Q E s := by
  have hz : sizeOk (.seq items.toList.reverse.toArray) := by
    show items.toList.reverse.toArray.size ≤ sizeLine
    rw [List.size_toArray, List.length_reverse, Array.length_toList]
    exact hsz
  obtain ⟨os, hos, hcs, hds⟩ := id hs
  have hTs : s.TypeIs (.ref sl) "slice" := ⟨os, hos, hcs⟩
  unfold getItem
  try with_reducible refine wpAny_holding ?_
  first | refine wpAny_bind (wpAny_pure ?_) | skip
  refine wpAny_bind (wpAny_sequenceKey ht.typeIs (by decide) ?_)
  refine wpAny_bind (wpAny_callSpecial?_slot (name := Str.ofString "__getitem__") ht.typeIs PyProof.Rows.slot_tuple_getitem
    (wpAny_call_entry PyProof.Rows.slot_tuple_getitem ht.typeIs entry_tuple_getitem ?_ (args_tuple_getitem _ _)))
  show wpAny _ _ (Builtin.Tuple.tupleItemsOf (.ref t) >>= _) _ _ s
  refine wpAny_bind (tupleItemsOf_ ht ?_)
  refine wpAny_bind (wpAny_typeOf hTs ?_)
  rw [if_pos (by decide)]
  refine wpAny_bind (rev_applied hs pl pu ps ?_)
  show wpAny _ _ (if (((items.size : Int) - 1 == 0) && ((-1 : Int) == 1) && (items.size == items.size)) = true then _ else _) _ _ s
  rw [if_neg (by simp), rev_pick]
  first
    | exact wpAny_bind (m := Builtin.Tuple.tupleExact _) (wpAny_newObj_type (wpAny_pure ⟨_, rfl, wpAny_pure h⟩) hz)
    | exact wpAny_bind (m := Builtin.Tuple.tupleExact _) (wpAny_newObj_type (wpAny_bind (wpAny_pure (wpAny_pure ⟨_, rfl, wpAny_pure h⟩))) hz)
    | exact wpAny_bind (wpAny_bind (m := Builtin.Tuple.tupleExact _) (wpAny_newObj_type (wpAny_pure (wpAny_pure ⟨_, rfl, wpAny_pure h⟩)) hz))
    | exact wpAny_bind (wpAny_bind (m := Builtin.Tuple.tupleExact _) (wpAny_newObj_type (wpAny_pure ⟨_, rfl, wpAny_pure h⟩) hz))
end
section
variable {X : Cx} {K : PySem.W.Frag} {σ : L2.St} {H : Hp} {Q : VK}
def RevTN (K : PySem.W.Frag) (Q : VK) : VK := fun x H1 => ∃ a xs, x = V.ref a ∧ SqT K H1 a xs ∧ ∀ (p : Addr) (o : Obj), H1 p = none → o.dict = none → Q (.ref p) (upd H1 p (.frz o (.tup xs.reverse)))
def tRevT (K : PySem.W.Frag) (te : TE) : TE := fun σ H Q => te σ H (RevTN K Q)
theorem pe_revT {e : Expr} {te : TE} {k : Nat} {p1 p2 p3 pos : Pos} (he : PE X e te) : PE X (.Subscript e (.Slice none none (some (.UnaryOp .USub (.Constant (.int 1) k p1) p2)) p3) pos) (tRevT X.K te) := by
  refine ⟨fun pins s σ H Q I h => ?_⟩
  refine Subscript_ (thn (he.run pins s σ H _ I h) fun v s1 z => ?_)
  obtain ⟨x, H1, I1, r1, a, xs, ex, hx, q⟩ := z
  subst ex
  cases r1
  have hst : PO X (some (.UnaryOp .USub (.Constant (.int 1) k p1) p2)) (tPart (tUn (rU fun i => .int (-i)) (tC (.int 1)))) := po_some (pe_un un_neg pe_int)
  refine wpAny_Slice (thn (po_none.run pins s1 σ H1 (fun o H2 => o = none ∧ H2 = H1) I1 ⟨rfl, rfl⟩) fun vl s2 ⟨l, H2, I2, pl, el, e2⟩ => ?_)
  subst el e2
  refine thn (po_none.run pins s2 σ H2 (fun o H3 => o = none ∧ H3 = H2) I2 ⟨rfl, rfl⟩) fun vu s3 ⟨u, H3, I3, pu, eu, e3⟩ => ?_
  subst eu e3
  refine thn (hst.run pins s3 σ H3 (fun o H4 => o = some (-1) ∧ H4 = H3) I3 ⟨1, rfl, -1, rfl, rfl, rfl⟩) fun vs s4 ⟨o, H4, I4, ps, eo, e4⟩ => ?_
  subst eo e4
  have I5 : Inv X pins σ H4 { s4 with heap := s4.heap.push { cls := .type "slice", data := .fields #[vl, vu, vs] } } := I4.kept (t' := s4.toks) fun b ob q => Heap.get?_push_of_some _ q
  obtain ⟨its, r, ht, hz⟩ := I5.tuple hx
  have hlen := r.length
  show wpAny (model X.prog X.w) X.A (subscriptTail e (.Slice none none (some (.UnaryOp .USub (.Constant (.int 1) k p1) p2)) p3) (.ref a) (.ref s4.heap.objs.size)) (EP X pins σ Q) X.xe { s4 with heap := s4.heap.push { cls := .type "slice", data := .fields #[vl, vu, vs] } }
  refine tail_any (ops := [.ref a, .ref s4.heap.objs.size]) ht.typeIs (PyProof.Rows.slot_tuple_getitem.lookup) ?_ (by with_unfolding_all rfl)
  refine getItem_rev ht (Heap.IsSliceOf.new _ vl vu vs) pl pu ps ?_ (by rw [List.size_toArray]; omega)
  refine ⟨.ref _, _, I5.laid (t' := s4.toks) (o := .frz { cls := .type "tuple", data := .seq its.toArray.toList.reverse.toArray } (.tup xs.reverse)) (fun b ob q => Heap.get?_push_of_some _ q) (Nat.le_refl _) ?_, rfl, q _ _ (I5.hok.fresh (Nat.le_refl _)) rfl⟩
  exact ⟨Heap.get?_push_size _ rfl, by rw [List.length_reverse]; exact hz, _, r.reverse, IsTup.new _ _⟩
theorem PE.revTK {f : Expr} {te : TE} (h : X.K = K) (p : PE X f (tRevT X.K te)) : PE X f (tRevT K te) := h ▸ p
theorem PE.revLK {f : Expr} {te : TE} (h : X.K = K) (p : PE X f (tRevL X.K te)) : PE X f (tRevL K te) := h ▸ p
def RevLN (K : PySem.W.Frag) (Q : VK) : VK := fun x H1 => ∃ a xs, x = V.ref a ∧ SqL K H1 a xs ∧ ∀ p, H1 p = none → Q (.ref p) (upd H1 p (.lst xs.reverse))
theorem r_revT {te : TE} (h : te σ H (RevTN K Q)) : tRevT K te σ H Q := h
theorem r_revL {te : TE} (h : te σ H (RevLN K Q)) : tRevL K te σ H Q := h
theorem r_revTN {a : Addr} {xs : List V} (h : SqT K H a xs) (q : ∀ (p : Addr) (o : Obj), H p = none → o.dict = none → Q (.ref p) (upd H p (.frz o (.tup xs.reverse)))) : RevTN K Q (.ref a) H := ⟨a, xs, rfl, h, q⟩
theorem r_revLN {a : Addr} {xs : List V} (h : SqL K H a xs) (q : ∀ p, H p = none → Q (.ref p) (upd H p (.lst xs.reverse))) : RevLN K Q (.ref a) H := ⟨a, xs, rfl, h, q⟩
end

set_option Elab.async false
set_option linter.all false
set_option maxRecDepth 100000
set_option maxHeartbeats 4000000
open PySem PySem.Spec PySem.W PySem.Calls PyProof.Rows L2
/-! # sorted of a tuple of data -/
section
variable {prog : Program} {w : World} {A : Around} {E : Value → Shared → Prop} {s : Shared}
theorem collect_tup {l : Addr} {vs : List Value} {Q : List Value → Shared → Prop} (hl : IsTup s.heap l vs.toArray)
    (h : Q vs { s with heap := (s.heap.push (seqObj "list" #[] 0)).update s.heap.objs.size (Obj.mapSeq (· ++ vs.toArray)) }) (hsz : vs.length ≤ sizeLine) :
    wpAny (model prog w) A (collect (.ref l)) Q E s := by
  obtain ⟨o, ho, hc, n, hd⟩ := id hl
  unfold collect
  refine wpAny_bind (wpAny_runValue (codeAny_builtin entry_proto_collect' ?_))
  show wpAny _ _ (do again (.builtin "list.__iadd__" ⟨[← newList [], .ref l], []⟩)) _ _ s
  refine wpAny_bind (wpAny_newList (wpAny_pure ⟨Code.quiet_builtin _ (by decide +kernel), codeAny_builtin entry_list_iadd' ?_⟩))
  show wpAny _ _ (Builtin.List.listExtendWith (.ref s.heap.objs.size) (.ref l) (.ref s.heap.objs.size)) _ _ { s with heap := s.heap.push (seqObj "list" #[] 0) }
  unfold Builtin.List.listExtendWith
  have ho' : (s.heap.push (seqObj "list" #[] 0)).get? l = some o := Heap.get?_push_of_some _ ho
  refine wpAny_bind (wpAny_typeOf (T := "tuple") ⟨o, ho', hc⟩ ?_)
  have ht : (Value.type "tuple" == Value.type "tuple") = true := by rfl
  rw [if_pos (by rw [ht]; simp)]
  refine wpAny_bind (listItems_at ho' hd ?_)
  refine wpAny_bind (listItems_at (xs := #[]) (n := 0) (Heap.get?_push_size _ rfl) rfl ?_)
  rw [if_neg (by simp)]
  refine wpAny_bind (listUpdate_at (xs := #[]) (n := 0) (Heap.get?_push_size _ rfl) rfl ?_ (Nat.zero_le _) (by show (#[] ++ vs.toArray).size ≤ sizeLine + 1; simp only [Array.size_append, List.size_toArray, List.length_nil]; omega))
  refine wpAny_pure ?_
  show wpAny (model prog w) A (do
      let o ← load s.heap.objs.size
      match o.data with
      | .seq xs _ => pure xs.toList
      | _ => unsupported "internal:collect") Q E { s with heap := (s.heap.push (seqObj "list" #[] 0)).update s.heap.objs.size (Obj.mapSeq (· ++ vs.toArray)) }
  refine wpAny_bind (wpAny_load (get?_update_seq (Heap.get?_push_size _ rfl) _) ?_)
  show wpAny _ _ (pure ((#[] : Array Value) ++ vs.toArray).toList) Q E _
  rw [show ((#[] : Array Value) ++ vs.toArray).toList = vs by simp]
  exact wpAny_pure h
theorem sorted_of_sortT {l : Addr} {vs : List Value} {Q : Value → Shared → Prop} (hl : IsTup s.heap l vs.toArray) (hL : vs.length ≤ sizeLine)
    (body : ∀ E' : Value → Shared → Prop, wpAny (model prog w) A.in1.in1 (Builtin.«list.sort» ⟨[.ref (s.heap.objs.size + 1)], []⟩) (fun f s' => f = .done (.ret .none) ∧ Q (.ref (s.heap.objs.size + 1)) s') E' { s with heap := copyHeap s.heap vs }) :
    wpAny (model prog w) A (call (.builtin "sorted") [.ref l]) Q E s := by
  refine call_function_entry_kw kind_sorted plain_sorted entry_sorted (args_sorted1 _) ?_
  unfold Builtin.«sorted»
  refine wpAny_bind (m := checkCount "sorted" 1 1 _) (wpAny_pure ?_)
  refine wpAny_bind (collect_tup hl ?_ hL)
  refine wpAny_bind (wpAny_newList ?_ hL)
  have hsz : ((s.heap.push (seqObj "list" #[] 0)).update s.heap.objs.size (Obj.mapSeq (· ++ vs.toArray))).objs.size = s.heap.objs.size + 1 := by
    rw [Heap.size_update, size_push']
  show wpAny _ _ _ _ _ { s with heap := copyHeap s.heap vs }
  rw [hsz]
  refine wpAny_bind (wpAny_holding (wpAny_call_entry_kw slot_list_sort ⟨_, copyHeap_at s.heap vs, rfl⟩ entry_list_sort ?body (args_list_sort _)))
  case body =>
    show wpAny (model prog w) A.in1.in1 (Builtin.«list.sort» ⟨[.ref (s.heap.objs.size + 1)], []⟩) _ _ _
    refine wpAny_mono (body _) (fun f s' hf => ?_) fun _ _ e => e
    obtain ⟨rfl, hq⟩ := hf
    exact ⟨_, rfl, wpAny_pure ⟨_, rfl, hq⟩⟩
theorem sorted_dataT {β : Type} {R : Value → β → Prop} {enc : β → PyData} {vs : List Value} {bs : List β} {l : Addr} {Q : Value → Shared → Prop} (hl : IsTup s.heap l vs.toArray) (e : EachIs R vs bs) (er : EachIs (fun v b => ∃ as, Reads s.heap v (enc b) as) vs bs) (hal : AllAlike (bs.map enc)) (hk : Sortable (bs.map enc)) (hL : bs.length ≤ sizeLine)
    (hu : ∀ b, b ∈ bs → A.units + 2 + (enc b).depth < cLine) (h : ∀ out, out.length = bs.length → EachIs R out (bs.mergeSort (dataLe false enc)) → Q (.ref (s.heap.objs.size + 1)) { s with heap := sortedAll s.heap vs (List.toArray out) }) :
    wpAny (model prog w) A (call (.builtin "sorted") [.ref l]) Q E s := by
  have er' : EachIs (fun v b => ∃ as, Reads (sortingHeap (copyHeap s.heap vs) (s.heap.objs.size + 1) vs) v (enc b) as) vs bs := er.mono fun _ _ ⟨as, r⟩ => ⟨as, PyProof.Rows.Reads.keeps (fun _ _ => sorting_copy_old) r⟩
  have lv : vs.length ≤ sizeLine := by
    rw [e.length]
    exact hL
  exact sorted_of_sortT hl lv fun _ => list_sort_vals (s := { s with heap := copyHeap s.heap vs }) (copyHeap_at s.heap vs) (SortsAt.data (s := { s with heap := sortingHeap (copyHeap s.heap vs) (s.heap.objs.size + 1) vs }) (each_map (R := fun v d => ∃ as, Reads (sortingHeap (copyHeap s.heap vs) (s.heap.objs.size + 1) vs) v d as) enc er') hal hk (bound_map hu)) lv ⟨rfl, h _ (by rw [sortVals_length false rfl]; exact e.length) (sortVals_data false e er' hal)⟩
end
/-- sorted of a tuple -/
def rSortDT (K : PySem.W.Frag) : List V → Hp → VK → Prop := fun vs H Q => ∃ (a : Addr) (xs : List V) (ds : List PyData), vs = [.ref a] ∧ SqT K H a xs ∧ DpAll K H xs ds ∧ AllAlike ds ∧ Sortable ds ∧ PyData.depthAll ds ≤ 60 ∧
  ∀ (ys : List V) (es : List PyData) (p : Addr), (ys.zip es).Perm (xs.zip ds) → ys.length = es.length → ys.Perm xs → es.Perm ds → DpAll K H ys es → es.Pairwise (fun d e => dataLt e d = false) → H p = none → Q (.ref p) (upd H p (.lst ys))
section
variable {X : Cx}
theorem cr_sortDT (hu : X.A.units + 64 < cLine) : CallR X (.builtin "sorted") (rSortDT X.K) := by
  intro pins s σ H vs us Q I r h
  obtain ⟨a, xs, ds, rfl, hl, hd, al, sb, dep, q⟩ := h
  rw [Vals.ref1 r]
  obtain ⟨its, rv, hL, hz⟩ := I.tuple hl
  obtain ⟨e1, e2⟩ := each_of I rv hd
  have es := zip_snd hd
  have lz : (xs.zip ds).length = xs.length := by
    have := dp_len hd
    rw [List.length_zip]
    omega
  refine sorted_dataT (enc := Prod.snd) hL e1 e2 (by rw [es]; exact al) (by rw [es]; exact sb) (by rw [lz]; exact hz) (fun b hb => ?_) fun out lo ho => ?_
  · have := deep_mem (ds := ds) (d := b.2) (by rw [← es]; exact List.mem_map.mpr ⟨b, hb, rfl⟩)
    show X.A.units + 2 + b.2.depth < cLine
    generalize b.2.depth = k at this ⊢
    omega
  · have pm : ((xs.zip ds).mergeSort (dataLe false Prod.snd)).Perm (xs.zip ds) := List.mergeSort_perm _ _
    have pw : ((xs.zip ds).mergeSort (dataLe false Prod.snd)).Pairwise (fun a b => dataLe false Prod.snd a b = true) := List.pairwise_mergeSort (fun a b c h1 h2 => by
      rw [dataLe_eq] at *
      exact dLe_trans _ _ _ h1 h2) (fun a b => by
      rw [dataLe_eq]
      exact dLe_total _ _) _
    have hv := vals_each ho
    generalize (xs.zip ds).mergeSort (dataLe false Prod.snd) = bs at pm pw hv
    have p1 : (bs.map Prod.fst).Perm xs := by
      have z := pm.map Prod.fst
      have l2 : ds.length = xs.length := by rw [← es, List.length_map, lz]
      rwa [List.map_fst_zip (by omega)] at z
    have p2 : (bs.map Prod.snd).Perm ds := by
      have z := pm.map Prod.snd
      rwa [es] at z
    obtain ⟨n, hn⟩ := sortedAll_at s.heap its out.toArray
    refine ⟨.ref (s.heap.objs.size + 1), upd H (s.heap.objs.size + 1) (.lst (bs.map Prod.fst)), I.laid (t' := s.toks) (fun b o e => sortedAll_old e) (Nat.le_succ _) ⟨?_, out, n, hv, hn⟩, rfl, q _ (bs.map Prod.snd) _ (by rw [zip_back]; exact pm) (by rw [List.length_map, List.length_map]) p1 p2 (dp_zip fun b hb => zip_dp hd b (pm.mem_iff.mp hb)) ?_ (I.hok.fresh (Nat.le_succ _))⟩
    · rw [p1.length_eq]
      exact hz
    · refine List.pairwise_map.mpr (pw.imp fun {a b} h => ?_)
      rw [dataLe_eq] at h
      have h : (!dataLt b.2 a.2) = true := h
      rwa [Bool.not_eq_true'] at h
theorem cr_sortDTK {K : PySem.W.Frag} (h : X.K = K) (hu : X.A.units + 64 < cLine) : CallR X (.builtin "sorted") (rSortDT K) := h ▸ cr_sortDT hu
end
/-! # one sorted list alone -/
/-- data that their signs tell apart -/
def Told (ds : List PyData) : Prop := ∀ d ∈ ds, ∀ e ∈ ds, keyToks d = keyToks e → d = e
theorem perm_sorted_eq {α : Type} {lt : α → α → Prop} : ∀ {xs ys : List α}, xs.Perm ys → xs.Pairwise lt → ys.Pairwise lt → (∀ a ∈ xs, ∀ b ∈ xs, lt a b → lt b a → a = b) → xs = ys
  | [], ys, p, _, _, _ => (List.Perm.nil_eq p)
  | x :: xs, [], p, _, _, _ => absurd p.length_eq (by simp)
  | x :: xs, y :: ys, p, h1, h2, an => by
    have e : x = y := by
      have mx : x ∈ y :: ys := p.mem_iff.mp List.mem_cons_self
      have my : y ∈ x :: xs := p.mem_iff.mpr List.mem_cons_self
      rcases List.mem_cons.mp mx with h | h
      · exact h
      · rcases List.mem_cons.mp my with h' | h'
        · exact h'.symm
        · exact an x List.mem_cons_self y my ((List.pairwise_cons.mp h1).1 y h') ((List.pairwise_cons.mp h2).1 x h)
    subst e
    rw [perm_sorted_eq (List.Perm.cons_inv p) (List.pairwise_cons.mp h1).2 (List.pairwise_cons.mp h2).2 fun a ha b hb => an a (List.mem_cons_of_mem _ ha) b (List.mem_cons_of_mem _ hb)]
theorem sortedD_uniq {ds es : List PyData} (p : ds.Perm es) (t : Told ds) (h1 : ds.Pairwise (fun d e => dataLt e d = false)) (h2 : es.Pairwise (fun d e => dataLt e d = false)) : ds = es :=
  perm_sorted_eq p h1 h2 fun a ha b hb x y => t a ha b hb (lex_total (O := itemOrd) _ _ y x)

set_option Elab.async false
set_option linter.all false
set_option maxRecDepth 100000
set_option maxHeartbeats 4000000
open PySem PySem.Spec PyProof.Rows L2
local macro_rules | `(tactic| walk_at "zs") => `(tactic| first | decide | omega | (dsimp only; omega) | (unfold CMul; omega) | (unfold CDivW; decide) | assumption)
local macro_rules | `(tactic| walk_at "zh") => `(tactic| first | assumption | with_reducible exact upd_same | ((with_reducible refine' (upd_ne ?zn).trans ?zr); (case zn => walk_at "zne"); (case zr => walk_at "zh")))
local macro_rules | `(tactic| walk_at "zw") => `(tactic| (simp only [wipe, List.map_cons, List.map_nil, List.set_cons_succ, List.set_cons_zero]; rfl))
local macro_rules | `(tactic| walk_at "zne") => `(tactic| first | assumption | (apply Ne.symm; assumption) | (refine' ne_of_none ?zh1 ?zh2; (case zh2 => assumption); (case zh1 => walk_at "zh")) | (apply Ne.symm; refine' ne_of_none ?zh1 ?zh2; (case zh2 => assumption); (case zh1 => walk_at "zh")))
local macro_rules | `(tactic| walk_at "zl") => `(tactic| first | assumption | exact Or.inl (Or.inl (by walk_at "zh")))
local macro_rules | `(tactic| walk_at "zat") => `(tactic| first | assumption | exact rfl | exact atI_nat (j := 0) (by rfl))
local macro_rules | `(tactic| walk_at "z1") => `(tactic| first
  | with_reducible refine r_seq ?_
  | with_reducible refine r_asg ?_
  | with_reducible refine r_name0 ?_
  | with_reducible refine r_name1 ?_
  | with_reducible refine r_name2 ?_
  | with_reducible refine r_name3 ?_
  | with_reducible refine r_name4 ?_
  | with_reducible refine r_name5 ?_
  | with_reducible refine r_name6 ?_
  | with_reducible refine r_name7 ?_
  | with_reducible refine r_name8 ?_
  | with_reducible refine r_name9 ?_
  | with_reducible refine r_name10 ?_
  | with_reducible refine r_name11 ?_
  | with_reducible refine r_name12 ?_
  | with_reducible refine r_name13 ?_
  | with_reducible refine r_name14 ?_
  | with_reducible refine r_name15 ?_
  | with_reducible refine r_name16 ?_
  | with_reducible refine r_name17 ?_
  | with_reducible refine r_name18 ?_
  | with_reducible refine r_name19 ?_
  | ((with_reducible show tVar _ _ _ _); refine r_var rfl ?_)
  | with_reducible refine r_c ?_
  | with_reducible refine r_op ?_
  | with_reducible refine r_i0 ?_
  | with_reducible refine r_eqI ?_
  | with_reducible refine r_neI ?_
  | with_reducible refine r_i (by walk_at "zs") ?_
  | with_reducible refine r_cons ?_
  | with_reducible refine r_nil ?_
  | with_reducible refine r_call ?_
  | with_reducible refine r_cb ?_
  | with_reducible refine r_test ?_
  | with_reducible refine r_tB ?_
  | with_reducible refine r_k ?_
  | with_reducible refine r_int1 ?_
  | with_reducible refine r_int1b ?_
  | with_reducible refine r_min2 ?_
  | with_reducible refine r_max2 ?_
  | with_reducible refine r_ret ?_
  | with_reducible refine r_ifS ?_
  | with_reducible refine r_tup ?_
  | with_reducible refine r_lst ?_
  | with_reducible refine r_un ?_
  | with_reducible refine r_u ?_
  | with_reducible refine r_eqB ?_
  | with_reducible refine r_neB ?_
  | with_reducible refine r_not ?_
  | with_reducible refine r_and ?_
  | with_reducible refine r_or ?_
  | with_reducible refine r_if ?_
  | with_reducible refine r_bm ?_
  | with_reducible refine r_lstRg ?_
  | with_reducible refine r_tRg1 ?_
  | with_reducible refine r_r1N ?_
  | with_reducible refine r_sl ?_
  | with_reducible refine r_part ?_
  | with_reducible refine r_partN ?_
  | with_reducible refine r_noPart ?_
  | with_reducible refine r_andV ?_
  | with_reducible refine r_orV ?_
  | with_reducible refine r_notV ?_
  | with_reducible refine r_andN ?_
  | with_reducible refine r_orN ?_
  | with_reducible refine r_notN ?_
  | with_reducible refine r_next ?_
  | with_reducible refine r_drop ?_
  | with_reducible refine r_sub ?_
  | with_reducible refine r_for ?_
  | with_reducible refine r_rng1 ?_
  | with_reducible refine r_rng2 ?_
  | with_reducible refine r_ilist ?_
  | with_reducible refine r_itup ?_
  | with_reducible refine r_lc ?_
  | with_reducible refine r_yes ?_
  | with_reducible refine r_gcons ?_
  | with_reducible refine r_gnil ?_
  | ((with_reducible show Bm _ "list" _ _ _ _ (V.ref _) _); refine' r_bmL ?zh ?zq; (case zh => walk_at "zl"))
  | with_reducible refine iteF ?_
  | with_reducible refine iteT ?_
  | ((with_reducible show rIxL _ (V.ref _) (V.int _) _ _); refine' r_ixL ?zh ?za ?zq; (case zh => walk_at "zl"); (case za => walk_at "zat"))
  | ((with_reducible show rIxT _ (V.ref _) (V.int _) _ _); refine' r_ixT ?zh ?za ?zq; (case zh => walk_at "zl"); (case za => walk_at "zat"))
  | with_reducible refine r_dget ?_
  | with_reducible refine r_star ?_
  | with_reducible refine r_match ?_
  | with_reducible refine r_enumT ?_
  | with_reducible refine r_dnot ?_
  | with_reducible refine r_chain ?_
  | with_reducible refine r_chn ?_
  | with_reducible refine r_callS ?_
  | with_reducible refine r_truth ?_
  | with_reducible refine r_bm0 ?_
  | with_reducible refine r_sadd ?_
  | with_reducible refine r_saddT ?_
  | ((with_reducible show Bm0 _ "list" _ _ (V.ref _) _); refine' r_bm0L ?zh ?zq; (case zh => walk_at "zl"))
  | with_reducible refine r_bm0I ?_
  | with_reducible refine r_bu ?_
  | with_reducible refine r_rng3 ?_
  | with_reducible refine r_bitlen ?_
  | with_reducible refine r_set0u ?_
  | with_reducible refine r_set1u ?_
  | with_reducible refine r_set2u ?_
  | with_reducible refine r_set3u ?_
  | with_reducible refine r_set4u ?_
  | ((with_reducible show rSetL (V.ref _) (V.int 0) _ _ _); refine' r_set0 ?zh ?zq; (case zh => walk_at "zh"))
  | ((with_reducible show rSetL (V.ref _) (V.int 1) _ _ _); refine' r_set1 ?zh ?zq; (case zh => walk_at "zh"))
  | ((with_reducible show rSetL (V.ref _) (V.int 2) _ _ _); refine' r_set2 ?zh ?zq; (case zh => walk_at "zh"))
  | ((with_reducible show rSetL (V.ref _) (V.int 3) _ _ _); refine' r_set3 ?zh ?zq; (case zh => walk_at "zh"))
  | ((with_reducible show rSetL (V.ref _) (V.int 4) _ _ _); refine' r_set4 ?zh ?zq; (case zh => walk_at "zh"))
  | ((with_reducible show rLen _ [V.ref _] _ _); refine' r_lenL ?zh ?zq; (case zh => walk_at "zl"))
  | ((with_reducible show rLen _ [V.ref _] _ _); refine' r_lenT ?zh ?zq; (case zh => walk_at "zl")))
local macro_rules | `(tactic| walk_at "z") => `(tactic| repeat (walk_at "z1"))

def topS (i : Nat) : Stmt := PySem.Challenge.pw_trellis_k45_faces.main.body.getD i (.Pass ⟨0, 0, 0, 0⟩)
/-- a def of the text and where it stands -/
structure DefAt (K : PySem.W.Frag) (mg : Str → Option Value) (x : Str) (st : Stmt) (ps : List Str) where
  f : Addr
  fd : FuncData
  F : Fun K x x st f fd
  b : Binds K fd ps []
  g : mg x = some (.ref f)
/-- the built-ins' names are not the module's own -/
structure Blt (mg : Str → Option Value) : Prop where
  len : mg "len" = none
  range : mg "range" = none
  list : mg "list" = none
  tuple : mg "tuple" = none
  int : mg "int" = none
  min : mg "min" = none
  max : mg "max" = none
  sorted : mg "sorted" = none
  isinstance : mg "isinstance" = none
  bool : mg "bool" = none
  str : mg "str" = none
  enumerate : mg "enumerate" = none
/-! ## the pool -/
def Pool (H : Hp) (a s : Addr) : Prop := ∃ (ns : List Int) (p v c salt : Int), H a = some (.lst [.ref s, .int p, .int v, .int c, .int salt]) ∧ H s = some (.lst (ns.map V.int)) ∧ 0 ≤ p ∧ s ≠ a
theorem Pool.lst {H : Hp} {a s : Addr} (h : Pool H a s) : ∃ xs, H a = some (.lst xs) := by
  obtain ⟨ns, p, v, c, salt, h, _⟩ := h
  exact ⟨_, h⟩
theorem Pool.mono {H H' : Hp} {a s : Addr} (h : Pool H a s) (k : Same H H') : Pool H' a s := by
  obtain ⟨ns, p, v, c, salt, h1, h2, h3, h4⟩ := h
  exact ⟨ns, p, v, c, salt, k _ _ h1, k _ _ h2, h3, h4⟩
theorem Pool.ne {H : Hp} {a s : Addr} (h : Pool H a s) : H a ≠ none := by
  obtain ⟨xs, e⟩ := h.lst
  rw [e]
  exact fun z => nomatch z
theorem Gr.tk {a s : Addr} {H H' : Hp} (g : Gr a H H') (h : Pool H a s) : TK H H' := by
  obtain ⟨xs, e⟩ := h.lst
  exact .of_gr g e
theorem new_ne {H : Hp} {a s l : Addr} (h : Pool H a s) (n : H l = none) : l ≠ a ∧ l ≠ s := by
  obtain ⟨ns, p, v, c, salt, h1, h2, h3, h4⟩ := h
  exact ⟨ne_of_none h1 n |> Ne.symm, ne_of_none h2 n |> Ne.symm⟩
theorem Pool.upd {H : Hp} {a s l : Addr} {o : HO} (h : Pool H a s) (n : l ≠ a ∧ l ≠ s) : Pool (upd H l o) a s := by
  obtain ⟨ns, p, v, c, salt, h1, h2, h3, h4⟩ := h
  exact ⟨ns, p, v, c, salt, (upd_ne (Ne.symm n.1)).trans h1, (upd_ne (Ne.symm n.2)).trans h2, h3, h4⟩
abbrev s_law_spread : Stmt := topS 10
theorem sc_law_spread : FnScope ["cell", "mixed", "total", "k"] ["cell"] (defScope s_law_spread) := ⟨rfl, rfl, rfl, by decide +kernel, rfl, by decide +kernel, by decide +kernel⟩

abbrev s_law_draw : Stmt := topS 11
theorem sc_law_draw : FnScope ["pool", "many", "cell", "mixed", "value"] ["pool", "many"] (defScope s_law_draw) := ⟨rfl, rfl, rfl, by decide +kernel, rfl, by decide +kernel, by decide +kernel⟩

section
variable {P : Program} {w : World} {K : PySem.W.Frag} {mg : Str → Option Value} {base : Heap}
def spSpread : Sp := fun vs H Q _ => ∃ n : Int, vs = [.int n] ∧ ∀ r : Int, Q (.int r) H
theorem ok_spread (T : Blt mg) (D : DefAt K mg "_law_spread" s_law_spread ["cell"]) : FnOk P w K mg base CX0 1 D.f D.fd ["cell"] spSpread := by
  refine D.F.ok sc_law_spread (fun vs H Q E h => ?_) (fun cdv A outer s H vs Q E hr h => ?_)
  · obtain ⟨n, rfl, _⟩ := h
    rfl
  · obtain ⟨n, rfl, q⟩ := h
    refine ⟨_, (pss_cons (ps_set (i := 1) sc_law_spread.nd rfl (Or.inl rfl) (pe_op op_mod (pe_callTy call_int1' (by rfl) T.int (by decide +kernel) (pa_cons (pv 0) pa_nil)) pe_int))
      (pss_cons (ps_set (i := 2) sc_law_spread.nd rfl (Or.inl rfl) pe_int)
      (pss_cons (ps_for PassesOwn.never (by rfl) (pi_range1 (by rfl) T.range (pa_cons pe_int pa_nil)) (pg_name (i := 3) sc_law_spread.nd rfl (Or.inl rfl))
        (pss_cons (ps_set (i := 1) sc_law_spread.nd rfl (Or.inl rfl) (pe_op op_mod (pe_callTy call_int1' (by rfl) T.int (by decide +kernel) (pa_cons (pe_op op_add (pe_op op_add (pe_op op_mul (pv 1) pe_int) pe_int) (pv 3)) pa_nil)) pe_int))
        (pss_one (ps_set (i := 2) sc_law_spread.nd rfl (Or.inl rfl) (pe_op op_add (pe_op op_mul (pv 2) pe_int) (pv 1))))))
      (pss_one (ps_ret (pv 2)))))), ?_⟩
    refine r_at (σ := [some _, none, none, none]) rfl ?_
    walk_at "z"
    refine r_rg1 (by decide) (forR_range (fun _ σ' H' => H' = H ∧ ∃ a b c : Int, ∃ x, σ' = [some (.int a), some (.int b), some (.int c), x]) ⟨rfl, _, _, _, _, rfl⟩ (fun i σ' H' _ ⟨eH, a, b, c, x, eσ⟩ => ?_) fun σ' H' ⟨eH, a, b, c, x, eσ⟩ => ?_)
    · subst eH eσ
      walk_at "z"
      exact ⟨rfl, _, _, _, _, rfl⟩
    · subst eH eσ
      walk_at "z"
      exact q _
/-- a draw: a number from 0 up to the bound; the pool stays a pool; all else stands -/
def spDraw : Sp := fun vs H Q _ => ∃ (a s : Addr) (m : Int), vs = [.ref a, .int m] ∧ Pool H a s ∧ 0 < m ∧ m < 1000000 ∧ ∀ (r : Int) (H' : Hp), 0 ≤ r → r < m → Pool H' a s → Gr a H H' → Q (.int r) H'
theorem ok_draw (T : Blt mg) (D : DefAt K mg "_law_draw" s_law_draw ["pool", "many"]) (D_law_spread : DefAt K mg "_law_spread" s_law_spread ["cell"]) (G_law_spread : FnOk P w K mg base CX0 1 D_law_spread.f D_law_spread.fd ["cell"] spSpread) : FnOk P w K mg base CX0 2 D.f D.fd ["pool", "many"] spDraw := by
  refine D.F.ok sc_law_draw (fun vs H Q E h => ?_) (fun cdv A outer s H vs Q E hr h => ?_)
  · obtain ⟨a, _, m, rfl, _⟩ := h
    rfl
  · obtain ⟨a, s0, m, rfl, ⟨ns, p, v, c, salt, ha, hs, hp, hsa⟩, m0, m1, q⟩ := h
    refine ⟨_, (pss_cons (ps_if (PW.pt (pw_and (pt_cmpR op_le (pe_ix (ix_listK (K := K) rfl) (pv 0) pe_int (fun _ _ => rfl)) pe_int (nomark _)) (pw_and1 (pt_cmpR op_lt (pe_ix (ix_listK (K := K) rfl) (pv 0) pe_int (fun _ _ => rfl)) (pe_callB (call_lenK (K := K) rfl) (by rfl) T.len (by decide +kernel) (pa_cons (pe_ix (ix_listK (K := K) rfl) (pv 0) pe_int (fun _ _ => rfl)) pa_nil)) (nomark _)))))
        (pss_cons (ps_set (i := 2) sc_law_draw.nd rfl (Or.inl rfl) (pe_ix (ix_listK (K := K) rfl) (pe_ix (ix_listK (K := K) rfl) (pv 0) pe_int (fun _ _ => rfl)) (pe_ix (ix_listK (K := K) rfl) (pv 0) pe_int (fun _ _ => rfl)) (fun _ _ => rfl)))
        (pss_cons (ps_asg (pe_op op_add (pe_ix (ix_listK (K := K) rfl) (pv 0) pe_int (fun _ _ => rfl)) pe_int) (pg_sub (pv 0) pe_int set_list))
        (pss_cons (ps_asg (pv 2) (pg_sub (pv 0) pe_int set_list))
        (pss_one (ps_if (pt_cmpR op_lt (pv 2) pe_int (nomark _))
          (pss_one (ps_asg (pe_call G_law_spread (hr.mono (by first | decide | omega)) (by rfl) D_law_spread.g D_law_spread.F.kp D_law_spread.b .nil pass0 (pa_cons (pv 2) pa_nil)) (pg_sub (pv 0) pe_int set_list)))
          pss_nil)))))
        pss_nil)
      (pss_cons (ps_asg (pe_op op_add (pe_ix (ix_listK (K := K) rfl) (pv 0) pe_int (fun _ _ => rfl)) pe_int) (pg_sub (pv 0) pe_int set_list))
      (pss_cons (ps_if (pt_cmpR op_le (pe_ix (ix_listK (K := K) rfl) (pv 0) pe_int (fun _ _ => rfl)) pe_int (nomark _))
        (pss_cons (ps_set (i := 3) sc_law_draw.nd rfl (Or.inl rfl) (pe_op op_mod (pe_callTy call_int1' (by rfl) T.int (by decide +kernel) (pa_cons (pe_op op_add (pe_op op_add (pe_op op_mul (pe_ix (ix_listK (K := K) rfl) (pv 0) pe_int (fun _ _ => rfl)) pe_int) (pe_op op_mul (pe_ix (ix_listK (K := K) rfl) (pv 0) pe_int (fun _ _ => rfl)) pe_int)) pe_int) pa_nil)) pe_int))
        (pss_cons (ps_set (i := 3) sc_law_draw.nd rfl (Or.inl rfl) (pe_op op_mod (pe_callTy call_int1' (by rfl) T.int (by decide +kernel) (pa_cons (pe_op op_add (pe_op op_mul (pv 3) pe_int) (pe_ix (ix_listK (K := K) rfl) (pv 0) pe_int (fun _ _ => rfl))) pa_nil)) pe_int))
        (pss_one (ps_ret (pe_op op_mod (pe_op op_fdivW (pv 3) pe_int) (pv 1))))))
        pss_nil)
      (pss_cons (ps_set (i := 4) sc_law_draw.nd rfl (Or.inl rfl) (pe_op op_mod (pe_callTy call_int1' (by rfl) T.int (by decide +kernel) (pa_cons (pe_ix (ix_listK (K := K) rfl) (pv 0) pe_int (fun _ _ => rfl)) pa_nil)) (pv 1)))
      (pss_cons (ps_asg (pe_op op_fdivW (pe_ix (ix_listK (K := K) rfl) (pv 0) pe_int (fun _ _ => rfl)) (pv 1)) (pg_sub (pv 0) pe_int set_list))
      (pss_one (ps_ret (pv 4)))))))), ?_⟩
    refine r_at (σ := [some _, some _, none, none, none]) rfl ?_
    refine r_seqW (fun σ' H' => ∃ (p v c : Int) (x2 : Option V), σ' = [some (.ref a), some (.int m), x2, none, none] ∧ H' a = some (.lst [.ref s0, .int p, .int v, .int c, .int salt]) ∧ 0 ≤ p ∧ H' s0 = some (.lst (ns.map V.int)) ∧ Gr a H H') ?tail (fun B hB => ?head)
    case head =>
      have sa : s0 ≠ a := hsa
      walk_at "z"
      refine r_ite (fun hv => ?_) (fun hv => ?_)
      · walk_at "z"
        refine r_ite (fun hl => ?_) (fun hl => ?_)
        · rw [List.length_map] at hl
          obtain ⟨cell, _, hc⟩ := at_int hp hl
          walk_at "z"
          have key : ∀ r : Int, B [some (V.ref a), some (V.int m), some (V.int cell), none, none] (upd H a (.lst [.ref s0, .int (p + 1), .int r, .int c, .int salt])) := fun r => hB _ _ ⟨p + 1, r, c, _, rfl, upd_same, by omega, (upd_ne sa).trans hs, .self⟩
          refine r_ite (fun hb => ?_) (fun hb => ?_)
          · walk_at "z"
            refine ⟨_, rfl, fun r => ?_⟩
            walk_at "z"
            exact key _
          · walk_at "z"
            exact key _
        · walk_at "z"
          exact hB _ _ ⟨p, v, c, _, rfl, ha, hp, hs, .refl a H⟩
      · walk_at "z"
        exact hB _ _ ⟨p, v, c, _, rfl, ha, hp, hs, .refl a H⟩
    case tail =>
      rintro σ' H' ⟨p', v', c', x2, rfl, ha', hp', hs', g⟩
      have md : ∀ z : Int, 0 ≤ z % m ∧ z % m < m := fun z => ⟨Int.emod_nonneg z (by omega), Int.emod_lt_of_pos z m0⟩
      have fin : ∀ (z v2 : Int), Q (V.int (z % m)) (upd H' a (.lst [.ref s0, .int p', .int v2, .int (c' + 1), .int salt])) := fun z v2 =>
        q _ _ (md z).1 (md z).2 ⟨ns, p', v2, c' + 1, salt, upd_same, (upd_ne hsa).trans hs', hp', hsa⟩ (g.trans .self)
      walk_at "z"
      refine r_ite (fun hv => ?_) (fun hv => ?_)
      · walk_at "z"
        exact fin _ _
      · walk_at "z"
        refine r_i ⟨m0, (wide_div (i := 0) m0 (b := 20) (by omega) (by decide) (by decide)).2⟩ ?_
        walk_at "z"
        exact fin _ _
/-- the pool of a script -/
abbrev s_law_pool : Stmt := topS 9
theorem sc_law_pool : FnScope ["script", "salt", "cell"] ["script"] (defScope s_law_pool) := ⟨rfl, rfl, rfl, by decide +kernel, rfl, by decide +kernel, by decide +kernel⟩

def spPool (K : PySem.W.Frag) : Sp := fun vs H Q _ => ∃ (l : Addr) (ns : List Int), vs = [.ref l] ∧ SqL K H l (ns.map V.int) ∧ ∀ (a s : Addr) (H' : Hp), H a = none → Same H H' → Pool H' a s → Q (.ref a) H'
theorem cut_ints (ns : List Int) (lo hi : Option Int) : ∃ ms : List Int, cutV (ns.map V.int) lo hi = ms.map V.int ∧ ms.length ≤ ns.length := by
  refine ⟨(ns.drop (HT.sIx ns.length 0 lo)).take (HT.sIx ns.length ns.length hi - HT.sIx ns.length 0 lo), ?_, ?_⟩
  · unfold cutV
    rw [List.length_map, List.map_take, List.map_drop]
  · rw [List.length_take, List.length_drop]
    omega
theorem ok_pool (T : Blt mg) (D : DefAt K mg "_law_pool" s_law_pool ["script"]) : FnOk P w K mg base CX0 1 D.f D.fd ["script"] (spPool K) := by
  refine D.F.ok sc_law_pool (fun vs H Q E h => ?_) (fun cdv A outer s H vs Q E hr h => ?_)
  · obtain ⟨a, m, rfl, _⟩ := h
    rfl
  · obtain ⟨l, ns, rfl, hl, q⟩ := h
    refine ⟨_, (pss_cons (ps_set (i := 1) sc_law_pool.nd rfl (Or.inl rfl) pe_int)
      (pss_cons (ps_for PassesOwn.never (by rfl) (PI.listK (K := K) rfl (pi_list (pe_slice (sl_listK (K := K) rfl) (pv 0) po_none (po_some pe_int)))) (pg_name (i := 2) sc_law_pool.nd rfl (Or.inl rfl))
        (pss_one (ps_set (i := 1) sc_law_pool.nd rfl (Or.inl rfl) (pe_op op_mod (pe_callTy call_int1' (by rfl) T.int (by decide +kernel) (pa_cons (pe_op op_add (pe_op op_mul (pv 1) pe_int) (pv 2)) pa_nil)) pe_int))))
      (pss_one (ps_ret (pe_lst (pa_cons (pe_callTy (call_listK (K := K) rfl) (by rfl) T.list (by decide +kernel) (pa_cons (pv 0) pa_nil)) (pa_cons pe_int (pa_cons pe_int (pa_cons pe_int (pa_cons (pv 1) pa_nil)))))))))), ?_⟩
    refine r_at (σ := [some _, none, none]) rfl ?_
    walk_at "z"
    obtain ⟨ms, em, _⟩ := cut_ints ns none (some 63)
    refine ⟨l, _, rfl, hl, fun c hc => ?_⟩
    have sc : Same H (upd H c (.lst (ms.map V.int))) := same_new hc
    rw [em]
    refine r_il (.inl (.inl upd_same)) (forR_list (xs := ms.map V.int) (fun i σ' H' => H' = upd H c (.lst (ms.map V.int)) ∧ ∃ (z : Int) (x : Option V), σ' = [some (.ref l), some (.int z), x]) ⟨rfl, _, _, rfl⟩ (fun i σ' H' _ ⟨eH, _⟩ => ?_) (fun i x σ' H' hx ⟨eH, z, y, eσ⟩ => ?_) fun σ' H' ⟨eH, z, y, eσ⟩ => ?_)
    · rw [eH]
      exact .inl (.inl upd_same)
    · subst eH eσ
      rw [List.getElem?_map] at hx
      obtain ⟨n, _, rfl⟩ := Option.map_eq_some_iff.mp hx
      walk_at "z"
      exact ⟨rfl, _, _, rfl⟩
    · subst eH eσ
      walk_at "z"
      refine r_listL (sc.seq hl) fun b hb => ?_
      walk_at "z"
      refine r_lstN (by show 5 ≤ sizeLine; decide) fun a ha => ?_
      have sb := sc.trans (same_new (o := .lst (ns.map V.int)) hb)
      exact q a b _ (sb.free ha) (sb.trans (same_new ha)) ⟨ns, 0, 0, 0, z, upd_same, (upd_ne (ne_of_none upd_same ha)).trans upd_same, by omega, ne_of_none upd_same ha⟩
end

set_option Elab.async false
set_option linter.all false
set_option maxRecDepth 100000
set_option maxHeartbeats 4000000
open PySem PySem.Spec PyProof.Rows L2

abbrev s_law_pairs : Stmt := topS 12
theorem sc_law_pairs : FnScope ["n", "pairs", "u", "v"] ["n"] (defScope s_law_pairs) := ⟨rfl, rfl, rfl, by decide +kernel, rfl, by decide +kernel, by decide +kernel⟩

section
variable {P : Program} {w : World} {K : PySem.W.Frag} {mg : Str → Option Value} {base : Heap}
theorem prs_push {H : Hp} {l t : Addr} {xs : List V} {ps : List (Int × Int)} {a b : Int} (hl : H l = some (.lst xs)) (hp : Prs H xs ps) (ht : H t = none) :
    Prs (upd (upd H t (.tup [.int a, .int b])) l (.lst (xs ++ [.ref t]))) (xs ++ [.ref t]) (ps ++ [(a, b)]) := by
  have n : t ≠ l := (ne_of_none hl ht).symm
  have k : TK H (upd (upd H t (.tup [.int a, .int b])) l (.lst (xs ++ [.ref t]))) := fun c ys e => by
    rw [upd_ne (fun z => by rw [z, hl] at e; cases e), upd_ne (ne_of_none e ht)]
    exact e
  exact (hp.tk k).snoc ⟨t, rfl, by rw [upd_ne n]; exact upd_same⟩
/-- all pairs u < v below n -/
def spPairs : Sp := fun vs H Q _ => ∃ n : Nat, vs = [.int (n : Int)] ∧ n ≤ 100 ∧ ∀ (l : Addr) (xs : List V) (H' : Hp), H l = none → Same H H' → H' l = some (.lst xs) → Prs H' xs (allP n) → Q (.ref l) H'
/-- the rows ascending, each once -/
def spDistinct (K : PySem.W.Frag) : Sp := fun vs H Q _ => ∃ (l : Addr) (xs : List V) (ps : List (Int × Int)), vs = [.ref l] ∧ SqL K H l xs ∧ Prs H xs ps ∧ ps.length ≤ 10000 ∧
  ∀ (f : Addr) (ys : List V) (qs : List (Int × Int)) (H' : Hp), H f = none → Same H H' → H' f = some (.lst ys) → Prs H' ys qs → qs.Pairwise ltP → (∀ p, p ∈ qs ↔ p ∈ ps) → Q (.ref f) H'
end

set_option Elab.async false
set_option linter.all false
set_option maxRecDepth 100000
set_option maxHeartbeats 4000000
open PySem PySem.Spec PyProof.Rows L2

abbrev s_law_near : Stmt := topS 15
theorem sc_law_near : FnScope ["graph", "v", "u"] ["graph", "v"] (defScope s_law_near) := ⟨rfl, rfl, rfl, by decide +kernel, rfl, by decide +kernel, by decide +kernel⟩

section
variable {P : Program} {w : World} {K : PySem.W.Frag} {mg : Str → Option Value} {base : Heap}
/-- the edges stand as a tuple of pairs at e -/
def EdgesAt (H : Hp) (e : Addr) (ps : List (Int × Int)) : Prop := ∃ xs, H e = some (.tup xs) ∧ Prs H xs ps
theorem EdgesAt.tk {H H' : Hp} (k : TK H H') {e : Addr} {ps : List (Int × Int)} (h : EdgesAt H e ps) : EdgesAt H' e ps := by
  obtain ⟨xs, h1, h2⟩ := h
  exact ⟨xs, k _ _ h1, h2.tk k⟩
/-- v is the graph of n and these edges -/
def GrAt (H : Hp) (v : V) (n : Int) (ps : List (Int × Int)) : Prop := ∃ g e, v = .ref g ∧ H g = some (.tup [.int n, .ref e]) ∧ EdgesAt H e ps
theorem GrAt.tk {H H' : Hp} (k : TK H H') {v : V} {n : Int} {ps : List (Int × Int)} (h : GrAt H v n ps) : GrAt H' v n ps := by
  obtain ⟨g, e, h1, h2, h3⟩ := h
  exact ⟨g, e, h1, k _ _ h2, h3.tk k⟩
/-- (n, tuple of distinct(..)) -/
def spOf (K : PySem.W.Frag) : Sp := fun vs H Q _ => ∃ (n : Int) (l : Addr) (xs : List V) (ps : List (Int × Int)), vs = [.int n, .ref l] ∧ SqL K H l xs ∧ Prs H xs ps ∧ ps.length ≤ 10000 ∧
  ∀ (v : V) (qs : List (Int × Int)) (H' : Hp), Same H H' → GrAt H' v n qs → qs.Pairwise ltP → (∀ p, p ∈ qs ↔ ∃ r ∈ ps, p = nrm r) → Q v H'
theorem r_minP {x : V} {p : Int × Int} {H : Hp} {Q : VK} (h : IsP H x p) (q : Q (.int (min p.1 p.2)) H) : rMinT [x] H Q := ⟨x, p, rfl, h, q⟩
theorem r_maxP {x : V} {p : Int × Int} {H : Hp} {Q : VK} (h : IsP H x p) (q : Q (.int (max p.1 p.2)) H) : rMaxT [x] H Q := ⟨x, p, rfl, h, q⟩
/-- are u and v neighbours? -/
def spMet : Sp := fun vs H Q _ => ∃ (g : V) (n u v : Int) (ps : List (Int × Int)), vs = [g, .int u, .int v] ∧ GrAt H g n ps ∧ ∀ H', Same H H' → Q (.bl (decide (nrm (u, v) ∈ ps))) H'
/-- the neighbours, ascending -/
def nearL (n : Int) (ps : List (Int × Int)) (v : Int) (k : Nat) : List Int := ((List.range k).map fun (i : Nat) => (i : Int)).filter fun u => decide (u ≠ v ∧ nrm (u, v) ∈ ps)
def spNear : Sp := fun vs H Q _ => ∃ (g : V) (n v : Int) (ps : List (Int × Int)), vs = [g, .int v] ∧ GrAt H g n ps ∧ 0 ≤ n ∧ n ≤ 100 ∧ ∀ (l : Addr) (H' : Hp), H l = none → Same H H' → H' l = some (.lst ((nearL n ps v n.toNat).map V.int)) → Q (.ref l) H'
end

set_option Elab.async false
set_option linter.all false
set_option maxRecDepth 100000
set_option maxHeartbeats 4000000
open PySem PySem.Spec PyProof.Rows L2

section
variable {P : Program} {w : World} {K : PySem.W.Frag} {mg : Str → Option Value} {base : Heap}
/-- (u, v) or (v, u) -/
def spEdge : Sp := fun vs H Q _ => ∃ u v : Int, vs = [.int u, .int v] ∧ ∀ x H', Same H H' → IsP H' x (nrm (u, v)) → Q x H'
theorem flt_take {α : Type} {ps : List α} {i : Nat} {p : α} (h : ps[i]? = some p) (c : α → Bool) : (ps.take (i + 1)).filter c = (ps.take i).filter c ++ (if c p = true then [p] else []) := by
  rw [take_next h, List.filter_append, List.filter_cons, List.filter_nil]
theorem flt_len {α : Type} {ps : List α} {i k : Nat} (c : α → Bool) (h : ps.length ≤ k) : ((ps.take i).filter c).length ≤ k := by
  have h1 := List.length_filter_le c (ps.take i)
  rw [List.length_take] at h1
  omega
def spAre : Sp := fun vs H Q _ => ∃ (g : V) (n u v : Int) (ps : List (Int × Int)), vs = [g, .int u, .int v] ∧ GrAt H g n ps ∧ ∀ H', Same H H' → Q (.bl (decide (nrm (u, v) ∈ ps))) H'
end

set_option Elab.async false
set_option linter.all false
set_option maxRecDepth 100000
set_option maxHeartbeats 4000000
open PySem PySem.Spec PyProof.Rows L2

abbrev s_law_same : Stmt := topS 7
theorem sc_law_same : FnScope ["actual", "due", "k"] ["actual", "due"] (defScope s_law_same) := ⟨rfl, rfl, rfl, by decide +kernel, rfl, by decide +kernel, by decide +kernel⟩

/-! ## values that are alike -/
def kd : PyData → String
  | .none => "NoneType"
  | .bool _ => "bool"
  | .int _ => "int"
  | .str _ => "str"
  | .list _ => "list"
  | .tuple _ => "tuple"
  | .dict _ => "dict"
/-- no deeper than d, and nowhere long -/
def sm : Nat → PyData → Prop
  | 0, _ => False
  | _ + 1, .none => True
  | _ + 1, .bool _ => True
  | _ + 1, .int _ => True
  | _ + 1, .str x => x.cps.all (· < 0x110000) = true
  | d + 1, .list xs => xs.length ≤ 100000 ∧ ∀ x ∈ xs, sm d x
  | d + 1, .tuple xs => xs.length ≤ 100000 ∧ ∀ x ∈ xs, sm d x
  | _ + 1, .dict _ => False
section
variable {P : Program} {w : World} {K : PySem.W.Frag} {mg : Str → Option Value} {base : Heap}
theorem DpAll.pd {H : Hp} : ∀ (ds : List PyData) {vs : List V}, DpAll K H vs ds → Paired (Dp K H) vs ds
  | [], _, .nil => .nil
  | _ :: ds, _, .cons h r => .cons h (DpAll.pd ds r)
theorem DpAll.of {H : Hp} : ∀ {ds : List PyData} {vs : List V}, Paired (Dp K H) vs ds → DpAll K H vs ds
  | _, _, .nil => .nil
  | _, _, .cons h r => .cons h (DpAll.of r)
theorem ty_dp {H : Hp} {x : V} {t : PyData} (h : Dp K H x t) : TyX K H x (.type (kd t)) := by
  cases h with
  | non => exact .base .non
  | bl b => exact .base (.bl b)
  | int i => exact .base (.int i)
  | str s => exact .base (.str s)
  | lst h _ =>
    rcases h with (h | ⟨ob, h⟩) | ⟨o, its, n, h1, h2, _⟩
    · exact .base (.lst h)
    · exact .base (.frz h)
    · exact .kList h1 h2
  | tup h _ =>
    rcases h with (h | ⟨ob, h⟩) | ⟨o, its, n, h1, h2, _⟩
    · exact .base (.tup h)
    · exact .fTuple h
    · exact .kTuple h1 h2
theorem r_isiD {H : Hp} {Q : VK} {x : V} {t : PyData} {c k : String} {b : Bool} (h : Dp K H x t) (e1 : kd t = k) (e : kitB k c = some b) (q : Q (.bl b) H) : rIsi K [x, .ty c] H Q :=
  ⟨x, .ty c, .type k, .type c, b, rfl, .ty _, e1 ▸ ty_dp h, kit_ty e, q⟩
theorem r_eqD {H : Hp} {Q : VK} {x y : V} {t : PyData} (hx : Dp K H x t) (hy : Dp K H y t) (c : t.canLay0 = true) (d : t.depth ≤ 64) (q : Q (.bl true) H) : rEqD K x y H Q := by
  have e : SeqAt.shaped t = true := by
    unfold SeqAt.shaped
    rw [c, decide_eq_true d]
    rfl
  refine ⟨t, t, hx, hy, e, e, ?_⟩
  rw [PySem.SeqAt.eqv_refl t c]
  exact q
theorem r_isN {H : Hp} {Q : VK} {x : V} (q : Q (.bl (decide (x = .non))) H) : (fun (x y : V) (H : Hp) (Q : VK) => y = .non ∧ Q (.bl (decide (x = .non))) H) x .non H Q := ⟨rfl, q⟩
def spSame (K : PySem.W.Frag) (d : Nat) : Sp := fun vs H Q _ => ∃ (x y : V) (t : PyData), vs = [x, y] ∧ Dp K H x t ∧ Dp K H y t ∧ sm d t ∧ Q (.bl true) H
theorem ok_same (T : Blt mg) (D_law_same : DefAt K mg "_law_same" s_law_same ["actual", "due"]) : ∀ d : Nat, FnOk P w K mg base CX0 d D_law_same.f D_law_same.fd ["actual", "due"] (spSame K d)
  | 0 => fn_none.imp fun vs H Q E h => by
    obtain ⟨_, _, _, _, _, _, h, _⟩ := h
    exact h
  | d + 1 => by
    have G_law_same := ok_same T D_law_same d
    refine D_law_same.F.ok sc_law_same (fun vs H Q E h => ?_) (fun cdv A outer s H vs Q E hr h => ?_)
    · obtain ⟨x, y, t, rfl, _⟩ := h
      rfl
    · obtain ⟨x, y, t, rfl, hx, hy, hd, q⟩ := h
      refine ⟨_, (pss_cons (ps_if (PW.pt (pw_or (pt_val (pe_callB (call_isiK (K := K) rfl) (by rfl) T.isinstance (by decide +kernel) (pa_cons (pv 1) (pa_cons (pe_bltn (v := .ty "tuple") (u := .type "tuple") (by rfl) T.tuple (by decide +kernel) rfl) pa_nil)))) (pw_or1 (pt_val (pe_callB (call_isiK (K := K) rfl) (by rfl) T.isinstance (by decide +kernel) (pa_cons (pv 1) (pa_cons (pe_bltn (v := .ty "list") (u := .type "list") (by rfl) T.list (by decide +kernel) rfl) pa_nil)))))))
        (pss_cons (ps_if (PW.pt (pw_or (pt_cmpR op_ne (pe_callB (call_isiK (K := K) rfl) (by rfl) T.isinstance (by decide +kernel) (pa_cons (pv 1) (pa_cons (pe_bltn (v := .ty "tuple") (u := .type "tuple") (by rfl) T.tuple (by decide +kernel) rfl) pa_nil))) (pe_callB (call_isiK (K := K) rfl) (by rfl) T.isinstance (by decide +kernel) (pa_cons (pv 0) (pa_cons (pe_bltn (v := .ty "tuple") (u := .type "tuple") (by rfl) T.tuple (by decide +kernel) rfl) pa_nil))) (nomark _)) (pw_or1 (pt_cmpR op_ne (pe_callB (call_isiK (K := K) rfl) (by rfl) T.isinstance (by decide +kernel) (pa_cons (pv 1) (pa_cons (pe_bltn (v := .ty "list") (u := .type "list") (by rfl) T.list (by decide +kernel) rfl) pa_nil))) (pe_callB (call_isiK (K := K) rfl) (by rfl) T.isinstance (by decide +kernel) (pa_cons (pv 0) (pa_cons (pe_bltn (v := .ty "list") (u := .type "list") (by rfl) T.list (by decide +kernel) rfl) pa_nil))) (nomark _)))))
          (pss_one (ps_ret pe_bl))
          pss_nil)
        (pss_cons (ps_if (pt_cmpR op_ne (pe_callB (call_lenK (K := K) rfl) (by rfl) T.len (by decide +kernel) (pa_cons (pv 0) pa_nil)) (pe_callB (call_lenK (K := K) rfl) (by rfl) T.len (by decide +kernel) (pa_cons (pv 1) pa_nil)) (nomark _))
          (pss_one (ps_ret pe_bl))
          pss_nil)
        (pss_cons (ps_for PassesOwn.never (by rfl) (pi_range1 (by rfl) T.range (pa_cons (pe_callB (call_lenK (K := K) rfl) (by rfl) T.len (by decide +kernel) (pa_cons (pv 1) pa_nil)) pa_nil)) (pg_name (i := 2) sc_law_same.nd rfl (Or.inl rfl))
          (pss_one (ps_if (pt_not (pt_val (pe_call G_law_same (hr.mono (by first | decide | omega)) (by rfl) D_law_same.g D_law_same.F.kp D_law_same.b .nil pass0 (pa_cons (pe_ix (ix_eitherK (K := K) rfl) (pv 0) (pv 2) (fun _ _ => rfl)) (pa_cons (pe_ix (ix_eitherK (K := K) rfl) (pv 1) (pv 2) (fun _ _ => rfl)) pa_nil)))))
            (pss_one (ps_ret pe_bl))
            pss_nil)))
        (pss_one (ps_ret pe_bl)))))
        pss_nil)
      (pss_cons (ps_if (pt_cmpR op_isN (pv 1) pe_non (nomark _))
        (pss_one (ps_ret (pe_cmpR op_isN (pv 0) pe_non (nomark _))))
        pss_nil)
      (pss_cons (ps_if (pt_val (pe_callB (call_isiK (K := K) rfl) (by rfl) T.isinstance (by decide +kernel) (pa_cons (pv 1) (pa_cons (pe_bltn (v := .ty "bool") (u := .type "bool") (by rfl) T.bool (by decide +kernel) rfl) pa_nil))))
        (pss_one (ps_ret (pe_and (pe_callB (call_isiK (K := K) rfl) (by rfl) T.isinstance (by decide +kernel) (pa_cons (pv 0) (pa_cons (pe_bltn (v := .ty "bool") (u := .type "bool") (by rfl) T.bool (by decide +kernel) rfl) pa_nil))) (pe_one (pe_cmpR (op_eqDK (K := K) rfl hr.units) (pv 0) (pv 1) (nomark _))))))
        pss_nil)
      (pss_cons (ps_if (pt_val (pe_callB (call_isiK (K := K) rfl) (by rfl) T.isinstance (by decide +kernel) (pa_cons (pv 1) (pa_cons (pe_bltn (v := .ty "int") (u := .type "int") (by rfl) T.int (by decide +kernel) rfl) pa_nil))))
        (pss_one (ps_ret (pe_and (pe_callB (call_isiK (K := K) rfl) (by rfl) T.isinstance (by decide +kernel) (pa_cons (pv 0) (pa_cons (pe_bltn (v := .ty "int") (u := .type "int") (by rfl) T.int (by decide +kernel) rfl) pa_nil))) (pe_and (pe_not (pe_callB (call_isiK (K := K) rfl) (by rfl) T.isinstance (by decide +kernel) (pa_cons (pv 0) (pa_cons (pe_bltn (v := .ty "bool") (u := .type "bool") (by rfl) T.bool (by decide +kernel) rfl) pa_nil)))) (pe_one (pe_cmpR (op_eqDK (K := K) rfl hr.units) (pv 0) (pv 1) (nomark _)))))))
        pss_nil)
      (pss_one (ps_ret (pe_and (pe_callB (call_isiK (K := K) rfl) (by rfl) T.isinstance (by decide +kernel) (pa_cons (pv 0) (pa_cons (pe_bltn (v := .ty "str") (u := .type "str") (by rfl) T.str (by decide +kernel) rfl) pa_nil))) (pe_one (pe_cmpR (op_eqDK (K := K) rfl hr.units) (pv 0) (pv 1) (nomark _)))))))))), ?_⟩
      refine r_at (σ := [some _, some _, none]) rfl ?_
      cases t with
      | none =>
        cases hx; cases hy
        walk_at "z"
        refine r_isiD .non (k := "NoneType") rfl (b := false) (by decide +kernel) ?_
        walk_at "z"
        refine r_isiD .non (k := "NoneType") rfl (b := false) (by decide +kernel) ?_
        walk_at "z"
        refine r_isN ?_
        walk_at "z"
        refine iteT ?_
        walk_at "z"
        refine r_isN ?_
        exact q
      | bool b =>
        cases hx; cases hy
        walk_at "z"
        refine r_isiD (.bl b) (k := "bool") rfl (b := false) (by decide +kernel) ?_
        walk_at "z"
        refine r_isiD (.bl b) (k := "bool") rfl (b := false) (by decide +kernel) ?_
        walk_at "z"
        refine r_isN ?_
        walk_at "z"
        refine iteF ?_
        walk_at "z"
        refine r_isiD (.bl b) (k := "bool") rfl (b := true) (by decide +kernel) ?_
        walk_at "z"
        refine r_isiD (.bl b) (k := "bool") rfl (b := true) (by decide +kernel) ?_
        walk_at "z"
        exact r_eqD (.bl b) (.bl b) (by simp [PyData.canLay0]) (by simp [PyData.depth]) q
      | int i =>
        cases hx; cases hy
        walk_at "z"
        refine r_isiD (.int i) (k := "int") rfl (b := false) (by decide +kernel) ?_
        walk_at "z"
        refine r_isiD (.int i) (k := "int") rfl (b := false) (by decide +kernel) ?_
        walk_at "z"
        refine r_isN ?_
        walk_at "z"
        refine iteF ?_
        walk_at "z"
        refine r_isiD (.int i) (k := "int") rfl (b := false) (by decide +kernel) ?_
        walk_at "z"
        refine r_isiD (.int i) (k := "int") rfl (b := true) (by decide +kernel) ?_
        walk_at "z"
        refine r_isiD (.int i) (k := "int") rfl (b := true) (by decide +kernel) ?_
        walk_at "z"
        refine r_isiD (.int i) (k := "int") rfl (b := false) (by decide +kernel) ?_
        walk_at "z"
        refine iteT ?_
        walk_at "z"
        exact r_eqD (.int i) (.int i) (by simp [PyData.canLay0]) (by simp [PyData.depth]) q
      | str z =>
        cases hx; cases hy
        walk_at "z"
        refine r_isiD (.str z) (k := "str") rfl (b := false) (by decide +kernel) ?_
        walk_at "z"
        refine r_isiD (.str z) (k := "str") rfl (b := false) (by decide +kernel) ?_
        walk_at "z"
        refine r_isN ?_
        walk_at "z"
        refine iteF ?_
        walk_at "z"
        refine r_isiD (.str z) (k := "str") rfl (b := false) (by decide +kernel) ?_
        walk_at "z"
        refine r_isiD (.str z) (k := "str") rfl (b := false) (by decide +kernel) ?_
        walk_at "z"
        refine r_isiD (.str z) (k := "str") rfl (b := true) (by decide +kernel) ?_
        walk_at "z"
        exact r_eqD (.str z) (.str z) (by unfold PyData.canLay0; exact hd) (by simp [PyData.depth]) q
      | list ds =>
        obtain ⟨hn, hm⟩ := hd
        cases id hx with
        | @lst a xs _ hxs hxd =>
        cases id hy with
        | @lst b ys _ hys hyd =>
        have px := DpAll.pd _ hxd
        have py := DpAll.pd _ hyd
        have lx := px.length
        have ly := py.length
        walk_at "z"
        refine r_isiD hy (k := "list") rfl (b := false) (by decide +kernel) ?_
        walk_at "z"
        refine r_isiD hy (k := "list") rfl (b := true) (by decide +kernel) ?_
        walk_at "z"
        refine r_isiD hy (k := "list") rfl (b := false) (by decide +kernel) ?_
        walk_at "z"
        refine r_isiD hx (k := "list") rfl (b := false) (by decide +kernel) ?_
        walk_at "z"
        refine iteF ?_
        walk_at "z"
        refine r_isiD hy (k := "list") rfl (b := true) (by decide +kernel) ?_
        walk_at "z"
        refine r_isiD hx (k := "list") rfl (b := true) (by decide +kernel) ?_
        walk_at "z"
        refine iteF ?_
        walk_at "z"
        refine r_iteN (fun h => absurd (by omega) h) (fun _ => ?_)
        walk_at "z"
        walk_at "z"
        refine r_rg1 (by omega) (forR_range (fun i σ' H' => H' = H ∧ ∃ x2, σ' = [some (.ref a), some (.ref b), x2]) ⟨rfl, _, rfl⟩ ?_ ?_)
        · rintro i σ' H' hi ⟨rfl, x2, rfl⟩
          have hi' : i < ds.length := by omega
          obtain ⟨x, hxi, hxt⟩ := pd_get2 px (List.getElem?_eq_getElem hi')
          obtain ⟨y, hyi, hyt⟩ := pd_get2 py (List.getElem?_eq_getElem hi')
          have e0 : (0 : Int) + (i : Int) = i := by omega
          walk_at "z"
          rw [e0]
          refine r_ixE (.inl hxs) (atI_nat hxi) ?_
          walk_at "z"
          refine r_ixE (.inl hys) (atI_nat hyi) ?_
          walk_at "z"
          refine ⟨x, y, ds[i], rfl, hxt, hyt, hm _ (List.getElem_mem hi'), ?_⟩
          walk_at "z"
          refine iteF ?_
          exact ⟨rfl, _, rfl⟩
        · rintro σ' H' ⟨rfl, x2, rfl⟩
          walk_at "z"
          exact q
      | tuple ds =>
        obtain ⟨hn, hm⟩ := hd
        cases id hx with
        | @tup a xs _ hxs hxd =>
        cases id hy with
        | @tup b ys _ hys hyd =>
        have px := DpAll.pd _ hxd
        have py := DpAll.pd _ hyd
        have lx := px.length
        have ly := py.length
        walk_at "z"
        refine r_isiD hy (k := "tuple") rfl (b := true) (by decide +kernel) ?_
        walk_at "z"
        refine r_isiD hy (k := "tuple") rfl (b := true) (by decide +kernel) ?_
        walk_at "z"
        refine r_isiD hx (k := "tuple") rfl (b := true) (by decide +kernel) ?_
        walk_at "z"
        refine iteF ?_
        walk_at "z"
        refine r_isiD hy (k := "tuple") rfl (b := false) (by decide +kernel) ?_
        walk_at "z"
        refine r_isiD hx (k := "tuple") rfl (b := false) (by decide +kernel) ?_
        walk_at "z"
        refine iteF ?_
        walk_at "z"
        refine r_iteN (fun h => absurd (by omega) h) (fun _ => ?_)
        walk_at "z"
        walk_at "z"
        refine r_rg1 (by omega) (forR_range (fun i σ' H' => H' = H ∧ ∃ x2, σ' = [some (.ref a), some (.ref b), x2]) ⟨rfl, _, rfl⟩ ?_ ?_)
        · rintro i σ' H' hi ⟨rfl, x2, rfl⟩
          have hi' : i < ds.length := by omega
          obtain ⟨x, hxi, hxt⟩ := pd_get2 px (List.getElem?_eq_getElem hi')
          obtain ⟨y, hyi, hyt⟩ := pd_get2 py (List.getElem?_eq_getElem hi')
          have e0 : (0 : Int) + (i : Int) = i := by omega
          walk_at "z"
          rw [e0]
          refine r_ixE (.inr hxs) (atI_nat hxi) ?_
          walk_at "z"
          refine r_ixE (.inr hys) (atI_nat hyi) ?_
          walk_at "z"
          refine ⟨x, y, ds[i], rfl, hxt, hyt, hm _ (List.getElem_mem hi'), ?_⟩
          walk_at "z"
          refine iteF ?_
          exact ⟨rfl, _, rfl⟩
        · rintro σ' H' ⟨rfl, x2, rfl⟩
          walk_at "z"
          exact q
      | dict ds => exact hd.elim
end

set_option Elab.async false
set_option linter.all false
set_option maxRecDepth 100000
set_option maxHeartbeats 4000000
open PySem PySem.Spec PyProof.Rows L2
/-! graphs and pairs as data -/
def pT (p : Int × Int) : PyData := .tuple [.int p.1, .int p.2]
def gT (n : Int) (ps : List (Int × Int)) : PyData := .tuple [.int n, .tuple (ps.map pT)]
section
variable {K : PySem.W.Frag} {H : Hp} {Q : VK}
theorem dp_pair {x : V} {p : Int × Int} (h : IsP H x p) : Dp K H x (pT p) := by
  obtain ⟨t, rfl, ht⟩ := h
  exact .tup (.inl (.inl ht)) (.cons (.int _) (.cons (.int _) .nil))
theorem dp_prs : ∀ {xs : List V} {ps : List (Int × Int)}, Prs H xs ps → DpAll K H xs (ps.map pT)
  | _, _, .nil => .nil
  | _, _, .cons h r => .cons (dp_pair h) (dp_prs r)
theorem dp_list {l : Addr} {xs : List V} {ps : List (Int × Int)} (h : SqL K H l xs) (hp : Prs H xs ps) : Dp K H (.ref l) (.list (ps.map pT)) := .lst h (dp_prs hp)
theorem dp_graph {v : V} {n : Int} {ps : List (Int × Int)} (h : GrAt H v n ps) : Dp K H v (gT n ps) := by
  obtain ⟨g, e, rfl, hg, xs, he, hp⟩ := h
  exact .tup (.inl (.inl hg)) (.cons (.int _) (.cons (.tup (.inl (.inl he)) (dp_prs hp)) .nil))
theorem sm_pT (d : Nat) (p : Int × Int) : sm (d + 2) (pT p) := by
  refine ⟨by simp, fun x hx => ?_⟩
  rcases List.mem_cons.mp hx with e | e
  · rw [e]; exact trivial
  · rw [List.mem_singleton.mp e]; exact trivial
theorem sm_gT {n : Int} {ps : List (Int × Int)} (h : ps.length ≤ 100000) : sm 4 (gT n ps) := by
  refine ⟨by simp, fun x hx => ?_⟩
  rcases List.mem_cons.mp hx with e | e
  · rw [e]; exact trivial
  · rw [List.mem_singleton.mp e]
    refine ⟨by rw [List.length_map]; exact h, fun y hy => ?_⟩
    obtain ⟨p, _, rfl⟩ := List.mem_map.mp hy
    exact sm_pT 0 p
theorem lay_pT : ∀ ps : List (Int × Int), PyData.canLayAll0 (ps.map pT) = true
  | [] => by simp [PyData.canLayAll0]
  | p :: ps => by
    rw [List.map_cons]
    simp only [PyData.canLayAll0, pT, PyData.canLay0, Bool.and_self, Bool.true_and]
    exact lay_pT ps
theorem deep_pT : ∀ ps : List (Int × Int), PyData.depthAll (ps.map pT) ≤ 1
  | [] => by simp [PyData.depthAll]
  | p :: ps => by
    have := deep_pT ps
    rw [List.map_cons]
    simp only [PyData.depthAll, pT, PyData.depth]
    omega
theorem r_eqPs {l m : Addr} {xs ys : List V} {ps : List (Int × Int)} (h1 : SqL K H l xs) (p1 : Prs H xs ps) (h2 : SqL K H m ys) (p2 : Prs H ys ps) (q : Q (.bl true) H) : rEqD K (.ref l) (.ref m) H Q := by
  refine r_eqD (dp_list h1 p1) (dp_list h2 p2) (by unfold PyData.canLay0; exact lay_pT ps) ?_ q
  have := deep_pT ps
  unfold PyData.depth
  omega
theorem r_pickI {l : Addr} {ns : List Int} {r : Int} (h : H l = some (.lst (ns.map V.int))) (h0 : 0 ≤ r) (h1 : r < ns.length) (q : ∀ c ∈ ns, Q (.int c) H) : rIxL K (.ref l) (.int r) H Q := by
  obtain ⟨c, hc, e⟩ := at_int h0 h1
  exact r_ixL (.inl (.inl h)) e (q c hc)
theorem pd_intsT {H : Hp} : ∀ ns : List Int, Paired (Dp K H) (ns.map V.int) (ns.map PyData.int)
  | [] => .nil
  | n :: ns => .cons (.int n) (pd_intsT ns)
theorem Prs0 (H : Hp) : Prs H [] [] := .nil
theorem prs_new {H : Hp} {t : Addr} {xs : List V} {ps : List (Int × Int)} {a b : Int} (hp : Prs H xs ps) (ht : H t = none) : Prs (upd H t (.tup [.int a, .int b])) (xs ++ [.ref t]) (ps ++ [(a, b)]) := (hp.tk (.new ht)).snoc ⟨t, rfl, upd_same⟩
/-- one of a list of pairs -/
theorem r_pickP {l : Addr} {xs : List V} {ps : List (Int × Int)} {r : Int} (h : H l = some (.lst xs)) (hp : Prs H xs ps) (h0 : 0 ≤ r) (h1 : r < ps.length) (q : ∀ x, ∀ p ∈ ps, IsP H x p → Q x H) : rIxL K (.ref l) (.int r) H Q := by
  have hr : ((r.toNat : Nat) : Int) = r := by omega
  have h2 : r.toNat < ps.length := by omega
  obtain ⟨x, hx, hxp⟩ := pd_get2 hp (List.getElem?_eq_getElem h2)
  rw [← hr]
  exact r_ixL (.inl (.inl h)) (atI_nat hx) (q x _ (List.getElem_mem h2) hxp)
end

set_option Elab.async false
set_option linter.all false
set_option maxRecDepth 100000
set_option maxHeartbeats 4000000
open PySem PySem.Spec PyProof.Rows L2

abbrev s_law_sorted_graph : Stmt := topS 13
theorem sc_law_sorted_graph : FnScope ["n", "edges", "pair"] ["n", "edges"] (defScope s_law_sorted_graph) := ⟨rfl, rfl, rfl, by decide +kernel, rfl, by decide +kernel, by decide +kernel⟩

section
variable {P : Program} {w : World} {K : PySem.W.Frag} {mg : Str → Option Value} {base : Heap}
theorem pT_eqv (a b : Int × Int) : PyData.eqv (pT a) (pT b) = decide (a = b) := by
  have h := tupI_eqv [a.1, a.2] [b.1, b.2]
  show PyData.eqv (.tuple ([a.1, a.2].map PyData.int)) (.tuple ([b.1, b.2].map PyData.int)) = _
  rw [h]
  obtain ⟨a1, a2⟩ := a
  obtain ⟨b1, b2⟩ := b
  simp
theorem pT_any (p : Int × Int) : ∀ ps : List (Int × Int), ((ps.map pT).any fun z => PyData.eqv z (pT p)) = decide (p ∈ ps)
  | [] => by simp
  | q :: ps => by
    rw [List.map_cons, List.any_cons, pT_any p ps, pT_eqv]
    by_cases e : q = p
    · simp [e]
    · have e2 : ¬ p = q := fun z => e z.symm
      simp [e, e2]
/-- a pair in a list of pairs -/
theorem r_inLP {x : V} {p : Int × Int} {l : Addr} {xs : List V} {ps : List (Int × Int)} {H : Hp} {Q : VK} (hx : IsP H x p) (hl : SqL K H l xs) (hp : Prs H xs ps) (q : Q (.bl (decide (p ∈ ps))) H) : rInD K x (.ref l) H Q := by
  refine ⟨pT p, ps.map pT, dp_pair hx, dp_list hl hp, shaped_of ?_ ?_, shaped_of ?_ ?_, ?_⟩
  · have := lay_pT [p]
    simpa [PyData.canLayAll0] using this
  · have := deep_pT [p]
    simp only [List.map_cons, List.map_nil, PyData.depthAll] at this
    omega
  · unfold PyData.canLay0
    exact lay_pT ps
  · have := deep_pT ps
    unfold PyData.depth
    omega
  · rw [pT_any]
    exact q
theorem r_cat0 {H : Hp} {Q : VK} {l b : Addr} {xs zs : List V} (h1 : H l = some (.lst xs)) (h2 : H b = some (.lst zs)) (hz : xs.length + zs.length ≤ 100000) (q : ∀ p, H p = none → Q (.ref p) (upd H p (.lst (xs ++ zs)))) : rCat (.ref l) (.ref b) H Q := ⟨l, b, xs, zs, rfl, rfl, h1, h2, small_len hz, q⟩
theorem ok_pairs (T : Blt mg) (D : DefAt K mg "_law_pairs" s_law_pairs ["n"]) : FnOk P w K mg base CX0 1 D.f D.fd ["n"] spPairs := by
  refine D.F.ok sc_law_pairs (fun vs H Q E h => ?_) (fun cdv A outer s H vs Q E hr h => ?_)
  · obtain ⟨n, rfl, _⟩ := h
    rfl
  · obtain ⟨n, rfl, hn, q⟩ := h
    refine ⟨_, (pss_cons (ps_set (i := 1) sc_law_pairs.nd rfl (Or.inl rfl) (pe_lst pa_nil))
      (pss_cons (ps_for PassesOwn.never (by rfl) (pi_range1 (by rfl) T.range (pa_cons (pv 0) pa_nil)) (pg_name (i := 2) sc_law_pairs.nd rfl (Or.inr rfl))
        (pss_one (ps_set (i := 1) sc_law_pairs.nd rfl (Or.inl rfl) (pe_op op_cat (pv 1) (pe_lc (own := [("v", 3)]) (by rfl) sc_law_pairs.nd (pi_range2 (by rfl) T.range (pa_cons (pe_op op_add (pv 2) pe_int) (pa_cons (pv 0) pa_nil))) (blkOk_by (own := [("v", 3)]) (N := ["n", "pairs", "u", "v"]) (sc := (defScope s_law_pairs)) (by decide +kernel)) (fun _ _ _ _ _ => (pg_name (i := 3) sc_law_pairs.nd rfl (Or.inl rfl))) (fun _ _ _ _ _ => pts_nil) (fun _ _ _ _ _ => (pe_tup (pa_cons (pv 2) (pa_cons (pv 3) pa_nil)))))))))
      (pss_one (ps_ret (pv 1))))), ?_⟩
    refine r_at (σ := [some _, none, none, none]) rfl ?_
    walk_at "z"
    refine r_lstN (by decide) fun f hf => ?_
    walk_at "z"
    refine r_rg1 (by omega) (forR_range (fun i σ' H' => (∃ b x2, σ' = [some (.int (n : Int)), some (.ref b), x2, none] ∧ H b = none ∧ ∃ xs, H' b = some (.lst xs) ∧ Prs H' xs (preP n i)) ∧ Same H H') ⟨⟨f, _, rfl, hf, [], upd_same, .nil⟩, same_new hf⟩ ?_ ?_)
    · rintro i σ' H' hi ⟨⟨b, x2, rfl, hb, xs, hx, hp⟩, sm⟩
      walk_at "z"
      refine r_rg2 (by omega) fun d hd => lcR_range (fun j H3 => Same H' H3 ∧ ∃ ys, H3 d = some (.lst ys) ∧ Prs H3 ys (rowP i ((i : Int) + 1) j)) (by walk_at "zw") ⟨same_new hd, [], upd_same, .nil⟩ ?_ ?_
      · rintro j H3 hj ⟨s3, ys, hy, hys⟩
        walk_at "z"
        refine ⟨rfl, ?_⟩
        walk_at "z"
        refine r_tupN sz2 fun t ht => ?_
        refine r_lce (by walk_at "zh") (small_lt (by rw [hys.length, rowP_len]; omega)) ⟨same_mut (s3.trans (same_new ht)) hd, _, upd_same, ?_⟩
        rw [rowP_succ]
        have e1 : (0 : Int) + (i : Int) = i := by omega
        have e2 : (0 : Int) + (i : Int) + 1 + (j : Int) = (i : Int) + 1 + j := by omega
        rw [e2, e1]
        exact prs_push hy hys ht
      · rintro H3 ⟨s3, ys, hy, hys⟩
        have e : ((n : Int) - (0 + (i : Int) + 1)).toNat = n - 1 - i := by omega
        rw [e] at hys
        refine r_cat0 (s3 _ _ hx) hy ?_ fun c hc => ?_
        · have h1 := preP_len (n := n) (i := i)
          have h2 : i * n ≤ 100 * 100 := Nat.mul_le_mul (by omega) hn
          rw [hp.length, hys.length, rowP_len]
          omega
        · walk_at "z"
          exact ⟨⟨c, _, rfl, (sm.trans s3).free hc, _, upd_same, Prs.tk (.new hc) (pd_append (hp.tk (.of_same s3)) hys)⟩, (sm.trans s3).trans (same_new hc)⟩
    · rintro σ' H' ⟨⟨b, x2, rfl, hb, xs, hx, hp⟩, sm⟩
      walk_at "z"
      exact q b xs H' hb sm hx hp
/-- which pairs are among these, either way round -/
def isE (es : List (Int × Int)) (p : Int × Int) : Bool := decide (p ∈ es) || decide ((p.2, p.1) ∈ es)
def spSorted (K : PySem.W.Frag) : Sp := fun vs H Q _ => ∃ (n : Nat) (l : Addr) (xs : List V) (es : List (Int × Int)), vs = [.int (n : Int), .ref l] ∧ n ≤ 100 ∧ SqL K H l xs ∧ Prs H xs es ∧
  ∀ (v : V) (H' : Hp), Same H H' → GrAt H' v (n : Int) ((allP n).filter (isE es)) → Q v H'
theorem ok_sorted_graph (T : Blt mg) (D : DefAt K mg "_law_sorted_graph" s_law_sorted_graph ["n", "edges"]) (D_law_pairs : DefAt K mg "_law_pairs" s_law_pairs ["n"]) (G_law_pairs : FnOk P w K mg base CX0 1 D_law_pairs.f D_law_pairs.fd ["n"] spPairs) :
    FnOk P w K mg base CX0 2 D.f D.fd ["n", "edges"] (spSorted K) := by
  refine D.F.ok sc_law_sorted_graph (fun vs H Q E h => ?_) (fun cdv A outer s H vs Q E hr h => ?_)
  · obtain ⟨n, l, xs, es, rfl, _⟩ := h
    rfl
  · obtain ⟨n, l, xs, es, rfl, hn, hl, hp, q⟩ := h
    refine ⟨_, (pss_one (ps_ret (pe_tup (pa_cons (pv 0) (pa_cons (pe_callTy (call_tupleK (K := K) rfl) (by rfl) T.tuple (by decide +kernel) (pa_cons (pe_lc (own := [("pair", 2)]) (by rfl) sc_law_sorted_graph.nd (PI.listK (K := K) rfl (pi_list (pe_call G_law_pairs (hr.mono (by first | decide | omega)) (by rfl) D_law_pairs.g D_law_pairs.F.kp D_law_pairs.b .nil pass0 (pa_cons (pv 0) pa_nil)))) (blkOk_by (own := [("pair", 2)]) (N := ["n", "edges", "pair"]) (sc := (defScope s_law_sorted_graph)) (by decide +kernel)) (fun _ _ _ _ _ => (pg_name (i := 2) sc_law_sorted_graph.nd rfl (Or.inl rfl))) (fun _ _ _ _ _ => (pts_one (PW.pt (pw_or (pt_cmpR (op_inDK (K := K) rfl (units65 hr)) (pv 2) (pv 1) (by rfl)) (pw_or1 (pt_cmpR (op_inDK (K := K) rfl (units65 hr)) (pe_tup (pa_cons (pe_ix (ix_tupK (K := K) rfl) (pv 2) pe_int (fun _ _ => rfl)) (pa_cons (pe_ix (ix_tupK (K := K) rfl) (pv 2) pe_int (fun _ _ => rfl)) pa_nil))) (pv 1) (by rfl))))))) (fun _ _ _ _ _ => (pv 2))) pa_nil)) pa_nil))))), ?_⟩
    refine r_at (σ := [some _, some _, none]) rfl ?_
    walk_at "z"
    refine ⟨n, rfl, hn, fun l1 zs H1 hl1 s1 hz hzs => ?_⟩
    refine r_il (.inl (.inl hz)) fun d hd => lcR_list (xs := zs) (fun i H' => Same H1 H' ∧ ∃ ys, H' d = some (.lst ys) ∧ Prs H' ys (((allP n).take i).filter (isE es))) (by walk_at "zw") ⟨same_new hd, [], upd_same, .nil⟩ (fun i H' _ ⟨s2, _⟩ => .inl (.inl (s2 _ _ hz))) ?_ ?_
    · rintro i x H' hx ⟨s2, ys, hy, hys⟩
      obtain ⟨p, hpi, hxp⟩ := pd_get (hzs.tk (.of_same s2)) hx
      have sm := s1.trans s2
      have hl' := sm.seq hl
      have hp' := hp.tk (.of_same sm)
      have len : ys.length < sizeLine := small_lt (by
        have h1 := hys.length
        have h2 := List.length_filter_le (isE es) ((allP n).take i)
        have h3 : ((allP n).take i).length ≤ (allP n).length := by
          rw [List.length_take]
          omega
        have h4 := preP_len (n := n) (i := n)
        have h5 : n * n ≤ 100 * 100 := Nat.mul_le_mul hn hn
        unfold allP at *
        omega)
      have suc : ((allP n).take (i + 1)).filter (isE es) = ((allP n).take i).filter (isE es) ++ (if isE es p = true then [p] else []) := by
        rw [take_next hpi, List.filter_append, List.filter_cons, List.filter_nil]
      have yes : ∀ H2 : Hp, Same H' H2 → isE es p = true → LcE d (fun H3 => Same H1 H3 ∧ ∃ ys, H3 d = some (.lst ys) ∧ Prs H3 ys (((allP n).take (i + 1)).filter (isE es))) x H2 := fun H2 sx hE => by
        refine r_lce (sx _ _ hy) len ⟨same_mut (s2.trans sx) hd, _, upd_same, ?_⟩
        rw [suc, if_pos hE]
        have kk : TK H' (upd H2 d (.lst (ys ++ [x]))) := (TK.of_same sx).trans (.lst (sx _ _ hy))
        exact (hys.tk kk).snoc (hxp.tk kk)
      have no : ∀ H2 : Hp, Same H' H2 → isE es p = false → Same H1 H2 ∧ ∃ ys, H2 d = some (.lst ys) ∧ Prs H2 ys (((allP n).take (i + 1)).filter (isE es)) := fun H2 sx hE => by
        refine ⟨s2.trans sx, ys, sx _ _ hy, ?_⟩
        rw [suc, if_neg (by rw [hE]; exact Bool.false_ne_true), List.append_nil]
        exact hys.tk (.of_same sx)
      obtain ⟨t0, rfl, ht0⟩ := id hxp
      walk_at "z"
      refine ⟨rfl, ?_⟩
      walk_at "z"
      refine r_inLP hxp hl' hp' ?_
      walk_at "z"
      refine r_ite (fun h1 => ?_) (fun h1 => ?_)
      · refine iteT ?_
        walk_at "z"
        exact yes H' (fun _ _ h => h) (by simp [isE, h1])
      · walk_at "z"
        refine r_tupN sz2 fun t ht => ?_
        have st := same_new (o := .tup [.int p.2, .int p.1]) ht
        walk_at "z"
        refine r_inLP (p := (p.2, p.1)) ⟨t, rfl, upd_same⟩ (st.seq hl') (hp'.tk (.of_same st)) ?_
        walk_at "z"
        refine r_ite (fun h2 => ?_) (fun h2 => ?_)
        · walk_at "z"
          exact yes _ st (by simp [isE, h2])
        · exact no _ st (by simp [isE, h1, h2])
    · rintro H' ⟨s2, ys, hy, hys⟩
      rw [hzs.length, List.take_length] at hys
      walk_at "z"
      refine r_tupL (.inl (.inl hy)) fun e2 he2 => ?_
      walk_at "z"
      refine r_tupN sz2 fun g2 hg2 => ?_
      have s3 : Same H' (upd H' e2 (.tup ys)) := same_new he2
      have s4 := s3.trans (same_new (o := .tup [.int (n : Int), .ref e2]) hg2)
      exact q _ _ ((s1.trans s2).trans s4) ⟨g2, e2, rfl, upd_same, ys, (upd_ne (ne_of_none upd_same hg2)).trans upd_same, hys.tk (.of_same s4)⟩
end

set_option Elab.async false
set_option linter.all false
set_option maxRecDepth 100000
set_option maxHeartbeats 4000000
open PySem PySem.Spec PyProof.Rows L2

section
variable {P : Program} {w : World} {K : PySem.W.Frag} {mg : Str → Option Value} {base : Heap}
theorem r_popAt {H : Hp} {Q : VK} {l : Addr} {xs : List V} {i : Int} {k : Nat} {y : V} (h : H l = some (.lst xs)) (e : i = (k : Int)) (hk : k < 1000000) (hy : xs[k]? = some y) (q : Q y (upd H l (.lst (xs.eraseIdx k)))) : rPopAt (.ref l) [.int i] H Q := by
  have hlt : k < xs.length := (List.getElem?_eq_some_iff.mp hy).1
  refine ⟨l, xs, i, k, y, rfl, rfl, h, by omega, by omega, ?_, hy, q⟩
  subst e
  unfold seqIndex?
  simp only [show ¬ ((k : Int) < 0) by omega, if_false]
  rw [if_pos (by simp; omega)]
  rfl
theorem map_erase {α β : Type} (f : α → β) : ∀ (l : List α) (k : Nat), (l.map f).eraseIdx k = (l.eraseIdx k).map f
  | [], _ => by simp
  | _ :: _, 0 => rfl
  | x :: l, k + 1 => by
    show f x :: (l.map f).eraseIdx k = f x :: (l.eraseIdx k).map f
    rw [map_erase f l k]
theorem get_erase_perm {α : Type} : ∀ (l : List α) {k : Nat} {x : α}, l[k]? = some x → (x :: l.eraseIdx k).Perm l
  | [], _, _, h => by simp at h
  | y :: l, 0, x, h => by
    have e : y = x := Option.some.inj h
    subst e
    exact .refl _
  | y :: l, k + 1, x, h => by
    have ih := get_erase_perm l (k := k) h
    show (x :: y :: l.eraseIdx k).Perm (y :: l)
    exact (List.Perm.swap y x _).trans (ih.cons y)
/-- the items in some order -/
def spShuf (K : PySem.W.Frag) : Sp := fun vs H Q _ => ∃ (a s l : Addr) (ns : List Int), vs = [.ref a, .ref l] ∧ Pool H a s ∧ l ≠ a ∧ H l = some (.lst (ns.map V.int)) ∧ ns.length ≤ 1000 ∧
  ∀ (f : Addr) (ms : List Int) (H' : Hp), H f = none → f ≠ a → Pool H' a s → Gr a H H' → H' f = some (.lst (ms.map V.int)) → ms.Perm ns → Q (.ref f) H'
/-- the graph whose vertices have other numbers -/
def ordP (o : List Int) (p : Int × Int) : Int × Int := (o.getD p.1.toNat 0, o.getD p.2.toNat 0)
def spMoved (K : PySem.W.Frag) : Sp := fun vs H Q _ => ∃ (g : V) (l : Addr) (n : Int) (ps : List (Int × Int)) (o : List Int), vs = [g, .ref l] ∧ GrAt H g n ps ∧ (SqL K H l (o.map V.int) ∨ SqT K H l (o.map V.int)) ∧ ps.length ≤ 10000 ∧
  (∀ p ∈ ps, 0 ≤ p.1 ∧ p.1 < o.length ∧ 0 ≤ p.2 ∧ p.2 < o.length) ∧
  ∀ (v : V) (qs : List (Int × Int)) (H' : Hp), Same H H' → GrAt H' v n qs → qs.Pairwise ltP → (∀ p, p ∈ qs ↔ ∃ r ∈ ps, p = nrm (ordP o r)) → Q v H'
theorem Same.seqT {K : PySem.W.Frag} {H H' : Hp} {a : Addr} {xs : List V} (e : Same H H') (h : SqT K H a xs) : SqT K H' a xs := by
  rcases h with (h | ⟨o, h⟩) | h
  · exact .inl (.inl (e _ _ h))
  · exact .inl (.inr ⟨o, e _ _ h⟩)
  · exact .inr h
theorem at_ord {o : List Int} {z : Int} (h0 : 0 ≤ z) (h1 : z < o.length) : atI (o.map V.int) z = some (.int (o.getD z.toNat 0)) := by
  have hlt : z.toNat < o.length := by omega
  refine at_of (j := z.toNat) (by omega) ?_
  rw [List.getElem?_map, List.getElem?_eq_getElem hlt, List.getD_eq_getElem?_getD, List.getElem?_eq_getElem hlt]
  rfl
/-- the graph of the pairs that are none -/
def spOther : Sp := fun vs H Q _ => ∃ (g : V) (n : Nat) (ps : List (Int × Int)), vs = [g] ∧ GrAt H g (n : Int) ps ∧ n ≤ 100 ∧
  ∀ (v : V) (H' : Hp), Same H H' → GrAt H' v (n : Int) ((allP n).filter fun p => decide (p ∉ ps)) → Q v H'
end

set_option Elab.async false
set_option linter.all false
set_option maxRecDepth 100000
set_option maxHeartbeats 4000000
open PySem PySem.Spec PyProof.Rows L2

section
variable {P : Program} {w : World} {K : PySem.W.Frag} {mg : Str → Option Value} {base : Heap}
theorem r_pick2 {H : Hp} {Q : VK} {l : Addr} {i j : Int} {b : Bool} (h : H l = some (.lst [.int i, .int j])) (q : ∀ m, m = i ∨ m = j → Q (.int m) H) : rIxL K (.ref l) (.int (if b = true then 1 else 0)) H Q := by
  cases b with
  | true => exact r_ixL (.inl (.inl h)) rfl (q j (.inr rfl))
  | false => exact r_ixL (.inl (.inl h)) rfl (q i (.inl rfl))
theorem good_filter {n : Nat} (h : 1 ≤ n) (c : Int × Int → Bool) : GoodG (n : Int) ((allP n).filter c) :=
  ⟨by omega, (allP_asc n).filter _, fun p hp => mem_allP.mp (List.mem_filter.mp hp).1⟩
theorem allP_small {n : Nat} (h : n ≤ 100) : (allP n).length ≤ 10000 := by
  have h4 := preP_len (n := n) (i := n)
  have h5 : n * n ≤ 100 * 100 := Nat.mul_le_mul h h
  unfold allP
  omega
/-- a drawn graph of n vertices -/
def GenQ (a s : Addr) (H : Hp) (n : Int) (Q : VK) : Prop := ∀ (v : V) (qs : List (Int × Int)) (H' : Hp), Pool H' a s → Gr a H H' → GrAt H' v n qs → GoodG n qs → Q v H'
def spRandom : Sp := fun vs H Q _ => ∃ (a s : Addr) (most : Int), vs = [.ref a, .int most] ∧ Pool H a s ∧ 1 ≤ most ∧ most ≤ 100 ∧ ∀ n : Int, 1 ≤ n → n ≤ most → GenQ a s H n Q
end

set_option Elab.async false
set_option linter.all false
set_option maxRecDepth 100000
set_option maxHeartbeats 4000000
open PySem PySem.Spec PyProof.Rows L2

section
variable {P : Program} {w : World} {K : PySem.W.Frag} {mg : Str → Option Value} {base : Heap}
theorem flt_next {n i : Nat} {p : Int × Int} (h : (allP n)[i]? = some p) (c : Int × Int → Bool) (b : Bool) : ∃ c' : Int × Int → Bool, ((allP n).take (i + 1)).filter c' = ((allP n).take i).filter c ++ (if b = true then [p] else []) := by
  have pn : p ∉ (allP n).take i := fun z => by
    have nd := asc_nodup (allP_asc n)
    have e := take_next h
    have nd2 : ((allP n).take (i + 1)).Nodup := nd.sublist (List.take_sublist _ _)
    rw [e] at nd2
    exact (List.nodup_append.mp nd2).2.2 p z p (List.mem_singleton.mpr rfl) rfl
  refine ⟨fun z => if z = p then b else c z, ?_⟩
  rw [take_next h, List.filter_append]
  congr 1
  · refine List.filter_congr fun z hz => ?_
    rw [if_neg (fun e => pn (by rw [← e]; exact hz))]
  · cases b <;> simp
theorem flt_small {n i : Nat} (hn : n ≤ 100) (c : Int × Int → Bool) : (((allP n).take i).filter c).length < 100000 := by
  have h2 := List.length_filter_le c ((allP n).take i)
  have h3 := allP_small hn
  rw [List.length_take] at h2
  omega
theorem at_pd {α : Type} {F : V → α → Prop} {xs : List V} {ps : List α} {z : Int} (h : Paired F xs ps) (h0 : 0 ≤ z) (h1 : z < ps.length) : ∃ y r, atI xs z = some y ∧ ps[z.toNat]? = some r ∧ F y r := by
  have hlt : z.toNat < ps.length := by omega
  obtain ⟨y, hy, f⟩ := pd_get2 h (List.getElem?_eq_getElem hlt)
  exact ⟨y, _, at_of (j := z.toNat) (by omega) hy, List.getElem?_eq_getElem hlt, f⟩
/-- n drawn intervals -/
def spRows : Sp := fun vs H Q _ => ∃ (a s : Addr) (n : Int), vs = [.ref a, .int n] ∧ Pool H a s ∧ 0 ≤ n ∧ n ≤ 100 ∧ ∀ (f : Addr) (xs : List V) (ps : List (Int × Int)) (H' : Hp), H f = none → Pool H' a s → Gr a H H' → H' f = some (.lst xs) → Prs H' xs ps → ps.length = n.toNat → Q (.ref f) H'
/-- the graph of intervals -/
def spIvGraph (K : PySem.W.Frag) : Sp := fun vs H Q _ => ∃ (l : Addr) (xs : List V) (ps : List (Int × Int)), vs = [.ref l] ∧ SqL K H l xs ∧ Prs H xs ps ∧ ps.length ≤ 100 ∧
  ∀ (v : V) (c : Int × Int → Bool) (H' : Hp), Same H H' → GrAt H' v (ps.length : Int) ((allP ps.length).filter c) → Q v H'
end

set_option Elab.async false
set_option linter.all false
set_option maxRecDepth 100000
set_option maxHeartbeats 4000000
open PySem PySem.Spec PyProof.Rows L2

section
variable {P : Program} {w : World} {K : PySem.W.Frag} {mg : Str → Option Value} {base : Heap}
theorem idx_spec : ∀ {ns : List Int} {z : Int}, z ∈ ns → ns[ns.idxOf z]? = some z ∧ ∀ m, m < ns.idxOf z → ns[m]? ≠ some z
  | [], _, h => by cases h
  | x :: ns, z, h => by
    rw [List.idxOf_cons]
    by_cases e : x = z
    · subst e
      simp
    · have hz : z ∈ ns := by
        rcases List.mem_cons.mp h with q | q
        · exact absurd q.symm e
        · exact q
      obtain ⟨h1, h2⟩ := idx_spec hz
      have eb : (x == z) = false := by simp [e]
      rw [eb]
      simp only [cond_false]
      refine ⟨by simpa using h1, fun m hm => ?_⟩
      cases m with
      | zero => simp [e]
      | succ m =>
        have := h2 m (by omega)
        simpa using this
theorem flat_ints (ns : List Int) : (ns.map V.int).all flatV = true := by
  rw [List.all_eq_true]
  intro x hx
  obtain ⟨n, _, rfl⟩ := List.mem_map.mp hx
  rfl
theorem eqV_int (i j : Int) : eqV (.int i) (.int j) = decide (i = j) := by
  show (i == j) = decide (i = j)
  exact int_beq i j
theorem r_index {H : Hp} {Q : VK} {l : Addr} {ns : List Int} {z : Int} (h : SqL K H l (ns.map V.int)) (hm : z ∈ ns) (q : Q (.int (ns.idxOf z : Nat)) H) : rIndex K (.ref l) [.int z] H Q := by
  obtain ⟨h1, h2⟩ := idx_spec hm
  refine ⟨l, ns.map V.int, .int z, ns.idxOf z, .int z, rfl, rfl, h, rfl, flat_ints ns, by rw [List.getElem?_map, h1]; rfl, by rw [eqV_int]; simp, fun m z' hm hz => ?_, q⟩
  rw [List.getElem?_map] at hz
  obtain ⟨y, hy, rfl⟩ := Option.map_eq_some_iff.mp hz
  rw [eqV_int]
  refine decide_eq_false fun e => h2 m hm ?_
  rw [hy, e]
/-- the pairs that stand in another order in both -/
def spTurned (K : PySem.W.Frag) : Sp := fun vs H Q _ => ∃ (l1 l2 : Addr) (ns ms : List Int), vs = [.ref l1, .ref l2] ∧ SqL K H l1 (ns.map V.int) ∧ SqL K H l2 (ms.map V.int) ∧ ns.length ≤ 100 ∧ (∀ z : Int, 0 ≤ z → z < ns.length → z ∈ ns ∧ z ∈ ms) ∧
  ∀ (v : V) (c : Int × Int → Bool) (H' : Hp), Same H H' → GrAt H' v (ns.length : Int) ((allP ns.length).filter c) → Q v H'
theorem good_of {n : Int} {ps qs : List (Int × Int)} (h1 : 1 ≤ n) (bd : ∀ r ∈ ps, 0 ≤ r.1 ∧ r.1 < n ∧ 0 ≤ r.2 ∧ r.2 < n ∧ r.1 ≠ r.2) (asc : qs.Pairwise ltP) (mem : ∀ p, p ∈ qs ↔ ∃ r ∈ ps, p = nrm r) : GoodG n qs := by
  refine ⟨h1, asc, fun p hp => ?_⟩
  obtain ⟨r, hr, rfl⟩ := (mem p).mp hp
  obtain ⟨b1, b2, b3, b4, b5⟩ := bd r hr
  unfold nrm
  simp only
  omega
/-- a ring and more -/
def spRinged : Sp := fun vs H Q _ => ∃ (a s : Addr) (n : Int), vs = [.ref a, .int n] ∧ Pool H a s ∧ 1 ≤ n ∧ n ≤ 60 ∧ GenQ a s H n Q
theorem r_cat {H : Hp} {Q : VK} {l b : Addr} {xs zs : List V} (h1 : H l = some (.lst xs)) (h2 : H b = some (.lst zs)) (hz : xs.length + zs.length ≤ 100000) (q : ∀ p, H p = none → Q (.ref p) (upd H p (.lst (xs ++ zs)))) : rCat (.ref l) (.ref b) H Q := ⟨l, b, xs, zs, rfl, rfl, h1, h2, small_len hz, q⟩
theorem lt_of_le_nodup {ps : List (Int × Int)} (h1 : ps.Pairwise leP) (h2 : ps.Nodup) : ps.Pairwise ltP := (List.pairwise_and_iff.mpr ⟨h1, h2⟩).imp fun {p q} h => ltP_of_le_ne h.1 h.2
/-- a graph of cliques -/
def spClique : Sp := fun vs H Q _ => ∃ (a s : Addr) (n : Int), vs = [.ref a, .int n] ∧ Pool H a s ∧ 1 ≤ n ∧ n ≤ 60 ∧ GenQ a s H n Q
/-- lists of different vertices below i -/
def Clq (H : Hp) (C a s : Addr) (as : List Addr) (i : Nat) : Prop := ∀ x ∈ as, x ≠ C ∧ x ≠ a ∧ x ≠ s ∧ ∃ ns : List Int, H x = some (.lst (ns.map V.int)) ∧ ns.Nodup ∧ (∀ z ∈ ns, 0 ≤ z ∧ z < i) ∧ ns.length ≤ i
end

set_option Elab.async false
set_option linter.all false
set_option maxRecDepth 100000
set_option maxHeartbeats 4000000
open PySem PySem.Spec PyProof.Rows L2

theorem ixN_nat {n j : Nat} (h : j < n) : ixN n (j : Int) = some j := by
  unfold ixN
  rw [if_pos (by omega), if_pos (by omega)]
  rfl
/-- n rows of n truth values at b, unknown to H0 -/
def Mat (H0 H : Hp) (b : Addr) (n : Nat) : Prop := ∃ as : List Addr, H b = some (.lst (as.map V.ref)) ∧ as.length = n ∧ ∀ x ∈ as, x ≠ b ∧ H0 x = none ∧ ∃ bs : List Bool, H x = some (.lst (bs.map V.bl)) ∧ bs.length = n
/-- a place read -/
theorem Mat.at {H0 H : Hp} {b : Addr} {n i j : Nat} (M : Mat H0 H b n) (hi : i < n) (hj : j < n) : ∃ (rows : List V) (x : Addr) (row : List V) (c : Bool), H b = some (.lst rows) ∧ atI rows (i : Int) = some (.ref x) ∧ H x = some (.lst row) ∧ atI row (j : Int) = some (.bl c) := by
  obtain ⟨as, hb, hl, hx⟩ := M
  have hlt : i < as.length := by omega
  obtain ⟨_, _, bs, h1, h2⟩ := hx as[i] (List.getElem_mem hlt)
  refine ⟨_, as[i], _, bs[j]'(by omega), hb, atI_nat (by rw [List.getElem?_map, List.getElem?_eq_getElem hlt]; rfl), h1, atI_nat (by rw [List.getElem?_map, List.getElem?_eq_getElem (by omega)]; rfl)⟩
/-- a place written -/
theorem Mat.set {H0 H : Hp} {b x : Addr} {n i j : Nat} {rows row : List V} {c : Bool} (M : Mat H0 H b n) (hi : i < n) (hb : H b = some (.lst rows)) (hx : atI rows (i : Int) = some (.ref x)) (hr : H x = some (.lst row)) :
    row.length = n ∧ H0 x = none ∧ Mat H0 (upd H x (.lst (row.set j (.bl c)))) b n := by
  obtain ⟨as, hb2, hl, hall⟩ := M
  rw [hb2] at hb
  cases hb
  have hlt : i < as.length := by omega
  have e : as[i] = x := by
    rw [atI_nat (v := V.ref as[i]) (by rw [List.getElem?_map, List.getElem?_eq_getElem hlt]; rfl)] at hx
    injection (Option.some.inj hx)
  have hm : x ∈ as := by rw [← e]; exact List.getElem_mem hlt
  obtain ⟨n1, n2, bs, h1, h2⟩ := hall x hm
  rw [h1] at hr
  cases hr
  refine ⟨by rw [List.length_map]; exact h2, n2, as, (upd_ne (Ne.symm n1)).trans hb2, hl, fun y hy => ?_⟩
  obtain ⟨m1, m2, cs, k1, k2⟩ := hall y hy
  refine ⟨m1, m2, ?_⟩
  by_cases e2 : y = x
  · subst e2
    exact ⟨bs.set j c, by rw [List.map_set]; exact upd_same, by rw [List.length_set]; exact h2⟩
  · exact ⟨cs, (upd_ne e2).trans k1, k2⟩
section
variable {P : Program} {w : World} {K : PySem.W.Frag} {mg : Str → Option Value} {base : Heap}
def spOrdered : Sp := fun vs H Q _ => ∃ (a s : Addr) (n : Int), vs = [.ref a, .int n] ∧ Pool H a s ∧ 1 ≤ n ∧ n ≤ 60 ∧ GenQ a s H n Q
end

set_option Elab.async false
set_option linter.all false
set_option maxRecDepth 100000
set_option maxHeartbeats 4000000
open PySem PySem.Spec PyProof.Rows L2

/-! ## trees -/
inductive Tr where
  | leaf (z : Int)
  | node (w : Bool) (ts : List Tr)
def wd (w : Bool) : PySem.Str := if w then "join" else "union"
mutual
def lv : Tr → List Int
  | .leaf z => [z]
  | .node _ ts => lvs ts
def lvs : List Tr → List Int
  | [] => []
  | t :: ts => lv t ++ lvs ts
end
mutual
def dp : Tr → Nat
  | .leaf _ => 0
  | .node _ ts => dps ts + 1
def dps : List Tr → Nat
  | [] => 0
  | t :: ts => max (dp t) (dps ts)
end
mutual
/-- every node has two trees or more -/
def wf : Tr → Prop
  | .leaf _ => True
  | .node _ ts => 2 ≤ ts.length ∧ wfs ts
def wfs : List Tr → Prop
  | [] => True
  | t :: ts => wf t ∧ wfs ts
end
mutual
inductive TreeAt (H : Hp) : V → Tr → Prop
  | leaf (z : Int) : TreeAt H (.int z) (.leaf z)
  | node {a : Addr} {xs : List V} {ts : List Tr} (w : Bool) (h : H a = some (.tup (.str (wd w) :: xs))) (t : TreesAt H xs ts) : TreeAt H (.ref a) (.node w ts)
inductive TreesAt (H : Hp) : List V → List Tr → Prop
  | nil : TreesAt H [] []
  | cons {x : V} {xs : List V} {t : Tr} {ts : List Tr} (h : TreeAt H x t) (r : TreesAt H xs ts) : TreesAt H (x :: xs) (t :: ts)
end
mutual
theorem TreeAt.tk {H H' : Hp} (k : TK H H') : ∀ (t : Tr) {v : V}, TreeAt H v t → TreeAt H' v t
  | .leaf _, _, .leaf z => .leaf z
  | .node _ ts, _, .node w h t => .node w (k _ _ h) (TreesAt.tk k ts t)
theorem TreesAt.tk {H H' : Hp} (k : TK H H') : ∀ (ts : List Tr) {vs : List V}, TreesAt H vs ts → TreesAt H' vs ts
  | [], _, .nil => .nil
  | t :: ts, _, .cons h r => .cons (TreeAt.tk k t h) (TreesAt.tk k ts r)
end
theorem TreesAt.pd {H : Hp} : ∀ (ts : List Tr) {vs : List V}, TreesAt H vs ts → Paired (TreeAt H) vs ts
  | [], _, .nil => .nil
  | _ :: ts, _, .cons h r => .cons h (TreesAt.pd ts r)
theorem TreesAt.of {H : Hp} : ∀ {ts : List Tr} {vs : List V}, Paired (TreeAt H) vs ts → TreesAt H vs ts
  | _, _, .nil => .nil
  | _, _, .cons h r => .cons h (TreesAt.of r)
theorem lvs_append : ∀ (ts us : List Tr), lvs (ts ++ us) = lvs ts ++ lvs us
  | [], us => by simp [lvs]
  | t :: ts, us => by simp only [List.cons_append, lvs, lvs_append ts us, List.append_assoc]
theorem wfs_mem : ∀ {ts : List Tr}, wfs ts ↔ ∀ t ∈ ts, wf t
  | [] => by simp [wfs]
  | t :: ts => by simp [wfs, wfs_mem (ts := ts)]
theorem lvs_perm {ts us : List Tr} (h : ts.Perm us) : (lvs ts).Perm (lvs us) := by
  induction h with
  | nil => exact .refl _
  | cons x _ ih => simp only [lvs]; exact ih.append_left _
  | swap x y l =>
    simp only [lvs, ← List.append_assoc]
    exact List.perm_append_comm.append_right _
  | trans _ _ h1 h2 => exact h1.trans h2
mutual
/-- depth and leaves -/
theorem dp_lv : ∀ (t : Tr), wf t → dp t + 1 ≤ (lv t).length
  | .leaf _, _ => by simp [dp, lv]
  | .node _ ts, h => by
    simp only [wf] at h
    have := dps_lvs ts h.2
    simp only [dp, lv]
    omega
theorem dps_lvs : ∀ (ts : List Tr), wfs ts → dps ts + ts.length ≤ (lvs ts).length
  | [], _ => by simp [dps, lvs]
  | t :: ts, h => by
    simp only [wfs] at h
    have h1 := dp_lv t h.1
    have h2 := dps_lvs ts h.2
    simp only [dps, lvs, List.length_append, List.length_cons]
    omega
end
theorem dps_mem : ∀ {ts : List Tr} {t : Tr}, t ∈ ts → dp t ≤ dps ts
  | [], _, h => by cases h
  | u :: ts, t, h => by
    simp only [dps]
    rcases List.mem_cons.mp h with e | e
    · rw [e]
      omega
    · have := dps_mem e
      omega
theorem wd_len (w : Bool) : True := trivial
section
variable {P : Program} {w : World} {K : PySem.W.Frag} {mg : Str → Option Value} {base : Heap}
theorem r_isiInt {H : Hp} {Q : VK} {i : Int} (q : Q (.bl false) H) : rIsi K [.int i, .ty "tuple"] H Q := ⟨.int i, .ty "tuple", .type "int", .type "tuple", false, rfl, .ty _, .base (.int i), kit_ty (by decide +kernel), q⟩
theorem r_isiTup {H : Hp} {Q : VK} {a : Addr} {xs : List V} (h : H a = some (.tup xs)) (q : Q (.bl true) H) : rIsi K [.ref a, .ty "tuple"] H Q := ⟨.ref a, .ty "tuple", .type "tuple", .type "tuple", true, rfl, .ty _, .base (.tup h), kit_ty (by decide +kernel), q⟩
theorem cut_tail (x : V) (xs : List V) : cutV (x :: xs) (some 1) none = xs := by
  unfold cutV
  have e : HT.sIx (x :: xs).length 0 (some 1) = 1 := by
    rw [show (1 : Int) = ((1 : Nat) : Int) from rfl, HT.sIx_nat]
    simp only [List.length_cons]
    omega
  rw [e, HT.sIx_none]
  simp only [List.drop_succ_cons, List.drop_zero, List.length_cons, Nat.add_sub_cancel]
  exact List.take_length
/-- t[1:] -/
theorem r_tail {H : Hp} {Q : VK} {a : Addr} {x : V} {xs : List V} (h : H a = some (.tup (x :: xs))) (q : ∀ p, H p = none → Q (.ref p) (upd H p (.tup xs))) : rSlT K (.ref a) (some 1) none H Q := by
  refine ⟨a, x :: xs, rfl, .inl (.inl h), fun z => ?_, fun p hp => by rw [cut_tail]; exact q p hp⟩
  have e : HT.sIx (x :: xs).length 0 (some 1) = 1 := by
    rw [show (1 : Int) = ((1 : Nat) : Int) from rfl, HT.sIx_nat]
    simp only [List.length_cons]
    omega
  rw [e] at z
  exact absurd z.1 (by decide)
/-- the leaves from the left -/
def spLeaves (d : Nat) : Sp := fun vs H Q _ => ∃ (v : V) (t : Tr), vs = [v] ∧ TreeAt H v t ∧ dp t < d ∧ (lv t).length ≤ 100 ∧ ∀ (l : Addr) (H' : Hp), Same H H' → H' l = some (.lst ((lv t).map V.int)) → Q (.ref l) H'
theorem lv_pos : ∀ t : Tr, True := fun _ => trivial
/-- all leaves of a tree that stands -/
theorem wfs_nil : wfs [] := by simp [wfs]
/-- the pairs that a join joins -/
def spTreePairs (d : Nat) : Sp := fun vs H Q _ => ∃ (v : V) (t : Tr), vs = [v] ∧ TreeAt H v t ∧ dp t < d ∧ (lv t).length ≤ 60 ∧ (lv t).Nodup ∧ ∀ (l : Addr) (xs : List V) (ps : List (Int × Int)) (H' : Hp), Same H H' → H' l = some (.lst xs) → Prs H' xs ps →
  (∀ p ∈ ps, p.1 ∈ lv t ∧ p.2 ∈ lv t ∧ p.1 ≠ p.2) → ps.length ≤ (lv t).length * (lv t).length → Q (.ref l) H'
theorem r_eqJoin {H : Hp} {Q : VK} {w0 : Bool} (q : Q (.bl w0) H) : rEq (.str (wd w0)) (.str "join") H Q := by
  refine ⟨rfl, ?_⟩
  cases w0 with
  | true => exact q
  | false => exact q
/-- a drawn tree over some of the leaves -/
def spDrawn : Sp := fun vs H Q _ => ∃ (a s l : Addr) (ns : List Int), vs = [.ref a, .ref l] ∧ Pool H a s ∧ H l = some (.lst (ns.map V.int)) ∧ 1 ≤ ns.length ∧ ns.length ≤ 60 ∧
  ∀ (v : V) (t : Tr) (H' : Hp), Pool H' a s → Gr a H H' → TreeAt H' v t → wf t → (∃ ms, (lv t ++ ms).Perm ns) → Q v H'
theorem leafs {H : Hp} : ∀ ns : List Int, Paired (TreeAt H) (ns.map V.int) (ns.map Tr.leaf)
  | [] => .nil
  | n :: ns => .cons (.leaf n) (leafs ns)
theorem lvs_leafs : ∀ ns : List Int, lvs (ns.map Tr.leaf) = ns
  | [] => rfl
  | n :: ns => by simp [lvs, lv, lvs_leafs ns]
theorem pdT_tk {H H' : Hp} (k : TK H H') {vs : List V} {ts : List Tr} (h : Paired (TreeAt H) vs ts) : Paired (TreeAt H') vs ts := (TreesAt.tk k ts (TreesAt.of h)).pd
theorem pd_erase {α β : Type} {F : α → β → Prop} : ∀ {xs : List α} {ps : List β} (k : Nat), Paired F xs ps → Paired F (xs.eraseIdx k) (ps.eraseIdx k)
  | _, _, _, .nil => .nil
  | _, _, 0, .cons _ t => t
  | _, _, k + 1, .cons f t => .cons f (pd_erase k t)
end

set_option Elab.async false
set_option linter.all false
set_option maxRecDepth 100000
set_option maxHeartbeats 4000000
open PySem PySem.Spec PyProof.Rows L2

abbrev s_law_graph : Stmt := topS 14
theorem sc_law_graph : FnScope ["pool", "most", "n", "turn", "dense", "edges", "v", "many", "k", "places", "names", "edge", "pair"] ["pool", "most"] (defScope s_law_graph) := ⟨rfl, rfl, rfl, by decide +kernel, rfl, by decide +kernel, by decide +kernel⟩

section
variable {P : Program} {w : World} {K : PySem.W.Frag} {mg : Str → Option Value} {base : Heap}
theorem moved_good {n : Int} {o : List Int} {ps qs : List (Int × Int)} (g : GoodG n ps) (ho : o.Perm (rgI n)) (asc : qs.Pairwise ltP) (mem : ∀ p, p ∈ qs ↔ ∃ r ∈ ps, p = nrm (ordP o r)) : GoodG n qs := by
  have hl : o.length = n.toNat := by rw [ho.length_eq, rgI_len]
  have nd : o.Nodup := ho.nodup_iff.mpr (rgI_nodup n)
  have bd : ∀ z : Int, 0 ≤ z → z < n → 0 ≤ o.getD z.toNat 0 ∧ o.getD z.toNat 0 < n := fun z h0 h1 => by
    have hlt : z.toNat < o.length := by omega
    rw [List.getD_eq_getElem?_getD, List.getElem?_eq_getElem hlt]
    exact mem_rgI.mp (ho.mem_iff.mp (List.getElem_mem hlt))
  refine good_of g.one (ps := ps.map (ordP o)) (fun r hr => ?_) asc fun p => (mem p).trans ⟨?_, ?_⟩
  · obtain ⟨r0, hr0, rfl⟩ := List.mem_map.mp hr
    obtain ⟨b1, b2, b3⟩ := g.inn r0 hr0
    have h1 := bd r0.1 b1 (by omega)
    have h2 := bd r0.2 (by omega) b3
    refine ⟨h1.1, h1.2, h2.1, h2.2, fun e => ?_⟩
    have l1 : r0.1.toNat < o.length := by omega
    have l2 : r0.2.toNat < o.length := by omega
    unfold ordP at e
    simp only [List.getD_eq_getElem?_getD, List.getElem?_eq_getElem l1, List.getElem?_eq_getElem l2, Option.getD_some] at e
    have := (List.getElem_inj nd).mp e
    omega
  · rintro ⟨r, hr, rfl⟩
    exact ⟨_, List.mem_map.mpr ⟨r, hr, rfl⟩, rfl⟩
  · rintro ⟨r, hr, rfl⟩
    obtain ⟨r0, hr0, rfl⟩ := List.mem_map.mp hr
    exact ⟨r0, hr0, rfl⟩
/-- a drawn graph -/
def spGraph : Sp := fun vs H Q _ => ∃ (a s : Addr) (most : Int), vs = [.ref a, .int most] ∧ Pool H a s ∧ 1 ≤ most ∧ most ≤ 60 ∧ ∀ n : Int, 1 ≤ n → n ≤ most → GenQ a s H n Q
end

set_option Elab.async false
set_option linter.all false
set_option maxRecDepth 100000
set_option maxHeartbeats 4000000
open PySem PySem.Spec PyProof.Rows L2

section
variable {P : Program} {w : World} {K : PySem.W.Frag} {mg : Str → Option Value} {base : Heap}
/-- the neighbours of v, ascending, whichever way an edge stands -/
def nbL (ps : List (Int × Int)) (v : Int) (k : Nat) : List Int := ((List.range k).map fun (i : Nat) => (i : Int)).filter fun u => isE ps (u, v)
theorem nbL_len (ps : List (Int × Int)) (v : Int) (k : Nat) : (nbL ps v k).length ≤ k := by
  unfold nbL
  have := List.length_filter_le (fun u => isE ps (u, v)) ((List.range k).map fun (i : Nat) => (i : Int))
  rw [List.length_map, List.length_range] at this
  exact this
theorem nbL_succ (ps : List (Int × Int)) (v : Int) (i : Nat) : nbL ps v (i + 1) = nbL ps v i ++ (if isE ps ((i : Int), v) = true then [(i : Int)] else []) := by
  unfold nbL
  rw [List.range_succ, List.map_append, List.filter_append]
  simp only [List.map_cons, List.map_nil, List.filter_cons, List.filter_nil]
def spNb : Sp := fun vs H Q _ => ∃ (g : V) (n v : Int) (ps : List (Int × Int)), vs = [g, .int v] ∧ GrAt H g n ps ∧ 0 ≤ n ∧ n ≤ 100 ∧ ∀ (l : Addr) (H' : Hp), H l = none → Same H H' → H' l = some (.lst ((nbL ps v n.toNat).map V.int)) → Q (.ref l) H'
theorem ok_nb (T : Blt mg) (D : DefAt K mg "_law_near" s_law_near ["graph", "v"]) :
    FnOk P w K mg base CX0 1 D.f D.fd ["graph", "v"] spNb := by
  refine D.F.ok sc_law_near (fun vs H Q E h => ?_) (fun cdv A outer s H vs Q E hr h => ?_)
  · obtain ⟨g, n, v, ps, rfl, _⟩ := h
    rfl
  · obtain ⟨g, n, v, ps, rfl, hgr, n0, n1, q⟩ := h
    obtain ⟨ga, e, rfl, hg, xs, he, hp⟩ := id hgr
    refine ⟨_, (pss_one (ps_ret (pe_lc (own := [("u", 2)]) (by rfl) sc_law_near.nd (pi_range1 (by rfl) T.range (pa_cons (pe_ix (ix_tupK (K := K) rfl) (pv 0) pe_int (fun _ _ => rfl)) pa_nil)) (blkOk_by (own := [("u", 2)]) (N := ["graph", "v", "u"]) (sc := (defScope s_law_near)) (by decide +kernel)) (fun _ _ _ _ _ => (pg_name (i := 2) sc_law_near.nd rfl (Or.inl rfl))) (fun _ _ _ _ _ => (pts_one (PW.pt (pw_or (pt_cmpR (op_inPK (K := K) rfl hr) (pe_tup (pa_cons (pv 2) (pa_cons (pv 1) pa_nil))) (pe_ix (ix_tupK (K := K) rfl) (pv 0) pe_int (fun _ _ => rfl)) (by rfl)) (pw_or1 (pt_cmpR (op_inPK (K := K) rfl hr) (pe_tup (pa_cons (pv 1) (pa_cons (pv 2) pa_nil))) (pe_ix (ix_tupK (K := K) rfl) (pv 0) pe_int (fun _ _ => rfl)) (by rfl))))))) (fun _ _ _ _ _ => (pv 2))))), ?_⟩
    refine r_at (σ := [some _, some _, none]) rfl ?_
    walk_at "z"
    refine r_rg1 (by omega) fun d hd => lcR_range (fun i H' => Same H H' ∧ H' d = some (.lst ((nbL ps v i).map V.int))) (by walk_at "zw") ⟨same_new hd, upd_same⟩ ?_ ?_
    · rintro i H' hi ⟨s1, hl⟩
      have g1 := hgr.tk (.of_same s1)
      have e0 : (0 : Int) + (i : Int) = i := by omega
      have len : ((nbL ps v i).map V.int).length < sizeLine := small_lt (by
        have := nbL_len ps v i
        rw [List.length_map]
        omega)
      have yes : ∀ H2 : Hp, Same H' H2 → isE ps ((i : Int), v) = true → LcE d (fun H' => Same H H' ∧ H' d = some (.lst ((nbL ps v (i + 1)).map V.int))) (.int (i : Int)) H2 := fun H2 sx hE => by
        refine r_lce (sx _ _ hl) len ⟨same_mut (s1.trans sx) hd, ?_⟩
        rw [nbL_succ, if_pos hE, List.map_append]
        exact upd_same
      have no : ∀ H2 : Hp, Same H' H2 → isE ps ((i : Int), v) = false → Same H H2 ∧ H2 d = some (.lst ((nbL ps v (i + 1)).map V.int)) := fun H2 sx hE => by
        refine ⟨s1.trans sx, ?_⟩
        rw [nbL_succ, if_neg (by rw [hE]; exact Bool.false_ne_true), List.append_nil]
        exact sx _ _ hl
      have hg1 := s1 _ _ hg
      have he1 := s1 _ _ he
      have hp1 := hp.tk (.of_same s1)
      walk_at "z"
      refine ⟨rfl, ?_⟩
      walk_at "z"
      rw [e0]
      refine r_tupN sz2 fun t ht => ?_
      have st := same_new (o := .tup [.int (i : Int), .int v]) ht
      have hg2 := st _ _ hg1
      walk_at "z"
      refine ⟨((i : Int), v), e, xs, ps, ⟨t, rfl, upd_same⟩, rfl, .inl (.inl (st _ _ he1)), hp1.tk (.of_same st), ?_⟩
      walk_at "z"
      refine r_ite (fun h1 => ?_) (fun h1 => ?_)
      · refine iteT ?_
        walk_at "z"
        exact yes _ st (by simp [isE, h1])
      · walk_at "z"
        refine r_tupN sz2 fun t2 ht2 => ?_
        have st2 := st.trans (same_new (o := .tup [.int v, .int (i : Int)]) ht2)
        have hg3 := st2 _ _ hg1
        walk_at "z"
        refine ⟨(v, (i : Int)), e, xs, ps, ⟨t2, rfl, upd_same⟩, rfl, .inl (.inl (st2 _ _ he1)), hp1.tk (.of_same st2), ?_⟩
        walk_at "z"
        refine r_ite (fun h2 => ?_) (fun h2 => ?_)
        · walk_at "z"
          exact yes _ st2 (by simp [isE, h2])
        · exact no _ st2 (by simp [isE, h1, h2])
    · rintro H' ⟨s1, hl⟩
      exact q d H' hd s1 hl
/-- one of three numbers of a tuple -/
theorem r_pick3 {H : Hp} {Q : VK} {t : Addr} {i j k r : Int} (h : H t = some (.tup [.int i, .int j, .int k])) (r0 : 0 ≤ r) (r1 : r < 3) (q : ∀ m, m = i ∨ m = j ∨ m = k → Q (.int m) H) : rIxT K (.ref t) (.int r) H Q := by
  obtain rfl | rfl | rfl : r = 0 ∨ r = 1 ∨ r = 2 := by omega
  · exact r_ixT (.inl (.inl h)) rfl (q i (.inl rfl))
  · exact r_ixT (.inl (.inl h)) rfl (q j (.inr (.inl rfl)))
  · exact r_ixT (.inl (.inl h)) rfl (q k (.inr (.inr rfl)))
end

set_option Elab.async false
set_option linter.all false
set_option maxRecDepth 100000
set_option maxHeartbeats 4000000
open PySem PySem.Spec PyProof.Rows L2

abbrev s_arrow_behind : Stmt := topS 4
theorem sc_arrow_behind : FnScope ["rotation", "arrow", "u", "v", "around"] ["rotation", "arrow"] (defScope s_arrow_behind) := ⟨rfl, rfl, rfl, by decide +kernel, rfl, by decide +kernel, by decide +kernel⟩

abbrev s_walk : Stmt := topS 3
theorem sc_walk : FnScope ["rotation", "start", "walk", "arrow"] ["rotation", "start"] (defScope s_walk) := ⟨rfl, rfl, rfl, by decide +kernel, rfl, by decide +kernel, by decide +kernel⟩

/-- the rotation at r -/
def RtAt (H : Hp) (r : V) (rot : List (List Int)) : Prop := ∃ (t : Addr) (xs : List V), r = .ref t ∧ H t = some (.tup xs) ∧ Paired (fun x (l : List Int) => ∃ p, x = V.ref p ∧ FrT H p (l.map V.int)) xs rot
theorem FrT.same {H H' : Hp} (s : Same H H') {p : Addr} {ys : List V} (h : FrT H p ys) : FrT H' p ys := by
  obtain ⟨o, h1, h2⟩ := h
  exact ⟨o, s _ _ h1, h2⟩
theorem RtAt.same {H H' : Hp} (s : Same H H') {r : V} {rot : List (List Int)} (h : RtAt H r rot) : RtAt H' r rot := by
  obtain ⟨t, xs, h1, h2, h3⟩ := h
  have all : ∀ {xs : List V} {rot : List (List Int)}, Paired (fun x (l : List Int) => ∃ p, x = V.ref p ∧ FrT H p (l.map V.int)) xs rot → Paired (fun x (l : List Int) => ∃ p, x = V.ref p ∧ FrT H' p (l.map V.int)) xs rot := fun h => by
    induction h with
    | nil => exact .nil
    | cons a t ih =>
      obtain ⟨p, e, f⟩ := a
      exact .cons ⟨p, e, f.same s⟩ ih
  exact ⟨t, xs, h1, s _ _ h2, all h3⟩
section
variable {P : Program} {w : World} {K : PySem.W.Frag} {mg : Str → Option Value} {base : Heap}
def spBehind : Sp := fun vs H Q _ => ∃ (r x : V) (rot : List (List Int)) (p : Int × Int) (l : List Int), vs = [r, x] ∧ RtAt H r rot ∧ IsP H x p ∧ 0 ≤ p.2 ∧ rot[p.2.toNat]? = some l ∧ p.1 ∈ l ∧ l.length ≤ 1000 ∧
  ∀ (t : Addr) (H' : Hp), H t = none → Same H H' → H' t = some (.tup [.int p.2, .int (sucL l p.1)]) → Q (.ref t) H'
theorem ok_behind (T : Blt mg) (D : DefAt K mg "_arrow_behind" s_arrow_behind ["rotation", "arrow"]) : FnOk P w K mg base CX0 1 D.f D.fd ["rotation", "arrow"] spBehind := by
  refine D.F.ok sc_arrow_behind (fun vs H Q E h => ?_) (fun cdv A outer s H vs Q E hr h => ?_)
  · obtain ⟨r, x, rot, p, l, rfl, _⟩ := h
    rfl
  · obtain ⟨r, x, rot, p, l, rfl, hrt, hx, p0, hl, hu, l1, q⟩ := h
    obtain ⟨u, v⟩ := p
    obtain ⟨tr, xs, rfl, htr, pxs⟩ := hrt
    obtain ⟨tx, rfl, htx⟩ := hx
    dsimp only at p0 hl hu q htx
    obtain ⟨y, hy, ti, rfl, fti⟩ := pd_get2 pxs hl
    have hat : atI xs v = some (.ref ti) := by
      have := atI_nat hy
      rwa [show ((v.toNat : Nat) : Int) = v by omega] at this
    have hti : SqT K H ti (l.map V.int) := by
      obtain ⟨o, ho, _⟩ := fti
      exact .inl (.inr ⟨o, ho⟩)
    refine ⟨_, (pss_cons (ps_asg (pv 1) (PG.tupK (K := K) rfl (pg_tup (n := 2) rfl (pgs_cons (pg_name (i := 2) sc_arrow_behind.nd rfl (Or.inl rfl)) (pgs_cons (pg_name (i := 3) sc_arrow_behind.nd rfl (Or.inl rfl)) pgs_nil)))))
      (pss_cons (ps_set (i := 4) sc_arrow_behind.nd rfl (Or.inl rfl) (pe_ix (ix_tupK (K := K) rfl) (pv 0) (pv 3) (fun _ _ => rfl)))
      (pss_one (ps_ret (pe_tup (pa_cons (pv 3) (pa_cons (pe_ix (ix_tupK (K := K) rfl) (pv 4) (pe_op op_mod (pe_op op_add (pe_bu PySem.F.plainAttrs_tuple PySem.F.slot_tuple_index PySem.F.type_tuple_index (mt_tupIdxK (K := K) rfl) (pv 4) (pa_cons (pv 2) pa_nil)) pe_int) (pe_callB (call_lenK (K := K) rfl) (by rfl) T.len (by decide +kernel) (pa_cons (pv 4) pa_nil))) (fun _ _ => rfl)) pa_nil))))))), ?_⟩
    refine r_at (σ := [some _, some _, none, none, none]) rfl ?_
    have lp := List.length_pos_of_mem hu
    have hsu : atI (l.map V.int) ((((l.idxOf u : Nat) : Int) + 1) % (((l.map V.int).length : Nat) : Int)) = some (.int (sucL l u)) := by
      have e : ((((l.idxOf u : Nat) : Int) + 1) % (((l.map V.int).length : Nat) : Int)) = (((l.idxOf u + 1) % l.length : Nat) : Int) := by
        rw [List.length_map, Int.natCast_emod]
        rfl
      have hlt : (l.idxOf u + 1) % l.length < l.length := Nat.mod_lt _ lp
      rw [e]
      refine atI_nat ?_
      rw [List.getElem?_map, List.getElem?_eq_getElem hlt]
      unfold sucL
      rw [getD_at hlt]
      rfl
    have lp2 : (0 : Int) < (((l.map V.int).length : Nat) : Int) := by
      rw [List.length_map]
      omega
    walk_at "z"
    refine r_gtup (.inl (.inl htx)) rfl ?_
    walk_at "z"
    refine r_buT fti ?_
    walk_at "z"
    refine r_tidx hti hu ?_
    walk_at "z"
    refine r_tupN sz2 fun t ht => ?_
    exact q t _ ht (same_new ht) upd_same
theorem r_nePP {H : Hp} {Q : VK} {x y : V} {p q : Int × Int} (hx : IsP H x p) (hy : IsP H y q) (c : Q (.bl (!decide (p = q))) H) : rNeD K x y H Q := by
  obtain ⟨a, rfl, ha⟩ := hx
  obtain ⟨b, rfl, hb⟩ := hy
  refine r_neTI (ns := [p.1, p.2]) (ms := [q.1, q.2]) (.inl (.inl ha)) (.inl (.inl hb)) ?_
  have e : ([p.1, p.2] = [q.1, q.2]) ↔ p = q := ⟨fun h => by
    injection h with h1 h2
    injection h2 with h2 _
    exact Prod.ext h1 h2, fun h => by rw [h]⟩
  rw [show decide ([p.1, p.2] = [q.1, q.2]) = decide (p = q) from decide_eq_decide.mpr e]
  exact c
def spWalk : Sp := fun vs H Q _ => ∃ (r x : V) (rot : List (List Int)) (a : Int × Int) (A : List (Int × Int)), vs = [r, x] ∧ RtAt H r rot ∧ IsP H x a ∧ Trn (nxtR rot) A ∧ a ∈ A ∧ (∀ p ∈ A, 0 ≤ p.2 ∧ ∃ l, rot[p.2.toNat]? = some l ∧ p.1 ∈ l ∧ l.length ≤ 1000) ∧ A.length ≤ 10000 ∧
  ∀ (t : Addr) (ys : List V) (o : List (Int × Int)) (H' : Hp), H t = none → Same H H' → H' t = some (.lst ys) → Prs H' ys o → Orb (nxtR rot) a o → Q (.ref t) H'
theorem ok_walk (T : Blt mg) (D : DefAt K mg "_walk" s_walk ["rotation", "start"]) (D_arrow_behind : DefAt K mg "_arrow_behind" s_arrow_behind ["rotation", "arrow"]) (G_arrow_behind : FnOk P w K mg base CX0 1 D_arrow_behind.f D_arrow_behind.fd ["rotation", "arrow"] spBehind) :
    FnOk P w K mg base CX0 2 D.f D.fd ["rotation", "start"] spWalk := by
  refine D.F.ok sc_walk (fun vs H Q E h => ?_) (fun cdv A outer s H vs Q E hr h => ?_)
  · obtain ⟨r, x, rot, a, B, rfl, _⟩ := h
    rfl
  · obtain ⟨r, x, rot, a, B, rfl, hrt, hx, tr, ha, bd, lB, q⟩ := h
    obtain ⟨k, ⟨k0, kB, ke⟩, kl⟩ := tr.least ha
    have nx : ∀ p ∈ B, ∀ l, rot[p.2.toNat]? = some l → nxtR rot p = (p.2, sucL l p.1) := fun p hp l hl => by
      unfold nxtR
      rw [List.getD_eq_getElem?_getD, hl]
      rfl
    refine ⟨_, (pss_cons (ps_set (i := 2) sc_walk.nd rfl (Or.inl rfl) (pe_lst (pa_cons (pv 1) pa_nil)))
      (pss_cons (ps_set (i := 3) sc_walk.nd rfl (Or.inl rfl) (pe_call G_arrow_behind (hr.mono (by first | decide | omega)) (by rfl) D_arrow_behind.g D_arrow_behind.F.kp D_arrow_behind.b .nil pass0 (pa_cons (pv 0) (pa_cons (pv 1) pa_nil))))
      (pss_cons (ps_while PassesOwn.never (pt_cmpR (op_neDK (K := K) rfl hr.units) (pv 3) (pv 1) (nomark _))
        (pss_cons (ps_expr (PE.bmK (K := K) rfl (pe_bm PySem.F.plainAttrs_list PySem.F.slot_list_append PySem.F.type_list_append mt_append (pv 2) (pa_cons (pv 3) pa_nil))))
        (pss_one (ps_set (i := 3) sc_walk.nd rfl (Or.inl rfl) (pe_call G_arrow_behind (hr.mono (by first | decide | omega)) (by rfl) D_arrow_behind.g D_arrow_behind.F.kp D_arrow_behind.b .nil pass0 (pa_cons (pv 0) (pa_cons (pv 3) pa_nil)))))))
      (pss_one (ps_ret (pv 2)))))), ?_⟩
    refine r_at (σ := [some _, some _, none, none]) rfl ?_
    walk_at "z"
    refine r_lstN sz1 fun f hf => ?_
    have s1 : Same H (upd H f (.lst [x])) := same_new hf
    have hf1 : (upd H f (.lst [x])) f = some (.lst [x]) := upd_same
    generalize upd H f (.lst [x]) = H1 at s1 hf1 ⊢
    obtain ⟨b0, l, hl, hu, l1⟩ := bd a ha
    walk_at "z"
    refine ⟨r, x, rot, a, l, rfl, hrt.same s1, hx.tk (.of_same s1), b0, hl, hu, l1, fun t H2 ht0 s2 ht => ?_⟩
    walk_at "z1"
    walk_at "z1"
    have hf0 : H f = none := hf
    let I9 : Nat → L2.St → Hp → Prop := fun m σ' H' => ∃ (j : Nat) (ys : List V) (ax : V), σ' = [some r, some x, some (.ref f), some ax] ∧ m = k - j ∧ 0 < j ∧ j ≤ k ∧ Same H H' ∧ H' f = some (.lst ys) ∧ Prs H' ys ((List.range j).map fun i => itf (nxtR rot) i a) ∧ IsP H' ax (itf (nxtR rot) j a)
    refine r_while I9 _ ⟨1, [x], .ref t, rfl, rfl, by omega, by omega, s1.trans s2, s2 _ _ hf1, .cons (hx.tk (.of_same (s1.trans s2))) .nil, t, rfl, by show H2 t = some (.tup [.int (nxtR rot a).1, .int (nxtR rot a).2]); rw [nx a ha l hl]; exact ht⟩ ?_
    rintro m σ' H3 ⟨j, ys, ax, rfl, rfl, j0, jk, s3, hys, pys, hax⟩
    have lys := pys.length
    rw [List.length_map, List.length_range] at lys
    walk_at "z"
    refine r_nePP hax (hx.tk (.of_same s3)) ?_
    by_cases c : itf (nxtR rot) j a = a
    · have e : (!decide (itf (nxtR rot) j a = a)) = false := by simp [c]
      rw [e]
      walk_at "z"
      have ejk : j = k := by
        rcases Nat.lt_or_ge j k with h | h
        · exact absurd c (kl j j0 h)
        · omega
      subst ejk
      exact q f ys _ H3 hf0 s3 hys pys ⟨j, k0, rfl, ke, kl⟩
    · have e : (!decide (itf (nxtR rot) j a = a)) = true := by simp [c]
      rw [e]
      walk_at "z"
      refine r_whGo ?_
      have lt : j < k := by
        rcases Nat.lt_or_ge j k with h | h
        · exact h
        · exact absurd (by rw [show j = k by omega]; exact ke) c
      walk_at "z"
      refine r_appT hys (small_lt (by omega)) ?_
      have k4 : TK H3 (upd H3 f (.lst (ys ++ [ax]))) := .lst hys
      have s4 : Same H (upd H3 f (.lst (ys ++ [ax]))) := same_mut s3 hf0
      have hf4 : (upd H3 f (.lst (ys ++ [ax]))) f = some (.lst (ys ++ [ax])) := upd_same
      have hax4 := hax.tk k4
      have pys4 : Prs (upd H3 f (.lst (ys ++ [ax]))) (ys ++ [ax]) ((List.range (j + 1)).map fun i => itf (nxtR rot) i a) := by
        rw [List.range_succ, List.map_append]
        exact (Prs.tk k4 pys).snoc hax4
      generalize upd H3 f (.lst (ys ++ [ax])) = H4 at s4 hf4 hax4 pys4 ⊢
      have hb := tr.itf ha j
      obtain ⟨c0, l', hl', hu', l1'⟩ := bd _ hb
      walk_at "z"
      refine ⟨r, ax, rot, itf (nxtR rot) j a, l', rfl, hrt.same s4, hax4, c0, hl', hu', l1', fun t5 H5 ht50 s5 ht5 => ?_⟩
      walk_at "z"
      exact ⟨k - (j + 1), by omega, j + 1, ys ++ [ax], .ref t5, rfl, rfl, by omega, lt, s4.trans s5, s5 _ _ hf4, Prs.tk (.of_same s5) pys4, t5, rfl, by show H5 t5 = some (.tup [.int (nxtR rot (itf (nxtR rot) j a)).1, .int (nxtR rot (itf (nxtR rot) j a)).2]); rw [nx _ hb l' hl']; exact ht5⟩
end

set_option Elab.async false
set_option linter.all false
set_option maxRecDepth 100000
set_option maxHeartbeats 4000000
open PySem PySem.Spec PyProof.Rows L2

abbrev s_arrows : Stmt := topS 2
theorem sc_arrows : FnScope ["graph", "edges", "u", "v"] ["graph"] (defScope s_arrows) := ⟨rfl, rfl, rfl, by decide +kernel, rfl, by decide +kernel, by decide +kernel⟩

abbrev s_mirrored : Stmt := topS 5
theorem sc_mirrored : FnScope ["rotation", "around"] ["rotation"] (defScope s_mirrored) := ⟨rfl, rfl, rfl, by decide +kernel, rfl, by decide +kernel, by decide +kernel⟩

section
variable {P : Program} {w : World} {K : PySem.W.Frag} {mg : Str → Option Value} {base : Heap}
/-- all arrows, ascending -/
def spArrows : Sp := fun vs H Q _ => ∃ (g : V) (n : Int) (ps : List (Int × Int)), vs = [g] ∧ GrAt H g n ps ∧ ps.length ≤ 10000 ∧
  ∀ (f : Addr) (xs : List V) (qs : List (Int × Int)) (H' : Hp), H f = none → Same H H' → H' f = some (.lst xs) → Prs H' xs qs → qs.Perm (ps ++ ps.map fun p => (p.2, p.1)) → qs.Pairwise leP → Q (.ref f) H'
theorem ok_arrowsP (T : Blt mg) (D : DefAt K mg "_arrows" s_arrows ["graph"]) : FnOk P w K mg base CX0 1 D.f D.fd ["graph"] spArrows := by
  refine D.F.ok sc_arrows (fun vs H Q E h => ?_) (fun cdv A outer s H vs Q E hr h => ?_)
  · obtain ⟨g, n, ps, rfl, _⟩ := h
    rfl
  · obtain ⟨g, n, ps, rfl, ⟨ga, e, rfl, hg, xs, he, hp⟩, hlen, q⟩ := h
    refine ⟨_, (pss_cons (ps_set (i := 1) sc_arrows.nd rfl (Or.inl rfl) (pe_ix (ix_tupK (K := K) rfl) (pv 0) pe_int (fun _ _ => rfl)))
      (pss_one (ps_ret (pe_callB (cr_sortPrK (K := K) rfl) (by rfl) T.sorted (by decide +kernel) (pa_cons (pe_op op_cat (pe_callTy (call_listK (K := K) rfl) (by rfl) T.list (by decide +kernel) (pa_cons (pv 1) pa_nil)) (pe_lc (own := [("u", 2), ("v", 3)]) (by rfl) sc_arrows.nd (PI.tupK (K := K) rfl (pi_tup (pv 1))) (blkOk_by (own := [("u", 2), ("v", 3)]) (N := ["graph", "edges", "u", "v"]) (sc := (defScope s_arrows)) (by decide +kernel)) (fun _ _ _ _ _ => (PG.tupK (K := K) rfl (pg_tup (n := 2) rfl (pgs_cons (pg_name (i := 2) sc_arrows.nd rfl (Or.inl rfl)) (pgs_cons (pg_name (i := 3) sc_arrows.nd rfl (Or.inl rfl)) pgs_nil))))) (fun _ _ _ _ _ => pts_nil) (fun _ _ _ _ _ => (pe_tup (pa_cons (pv 3) (pa_cons (pv 2) pa_nil)))))) pa_nil))))), ?_⟩
    refine r_at (σ := [some _, none, none, none]) rfl ?_
    walk_at "z"
    refine r_listT (.inl (.inl he)) fun c hc => ?_
    have s1 : Same H (upd H c (.lst xs)) := same_new hc
    have hc1 : (upd H c (.lst xs)) c = some (.lst xs) := upd_same
    have he1 := s1 _ _ he
    have hp1 := hp.tk (.of_same s1)
    generalize upd H c (.lst xs) = H1 at s1 hc1 he1 hp1 ⊢
    walk_at "z"
    refine r_it (.inl (.inl he1)) fun d hd => lcR_tup (xs := xs) (fun i H' => Same H1 H' ∧ ∃ ys, H' d = some (.lst ys) ∧ Prs H' ys ((ps.take i).map fun p => (p.2, p.1))) (by walk_at "zw") ⟨same_new hd, [], upd_same, .nil⟩ (fun i H' _ ⟨s2, _⟩ => .inl (.inl (s2 _ _ he1))) ?_ ?_
    · rintro i y H' hy ⟨s2, ys, hys, pys⟩
      obtain ⟨p, hpi, t, rfl, ht⟩ := pd_get (hp1.tk (.of_same s2)) hy
      refine r_gtup (.inl (.inl ht)) rfl ?_
      walk_at "z"
      refine ⟨rfl, ?_⟩
      walk_at "z"
      refine r_tupN sz2 fun t2 ht2 => ?_
      refine r_lce (by walk_at "zh") (small_lt (by rw [pys.length, List.length_map, List.length_take]; omega)) ⟨same_mut (s2.trans (same_new ht2)) hd, _, upd_same, ?_⟩
      rw [take_next hpi, List.map_append]
      exact prs_push hys pys ht2
    · rintro H2 ⟨s2, ys, hys, pys⟩
      rw [hp1.length, List.take_length] at pys
      have hc2 := s2 _ _ hc1
      have hp2 := hp1.tk (.of_same s2)
      walk_at "z"
      refine r_cat hc2 hys (by rw [hp2.length, pys.length, List.length_map]; omega) fun k hk => ?_
      walk_at "z"
      refine ⟨k, _, ps ++ ps.map fun p => (p.2, p.1), rfl, .inl (.inl upd_same), Prs.tk (.new hk) (pd_append hp2 pys), fun ws qs f pm hw pw hf => ?_⟩
      have sf := (s1.trans s2).trans (same_new (o := .lst (xs ++ ys)) hk)
      exact q f ws qs _ (sf.free hf) (sf.trans (same_new hf)) upd_same (hw.tk (.new hf)) pm pw
/-- the rotation turned around -/
def spMir : Sp := fun vs H Q _ => ∃ (r : V) (rot : List (List Int)), vs = [r] ∧ RtAt H r rot ∧ rot.length ≤ 1000 ∧ ∀ (r' : V) (H' : Hp), Same H H' → RtAt H' r' (rot.map List.reverse) → Q r' H'
theorem ok_mirrored (T : Blt mg) (D : DefAt K mg "mirrored" s_mirrored ["rotation"]) : FnOk P w K mg base CX0 1 D.f D.fd ["rotation"] spMir := by
  refine D.F.ok sc_mirrored (fun vs H Q E h => ?_) (fun cdv A outer s H vs Q E hr h => ?_)
  · obtain ⟨r, rot, rfl, _⟩ := h
    rfl
  · obtain ⟨r, rot, rfl, hrt, lr, q⟩ := h
    obtain ⟨tr, xs, rfl, htr, pxs⟩ := id hrt
    have lx := pxs.length
    refine ⟨_, (pss_one (ps_ret (pe_callTy (call_tupleK (K := K) rfl) (by rfl) T.tuple (by decide +kernel) (pa_cons (pe_lc (own := [("around", 1)]) (by rfl) sc_mirrored.nd (PI.tupK (K := K) rfl (pi_tup (pv 0))) (blkOk_by (own := [("around", 1)]) (N := ["rotation", "around"]) (sc := (defScope s_mirrored)) (by decide +kernel)) (fun _ _ _ _ _ => (pg_name (i := 1) sc_mirrored.nd rfl (Or.inl rfl))) (fun _ _ _ _ _ => pts_nil) (fun _ _ _ _ _ => (PE.revTK (K := K) rfl (pe_revT (pv 1))))) pa_nil)))), ?_⟩
    refine r_at (σ := [some _, none]) rfl ?_
    walk_at "z"
    refine r_it (.inl (.inl htr)) fun d hd => lcR_tup (xs := xs) (fun i H' => Same H H' ∧ ∃ ys, H' d = some (.lst ys) ∧ Paired (fun x (l : List Int) => ∃ p, p ≠ d ∧ x = V.ref p ∧ FrT H' p (l.map V.int)) ys ((rot.take i).map List.reverse)) (by walk_at "zw") ⟨same_new hd, [], upd_same, .nil⟩ (fun i H' _ ⟨s2, _⟩ => .inl (.inl (s2 _ _ htr))) ?_ ?_
    · rintro i y H' hy ⟨s2, ys, hys, pys⟩
      obtain ⟨l, hl, ti, rfl, fti⟩ := pd_get pxs hy
      have il := (List.getElem?_eq_some_iff.mp hl).1
      have ft2 := fti.same s2
      have sq : SqT K H' ti (l.map V.int) := by
        obtain ⟨o, ho, _⟩ := ft2
        exact .inl (.inr ⟨o, ho⟩)
      walk_at "z"
      refine ⟨rfl, ?_⟩
      walk_at "z"
      refine r_revT ?_
      walk_at "z"
      refine r_revTN sq fun p o hp od => ?_
      have s3 : Same H' (upd H' p (.frz o (.tup (l.map V.int).reverse))) := same_new hp
      have pd : p ≠ d := (ne_of_none hys hp).symm
      have hp3 : (upd H' p (.frz o (.tup (l.map V.int).reverse))) p = some (.frz o (.tup (l.map V.int).reverse)) := upd_same
      have hys3 := s3 _ _ hys
      generalize upd H' p (.frz o (.tup (l.map V.int).reverse)) = H3 at s3 hp3 hys3 ⊢
      have keep : ∀ {p : Addr} {zs : List V} (v : List V), p ≠ d → FrT H3 p zs → FrT (upd H3 d (.lst v)) p zs := fun v ne ⟨o, h1, h2⟩ => ⟨o, (upd_ne ne).trans h1, h2⟩
      refine r_lce hys3 (small_lt (by rw [pys.length, List.length_map, List.length_take]; omega)) ⟨same_mut (s2.trans s3) hd, _, upd_same, ?_⟩
      rw [take_next hl, List.map_append, List.map_cons, List.map_nil]
      have all : ∀ {zs : List V} {ms : List (List Int)} (v : List V), Paired (fun x (l : List Int) => ∃ p, p ≠ d ∧ x = V.ref p ∧ FrT H' p (l.map V.int)) zs ms → Paired (fun x (l : List Int) => ∃ p, p ≠ d ∧ x = V.ref p ∧ FrT (upd H3 d (.lst v)) p (l.map V.int)) zs ms := fun v h => by
        induction h with
        | nil => exact .nil
        | cons a t ih =>
          obtain ⟨p, ne, e, f⟩ := a
          exact .cons ⟨p, ne, e, keep v ne (f.same s3)⟩ ih
      exact (all _ pys).snoc ⟨p, pd, rfl, keep _ pd ⟨o, by rw [List.map_reverse]; exact hp3, od⟩⟩
    · rintro H2 ⟨s2, ys, hys, pys⟩
      rw [lx, List.take_length] at pys
      walk_at "z"
      refine r_tupL (.inl (.inl hys)) fun t ht => ?_
      have s3 : Same H2 (upd H2 t (.tup ys)) := same_new ht
      have all : ∀ {zs : List V} {ms : List (List Int)}, Paired (fun x (l : List Int) => ∃ p, p ≠ d ∧ x = V.ref p ∧ FrT H2 p (l.map V.int)) zs ms → Paired (fun x (l : List Int) => ∃ p, x = V.ref p ∧ FrT (upd H2 t (.tup ys)) p (l.map V.int)) zs ms := fun h => by
        induction h with
        | nil => exact .nil
        | cons a t ih =>
          obtain ⟨p, _, e, f⟩ := a
          exact .cons ⟨p, e, f.same s3⟩ ih
      exact q (.ref t) _ (s2.trans s3) ⟨t, ys, rfl, upd_same, all pys⟩
end

set_option Elab.async false
set_option linter.all false
set_option maxRecDepth 100000
set_option maxHeartbeats 4000000
open PySem PySem.Spec PyProof.Rows L2

abbrev s_faces : Stmt := topS 1
theorem sc_faces : FnScope ["graph", "rotation", "placed", "found", "arrow", "walk", "step"] ["graph", "rotation"] (defScope s_faces) := ⟨rfl, rfl, rfl, by decide +kernel, rfl, by decide +kernel, by decide +kernel⟩

/-- whole walks alone -/
structure PlOk {α : Type} (f : α → α) (A pl : List α) : Prop where
  nd : pl.Nodup
  sub : ∀ z ∈ pl, z ∈ A
  cl : ∀ z ∈ pl, ∀ j, itf f j z ∈ pl
theorem PlOk.add {α : Type} [DecidableEq α] {f : α → α} {A pl o : List α} {a : α} (h : PlOk f A pl) (t : Trn f A) (ha : a ∈ A) (n : a ∉ pl) (ho : Orb f a o) : PlOk f A (pl ++ o) := by
  refine ⟨List.nodup_append.mpr ⟨h.nd, ho.nodup t ha, fun z hz y hy e => ?_⟩, fun z hz => ?_, fun z hz j => ?_⟩
  · subst e
    obtain ⟨p, hp⟩ := t.orb (h.sub z hz)
    obtain ⟨j, e⟩ := hp.mem.mp ((ho.other hp hy a).mpr ho.self)
    exact n (e ▸ h.cl z hz j)
  · rcases List.mem_append.mp hz with c | c
    · exact h.sub z c
    · exact ho.sub t ha z c
  · rcases List.mem_append.mp hz with c | c
    · exact List.mem_append_left _ (h.cl z c j)
    · obtain ⟨i, rfl⟩ := ho.mem.mp c
      exact List.mem_append_right _ (ho.mem.mpr ⟨i + j, (itf_add f i j a).symm⟩)
theorem Trn.perm {α : Type} {f : α → α} {A B : List α} (t : Trn f A) (p : B.Perm A) : Trn f B := ⟨p.nodup_iff.mpr t.nd, fun a h => p.mem_iff.mpr (t.cl a (p.mem_iff.mp h)), fun a ha b hb => t.inj a (p.mem_iff.mp ha) b (p.mem_iff.mp hb)⟩
/-- a tuple of pairs -/
def TupP (H : Hp) (y : V) (o : List (Int × Int)) : Prop := ∃ (t : Addr) (zs : List V), y = .ref t ∧ H t = some (.tup zs) ∧ Prs H zs o
theorem TupP.tk {H H' : Hp} (k : TK H H') {y : V} {o : List (Int × Int)} (h : TupP H y o) : TupP H' y o := by
  obtain ⟨t, zs, h1, h2, h3⟩ := h
  exact ⟨t, zs, h1, k _ _ h2, Prs.tk k h3⟩
theorem tupPs_tk {H H' : Hp} (k : TK H H') {ys : List V} {ws : List (List (Int × Int))} (h : Paired (TupP H) ys ws) : Paired (TupP H') ys ws := by
  induction h with
  | nil => exact .nil
  | cons a t ih => exact .cons (a.tk k) ih
section
variable {P : Program} {w : World} {K : PySem.W.Frag} {mg : Str → Option Value} {base : Heap}
def spFaces : Sp := fun vs H Q _ => ∃ (g r : V) (n : Int) (ps : List (Int × Int)) (rot : List (List Int)), vs = [g, r] ∧ GrAt H g n ps ∧ RtAt H r rot ∧ Trn (nxtR rot) (ps ++ ps.map fun p => (p.2, p.1)) ∧ (∀ p ∈ ps ++ ps.map (fun p => (p.2, p.1)), 0 ≤ p.2 ∧ ∃ l, rot[p.2.toNat]? = some l ∧ p.1 ∈ l ∧ l.length ≤ 1000) ∧ (ps ++ ps.map fun p => (p.2, p.1)).length ≤ 60 ∧
  ∀ (F : Addr) (fs : List V) (qs : List (Int × Int)) (ws : List (List (Int × Int))) (H' : Hp), H F = none → Same H H' → H' F = some (.lst fs) → Paired (TupP H') fs ws → qs.Perm (ps ++ ps.map fun p => (p.2, p.1)) → qs.Pairwise leP → Wks (nxtR rot) qs ws → Q (.ref F) H'
theorem ok_faces (T : Blt mg) (z_set : mg "set" = none) (D : DefAt K mg "faces" s_faces ["graph", "rotation"]) (D_arrows : DefAt K mg "_arrows" s_arrows ["graph"]) (G_arrows : FnOk P w K mg base CX0 1 D_arrows.f D_arrows.fd ["graph"] spArrows)
    (D_walk : DefAt K mg "_walk" s_walk ["rotation", "start"]) (G_walk : FnOk P w K mg base CX0 2 D_walk.f D_walk.fd ["rotation", "start"] spWalk) :
    FnOk P w K mg base CX0 3 D.f D.fd ["graph", "rotation"] spFaces := by
  refine D.F.ok sc_faces (fun vs H Q E h => ?_) (fun cdv A outer s H vs Q E hr h => ?_)
  · obtain ⟨g, r, n, ps, rot, rfl, _⟩ := h
    rfl
  · obtain ⟨g, r, n, ps, rot, rfl, hg, hrt, tr0, bd0, l60, q⟩ := h
    have lps : ps.length ≤ 60 := by
      rw [List.length_append] at l60
      omega
    refine ⟨_, (pss_cons (ps_set (i := 2) sc_faces.nd rfl (Or.inl rfl) (pe_callTy0 (cr_set0TK (P := P) (w := w) rfl rfl) (by rfl) z_set (by decide +kernel)))
      (pss_cons (ps_set (i := 3) sc_faces.nd rfl (Or.inl rfl) (pe_lst pa_nil))
      (pss_cons (ps_for PassesOwn.never (by rfl) (PI.listK (K := K) rfl (pi_list (pe_call G_arrows (hr.mono (by first | decide | omega)) (by rfl) D_arrows.g D_arrows.F.kp D_arrows.b .nil pass0 (pa_cons (pv 0) pa_nil)))) (pg_name (i := 4) sc_faces.nd rfl (Or.inl rfl))
        (pss_one (ps_if (pt_cmpR (op_ninTK (K := K) (P := P) (w := w) rfl rfl rfl hr.units) (pv 4) (pv 2) (by rfl))
          (pss_cons (ps_set (i := 5) sc_faces.nd rfl (Or.inl rfl) (pe_call G_walk (hr.mono (by first | decide | omega)) (by rfl) D_walk.g D_walk.F.kp D_walk.b .nil pass0 (pa_cons (pv 1) (pa_cons (pv 4) pa_nil))))
          (pss_cons (ps_for PassesOwn.never (by rfl) (PI.listK (K := K) rfl (pi_list (pv 5))) (pg_name (i := 6) sc_faces.nd rfl (Or.inl rfl))
            (pss_one (ps_expr (PE.saddTK (K := K) (P := P) (w := w) rfl rfl rfl (pe_saddT hr.units (pv 2) (pa_cons (pv 6) pa_nil))))))
          (pss_one (ps_expr (PE.bmK (K := K) rfl (pe_bm PySem.F.plainAttrs_list PySem.F.slot_list_append PySem.F.type_list_append mt_append (pv 3) (pa_cons (pe_callTy (call_tupleK (K := K) rfl) (by rfl) T.tuple (by decide +kernel) (pa_cons (pv 5) pa_nil)) pa_nil)))))))
          pss_nil)))
      (pss_one (ps_ret (pv 3)))))), ?_⟩
    refine r_at (σ := [some _, some _, none, none, none, none, none]) rfl ?_
    walk_at "z"
    refine ⟨rfl, fun pl0 hpl0 => ?_⟩
    have s1 : Same H (upd H pl0 (SetTO P w pl0 [])) := same_new hpl0
    have hS1 : SetP P w (upd H pl0 (SetTO P w pl0 [])) pl0 [] := setP_nil
    have hS0 : (upd H pl0 (SetTO P w pl0 [])) pl0 = some (SetTO P w pl0 []) := upd_same
    generalize upd H pl0 (SetTO P w pl0 []) = H1 at s1 hS1 hS0 ⊢
    walk_at "z"
    refine r_lstN (by decide) fun F hF => ?_
    have s2 : Same H1 (upd H1 F (.lst [])) := same_new hF
    have hF2 : (upd H1 F (.lst [])) F = some (.lst []) := upd_same
    have nSF : pl0 ≠ F := ne_of_none hS0 hF
    have hS2 : SetP P w (upd H1 F (.lst [])) pl0 [] := hS1.tk (.of_same s2) (upd_ne nSF)
    have F0 : H F = none := s1.free hF
    generalize upd H1 F (.lst []) = H2 at s2 hF2 hS2 ⊢
    have s12 := s1.trans s2
    walk_at "z"
    refine ⟨g, n, ps, rfl, hg.tk (.of_same s12), by omega, fun f xs qs H3 hf0 s3 hf pxs pm pw => ?_⟩
    have tr := tr0.perm pm
    have ff0 : H f = none := s12.free hf0
    have lq : qs.length ≤ 60 := by
      rw [pm.length_eq]
      exact l60
    have hS3 : SetP P w H3 pl0 [] := by
      obtain ⟨L, hL, _⟩ := id hS2
      exact hS2.tk (.of_same s3) ((s3 _ _ hL).trans hL.symm)
    have nFf : F ≠ f := ne_of_none hF2 hf0
    have nDf : pl0 ≠ f := by
      obtain ⟨L, hL, _⟩ := id hS2
      exact ne_of_none hL hf0
    have lx := pxs.length
    have moves : ∀ {H4 H5 : Hp} {pl : List (Int × Int)}, SetP P w H4 pl0 pl → Same H4 H5 → SetP P w H5 pl0 pl := fun h s => by
      obtain ⟨L, hL, _⟩ := id h
      exact h.tk (.of_same s) ((s _ _ hL).trans hL.symm)
    walk_at "z"
    refine r_il (.inl (.inl hf)) (forR_list (xs := xs) (fun i σ' H' => (∃ x4 x5 x6, σ' = [some g, some r, some (.ref pl0), some (.ref F), x4, x5, x6]) ∧ Same H H' ∧ TK H3 H' ∧ H' f = some (.lst xs) ∧ ∃ (pl : List (Int × Int)) (fs : List V) (ws : List (List (Int × Int))), SetP P w H' pl0 pl ∧ PlOk (nxtR rot) qs pl ∧ H' F = some (.lst fs) ∧ Paired (TupP H') fs ws ∧ ws.length ≤ i ∧ ∀ ws', Wkp (nxtR rot) pl (qs.drop i) ws' → Wkp (nxtR rot) [] qs (ws ++ ws'))
      ⟨⟨_, _, _, rfl⟩, s12.trans s3, fun _ _ h => h, hf, [], [], [], hS3, ⟨.nil, fun z h => (nomatch h), fun z h => (nomatch h)⟩, s3 _ _ hF2, .nil, Nat.le_refl 0, fun ws' h => h⟩ (fun i σ' H' _ ⟨_, _, _, h, _⟩ => .inl (.inl h)) ?_ ?_)
    · rintro i y σ' H4 hy ⟨⟨x4, x5, x6, rfl⟩, s4, k4, hf4, pl, fs, ws, hS4, ok, hF4, pfs, lws, tl⟩
      obtain ⟨a, ha, hya⟩ := pd_get (Prs.tk k4 pxs) hy
      have il := (List.getElem?_eq_some_iff.mp ha).1
      have am := List.mem_of_getElem? ha
      have dr : qs.drop i = a :: qs.drop (i + 1) := by
        rw [List.drop_eq_getElem_cons il]
        congr 1
        exact (List.getElem?_eq_some_iff.mp ha).2
      walk_at "z"
      refine r_inP hS4 hya ?_
      by_cases c : a ∈ pl
      · have e : (xor true (decide (a ∈ pl))) = false := by simp [c]
        rw [e]
        walk_at "z"
        exact ⟨⟨_, _, _, rfl⟩, s4, k4, hf4, pl, fs, ws, hS4, ok, hF4, pfs, by omega, fun ws' h => tl ws' (by rw [dr]; exact .skip c h)⟩
      · have e : (xor true (decide (a ∈ pl))) = true := by simp [c]
        rw [e]
        walk_at "z"
        refine ⟨r, y, rot, a, qs, rfl, hrt.same s4, hya, tr, am, fun p hp => bd0 p (pm.mem_iff.mp hp), by omega, fun wf ys o H5 hwf0 s5 hwf pys ho => ?_⟩
        have ok' := ok.add tr am c ho
        have lo := nodup_le _ qs ok'.nd ok'.sub
        have nDw : pl0 ≠ wf := by
          obtain ⟨L, hL, _⟩ := id hS4
          exact ne_of_none hL hwf0
        have nFw : F ≠ wf := ne_of_none hF4 hwf0
        have nFD : F ≠ pl0 := fun e9 => by
          obtain ⟨L, hL, _⟩ := id hS4
          rw [← e9, hF4] at hL
          cases hL
        walk_at "z"
        refine r_il (.inl (.inl hwf)) (forR_list (xs := ys) (fun j σ' H' => (∃ x6, σ' = [some g, some r, some (.ref pl0), some (.ref F), some y, some (.ref wf), x6]) ∧ Same H H' ∧ TK H5 H' ∧ H' wf = some (.lst ys) ∧ H' f = some (.lst xs) ∧ H' F = some (.lst fs) ∧ SetP P w H' pl0 (pl ++ o.take j))
          ⟨⟨_, rfl⟩, s4.trans s5, fun _ _ h => h, hwf, s5 _ _ hf4, s5 _ _ hF4, by rw [List.take_zero, List.append_nil]; exact moves hS4 s5⟩ (fun j σ' H' _ ⟨_, _, _, h, _⟩ => .inl (.inl h)) ?_ ?_)
        · rintro j z σ' H6 hz ⟨⟨x7, rfl⟩, s6, k6, hw6, hf6, hF6, hS6⟩
          obtain ⟨b, hb, hzb⟩ := pd_get (Prs.tk k6 pys) hz
          walk_at "z"
          refine r_saddTN hS6 ?_
          walk_at "z"
          refine r_saddP hS6 hzb (by
            have l1 := lo
            rw [List.length_append] at l1 ⊢
            rw [List.length_take]
            omega) fun o' h' => ?_
          have kk : TK H6 (upd H6 pl0 o') := by
            obtain ⟨L, hL, _⟩ := hS6
            exact TK.setO hL
          refine ⟨⟨_, rfl⟩, same_mut s6 hpl0, k6.trans kk, (upd_ne nDw.symm).trans hw6, (upd_ne nDf.symm).trans hf6, (upd_ne nFD).trans hF6, ?_⟩
          rw [take_next hb, ← List.append_assoc]
          exact h'
        · rintro σ' H6 ⟨⟨x7, rfl⟩, s6, k6, hw6, hf6, hF6, hS6⟩
          rw [pys.length, List.take_length] at hS6
          walk_at "z"
          refine r_tupL (.inl (.inl hw6)) fun t ht => ?_
          have s7 : Same H6 (upd H6 t (.tup ys)) := same_new ht
          have ht7 : (upd H6 t (.tup ys)) t = some (.tup ys) := upd_same
          have hS7 := moves hS6 s7
          generalize upd H6 t (.tup ys) = H7 at s7 ht7 hS7 ⊢
          have hF7 := s7 _ _ hF6
          have k57 : TK H5 H7 := k6.trans (.of_same s7)
          walk_at "z"
          refine r_appT hF7 (small_lt (by rw [pfs.length]; omega)) ?_
          have k8 : TK H7 (upd H7 F (.lst (fs ++ [.ref t]))) := .lst hF7
          refine ⟨⟨_, _, _, rfl⟩, same_mut (s6.trans s7) F0, ((k4.trans (.of_same s5)).trans k57).trans k8, (upd_ne nFf.symm).trans (s7 _ _ hf6), pl ++ o, fs ++ [.ref t], ws ++ [o], ?_, ok', upd_same, (tupPs_tk (((TK.of_same s5).trans k57).trans k8) pfs).snoc ⟨t, ys, rfl, k8 _ _ ht7, Prs.tk (k57.trans k8) pys⟩, by rw [List.length_append]; simp only [List.length_cons, List.length_nil]; omega, fun ws' h => ?_⟩
          · exact hS7.tk k8 (upd_ne nFD.symm)
          · rw [List.append_assoc]
            exact tl _ (by rw [dr]; exact .take c ho h)
    · rintro σ' H4 ⟨⟨x4, x5, x6, rfl⟩, s4, k4, hf4, pl, fs, ws, hS4, ok, hF4, pfs, lws, tl⟩
      rw [lx, List.drop_length] at tl
      have wk := wkp_wks (tl [] .nil)
      rw [List.append_nil] at wk
      rw [List.filter_eq_self.mpr (fun z _ => by simp)] at wk
      walk_at "z"
      exact q F fs qs ws H4 F0 s4 hF4 pfs pm pw wk
end

set_option Elab.async false
set_option linter.all false
set_option maxRecDepth 100000
set_option maxHeartbeats 4000000
open PySem PySem.Spec PyProof.Rows L2

abbrev s_law_some_rotation : Stmt := topS 37
theorem sc_law_some_rotation : FnScope ["pool", "graph", "items", "v", "left", "k"] ["pool", "graph"] (defScope s_law_some_rotation) := ⟨rfl, rfl, rfl, by decide +kernel, rfl, by decide +kernel, by decide +kernel⟩

/-- tuples of their own stay -/
def FK (H H' : Hp) : Prop := ∀ p o zs, H p = some (.frz o (.tup zs)) → H' p = some (.frz o (.tup zs))
theorem FK.trans {H H1 H2 : Hp} (x : FK H H1) (y : FK H1 H2) : FK H H2 := fun p o zs h => y p o zs (x p o zs h)
theorem FK.of_same {H H' : Hp} (s : Same H H') : FK H H' := fun p o zs h => s _ _ h
theorem FK.lst {H : Hp} {d : Addr} {xs : List V} {o' : HO} (h : H d = some (.lst xs)) : FK H (upd H d o') := fun p o zs hp => by
  refine (upd_ne fun e => ?_).trans hp
  rw [e, h] at hp
  cases hp
theorem FK.gr {a s : Addr} {H H' : Hp} (g : Gr a H H') (h : Pool H a s) : FK H H' := fun p o zs hp => g _ _ (fun e => by
  obtain ⟨xs, hl⟩ := h.lst
  rw [e, hl] at hp
  cases hp) hp
theorem FrT.fk {H H' : Hp} (k : FK H H') {p : Addr} {ys : List V} (h : FrT H p ys) : FrT H' p ys := by
  obtain ⟨o, h1, h2⟩ := h
  exact ⟨o, k _ _ _ h1, h2⟩
theorem frTs_fk {H H' : Hp} (k : FK H H') {xs : List V} {rot : List (List Int)} (h : Paired (fun x (l : List Int) => ∃ p, x = V.ref p ∧ FrT H p (l.map V.int)) xs rot) : Paired (fun x (l : List Int) => ∃ p, x = V.ref p ∧ FrT H' p (l.map V.int)) xs rot := by
  induction h with
  | nil => exact .nil
  | cons a t ih =>
    obtain ⟨p, e, f⟩ := a
    exact .cons ⟨p, e, f.fk k⟩ ih
theorem free_gr {a s l : Addr} {H H' : Hp} (g : Gr a H H') (h : Pool H' a s) (n : H' l = none) : H l = none := by
  refine Classical.byContradiction fun ne => ?_
  cases q9 : H l with
  | none => exact ne q9
  | some o =>
    have := g l o (fun e9 => by
      rw [e9] at n
      obtain ⟨xs, hx⟩ := h.lst
      rw [hx] at n
      cases n) q9
    rw [n] at this
    cases this
section
variable {P : Program} {w : World} {K : PySem.W.Frag} {mg : Str → Option Value} {base : Heap}
def spRot : Sp := fun vs H Q _ => ∃ (a s : Addr) (g : V) (n : Int) (ps : List (Int × Int)), vs = [.ref a, g] ∧ Pool H a s ∧ GrAt H g n ps ∧ 0 ≤ n ∧ n ≤ 100 ∧
  ∀ (r : V) (rot : List (List Int)) (H' : Hp), Pool H' a s → Gr a H H' → RtAt H' r rot → rot.length = n.toNat → (∀ (v : Nat) l, rot[v]? = some l → l.Perm (nbL ps (v : Int) n.toNat)) → Q r H'
theorem ok_rot (T : Blt mg) (D : DefAt K mg "_law_some_rotation" s_law_some_rotation ["pool", "graph"]) (D_law_draw : DefAt K mg "_law_draw" s_law_draw ["pool", "many"]) (G_law_draw : FnOk P w K mg base CX0 2 D_law_draw.f D_law_draw.fd ["pool", "many"] spDraw)
    (D_law_near : DefAt K mg "_law_near" s_law_near ["graph", "v"]) (G_law_near : FnOk P w K mg base CX0 1 D_law_near.f D_law_near.fd ["graph", "v"] spNb) :
    FnOk P w K mg base CX0 3 D.f D.fd ["pool", "graph"] spRot := by
  refine D.F.ok sc_law_some_rotation (fun vs H Q E h => ?_) (fun cdv A outer s H vs Q E hr h => ?_)
  · obtain ⟨a, s, g, n, ps, rfl, _⟩ := h
    rfl
  · obtain ⟨a, s0, g, n, ps, rfl, hP, hgr0, n0, n1, q⟩ := h
    obtain ⟨ga, e, rfl, hga, he⟩ := id hgr0
    refine ⟨_, (pss_cons (ps_set (i := 2) sc_law_some_rotation.nd rfl (Or.inl rfl) (pe_lst pa_nil))
      (pss_cons (ps_for PassesOwn.never (by rfl) (pi_range1 (by rfl) T.range (pa_cons (pe_ix (ix_tupK (K := K) rfl) (pv 1) pe_int (fun _ _ => rfl)) pa_nil)) (pg_name (i := 3) sc_law_some_rotation.nd rfl (Or.inl rfl))
        (pss_cons (ps_set (i := 4) sc_law_some_rotation.nd rfl (Or.inr rfl) (pe_call G_law_near (hr.mono (by first | decide | omega)) (by rfl) D_law_near.g D_law_near.F.kp D_law_near.b .nil pass0 (pa_cons (pv 1) (pa_cons (pv 3) pa_nil))))
        (pss_one (ps_expr (PE.bmK (K := K) rfl (pe_bm PySem.F.plainAttrs_list PySem.F.slot_list_append PySem.F.type_list_append mt_append (pv 2) (pa_cons (pe_callTy (cr_tupFK (K := K) rfl) (by rfl) T.tuple (by decide +kernel) (pa_cons (pe_lc (own := [("k", 5)]) (by rfl) sc_law_some_rotation.nd (pi_range1 (by rfl) T.range (pa_cons (pe_callB (call_lenK (K := K) rfl) (by rfl) T.len (by decide +kernel) (pa_cons (pv 4) pa_nil)) pa_nil)) (blkOk_by (own := [("k", 5)]) (N := ["pool", "graph", "items", "v", "left", "k"]) (sc := (defScope s_law_some_rotation)) (by decide +kernel)) (fun _ _ _ _ _ => (pg_name (i := 5) sc_law_some_rotation.nd rfl (Or.inl rfl))) (fun _ _ _ _ _ => pts_nil) (fun _ _ _ _ _ => (PE.bmK (K := K) rfl (pe_bm PySem.F.plainAttrs_list PySem.F.slot_list_pop PySem.F.type_list_pop mt_popAt (pv 4) (pa_cons (pe_call G_law_draw (hr.mono (by first | decide | omega)) (by rfl) D_law_draw.g D_law_draw.F.kp D_law_draw.b .nil pass0 (pa_cons (pv 0) (pa_cons (pe_callB (call_lenK (K := K) rfl) (by rfl) T.len (by decide +kernel) (pa_cons (pv 4) pa_nil)) pa_nil))) pa_nil))))) pa_nil)) pa_nil)))))))
      (pss_one (ps_ret (pe_callTy (call_tupleK (K := K) rfl) (by rfl) T.tuple (by decide +kernel) (pa_cons (pv 2) pa_nil)))))), ?_⟩
    refine r_at (σ := [some _, some _, none, none, none, none]) rfl ?_
    walk_at "z"
    refine r_lstN (by decide) fun b hb => ?_
    have b0 : H b = none := hb
    have s1 : Same H (upd H b (.lst [])) := same_new hb
    have hb1 : (upd H b (.lst [])) b = some (.lst []) := upd_same
    have hga1 := s1 _ _ hga
    have hP1 := hP.mono s1
    have g1 : Gr a H (upd H b (.lst [])) := .new hb
    generalize upd H b (.lst []) = H1 at s1 hb1 hga1 hP1 g1 ⊢
    walk_at "z"
    refine r_rg1 (by omega) (forR_range (fun i σ' H' => (∃ x3 x4 x5, σ' = [some (.ref a), some (.ref ga), some (.ref b), x3, x4, x5]) ∧ Pool H' a s0 ∧ Gr a H H' ∧ ∃ (ys : List V) (rot : List (List Int)), H' b = some (.lst ys) ∧ Paired (fun x (l : List Int) => ∃ p, x = V.ref p ∧ FrT H' p (l.map V.int)) ys rot ∧ rot.length = i ∧ ∀ (v : Nat) l, rot[v]? = some l → l.Perm (nbL ps (v : Int) n.toNat))
      ⟨⟨_, _, _, rfl⟩, hP1, g1, [], [], hb1, .nil, rfl, fun v l h => by simp at h⟩ ?_ ?_)
    · rintro i σ' H2 hi ⟨⟨x3, x4, x5, rfl⟩, hP2, g2, ys, rot, hys, prs, lrot, pmr⟩
      walk_at "z"
      refine ⟨.ref ga, n, (i : Int), ps, by simp, hgr0.tk (g2.tk hP), n0, n1, fun l H3 hl0 s3 hl3 => ?_⟩
      have l0 : H l = none := free_gr g2 hP2 hl0
      have hP3 := hP2.mono s3
      have g3 := g2.trans (.of_same s3)
      have hys3 := s3 _ _ hys
      have nbl : b ≠ l := ne_of_none hys hl0
      walk_at "z"
      rw [List.length_map]
      have lnb := nbL_len ps (i : Int) n.toNat
      refine r_rg1 (by omega) fun d hd => lcR_range (fun j H' => Pool H' a s0 ∧ Gr a H H' ∧ FK H3 H' ∧ H' b = some (.lst ys) ∧ ∃ xs zs : List Int, H' l = some (.lst (xs.map V.int)) ∧ H' d = some (.lst (zs.map V.int)) ∧ (zs ++ xs).Perm (nbL ps (i : Int) n.toNat) ∧ zs.length = j)
        (by walk_at "zw") ⟨hP3.mono (same_new hd), g3.trans (.new hd), .of_same (same_new hd), (upd_ne (ne_of_none hys3 hd)).trans hys3, _, [], (upd_ne (ne_of_none hl3 hd)).trans hl3, upd_same, .refl _, rfl⟩ ?_ ?_
      · rintro j H4 hj ⟨hP4, g4, k4, hb4, xs2, zs, hl4, hd4, pm, lz⟩
        have d0 : H d = none := free_gr g3 hP3 hd
        have nld : l ≠ d := ne_of_none hl3 hd
        have nbd : b ≠ d := ne_of_none hys3 hd
        have lx : xs2.length + j = (nbL ps (i : Int) n.toNat).length := by
          have := pm.length_eq
          rw [List.length_append] at this
          omega
        walk_at "z"
        refine ⟨rfl, ?_⟩
        walk_at "z"
        rw [List.length_map]
        refine ⟨a, s0, _, rfl, hP4, by omega, by omega, fun c H5 c0 c1 hP5 g5 => ?_⟩
        walk_at "z"
        have hl5 := g5 _ _ (new_ne hP l0).1 hl4
        have hd5 := g5 _ _ (new_ne hP d0).1 hd4
        have hb5 := g5 _ _ (new_ne hP b0).1 hb4
        have hc : c.toNat < xs2.length := by omega
        have gx : xs2[c.toNat]? = some xs2[c.toNat] := List.getElem?_eq_getElem hc
        refine r_popAt hl5 (k := c.toNat) (y := V.int xs2[c.toNat]) (by omega) (by omega) (by rw [List.getElem?_map, gx]; rfl) ?_
        rw [map_erase]
        have hd6 : (upd H5 l (.lst ((xs2.eraseIdx c.toNat).map V.int))) d = some (.lst (zs.map V.int)) := (upd_ne nld.symm).trans hd5
        refine r_lce hd6 (small_lt (by rw [List.length_map]; omega)) ⟨(hP5.upd (new_ne hP l0)).upd (new_ne hP d0), ((g4.trans g5).mut l0).mut d0, k4.trans ((FK.gr g5 hP4).trans ((FK.lst hl5).trans (.lst hd6))), (upd_ne nbd).trans ((upd_ne nbl).trans hb5), xs2.eraseIdx c.toNat, zs ++ [xs2[c.toNat]], (upd_ne nld).trans upd_same, by rw [List.map_append]; exact upd_same, ?_, by rw [List.length_append, lz]; rfl⟩
        refine List.Perm.trans ?_ pm
        rw [List.append_assoc]
        exact List.Perm.append_left zs (get_erase_perm xs2 gx)
      · rintro H4 ⟨hP4, g4, k4, hb4, xs2, zs, hl4, hd4, pm, lz⟩
        have ex : xs2 = [] := List.length_eq_zero_iff.mp (by
          have := pm.length_eq
          rw [List.length_append] at this
          omega)
        rw [ex, List.append_nil] at pm
        walk_at "z"
        refine r_tupF (.inl (.inl hd4)) fun p o hp od => ?_
        have s5 : Same H4 (upd H4 p (.frz o (.tup (zs.map V.int)))) := same_new hp
        have hp5 : (upd H4 p (.frz o (.tup (zs.map V.int)))) p = some (.frz o (.tup (zs.map V.int))) := upd_same
        generalize upd H4 p (.frz o (.tup (zs.map V.int))) = H5 at s5 hp5 ⊢
        have hb5 := s5 _ _ hb4
        have lys := prs.length
        walk_at "z"
        refine r_appT hb5 (small_lt (by omega)) ?_
        have k6 : FK H5 (upd H5 b (.lst (ys ++ [.ref p]))) := .lst hb5
        have k26 : FK H2 (upd H5 b (.lst (ys ++ [.ref p]))) := ((FK.of_same s3).trans k4).trans ((FK.of_same s5).trans k6)
        refine ⟨⟨_, _, _, rfl⟩, (hP4.mono s5).upd (new_ne hP b0), (g4.trans (.of_same s5)).mut b0, ys ++ [.ref p], rot ++ [zs], upd_same, (frTs_fk k26 prs).snoc ⟨p, rfl, o, k6 _ _ _ hp5, od⟩, by rw [List.length_append, lrot]; rfl, fun v l hv => ?_⟩
        rcases Nat.lt_or_ge v rot.length with h | h
        · rw [List.getElem?_append_left h] at hv
          exact pmr v l hv
        · rw [List.getElem?_append_right h] at hv
          have ev : v = i := by
            have := (List.getElem?_eq_some_iff.mp hv).1
            simp only [List.length_cons, List.length_nil] at this
            omega
          subst ev
          rw [lrot, Nat.sub_self] at hv
          have e9 : zs = l := by simpa using hv
          exact e9 ▸ pm
    · rintro σ' H2 ⟨⟨x3, x4, x5, rfl⟩, hP2, g2, ys, rot, hys, prs, lrot, pmr⟩
      walk_at "z"
      refine r_tupL (.inl (.inl hys)) fun t ht => ?_
      have s3 : Same H2 (upd H2 t (.tup ys)) := same_new ht
      exact q (.ref t) rot _ (hP2.mono s3) (g2.trans (.of_same s3)) ⟨t, ys, rfl, upd_same, frTs_fk (.of_same s3) prs⟩ (by omega) pmr
end

set_option Elab.async false
set_option linter.all false
set_option maxRecDepth 100000
set_option maxHeartbeats 4000000
open PySem PySem.Spec PyProof.Rows L2
/-! # the arrows of a graph and a rotation of it -/
def NbE (ps : List (Int × Int)) (a b : Int) : Prop := (a, b) ∈ ps ∨ (b, a) ∈ ps
theorem NbE.symm {ps : List (Int × Int)} (a b : Int) (h : NbE ps a b) : NbE ps b a := h.elim .inr .inl
abbrev arrL (ps : List (Int × Int)) : List (Int × Int) := ps ++ ps.map fun p => (p.2, p.1)
theorem mem_arrL {ps : List (Int × Int)} (p : Int × Int) : p ∈ arrL ps ↔ NbE ps p.1 p.2 := by
  unfold arrL NbE
  rw [List.mem_append, List.mem_map]
  constructor
  · rintro (h | ⟨q, h, rfl⟩)
    · exact .inl h
    · exact .inr h
  · rintro (h | h)
    · exact .inl h
    · exact .inr ⟨_, h, rfl⟩
theorem arrL_nodup {n : Int} {ps : List (Int × Int)} (g : GoodG n ps) : (arrL ps).Nodup := by
  have nd := asc_nodup g.asc
  refine List.nodup_append.mpr ⟨nd, List.pairwise_map.mpr (nd.imp fun {a b} h e => h (Prod.ext (congrArg Prod.snd e) (congrArg Prod.fst e))), fun a ha b hb e => ?_⟩
  · subst e
    obtain ⟨q, hq, e⟩ := List.mem_map.mp hb
    have h1 := g.inn _ ha
    have h2 := g.inn _ hq
    rw [← e] at h1
    dsimp only at h1
    omega
theorem rot_ok {n : Nat} {ps : List (Int × Int)} {rot : List (List Int)} (g : GoodG (n : Int) ps) (len : rot.length = n) (pm : ∀ (v : Nat) l, rot[v]? = some l → l.Perm (nbL ps (v : Int) n)) : RotOk (NbE ps) n rot := by
  refine ⟨len, fun l hl => ?_, fun v l hl u => ?_⟩
  · obtain ⟨v, hv, rfl⟩ := List.mem_iff_getElem.mp hl
    refine (pm v _ (List.getElem?_eq_getElem hv)).nodup_iff.mpr ?_
    unfold nbL
    refine List.Pairwise.filter _ ?_
    rw [List.pairwise_map]
    exact List.nodup_range.imp fun {i j} h e => h (by have e2 : (i : Int) = (j : Int) := e; omega)
  · rw [(pm v l hl).mem_iff]
    unfold nbL isE NbE
    rw [List.mem_filter, List.mem_map, Bool.or_eq_true, decide_eq_true_eq, decide_eq_true_eq]
    constructor
    · rintro ⟨_, h | h⟩
      · exact .inr h
      · exact .inl h
    · intro h
      have bd : 0 ≤ u ∧ u < (n : Int) := by
        rcases h with h | h
        · have := g.inn _ h
          dsimp only at this
          omega
        · have := g.inn _ h
          dsimp only at this
          omega
      exact ⟨⟨u.toNat, List.mem_range.mpr (by omega), by show ((u.toNat : Nat) : Int) = u; omega⟩, h.symm⟩
theorem arr_bd {n : Int} {ps : List (Int × Int)} (g : GoodG n ps) : ∀ p ∈ arrL ps, 0 ≤ p.2 ∧ p.2 < n := fun p hp => by
  rcases (mem_arrL p).mp hp with h | h
  · have := g.inn _ h
    dsimp only at this
    omega
  · have := g.inn _ h
    dsimp only at this
    omega
theorem arr_trn {n : Nat} {ps : List (Int × Int)} {rot : List (List Int)} (g : GoodG (n : Int) ps) (r : RotOk (NbE ps) n rot) : Trn (nxtR rot) (arrL ps) :=
  nxt_trn NbE.symm r (arrL_nodup g) mem_arrL (arr_bd g)
theorem arr_at {n : Nat} {ps : List (Int × Int)} {rot : List (List Int)} (g : GoodG (n : Int) ps) (r : RotOk (NbE ps) n rot) (n9 : n ≤ 900) : ∀ p ∈ arrL ps, 0 ≤ p.2 ∧ ∃ l, rot[p.2.toNat]? = some l ∧ p.1 ∈ l ∧ l.length ≤ 1000 := fun p hp => by
  have b := arr_bd g p hp
  obtain ⟨l, hl, _, nl, m⟩ := r.item b
  refine ⟨b.1, l, hl, (m p.1).mpr (NbE.symm _ _ ((mem_arrL p).mp hp)), ?_⟩
  have := nodup_le l (rgI (n : Int)) nl fun u hu => mem_rgI.mpr (by
    rcases (m u).mp hu with h | h
    · have := g.inn _ h
      dsimp only at this
      omega
    · have := g.inn _ h
      dsimp only at this
      omega)
  rw [rgI_len] at this
  omega

set_option Elab.async false
set_option linter.all false
set_option maxRecDepth 100000
set_option maxHeartbeats 4000000
open PySem PySem.Spec PyProof.Rows L2

abbrev s_law_faces : Stmt := topS 39
theorem sc_law_faces : FnScope ["graph", "rotation", "left", "found", "turn", "walk", "k", "item", "place", "arrow", "edge"] ["graph", "rotation"] (defScope s_law_faces) := ⟨rfl, rfl, rfl, by decide +kernel, rfl, by decide +kernel, by decide +kernel⟩

theorem atI_last {xs : List V} {x : V} : atI (xs ++ [x]) (-1) = some x := by
  unfold atI ixN
  rw [if_neg (by decide), if_pos (by rw [List.length_append]; simp only [List.length_cons, List.length_nil]; omega), Option.bind_some, List.length_append]
  rw [show ((-1 : Int) + ((xs.length + [x].length : Nat) : Int)).toNat = xs.length by simp only [List.length_cons, List.length_nil]; omega]
  rw [List.getElem?_append_right (Nat.le_refl _), Nat.sub_self]
  rfl
section
variable {P : Program} {w : World} {K : PySem.W.Frag} {mg : Str → Option Value} {base : Heap}
theorem r_brk {nx bk ct : L2.St → Hp → Prop} {σ : L2.St} {H : Hp} {Q : VK} (q : bk σ H) : tBreak ⟨nx, Q, bk, ct⟩ σ H := q
theorem r_ninLP {x : V} {p : Int × Int} {l : Addr} {xs : List V} {ps : List (Int × Int)} {H : Hp} {Q : VK} (hx : IsP H x p) (hl : SqL K H l xs) (hp : Prs H xs ps) (q : Q (.bl (!decide (p ∈ ps))) H) : rNotInD K x (.ref l) H Q := by
  refine ⟨pT p, ps.map pT, dp_pair hx, dp_list hl hp, shaped_of ?_ ?_, shaped_of ?_ ?_, ?_⟩
  · have := lay_pT [p]
    simpa [PyData.canLayAll0] using this
  · have := deep_pT [p]
    simp only [List.map_cons, List.map_nil, PyData.depthAll] at this
    omega
  · unfold PyData.canLay0
    exact lay_pT ps
  · have := deep_pT ps
    unfold PyData.depth
    omega
  · rw [pT_any]
    exact q
theorem r_ite1 {c : Prop} [Decidable c] {ta tb : TE} {σ : L2.St} {H : Hp} {Q : VK} (v : V) (yes : c → ∀ Q : VK, Q v H → ta σ H Q) (no : ¬ c → ∀ Q : VK, Q v H → tb σ H Q) (q : Q v H) : if decide c = true then ta σ H Q else tb σ H Q := r_ite (fun h => yes h Q q) (fun h => no h Q q)
theorem pT_shaped (p : Int × Int) : SeqAt.shaped (pT p) = true := shaped_of (by
  have := lay_pT [p]
  simpa [PyData.canLayAll0] using this) (by
  have := deep_pT [p]
  simp only [List.map_cons, List.map_nil, PyData.depthAll] at this
  omega)
theorem r_eqPP {H : Hp} {Q : VK} {x y : V} {p q : Int × Int} (hx : IsP H x p) (hy : IsP H y q) (c : Q (.bl (decide (p = q))) H) : rEqD K x y H Q :=
  ⟨pT p, pT q, dp_pair hx, dp_pair hy, pT_shaped p, pT_shaped q, by rw [pT_eqv]; exact c⟩
theorem ok_lfaces (T : Blt mg) (D : DefAt K mg "_law_faces" s_law_faces ["graph", "rotation"]) :
    FnOk P w K mg base CX0 1 D.f D.fd ["graph", "rotation"] spFaces := by
  refine D.F.ok sc_law_faces (fun vs H Q E h => ?_) (fun cdv A outer s H vs Q E hr h => ?_)
  · obtain ⟨g, r, n, ps, rot, rfl, _⟩ := h
    rfl
  · obtain ⟨g, r, n, ps, rot, rfl, hg0, hrt, tr0, bd0, l60, q⟩ := h
    have lps : (ps ++ ps.map fun p => (p.2, p.1)).length = 2 * ps.length := by
      rw [List.length_append, List.length_map]
      omega
    obtain ⟨ga, e, rfl, hg, xs0, he, hp⟩ := id hg0
    refine ⟨_, (pss_cons (ps_set (i := 2) sc_law_faces.nd rfl (Or.inl rfl) (pe_callB (cr_sortPrK (K := K) rfl) (by rfl) T.sorted (by decide +kernel) (pa_cons (pe_op op_cat (pe_callTy (call_listK (K := K) rfl) (by rfl) T.list (by decide +kernel) (pa_cons (pe_ix (ix_tupK (K := K) rfl) (pv 0) pe_int (fun _ _ => rfl)) pa_nil)) (pe_lc (own := [("edge", 10)]) (by rfl) sc_law_faces.nd (PI.tupK (K := K) rfl (pi_tup (pe_ix (ix_tupK (K := K) rfl) (pv 0) pe_int (fun _ _ => rfl)))) (blkOk_by (own := [("edge", 10)]) (N := ["graph", "rotation", "left", "found", "turn", "walk", "k", "item", "place", "arrow", "edge"]) (sc := (defScope s_law_faces)) (by decide +kernel)) (fun _ _ _ _ _ => (pg_name (i := 10) sc_law_faces.nd rfl (Or.inl rfl))) (fun _ _ _ _ _ => pts_nil) (fun _ _ _ _ _ => (pe_tup (pa_cons (pe_ix (ix_tupK (K := K) rfl) (pv 10) pe_int (fun _ _ => rfl)) (pa_cons (pe_ix (ix_tupK (K := K) rfl) (pv 10) pe_int (fun _ _ => rfl)) pa_nil)))))) pa_nil)))
      (pss_cons (ps_set (i := 3) sc_law_faces.nd rfl (Or.inl rfl) (pe_lst pa_nil))
      (pss_cons (ps_for PassesOwn.never (by rfl) (pi_range1 (by rfl) T.range (pa_cons (pe_op op_mul pe_int (pe_callB (call_lenK (K := K) rfl) (by rfl) T.len (by decide +kernel) (pa_cons (pe_ix (ix_tupK (K := K) rfl) (pv 0) pe_int (fun _ _ => rfl)) pa_nil))) pa_nil)) (pg_name (i := 4) sc_law_faces.nd rfl (Or.inl rfl))
        (pss_one (ps_if (pt_cmpR op_gt (pe_callB (call_lenK (K := K) rfl) (by rfl) T.len (by decide +kernel) (pa_cons (pv 2) pa_nil)) pe_int (nomark _))
          (pss_cons (ps_set (i := 5) sc_law_faces.nd rfl (Or.inr rfl) (pe_lst (pa_cons (pe_ix (ix_listK (K := K) rfl) (pv 2) pe_int (fun _ _ => rfl)) pa_nil)))
          (pss_cons (ps_for PassesOwn.never (by rfl) (pi_range1 (by rfl) T.range (pa_cons (pe_op op_mul pe_int (pe_callB (call_lenK (K := K) rfl) (by rfl) T.len (by decide +kernel) (pa_cons (pe_ix (ix_tupK (K := K) rfl) (pv 0) pe_int (fun _ _ => rfl)) pa_nil))) pa_nil)) (pg_name (i := 6) sc_law_faces.nd rfl (Or.inl rfl))
            (pss_cons (ps_set (i := 7) sc_law_faces.nd rfl (Or.inl rfl) (pe_ix (ix_tupK (K := K) rfl) (pv 1) (pe_ix (ix_tupK (K := K) rfl) (pe_ix (ix_listK (K := K) rfl) (pv 5) (pe_un un_neg pe_int) (fun _ _ => rfl)) pe_int (fun _ _ => rfl)) (fun _ _ => rfl)))
            (pss_cons (ps_set (i := 8) sc_law_faces.nd rfl (Or.inl rfl) (pe_op op_add (pe_bu PySem.F.plainAttrs_tuple PySem.F.slot_tuple_index PySem.F.type_tuple_index (mt_tupIdxK (K := K) rfl) (pv 7) (pa_cons (pe_ix (ix_tupK (K := K) rfl) (pe_ix (ix_listK (K := K) rfl) (pv 5) (pe_un un_neg pe_int) (fun _ _ => rfl)) pe_int (fun _ _ => rfl)) pa_nil)) pe_int))
            (pss_cons (ps_set (i := 9) sc_law_faces.nd rfl (Or.inl rfl) (pe_tup (pa_cons (pe_ix (ix_tupK (K := K) rfl) (pe_ix (ix_listK (K := K) rfl) (pv 5) (pe_un un_neg pe_int) (fun _ _ => rfl)) pe_int (fun _ _ => rfl)) (pa_cons (pe_ifExp (pt_cmpR op_lt (pv 8) (pe_callB (call_lenK (K := K) rfl) (by rfl) T.len (by decide +kernel) (pa_cons (pv 7) pa_nil)) (nomark _)) (pe_ix (ix_tupK (K := K) rfl) (pv 7) (pv 8) (fun _ _ => rfl)) (pe_ix (ix_tupK (K := K) rfl) (pv 7) pe_int (fun _ _ => rfl))) pa_nil))))
            (pss_cons (ps_if (pt_cmpR (op_eqDK (K := K) rfl hr.units) (pv 9) (pe_ix (ix_listK (K := K) rfl) (pv 5) pe_int (fun _ _ => rfl)) (nomark _))
              (pss_one ps_break)
              pss_nil)
            (pss_one (ps_expr (PE.bmK (K := K) rfl (pe_bm PySem.F.plainAttrs_list PySem.F.slot_list_append PySem.F.type_list_append mt_append (pv 5) (pa_cons (pv 9) pa_nil))))))))))
          (pss_cons (ps_setLc (i := 2) (own := [("arrow", 9)]) (by rfl) sc_law_faces.nd rfl rfl (sw_true rfl rfl rfl (by decide +kernel)) (PI.listK (K := K) rfl (pi_list (pv 2))) (blkOk_by (own := [("arrow", 9)]) (N := ["graph", "rotation", "left", "found", "turn", "walk", "k", "item", "place", "arrow", "edge"]) (sc := (defScope s_law_faces)) (by decide +kernel)) (fun _ _ _ _ _ => (pg_name (i := 9) sc_law_faces.nd rfl (Or.inl rfl))) (fun _ _ _ _ _ => (pts_one (pt_cmpR (op_notInDK (K := K) rfl (units65 hr)) (pv 9) (pv 5) (by rfl)))) (fun _ _ _ _ _ => (pv 9)))
          (pss_one (ps_expr (PE.bmK (K := K) rfl (pe_bm PySem.F.plainAttrs_list PySem.F.slot_list_append PySem.F.type_list_append mt_append (pv 3) (pa_cons (pe_callTy (call_tupleK (K := K) rfl) (by rfl) T.tuple (by decide +kernel) (pa_cons (pv 5) pa_nil)) pa_nil))))))))
          pss_nil)))
      (pss_one (ps_ret (pv 3)))))), ?_⟩
    refine r_at (σ := [some _, some _, none, none, none, none, none, none, none, none, none]) rfl ?_
    walk_at "z"
    refine r_listT (.inl (.inl he)) fun c hc => ?_
    have s1 : Same H (upd H c (.lst xs0)) := same_new hc
    have hc1 : (upd H c (.lst xs0)) c = some (.lst xs0) := upd_same
    have he1 := s1 _ _ he
    have hp1 := hp.tk (.of_same s1)
    have hg1 := s1 _ _ hg
    generalize upd H c (.lst xs0) = H1 at s1 hc1 he1 hp1 hg1 ⊢
    walk_at "z"
    refine r_it (.inl (.inl he1)) fun d hd => lcR_tup (xs := xs0) (fun i H' => Same H1 H' ∧ ∃ ys, H' d = some (.lst ys) ∧ Prs H' ys ((ps.take i).map fun p => (p.2, p.1))) (by walk_at "zw") ⟨same_new hd, [], upd_same, .nil⟩ (fun i H' _ ⟨s2, _⟩ => .inl (.inl (s2 _ _ he1))) ?_ ?_
    · rintro i y H' hy ⟨s2, ys, hys, pys⟩
      obtain ⟨p, hpi, t, rfl, ht⟩ := pd_get (hp1.tk (.of_same s2)) hy
      walk_at "z"
      refine ⟨rfl, ?_⟩
      walk_at "z"
      refine r_tupN sz2 fun t2 ht2 => ?_
      refine r_lce (by walk_at "zh") (small_lt (by rw [pys.length, List.length_map, List.length_take]; omega)) ⟨same_mut (s2.trans (same_new ht2)) hd, _, upd_same, ?_⟩
      rw [take_next hpi, List.map_append]
      exact prs_push hys pys ht2
    · rintro H2 ⟨s2, ys, hys, pys⟩
      rw [hp1.length, List.take_length] at pys
      have hc2 := s2 _ _ hc1
      have hp2 := hp1.tk (.of_same s2)
      walk_at "z"
      refine r_cat hc2 hys (by rw [hp2.length, pys.length, List.length_map]; omega) fun k hk => ?_
      have s3 : Same H2 (upd H2 k (.lst (xs0 ++ ys))) := same_new hk
      have hk3 : (upd H2 k (.lst (xs0 ++ ys))) k = some (.lst (xs0 ++ ys)) := upd_same
      have pk3 : Prs (upd H2 k (.lst (xs0 ++ ys))) (xs0 ++ ys) (ps ++ ps.map fun p => (p.2, p.1)) := Prs.tk (.new hk) (pd_append hp2 pys)
      generalize upd H2 k (.lst (xs0 ++ ys)) = H3 at s3 hk3 pk3 ⊢
      walk_at "z"
      refine ⟨k, _, ps ++ ps.map fun p => (p.2, p.1), rfl, .inl (.inl hk3), pk3, fun ws qs f pm hw pw hf => ?_⟩
      have s03 : Same H H3 := (s1.trans s2).trans s3
      have s4 : Same H3 (upd H3 f (.lst ws)) := same_new hf
      have hf4 : (upd H3 f (.lst ws)) f = some (.lst ws) := upd_same
      have hw4 := hw.tk (.of_same s4)
      have f0 : H f = none := s03.free hf
      generalize upd H3 f (.lst ws) = H4 at s4 hf4 hw4 ⊢
      have s04 := s03.trans s4
      have tr := tr0.perm pm
      have lq : qs.length = 2 * ps.length := pm.length_eq.trans lps
      have bd : ∀ p ∈ qs, 0 ≤ p.2 ∧ ∃ l, rot[p.2.toNat]? = some l ∧ p.1 ∈ l ∧ l.length ≤ 1000 := fun p hp => bd0 p (pm.mem_iff.mp hp)
      walk_at "z"
      refine r_lstN (by decide) fun F hF => ?_
      have s5 : Same H4 (upd H4 F (.lst [])) := same_new hF
      have hF5 : (upd H4 F (.lst [])) F = some (.lst []) := upd_same
      have F0 : H F = none := s04.free hF
      have hf5 := s5 _ _ hf4
      have nfF : f ≠ F := ne_of_none hf4 hF
      have hw5 := hw4.tk (.of_same s5)
      generalize upd H4 F (.lst []) = H5 at s5 hF5 hf5 hw5 ⊢
      have s05 := s04.trans s5
      have hg5 := s05 _ _ hg
      have he5 := s05 _ _ he
      walk_at "z"
      have lxs : xs0.length = ps.length := hp.length
      rw [lxs]
      refine r_rg1 (by omega) (forR_range (fun i σ' H' => ∃ (lf : Addr) (xs : List V) (lq : List (Int × Int)) (fs : List V) (ws : List (List (Int × Int))) (x4 x5 x6 x7 x8 x9 x10 : Option V), σ' = [some (.ref ga), some r, some (.ref lf), some (.ref F), x4, x5, x6, x7, x8, x9, x10] ∧ Same H H' ∧ H lf = none ∧ lf ≠ F ∧ H' lf = some (.lst xs) ∧ Prs H' xs lq ∧ H' F = some (.lst fs) ∧ Paired (TupP H') fs ws ∧ (∀ z ∈ lq, z ∈ qs) ∧ lq.length ≤ 2 * ps.length - i ∧ ws.length ≤ i ∧ ∀ ws', Wks (nxtR rot) lq ws' → Wks (nxtR rot) qs (ws ++ ws'))
        ⟨f, ws, qs, [], [], _, _, _, _, _, _, _, rfl, s05, f0, nfF, hf5, hw5, hF5, .nil, fun z h => h, by omega, Nat.le_refl 0, fun ws' h => h⟩ ?_ ?_)
      · rintro i σ' H6 hi ⟨lf, xs, lq', fs, ws', x4, x5, x6, x7, x8, x9, x10, rfl, s6, lf0, nlF, hlf6, plf, hF6, pfs, sub, ll, lw, tl⟩
        have lx := plf.length
        have hg6 := s6 _ _ hg
        have he6 := s6 _ _ he
        walk_at "z"
        refine r_ite (fun hpos => ?_) (fun hneg => ?_)
        rotate_left
        · walk_at "z"
          have e0 : lq' = [] := List.length_eq_zero_iff.mp (by omega)
          subst e0
          exact ⟨lf, xs, [], fs, ws', _, _, _, _, _, _, _, rfl, s6, lf0, nlF, hlf6, plf, hF6, pfs, sub, by simp, by omega, tl⟩
        · cases plf with
          | nil => exact absurd hpos (by simp)
          | @cons y0 a xr lr hy0 plr =>
            have am := sub a List.mem_cons_self
            obtain ⟨kk, ⟨k0, kB, ke⟩, kl⟩ := tr.least am
            walk_at "z"
            refine r_lstN sz1 fun wk hwk => ?_
            have s7 : Same H6 (upd H6 wk (.lst [y0])) := same_new hwk
            have hwk7 : (upd H6 wk (.lst [y0])) wk = some (.lst [y0]) := upd_same
            have wk0 : H wk = none := s6.free hwk
            have nlw : lf ≠ wk := ne_of_none hlf6 hwk
            have nFw : F ≠ wk := ne_of_none hF6 hwk
            generalize upd H6 wk (.lst [y0]) = H7 at s7 hwk7 ⊢
            have s07 := s6.trans s7
            have hg7 := s07 _ _ hg
            have he7 := s07 _ _ he
            have lxs : xs0.length = ps.length := hp.length
            walk_at "z"
            rw [lxs]
            refine r_rg1 (by omega) (forR_range (fun j σ' H' => ∃ (ys : List V) (yl : V) (x6 x7 x8 x9 x10 : Option V), σ' = [some (.ref ga), some r, some (.ref lf), some (.ref F), some (.int (0 + (i : Int))), some (.ref wk), x6, x7, x8, x9, x10] ∧ Same H H' ∧ TK H7 H' ∧ H' lf = some (.lst (y0 :: xr)) ∧ H' F = some (.lst fs) ∧ H' wk = some (.lst ys) ∧ Prs H' ys ((List.range (j + 1)).map fun m => itf (nxtR rot) m a) ∧ ys[0]? = some y0 ∧ atI ys (-1) = some yl ∧ IsP H' yl (itf (nxtR rot) j a) ∧ j + 1 ≤ kk)
              ⟨[y0], y0, _, _, _, _, _, rfl, s07, fun _ _ h => h, s7 _ _ hlf6, s7 _ _ hF6, hwk7, .cons (hy0.tk (.of_same s7)) .nil, rfl, atI_last (xs := []), hy0.tk (.of_same s7), k0⟩ ?_ ?_)
            · rintro j σ' H8 hj ⟨ys, yl, x6, x7, x8, x9, x10, rfl, s8, k8, hlf8, hF8, hwk8, pys, hy00, hyl, pyl, jk⟩
              obtain ⟨b0, l, hl, hu, l1⟩ := bd _ (tr.itf am j)
              have hnext : itf (nxtR rot) (j + 1) a = nxtR rot (itf (nxtR rot) j a) := rfl
              obtain ⟨ty, rfl, hty⟩ := id pyl
              generalize itf (nxtR rot) j a = cur at b0 l hl hu hnext hty
              have hmn : nxtR rot cur = (cur.2, sucL l cur.1) := by
                unfold nxtR
                rw [List.getD_eq_getElem?_getD, hl]
                rfl
              obtain ⟨u, v⟩ := cur
              dsimp only at b0 hl hu hmn hty
              obtain ⟨trr, xrs, rfl, htr, pxs⟩ := hrt.same s8
              obtain ⟨y, hy, ti, rfl, fti⟩ := pd_get2 pxs hl
              have hat : atI xrs v = some (.ref ti) := by
                have := atI_nat hy
                rwa [show ((v.toNat : Nat) : Int) = v by omega] at this
              have hti : SqT K H8 ti (l.map V.int) := by
                obtain ⟨o, ho, _⟩ := fti
                exact .inl (.inr ⟨o, ho⟩)
              have lp := List.length_pos_of_mem hu
              have lidx := List.idxOf_lt_length_of_mem hu
              walk_at "z"
              refine r_buT fti ?_
              walk_at "z"
              refine r_tidx hti hu ?_
              walk_at "z"
              refine r_ite1 (.int (sucL l u)) (fun hlt Q9 q9 => ?_) (fun hlt Q9 q9 => ?_) ?_
              · rw [List.length_map] at hlt
                have hx : atI (l.map V.int) (((l.idxOf u : Nat) : Int) + 1) = some (.int (sucL l u)) := by
                  refine atI_nat (j := l.idxOf u + 1) ?_
                  have hlt' : l.idxOf u + 1 < l.length := by omega
                  unfold sucL
                  rw [Nat.mod_eq_of_lt hlt', getD_at hlt', List.getElem?_map, List.getElem?_eq_getElem hlt']
                  rfl
                walk_at "z"
                exact q9
              · rw [List.length_map] at hlt
                have hx : atI (l.map V.int) 0 = some (.int (sucL l u)) := by
                  refine atI_nat (j := 0) ?_
                  have e9 : l.idxOf u + 1 = l.length := by omega
                  unfold sucL
                  rw [e9, Nat.mod_self, getD_at lp, List.getElem?_map, List.getElem?_eq_getElem lp]
                  rfl
                walk_at "z"
                exact q9
              · walk_at "z"
                refine r_tupN sz2 fun t ht => ?_
                have s9 : Same H8 (upd H8 t (.tup [.int v, .int (sucL l u)])) := same_new ht
                have pt9 : IsP (upd H8 t (.tup [.int v, .int (sucL l u)])) (.ref t) (itf (nxtR rot) (j + 1) a) := ⟨t, rfl, by
                  rw [hnext, hmn]
                  exact upd_same⟩
                have tw : wk ≠ t := ne_of_none hwk8 ht
                generalize upd H8 t (.tup [.int v, .int (sucL l u)]) = H9 at s9 pt9 ⊢
                have s09 := s8.trans s9
                have k9 := k8.trans (.of_same s9)
                have hlf9 := s9 _ _ hlf8
                have hF9 := s9 _ _ hF8
                have hwk9 := s9 _ _ hwk8
                have pys9 := Prs.tk (.of_same s9) pys
                have hy9 := hy0.tk ((TK.of_same s7).trans k9)
                have h00 : atI ys 0 = some y0 := atI_nat (j := 0) hy00
                have lys := pys.length
                rw [List.length_map, List.length_range] at lys
                walk_at "z"
                refine r_eqPP pt9 hy9 ?_
                by_cases cc : itf (nxtR rot) (j + 1) a = a
                · rw [decide_eq_true cc]
                  walk_at "z"
                  refine r_brk ?_
                  have ejk : j + 1 = kk := by
                    rcases Nat.lt_or_ge (j + 1) kk with h | h
                    · exact absurd cc (kl (j + 1) (by omega) h)
                    · omega
                  have ho : Orb (nxtR rot) a ((List.range (j + 1)).map fun m => itf (nxtR rot) m a) := ⟨j + 1, by omega, rfl, cc, fun m m0 m1 => kl m m0 (by omega)⟩
                  generalize (List.range (j + 1)).map (fun m => itf (nxtR rot) m a) = o at ho pys9
                  have plf9 : Prs H9 (y0 :: xr) (a :: lr) := .cons hy9 (Prs.tk ((TK.of_same s7).trans k9) plr)
                  walk_at "z"
                  refine r_il (.inl (.inl hlf9)) fun d hd => lcR_list (xs := y0 :: xr) (fun m H' => Same H9 H' ∧ ∃ zs, H' d = some (.lst zs) ∧ Prs H' zs (((a :: lr).take m).filter fun z => !decide (z ∈ o))) (by walk_at "zw") ⟨same_new hd, [], upd_same, .nil⟩ (fun i H' _ ⟨s2, _⟩ => .inl (.inl (s2 _ _ hlf9))) ?_ ?_
                  · rintro m y H10 hy ⟨s10, zs, hzs, pzs⟩
                    obtain ⟨b, hb, hyb⟩ := pd_get (Prs.tk (.of_same s10) plf9) hy
                    have il := (List.getElem?_eq_some_iff.mp hb).1
                    have ezs : ((a :: lr).take (m + 1)).filter (fun z => !decide (z ∈ o)) = ((a :: lr).take m).filter (fun z => !decide (z ∈ o)) ++ (if b ∈ o then [] else [b]) := by
                      rw [take_next hb, List.filter_append, List.filter_cons, List.filter_nil]
                      by_cases h : b ∈ o <;> simp [h]
                    have lzs := pzs.length
                    have lz2 := List.length_filter_le (fun z => !decide (z ∈ o)) ((a :: lr).take m)
                    rw [List.length_take] at lz2
                    have sl := Nat.min_le_right m (a :: lr).length
                    walk_at "z"
                    refine ⟨rfl, ?_⟩
                    walk_at "z"
                    refine r_ninLP hyb (.inl (.inl (s10 _ _ hwk9))) (Prs.tk (.of_same s10) pys9) ?_
                    walk_at "z"
                    refine r_iteN (fun no => ?_) (fun yes => ?_)
                    · walk_at "z"
                      have k10 : TK H10 (upd H10 d (.lst (zs ++ [y]))) := .lst hzs
                      refine r_lce hzs (small_lt (by omega)) ⟨same_mut s10 hd, _, upd_same, ?_⟩
                      rw [ezs, if_neg no]
                      exact (Prs.tk k10 pzs).snoc (hyb.tk k10)
                    · refine ⟨s10, zs, hzs, ?_⟩
                      rw [ezs, if_pos yes, List.append_nil]
                      exact pzs
                  · rintro H10 ⟨s10, zs, hzs, pzs⟩
                    rw [plf9.length, List.take_length] at pzs
                    have hF10 := s10 _ _ hF9
                    walk_at "z"
                    refine r_tupL (.inl (.inl (s10 _ _ hwk9))) fun tt htt => ?_
                    have s11 : Same H10 (upd H10 tt (.tup ys)) := same_new htt
                    have ptt : TupP (upd H10 tt (.tup ys)) (.ref tt) o := ⟨tt, ys, rfl, upd_same, Prs.tk ((TK.of_same s10).trans (.of_same s11)) pys9⟩
                    generalize upd H10 tt (.tup ys) = H11 at s11 ptt ⊢
                    have hF11 := s11 _ _ hF10
                    have s911 := s10.trans s11
                    have lfs := pfs.length
                    walk_at "z"
                    refine r_appT hF11 (small_lt (by omega)) ?_
                    have k12 : TK H11 (upd H11 F (.lst (fs ++ [.ref tt]))) := .lst hF11
                    have nFd : d ≠ F := fun e => by
                      rw [e] at hd
                      rw [hd] at hF9
                      cases hF9
                    have d0 : H d = none := s09.free hd
                    refine ⟨d, zs, _, fs ++ [.ref tt], ws' ++ [o], _, _, _, _, _, _, _, rfl, same_mut (s09.trans s911) F0, d0, nFd, (upd_ne nFd).trans (s11 _ _ hzs), Prs.tk ((TK.of_same s11).trans k12) pzs, upd_same, (tupPs_tk ((((TK.of_same s7).trans k9).trans (.of_same s911)).trans k12) pfs).snoc (ptt.tk k12), fun z hz => sub z (List.mem_filter.mp hz).1, ?_, by rw [List.length_append]; simp only [List.length_cons, List.length_nil]; omega, fun vs hv => ?_⟩
                    · have := List.length_filter_le (fun z => !decide (z ∈ o)) lr
                      rw [List.filter_cons, if_neg (by simp [ho.self])]
                      simp only [List.length_cons] at ll
                      omega
                    · rw [List.append_assoc]
                      refine tl _ (.cons ho (Eq.mp (congrArg (fun l => Wks (nxtR rot) l vs) (List.filter_congr fun z _ => ?_)) hv))
                      exact congrArg (! ·) (decide_eq_decide.mpr Iff.rfl)
                · rw [decide_eq_false cc]
                  walk_at "z"
                  refine r_appT hwk9 (small_lt (by omega)) ?_
                  have k10 : TK H9 (upd H9 wk (.lst (ys ++ [.ref t]))) := .lst hwk9
                  refine ⟨ys ++ [.ref t], .ref t, _, _, _, _, _, rfl, same_mut s09 wk0, k9.trans k10, (upd_ne nlw).trans hlf9, (upd_ne nFw).trans hF9, upd_same, ?_, ?_, atI_last, pt9.tk k10, ?_⟩
                  · rw [List.range_succ, List.map_append]
                    exact (Prs.tk k10 pys9).snoc (pt9.tk k10)
                  · rw [List.getElem?_append_left (by omega)]
                    exact hy00
                  · rcases Nat.lt_or_ge (j + 1) kk with h | h
                    · exact h
                    · exact absurd (by rw [show j + 1 = kk by omega]; exact ke) cc
            · rintro σ' H8 ⟨ys, yl, x6, x7, x8, x9, x10, rfl, s8, k8, hlf8, hF8, hwk8, pys, hy00, hyl, pyl, jk⟩
              exact absurd jk (by omega)
      · rintro σ' H6 ⟨lf, xs, lq', fs, ws', x4, x5, x6, x7, x8, x9, x10, rfl, s6, lf0, nlF, hlf6, plf, hF6, pfs, sub, ll, lw, tl⟩
        walk_at "z"
        have e0 : lq' = [] := List.length_eq_zero_iff.mp (by omega)
        subst e0
        have wk := tl [] .nil
        rw [List.append_nil] at wk
        exact q F fs qs ws' H6 F0 s6 hF6 pfs pm pw wk
end

set_option Elab.async false
set_option linter.all false
set_option maxRecDepth 100000
set_option maxHeartbeats 4000000
open PySem PySem.Spec PySem.W PyProof.Rows L2
/-! # sorted lists of pairs, and of such lists -/
section
variable {K : PySem.W.Frag}
theorem rd_same {H H' : Hp} (s : Same H H') {a : Addr} {o : HO} (h : Rd H a o) : Rd H' a o := h.elim (fun h => .inl (s _ _ h)) fun ⟨b, h⟩ => .inr ⟨b, s _ _ h⟩
theorem sqL_same {H H' : Hp} (s : Same H H') {a : Addr} {xs : List V} (h : SqL K H a xs) : SqL K H' a xs := h.elim (fun h => .inl (rd_same s h)) .inr
theorem sqT_same {H H' : Hp} (s : Same H H') {a : Addr} {xs : List V} (h : SqT K H a xs) : SqT K H' a xs := h.elim (fun h => .inl (rd_same s h)) .inr
mutual
theorem dp_same {H H' : Hp} (s : Same H H') : ∀ (d : PyData) (v : V), Dp K H v d → Dp K H' v d
  | .none, _, h => by cases h; exact .non
  | .bool b, _, h => by cases h; exact .bl b
  | .int i, _, h => by cases h; exact .int i
  | .str x, _, h => by cases h; exact .str x
  | .list ds, _, h => by
    cases h with
    | lst hs ha => exact .lst (sqL_same s hs) (dps_same s ds _ ha)
  | .tuple ds, _, h => by
    cases h with
    | tup hs ha => exact .tup (sqT_same s hs) (dps_same s ds _ ha)
  | .dict _, _, h => by cases h
theorem dps_same {H H' : Hp} (s : Same H H') : ∀ (ds : List PyData) (vs : List V), DpAll K H vs ds → DpAll K H' vs ds
  | [], _, h => by cases h; exact .nil
  | d :: ds, _, h => by
    cases h with
    | cons h1 h2 => exact .cons (dp_same s d _ h1) (dps_same s ds _ h2)
end
theorem toks_pT (p : Int × Int) : keyToks (pT p) = [.inl 1, .inl p.1, .inl 1, .inl p.2, .inl 0] := by
  simp [pT, keyToks, keyToksAll]
theorem toksL_inj : ∀ {ps qs : List (Int × Int)}, keyToksAll (ps.map pT) = keyToksAll (qs.map pT) → ps = qs
  | [], [], _ => rfl
  | [], q :: qs, h => by
    rw [List.map_cons, toks_all_cons, List.map_nil, keyToksAll] at h
    have := (List.cons.inj h).1
    cases this
  | p :: ps, [], h => by
    rw [List.map_cons, toks_all_cons, List.map_nil, keyToksAll] at h
    have := (List.cons.inj h).1
    cases this
  | p :: ps, q :: qs, h => by
    rw [List.map_cons, List.map_cons, toks_all_cons, toks_all_cons, toks_pT, toks_pT] at h
    simp only [List.cons_append, List.nil_append, List.cons.injEq, true_and, Sum.inl.injEq] at h
    obtain ⟨h1, h2, h3⟩ := h
    rw [toksL_inj h3, Prod.ext h1 h2]
def enL (l : List (Int × Int)) : PyData := .list (l.map pT)
theorem enL_inj {l m : List (Int × Int)} (h : keyToks (enL l) = keyToks (enL m)) : l = m := by
  unfold enL at h
  simp only [keyToks] at h
  exact toksL_inj h
theorem pT_inj {p q : Int × Int} (h : keyToks (pT p) = keyToks (pT q)) : p = q := by
  rw [toks_pT, toks_pT] at h
  simp only [List.cons.injEq, true_and, and_true, Sum.inl.injEq] at h
  exact Prod.ext h.1 h.2
theorem told_pT (ps : List (Int × Int)) : Told (ps.map pT) := fun d hd e he h => by
  obtain ⟨p, _, rfl⟩ := List.mem_map.mp hd
  obtain ⟨q, _, rfl⟩ := List.mem_map.mp he
  rw [pT_inj h]
theorem told_enL (ls : List (List (Int × Int))) : Told (ls.map enL) := fun d hd e he h => by
  obtain ⟨p, _, rfl⟩ := List.mem_map.mp hd
  obtain ⟨q, _, rfl⟩ := List.mem_map.mp he
  rw [enL_inj h]
theorem alike_pT (p q : Int × Int) : alike (pT p) (pT q) = true := by simp [pT, alike, alikeAll]
theorem alike_pTs : ∀ ps qs : List (Int × Int), alikeAll (ps.map pT) (qs.map pT) = true
  | [], _ => by simp [alikeAll]
  | _ :: _, [] => by simp [alikeAll]
  | p :: ps, q :: qs => by
    rw [List.map_cons, List.map_cons, alikeAll, alike_pT, alike_pTs ps qs]
    rfl
theorem alike_enL (l m : List (Int × Int)) : alike (enL l) (enL m) = true := by
  unfold enL
  rw [alike]
  exact alike_pTs l m
theorem al_pT (ps : List (Int × Int)) : AllAlike (ps.map pT) := AllAlike.of alike_pT
theorem al_enL (ls : List (List (Int × Int))) : AllAlike (ls.map enL) := AllAlike.of alike_enL
theorem so_pT (ps : List (Int × Int)) : Sortable (ps.map pT) := Sortable.tuples fun p => ⟨_, _, rfl⟩
theorem so_enL (ls : List (List (Int × Int))) : Sortable (ls.map enL) := Sortable.others fun l => ⟨by unfold enL; simp, fun xs => by unfold enL; simp⟩
theorem deep_enL : ∀ ls : List (List (Int × Int)), PyData.depthAll (ls.map enL) ≤ 2
  | [] => by simp [PyData.depthAll]
  | l :: ls => by
    have h1 := deep_enL ls
    have h2 := deep_pT l
    have h3 : (enL l).depth = PyData.depthAll (l.map pT) + 1 := by simp [enL, PyData.depth]
    rw [List.map_cons]
    simp only [PyData.depthAll]
    omega
/-- so is l, sorted -/
def IsS (l so : List (Int × Int)) : Prop := so.Perm l ∧ (so.map pT).Pairwise (fun d e => dataLt e d = false)
theorem IsS.uniq {l m s t : List (Int × Int)} (p : l.Perm m) (h : IsS l s) (k : IsS m t) : s = t := by
  have := sortedD_uniq ((h.1.trans (p.trans k.1.symm)).map pT) (told_pT s) h.2 k.2
  have e : ∀ {a b : List (Int × Int)}, a.map pT = b.map pT → a = b := fun h => toksL_inj (by rw [h])
  exact e this
theorem zip_all {α β : Type} {f : α → β} : ∀ {ys : List α} {es : List β}, ys.length = es.length → (∀ z ∈ ys.zip es, z.2 = f z.1) → es = ys.map f
  | [], [], _, _ => rfl
  | [], _ :: _, h, _ => by simp at h
  | _ :: _, [], h, _ => by simp at h
  | y :: ys, e :: es, h, k => by
    rw [List.map_cons, ← zip_all (by simpa using h) fun z hz => k z (by rw [List.zip_cons_cons]; exact List.mem_cons_of_mem _ hz)]
    have e1 : e = f y := k (y, e) (by rw [List.zip_cons_cons]; exact List.mem_cons_self)
    rw [e1]
theorem zip_prs {H : Hp} : ∀ {xs : List V} {ps : List (Int × Int)}, Prs H xs ps → ∀ z ∈ xs.zip (ps.map pT), z.2 = pT (kP H z.1)
  | _, _, .nil, z, h => by simp at h
  | _, _, .cons a t, z, h => by
    rw [List.map_cons, List.zip_cons_cons] at h
    rcases List.mem_cons.mp h with rfl | h
    · rw [a.k]
    · exact zip_prs t z h
theorem sort_prs {H : Hp} {xs ys : List V} {ps : List (Int × Int)} {es : List PyData} (hp : Prs H xs ps) (z : (ys.zip es).Perm (xs.zip (ps.map pT))) (l : ys.length = es.length) (pm : ys.Perm xs) (pw : es.Pairwise (fun d e => dataLt e d = false)) : Prs H ys (ys.map (kP H)) ∧ IsS ps (ys.map (kP H)) := by
  have at_ : ∀ y ∈ ys, IsP H y (kP H y) := fun y hy => by
    obtain ⟨p, _, f⟩ := pd_mem hp (pm.mem_iff.mp hy)
    rw [f.k]
    exact f
  have e := zip_all (f := fun v => pT (kP H v)) l fun w hw => zip_prs hp w (z.mem_iff.mp hw)
  refine ⟨prs_of_k at_, ?_, ?_⟩
  · rw [← prs_k hp]
    exact pm.map _
  · rw [List.map_map]
    have e2 : (pT ∘ kP H) = fun v => pT (kP H v) := rfl
    rw [e2, ← e]
    exact pw
theorem r_sortPD {a : Addr} {xs : List V} {ps : List (Int × Int)} {H : Hp} {Q : VK} (h : SqL K H a xs) (hp : Prs H xs ps) (q : ∀ ys qs p, Prs H ys qs → IsS ps qs → H p = none → Q (.ref p) (upd H p (.lst ys))) : rSortD K [.ref a] H Q :=
  ⟨a, xs, ps.map pT, rfl, h, dp_prs hp, al_pT ps, so_pT ps, by have := deep_pT ps; omega, fun ys es p z l pm _ _ pw hn => by
    obtain ⟨h1, h2⟩ := sort_prs hp z l pm pw
    exact q ys _ p h1 h2 hn⟩
theorem r_sortPDT {a : Addr} {xs : List V} {ps : List (Int × Int)} {H : Hp} {Q : VK} (h : SqT K H a xs) (hp : Prs H xs ps) (q : ∀ ys qs p, Prs H ys qs → IsS ps qs → H p = none → Q (.ref p) (upd H p (.lst ys))) : rSortDT K [.ref a] H Q :=
  ⟨a, xs, ps.map pT, rfl, h, dp_prs hp, al_pT ps, so_pT ps, by have := deep_pT ps; omega, fun ys es p z l pm _ _ pw hn => by
    obtain ⟨h1, h2⟩ := sort_prs hp z l pm pw
    exact q ys _ p h1 h2 hn⟩
/-- lists of pairs, none of them at F -/
def LsP (F : Addr) (H : Hp) (y : V) (so : List (Int × Int)) : Prop := ∃ t zs, t ≠ F ∧ y = V.ref t ∧ H t = some (.lst zs) ∧ Prs H zs so
theorem lsPs_gr {F : Addr} {H H' : Hp} (g : Gr F H H') (k : TK H H') {ys : List V} {ss : List (List (Int × Int))} (h : Paired (LsP F H) ys ss) : Paired (LsP F H') ys ss := by
  induction h with
  | nil => exact .nil
  | cons a t ih =>
    obtain ⟨t, zs, n, e, h1, h2⟩ := a
    exact .cons ⟨t, zs, n, e, g _ _ n h1, Prs.tk k h2⟩ ih
theorem lsPs_dp {F : Addr} {H : Hp} : ∀ {ys : List V} {ss : List (List (Int × Int))}, Paired (LsP F H) ys ss → DpAll K H ys (ss.map enL)
  | _, _, .nil => .nil
  | _, _, .cons (l₁ := ys) ⟨t, zs, n, e, h1, h2⟩ r => by
    subst e
    exact .cons (dp_list (.inl (.inl h1)) h2) (lsPs_dp r)
theorem r_sortLD {F a : Addr} {xs : List V} {ss : List (List (Int × Int))} {H : Hp} {Q : VK} (h : SqL K H a xs) (hp : Paired (LsP F H) xs ss) (q : ∀ ys es p, DpAll K H ys es → es.Perm (ss.map enL) → es.Pairwise (fun d e => dataLt e d = false) → H p = none → Q (.ref p) (upd H p (.lst ys))) : rSortD K [.ref a] H Q :=
  ⟨a, xs, ss.map enL, rfl, h, lsPs_dp hp, al_enL ss, so_enL ss, by have := deep_enL ss; omega, fun ys es p z l pm pe d pw hn => q ys es p d pe pw hn⟩
end
/-! ## the walks the other way around are the mirror's -/
theorem map_rr (rot : List (List Int)) : (rot.map List.reverse).map List.reverse = rot := by
  rw [List.map_map]
  have : (List.reverse ∘ List.reverse : List Int → List Int) = id := funext fun l => List.reverse_reverse l
  rw [this, List.map_id]
theorem sw_inj {x y : Int × Int} (h : swP x = swP y) : x = y := Prod.ext (congrArg Prod.snd h) (congrArg Prod.fst h)
theorem sw_sw (x : Int × Int) : swP (swP x) = x := rfl
section
variable {n : Nat} {ps : List (Int × Int)} {rot : List (List Int)}
theorem sw_arr {x : Int × Int} (h : x ∈ arrL ps) : swP x ∈ arrL ps := (mem_arrL _).mpr (NbE.symm _ _ ((mem_arrL _).mp h))
/-- the walks of the mirror are the walks turned -/
theorem walks_rev (g : GoodG (n : Int) ps) (r : RotOk (NbE ps) n rot) {A B : List (Int × Int)} (pA : A.Perm (arrL ps)) (pB : B.Perm (arrL ps)) {ws vs : List (List (Int × Int))} (h : Wks (nxtR rot) A ws) (k : Wks (nxtR (rot.map List.reverse)) B vs) {o : List (Int × Int)} (ho : o ∈ ws) : ∃ p ∈ vs, p.Perm (o.map swP) := by
  have tA := (arr_trn g r).perm pA
  have tB := (arr_trn g r.rev).perm pB
  have c : ∀ x ∈ A, nxtR (rot.map List.reverse) (swP (nxtR rot x)) = swP x := fun x hx => nxt_rev NbE.symm r mem_arrL (arr_bd g) x (pA.mem_iff.mp hx)
  obtain ⟨p, hp, m⟩ := wks_rev tA tB c (fun x y => sw_inj) (fun x hx => pB.mem_iff.mpr (sw_arr (pA.mem_iff.mp hx))) h k ho
  refine ⟨p, hp, ?_⟩
  obtain ⟨a, ha, hoa⟩ := h.ok.1 o ho
  obtain ⟨b, hb, hpb⟩ := k.ok.1 p hp
  have n1 := hoa.nodup tA ha
  have n2 := hpb.nodup tB hb
  refine (List.perm_ext_iff_of_nodup n2 (List.pairwise_map.mpr (n1.imp fun {x y} h e => h (sw_inj e)))).mpr fun z => ?_
  rw [m, List.mem_map]
  constructor
  · rintro ⟨y, h1, h2⟩
    exact ⟨y, h1, h2.symm⟩
  · rintro ⟨y, h1, h2⟩
    exact ⟨y, h1, h2.symm⟩
theorem walks_back (g : GoodG (n : Int) ps) (r : RotOk (NbE ps) n rot) {A B : List (Int × Int)} (pA : A.Perm (arrL ps)) (pB : B.Perm (arrL ps)) {ws vs : List (List (Int × Int))} (h : Wks (nxtR rot) A ws) (k : Wks (nxtR (rot.map List.reverse)) B vs) {p : List (Int × Int)} (hp : p ∈ vs) : ∃ o ∈ ws, p.Perm (o.map swP) := by
  have h' : Wks (nxtR ((rot.map List.reverse).map List.reverse)) A ws := by
    rw [map_rr]
    exact h
  obtain ⟨o, ho, m⟩ := walks_rev g r.rev pB pA k h' hp
  refine ⟨o, ho, ?_⟩
  have := (m.map swP).symm
  rw [List.map_map] at this
  have e : (swP ∘ swP) = id := funext sw_sw
  rwa [e, List.map_id] at this
/-- the sorted walks are the same, in some order -/
theorem sets_perm (g : GoodG (n : Int) ps) (r : RotOk (NbE ps) n rot) {A B : List (Int × Int)} (pA : A.Perm (arrL ps)) (pB : B.Perm (arrL ps)) {ws vs : List (List (Int × Int))} (h : Wks (nxtR rot) A ws) (k : Wks (nxtR (rot.map List.reverse)) B vs)
    {ss tt : List (List (Int × Int))} (hs : Paired (fun o so => IsS (o.map swP) so) ws ss) (ht : Paired IsS vs tt) : tt.Perm ss := by
  have tA := (arr_trn g r).perm pA
  have tB := (arr_trn g r.rev).perm pB
  have nd : ∀ {f : (Int × Int) → (Int × Int)} {A : List (Int × Int)} {ws ss : List (List (Int × Int))} {u : (Int × Int) → (Int × Int)}, (∀ x y, u x = u y → x = y) → Wks f A ws → Trn f A → Paired (fun o so => IsS (o.map u) so) ws ss → ss.Nodup := fun {f A ws ss u} ui h t hs => by
    have dj := h.dj t (fun z h => h)
    have ne : ∀ o ∈ ws, o ≠ [] := fun o ho e => by
      obtain ⟨a, ha, hoa⟩ := h.ok.1 o ho
      have := hoa.self
      rw [e] at this
      exact List.not_mem_nil this
    clear h
    induction hs with
    | nil => exact .nil
    | @cons o so ws ss a t ih =>
      have d := List.pairwise_cons.mp dj
      refine List.pairwise_cons.mpr ⟨fun s hs e => ?_, ih d.2 fun o ho => ne o (List.mem_cons_of_mem _ ho)⟩
      subst e
      obtain ⟨z, hz⟩ := List.exists_mem_of_ne_nil o (ne o List.mem_cons_self)
      have m1 : u z ∈ so := a.1.mem_iff.mpr (List.mem_map.mpr ⟨z, hz, rfl⟩)
      obtain ⟨j, hj⟩ := List.mem_iff_getElem?.mp hs
      obtain ⟨o', ho', k'⟩ := pd_get2 t hj
      obtain ⟨z', hz', e'⟩ := List.mem_map.mp (k'.1.mem_iff.mp m1)
      have := ui _ _ e'
      subst this
      exact d.1 o' (List.mem_of_getElem? ho') z' hz hz'
  have nS := nd (fun x y => sw_inj) h tA hs
  have ht' : Paired (fun o so => IsS (o.map id) so) vs tt := by
    have e : (fun (o so : List (Int × Int)) => IsS (o.map id) so) = IsS := funext fun o => by rw [List.map_id]
    rw [e]
    exact ht
  have nT := nd (fun x y h => h) k tB ht'
  refine (List.perm_ext_iff_of_nodup nT nS).mpr fun s => ?_
  constructor
  · intro hm
    obtain ⟨j, hj⟩ := List.mem_iff_getElem?.mp hm
    obtain ⟨p, hp, e⟩ := pd_get2 ht hj
    obtain ⟨o, ho, pm⟩ := walks_back g r pA pB h k (List.mem_of_getElem? hp)
    obtain ⟨i, hi⟩ := List.mem_iff_getElem?.mp ho
    obtain ⟨so, hso, e2⟩ := pd_get hs hi
    rw [IsS.uniq pm e e2]
    exact List.mem_of_getElem? hso
  · intro hm
    obtain ⟨j, hj⟩ := List.mem_iff_getElem?.mp hm
    obtain ⟨o, ho, e⟩ := pd_get2 hs hj
    obtain ⟨p, hp, pm⟩ := walks_rev g r pA pB h k (List.mem_of_getElem? ho)
    obtain ⟨i, hi⟩ := List.mem_iff_getElem?.mp hp
    obtain ⟨so, hso, e2⟩ := pd_get ht hi
    rw [← IsS.uniq pm e2 e]
    exact List.mem_of_getElem? hso
end

set_option Elab.async false
set_option linter.all false
set_option maxRecDepth 100000
set_option maxHeartbeats 4000000
open PySem PySem.Spec PyProof.Rows L2

section
variable {P : Program} {w : World} {K : PySem.W.Frag} {mg : Str → Option Value} {base : Heap}
def spGraphO : Sp := fun vs H Q _ => ∃ (a s : Addr) (most : Int), vs = [.ref a, .int most] ∧ Pool H a s ∧ 1 ≤ most ∧ most ≤ 60 ∧ ∀ n : Int, 1 ≤ n → n ≤ most → GenQ a s H n Q
/-- pairs of vertices below n -/
def Bd2 (n : Int) (ps : List (Int × Int)) : Prop := ∀ p ∈ ps, 0 ≤ p.1 ∧ p.1 < n ∧ 0 ≤ p.2 ∧ p.2 < n
theorem ok_graphO (T : Blt mg) (D : DefAt K mg "_law_graph" s_law_graph ["pool", "most"]) (D_law_draw : DefAt K mg "_law_draw" s_law_draw ["pool", "many"]) (G_law_draw : FnOk P w K mg base CX0 2 D_law_draw.f D_law_draw.fd ["pool", "many"] spDraw)
    (D_law_pairs : DefAt K mg "_law_pairs" s_law_pairs ["n"]) (G_law_pairs : FnOk P w K mg base CX0 1 D_law_pairs.f D_law_pairs.fd ["n"] spPairs)
    (D_law_sorted_graph : DefAt K mg "_law_sorted_graph" s_law_sorted_graph ["n", "edges"]) (G_law_sorted_graph : FnOk P w K mg base CX0 2 D_law_sorted_graph.f D_law_sorted_graph.fd ["n", "edges"] (spSorted K)) :
    FnOk P w K mg base CX0 3 D.f D.fd ["pool", "most"] spGraphO := by
  refine D.F.ok sc_law_graph (fun vs H Q E h => ?_) (fun cdv A outer s H vs Q E hr h => ?_)
  · obtain ⟨a, s, most, rfl, _⟩ := h
    rfl
  · obtain ⟨a, s0, most, rfl, hP, m1, m2, q⟩ := h
    refine ⟨_, (pss_cons (ps_set (i := 2) sc_law_graph.nd rfl (Or.inl rfl) (pe_op op_add pe_int (pe_call G_law_draw (hr.mono (by first | decide | omega)) (by rfl) D_law_draw.g D_law_draw.F.kp D_law_draw.b .nil pass0 (pa_cons (pv 0) (pa_cons (pv 1) pa_nil)))))
      (pss_cons (ps_set (i := 3) sc_law_graph.nd rfl (Or.inl rfl) (pe_call G_law_draw (hr.mono (by first | decide | omega)) (by rfl) D_law_draw.g D_law_draw.F.kp D_law_draw.b .nil pass0 (pa_cons (pv 0) (pa_cons pe_int pa_nil))))
      (pss_cons (ps_if (pt_cmpR op_lt (pv 3) pe_int (nomark _))
        (pss_cons (ps_set (i := 4) sc_law_graph.nd rfl (Or.inr rfl) (pe_ix (ix_tupK (K := K) rfl) (pe_tup (pa_cons pe_int (pa_cons pe_int (pa_cons pe_int pa_nil)))) (pv 3) (fun _ _ => rfl)))
        (pss_one (ps_ret (pe_tup (pa_cons (pv 2) (pa_cons (pe_callTy (call_tupleK (K := K) rfl) (by rfl) T.tuple (by decide +kernel) (pa_cons (pe_lc (own := [("pair", 12)]) (by rfl) sc_law_graph.nd (PI.listK (K := K) rfl (pi_list (pe_call G_law_pairs (hr.mono (by first | decide | omega)) (by rfl) D_law_pairs.g D_law_pairs.F.kp D_law_pairs.b .nil pass0 (pa_cons (pv 2) pa_nil)))) (blkOk_by (own := [("pair", 12)]) (N := ["pool", "most", "n", "turn", "dense", "edges", "v", "many", "k", "places", "names", "edge", "pair"]) (sc := (defScope s_law_graph)) (by decide +kernel)) (fun _ _ _ _ _ => (pg_name (i := 12) sc_law_graph.nd rfl (Or.inl rfl))) (fun _ _ _ _ _ => (pts_one (pt_cmpR op_lt (pe_call G_law_draw (hr.mono (by first | decide | omega)) (by rfl) D_law_draw.g D_law_draw.F.kp D_law_draw.b .nil pass0 (pa_cons (pv 0) (pa_cons pe_int pa_nil))) (pv 4) (nomark _)))) (fun _ _ _ _ _ => (pv 12))) pa_nil)) pa_nil))))))
        pss_nil)
      (pss_cons (ps_set (i := 5) sc_law_graph.nd rfl (Or.inl rfl) (pe_lst pa_nil))
      (pss_cons (ps_for PassesOwn.never (by rfl) (pi_range2 (by rfl) T.range (pa_cons pe_int (pa_cons (pv 2) pa_nil))) (pg_name (i := 6) sc_law_graph.nd rfl (Or.inl rfl))
        (pss_cons (ps_set (i := 7) sc_law_graph.nd rfl (Or.inl rfl) (pe_ix (ix_tupK (K := K) rfl) (pe_tup (pa_cons pe_int (pa_cons pe_int (pa_cons pe_int pa_nil)))) (pe_op op_sub (pv 3) pe_int) (fun _ _ => rfl)))
        (pss_one (ps_for PassesOwn.never (by rfl) (pi_range1 (by rfl) T.range (pa_cons (pv 7) pa_nil)) (pg_name (i := 8) sc_law_graph.nd rfl (Or.inl rfl))
          (pss_one (ps_expr (PE.bmK (K := K) rfl (pe_bm PySem.F.plainAttrs_list PySem.F.slot_list_append PySem.F.type_list_append mt_append (pv 5) (pa_cons (pe_tup (pa_cons (pe_call G_law_draw (hr.mono (by first | decide | omega)) (by rfl) D_law_draw.g D_law_draw.F.kp D_law_draw.b .nil pass0 (pa_cons (pv 0) (pa_cons (pv 6) pa_nil))) (pa_cons (pv 6) pa_nil))) pa_nil)))))))))
      (pss_cons (ps_if (PW.pt (pw_and (pt_cmpR op_eq (pe_call G_law_draw (hr.mono (by first | decide | omega)) (by rfl) D_law_draw.g D_law_draw.F.kp D_law_draw.b .nil pass0 (pa_cons (pv 0) (pa_cons pe_int pa_nil))) pe_int (nomark _)) (pw_and1 (pt_cmpR op_gt (pe_callB (call_lenK (K := K) rfl) (by rfl) T.len (by decide +kernel) (pa_cons (pv 5) pa_nil)) pe_int (nomark _)))))
        (pss_one (ps_expr (PE.bmK (K := K) rfl (pe_bm PySem.F.plainAttrs_list PySem.F.slot_list_pop PySem.F.type_list_pop mt_popAt (pv 5) (pa_cons (pe_call G_law_draw (hr.mono (by first | decide | omega)) (by rfl) D_law_draw.g D_law_draw.F.kp D_law_draw.b .nil pass0 (pa_cons (pv 0) (pa_cons (pe_callB (call_lenK (K := K) rfl) (by rfl) T.len (by decide +kernel) (pa_cons (pv 5) pa_nil)) pa_nil))) pa_nil)))))
        pss_nil)
      (pss_cons (ps_set (i := 9) sc_law_graph.nd rfl (Or.inr rfl) (pe_listRg rfl (by rfl) T.list (prg_1 (by rfl) T.range (pv 2))))
      (pss_cons (ps_set (i := 10) sc_law_graph.nd rfl (Or.inr rfl) (pe_lc (own := [("v", 6)]) (by rfl) sc_law_graph.nd (pi_range1 (by rfl) T.range (pa_cons (pv 2) pa_nil)) (blkOk_by (own := [("v", 6)]) (N := ["pool", "most", "n", "turn", "dense", "edges", "v", "many", "k", "places", "names", "edge", "pair"]) (sc := (defScope s_law_graph)) (by decide +kernel)) (fun _ _ _ _ _ => (pg_name (i := 6) sc_law_graph.nd rfl (Or.inl rfl))) (fun _ _ _ _ _ => pts_nil) (fun _ _ _ _ _ => (PE.bmK (K := K) rfl (pe_bm PySem.F.plainAttrs_list PySem.F.slot_list_pop PySem.F.type_list_pop mt_popAt (pv 9) (pa_cons (pe_call G_law_draw (hr.mono (by first | decide | omega)) (by rfl) D_law_draw.g D_law_draw.F.kp D_law_draw.b .nil pass0 (pa_cons (pv 0) (pa_cons (pe_callB (call_lenK (K := K) rfl) (by rfl) T.len (by decide +kernel) (pa_cons (pv 9) pa_nil)) pa_nil))) pa_nil))))))
      (pss_one (ps_ret (pe_call G_law_sorted_graph (hr.mono (by first | decide | omega)) (by rfl) D_law_sorted_graph.g D_law_sorted_graph.F.kp D_law_sorted_graph.b .nil pass0 (pa_cons (pv 2) (pa_cons (pe_lc (own := [("edge", 11)]) (by rfl) sc_law_graph.nd (PI.listK (K := K) rfl (pi_list (pv 5))) (blkOk_by (own := [("edge", 11)]) (N := ["pool", "most", "n", "turn", "dense", "edges", "v", "many", "k", "places", "names", "edge", "pair"]) (sc := (defScope s_law_graph)) (by decide +kernel)) (fun _ _ _ _ _ => (pg_name (i := 11) sc_law_graph.nd rfl (Or.inl rfl))) (fun _ _ _ _ _ => pts_nil) (fun _ _ _ _ _ => (pe_tup (pa_cons (pe_ix (ix_listK (K := K) rfl) (pv 10) (pe_ix (ix_tupK (K := K) rfl) (pv 11) pe_int (fun _ _ => rfl)) (fun _ _ => rfl)) (pa_cons (pe_ix (ix_listK (K := K) rfl) (pv 10) (pe_ix (ix_tupK (K := K) rfl) (pv 11) pe_int (fun _ _ => rfl)) (fun _ _ => rfl)) pa_nil))))) pa_nil))))))))))))), ?_⟩
    refine r_at (σ := [some _, some _, none, none, none, none, none, none, none, none, none, none, none]) rfl ?_
    walk_at "z"
    refine ⟨a, s0, most, rfl, hP, by omega, by omega, fun r H1 r0 r1 hP1 g1 => ?_⟩
    walk_at "z"
    obtain ⟨n, hn⟩ : ∃ n : Nat, 1 + r = (n : Int) := ⟨(1 + r).toNat, by omega⟩
    rw [hn]
    have n1 : 1 ≤ n := by omega
    have n2 : n ≤ 60 := by omega
    have fin := q (n : Int) (by omega) (by omega)
    refine ⟨a, s0, 6, rfl, hP1, by omega, by omega, fun tn H2 t0 t1 hP2 g2 => ?_⟩
    walk_at "z"
    refine r_ite (fun h0 => ?_) (fun h0 => ?_)
    · walk_at "z"
      refine r_tupN sz3 fun t ht => ?_
      walk_at "z"
      refine r_pick3 upd_same t0 h0 fun m hm => ?_
      walk_at "z"
      have hP3 := hP2.mono (same_new (o := .tup [.int 2, .int 4, .int 6]) ht)
      have g3 : Gr a H (upd H2 t (.tup [.int 2, .int 4, .int 6])) := (g1.trans g2).trans (.new ht)
      generalize upd H2 t (.tup [.int 2, .int 4, .int 6]) = H3 at hP3 g3 ⊢
      refine ⟨n, rfl, by omega, fun f xs H4 hf s4 hx hp => ?_⟩
      have hP4 := hP3.mono s4
      have g5 : Gr a H H4 := g3.trans (.of_same s4)
      refine r_il (.inl (.inl hx)) fun d hd => lcR_list (xs := xs) (fun i H' => Pool H' a s0 ∧ Gr a H4 H' ∧ ∃ ys c, H' d = some (.lst ys) ∧ Prs H' ys (((allP n).take i).filter c)) (by walk_at "zw") ⟨hP4.mono (same_new hd), .new hd, [], fun _ => true, upd_same, .nil⟩ (fun i H' _ ⟨_, g, _⟩ => .inl (.inl (g _ _ (new_ne hP3 hf).1 hx))) ?_ ?_
      · rintro i x H' hx2 ⟨hP', g, ys, c, hy, hys⟩
        obtain ⟨p, hpi, hxp⟩ := pd_get (hp.tk (g.tk hP4)) hx2
        walk_at "z"
        refine ⟨rfl, ?_⟩
        walk_at "z"
        refine ⟨a, s0, 8, rfl, hP', by omega, by omega, fun r4 H5 _ _ hP5 g6 => ?_⟩
        have hy5 := g6 _ _ (new_ne hP4 hd).1 hy
        have kk := g6.tk hP'
        walk_at "z"
        refine r_ite (fun h => ?_) (fun h => ?_)
        · walk_at "z"
          obtain ⟨c', e⟩ := flt_next hpi c true
          refine r_lce hy5 (small_lt ?_) ⟨hP5.upd (new_ne hP4 hd), (g.trans g6).mut hd, _, c', upd_same, ?_⟩
          · have h1 := hys.length
            have h2 := List.length_filter_le c ((allP n).take i)
            have h3 := allP_small (n := n) (by omega)
            have h4 : ((allP n).take i).length ≤ (allP n).length := by
              rw [List.length_take]
              omega
            omega
          · rw [e, if_pos rfl]
            have k2 : TK H' (upd H5 d (.lst (ys ++ [x]))) := kk.trans (.lst hy5)
            exact (hys.tk k2).snoc (hxp.tk k2)
        · obtain ⟨c', e⟩ := flt_next hpi c false
          refine ⟨hP5, g.trans g6, ys, c', hy5, ?_⟩
          rw [e, if_neg Bool.false_ne_true, List.append_nil]
          exact hys.tk kk
      · rintro H' ⟨hP', g, ys, c, hy, hys⟩
        rw [hp.length, List.take_length] at hys
        walk_at "z"
        refine r_tupL (.inl (.inl hy)) fun e he => ?_
        walk_at "z"
        refine r_tupN sz2 fun t ht => ?_
        have s5 : Same H' (upd H' e (.tup ys)) := same_new he
        have s6 := s5.trans (same_new (o := .tup [.int (n : Int), .ref e]) ht)
        exact fin _ _ _ (hP'.mono s6) ((g5.trans g).trans (.of_same s6)) ⟨t, e, rfl, upd_same, ys, (upd_ne (ne_of_none upd_same ht)).trans upd_same, hys.tk (.of_same s6)⟩ (good_filter n1 c)
    · walk_at "z"
      refine r_lstN (by decide) fun f hf => ?_
      walk_at "z"
      have fa := new_ne hP2 hf
      have g12 : Gr a H H2 := g1.trans g2
      refine r_rg2 (by omega) (forR_range (fun i σ' H' => (∃ x6 x7 x8, σ' = [some (.ref a), some (.int most), some (.int (n : Int)), some (.int tn), none, some (.ref f), x6, x7, x8, none, none, none, none]) ∧ Pool H' a s0 ∧ Gr a H2 H' ∧ ∃ xs es, H' f = some (.lst xs) ∧ Prs H' xs es ∧ Bd2 n es ∧ es.length ≤ 3 * i) ⟨⟨_, _, _, rfl⟩, hP2.mono (same_new hf), .new hf, [], [], upd_same, .nil, (fun p hp => by cases hp), Nat.le_refl _⟩ ?_ ?_)
      · rintro i σ' H' hi ⟨⟨x6, x7, x8, rfl⟩, hP', g, xs, es, hx, hp, bd, hl⟩
        have hi : i < 60 := by omega
        walk_at "z"
        refine r_tupN sz3 fun t ht => ?_
        walk_at "z"
        refine r_pick3 upd_same (by omega) (by omega) fun m hm => ?_
        walk_at "z"
        have s3 := same_new (o := .tup [.int 1, .int 2, .int 3]) ht
        refine r_rg1 (by omega) (forR_range (fun j σ' H' => (∃ x8, σ' = [some (.ref a), some (.int most), some (.int (n : Int)), some (.int tn), none, some (.ref f), some (.int (1 + (i : Int))), some (.int m), x8, none, none, none, none]) ∧ Pool H' a s0 ∧ Gr a H2 H' ∧ ∃ xs es, H' f = some (.lst xs) ∧ Prs H' xs es ∧ Bd2 n es ∧ es.length ≤ 3 * i + j) ⟨⟨_, rfl⟩, hP'.mono s3, g.trans (.of_same s3), xs, es, s3 _ _ hx, hp.tk (.of_same s3), bd, hl⟩ ?_ ?_)
        · rintro j σ' H3 hj ⟨⟨x8, rfl⟩, hP3, g3, xs, es, hx, hp, bd, hl⟩
          walk_at "z"
          refine ⟨a, s0, _, rfl, hP3, by omega, by omega, fun c H4 c0 c1 hP4 g4 => ?_⟩
          have hx4 := g4 _ _ fa.1 hx
          walk_at "z"
          refine r_tupN sz2 fun t ht => ?_
          walk_at "z"
          refine r_appT (by walk_at "zh") (small_lt (by rw [hp.length]; omega)) ?_
          refine ⟨⟨_, rfl⟩, (hP4.mono (same_new ht)).upd fa, ((g3.trans g4).trans (.new ht)).mut hf, _, _, upd_same, prs_push hx4 (hp.tk (g4.tk hP3)) ht, fun p hp => ?_, by rw [List.length_append]; simp only [List.length_cons, List.length_nil]; omega⟩
          rcases List.mem_append.mp hp with z | z
          · exact bd p z
          · rw [List.mem_singleton.mp z]
            simp only
            omega
        · rintro σ' H3 ⟨⟨x8, rfl⟩, hP3, g3, xs, es, hx, hp, bd, hl⟩
          exact ⟨⟨_, _, _, rfl⟩, hP3, g3, xs, es, hx, hp, bd, by omega⟩
      · rintro σ' H' ⟨⟨x6, x7, x8, rfl⟩, hP', g, xs, es, hx, hp, bd, hl⟩
        have hl : es.length ≤ 180 := by omega
        let W : L2.St → Hp → Prop := fun σ' H' => (σ' = [some (.ref a), some (.int most), some (.int (n : Int)), some (.int tn), none, some (.ref f), x6, x7, x8, none, none, none, none]) ∧ Pool H' a s0 ∧ Gr a H2 H' ∧ ∃ xs es, H' f = some (.lst xs) ∧ Prs H' xs es ∧ Bd2 n es ∧ es.length ≤ 180
        refine r_seqW W ?tlA fun B hB => ?hdA
        case hdA =>
          walk_at "z"
          refine ⟨a, s0, 3, rfl, hP', by omega, by omega, fun c H4 c0 c1 hP4 g4 => ?_⟩
          have hx4 := g4 _ _ fa.1 hx
          have hp4 := hp.tk (g4.tk hP')
          have skp := hB _ _ ⟨rfl, hP4, g.trans g4, xs, es, hx4, hp4, bd, hl⟩
          walk_at "z"
          refine r_ite (fun h1 => ?_) (fun h1 => ?_)
          · walk_at "z"
            refine r_ite (fun h2 => ?_) (fun h2 => ?_)
            · walk_at "z"
              refine ⟨a, s0, _, rfl, hP4, by omega, by have := hp.length; omega, fun k H5 k0 k1 hP5 g5 => ?_⟩
              have hx5 := g5 _ _ fa.1 hx4
              have hp5 := hp4.tk (g5.tk hP4)
              walk_at "z"
              have hk : k.toNat < xs.length := by omega
              refine r_popAt hx5 (k := k.toNat) (y := xs[k.toNat]) (by omega) (by have := hp.length; omega) (List.getElem?_eq_getElem hk) ?_
              refine hB _ _ ⟨rfl, hP5.upd fa, ((g.trans g4).trans g5).mut hf, _, es.eraseIdx k.toNat, upd_same, Prs.tk (.lst hx5) (pd_erase k.toNat hp5), fun p hp => bd p (List.mem_of_mem_eraseIdx hp), ?_⟩
              have := List.length_eraseIdx_le es k.toNat
              omega
            · exact skp
          · exact skp
        case tlA =>
          rintro σ' H' ⟨rfl, hP', g, xs, es, hx, hp, bd, hl⟩
          walk_at "z"
          refine r_lRg (by omega) (by omega) fun l1 hl1 => ?_
          walk_at "z"
          have la := new_ne hP' hl1
          refine r_rg1 (by omega) fun d hd => lcR_range (fun i H3 => Pool H3 a s0 ∧ Gr a H' H3 ∧ ∃ ys zs : List Int, H3 l1 = some (.lst (ys.map V.int)) ∧ H3 d = some (.lst (zs.map V.int)) ∧ (ys ++ zs).Perm (rgI n) ∧ zs.length = i) (by walk_at "zw") ⟨(hP'.mono (same_new hl1)).mono (same_new hd), (Gr.new hl1).trans (.new hd), rgI n, [], (upd_ne (ne_of_none upd_same hd)).trans upd_same, upd_same, by rw [List.append_nil], rfl⟩ ?_ ?_
          · rintro i H3 hi ⟨hP3, g3, ys, zs, hy, hz, pm, hlz⟩
            have ld : l1 ≠ d := ne_of_none upd_same hd
            have dn : H' d = none := (same_new hl1).free hd
            have ly : ys.length + i = n := by
              have := pm.length_eq
              rw [List.length_append, rgI_len] at this
              omega
            have hi : i < n := by omega
            walk_at "z"
            refine ⟨rfl, ?_⟩
            walk_at "z"
            rw [List.length_map]
            refine ⟨a, s0, _, rfl, hP3, by omega, by omega, fun c H4 c0 c1 hP4 g4 => ?_⟩
            have hy4 := g4 _ _ la.1 hy
            have da := new_ne hP' dn
            have hz4 := g4 _ _ da.1 hz
            walk_at "z"
            have hc : c.toNat < ys.length := by omega
            have gx : ys[c.toNat]? = some ys[c.toNat] := List.getElem?_eq_getElem hc
            refine r_popAt hy4 (k := c.toNat) (y := V.int ys[c.toNat]) (by omega) (by omega) (by rw [List.getElem?_map, gx]; rfl) ?_
            rw [map_erase]
            refine r_lce ((upd_ne (Ne.symm ld)).trans hz4) (small_lt (by rw [List.length_map]; omega)) ⟨(hP4.upd la).upd da, ((g3.trans g4).mut hl1).mut dn, ys.eraseIdx c.toNat, zs ++ [ys[c.toNat]], ?_, ?_, ?_, ?_⟩
            · rw [upd_ne ld]
              exact upd_same
            · rw [List.map_append]
              exact upd_same
            · refine List.Perm.trans ?_ pm
              have p1 : (ys.eraseIdx c.toNat ++ (zs ++ [ys[c.toNat]])).Perm ([ys[c.toNat]] ++ (ys.eraseIdx c.toNat ++ zs)) := by
                rw [← List.append_assoc]
                exact List.perm_append_comm
              exact p1.trans ((get_erase_perm ys gx).append_right zs)
            · rw [List.length_append, hlz]
              rfl
          · rintro H3 ⟨hP3, g3, ys, zs, hy, hz, pm, hlz⟩
            have lz : zs.length = n := by omega
            have hx3 := g3 _ _ fa.1 hx
            have hp3 := hp.tk (g3.tk hP')
            walk_at "z"
            refine r_il (.inl (.inl hx3)) fun d2 hd2 => lcR_list (xs := xs) (fun i H' => Same H3 H' ∧ ∃ ys, H' d2 = some (.lst ys) ∧ Prs H' ys ((es.take i).map (ordP zs))) (by walk_at "zw") ⟨same_new hd2, [], upd_same, .nil⟩ (fun i H' _ ⟨s1, _⟩ => .inl (.inl (s1 _ _ hx3))) ?_ ?_
            · rintro i x H4 hxi ⟨s4, us, hu, hus⟩
              obtain ⟨p, hpi, hxp⟩ := pd_get (hp3.tk (.of_same s4)) hxi
              obtain ⟨t, rfl, ht⟩ := hxp
              obtain ⟨b1, b2, b3, b4⟩ := bd p (List.mem_of_getElem? hpi)
              have hz4 := s4 _ _ hz
              have hpl : i < es.length := (List.getElem?_eq_some_iff.mp hpi).1
              walk_at "z"
              refine ⟨rfl, ?_⟩
              walk_at "z"
              refine r_ixL (.inl (.inl hz4)) (at_ord b1 (by omega)) ?_
              walk_at "z"
              refine r_ixL (.inl (.inl hz4)) (at_ord b3 (by omega)) ?_
              walk_at "z"
              refine r_tupN sz2 fun t ht => ?_
              refine r_lce (by walk_at "zh") (small_lt ?_) ⟨same_mut (s4.trans (same_new ht)) hd2, _, upd_same, ?_⟩
              · rw [hus.length, List.length_map, List.length_take]
                omega
              · rw [take_next hpi, List.map_append]
                exact prs_push hu hus ht
            · rintro H4 ⟨s4, us, hu, hus⟩
              rw [hp3.length, List.take_length] at hus
              walk_at "z"
              refine ⟨n, d2, us, _, rfl, by omega, .inl (.inl hu), hus, fun v H5 s5 hv => ?_⟩
              exact fin v _ H5 ((hP3.mono s4).mono s5) (((g12.trans g).trans g3).trans (.of_same (s4.trans s5))) hv (good_filter n1 _)
end

set_option Elab.async false
set_option linter.all false
set_option maxRecDepth 100000
set_option maxHeartbeats 4000000
open PySem PySem.Spec PyProof.Rows L2

/-- the neighbours of v in the order of the edges -/
def adjL (ps : List (Int × Int)) (v : Nat) : List Int := ps.flatMap fun p => (if p.1 = (v : Int) then [p.2] else []) ++ (if p.2 = (v : Int) then [p.1] else [])
theorem adjL_next {ps : List (Int × Int)} {j v : Nat} {p : Int × Int} (h : ps[j]? = some p) : adjL (ps.take (j + 1)) v = adjL (ps.take j) v ++ ((if p.1 = (v : Int) then [p.2] else []) ++ (if p.2 = (v : Int) then [p.1] else [])) := by
  unfold adjL
  rw [take_next h, List.flatMap_append]
  simp
theorem adjL_len (ps : List (Int × Int)) (v : Nat) : (adjL ps v).length ≤ 2 * ps.length := by
  unfold adjL
  induction ps with
  | nil => simp
  | cons p ps ih =>
    rw [List.flatMap_cons, List.length_append, List.length_append, List.length_cons]
    have h1 : (if p.1 = (v : Int) then [p.2] else []).length ≤ 1 := by split <;> simp
    have h2 : (if p.2 = (v : Int) then [p.1] else []).length ≤ 1 := by split <;> simp
    omega
theorem mem_adjL {ps : List (Int × Int)} {v : Nat} {u : Int} : u ∈ adjL ps v ↔ ((v : Int), u) ∈ ps ∨ (u, (v : Int)) ∈ ps := by
  unfold adjL
  rw [List.mem_flatMap]
  constructor
  · rintro ⟨p, hp, h⟩
    rcases List.mem_append.mp h with h | h
    · split at h
      · rename_i c
        rw [List.mem_singleton.mp h, ← c]
        exact .inl hp
      · cases h
    · split at h
      · rename_i c
        rw [List.mem_singleton.mp h, ← c]
        exact .inr hp
      · cases h
  · rintro (h | h)
    · exact ⟨_, h, by simp⟩
    · exact ⟨_, h, by simp⟩
section
variable {P : Program} {w : World} {K : PySem.W.Frag} {mg : Str → Option Value} {base : Heap}
/-- a list of lists of neighbours -/
def spNLists : Sp := fun vs H Q _ => ∃ (g : V) (n : Nat) (ps : List (Int × Int)), vs = [g] ∧ GrAt H g (n : Int) ps ∧ n ≤ 100 ∧ ps.length ≤ 10000 ∧ (∀ p ∈ ps, 0 ≤ p.1 ∧ p.1 < p.2 ∧ p.2 < (n : Int)) ∧
  ∀ (l : Addr) (as : List Addr) (H' : Hp), Same H H' → H' l = some (.lst (as.map V.ref)) → as.length = n → (∀ i a, as[i]? = some a → H' a = some (.lst ((adjL ps i).map V.int))) → Q (.ref l) H'
/-- the bits of a list or tuple -/
def spMask (K : PySem.W.Frag) : Sp := fun vs H Q _ => ∃ (l : Addr) (ns : List Int), vs = [.ref l] ∧ (SqL K H l (ns.map V.int) ∨ SqT K H l (ns.map V.int)) ∧ (∀ v ∈ ns, 0 ≤ v ∧ v < 1000) ∧ ∀ x : Int, Msk x (fun i => i ∈ ns) → Q (.int x) H
def spNMasks : Sp := fun vs H Q _ => ∃ (g : V) (n : Nat) (ps : List (Int × Int)), vs = [g] ∧ GrAt H g (n : Int) ps ∧ n ≤ 100 ∧ ps.length ≤ 10000 ∧ (∀ p ∈ ps, 0 ≤ p.1 ∧ p.1 < p.2 ∧ p.2 < (n : Int)) ∧
  ∀ (l : Addr) (ms : List Int) (H' : Hp), Same H H' → H' l = some (.lst (ms.map V.int)) → ms.length = n → (∀ i m, ms[i]? = some m → Msk m (fun z => z ∈ adjL ps i)) → Q (.ref l) H'
end

set_option Elab.async false
set_option linter.all false
set_option maxRecDepth 100000
set_option maxHeartbeats 4000000
open PySem PySem.Spec PyProof.Rows L2

/-- a tuple of ints -/
def ITup (H : Hp) (x : V) (ns : List Int) : Prop := ∃ t, x = .ref t ∧ H t = some (.tup (ns.map V.int))
theorem ITup.tk {H H' : Hp} (k : TK H H') {x : V} {ns : List Int} (h : ITup H x ns) : ITup H' x ns := by
  obtain ⟨t, e, h⟩ := h
  exact ⟨t, e, k _ _ h⟩
abbrev ITups (H : Hp) : List V → List (List Int) → Prop := Paired (ITup H)
theorem ITups.tk {H H' : Hp} (k : TK H H') : ∀ {xs : List V} {ps : List (List Int)}, ITups H xs ps → ITups H' xs ps
  | _, _, .nil => .nil
  | _, _, .cons h t => .cons (h.tk k) (ITups.tk k t)
/-- two sets touch -/
def TouchP (ps : List (Int × Int)) (one two : List Int) : Prop := ∃ u ∈ one, ∃ v ∈ two, u = v ∨ nrm (u, v) ∈ ps
theorem nrm_comm (u v : Int) : nrm (u, v) = nrm (v, u) := by
  unfold nrm
  exact Prod.ext (by dsimp only; omega) (by dsimp only; omega)
theorem TouchP.symm {ps : List (Int × Int)} {one two : List Int} (h : TouchP ps one two) : TouchP ps two one := by
  obtain ⟨u, hu, v, hv, h⟩ := h
  refine ⟨v, hv, u, hu, ?_⟩
  rcases h with h | h
  · exact .inl h.symm
  · exact .inr (nrm_comm u v ▸ h)
theorem touch_comm {ps : List (Int × Int)} {one two : List Int} : TouchP ps one two ↔ TouchP ps two one := ⟨.symm, .symm⟩
theorem mem_adj_nrm {ps : List (Int × Int)} {n : Int} (inn : ∀ p ∈ ps, 0 ≤ p.1 ∧ p.1 < p.2 ∧ p.2 < n) {v : Nat} {u : Int} (ne : u ≠ (v : Int)) : u ∈ adjL ps v ↔ nrm (u, (v : Int)) ∈ ps := by
  rw [mem_adjL]
  unfold nrm
  dsimp only
  rcases Int.lt_or_gt_of_ne ne with c | c
  · rw [show min u (v : Int) = u by omega, show max u (v : Int) = v by omega]
    refine ⟨fun h => h.elim (fun h => ?_) id, .inr⟩
    have := inn _ h
    dsimp only at this
    omega
  · rw [show min u (v : Int) = v by omega, show max u (v : Int) = u by omega]
    refine ⟨fun h => h.elim id (fun h => ?_), .inl⟩
    have := inn _ h
    dsimp only at this
    omega
section
variable {P : Program} {w : World} {K : PySem.W.Frag} {mg : Str → Option Value} {base : Heap}
/-- the set of a mask, ascending -/
def spMem : Sp := fun vs H Q _ => ∃ (x : Int) (S : Int → Prop), vs = [.int x] ∧ Msk x S ∧ (∀ i : Nat, S i → i < 1000) ∧
  ∀ (p : Addr) (ns : List Int) (H' : Hp), Same H H' → H' p = some (.tup (ns.map V.int)) → H p = none → ns.Pairwise (· < ·) → (∀ z, z ∈ ns ↔ 0 ≤ z ∧ S z) → Q (.ref p) H'
theorem asc_len {n : Nat} {ns : List Int} (asc : ns.Pairwise (· < ·)) (h : ∀ v ∈ ns, 0 ≤ v ∧ v < (n : Int)) : ns.length ≤ n := by
  have nd : ns.Nodup := asc.imp fun {a b} h => by omega
  have := nodup_le ns (rgI (n : Int)) nd fun v hv => mem_rgI.mpr (h v hv)
  rw [rgI_len] at this
  omega
/-- the mask of the neighbours of a mask -/
def spNearM : Sp := fun vs H Q _ => ∃ (l : Addr) (x : Int) (ms : List Int) (S : Int → Prop) (A : Nat → List Int), vs = [.ref l, .int x] ∧ H l = some (.lst (ms.map V.int)) ∧ Msk x S ∧ (∀ i : Nat, S i → i < ms.length ∧ i < 1000) ∧
  (∀ i m, ms[i]? = some m → Msk m (fun z => z ∈ A i)) ∧ ∀ (y : Int) (H' : Hp), Same H H' → Msk y (fun i => ∃ v : Nat, S v ∧ i ∈ A v) → Q (.int y) H'
def spTouch (K : PySem.W.Frag) : Sp := fun vs H Q _ => ∃ (g : V) (n : Nat) (ps : List (Int × Int)) (a b : Addr) (one two : List Int), vs = [g, .ref a, .ref b] ∧ GrAt H g (n : Int) ps ∧ n ≤ 100 ∧ ps.length ≤ 10000 ∧ (∀ p ∈ ps, 0 ≤ p.1 ∧ p.1 < p.2 ∧ p.2 < (n : Int)) ∧
  SqT K H a (one.map V.int) ∧ SqT K H b (two.map V.int) ∧ (∀ v ∈ one, 0 ≤ v ∧ v < (n : Int)) ∧ (∀ v ∈ two, 0 ≤ v ∧ v < (n : Int)) ∧ ∀ (r : Bool) (H' : Hp), Same H H' → (r = true ↔ TouchP ps one two) → Q (.bl r) H'
def HitsP (ns : List Int) (oss : List (List Int)) : Prop := ∀ o ∈ oss, ∃ v ∈ ns, v ∈ o
def spHits (K : PySem.W.Frag) : Sp := fun vs H Q _ => ∃ (a b : Addr) (ns : List Int) (xs : List V) (oss : List (List Int)), vs = [.ref a, .ref b] ∧ SqT K H a (ns.map V.int) ∧ H b = some (.tup xs) ∧ ITups H xs oss ∧ oss.length ≤ 10000 ∧ (∀ v ∈ ns, 0 ≤ v ∧ v < 1000) ∧ (∀ o ∈ oss, ∀ v ∈ o, 0 ≤ v ∧ v < 1000) ∧
  ∀ (r : Bool) (H' : Hp), Same H H' → (r = true ↔ HitsP ns oss) → Q (.bl r) H'
end

set_option Elab.async false
set_option linter.all false
set_option maxRecDepth 100000
set_option maxHeartbeats 4000000
open PySem PySem.Spec PyProof.Rows L2

abbrev s_law : Stmt := topS 41
theorem sc_law : FnScope ["script", "pool", "graph", "rotation", "due", "turned", "other", "sets", "walk", "item", "arrow"] ["script"] (defScope s_law) := ⟨rfl, rfl, rfl, by decide +kernel, rfl, by decide +kernel, by decide +kernel⟩

section
variable {P : Program} {w : World} {K : PySem.W.Frag} {mg : Str → Option Value} {base : Heap}
theorem sm_faces {ws : List (List (Int × Int))} (h : ws.length ≤ 100000) (hc : ∀ c ∈ ws, c.length ≤ 100000) : sm 5 (.list (ws.map fun o => .tuple (o.map pT))) := by
  refine ⟨by rw [List.length_map]; exact h, fun x hx => ?_⟩
  obtain ⟨o, ho, rfl⟩ := List.mem_map.mp hx
  refine ⟨by rw [List.length_map]; exact hc o ho, fun y hy => ?_⟩
  obtain ⟨p, _, rfl⟩ := List.mem_map.mp hy
  exact sm_pT 1 p
theorem sm_rot {rot : List (List Int)} (h : rot.length ≤ 100000) (hc : ∀ c ∈ rot, c.length ≤ 100000) : sm 5 (.tuple (rot.map fun l => .tuple (l.map PyData.int))) := by
  refine ⟨by rw [List.length_map]; exact h, fun x hx => ?_⟩
  obtain ⟨o, ho, rfl⟩ := List.mem_map.mp hx
  refine ⟨by rw [List.length_map]; exact hc o ho, fun y hy => ?_⟩
  obtain ⟨p, _, rfl⟩ := List.mem_map.mp hy
  exact True.intro
theorem dp_faces {H : Hp} : ∀ {fs : List V} {ws : List (List (Int × Int))}, Paired (TupP H) fs ws → DpAll K H fs (ws.map fun o => .tuple (o.map pT))
  | _, _, .nil => .nil
  | _, _, .cons ⟨t, zs, e, h1, h2⟩ r => by
    subst e
    exact .cons (.tup (.inl (.inl h1)) (dp_prs h2)) (dp_faces r)
theorem dp_rot {H : Hp} : ∀ {xs : List V} {rot : List (List Int)}, Paired (fun x (l : List Int) => ∃ p, x = V.ref p ∧ FrT H p (l.map V.int)) xs rot → DpAll K H xs (rot.map fun l => .tuple (l.map PyData.int))
  | _, _, .nil => .nil
  | _, _, .cons ⟨t, e, o, h1, _⟩ r => by
    subst e
    exact .cons (.tup (.inl (.inr ⟨o, h1⟩)) (dps_int _)) (dp_rot r)
theorem dp_its9 {H : Hp} : ∀ {xs : List V} {ps : List (List Int)}, ITups H xs ps → DpAll K H xs (ps.map fun ns => .tuple (ns.map PyData.int))
  | _, _, .nil => .nil
  | _, _, .cons ⟨t, e, h⟩ r => by
    subst e
    exact .cons (.tup (.inl (.inl h)) (dps_int _)) (dp_its9 r)
theorem layAll_of : ∀ {ds : List PyData}, (∀ d ∈ ds, d.canLay0 = true) → PyData.canLayAll0 ds = true
  | [], _ => by simp [PyData.canLayAll0]
  | d :: ds, h => by
    rw [PyData.canLayAll0, h d List.mem_cons_self, layAll_of fun e he => h e (List.mem_cons_of_mem _ he)]
    rfl
theorem deepAll_of {k : Nat} : ∀ {ds : List PyData}, (∀ d ∈ ds, d.depth ≤ k) → PyData.depthAll ds ≤ k
  | [], _ => by simp [PyData.depthAll]
  | d :: ds, h => by
    have h1 := h d List.mem_cons_self
    have h2 := deepAll_of (ds := ds) fun e he => h e (List.mem_cons_of_mem _ he)
    simp only [PyData.depthAll]
    omega
theorem leP_uniq {a b : List (Int × Int)} (p : a.Perm b) (h1 : a.Pairwise leP) (h2 : b.Pairwise leP) : a = b := perm_sorted_eq p h1 h2 fun x _ y _ h k => by
  unfold leP at h k
  exact Prod.ext (by omega) (by omega)
theorem arr_len {n : Int} {ps : List (Int × Int)} (g : GoodG n ps) (n7 : n ≤ 7) : (arrL ps).length ≤ 60 := by
  have := nodup_le (arrL ps) ((List.range 7).flatMap fun (i : Nat) => (List.range 7).map fun (j : Nat) => ((i : Int), (j : Int))) (arrL_nodup g) fun p hp => by
    have b1 := arr_bd g p hp
    have b2 : 0 ≤ p.1 ∧ p.1 < n := by
      have := arr_bd g _ (sw_arr hp)
      exact this
    refine List.mem_flatMap.mpr ⟨p.1.toNat, List.mem_range.mpr (by omega), List.mem_map.mpr ⟨p.2.toNat, List.mem_range.mpr (by omega), ?_⟩⟩
    exact Prod.ext (by show ((p.1.toNat : Nat) : Int) = p.1; omega) (by show ((p.2.toNat : Nat) : Int) = p.2; omega)
  have e : ((List.range 7).flatMap fun (i : Nat) => (List.range 7).map fun (j : Nat) => ((i : Int), (j : Int))).length = 49 := by decide
  omega
theorem ws_len {α : Type} [DecidableEq α] {f : α → α} {A : List α} {ws : List (List α)} (h : Wks f A ws) (t : Trn f A) : ws.length ≤ A.length ∧ ∀ o ∈ ws, o.length ≤ A.length := by
  refine ⟨?_, fun o ho => ?_⟩
  · have gen : ∀ {l : List α} {ws : List (List α)}, Wks f l ws → ws.length ≤ l.length := fun h => by
      induction h with
      | nil => exact Nat.le_refl _
      | @cons a l o ws h t ih =>
        rw [List.filter_cons, if_neg (by simp [h.self])] at ih
        have := List.length_filter_le (fun z => !decide (z ∈ o)) l
        simp only [List.length_cons]
        omega
    exact gen h
  · obtain ⟨a, ha, hoa⟩ := h.ok.1 o ho
    exact nodup_le o A (hoa.nodup t ha) (hoa.sub t ha)
def spLaw (K : PySem.W.Frag) : Sp := fun vs H Q _ => ∃ (l : Addr) (ns : List Int), vs = [.ref l] ∧ SqL K H l (ns.map V.int) ∧ ∀ H', Q (.bl true) H'
theorem ok_law (T : Blt mg) (D : DefAt K mg "law" s_law ["script"])
    (D_law_pool : DefAt K mg "_law_pool" s_law_pool ["script"]) (G_law_pool : FnOk P w K mg base CX0 1 D_law_pool.f D_law_pool.fd ["script"] (spPool K))
    (D_law_graph : DefAt K mg "_law_graph" s_law_graph ["pool", "most"]) (G_law_graph : FnOk P w K mg base CX0 3 D_law_graph.f D_law_graph.fd ["pool", "most"] spGraphO)
    (D_law_some_rotation : DefAt K mg "_law_some_rotation" s_law_some_rotation ["pool", "graph"]) (G_law_some_rotation : FnOk P w K mg base CX0 3 D_law_some_rotation.f D_law_some_rotation.fd ["pool", "graph"] spRot)
    (D_law_faces : DefAt K mg "_law_faces" s_law_faces ["graph", "rotation"]) (G_law_faces : FnOk P w K mg base CX0 1 D_law_faces.f D_law_faces.fd ["graph", "rotation"] spFaces)
    (D_faces : DefAt K mg "faces" s_faces ["graph", "rotation"]) (G_faces : FnOk P w K mg base CX0 3 D_faces.f D_faces.fd ["graph", "rotation"] spFaces)
    (D_mirrored : DefAt K mg "mirrored" s_mirrored ["rotation"]) (G_mirrored : FnOk P w K mg base CX0 1 D_mirrored.f D_mirrored.fd ["rotation"] spMir)
    (D_law_same : DefAt K mg "_law_same" s_law_same ["actual", "due"]) (G_law_same : FnOk P w K mg base CX0 5 D_law_same.f D_law_same.fd ["actual", "due"] (spSame K 5)) :
    FnOk P w K mg base CX0 8 D.f D.fd ["script"] (spLaw K) := by
  refine D.F.ok sc_law (fun vs H Q E h => ?_) (fun cdv A outer s H vs Q E hr h => ?_)
  · obtain ⟨l, ns, rfl, _⟩ := h
    rfl
  · obtain ⟨l, ns, rfl, hl, q⟩ := h
    refine ⟨_, (pss_cons (ps_set (i := 1) sc_law.nd rfl (Or.inl rfl) (pe_call G_law_pool (hr.mono (by first | decide | omega)) (by rfl) D_law_pool.g D_law_pool.F.kp D_law_pool.b .nil pass0 (pa_cons (pv 0) pa_nil)))
      (pss_cons (ps_set (i := 2) sc_law.nd rfl (Or.inl rfl) (pe_call G_law_graph (hr.mono (by first | decide | omega)) (by rfl) D_law_graph.g D_law_graph.F.kp D_law_graph.b .nil pass0 (pa_cons (pv 1) (pa_cons pe_int pa_nil))))
      (pss_cons (ps_set (i := 3) sc_law.nd rfl (Or.inl rfl) (pe_call G_law_some_rotation (hr.mono (by first | decide | omega)) (by rfl) D_law_some_rotation.g D_law_some_rotation.F.kp D_law_some_rotation.b .nil pass0 (pa_cons (pv 1) (pa_cons (pv 2) pa_nil))))
      (pss_cons (ps_set (i := 4) sc_law.nd rfl (Or.inl rfl) (pe_call G_law_faces (hr.mono (by first | decide | omega)) (by rfl) D_law_faces.g D_law_faces.F.kp D_law_faces.b .nil pass0 (pa_cons (pv 2) (pa_cons (pv 3) pa_nil))))
      (pss_cons (ps_if (pt_not (pt_val (pe_call G_law_same (hr.mono (by first | decide | omega)) (by rfl) D_law_same.g D_law_same.F.kp D_law_same.b .nil pass0 (pa_cons (pe_call G_faces (hr.mono (by first | decide | omega)) (by rfl) D_faces.g D_faces.F.kp D_faces.b .nil pass0 (pa_cons (pv 2) (pa_cons (pv 3) pa_nil))) (pa_cons (pv 4) pa_nil)))))
        (pss_one (ps_ret pe_bl))
        pss_nil)
      (pss_cons (ps_set (i := 5) sc_law.nd rfl (Or.inl rfl) (pe_call G_mirrored (hr.mono (by first | decide | omega)) (by rfl) D_mirrored.g D_mirrored.F.kp D_mirrored.b .nil pass0 (pa_cons (pv 3) pa_nil)))
      (pss_cons (ps_if (pt_not (pt_val (pe_call G_law_same (hr.mono (by first | decide | omega)) (by rfl) D_law_same.g D_law_same.F.kp D_law_same.b .nil pass0 (pa_cons (pv 5) (pa_cons (pe_callTy (call_tupleK (K := K) rfl) (by rfl) T.tuple (by decide +kernel) (pa_cons (pe_lc (own := [("item", 9)]) (by rfl) sc_law.nd (PI.tupK (K := K) rfl (pi_tup (pv 3))) (blkOk_by (own := [("item", 9)]) (N := ["script", "pool", "graph", "rotation", "due", "turned", "other", "sets", "walk", "item", "arrow"]) (sc := (defScope s_law)) (by decide +kernel)) (fun _ _ _ _ _ => (pg_name (i := 9) sc_law.nd rfl (Or.inl rfl))) (fun _ _ _ _ _ => pts_nil) (fun _ _ _ _ _ => (pe_callTy (call_tupleK (K := K) rfl) (by rfl) T.tuple (by decide +kernel) (pa_cons (PE.revLK (K := K) rfl (pe_revL (pe_callTy (call_listK (K := K) rfl) (by rfl) T.list (by decide +kernel) (pa_cons (pv 9) pa_nil)))) pa_nil)))) pa_nil)) pa_nil)))))
        (pss_one (ps_ret pe_bl))
        pss_nil)
      (pss_cons (ps_set (i := 6) sc_law.nd rfl (Or.inl rfl) (pe_call G_faces (hr.mono (by first | decide | omega)) (by rfl) D_faces.g D_faces.F.kp D_faces.b .nil pass0 (pa_cons (pv 2) (pa_cons (pv 5) pa_nil))))
      (pss_cons (ps_set (i := 7) sc_law.nd rfl (Or.inl rfl) (pe_lst pa_nil))
      (pss_cons (ps_for PassesOwn.never (by rfl) (PI.listK (K := K) rfl (pi_list (pv 4))) (pg_name (i := 8) sc_law.nd rfl (Or.inl rfl))
        (pss_one (ps_expr (PE.bmK (K := K) rfl (pe_bm PySem.F.plainAttrs_list PySem.F.slot_list_append PySem.F.type_list_append mt_append (pv 7) (pa_cons (pe_callB (cr_sortDK (K := K) rfl hr.units) (by rfl) T.sorted (by decide +kernel) (pa_cons (pe_lc (own := [("arrow", 10)]) (by rfl) sc_law.nd (PI.tupK (K := K) rfl (pi_tup (pv 8))) (blkOk_by (own := [("arrow", 10)]) (N := ["script", "pool", "graph", "rotation", "due", "turned", "other", "sets", "walk", "item", "arrow"]) (sc := (defScope s_law)) (by decide +kernel)) (fun _ _ _ _ _ => (pg_name (i := 10) sc_law.nd rfl (Or.inl rfl))) (fun _ _ _ _ _ => pts_nil) (fun _ _ _ _ _ => (pe_tup (pa_cons (pe_ix (ix_tupK (K := K) rfl) (pv 10) pe_int (fun _ _ => rfl)) (pa_cons (pe_ix (ix_tupK (K := K) rfl) (pv 10) pe_int (fun _ _ => rfl)) pa_nil))))) pa_nil)) pa_nil))))))
      (pss_one (ps_ret (pe_cmpR (op_eqDK (K := K) rfl hr.units) (pe_callB (cr_sortDK (K := K) rfl hr.units) (by rfl) T.sorted (by decide +kernel) (pa_cons (pe_lc (own := [("walk", 8)]) (by rfl) sc_law.nd (PI.listK (K := K) rfl (pi_list (pv 6))) (blkOk_by (own := [("walk", 8)]) (N := ["script", "pool", "graph", "rotation", "due", "turned", "other", "sets", "walk", "item", "arrow"]) (sc := (defScope s_law)) (by decide +kernel)) (fun _ _ _ _ _ => (pg_name (i := 8) sc_law.nd rfl (Or.inl rfl))) (fun _ _ _ _ _ => pts_nil) (fun _ _ _ _ _ => (pe_callB (cr_sortDTK (K := K) rfl hr.units) (by rfl) T.sorted (by decide +kernel) (pa_cons (pv 8) pa_nil)))) pa_nil)) (pe_callB (cr_sortDK (K := K) rfl hr.units) (by rfl) T.sorted (by decide +kernel) (pa_cons (pv 7) pa_nil)) (nomark _)))))))))))))), ?_⟩
    refine r_at (σ := [some _, none, none, none, none, none, none, none, none, none, none]) rfl ?_
    walk_at "z"
    refine ⟨l, ns, rfl, hl, fun a s0 H1 ha s1 hP1 => ?_⟩
    walk_at "z"
    refine ⟨a, s0, 7, rfl, hP1, by omega, by omega, fun n1 n10 n11 g p1 H2 hP2 g2 hg1 gd1 => ?_⟩
    obtain ⟨n, rfl⟩ : ∃ n : Nat, n1 = (n : Int) := ⟨n1.toNat, by omega⟩
    walk_at "z"
    refine ⟨a, s0, g, n, p1, rfl, hP2, hg1, by omega, by omega, fun r rot H3 hP3 g3 hrt lrot pmr => ?_⟩
    have e1 : ((n : Int)).toNat = n := rfl
    rw [e1] at lrot pmr
    have ro := rot_ok gd1 lrot pmr
    have tr := arr_trn gd1 ro
    have l60 := arr_len gd1 n11
    have hg3 := hg1.tk (g3.tk hP2)
    walk_at "z"
    refine ⟨g, r, n, p1, rot, rfl, hg3, hrt, tr, arr_at gd1 ro (by omega), l60, fun F1 fs1 qs1 ws1 H4 hF10 s4 hF14 pf1 pm1 pw1 wk1 => ?_⟩
    walk_at "z"
    refine ⟨g, r, n, p1, rot, rfl, hg3.tk (.of_same s4), hrt.same s4, tr, arr_at gd1 ro (by omega), l60, fun F2 fs2 qs2 ws2 H5 hF20 s5 hF25 pf2 pm2 pw2 wk2 => ?_⟩
    have eq1 : qs2 = qs1 := leP_uniq (pm2.trans pm1.symm) pw2 pw1
    subst eq1
    have ew := wks_uniq wk2 wk1
    subst ew
    have tq := tr.perm pm2
    have lw := ws_len wk2 tq
    have lq : qs2.length ≤ 60 := by rw [pm2.length_eq]; exact l60
    walk_at "z"
    refine ⟨_, _, _, rfl, .lst (.inl (.inl hF25)) (dp_faces pf2), .lst (.inl (.inl (s5 _ _ hF14))) (dp_faces (tupPs_tk (.of_same s5) pf1)), sm_faces (by omega) (fun c hc => by have := lw.2 c hc; omega), ?_⟩
    walk_at "z"
    have s35 := s4.trans s5
    refine iteF ?_
    walk_at "z"
    refine ⟨r, rot, rfl, hrt.same s35, by omega, fun r' H6 s6 hrt6 => ?_⟩
    walk_at "z"
    have s36 := s35.trans s6
    have lrot' : rot.length ≤ 7 := by omega
    have lrl : ∀ c ∈ rot, c.length ≤ 1000 := fun c hc => by
      obtain ⟨v, hv, rfl⟩ := List.mem_iff_getElem.mp hc
      have p9 := pmr v _ (List.getElem?_eq_getElem hv)
      have := nbL_len p1 (v : Int) n
      rw [p9.length_eq]
      omega
    obtain ⟨trr, xrs, rfl, htr, pxs⟩ := id (hrt.same s36)
    walk_at "z"
    have lxr := pxs.length
    refine r_it (.inl (.inl htr)) fun d hd => lcR_tup (xs := xrs) (fun i H' => Same H6 H' ∧ ∃ ys, H' d = some (.lst ys) ∧ ITups H' ys ((rot.take i).map List.reverse)) (by walk_at "zw") ⟨same_new hd, [], upd_same, .nil⟩ (fun i H' _ ⟨s2, _⟩ => .inl (.inl (s2 _ _ htr))) ?_ ?_
    · rintro i y H' hy ⟨s2, ys, hys, pys⟩
      obtain ⟨lv, hlv, ti, rfl, fti⟩ := pd_get pxs hy
      have il := (List.getElem?_eq_some_iff.mp hlv).1
      have ft2 := fti.same s2
      have sq : SqT K H' ti (lv.map V.int) := by
        obtain ⟨o, ho, _⟩ := ft2
        exact .inl (.inr ⟨o, ho⟩)
      walk_at "z"
      refine ⟨rfl, ?_⟩
      walk_at "z"
      refine r_revL ?_
      walk_at "z"
      refine r_listT sq fun c hc => ?_
      refine r_revLN (.inl (.inl upd_same)) fun e he => ?_
      have sA : Same H' (upd H' c (.lst (lv.map V.int))) := same_new hc
      have sB : Same (upd H' c (.lst (lv.map V.int))) (upd (upd H' c (.lst (lv.map V.int))) e (.lst (lv.map V.int).reverse)) := same_new he
      have heB : (upd (upd H' c (.lst (lv.map V.int))) e (.lst (lv.map V.int).reverse)) e = some (.lst (lv.map V.int).reverse) := upd_same
      have sAB := sA.trans sB
      generalize upd (upd H' c (.lst (lv.map V.int))) e (.lst (lv.map V.int).reverse) = H7 at sAB heB ⊢
      walk_at "z"
      refine r_tupL (.inl (.inl heB)) fun t ht => ?_
      have sC : Same H7 (upd H7 t (.tup (lv.map V.int).reverse)) := same_new ht
      have pt : (upd H7 t (.tup (lv.map V.int).reverse)) t = some (.tup (lv.reverse.map V.int)) := by
        rw [List.map_reverse]
        exact upd_same
      generalize upd H7 t (.tup (lv.map V.int).reverse) = H8 at sC pt ⊢
      have sAC := sAB.trans sC
      have hys8 := sAC _ _ hys
      have lys := pys.length
      rw [List.length_map, List.length_take] at lys
      have k9 : TK H8 (upd H8 d (.lst (ys ++ [.ref t]))) := .lst hys8
      refine r_lce hys8 (small_lt (by omega)) ⟨same_mut (s2.trans sAC) hd, _, upd_same, ?_⟩
      rw [take_next hlv, List.map_append]
      exact (ITups.tk ((TK.of_same sAC).trans k9) pys).snoc ⟨t, rfl, k9 _ _ pt⟩
    · rintro H7 ⟨s7, ys, hys, pys⟩
      rw [lxr, List.take_length] at pys
      walk_at "z"
      refine r_tupL (.inl (.inl hys)) fun t ht => ?_
      have s8 : Same H7 (upd H7 t (.tup ys)) := same_new ht
      have ht8 : (upd H7 t (.tup ys)) t = some (.tup ys) := upd_same
      generalize upd H7 t (.tup ys) = H8 at s8 ht8 ⊢
      have s68 := s7.trans s8
      obtain ⟨tr2, xr2, rfl, htr2, pxr2⟩ := id (hrt6.same s68)
      walk_at "z"
      refine ⟨_, _, _, rfl, .tup (.inl (.inl htr2)) (dp_rot pxr2), .tup (.inl (.inl ht8)) (dp_its9 (ITups.tk (.of_same s8) pys)), sm_rot (by rw [List.length_map]; omega) (fun c hc => by
        obtain ⟨m, hm, rfl⟩ := List.mem_map.mp hc
        have := lrl m hm
        rw [List.length_reverse]
        omega), ?_⟩
      walk_at "z"
      refine iteF ?_
      walk_at "z"
      have s38 := s36.trans s68
      have ro2 := ro.rev
      refine ⟨g, _, n, p1, rot.map List.reverse, rfl, hg3.tk (.of_same s38), hrt6.same s68, arr_trn gd1 ro2, arr_at gd1 ro2 (by omega), l60, fun F3 fs3 qs3 ws3 H9 hF30 s9 hF39 pf3 pm3 pw3 wk3 => ?_⟩
      have s59 : Same H5 H9 := (s6.trans s68).trans s9
      have s49 : Same H4 H9 := s5.trans s59
      have lw3 := ws_len wk3 ((arr_trn gd1 ro2).perm pm3)
      have lq3 : qs3.length ≤ 60 := by rw [pm3.length_eq]; exact l60
      walk_at "z"
      refine r_lstN (by decide) fun F hF => ?_
      have s10 : Same H9 (upd H9 F (.lst [])) := same_new hF
      have hF10 : (upd H9 F (.lst [])) F = some (.lst []) := upd_same
      have F90 : H9 F = none := hF
      generalize upd H9 F (.lst []) = H10 at s10 hF10 ⊢
      have hF1a := s10 _ _ (s49 _ _ hF14)
      have pf1a := tupPs_tk (.of_same (s49.trans s10)) pf1
      have hF3a := s10 _ _ hF39
      have pf3a := tupPs_tk (.of_same s10) pf3
      have n1F : F1 ≠ F := ne_of_none (s49 _ _ hF14) F90
      have n3F : F3 ≠ F := ne_of_none hF39 F90
      have lf1 := pf1.length
      have lf3 := pf3.length
      walk_at "z"
      refine r_il (.inl (.inl hF1a)) (forR_list (xs := fs1) (fun i σ' H' => (∃ x8 x9 x10, σ' = [some (.ref l), some (.ref a), some g, some (.ref trr), some (.ref F1), some (.ref tr2), some (.ref F3), some (.ref F), x8, x9, x10]) ∧ Same H9 H' ∧ TK H10 H' ∧ ∃ (ys : List V) (ss : List (List (Int × Int))), H' F = some (.lst ys) ∧ Paired (LsP F H') ys ss ∧ Paired (fun o so => IsS (o.map swP) so) (ws2.take i) ss)
        ⟨⟨_, _, _, rfl⟩, s10, fun _ _ h => h, [], [], hF10, .nil, .nil⟩ (fun i σ' H' _ ⟨_, s, _⟩ => .inl (.inl (s _ _ (s49 _ _ hF14)))) ?_ ?_)
      · rintro i y σ' H11 hy ⟨⟨x8, x9, x10, rfl⟩, s11, k11, ys, ss, hys, pys, pss⟩
        obtain ⟨o, ho, ty, zs, rfl, hty, pzs⟩ := pd_get (tupPs_tk k11 pf1a) hy
        have lo : o.length ≤ 60 := by
          have := lw.2 o (List.mem_of_getElem? ho)
          omega
        have lzs := pzs.length
        walk_at "z"
        refine r_it (.inl (.inl hty)) fun c hc => lcR_tup (xs := zs) (fun j H' => Same H11 H' ∧ ∃ us, H' c = some (.lst us) ∧ Prs H' us ((o.take j).map fun p => (p.2, p.1))) (by walk_at "zw") ⟨same_new hc, [], upd_same, .nil⟩ (fun i H' _ ⟨s2, _⟩ => .inl (.inl (s2 _ _ hty))) ?_ ?_
        · rintro j u H' hu ⟨s2, us, hus, pus⟩
          obtain ⟨p, hpi, t, rfl, ht⟩ := pd_get (Prs.tk (.of_same s2) pzs) hu
          have lus := pus.length
          rw [List.length_map, List.length_take] at lus
          walk_at "z"
          refine ⟨rfl, ?_⟩
          walk_at "z"
          refine r_tupN sz2 fun t2 ht2 => ?_
          refine r_lce (by walk_at "zh") (small_lt (by omega)) ⟨same_mut (s2.trans (same_new ht2)) hc, _, upd_same, ?_⟩
          rw [take_next hpi, List.map_append]
          exact prs_push hus pus ht2
        · rintro H12 ⟨s12, us, hus, pus⟩
          rw [lzs, List.take_length] at pus
          walk_at "z"
          refine r_sortPD (.inl (.inl hus)) pus fun vs so p hv iso hp => ?_
          have s13 : Same H12 (upd H12 p (.lst vs)) := same_new hp
          have hp13 : (upd H12 p (.lst vs)) p = some (.lst vs) := upd_same
          have hv13 := Prs.tk (.of_same s13) hv
          generalize upd H12 p (.lst vs) = H13 at s13 hp13 hv13 ⊢
          have sAll := s12.trans s13
          have hys13 := sAll _ _ hys
          have npF : p ≠ F := (ne_of_none (s12 _ _ hys) hp).symm
          have lys := pys.length
          have lss := pss.length
          rw [List.length_take] at lss
          walk_at "z"
          refine r_appT hys13 (small_lt (by omega)) ?_
          have k14 : TK H13 (upd H13 F (.lst (ys ++ [.ref p]))) := .lst hys13
          refine ⟨⟨_, _, _, rfl⟩, same_mut (s11.trans sAll) F90, (k11.trans (.of_same sAll)).trans k14, ys ++ [.ref p], ss ++ [so], upd_same, (lsPs_gr (.trans (.of_same sAll) .self) ((TK.of_same sAll).trans k14) pys).snoc ⟨p, vs, npF, rfl, (upd_ne npF).trans hp13, Prs.tk k14 hv13⟩, ?_⟩
          rw [take_next ho]
          exact pss.snoc iso
      · rintro σ' H11 ⟨⟨x8, x9, x10, rfl⟩, s11, k11, ys, ss, hys, pys, pss⟩
        rw [lf1, List.take_length] at pss
        have hF3b := s11 _ _ hF39
        have pf3b := tupPs_tk k11 pf3a
        walk_at "z"
        refine r_il (.inl (.inl hF3b)) fun c hc => lcR_list (xs := fs3) (fun j H' => Same H11 H' ∧ ∃ us tt, H' c = some (.lst us) ∧ Paired (LsP c H') us tt ∧ Paired IsS (ws3.take j) tt) (by walk_at "zw") ⟨same_new hc, [], [], upd_same, .nil, .nil⟩ (fun i H' _ ⟨s2, _⟩ => .inl (.inl (s2 _ _ hF3b))) ?_ ?_
        · rintro j u H' hu ⟨s2, us, tt, hus, pus, ptt⟩
          obtain ⟨o, ho, ty, zs, rfl, hty, pzs⟩ := pd_get (tupPs_tk (.of_same s2) pf3b) hu
          have il := (List.getElem?_eq_some_iff.mp ho).1
          have lus := pus.length
          have ltt := ptt.length
          rw [List.length_take] at ltt
          walk_at "z"
          refine ⟨rfl, ?_⟩
          walk_at "z"
          refine r_sortPDT (.inl (.inl hty)) pzs fun vs so p hv iso hp => ?_
          have s13 : Same H' (upd H' p (.lst vs)) := same_new hp
          have hp13 : (upd H' p (.lst vs)) p = some (.lst vs) := upd_same
          have hv13 := Prs.tk (.of_same s13) hv
          have npc : p ≠ c := (ne_of_none hus hp).symm
          generalize upd H' p (.lst vs) = H13 at s13 hp13 hv13 ⊢
          have hus13 := s13 _ _ hus
          have k14 : TK H13 (upd H13 c (.lst (us ++ [.ref p]))) := .lst hus13
          refine r_lce hus13 (small_lt (by omega)) ⟨same_mut (s2.trans s13) hc, _, tt ++ [so], upd_same, (lsPs_gr (.trans (.of_same s13) .self) ((TK.of_same s13).trans k14) pus).snoc ⟨p, vs, npc, rfl, (upd_ne npc).trans hp13, Prs.tk k14 hv13⟩, ?_⟩
          rw [take_next ho]
          exact ptt.snoc iso
        · rintro H12 ⟨s12, us, tt, hus, pus, ptt⟩
          rw [lf3, List.take_length] at ptt
          have perm := sets_perm gd1 ro pm2 pm3 wk2 wk3 pss ptt
          walk_at "z"
          refine r_sortLD (.inl (.inl hus)) pus fun as es pa da pe pwe hpa => ?_
          have s13 : Same H12 (upd H12 pa (.lst as)) := same_new hpa
          have hpa13 : (upd H12 pa (.lst as)) pa = some (.lst as) := upd_same
          have da13 := dps_same s13 _ _ da
          have hys13 := s13 _ _ (s12 _ _ hys)
          have pys13 := lsPs_gr (.of_same (s12.trans s13)) (.of_same (s12.trans s13)) pys
          generalize upd H12 pa (.lst as) = H13 at s13 hpa13 da13 hys13 pys13 ⊢
          walk_at "z"
          refine r_sortLD (.inl (.inl hys13)) pys13 fun bs fs pb db pf pwf hpb => ?_
          have s14 : Same H13 (upd H13 pb (.lst bs)) := same_new hpb
          have da14 := dps_same s14 _ _ da13
          have db14 := dps_same s14 _ _ db
          have e9 : es = fs := sortedD_uniq (pe.trans ((perm.map enL).trans pf.symm)) (fun d hd e he => told_enL tt d (pe.mem_iff.mp hd) e (pe.mem_iff.mp he)) pwe pwf
          subst e9
          refine r_eqD (.lst (.inl (.inl (s14 _ _ hpa13))) da14) (.lst (.inl (.inl upd_same)) db14) ?_ ?_ (q _)
          · unfold PyData.canLay0
            refine layAll_of fun d hd => ?_
            obtain ⟨m, _, rfl⟩ := List.mem_map.mp (pe.mem_iff.mp hd)
            unfold enL PyData.canLay0
            exact lay_pT m
          · have : PyData.depthAll es ≤ 2 := deepAll_of fun d hd => by
              obtain ⟨m, _, rfl⟩ := List.mem_map.mp (pe.mem_iff.mp hd)
              have := deep_pT m
              have h3 : (enL m).depth = PyData.depthAll (m.map pT) + 1 := by simp [enL, PyData.depth]
              omega
            unfold PyData.depth
            omega
end

set_option Elab.async false
set_option linter.all false
set_option maxRecDepth 100000
set_option maxHeartbeats 4000000
open PySem PySem.Spec PyProof.Rows L2
/-- a def that the top has written -/
def mkDef {K : PySem.W.Frag} {h : Heap} {mg : Str → Option Value} {x : Str} {st : Stmt} {ps : List Str} {f : Addr} {od an : Option Addr} {sl : Array (Option Value)} {oc kV dc pm cd ct : Value} (X : K.In h) (G : h.Ns mainGlobals mg)
    (a : PySem.W.nsIn K mainGlobals x = some (some (.ref f))) (l : K.lookup f = some ⟨oc, od, .func (PySem.W.fnOf x x (defArgs st) (defBody st) (defScope st) .none kV dc pm an cd ct), sl⟩) (c : PySem.W.codeIn K cd x = true) (k : PySem.W.keepIn K (.ref f) = true)
    (b : Binds K (PySem.W.fnOf x x (defArgs st) (defBody st) (defScope st) .none kV dc pm an cd ct) ps []) : DefAt K mg x st ps :=
  ⟨f, PySem.W.fnOf x x (defArgs st) (defBody st) (defScope st) .none kV dc pm an cd ct, fun_mk l c k, b, PySem.W.mg_of X G a⟩
set_option maxHeartbeats 0 in
theorem all_mk {P : Program} {w : World} {K : PySem.W.Frag} {h : Heap} {mg : Str → Option Value} {fa : Addr} (X : K.In h) (G : h.Ns mainGlobals mg) (hfa : mg "law" = some (.ref fa))
    {od0 an0 : Option Addr} {sl0 : Array (Option Value)} {oc0 kV0 dc0 pm0 cd0 ct0 : Value} {f0 : Addr}
    (a0 : PySem.W.nsIn K mainGlobals "faces" = some (some (.ref f0))) (l0 : K.lookup f0 = some ⟨oc0, od0, .func (PySem.W.fnOf "faces" "faces" (defArgs s_faces) (defBody s_faces) (defScope s_faces) .none kV0 dc0 pm0 an0 cd0 ct0), sl0⟩) (c0 : PySem.W.codeIn K cd0 "faces" = true) (k0 : PySem.W.keepIn K (.ref f0) = true)
    {od1 an1 : Option Addr} {sl1 : Array (Option Value)} {oc1 kV1 dc1 pm1 cd1 ct1 : Value} {f1 : Addr}
    (a1 : PySem.W.nsIn K mainGlobals "_arrows" = some (some (.ref f1))) (l1 : K.lookup f1 = some ⟨oc1, od1, .func (PySem.W.fnOf "_arrows" "_arrows" (defArgs s_arrows) (defBody s_arrows) (defScope s_arrows) .none kV1 dc1 pm1 an1 cd1 ct1), sl1⟩) (c1 : PySem.W.codeIn K cd1 "_arrows" = true) (k1 : PySem.W.keepIn K (.ref f1) = true)
    {od2 an2 : Option Addr} {sl2 : Array (Option Value)} {oc2 kV2 dc2 pm2 cd2 ct2 : Value} {f2 : Addr}
    (a2 : PySem.W.nsIn K mainGlobals "_walk" = some (some (.ref f2))) (l2 : K.lookup f2 = some ⟨oc2, od2, .func (PySem.W.fnOf "_walk" "_walk" (defArgs s_walk) (defBody s_walk) (defScope s_walk) .none kV2 dc2 pm2 an2 cd2 ct2), sl2⟩) (c2 : PySem.W.codeIn K cd2 "_walk" = true) (k2 : PySem.W.keepIn K (.ref f2) = true)
    {od3 an3 : Option Addr} {sl3 : Array (Option Value)} {oc3 kV3 dc3 pm3 cd3 ct3 : Value} {f3 : Addr}
    (a3 : PySem.W.nsIn K mainGlobals "_arrow_behind" = some (some (.ref f3))) (l3 : K.lookup f3 = some ⟨oc3, od3, .func (PySem.W.fnOf "_arrow_behind" "_arrow_behind" (defArgs s_arrow_behind) (defBody s_arrow_behind) (defScope s_arrow_behind) .none kV3 dc3 pm3 an3 cd3 ct3), sl3⟩) (c3 : PySem.W.codeIn K cd3 "_arrow_behind" = true) (k3 : PySem.W.keepIn K (.ref f3) = true)
    {od4 an4 : Option Addr} {sl4 : Array (Option Value)} {oc4 kV4 dc4 pm4 cd4 ct4 : Value} {f4 : Addr}
    (a4 : PySem.W.nsIn K mainGlobals "mirrored" = some (some (.ref f4))) (l4 : K.lookup f4 = some ⟨oc4, od4, .func (PySem.W.fnOf "mirrored" "mirrored" (defArgs s_mirrored) (defBody s_mirrored) (defScope s_mirrored) .none kV4 dc4 pm4 an4 cd4 ct4), sl4⟩) (c4 : PySem.W.codeIn K cd4 "mirrored" = true) (k4 : PySem.W.keepIn K (.ref f4) = true)
    {od5 an5 : Option Addr} {sl5 : Array (Option Value)} {oc5 kV5 dc5 pm5 cd5 ct5 : Value} {f5 : Addr}
    (a5 : PySem.W.nsIn K mainGlobals "_law_same" = some (some (.ref f5))) (l5 : K.lookup f5 = some ⟨oc5, od5, .func (PySem.W.fnOf "_law_same" "_law_same" (defArgs s_law_same) (defBody s_law_same) (defScope s_law_same) .none kV5 dc5 pm5 an5 cd5 ct5), sl5⟩) (c5 : PySem.W.codeIn K cd5 "_law_same" = true) (k5 : PySem.W.keepIn K (.ref f5) = true)
    {od6 an6 : Option Addr} {sl6 : Array (Option Value)} {oc6 kV6 dc6 pm6 cd6 ct6 : Value} {f6 : Addr}
    (a6 : PySem.W.nsIn K mainGlobals "_law_pool" = some (some (.ref f6))) (l6 : K.lookup f6 = some ⟨oc6, od6, .func (PySem.W.fnOf "_law_pool" "_law_pool" (defArgs s_law_pool) (defBody s_law_pool) (defScope s_law_pool) .none kV6 dc6 pm6 an6 cd6 ct6), sl6⟩) (c6 : PySem.W.codeIn K cd6 "_law_pool" = true) (k6 : PySem.W.keepIn K (.ref f6) = true)
    {od7 an7 : Option Addr} {sl7 : Array (Option Value)} {oc7 kV7 dc7 pm7 cd7 ct7 : Value} {f7 : Addr}
    (a7 : PySem.W.nsIn K mainGlobals "_law_spread" = some (some (.ref f7))) (l7 : K.lookup f7 = some ⟨oc7, od7, .func (PySem.W.fnOf "_law_spread" "_law_spread" (defArgs s_law_spread) (defBody s_law_spread) (defScope s_law_spread) .none kV7 dc7 pm7 an7 cd7 ct7), sl7⟩) (c7 : PySem.W.codeIn K cd7 "_law_spread" = true) (k7 : PySem.W.keepIn K (.ref f7) = true)
    {od8 an8 : Option Addr} {sl8 : Array (Option Value)} {oc8 kV8 dc8 pm8 cd8 ct8 : Value} {f8 : Addr}
    (a8 : PySem.W.nsIn K mainGlobals "_law_draw" = some (some (.ref f8))) (l8 : K.lookup f8 = some ⟨oc8, od8, .func (PySem.W.fnOf "_law_draw" "_law_draw" (defArgs s_law_draw) (defBody s_law_draw) (defScope s_law_draw) .none kV8 dc8 pm8 an8 cd8 ct8), sl8⟩) (c8 : PySem.W.codeIn K cd8 "_law_draw" = true) (k8 : PySem.W.keepIn K (.ref f8) = true)
    {od9 an9 : Option Addr} {sl9 : Array (Option Value)} {oc9 kV9 dc9 pm9 cd9 ct9 : Value} {f9 : Addr}
    (a9 : PySem.W.nsIn K mainGlobals "_law_pairs" = some (some (.ref f9))) (l9 : K.lookup f9 = some ⟨oc9, od9, .func (PySem.W.fnOf "_law_pairs" "_law_pairs" (defArgs s_law_pairs) (defBody s_law_pairs) (defScope s_law_pairs) .none kV9 dc9 pm9 an9 cd9 ct9), sl9⟩) (c9 : PySem.W.codeIn K cd9 "_law_pairs" = true) (k9 : PySem.W.keepIn K (.ref f9) = true)
    {od10 an10 : Option Addr} {sl10 : Array (Option Value)} {oc10 kV10 dc10 pm10 cd10 ct10 : Value} {f10 : Addr}
    (a10 : PySem.W.nsIn K mainGlobals "_law_sorted_graph" = some (some (.ref f10))) (l10 : K.lookup f10 = some ⟨oc10, od10, .func (PySem.W.fnOf "_law_sorted_graph" "_law_sorted_graph" (defArgs s_law_sorted_graph) (defBody s_law_sorted_graph) (defScope s_law_sorted_graph) .none kV10 dc10 pm10 an10 cd10 ct10), sl10⟩) (c10 : PySem.W.codeIn K cd10 "_law_sorted_graph" = true) (k10 : PySem.W.keepIn K (.ref f10) = true)
    {od11 an11 : Option Addr} {sl11 : Array (Option Value)} {oc11 kV11 dc11 pm11 cd11 ct11 : Value} {f11 : Addr}
    (a11 : PySem.W.nsIn K mainGlobals "_law_graph" = some (some (.ref f11))) (l11 : K.lookup f11 = some ⟨oc11, od11, .func (PySem.W.fnOf "_law_graph" "_law_graph" (defArgs s_law_graph) (defBody s_law_graph) (defScope s_law_graph) .none kV11 dc11 pm11 an11 cd11 ct11), sl11⟩) (c11 : PySem.W.codeIn K cd11 "_law_graph" = true) (k11 : PySem.W.keepIn K (.ref f11) = true)
    {od12 an12 : Option Addr} {sl12 : Array (Option Value)} {oc12 kV12 dc12 pm12 cd12 ct12 : Value} {f12 : Addr}
    (a12 : PySem.W.nsIn K mainGlobals "_law_near" = some (some (.ref f12))) (l12 : K.lookup f12 = some ⟨oc12, od12, .func (PySem.W.fnOf "_law_near" "_law_near" (defArgs s_law_near) (defBody s_law_near) (defScope s_law_near) .none kV12 dc12 pm12 an12 cd12 ct12), sl12⟩) (c12 : PySem.W.codeIn K cd12 "_law_near" = true) (k12 : PySem.W.keepIn K (.ref f12) = true)
    {od13 an13 : Option Addr} {sl13 : Array (Option Value)} {oc13 kV13 dc13 pm13 cd13 ct13 : Value} {f13 : Addr}
    (a13 : PySem.W.nsIn K mainGlobals "_law_some_rotation" = some (some (.ref f13))) (l13 : K.lookup f13 = some ⟨oc13, od13, .func (PySem.W.fnOf "_law_some_rotation" "_law_some_rotation" (defArgs s_law_some_rotation) (defBody s_law_some_rotation) (defScope s_law_some_rotation) .none kV13 dc13 pm13 an13 cd13 ct13), sl13⟩) (c13 : PySem.W.codeIn K cd13 "_law_some_rotation" = true) (k13 : PySem.W.keepIn K (.ref f13) = true)
    {od14 an14 : Option Addr} {sl14 : Array (Option Value)} {oc14 kV14 dc14 pm14 cd14 ct14 : Value} {f14 : Addr}
    (a14 : PySem.W.nsIn K mainGlobals "_law_faces" = some (some (.ref f14))) (l14 : K.lookup f14 = some ⟨oc14, od14, .func (PySem.W.fnOf "_law_faces" "_law_faces" (defArgs s_law_faces) (defBody s_law_faces) (defScope s_law_faces) .none kV14 dc14 pm14 an14 cd14 ct14), sl14⟩) (c14 : PySem.W.codeIn K cd14 "_law_faces" = true) (k14 : PySem.W.keepIn K (.ref f14) = true)
    {od15 an15 : Option Addr} {sl15 : Array (Option Value)} {oc15 kV15 dc15 pm15 cd15 ct15 : Value} {f15 : Addr}
    (a15 : PySem.W.nsIn K mainGlobals "law" = some (some (.ref f15))) (l15 : K.lookup f15 = some ⟨oc15, od15, .func (PySem.W.fnOf "law" "law" (defArgs s_law) (defBody s_law) (defScope s_law) .none kV15 dc15 pm15 an15 cd15 ct15), sl15⟩) (c15 : PySem.W.codeIn K cd15 "law" = true) (k15 : PySem.W.keepIn K (.ref f15) = true)
    (z_len : PySem.W.nsIn K mainGlobals "len" = some none)
    (z_range : PySem.W.nsIn K mainGlobals "range" = some none)
    (z_list : PySem.W.nsIn K mainGlobals "list" = some none)
    (z_tuple : PySem.W.nsIn K mainGlobals "tuple" = some none)
    (z_int : PySem.W.nsIn K mainGlobals "int" = some none)
    (z_min : PySem.W.nsIn K mainGlobals "min" = some none)
    (z_max : PySem.W.nsIn K mainGlobals "max" = some none)
    (z_sorted : PySem.W.nsIn K mainGlobals "sorted" = some none)
    (z_isinstance : PySem.W.nsIn K mainGlobals "isinstance" = some none)
    (z_bool : PySem.W.nsIn K mainGlobals "bool" = some none)
    (z_str : PySem.W.nsIn K mainGlobals "str" = some none)
    (z_enumerate : PySem.W.nsIn K mainGlobals "enumerate" = some none)
    (z_all : PySem.W.nsIn K mainGlobals "all" = some none)
    (z_set : PySem.W.nsIn K mainGlobals "set" = some none) :
    ∃ fd : FuncData, (∀ (s : Shared) (v : Value), BindsTo s fd ⟨[v], []⟩ [("script", v)]) ∧ ∀ base : Heap, K.In base → base.Ns mainGlobals mg → FnOk P w K mg base CX0 8 fa fd ["script"] (spLaw K) := by
  have e := hfa.symm.trans (PySem.W.mg_of X G a15)
  cases e
  have T : Blt mg := ⟨PySem.W.mg_none_of X G z_len, PySem.W.mg_none_of X G z_range, PySem.W.mg_none_of X G z_list, PySem.W.mg_none_of X G z_tuple, PySem.W.mg_none_of X G z_int, PySem.W.mg_none_of X G z_min, PySem.W.mg_none_of X G z_max, PySem.W.mg_none_of X G z_sorted, PySem.W.mg_none_of X G z_isinstance, PySem.W.mg_none_of X G z_bool, PySem.W.mg_none_of X G z_str, PySem.W.mg_none_of X G z_enumerate⟩
  have D_faces : DefAt K mg "faces" s_faces ["graph", "rotation"] := mkDef X G a0 l0 c0 k0 ((fun_mk (st := s_faces) l0 c0 k0).binds (ps := ["graph", "rotation"]) fun _ _ _ _ _ _ us hl => match us, hl with | [_, _], _ => rfl)
  have D_arrows : DefAt K mg "_arrows" s_arrows ["graph"] := mkDef X G a1 l1 c1 k1 ((fun_mk (st := s_arrows) l1 c1 k1).binds (ps := ["graph"]) fun _ _ _ _ _ _ us hl => match us, hl with | [_], _ => rfl)
  have D_walk : DefAt K mg "_walk" s_walk ["rotation", "start"] := mkDef X G a2 l2 c2 k2 ((fun_mk (st := s_walk) l2 c2 k2).binds (ps := ["rotation", "start"]) fun _ _ _ _ _ _ us hl => match us, hl with | [_, _], _ => rfl)
  have D_arrow_behind : DefAt K mg "_arrow_behind" s_arrow_behind ["rotation", "arrow"] := mkDef X G a3 l3 c3 k3 ((fun_mk (st := s_arrow_behind) l3 c3 k3).binds (ps := ["rotation", "arrow"]) fun _ _ _ _ _ _ us hl => match us, hl with | [_, _], _ => rfl)
  have D_mirrored : DefAt K mg "mirrored" s_mirrored ["rotation"] := mkDef X G a4 l4 c4 k4 ((fun_mk (st := s_mirrored) l4 c4 k4).binds (ps := ["rotation"]) fun _ _ _ _ _ _ us hl => match us, hl with | [_], _ => rfl)
  have D_law_same : DefAt K mg "_law_same" s_law_same ["actual", "due"] := mkDef X G a5 l5 c5 k5 ((fun_mk (st := s_law_same) l5 c5 k5).binds (ps := ["actual", "due"]) fun _ _ _ _ _ _ us hl => match us, hl with | [_, _], _ => rfl)
  have D_law_pool : DefAt K mg "_law_pool" s_law_pool ["script"] := mkDef X G a6 l6 c6 k6 ((fun_mk (st := s_law_pool) l6 c6 k6).binds (ps := ["script"]) fun _ _ _ _ _ _ us hl => match us, hl with | [_], _ => rfl)
  have D_law_spread : DefAt K mg "_law_spread" s_law_spread ["cell"] := mkDef X G a7 l7 c7 k7 ((fun_mk (st := s_law_spread) l7 c7 k7).binds (ps := ["cell"]) fun _ _ _ _ _ _ us hl => match us, hl with | [_], _ => rfl)
  have D_law_draw : DefAt K mg "_law_draw" s_law_draw ["pool", "many"] := mkDef X G a8 l8 c8 k8 ((fun_mk (st := s_law_draw) l8 c8 k8).binds (ps := ["pool", "many"]) fun _ _ _ _ _ _ us hl => match us, hl with | [_, _], _ => rfl)
  have D_law_pairs : DefAt K mg "_law_pairs" s_law_pairs ["n"] := mkDef X G a9 l9 c9 k9 ((fun_mk (st := s_law_pairs) l9 c9 k9).binds (ps := ["n"]) fun _ _ _ _ _ _ us hl => match us, hl with | [_], _ => rfl)
  have D_law_sorted_graph : DefAt K mg "_law_sorted_graph" s_law_sorted_graph ["n", "edges"] := mkDef X G a10 l10 c10 k10 ((fun_mk (st := s_law_sorted_graph) l10 c10 k10).binds (ps := ["n", "edges"]) fun _ _ _ _ _ _ us hl => match us, hl with | [_, _], _ => rfl)
  have D_law_graph : DefAt K mg "_law_graph" s_law_graph ["pool", "most"] := mkDef X G a11 l11 c11 k11 ((fun_mk (st := s_law_graph) l11 c11 k11).binds (ps := ["pool", "most"]) fun _ _ _ _ _ _ us hl => match us, hl with | [_, _], _ => rfl)
  have D_law_near : DefAt K mg "_law_near" s_law_near ["graph", "v"] := mkDef X G a12 l12 c12 k12 ((fun_mk (st := s_law_near) l12 c12 k12).binds (ps := ["graph", "v"]) fun _ _ _ _ _ _ us hl => match us, hl with | [_, _], _ => rfl)
  have D_law_some_rotation : DefAt K mg "_law_some_rotation" s_law_some_rotation ["pool", "graph"] := mkDef X G a13 l13 c13 k13 ((fun_mk (st := s_law_some_rotation) l13 c13 k13).binds (ps := ["pool", "graph"]) fun _ _ _ _ _ _ us hl => match us, hl with | [_, _], _ => rfl)
  have D_law_faces : DefAt K mg "_law_faces" s_law_faces ["graph", "rotation"] := mkDef X G a14 l14 c14 k14 ((fun_mk (st := s_law_faces) l14 c14 k14).binds (ps := ["graph", "rotation"]) fun _ _ _ _ _ _ us hl => match us, hl with | [_, _], _ => rfl)
  let D_law : DefAt K mg "law" s_law ["script"] := mkDef X G a15 l15 c15 k15 ((fun_mk (st := s_law) l15 c15 k15).binds (ps := ["script"]) fun _ _ _ _ _ _ us hl => match us, hl with | [_], _ => rfl)
  have Z_all := PySem.W.mg_none_of X G z_all
  have Z_set := PySem.W.mg_none_of X G z_set
  refine ⟨PySem.W.fnOf "law" "law" (defArgs s_law) (defBody s_law) (defScope s_law) .none kV15 dc15 pm15 an15 cd15 ct15, fun s v => .of_eq rfl, fun base _ _ => ?_⟩
  have G_spread := ok_spread (P := P) (w := w) (base := base) T D_law_spread
  have G_draw := ok_draw T D_law_draw D_law_spread G_spread
  have G_pool := ok_pool (P := P) (w := w) (base := base) T D_law_pool
  have G_pairs := ok_pairs (P := P) (w := w) (base := base) T D_law_pairs
  have G_sg := ok_sorted_graph T D_law_sorted_graph D_law_pairs G_pairs
  have G_graph := ok_graphO T D_law_graph D_law_draw G_draw D_law_pairs G_pairs D_law_sorted_graph G_sg
  have G_near := ok_nb (P := P) (w := w) (base := base) (K := K) T D_law_near
  have G_rot := ok_rot T D_law_some_rotation D_law_draw G_draw D_law_near G_near
  have G_lf := ok_lfaces (P := P) (w := w) (base := base) (K := K) T D_law_faces
  have G_behind := ok_behind (P := P) (w := w) (base := base) (K := K) T D_arrow_behind
  have G_walk := ok_walk T D_walk D_arrow_behind G_behind
  have G_arrows := ok_arrowsP (P := P) (w := w) (base := base) (K := K) T D_arrows
  have G_faces := ok_faces T Z_set D_faces D_arrows G_arrows D_walk G_walk
  have G_mir := ok_mirrored (P := P) (w := w) (base := base) (K := K) T D_mirrored
  have G_same := ok_same (P := P) (w := w) (base := base) T D_law_same 5
  exact ok_law T D_law D_law_pool G_pool D_law_graph G_graph D_law_some_rotation G_rot D_law_faces G_lf D_faces G_faces D_mirrored G_mir D_law_same G_same

end Z
set_option Elab.async false
set_option linter.all false
set_option maxRecDepth 100000
open PySem PySem.W PyProof.Rows
set_option maxHeartbeats 0 in
theorem PySem.Challenge.cw_trellis_k45_faces_holds : PySem.Challenge.rw_trellis_k45_faces.Holds := by
  w_on; o_law; k_head; (case hw => w_witness2)
  k_fill
  refine L2.walk_of (l := PySem.Challenge.rw_trellis_k45_faces) (n := 63) (k := 8) (x := "script") (CX := fun _ => L2.CX0) (sp := fun w => Z.spLaw _) rfl (by decide) rfl ⟨rfl, by decide, by decide⟩ (fun w h Y => PySem.W.kIn_of Y) ?F (fun _ _ a ns hl _ hS => ⟨a, ns, rfl, hS, fun _ => rfl⟩) (fun _ _ _ _ _ h => h)
  case F =>
    intro w mg fa h KX G hmg
    refine' Z.all_mk KX G hmg ?a0 ?l0 ?c0 ?k0 ?a1 ?l1 ?c1 ?k1 ?a2 ?l2 ?c2 ?k2 ?a3 ?l3 ?c3 ?k3 ?a4 ?l4 ?c4 ?k4 ?a5 ?l5 ?c5 ?k5 ?a6 ?l6 ?c6 ?k6 ?a7 ?l7 ?c7 ?k7 ?a8 ?l8 ?c8 ?k8 ?a9 ?l9 ?c9 ?k9 ?a10 ?l10 ?c10 ?k10 ?a11 ?l11 ?c11 ?k11 ?a12 ?l12 ?c12 ?k12 ?a13 ?l13 ?c13 ?k13 ?a14 ?l14 ?c14 ?k14 ?a15 ?l15 ?c15 ?k15 ?z_len ?z_range ?z_list ?z_tuple ?z_int ?z_min ?z_max ?z_sorted ?z_isinstance ?z_bool ?z_str ?z_enumerate ?z_all ?z_set
    (case a0 => k_is); (case l0 => k_is); (case c0 => k_is); (case k0 => k_is); (case a1 => k_is); (case l1 => k_is); (case c1 => k_is); (case k1 => k_is); (case a2 => k_is); (case l2 => k_is); (case c2 => k_is); (case k2 => k_is); (case a3 => k_is); (case l3 => k_is); (case c3 => k_is); (case k3 => k_is); (case a4 => k_is); (case l4 => k_is); (case c4 => k_is); (case k4 => k_is); (case a5 => k_is); (case l5 => k_is); (case c5 => k_is); (case k5 => k_is); (case a6 => k_is); (case l6 => k_is); (case c6 => k_is); (case k6 => k_is); (case a7 => k_is); (case l7 => k_is); (case c7 => k_is); (case k7 => k_is); (case a8 => k_is); (case l8 => k_is); (case c8 => k_is); (case k8 => k_is); (case a9 => k_is); (case l9 => k_is); (case c9 => k_is); (case k9 => k_is); (case a10 => k_is); (case l10 => k_is); (case c10 => k_is); (case k10 => k_is); (case a11 => k_is); (case l11 => k_is); (case c11 => k_is); (case k11 => k_is); (case a12 => k_is); (case l12 => k_is); (case c12 => k_is); (case k12 => k_is); (case a13 => k_is); (case l13 => k_is); (case c13 => k_is); (case k13 => k_is); (case a14 => k_is); (case l14 => k_is); (case c14 => k_is); (case k14 => k_is); (case a15 => k_is); (case l15 => k_is); (case c15 => k_is); (case k15 => k_is); (case z_len => k_is); (case z_range => k_is); (case z_list => k_is); (case z_tuple => k_is); (case z_int => k_is); (case z_min => k_is); (case z_max => k_is); (case z_sorted => k_is); (case z_isinstance => k_is); (case z_bool => k_is); (case z_str => k_is); (case z_enumerate => k_is); (case z_all => k_is); (case z_set => k_is)
