import PyProof.Rows.All
import Wide.All
import OpenK.AllK
import Wide.FinOn
import HandS.ForMost
import HandS.Wide
import HandS.TupSets
import HandS.Deep
import HandS.IsInst
import HandS.Conv
import HandS.SortRule
import PyProof.WalkInts
import HandS.SetBool
import HandS.ExcOwn
import HandS.WordsExc
import HandS.ExcIs
import HandS.TryOnly
import HandS.TryElse
import HandS.More
import KE.GoesEnum
import KE.GoesMore
import HandS.DictTup
import HandS.DictComp
import HandS.Iter
import HandS.TupAny
import PySem.Challenge.RW_trellis_k02_made_graphs
set_option Elab.async false
set_option linter.all false
set_option maxRecDepth 100000
set_option maxHeartbeats 2000000
namespace Z
open PySem PySem.Spec PyProof.Rows L2

/-! ## heaps -/
/-- all but what stands at a is as it was -/
def Gr (a : Addr) (H H' : Hp) : Prop := ∀ b o, b ≠ a → H b = some o → H' b = some o
theorem Gr.refl (a : Addr) (H : Hp) : Gr a H H := fun _ _ _ h => h
theorem Gr.trans {a : Addr} {H H1 H2 : Hp} (x : Gr a H H1) (y : Gr a H1 H2) : Gr a H H2 := fun b o n h => y b o n (x b o n h)
theorem Gr.of_same {a : Addr} {H H' : Hp} (x : Same H H') : Gr a H H' := fun b o _ h => x b o h
theorem same_new {H : Hp} {p : Addr} {o : HO} (h : H p = none) : Same H (upd H p o) := fun b u e => by
  rw [upd_ne (ne_of_none e h)]
  exact e
theorem Gr.new {a : Addr} {H : Hp} {p : Addr} {o : HO} (h : H p = none) : Gr a H (upd H p o) := .of_same (same_new h)
/-- the object at a itself is written -/
theorem Gr.self {a : Addr} {H : Hp} {o : HO} : Gr a H (upd H a o) := fun b u n e => by
  rw [upd_ne n]
  exact e
/-- an object that H did not know is written -/
theorem Gr.mut {a : Addr} {H H' : Hp} {p : Addr} {o : HO} (x : Gr a H H') (h : H p = none) : Gr a H (upd H' p o) := fun b u n e => by
  rw [upd_ne (ne_of_none e h)]
  exact x b u n e
theorem same_mut {H H' : Hp} {p : Addr} {o : HO} (x : Same H H') (h : H p = none) : Same H (upd H' p o) := fun b u e => by
  rw [upd_ne (ne_of_none e h)]
  exact x b u e
/-- what is free now was free then -/
theorem Gr.free {a : Addr} {H H' : Hp} (x : Gr a H H') (ha : H' a ≠ none) {p : Addr} (h : H' p = none) : H p = none := by
  cases e : H p with
  | none => rfl
  | some o =>
    by_cases n : p = a
    · rw [n] at h
      exact absurd h ha
    · rw [x p o n e] at h
      cases h
theorem some_ne {H : Hp} {a : Addr} {o : HO} (h : H a = some o) : H a ≠ none := by
  rw [h]
  exact fun z => nomatch z
/-- the tuples stand -/
def TK (H H' : Hp) : Prop := ∀ b xs, H b = some (.tup xs) → H' b = some (.tup xs)
theorem TK.refl (H : Hp) : TK H H := fun _ _ h => h
theorem TK.trans {H H1 H2 : Hp} (x : TK H H1) (y : TK H1 H2) : TK H H2 := fun b o h => y b o (x b o h)
theorem TK.of_same {H H' : Hp} (x : Same H H') : TK H H' := fun b o h => x b _ h
theorem TK.of_gr {a : Addr} {H H' : Hp} {xs : List V} (x : Gr a H H') (h : H a = some (.lst xs)) : TK H H' := fun b o e => x b _ (fun n => by
  rw [n, h] at e
  cases e) e
theorem TK.lst {H : Hp} {p : Addr} {xs ys : List V} (h : H p = some (.lst xs)) : TK H (upd H p (.lst ys)) := fun b o e => by
  rw [upd_ne (fun n => by rw [n, h] at e; cases e)]
  exact e
theorem TK.new {H : Hp} {p : Addr} {o : HO} (h : H p = none) : TK H (upd H p o) := .of_same (same_new h)

/-! ## pairs -/
/-- x is the tuple of these two ints -/
def IsP (H : Hp) (x : V) (p : Int × Int) : Prop := ∃ t, x = .ref t ∧ H t = some (.tup [.int p.1, .int p.2])
theorem IsP.tk {H H' : Hp} (k : TK H H') {x : V} {p : Int × Int} (h : IsP H x p) : IsP H' x p := by
  obtain ⟨t, e, h⟩ := h
  exact ⟨t, e, k _ _ h⟩
abbrev Prs (H : Hp) : List V → List (Int × Int) → Prop := Paired (IsP H)
theorem Prs.tk {H H' : Hp} (k : TK H H') : ∀ {xs : List V} {ps : List (Int × Int)}, Prs H xs ps → Prs H' xs ps
  | _, _, .nil => .nil
  | _, _, .cons h t => .cons (h.tk k) (Prs.tk k t)
theorem pd_get {α β : Type} {F : α → β → Prop} : ∀ {xs : List α} {ps : List β} {i : Nat} {x : α}, Paired F xs ps → xs[i]? = some x → ∃ p, ps[i]? = some p ∧ F x p
  | _, _, _, _, .nil, h => by simp at h
  | _, _, 0, _, .cons f _, h => by
    have e := Option.some.inj h
    subst e
    exact ⟨_, rfl, f⟩
  | _, _, i + 1, _, .cons _ t, h => pd_get (i := i) t h
theorem pd_get2 {α β : Type} {F : α → β → Prop} : ∀ {xs : List α} {ps : List β} {i : Nat} {p : β}, Paired F xs ps → ps[i]? = some p → ∃ x, xs[i]? = some x ∧ F x p
  | _, _, _, _, .nil, h => by simp at h
  | _, _, 0, _, .cons f _, h => by
    have e := Option.some.inj h
    subst e
    exact ⟨_, rfl, f⟩
  | _, _, i + 1, _, .cons _ t, h => pd_get2 (i := i) t h
theorem pd_mem {α β : Type} {F : α → β → Prop} {xs : List α} {ps : List β} {x : α} (h : Paired F xs ps) (hx : x ∈ xs) : ∃ p ∈ ps, F x p := by
  obtain ⟨i, hi, e⟩ := List.mem_iff_getElem.mp hx
  obtain ⟨p, hp, f⟩ := pd_get h (List.getElem?_eq_some_iff.mpr ⟨hi, e⟩)
  exact ⟨p, List.mem_of_getElem? hp, f⟩
theorem pd_perm {α β : Type} {F : α → β → Prop} {xs ys : List α} (pm : ys.Perm xs) : ∀ {ps : List β}, Paired F xs ps → ∃ qs, qs.Perm ps ∧ Paired F ys qs := by
  induction pm with
  | nil => intro ps h; cases h; exact ⟨[], .nil, .nil⟩
  | cons x _ ih =>
    intro ps h
    cases h with
    | cons f t =>
      obtain ⟨qs, q1, q2⟩ := ih t
      exact ⟨_, q1.cons _, .cons f q2⟩
  | swap x y l =>
    intro ps h
    cases h with
    | cons f t =>
      cases t with
      | cons g u => exact ⟨_, .swap _ _ _, .cons g (.cons f u)⟩
  | trans _ _ ih1 ih2 =>
    intro ps h
    obtain ⟨qs, q1, q2⟩ := ih2 h
    obtain ⟨rs, r1, r2⟩ := ih1 q2
    exact ⟨rs, r1.trans q1, r2⟩
theorem pd_append {α β : Type} {F : α → β → Prop} : ∀ {xs ys : List α} {ps qs : List β}, Paired F xs ps → Paired F ys qs → Paired F (xs ++ ys) (ps ++ qs)
  | _, _, _, _, .nil, h => h
  | _, _, _, _, .cons f t, h => .cons f (pd_append t h)
theorem pd_take {α β : Type} {F : α → β → Prop} : ∀ {xs : List α} {ps : List β} (n : Nat), Paired F xs ps → Paired F (xs.take n) (ps.take n)
  | _, _, 0, _ => .nil
  | _, _, _ + 1, .nil => .nil
  | _, _, n + 1, .cons f t => .cons f (pd_take n t)
theorem pd_drop {α β : Type} {F : α → β → Prop} : ∀ {xs : List α} {ps : List β} (n : Nat), Paired F xs ps → Paired F (xs.drop n) (ps.drop n)
  | _, _, 0, h => h
  | _, _, _ + 1, .nil => .nil
  | _, _, n + 1, .cons _ t => pd_drop n t

/-! ## data, for == and in -/
theorem IsP.dp {K : PySem.W.Frag} {H : Hp} {x : V} {p : Int × Int} (h : IsP H x p) : Dp K H x (.tuple [.int p.1, .int p.2]) := by
  obtain ⟨t, rfl, h⟩ := h
  exact .tup (.inl (.inl h)) (.cons (.int _) (.cons (.int _) .nil))
def prD2 (p : Int × Int) : PyData := .tuple [.int p.1, .int p.2]
theorem Prs.dps {K : PySem.W.Frag} {H : Hp} : ∀ {xs : List V} {ps : List (Int × Int)}, Prs H xs ps → DpAll K H xs (ps.map prD2)
  | _, _, .nil => .nil
  | _, _, .cons h t => .cons h.dp (Prs.dps t)
theorem prD2_lay (z : Int × Int) : (prD2 z).canLay0 = true := by simp [prD2, PyData.canLay0, PyData.canLayAll0]
theorem prD2_depth (z : Int × Int) : (prD2 z).depth = 1 := by simp [prD2, PyData.depth, PyData.depthAll]
theorem prD2s_lay : ∀ zs : List (Int × Int), PyData.canLayAll0 (zs.map prD2) = true
  | [] => by simp [PyData.canLayAll0]
  | z :: zs => by simp [PyData.canLayAll0, prD2_lay z, prD2s_lay zs]
theorem prD2s_depth : ∀ zs : List (Int × Int), PyData.depthAll (zs.map prD2) ≤ 1
  | [] => by simp [PyData.depthAll]
  | z :: zs => by
    have h1 := prD2s_depth zs
    have h2 := prD2_depth z
    simp only [List.map_cons, PyData.depthAll]
    omega
theorem shaped_of {d : PyData} (h1 : d.canLay0 = true) (h2 : d.depth ≤ 64) : SeqAt.shaped d = true := by
  show (d.canLay0 && decide (d.depth ≤ 64)) = true
  rw [Bool.and_eq_true]
  exact ⟨h1, decide_eq_true h2⟩
theorem prD2_shaped (z : Int × Int) : SeqAt.shaped (prD2 z) = true := shaped_of (prD2_lay z) (by rw [prD2_depth]; omega)
theorem prD2s_shT (zs : List (Int × Int)) : SeqAt.shaped (.tuple (zs.map prD2)) = true := shaped_of (by simp only [PyData.canLay0]; exact prD2s_lay zs) (by
  have h := prD2s_depth zs
  simp only [PyData.depth]
  omega)
theorem prD2s_shL (zs : List (Int × Int)) : SeqAt.shaped (.list (zs.map prD2)) = true := shaped_of (by simp only [PyData.canLay0]; exact prD2s_lay zs) (by
  have h := prD2s_depth zs
  simp only [PyData.depth]
  omega)
theorem prD2_eqv (z w : Int × Int) : PyData.eqv (prD2 z) (prD2 w) = decide (z = w) := by
  obtain ⟨a, b⟩ := z
  obtain ⟨c, d⟩ := w
  have e : PyData.eqv (prD2 (a, b)) (prD2 (c, d)) = ((a == c) && ((b == d) && true)) := by simp only [prD2, PyData.eqv, PyData.eqvAll]
  rw [e]
  by_cases h1 : a = c <;> by_cases h2 : b = d <;> simp [h1, h2]
theorem prD2s_any (zs : List (Int × Int)) (w : Int × Int) : ((zs.map prD2).any fun z => PyData.eqv z (prD2 w)) = decide (w ∈ zs) := by
  induction zs with
  | nil => simp
  | cons z zs ih =>
    rw [List.map_cons, List.any_cons, ih, prD2_eqv]
    by_cases h : z = w
    · simp [h]
    · have h' : ¬ w = z := fun q => h q.symm
      simp [h, h']

/-! ## rules of my own -/
section
variable {X : Cx}
/-- x in t, t a tuple of pairs -/
def rInP (K : PySem.W.Frag) : R2 := fun x y H Q => ∃ (p : Int × Int) (b : Addr) (xs : List V) (ps : List (Int × Int)), IsP H x p ∧ y = .ref b ∧ SqT K H b xs ∧ Prs H xs ps ∧ Q (.bl (decide (p ∈ ps))) H
def rNinP (K : PySem.W.Frag) : R2 := fun x y H Q => ∃ (p : Int × Int) (b : Addr) (xs : List V) (ps : List (Int × Int)), IsP H x p ∧ y = .ref b ∧ SqT K H b xs ∧ Prs H xs ps ∧ Q (.bl (!decide (p ∈ ps))) H
theorem units65 {k : Nat} {A : Around} (r : Room k A) : A.units + 65 < cLine := by have := r.un; omega
theorem roomP {A : Around} {ds : List PyData} (h : A.units + 64 < cLine) (p : Int × Int) : A.units + 1 + min (PyData.depthAll ds) (prD2 p).depth < cLine := by
  have := Nat.min_le_right (PyData.depthAll ds) (prD2 p).depth
  rw [prD2_depth] at this
  rw [prD2_depth]
  omega
theorem op_inTD {k : Nat} (hr : Room k X.A) : OpR X (compareOp .In) (rInP X.K) := by
  intro pins s σ H x y v u Q I rx ry h
  obtain ⟨p, b, xs, ps, hx, rfl, hb, hp, q⟩ := h
  obtain ⟨as, r1⟩ := Dp.reads I (prD2 p) x v hx.dp rx
  obtain ⟨bs, r2⟩ := Dp.reads I (.tuple (ps.map prD2)) (.ref b) u (.tup hb hp.dps) ry
  exact SeqAt.in_tuple_reads r2 r1 (prD2s_lay ps) (prD2_lay p) (roomP hr.units p) ⟨.bl _, H, I, rfl, by rw [prD2s_any]; exact q⟩
theorem op_notInTD {k : Nat} (hr : Room k X.A) : OpR X (compareOp .NotIn) (rNinP X.K) := by
  intro pins s σ H x y v u Q I rx ry h
  obtain ⟨p, b, xs, ps, hx, rfl, hb, hp, q⟩ := h
  obtain ⟨as, r1⟩ := Dp.reads I (prD2 p) x v hx.dp rx
  obtain ⟨bs, r2⟩ := Dp.reads I (.tuple (ps.map prD2)) (.ref b) u (.tup hb hp.dps) ry
  exact SeqAt.notIn_tuple_reads r2 r1 (prD2s_lay ps) (prD2_lay p) (roomP hr.units p) ⟨.bl _, H, I, rfl, by rw [prD2s_any]; exact q⟩
/-- min, max of a pair -/
def rMinT : List V → Hp → VK → Prop := fun vs H Q => ∃ (x : V) (p : Int × Int), vs = [x] ∧ IsP H x p ∧ Q (.int (min p.1 p.2)) H
def rMaxT : List V → Hp → VK → Prop := fun vs H Q => ∃ (x : V) (p : Int × Int), vs = [x] ∧ IsP H x p ∧ Q (.int (max p.1 p.2)) H
theorem pair_raw {pins : List (Addr × Obj)} {σ : L2.St} {H : Hp} {s : Shared} {t : Addr} {i j : Int} (I : Inv X pins σ H s) (h : H t = some (.tup [.int i, .int j])) :
    ∃ a b, s.heap.IsTuple t (intItems #[(i, a), (j, b)]) := by
  obtain ⟨its, rv, ⟨o, ho, hc, n, hd⟩, _⟩ := I.tuple (SqT.of (K := X.K) h)
  obtain ⟨u, w, e, r1, r2⟩ := vals2 rv
  obtain ⟨a, rfl⟩ := r1
  obtain ⟨b, rfl⟩ := r2
  subst e
  exact ⟨a, b, o, ho, hc, n, by simpa [intItems] using hd⟩
theorem cr_minT (hc : X.calm = true) : CallR X (.builtin "min") rMinT := by
  intro pins s σ H vs us Q I r h
  obtain ⟨x, ⟨i, j⟩, rfl, ⟨t, rfl, ht⟩, q⟩ := h
  rw [Vals.ref1 r]
  obtain ⟨a, b, hT⟩ := pair_raw I ht
  have hlt : t < s.heap.objs.size := by
    obtain ⟨o, ho, _⟩ := hT
    exact Heap.lt_size ho
  refine call_min_walk (wpAny_pyIter_tuple hT ?_)
  refine ⟨_, _, _, _, _, _, _, rfl, Walks.tuple (A := X.A.in1) (I.ok.hd hc) s.heap.objs.size t (Nat.ne_of_lt hlt) (intItems #[(i, a), (j, b)]),
    ⟨⟨_, Heap.get?_push_size _ rfl, rfl, rfl⟩, hT.push _⟩, fun c hm => ?_, by simp [intItems], CmpOf.ints_lt (numAt #[(i, a), (j, b)]) (fun _ _ => intItems_at), fun v h' tk hP hk => ?_⟩
  · show c < (s.heap.push _).objs.size
    rw [Heap.size_push]
    rcases List.mem_cons.mp hm with e | hm
    · rw [e]
      exact Nat.lt_succ_self _
    · rw [List.mem_singleton.mp hm]
      exact Nat.lt_succ_of_lt hlt
  · obtain ⟨tt, rfl⟩ := intItems_at hP
    obtain ⟨h1, h2⟩ := argBest_lt (numAt #[(i, a), (j, b)]) ((intItems #[(i, a), (j, b)]).size - 1)
    have e1 : (intItems #[(i, a), (j, b)]).size - 1 = 1 := by simp [intItems]
    rw [e1] at h1 h2 ⊢
    have n0 : numAt #[(i, a), (j, b)] 0 = i := rfl
    have n1 : numAt #[(i, a), (j, b)] 1 = j := rfl
    have g0 := h2 0 (by omega)
    have g1 := h2 1 (by omega)
    rw [n0] at g0
    rw [n1] at g1
    have ev : numAt #[(i, a), (j, b)] (argBest (fun k l => decide (numAt #[(i, a), (j, b)] k < numAt #[(i, a), (j, b)] l)) 1) = min i j := by
      generalize argBest (fun k l => decide (numAt #[(i, a), (j, b)] k < numAt #[(i, a), (j, b)] l)) 1 = z at h1 g0 g1 ⊢
      have hz : z = 0 ∨ z = 1 := by omega
      rcases hz with e | e
      · subst e; rw [n0] at g0 g1 ⊢; omega
      · subst e; rw [n1] at g0 g1 ⊢; omega
    refine ⟨.int (min i j), H, I.kept (t' := tk) fun b u e => hk b u (fun hmem => ?_) (Heap.get?_push_of_some _ e), ⟨tt, by rw [ev]⟩, q⟩
    have e2 := Heap.lt_size e
    rw [List.mem_singleton.mp hmem] at e2
    exact absurd e2 (Nat.lt_irrefl _)
theorem cr_maxT (hc : X.calm = true) : CallR X (.builtin "max") rMaxT := by
  intro pins s σ H vs us Q I r h
  obtain ⟨x, ⟨i, j⟩, rfl, ⟨t, rfl, ht⟩, q⟩ := h
  rw [Vals.ref1 r]
  obtain ⟨a, b, hT⟩ := pair_raw I ht
  have hlt : t < s.heap.objs.size := by
    obtain ⟨o, ho, _⟩ := hT
    exact Heap.lt_size ho
  refine call_max_walk (wpAny_pyIter_tuple hT ?_)
  refine ⟨_, _, _, _, _, _, _, rfl, Walks.tuple (A := X.A.in1) (I.ok.hd hc) s.heap.objs.size t (Nat.ne_of_lt hlt) (intItems #[(i, a), (j, b)]),
    ⟨⟨_, Heap.get?_push_size _ rfl, rfl, rfl⟩, hT.push _⟩, fun c hm => ?_, by simp [intItems], CmpOf.ints_gt (numAt #[(i, a), (j, b)]) (fun _ _ => intItems_at), fun v h' tk hP hk => ?_⟩
  · show c < (s.heap.push _).objs.size
    rw [Heap.size_push]
    rcases List.mem_cons.mp hm with e | hm
    · rw [e]
      exact Nat.lt_succ_self _
    · rw [List.mem_singleton.mp hm]
      exact Nat.lt_succ_of_lt hlt
  · obtain ⟨tt, rfl⟩ := intItems_at hP
    obtain ⟨h1, h2⟩ := argBest_gt (numAt #[(i, a), (j, b)]) ((intItems #[(i, a), (j, b)]).size - 1)
    have e1 : (intItems #[(i, a), (j, b)]).size - 1 = 1 := by simp [intItems]
    rw [e1] at h1 h2 ⊢
    have n0 : numAt #[(i, a), (j, b)] 0 = i := rfl
    have n1 : numAt #[(i, a), (j, b)] 1 = j := rfl
    have g0 := h2 0 (by omega)
    have g1 := h2 1 (by omega)
    rw [n0] at g0
    rw [n1] at g1
    have ev : numAt #[(i, a), (j, b)] (argBest (fun k l => decide (numAt #[(i, a), (j, b)] k > numAt #[(i, a), (j, b)] l)) 1) = max i j := by
      generalize argBest (fun k l => decide (numAt #[(i, a), (j, b)] k > numAt #[(i, a), (j, b)] l)) 1 = z at h1 g0 g1 ⊢
      have hz : z = 0 ∨ z = 1 := by omega
      rcases hz with e | e
      · subst e; rw [n0] at g0 g1 ⊢; omega
      · subst e; rw [n1] at g0 g1 ⊢; omega
    refine ⟨.int (max i j), H, I.kept (t' := tk) fun b u e => hk b u (fun hmem => ?_) (Heap.get?_push_of_some _ e), ⟨tt, by rw [ev]⟩, q⟩
    have e2 := Heap.lt_size e
    rw [List.mem_singleton.mp hmem] at e2
    exact absurd e2 (Nat.lt_irrefl _)
/-- the order of pairs -/
def leP (p q : Int × Int) : Prop := p.1 < q.1 ∨ (p.1 = q.1 ∧ p.2 ≤ q.2)
def ltP (p q : Int × Int) : Prop := p.1 < q.1 ∨ (p.1 = q.1 ∧ p.2 < q.2)
/-- which pair stands at x -/
def kP (H : Hp) : V → Int × Int
  | .ref t => match H t with
    | some (.tup [.int i, .int j]) => (i, j)
    | _ => (0, 0)
  | _ => (0, 0)
theorem IsP.k {H : Hp} {x : V} {p : Int × Int} (h : IsP H x p) : kP H x = p := by
  obtain ⟨t, rfl, h⟩ := h
  simp only [kP, h]
/-- sorted(xs), xs a list of pairs -/
def rSortPr (K : PySem.W.Frag) : List V → Hp → VK → Prop := fun vs H Q => ∃ (a : Addr) (xs : List V) (ps : List (Int × Int)), vs = [V.ref a] ∧ SqL K H a xs ∧ Prs H xs ps ∧
  ∀ (ys : List V) (qs : List (Int × Int)) (p : Addr), qs.Perm ps → Prs H ys qs → qs.Pairwise leP → H p = none → Q (.ref p) (upd H p (.lst ys))
theorem prs_of_k {H : Hp} : ∀ {ys : List V}, (∀ y ∈ ys, IsP H y (kP H y)) → Prs H ys (ys.map (kP H))
  | [], _ => .nil
  | y :: ys, h => .cons (h y List.mem_cons_self) (prs_of_k fun z hz => h z (List.mem_cons_of_mem _ hz))
theorem prs_k {H : Hp} : ∀ {xs : List V} {ps : List (Int × Int)}, Prs H xs ps → xs.map (kP H) = ps
  | _, _, .nil => rfl
  | _, _, .cons h t => by rw [List.map_cons, h.k, prs_k t]
theorem cr_sortPr : CallR X (.builtin "sorted") (rSortPr X.K) := by
  intro pins s σ H vs us Q I r h
  obtain ⟨a, xs, ps, rfl, hs, hp, q⟩ := h
  have at_ : ∀ x ∈ xs, IsP H x (kP H x) := fun x hx => by
    obtain ⟨p, _, f⟩ := pd_mem hp hx
    rw [f.k]
    exact f
  refine cr_sortedPO pins s σ H [V.ref a] us Q I r ⟨a, xs, kP H, rfl, hs, fun x hx => ?_, fun ys p sr st hn => ?_⟩
  · obtain ⟨t, e, h⟩ := at_ x hx
    exact ⟨t, e, h⟩
  · refine q ys (ys.map (kP H)) p ?_ (prs_of_k fun y hy => at_ y (st.perm.mem_iff.mp hy)) ?_ hn
    · rw [← prs_k hp]
      exact st.perm.map _
    · refine List.pairwise_map.mpr (List.Pairwise.imp (fun {x y} h => ?_) sr)
      have h2 := SrtO.lexB_no.mp h
      unfold leP
      omega
end

set_option Elab.async false
set_option linter.all false
set_option maxRecDepth 100000
set_option maxHeartbeats 2000000
open PySem PySem.Spec PyProof.Rows L2
/-! ## steps of a reading -/
theorem int_beq (i j : Int) : (i == j) = decide (i = j) := by
  by_cases h : i = j <;> simp [h]
def rInt1 : List V → Hp → VK → Prop := fun xs H Q => (∃ i, xs = [.int i] ∧ Q (.int i) H) ∨ ∃ k, xs = [.bl k] ∧ Q (.int (if k then 1 else 0)) H
def rMin2 : List V → Hp → VK → Prop := fun xs H Q => ∃ i j, xs = [.int i, .int j] ∧ Q (.int (if j < i then j else i)) H
def rMax2 : List V → Hp → VK → Prop := fun xs H Q => ∃ i j, xs = [.int i, .int j] ∧ Q (.int (if j > i then j else i)) H
def rLen (K : PySem.W.Frag) : List V → Hp → VK → Prop := fun xs H Q => ∃ p ys, xs = [.ref p] ∧ (SqL K H p ys ∨ SqT K H p ys) ∧ Q (.int ys.length) H
def rListOf (K : PySem.W.Frag) : List V → Hp → VK → Prop := fun xs H Q => ∃ p ys, xs = [.ref p] ∧ (SqL K H p ys ∨ SqT K H p ys) ∧ ∀ l, H l = none → Q (.ref l) (upd H l (.lst ys))
def rTupOf (K : PySem.W.Frag) : List V → Hp → VK → Prop := fun xs H Q => ∃ p ys, xs = [.ref p] ∧ ((SqL K H p ys ∧ ∀ l, H l = none → Q (.ref l) (upd H l (.tup ys))) ∨ (SqT K H p ys ∧ Q (.ref p) H))
section
variable {X : Cx}
theorem ix_either : IxR X (fun x y H Q => rIxL X.K x y H Q ∨ rIxT X.K x y H Q) := ix_list.or ix_tup
variable {K : PySem.W.Frag}
theorem ix_listK (h : X.K = K) : IxR X (rIxL K) := h ▸ ix_list
theorem ix_tupK (h : X.K = K) : IxR X (rIxT K) := h ▸ ix_tup
theorem ix_eitherK (h : X.K = K) : IxR X (fun x y H Q => rIxL K x y H Q ∨ rIxT K x y H Q) := h ▸ ix_list.or ix_tup
theorem sl_listK (h : X.K = K) : SlR X (rSlL K) := h ▸ sl_list
theorem sl_tupK (h : X.K = K) : SlR X (rSlT K) := h ▸ sl_tup
theorem op_inSeqK (h : X.K = K) : OpR X (compareOp .In) (rIn K false) := h ▸ op_in_seq
theorem op_ninSeqK (h : X.K = K) : OpR X (compareOp .NotIn) (rIn K true) := h ▸ op_notIn_seq
theorem op_inPK {k : Nat} (h : X.K = K) (hr : Room k X.A) : OpR X (compareOp .In) (rInP K) := h ▸ op_inTD hr
theorem op_ninPK {k : Nat} (h : X.K = K) (hr : Room k X.A) : OpR X (compareOp .NotIn) (rNinP K) := h ▸ op_notInTD hr
theorem op_eqDK (h : X.K = K) (hu : X.A.units + 64 < cLine) : OpR X (compareOp .Eq) (rEqD K) := h ▸ op_eqD hu
theorem op_neDK (h : X.K = K) (hu : X.A.units + 64 < cLine) : OpR X (compareOp .NotEq) (rNeD K) := h ▸ op_neD hu
theorem op_catTK (h : X.K = K) : OpR X (binaryOp .Add) (rCatT K) := h ▸ op_catT
theorem PE.bmK {e : Expr} {T : String} {r : V → List V → Hp → VK → Prop} {to : TE} {t : TA} (h : X.K = K) (p : PE X e (tBM X.K T r to t)) : PE X e (tBM K T r to t) := h ▸ p
theorem PG.tupK {e : Expr} {n : Nat} {t : TGs} (h : X.K = K) (p : PG X e (gTup X.K n t)) : PG X e (gTup K n t) := h ▸ p
theorem PI.listK {tg e : Expr} {tl : TE} (h : X.K = K) (p : PI X tg e (iList X.K tl)) : PI X tg e (iList K tl) := h ▸ p
theorem PI.tupK {tg e : Expr} {tl : TE} (h : X.K = K) (p : PI X tg e (iTup X.K tl)) : PI X tg e (iTup K tl) := h ▸ p
theorem mt_indexK (h : X.K = K) : MtR X "list.index" (rIndex K) := h ▸ mt_index
theorem cr_sortPrK (h : X.K = K) : CallR X (.builtin "sorted") (rSortPr K) := h ▸ cr_sortPr
theorem call_isiK (h : X.K = K) : CallR X (.builtin "isinstance") (rIsi K) := h ▸ call_isi
theorem call_lenK (h : X.K = K) : CallR X (.builtin "len") (rLen K) := h ▸ call_len_seq
theorem call_listK (h : X.K = K) : CallR X (.type "list") (rListOf K) := h ▸ call_list_of
theorem call_tupleK (h : X.K = K) : CallR X (.type "tuple") (rTupOf K) := h ▸ call_tuple_of
theorem call_int1' : CallR X (.type "int") rInt1 := call_int1
theorem call_min2' (hc : X.calm = true) : CallR X (.builtin "min") rMin2 := call_min2 hc
theorem call_max2' (hc : X.calm = true) : CallR X (.builtin "max") rMax2 := call_max2 hc
theorem call_len' : CallR X (.builtin "len") (rLen X.K) := call_len_seq
theorem call_list' : CallR X (.type "list") (rListOf X.K) := call_list_of
theorem call_tuple' : CallR X (.type "tuple") (rTupOf X.K) := call_tuple_of
end
section
variable {K : PySem.W.Frag} {σ : L2.St} {H : Hp} {Q : VK} {ta tb tc te : TE} {t u : TT}
theorem r_var {i : Nat} {v : V} (h : σ[i]? = some (some v)) (q : Q v H) : tVar i σ H Q := ⟨v, h, q⟩
theorem r_c {v : V} (q : Q v H) : tC v σ H Q := q
theorem r_op {r : R2} (h : ta σ H fun x H1 => tb σ H1 fun y H2 => r x y H2 Q) : tOp r ta tb σ H Q := h
theorem r_un {r : V → Hp → VK → Prop} (h : ta σ H fun x H1 => r x H1 Q) : tUn r ta σ H Q := h
theorem r_i0 {g : Int → Int → V} {i j : Int} (q : Q (g i j) H) : rI0 g (.int i) (.int j) H Q := ⟨i, j, rfl, rfl, q⟩
theorem r_i {C : Int → Int → Prop} {g : Int → Int → V} {i j : Int} (c : C i j) (q : Q (g i j) H) : rI C g (.int i) (.int j) H Q := ⟨i, j, rfl, rfl, c, q⟩
theorem r_u {g : Int → V} {i : Int} (q : Q (g i) H) : rU g (.int i) H Q := ⟨i, rfl, q⟩
theorem r_eqI {i j : Int} (q : Q (.bl (decide (i = j))) H) : rEq (.int i) (.int j) H Q := ⟨rfl, by rw [dec_int, int_beq]; exact q⟩
theorem r_neI {i j : Int} (q : Q (.bl (!decide (i = j))) H) : rNe (.int i) (.int j) H Q := ⟨rfl, by rw [dec_int, int_beq]; exact q⟩
theorem r_eqB {i j : Bool} (q : Q (.bl (i == j)) H) : rEq (.bl i) (.bl j) H Q := ⟨rfl, by rw [dec_bl]; exact q⟩
theorem r_neB {i j : Bool} (q : Q (.bl (!(i == j))) H) : rNe (.bl i) (.bl j) H Q := ⟨rfl, by rw [dec_bl]; exact q⟩
def TupN (Q : VK) (xs : List V) (H1 : Hp) : Prop := xs.length ≤ sizeLine ∧ ∀ p, H1 p = none → Q (.ref p) (upd H1 p (.tup xs))
def LstN (Q : VK) (xs : List V) (H1 : Hp) : Prop := xs.length ≤ sizeLine ∧ ∀ p, H1 p = none → Q (.ref p) (upd H1 p (.lst xs))
theorem r_tup {ta : TA} (h : ta σ H (TupN Q)) : tTup ta σ H Q := h
theorem r_lst {ta : TA} (h : ta σ H (LstN Q)) : tLst ta σ H Q := h
theorem r_tupN {xs : List V} (l : xs.length ≤ sizeLine) (q : ∀ p, H p = none → Q (.ref p) (upd H p (.tup xs))) : TupN Q xs H := ⟨l, q⟩
theorem r_lstN {xs : List V} (l : xs.length ≤ sizeLine) (q : ∀ p, H p = none → Q (.ref p) (upd H p (.lst xs))) : LstN Q xs H := ⟨l, q⟩
theorem r_nil {Q : List V → Hp → Prop} (q : Q [] H) : tNil σ H Q := q
theorem r_cons {tr : TA} {Q : List V → Hp → Prop} (h : ta σ H fun x H1 => tr σ H1 fun xs H2 => Q (x :: xs) H2) : tCons ta tr σ H Q := h
theorem r_call {sp : Sp} {dvs : List V} {E : XK} {ta : TA} (h : ta σ H fun vs H1 => sp (vs ++ dvs) H1 Q E) : tCall sp dvs E ta σ H Q := h
theorem r_cb {r : List V → Hp → VK → Prop} {ta : TA} (h : ta σ H fun vs H1 => r vs H1 Q) : tCB r ta σ H Q := h
def KB (Q : Bool → Hp → Prop) (x : V) (H : Hp) : Prop := ∃ k, x = .bl k ∧ Q k H
theorem r_test {Q : Bool → Hp → Prop} (h : te σ H fun x H1 => KB Q x H1) : tTest te σ H Q := h
theorem r_tB {Q : Bool → Hp → Prop} (h : te σ H fun x H1 => KB Q x H1) : tB te σ H Q := h
theorem r_k {Q : Bool → Hp → Prop} {b : Bool} (q : Q b H) : KB Q (.bl b) H := ⟨b, rfl, q⟩
theorem r_not {Q : Bool → Hp → Prop} (h : t σ H fun c H1 => Q (!c) H1) : tNot t σ H Q := h
theorem r_and {Q : Bool → Hp → Prop} (h : t σ H fun c H1 => if c = true then u σ H1 Q else Q false H1) : tAnd t u σ H Q := h
theorem r_or {Q : Bool → Hp → Prop} (h : t σ H fun c H1 => if c = true then Q true H1 else u σ H1 Q) : tOr t u σ H Q := h
theorem r_if (h : t σ H fun c H1 => if c = true then ta σ H1 Q else tb σ H1 Q) : tIf t ta tb σ H Q := h
def Bm (K : PySem.W.Frag) (T : String) (r : V → List V → Hp → VK → Prop) (ta : TA) (σ : L2.St) (Q : VK) (x : V) (H1 : Hp) : Prop := tyV K T x H1 ∧ ta σ H1 fun xs H2 => r x xs H2 Q
theorem r_bm {T : String} {r : V → List V → Hp → VK → Prop} {ta : TA} (h : te σ H (Bm K T r ta σ Q)) : tBM K T r te ta σ H Q := h
def AndN (tb : TE) (σ : L2.St) (Q : VK) (x : V) (H1 : Hp) : Prop := ∃ c, x = .bl c ∧ if c = true then tb σ H1 Q else Q (.bl false) H1
def OrN (tb : TE) (σ : L2.St) (Q : VK) (x : V) (H1 : Hp) : Prop := ∃ c, x = .bl c ∧ if c = true then Q (.bl true) H1 else tb σ H1 Q
def NotN (Q : VK) (x : V) (H1 : Hp) : Prop := ∃ c, x = .bl c ∧ Q (.bl (!c)) H1
theorem r_andV (h : ta σ H (AndN tb σ Q)) : tAndV ta tb σ H Q := h
theorem r_orV (h : ta σ H (OrN tb σ Q)) : tOrV ta tb σ H Q := h
theorem r_notV (h : ta σ H (NotN Q)) : tNotV ta σ H Q := h
theorem r_andN {c : Bool} (h : if c = true then tb σ H Q else Q (.bl false) H) : AndN tb σ Q (.bl c) H := ⟨c, rfl, h⟩
theorem r_orN {c : Bool} (h : if c = true then Q (.bl true) H else tb σ H Q) : OrN tb σ Q (.bl c) H := ⟨c, rfl, h⟩
theorem r_notN {c : Bool} (q : Q (.bl (!c)) H) : NotN Q (.bl c) H := ⟨c, rfl, q⟩
def PartN (Q : Option Int → Hp → Prop) (x : V) (H1 : Hp) : Prop := ∃ i, x = .int i ∧ Q (some i) H1
theorem r_sl {r : V → Option Int → Option Int → Hp → VK → Prop} {tl th : TO} (h : te σ H fun x H1 => tl σ H1 fun l H2 => th σ H2 fun u H3 => r x l u H3 Q) : tSl r te tl th σ H Q := h
theorem r_part {Q : Option Int → Hp → Prop} (h : te σ H (PartN Q)) : tPart te σ H Q := h
theorem r_partN {Q : Option Int → Hp → Prop} {i : Int} (q : Q (some i) H) : PartN Q (.int i) H := ⟨i, rfl, q⟩
theorem r_noPart {Q : Option Int → Hp → Prop} (q : Q none H) : tNoPart σ H Q := q
def LRg (Q : VK) (a b : Int) (H1 : Hp) : Prop := RgOk a b ∧ ∀ q, H1 q = none → Q (.ref q) (upd H1 q (.lst (rgV a b)))
def R1N (Q : Int → Int → Hp → Prop) (x : V) (H1 : Hp) : Prop := ∃ n, x = .int n ∧ Q 0 n H1
theorem r_lstRg {t : L2.St → Hp → (Int → Int → Hp → Prop) → Prop} (h : t σ H (LRg Q)) : tLstRg t σ H Q := h
theorem r_tRg1 {Q : Int → Int → Hp → Prop} (h : ta σ H (R1N Q)) : tRg1 ta σ H Q := h
theorem r_r1N {Q : Int → Int → Hp → Prop} {n : Int} (q : Q 0 n H) : R1N Q (.int n) H := ⟨n, rfl, q⟩
theorem r_bmL {r : V → List V → Hp → VK → Prop} {ta : TA} {p : Addr} {xs : List V} (h : SqL K H p xs) (q : ta σ H fun xs H2 => r (.ref p) xs H2 Q) : Bm K "list" r ta σ Q (.ref p) H := ⟨.inl ⟨rfl, _, h⟩, q⟩
theorem r_ixL {p : Addr} {xs : List V} {i : Int} {v : V} (h : SqL K H p xs) (a : atI xs i = some v) (q : Q v H) : rIxL K (.ref p) (.int i) H Q := ⟨p, xs, i, v, rfl, rfl, h, a, q⟩
theorem r_ixT {p : Addr} {xs : List V} {i : Int} {v : V} (h : SqT K H p xs) (a : atI xs i = some v) (q : Q v H) : rIxT K (.ref p) (.int i) H Q := ⟨p, xs, i, v, rfl, rfl, h, a, q⟩
variable {nx bk ct : L2.St → Hp → Prop} {a b : TS}
theorem r_next (q : nx σ H) : tNext ⟨nx, Q, bk, ct⟩ σ H := q
theorem r_seq (h : a ⟨b ⟨nx, Q, bk, ct⟩, Q, bk, ct⟩ σ H) : tSeq a b ⟨nx, Q, bk, ct⟩ σ H := h
/-- a block's tail, once for all ways that lead to it -/
theorem r_seqW (W : L2.St → Hp → Prop) (tail : ∀ σ' H', W σ' H' → b ⟨nx, Q, bk, ct⟩ σ' H') (head : ∀ B : L2.St → Hp → Prop, (∀ σ' H', W σ' H' → B σ' H') → a ⟨B, Q, bk, ct⟩ σ H) : tSeq a b ⟨nx, Q, bk, ct⟩ σ H := head _ tail
theorem r_ret (h : te σ H Q) : tRet te ⟨nx, Q, bk, ct⟩ σ H := h
theorem r_drop (h : te σ H fun _ H1 => nx σ H1) : tDrop te ⟨nx, Q, bk, ct⟩ σ H := h
theorem r_ifS (h : t σ H fun c H1 => if c = true then a ⟨nx, Q, bk, ct⟩ σ H1 else b ⟨nx, Q, bk, ct⟩ σ H1) : tIfS t a b ⟨nx, Q, bk, ct⟩ σ H := h
theorem r_asg {g : TG} (h : te σ H fun x H1 => g x σ H1 nx) : tAsg te g ⟨nx, Q, bk, ct⟩ σ H := h
theorem r_name {i : Nat} {v : V} {σ' : L2.St} {q : L2.St → Hp → Prop} (e : σ.set i (some v) = σ') (h : q σ' H) : gName i v σ H q := by
  subst e
  exact h
theorem r_name0 {x0 : Option V} {σ : L2.St} {v : V} {q : L2.St → Hp → Prop} (h : q (some v :: σ) H) : gName 0 v (x0 :: σ) H q := h
theorem r_name1 {x0 x1 : Option V} {σ : L2.St} {v : V} {q : L2.St → Hp → Prop} (h : q (x0 :: some v :: σ) H) : gName 1 v (x0 :: x1 :: σ) H q := h
theorem r_name2 {x0 x1 x2 : Option V} {σ : L2.St} {v : V} {q : L2.St → Hp → Prop} (h : q (x0 :: x1 :: some v :: σ) H) : gName 2 v (x0 :: x1 :: x2 :: σ) H q := h
theorem r_name3 {x0 x1 x2 x3 : Option V} {σ : L2.St} {v : V} {q : L2.St → Hp → Prop} (h : q (x0 :: x1 :: x2 :: some v :: σ) H) : gName 3 v (x0 :: x1 :: x2 :: x3 :: σ) H q := h
theorem r_name4 {x0 x1 x2 x3 x4 : Option V} {σ : L2.St} {v : V} {q : L2.St → Hp → Prop} (h : q (x0 :: x1 :: x2 :: x3 :: some v :: σ) H) : gName 4 v (x0 :: x1 :: x2 :: x3 :: x4 :: σ) H q := h
theorem r_name5 {x0 x1 x2 x3 x4 x5 : Option V} {σ : L2.St} {v : V} {q : L2.St → Hp → Prop} (h : q (x0 :: x1 :: x2 :: x3 :: x4 :: some v :: σ) H) : gName 5 v (x0 :: x1 :: x2 :: x3 :: x4 :: x5 :: σ) H q := h
theorem r_name6 {x0 x1 x2 x3 x4 x5 x6 : Option V} {σ : L2.St} {v : V} {q : L2.St → Hp → Prop} (h : q (x0 :: x1 :: x2 :: x3 :: x4 :: x5 :: some v :: σ) H) : gName 6 v (x0 :: x1 :: x2 :: x3 :: x4 :: x5 :: x6 :: σ) H q := h
theorem r_name7 {x0 x1 x2 x3 x4 x5 x6 x7 : Option V} {σ : L2.St} {v : V} {q : L2.St → Hp → Prop} (h : q (x0 :: x1 :: x2 :: x3 :: x4 :: x5 :: x6 :: some v :: σ) H) : gName 7 v (x0 :: x1 :: x2 :: x3 :: x4 :: x5 :: x6 :: x7 :: σ) H q := h
theorem r_name8 {x0 x1 x2 x3 x4 x5 x6 x7 x8 : Option V} {σ : L2.St} {v : V} {q : L2.St → Hp → Prop} (h : q (x0 :: x1 :: x2 :: x3 :: x4 :: x5 :: x6 :: x7 :: some v :: σ) H) : gName 8 v (x0 :: x1 :: x2 :: x3 :: x4 :: x5 :: x6 :: x7 :: x8 :: σ) H q := h
theorem r_name9 {x0 x1 x2 x3 x4 x5 x6 x7 x8 x9 : Option V} {σ : L2.St} {v : V} {q : L2.St → Hp → Prop} (h : q (x0 :: x1 :: x2 :: x3 :: x4 :: x5 :: x6 :: x7 :: x8 :: some v :: σ) H) : gName 9 v (x0 :: x1 :: x2 :: x3 :: x4 :: x5 :: x6 :: x7 :: x8 :: x9 :: σ) H q := h
theorem r_name10 {x0 x1 x2 x3 x4 x5 x6 x7 x8 x9 x10 : Option V} {σ : L2.St} {v : V} {q : L2.St → Hp → Prop} (h : q (x0 :: x1 :: x2 :: x3 :: x4 :: x5 :: x6 :: x7 :: x8 :: x9 :: some v :: σ) H) : gName 10 v (x0 :: x1 :: x2 :: x3 :: x4 :: x5 :: x6 :: x7 :: x8 :: x9 :: x10 :: σ) H q := h
theorem r_name11 {x0 x1 x2 x3 x4 x5 x6 x7 x8 x9 x10 x11 : Option V} {σ : L2.St} {v : V} {q : L2.St → Hp → Prop} (h : q (x0 :: x1 :: x2 :: x3 :: x4 :: x5 :: x6 :: x7 :: x8 :: x9 :: x10 :: some v :: σ) H) : gName 11 v (x0 :: x1 :: x2 :: x3 :: x4 :: x5 :: x6 :: x7 :: x8 :: x9 :: x10 :: x11 :: σ) H q := h
theorem r_name12 {x0 x1 x2 x3 x4 x5 x6 x7 x8 x9 x10 x11 x12 : Option V} {σ : L2.St} {v : V} {q : L2.St → Hp → Prop} (h : q (x0 :: x1 :: x2 :: x3 :: x4 :: x5 :: x6 :: x7 :: x8 :: x9 :: x10 :: x11 :: some v :: σ) H) : gName 12 v (x0 :: x1 :: x2 :: x3 :: x4 :: x5 :: x6 :: x7 :: x8 :: x9 :: x10 :: x11 :: x12 :: σ) H q := h
theorem r_name13 {x0 x1 x2 x3 x4 x5 x6 x7 x8 x9 x10 x11 x12 x13 : Option V} {σ : L2.St} {v : V} {q : L2.St → Hp → Prop} (h : q (x0 :: x1 :: x2 :: x3 :: x4 :: x5 :: x6 :: x7 :: x8 :: x9 :: x10 :: x11 :: x12 :: some v :: σ) H) : gName 13 v (x0 :: x1 :: x2 :: x3 :: x4 :: x5 :: x6 :: x7 :: x8 :: x9 :: x10 :: x11 :: x12 :: x13 :: σ) H q := h
theorem r_sub {to ti : TE} {ts : TSet} {v : V} {q : L2.St → Hp → Prop} (h : to σ H fun o H1 => ti σ H1 fun i H2 => ts o i v H2 fun H3 => q σ H3) : gSub to ti ts v σ H q := h
theorem r_setL {p : Addr} {xs : List V} {k : Int} {j : Nat} {v : V} {q : Hp → Prop} (h : H p = some (.lst xs)) (e : ixN xs.length k = some j) (s : q (upd H p (.lst (xs.set j v)))) : rSetL (.ref p) (.int k) v H q := ⟨p, xs, k, j, rfl, rfl, h, e, s⟩
theorem r_set0 {p : Addr} {x0 : V} {xs : List V} {v : V} {q : Hp → Prop} (h : H p = some (.lst (x0 :: xs))) (s : q (upd H p (.lst (v :: xs)))) : rSetL (.ref p) (.int 0) v H q := ⟨p, _, 0, 0, rfl, rfl, h, by
  unfold ixN
  rw [if_pos (by decide), if_pos (by simp only [List.length_cons]; omega)]
  rfl, s⟩
theorem r_set0u {p : Addr} {x0 : V} {xs : List V} {v : V} {q : Hp → Prop} (s : q (upd H p (.lst (v :: xs)))) : rSetL (.ref p) (.int 0) v (upd H p (.lst (x0 :: xs))) q := r_set0 upd_same (by
  rw [upd_upd]
  exact s)
theorem r_set1 {p : Addr} {x0 x1 : V} {xs : List V} {v : V} {q : Hp → Prop} (h : H p = some (.lst (x0 :: x1 :: xs))) (s : q (upd H p (.lst (x0 :: v :: xs)))) : rSetL (.ref p) (.int 1) v H q := ⟨p, _, 1, 1, rfl, rfl, h, by
  unfold ixN
  rw [if_pos (by decide), if_pos (by simp only [List.length_cons]; omega)]
  rfl, s⟩
theorem r_set1u {p : Addr} {x0 x1 : V} {xs : List V} {v : V} {q : Hp → Prop} (s : q (upd H p (.lst (x0 :: v :: xs)))) : rSetL (.ref p) (.int 1) v (upd H p (.lst (x0 :: x1 :: xs))) q := r_set1 upd_same (by
  rw [upd_upd]
  exact s)
theorem r_set2 {p : Addr} {x0 x1 x2 : V} {xs : List V} {v : V} {q : Hp → Prop} (h : H p = some (.lst (x0 :: x1 :: x2 :: xs))) (s : q (upd H p (.lst (x0 :: x1 :: v :: xs)))) : rSetL (.ref p) (.int 2) v H q := ⟨p, _, 2, 2, rfl, rfl, h, by
  unfold ixN
  rw [if_pos (by decide), if_pos (by simp only [List.length_cons]; omega)]
  rfl, s⟩
theorem r_set2u {p : Addr} {x0 x1 x2 : V} {xs : List V} {v : V} {q : Hp → Prop} (s : q (upd H p (.lst (x0 :: x1 :: v :: xs)))) : rSetL (.ref p) (.int 2) v (upd H p (.lst (x0 :: x1 :: x2 :: xs))) q := r_set2 upd_same (by
  rw [upd_upd]
  exact s)
theorem r_set3 {p : Addr} {x0 x1 x2 x3 : V} {xs : List V} {v : V} {q : Hp → Prop} (h : H p = some (.lst (x0 :: x1 :: x2 :: x3 :: xs))) (s : q (upd H p (.lst (x0 :: x1 :: x2 :: v :: xs)))) : rSetL (.ref p) (.int 3) v H q := ⟨p, _, 3, 3, rfl, rfl, h, by
  unfold ixN
  rw [if_pos (by decide), if_pos (by simp only [List.length_cons]; omega)]
  rfl, s⟩
theorem r_set3u {p : Addr} {x0 x1 x2 x3 : V} {xs : List V} {v : V} {q : Hp → Prop} (s : q (upd H p (.lst (x0 :: x1 :: x2 :: v :: xs)))) : rSetL (.ref p) (.int 3) v (upd H p (.lst (x0 :: x1 :: x2 :: x3 :: xs))) q := r_set3 upd_same (by
  rw [upd_upd]
  exact s)
theorem r_set4 {p : Addr} {x0 x1 x2 x3 x4 : V} {xs : List V} {v : V} {q : Hp → Prop} (h : H p = some (.lst (x0 :: x1 :: x2 :: x3 :: x4 :: xs))) (s : q (upd H p (.lst (x0 :: x1 :: x2 :: x3 :: v :: xs)))) : rSetL (.ref p) (.int 4) v H q := ⟨p, _, 4, 4, rfl, rfl, h, by
  unfold ixN
  rw [if_pos (by decide), if_pos (by simp only [List.length_cons]; omega)]
  rfl, s⟩
theorem r_set4u {p : Addr} {x0 x1 x2 x3 x4 : V} {xs : List V} {v : V} {q : Hp → Prop} (s : q (upd H p (.lst (x0 :: x1 :: x2 :: x3 :: v :: xs)))) : rSetL (.ref p) (.int 4) v (upd H p (.lst (x0 :: x1 :: x2 :: x3 :: x4 :: xs))) q := r_set4 upd_same (by
  rw [upd_upd]
  exact s)
theorem r_gtup {n : Nat} {g : TGs} {p : Addr} {xs : List V} {q : L2.St → Hp → Prop} (h : SqT K H p xs) (l : xs.length = n) (s : g xs σ H q) : gTup K n g (.ref p) σ H q := ⟨p, xs, rfl, h, l, s⟩
theorem r_gcons {g : TG} {gs : TGs} {v : V} {r : List V} {q : L2.St → Hp → Prop} (h : g v σ H fun σ' H' => gs r σ' H' q) : gCons g gs (v :: r) σ H q := ⟨v, r, rfl, h⟩
theorem r_gnil {q : L2.St → Hp → Prop} (h : q σ H) : gNil [] σ H q := ⟨rfl, h⟩
/-- a test whose answer is open, or known -/
theorem r_ite {p : Prop} [Decidable p] {A B : Prop} (h1 : p → A) (h2 : ¬ p → B) : if decide p = true then A else B := by
  by_cases h : p
  · rw [decide_eq_true h, if_pos rfl]
    exact h1 h
  · rw [decide_eq_false h, if_neg Bool.false_ne_true]
    exact h2 h
theorem r_iteN {p : Prop} [Decidable p] {A B : Prop} (h1 : ¬ p → A) (h2 : p → B) : if (!decide p) = true then A else B := by
  by_cases h : p
  · rw [decide_eq_true h]
    exact iteF (h2 h)
  · rw [decide_eq_false h]
    exact iteT (h1 h)
theorem r_iteB {b : Bool} {A B : Prop} (h1 : b = true → A) (h2 : b = false → B) : if b = true then A else B := by
  cases b with
  | true => exact iteT (h1 rfl)
  | false => exact iteF (h2 rfl)
/-! loops: what is left once the iterated thing is there -/
def ForR (J : It) (g : TG) (tb : TS) (nx : L2.St → Hp → Prop) (Q : VK) (σ : L2.St) (H : Hp) : Prop := ∃ W : Nat → Nat → L2.St → Hp → Prop, (∃ m, W 0 m σ H) ∧ ∀ i m σ H, W i m σ H →
  (J.stop i H ∧ nx σ H) ∨ (J.go i H ∧ ∃ N : L2.St → Hp → Prop, (∀ σ' H', N σ' H' → ∃ m', m' < m ∧ W (i + 1) m' σ' H') ∧ ∀ x H', J.yld i H x H' → g x σ H' fun σ2 H2 => tb ⟨N, Q, nx, N⟩ σ2 H2)
theorem r_for {wi : TI} {g : TG} {tb : TS} (h : wi σ H fun J H1 => ForR J g tb nx Q σ H1) : tFor wi g tb ⟨nx, Q, bk, ct⟩ σ H := h
def Rg1 (R : It → Hp → Prop) (vs : List V) (H : Hp) : Prop := ∃ j : Int, vs = [.int j] ∧ -(2 ^ 62) ≤ j ∧ j < 2 ^ 62 ∧ R (Itr 0 j.toNat) H
def Rg2 (R : It → Hp → Prop) (vs : List V) (H : Hp) : Prop := ∃ i j : Int, vs = [.int i, .int j] ∧ (-(2 ^ 62) ≤ i ∧ i < 2 ^ 62 ∧ -(2 ^ 62) ≤ j ∧ j < 2 ^ 62) ∧ R (Itr i (j - i).toNat) H
theorem r_rng1 {ta : TA} {R : It → Hp → Prop} (h : ta σ H (Rg1 R)) : iRng1 ta σ H R := h
theorem r_rng2 {ta : TA} {R : It → Hp → Prop} (h : ta σ H (Rg2 R)) : iRng2 ta σ H R := h
theorem r_rg1 {j : Int} {R : It → Hp → Prop} (h1 : -4611686018427387904 ≤ j ∧ j < 4611686018427387904) (h : R (Itr 0 j.toNat) H) : Rg1 R [V.int j] H := ⟨j, rfl, h1.1, h1.2, h⟩
theorem r_rg2 {i j : Int} {R : It → Hp → Prop} (h1 : -4611686018427387904 ≤ i ∧ i < 4611686018427387904 ∧ -4611686018427387904 ≤ j ∧ j < 4611686018427387904) (h : R (Itr i (j - i).toNat) H) : Rg2 R [V.int i, V.int j] H := ⟨i, j, rfl, h1, h⟩
def Il (K : PySem.W.Frag) (R : It → Hp → Prop) (x : V) (H : Hp) : Prop := ∃ a, x = .ref a ∧ (∃ xs, SqL K H a xs) ∧ R (Itl K a) H
def Itp (K : PySem.W.Frag) (R : It → Hp → Prop) (x : V) (H : Hp) : Prop := ∃ a, x = .ref a ∧ (∃ xs, SqT K H a xs) ∧ R (Itt K a) H
theorem r_ilist {R : It → Hp → Prop} (h : te σ H (Il K R)) : iList K te σ H R := h
theorem r_itup {R : It → Hp → Prop} (h : te σ H (Itp K R)) : iTup K te σ H R := h
theorem r_il {a : Addr} {xs : List V} {R : It → Hp → Prop} (h : SqL K H a xs) (q : R (Itl K a) H) : Il K R (.ref a) H := ⟨a, rfl, ⟨xs, h⟩, q⟩
theorem r_it {a : Addr} {xs : List V} {R : It → Hp → Prop} (h : SqT K H a xs) (q : R (Itt K a) H) : Itp K R (.ref a) H := ⟨a, rfl, ⟨xs, h⟩, q⟩
theorem forR_range {lo : Int} {n : Nat} {g : TG} {tb : TS} (Pv : Nat → L2.St → Hp → Prop) (h0 : Pv 0 σ H)
    (hs : ∀ (i : Nat) σ H, i < n → Pv i σ H → g (.int (lo + i)) σ H fun σ2 H2 => tb ⟨Pv (i + 1), Q, nx, Pv (i + 1)⟩ σ2 H2) (hd : ∀ σ H, Pv n σ H → nx σ H) : ForR (Itr lo n) g tb nx Q σ H :=
  for_range (D := ⟨nx, Q, nx, nx⟩) Pv h0 hs hd
theorem forR_list {a : Addr} {xs : List V} {g : TG} {tb : TS} (Pv : Nat → L2.St → Hp → Prop) (h0 : Pv 0 σ H) (hl : ∀ i σ H, i ≤ xs.length → Pv i σ H → SqL K H a xs)
    (hs : ∀ (i : Nat) x σ H, xs[i]? = some x → Pv i σ H → g x σ H fun σ2 H2 => tb ⟨Pv (i + 1), Q, nx, Pv (i + 1)⟩ σ2 H2) (hd : ∀ σ H, Pv xs.length σ H → nx σ H) : ForR (Itl K a) g tb nx Q σ H :=
  for_list (D := ⟨nx, Q, nx, nx⟩) Pv h0 hl hs hd
theorem forR_tup {a : Addr} {xs : List V} {g : TG} {tb : TS} (Pv : Nat → L2.St → Hp → Prop) (h0 : Pv 0 σ H) (hl : ∀ i σ H, i ≤ xs.length → Pv i σ H → SqT K H a xs)
    (hs : ∀ (i : Nat) x σ H, xs[i]? = some x → Pv i σ H → g x σ H fun σ2 H2 => tb ⟨Pv (i + 1), Q, nx, Pv (i + 1)⟩ σ2 H2) (hd : ∀ σ H, Pv xs.length σ H → nx σ H) : ForR (Itt K a) g tb nx Q σ H :=
  for_tup (D := ⟨nx, Q, nx, nx⟩) Pv h0 hl hs hd
/-! comprehensions likewise -/
def LcR (J : It) (g : TG) (tt : TT) (te : TE) (vs : List Nat) (σ : L2.St) (D : Addr) (Q : VK) (H1 : Hp) : Prop := ∃ W : Nat → Nat → Hp → Prop, (∃ m, W 0 m (upd H1 D (.lst []))) ∧ ∀ i m H, W i m H →
  (J.stop i H ∧ Q (.ref D) H) ∨ (J.go i H ∧ ∃ Nx : Hp → Prop, (∀ H', Nx H' → ∃ m', m' < m ∧ W (i + 1) m' H') ∧ ∀ x H', J.yld i H x H' → g x (wipe σ vs) H' fun σ2 H2 => wipe σ2 vs = wipe σ vs ∧ tt σ2 H2 fun b H3 =>
    if b = true then te σ2 H3 fun y H4 => ∃ acc, H4 D = some (.lst acc) ∧ acc.length < sizeLine ∧ Nx (upd H4 D (.lst (acc ++ [y]))) else Nx H3)
theorem r_lc {wi : TI} {g : TG} {tt : TT} {vs : List Nat} (h : wi σ H fun J H1 => ∀ D, H1 D = none → LcR J g tt te vs σ D Q H1) : tLc wi g tt te vs σ H Q := h
/-- one turn's end of a comprehension: the item goes to D -/
def LcE (D : Addr) (N : Hp → Prop) (y : V) (H4 : Hp) : Prop := ∃ acc, H4 D = some (.lst acc) ∧ acc.length < sizeLine ∧ N (upd H4 D (.lst (acc ++ [y])))
theorem lcR_range {lo : Int} {n : Nat} {g : TG} {tt : TT} {vs : List Nat} {D : Addr} {σw : L2.St} (Pv : Nat → Hp → Prop) (ew : wipe σ vs = σw) (h0 : Pv 0 (upd H D (.lst [])))
    (hs : ∀ (i : Nat) H, i < n → Pv i H → g (.int (lo + i)) σw H fun σ2 H2 => wipe σ2 vs = σw ∧ tt σ2 H2 fun b H3 => if b = true then te σ2 H3 (LcE D (Pv (i + 1))) else Pv (i + 1) H3) (hd : ∀ H, Pv n H → Q (.ref D) H) :
    LcR (Itr lo n) g tt te vs σ D Q H := by
  subst ew
  exact lc_range (Qd := Q (.ref D)) Pv h0 hs hd
theorem lcR_list {a : Addr} {xs : List V} {g : TG} {tt : TT} {vs : List Nat} {D : Addr} {σw : L2.St} (Pv : Nat → Hp → Prop) (ew : wipe σ vs = σw) (h0 : Pv 0 (upd H D (.lst []))) (hl : ∀ i H, i ≤ xs.length → Pv i H → SqL K H a xs)
    (hs : ∀ (i : Nat) x H, xs[i]? = some x → Pv i H → g x σw H fun σ2 H2 => wipe σ2 vs = σw ∧ tt σ2 H2 fun b H3 => if b = true then te σ2 H3 (LcE D (Pv (i + 1))) else Pv (i + 1) H3) (hd : ∀ H, Pv xs.length H → Q (.ref D) H) :
    LcR (Itl K a) g tt te vs σ D Q H := by
  subst ew
  exact lc_list (Qd := Q (.ref D)) Pv h0 hl hs hd
theorem lcR_tup {a : Addr} {xs : List V} {g : TG} {tt : TT} {vs : List Nat} {D : Addr} {σw : L2.St} (Pv : Nat → Hp → Prop) (ew : wipe σ vs = σw) (h0 : Pv 0 (upd H D (.lst []))) (hl : ∀ i H, i ≤ xs.length → Pv i H → SqT K H a xs)
    (hs : ∀ (i : Nat) x H, xs[i]? = some x → Pv i H → g x σw H fun σ2 H2 => wipe σ2 vs = σw ∧ tt σ2 H2 fun b H3 => if b = true then te σ2 H3 (LcE D (Pv (i + 1))) else Pv (i + 1) H3) (hd : ∀ H, Pv xs.length H → Q (.ref D) H) :
    LcR (Itt K a) g tt te vs σ D Q H := by
  subst ew
  exact lc_tup (Qd := Q (.ref D)) Pv h0 hl hs hd
theorem r_yes {Q : Bool → Hp → Prop} (q : Q true H) : tYes σ H Q := q
theorem r_lce {D : Addr} {N : Hp → Prop} {y : V} {acc : List V} (h : H D = some (.lst acc)) (l : acc.length < sizeLine) (q : N (upd H D (.lst (acc ++ [y])))) : LcE D N y H := ⟨acc, h, l, q⟩
theorem r_int1 {i : Int} (q : Q (.int i) H) : rInt1 [.int i] H Q := .inl ⟨i, rfl, q⟩
theorem r_int1b {b : Bool} (q : Q (.int (if b then 1 else 0)) H) : rInt1 [.bl b] H Q := .inr ⟨b, rfl, q⟩
theorem r_min2 {i j : Int} (q : Q (.int (min i j)) H) : rMin2 [.int i, .int j] H Q := ⟨i, j, rfl, by
  rw [show (if j < i then j else i) = min i j by split <;> omega]
  exact q⟩
theorem r_max2 {i j : Int} (q : Q (.int (max i j)) H) : rMax2 [.int i, .int j] H Q := ⟨i, j, rfl, by
  rw [show (if j > i then j else i) = max i j by split <;> omega]
  exact q⟩
theorem r_lenL {p : Addr} {ys : List V} (h : SqL K H p ys) (q : Q (.int ys.length) H) : rLen K [.ref p] H Q := ⟨p, ys, rfl, .inl h, q⟩
theorem r_lenT {p : Addr} {ys : List V} (h : SqT K H p ys) (q : Q (.int ys.length) H) : rLen K [.ref p] H Q := ⟨p, ys, rfl, .inr h, q⟩
theorem r_listL {p : Addr} {ys : List V} (h : SqL K H p ys) (q : ∀ l, H l = none → Q (.ref l) (upd H l (.lst ys))) : rListOf K [.ref p] H Q := ⟨p, ys, rfl, .inl h, q⟩
theorem r_listT {p : Addr} {ys : List V} (h : SqT K H p ys) (q : ∀ l, H l = none → Q (.ref l) (upd H l (.lst ys))) : rListOf K [.ref p] H Q := ⟨p, ys, rfl, .inr h, q⟩
theorem r_tupL {p : Addr} {ys : List V} (h : SqL K H p ys) (q : ∀ l, H l = none → Q (.ref l) (upd H l (.tup ys))) : rTupOf K [.ref p] H Q := ⟨p, ys, rfl, .inl ⟨h, q⟩⟩
theorem r_tupT {p : Addr} {ys : List V} (h : SqT K H p ys) (q : Q (.ref p) H) : rTupOf K [.ref p] H Q := ⟨p, ys, rfl, .inr ⟨h, q⟩⟩
theorem r_at {N : List PySem.Str} {vs : List V} {t : TS} {D : Ends} (e : L2.start N vs = σ) (h : t D σ H) : t D (L2.start N vs) H := by
  rw [e]
  exact h
/-! methods of lists -/
theorem r_appU {l : Addr} {xs : List V} {y : V} (s : xs.length < sizeLine) (q : Q .non (upd H l (.lst (xs ++ [y])))) : rAppend (.ref l) [y] (upd H l (.lst xs)) Q := ⟨l, xs, y, rfl, rfl, upd_same, s, by
  rw [upd_upd]
  exact q⟩
theorem r_appT {l : Addr} {xs : List V} {y : V} (h : H l = some (.lst xs)) (s : xs.length < sizeLine) (q : Q .non (upd H l (.lst (xs ++ [y])))) : rAppend (.ref l) [y] H Q := ⟨l, xs, y, rfl, rfl, h, s, q⟩
end
theorem at_int {ns : List Int} {p : Int} (h0 : 0 ≤ p) (h1 : p < ns.length) : ∃ c ∈ ns, atI (ns.map V.int) p = some (.int c) := by
  have hlt : p.toNat < ns.length := by omega
  refine ⟨ns[p.toNat], List.getElem_mem hlt, at_of (j := p.toNat) (by omega) ?_⟩
  rw [List.getElem?_map, List.getElem?_eq_getElem hlt]
  rfl
/-- 0 .. n - 1 -/
def rgI (n : Int) : List Int := (List.range n.toNat).map fun (i : Nat) => (i : Int)
theorem rgI_len (n : Int) : (rgI n).length = n.toNat := by
  unfold rgI
  rw [List.length_map, List.length_range]
theorem mem_rgI {n z : Int} : z ∈ rgI n ↔ 0 ≤ z ∧ z < n := by
  unfold rgI
  rw [List.mem_map]
  constructor
  · rintro ⟨i, hi, rfl⟩
    rw [List.mem_range] at hi
    omega
  · rintro ⟨h1, h2⟩
    exact ⟨z.toNat, List.mem_range.mpr (by omega), by omega⟩
theorem rgI_nodup (n : Int) : (rgI n).Nodup := by
  unfold rgI
  exact List.pairwise_map.mpr (List.nodup_range.imp fun {i j} h e => h (by omega))
theorem rgV_rgI (n : Int) : rgV 0 n = (rgI n).map V.int := by
  unfold rgV rgI
  rw [List.map_map, Int.sub_zero]
  refine List.map_congr_left fun i _ => ?_
  show V.int (0 + (i : Int)) = V.int (i : Int)
  rw [Int.zero_add]
theorem r_lRg {H : Hp} {Q : VK} {n : Int} (h0 : 0 ≤ n) (h1 : n ≤ 10000) (q : ∀ p, H p = none → Q (.ref p) (upd H p (.lst ((rgI n).map V.int)))) : LRg Q 0 n H := ⟨.of_le (by omega) (by omega) (by omega) h0, fun p hp => by
  rw [rgV_rgI]
  exact q p hp⟩
theorem small_len {n : Nat} (h : n ≤ 100000) : n ≤ sizeLine := Nat.le_trans h (by decide)
theorem small_lt {n : Nat} (h : n < 100000) : n < sizeLine := Nat.lt_of_lt_of_le h (by decide)

set_option Elab.async false
set_option linter.all false
open PySem PySem.Spec PyProof.Rows L2
/-! ## the mathematics of pairs -/
def rowP (u lo : Int) (k : Nat) : List (Int × Int) := (List.range k).map fun (j : Nat) => (u, lo + (j : Int))
theorem rowP_succ (u lo : Int) (k : Nat) : rowP u lo (k + 1) = rowP u lo k ++ [(u, lo + (k : Int))] := by
  unfold rowP
  rw [List.range_succ, List.map_append]
  rfl
theorem mem_rowP {u lo : Int} {k : Nat} {p : Int × Int} : p ∈ rowP u lo k ↔ p.1 = u ∧ lo ≤ p.2 ∧ p.2 < lo + k := by
  unfold rowP
  rw [List.mem_map]
  constructor
  · rintro ⟨j, hj, rfl⟩
    rw [List.mem_range] at hj
    exact ⟨rfl, by show lo ≤ lo + (j : Int); omega, by show lo + (j : Int) < lo + k; omega⟩
  · obtain ⟨a, b⟩ := p
    rintro ⟨h1, h2, h3⟩
    refine ⟨(b - lo).toNat, List.mem_range.mpr (by simp only at h2 h3; omega), ?_⟩
    simp only at h1 h2 h3 ⊢
    rw [h1, show lo + ((b - lo).toNat : Int) = b by omega]
theorem rowP_asc (u lo : Int) : ∀ k, (rowP u lo k).Pairwise ltP
  | 0 => List.Pairwise.nil
  | k + 1 => by
    rw [rowP_succ]
    refine List.pairwise_append.mpr ⟨rowP_asc u lo k, List.pairwise_singleton _ _, fun p hp q hq => ?_⟩
    obtain ⟨h1, h2, h3⟩ := mem_rowP.mp hp
    rw [List.mem_singleton.mp hq]
    exact .inr ⟨h1, h3⟩
theorem rowP_len (u lo : Int) (k : Nat) : (rowP u lo k).length = k := by
  unfold rowP
  rw [List.length_map, List.length_range]
def preP (n : Nat) : Nat → List (Int × Int)
  | 0 => []
  | i + 1 => preP n i ++ rowP (i : Int) ((i : Int) + 1) (n - 1 - i)
def allP (n : Nat) : List (Int × Int) := preP n n
theorem mem_preP {n : Nat} {p : Int × Int} : ∀ {i : Nat}, i ≤ n → (p ∈ preP n i ↔ 0 ≤ p.1 ∧ p.1 < i ∧ p.1 < p.2 ∧ p.2 < n)
  | 0, _ => by
    constructor
    · intro h
      cases h
    · rintro ⟨h1, h2, _⟩
      have h2 : p.1 < 0 := h2
      omega
  | i + 1, hi => by
    show p ∈ preP n i ++ rowP (i : Int) ((i : Int) + 1) (n - 1 - i) ↔ _
    rw [List.mem_append, mem_preP (by omega : i ≤ n), mem_rowP]
    constructor
    · rintro (⟨h1, h2, h3, h4⟩ | ⟨h1, h2, h3⟩)
      · exact ⟨h1, by omega, h3, h4⟩
      · exact ⟨by omega, by omega, by omega, by omega⟩
    · rintro ⟨h1, h2, h3, h4⟩
      by_cases e : p.1 = (i : Int)
      · exact .inr ⟨e, by omega, by omega⟩
      · exact .inl ⟨h1, by omega, h3, h4⟩
theorem mem_allP {n : Nat} {p : Int × Int} : p ∈ allP n ↔ 0 ≤ p.1 ∧ p.1 < p.2 ∧ p.2 < n := by
  unfold allP
  rw [mem_preP (Nat.le_refl n)]
  omega
theorem preP_asc {n : Nat} : ∀ {i : Nat}, i ≤ n → (preP n i).Pairwise ltP
  | 0, _ => .nil
  | i + 1, hi => by
    show (preP n i ++ rowP (i : Int) ((i : Int) + 1) (n - 1 - i)).Pairwise ltP
    refine List.pairwise_append.mpr ⟨preP_asc (by omega), rowP_asc _ _ _, fun p hp q hq => ?_⟩
    have h1 := (mem_preP (by omega : i ≤ n)).mp hp
    have h2 := mem_rowP.mp hq
    exact .inl (by omega)
theorem allP_asc (n : Nat) : (allP n).Pairwise ltP := preP_asc (Nat.le_refl n)
theorem preP_len {n : Nat} : ∀ {i : Nat}, (preP n i).length ≤ i * n
  | 0 => Nat.zero_le _
  | i + 1 => by
    show (preP n i ++ rowP (i : Int) ((i : Int) + 1) (n - 1 - i)).length ≤ _
    rw [List.length_append, rowP_len, Nat.succ_mul]
    have := preP_len (n := n) (i := i)
    omega
theorem ltP_irrefl (p : Int × Int) : ¬ ltP p p := by
  unfold ltP
  omega
theorem ltP_trans {p q r : Int × Int} (h1 : ltP p q) (h2 : ltP q r) : ltP p r := by
  unfold ltP at *
  omega
theorem ltP_of_le_ne {p q : Int × Int} (h : leP p q) (n : p ≠ q) : ltP p q := by
  obtain ⟨a, b⟩ := p
  obtain ⟨c, d⟩ := q
  unfold leP at h
  unfold ltP
  simp only at *
  by_cases h2 : a = c
  · by_cases h3 : b = d
    · exact absurd (by rw [h2, h3]) n
    · omega
  · omega
theorem asc_nodup {ps : List (Int × Int)} (h : ps.Pairwise ltP) : ps.Nodup := by
  refine List.Pairwise.imp (R := ltP) (fun {p q} h => ?_) h
  intro e
  rw [e] at h
  exact ltP_irrefl q h
/-- two ascending lists of the same members are one -/
theorem asc_ext : ∀ {ps qs : List (Int × Int)}, ps.Pairwise ltP → qs.Pairwise ltP → (∀ p, p ∈ ps ↔ p ∈ qs) → ps = qs
  | [], [], _, _, _ => rfl
  | [], q :: qs, _, _, h => absurd ((h q).mpr List.mem_cons_self) (by simp)
  | p :: ps, [], _, _, h => absurd ((h p).mp List.mem_cons_self) (by simp)
  | p :: ps, q :: qs, h1, h2, h => by
    obtain ⟨a1, a2⟩ := List.pairwise_cons.mp h1
    obtain ⟨b1, b2⟩ := List.pairwise_cons.mp h2
    have e : p = q := by
      rcases List.mem_cons.mp ((h p).mp List.mem_cons_self) with e | e
      · exact e
      · rcases List.mem_cons.mp ((h q).mpr List.mem_cons_self) with e2 | e2
        · exact e2.symm
        · exact absurd (ltP_trans (a1 q e2) (b1 p e)) (ltP_irrefl p)
    subst e
    rw [asc_ext a2 b2 fun r => ?_]
    constructor
    · intro hr
      rcases List.mem_cons.mp ((h r).mp (List.mem_cons_of_mem _ hr)) with e | e
      · rw [e] at hr
        exact absurd (a1 p hr) (ltP_irrefl p)
      · exact e
    · intro hr
      rcases List.mem_cons.mp ((h r).mpr (List.mem_cons_of_mem _ hr)) with e | e
      · rw [e] at hr
        exact absurd (b1 p hr) (ltP_irrefl p)
      · exact e
theorem nodup_le {α : Type} [DecidableEq α] : ∀ (l m : List α), l.Nodup → (∀ x ∈ l, x ∈ m) → l.length ≤ m.length
  | [], _, _, _ => Nat.zero_le _
  | x :: l, m, hn, hs => by
    obtain ⟨h1, h2⟩ := List.nodup_cons.mp hn
    have hx : x ∈ m := hs x List.mem_cons_self
    have ih := nodup_le l (m.erase x) h2 fun y hy => by
      have hne : y ≠ x := by
        intro e
        rw [e] at hy
        exact h1 hy
      exact (List.mem_erase_of_ne hne).2 (hs y (List.mem_cons_of_mem _ hy))
    have e := List.length_erase_of_mem hx
    have p := List.length_pos_of_mem hx
    simp only [List.length_cons]
    omega
/-- what the walk over the sorted rows keeps: ascending, the same members, the same last one -/
structure Ded (qs fs : List (Int × Int)) : Prop where
  asc : fs.Pairwise ltP
  mem : ∀ p, p ∈ fs ↔ p ∈ qs
  last : fs.getLast? = qs.getLast?
theorem Ded.nil : Ded [] [] := ⟨.nil, fun _ => Iff.rfl, rfl⟩
theorem last_snoc {α : Type} (l : List α) (x : α) : (l ++ [x]).getLast? = some x := by simp
/-- the last row again -/
theorem Ded.same {qs fs : List (Int × Int)} {q : Int × Int} (D : Ded qs fs) (h : fs.getLast? = some q) : Ded (qs ++ [q]) fs := by
  refine ⟨D.asc, fun p => ?_, by rw [last_snoc, h]⟩
  rw [List.mem_append, List.mem_singleton, D.mem]
  constructor
  · exact .inl
  · rintro (z | z)
    · exact z
    · rw [z, ← D.mem]
      exact List.mem_of_getLast? h
/-- another one -/
theorem Ded.more {qs fs : List (Int × Int)} {q : Int × Int} (D : Ded qs fs) (hl : (qs ++ [q]).Pairwise leP) (h : fs.getLast? ≠ some q) : Ded (qs ++ [q]) (fs ++ [q]) := by
  refine ⟨?_, fun p => ?_, by rw [last_snoc, last_snoc]⟩
  · refine List.pairwise_append.mpr ⟨D.asc, List.pairwise_singleton _ _, fun p hp r hr => ?_⟩
    rw [List.mem_singleton.mp hr]
    obtain ⟨l1, _, l3⟩ := List.pairwise_append.mp hl
    have hle : ∀ z ∈ qs, leP z q := fun z hz => l3 z hz q (List.mem_singleton.mpr rfl)
    -- fs is not empty; its last one is not q
    obtain ⟨z, hz⟩ : ∃ z, fs.getLast? = some z := by
      cases e : fs.getLast? with
      | some z => exact ⟨z, rfl⟩
      | none =>
        rw [List.getLast?_eq_none_iff] at e
        rw [e] at hp
        cases hp
    have zq : ltP z q := ltP_of_le_ne (hle z ((D.mem z).mp (List.mem_of_getLast? hz))) fun e => h (by rw [hz, e])
    obtain ⟨pre, e⟩ : ∃ pre, fs = pre ++ [z] := by
      obtain ⟨hne, e⟩ := List.getLast?_eq_some_iff.mp hz
      exact ⟨_, e⟩
    rw [e] at hp
    rcases List.mem_append.mp hp with h1 | h1
    · have a := D.asc
      rw [e] at a
      exact ltP_trans ((List.pairwise_append.mp a).2.2 p h1 z (List.mem_singleton.mpr rfl)) zq
    · rw [List.mem_singleton.mp h1]
      exact zq
  · rw [List.mem_append, List.mem_append, D.mem]
theorem sz1 {a : V} : [a].length ≤ sizeLine := by show 1 ≤ sizeLine; decide
theorem sz2 {a b : V} : [a, b].length ≤ sizeLine := by show 2 ≤ sizeLine; decide
theorem sz3 {a b c : V} : [a, b, c].length ≤ sizeLine := by show 3 ≤ sizeLine; decide
theorem sz4 {a b c d : V} : [a, b, c, d].length ≤ sizeLine := by show 4 ≤ sizeLine; decide
theorem sz5 {a b c d e : V} : [a, b, c, d, e].length ≤ sizeLine := by show 5 ≤ sizeLine; decide
theorem at_last {zs : List V} {z : V} (h : zs.getLast? = some z) : atI zs (-1) = some z := by
  obtain ⟨pre, e⟩ := List.getLast?_eq_some_iff.mp h
  rw [e]
  exact atI_last _ _
theorem pd_last {α β : Type} {F : α → β → Prop} {xs : List α} {ps : List β} {p : β} (h : Paired F xs ps) (hp : ps.getLast? = some p) : ∃ x, xs.getLast? = some x ∧ F x p := by
  rw [List.getLast?_eq_getElem?] at hp
  obtain ⟨x, hx, f⟩ := pd_get2 h hp
  refine ⟨x, ?_, f⟩
  rw [List.getLast?_eq_getElem?, h.length]
  exact hx
section
variable {K : PySem.W.Frag} {H : Hp} {Q : VK}
theorem r_eqNil {f e : Addr} {xs : List V} {ps : List (Int × Int)} (h : H f = some (.lst xs)) (he : H e = some (.lst [])) (hp : Prs H xs ps) (q : Q (.bl (decide (ps = []))) H) : rEqD K (.ref f) (.ref e) H Q := by
  refine ⟨.list (ps.map prD2), .list [], .lst (.inl (.inl h)) hp.dps, .lst (.inl (.inl he)) .nil, prD2s_shL ps, prD2s_shL [], ?_⟩
  cases ps with
  | nil => exact q
  | cons p ps => exact q
theorem r_neP {x y : V} {p r : Int × Int} (hx : IsP H x p) (hy : IsP H y r) (q : Q (.bl (!decide (p = r))) H) : rNeD K x y H Q :=
  ⟨prD2 p, prD2 r, hx.dp, hy.dp, prD2_shaped p, prD2_shaped r, by rw [prD2_eqv]; exact q⟩
end
/-- a pair with its less end first -/
def nrm (p : Int × Int) : Int × Int := (min p.1 p.2, max p.1 p.2)
/-- a graph: the number of vertices, the ascending edges -/
structure GoodG (n : Int) (ps : List (Int × Int)) : Prop where
  one : 1 ≤ n
  asc : ps.Pairwise ltP
  inn : ∀ p ∈ ps, 0 ≤ p.1 ∧ p.1 < p.2 ∧ p.2 < n

set_option Elab.async false
set_option linter.all false
set_option maxRecDepth 100000
set_option maxHeartbeats 4000000
open PySem PySem.Spec PyProof.Rows L2
/-! # sets of tuples that a comprehension lays -/
section
variable {X : Cx}
/-- D takes the tuple y in -/
def AdT (K : PySem.W.Frag) (P : Program) (w : World) (D : Addr) (N : Hp → Prop) : V → Hp → Prop := fun y H => ∃ (b : Addr) (k : List Int) (L : List (Addr × List Int)), y = .ref b ∧ SqT K H b (k.map V.int) ∧ H D = some (SetTO P w D L) ∧
  (∀ p ∈ L, SqT K H p.1 (p.2.map V.int)) ∧ L.length + 1 < 64 ∧ ∀ L', (k ∈ L.map (·.2) → L' = L) → (k ∉ L.map (·.2) → L'.Perm ((b, k) :: L)) → N (upd H D (SetTO P w D L'))
theorem addT_ok {pins : List (Addr × Obj)} {σ : L2.St} {H : Hp} {s : Shared} {E : Value → Shared → Prop} {D : Addr} {N : Hp → Prop} {y : V} {u : Value} {Q : Value → Shared → Prop} (hu : X.A.units + 64 < cLine) (I : Inv X pins σ H s) (r : RelV y u)
    (h : AdT X.K X.prog X.w D N y H) (q : ∀ s' H', Inv X pins σ H' s' → N H' → Q .none s') : wpAny (model X.prog X.w) X.A (call (.builtin "set.add") [.ref D, u]) Q E s := by
  obtain ⟨b, k, L, rfl, hb, hD, hL, few, n⟩ := h
  cases r
  have R0 : SetT0 X.prog X.w s.heap D L := (I.hok D _ hD).1
  obtain ⟨es, ep, t, R⟩ := R0.full fun p hp => I.isT (hL p hp)
  have hx := I.isT hb
  have ty : s.TypeIs (.ref D) "set" := by
    obtain ⟨o, ho, hex, _⟩ := R.ob
    exact ⟨o, ho, hex.1⟩
  refine wpAny_call_entry F.slot_set_add ty F.entry_set_add ?_ (F.args_set_add_2 _ _)
  unfold Builtin.«set.add» Builtin.Frozenset.oneOther Builtin.Frozenset.addrOf setAdd
  simp only [List.isEmpty_nil, bind_assoc]
  refine (wpAny_bind (wpAny_pure ?_)); (try dsimp only)
  refine (wpAny_bind (wpAny_pure ?_)); (try dsimp only)
  refine (wpAny_bind ?_); refine (wpAny_holding ?_)
  refine (wpAny_bind (wpAny_pyHash_tuple (by rw [Around.in1_units]; omega) hx ?_))
  refine add_at (s := { s with toks := s.toks + (k.length + 1) }) R hx (by rw [Around.in1_units]; omega) few fun _ h' L' es' ep' t' sb R' same more => ?_
  show wpAny _ _ (ret Value.none) _ _ _
  have he : ∃ o, h'.get? D = some o := by
    obtain ⟨o, ho, _⟩ := R'.ob
    exact ⟨o, ho⟩
  exact wpAny_pure ⟨_, rfl, q _ _ (I.write (e := D) (t' := s.toks + (k.length + 1)) (by rw [hD]; trivial) (.inl rfl) (fun c o hc ho => (sb.2 c hc).trans ho) he (setTO_new R'.t0)) (n L' same more)⟩
/-- the set's own reading: what is met, turn by turn -/
def ScR (K : PySem.W.Frag) (P : Program) (w : World) (J : It) (g : TG) (tt : TT) (te : TE) (vs : List Nat) (σ : L2.St) (D : Addr) (Q : VK) (H1 : Hp) : Prop := ∃ W : Nat → Nat → Hp → Prop, (∃ m0, W 0 m0 (upd H1 D (SetTO P w D []))) ∧ ∀ i m H, W i m H →
  (J.stop i H ∧ Q (.ref D) H) ∨ (J.go i H ∧ ∃ Nx : Hp → Prop, (∀ H', Nx H' → ∃ m', m' < m ∧ W (i + 1) m' H') ∧ ∀ x H', J.yld i H x H' → g x (wipe σ vs) H' fun σ2 H2 => wipe σ2 vs = wipe σ vs ∧ tt σ2 H2 fun b H3 => if b = true then te σ2 H3 (AdT K P w D Nx) else Nx H3)
def tST (K : PySem.W.Frag) (P : Program) (w : World) (wi : TI) (g : TG) (tt : TT) (te : TE) (vs : List Nat) : TE := fun σ H Q => wi σ H fun J H1 => ∀ D, H1 D = none → ScR K P w J g tt te vs σ D Q H1
theorem freshT {H : Hp} {h : Heap} {D : Addr} {P : Program} {w : World} (e : h.objs.size = D) : ObjOk P w H (h.push { cls := .type "set", dict := none, data := .set #[] 0 (.fresh 0 0 (!w.params.followText "set-order")) }) D (SetTO P w D []) := by
  subst e
  exact setTO_new (setTR_fresh (Heap.get?_push_size _ rfl)).t0
variable {elt tg iter : Expr} {ifs : List Expr} {scope : Scope} {own : List (PySem.Str × Nat)} {pos : Pos} {wi : TI} {g : TG} {tt : TT} {te : TE}
theorem pe_setT (hu : X.A.units + 64 < cLine) (hc : X.calm = true) (hN : X.N.Nodup) (hi : PI X tg iter wi) (ok : BlkOk X.N X.env.scope scope own)
    (hg : ∀ (s0 : Shared) (H0 : Hp) (C0 : Addr) (l0 : List (PySem.Str × Addr)) (fp : List Addr), PG (X.blk s0 H0 scope (compEnvC scope l0 C0 X.env) fp) tg g)
    (ht : ∀ (s0 : Shared) (H0 : Hp) (C0 : Addr) (l0 : List (PySem.Str × Addr)) (fp : List Addr), PTs (X.blk s0 H0 scope (compEnvC scope l0 C0 X.env) fp) ifs tt)
    (he : ∀ (s0 : Shared) (H0 : Hp) (C0 : Addr) (l0 : List (PySem.Str × Addr)) (fp : List Addr), PE (X.blk s0 H0 scope (compEnvC scope l0 C0 X.env) fp) elt te)
    (hs : ∀ x, foldedSetIterable iter X.env x = pure x := by intro _; rfl) :
    PE X (.SetComp elt [⟨tg, iter, ifs, 0⟩] scope pos) (tST X.K X.prog X.w wi g tt te (own.map (·.2))) := by
  refine ⟨fun pins s σ H Q I h => ?_⟩
  rw [PpSet.eval_SetComp]
  have hfr : ∀ y ∈ scope.names, y.2 = .free → ∃ c, X.env.cells.lookup y.1 = some c := fun y hy e => (ok.free y hy e).elim (fun k => I.ok.has _ (.inl k)) (fun k => I.ok.has _ (.inr k))
  refine wpAny_comprehension_free (use := none) rfl hs (closure_ok hfr) ok.kind (fun y hy e => by rw [ok.uniq y hy, e]) (thn (hi.run pins s σ H _ I h) fun xv s1 hx => thn hx fun itv s2 h2 => ?_)
  obtain ⟨it, fp, tn, J, H2, e2, I2, T, st2, f2, q⟩ := h2
  subst e2
  refine PpSet.newSet_ok (newEnv_comp ?_)
  generalize hD : s2.heap.objs.size = D
  have dn : H2 D = none := I2.hok.fresh (Nat.le_of_eq hD)
  obtain ⟨W, ⟨m0, w0⟩, turn⟩ := q D dn
  let ob : Obj := { cls := .type "set", dict := none, data := .set #[] 0 (.fresh 0 0 (!X.w.params.followText "set-order")) }
  show codeAny _ _ _ _ ({ ({ s2 with heap := s2.heap.push ob } : Shared) with heap := _ } : Shared)
  generalize es3 : ({ s2 with heap := s2.heap.push ob } : Shared) = s3
  have hp3 : s3.heap = s2.heap.push ob := by rw [← es3]
  let H3 : Hp := upd H2 D (SetTO X.prog X.w D [])
  have J3 : Inv X pins σ H3 s3 := by
    rw [← es3]
    exact I2.laid (t' := s2.toks) (fun b o e => Heap.get?_push_of_some _ e) (Nat.le_of_eq hD) (freshT hD)
  have lt : ∀ b ∈ fp, b < s2.heap.objs.size := fun b hb => by
    obtain ⟨o, e, _⟩ := T.obj _ _ st2 b hb
    exact Heap.lt_size e
  have F3 : ∀ b ∈ fp, FpOk X pins H3 b ∧ b < s3.heap.objs.size := fun b hb => by
    have l1 := lt b hb
    refine ⟨⟨?_, (f2 b hb).2⟩, by rw [hp3, Heap.size_push]; exact Nat.lt_succ_of_lt l1⟩
    show upd H2 D _ b = none
    rw [upd_ne (Nat.ne_of_lt (hD ▸ l1))]
    exact (f2 b hb).1
  have st3 : tn 0 s3.heap := T.keep _ _ _ st2 fun b _ o e => by rw [hp3]; exact Heap.get?_push_of_some _ e
  have J4 := block_start J3 ok hN F3
  have pg := hg s3 H3 s3.heap.objs.size (cellsFrom (s3.heap.objs.size + 1) scope.names (cloFrom X.env.cells scope.names [])) fp
  have pt := ht s3 H3 s3.heap.objs.size (cellsFrom (s3.heap.objs.size + 1) scope.names (cloFrom X.env.cells scope.names [])) fp
  have pe := he s3 H3 s3.heap.objs.size (cellsFrom (s3.heap.objs.size + 1) scope.names (cloFrom X.env.cells scope.names [])) fp
  show codeAny _ _ (.compStart (.SetComp elt [⟨tg, iter, ifs, 0⟩] scope pos) 0 (.ref it) (.ref D) (compEnvC scope (cellsFrom (s3.heap.objs.size + 1) scope.names (cloFrom X.env.cells scope.names [])) s3.heap.objs.size X.env)) _ { s3 with heap := pushCells (s3.heap.push { cls := .type "dict", data := .dict #[] }) scope.names }
  generalize ece : compEnvC scope (cellsFrom (s3.heap.objs.size + 1) scope.names (cloFrom X.env.cells scope.names [])) s3.heap.objs.size X.env = ce at J4 pg pt pe ⊢
  have ceL : ce.locals = s3.heap.objs.size := by rw [← ece]; rfl
  generalize es4 : ({ s3 with heap := pushCells (s3.heap.push { cls := .type "dict", data := .dict #[] }) scope.names } : Shared) = s4 at J4 ⊢
  have st4 : tn 0 s4.heap := T.keep _ _ _ st3 fun b _ o e => by rw [← es4]; exact pushCells_keeps _ _ _ _ (Heap.get?_push_of_some _ e)
  let Y : Cx := X.blk s3 H3 scope ce fp
  have fpOf : ∀ {σ' : L2.St} {H' : Hp} {s' : Shared}, Inv Y [] σ' H' s' → (∀ b ∈ fp, H' b = none) → ∀ b ∈ fp, FpOk Y [] H' b := fun {σ' H' s'} I' hn b hb =>
    ⟨hn b hb, (I'.ok.exf b hb).1, I'.ok.exfs b hb, .inl hb, fun x c e => (I'.ok.exf b hb).2 x c e, fun p hp => absurd (show p ∈ ([] : List (Addr × Obj)) ++ [] from hp) (by simp)⟩
  refine (fun loop => PpSet.codeAny_compStart_set loop (T.self X.A 0 _ _ _ st4 loop)) ?_
  refine PpSet.compLoopS_any (fun n s' => ∃ i H', Inv Y [] (wipe σ (own.map (·.2))) H' s' ∧ tn i s'.heap ∧ (∀ b ∈ fp, H' b = none) ∧ W i n H') ?_ m0 ⟨0, H3, J4, st4, fun b hb => (F3 b hb).1.1, w0⟩
  rintro n s5 ⟨i, H5, J5, st5, n5, w5⟩
  rcases turn i n H5 w5 with ⟨stop, qq⟩ | ⟨go, Nx, hNx, step⟩
  · -- the end
    refine thnF (T.done Y rfl rfl rfl hc i [] s5 _ H5 (fun _ _ => False) J5 (fpOf J5 n5) st5 stop) fun r s6 ⟨hr, J6⟩ => ?_
    subst hr
    have J7 : Inv X pins σ H5 s6 := J3.call' (ch := fp) J6.os J6.base J6.hok J6.bare fun b hb => ⟨(F3 b hb).1.2.2.2.1, (F3 b hb).1.2.1, (F3 b hb).1.2.2.2.2.1, (F3 b hb).1.2.2.2.2.2⟩
    have nC : H5 s3.heap.objs.size = none := ceL ▸ (show H5 ce.locals = none from J6.free)
    obtain ⟨mm, hn, _⟩ := J6.loc
    refine ⟨mm, ceL ▸ (show s6.heap.Ns ce.locals mm from hn), fun h'' sb => ?_⟩
    obtain ⟨f0, f1, f2, f3, f4, f5⟩ := J3.fpOk (Nat.le_refl _) nC
    exact ⟨.ref D, H5, J7.turned (t' := s6.toks) (fun b o hb e => (sb.2 b hb).trans e) f0 f1 f3 f4 f5, rfl, qq⟩
  · -- a turn
    refine thnF (T.item Y rfl rfl rfl hc i [] s5 _ H5 (fun _ _ => False) J5 (fpOf J5 n5) st5 go) fun r s6 ⟨u, hr, h6⟩ => ?_
    subst hr
    refine thnF h6 fun _ s7 ⟨x, H7, J7, r7, y7, st7, n7⟩ => ?_
    have J8 := J7.pinned (fpOf J7 n7) (T.obj _ _ st7)
    refine thnF (pg.run _ s7 _ H7 x u _ J8 r7 (step x H7 y7)) fun _ s8 ⟨σ8, H8, J9, hw8, q8⟩ => ?_
    refine thnF (pt.run _ s8 σ8 H8 _ J9 q8) fun b s9 ⟨H9, Ja, q9⟩ => ?_
    have fin : ∀ (s' : Shared) (H' : Hp), Inv Y ([] ++ pinsAt fp s7.heap) σ8 H' s' → Nx H' → ∃ m, m < n ∧ ∃ i H', Inv Y [] (wipe σ (own.map (·.2))) H' s' ∧ tn i s'.heap ∧ (∀ b ∈ fp, H' b = none) ∧ W i m H' := fun s' H' Jz nx => by
      obtain ⟨m', hm, w'⟩ := hNx H' nx
      have pin : ∀ b ∈ fp, ∀ o, s7.heap.get? b = some o → s'.heap.get? b = some o ∧ H' b = none := fun b hb o e => by
        have z := Jz.pin (b, o) (List.mem_append_right _ (List.mem_append_right _ (mem_pinsAt hb e)))
        exact ⟨z.1, z.2.1⟩
      have hlen : (wipe σ (own.map (·.2))).length = σ8.length := by rw [← hw8, wipe_length]
      refine ⟨m', hm, i + 1, H', (Jz.unpinned (pins := [])).weak hlen (fun j v e => ?_), T.keep _ _ _ st7 fun b hb o e => (pin b hb o e).1, fun b hb => ?_, w'⟩
      · rw [← hw8] at e
        exact (wipe_some e).1
      · obtain ⟨o, e, _⟩ := T.obj _ _ st7 b hb
        exact (pin b hb o e).2
    cases b with
    | false =>
      simp only [Bool.false_eq_true, if_false] at q9 ⊢
      exact fin _ _ Ja q9
    | true =>
      simp only [if_true] at q9 ⊢
      refine thnF (pe.run _ s9 σ8 H9 _ Ja q9) fun z s10 ⟨yv, Hb, Jb, rb, ad⟩ => ?_
      exact addT_ok (X := Y) hu Jb rb ad fin
end
section
variable {X : Cx} {K : PySem.W.Frag} {P : Program} {w : World}
theorem PE.setK {e : Expr} {wi : TI} {g : TG} {tt : TT} {te : TE} {vs : List Nat} (h1 : X.K = K) (h2 : X.prog = P) (h3 : X.w = w) (p : PE X e (tST X.K X.prog X.w wi g tt te vs)) : PE X e (tST K P w wi g tt te vs) := h1 ▸ h2 ▸ h3 ▸ p
theorem cr_sortedTK (h1 : X.K = K) (h2 : X.prog = P) (h3 : X.w = w) (hc : X.calm = true) : CallR X (.builtin "sorted") (rSortedT K P w) := h1 ▸ h2 ▸ h3 ▸ cr_sortedT hc
variable {σ : L2.St} {H : Hp} {Q : VK}
theorem r_set {wi : TI} {g : TG} {tt : TT} {te : TE} {vs : List Nat} (h : wi σ H fun J H1 => ∀ D, H1 D = none → ScR K P w J g tt te vs σ D Q H1) : tST K P w wi g tt te vs σ H Q := h
theorem scR_list {a : Addr} {xs : List V} {g : TG} {tt : TT} {te : TE} {vs : List Nat} {D : Addr} {σw : L2.St} (Pv : Nat → Hp → Prop) (ew : wipe σ vs = σw) (h0 : Pv 0 (upd H D (SetTO P w D []))) (hl : ∀ i H, i ≤ xs.length → Pv i H → SqL K H a xs)
    (hs : ∀ (i : Nat) x H, xs[i]? = some x → Pv i H → g x σw H fun σ2 H2 => wipe σ2 vs = σw ∧ tt σ2 H2 fun b H3 => if b = true then te σ2 H3 (AdT K P w D (Pv (i + 1))) else Pv (i + 1) H3) (hd : ∀ H, Pv xs.length H → Q (.ref D) H) :
    ScR K P w (Itl K a) g tt te vs σ D Q H := by
  subst ew
  refine ⟨fun i m H => (m = xs.length - i ∧ i ≤ xs.length) ∧ Pv i H, ⟨_, ⟨rfl, Nat.zero_le _⟩, h0⟩, fun i m H ⟨⟨em, hi⟩, p⟩ => ?_⟩
  subst em
  have hq := hl i H hi p
  rcases Nat.lt_or_ge i xs.length with c | c
  · exact .inr ⟨⟨xs, xs[i], hq, List.getElem?_eq_getElem c⟩, Pv (i + 1), fun H' p' => ⟨_, by omega, ⟨rfl, c⟩, p'⟩, fun x H' ⟨e, y⟩ => e ▸ hs i x _ (y xs hq) p⟩
  · have e : i = xs.length := by omega
    exact .inl ⟨⟨xs, hq, c⟩, hd H (e ▸ p)⟩
theorem TK.setO {L : List (Addr × List Int)} {D a : Addr} {o : HO} (h : H D = some (SetTO P w a L)) : TK H (upd H D o) := fun b xs e => by
  rw [upd_ne (fun n => by rw [n, h] at e; cases e)]
  exact e
/-- the set of these pairs -/
def SetP (P : Program) (w : World) (H : Hp) (D : Addr) (qs : List (Int × Int)) : Prop := ∃ L, H D = some (SetTO P w D L) ∧ (∀ p ∈ L, H p.1 = some (.tup (p.2.map V.int))) ∧ (∀ k, k ∈ L.map (·.2) ↔ ∃ q ∈ qs, k = [q.1, q.2]) ∧ L.length ≤ qs.length
theorem setP_nil {D : Addr} : SetP P w (upd H D (SetTO P w D [])) D [] := ⟨[], upd_same, fun p h => (by cases h), fun k => by simp, Nat.le_refl _⟩
theorem SetP.tk {H' : Hp} {D : Addr} {qs : List (Int × Int)} (h : SetP P w H D qs) (k : TK H H') (e : H' D = H D) : SetP P w H' D qs := by
  obtain ⟨L, h1, h2, h3⟩ := h
  exact ⟨L, e.trans h1, fun p hp => k _ _ (h2 p hp), h3⟩
theorem SetP.add {D : Addr} {qs : List (Int × Int)} {y : V} {q : Int × Int} {N : Hp → Prop} (h : SetP P w H D qs) (hy : IsP H y q) (few : qs.length ≤ 62) (n : ∀ o, SetP P w (upd H D o) D (qs ++ [q]) → N (upd H D o)) : AdT K P w D N y H := by
  obtain ⟨L, h1, h2, h3, h4⟩ := h
  obtain ⟨t, rfl, ht⟩ := hy
  refine ⟨t, [q.1, q.2], L, rfl, .inl (.inl ht), h1, fun p hp => .inl (.inl (h2 p hp)), by omega, fun L' c1 c2 => n _ ⟨L', upd_same, ?_⟩⟩
  have tk : TK H (upd H D (SetTO P w D L')) := .setO h1
  by_cases c : [q.1, q.2] ∈ L.map (·.2)
  · rw [c1 c]
    refine ⟨fun p hp => ?_, fun k => ?_, by rw [List.length_append]; omega⟩
    · have := tk _ _ (h2 p hp)
      rw [c1 c] at this
      exact this
    · rw [h3]
      constructor
      · rintro ⟨r, hr, e⟩
        exact ⟨r, List.mem_append_left _ hr, e⟩
      · rintro ⟨r, hr, e⟩
        rcases List.mem_append.mp hr with z | z
        · exact ⟨r, z, e⟩
        · rw [List.mem_singleton.mp z] at e
          exact (h3 k).mp (e ▸ c)
  · have pm := c2 c
    refine ⟨fun p hp => ?_, fun k => ?_, ?_⟩
    · rcases List.mem_cons.mp (pm.mem_iff.mp hp) with z | z
      · rw [z]
        exact tk _ _ ht
      · exact tk _ _ (h2 p z)
    · rw [(pm.map (·.2)).mem_iff, List.map_cons, List.mem_cons, h3]
      constructor
      · rintro (e | ⟨r, hr, e⟩)
        · exact ⟨q, List.mem_append_right _ (List.mem_singleton.mpr rfl), e⟩
        · exact ⟨r, List.mem_append_left _ hr, e⟩
      · rintro ⟨r, hr, e⟩
        rcases List.mem_append.mp hr with z | z
        · exact .inr ⟨r, z, e⟩
        · rw [List.mem_singleton.mp z] at e
          exact .inl e
    · rw [pm.length_eq, List.length_cons, List.length_append]
      simp only [List.length_cons, List.length_nil]
      omega
/-- the pairs of a set, in their order -/
theorem r_sortT {D : Addr} {qs : List (Int × Int)} (h : SetP P w H D qs) (bd : ∀ q ∈ qs, 0 ≤ q.1 ∧ q.1 < 64 ∧ 0 ≤ q.2 ∧ q.2 < 64)
    (q : ∀ p xs ps, H p = none → Prs H xs ps → ps.Pairwise ltP → (∀ r, r ∈ ps ↔ r ∈ qs) → ps.length ≤ qs.length → Q (.ref p) (upd H p (.lst xs))) : rSortedT K P w [.ref D] H Q := by
  obtain ⟨L, h1, h2, h3, h4⟩ := h
  have two : ∀ p ∈ L, ∃ r ∈ qs, p.2 = [r.1, r.2] := fun p hp => (h3 p.2).mp (List.mem_map_of_mem hp)
  refine ⟨D, L, 2, 64, rfl, h1, fun p hp => .inl (.inl (h2 p hp)), by decide, fun p hp => ?_, fun L' p pm nd few asc hp => ?_⟩
  · obtain ⟨r, hr, e⟩ := two p hp
    obtain ⟨b1, b2, b3, b4⟩ := bd r hr
    rw [e]
    refine ⟨rfl, fun m hm => ?_⟩
    rcases List.mem_cons.mp hm with z | z
    · exact ⟨by omega, by omega⟩
    · have := List.mem_singleton.mp z
      exact ⟨by omega, by omega⟩
  · let pr : Addr × List Int → Int × Int := fun x => (x.2.getD 0 0, x.2.getD 1 0)
    have two' : ∀ x ∈ L', ∃ r ∈ qs, x.2 = [r.1, r.2] ∧ pr x = r := fun x hx => by
      obtain ⟨r, hr, e⟩ := two x (pm.mem_iff.mp hx)
      refine ⟨r, hr, e, ?_⟩
      show (x.2.getD 0 0, x.2.getD 1 0) = r
      rw [e]
      rfl
    refine q p _ (L'.map pr) hp ?_ ?_ (fun r => ?_) (by rw [List.length_map, pm.length_eq]; exact h4)
    · have : ∀ l : List (Addr × List Int), (∀ x ∈ l, x ∈ L') → Prs H (l.map fun q => V.ref q.1) (l.map pr) := by
        intro l
        induction l with
        | nil => exact fun _ => .nil
        | cons x l ih =>
          intro hl
          obtain ⟨r, hr, e, e2⟩ := two' x (hl x List.mem_cons_self)
          refine .cons ⟨x.1, rfl, ?_⟩ (ih fun z hz => hl z (List.mem_cons_of_mem _ hz))
          have e3 := h2 x (pm.mem_iff.mp (hl x List.mem_cons_self))
          rw [e3, e, e2]
          rfl
      exact this L' fun x hx => hx
    · rw [List.pairwise_map]
      have nd' := List.pairwise_map.mp nd
      refine List.Pairwise.imp_of_mem ?_ (List.pairwise_and_iff.mpr ⟨asc, nd'⟩)
      rintro x z hx hz ⟨c, ne⟩
      obtain ⟨r, hr, e, e2⟩ := two' x hx
      obtain ⟨t, ht, f, f2⟩ := two' z hz
      obtain ⟨b1, b2, b3, b4⟩ := bd r hr
      obtain ⟨c1, c2, c3, c4⟩ := bd t ht
      rw [e, f] at c
      have ne2 : ([r.1, r.2] : List Int) ≠ [t.1, t.2] := fun y => ne (by rw [e, f, y])
      rw [e2, f2]
      exact pair_lt c ne2 ⟨b1, b2⟩ ⟨b3, b4⟩ ⟨c1, c2⟩ ⟨c3, c4⟩
    · rw [List.mem_map]
      constructor
      · rintro ⟨x, hx, rfl⟩
        obtain ⟨t, ht, f, f2⟩ := two' x hx
        rw [f2]
        exact ht
      · intro hr
        obtain ⟨x, hx, e⟩ := List.mem_map.mp ((h3 [r.1, r.2]).mpr ⟨r, hr, rfl⟩)
        refine ⟨x, pm.mem_iff.mpr hx, ?_⟩
        show (x.2.getD 0 0, x.2.getD 1 0) = r
        rw [e]
        rfl
end
section
variable {P : Program} {w : World} {K : PySem.W.Frag} {mg : Str → Option Value} {base : Heap}
/-- a promise that nothing keeps to is kept -/
theorem fn_none {k : Nat} {f : Addr} {fd : FuncData} {ps : List PySem.Str} {CX : CXT} : FnOk P w K mg base CX k f fd ps (fun _ _ _ _ => False) := ⟨fun _ _ _ _ h => h.elim, fun _ _ _ _ _ _ _ _ _ _ _ _ _ h => h.elim⟩
theorem r_ixE {H : Hp} {Q : VK} {l : Addr} {xs : List V} {i : Int} {v : V} (h : SqL K H l xs ∨ SqT K H l xs) (e : atI xs i = some v) (q : Q v H) : rIxL K (.ref l) (.int i) H Q ∨ rIxT K (.ref l) (.int i) H Q := by
  rcases h with h | h
  · exact .inl (r_ixL h e q)
  · exact .inr (r_ixT h e q)
end

set_option Elab.async false
set_option linter.all false
set_option maxRecDepth 100000
set_option maxHeartbeats 4000000
open PySem PySem.Spec PyProof.Rows L2
/-- an own error's class -/
structure ExcD (K : PySem.W.Frag) (mg : Str → Option Value) (x : Str) where
  C : Addr
  g : mg x = some (.ref C)
  k : PySem.W.keepIn K (.ref C) = true
  q : PySem.W.excIn K C [.type "ValueError", .type "Exception", .type "BaseException", .type "object"] "ValueError.__new__" = true
  ex : PySem.W.subIn K (.ref C) (.type "BaseException") = some true
  ty : PySem.W.typeIn K (.ref C) = some (.type "type")
  me : PySem.W.subIn K (.ref C) (.ref C) = some true
  cc : ExcC K C
section
variable {K : PySem.W.Frag} {mg : Str → Option Value} {x : Str}
theorem ExcD.exm (D : ExcD K mg x) : PySem.W.exmOne K (.ref D.C) (.ref D.C) = some true := PySem.W.exm_ref D.ex D.cc.hd D.ty D.me
/-- isinstance(e, ..) of what was caught -/
def rIsEc (K : PySem.W.Frag) (D a : Addr) (cls : Value) (d : Option Addr) : List V → Hp → VK → Prop := fun xs H Q => cls = .ref D ∧ d = none ∧ rIsE K D a xs H Q
theorem call_isEc {X : Cx} {a D : Addr} {oe : Obj} {pn : List (Addr × Obj)} {cls : Value} {d : Option Addr} (hk : X.K = K) (C : ExcC K D) (hz : Zc cls d oe) (hf : ∃ vs, oe.data = .fields vs) : CallR (X.suite a ((a, oe) :: pn)) (.builtin "isinstance") (rIsEc K D a cls d) := by
  subst hk
  intro pins s σ H xs us Q I r h
  obtain ⟨rfl, rfl, h⟩ := h
  exact call_isE C hz hf pins s σ H xs us Q I r h
variable {σ : L2.St} {H : Hp} {Q : VK}
theorem r_isEc {D a : Addr} {cls : Value} {d : Option Addr} {c : V} {cv : Value} {b : Bool} (h1 : cls = .ref D) (h2 : d = none) (hc : ∀ u, RelV c u → u = cv) (hk : PySem.W.kitOne K (.ref D) cv = some b) (q : Q (.bl b) H) : rIsEc K D a cls d [.ref a, c] H Q := ⟨h1, h2, c, cv, b, rfl, hc, hk, q⟩
theorem rel_ref {a : Addr} : RelV (.ref a) (.ref a) := rfl
theorem rel_int {i : Int} {t : Tok} : RelV (.int i) (.int i t) := ⟨t, rfl⟩
/-! chains of comparisons -/
def ChN (r' : R2) (tc : TE) (σ : L2.St) (Q : VK) (y : V) : VK := fun z H3 => ∃ k, z = .bl k ∧ (if k = true then tc σ H3 fun w' H4 => r' y w' H4 Q else Q (.bl false) H3)
theorem r_chain {r r' : R2} {ta tb tc : TE} (h : ta σ H fun x H1 => tb σ H1 fun y H2 => r x y H2 (ChN r' tc σ Q y)) : tChain r r' ta tb tc σ H Q := h
theorem r_chn {r' : R2} {tc : TE} {y : V} {b : Bool} (h : if b = true then tc σ H fun w' H4 => r' y w' H4 Q else Q (.bl false) H) : ChN r' tc σ Q y (.bl b) H := ⟨b, rfl, h⟩
theorem r_callS {sp : Sp} {E : L2.St → XK} {t : TA} (h : t σ H fun vs H1 => sp vs H1 Q (E σ)) : tCallS sp E t σ H Q := h
def rInsN : V → List V → Hp → VK → Prop := fun x vs H Q => ∃ (l : Addr) (xs : List V) (i : Int) (y : V), x = .ref l ∧ vs = [.int i, y] ∧ H l = some (.lst xs) ∧ xs.length < sizeLine ∧ 0 ≤ i ∧ i < 2 ^ 63 ∧ Q .non (upd H l (.lst (xs.take i.toNat ++ [y] ++ xs.drop i.toNat)))
theorem mt_insertN {X : Cx} : MtR X "list.insert" rInsN := mt_insert
theorem r_insN {l : Addr} {xs : List V} {i : Int} {y : V} (h : H l = some (.lst xs)) (s : xs.length < 100000) (h0 : 0 ≤ i) (h1 : i < 1000000) (q : Q .non (upd H l (.lst (xs.take i.toNat ++ [y] ++ xs.drop i.toNat)))) : rInsN (.ref l) [.int i, y] H Q :=
  ⟨l, xs, i, y, rfl, rfl, h, small_lt s, h0, by omega, q⟩
end

set_option Elab.async false
set_option linter.all false
set_option maxRecDepth 100000
set_option maxHeartbeats 4000000
open PySem PySem.Spec PyProof.Rows L2
/-! # enumerate over a tuple -/
theorem enumNew1 {v : Value} {o : Obj} {F : Heap → Prop} (B : Begins v o F) : Meets (Builtin.«enumerate.__new__» ⟨[.type "enumerate", v], []⟩) (fun _ R s => F s.heap ∧
    R (.ok (.ret (.ref (s.heap.push o).objs.size))) { s with heap := (s.heap.push o).push { cls := .type "enumerate", data := .fields #[.none, .bool false, .ref s.heap.objs.size, rawInt 0, .none, .none] } }) :=
  .of_wp fun prog w A R s h => by
    obtain ⟨hp, gs, dr, tk, os⟩ := s
    obtain ⟨h1, h⟩ := h
    have hsub := sub_enumerate
    have q1 : ∀ {A' : Around} {E' : Value → Shared → Prop} {Q' : Value → Shared → Prop}, Q' (.ref hp.objs.size) ⟨hp.push o, gs, dr, tk, os⟩ → wpAny (model prog w) A' (pyIter v) Q' E' ⟨hp, gs, dr, tk, os⟩ := fun q => B.iter prog w _ _ ⟨hp, gs, dr, tk, os⟩ _ h1 q
    wp_walk using q1
    refine wpAny_stack_any fun st => wpAny_pure ?_
    split
    · rename_i c _ _ _ _ _
      cases (c == Value.type "enumerate") <;> (wp_walk using q1; exact ⟨_, rfl, h⟩)
    · wp_walk using q1
      exact ⟨_, rfl, h⟩
section
variable {prog : Program} {w : World} {A : Around} {E : Value → Shared → Prop} {s : Shared}
theorem callEnum1 {v : Value} {o : Obj} {Fh : Heap → Prop} {Q : Value → Shared → Prop} (B : Begins v o Fh) (h1 : Fh s.heap)
    (h : ∀ h', IsEnum h' (s.heap.objs.size + 1) s.heap.objs.size 0 .none → h'.get? s.heap.objs.size = some o → h'.objs.size = s.heap.objs.size + 2 → (∀ b x, s.heap.get? b = some x → h'.get? b = some x) → Q (.ref (s.heap.objs.size + 1)) { s with heap := h' }) :
    wpAny (model prog w) A (call (.type "enumerate") [v]) Q E s := by
  refine callType_new F.called_enumerate (by decide) (F.typeCall_enumerate_1 _) (F.newCall_enumerate_1 _) (fun ob => F.args_object_init_2 ob _) F.entry_enumerate_new (enumNew1 B) ⟨h1, ?_⟩
  have hz : (s.heap.push o).objs.size = s.heap.objs.size + 1 := Heap.size_push ..
  show _ ∧ _
  rw [hz]
  have he : IsEnum ((s.heap.push o).push { cls := .type "enumerate", data := .fields #[.none, .bool false, .ref s.heap.objs.size, rawInt 0, .none, .none] }) (s.heap.objs.size + 1) s.heap.objs.size 0 .none := by
    have z := Heap.get?_push_size (s.heap.push o) (o := { cls := .type "enumerate", data := .fields #[.none, .bool false, .ref s.heap.objs.size, rawInt 0, .none, .none] }) rfl
    rw [hz] at z
    exact z
  exact ⟨⟨_, he, rfl⟩, h _ he (Heap.get?_push_of_some _ (Heap.get?_push_size _ B.free)) (by rw [Heap.size_push, hz]) fun b x e => Heap.get?_push_of_some _ (Heap.get?_push_of_some _ e)⟩
theorem enumEndT {e it t : Addr} {i : Nat} {items : Array Value} {c : Int} {old : Value} {Q : Option Value → Shared → Prop} (hh : A.handled = none) (he : IsEnum s.heap e it c old) (hit : s.heap.IsTupleIter it t i) (ht : s.heap.IsTuple t items) (hx : items[i]? = none)
    (q : ∀ h', Heap.ExtBut it s.heap h' → Q none { s with heap := h' }) : wpAny (model prog w) A (pyNext (.ref e)) Q E s := by
  have ty : s.TypeIs (.ref e) "enumerate" := ⟨_, he, rfl⟩
  unfold pyNext
  refine wpAny_bind (wpAny_attempt (wpAny_callSpecial?_slot (name := Str.ofString "__next__") ty F.slot_enumerate_next (wpAny_call_entry F.slot_enumerate_next ty F.entry_enumerate_next ?_ (F.args_enumerate_next_1 _))))
  show wpAny _ _ (field (.ref e) 2 >>= _) _ _ _
  refine wpAny_bind (wpAny_field he rfl (x := .ref it) rfl (wpAny_bind (wpAny_nextOf_tuple_end hh hit ht hx fun h' x eb ⟨o, ho, hc⟩ => ?_)))
  exact wpAny_bind (wpAny_isInstance (T := "StopIteration") (b := true) ⟨o, ho, hc⟩ isSubtype_stop (wpAny_pure (q _ eb)))
end
/-- the tuple at a, its items in new pairs -/
def IteT (K : PySem.W.Frag) (a : Addr) : It :=
  ⟨fun i H => ∃ (xs : List V) (x : V), SqT K H a xs ∧ xs[i]? = some x, fun i H v H' => ∃ T x, v = .ref T ∧ H T = none ∧ H' = upd H T (.tup [.int (i : Nat), x]) ∧ ∀ xs, SqT K H a xs → xs[i]? = some x, fun i H => ∃ xs : List V, SqT K H a xs ∧ xs.length ≤ i⟩
theorem turnEnumT {P : Program} {w : World} {K : PySem.W.Frag} {elts : List Expr} {kk : Nat} {tpos : Pos} (a e it : Addr) (hat : a ≠ it) :
    Turn P w K (.Tuple elts kk tpos) (IteT K a) [e, it] e (fun i h => (∃ old, IsEnum h e it ((i : Nat) : Int) old) ∧ h.IsTupleIter it a i ∧ e ≠ it ∧ a ≠ e) where
  mem := by simp
  obj := fun i h st b hb => by
    obtain ⟨⟨old, he⟩, ⟨o, ho, hc, hd⟩, _⟩ := st
    rcases (show b = e ∨ b = it by simpa using hb) with z | z
    · subst z; exact ⟨_, he, fun v q => nomatch q⟩
    · subst z; exact ⟨o, ho, fun v q => by rw [hd] at q; cases q⟩
  keep := fun i h h' st k => by
    obtain ⟨⟨old, he⟩, hi, hne⟩ := st
    exact ⟨⟨old, k e (by simp) _ he⟩, hi.at fun o q => k it (by simp) o q, hne⟩
  item := by
    intro X hP hw hK hc i pins s σ H E I hf st hg
    subst hP hw hK
    obtain ⟨⟨old, he⟩, hit, hne, hae⟩ := st
    obtain ⟨xs, x, hq, hx⟩ := hg
    obtain ⟨its, rv, p, hz⟩ := I.tuple hq
    obtain ⟨u, hu, ru⟩ := rv.get hx
    have hel : e < s.heap.objs.size := Heap.lt_size he
    have hil : it < s.heap.objs.size := by obtain ⟨_, q, _⟩ := hit; exact Heap.lt_size q
    have hlt : i < its.toArray.size := by
      have := (List.getElem?_eq_some_iff.mp hu).1
      simpa using this
    refine wpAny_pyNext_enum_itemD (Draws.tuple (by exact I.ok.hd hc) it a hat its.toArray) he ⟨hit, p⟩ hlt hne (by simp [hne, Ne.symm hae]) fun y h' tk hy ho hst hT hsz hk => ?_
    have ey : y = u := by
      have z : its[i]? = some y := by simpa using hy
      exact Option.some.inj (z.symm.trans hu)
    subst ey
    refine ⟨_, rfl, wpAny_letOwnedTupleGo_enum (s := { s with heap := h', toks := tk + 1 }) ho fun h'' he' sb => ?_⟩
    have hT2 : h''.get? s.heap.objs.size = some { cls := .type "tuple", data := .seq #[.int i tk, y] } := (sb.2 _ (Nat.ne_of_gt hel)).trans hT
    have new : ObjOk X.prog X.w (upd H s.heap.objs.size (.tup [.int (i : Nat), x])) h'' s.heap.objs.size (.tup [.int (i : Nat), x]) := ⟨sz2, [.int i tk, y], .cons ⟨_, rfl⟩ (.cons ru .nil), ⟨_, hT2, rfl, _, rfl⟩⟩
    have I1 : Inv X pins σ (upd H s.heap.objs.size (.tup [.int (i : Nat), x])) { s with heap := h'', toks := tk + 1 } :=
      I.turnedNew (ch := [e, it]) (fun b ob hb q => (sb.2 b (fun z => hb (by simp [z]))).trans (hk b ob (fun z => hb (by simp [z])) (fun z => hb (by simp [z])) q)) hf (Nat.le_refl _) new
    refine ⟨.ref s.heap.objs.size, _, I1, rfl, ⟨_, x, rfl, I.hok.fresh (Nat.le_refl _), rfl, fun ys hy => by rw [I.tuple_inj hy hq]; exact hx⟩, ⟨⟨y, ?_⟩, hst.1.at fun o q => (sb.2 it (Ne.symm hne)).trans q, hne, hae⟩, fun b hb => ?_⟩
    · rw [show ((i + 1 : Nat) : Int) = (i : Int) + 1 by omega]
      exact he'
    · have hb' : b < s.heap.objs.size := by
        rcases (show b = e ∨ b = it by simpa using hb) with z | z
        · exact z ▸ hel
        · exact z ▸ hil
      rw [upd_ne (Nat.ne_of_lt hb')]
      exact (hf b hb).1
  done := by
    intro X hP hw hK hc i pins s σ H E I hf st hg
    subst hP hw hK
    obtain ⟨⟨old, he⟩, hit, hne, hae⟩ := st
    obtain ⟨xs, hq, hx⟩ := hg
    obtain ⟨its, rv, p, hz⟩ := I.tuple hq
    obtain ⟨f0, f1, f2, f3, f4, f5⟩ := hf it (by simp)
    have hl := rv.length
    exact enumEndT (I.ok.hd hc) he hit p (by simp; omega) fun h' eb => ⟨rfl, I.turned (t' := s.toks) (fun b o hb q => eb b o hb q) f0 f1 f3 f4 f5⟩
  self := fun A i s Q E st h => by
    obtain ⟨⟨_, he⟩, _⟩ := st
    exact wpAny_pyIter_enum he h
def iEnumT (K : PySem.W.Frag) (ta : TA) : TI := fun σ H R => ta σ H fun vs H1 => ∃ a xs, vs = [.ref a] ∧ SqT K H1 a xs ∧ R (IteT K a) H1
theorem pi_enumT {X : Cx} {e : Expr} {ta : TA} {p pos tpos : Pos} {elts : List Expr} {kk : Nat} (hg : Gl X "enumerate") (hm : X.mg "enumerate" = none) (ha : PA X [e] ta) (hs : starEach [e] X.env = [(false, eval e X.env)] := by rfl) :
    PI X (.Tuple elts kk tpos) (.Call (.Name "enumerate" p) [e] [] pos) (iEnumT X.K ta) := by
  refine ⟨fun pins s σ H R I h => Call_ (ld_blt I hg hm boot_enumerate (PyProof.Rows.callWith_type1 (thn (ha.run pos pins s σ H _ I h) fun us s1 ⟨vs, H1, I1, r1, a, xs, ex, hq, q⟩ => ?_) hs rfl))⟩
  subst ex
  cases r1 with
  | cons r rr =>
    cases rr
    cases r
    obtain ⟨its, rv, p', hz⟩ := I1.tuple hq
    have hlt : a < s1.heap.objs.size := by
      obtain ⟨o, ho, _⟩ := p'
      exact Heap.lt_size ho
    refine callEnum1 (begins_tuple a its.toArray) p' fun h' he hit hsz hk => wpAny_pyIter_enum he ?_
    have I2 : Inv X pins σ H1 { s1 with heap := h' } := I1.kept (t' := s1.toks) hk
    refine ⟨s1.heap.objs.size + 1, [s1.heap.objs.size + 1, s1.heap.objs.size], _, _, H1, rfl, I2, turnEnumT a (s1.heap.objs.size + 1) s1.heap.objs.size (Nat.ne_of_lt hlt), ⟨⟨.none, he⟩, ⟨_, hit, rfl, rfl⟩, Nat.succ_ne_self _, Nat.ne_of_lt (Nat.lt_succ_of_lt hlt)⟩, fun b hb => ?_, q⟩
    have hle : s1.heap.objs.size ≤ b := by
      rcases (show b = s1.heap.objs.size + 1 ∨ b = s1.heap.objs.size by simpa using hb) with z | z
      · rw [z]; exact Nat.le_add_right _ _
      · rw [z]; exact Nat.le_refl _
    exact I1.fpOk hle (I1.hok.fresh hle)
/-! # dicts whose keys are tuples, laid by a comprehension -/
section
variable {X : Cx}
def PutT (D : Addr) (N : Hp → Prop) (y z : V) (H : Hp) : Prop := ∃ (kvs : List (List L2.Key × V)) (k : List L2.Key) (b : Addr), y = .ref b ∧ H D = some (.dT kvs) ∧ H b = some (.tup (k.map kV)) ∧ kvs.length < sizeLine ∧ N (upd H D (.dT (putK kvs k z)))
theorem putT_ok {pins : List (Addr × Obj)} {σ : L2.St} {H : Hp} {s : Shared} {E : Value → Shared → Prop} {D : Addr} {N : Hp → Prop} {y z : V} {u r : Value} {Q : Unit → Shared → Prop} (hu : X.A.units + 64 < cLine) (I : Inv X pins σ H s) (ry : RelV y u) (rv : RelV z r)
    (g : PutT D N y z H) (q : ∀ s' H', Inv X pins σ H' s' → N H' → Q () s') : wpAny (model X.prog X.w) X.A (dictSet D u r) Q E s := by
  obtain ⟨kvs, k, b, rfl, hD, hb, few, n⟩ := g
  cases ry
  obtain ⟨zl, hd, xs, rel, dd⟩ := dt_of I.hok hD
  have e1 : xs.length ≤ sizeLine := by rw [← Paired.length rel]; exact zl
  have e2 : (putK kvs k z).length ≤ sizeLine := by have := length_putK kvs k z; omega
  refine wpAny_dictSet_heap (hsz := e1) (knd := tupleKind (mixKind X.prog X.w)) (show X.A.units < cLine by omega) (key_of I.hok hb) dd fun h' dd' hs => ?_
  obtain ⟨o, es, ep, ho, a2, a3, a4, _, a5⟩ := dd'
  refine q _ _ (d_write (ob := .dT (putK kvs k z)) I (by rw [hD]; exact True.intro) hs ⟨o, ho⟩ ⟨e2, hd, _, (rel.put k hb rv).keeps fun c ys ec => ?_, o, es, ep, ho, a2, a3, a4, a5⟩) n
  rw [upd_ne (ne_of ec hD (fun x => nomatch x))]
  exact ec
def DcR (J : It) (g : TG) (tt : TT) (tk tv : TE) (vs : List Nat) (σ : L2.St) (D : Addr) (Q : VK) (H1 : Hp) : Prop := ∃ W : Nat → Nat → Hp → Prop, (∃ m0, W 0 m0 (upd H1 D (.dT []))) ∧ ∀ i m H, W i m H →
  (J.stop i H ∧ Q (.ref D) H) ∨ (J.go i H ∧ ∃ Nx : Hp → Prop, (∀ H', Nx H' → ∃ m', m' < m ∧ W (i + 1) m' H') ∧ ∀ x H', J.yld i H x H' → g x (wipe σ vs) H' fun σ2 H2 => wipe σ2 vs = wipe σ vs ∧ tt σ2 H2 fun b H3 => if b = true then tk σ2 H3 fun y H4 => tv σ2 H4 (PutT D Nx y) else Nx H3)
def tDcT (wi : TI) (g : TG) (tt : TT) (tk tv : TE) (vs : List Nat) : TE := fun σ H Q => wi σ H fun J H1 => ∀ D, H1 D = none → DcR J g tt tk tv vs σ D Q H1
variable {kx vx tg iter : Expr} {ifs : List Expr} {scope : Scope} {own : List (PySem.Str × Nat)} {pos : Pos} {wi : TI} {g : TG} {tt : TT} {tk tv : TE}
theorem pe_dcT (hu : X.A.units + 64 < cLine) (hc : X.calm = true) (hN : X.N.Nodup) (hi : PI X tg iter wi) (ok : BlkOk X.N X.env.scope scope own)
    (hg : ∀ (s0 : Shared) (H0 : Hp) (C0 : Addr) (l0 : List (PySem.Str × Addr)) (fp : List Addr), PG (X.blk s0 H0 scope (compEnvC scope l0 C0 X.env) fp) tg g)
    (ht : ∀ (s0 : Shared) (H0 : Hp) (C0 : Addr) (l0 : List (PySem.Str × Addr)) (fp : List Addr), PTs (X.blk s0 H0 scope (compEnvC scope l0 C0 X.env) fp) ifs tt)
    (he : ∀ (s0 : Shared) (H0 : Hp) (C0 : Addr) (l0 : List (PySem.Str × Addr)) (fp : List Addr), PE (X.blk s0 H0 scope (compEnvC scope l0 C0 X.env) fp) kx tk)
    (hv : ∀ (s0 : Shared) (H0 : Hp) (C0 : Addr) (l0 : List (PySem.Str × Addr)) (fp : List Addr), PE (X.blk s0 H0 scope (compEnvC scope l0 C0 X.env) fp) vx tv)
    (hs : ∀ x, foldedSetIterable iter X.env x = pure x := by intro _; rfl) :
    PE X (.DictComp kx vx [⟨tg, iter, ifs, 0⟩] scope pos) (tDcT wi g tt tk tv (own.map (·.2))) := by
  refine ⟨fun pins s σ H Q I h => ?_⟩
  rw [arm_eval_DictComp]
  have hfr : ∀ y ∈ scope.names, y.2 = .free → ∃ c, X.env.cells.lookup y.1 = some c := fun y hy e => (ok.free y hy e).elim (fun k => I.ok.has _ (.inl k)) (fun k => I.ok.has _ (.inr k))
  refine wpAny_comprehension_free (use := none) rfl hs (closure_ok hfr) ok.kind (fun y hy e => by rw [ok.uniq y hy, e]) (thn (hi.run pins s σ H _ I h) fun xv s1 hx => thn hx fun itv s2 h2 => ?_)
  obtain ⟨it, fp, tn, J, H2, e2, I2, T, st2, f2, q⟩ := h2
  subst e2
  refine wpAny_newObj_type (newEnv_comp ?_)
  generalize hD : s2.heap.objs.size = D
  have dn : H2 D = none := I2.hok.fresh (Nat.le_of_eq hD)
  obtain ⟨W, ⟨m0, w0⟩, turn⟩ := q D dn
  let ob : Obj := { cls := .type "dict", data := .dict #[] }
  show codeAny _ _ _ _ ({ ({ s2 with heap := s2.heap.push ob } : Shared) with heap := _ } : Shared)
  generalize es3 : ({ s2 with heap := s2.heap.push ob } : Shared) = s3
  have hp3 : s3.heap = s2.heap.push ob := by rw [← es3]
  let H3 : Hp := upd H2 D (.dT [])
  have J3 : Inv X pins σ H3 s3 := by
    rw [← es3]
    exact I2.laid (t' := s2.toks) (fun b o e => Heap.get?_push_of_some _ e) (Nat.le_of_eq hD) (by rw [← hD]; exact dt_empty s2.heap I2.big)
  have lt : ∀ b ∈ fp, b < s2.heap.objs.size := fun b hb => by
    obtain ⟨o, e, _⟩ := T.obj _ _ st2 b hb
    exact Heap.lt_size e
  have F3 : ∀ b ∈ fp, FpOk X pins H3 b ∧ b < s3.heap.objs.size := fun b hb => by
    have l1 := lt b hb
    refine ⟨⟨?_, (f2 b hb).2⟩, by rw [hp3, Heap.size_push]; exact Nat.lt_succ_of_lt l1⟩
    show upd H2 D _ b = none
    rw [upd_ne (Nat.ne_of_lt (hD ▸ l1))]
    exact (f2 b hb).1
  have st3 : tn 0 s3.heap := T.keep _ _ _ st2 fun b _ o e => by rw [hp3]; exact Heap.get?_push_of_some _ e
  have J4 := block_start J3 ok hN F3
  have pg := hg s3 H3 s3.heap.objs.size (cellsFrom (s3.heap.objs.size + 1) scope.names (cloFrom X.env.cells scope.names [])) fp
  have pt := ht s3 H3 s3.heap.objs.size (cellsFrom (s3.heap.objs.size + 1) scope.names (cloFrom X.env.cells scope.names [])) fp
  have pk := he s3 H3 s3.heap.objs.size (cellsFrom (s3.heap.objs.size + 1) scope.names (cloFrom X.env.cells scope.names [])) fp
  have pe := hv s3 H3 s3.heap.objs.size (cellsFrom (s3.heap.objs.size + 1) scope.names (cloFrom X.env.cells scope.names [])) fp
  show codeAny _ _ (.compStart (.DictComp kx vx [⟨tg, iter, ifs, 0⟩] scope pos) 0 (.ref it) (.ref D) (compEnvC scope (cellsFrom (s3.heap.objs.size + 1) scope.names (cloFrom X.env.cells scope.names [])) s3.heap.objs.size X.env)) _ { s3 with heap := pushCells (s3.heap.push { cls := .type "dict", data := .dict #[] }) scope.names }
  generalize ece : compEnvC scope (cellsFrom (s3.heap.objs.size + 1) scope.names (cloFrom X.env.cells scope.names [])) s3.heap.objs.size X.env = ce at J4 pg pt pk pe ⊢
  have ceL : ce.locals = s3.heap.objs.size := by rw [← ece]; rfl
  generalize es4 : ({ s3 with heap := pushCells (s3.heap.push { cls := .type "dict", data := .dict #[] }) scope.names } : Shared) = s4 at J4 ⊢
  have st4 : tn 0 s4.heap := T.keep _ _ _ st3 fun b _ o e => by rw [← es4]; exact pushCells_keeps _ _ _ _ (Heap.get?_push_of_some _ e)
  let Y : Cx := X.blk s3 H3 scope ce fp
  have fpOf : ∀ {σ' : L2.St} {H' : Hp} {s' : Shared}, Inv Y [] σ' H' s' → (∀ b ∈ fp, H' b = none) → ∀ b ∈ fp, FpOk Y [] H' b := fun {σ' H' s'} I' hn b hb =>
    ⟨hn b hb, (I'.ok.exf b hb).1, I'.ok.exfs b hb, .inl hb, fun x c e => (I'.ok.exf b hb).2 x c e, fun p hp => absurd (show p ∈ ([] : List (Addr × Obj)) ++ [] from hp) (by simp)⟩
  refine (fun loop => codeAny_compStart_dict loop (T.self X.A 0 _ _ _ st4 loop)) ?_
  refine compLoop_anyD (fun n s' => ∃ i H', Inv Y [] (wipe σ (own.map (·.2))) H' s' ∧ tn i s'.heap ∧ (∀ b ∈ fp, H' b = none) ∧ W i n H') ?_ m0 ⟨0, H3, J4, st4, fun b hb => (F3 b hb).1.1, w0⟩
  rintro n s5 ⟨i, H5, J5, st5, n5, w5⟩
  rcases turn i n H5 w5 with ⟨stop, qq⟩ | ⟨go, Nx, hNx, step⟩
  · -- the end
    refine thnF (T.done Y rfl rfl rfl hc i [] s5 _ H5 (fun _ _ => False) J5 (fpOf J5 n5) st5 stop) fun r s6 ⟨hr, J6⟩ => ?_
    subst hr
    have J7 : Inv X pins σ H5 s6 := J3.call' (ch := fp) J6.os J6.base J6.hok J6.bare fun b hb => ⟨(F3 b hb).1.2.2.2.1, (F3 b hb).1.2.1, (F3 b hb).1.2.2.2.2.1, (F3 b hb).1.2.2.2.2.2⟩
    have nC : H5 s3.heap.objs.size = none := ceL ▸ (show H5 ce.locals = none from J6.free)
    obtain ⟨mm, hn, _⟩ := J6.loc
    refine ⟨mm, ceL ▸ (show s6.heap.Ns ce.locals mm from hn), fun h'' sb => ?_⟩
    obtain ⟨f0, f1, f2, f3, f4, f5⟩ := J3.fpOk (Nat.le_refl _) nC
    exact ⟨.ref D, H5, J7.turned (t' := s6.toks) (fun b o hb e => (sb.2 b hb).trans e) f0 f1 f3 f4 f5, rfl, qq⟩
  · -- a turn
    refine thnF (T.item Y rfl rfl rfl hc i [] s5 _ H5 (fun _ _ => False) J5 (fpOf J5 n5) st5 go) fun r s6 ⟨u, hr, h6⟩ => ?_
    subst hr
    refine thnF h6 fun _ s7 ⟨x, H7, J7, r7, y7, st7, n7⟩ => ?_
    have J8 := J7.pinned (fpOf J7 n7) (T.obj _ _ st7)
    refine thnF (pg.run _ s7 _ H7 x u _ J8 r7 (step x H7 y7)) fun _ s8 ⟨σ8, H8, J9, hw8, q8⟩ => ?_
    refine thnF (pt.run _ s8 σ8 H8 _ J9 q8) fun b s9 ⟨H9, Ja, q9⟩ => ?_
    have fin : ∀ (s' : Shared) (H' : Hp), Inv Y ([] ++ pinsAt fp s7.heap) σ8 H' s' → Nx H' → ∃ m, m < n ∧ ∃ i H', Inv Y [] (wipe σ (own.map (·.2))) H' s' ∧ tn i s'.heap ∧ (∀ b ∈ fp, H' b = none) ∧ W i m H' := fun s' H' Jz nx => by
      obtain ⟨m', hm, w'⟩ := hNx H' nx
      have pin : ∀ b ∈ fp, ∀ o, s7.heap.get? b = some o → s'.heap.get? b = some o ∧ H' b = none := fun b hb o e => by
        have z := Jz.pin (b, o) (List.mem_append_right _ (List.mem_append_right _ (mem_pinsAt hb e)))
        exact ⟨z.1, z.2.1⟩
      have hlen : (wipe σ (own.map (·.2))).length = σ8.length := by rw [← hw8, wipe_length]
      refine ⟨m', hm, i + 1, H', (Jz.unpinned (pins := [])).weak hlen (fun j v e => ?_), T.keep _ _ _ st7 fun b hb o e => (pin b hb o e).1, fun b hb => ?_, w'⟩
      · rw [← hw8] at e
        exact (wipe_some e).1
      · obtain ⟨o, e, _⟩ := T.obj _ _ st7 b hb
        exact (pin b hb o e).2
    cases b with
    | false =>
      simp only [Bool.false_eq_true, if_false] at q9 ⊢
      exact fin _ _ Ja q9
    | true =>
      simp only [if_true] at q9 ⊢
      refine thnF (pk.run _ s9 σ8 H9 _ Ja q9) fun z s10 ⟨yk, Hb, Jb, rb, qb⟩ => ?_
      refine thnF (pe.run _ s10 σ8 Hb _ Jb qb) fun z2 s11 ⟨yv, Hc, Jc, rc, ad⟩ => ?_
      exact putT_ok (X := Y) hu Jc rb rc ad fin
end

set_option Elab.async false
set_option linter.all false
set_option maxRecDepth 100000
set_option maxHeartbeats 4000000
open PySem PySem.Spec PyProof.Rows L2
section
variable {X : Cx} {K : PySem.W.Frag} {P : Program} {w : World} {σ : L2.St} {H : Hp} {Q : VK} {D : Addr}
theorem PI.enumTK {tg e : Expr} {ta : TA} (h : X.K = K) (p : PI X tg e (iEnumT X.K ta)) : PI X tg e (iEnumT K ta) := h ▸ p
def EnT (K : PySem.W.Frag) (R : It → Hp → Prop) : List V → Hp → Prop := fun vs H1 => ∃ a xs, vs = [.ref a] ∧ SqT K H1 a xs ∧ R (IteT K a) H1
theorem r_enumT {ta : TA} {R : It → Hp → Prop} (h : ta σ H (EnT K R)) : iEnumT K ta σ H R := h
theorem r_en {a : Addr} {xs : List V} {R : It → Hp → Prop} (h : SqT K H a xs) (q : R (IteT K a) H) : EnT K R [.ref a] H := ⟨a, xs, rfl, h, q⟩
/-! ## number dicts -/
def PutK (D : Addr) (N : Hp → Prop) (y z : V) (H : Hp) : Prop := ∃ (kvs : List (L2.Key × V)) (k : L2.Key), y = kV k ∧ H D = some (.dK kvs) ∧ kvs.length < sizeLine ∧ N (upd H D (.dK (putK kvs k z)))
theorem r_putK {N : Hp → Prop} {i : Int} {z : V} {kvs : List (L2.Key × V)} (h : H D = some (.dK kvs)) (s : kvs.length < 100000) (n : N (upd H D (.dK (putK kvs (.inl i) z)))) : PutK D N (.int i) z H := ⟨kvs, .inl i, rfl, h, small_lt s, n⟩
def KcR (J : It) (g : TG) (tt : TT) (tk tv : TE) (vs : List Nat) (σ : L2.St) (D : Addr) (Q : VK) (H1 : Hp) : Prop := ∃ W : Nat → Nat → Hp → Prop, (∃ m0, W 0 m0 (upd H1 D (.dK []))) ∧ ∀ i m H, W i m H →
  (J.stop i H ∧ Q (.ref D) H) ∨ (J.go i H ∧ ∃ Nx : Hp → Prop, (∀ H', Nx H' → ∃ m', m' < m ∧ W (i + 1) m' H') ∧ ∀ x H', J.yld i H x H' → g x (wipe σ vs) H' fun σ2 H2 => wipe σ2 vs = wipe σ vs ∧ tt σ2 H2 fun b H3 => if b = true then tk σ2 H3 fun y H4 => tv σ2 H4 (fun z H5 => PutK D Nx y z H5) else Nx H3)
theorem r_dcK {wi : TI} {g : TG} {tt : TT} {tk tv : TE} {vs : List Nat} (h : wi σ H fun J H1 => ∀ D, H1 D = none → KcR J g tt tk tv vs σ D Q H1) : tDc wi g tt tk tv vs σ H Q := h
theorem r_dcT {wi : TI} {g : TG} {tt : TT} {tk tv : TE} {vs : List Nat} (h : wi σ H fun J H1 => ∀ D, H1 D = none → DcR J g tt tk tv vs σ D Q H1) : tDcT wi g tt tk tv vs σ H Q := h
theorem kcR_enumT {a : Addr} {xs : List V} {g : TG} {tt : TT} {tk tv : TE} {vs : List Nat} {σw : L2.St} (Pv : Nat → Hp → Prop) (ew : wipe σ vs = σw) (h0 : Pv 0 (upd H D (.dK []))) (hl : ∀ i H, i ≤ xs.length → Pv i H → SqT K H a xs)
    (hs : ∀ (i : Nat) x H T, xs[i]? = some x → Pv i H → H T = none → g (.ref T) σw (upd H T (.tup [.int (i : Nat), x])) fun σ2 H2 => wipe σ2 vs = σw ∧ tt σ2 H2 fun b H3 => if b = true then tk σ2 H3 fun y H4 => tv σ2 H4 (fun z H5 => PutK D (Pv (i + 1)) y z H5) else Pv (i + 1) H3) (hd : ∀ H, Pv xs.length H → Q (.ref D) H) :
    KcR (IteT K a) g tt tk tv vs σ D Q H := by
  subst ew
  refine ⟨fun i m H => (m = xs.length - i ∧ i ≤ xs.length) ∧ Pv i H, ⟨_, ⟨rfl, Nat.zero_le _⟩, h0⟩, fun i m H ⟨⟨em, hi⟩, p⟩ => ?_⟩
  subst em
  have hq := hl i H hi p
  rcases Nat.lt_or_ge i xs.length with c | c
  · refine .inr ⟨⟨xs, xs[i], hq, List.getElem?_eq_getElem c⟩, Pv (i + 1), fun H' p' => ⟨_, by omega, ⟨rfl, c⟩, p'⟩, fun x H' ⟨T, y, e1, e2, e3, e4⟩ => ?_⟩
    subst e1 e3
    exact hs i y H T (e4 xs hq) p e2
  · have e : i = xs.length := by omega
    exact .inl ⟨⟨xs, hq, c⟩, hd H (e ▸ p)⟩
theorem dcR_tup {a : Addr} {xs : List V} {g : TG} {tt : TT} {tk tv : TE} {vs : List Nat} {σw : L2.St} (Pv : Nat → Hp → Prop) (ew : wipe σ vs = σw) (h0 : Pv 0 (upd H D (.dT []))) (hl : ∀ i H, i ≤ xs.length → Pv i H → SqT K H a xs)
    (hs : ∀ (i : Nat) x H, xs[i]? = some x → Pv i H → g x σw H fun σ2 H2 => wipe σ2 vs = σw ∧ tt σ2 H2 fun b H3 => if b = true then tk σ2 H3 fun y H4 => tv σ2 H4 (PutT D (Pv (i + 1)) y) else Pv (i + 1) H3) (hd : ∀ H, Pv xs.length H → Q (.ref D) H) :
    DcR (Itt K a) g tt tk tv vs σ D Q H := by
  subst ew
  refine ⟨fun i m H => (m = xs.length - i ∧ i ≤ xs.length) ∧ Pv i H, ⟨_, ⟨rfl, Nat.zero_le _⟩, h0⟩, fun i m H ⟨⟨em, hi⟩, p⟩ => ?_⟩
  subst em
  have hq := hl i H hi p
  rcases Nat.lt_or_ge i xs.length with c | c
  · exact .inr ⟨⟨xs, xs[i], hq, List.getElem?_eq_getElem c⟩, Pv (i + 1), fun H' p' => ⟨_, by omega, ⟨rfl, c⟩, p'⟩, fun x H' ⟨e, y⟩ => e ▸ hs i x _ (y xs hq) p⟩
  · have e : i = xs.length := by omega
    exact .inl ⟨⟨xs, hq, c⟩, hd H (e ▸ p)⟩
/-! ## two clauses -/
def LnR (J1 : It) (g1 : TG) (tt1 : TT) (te : TE) (vs1 : List Nat) (σ2 : L2.St) (D : Addr) (Nx : Hp → Prop) (H4 : Hp) : Prop := ∃ W1 : Nat → Nat → Hp → Prop, (∃ m1, W1 0 m1 H4) ∧ ∀ j k H, W1 j k H →
  (J1.stop j H ∧ Nx H) ∨ (J1.go j H ∧ ∃ Nx1 : Hp → Prop, (∀ H', Nx1 H' → ∃ k', k' < k ∧ W1 (j + 1) k' H') ∧ ∀ x H', J1.yld j H x H' → g1 x (wipe σ2 vs1) H' fun σ3 H5 => wipe σ3 vs1 = wipe σ2 vs1 ∧ tt1 σ3 H5 fun b H6 => if b = true then te σ3 H6 (LcE D Nx1) else Nx1 H6)
def Lc2R (J : It) (g : TG) (tt : TT) (wi1 : TI) (g1 : TG) (tt1 : TT) (te : TE) (vs vs1 : List Nat) (σ : L2.St) (D : Addr) (Q : VK) (H1 : Hp) : Prop := ∃ W : Nat → Nat → Hp → Prop, (∃ m0, W 0 m0 (upd H1 D (.lst []))) ∧ ∀ i m H, W i m H →
  (J.stop i H ∧ Q (.ref D) H) ∨ (J.go i H ∧ ∃ Nx : Hp → Prop, (∀ H', Nx H' → ∃ m', m' < m ∧ W (i + 1) m' H') ∧ ∀ x H', J.yld i H x H' → g x (wipe σ vs) H' fun σ2 H2 => wipe σ2 vs = wipe σ vs ∧ tt σ2 H2 fun b H3 => if b = true then wi1 σ2 H3 fun J1 H4 => LnR J1 g1 tt1 te vs1 σ2 D Nx H4 else Nx H3)
theorem r_lc2 {wi wi1 : TI} {g g1 : TG} {tt tt1 : TT} {te : TE} {vs vs1 : List Nat} (h : wi σ H fun J H1 => ∀ D, H1 D = none → Lc2R J g tt wi1 g1 tt1 te vs vs1 σ D Q H1) : tLc2 wi g tt wi1 g1 tt1 te vs vs1 σ H Q := h
theorem lnR_range {lo : Int} {n : Nat} {g1 : TG} {tt1 : TT} {te : TE} {vs1 : List Nat} {σ2 σw : L2.St} {Nx : Hp → Prop} (Pv : Nat → Hp → Prop) (ew : wipe σ2 vs1 = σw) (h0 : Pv 0 H)
    (hs : ∀ (i : Nat) H, i < n → Pv i H → g1 (.int (lo + i)) σw H fun σ3 H5 => wipe σ3 vs1 = σw ∧ tt1 σ3 H5 fun b H6 => if b = true then te σ3 H6 (LcE D (Pv (i + 1))) else Pv (i + 1) H6) (hd : ∀ H, Pv n H → Nx H) : LnR (Itr lo n) g1 tt1 te vs1 σ2 D Nx H := by
  subst ew
  refine ⟨fun i m H => (m = n - i ∧ i ≤ n) ∧ Pv i H, ⟨_, ⟨rfl, Nat.zero_le _⟩, h0⟩, fun i m H ⟨⟨em, hi⟩, p⟩ => ?_⟩
  subst em
  rcases Nat.lt_or_ge i n with c | c
  · refine .inr ⟨c, Pv (i + 1), fun H' p' => ⟨_, by omega, ⟨rfl, c⟩, p'⟩, fun x H' ⟨e1, e2⟩ => ?_⟩
    subst e1 e2
    exact hs i _ c p
  · have e : i = n := by omega
    exact .inl ⟨c, hd H (e ▸ p)⟩
theorem lc2R_range {lo : Int} {n : Nat} {wi1 : TI} {g g1 : TG} {tt tt1 : TT} {te : TE} {vs vs1 : List Nat} {σw : L2.St} (Pv : Nat → Hp → Prop) (ew : wipe σ vs = σw) (h0 : Pv 0 (upd H D (.lst [])))
    (hs : ∀ (i : Nat) H, i < n → Pv i H → g (.int (lo + i)) σw H fun σ2 H2 => wipe σ2 vs = σw ∧ tt σ2 H2 fun b H3 => if b = true then wi1 σ2 H3 fun J1 H4 => LnR J1 g1 tt1 te vs1 σ2 D (Pv (i + 1)) H4 else Pv (i + 1) H3) (hd : ∀ H, Pv n H → Q (.ref D) H) : Lc2R (Itr lo n) g tt wi1 g1 tt1 te vs vs1 σ D Q H := by
  subst ew
  refine ⟨fun i m H => (m = n - i ∧ i ≤ n) ∧ Pv i H, ⟨_, ⟨rfl, Nat.zero_le _⟩, h0⟩, fun i m H ⟨⟨em, hi⟩, p⟩ => ?_⟩
  subst em
  rcases Nat.lt_or_ge i n with c | c
  · refine .inr ⟨c, Pv (i + 1), fun H' p' => ⟨_, by omega, ⟨rfl, c⟩, p'⟩, fun x H' ⟨e1, e2⟩ => ?_⟩
    subst e1 e2
    exact hs i _ c p
  · have e : i = n := by omega
    exact .inl ⟨c, hd H (e ▸ p)⟩
/-! ## what dicts hold -/
def DgN (Q : VK) (x : V) : VK := fun y H2 => ∃ a v, x = .ref a ∧ DGet H2 a y (some v) ∧ Q v H2
theorem r_dget {td ty : TE} (h : td σ H fun x H1 => ty σ H1 (DgN Q x)) : tDGet td ty σ H Q := h
theorem r_dgK {a : Addr} {kvs : List (L2.Key × V)} {i : Int} {v : V} (h : H a = some (.dK kvs)) (e : valV kvs (.inl i) = some v) (q : Q v H) : DgN Q (.ref a) (.int i) H := ⟨a, v, rfl, e ▸ DGet.k (k := .inl i) h, q⟩
def DnN (Q : VK) (y : V) : VK := fun x H2 => ∃ a o, x = .ref a ∧ DGet H2 a y o ∧ Q (.bl (!o.isSome)) H2
theorem r_dnot {td ty : TE} (h : ty σ H fun y H1 => td σ H1 (DnN Q y)) : tDNotIn ty td σ H Q := h
theorem r_dnT {a b : Addr} {kvs : List (List L2.Key × V)} {k : List L2.Key} (h : H a = some (.dT kvs)) (hb : H b = some (.tup (k.map kV))) (q : Q (.bl (!(valV kvs k).isSome)) H) : DnN Q (.ref b) (.ref a) H := ⟨a, _, rfl, .t h hb, q⟩
theorem op_catAK (h : X.K = K) : OpR X (binaryOp .Add) (rCatA K) := h ▸ op_catA
theorem r_catA {l b : Addr} {xs zs : List V} (h1 : H l = some (.tup xs)) (h2 : H b = some (.tup zs)) (hz : xs.length + zs.length ≤ 100000) (q : ∀ p H', Same H H' → H' p = some (.tup (xs ++ zs)) → Q (.ref p) H') : rCatA K (.ref l) (.ref b) H Q := by
  refine ⟨l, b, xs, zs, rfl, rfl, .inl (.inl h1), .inl (.inl h2), small_len hz, fun e => ?_, fun e1 e2 => ?_, fun e1 e2 p hp => q p _ (same_new hp) upd_same⟩
  · subst e
    exact q b H (fun _ _ h => h) h2
  · subst e2
    refine q l H (fun _ _ h => h) ?_
    rw [List.append_nil]
    exact h1
end

set_option Elab.async false
set_option linter.all false
set_option maxRecDepth 100000
set_option maxHeartbeats 4000000
open PySem PySem.Spec PyProof.Rows L2
local macro_rules | `(tactic| walk_at "zs") => `(tactic| first | decide | omega | (dsimp only; omega) | (unfold CMul; omega) | (unfold CDivW; decide) | assumption)
local macro_rules | `(tactic| walk_at "zh") => `(tactic| first | assumption | with_reducible exact upd_same | ((with_reducible refine' (upd_ne ?zn).trans ?zr); (case zn => walk_at "zne"); (case zr => walk_at "zh")))
local macro_rules | `(tactic| walk_at "zw") => `(tactic| (simp only [wipe, List.map_cons, List.map_nil, List.set_cons_succ, List.set_cons_zero]; rfl))
local macro_rules | `(tactic| walk_at "zne") => `(tactic| first | assumption | (apply Ne.symm; assumption) | (refine' ne_of_none ?zh1 ?zh2; (case zh2 => assumption); (case zh1 => walk_at "zh")) | (apply Ne.symm; refine' ne_of_none ?zh1 ?zh2; (case zh2 => assumption); (case zh1 => walk_at "zh")))
local macro_rules | `(tactic| walk_at "zl") => `(tactic| first | assumption | exact Or.inl (Or.inl (by walk_at "zh")))
local macro_rules | `(tactic| walk_at "zat") => `(tactic| first | assumption | exact rfl | exact atI_nat (j := 0) (by rfl))
local macro_rules | `(tactic| walk_at "z1") => `(tactic| first
  | with_reducible refine r_seq ?_
  | with_reducible refine r_asg ?_
  | with_reducible refine r_name0 ?_
  | with_reducible refine r_name1 ?_
  | with_reducible refine r_name2 ?_
  | with_reducible refine r_name3 ?_
  | with_reducible refine r_name4 ?_
  | with_reducible refine r_name5 ?_
  | with_reducible refine r_name6 ?_
  | with_reducible refine r_name7 ?_
  | with_reducible refine r_name8 ?_
  | with_reducible refine r_name9 ?_
  | with_reducible refine r_name10 ?_
  | with_reducible refine r_name11 ?_
  | with_reducible refine r_name12 ?_
  | with_reducible refine r_name13 ?_
  | ((with_reducible show tVar _ _ _ _); refine r_var rfl ?_)
  | with_reducible refine r_c ?_
  | with_reducible refine r_op ?_
  | with_reducible refine r_i0 ?_
  | with_reducible refine r_eqI ?_
  | with_reducible refine r_neI ?_
  | with_reducible refine r_i (by walk_at "zs") ?_
  | with_reducible refine r_cons ?_
  | with_reducible refine r_nil ?_
  | with_reducible refine r_call ?_
  | with_reducible refine r_cb ?_
  | with_reducible refine r_test ?_
  | with_reducible refine r_tB ?_
  | with_reducible refine r_k ?_
  | with_reducible refine r_int1 ?_
  | with_reducible refine r_int1b ?_
  | with_reducible refine r_min2 ?_
  | with_reducible refine r_max2 ?_
  | with_reducible refine r_ret ?_
  | with_reducible refine r_ifS ?_
  | with_reducible refine r_tup ?_
  | with_reducible refine r_lst ?_
  | with_reducible refine r_un ?_
  | with_reducible refine r_u ?_
  | with_reducible refine r_eqB ?_
  | with_reducible refine r_neB ?_
  | with_reducible refine r_not ?_
  | with_reducible refine r_and ?_
  | with_reducible refine r_or ?_
  | with_reducible refine r_if ?_
  | with_reducible refine r_bm ?_
  | with_reducible refine r_lstRg ?_
  | with_reducible refine r_tRg1 ?_
  | with_reducible refine r_r1N ?_
  | with_reducible refine r_sl ?_
  | with_reducible refine r_part ?_
  | with_reducible refine r_partN ?_
  | with_reducible refine r_noPart ?_
  | with_reducible refine r_andV ?_
  | with_reducible refine r_orV ?_
  | with_reducible refine r_notV ?_
  | with_reducible refine r_andN ?_
  | with_reducible refine r_orN ?_
  | with_reducible refine r_notN ?_
  | with_reducible refine r_next ?_
  | with_reducible refine r_drop ?_
  | with_reducible refine r_sub ?_
  | with_reducible refine r_for ?_
  | with_reducible refine r_rng1 ?_
  | with_reducible refine r_rng2 ?_
  | with_reducible refine r_ilist ?_
  | with_reducible refine r_itup ?_
  | with_reducible refine r_lc ?_
  | with_reducible refine r_yes ?_
  | with_reducible refine r_gcons ?_
  | with_reducible refine r_gnil ?_
  | ((with_reducible show Bm _ "list" _ _ _ _ (V.ref _) _); refine' r_bmL ?zh ?zq; (case zh => walk_at "zl"))
  | with_reducible refine iteF ?_
  | with_reducible refine iteT ?_
  | ((with_reducible show rIxL _ (V.ref _) (V.int _) _ _); refine' r_ixL ?zh ?za ?zq; (case zh => walk_at "zl"); (case za => walk_at "zat"))
  | ((with_reducible show rIxT _ (V.ref _) (V.int _) _ _); refine' r_ixT ?zh ?za ?zq; (case zh => walk_at "zl"); (case za => walk_at "zat"))
  | with_reducible refine r_dget ?_
  | with_reducible refine r_star ?_
  | with_reducible refine r_match ?_
  | with_reducible refine r_enumT ?_
  | with_reducible refine r_dnot ?_
  | with_reducible refine r_chain ?_
  | with_reducible refine r_chn ?_
  | with_reducible refine r_callS ?_
  | with_reducible refine r_set0u ?_
  | with_reducible refine r_set1u ?_
  | with_reducible refine r_set2u ?_
  | with_reducible refine r_set3u ?_
  | with_reducible refine r_set4u ?_
  | ((with_reducible show rSetL (V.ref _) (V.int 0) _ _ _); refine' r_set0 ?zh ?zq; (case zh => walk_at "zh"))
  | ((with_reducible show rSetL (V.ref _) (V.int 1) _ _ _); refine' r_set1 ?zh ?zq; (case zh => walk_at "zh"))
  | ((with_reducible show rSetL (V.ref _) (V.int 2) _ _ _); refine' r_set2 ?zh ?zq; (case zh => walk_at "zh"))
  | ((with_reducible show rSetL (V.ref _) (V.int 3) _ _ _); refine' r_set3 ?zh ?zq; (case zh => walk_at "zh"))
  | ((with_reducible show rSetL (V.ref _) (V.int 4) _ _ _); refine' r_set4 ?zh ?zq; (case zh => walk_at "zh"))
  | ((with_reducible show rLen _ [V.ref _] _ _); refine' r_lenL ?zh ?zq; (case zh => walk_at "zl"))
  | ((with_reducible show rLen _ [V.ref _] _ _); refine' r_lenT ?zh ?zq; (case zh => walk_at "zl")))
local macro_rules | `(tactic| walk_at "z") => `(tactic| repeat (walk_at "z1"))

def topS (i : Nat) : Stmt := PySem.Challenge.pw_trellis_k02_made_graphs.main.body.getD i (.Pass ⟨0, 0, 0, 0⟩)
/-- a def of the text and where it stands -/
structure DefAt (K : PySem.W.Frag) (mg : Str → Option Value) (x : Str) (st : Stmt) (ps : List Str) where
  f : Addr
  fd : FuncData
  F : Fun K x x st f fd
  b : Binds K fd ps []
  g : mg x = some (.ref f)
/-- the built-ins' names are not the module's own -/
structure Blt (mg : Str → Option Value) : Prop where
  len : mg "len" = none
  range : mg "range" = none
  list : mg "list" = none
  tuple : mg "tuple" = none
  int : mg "int" = none
  min : mg "min" = none
  max : mg "max" = none
  sorted : mg "sorted" = none
  isinstance : mg "isinstance" = none
  bool : mg "bool" = none
  str : mg "str" = none
  enumerate : mg "enumerate" = none
/-! ## the pool -/
def Pool (H : Hp) (a s : Addr) : Prop := ∃ (ns : List Int) (p v c salt : Int), H a = some (.lst [.ref s, .int p, .int v, .int c, .int salt]) ∧ H s = some (.lst (ns.map V.int)) ∧ 0 ≤ p ∧ s ≠ a
theorem Pool.lst {H : Hp} {a s : Addr} (h : Pool H a s) : ∃ xs, H a = some (.lst xs) := by
  obtain ⟨ns, p, v, c, salt, h, _⟩ := h
  exact ⟨_, h⟩
theorem Pool.mono {H H' : Hp} {a s : Addr} (h : Pool H a s) (k : Same H H') : Pool H' a s := by
  obtain ⟨ns, p, v, c, salt, h1, h2, h3, h4⟩ := h
  exact ⟨ns, p, v, c, salt, k _ _ h1, k _ _ h2, h3, h4⟩
theorem Pool.ne {H : Hp} {a s : Addr} (h : Pool H a s) : H a ≠ none := by
  obtain ⟨xs, e⟩ := h.lst
  rw [e]
  exact fun z => nomatch z
theorem Gr.tk {a s : Addr} {H H' : Hp} (g : Gr a H H') (h : Pool H a s) : TK H H' := by
  obtain ⟨xs, e⟩ := h.lst
  exact .of_gr g e
theorem new_ne {H : Hp} {a s l : Addr} (h : Pool H a s) (n : H l = none) : l ≠ a ∧ l ≠ s := by
  obtain ⟨ns, p, v, c, salt, h1, h2, h3, h4⟩ := h
  exact ⟨ne_of_none h1 n |> Ne.symm, ne_of_none h2 n |> Ne.symm⟩
theorem Pool.upd {H : Hp} {a s l : Addr} {o : HO} (h : Pool H a s) (n : l ≠ a ∧ l ≠ s) : Pool (upd H l o) a s := by
  obtain ⟨ns, p, v, c, salt, h1, h2, h3, h4⟩ := h
  exact ⟨ns, p, v, c, salt, (upd_ne (Ne.symm n.1)).trans h1, (upd_ne (Ne.symm n.2)).trans h2, h3, h4⟩
abbrev s_law_spread : Stmt := topS 16
theorem sc_law_spread : FnScope ["cell", "mixed", "total", "k"] ["cell"] (defScope s_law_spread) := ⟨rfl, rfl, rfl, by decide +kernel, rfl, by decide +kernel, by decide +kernel⟩

abbrev s_law_draw : Stmt := topS 17
theorem sc_law_draw : FnScope ["pool", "many", "cell", "mixed", "value"] ["pool", "many"] (defScope s_law_draw) := ⟨rfl, rfl, rfl, by decide +kernel, rfl, by decide +kernel, by decide +kernel⟩

section
variable {P : Program} {w : World} {K : PySem.W.Frag} {mg : Str → Option Value} {base : Heap}
def spSpread : Sp := fun vs H Q _ => ∃ n : Int, vs = [.int n] ∧ ∀ r : Int, Q (.int r) H
theorem ok_spread (T : Blt mg) (D : DefAt K mg "_law_spread" s_law_spread ["cell"]) : FnOk P w K mg base CX0 1 D.f D.fd ["cell"] spSpread := by
  refine D.F.ok sc_law_spread (fun vs H Q E h => ?_) (fun cdv A outer s H vs Q E hr h => ?_)
  · obtain ⟨n, rfl, _⟩ := h
    rfl
  · obtain ⟨n, rfl, q⟩ := h
    refine ⟨_, (pss_cons (ps_set (i := 1) sc_law_spread.nd rfl (Or.inl rfl) (pe_op op_mod (pe_callTy call_int1' (by rfl) T.int (by decide +kernel) (pa_cons (pv 0) pa_nil)) pe_int))
      (pss_cons (ps_set (i := 2) sc_law_spread.nd rfl (Or.inl rfl) pe_int)
      (pss_cons (ps_for PassesOwn.never (by rfl) (pi_range1 (by rfl) T.range (pa_cons pe_int pa_nil)) (pg_name (i := 3) sc_law_spread.nd rfl (Or.inl rfl))
        (pss_cons (ps_set (i := 1) sc_law_spread.nd rfl (Or.inl rfl) (pe_op op_mod (pe_callTy call_int1' (by rfl) T.int (by decide +kernel) (pa_cons (pe_op op_add (pe_op op_add (pe_op op_mul (pv 1) pe_int) pe_int) (pv 3)) pa_nil)) pe_int))
        (pss_one (ps_set (i := 2) sc_law_spread.nd rfl (Or.inl rfl) (pe_op op_add (pe_op op_mul (pv 2) pe_int) (pv 1))))))
      (pss_one (ps_ret (pv 2)))))), ?_⟩
    refine r_at (σ := [some _, none, none, none]) rfl ?_
    walk_at "z"
    refine r_rg1 (by decide) (forR_range (fun _ σ' H' => H' = H ∧ ∃ a b c : Int, ∃ x, σ' = [some (.int a), some (.int b), some (.int c), x]) ⟨rfl, _, _, _, _, rfl⟩ (fun i σ' H' _ ⟨eH, a, b, c, x, eσ⟩ => ?_) fun σ' H' ⟨eH, a, b, c, x, eσ⟩ => ?_)
    · subst eH eσ
      walk_at "z"
      exact ⟨rfl, _, _, _, _, rfl⟩
    · subst eH eσ
      walk_at "z"
      exact q _
/-- a draw: a number from 0 up to the bound; the pool stays a pool; all else stands -/
def spDraw : Sp := fun vs H Q _ => ∃ (a s : Addr) (m : Int), vs = [.ref a, .int m] ∧ Pool H a s ∧ 0 < m ∧ m < 1000000 ∧ ∀ (r : Int) (H' : Hp), 0 ≤ r → r < m → Pool H' a s → Gr a H H' → Q (.int r) H'
theorem ok_draw (T : Blt mg) (D : DefAt K mg "_law_draw" s_law_draw ["pool", "many"]) (D_law_spread : DefAt K mg "_law_spread" s_law_spread ["cell"]) (G_law_spread : FnOk P w K mg base CX0 1 D_law_spread.f D_law_spread.fd ["cell"] spSpread) : FnOk P w K mg base CX0 2 D.f D.fd ["pool", "many"] spDraw := by
  refine D.F.ok sc_law_draw (fun vs H Q E h => ?_) (fun cdv A outer s H vs Q E hr h => ?_)
  · obtain ⟨a, _, m, rfl, _⟩ := h
    rfl
  · obtain ⟨a, s0, m, rfl, ⟨ns, p, v, c, salt, ha, hs, hp, hsa⟩, m0, m1, q⟩ := h
    refine ⟨_, (pss_cons (ps_if (PW.pt (pw_and (pt_cmpR op_le (pe_ix (ix_listK (K := K) rfl) (pv 0) pe_int (fun _ _ => rfl)) pe_int (nomark _)) (pw_and1 (pt_cmpR op_lt (pe_ix (ix_listK (K := K) rfl) (pv 0) pe_int (fun _ _ => rfl)) (pe_callB (call_lenK (K := K) rfl) (by rfl) T.len (by decide +kernel) (pa_cons (pe_ix (ix_listK (K := K) rfl) (pv 0) pe_int (fun _ _ => rfl)) pa_nil)) (nomark _)))))
        (pss_cons (ps_set (i := 2) sc_law_draw.nd rfl (Or.inl rfl) (pe_ix (ix_listK (K := K) rfl) (pe_ix (ix_listK (K := K) rfl) (pv 0) pe_int (fun _ _ => rfl)) (pe_ix (ix_listK (K := K) rfl) (pv 0) pe_int (fun _ _ => rfl)) (fun _ _ => rfl)))
        (pss_cons (ps_asg (pe_op op_add (pe_ix (ix_listK (K := K) rfl) (pv 0) pe_int (fun _ _ => rfl)) pe_int) (pg_sub (pv 0) pe_int set_list))
        (pss_cons (ps_asg (pv 2) (pg_sub (pv 0) pe_int set_list))
        (pss_one (ps_if (pt_cmpR op_lt (pv 2) pe_int (nomark _))
          (pss_one (ps_asg (pe_call G_law_spread (hr.mono (by first | decide | omega)) (by rfl) D_law_spread.g D_law_spread.F.kp D_law_spread.b .nil pass0 (pa_cons (pv 2) pa_nil)) (pg_sub (pv 0) pe_int set_list)))
          pss_nil)))))
        pss_nil)
      (pss_cons (ps_asg (pe_op op_add (pe_ix (ix_listK (K := K) rfl) (pv 0) pe_int (fun _ _ => rfl)) pe_int) (pg_sub (pv 0) pe_int set_list))
      (pss_cons (ps_if (pt_cmpR op_le (pe_ix (ix_listK (K := K) rfl) (pv 0) pe_int (fun _ _ => rfl)) pe_int (nomark _))
        (pss_cons (ps_set (i := 3) sc_law_draw.nd rfl (Or.inl rfl) (pe_op op_mod (pe_callTy call_int1' (by rfl) T.int (by decide +kernel) (pa_cons (pe_op op_add (pe_op op_add (pe_op op_mul (pe_ix (ix_listK (K := K) rfl) (pv 0) pe_int (fun _ _ => rfl)) pe_int) (pe_op op_mul (pe_ix (ix_listK (K := K) rfl) (pv 0) pe_int (fun _ _ => rfl)) pe_int)) pe_int) pa_nil)) pe_int))
        (pss_cons (ps_set (i := 3) sc_law_draw.nd rfl (Or.inl rfl) (pe_op op_mod (pe_callTy call_int1' (by rfl) T.int (by decide +kernel) (pa_cons (pe_op op_add (pe_op op_mul (pv 3) pe_int) (pe_ix (ix_listK (K := K) rfl) (pv 0) pe_int (fun _ _ => rfl))) pa_nil)) pe_int))
        (pss_one (ps_ret (pe_op op_mod (pe_op op_fdivW (pv 3) pe_int) (pv 1))))))
        pss_nil)
      (pss_cons (ps_set (i := 4) sc_law_draw.nd rfl (Or.inl rfl) (pe_op op_mod (pe_callTy call_int1' (by rfl) T.int (by decide +kernel) (pa_cons (pe_ix (ix_listK (K := K) rfl) (pv 0) pe_int (fun _ _ => rfl)) pa_nil)) (pv 1)))
      (pss_cons (ps_asg (pe_op op_fdivW (pe_ix (ix_listK (K := K) rfl) (pv 0) pe_int (fun _ _ => rfl)) (pv 1)) (pg_sub (pv 0) pe_int set_list))
      (pss_one (ps_ret (pv 4)))))))), ?_⟩
    refine r_at (σ := [some _, some _, none, none, none]) rfl ?_
    refine r_seqW (fun σ' H' => ∃ (p v c : Int) (x2 : Option V), σ' = [some (.ref a), some (.int m), x2, none, none] ∧ H' a = some (.lst [.ref s0, .int p, .int v, .int c, .int salt]) ∧ 0 ≤ p ∧ H' s0 = some (.lst (ns.map V.int)) ∧ Gr a H H') ?tail (fun B hB => ?head)
    case head =>
      have sa : s0 ≠ a := hsa
      walk_at "z"
      refine r_ite (fun hv => ?_) (fun hv => ?_)
      · walk_at "z"
        refine r_ite (fun hl => ?_) (fun hl => ?_)
        · rw [List.length_map] at hl
          obtain ⟨cell, _, hc⟩ := at_int hp hl
          walk_at "z"
          have key : ∀ r : Int, B [some (V.ref a), some (V.int m), some (V.int cell), none, none] (upd H a (.lst [.ref s0, .int (p + 1), .int r, .int c, .int salt])) := fun r => hB _ _ ⟨p + 1, r, c, _, rfl, upd_same, by omega, (upd_ne sa).trans hs, .self⟩
          refine r_ite (fun hb => ?_) (fun hb => ?_)
          · walk_at "z"
            refine ⟨_, rfl, fun r => ?_⟩
            walk_at "z"
            exact key _
          · walk_at "z"
            exact key _
        · walk_at "z"
          exact hB _ _ ⟨p, v, c, _, rfl, ha, hp, hs, .refl a H⟩
      · walk_at "z"
        exact hB _ _ ⟨p, v, c, _, rfl, ha, hp, hs, .refl a H⟩
    case tail =>
      rintro σ' H' ⟨p', v', c', x2, rfl, ha', hp', hs', g⟩
      have md : ∀ z : Int, 0 ≤ z % m ∧ z % m < m := fun z => ⟨Int.emod_nonneg z (by omega), Int.emod_lt_of_pos z m0⟩
      have fin : ∀ (z v2 : Int), Q (V.int (z % m)) (upd H' a (.lst [.ref s0, .int p', .int v2, .int (c' + 1), .int salt])) := fun z v2 =>
        q _ _ (md z).1 (md z).2 ⟨ns, p', v2, c' + 1, salt, upd_same, (upd_ne hsa).trans hs', hp', hsa⟩ (g.trans .self)
      walk_at "z"
      refine r_ite (fun hv => ?_) (fun hv => ?_)
      · walk_at "z"
        exact fin _ _
      · walk_at "z"
        refine r_i ⟨m0, (wide_div (i := 0) m0 (b := 20) (by omega) (by decide) (by decide)).2⟩ ?_
        walk_at "z"
        exact fin _ _
/-- the pool of a script -/
abbrev s_law_pool : Stmt := topS 15
theorem sc_law_pool : FnScope ["script", "salt", "cell"] ["script"] (defScope s_law_pool) := ⟨rfl, rfl, rfl, by decide +kernel, rfl, by decide +kernel, by decide +kernel⟩

def spPool (K : PySem.W.Frag) : Sp := fun vs H Q _ => ∃ (l : Addr) (ns : List Int), vs = [.ref l] ∧ SqL K H l (ns.map V.int) ∧ ∀ (a s : Addr) (H' : Hp), H a = none → Same H H' → Pool H' a s → Q (.ref a) H'
theorem cut_ints (ns : List Int) (lo hi : Option Int) : ∃ ms : List Int, cutV (ns.map V.int) lo hi = ms.map V.int ∧ ms.length ≤ ns.length := by
  refine ⟨(ns.drop (HT.sIx ns.length 0 lo)).take (HT.sIx ns.length ns.length hi - HT.sIx ns.length 0 lo), ?_, ?_⟩
  · unfold cutV
    rw [List.length_map, List.map_take, List.map_drop]
  · rw [List.length_take, List.length_drop]
    omega
theorem ok_pool (T : Blt mg) (D : DefAt K mg "_law_pool" s_law_pool ["script"]) : FnOk P w K mg base CX0 1 D.f D.fd ["script"] (spPool K) := by
  refine D.F.ok sc_law_pool (fun vs H Q E h => ?_) (fun cdv A outer s H vs Q E hr h => ?_)
  · obtain ⟨a, m, rfl, _⟩ := h
    rfl
  · obtain ⟨l, ns, rfl, hl, q⟩ := h
    refine ⟨_, (pss_cons (ps_set (i := 1) sc_law_pool.nd rfl (Or.inl rfl) pe_int)
      (pss_cons (ps_for PassesOwn.never (by rfl) (PI.listK (K := K) rfl (pi_list (pe_slice (sl_listK (K := K) rfl) (pv 0) po_none (po_some pe_int)))) (pg_name (i := 2) sc_law_pool.nd rfl (Or.inl rfl))
        (pss_one (ps_set (i := 1) sc_law_pool.nd rfl (Or.inl rfl) (pe_op op_mod (pe_callTy call_int1' (by rfl) T.int (by decide +kernel) (pa_cons (pe_op op_add (pe_op op_mul (pv 1) pe_int) (pv 2)) pa_nil)) pe_int))))
      (pss_one (ps_ret (pe_lst (pa_cons (pe_callTy (call_listK (K := K) rfl) (by rfl) T.list (by decide +kernel) (pa_cons (pv 0) pa_nil)) (pa_cons pe_int (pa_cons pe_int (pa_cons pe_int (pa_cons (pv 1) pa_nil)))))))))), ?_⟩
    refine r_at (σ := [some _, none, none]) rfl ?_
    walk_at "z"
    obtain ⟨ms, em, _⟩ := cut_ints ns none (some 63)
    refine ⟨l, _, rfl, hl, fun c hc => ?_⟩
    have sc : Same H (upd H c (.lst (ms.map V.int))) := same_new hc
    rw [em]
    refine r_il (.inl (.inl upd_same)) (forR_list (xs := ms.map V.int) (fun i σ' H' => H' = upd H c (.lst (ms.map V.int)) ∧ ∃ (z : Int) (x : Option V), σ' = [some (.ref l), some (.int z), x]) ⟨rfl, _, _, rfl⟩ (fun i σ' H' _ ⟨eH, _⟩ => ?_) (fun i x σ' H' hx ⟨eH, z, y, eσ⟩ => ?_) fun σ' H' ⟨eH, z, y, eσ⟩ => ?_)
    · rw [eH]
      exact .inl (.inl upd_same)
    · subst eH eσ
      rw [List.getElem?_map] at hx
      obtain ⟨n, _, rfl⟩ := Option.map_eq_some_iff.mp hx
      walk_at "z"
      exact ⟨rfl, _, _, rfl⟩
    · subst eH eσ
      walk_at "z"
      refine r_listL (sc.seq hl) fun b hb => ?_
      walk_at "z"
      refine r_lstN (by show 5 ≤ sizeLine; decide) fun a ha => ?_
      have sb := sc.trans (same_new (o := .lst (ns.map V.int)) hb)
      exact q a b _ (sb.free ha) (sb.trans (same_new ha)) ⟨ns, 0, 0, 0, z, upd_same, (upd_ne (ne_of_none upd_same ha)).trans upd_same, by omega, ne_of_none upd_same ha⟩
end

set_option Elab.async false
set_option linter.all false
set_option maxRecDepth 100000
set_option maxHeartbeats 4000000
open PySem PySem.Spec PyProof.Rows L2

abbrev s_law_distinct : Stmt := topS 19
theorem sc_law_distinct : FnScope ["rows", "found", "row"] ["rows"] (defScope s_law_distinct) := ⟨rfl, rfl, rfl, by decide +kernel, rfl, by decide +kernel, by decide +kernel⟩

section
variable {P : Program} {w : World} {K : PySem.W.Frag} {mg : Str → Option Value} {base : Heap}
theorem prs_push {H : Hp} {l t : Addr} {xs : List V} {ps : List (Int × Int)} {a b : Int} (hl : H l = some (.lst xs)) (hp : Prs H xs ps) (ht : H t = none) :
    Prs (upd (upd H t (.tup [.int a, .int b])) l (.lst (xs ++ [.ref t]))) (xs ++ [.ref t]) (ps ++ [(a, b)]) := by
  have n : t ≠ l := (ne_of_none hl ht).symm
  have k : TK H (upd (upd H t (.tup [.int a, .int b])) l (.lst (xs ++ [.ref t]))) := fun c ys e => by
    rw [upd_ne (fun z => by rw [z, hl] at e; cases e), upd_ne (ne_of_none e ht)]
    exact e
  exact (hp.tk k).snoc ⟨t, rfl, by rw [upd_ne n]; exact upd_same⟩
/-- all pairs u < v below n -/
def spPairs : Sp := fun vs H Q _ => ∃ n : Nat, vs = [.int (n : Int)] ∧ n ≤ 100 ∧ ∀ (l : Addr) (xs : List V) (H' : Hp), H l = none → Same H H' → H' l = some (.lst xs) → Prs H' xs (allP n) → Q (.ref l) H'
/-- the rows ascending, each once -/
def spDistinct (K : PySem.W.Frag) : Sp := fun vs H Q _ => ∃ (l : Addr) (xs : List V) (ps : List (Int × Int)), vs = [.ref l] ∧ SqL K H l xs ∧ Prs H xs ps ∧ ps.length ≤ 10000 ∧
  ∀ (f : Addr) (ys : List V) (qs : List (Int × Int)) (H' : Hp), H f = none → Same H H' → H' f = some (.lst ys) → Prs H' ys qs → qs.Pairwise ltP → (∀ p, p ∈ qs ↔ p ∈ ps) → Q (.ref f) H'
theorem ok_distinct (T : Blt mg) (D : DefAt K mg "_law_distinct" s_law_distinct ["rows"]) : FnOk P w K mg base CX0 2 D.f D.fd ["rows"] (spDistinct K) := by
  refine D.F.ok sc_law_distinct (fun vs H Q E h => ?_) (fun cdv A outer s H vs Q E hr h => ?_)
  · obtain ⟨l, xs, ps, rfl, _⟩ := h
    rfl
  · obtain ⟨l, xs, ps, rfl, hl, hp, hlen, q⟩ := h
    refine ⟨_, (pss_cons (ps_set (i := 1) sc_law_distinct.nd rfl (Or.inl rfl) (pe_lst pa_nil))
      (pss_cons (ps_for PassesOwn.never (by rfl) (PI.listK (K := K) rfl (pi_list (pe_callB (cr_sortPrK (K := K) rfl) (by rfl) T.sorted (by decide +kernel) (pa_cons (pv 0) pa_nil)))) (pg_name (i := 2) sc_law_distinct.nd rfl (Or.inl rfl))
        (pss_one (ps_if (PW.pt (pw_or (pt_cmpR (op_eqDK (K := K) rfl hr.units) (pv 1) (pe_lst pa_nil) (nomark _)) (pw_or1 (pt_cmpR (op_neDK (K := K) rfl hr.units) (pe_ix (ix_listK (K := K) rfl) (pv 1) (pe_un un_neg pe_int) (fun _ _ => rfl)) (pv 2) (nomark _)))))
          (pss_one (ps_expr (PE.bmK (K := K) rfl (pe_bm PySem.F.plainAttrs_list PySem.F.slot_list_append PySem.F.type_list_append mt_append (pv 1) (pa_cons (pv 2) pa_nil)))))
          pss_nil)))
      (pss_one (ps_ret (pv 1))))), ?_⟩
    refine r_at (σ := [some _, none, none]) rfl ?_
    walk_at "z"
    refine r_lstN (by decide) fun f hf => ?_
    walk_at "z"
    have s1 : Same H (upd H f (.lst [])) := same_new hf
    refine ⟨l, xs, ps, rfl, s1.seq hl, hp.tk (.of_same s1), fun ys qs p pm hy pw hn => ?_⟩
    have s2 : Same H (upd (upd H f (.lst [])) p (.lst ys)) := s1.trans (same_new hn)
    have pf : f ≠ p := ne_of_none upd_same hn
    refine r_il (.inl (.inl upd_same)) (forR_list (xs := ys) (fun i σ' H' => (∃ x2, σ' = [some (.ref l), some (.ref f), x2]) ∧ Same H H' ∧ H' p = some (.lst ys) ∧ Prs H' ys qs ∧ ∃ zs fs, H' f = some (.lst zs) ∧ Prs H' zs fs ∧ Ded (qs.take i) fs)
      ⟨⟨_, rfl⟩, s2, upd_same, hy.tk (.new hn), [], [], (upd_ne pf).trans upd_same, .nil, .nil⟩ ?_ ?_ ?_)
    · rintro i σ' H' _ ⟨_, _, h, _⟩
      exact .inl (.inl h)
    · rintro i x σ' H' hx ⟨⟨x2, rfl⟩, sm, hpl, hys, zs, fs, hz, hfs, D0⟩
      obtain ⟨r, hr', hxr⟩ := pd_get hys hx
      have tk : qs.take (i + 1) = qs.take i ++ [r] := take_next hr'
      walk_at "z"
      refine r_lstN (by decide) fun e he => ?_
      have ef : f ≠ e := ne_of_none hz he
      have s3 : Same H' (upd H' e (.lst [])) := same_new he
      refine r_eqNil ((upd_ne ef).trans hz) upd_same (hfs.tk (.of_same s3)) ?_
      walk_at "z"
      have pl : ((qs.take i) ++ [r]).Pairwise leP := by
        rw [← tk]
        exact pw.take
      have lens : zs.length < sizeLine := small_lt (by
        have h1 : fs.length ≤ ps.length := by
          have nd := asc_nodup D0.asc
          have sub : ∀ z ∈ fs, z ∈ ps := fun z hz => pm.mem_iff.mp (List.mem_of_mem_take ((D0.mem z).mp hz))
          exact nodup_le _ _ nd sub
        have h2 := hfs.length
        omega)
      -- the row goes behind
      have push : ∀ H2 : Hp, Same H' H2 → H2 f = some (.lst zs) → fs.getLast? ≠ some r → (∃ x2_1, [some (V.ref l), some (V.ref f), some x] = [some (V.ref l), some (V.ref f), x2_1]) ∧ Same H (upd H2 f (.lst (zs ++ [x]))) ∧ (upd H2 f (.lst (zs ++ [x]))) p = some (.lst ys) ∧ Prs (upd H2 f (.lst (zs ++ [x]))) ys qs ∧ ∃ zs_1 fs_1, (upd H2 f (.lst (zs ++ [x]))) f = some (.lst zs_1) ∧ Prs (upd H2 f (.lst (zs ++ [x]))) zs_1 fs_1 ∧ Ded (qs.take (i + 1)) fs_1 := fun H2 sx hf2 hne => by
        have kk : TK H' (upd H2 f (.lst (zs ++ [x]))) := (TK.of_same sx).trans (.lst hf2)
        refine ⟨⟨_, rfl⟩, same_mut (sm.trans sx) hf, ?_, hys.tk kk, _, _, upd_same, (hfs.tk kk).snoc (hxr.tk kk), ?_⟩
        · rw [upd_ne (Ne.symm pf)]
          exact sx _ _ hpl
        · rw [tk]
          exact D0.more pl hne
      refine r_ite (fun h0 => ?_) (fun h0 => ?_)
      · walk_at "z"
        refine r_appT (by walk_at "zh") lens ?_
        refine push _ s3 ((upd_ne ef).trans hz) ?_
        rw [h0]
        exact fun z => nomatch z
      · walk_at "z"
        obtain ⟨r', hr2⟩ : ∃ r', fs.getLast? = some r' := by
          cases q9 : fs.getLast? with
          | some r' => exact ⟨r', rfl⟩
          | none => exact absurd (List.getLast?_eq_none_iff.mp q9) h0
        obtain ⟨x', hx', fx'⟩ := pd_last hfs hr2
        refine r_ixL (.inl (.inl ((upd_ne ef).trans hz))) (at_last hx') ?_
        walk_at "z"
        refine r_neP (fx'.tk (.of_same s3)) (hxr.tk (.of_same s3)) ?_
        walk_at "z"
        refine r_iteN (fun h1 => ?_) (fun h1 => ?_)
        · walk_at "z"
          refine r_appT (by walk_at "zh") lens ?_
          refine push _ s3 ((upd_ne ef).trans hz) ?_
          rw [hr2]
          exact fun z => h1 (Option.some.inj z)
        · walk_at "z"
          refine ⟨⟨_, rfl⟩, sm.trans s3, s3 _ _ hpl, hys.tk (.of_same s3), zs, fs, s3 _ _ hz, hfs.tk (.of_same s3), ?_⟩
          rw [tk]
          exact D0.same (by rw [hr2, h1])
    · rintro σ' H' ⟨⟨x2, rfl⟩, sm, hpl, hys, zs, fs, hz, hfs, D0⟩
      walk_at "z"
      rw [hys.length, List.take_length] at D0
      exact q f zs fs H' hf sm hz hfs D0.asc fun z => (D0.mem z).trans pm.mem_iff
end

set_option Elab.async false
set_option linter.all false
set_option maxRecDepth 100000
set_option maxHeartbeats 4000000
open PySem PySem.Spec PyProof.Rows L2

abbrev s_law_of : Stmt := topS 20
theorem sc_law_of : FnScope ["n", "pairs", "pair"] ["n", "pairs"] (defScope s_law_of) := ⟨rfl, rfl, rfl, by decide +kernel, rfl, by decide +kernel, by decide +kernel⟩

section
variable {P : Program} {w : World} {K : PySem.W.Frag} {mg : Str → Option Value} {base : Heap}
/-- the edges stand as a tuple of pairs at e -/
def EdgesAt (H : Hp) (e : Addr) (ps : List (Int × Int)) : Prop := ∃ xs, H e = some (.tup xs) ∧ Prs H xs ps
theorem EdgesAt.tk {H H' : Hp} (k : TK H H') {e : Addr} {ps : List (Int × Int)} (h : EdgesAt H e ps) : EdgesAt H' e ps := by
  obtain ⟨xs, h1, h2⟩ := h
  exact ⟨xs, k _ _ h1, h2.tk k⟩
/-- v is the graph of n and these edges -/
def GrAt (H : Hp) (v : V) (n : Int) (ps : List (Int × Int)) : Prop := ∃ g e, v = .ref g ∧ H g = some (.tup [.int n, .ref e]) ∧ EdgesAt H e ps
theorem GrAt.tk {H H' : Hp} (k : TK H H') {v : V} {n : Int} {ps : List (Int × Int)} (h : GrAt H v n ps) : GrAt H' v n ps := by
  obtain ⟨g, e, h1, h2, h3⟩ := h
  exact ⟨g, e, h1, k _ _ h2, h3.tk k⟩
/-- (n, tuple of distinct(..)) -/
def spOf (K : PySem.W.Frag) : Sp := fun vs H Q _ => ∃ (n : Int) (l : Addr) (xs : List V) (ps : List (Int × Int)), vs = [.int n, .ref l] ∧ SqL K H l xs ∧ Prs H xs ps ∧ ps.length ≤ 10000 ∧
  ∀ (v : V) (qs : List (Int × Int)) (H' : Hp), Same H H' → GrAt H' v n qs → qs.Pairwise ltP → (∀ p, p ∈ qs ↔ ∃ r ∈ ps, p = nrm r) → Q v H'
theorem r_minP {x : V} {p : Int × Int} {H : Hp} {Q : VK} (h : IsP H x p) (q : Q (.int (min p.1 p.2)) H) : rMinT [x] H Q := ⟨x, p, rfl, h, q⟩
theorem r_maxP {x : V} {p : Int × Int} {H : Hp} {Q : VK} (h : IsP H x p) (q : Q (.int (max p.1 p.2)) H) : rMaxT [x] H Q := ⟨x, p, rfl, h, q⟩
theorem ok_of (T : Blt mg) (D : DefAt K mg "_law_of" s_law_of ["n", "pairs"]) (D_law_distinct : DefAt K mg "_law_distinct" s_law_distinct ["rows"]) (G_law_distinct : FnOk P w K mg base CX0 2 D_law_distinct.f D_law_distinct.fd ["rows"] (spDistinct K)) :
    FnOk P w K mg base CX0 3 D.f D.fd ["n", "pairs"] (spOf K) := by
  refine D.F.ok sc_law_of (fun vs H Q E h => ?_) (fun cdv A outer s H vs Q E hr h => ?_)
  · obtain ⟨n, l, xs, ps, rfl, _⟩ := h
    rfl
  · obtain ⟨n, l, xs, ps, rfl, hl, hp, hlen, q⟩ := h
    refine ⟨_, (pss_one (ps_ret (pe_tup (pa_cons (pv 0) (pa_cons (pe_callTy (call_tupleK (K := K) rfl) (by rfl) T.tuple (by decide +kernel) (pa_cons (pe_call G_law_distinct (hr.mono (by first | decide | omega)) (by rfl) D_law_distinct.g D_law_distinct.F.kp D_law_distinct.b .nil pass0 (pa_cons (pe_lc (own := [("pair", 2)]) (by rfl) sc_law_of.nd (PI.listK (K := K) rfl (pi_list (pv 1))) (blkOk_by (own := [("pair", 2)]) (N := ["n", "pairs", "pair"]) (sc := (defScope s_law_of)) (by decide +kernel)) (fun _ _ _ _ _ => (pg_name (i := 2) sc_law_of.nd rfl (Or.inl rfl))) (fun _ _ _ _ _ => pts_nil) (fun _ _ _ _ _ => (pe_tup (pa_cons (pe_callB (cr_minT rfl) (by rfl) T.min (by decide +kernel) (pa_cons (pv 2) pa_nil)) (pa_cons (pe_callB (cr_maxT rfl) (by rfl) T.max (by decide +kernel) (pa_cons (pv 2) pa_nil)) pa_nil))))) pa_nil)) pa_nil)) pa_nil))))), ?_⟩
    refine r_at (σ := [some _, some _, none]) rfl ?_
    walk_at "z"
    refine r_il hl fun d hd => lcR_list (xs := xs) (fun i H' => Same H H' ∧ ∃ ys, H' d = some (.lst ys) ∧ Prs H' ys ((ps.take i).map nrm)) (by walk_at "zw") ⟨same_new hd, [], upd_same, .nil⟩ (fun i H' _ ⟨s1, _⟩ => s1.seq hl) ?_ ?_
    · rintro i x H' hx ⟨s1, ys, hy, hys⟩
      obtain ⟨p, hpi, hxp⟩ := pd_get (hp.tk (.of_same s1)) hx
      walk_at "z"
      refine ⟨rfl, ?_⟩
      walk_at "z"
      refine r_minP hxp ?_
      walk_at "z"
      refine r_maxP hxp ?_
      walk_at "z"
      refine r_tupN sz2 fun t ht => ?_
      refine r_lce (by walk_at "zh") (small_lt ?_) ⟨same_mut (s1.trans (same_new ht)) hd, _, upd_same, ?_⟩
      · rw [hys.length, List.length_map, List.length_take]
        omega
      · rw [take_next hpi, List.map_append]
        exact prs_push hy hys ht
    · rintro H' ⟨s1, ys, hy, hys⟩
      rw [hp.length, List.take_length] at hys
      walk_at "z"
      refine ⟨d, ys, _, rfl, .inl (.inl hy), hys, by rw [List.length_map]; exact hlen, fun f zs qs H2 hf s2 hz hzs asc mem => ?_⟩
      walk_at "z"
      refine r_tupL (.inl (.inl hz)) fun e he => ?_
      walk_at "z"
      refine r_tupN sz2 fun g hg => ?_
      have s3 : Same H2 (upd H2 e (.tup zs)) := same_new he
      have s4 := s3.trans (same_new (o := .tup [.int n, .ref e]) hg)
      refine q _ qs _ ((s1.trans s2).trans s4) ⟨g, e, rfl, upd_same, zs, (upd_ne (ne_of_none upd_same hg)).trans upd_same, hzs.tk (.of_same s4)⟩ asc fun p => ?_
      rw [mem, List.mem_map]
      constructor
      · rintro ⟨r, hr, rfl⟩
        exact ⟨r, hr, rfl⟩
      · rintro ⟨r, hr, rfl⟩
        exact ⟨r, hr, rfl⟩
/-- are u and v neighbours? -/
def spMet : Sp := fun vs H Q _ => ∃ (g : V) (n u v : Int) (ps : List (Int × Int)), vs = [g, .int u, .int v] ∧ GrAt H g n ps ∧ ∀ H', Same H H' → Q (.bl (decide (nrm (u, v) ∈ ps))) H'
/-- the neighbours, ascending -/
def nearL (n : Int) (ps : List (Int × Int)) (v : Int) (k : Nat) : List Int := ((List.range k).map fun (i : Nat) => (i : Int)).filter fun u => decide (u ≠ v ∧ nrm (u, v) ∈ ps)
def spNear : Sp := fun vs H Q _ => ∃ (g : V) (n v : Int) (ps : List (Int × Int)), vs = [g, .int v] ∧ GrAt H g n ps ∧ 0 ≤ n ∧ n ≤ 100 ∧ ∀ (l : Addr) (H' : Hp), H l = none → Same H H' → H' l = some (.lst ((nearL n ps v n.toNat).map V.int)) → Q (.ref l) H'
end

set_option Elab.async false
set_option linter.all false
set_option maxRecDepth 100000
set_option maxHeartbeats 4000000
open PySem PySem.Spec PyProof.Rows L2

abbrev s_edge_of : Stmt := topS 13
theorem sc_edge_of : FnScope ["u", "v"] ["u", "v"] (defScope s_edge_of) := ⟨rfl, rfl, rfl, by decide +kernel, rfl, by decide +kernel, by decide +kernel⟩

abbrev s_graph_of : Stmt := topS 12
theorem sc_graph_of : FnScope ["n", "pairs", "u", "v"] ["n", "pairs"] (defScope s_graph_of) := ⟨rfl, rfl, rfl, by decide +kernel, rfl, by decide +kernel, by decide +kernel⟩

section
variable {P : Program} {w : World} {K : PySem.W.Frag} {mg : Str → Option Value} {base : Heap}
/-- (u, v) or (v, u) -/
def spEdge : Sp := fun vs H Q _ => ∃ u v : Int, vs = [.int u, .int v] ∧ ∀ x H', Same H H' → IsP H' x (nrm (u, v)) → Q x H'
theorem ok_edge (T : Blt mg) (D : DefAt K mg "edge_of" s_edge_of ["u", "v"]) : FnOk P w K mg base CX0 1 D.f D.fd ["u", "v"] spEdge := by
  refine D.F.ok sc_edge_of (fun vs H Q E h => ?_) (fun cdv A outer s H vs Q E hr h => ?_)
  · obtain ⟨u, v, rfl, _⟩ := h
    rfl
  · obtain ⟨u, v, rfl, q⟩ := h
    refine ⟨_, (pss_one (ps_ret (pe_ifExp (pt_cmpR op_lt (pv 0) (pv 1) (nomark _)) (pe_tup (pa_cons (pv 0) (pa_cons (pv 1) pa_nil))) (pe_tup (pa_cons (pv 1) (pa_cons (pv 0) pa_nil)))))), ?_⟩
    refine r_at (σ := [some _, some _]) rfl ?_
    walk_at "z"
    refine r_ite (fun h => ?_) (fun h => ?_)
    · walk_at "z"
      refine r_tupN sz2 fun t ht => q _ _ (same_new ht) ⟨t, rfl, ?_⟩
      unfold nrm
      rw [show min (u, v).1 (u, v).2 = u by dsimp only; omega, show max (u, v).1 (u, v).2 = v by dsimp only; omega]
      exact upd_same
    · walk_at "z"
      refine r_tupN sz2 fun t ht => q _ _ (same_new ht) ⟨t, rfl, ?_⟩
      unfold nrm
      rw [show min (u, v).1 (u, v).2 = v by dsimp only; omega, show max (u, v).1 (u, v).2 = u by dsimp only; omega]
      exact upd_same
theorem flt_take {α : Type} {ps : List α} {i : Nat} {p : α} (h : ps[i]? = some p) (c : α → Bool) : (ps.take (i + 1)).filter c = (ps.take i).filter c ++ (if c p = true then [p] else []) := by
  rw [take_next h, List.filter_append, List.filter_cons, List.filter_nil]
theorem flt_len {α : Type} {ps : List α} {i k : Nat} (c : α → Bool) (h : ps.length ≤ k) : ((ps.take i).filter c).length ≤ k := by
  have h1 := List.length_filter_le c (ps.take i)
  rw [List.length_take] at h1
  omega
/-- the graph of these pairs -/
def spGof (K : PySem.W.Frag) : Sp := fun vs H Q _ => ∃ (n : Int) (l : Addr) (xs : List V) (ps : List (Int × Int)), vs = [.int n, .ref l] ∧ SqL K H l xs ∧ Prs H xs ps ∧ ps.length ≤ 60 ∧ (∀ p ∈ ps, 0 ≤ p.1 ∧ p.1 < 64 ∧ 0 ≤ p.2 ∧ p.2 < 64) ∧
  ∀ (v : V) (qs : List (Int × Int)) (H' : Hp), Same H H' → GrAt H' v n qs → qs.Pairwise ltP → (∀ p, p ∈ qs ↔ ∃ r ∈ ps, p = nrm r) → Q v H'
theorem ok_gof (T : Blt mg) (D : DefAt K mg "graph_of" s_graph_of ["n", "pairs"]) (D_edge_of : DefAt K mg "edge_of" s_edge_of ["u", "v"]) (G_edge_of : FnOk P w K mg base CX0 1 D_edge_of.f D_edge_of.fd ["u", "v"] spEdge) :
    FnOk P w K mg base CX0 2 D.f D.fd ["n", "pairs"] (spGof K) := by
  refine D.F.ok sc_graph_of (fun vs H Q E h => ?_) (fun cdv A outer s H vs Q E hr h => ?_)
  · obtain ⟨n, l, xs, ps, rfl, _⟩ := h
    rfl
  · obtain ⟨n, l, xs, ps, rfl, hl, hp, hlen, bd, q⟩ := h
    refine ⟨_, (pss_one (ps_ret (pe_tup (pa_cons (pv 0) (pa_cons (pe_callTy (call_tupleK (K := K) rfl) (by rfl) T.tuple (by decide +kernel) (pa_cons (pe_callB (cr_sortedTK (K := K) (P := P) (w := w) rfl rfl rfl rfl) (by rfl) T.sorted (by decide +kernel) (pa_cons (PE.setK (K := K) (P := P) (w := w) rfl rfl rfl (pe_setT hr.units (own := [("u", 2), ("v", 3)]) (by rfl) sc_graph_of.nd (PI.listK (K := K) rfl (pi_list (pv 1))) (blkOk_by (own := [("u", 2), ("v", 3)]) (N := ["n", "pairs", "u", "v"]) (sc := (defScope s_graph_of)) (by decide +kernel)) (fun _ _ _ _ _ => (PG.tupK (K := K) rfl (pg_tup (n := 2) rfl (pgs_cons (pg_name (i := 2) sc_graph_of.nd rfl (Or.inl rfl)) (pgs_cons (pg_name (i := 3) sc_graph_of.nd rfl (Or.inl rfl)) pgs_nil))))) (fun _ _ _ _ _ => pts_nil) (fun _ _ _ _ _ => (pe_call G_edge_of (hr.mono (by first | decide | omega)) (by rfl) D_edge_of.g D_edge_of.F.kp D_edge_of.b .nil pass0 (pa_cons (pv 2) (pa_cons (pv 3) pa_nil)))))) pa_nil)) pa_nil)) pa_nil))))), ?_⟩
    refine r_at (σ := [some _, some _, none, none]) rfl ?_
    walk_at "z"
    refine r_set ?_
    walk_at "z"
    refine r_il hl fun d hd => scR_list (xs := xs) (fun i H' => Same H H' ∧ SetP P w H' d ((ps.take i).map nrm)) (by walk_at "zw") ⟨same_new hd, setP_nil⟩ (fun i H' _ ⟨s1, _⟩ => s1.seq hl) ?_ ?_
    · rintro i x H' hx ⟨s1, hs⟩
      obtain ⟨p, hpi, t, rfl, ht⟩ := pd_get (hp.tk (.of_same s1)) hx
      refine r_gtup (.inl (.inl ht)) rfl ?_
      walk_at "z"
      refine ⟨rfl, ?_⟩
      walk_at "z"
      refine ⟨p.1, p.2, rfl, fun y H2 s2 hy => ?_⟩
      obtain ⟨L, hdL, _⟩ := id hs
      have hs2 : SetP P w H2 d ((ps.take i).map nrm) := hs.tk (.of_same s2) ((s2 _ _ hdL).trans hdL.symm)
      refine hs2.add hy (by rw [List.length_map, List.length_take]; omega) fun o ho => ⟨same_mut (s1.trans s2) hd, ?_⟩
      rw [take_next hpi, List.map_append]
      exact ho
    · rintro H' ⟨s1, hs⟩
      rw [hp.length, List.take_length] at hs
      walk_at "z"
      refine r_sortT hs (fun r hr => ?_) fun f zs qs hf hz asc mem hln => ?_
      · obtain ⟨r0, hr0, rfl⟩ := List.mem_map.mp hr
        obtain ⟨b1, b2, b3, b4⟩ := bd r0 hr0
        unfold nrm
        refine ⟨?_, ?_, ?_, ?_⟩ <;> dsimp only <;> omega
      · have s2 : Same H' (upd H' f (.lst zs)) := same_new hf
        walk_at "z"
        refine r_tupL (.inl (.inl upd_same)) fun e he => ?_
        walk_at "z"
        refine r_tupN sz2 fun g hg => ?_
        have s3 : Same _ (upd (upd H' f (.lst zs)) e (.tup zs)) := same_new he
        have s4 := s3.trans (same_new (o := .tup [.int n, .ref e]) hg)
        refine q _ qs _ ((s1.trans s2).trans s4) ⟨g, e, rfl, upd_same, zs, (upd_ne (ne_of_none upd_same hg)).trans upd_same, hz.tk (.of_same (s2.trans s4))⟩ asc fun p => ?_
        rw [mem, List.mem_map]
        constructor
        · rintro ⟨r, hr, rfl⟩
          exact ⟨r, hr, rfl⟩
        · rintro ⟨r, hr, rfl⟩
          exact ⟨r, hr, rfl⟩
def spAre : Sp := fun vs H Q _ => ∃ (g : V) (n u v : Int) (ps : List (Int × Int)), vs = [g, .int u, .int v] ∧ GrAt H g n ps ∧ ∀ H', Same H H' → Q (.bl (decide (nrm (u, v) ∈ ps))) H'
end

set_option Elab.async false
set_option linter.all false
set_option maxRecDepth 100000
set_option maxHeartbeats 4000000
open PySem PySem.Spec PyProof.Rows L2

abbrev s_is_integer : Stmt := topS 5
theorem sc_is_integer : FnScope ["value"] ["value"] (defScope s_is_integer) := ⟨rfl, rfl, rfl, by decide +kernel, rfl, by decide +kernel, by decide +kernel⟩

abbrev s_is_size : Stmt := topS 9
theorem sc_is_size : FnScope ["value"] ["value"] (defScope s_is_size) := ⟨rfl, rfl, rfl, by decide +kernel, rfl, by decide +kernel, by decide +kernel⟩

abbrev s_is_vertex : Stmt := topS 6
theorem sc_is_vertex : FnScope ["n", "value"] ["n", "value"] (defScope s_is_vertex) := ⟨rfl, rfl, rfl, by decide +kernel, rfl, by decide +kernel, by decide +kernel⟩

abbrev s_refuse_size : Stmt := topS 10
theorem sc_refuse_size : FnScope ["n"] ["n"] (defScope s_refuse_size) := ⟨rfl, rfl, rfl, by decide +kernel, rfl, by decide +kernel, by decide +kernel⟩

abbrev s_made_graph : Stmt := topS 11
theorem sc_made_graph : FnScope ["n", "edges", "u", "v"] ["n", "edges"] (defScope s_made_graph) := ⟨rfl, rfl, rfl, by decide +kernel, rfl, by decide +kernel, by decide +kernel⟩

section
variable {P : Program} {w : World} {K : PySem.W.Frag} {mg : Str → Option Value} {base : Heap}
theorem r_isiI {H : Hp} {Q : VK} {i : Int} {c : String} {b : Bool} (e : kitB "int" c = some b) (q : Q (.bl b) H) : rIsi K [.int i, .ty c] H Q := ⟨.int i, .ty c, .type "int", .type c, b, rfl, .ty _, .base (.int i), kit_ty e, q⟩
/-- an int is an int -/
def spIsInt : Sp := fun vs H Q _ => ∃ i : Int, vs = [.int i] ∧ Q (.bl true) H
theorem ok_isint (T : Blt mg) (D : DefAt K mg "is_integer" s_is_integer ["value"]) : FnOk P w K mg base CX0 1 D.f D.fd ["value"] spIsInt := by
  refine D.F.ok sc_is_integer (fun vs H Q E h => ?_) (fun cdv A outer s H vs Q E hr h => ?_)
  · obtain ⟨i, rfl, _⟩ := h
    rfl
  · obtain ⟨i, rfl, q⟩ := h
    refine ⟨_, (pss_one (ps_ret (pe_and (pe_callB (call_isiK (K := K) rfl) (by rfl) T.isinstance (by decide +kernel) (pa_cons (pv 0) (pa_cons (pe_bltn (v := .ty "int") (u := .type "int") (by rfl) T.int (by decide +kernel) rfl) pa_nil))) (pe_one (pe_not (pe_callB (call_isiK (K := K) rfl) (by rfl) T.isinstance (by decide +kernel) (pa_cons (pv 0) (pa_cons (pe_bltn (v := .ty "bool") (u := .type "bool") (by rfl) T.bool (by decide +kernel) rfl) pa_nil)))))))), ?_⟩
    refine r_at (σ := [some _]) rfl ?_
    walk_at "z"
    refine r_isiI (b := true) (by decide +kernel) ?_
    walk_at "z"
    refine r_isiI (b := false) (by decide +kernel) ?_
    walk_at "z"
    exact q
def spIsVx : Sp := fun vs H Q _ => ∃ n i : Int, vs = [.int n, .int i] ∧ Q (.bl (decide (0 ≤ i ∧ i < n))) H
theorem ok_isvx (T : Blt mg) (D : DefAt K mg "is_vertex" s_is_vertex ["n", "value"]) (D_is_integer : DefAt K mg "is_integer" s_is_integer ["value"]) (G_is_integer : FnOk P w K mg base CX0 1 D_is_integer.f D_is_integer.fd ["value"] spIsInt) :
    FnOk P w K mg base CX0 2 D.f D.fd ["n", "value"] spIsVx := by
  refine D.F.ok sc_is_vertex (fun vs H Q E h => ?_) (fun cdv A outer s H vs Q E hr h => ?_)
  · obtain ⟨n, i, rfl, _⟩ := h
    rfl
  · obtain ⟨n, i, rfl, q⟩ := h
    refine ⟨_, (pss_one (ps_ret (pe_and (pe_call G_is_integer (hr.mono (by first | decide | omega)) (by rfl) D_is_integer.g D_is_integer.F.kp D_is_integer.b .nil pass0 (pa_cons (pv 1) pa_nil)) (pe_one (pe_chain op_le op_lt pe_int (pv 1) (pv 0)))))), ?_⟩
    refine r_at (σ := [some _, some _]) rfl ?_
    walk_at "z"
    refine ⟨i, rfl, ?_⟩
    walk_at "z"
    refine r_ite (fun h => ?_) (fun h => ?_)
    · walk_at "z"
      have e : decide (0 ≤ i ∧ i < n) = decide (i < n) := by simp [h]
      rw [e] at q
      exact q
    · have e : decide (0 ≤ i ∧ i < n) = false := by simp [h]
      rw [e] at q
      exact q
def spIsSz : Sp := fun vs H Q _ => ∃ i : Int, vs = [.int i] ∧ Q (.bl (decide (1 ≤ i ∧ i ≤ 60))) H
theorem ok_issz (T : Blt mg) {tk : Tok} (C_MOST_VERTICES : mg "MOST_VERTICES" = some (.int 60 tk)) (D : DefAt K mg "is_size" s_is_size ["value"]) (D_is_integer : DefAt K mg "is_integer" s_is_integer ["value"]) (G_is_integer : FnOk P w K mg base CX0 1 D_is_integer.f D_is_integer.fd ["value"] spIsInt) :
    FnOk P w K mg base CX0 2 D.f D.fd ["value"] spIsSz := by
  refine D.F.ok sc_is_size (fun vs H Q E h => ?_) (fun cdv A outer s H vs Q E hr h => ?_)
  · obtain ⟨i, rfl, _⟩ := h
    rfl
  · obtain ⟨i, rfl, q⟩ := h
    refine ⟨_, (pss_one (ps_ret (pe_and (pe_call G_is_integer (hr.mono (by first | decide | omega)) (by rfl) D_is_integer.g D_is_integer.F.kp D_is_integer.b .nil pass0 (pa_cons (pv 0) pa_nil)) (pe_one (pe_chain op_le op_le pe_int (pv 0) (pe_glob rfl C_MOST_VERTICES rel_int)))))), ?_⟩
    refine r_at (σ := [some _]) rfl ?_
    walk_at "z"
    refine ⟨i, rfl, ?_⟩
    walk_at "z"
    refine r_ite (fun h => ?_) (fun h => ?_)
    · walk_at "z"
      have e : decide (1 ≤ i ∧ i ≤ 60) = decide (i ≤ 60) := by simp [h]
      rw [e] at q
      exact q
    · have e : decide (1 ≤ i ∧ i ≤ 60) = false := by simp [h]
      rw [e] at q
      exact q
def spRef (C : Addr) : Sp := fun vs H Q E => ∃ i : Int, vs = [.int i] ∧ (¬ (1 ≤ i ∧ i ≤ 60) → E (.ref C) none H) ∧ (1 ≤ i ∧ i ≤ 60 → Q .non H)
theorem ok_refuse (T : Blt mg) (X_BadGraph : ExcD K mg "BadGraph") (D : DefAt K mg "refuse_size" s_refuse_size ["n"]) (D_is_size : DefAt K mg "is_size" s_is_size ["value"]) (G_is_size : FnOk P w K mg base CX0 2 D_is_size.f D_is_size.fd ["value"] spIsSz) :
    FnOk P w K mg base (L2.CX P w) 3 D.f D.fd ["n"] (spRef X_BadGraph.C) := by
  refine D.F.okX sc_refuse_size (fun vs H Q E h => ?_) (fun cdv A outer s H vs Q E hr h => ?_)
  · obtain ⟨i, rfl, _⟩ := h
    rfl
  · obtain ⟨i, rfl, no, yes⟩ := h
    refine ⟨_, (pss_one (ps_if (pt_not (pt_val (pe_call G_is_size (hr.mono (by first | decide | omega)) (by rfl) D_is_size.g D_is_size.F.kp D_is_size.b .nil pass0 (pa_cons (pv 0) pa_nil))))
        (pss_one (ps_raise rfl (takes_of rfl rfl rfl rfl) (pmk_own PySem.F.excBase_ValueError X_BadGraph.q X_BadGraph.g X_BadGraph.k (raises_own X_BadGraph.ex X_BadGraph.ty) (by rfl))))
        pss_nil)), ?_⟩
    refine r_at (σ := [some _]) rfl ?_
    walk_at "z"
    refine ⟨i, rfl, ?_⟩
    walk_at "z"
    refine r_iteN (fun h => ?_) (fun h => ?_)
    · exact no h
    · walk_at "z"
      exact yes h
/-- all is right with these pairs -/
def OkPs (n : Int) (ps : List (Int × Int)) : Prop := ∀ p ∈ ps, (0 ≤ p.1 ∧ p.1 < n) ∧ (0 ≤ p.2 ∧ p.2 < n) ∧ p.1 ≠ p.2
def spMade (K : PySem.W.Frag) (C : Addr) : Sp := fun vs H Q E => ∃ (n : Int) (l : Addr) (xs : List V) (ps : List (Int × Int)), vs = [.int n, .ref l] ∧ SqL K H l xs ∧ Prs H xs ps ∧ ps.length ≤ 60 ∧
  (¬ ((1 ≤ n ∧ n ≤ 60) ∧ OkPs n ps) → ∀ H', Same H H' → E (.ref C) none H') ∧
  ((1 ≤ n ∧ n ≤ 60) ∧ OkPs n ps → ∀ (v : V) (qs : List (Int × Int)) (H' : Hp), Same H H' → GrAt H' v n qs → qs.Pairwise ltP → (∀ p, p ∈ qs ↔ ∃ r ∈ ps, p = nrm r) → Q v H')
theorem ok_made (T : Blt mg) (X_BadGraph : ExcD K mg "BadGraph") (D : DefAt K mg "made_graph" s_made_graph ["n", "edges"])
    (D_refuse_size : DefAt K mg "refuse_size" s_refuse_size ["n"]) (G_refuse_size : FnOk P w K mg base (L2.CX P w) 3 D_refuse_size.f D_refuse_size.fd ["n"] (spRef X_BadGraph.C))
    (D_is_vertex : DefAt K mg "is_vertex" s_is_vertex ["n", "value"]) (G_is_vertex : FnOk P w K mg base CX0 2 D_is_vertex.f D_is_vertex.fd ["n", "value"] spIsVx)
    (D_graph_of : DefAt K mg "graph_of" s_graph_of ["n", "pairs"]) (G_graph_of : FnOk P w K mg base CX0 2 D_graph_of.f D_graph_of.fd ["n", "pairs"] (spGof K)) :
    FnOk P w K mg base (L2.CX P w) 4 D.f D.fd ["n", "edges"] (spMade K X_BadGraph.C) := by
  refine D.F.okX sc_made_graph (fun vs H Q E h => ?_) (fun cdv A outer s H vs Q E hr h => ?_)
  · obtain ⟨n, l, xs, ps, rfl, _⟩ := h
    rfl
  · obtain ⟨n, l, xs, ps, rfl, hl, hp, hlen, no, yes⟩ := h
    refine ⟨_, (pss_cons (ps_expr (pe_callS G_refuse_size (hr.mono (by first | decide | omega)) (by rfl) D_refuse_size.g D_refuse_size.F.kp D_refuse_size.b (fun σ => passAt (takes_of rfl rfl rfl rfl) σ) (pa_cons (pv 0) pa_nil)))
      (pss_cons (ps_for (passes_of rfl) (by rfl) (PI.listK (K := K) rfl (pi_list (pv 1))) (PG.tupK (K := K) rfl (pg_tup (n := 2) rfl (pgs_cons (pg_name (i := 2) sc_made_graph.nd rfl (Or.inl rfl)) (pgs_cons (pg_name (i := 3) sc_made_graph.nd rfl (Or.inl rfl)) pgs_nil))))
        (pss_cons (ps_if (PW.pt (pw_or (pt_not (pt_val (pe_call G_is_vertex (hr.mono (by first | decide | omega)) (by rfl) D_is_vertex.g D_is_vertex.F.kp D_is_vertex.b .nil pass0 (pa_cons (pv 0) (pa_cons (pv 2) pa_nil))))) (pw_or1 (pt_not (pt_val (pe_call G_is_vertex (hr.mono (by first | decide | omega)) (by rfl) D_is_vertex.g D_is_vertex.F.kp D_is_vertex.b .nil pass0 (pa_cons (pv 0) (pa_cons (pv 3) pa_nil))))))))
          (pss_one (ps_raise rfl (takes_of rfl rfl rfl rfl) (pmk_own PySem.F.excBase_ValueError X_BadGraph.q X_BadGraph.g X_BadGraph.k (raises_own X_BadGraph.ex X_BadGraph.ty) (by rfl))))
          pss_nil)
        (pss_one (ps_if (pt_cmpR op_eq (pv 2) (pv 3) (nomark _))
          (pss_one (ps_raise rfl (takes_of rfl rfl rfl rfl) (pmk_own PySem.F.excBase_ValueError X_BadGraph.q X_BadGraph.g X_BadGraph.k (raises_own X_BadGraph.ex X_BadGraph.ty) (by rfl))))
          pss_nil))))
      (pss_one (ps_ret (pe_call G_graph_of (hr.mono (by first | decide | omega)) (by rfl) D_graph_of.g D_graph_of.F.kp D_graph_of.b .nil pass0 (pa_cons (pv 0) (pa_cons (pv 1) pa_nil))))))), ?_⟩
    refine r_at (σ := [some _, some _, none, none]) rfl ?_
    walk_at "z"
    refine ⟨n, rfl, fun h => no (fun z => h z.1) H fun _ _ z => z, fun hn => ?_⟩
    walk_at "z"
    refine r_il hl (forR_list (xs := xs) (fun i σ' H' => (∃ x2 x3, σ' = [some (.int n), some (.ref l), x2, x3]) ∧ H' = H ∧ OkPs n (ps.take i)) ⟨⟨_, _, rfl⟩, rfl, fun p hp => by cases hp⟩ (fun i σ' H' _ ⟨_, e, _⟩ => e ▸ hl) ?_ ?_)
    · rintro i x σ' H' hx ⟨⟨x2, x3, rfl⟩, rfl, ok⟩
      obtain ⟨p, hpi, t, rfl, ht⟩ := pd_get hp hx
      have pm := List.mem_of_getElem? hpi
      refine r_gtup (.inl (.inl ht)) rfl ?_
      walk_at "z"
      refine ⟨n, p.1, rfl, ?_⟩
      walk_at "z"
      refine r_iteN (fun h1 => ?_) (fun h1 => ?_)
      · walk_at "z"
        exact no (fun z => h1 (z.2 p pm).1) _ fun _ _ z => z
      · walk_at "z"
        refine ⟨n, p.2, rfl, ?_⟩
        walk_at "z"
        refine r_iteN (fun h2 => ?_) (fun h2 => ?_)
        · exact no (fun z => h2 (z.2 p pm).2.1) _ fun _ _ z => z
        · walk_at "z"
          refine r_ite (fun h3 => ?_) (fun h3 => ?_)
          · exact no (fun z => (z.2 p pm).2.2 h3) _ fun _ _ z => z
          · walk_at "z"
            refine ⟨⟨_, _, rfl⟩, rfl, fun r hr => ?_⟩
            rw [take_next hpi] at hr
            rcases List.mem_append.mp hr with z | z
            · exact ok r z
            · rw [List.mem_singleton.mp z]
              exact ⟨h1, h2, h3⟩
    · rintro σ' H' ⟨⟨x2, x3, rfl⟩, rfl, ok⟩
      rw [hp.length, List.take_length] at ok
      walk_at "z"
      refine ⟨n, l, xs, ps, rfl, hl, hp, hlen, fun p hpm => ?_, fun v qs H2 s2 hg asc mem => yes ⟨hn, ok⟩ v qs H2 s2 hg asc mem⟩
      obtain ⟨⟨b1, b2⟩, ⟨b3, b4⟩, _⟩ := ok p hpm
      exact ⟨b1, by omega, b3, by omega⟩
end

set_option Elab.async false
set_option linter.all false
set_option maxRecDepth 100000
set_option maxHeartbeats 4000000
open PySem PySem.Spec PyProof.Rows L2

abbrev s_law_same : Stmt := topS 18
theorem sc_law_same : FnScope ["actual", "due", "k"] ["actual", "due"] (defScope s_law_same) := ⟨rfl, rfl, rfl, by decide +kernel, rfl, by decide +kernel, by decide +kernel⟩

/-! ## values that are alike -/
def kd : PyData → String
  | .none => "NoneType"
  | .bool _ => "bool"
  | .int _ => "int"
  | .str _ => "str"
  | .list _ => "list"
  | .tuple _ => "tuple"
  | .dict _ => "dict"
/-- no deeper than d, and nowhere long -/
def sm : Nat → PyData → Prop
  | 0, _ => False
  | _ + 1, .none => True
  | _ + 1, .bool _ => True
  | _ + 1, .int _ => True
  | _ + 1, .str x => x.cps.all (· < 0x110000) = true
  | d + 1, .list xs => xs.length ≤ 100000 ∧ ∀ x ∈ xs, sm d x
  | d + 1, .tuple xs => xs.length ≤ 100000 ∧ ∀ x ∈ xs, sm d x
  | _ + 1, .dict _ => False
section
variable {P : Program} {w : World} {K : PySem.W.Frag} {mg : Str → Option Value} {base : Heap}
theorem DpAll.pd {H : Hp} : ∀ (ds : List PyData) {vs : List V}, DpAll K H vs ds → Paired (Dp K H) vs ds
  | [], _, .nil => .nil
  | _ :: ds, _, .cons h r => .cons h (DpAll.pd ds r)
theorem DpAll.of {H : Hp} : ∀ {ds : List PyData} {vs : List V}, Paired (Dp K H) vs ds → DpAll K H vs ds
  | _, _, .nil => .nil
  | _, _, .cons h r => .cons h (DpAll.of r)
theorem ty_dp {H : Hp} {x : V} {t : PyData} (h : Dp K H x t) : TyX K H x (.type (kd t)) := by
  cases h with
  | non => exact .base .non
  | bl b => exact .base (.bl b)
  | int i => exact .base (.int i)
  | str s => exact .base (.str s)
  | lst h _ =>
    rcases h with (h | ⟨ob, h⟩) | ⟨o, its, n, h1, h2, _⟩
    · exact .base (.lst h)
    · exact .base (.frz h)
    · exact .kList h1 h2
  | tup h _ =>
    rcases h with (h | ⟨ob, h⟩) | ⟨o, its, n, h1, h2, _⟩
    · exact .base (.tup h)
    · exact .fTuple h
    · exact .kTuple h1 h2
theorem r_isiD {H : Hp} {Q : VK} {x : V} {t : PyData} {c k : String} {b : Bool} (h : Dp K H x t) (e1 : kd t = k) (e : kitB k c = some b) (q : Q (.bl b) H) : rIsi K [x, .ty c] H Q :=
  ⟨x, .ty c, .type k, .type c, b, rfl, .ty _, e1 ▸ ty_dp h, kit_ty e, q⟩
theorem r_eqD {H : Hp} {Q : VK} {x y : V} {t : PyData} (hx : Dp K H x t) (hy : Dp K H y t) (c : t.canLay0 = true) (d : t.depth ≤ 64) (q : Q (.bl true) H) : rEqD K x y H Q := by
  have e : SeqAt.shaped t = true := by
    unfold SeqAt.shaped
    rw [c, decide_eq_true d]
    rfl
  refine ⟨t, t, hx, hy, e, e, ?_⟩
  rw [PySem.SeqAt.eqv_refl t c]
  exact q
theorem r_isN {H : Hp} {Q : VK} {x : V} (q : Q (.bl (decide (x = .non))) H) : (fun (x y : V) (H : Hp) (Q : VK) => y = .non ∧ Q (.bl (decide (x = .non))) H) x .non H Q := ⟨rfl, q⟩
def spSame (K : PySem.W.Frag) (d : Nat) : Sp := fun vs H Q _ => ∃ (x y : V) (t : PyData), vs = [x, y] ∧ Dp K H x t ∧ Dp K H y t ∧ sm d t ∧ Q (.bl true) H
theorem ok_same (T : Blt mg) (D_law_same : DefAt K mg "_law_same" s_law_same ["actual", "due"]) : ∀ d : Nat, FnOk P w K mg base CX0 d D_law_same.f D_law_same.fd ["actual", "due"] (spSame K d)
  | 0 => fn_none.imp fun vs H Q E h => by
    obtain ⟨_, _, _, _, _, _, h, _⟩ := h
    exact h
  | d + 1 => by
    have G_law_same := ok_same T D_law_same d
    refine D_law_same.F.ok sc_law_same (fun vs H Q E h => ?_) (fun cdv A outer s H vs Q E hr h => ?_)
    · obtain ⟨x, y, t, rfl, _⟩ := h
      rfl
    · obtain ⟨x, y, t, rfl, hx, hy, hd, q⟩ := h
      refine ⟨_, (pss_cons (ps_if (PW.pt (pw_or (pt_val (pe_callB (call_isiK (K := K) rfl) (by rfl) T.isinstance (by decide +kernel) (pa_cons (pv 1) (pa_cons (pe_bltn (v := .ty "tuple") (u := .type "tuple") (by rfl) T.tuple (by decide +kernel) rfl) pa_nil)))) (pw_or1 (pt_val (pe_callB (call_isiK (K := K) rfl) (by rfl) T.isinstance (by decide +kernel) (pa_cons (pv 1) (pa_cons (pe_bltn (v := .ty "list") (u := .type "list") (by rfl) T.list (by decide +kernel) rfl) pa_nil)))))))
        (pss_cons (ps_if (PW.pt (pw_or (pt_cmpR op_ne (pe_callB (call_isiK (K := K) rfl) (by rfl) T.isinstance (by decide +kernel) (pa_cons (pv 1) (pa_cons (pe_bltn (v := .ty "tuple") (u := .type "tuple") (by rfl) T.tuple (by decide +kernel) rfl) pa_nil))) (pe_callB (call_isiK (K := K) rfl) (by rfl) T.isinstance (by decide +kernel) (pa_cons (pv 0) (pa_cons (pe_bltn (v := .ty "tuple") (u := .type "tuple") (by rfl) T.tuple (by decide +kernel) rfl) pa_nil))) (nomark _)) (pw_or1 (pt_cmpR op_ne (pe_callB (call_isiK (K := K) rfl) (by rfl) T.isinstance (by decide +kernel) (pa_cons (pv 1) (pa_cons (pe_bltn (v := .ty "list") (u := .type "list") (by rfl) T.list (by decide +kernel) rfl) pa_nil))) (pe_callB (call_isiK (K := K) rfl) (by rfl) T.isinstance (by decide +kernel) (pa_cons (pv 0) (pa_cons (pe_bltn (v := .ty "list") (u := .type "list") (by rfl) T.list (by decide +kernel) rfl) pa_nil))) (nomark _)))))
          (pss_one (ps_ret pe_bl))
          pss_nil)
        (pss_cons (ps_if (pt_cmpR op_ne (pe_callB (call_lenK (K := K) rfl) (by rfl) T.len (by decide +kernel) (pa_cons (pv 0) pa_nil)) (pe_callB (call_lenK (K := K) rfl) (by rfl) T.len (by decide +kernel) (pa_cons (pv 1) pa_nil)) (nomark _))
          (pss_one (ps_ret pe_bl))
          pss_nil)
        (pss_cons (ps_for PassesOwn.never (by rfl) (pi_range1 (by rfl) T.range (pa_cons (pe_callB (call_lenK (K := K) rfl) (by rfl) T.len (by decide +kernel) (pa_cons (pv 1) pa_nil)) pa_nil)) (pg_name (i := 2) sc_law_same.nd rfl (Or.inl rfl))
          (pss_one (ps_if (pt_not (pt_val (pe_call G_law_same (hr.mono (by first | decide | omega)) (by rfl) D_law_same.g D_law_same.F.kp D_law_same.b .nil pass0 (pa_cons (pe_ix (ix_eitherK (K := K) rfl) (pv 0) (pv 2) (fun _ _ => rfl)) (pa_cons (pe_ix (ix_eitherK (K := K) rfl) (pv 1) (pv 2) (fun _ _ => rfl)) pa_nil)))))
            (pss_one (ps_ret pe_bl))
            pss_nil)))
        (pss_one (ps_ret pe_bl)))))
        pss_nil)
      (pss_cons (ps_if (pt_cmpR op_isN (pv 1) pe_non (nomark _))
        (pss_one (ps_ret (pe_cmpR op_isN (pv 0) pe_non (nomark _))))
        pss_nil)
      (pss_cons (ps_if (pt_val (pe_callB (call_isiK (K := K) rfl) (by rfl) T.isinstance (by decide +kernel) (pa_cons (pv 1) (pa_cons (pe_bltn (v := .ty "bool") (u := .type "bool") (by rfl) T.bool (by decide +kernel) rfl) pa_nil))))
        (pss_one (ps_ret (pe_and (pe_callB (call_isiK (K := K) rfl) (by rfl) T.isinstance (by decide +kernel) (pa_cons (pv 0) (pa_cons (pe_bltn (v := .ty "bool") (u := .type "bool") (by rfl) T.bool (by decide +kernel) rfl) pa_nil))) (pe_one (pe_cmpR (op_eqDK (K := K) rfl hr.units) (pv 0) (pv 1) (nomark _))))))
        pss_nil)
      (pss_cons (ps_if (pt_val (pe_callB (call_isiK (K := K) rfl) (by rfl) T.isinstance (by decide +kernel) (pa_cons (pv 1) (pa_cons (pe_bltn (v := .ty "int") (u := .type "int") (by rfl) T.int (by decide +kernel) rfl) pa_nil))))
        (pss_one (ps_ret (pe_and (pe_callB (call_isiK (K := K) rfl) (by rfl) T.isinstance (by decide +kernel) (pa_cons (pv 0) (pa_cons (pe_bltn (v := .ty "int") (u := .type "int") (by rfl) T.int (by decide +kernel) rfl) pa_nil))) (pe_and (pe_not (pe_callB (call_isiK (K := K) rfl) (by rfl) T.isinstance (by decide +kernel) (pa_cons (pv 0) (pa_cons (pe_bltn (v := .ty "bool") (u := .type "bool") (by rfl) T.bool (by decide +kernel) rfl) pa_nil)))) (pe_one (pe_cmpR (op_eqDK (K := K) rfl hr.units) (pv 0) (pv 1) (nomark _)))))))
        pss_nil)
      (pss_one (ps_ret (pe_and (pe_callB (call_isiK (K := K) rfl) (by rfl) T.isinstance (by decide +kernel) (pa_cons (pv 0) (pa_cons (pe_bltn (v := .ty "str") (u := .type "str") (by rfl) T.str (by decide +kernel) rfl) pa_nil))) (pe_one (pe_cmpR (op_eqDK (K := K) rfl hr.units) (pv 0) (pv 1) (nomark _)))))))))), ?_⟩
      refine r_at (σ := [some _, some _, none]) rfl ?_
      cases t with
      | none =>
        cases hx; cases hy
        walk_at "z"
        refine r_isiD .non (k := "NoneType") rfl (b := false) (by decide +kernel) ?_
        walk_at "z"
        refine r_isiD .non (k := "NoneType") rfl (b := false) (by decide +kernel) ?_
        walk_at "z"
        refine r_isN ?_
        walk_at "z"
        refine iteT ?_
        walk_at "z"
        refine r_isN ?_
        exact q
      | bool b =>
        cases hx; cases hy
        walk_at "z"
        refine r_isiD (.bl b) (k := "bool") rfl (b := false) (by decide +kernel) ?_
        walk_at "z"
        refine r_isiD (.bl b) (k := "bool") rfl (b := false) (by decide +kernel) ?_
        walk_at "z"
        refine r_isN ?_
        walk_at "z"
        refine iteF ?_
        walk_at "z"
        refine r_isiD (.bl b) (k := "bool") rfl (b := true) (by decide +kernel) ?_
        walk_at "z"
        refine r_isiD (.bl b) (k := "bool") rfl (b := true) (by decide +kernel) ?_
        walk_at "z"
        exact r_eqD (.bl b) (.bl b) (by simp [PyData.canLay0]) (by simp [PyData.depth]) q
      | int i =>
        cases hx; cases hy
        walk_at "z"
        refine r_isiD (.int i) (k := "int") rfl (b := false) (by decide +kernel) ?_
        walk_at "z"
        refine r_isiD (.int i) (k := "int") rfl (b := false) (by decide +kernel) ?_
        walk_at "z"
        refine r_isN ?_
        walk_at "z"
        refine iteF ?_
        walk_at "z"
        refine r_isiD (.int i) (k := "int") rfl (b := false) (by decide +kernel) ?_
        walk_at "z"
        refine r_isiD (.int i) (k := "int") rfl (b := true) (by decide +kernel) ?_
        walk_at "z"
        refine r_isiD (.int i) (k := "int") rfl (b := true) (by decide +kernel) ?_
        walk_at "z"
        refine r_isiD (.int i) (k := "int") rfl (b := false) (by decide +kernel) ?_
        walk_at "z"
        refine iteT ?_
        walk_at "z"
        exact r_eqD (.int i) (.int i) (by simp [PyData.canLay0]) (by simp [PyData.depth]) q
      | str z =>
        cases hx; cases hy
        walk_at "z"
        refine r_isiD (.str z) (k := "str") rfl (b := false) (by decide +kernel) ?_
        walk_at "z"
        refine r_isiD (.str z) (k := "str") rfl (b := false) (by decide +kernel) ?_
        walk_at "z"
        refine r_isN ?_
        walk_at "z"
        refine iteF ?_
        walk_at "z"
        refine r_isiD (.str z) (k := "str") rfl (b := false) (by decide +kernel) ?_
        walk_at "z"
        refine r_isiD (.str z) (k := "str") rfl (b := false) (by decide +kernel) ?_
        walk_at "z"
        refine r_isiD (.str z) (k := "str") rfl (b := true) (by decide +kernel) ?_
        walk_at "z"
        exact r_eqD (.str z) (.str z) (by unfold PyData.canLay0; exact hd) (by simp [PyData.depth]) q
      | list ds =>
        obtain ⟨hn, hm⟩ := hd
        cases id hx with
        | @lst a xs _ hxs hxd =>
        cases id hy with
        | @lst b ys _ hys hyd =>
        have px := DpAll.pd _ hxd
        have py := DpAll.pd _ hyd
        have lx := px.length
        have ly := py.length
        walk_at "z"
        refine r_isiD hy (k := "list") rfl (b := false) (by decide +kernel) ?_
        walk_at "z"
        refine r_isiD hy (k := "list") rfl (b := true) (by decide +kernel) ?_
        walk_at "z"
        refine r_isiD hy (k := "list") rfl (b := false) (by decide +kernel) ?_
        walk_at "z"
        refine r_isiD hx (k := "list") rfl (b := false) (by decide +kernel) ?_
        walk_at "z"
        refine iteF ?_
        walk_at "z"
        refine r_isiD hy (k := "list") rfl (b := true) (by decide +kernel) ?_
        walk_at "z"
        refine r_isiD hx (k := "list") rfl (b := true) (by decide +kernel) ?_
        walk_at "z"
        refine iteF ?_
        walk_at "z"
        refine r_iteN (fun h => absurd (by omega) h) (fun _ => ?_)
        walk_at "z"
        walk_at "z"
        refine r_rg1 (by omega) (forR_range (fun i σ' H' => H' = H ∧ ∃ x2, σ' = [some (.ref a), some (.ref b), x2]) ⟨rfl, _, rfl⟩ ?_ ?_)
        · rintro i σ' H' hi ⟨rfl, x2, rfl⟩
          have hi' : i < ds.length := by omega
          obtain ⟨x, hxi, hxt⟩ := pd_get2 px (List.getElem?_eq_getElem hi')
          obtain ⟨y, hyi, hyt⟩ := pd_get2 py (List.getElem?_eq_getElem hi')
          have e0 : (0 : Int) + (i : Int) = i := by omega
          walk_at "z"
          rw [e0]
          refine r_ixE (.inl hxs) (atI_nat hxi) ?_
          walk_at "z"
          refine r_ixE (.inl hys) (atI_nat hyi) ?_
          walk_at "z"
          refine ⟨x, y, ds[i], rfl, hxt, hyt, hm _ (List.getElem_mem hi'), ?_⟩
          walk_at "z"
          refine iteF ?_
          exact ⟨rfl, _, rfl⟩
        · rintro σ' H' ⟨rfl, x2, rfl⟩
          walk_at "z"
          exact q
      | tuple ds =>
        obtain ⟨hn, hm⟩ := hd
        cases id hx with
        | @tup a xs _ hxs hxd =>
        cases id hy with
        | @tup b ys _ hys hyd =>
        have px := DpAll.pd _ hxd
        have py := DpAll.pd _ hyd
        have lx := px.length
        have ly := py.length
        walk_at "z"
        refine r_isiD hy (k := "tuple") rfl (b := true) (by decide +kernel) ?_
        walk_at "z"
        refine r_isiD hy (k := "tuple") rfl (b := true) (by decide +kernel) ?_
        walk_at "z"
        refine r_isiD hx (k := "tuple") rfl (b := true) (by decide +kernel) ?_
        walk_at "z"
        refine iteF ?_
        walk_at "z"
        refine r_isiD hy (k := "tuple") rfl (b := false) (by decide +kernel) ?_
        walk_at "z"
        refine r_isiD hx (k := "tuple") rfl (b := false) (by decide +kernel) ?_
        walk_at "z"
        refine iteF ?_
        walk_at "z"
        refine r_iteN (fun h => absurd (by omega) h) (fun _ => ?_)
        walk_at "z"
        walk_at "z"
        refine r_rg1 (by omega) (forR_range (fun i σ' H' => H' = H ∧ ∃ x2, σ' = [some (.ref a), some (.ref b), x2]) ⟨rfl, _, rfl⟩ ?_ ?_)
        · rintro i σ' H' hi ⟨rfl, x2, rfl⟩
          have hi' : i < ds.length := by omega
          obtain ⟨x, hxi, hxt⟩ := pd_get2 px (List.getElem?_eq_getElem hi')
          obtain ⟨y, hyi, hyt⟩ := pd_get2 py (List.getElem?_eq_getElem hi')
          have e0 : (0 : Int) + (i : Int) = i := by omega
          walk_at "z"
          rw [e0]
          refine r_ixE (.inr hxs) (atI_nat hxi) ?_
          walk_at "z"
          refine r_ixE (.inr hys) (atI_nat hyi) ?_
          walk_at "z"
          refine ⟨x, y, ds[i], rfl, hxt, hyt, hm _ (List.getElem_mem hi'), ?_⟩
          walk_at "z"
          refine iteF ?_
          exact ⟨rfl, _, rfl⟩
        · rintro σ' H' ⟨rfl, x2, rfl⟩
          walk_at "z"
          exact q
      | dict ds => exact hd.elim
end

set_option Elab.async false
set_option linter.all false
set_option maxRecDepth 100000
set_option maxHeartbeats 4000000
open PySem PySem.Spec PyProof.Rows L2
/-! graphs and pairs as data -/
def pT (p : Int × Int) : PyData := .tuple [.int p.1, .int p.2]
def gT (n : Int) (ps : List (Int × Int)) : PyData := .tuple [.int n, .tuple (ps.map pT)]
section
variable {K : PySem.W.Frag} {H : Hp} {Q : VK}
theorem dp_pair {x : V} {p : Int × Int} (h : IsP H x p) : Dp K H x (pT p) := by
  obtain ⟨t, rfl, ht⟩ := h
  exact .tup (.inl (.inl ht)) (.cons (.int _) (.cons (.int _) .nil))
theorem dp_prs : ∀ {xs : List V} {ps : List (Int × Int)}, Prs H xs ps → DpAll K H xs (ps.map pT)
  | _, _, .nil => .nil
  | _, _, .cons h r => .cons (dp_pair h) (dp_prs r)
theorem dp_list {l : Addr} {xs : List V} {ps : List (Int × Int)} (h : SqL K H l xs) (hp : Prs H xs ps) : Dp K H (.ref l) (.list (ps.map pT)) := .lst h (dp_prs hp)
theorem dp_graph {v : V} {n : Int} {ps : List (Int × Int)} (h : GrAt H v n ps) : Dp K H v (gT n ps) := by
  obtain ⟨g, e, rfl, hg, xs, he, hp⟩ := h
  exact .tup (.inl (.inl hg)) (.cons (.int _) (.cons (.tup (.inl (.inl he)) (dp_prs hp)) .nil))
theorem sm_pT (d : Nat) (p : Int × Int) : sm (d + 2) (pT p) := by
  refine ⟨by simp, fun x hx => ?_⟩
  rcases List.mem_cons.mp hx with e | e
  · rw [e]; exact trivial
  · rw [List.mem_singleton.mp e]; exact trivial
theorem sm_gT {n : Int} {ps : List (Int × Int)} (h : ps.length ≤ 100000) : sm 4 (gT n ps) := by
  refine ⟨by simp, fun x hx => ?_⟩
  rcases List.mem_cons.mp hx with e | e
  · rw [e]; exact trivial
  · rw [List.mem_singleton.mp e]
    refine ⟨by rw [List.length_map]; exact h, fun y hy => ?_⟩
    obtain ⟨p, _, rfl⟩ := List.mem_map.mp hy
    exact sm_pT 0 p
theorem lay_pT : ∀ ps : List (Int × Int), PyData.canLayAll0 (ps.map pT) = true
  | [] => by simp [PyData.canLayAll0]
  | p :: ps => by
    rw [List.map_cons]
    simp only [PyData.canLayAll0, pT, PyData.canLay0, Bool.and_self, Bool.true_and]
    exact lay_pT ps
theorem deep_pT : ∀ ps : List (Int × Int), PyData.depthAll (ps.map pT) ≤ 1
  | [] => by simp [PyData.depthAll]
  | p :: ps => by
    have := deep_pT ps
    rw [List.map_cons]
    simp only [PyData.depthAll, pT, PyData.depth]
    omega
theorem r_eqPs {l m : Addr} {xs ys : List V} {ps : List (Int × Int)} (h1 : SqL K H l xs) (p1 : Prs H xs ps) (h2 : SqL K H m ys) (p2 : Prs H ys ps) (q : Q (.bl true) H) : rEqD K (.ref l) (.ref m) H Q := by
  refine r_eqD (dp_list h1 p1) (dp_list h2 p2) (by unfold PyData.canLay0; exact lay_pT ps) ?_ q
  have := deep_pT ps
  unfold PyData.depth
  omega
theorem r_pickI {l : Addr} {ns : List Int} {r : Int} (h : H l = some (.lst (ns.map V.int))) (h0 : 0 ≤ r) (h1 : r < ns.length) (q : ∀ c ∈ ns, Q (.int c) H) : rIxL K (.ref l) (.int r) H Q := by
  obtain ⟨c, hc, e⟩ := at_int h0 h1
  exact r_ixL (.inl (.inl h)) e (q c hc)
theorem pd_intsT {H : Hp} : ∀ ns : List Int, Paired (Dp K H) (ns.map V.int) (ns.map PyData.int)
  | [] => .nil
  | n :: ns => .cons (.int n) (pd_intsT ns)
theorem Prs0 (H : Hp) : Prs H [] [] := .nil
theorem prs_new {H : Hp} {t : Addr} {xs : List V} {ps : List (Int × Int)} {a b : Int} (hp : Prs H xs ps) (ht : H t = none) : Prs (upd H t (.tup [.int a, .int b])) (xs ++ [.ref t]) (ps ++ [(a, b)]) := (hp.tk (.new ht)).snoc ⟨t, rfl, upd_same⟩
/-- one of a list of pairs -/
theorem r_pickP {l : Addr} {xs : List V} {ps : List (Int × Int)} {r : Int} (h : H l = some (.lst xs)) (hp : Prs H xs ps) (h0 : 0 ≤ r) (h1 : r < ps.length) (q : ∀ x, ∀ p ∈ ps, IsP H x p → Q x H) : rIxL K (.ref l) (.int r) H Q := by
  have hr : ((r.toNat : Nat) : Int) = r := by omega
  have h2 : r.toNat < ps.length := by omega
  obtain ⟨x, hx, hxp⟩ := pd_get2 hp (List.getElem?_eq_getElem h2)
  rw [← hr]
  exact r_ixL (.inl (.inl h)) (atI_nat hx) (q x _ (List.getElem_mem h2) hxp)
end

set_option Elab.async false
set_option linter.all false
set_option maxRecDepth 100000
set_option maxHeartbeats 4000000
open PySem PySem.Spec PyProof.Rows L2

abbrev s_law : Stmt := topS 21
theorem sc_law : FnScope ["script", "pool", "n", "pairs", "k", "u", "v", "good", "way", "at", "handed", "told", "e"] ["script"] (defScope s_law) := ⟨rfl, rfl, rfl, by decide +kernel, rfl, by decide +kernel, by decide +kernel⟩

section
variable {P : Program} {w : World} {K : PySem.W.Frag} {mg : Str → Option Value} {base : Heap}
def spLaw (K : PySem.W.Frag) : Sp := fun vs H Q _ => ∃ (l : Addr) (ns : List Int), vs = [.ref l] ∧ SqL K H l (ns.map V.int) ∧ ∀ H', Q (.bl true) H'
theorem ok_law (T : Blt mg) (D : DefAt K mg "law" s_law ["script"])
    (X_BadGraph : ExcD K mg "BadGraph") {CT CE : Addr} (g_TrellisError : mg "TrellisError" = some (.ref CT)) (g_BadEdit : mg "BadEdit" = some (.ref CE))
    (kT : PySem.W.kitOne K (.ref X_BadGraph.C) (.ref CT) = some true) (kE : PySem.W.kitOne K (.ref X_BadGraph.C) (.ref CE) = some false)
    (D_law_pool : DefAt K mg "_law_pool" s_law_pool ["script"]) (G_law_pool : FnOk P w K mg base CX0 1 D_law_pool.f D_law_pool.fd ["script"] (spPool K))
    (D_law_draw : DefAt K mg "_law_draw" s_law_draw ["pool", "many"]) (G_law_draw : FnOk P w K mg base CX0 2 D_law_draw.f D_law_draw.fd ["pool", "many"] spDraw)
    (D_law_same : DefAt K mg "_law_same" s_law_same ["actual", "due"]) (G_law_same : FnOk P w K mg base CX0 4 D_law_same.f D_law_same.fd ["actual", "due"] (spSame K 4))
    (D_law_of : DefAt K mg "_law_of" s_law_of ["n", "pairs"]) (G_law_of : FnOk P w K mg base CX0 3 D_law_of.f D_law_of.fd ["n", "pairs"] (spOf K))
    (D_made_graph : DefAt K mg "made_graph" s_made_graph ["n", "edges"]) (G_made_graph : FnOk P w K mg base (L2.CX P w) 4 D_made_graph.f D_made_graph.fd ["n", "edges"] (spMade K X_BadGraph.C)) :
    FnOk P w K mg base CX0 5 D.f D.fd ["script"] (spLaw K) := by
  refine D.F.ok sc_law (fun vs H Q E h => ?_) (fun cdv A outer s H vs Q E hr h => ?_)
  · obtain ⟨l, ns, rfl, _⟩ := h
    rfl
  · obtain ⟨l, ns, rfl, hl, q⟩ := h
    refine ⟨_, (pss_cons (ps_set (i := 1) sc_law.nd rfl (Or.inl rfl) (pe_call G_law_pool (hr.mono (by first | decide | omega)) (by rfl) D_law_pool.g D_law_pool.F.kp D_law_pool.b .nil pass0 (pa_cons (pv 0) pa_nil)))
      (pss_cons (ps_set (i := 2) sc_law.nd rfl (Or.inl rfl) (pe_ix (ix_listK (K := K) rfl) (pe_lst (pa_cons (pe_op op_add pe_int (pe_call G_law_draw (hr.mono (by first | decide | omega)) (by rfl) D_law_draw.g D_law_draw.F.kp D_law_draw.b .nil pass0 (pa_cons (pv 1) (pa_cons pe_int pa_nil)))) (pa_cons (pe_op op_add pe_int (pe_call G_law_draw (hr.mono (by first | decide | omega)) (by rfl) D_law_draw.g D_law_draw.F.kp D_law_draw.b .nil pass0 (pa_cons (pv 1) (pa_cons pe_int pa_nil)))) pa_nil))) (pe_call G_law_draw (hr.mono (by first | decide | omega)) (by rfl) D_law_draw.g D_law_draw.F.kp D_law_draw.b .nil pass0 (pa_cons (pv 1) (pa_cons pe_int pa_nil))) (fun _ _ => rfl)))
      (pss_cons (ps_set (i := 3) sc_law.nd rfl (Or.inl rfl) (pe_lst pa_nil))
      (pss_cons (ps_for PassesOwn.never (by rfl) (pi_range1 (by rfl) T.range (pa_cons (pe_call G_law_draw (hr.mono (by first | decide | omega)) (by rfl) D_law_draw.g D_law_draw.F.kp D_law_draw.b .nil pass0 (pa_cons (pv 1) (pa_cons pe_int pa_nil))) pa_nil)) (pg_name (i := 4) sc_law.nd rfl (Or.inl rfl))
        (pss_cons (ps_set (i := 5) sc_law.nd rfl (Or.inl rfl) (pe_call G_law_draw (hr.mono (by first | decide | omega)) (by rfl) D_law_draw.g D_law_draw.F.kp D_law_draw.b .nil pass0 (pa_cons (pv 1) (pa_cons (pv 2) pa_nil))))
        (pss_cons (ps_set (i := 6) sc_law.nd rfl (Or.inl rfl) (pe_call G_law_draw (hr.mono (by first | decide | omega)) (by rfl) D_law_draw.g D_law_draw.F.kp D_law_draw.b .nil pass0 (pa_cons (pv 1) (pa_cons (pv 2) pa_nil))))
        (pss_one (ps_if (pt_cmpR op_ne (pv 5) (pv 6) (nomark _))
          (pss_one (ps_expr (PE.bmK (K := K) rfl (pe_bm PySem.F.plainAttrs_list PySem.F.slot_list_append PySem.F.type_list_append mt_append (pv 3) (pa_cons (pe_ix (ix_listK (K := K) rfl) (pe_lst (pa_cons (pe_tup (pa_cons (pv 5) (pa_cons (pv 6) pa_nil))) (pa_cons (pe_tup (pa_cons (pv 6) (pa_cons (pv 5) pa_nil))) pa_nil))) (pe_call G_law_draw (hr.mono (by first | decide | omega)) (by rfl) D_law_draw.g D_law_draw.F.kp D_law_draw.b .nil pass0 (pa_cons (pv 1) (pa_cons pe_int pa_nil))) (fun _ _ => rfl)) pa_nil)))))
          pss_nil)))))
      (pss_cons (ps_set (i := 7) sc_law.nd rfl (Or.inl rfl) pe_bl)
      (pss_cons (ps_set (i := 8) sc_law.nd rfl (Or.inl rfl) (pe_call G_law_draw (hr.mono (by first | decide | omega)) (by rfl) D_law_draw.g D_law_draw.F.kp D_law_draw.b .nil pass0 (pa_cons (pv 1) (pa_cons pe_int pa_nil))))
      (pss_cons (ps_set (i := 9) sc_law.nd rfl (Or.inl rfl) (pe_call G_law_draw (hr.mono (by first | decide | omega)) (by rfl) D_law_draw.g D_law_draw.F.kp D_law_draw.b .nil pass0 (pa_cons (pv 1) (pa_cons (pe_op op_add (pe_callB (call_lenK (K := K) rfl) (by rfl) T.len (by decide +kernel) (pa_cons (pv 3) pa_nil)) pe_int) pa_nil))))
      (pss_cons (ps_if (pt_cmpR op_lt (pv 8) pe_int (nomark _))
        (pss_cons (ps_expr (PE.bmK (K := K) rfl (pe_bm PySem.F.plainAttrs_list PySem.F.slot_list_insert PySem.F.type_list_insert mt_insertN (pv 3) (pa_cons (pv 9) (pa_cons (pe_ix (ix_listK (K := K) rfl) (pe_lst (pa_cons (pe_tup (pa_cons pe_int (pa_cons (pv 2) pa_nil))) (pa_cons (pe_tup (pa_cons (pv 2) (pa_cons pe_int pa_nil))) (pa_cons (pe_tup (pa_cons (pe_un un_neg pe_int) (pa_cons pe_int pa_nil))) (pa_cons (pe_tup (pa_cons pe_int (pa_cons (pe_un un_neg pe_int) pa_nil))) (pa_cons (pe_tup (pa_cons pe_int (pa_cons pe_int pa_nil))) (pa_cons (pe_tup (pa_cons (pe_op op_sub (pv 2) pe_int) (pa_cons (pe_op op_sub (pv 2) pe_int) pa_nil))) pa_nil))))))) (pe_call G_law_draw (hr.mono (by first | decide | omega)) (by rfl) D_law_draw.g D_law_draw.F.kp D_law_draw.b .nil pass0 (pa_cons (pv 1) (pa_cons pe_int pa_nil))) (fun _ _ => rfl)) pa_nil)))))
        (pss_one (ps_set (i := 7) sc_law.nd rfl (Or.inl rfl) pe_bl)))
        pss_nil)
      (pss_cons (ps_if (pt_cmpR op_eq (pv 8) pe_int (nomark _))
        (pss_cons (ps_set (i := 2) sc_law.nd rfl (Or.inl rfl) (pe_ix (ix_listK (K := K) rfl) (pe_lst (pa_cons pe_int (pa_cons pe_int (pa_cons (pe_un un_neg pe_int) (pa_cons pe_int pa_nil))))) (pe_call G_law_draw (hr.mono (by first | decide | omega)) (by rfl) D_law_draw.g D_law_draw.F.kp D_law_draw.b .nil pass0 (pa_cons (pv 1) (pa_cons pe_int pa_nil))) (fun _ _ => rfl)))
        (pss_one (ps_set (i := 7) sc_law.nd rfl (Or.inl rfl) pe_bl)))
        pss_nil)
      (pss_cons (ps_set (i := 10) sc_law.nd rfl (Or.inl rfl) (pe_callTy (call_listK (K := K) rfl) (by rfl) T.list (by decide +kernel) (pa_cons (pv 3) pa_nil)))
      (pss_cons (ps_try_as (i := 12) (Wout := fun _ _ _ _ => False) rfl rfl sc_law.nd rfl rfl ⟨rfl, by decide, Or.inl X_BadGraph.g⟩ takes0
        (fun W pn xe tk _ => (pss_one (ps_set (i := 11) sc_law.nd rfl (Or.inl rfl) (pe_callS G_made_graph (hr.mono (by first | decide | omega)) (by rfl) D_made_graph.g D_made_graph.F.kp D_made_graph.b (fun σ => passAt tk σ) (pa_cons (pv 2) (pa_cons (pv 10) pa_nil))))))
        (fun a oe cls d pn hz hf => (pss_one (ps_ret (pe_and (pe_not (pv 7)) (pe_and (pe_callB (call_isEc (K := K) rfl X_BadGraph.cc hz hf) (by rfl) T.isinstance (by decide +kernel) (pa_cons (pv 12) (pa_cons (pe_glob rfl g_TrellisError rel_ref) pa_nil))) (pe_and (pe_not (pe_callB (call_isEc (K := K) rfl X_BadGraph.cc hz hf) (by rfl) T.isinstance (by decide +kernel) (pa_cons (pv 12) (pa_cons (pe_glob rfl g_BadEdit rel_ref) pa_nil)))) (pe_one (pe_cmpR (op_eqDK (K := K) rfl hr.units) (pv 10) (pv 3) (nomark _))))))))))
      (pss_one (ps_ret (pe_and (pv 7) (pe_and (pe_call G_law_same (hr.mono (by first | decide | omega)) (by rfl) D_law_same.g D_law_same.F.kp D_law_same.b .nil pass0 (pa_cons (pv 11) (pa_cons (pe_call G_law_of (hr.mono (by first | decide | omega)) (by rfl) D_law_of.g D_law_of.F.kp D_law_of.b .nil pass0 (pa_cons (pv 2) (pa_cons (pv 3) pa_nil))) pa_nil))) (pe_one (pe_cmpR (op_eqDK (K := K) rfl hr.units) (pv 10) (pv 3) (nomark _)))))))))))))))))), ?_⟩
    refine r_at (σ := [some _, none, none, none, none, none, none, none, none, none, none, none, none]) rfl ?_
    walk_at "z"
    refine ⟨l, ns, rfl, hl, fun a s0 H1 ha s1 hP1 => ?_⟩
    walk_at "z"
    refine ⟨a, s0, 9, rfl, hP1, by omega, by omega, fun r1 H2 r10 r11 hP2 g2 => ?_⟩
    walk_at "z"
    refine ⟨a, s0, 59, rfl, hP2, by omega, by omega, fun r2 H3 r20 r21 hP3 g3 => ?_⟩
    walk_at "z"
    refine r_lstN sz2 fun l1 hl1 => ?_
    walk_at "z"
    refine ⟨a, s0, 2, rfl, hP3.mono (same_new hl1), by omega, by omega, fun r3 H4 r30 r31 hP4 g4 => ?_⟩
    have e1 := g4 _ _ (new_ne hP3 hl1).1 upd_same
    walk_at "z"
    refine r_pickI (ns := [1 + r1, 2 + r2]) e1 r30 (by simpa using r31) fun n hn => ?_
    have nb : 1 ≤ n ∧ n ≤ 60 := by
      rcases List.mem_cons.mp hn with e | e
      · omega
      · have := List.mem_singleton.mp e
        omega
    walk_at "z"
    refine r_lstN (by decide) fun f hf => ?_
    have fa := new_ne hP4 hf
    walk_at "z"
    refine ⟨a, s0, 21, rfl, hP4.mono (same_new hf), by omega, by omega, fun m H5 m0 m1 hP5 g5 => ?_⟩
    have hf5 := g5 _ _ fa.1 upd_same
    walk_at "z"
    refine r_rg1 (by omega) (forR_range (fun i σ' H' => (∃ x4 x5 x6, σ' = [some (.ref l), some (.ref a), some (.int n), some (.ref f), x4, x5, x6, none, none, none, none, none, none]) ∧ Pool H' a s0 ∧ Gr a H4 H' ∧ ∃ xs ps, H' f = some (.lst xs) ∧ Prs H' xs ps ∧ ps.length ≤ i ∧ OkPs n ps)
      ⟨⟨_, _, _, rfl⟩, hP5, (Gr.new hf).trans g5, [], [], hf5, .nil, Nat.le_refl 0, fun p hp => by cases hp⟩ ?_ ?_)
    · rintro i σ' H' hi ⟨⟨x4, x5, x6, rfl⟩, hP', g', xs, ps, hx, hp, hlen, ok⟩
      walk_at "z"
      refine ⟨a, s0, n, rfl, hP', by omega, by omega, fun u H6 u0 u1 hP6 g6 => ?_⟩
      walk_at "z"
      refine ⟨a, s0, n, rfl, hP6, by omega, by omega, fun v H7 v0 v1 hP7 g7 => ?_⟩
      have g8 := g6.trans g7
      have hx7 := g8 _ _ fa.1 hx
      have hp7 := hp.tk (g8.tk hP')
      walk_at "z"
      refine r_iteN (fun h => ?_) (fun h => ?_)
      · walk_at "z"
        refine r_tupN sz2 fun t1 ht1 => ?_
        walk_at "z"
        refine r_tupN sz2 fun t2 ht2 => ?_
        walk_at "z"
        refine r_lstN sz2 fun l2 hl2 => ?_
        walk_at "z"
        have sT := (same_new (o := .tup [.int u, .int v]) ht1).trans (same_new (o := .tup [.int v, .int u]) ht2)
        have sA := sT.trans (same_new (o := .lst [.ref t1, .ref t2]) hl2)
        have z1 : IsP _ (.ref t1) (u, v) := ⟨t1, rfl, ((same_new (o := .tup [.int v, .int u]) ht2).trans (same_new (o := .lst [.ref t1, .ref t2]) hl2)) _ _ upd_same⟩
        have z2 : IsP _ (.ref t2) (v, u) := ⟨t2, rfl, (same_new (o := .lst [.ref t1, .ref t2]) hl2) _ _ upd_same⟩
        have hPA := hP7.mono sA
        have hl2a : l2 ≠ a := (new_ne (hP7.mono sT) hl2).1
        refine ⟨a, s0, 2, rfl, hPA, by omega, by omega, fun r H8 r0 r1' hP8 g9 => ?_⟩
        have tk9 := g9.tk hPA
        have hx8 := g9 _ _ fa.1 (sA _ _ hx7)
        have hl8 := g9 _ _ hl2a upd_same
        have pr8 : Prs H8 [.ref t1, .ref t2] [(u, v), (v, u)] := .cons (z1.tk tk9) (.cons (z2.tk tk9) .nil)
        have hp8 := (hp7.tk (.of_same sA)).tk tk9
        walk_at "z"
        refine r_pickP hl8 pr8 r0 (by simpa using r1') fun x p hpm hxp => ?_
        have okp : (0 ≤ p.1 ∧ p.1 < n) ∧ (0 ≤ p.2 ∧ p.2 < n) ∧ p.1 ≠ p.2 := by
          rcases List.mem_cons.mp hpm with e | e
          · rw [e]
            exact ⟨⟨u0, u1⟩, ⟨v0, v1⟩, h⟩
          · rw [List.mem_singleton.mp e]
            exact ⟨⟨v0, v1⟩, ⟨u0, u1⟩, fun z => h z.symm⟩
        walk_at "z"
        refine r_appT hx8 (small_lt ?_) ?_
        · rw [hp8.length]
          omega
        · refine ⟨⟨_, _, _, rfl⟩, hP8.upd fa, ((g'.trans g8).trans ((Gr.of_same sA).trans g9)).mut hf, _, ps ++ [p], upd_same, ?_, by rw [List.length_append]; simp only [List.length_cons, List.length_nil]; omega, fun r hr => ?_⟩
          · exact (hp8.tk (.lst hx8)).snoc (hxp.tk (.lst hx8))
          · rcases List.mem_append.mp hr with z | z
            · exact ok r z
            · rw [List.mem_singleton.mp z]
              exact okp
      · walk_at "z"
        refine ⟨⟨_, _, _, rfl⟩, hP7, g'.trans g8, xs, ps, hx7, hp7, by omega, ok⟩
    · rintro σ' H6 ⟨⟨x4, x5, x6, rfl⟩, hP6, g6, xs, ps, hx, hp, hlen, ok⟩
      walk_at "z"
      refine ⟨a, s0, 8, rfl, hP6, by omega, by omega, fun way H7 w0 w1 hP7 g7 => ?_⟩
      have hx7 := g7 _ _ fa.1 hx
      have hp7 := hp.tk (g7.tk hP6)
      walk_at "z"
      rw [hp7.length]
      refine ⟨a, s0, _, rfl, hP7, by omega, by omega, fun at' H8 at0 at1 hP8 g8 => ?_⟩
      have hx8 := g8 _ _ fa.1 hx7
      have hp8 := hp7.tk (g8.tk hP7)
      have gA := (g6.trans g7).trans g8
      walk_at "z1"
      let W : L2.St → Hp → Prop := fun σ' H' => ∃ good : Bool, σ' = [some (.ref l), some (.ref a), some (.int n), some (.ref f), x4, x5, x6, some (.bl good), some (.int way), some (.int at'), none, none, none] ∧ Pool H' a s0 ∧ Gr a H4 H' ∧
        ∃ xs ps, H' f = some (.lst xs) ∧ Prs H' xs ps ∧ ps.length ≤ 22 ∧ (good = true → OkPs n ps) ∧ (good = false → ¬ OkPs n ps ∧ way < 2)
      refine r_seqW W ?tlA fun B hB => ?hdA
      case hdA =>
        walk_at "z"
        refine r_ite (fun h => ?_) (fun h => ?_)
        · walk_at "z"
          refine r_tupN sz2 fun t1 ht1 => ?_
          walk_at "z"
          refine r_tupN sz2 fun t2 ht2 => ?_
          walk_at "z"
          refine r_tupN sz2 fun t3 ht3 => ?_
          walk_at "z"
          refine r_tupN sz2 fun t4 ht4 => ?_
          walk_at "z"
          refine r_tupN sz2 fun t5 ht5 => ?_
          walk_at "z"
          refine r_tupN sz2 fun t6 ht6 => ?_
          walk_at "z"
          refine r_lstN (by show 6 ≤ sizeLine; decide) fun l2 hl2 => ?_
          have sT := ((((((same_new ht1).trans (same_new ht2)).trans (same_new ht3)).trans (same_new ht4)).trans (same_new ht5)).trans (same_new (o := .tup [.int (n - 1), .int (n - 1)]) ht6))
          have sA := sT.trans (same_new (o := .lst [.ref t1, .ref t2, .ref t3, .ref t4, .ref t5, .ref t6]) hl2)
          have y1 := prs_new (a := 0) (b := n) (Prs0 H8) ht1
          have y2 := prs_new (a := n) (b := 0) y1 ht2
          have y3 := prs_new (a := -1) (b := 0) y2 ht3
          have y4 := prs_new (a := 0) (b := -1) y3 ht4
          have y5 := prs_new (a := 0) (b := 0) y4 ht5
          have y6 := prs_new (a := n - 1) (b := n - 1) y5 ht6
          have y7 := y6.tk (.new (o := .lst [.ref t1, .ref t2, .ref t3, .ref t4, .ref t5, .ref t6]) hl2)
          have hPA := hP8.mono sA
          have hl2a : l2 ≠ a := (new_ne (hP8.mono sT) hl2).1
          walk_at "z"
          refine ⟨a, s0, 6, rfl, hPA, by omega, by omega, fun r H9 r0 r1' hP9 g9 => ?_⟩
          have tk9 := g9.tk hPA
          have hx9 := g9 _ _ fa.1 (sA _ _ hx8)
          have hl9 := g9 _ _ hl2a upd_same
          have pr9 := y7.tk tk9
          have hp9 := (hp8.tk (.of_same sA)).tk tk9
          walk_at "z"
          refine r_pickP hl9 pr9 r0 (by simpa using r1') fun x p hpm hxp => ?_
          have bad : ¬ ((0 ≤ p.1 ∧ p.1 < n) ∧ (0 ≤ p.2 ∧ p.2 < n) ∧ p.1 ≠ p.2) := by
            simp only [List.nil_append, List.cons_append, List.mem_cons, List.not_mem_nil, or_false] at hpm
            rcases hpm with e | e | e | e | e | e <;> subst e <;> dsimp only <;> omega
          walk_at "z"
          refine r_insN hx9 (by rw [hp9.length]; omega) at0 (by omega) ?_
          walk_at "z"
          refine hB _ _ ⟨false, rfl, hP9.upd fa, ((gA.trans (.of_same sA)).trans g9).mut hf, _, ps.take at'.toNat ++ [p] ++ ps.drop at'.toNat, upd_same, ?_, ?_, fun z => Bool.noConfusion z, fun _ => ⟨fun z => bad (z p (by simp)), h⟩⟩
          · have tk := TK.lst (ys := (xs.take at'.toNat ++ [x] ++ xs.drop at'.toNat)) hx9
            exact pd_append (pd_append (pd_take _ (hp9.tk tk)) (.cons (hxp.tk tk) .nil)) (pd_drop _ (hp9.tk tk))
          · simp only [List.length_append, List.length_take, List.length_drop, List.length_cons, List.length_nil]
            omega
        · exact hB _ _ ⟨true, rfl, hP8, gA, xs, ps, hx8, hp8, by omega, fun _ => ok, fun z => Bool.noConfusion z⟩
      case tlA =>
        rintro σ' H9 ⟨good, rfl, hP9, g9, xs2, ps2, hx9, hp9, hl9, ok1, ok0⟩
        let W2 : L2.St → Hp → Prop := fun σ' H' => ∃ (good : Bool) (n2 : Int), σ' = [some (.ref l), some (.ref a), some (.int n2), some (.ref f), x4, x5, x6, some (.bl good), some (.int way), some (.int at'), none, none, none] ∧
          ∃ xs ps, H' f = some (.lst xs) ∧ Prs H' xs ps ∧ ps.length ≤ 22 ∧ (good = true → (1 ≤ n2 ∧ n2 ≤ 60) ∧ OkPs n2 ps) ∧ (good = false → ¬ ((1 ≤ n2 ∧ n2 ≤ 60) ∧ OkPs n2 ps))
        refine r_seqW W2 ?tlB fun B hB => ?hdB
        case hdB =>
          walk_at "z"
          refine r_ite (fun h => ?_) (fun h => ?_)
          · walk_at "z"
            refine r_lstN sz4 fun l2 hl2 => ?_
            have hP9' := hP9.mono (same_new (o := .lst [.int 0, .int 61, .int (-3), .int 100]) hl2)
            walk_at "z"
            refine ⟨a, s0, 4, rfl, hP9', by omega, by omega, fun r HA r0 r1' hPA gA' => ?_⟩
            have e2 := gA' _ _ (new_ne hP9 hl2).1 upd_same
            have sN : Same H9 (upd H9 l2 (.lst [.int 0, .int 61, .int (-3), .int 100])) := same_new hl2
            walk_at "z"
            refine r_pickI (ns := [0, 61, -3, 100]) e2 r0 (by simpa using r1') fun n2 hn2 => ?_
            have bad : ¬ (1 ≤ n2 ∧ n2 ≤ 60) := by
              simp only [List.mem_cons, List.not_mem_nil, or_false] at hn2
              rcases hn2 with e | e | e | e <;> subst e <;> omega
            walk_at "z"
            exact hB _ _ ⟨false, n2, rfl, xs2, ps2, gA' _ _ fa.1 (sN _ _ hx9), (hp9.tk (.of_same sN)).tk (gA'.tk hP9'), hl9, fun z => Bool.noConfusion z, fun _ z => bad z.1⟩
          · exact hB _ _ ⟨good, n, rfl, xs2, ps2, hx9, hp9, hl9, fun z => ⟨nb, ok1 z⟩, fun z y => (ok0 z).1 y.2⟩
        case tlB =>
          rintro σ' HA ⟨good2, n2, rfl, xs3, ps3, hx, hp, hlen, yes, no⟩
          walk_at "z"
          refine r_listL (.inl (.inl hx)) fun h hh => ?_
          have sB : Same HA (upd HA h (.lst xs3)) := same_new hh
          walk_at "z"
          refine ⟨n2, h, xs3, ps3, rfl, .inl (.inl upd_same), hp.tk (.of_same sB), by omega, fun bad H' s1 => ?_, fun ok v qs H' s1 hg asc mem => ?_⟩
          · have hx1 := s1 _ _ (sB _ _ hx)
            have hh1 := s1 _ _ (show (upd HA h (.lst xs3)) h = _ from upd_same)
            have hp1 := hp.tk (.of_same (sB.trans s1))
            have g0 : good2 = false := by
              cases good2
              · rfl
              · exact absurd (yes rfl) bad
            subst g0
            refine ⟨true, X_BadGraph.exm, fun _ a0 ha0 => ?_, fun z => Bool.noConfusion z⟩
            walk_at "z"
            refine iteT ?_
            walk_at "z"
            refine r_isEc (c := .ref CT) (cv := .ref CT) rfl rfl (fun u r => r) kT ?_
            walk_at "z"
            refine r_isEc (c := .ref CE) (cv := .ref CE) rfl rfl (fun u r => r) kE ?_
            walk_at "z"
            refine iteT ?_
            walk_at "z"
            refine r_eqPs (.inl (.inl hh1)) hp1 (.inl (.inl hx1)) hp1 ?_
            exact q _
          · have g1 : good2 = true := by
              cases good2
              · exact absurd ok (no rfl)
              · rfl
            subst g1
            have hx1 := s1 _ _ (sB _ _ hx)
            have hh1 := s1 _ _ (show (upd HA h (.lst xs3)) h = _ from upd_same)
            have hp1 := hp.tk (.of_same (sB.trans s1))
            walk_at "z"
            refine ⟨n2, f, xs3, ps3, rfl, .inl (.inl hx1), hp1, by omega, fun v2 qs2 H2 s2 hg2 asc2 mem2 => ?_⟩
            have eq : qs2 = qs := asc_ext asc2 asc fun p => (mem2 p).trans (mem p).symm
            subst eq
            walk_at "z"
            refine ⟨v, v2, _, rfl, dp_graph (hg.tk (.of_same s2)), dp_graph hg2, sm_gT ?_, ?_⟩
            · have := nodup_le qs2 (ps3.map nrm) (asc_nodup asc) fun p hp => by
                obtain ⟨r, hr, e⟩ := (mem p).mp hp
                exact List.mem_map.mpr ⟨r, hr, e.symm⟩
              rw [List.length_map] at this
              omega
            · walk_at "z"
              refine r_eqPs (.inl (.inl (s2 _ _ hh1))) (hp1.tk (.of_same s2)) (.inl (.inl (s2 _ _ hx1))) (hp1.tk (.of_same s2)) ?_
              exact q _
end

set_option Elab.async false
set_option linter.all false
set_option maxRecDepth 100000
set_option maxHeartbeats 4000000
open PySem PySem.Spec PyProof.Rows L2
/-- a def that the top has written -/
def mkDef {K : PySem.W.Frag} {h : Heap} {mg : Str → Option Value} {x : Str} {st : Stmt} {ps : List Str} {f : Addr} {od an : Option Addr} {sl : Array (Option Value)} {oc kV dc pm cd ct : Value} (X : K.In h) (G : h.Ns mainGlobals mg)
    (a : PySem.W.nsIn K mainGlobals x = some (some (.ref f))) (l : K.lookup f = some ⟨oc, od, .func (PySem.W.fnOf x x (defArgs st) (defBody st) (defScope st) .none kV dc pm an cd ct), sl⟩) (c : PySem.W.codeIn K cd x = true) (k : PySem.W.keepIn K (.ref f) = true)
    (b : Binds K (PySem.W.fnOf x x (defArgs st) (defBody st) (defScope st) .none kV dc pm an cd ct) ps []) : DefAt K mg x st ps :=
  ⟨f, PySem.W.fnOf x x (defArgs st) (defBody st) (defScope st) .none kV dc pm an cd ct, fun_mk l c k, b, PySem.W.mg_of X G a⟩
set_option maxHeartbeats 0 in
theorem all_mk {P : Program} {w : World} {K : PySem.W.Frag} {h : Heap} {mg : Str → Option Value} {fa : Addr} (X : K.In h) (G : h.Ns mainGlobals mg) (hfa : mg "law" = some (.ref fa))
    {od0 an0 : Option Addr} {sl0 : Array (Option Value)} {oc0 kV0 dc0 pm0 cd0 ct0 : Value} {f0 : Addr}
    (a0 : PySem.W.nsIn K mainGlobals "is_integer" = some (some (.ref f0))) (l0 : K.lookup f0 = some ⟨oc0, od0, .func (PySem.W.fnOf "is_integer" "is_integer" (defArgs s_is_integer) (defBody s_is_integer) (defScope s_is_integer) .none kV0 dc0 pm0 an0 cd0 ct0), sl0⟩) (c0 : PySem.W.codeIn K cd0 "is_integer" = true) (k0 : PySem.W.keepIn K (.ref f0) = true)
    {od1 an1 : Option Addr} {sl1 : Array (Option Value)} {oc1 kV1 dc1 pm1 cd1 ct1 : Value} {f1 : Addr}
    (a1 : PySem.W.nsIn K mainGlobals "is_vertex" = some (some (.ref f1))) (l1 : K.lookup f1 = some ⟨oc1, od1, .func (PySem.W.fnOf "is_vertex" "is_vertex" (defArgs s_is_vertex) (defBody s_is_vertex) (defScope s_is_vertex) .none kV1 dc1 pm1 an1 cd1 ct1), sl1⟩) (c1 : PySem.W.codeIn K cd1 "is_vertex" = true) (k1 : PySem.W.keepIn K (.ref f1) = true)
    {od2 an2 : Option Addr} {sl2 : Array (Option Value)} {oc2 kV2 dc2 pm2 cd2 ct2 : Value} {f2 : Addr}
    (a2 : PySem.W.nsIn K mainGlobals "is_size" = some (some (.ref f2))) (l2 : K.lookup f2 = some ⟨oc2, od2, .func (PySem.W.fnOf "is_size" "is_size" (defArgs s_is_size) (defBody s_is_size) (defScope s_is_size) .none kV2 dc2 pm2 an2 cd2 ct2), sl2⟩) (c2 : PySem.W.codeIn K cd2 "is_size" = true) (k2 : PySem.W.keepIn K (.ref f2) = true)
    {od3 an3 : Option Addr} {sl3 : Array (Option Value)} {oc3 kV3 dc3 pm3 cd3 ct3 : Value} {f3 : Addr}
    (a3 : PySem.W.nsIn K mainGlobals "refuse_size" = some (some (.ref f3))) (l3 : K.lookup f3 = some ⟨oc3, od3, .func (PySem.W.fnOf "refuse_size" "refuse_size" (defArgs s_refuse_size) (defBody s_refuse_size) (defScope s_refuse_size) .none kV3 dc3 pm3 an3 cd3 ct3), sl3⟩) (c3 : PySem.W.codeIn K cd3 "refuse_size" = true) (k3 : PySem.W.keepIn K (.ref f3) = true)
    {od4 an4 : Option Addr} {sl4 : Array (Option Value)} {oc4 kV4 dc4 pm4 cd4 ct4 : Value} {f4 : Addr}
    (a4 : PySem.W.nsIn K mainGlobals "made_graph" = some (some (.ref f4))) (l4 : K.lookup f4 = some ⟨oc4, od4, .func (PySem.W.fnOf "made_graph" "made_graph" (defArgs s_made_graph) (defBody s_made_graph) (defScope s_made_graph) .none kV4 dc4 pm4 an4 cd4 ct4), sl4⟩) (c4 : PySem.W.codeIn K cd4 "made_graph" = true) (k4 : PySem.W.keepIn K (.ref f4) = true)
    {od5 an5 : Option Addr} {sl5 : Array (Option Value)} {oc5 kV5 dc5 pm5 cd5 ct5 : Value} {f5 : Addr}
    (a5 : PySem.W.nsIn K mainGlobals "graph_of" = some (some (.ref f5))) (l5 : K.lookup f5 = some ⟨oc5, od5, .func (PySem.W.fnOf "graph_of" "graph_of" (defArgs s_graph_of) (defBody s_graph_of) (defScope s_graph_of) .none kV5 dc5 pm5 an5 cd5 ct5), sl5⟩) (c5 : PySem.W.codeIn K cd5 "graph_of" = true) (k5 : PySem.W.keepIn K (.ref f5) = true)
    {od6 an6 : Option Addr} {sl6 : Array (Option Value)} {oc6 kV6 dc6 pm6 cd6 ct6 : Value} {f6 : Addr}
    (a6 : PySem.W.nsIn K mainGlobals "edge_of" = some (some (.ref f6))) (l6 : K.lookup f6 = some ⟨oc6, od6, .func (PySem.W.fnOf "edge_of" "edge_of" (defArgs s_edge_of) (defBody s_edge_of) (defScope s_edge_of) .none kV6 dc6 pm6 an6 cd6 ct6), sl6⟩) (c6 : PySem.W.codeIn K cd6 "edge_of" = true) (k6 : PySem.W.keepIn K (.ref f6) = true)
    {od7 an7 : Option Addr} {sl7 : Array (Option Value)} {oc7 kV7 dc7 pm7 cd7 ct7 : Value} {f7 : Addr}
    (a7 : PySem.W.nsIn K mainGlobals "_law_pool" = some (some (.ref f7))) (l7 : K.lookup f7 = some ⟨oc7, od7, .func (PySem.W.fnOf "_law_pool" "_law_pool" (defArgs s_law_pool) (defBody s_law_pool) (defScope s_law_pool) .none kV7 dc7 pm7 an7 cd7 ct7), sl7⟩) (c7 : PySem.W.codeIn K cd7 "_law_pool" = true) (k7 : PySem.W.keepIn K (.ref f7) = true)
    {od8 an8 : Option Addr} {sl8 : Array (Option Value)} {oc8 kV8 dc8 pm8 cd8 ct8 : Value} {f8 : Addr}
    (a8 : PySem.W.nsIn K mainGlobals "_law_spread" = some (some (.ref f8))) (l8 : K.lookup f8 = some ⟨oc8, od8, .func (PySem.W.fnOf "_law_spread" "_law_spread" (defArgs s_law_spread) (defBody s_law_spread) (defScope s_law_spread) .none kV8 dc8 pm8 an8 cd8 ct8), sl8⟩) (c8 : PySem.W.codeIn K cd8 "_law_spread" = true) (k8 : PySem.W.keepIn K (.ref f8) = true)
    {od9 an9 : Option Addr} {sl9 : Array (Option Value)} {oc9 kV9 dc9 pm9 cd9 ct9 : Value} {f9 : Addr}
    (a9 : PySem.W.nsIn K mainGlobals "_law_draw" = some (some (.ref f9))) (l9 : K.lookup f9 = some ⟨oc9, od9, .func (PySem.W.fnOf "_law_draw" "_law_draw" (defArgs s_law_draw) (defBody s_law_draw) (defScope s_law_draw) .none kV9 dc9 pm9 an9 cd9 ct9), sl9⟩) (c9 : PySem.W.codeIn K cd9 "_law_draw" = true) (k9 : PySem.W.keepIn K (.ref f9) = true)
    {od10 an10 : Option Addr} {sl10 : Array (Option Value)} {oc10 kV10 dc10 pm10 cd10 ct10 : Value} {f10 : Addr}
    (a10 : PySem.W.nsIn K mainGlobals "_law_same" = some (some (.ref f10))) (l10 : K.lookup f10 = some ⟨oc10, od10, .func (PySem.W.fnOf "_law_same" "_law_same" (defArgs s_law_same) (defBody s_law_same) (defScope s_law_same) .none kV10 dc10 pm10 an10 cd10 ct10), sl10⟩) (c10 : PySem.W.codeIn K cd10 "_law_same" = true) (k10 : PySem.W.keepIn K (.ref f10) = true)
    {od11 an11 : Option Addr} {sl11 : Array (Option Value)} {oc11 kV11 dc11 pm11 cd11 ct11 : Value} {f11 : Addr}
    (a11 : PySem.W.nsIn K mainGlobals "_law_distinct" = some (some (.ref f11))) (l11 : K.lookup f11 = some ⟨oc11, od11, .func (PySem.W.fnOf "_law_distinct" "_law_distinct" (defArgs s_law_distinct) (defBody s_law_distinct) (defScope s_law_distinct) .none kV11 dc11 pm11 an11 cd11 ct11), sl11⟩) (c11 : PySem.W.codeIn K cd11 "_law_distinct" = true) (k11 : PySem.W.keepIn K (.ref f11) = true)
    {od12 an12 : Option Addr} {sl12 : Array (Option Value)} {oc12 kV12 dc12 pm12 cd12 ct12 : Value} {f12 : Addr}
    (a12 : PySem.W.nsIn K mainGlobals "_law_of" = some (some (.ref f12))) (l12 : K.lookup f12 = some ⟨oc12, od12, .func (PySem.W.fnOf "_law_of" "_law_of" (defArgs s_law_of) (defBody s_law_of) (defScope s_law_of) .none kV12 dc12 pm12 an12 cd12 ct12), sl12⟩) (c12 : PySem.W.codeIn K cd12 "_law_of" = true) (k12 : PySem.W.keepIn K (.ref f12) = true)
    {od13 an13 : Option Addr} {sl13 : Array (Option Value)} {oc13 kV13 dc13 pm13 cd13 ct13 : Value} {f13 : Addr}
    (a13 : PySem.W.nsIn K mainGlobals "law" = some (some (.ref f13))) (l13 : K.lookup f13 = some ⟨oc13, od13, .func (PySem.W.fnOf "law" "law" (defArgs s_law) (defBody s_law) (defScope s_law) .none kV13 dc13 pm13 an13 cd13 ct13), sl13⟩) (c13 : PySem.W.codeIn K cd13 "law" = true) (k13 : PySem.W.keepIn K (.ref f13) = true)
    {C_TrellisError : Addr} (xa_TrellisError : PySem.W.nsIn K mainGlobals "TrellisError" = some (some (.ref C_TrellisError))) (xk_TrellisError : PySem.W.keepIn K (.ref C_TrellisError) = true)
    (xq_TrellisError : PySem.W.excIn K C_TrellisError [.type "ValueError", .type "Exception", .type "BaseException", .type "object"] "ValueError.__new__" = true)
    (xe_TrellisError : PySem.W.subIn K (.ref C_TrellisError) (.type "BaseException") = some true) (xt_TrellisError : PySem.W.typeIn K (.ref C_TrellisError) = some (.type "type")) (xm_TrellisError : PySem.W.subIn K (.ref C_TrellisError) (.ref C_TrellisError) = some true)
    (xg_TrellisError : PySem.W.findIn K (.ref C_TrellisError) "__getattribute__" = some (some (.builtin "BaseException.__getattribute__"))) (xh_TrellisError : PySem.W.findIn K (.ref C_TrellisError) "__getattr__" = some none) (xd_TrellisError : PySem.W.hasDictIn K C_TrellisError = true)
    (xc_TrellisError : PySem.W.findIn K (.ref C_TrellisError) "__class__" = some (some (.builtin "object.__class__"))) (xo_TrellisError : PySem.W.mroIn K C_TrellisError (.type "object") = some true)
    {C_BadGraph : Addr} (xa_BadGraph : PySem.W.nsIn K mainGlobals "BadGraph" = some (some (.ref C_BadGraph))) (xk_BadGraph : PySem.W.keepIn K (.ref C_BadGraph) = true)
    (xq_BadGraph : PySem.W.excIn K C_BadGraph [.type "ValueError", .type "Exception", .type "BaseException", .type "object"] "ValueError.__new__" = true)
    (xe_BadGraph : PySem.W.subIn K (.ref C_BadGraph) (.type "BaseException") = some true) (xt_BadGraph : PySem.W.typeIn K (.ref C_BadGraph) = some (.type "type")) (xm_BadGraph : PySem.W.subIn K (.ref C_BadGraph) (.ref C_BadGraph) = some true)
    (xg_BadGraph : PySem.W.findIn K (.ref C_BadGraph) "__getattribute__" = some (some (.builtin "BaseException.__getattribute__"))) (xh_BadGraph : PySem.W.findIn K (.ref C_BadGraph) "__getattr__" = some none) (xd_BadGraph : PySem.W.hasDictIn K C_BadGraph = true)
    (xc_BadGraph : PySem.W.findIn K (.ref C_BadGraph) "__class__" = some (some (.builtin "object.__class__"))) (xo_BadGraph : PySem.W.mroIn K C_BadGraph (.type "object") = some true)
    {C_BadEdit : Addr} (xa_BadEdit : PySem.W.nsIn K mainGlobals "BadEdit" = some (some (.ref C_BadEdit))) (xk_BadEdit : PySem.W.keepIn K (.ref C_BadEdit) = true)
    (xq_BadEdit : PySem.W.excIn K C_BadEdit [.type "ValueError", .type "Exception", .type "BaseException", .type "object"] "ValueError.__new__" = true)
    (xe_BadEdit : PySem.W.subIn K (.ref C_BadEdit) (.type "BaseException") = some true) (xt_BadEdit : PySem.W.typeIn K (.ref C_BadEdit) = some (.type "type")) (xm_BadEdit : PySem.W.subIn K (.ref C_BadEdit) (.ref C_BadEdit) = some true)
    (xg_BadEdit : PySem.W.findIn K (.ref C_BadEdit) "__getattribute__" = some (some (.builtin "BaseException.__getattribute__"))) (xh_BadEdit : PySem.W.findIn K (.ref C_BadEdit) "__getattr__" = some none) (xd_BadEdit : PySem.W.hasDictIn K C_BadEdit = true)
    (xc_BadEdit : PySem.W.findIn K (.ref C_BadEdit) "__class__" = some (some (.builtin "object.__class__"))) (xo_BadEdit : PySem.W.mroIn K C_BadEdit (.type "object") = some true)
    (x_nn : PySem.W.specialIn K (.builtin "object.__class__") "__get__" = some (some (.builtin "getset_descriptor.__get__"))) (x_tt : PySem.W.takesIn K (.builtin "object.__class__") = some true)
    (kit_BadGraph_TrellisError : PySem.W.kitOne K (.ref C_BadGraph) (.ref C_TrellisError) = some true)
    (kit_BadGraph_BadEdit : PySem.W.kitOne K (.ref C_BadGraph) (.ref C_BadEdit) = some false)
    (kit_BadEdit_TrellisError : PySem.W.kitOne K (.ref C_BadEdit) (.ref C_TrellisError) = some true)
    (kit_BadEdit_BadGraph : PySem.W.kitOne K (.ref C_BadEdit) (.ref C_BadGraph) = some false)
    {tkM : Tok} (mv : PySem.W.nsIn K mainGlobals "MOST_VERTICES" = some (some (.int 60 tkM)))
    (z_len : PySem.W.nsIn K mainGlobals "len" = some none)
    (z_range : PySem.W.nsIn K mainGlobals "range" = some none)
    (z_list : PySem.W.nsIn K mainGlobals "list" = some none)
    (z_tuple : PySem.W.nsIn K mainGlobals "tuple" = some none)
    (z_int : PySem.W.nsIn K mainGlobals "int" = some none)
    (z_min : PySem.W.nsIn K mainGlobals "min" = some none)
    (z_max : PySem.W.nsIn K mainGlobals "max" = some none)
    (z_sorted : PySem.W.nsIn K mainGlobals "sorted" = some none)
    (z_isinstance : PySem.W.nsIn K mainGlobals "isinstance" = some none)
    (z_bool : PySem.W.nsIn K mainGlobals "bool" = some none)
    (z_str : PySem.W.nsIn K mainGlobals "str" = some none)
    (z_enumerate : PySem.W.nsIn K mainGlobals "enumerate" = some none) :
    ∃ fd : FuncData, (∀ (s : Shared) (v : Value), BindsTo s fd ⟨[v], []⟩ [("script", v)]) ∧ ∀ base : Heap, K.In base → base.Ns mainGlobals mg → FnOk P w K mg base CX0 5 fa fd ["script"] (spLaw K) := by
  have e := hfa.symm.trans (PySem.W.mg_of X G a13)
  cases e
  have T : Blt mg := ⟨PySem.W.mg_none_of X G z_len, PySem.W.mg_none_of X G z_range, PySem.W.mg_none_of X G z_list, PySem.W.mg_none_of X G z_tuple, PySem.W.mg_none_of X G z_int, PySem.W.mg_none_of X G z_min, PySem.W.mg_none_of X G z_max, PySem.W.mg_none_of X G z_sorted, PySem.W.mg_none_of X G z_isinstance, PySem.W.mg_none_of X G z_bool, PySem.W.mg_none_of X G z_str, PySem.W.mg_none_of X G z_enumerate⟩
  have D_is_integer : DefAt K mg "is_integer" s_is_integer ["value"] := mkDef X G a0 l0 c0 k0 ((fun_mk (st := s_is_integer) l0 c0 k0).binds (ps := ["value"]) fun _ _ _ _ _ _ us hl => match us, hl with | [_], _ => rfl)
  have D_is_vertex : DefAt K mg "is_vertex" s_is_vertex ["n", "value"] := mkDef X G a1 l1 c1 k1 ((fun_mk (st := s_is_vertex) l1 c1 k1).binds (ps := ["n", "value"]) fun _ _ _ _ _ _ us hl => match us, hl with | [_, _], _ => rfl)
  have D_is_size : DefAt K mg "is_size" s_is_size ["value"] := mkDef X G a2 l2 c2 k2 ((fun_mk (st := s_is_size) l2 c2 k2).binds (ps := ["value"]) fun _ _ _ _ _ _ us hl => match us, hl with | [_], _ => rfl)
  have D_refuse_size : DefAt K mg "refuse_size" s_refuse_size ["n"] := mkDef X G a3 l3 c3 k3 ((fun_mk (st := s_refuse_size) l3 c3 k3).binds (ps := ["n"]) fun _ _ _ _ _ _ us hl => match us, hl with | [_], _ => rfl)
  have D_made_graph : DefAt K mg "made_graph" s_made_graph ["n", "edges"] := mkDef X G a4 l4 c4 k4 ((fun_mk (st := s_made_graph) l4 c4 k4).binds (ps := ["n", "edges"]) fun _ _ _ _ _ _ us hl => match us, hl with | [_, _], _ => rfl)
  have D_graph_of : DefAt K mg "graph_of" s_graph_of ["n", "pairs"] := mkDef X G a5 l5 c5 k5 ((fun_mk (st := s_graph_of) l5 c5 k5).binds (ps := ["n", "pairs"]) fun _ _ _ _ _ _ us hl => match us, hl with | [_, _], _ => rfl)
  have D_edge_of : DefAt K mg "edge_of" s_edge_of ["u", "v"] := mkDef X G a6 l6 c6 k6 ((fun_mk (st := s_edge_of) l6 c6 k6).binds (ps := ["u", "v"]) fun _ _ _ _ _ _ us hl => match us, hl with | [_, _], _ => rfl)
  have D_law_pool : DefAt K mg "_law_pool" s_law_pool ["script"] := mkDef X G a7 l7 c7 k7 ((fun_mk (st := s_law_pool) l7 c7 k7).binds (ps := ["script"]) fun _ _ _ _ _ _ us hl => match us, hl with | [_], _ => rfl)
  have D_law_spread : DefAt K mg "_law_spread" s_law_spread ["cell"] := mkDef X G a8 l8 c8 k8 ((fun_mk (st := s_law_spread) l8 c8 k8).binds (ps := ["cell"]) fun _ _ _ _ _ _ us hl => match us, hl with | [_], _ => rfl)
  have D_law_draw : DefAt K mg "_law_draw" s_law_draw ["pool", "many"] := mkDef X G a9 l9 c9 k9 ((fun_mk (st := s_law_draw) l9 c9 k9).binds (ps := ["pool", "many"]) fun _ _ _ _ _ _ us hl => match us, hl with | [_, _], _ => rfl)
  have D_law_same : DefAt K mg "_law_same" s_law_same ["actual", "due"] := mkDef X G a10 l10 c10 k10 ((fun_mk (st := s_law_same) l10 c10 k10).binds (ps := ["actual", "due"]) fun _ _ _ _ _ _ us hl => match us, hl with | [_, _], _ => rfl)
  have D_law_distinct : DefAt K mg "_law_distinct" s_law_distinct ["rows"] := mkDef X G a11 l11 c11 k11 ((fun_mk (st := s_law_distinct) l11 c11 k11).binds (ps := ["rows"]) fun _ _ _ _ _ _ us hl => match us, hl with | [_], _ => rfl)
  have D_law_of : DefAt K mg "_law_of" s_law_of ["n", "pairs"] := mkDef X G a12 l12 c12 k12 ((fun_mk (st := s_law_of) l12 c12 k12).binds (ps := ["n", "pairs"]) fun _ _ _ _ _ _ us hl => match us, hl with | [_, _], _ => rfl)
  let D_law : DefAt K mg "law" s_law ["script"] := mkDef X G a13 l13 c13 k13 ((fun_mk (st := s_law) l13 c13 k13).binds (ps := ["script"]) fun _ _ _ _ _ _ us hl => match us, hl with | [_], _ => rfl)
  let X_TrellisError : ExcD K mg "TrellisError" := ⟨C_TrellisError, PySem.W.mg_of X G xa_TrellisError, xk_TrellisError, xq_TrellisError, xe_TrellisError, xt_TrellisError, xm_TrellisError, ⟨xg_TrellisError, xh_TrellisError, xe_TrellisError, xd_TrellisError, xc_TrellisError, x_nn, x_tt, xo_TrellisError⟩⟩
  let X_BadGraph : ExcD K mg "BadGraph" := ⟨C_BadGraph, PySem.W.mg_of X G xa_BadGraph, xk_BadGraph, xq_BadGraph, xe_BadGraph, xt_BadGraph, xm_BadGraph, ⟨xg_BadGraph, xh_BadGraph, xe_BadGraph, xd_BadGraph, xc_BadGraph, x_nn, x_tt, xo_BadGraph⟩⟩
  let X_BadEdit : ExcD K mg "BadEdit" := ⟨C_BadEdit, PySem.W.mg_of X G xa_BadEdit, xk_BadEdit, xq_BadEdit, xe_BadEdit, xt_BadEdit, xm_BadEdit, ⟨xg_BadEdit, xh_BadEdit, xe_BadEdit, xd_BadEdit, xc_BadEdit, x_nn, x_tt, xo_BadEdit⟩⟩
  have C_MOST_VERTICES := PySem.W.mg_of X G mv
  refine ⟨PySem.W.fnOf "law" "law" (defArgs s_law) (defBody s_law) (defScope s_law) .none kV13 dc13 pm13 an13 cd13 ct13, fun s v => .of_eq rfl, fun base _ _ => ?_⟩
  have G_spread := ok_spread (P := P) (w := w) (base := base) T D_law_spread
  have G_draw := ok_draw T D_law_draw D_law_spread G_spread
  have G_pool := ok_pool (P := P) (w := w) (base := base) T D_law_pool
  have G_distinct := ok_distinct (P := P) (w := w) (base := base) T D_law_distinct
  have G_of := ok_of T D_law_of D_law_distinct G_distinct
  have G_same := ok_same (P := P) (w := w) (base := base) T D_law_same 4
  have G_edge := ok_edge (P := P) (w := w) (base := base) (K := K) T D_edge_of
  have G_gof := ok_gof T D_graph_of D_edge_of G_edge
  have G_int := ok_isint (P := P) (w := w) (base := base) (K := K) T D_is_integer
  have G_sz := ok_issz T C_MOST_VERTICES D_is_size D_is_integer G_int
  have G_vx := ok_isvx T D_is_vertex D_is_integer G_int
  have G_ref := ok_refuse T X_BadGraph D_refuse_size D_is_size G_sz
  have G_made := ok_made T X_BadGraph D_made_graph D_refuse_size G_ref D_is_vertex G_vx D_graph_of G_gof
  exact ok_law T D_law X_BadGraph X_TrellisError.g X_BadEdit.g kit_BadGraph_TrellisError kit_BadGraph_BadEdit D_law_pool G_pool D_law_draw G_draw D_law_same G_same D_law_of G_of D_made_graph G_made

end Z
set_option Elab.async false
set_option linter.all false
set_option maxRecDepth 100000
open PySem PySem.W PyProof.Rows
set_option maxHeartbeats 0 in
theorem PySem.Challenge.cw_trellis_k02_made_graphs_holds : PySem.Challenge.rw_trellis_k02_made_graphs.Holds := by
  w_on; o_law; k_head; (case hw => w_witness2)
  k_fill
  refine L2.walk_of (l := PySem.Challenge.rw_trellis_k02_made_graphs) (n := 63) (k := 5) (x := "script") (CX := fun _ => L2.CX0) (sp := fun w => Z.spLaw _) rfl (by decide) rfl ⟨rfl, by decide, by decide⟩ (fun w h Y => PySem.W.kIn_of Y) ?F (fun _ _ a ns hl _ hS => ⟨a, ns, rfl, hS, fun _ => rfl⟩) (fun _ _ _ _ _ h => h)
  case F =>
    intro w mg fa h KX G hmg
    refine' Z.all_mk KX G hmg ?a0 ?l0 ?c0 ?k0 ?a1 ?l1 ?c1 ?k1 ?a2 ?l2 ?c2 ?k2 ?a3 ?l3 ?c3 ?k3 ?a4 ?l4 ?c4 ?k4 ?a5 ?l5 ?c5 ?k5 ?a6 ?l6 ?c6 ?k6 ?a7 ?l7 ?c7 ?k7 ?a8 ?l8 ?c8 ?k8 ?a9 ?l9 ?c9 ?k9 ?a10 ?l10 ?c10 ?k10 ?a11 ?l11 ?c11 ?k11 ?a12 ?l12 ?c12 ?k12 ?a13 ?l13 ?c13 ?k13 ?xa_TrellisError ?xk_TrellisError ?xq_TrellisError ?xe_TrellisError ?xt_TrellisError ?xm_TrellisError ?xg_TrellisError ?xh_TrellisError ?xd_TrellisError ?xc_TrellisError ?xo_TrellisError ?xa_BadGraph ?xk_BadGraph ?xq_BadGraph ?xe_BadGraph ?xt_BadGraph ?xm_BadGraph ?xg_BadGraph ?xh_BadGraph ?xd_BadGraph ?xc_BadGraph ?xo_BadGraph ?xa_BadEdit ?xk_BadEdit ?xq_BadEdit ?xe_BadEdit ?xt_BadEdit ?xm_BadEdit ?xg_BadEdit ?xh_BadEdit ?xd_BadEdit ?xc_BadEdit ?xo_BadEdit ?x_nn ?x_tt ?kit_BadGraph_TrellisError ?kit_BadGraph_BadEdit ?kit_BadEdit_TrellisError ?kit_BadEdit_BadGraph ?mv ?z_len ?z_range ?z_list ?z_tuple ?z_int ?z_min ?z_max ?z_sorted ?z_isinstance ?z_bool ?z_str ?z_enumerate
    (case a0 => k_is); (case l0 => k_is); (case c0 => k_is); (case k0 => k_is); (case a1 => k_is); (case l1 => k_is); (case c1 => k_is); (case k1 => k_is); (case a2 => k_is); (case l2 => k_is); (case c2 => k_is); (case k2 => k_is); (case a3 => k_is); (case l3 => k_is); (case c3 => k_is); (case k3 => k_is); (case a4 => k_is); (case l4 => k_is); (case c4 => k_is); (case k4 => k_is); (case a5 => k_is); (case l5 => k_is); (case c5 => k_is); (case k5 => k_is); (case a6 => k_is); (case l6 => k_is); (case c6 => k_is); (case k6 => k_is); (case a7 => k_is); (case l7 => k_is); (case c7 => k_is); (case k7 => k_is); (case a8 => k_is); (case l8 => k_is); (case c8 => k_is); (case k8 => k_is); (case a9 => k_is); (case l9 => k_is); (case c9 => k_is); (case k9 => k_is); (case a10 => k_is); (case l10 => k_is); (case c10 => k_is); (case k10 => k_is); (case a11 => k_is); (case l11 => k_is); (case c11 => k_is); (case k11 => k_is); (case a12 => k_is); (case l12 => k_is); (case c12 => k_is); (case k12 => k_is); (case a13 => k_is); (case l13 => k_is); (case c13 => k_is); (case k13 => k_is); (case xa_TrellisError => first | k_is | rfl); (case xk_TrellisError => first | k_is | rfl); (case xq_TrellisError => k_exc); (case xe_TrellisError => first | k_is | rfl); (case xt_TrellisError => first | k_is | rfl); (case xm_TrellisError => first | k_is | rfl); (case xg_TrellisError => first | k_is | rfl); (case xh_TrellisError => first | k_is | rfl); (case xd_TrellisError => first | k_is | rfl); (case xc_TrellisError => first | k_is | rfl); (case xo_TrellisError => first | k_is | rfl); (case xa_BadGraph => first | k_is | rfl); (case xk_BadGraph => first | k_is | rfl); (case xq_BadGraph => k_exc); (case xe_BadGraph => first | k_is | rfl); (case xt_BadGraph => first | k_is | rfl); (case xm_BadGraph => first | k_is | rfl); (case xg_BadGraph => first | k_is | rfl); (case xh_BadGraph => first | k_is | rfl); (case xd_BadGraph => first | k_is | rfl); (case xc_BadGraph => first | k_is | rfl); (case xo_BadGraph => first | k_is | rfl); (case xa_BadEdit => first | k_is | rfl); (case xk_BadEdit => first | k_is | rfl); (case xq_BadEdit => k_exc); (case xe_BadEdit => first | k_is | rfl); (case xt_BadEdit => first | k_is | rfl); (case xm_BadEdit => first | k_is | rfl); (case xg_BadEdit => first | k_is | rfl); (case xh_BadEdit => first | k_is | rfl); (case xd_BadEdit => first | k_is | rfl); (case xc_BadEdit => first | k_is | rfl); (case xo_BadEdit => first | k_is | rfl); (case x_nn => k_is); (case x_tt => k_is); (case kit_BadGraph_TrellisError => first | k_is | rfl); (case kit_BadGraph_BadEdit => first | k_is | rfl); (case kit_BadEdit_TrellisError => first | k_is | rfl); (case kit_BadEdit_BadGraph => first | k_is | rfl); (case mv => k_is); (case z_len => k_is); (case z_range => k_is); (case z_list => k_is); (case z_tuple => k_is); (case z_int => k_is); (case z_min => k_is); (case z_max => k_is); (case z_sorted => k_is); (case z_isinstance => k_is); (case z_bool => k_is); (case z_str => k_is); (case z_enumerate => k_is)
