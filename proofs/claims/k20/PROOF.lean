import PyProof.Rows.All
import Wide.All
import OpenK.AllK
import Wide.FinOn
import HandS.ForMost
import HandS.Wide
import HandS.TupSets
import HandS.Deep
import HandS.IsInst
import HandS.Conv
import HandS.SortRule
import PyProof.WalkInts
import HandS.SetBool
import HandS.ExcOwn
import HandS.WordsExc
import HandS.ExcIs
import HandS.TryOnly
import HandS.TryElse
import HandS.More
import KE.GoesEnum
import KE.GoesMore
import HandS.DictTup
import HandS.DictComp
import HandS.Iter
import HandS.TupAny
import PyProof.Rows.MatchSeqLen
import PyProof.RulesMatch
import HandS.Star
import HandS.ExcCtx
import HandS.Hot
import HandS.HotCalls
import PyProof.MinMaxWalk
import HandS.Text
import HandS.Strs
import HandS.SetIn
import KE.KSetDisp
import PyProof.SetRoads
import HandS.SortOrd
import KE.KIndexOf
import KE.DataMinMax
import KE.SortData
import PyProof.Rows.RowBridgeK
import KE.KRevSl
import HandS.Style
import KE.DataFind
import KE.KUnpack
import HandS.SetFor
import HandS.Lambda
import HandS.EndTab
import HandS.AnyAll
import HandS.GenOver
import HandS.Zip
import PyProof.EqKinds
import PyProof.P3In
import KE.SortKeyHeap
import HandS.SortKw
import PyProof.NeData
import HandS.FStr
import KE.DataMinKey
import PySem.Challenge.RW_trellis_k20_degenerate
import KE.KStateDown
import HandS.Head0
import HandS.Head1
import HandS.Head2
import HandS.HeadHook2
import HandS.HeadHook4
import HandS.HeadWalk
import HandS.HeadNt
import KE.KNestM
import OpenK.KQuick
set_option Elab.async false
set_option linter.all false
set_option maxRecDepth 100000
set_option maxHeartbeats 2000000
namespace Z
open PySem PySem.Spec PyProof.Rows L2

/-! ## heaps -/
/-- all but what stands at a is as it was -/
def Gr (a : Addr) (H H' : Hp) : Prop := ∀ b o, b ≠ a → H b = some o → H' b = some o
theorem Gr.refl (a : Addr) (H : Hp) : Gr a H H := fun _ _ _ h => h
theorem Gr.trans {a : Addr} {H H1 H2 : Hp} (x : Gr a H H1) (y : Gr a H1 H2) : Gr a H H2 := fun b o n h => y b o n (x b o n h)
theorem Gr.of_same {a : Addr} {H H' : Hp} (x : Same H H') : Gr a H H' := fun b o _ h => x b o h
theorem same_new {H : Hp} {p : Addr} {o : HO} (h : H p = none) : Same H (upd H p o) := fun b u e => by
  rw [upd_ne (ne_of_none e h)]
  exact e
theorem Gr.new {a : Addr} {H : Hp} {p : Addr} {o : HO} (h : H p = none) : Gr a H (upd H p o) := .of_same (same_new h)
/-- the object at a itself is written -/
theorem Gr.self {a : Addr} {H : Hp} {o : HO} : Gr a H (upd H a o) := fun b u n e => by
  rw [upd_ne n]
  exact e
/-- an object that H did not know is written -/
theorem Gr.mut {a : Addr} {H H' : Hp} {p : Addr} {o : HO} (x : Gr a H H') (h : H p = none) : Gr a H (upd H' p o) := fun b u n e => by
  rw [upd_ne (ne_of_none e h)]
  exact x b u n e
theorem same_mut {H H' : Hp} {p : Addr} {o : HO} (x : Same H H') (h : H p = none) : Same H (upd H' p o) := fun b u e => by
  rw [upd_ne (ne_of_none e h)]
  exact x b u e
/-- what is free now was free then -/
theorem Gr.free {a : Addr} {H H' : Hp} (x : Gr a H H') (ha : H' a ≠ none) {p : Addr} (h : H' p = none) : H p = none := by
  cases e : H p with
  | none => rfl
  | some o =>
    by_cases n : p = a
    · rw [n] at h
      exact absurd h ha
    · rw [x p o n e] at h
      cases h
/-- the tuples stand -/
def TK (H H' : Hp) : Prop := ∀ b xs, H b = some (.tup xs) → H' b = some (.tup xs)
theorem TK.trans {H H1 H2 : Hp} (x : TK H H1) (y : TK H1 H2) : TK H H2 := fun b o h => y b o (x b o h)
theorem TK.of_same {H H' : Hp} (x : Same H H') : TK H H' := fun b o h => x b _ h
theorem TK.of_gr {a : Addr} {H H' : Hp} {xs : List V} (x : Gr a H H') (h : H a = some (.lst xs)) : TK H H' := fun b o e => x b _ (fun n => by
  rw [n, h] at e
  cases e) e
theorem TK.lst {H : Hp} {p : Addr} {xs ys : List V} (h : H p = some (.lst xs)) : TK H (upd H p (.lst ys)) := fun b o e => by
  rw [upd_ne (fun n => by rw [n, h] at e; cases e)]
  exact e
theorem TK.new {H : Hp} {p : Addr} {o : HO} (h : H p = none) : TK H (upd H p o) := .of_same (same_new h)

/-! ## pairs -/
/-- x is the tuple of these two ints -/
def IsP (H : Hp) (x : V) (p : Int × Int) : Prop := ∃ t, x = .ref t ∧ H t = some (.tup [.int p.1, .int p.2])
theorem IsP.tk {H H' : Hp} (k : TK H H') {x : V} {p : Int × Int} (h : IsP H x p) : IsP H' x p := by
  obtain ⟨t, e, h⟩ := h
  exact ⟨t, e, k _ _ h⟩
abbrev Prs (H : Hp) : List V → List (Int × Int) → Prop := Paired (IsP H)
theorem Prs.tk {H H' : Hp} (k : TK H H') : ∀ {xs : List V} {ps : List (Int × Int)}, Prs H xs ps → Prs H' xs ps
  | _, _, .nil => .nil
  | _, _, .cons h t => .cons (h.tk k) (Prs.tk k t)
theorem pd_get {α β : Type} {F : α → β → Prop} : ∀ {xs : List α} {ps : List β} {i : Nat} {x : α}, Paired F xs ps → xs[i]? = some x → ∃ p, ps[i]? = some p ∧ F x p
  | _, _, _, _, .nil, h => by simp at h
  | _, _, 0, _, .cons f _, h => by
    have e := Option.some.inj h
    subst e
    exact ⟨_, rfl, f⟩
  | _, _, i + 1, _, .cons _ t, h => pd_get (i := i) t h
theorem pd_get2 {α β : Type} {F : α → β → Prop} : ∀ {xs : List α} {ps : List β} {i : Nat} {p : β}, Paired F xs ps → ps[i]? = some p → ∃ x, xs[i]? = some x ∧ F x p
  | _, _, _, _, .nil, h => by simp at h
  | _, _, 0, _, .cons f _, h => by
    have e := Option.some.inj h
    subst e
    exact ⟨_, rfl, f⟩
  | _, _, i + 1, _, .cons _ t, h => pd_get2 (i := i) t h
theorem pd_append {α β : Type} {F : α → β → Prop} : ∀ {xs ys : List α} {ps qs : List β}, Paired F xs ps → Paired F ys qs → Paired F (xs ++ ys) (ps ++ qs)
  | _, _, _, _, .nil, h => h
  | _, _, _, _, .cons f t, h => .cons f (pd_append t h)
theorem pd_take {α β : Type} {F : α → β → Prop} : ∀ {xs : List α} {ps : List β} (n : Nat), Paired F xs ps → Paired F (xs.take n) (ps.take n)
  | _, _, 0, _ => .nil
  | _, _, _ + 1, .nil => .nil
  | _, _, n + 1, .cons f t => .cons f (pd_take n t)
theorem pd_drop {α β : Type} {F : α → β → Prop} : ∀ {xs : List α} {ps : List β} (n : Nat), Paired F xs ps → Paired F (xs.drop n) (ps.drop n)
  | _, _, 0, h => h
  | _, _, _ + 1, .nil => .nil
  | _, _, n + 1, .cons _ t => pd_drop n t

/-! ## data, for == and in -/
theorem IsP.dp {K : PySem.W.Frag} {H : Hp} {x : V} {p : Int × Int} (h : IsP H x p) : Dp K H x (.tuple [.int p.1, .int p.2]) := by
  obtain ⟨t, rfl, h⟩ := h
  exact .tup (.inl (.inl h)) (.cons (.int _) (.cons (.int _) .nil))
def prD2 (p : Int × Int) : PyData := .tuple [.int p.1, .int p.2]
theorem Prs.dps {K : PySem.W.Frag} {H : Hp} : ∀ {xs : List V} {ps : List (Int × Int)}, Prs H xs ps → DpAll K H xs (ps.map prD2)
  | _, _, .nil => .nil
  | _, _, .cons h t => .cons h.dp (Prs.dps t)
theorem prD2_lay (z : Int × Int) : (prD2 z).canLay0 = true := by simp [prD2, PyData.canLay0, PyData.canLayAll0]
theorem prD2_depth (z : Int × Int) : (prD2 z).depth = 1 := by simp [prD2, PyData.depth, PyData.depthAll]
theorem prD2s_lay : ∀ zs : List (Int × Int), PyData.canLayAll0 (zs.map prD2) = true
  | [] => by simp [PyData.canLayAll0]
  | z :: zs => by simp [PyData.canLayAll0, prD2_lay z, prD2s_lay zs]
theorem shaped_of {d : PyData} (h1 : d.canLay0 = true) (h2 : d.depth ≤ 64) : SeqAt.shaped d = true := by
  show (d.canLay0 && decide (d.depth ≤ 64)) = true
  rw [Bool.and_eq_true]
  exact ⟨h1, decide_eq_true h2⟩
theorem prD2_eqv (z w : Int × Int) : PyData.eqv (prD2 z) (prD2 w) = decide (z = w) := by
  obtain ⟨a, b⟩ := z
  obtain ⟨c, d⟩ := w
  have e : PyData.eqv (prD2 (a, b)) (prD2 (c, d)) = ((a == c) && ((b == d) && true)) := by simp only [prD2, PyData.eqv, PyData.eqvAll]
  rw [e]
  by_cases h1 : a = c <;> by_cases h2 : b = d <;> simp [h1, h2]
theorem prD2s_any (zs : List (Int × Int)) (w : Int × Int) : ((zs.map prD2).any fun z => PyData.eqv z (prD2 w)) = decide (w ∈ zs) := by
  induction zs with
  | nil => simp
  | cons z zs ih =>
    rw [List.map_cons, List.any_cons, ih, prD2_eqv]
    by_cases h : z = w
    · simp [h]
    · have h' : ¬ w = z := fun q => h q.symm
      simp [h, h']

/-! ## rules of my own -/
section
variable {X : Cx}
/-- x in t, t a tuple of pairs -/
def rInP (K : PySem.W.Frag) : R2 := fun x y H Q => ∃ (p : Int × Int) (b : Addr) (xs : List V) (ps : List (Int × Int)), IsP H x p ∧ y = .ref b ∧ SqT K H b xs ∧ Prs H xs ps ∧ Q (.bl (decide (p ∈ ps))) H
theorem units65 {k : Nat} {A : Around} (r : Room k A) : A.units + 65 < cLine := by have := r.un; omega
theorem roomP {A : Around} {ds : List PyData} (h : A.units + 64 < cLine) (p : Int × Int) : A.units + 1 + min (PyData.depthAll ds) (prD2 p).depth < cLine := by
  have := Nat.min_le_right (PyData.depthAll ds) (prD2 p).depth
  rw [prD2_depth] at this
  rw [prD2_depth]
  omega
theorem op_inTD {k : Nat} (hr : Room k X.A) : OpR X (compareOp .In) (rInP X.K) := by
  intro pins s σ H x y v u Q I rx ry h
  obtain ⟨p, b, xs, ps, hx, rfl, hb, hp, q⟩ := h
  obtain ⟨as, r1⟩ := Dp.reads I (prD2 p) x v hx.dp rx
  obtain ⟨bs, r2⟩ := Dp.reads I (.tuple (ps.map prD2)) (.ref b) u (.tup hb hp.dps) ry
  exact SeqAt.in_tuple_reads r2 r1 (prD2s_lay ps) (prD2_lay p) (roomP hr.units p) ⟨.bl _, H, I, rfl, by rw [prD2s_any]; exact q⟩
def ltP (p q : Int × Int) : Prop := p.1 < q.1 ∨ (p.1 = q.1 ∧ p.2 < q.2)
end

set_option Elab.async false
set_option linter.all false
set_option maxRecDepth 100000
set_option maxHeartbeats 2000000
open PySem PySem.Spec PyProof.Rows L2
/-! ## steps of a reading -/
theorem int_beq (i j : Int) : (i == j) = decide (i = j) := by
  by_cases h : i = j <;> simp [h]
def rInt1 : List V → Hp → VK → Prop := fun xs H Q => (∃ i, xs = [.int i] ∧ Q (.int i) H) ∨ ∃ k, xs = [.bl k] ∧ Q (.int (if k then 1 else 0)) H
def rLen (K : PySem.W.Frag) : List V → Hp → VK → Prop := fun xs H Q => ∃ p ys, xs = [.ref p] ∧ (SqL K H p ys ∨ SqT K H p ys) ∧ Q (.int ys.length) H
def rListOf (K : PySem.W.Frag) : List V → Hp → VK → Prop := fun xs H Q => ∃ p ys, xs = [.ref p] ∧ (SqL K H p ys ∨ SqT K H p ys) ∧ ∀ l, H l = none → Q (.ref l) (upd H l (.lst ys))
def rTupOf (K : PySem.W.Frag) : List V → Hp → VK → Prop := fun xs H Q => ∃ p ys, xs = [.ref p] ∧ ((SqL K H p ys ∧ ∀ l, H l = none → Q (.ref l) (upd H l (.tup ys))) ∨ (SqT K H p ys ∧ Q (.ref p) H))
section
variable {X : Cx}
variable {K : PySem.W.Frag}
theorem ix_listK (h : X.K = K) : IxR X (rIxL K) := h ▸ ix_list
theorem ix_tupK (h : X.K = K) : IxR X (rIxT K) := h ▸ ix_tup
theorem ix_eitherK (h : X.K = K) : IxR X (fun x y H Q => rIxL K x y H Q ∨ rIxT K x y H Q) := h ▸ ix_list.or ix_tup
theorem sl_listK (h : X.K = K) : SlR X (rSlL K) := h ▸ sl_list
theorem sl_tupK (h : X.K = K) : SlR X (rSlT K) := h ▸ sl_tup
theorem op_inSeqK (h : X.K = K) : OpR X (compareOp .In) (rIn K false) := h ▸ op_in_seq
theorem op_ninSeqK (h : X.K = K) : OpR X (compareOp .NotIn) (rIn K true) := h ▸ op_notIn_seq
theorem op_inPK {k : Nat} (h : X.K = K) (hr : Room k X.A) : OpR X (compareOp .In) (rInP K) := h ▸ op_inTD hr
theorem op_eqDK (h : X.K = K) (hu : X.A.units + 64 < cLine) : OpR X (compareOp .Eq) (rEqD K) := h ▸ op_eqD hu
theorem PE.bmK {e : Expr} {T : String} {r : V → List V → Hp → VK → Prop} {to : TE} {t : TA} (h : X.K = K) (p : PE X e (tBM X.K T r to t)) : PE X e (tBM K T r to t) := h ▸ p
theorem PG.tupK {e : Expr} {n : Nat} {t : TGs} (h : X.K = K) (p : PG X e (gTup X.K n t)) : PG X e (gTup K n t) := h ▸ p
theorem PI.listK {tg e : Expr} {tl : TE} (h : X.K = K) (p : PI X tg e (iList X.K tl)) : PI X tg e (iList K tl) := h ▸ p
theorem PI.tupK {tg e : Expr} {tl : TE} (h : X.K = K) (p : PI X tg e (iTup X.K tl)) : PI X tg e (iTup K tl) := h ▸ p
theorem call_isiK (h : X.K = K) : CallR X (.builtin "isinstance") (rIsi K) := h ▸ call_isi
theorem call_lenK (h : X.K = K) : CallR X (.builtin "len") (rLen K) := h ▸ call_len_seq
theorem call_listK (h : X.K = K) : CallR X (.type "list") (rListOf K) := h ▸ call_list_of
theorem call_tupleK (h : X.K = K) : CallR X (.type "tuple") (rTupOf K) := h ▸ call_tuple_of
theorem call_int1' : CallR X (.type "int") rInt1 := call_int1
end
section
variable {K : PySem.W.Frag} {σ : L2.St} {H : Hp} {Q : VK} {ta tb tc te : TE} {t u : TT}
theorem r_var {i : Nat} {v : V} (h : σ[i]? = some (some v)) (q : Q v H) : tVar i σ H Q := ⟨v, h, q⟩
theorem r_c {v : V} (q : Q v H) : tC v σ H Q := q
theorem r_op {r : R2} (h : ta σ H fun x H1 => tb σ H1 fun y H2 => r x y H2 Q) : tOp r ta tb σ H Q := h
theorem r_un {r : V → Hp → VK → Prop} (h : ta σ H fun x H1 => r x H1 Q) : tUn r ta σ H Q := h
theorem r_i0 {g : Int → Int → V} {i j : Int} (q : Q (g i j) H) : rI0 g (.int i) (.int j) H Q := ⟨i, j, rfl, rfl, q⟩
theorem r_i {C : Int → Int → Prop} {g : Int → Int → V} {i j : Int} (c : C i j) (q : Q (g i j) H) : rI C g (.int i) (.int j) H Q := ⟨i, j, rfl, rfl, c, q⟩
theorem r_u {g : Int → V} {i : Int} (q : Q (g i) H) : rU g (.int i) H Q := ⟨i, rfl, q⟩
theorem r_eqI {i j : Int} (q : Q (.bl (decide (i = j))) H) : rEq (.int i) (.int j) H Q := ⟨rfl, by rw [dec_int, int_beq]; exact q⟩
theorem r_neI {i j : Int} (q : Q (.bl (!decide (i = j))) H) : rNe (.int i) (.int j) H Q := ⟨rfl, by rw [dec_int, int_beq]; exact q⟩
theorem r_neB {i j : Bool} (q : Q (.bl (!(i == j))) H) : rNe (.bl i) (.bl j) H Q := ⟨rfl, by rw [dec_bl]; exact q⟩
def TupN (Q : VK) (xs : List V) (H1 : Hp) : Prop := xs.length ≤ sizeLine ∧ ∀ p, H1 p = none → Q (.ref p) (upd H1 p (.tup xs))
def LstN (Q : VK) (xs : List V) (H1 : Hp) : Prop := xs.length ≤ sizeLine ∧ ∀ p, H1 p = none → Q (.ref p) (upd H1 p (.lst xs))
theorem r_tup {ta : TA} (h : ta σ H (TupN Q)) : tTup ta σ H Q := h
theorem r_lst {ta : TA} (h : ta σ H (LstN Q)) : tLst ta σ H Q := h
theorem r_tupN {xs : List V} (l : xs.length ≤ sizeLine) (q : ∀ p, H p = none → Q (.ref p) (upd H p (.tup xs))) : TupN Q xs H := ⟨l, q⟩
theorem r_lstN {xs : List V} (l : xs.length ≤ sizeLine) (q : ∀ p, H p = none → Q (.ref p) (upd H p (.lst xs))) : LstN Q xs H := ⟨l, q⟩
theorem r_nil {Q : List V → Hp → Prop} (q : Q [] H) : tNil σ H Q := q
theorem r_cons {tr : TA} {Q : List V → Hp → Prop} (h : ta σ H fun x H1 => tr σ H1 fun xs H2 => Q (x :: xs) H2) : tCons ta tr σ H Q := h
theorem r_call {sp : Sp} {dvs : List V} {E : XK} {ta : TA} (h : ta σ H fun vs H1 => sp (vs ++ dvs) H1 Q E) : tCall sp dvs E ta σ H Q := h
theorem r_cb {r : List V → Hp → VK → Prop} {ta : TA} (h : ta σ H fun vs H1 => r vs H1 Q) : tCB r ta σ H Q := h
def KB (Q : Bool → Hp → Prop) (x : V) (H : Hp) : Prop := ∃ k, x = .bl k ∧ Q k H
theorem r_test {Q : Bool → Hp → Prop} (h : te σ H fun x H1 => KB Q x H1) : tTest te σ H Q := h
theorem r_tB {Q : Bool → Hp → Prop} (h : te σ H fun x H1 => KB Q x H1) : tB te σ H Q := h
theorem r_k {Q : Bool → Hp → Prop} {b : Bool} (q : Q b H) : KB Q (.bl b) H := ⟨b, rfl, q⟩
theorem r_not {Q : Bool → Hp → Prop} (h : t σ H fun c H1 => Q (!c) H1) : tNot t σ H Q := h
theorem r_and {Q : Bool → Hp → Prop} (h : t σ H fun c H1 => if c = true then u σ H1 Q else Q false H1) : tAnd t u σ H Q := h
theorem r_or {Q : Bool → Hp → Prop} (h : t σ H fun c H1 => if c = true then Q true H1 else u σ H1 Q) : tOr t u σ H Q := h
theorem r_if (h : t σ H fun c H1 => if c = true then ta σ H1 Q else tb σ H1 Q) : tIf t ta tb σ H Q := h
def Bm (K : PySem.W.Frag) (T : String) (r : V → List V → Hp → VK → Prop) (ta : TA) (σ : L2.St) (Q : VK) (x : V) (H1 : Hp) : Prop := tyV K T x H1 ∧ ta σ H1 fun xs H2 => r x xs H2 Q
theorem r_bm {T : String} {r : V → List V → Hp → VK → Prop} {ta : TA} (h : te σ H (Bm K T r ta σ Q)) : tBM K T r te ta σ H Q := h
def AndN (tb : TE) (σ : L2.St) (Q : VK) (x : V) (H1 : Hp) : Prop := ∃ c, x = .bl c ∧ if c = true then tb σ H1 Q else Q (.bl false) H1
def NotN (Q : VK) (x : V) (H1 : Hp) : Prop := ∃ c, x = .bl c ∧ Q (.bl (!c)) H1
theorem r_andV (h : ta σ H (AndN tb σ Q)) : tAndV ta tb σ H Q := h
theorem r_notV (h : ta σ H (NotN Q)) : tNotV ta σ H Q := h
theorem r_andN {c : Bool} (h : if c = true then tb σ H Q else Q (.bl false) H) : AndN tb σ Q (.bl c) H := ⟨c, rfl, h⟩
theorem r_notN {c : Bool} (q : Q (.bl (!c)) H) : NotN Q (.bl c) H := ⟨c, rfl, q⟩
def PartN (Q : Option Int → Hp → Prop) (x : V) (H1 : Hp) : Prop := ∃ i, x = .int i ∧ Q (some i) H1
theorem r_sl {r : V → Option Int → Option Int → Hp → VK → Prop} {tl th : TO} (h : te σ H fun x H1 => tl σ H1 fun l H2 => th σ H2 fun u H3 => r x l u H3 Q) : tSl r te tl th σ H Q := h
theorem r_part {Q : Option Int → Hp → Prop} (h : te σ H (PartN Q)) : tPart te σ H Q := h
theorem r_partN {Q : Option Int → Hp → Prop} {i : Int} (q : Q (some i) H) : PartN Q (.int i) H := ⟨i, rfl, q⟩
theorem r_noPart {Q : Option Int → Hp → Prop} (q : Q none H) : tNoPart σ H Q := q
def LRg (Q : VK) (a b : Int) (H1 : Hp) : Prop := RgOk a b ∧ ∀ q, H1 q = none → Q (.ref q) (upd H1 q (.lst (rgV a b)))
def R1N (Q : Int → Int → Hp → Prop) (x : V) (H1 : Hp) : Prop := ∃ n, x = .int n ∧ Q 0 n H1
theorem r_lstRg {t : L2.St → Hp → (Int → Int → Hp → Prop) → Prop} (h : t σ H (LRg Q)) : tLstRg t σ H Q := h
theorem r_tRg1 {Q : Int → Int → Hp → Prop} (h : ta σ H (R1N Q)) : tRg1 ta σ H Q := h
theorem r_r1N {Q : Int → Int → Hp → Prop} {n : Int} (q : Q 0 n H) : R1N Q (.int n) H := ⟨n, rfl, q⟩
theorem r_bmL {r : V → List V → Hp → VK → Prop} {ta : TA} {p : Addr} {xs : List V} (h : SqL K H p xs) (q : ta σ H fun xs H2 => r (.ref p) xs H2 Q) : Bm K "list" r ta σ Q (.ref p) H := ⟨.inl ⟨rfl, _, h⟩, q⟩
theorem r_ixL {p : Addr} {xs : List V} {i : Int} {v : V} (h : SqL K H p xs) (a : atI xs i = some v) (q : Q v H) : rIxL K (.ref p) (.int i) H Q := ⟨p, xs, i, v, rfl, rfl, h, a, q⟩
theorem r_ixT {p : Addr} {xs : List V} {i : Int} {v : V} (h : SqT K H p xs) (a : atI xs i = some v) (q : Q v H) : rIxT K (.ref p) (.int i) H Q := ⟨p, xs, i, v, rfl, rfl, h, a, q⟩
variable {nx bk ct : L2.St → Hp → Prop} {a b : TS}
theorem r_next (q : nx σ H) : tNext ⟨nx, Q, bk, ct⟩ σ H := q
theorem r_seq (h : a ⟨b ⟨nx, Q, bk, ct⟩, Q, bk, ct⟩ σ H) : tSeq a b ⟨nx, Q, bk, ct⟩ σ H := h
/-- a block's tail, once for all ways that lead to it -/
theorem r_seqW (W : L2.St → Hp → Prop) (tail : ∀ σ' H', W σ' H' → b ⟨nx, Q, bk, ct⟩ σ' H') (head : ∀ B : L2.St → Hp → Prop, (∀ σ' H', W σ' H' → B σ' H') → a ⟨B, Q, bk, ct⟩ σ H) : tSeq a b ⟨nx, Q, bk, ct⟩ σ H := head _ tail
theorem r_ret (h : te σ H Q) : tRet te ⟨nx, Q, bk, ct⟩ σ H := h
theorem r_drop (h : te σ H fun _ H1 => nx σ H1) : tDrop te ⟨nx, Q, bk, ct⟩ σ H := h
theorem r_ifS (h : t σ H fun c H1 => if c = true then a ⟨nx, Q, bk, ct⟩ σ H1 else b ⟨nx, Q, bk, ct⟩ σ H1) : tIfS t a b ⟨nx, Q, bk, ct⟩ σ H := h
theorem r_asg {g : TG} (h : te σ H fun x H1 => g x σ H1 nx) : tAsg te g ⟨nx, Q, bk, ct⟩ σ H := h
theorem r_name1 {x0 x1 : Option V} {σ : L2.St} {v : V} {q : L2.St → Hp → Prop} (h : q (x0 :: some v :: σ) H) : gName 1 v (x0 :: x1 :: σ) H q := h
theorem r_name2 {x0 x1 x2 : Option V} {σ : L2.St} {v : V} {q : L2.St → Hp → Prop} (h : q (x0 :: x1 :: some v :: σ) H) : gName 2 v (x0 :: x1 :: x2 :: σ) H q := h
theorem r_name3 {x0 x1 x2 x3 : Option V} {σ : L2.St} {v : V} {q : L2.St → Hp → Prop} (h : q (x0 :: x1 :: x2 :: some v :: σ) H) : gName 3 v (x0 :: x1 :: x2 :: x3 :: σ) H q := h
theorem r_name4 {x0 x1 x2 x3 x4 : Option V} {σ : L2.St} {v : V} {q : L2.St → Hp → Prop} (h : q (x0 :: x1 :: x2 :: x3 :: some v :: σ) H) : gName 4 v (x0 :: x1 :: x2 :: x3 :: x4 :: σ) H q := h
theorem r_name5 {x0 x1 x2 x3 x4 x5 : Option V} {σ : L2.St} {v : V} {q : L2.St → Hp → Prop} (h : q (x0 :: x1 :: x2 :: x3 :: x4 :: some v :: σ) H) : gName 5 v (x0 :: x1 :: x2 :: x3 :: x4 :: x5 :: σ) H q := h
theorem r_name6 {x0 x1 x2 x3 x4 x5 x6 : Option V} {σ : L2.St} {v : V} {q : L2.St → Hp → Prop} (h : q (x0 :: x1 :: x2 :: x3 :: x4 :: x5 :: some v :: σ) H) : gName 6 v (x0 :: x1 :: x2 :: x3 :: x4 :: x5 :: x6 :: σ) H q := h
theorem r_name7 {x0 x1 x2 x3 x4 x5 x6 x7 : Option V} {σ : L2.St} {v : V} {q : L2.St → Hp → Prop} (h : q (x0 :: x1 :: x2 :: x3 :: x4 :: x5 :: x6 :: some v :: σ) H) : gName 7 v (x0 :: x1 :: x2 :: x3 :: x4 :: x5 :: x6 :: x7 :: σ) H q := h
theorem r_name8 {x0 x1 x2 x3 x4 x5 x6 x7 x8 : Option V} {σ : L2.St} {v : V} {q : L2.St → Hp → Prop} (h : q (x0 :: x1 :: x2 :: x3 :: x4 :: x5 :: x6 :: x7 :: some v :: σ) H) : gName 8 v (x0 :: x1 :: x2 :: x3 :: x4 :: x5 :: x6 :: x7 :: x8 :: σ) H q := h
theorem r_name9 {x0 x1 x2 x3 x4 x5 x6 x7 x8 x9 : Option V} {σ : L2.St} {v : V} {q : L2.St → Hp → Prop} (h : q (x0 :: x1 :: x2 :: x3 :: x4 :: x5 :: x6 :: x7 :: x8 :: some v :: σ) H) : gName 9 v (x0 :: x1 :: x2 :: x3 :: x4 :: x5 :: x6 :: x7 :: x8 :: x9 :: σ) H q := h
theorem r_name10 {x0 x1 x2 x3 x4 x5 x6 x7 x8 x9 x10 : Option V} {σ : L2.St} {v : V} {q : L2.St → Hp → Prop} (h : q (x0 :: x1 :: x2 :: x3 :: x4 :: x5 :: x6 :: x7 :: x8 :: x9 :: some v :: σ) H) : gName 10 v (x0 :: x1 :: x2 :: x3 :: x4 :: x5 :: x6 :: x7 :: x8 :: x9 :: x10 :: σ) H q := h
theorem r_name11 {x0 x1 x2 x3 x4 x5 x6 x7 x8 x9 x10 x11 : Option V} {σ : L2.St} {v : V} {q : L2.St → Hp → Prop} (h : q (x0 :: x1 :: x2 :: x3 :: x4 :: x5 :: x6 :: x7 :: x8 :: x9 :: x10 :: some v :: σ) H) : gName 11 v (x0 :: x1 :: x2 :: x3 :: x4 :: x5 :: x6 :: x7 :: x8 :: x9 :: x10 :: x11 :: σ) H q := h
theorem r_name12 {x0 x1 x2 x3 x4 x5 x6 x7 x8 x9 x10 x11 x12 : Option V} {σ : L2.St} {v : V} {q : L2.St → Hp → Prop} (h : q (x0 :: x1 :: x2 :: x3 :: x4 :: x5 :: x6 :: x7 :: x8 :: x9 :: x10 :: x11 :: some v :: σ) H) : gName 12 v (x0 :: x1 :: x2 :: x3 :: x4 :: x5 :: x6 :: x7 :: x8 :: x9 :: x10 :: x11 :: x12 :: σ) H q := h
theorem r_sub {to ti : TE} {ts : TSet} {v : V} {q : L2.St → Hp → Prop} (h : to σ H fun o H1 => ti σ H1 fun i H2 => ts o i v H2 fun H3 => q σ H3) : gSub to ti ts v σ H q := h
theorem r_setL {p : Addr} {xs : List V} {k : Int} {j : Nat} {v : V} {q : Hp → Prop} (h : H p = some (.lst xs)) (e : ixN xs.length k = some j) (s : q (upd H p (.lst (xs.set j v)))) : rSetL (.ref p) (.int k) v H q := ⟨p, xs, k, j, rfl, rfl, h, e, s⟩
theorem r_set1 {p : Addr} {x0 x1 : V} {xs : List V} {v : V} {q : Hp → Prop} (h : H p = some (.lst (x0 :: x1 :: xs))) (s : q (upd H p (.lst (x0 :: v :: xs)))) : rSetL (.ref p) (.int 1) v H q := ⟨p, _, 1, 1, rfl, rfl, h, by
  unfold ixN
  rw [if_pos (by decide), if_pos (by simp only [List.length_cons]; omega)]
  rfl, s⟩
theorem r_set2 {p : Addr} {x0 x1 x2 : V} {xs : List V} {v : V} {q : Hp → Prop} (h : H p = some (.lst (x0 :: x1 :: x2 :: xs))) (s : q (upd H p (.lst (x0 :: x1 :: v :: xs)))) : rSetL (.ref p) (.int 2) v H q := ⟨p, _, 2, 2, rfl, rfl, h, by
  unfold ixN
  rw [if_pos (by decide), if_pos (by simp only [List.length_cons]; omega)]
  rfl, s⟩
theorem r_set2u {p : Addr} {x0 x1 x2 : V} {xs : List V} {v : V} {q : Hp → Prop} (s : q (upd H p (.lst (x0 :: x1 :: v :: xs)))) : rSetL (.ref p) (.int 2) v (upd H p (.lst (x0 :: x1 :: x2 :: xs))) q := r_set2 upd_same (by
  rw [upd_upd]
  exact s)
theorem r_set3 {p : Addr} {x0 x1 x2 x3 : V} {xs : List V} {v : V} {q : Hp → Prop} (h : H p = some (.lst (x0 :: x1 :: x2 :: x3 :: xs))) (s : q (upd H p (.lst (x0 :: x1 :: x2 :: v :: xs)))) : rSetL (.ref p) (.int 3) v H q := ⟨p, _, 3, 3, rfl, rfl, h, by
  unfold ixN
  rw [if_pos (by decide), if_pos (by simp only [List.length_cons]; omega)]
  rfl, s⟩
theorem r_gtup {n : Nat} {g : TGs} {p : Addr} {xs : List V} {q : L2.St → Hp → Prop} (h : SqT K H p xs) (l : xs.length = n) (s : g xs σ H q) : gTup K n g (.ref p) σ H q := ⟨p, xs, rfl, h, l, s⟩
theorem r_gcons {g : TG} {gs : TGs} {v : V} {r : List V} {q : L2.St → Hp → Prop} (h : g v σ H fun σ' H' => gs r σ' H' q) : gCons g gs (v :: r) σ H q := ⟨v, r, rfl, h⟩
theorem r_gnil {q : L2.St → Hp → Prop} (h : q σ H) : gNil [] σ H q := ⟨rfl, h⟩
/-- a test whose answer is open, or known -/
theorem r_ite {p : Prop} [Decidable p] {A B : Prop} (h1 : p → A) (h2 : ¬ p → B) : if decide p = true then A else B := by
  by_cases h : p
  · rw [decide_eq_true h, if_pos rfl]
    exact h1 h
  · rw [decide_eq_false h, if_neg Bool.false_ne_true]
    exact h2 h
theorem r_iteN {p : Prop} [Decidable p] {A B : Prop} (h1 : ¬ p → A) (h2 : p → B) : if (!decide p) = true then A else B := by
  by_cases h : p
  · rw [decide_eq_true h]
    exact iteF (h2 h)
  · rw [decide_eq_false h]
    exact iteT (h1 h)
/-! loops: what is left once the iterated thing is there -/
def ForR (J : It) (g : TG) (tb : TS) (nx : L2.St → Hp → Prop) (Q : VK) (σ : L2.St) (H : Hp) : Prop := ∃ W : Nat → Nat → L2.St → Hp → Prop, (∃ m, W 0 m σ H) ∧ ∀ i m σ H, W i m σ H →
  (J.stop i H ∧ nx σ H) ∨ (J.go i H ∧ ∃ N : L2.St → Hp → Prop, (∀ σ' H', N σ' H' → ∃ m', m' < m ∧ W (i + 1) m' σ' H') ∧ ∀ x H', J.yld i H x H' → g x σ H' fun σ2 H2 => tb ⟨N, Q, nx, N⟩ σ2 H2)
theorem r_for {wi : TI} {g : TG} {tb : TS} (h : wi σ H fun J H1 => ForR J g tb nx Q σ H1) : tFor wi g tb ⟨nx, Q, bk, ct⟩ σ H := h
def Rg1 (R : It → Hp → Prop) (vs : List V) (H : Hp) : Prop := ∃ j : Int, vs = [.int j] ∧ -(2 ^ 62) ≤ j ∧ j < 2 ^ 62 ∧ R (Itr 0 j.toNat) H
def Rg2 (R : It → Hp → Prop) (vs : List V) (H : Hp) : Prop := ∃ i j : Int, vs = [.int i, .int j] ∧ (-(2 ^ 62) ≤ i ∧ i < 2 ^ 62 ∧ -(2 ^ 62) ≤ j ∧ j < 2 ^ 62) ∧ R (Itr i (j - i).toNat) H
theorem r_rng1 {ta : TA} {R : It → Hp → Prop} (h : ta σ H (Rg1 R)) : iRng1 ta σ H R := h
theorem r_rng2 {ta : TA} {R : It → Hp → Prop} (h : ta σ H (Rg2 R)) : iRng2 ta σ H R := h
theorem r_rg1 {j : Int} {R : It → Hp → Prop} (h1 : -4611686018427387904 ≤ j ∧ j < 4611686018427387904) (h : R (Itr 0 j.toNat) H) : Rg1 R [V.int j] H := ⟨j, rfl, h1.1, h1.2, h⟩
theorem r_rg2 {i j : Int} {R : It → Hp → Prop} (h1 : -4611686018427387904 ≤ i ∧ i < 4611686018427387904 ∧ -4611686018427387904 ≤ j ∧ j < 4611686018427387904) (h : R (Itr i (j - i).toNat) H) : Rg2 R [V.int i, V.int j] H := ⟨i, j, rfl, h1, h⟩
def Il (K : PySem.W.Frag) (R : It → Hp → Prop) (x : V) (H : Hp) : Prop := ∃ a, x = .ref a ∧ (∃ xs, SqL K H a xs) ∧ R (Itl K a) H
def Itp (K : PySem.W.Frag) (R : It → Hp → Prop) (x : V) (H : Hp) : Prop := ∃ a, x = .ref a ∧ (∃ xs, SqT K H a xs) ∧ R (Itt K a) H
theorem r_ilist {R : It → Hp → Prop} (h : te σ H (Il K R)) : iList K te σ H R := h
theorem r_itup {R : It → Hp → Prop} (h : te σ H (Itp K R)) : iTup K te σ H R := h
theorem r_il {a : Addr} {xs : List V} {R : It → Hp → Prop} (h : SqL K H a xs) (q : R (Itl K a) H) : Il K R (.ref a) H := ⟨a, rfl, ⟨xs, h⟩, q⟩
theorem r_it {a : Addr} {xs : List V} {R : It → Hp → Prop} (h : SqT K H a xs) (q : R (Itt K a) H) : Itp K R (.ref a) H := ⟨a, rfl, ⟨xs, h⟩, q⟩
theorem forR_range {lo : Int} {n : Nat} {g : TG} {tb : TS} (Pv : Nat → L2.St → Hp → Prop) (h0 : Pv 0 σ H)
    (hs : ∀ (i : Nat) σ H, i < n → Pv i σ H → g (.int (lo + i)) σ H fun σ2 H2 => tb ⟨Pv (i + 1), Q, nx, Pv (i + 1)⟩ σ2 H2) (hd : ∀ σ H, Pv n σ H → nx σ H) : ForR (Itr lo n) g tb nx Q σ H :=
  for_range (D := ⟨nx, Q, nx, nx⟩) Pv h0 hs hd
theorem forR_list {a : Addr} {xs : List V} {g : TG} {tb : TS} (Pv : Nat → L2.St → Hp → Prop) (h0 : Pv 0 σ H) (hl : ∀ i σ H, i ≤ xs.length → Pv i σ H → SqL K H a xs)
    (hs : ∀ (i : Nat) x σ H, xs[i]? = some x → Pv i σ H → g x σ H fun σ2 H2 => tb ⟨Pv (i + 1), Q, nx, Pv (i + 1)⟩ σ2 H2) (hd : ∀ σ H, Pv xs.length σ H → nx σ H) : ForR (Itl K a) g tb nx Q σ H :=
  for_list (D := ⟨nx, Q, nx, nx⟩) Pv h0 hl hs hd
theorem forR_tup {a : Addr} {xs : List V} {g : TG} {tb : TS} (Pv : Nat → L2.St → Hp → Prop) (h0 : Pv 0 σ H) (hl : ∀ i σ H, i ≤ xs.length → Pv i σ H → SqT K H a xs)
    (hs : ∀ (i : Nat) x σ H, xs[i]? = some x → Pv i σ H → g x σ H fun σ2 H2 => tb ⟨Pv (i + 1), Q, nx, Pv (i + 1)⟩ σ2 H2) (hd : ∀ σ H, Pv xs.length σ H → nx σ H) : ForR (Itt K a) g tb nx Q σ H :=
  for_tup (D := ⟨nx, Q, nx, nx⟩) Pv h0 hl hs hd
/-! comprehensions likewise -/
def LcR (J : It) (g : TG) (tt : TT) (te : TE) (vs : List Nat) (σ : L2.St) (D : Addr) (Q : VK) (H1 : Hp) : Prop := ∃ W : Nat → Nat → Hp → Prop, (∃ m, W 0 m (upd H1 D (.lst []))) ∧ ∀ i m H, W i m H →
  (J.stop i H ∧ Q (.ref D) H) ∨ (J.go i H ∧ ∃ Nx : Hp → Prop, (∀ H', Nx H' → ∃ m', m' < m ∧ W (i + 1) m' H') ∧ ∀ x H', J.yld i H x H' → g x (wipe σ vs) H' fun σ2 H2 => wipe σ2 vs = wipe σ vs ∧ tt σ2 H2 fun b H3 =>
    if b = true then te σ2 H3 fun y H4 => ∃ acc, H4 D = some (.lst acc) ∧ acc.length < sizeLine ∧ Nx (upd H4 D (.lst (acc ++ [y]))) else Nx H3)
theorem r_lc {wi : TI} {g : TG} {tt : TT} {vs : List Nat} (h : wi σ H fun J H1 => ∀ D, H1 D = none → LcR J g tt te vs σ D Q H1) : tLc wi g tt te vs σ H Q := h
/-- one turn's end of a comprehension: the item goes to D -/
def LcE (D : Addr) (N : Hp → Prop) (y : V) (H4 : Hp) : Prop := ∃ acc, H4 D = some (.lst acc) ∧ acc.length < sizeLine ∧ N (upd H4 D (.lst (acc ++ [y])))
theorem lcR_range {lo : Int} {n : Nat} {g : TG} {tt : TT} {vs : List Nat} {D : Addr} {σw : L2.St} (Pv : Nat → Hp → Prop) (ew : wipe σ vs = σw) (h0 : Pv 0 (upd H D (.lst [])))
    (hs : ∀ (i : Nat) H, i < n → Pv i H → g (.int (lo + i)) σw H fun σ2 H2 => wipe σ2 vs = σw ∧ tt σ2 H2 fun b H3 => if b = true then te σ2 H3 (LcE D (Pv (i + 1))) else Pv (i + 1) H3) (hd : ∀ H, Pv n H → Q (.ref D) H) :
    LcR (Itr lo n) g tt te vs σ D Q H := by
  subst ew
  exact lc_range (Qd := Q (.ref D)) Pv h0 hs hd
theorem lcR_list {a : Addr} {xs : List V} {g : TG} {tt : TT} {vs : List Nat} {D : Addr} {σw : L2.St} (Pv : Nat → Hp → Prop) (ew : wipe σ vs = σw) (h0 : Pv 0 (upd H D (.lst []))) (hl : ∀ i H, i ≤ xs.length → Pv i H → SqL K H a xs)
    (hs : ∀ (i : Nat) x H, xs[i]? = some x → Pv i H → g x σw H fun σ2 H2 => wipe σ2 vs = σw ∧ tt σ2 H2 fun b H3 => if b = true then te σ2 H3 (LcE D (Pv (i + 1))) else Pv (i + 1) H3) (hd : ∀ H, Pv xs.length H → Q (.ref D) H) :
    LcR (Itl K a) g tt te vs σ D Q H := by
  subst ew
  exact lc_list (Qd := Q (.ref D)) Pv h0 hl hs hd
theorem lcR_tup {a : Addr} {xs : List V} {g : TG} {tt : TT} {vs : List Nat} {D : Addr} {σw : L2.St} (Pv : Nat → Hp → Prop) (ew : wipe σ vs = σw) (h0 : Pv 0 (upd H D (.lst []))) (hl : ∀ i H, i ≤ xs.length → Pv i H → SqT K H a xs)
    (hs : ∀ (i : Nat) x H, xs[i]? = some x → Pv i H → g x σw H fun σ2 H2 => wipe σ2 vs = σw ∧ tt σ2 H2 fun b H3 => if b = true then te σ2 H3 (LcE D (Pv (i + 1))) else Pv (i + 1) H3) (hd : ∀ H, Pv xs.length H → Q (.ref D) H) :
    LcR (Itt K a) g tt te vs σ D Q H := by
  subst ew
  exact lc_tup (Qd := Q (.ref D)) Pv h0 hl hs hd
theorem r_yes {Q : Bool → Hp → Prop} (q : Q true H) : tYes σ H Q := q
theorem r_lce {D : Addr} {N : Hp → Prop} {y : V} {acc : List V} (h : H D = some (.lst acc)) (l : acc.length < sizeLine) (q : N (upd H D (.lst (acc ++ [y])))) : LcE D N y H := ⟨acc, h, l, q⟩
theorem r_int1 {i : Int} (q : Q (.int i) H) : rInt1 [.int i] H Q := .inl ⟨i, rfl, q⟩
theorem r_lenL {p : Addr} {ys : List V} (h : SqL K H p ys) (q : Q (.int ys.length) H) : rLen K [.ref p] H Q := ⟨p, ys, rfl, .inl h, q⟩
theorem r_lenT {p : Addr} {ys : List V} (h : SqT K H p ys) (q : Q (.int ys.length) H) : rLen K [.ref p] H Q := ⟨p, ys, rfl, .inr h, q⟩
theorem r_listL {p : Addr} {ys : List V} (h : SqL K H p ys) (q : ∀ l, H l = none → Q (.ref l) (upd H l (.lst ys))) : rListOf K [.ref p] H Q := ⟨p, ys, rfl, .inl h, q⟩
theorem r_listT {p : Addr} {ys : List V} (h : SqT K H p ys) (q : ∀ l, H l = none → Q (.ref l) (upd H l (.lst ys))) : rListOf K [.ref p] H Q := ⟨p, ys, rfl, .inr h, q⟩
theorem r_tupL {p : Addr} {ys : List V} (h : SqL K H p ys) (q : ∀ l, H l = none → Q (.ref l) (upd H l (.tup ys))) : rTupOf K [.ref p] H Q := ⟨p, ys, rfl, .inl ⟨h, q⟩⟩
theorem r_at {N : List PySem.Str} {vs : List V} {t : TS} {D : Ends} (e : L2.start N vs = σ) (h : t D σ H) : t D (L2.start N vs) H := by
  rw [e]
  exact h
/-! methods of lists -/
theorem r_appT {l : Addr} {xs : List V} {y : V} (h : H l = some (.lst xs)) (s : xs.length < sizeLine) (q : Q .non (upd H l (.lst (xs ++ [y])))) : rAppend (.ref l) [y] H Q := ⟨l, xs, y, rfl, rfl, h, s, q⟩
end
theorem at_int {ns : List Int} {p : Int} (h0 : 0 ≤ p) (h1 : p < ns.length) : ∃ c ∈ ns, atI (ns.map V.int) p = some (.int c) := by
  have hlt : p.toNat < ns.length := by omega
  refine ⟨ns[p.toNat], List.getElem_mem hlt, at_of (j := p.toNat) (by omega) ?_⟩
  rw [List.getElem?_map, List.getElem?_eq_getElem hlt]
  rfl
/-- 0 .. n - 1 -/
def rgI (n : Int) : List Int := (List.range n.toNat).map fun (i : Nat) => (i : Int)
theorem rgI_len (n : Int) : (rgI n).length = n.toNat := by
  unfold rgI
  rw [List.length_map, List.length_range]
theorem mem_rgI {n z : Int} : z ∈ rgI n ↔ 0 ≤ z ∧ z < n := by
  unfold rgI
  rw [List.mem_map]
  constructor
  · rintro ⟨i, hi, rfl⟩
    rw [List.mem_range] at hi
    omega
  · rintro ⟨h1, h2⟩
    exact ⟨z.toNat, List.mem_range.mpr (by omega), by omega⟩
theorem rgI_nodup (n : Int) : (rgI n).Nodup := by
  unfold rgI
  exact List.pairwise_map.mpr (List.nodup_range.imp fun {i j} h e => h (by omega))
theorem rgV_rgI (n : Int) : rgV 0 n = (rgI n).map V.int := by
  unfold rgV rgI
  rw [List.map_map, Int.sub_zero]
  refine List.map_congr_left fun i _ => ?_
  show V.int (0 + (i : Int)) = V.int (i : Int)
  rw [Int.zero_add]
theorem r_lRg {H : Hp} {Q : VK} {n : Int} (h0 : 0 ≤ n) (h1 : n ≤ 10000) (q : ∀ p, H p = none → Q (.ref p) (upd H p (.lst ((rgI n).map V.int)))) : LRg Q 0 n H := ⟨.of_le (by omega) (by omega) (by omega) h0, fun p hp => by
  rw [rgV_rgI]
  exact q p hp⟩
theorem small_len {n : Nat} (h : n ≤ 100000) : n ≤ sizeLine := Nat.le_trans h (by decide)
theorem small_lt {n : Nat} (h : n < 100000) : n < sizeLine := Nat.lt_of_lt_of_le h (by decide)

set_option Elab.async false
set_option linter.all false
open PySem PySem.Spec PyProof.Rows L2
/-! ## the mathematics of pairs -/
def rowP (u lo : Int) (k : Nat) : List (Int × Int) := (List.range k).map fun (j : Nat) => (u, lo + (j : Int))
theorem rowP_succ (u lo : Int) (k : Nat) : rowP u lo (k + 1) = rowP u lo k ++ [(u, lo + (k : Int))] := by
  unfold rowP
  rw [List.range_succ, List.map_append]
  rfl
theorem mem_rowP {u lo : Int} {k : Nat} {p : Int × Int} : p ∈ rowP u lo k ↔ p.1 = u ∧ lo ≤ p.2 ∧ p.2 < lo + k := by
  unfold rowP
  rw [List.mem_map]
  constructor
  · rintro ⟨j, hj, rfl⟩
    rw [List.mem_range] at hj
    exact ⟨rfl, by show lo ≤ lo + (j : Int); omega, by show lo + (j : Int) < lo + k; omega⟩
  · obtain ⟨a, b⟩ := p
    rintro ⟨h1, h2, h3⟩
    refine ⟨(b - lo).toNat, List.mem_range.mpr (by simp only at h2 h3; omega), ?_⟩
    simp only at h1 h2 h3 ⊢
    rw [h1, show lo + ((b - lo).toNat : Int) = b by omega]
theorem rowP_asc (u lo : Int) : ∀ k, (rowP u lo k).Pairwise ltP
  | 0 => List.Pairwise.nil
  | k + 1 => by
    rw [rowP_succ]
    refine List.pairwise_append.mpr ⟨rowP_asc u lo k, List.pairwise_singleton _ _, fun p hp q hq => ?_⟩
    obtain ⟨h1, h2, h3⟩ := mem_rowP.mp hp
    rw [List.mem_singleton.mp hq]
    exact .inr ⟨h1, h3⟩
theorem rowP_len (u lo : Int) (k : Nat) : (rowP u lo k).length = k := by
  unfold rowP
  rw [List.length_map, List.length_range]
def preP (n : Nat) : Nat → List (Int × Int)
  | 0 => []
  | i + 1 => preP n i ++ rowP (i : Int) ((i : Int) + 1) (n - 1 - i)
def allP (n : Nat) : List (Int × Int) := preP n n
theorem mem_preP {n : Nat} {p : Int × Int} : ∀ {i : Nat}, i ≤ n → (p ∈ preP n i ↔ 0 ≤ p.1 ∧ p.1 < i ∧ p.1 < p.2 ∧ p.2 < n)
  | 0, _ => by
    constructor
    · intro h
      cases h
    · rintro ⟨h1, h2, _⟩
      have h2 : p.1 < 0 := h2
      omega
  | i + 1, hi => by
    show p ∈ preP n i ++ rowP (i : Int) ((i : Int) + 1) (n - 1 - i) ↔ _
    rw [List.mem_append, mem_preP (by omega : i ≤ n), mem_rowP]
    constructor
    · rintro (⟨h1, h2, h3, h4⟩ | ⟨h1, h2, h3⟩)
      · exact ⟨h1, by omega, h3, h4⟩
      · exact ⟨by omega, by omega, by omega, by omega⟩
    · rintro ⟨h1, h2, h3, h4⟩
      by_cases e : p.1 = (i : Int)
      · exact .inr ⟨e, by omega, by omega⟩
      · exact .inl ⟨h1, by omega, h3, h4⟩
theorem mem_allP {n : Nat} {p : Int × Int} : p ∈ allP n ↔ 0 ≤ p.1 ∧ p.1 < p.2 ∧ p.2 < n := by
  unfold allP
  rw [mem_preP (Nat.le_refl n)]
  omega
theorem preP_asc {n : Nat} : ∀ {i : Nat}, i ≤ n → (preP n i).Pairwise ltP
  | 0, _ => .nil
  | i + 1, hi => by
    show (preP n i ++ rowP (i : Int) ((i : Int) + 1) (n - 1 - i)).Pairwise ltP
    refine List.pairwise_append.mpr ⟨preP_asc (by omega), rowP_asc _ _ _, fun p hp q hq => ?_⟩
    have h1 := (mem_preP (by omega : i ≤ n)).mp hp
    have h2 := mem_rowP.mp hq
    exact .inl (by omega)
theorem allP_asc (n : Nat) : (allP n).Pairwise ltP := preP_asc (Nat.le_refl n)
theorem preP_len {n : Nat} : ∀ {i : Nat}, (preP n i).length ≤ i * n
  | 0 => Nat.zero_le _
  | i + 1 => by
    show (preP n i ++ rowP (i : Int) ((i : Int) + 1) (n - 1 - i)).length ≤ _
    rw [List.length_append, rowP_len, Nat.succ_mul]
    have := preP_len (n := n) (i := i)
    omega
theorem ltP_irrefl (p : Int × Int) : ¬ ltP p p := by
  unfold ltP
  omega
theorem asc_nodup {ps : List (Int × Int)} (h : ps.Pairwise ltP) : ps.Nodup := by
  refine List.Pairwise.imp (R := ltP) (fun {p q} h => ?_) h
  intro e
  rw [e] at h
  exact ltP_irrefl q h
theorem nodup_le {α : Type} [DecidableEq α] : ∀ (l m : List α), l.Nodup → (∀ x ∈ l, x ∈ m) → l.length ≤ m.length
  | [], _, _, _ => Nat.zero_le _
  | x :: l, m, hn, hs => by
    obtain ⟨h1, h2⟩ := List.nodup_cons.mp hn
    have hx : x ∈ m := hs x List.mem_cons_self
    have ih := nodup_le l (m.erase x) h2 fun y hy => by
      have hne : y ≠ x := by
        intro e
        rw [e] at hy
        exact h1 hy
      exact (List.mem_erase_of_ne hne).2 (hs y (List.mem_cons_of_mem _ hy))
    have e := List.length_erase_of_mem hx
    have p := List.length_pos_of_mem hx
    simp only [List.length_cons]
    omega
theorem sz1 {a : V} : [a].length ≤ sizeLine := by show 1 ≤ sizeLine; decide
theorem sz2 {a b : V} : [a, b].length ≤ sizeLine := by show 2 ≤ sizeLine; decide
theorem sz3 {a b c : V} : [a, b, c].length ≤ sizeLine := by show 3 ≤ sizeLine; decide
section
variable {K : PySem.W.Frag} {H : Hp} {Q : VK}
end
/-- a graph: the number of vertices, the ascending edges -/
structure GoodG (n : Int) (ps : List (Int × Int)) : Prop where
  one : 1 ≤ n
  asc : ps.Pairwise ltP
  inn : ∀ p ∈ ps, 0 ≤ p.1 ∧ p.1 < p.2 ∧ p.2 < n

set_option Elab.async false
set_option linter.all false
set_option maxRecDepth 100000
set_option maxHeartbeats 4000000
open PySem PySem.Spec PyProof.Rows L2
/-! # sets of tuples that a comprehension lays -/
section
variable {X : Cx}
variable {elt tg iter : Expr} {ifs : List Expr} {scope : Scope} {own : List (PySem.Str × Nat)} {pos : Pos} {wi : TI} {g : TG} {tt : TT} {te : TE}
end
section
variable {X : Cx} {K : PySem.W.Frag} {P : Program} {w : World}
variable {σ : L2.St} {H : Hp} {Q : VK}
end
section
variable {P : Program} {w : World} {K : PySem.W.Frag} {mg : Str → Option Value} {base : Heap}
/-- a promise that nothing keeps to is kept -/
theorem fn_none {k : Nat} {f : Addr} {fd : FuncData} {ps : List PySem.Str} {CX : CXT} : FnOk P w K mg base CX k f fd ps (fun _ _ _ _ => False) := ⟨fun _ _ _ _ h => h.elim, fun _ _ _ _ _ _ _ _ _ _ _ _ _ h => h.elim⟩
theorem r_ixE {H : Hp} {Q : VK} {l : Addr} {xs : List V} {i : Int} {v : V} (h : SqL K H l xs ∨ SqT K H l xs) (e : atI xs i = some v) (q : Q v H) : rIxL K (.ref l) (.int i) H Q ∨ rIxT K (.ref l) (.int i) H Q := by
  rcases h with h | h
  · exact .inl (r_ixL h e q)
  · exact .inr (r_ixT h e q)
end

set_option Elab.async false
set_option linter.all false
set_option maxRecDepth 100000
set_option maxHeartbeats 4000000
open PySem PySem.Spec PyProof.Rows L2
section
variable {K : PySem.W.Frag} {mg : Str → Option Value} {x : Str}
variable {σ : L2.St} {H : Hp} {Q : VK}
theorem rel_ref {a : Addr} : RelV (.ref a) (.ref a) := rfl
theorem rel_int {i : Int} {t : Tok} : RelV (.int i) (.int i t) := ⟨t, rfl⟩
/-! chains of comparisons -/
def ChN (r' : R2) (tc : TE) (σ : L2.St) (Q : VK) (y : V) : VK := fun z H3 => ∃ k, z = .bl k ∧ (if k = true then tc σ H3 fun w' H4 => r' y w' H4 Q else Q (.bl false) H3)
theorem r_chain {r r' : R2} {ta tb tc : TE} (h : ta σ H fun x H1 => tb σ H1 fun y H2 => r x y H2 (ChN r' tc σ Q y)) : tChain r r' ta tb tc σ H Q := h
theorem r_chn {r' : R2} {tc : TE} {y : V} {b : Bool} (h : if b = true then tc σ H fun w' H4 => r' y w' H4 Q else Q (.bl false) H) : ChN r' tc σ Q y (.bl b) H := ⟨b, rfl, h⟩
end

set_option Elab.async false
set_option linter.all false
set_option maxRecDepth 100000
set_option maxHeartbeats 4000000
open PySem PySem.Spec PyProof.Rows L2
/-! # enumerate over a tuple -/
section
variable {prog : Program} {w : World} {A : Around} {E : Value → Shared → Prop} {s : Shared}
end
/-! # dicts whose keys are tuples, laid by a comprehension -/
section
variable {X : Cx}
variable {kx vx tg iter : Expr} {ifs : List Expr} {scope : Scope} {own : List (PySem.Str × Nat)} {pos : Pos} {wi : TI} {g : TG} {tt : TT} {tk tv : TE}
end

set_option Elab.async false
set_option linter.all false
set_option maxRecDepth 100000
set_option maxHeartbeats 4000000
open PySem PySem.Spec PyProof.Rows L2
section
variable {X : Cx} {K : PySem.W.Frag} {P : Program} {w : World} {σ : L2.St} {H : Hp} {Q : VK} {D : Addr}
/-! ## number dicts -/
/-! ## two clauses -/
/-! ## what dicts hold -/
theorem op_catAK (h : X.K = K) : OpR X (binaryOp .Add) (rCatA K) := h ▸ op_catA
end

set_option Elab.async false
set_option linter.all false
set_option maxRecDepth 100000
set_option maxHeartbeats 4000000
open PySem PySem.Spec PyProof.Rows L2
/-! # match on tuples: a word, then names -/
/-- each pattern of these is a bare name -/
inductive Caps : List Pattern → List PySem.Str → Prop where
  | nil : Caps [] []
  | cons {ps : List Pattern} {ns : List PySem.Str} (n : PySem.Str) (p : Pos) (r : Caps ps ns) : Caps (.MatchAs none (some n) p :: ps) (n :: ns)
section
variable {M : Model} {A : Around} {E : Value → Shared → Prop} {env : Env}
theorem caps_each {ps : List Pattern} {ns : List PySem.Str} (c : Caps ps ns) : ∀ {us : List Value} {s : Shared} {Q : Option (List (PySem.Str × Value)) → Shared → Prop}, us.length = ns.length → Q (some (ns.zip us)) s → wpAny M A (matchEach ps env us) Q E s := by
  induction c with
  | nil =>
    intro us s Q hl h
    have e : us = [] := List.length_eq_zero_iff.mp hl
    subst e
    exact wpAny_matchEach_nil h
  | @cons ps ns n p r ih =>
    intro us s Q hl h
    cases us with
    | nil => cases hl
    | cons u us =>
      refine wpAny_matchEach_cons (wpAny_matchPattern_Capture ?_)
      exact ih (by simpa using hl) h
theorem Caps.len {ps : List Pattern} {ns : List PySem.Str} (c : Caps ps ns) : ps.length = ns.length := by
  induction c with
  | nil => rfl
  | cons n p r ih => simp [ih]
theorem zip_names (f : PySem.Str → Value → Sem Unit) : ∀ (ns : List PySem.Str) (us : List Value), us.length = ns.length → ((ns.zip us).map fun (n, _) => f n) = ns.map f ∧ (ns.zip us).map (·.2) = us
  | [], [], _ => ⟨rfl, rfl⟩
  | [], _ :: _, h => by cases h
  | _ :: _, [], h => by cases h
  | n :: ns, u :: us, h => by
    obtain ⟨h1, h2⟩ := zip_names f ns us (by simpa using h)
    simp only [List.zip_cons_cons, List.map_cons]
    exact ⟨by rw [h1], by rw [h2]⟩
end
section
variable {X : Cx}
/-- names that are bound, one after another -/
structure PBn (X : Cx) (ns : List PySem.Str) (t : TGs) : Prop where
  run : ∀ (pins : List (Addr × Obj)) (s : Shared) (σ : L2.St) (H : Hp) (vs : List V) (us : List Value) (Q : L2.St → Hp → Prop), Inv X pins σ H s → Vals vs us → t vs σ H Q → wpAny (model X.prog X.w) X.A (assignInOrder (ns.map (bindName X.env)) us) (fun _ s' => ∃ σ' H', Inv X pins σ' H' s' ∧ Q σ' H') X.xe s
theorem bn_nil : PBn X [] gNil := ⟨fun pins s σ H vs us Q I r h => by
  obtain ⟨e, h⟩ := h
  subst e
  cases r
  exact assignInOrder_nil ⟨σ, H, I, h⟩⟩
theorem bn_cons {i : Nat} {x : PySem.Str} {ns : List PySem.Str} {u : TGs} (hN : X.N.Nodup) (hi : X.N[i]? = some x) (hx : Loc X.env.scope x) (h2 : PBn X ns u) (hf : X.fn x = true ∨ X.env.scope.names.lookup x = some .local := by first | exact .inl rfl | exact .inr rfl) : PBn X (x :: ns) (gCons (gName i) u) := ⟨fun pins s σ H vs us Q I r h => by
  obtain ⟨v, vr, e, h⟩ := h
  subst e
  cases r with
  | @cons _ u0 _ us0 r0 rs =>
    have st : wpAny (model X.prog X.w) X.A (bindName X.env x u0) (fun _ s' => ∃ σ' H', Inv X pins σ' H' s' ∧ u vr σ' H' Q) X.xe s := wpAny_bindName (store_ok I hN hi hx r0 (fun s' I' => ⟨_, H, I', h⟩) hf)
    exact wpAny_assignInOrder_more (thn st fun _ s1 ⟨σ1, H1, I1, q1⟩ => h2.run pins s1 σ1 H1 _ _ Q I1 rs q1)⟩
/-- the cases of a match, behind the subject -/
structure PMc (X : Cx) (cs : List MatchCase) (t : V → TS) : Prop where
  run : ∀ (pins : List (Addr × Obj)) (s : Shared) (σ : L2.St) (H : Hp) (D : Ends) (v : V) (u : Value) (first : Bool), Inv X pins σ H s → RelV v u → t v D σ H → wpAny (model X.prog X.w) X.A (matchCases cs X.env u first) (SP X pins D) X.xe s
theorem pm_nil : PMc X [] (fun _ D σ H => D.nx σ H) := ⟨fun pins s σ H D v u first I r h => wpAny_matchCases_nil ⟨σ, H, I, h⟩⟩
def tMatch (te : TE) (t : V → TS) : TS := fun D σ H => te σ H fun v H1 => t v D σ H1
theorem ps_match {e : Expr} {cs : List MatchCase} {pos : Pos} {te : TE} {t : V → TS} (he : PE X e te) (hc : PMc X cs t) : PS X (.Match e cs pos) (tMatch te t) :=
  ⟨fun pins s σ H D I h => wpAny_Match (thn (he.run pins s σ H _ I h) fun u s1 ⟨v, H1, I1, r, q⟩ => hc.run pins s1 σ H1 D v u true I1 r q)⟩
theorem pa_starK {K : PySem.W.Frag} {e : Expr} {p : Pos} {es : List Expr} {te : TE} {t : TA} (hk : X.K = K) (he : PE X e te) (ha : PA X es t) : PA X (.Starred e p :: es) (StX.tStar K te t) := hk ▸ StX.pa_star he ha
variable {K : PySem.W.Frag} {σ : L2.St} {H : Hp} {D : Ends}
theorem r_match {te : TE} {t : V → TS} (h : te σ H fun v H1 => t v D σ H1) : tMatch te t D σ H := h
def StN (K : PySem.W.Frag) (t : TA) (σ : L2.St) (Q : List V → Hp → Prop) : VK := fun x H1 => ∃ p xs, x = V.ref p ∧ (SqT K H1 p xs ∨ SqL K H1 p xs) ∧ t σ H1 fun ys H2 => Q (xs ++ ys) H2
theorem r_star {te : TE} {t : TA} {Q : List V → Hp → Prop} (h : te σ H (StN K t σ Q)) : StX.tStar K te t σ H Q := h
theorem r_stN {t : TA} {Q : List V → Hp → Prop} {p : Addr} {xs : List V} (h : H p = some (.tup xs)) (q : t σ H fun ys H2 => Q (xs ++ ys) H2) : StN K t σ Q (.ref p) H := ⟨p, xs, rfl, .inl (.inl (.inl h)), q⟩
end

set_option Elab.async false
set_option linter.all false
set_option maxRecDepth 100000
set_option maxHeartbeats 4000000
open PySem PySem.Spec PyProof.Rows L2
/-! # try .. except X as e: .. else: .. -/
section
variable {X : Cx} {cx nm : Str} {cv : Value} {k : Nat} {bd su : List Stmt} {b0 : Stmt} {p1 p2 p3 : Pos} {tb : WX → TS} {ts : Addr → Value → Option Addr → TS} {Wo : WX}
end

set_option Elab.async false
set_option linter.all false
set_option maxRecDepth 100000
set_option maxHeartbeats 4000000
open PySem PySem.Spec PyProof.Rows L2
/-! # what a suite of except may do: min and max of two ints, calls -/
section
variable {prog : Program} {w : World} {A : Around} {E : Value → Shared → Prop} {s : Shared}
end
section
variable {X : Cx}
end
section
variable {P : Program} {w : World} {K : PySem.W.Frag} {mg : Str → Option Value} {base : Heap}
end

set_option Elab.async false
set_option linter.all false
set_option maxRecDepth 100000
set_option maxHeartbeats 4000000
open PySem PySem.Spec PyProof.Rows L2
section
variable {K : PySem.W.Frag} {H : Hp} {Q : VK}
end

set_option Elab.async false
set_option linter.all false
set_option maxRecDepth 100000
set_option maxHeartbeats 4000000
open PySem PySem.Spec PyProof.Rows L2
/-! # sets as the bits of a number -/
structure Msk (x : Int) (S : Int → Prop) : Prop where
  nn : 0 ≤ x
  bits : ∀ i : Nat, x.toNat.testBit i = true ↔ S i
theorem Msk.zero : Msk 0 (fun _ => False) := ⟨by omega, fun i => by simp⟩
theorem Msk.shl {v : Int} (h : 0 ≤ v) : Msk (1 * 2 ^ v.toNat) (fun i => i = v) := by
  have e : (1 * 2 ^ v.toNat : Int) = ((2 ^ v.toNat : Nat) : Int) := by
    rw [Int.one_mul]
    exact (PySem.W.kbt_cast v.toNat).symm
  rw [e]
  refine ⟨Int.natCast_nonneg _, fun i => ?_⟩
  rw [Int.toNat_natCast, Nat.testBit_two_pow, decide_eq_true_eq]
  omega
theorem Msk.or {x y : Int} {S T : Int → Prop} (a : Msk x S) (b : Msk y T) : Msk (Builtin.bitOr x y) (fun i => S i ∨ T i) := by
  rw [Bits.bitOr_pp a.nn b.nn]
  refine ⟨Int.natCast_nonneg _, fun i => ?_⟩
  rw [Int.toNat_natCast, Nat.testBit_or, Bool.or_eq_true, a.bits, b.bits]
theorem Msk.and {x y : Int} {S T : Int → Prop} (a : Msk x S) (b : Msk y T) : Msk (Builtin.bitAnd x y) (fun i => S i ∧ T i) := by
  rw [bitAnd_pp a.nn b.nn]
  refine ⟨Int.natCast_nonneg _, fun i => ?_⟩
  rw [Int.toNat_natCast, Nat.testBit_and, Bool.and_eq_true, a.bits, b.bits]
theorem Msk.congr {x : Int} {S T : Int → Prop} (a : Msk x S) (h : ∀ i : Nat, S i ↔ T i) : Msk x T := ⟨a.nn, fun i => (a.bits i).trans (h i)⟩
theorem Msk.ne0 {x : Int} {S : Int → Prop} (a : Msk x S) : x ≠ 0 ↔ ∃ i : Nat, S i := by
  constructor
  · intro h
    have : x.toNat ≠ 0 := by have := a.nn; omega
    obtain ⟨i, hi⟩ := Nat.exists_testBit_of_ne_zero this
    exact ⟨i, (a.bits i).mp hi⟩
  · rintro ⟨i, hi⟩ e
    have := (a.bits i).mpr hi
    rw [e] at this
    simp at this
/-- what ors do: a mask of the items of a list -/
theorem Msk.snoc {x v : Int} {ns : List Int} (a : Msk x (fun i => i ∈ ns)) (h : 0 ≤ v) : Msk (Builtin.bitOr x (1 * 2 ^ v.toNat)) (fun i => i ∈ ns ++ [v]) :=
  (a.or (.shl h)).congr fun i => by rw [List.mem_append, List.mem_singleton]
theorem Msk.nil : Msk 0 (fun i => i ∈ ([] : List Int)) := Msk.zero.congr fun i => by simp
/-! ## ints as data -/
theorem dps_int {K : PySem.W.Frag} {H : Hp} : ∀ ns : List Int, DpAll K H (ns.map V.int) (ns.map PyData.int)
  | [] => .nil
  | _ :: ns => .cons (.int _) (dps_int ns)
theorem layI : ∀ ns : List Int, PyData.canLayAll0 (ns.map PyData.int) = true
  | [] => by simp [PyData.canLayAll0]
  | n :: ns => by
    rw [List.map_cons]
    simp only [PyData.canLayAll0, PyData.canLay0, Bool.true_and]
    exact layI ns
theorem depI : ∀ ns : List Int, PyData.depthAll (ns.map PyData.int) ≤ 0
  | [] => by simp [PyData.depthAll]
  | n :: ns => by
    have := depI ns
    rw [List.map_cons]
    simp only [PyData.depthAll, PyData.depth]
    omega
theorem tupI_lay (ns : List Int) : (PyData.tuple (ns.map PyData.int)).canLay0 = true := by
  simp only [PyData.canLay0]
  exact layI ns
theorem tupI_depth (ns : List Int) : (PyData.tuple (ns.map PyData.int)).depth ≤ 1 := by
  have := depI ns
  simp only [PyData.depth]
  omega
theorem eqvI : ∀ ns ms : List Int, PyData.eqvAll (ns.map PyData.int) (ms.map PyData.int) = decide (ns = ms)
  | [], [] => by simp [PyData.eqvAll]
  | [], _ :: _ => by simp [PyData.eqvAll]
  | _ :: _, [] => by simp [PyData.eqvAll]
  | n :: ns, m :: ms => by
    rw [List.map_cons, List.map_cons]
    simp only [PyData.eqvAll, PyData.eqv]
    rw [eqvI ns ms]
    by_cases h1 : n = m <;> by_cases h2 : ns = ms <;> simp [h1, h2]
theorem tupI_eqv (ns ms : List Int) : PyData.eqv (.tuple (ns.map PyData.int)) (.tuple (ms.map PyData.int)) = decide (ns = ms) := by
  simp only [PyData.eqv]
  exact eqvI ns ms
section
variable {X : Cx} {K : PySem.W.Frag} {σ : L2.St} {H : Hp} {Q : VK}
theorem op_inDK (h : X.K = K) (hu : X.A.units + 65 < cLine) : OpR X (compareOp .In) (rInD K) := h ▸ op_inD hu
theorem cr_allK (h : X.K = K) (hc : X.calm = true) : CallR X (.builtin "all") (rAll K) := h ▸ cr_all hc
theorem r_all {a : Addr} {bs : List Bool} (h : H a = some (.lst (bs.map V.bl))) (q : Q (.bl (bs.all id)) H) : rAll K [.ref a] H Q := ⟨a, bs, rfl, .inl (.inl h), q⟩
def AugN (i : Nat) (ti : TIp) (σ : L2.St) (nx : L2.St → Hp → Prop) (x : V) : VK := fun y H1 => ti x y H1 fun z H2 => nx (σ.set i (some z)) H2
theorem r_aug {i : Nat} {te : TE} {ti : TIp} {nx bk ct : L2.St → Hp → Prop} {x : V} (e : σ[i]? = some (some x)) (h : te σ H (AugN i ti σ nx x)) : tAug i te ti ⟨nx, Q, bk, ct⟩ σ H := ⟨x, e, h⟩
theorem r_augOr {i : Nat} {nx : L2.St → Hp → Prop} {a b : Int} {σ' : L2.St} (e : σ.set i (some (.int (Builtin.bitOr a b))) = σ') (h : nx σ' H) : AugN i (rI0 fun i j => .int (Builtin.bitOr i j)) σ nx (.int a) (.int b) H := ⟨a, b, rfl, rfl, by subst e; exact h⟩
end

set_option Elab.async false
set_option linter.all false
set_option maxRecDepth 100000
set_option maxHeartbeats 4000000
open PySem PySem.Spec PyProof.Rows L2
/-! # sets of ints: {x}, and a def that knows its code -/
section
variable {P : Program} {w : World} {A : Around} {E : Value → Shared → Prop} {s : Shared} {a : Addr} {S : Int → Bool} {n : Nat}
end
section
variable {X : Cx}
end
section
variable {P : Program} {w : World} {K : PySem.W.Frag} {mg : Str → Option Value} {base : Heap}
end
section
variable {X : Cx} {w : World} {σ : L2.St} {H : Hp} {Q : VK}
end

set_option Elab.async false
set_option linter.all false
set_option maxRecDepth 100000
set_option maxHeartbeats 4000000
open PySem PySem.Spec PyProof.Rows L2
/-! # list.extend of a tuple, len of a set -/
section
open PySem.AutoSeq1 in
end
section
variable {X : Cx} {K : PySem.W.Frag} {w : World}
def rLenSet (w : World) : List V → Hp → VK → Prop := fun vs H Q => ∃ (a : Addr) (S : Int → Bool) (n : Nat), vs = [V.ref a] ∧ H a = some (SetO w a S n) ∧ Q (.int n) H
theorem call_lenSet (hw : X.w = w) : CallR X (.builtin "len") (rLenSet w) := by
  subst hw
  intro pins s σ H vs us Q I r h
  obtain ⟨a, S, n, rfl, ha, q⟩ := h
  rw [Vals.ref1 r]
  obtain ⟨o, es, ep, t, ho, hex, hd, _, _, _, hb, hf, hn, _⟩ := setO_get I ha
  refine call_len_set ho hex hd hf (by have : (scanBound : Int) = 4096 := rfl; omega) ?_
  exact ⟨.int n, H, I.kept (t' := s.toks + 1 + 1) fun _ _ e => e, by rw [hn]; exact ⟨_, rfl⟩, q⟩
end

set_option Elab.async false
set_option linter.all false
set_option maxRecDepth 100000
set_option maxHeartbeats 4000000
open PySem PySem.Spec PyProof.Rows L2
/-! # truth of lists, pop(), while, two clauses over lists -/
section
variable {X : Cx} {K : PySem.W.Frag} {w : World} {σ : L2.St} {H : Hp} {Q : VK}
def Bm0 (K : PySem.W.Frag) (T : String) (r : V → List V → Hp → VK → Prop) (Q : VK) : VK := fun x H1 => tyV K T x H1 ∧ r x [] H1 Q
theorem PE.bm0K {e : Expr} {T : String} {r : V → List V → Hp → VK → Prop} {to : TE} (h : X.K = K) (p : PE X e (tBM0 X.K T r to)) : PE X e (tBM0 K T r to) := h ▸ p
theorem r_bm0 {T : String} {r : V → List V → Hp → VK → Prop} {te : TE} (h : te σ H (Bm0 K T r Q)) : tBM0 K T r te σ H Q := h
variable {nx bk ct : L2.St → Hp → Prop}
theorem r_while {tc : TT} {tb : TS} (W : Nat → L2.St → Hp → Prop) (m0 : Nat) (h0 : W m0 σ H)
    (hs : ∀ m σ H, W m σ H → tc σ H fun b H1 => if b = true then ∃ N : L2.St → Hp → Prop, (∀ σ' H', N σ' H' → ∃ m', m' < m ∧ W m' σ' H') ∧ tb ⟨N, Q, nx, N⟩ σ H1 else nx σ H1) : tWhile tc tb ⟨nx, Q, bk, ct⟩ σ H := ⟨W, ⟨m0, h0⟩, hs⟩
theorem r_whGo {tb : TS} {W : Nat → L2.St → Hp → Prop} {m : Nat} (h : tb ⟨fun σ' H' => ∃ m', m' < m ∧ W m' σ' H', Q, nx, fun σ' H' => ∃ m', m' < m ∧ W m' σ' H'⟩ σ H) : ∃ N : L2.St → Hp → Prop, (∀ σ' H', N σ' H' → ∃ m', m' < m ∧ W m' σ' H') ∧ tb ⟨N, Q, nx, N⟩ σ H := ⟨_, fun _ _ z => z, h⟩
theorem r_lenSet {a : Addr} {S : Int → Bool} {n : Nat} (h : H a = some (SetO w a S n)) (q : Q (.int n) H) : rLenSet w [.ref a] H Q := ⟨a, S, n, rfl, h, q⟩
/-- t[:i], t[j:] -/
theorem cut_to (xs : List V) (k : Nat) (h : k ≤ xs.length) : cutV xs none (some (k : Int)) = xs.take k := by
  unfold cutV
  rw [HT.sIx_none, HT.sIx_nat, List.drop_zero, Nat.sub_zero, Nat.min_eq_left h]
theorem cut_from (xs : List V) (k : Nat) (h : k ≤ xs.length) : cutV xs (some (k : Int)) none = xs.drop k := by
  unfold cutV
  rw [HT.sIx_none, HT.sIx_nat, Nat.min_eq_left h]
  exact List.take_of_length_le (by rw [List.length_drop]; omega)
end

set_option Elab.async false
set_option linter.all false
set_option maxRecDepth 100000
set_option maxHeartbeats 4000000
open PySem PySem.Spec PyProof.Rows L2
/-! # sorted of tuples of ints of any lengths -/
section
variable {prog : Program} {w : World} {A : Around} {E : Value → Shared → Prop} {s : Shared}
end
section
variable {X : Cx} {K : PySem.W.Frag}
end

set_option Elab.async false
set_option linter.all false
set_option maxRecDepth 100000
set_option maxHeartbeats 4000000
open PySem PySem.Spec PyProof.Rows L2
/-! # what is connected -/
set_option Elab.async false
set_option linter.all false
set_option maxRecDepth 100000
set_option maxHeartbeats 4000000
open PySem PySem.Spec PyProof.Rows L2
/-! # t.index(x), t of ints -/
section
variable {X : Cx} {K : PySem.W.Frag}
end

set_option Elab.async false
set_option linter.all false
set_option maxRecDepth 100000
set_option maxHeartbeats 4000000
open PySem PySem.Spec PyProof.Rows L2
/-! # the bits of any whole number -/
def Bit (x : Int) (i : Nat) : Bool := if 0 ≤ x then x.toNat.testBit i else !(Builtin.bitNot x).toNat.testBit i
theorem Bit_nn {x : Int} (h : 0 ≤ x) (i : Nat) : Bit x i = x.toNat.testBit i := if_pos h
theorem Bit_neg {x : Int} (h : x < 0) (i : Nat) : Bit x i = !(Builtin.bitNot x).toNat.testBit i := if_neg (by omega)
theorem bitNot_not (x : Int) : Builtin.bitNot (Builtin.bitNot x) = x := by unfold Builtin.bitNot; omega
theorem Bit_not (x : Int) (i : Nat) : Bit (Builtin.bitNot x) i = !Bit x i := by
  by_cases h : 0 ≤ x
  · rw [Bit_nn h, Bit_neg (by unfold Builtin.bitNot; omega), bitNot_not]
  · rw [Bit_neg (x := x) (by omega), Bit_nn (by unfold Builtin.bitNot; omega), Bool.not_not]
theorem sub_and_bits (a b i : Nat) : (a - (a &&& b)).testBit i = (a.testBit i && !b.testBit i) := by
  have e : a - (a &&& b) = a ^^^ (a &&& b) := by
    have h1 := Bits.bitXor_pp (x := a) (y := ((a &&& b : Nat) : Int)) (by omega) (by omega)
    have h2 := bitXor_and (a : Int) ((a &&& b : Nat) : Int)
    rw [bitAnd_pp (x := a) (y := ((a &&& b : Nat) : Int)) (by omega) (by omega)] at h2
    rw [Int.toNat_natCast, Int.toNat_natCast] at h1 h2
    have e3 : a &&& (a &&& b) = a &&& b := by
      apply Nat.eq_of_testBit_eq
      intro j
      rw [Nat.testBit_and, Nat.testBit_and]
      cases a.testBit j <;> simp
    rw [e3] at h2
    have : a &&& b ≤ a := Nat.and_le_left
    omega
  rw [e, Nat.testBit_xor, Nat.testBit_and]
  cases a.testBit i <;> cases b.testBit i <;> rfl
theorem bitAnd_pn {x y : Int} (hx : 0 ≤ x) (hy : y < 0) : Builtin.bitAnd x y = ((x.toNat - (x.toNat &&& (Builtin.bitNot y).toNat) : Nat) : Int) := by
  have h : x.toNat &&& (Builtin.bitNot y).toNat ≤ x.toNat := Nat.and_le_left
  have : Builtin.bitAnd x y = x - ((x.toNat &&& (Builtin.bitNot y).toNat : Nat) : Int) := by
    unfold Builtin.bitAnd
    rw [decide_eq_true hx, decide_eq_false (by omega : ¬ 0 ≤ y)]
  omega
theorem bitAnd_np {x y : Int} (hx : x < 0) (hy : 0 ≤ y) : Builtin.bitAnd x y = ((y.toNat - (y.toNat &&& (Builtin.bitNot x).toNat) : Nat) : Int) := by
  have h : y.toNat &&& (Builtin.bitNot x).toNat ≤ y.toNat := Nat.and_le_left
  have : Builtin.bitAnd x y = y - ((y.toNat &&& (Builtin.bitNot x).toNat : Nat) : Int) := by
    unfold Builtin.bitAnd
    rw [decide_eq_false (by omega : ¬ 0 ≤ x), decide_eq_true hy]
  omega
theorem bitAnd_nn {x y : Int} (hx : x < 0) (hy : y < 0) : Builtin.bitAnd x y = Builtin.bitNot (((Builtin.bitNot x).toNat ||| (Builtin.bitNot y).toNat : Nat) : Int) := by
  unfold Builtin.bitAnd
  rw [decide_eq_false (by omega : ¬ 0 ≤ x), decide_eq_false (by omega : ¬ 0 ≤ y)]
theorem Bit_and (x y : Int) (i : Nat) : Bit (Builtin.bitAnd x y) i = (Bit x i && Bit y i) := by
  by_cases hx : 0 ≤ x <;> by_cases hy : 0 ≤ y
  · rw [bitAnd_pp hx hy, Bit_nn (by omega), Bit_nn hx, Bit_nn hy, Int.toNat_natCast, Nat.testBit_and]
  · rw [bitAnd_pn hx (by omega), Bit_nn (by omega), Bit_nn hx, Bit_neg (by omega), Int.toNat_natCast, sub_and_bits]
  · rw [bitAnd_np (by omega) hy, Bit_nn (by omega), Bit_nn hy, Bit_neg (by omega), Int.toNat_natCast, sub_and_bits, Bool.and_comm]
  · rw [bitAnd_nn (by omega) (by omega), Bit_not, Bit_nn (by omega), Bit_neg (by omega), Bit_neg (by omega), Int.toNat_natCast, Nat.testBit_or, Bool.not_or]
theorem bitAnd_left {x y : Int} (hx : 0 ≤ x) : 0 ≤ Builtin.bitAnd x y := by
  by_cases hy : 0 ≤ y
  · rw [bitAnd_pp hx hy]; omega
  · rw [bitAnd_pn hx (by omega)]; omega
/-- the lowest bit -/
theorem low_nat : ∀ n : Nat, 0 < n → ∃ k, n.testBit k = true ∧ (∀ i, i < k → n.testBit i = false) ∧ 2 ^ k ≤ n ∧ n &&& (n - 1) = n - 2 ^ k := by
  intro n
  induction n using Nat.strongRecOn with
  | _ n ih =>
    intro h
    by_cases c : n % 2 = 1
    · refine ⟨0, by rw [Nat.testBit_zero]; exact decide_eq_true c, fun i hi => absurd hi (Nat.not_lt_zero _), by rw [Nat.pow_zero]; exact h, ?_⟩
      rw [Nat.pow_zero]
      apply Nat.eq_of_testBit_eq
      intro j
      rw [Nat.testBit_and]
      cases j with
      | zero =>
        rw [Nat.testBit_zero, Nat.testBit_zero, decide_eq_true c, Bool.true_and]
      | succ j =>
        rw [Nat.testBit_succ, Nat.testBit_succ, show (n - 1) / 2 = n / 2 by omega, Bool.and_self]
    · obtain ⟨k, h1, h2, h3, h4⟩ := ih (n / 2) (by omega) (by omega)
      have e2 : 2 ^ (k + 1) = 2 * 2 ^ k := by rw [Nat.pow_succ]; omega
      refine ⟨k + 1, by rw [Nat.testBit_succ]; exact h1, fun i hi => ?_, by omega, ?_⟩
      · cases i with
        | zero => rw [Nat.testBit_zero]; exact decide_eq_false c
        | succ i => rw [Nat.testBit_succ]; exact h2 i (by omega)
      · have e3 : n - 2 ^ (k + 1) = 2 * (n / 2 - 2 ^ k) := by omega
        rw [e3, ← h4]
        apply Nat.eq_of_testBit_eq
        intro j
        rw [Nat.testBit_and]
        cases j with
        | zero =>
          rw [Nat.testBit_zero, Nat.testBit_zero, Nat.testBit_zero, decide_eq_false c, Bool.false_and]
          exact (decide_eq_false (by omega)).symm
        | succ j =>
          rw [Nat.testBit_succ, Nat.testBit_succ, Nat.testBit_succ, show (n - 1) / 2 = n / 2 - 1 by omega, show 2 * (n / 2 &&& (n / 2 - 1)) / 2 = (n / 2 &&& (n / 2 - 1)) by omega, Nat.testBit_and]
/-- x & -x, and what is left of x without it -/
theorem low_bit {x : Int} (h : 0 < x) : ∃ k : Nat, Builtin.bitAnd x (-x) = ((2 ^ k : Nat) : Int) ∧ Bit x k = true ∧ (∀ i, i < k → Bit x i = false) ∧ 0 ≤ Builtin.bitXor x (Builtin.bitAnd x (-x)) ∧ Builtin.bitXor x (Builtin.bitAnd x (-x)) < x ∧
    ∀ i, Bit (Builtin.bitXor x (Builtin.bitAnd x (-x))) i = (Bit x i && !decide (i = k)) := by
  obtain ⟨k, h1, h2, h3, h4⟩ := low_nat x.toNat (by omega)
  have p0 : 0 < 2 ^ k := Nat.two_pow_pos k
  have tb : ∀ j, (2 ^ k).testBit j = decide (k = j) := fun j => Nat.testBit_two_pow
  refine ⟨k, ?_⟩
  generalize 2 ^ k = p at *
  have e : Builtin.bitAnd x (-x) = (p : Int) := by
    rw [bitAnd_pn (by omega) (by omega), show (Builtin.bitNot (-x)).toNat = x.toNat - 1 by unfold Builtin.bitNot; omega, h4]
    omega
  have e5 : x.toNat ^^^ p = x.toNat - p := by
    rw [← h4]
    apply Nat.eq_of_testBit_eq
    intro j
    rw [Nat.testBit_xor, tb]
    by_cases c : k = j
    · subst c
      rw [h1, decide_eq_true rfl, Nat.testBit_and, h1]
      have h9 := sub_and_bits x.toNat (x.toNat - 1) k
      rw [h4, show x.toNat - (x.toNat - p) = p by omega, tb, decide_eq_true rfl, h1] at h9
      revert h9
      cases (x.toNat - 1).testBit k <;> simp
    · have h9 := sub_and_bits x.toNat (x.toNat - 1) j
      rw [h4, show x.toNat - (x.toNat - p) = p by omega, tb, decide_eq_false c] at h9
      rw [decide_eq_false c, Nat.testBit_and]
      revert h9
      cases x.toNat.testBit j <;> cases (x.toNat - 1).testBit j <;> simp
  have e7 : Builtin.bitXor x (p : Int) = ((x.toNat ^^^ p : Nat) : Int) := by
    rw [Bits.bitXor_pp (by omega) (by omega), Int.toNat_natCast]
  rw [e, e7]
  refine ⟨rfl, by rw [Bit_nn (by omega)]; exact h1, fun i hi => by rw [Bit_nn (by omega)]; exact h2 i hi, by omega, by rw [e5]; omega, fun i => ?_⟩
  rw [Bit_nn (by omega), Int.toNat_natCast, Nat.testBit_xor, tb, Bit_nn (by omega)]
  by_cases c : i = k
  · subst c
    rw [h1]
    simp
  · rw [decide_eq_false c, decide_eq_false (fun z => c z.symm)]
    cases x.toNat.testBit i <;> rfl
theorem intBits_pow (k : Nat) : Builtin.Int.intBits ((2 ^ k : Nat) : Int) = k + 1 := by
  unfold Builtin.Int.intBits
  have p : 0 < 2 ^ k := Nat.two_pow_pos k
  rw [Int.natAbs_natCast, Nat.log2_two_pow, if_neg]
  generalize 2 ^ k = q at *
  rw [beq_iff_eq]
  omega

set_option Elab.async false
set_option linter.all false
set_option maxRecDepth 100000
set_option maxHeartbeats 4000000
open PySem PySem.Spec PyProof.Rows L2
/-! # masks: their lowest bit, what is not in them -/
def Bts (x : Int) (S : Int → Prop) : Prop := ∀ i : Nat, Bit x i = true ↔ S i
theorem Msk.bts {x : Int} {S : Int → Prop} (a : Msk x S) : Bts x S := fun i => by rw [Bit_nn a.nn]; exact a.bits i
theorem Msk.of {x : Int} {S : Int → Prop} (h : 0 ≤ x) (b : Bts x S) : Msk x S := ⟨h, fun i => by rw [← Bit_nn h]; exact b i⟩
theorem Bts.not {x : Int} {S : Int → Prop} (a : Bts x S) : Bts (Builtin.bitNot x) (fun i => ¬ S i) := fun i => by
  show Bit (Builtin.bitNot x) i = true ↔ ¬ S i
  rw [Bit_not, ← a i]
  cases Bit x i <;> simp
theorem Bts.and {x y : Int} {S T : Int → Prop} (a : Bts x S) (b : Bts y T) : Bts (Builtin.bitAnd x y) (fun i => S i ∧ T i) := fun i => by
  rw [Bit_and, Bool.and_eq_true, a i, b i]
theorem Msk.andB {x y : Int} {S T : Int → Prop} (a : Msk x S) (b : Bts y T) : Msk (Builtin.bitAnd x y) (fun i => S i ∧ T i) := .of (bitAnd_left a.nn) (a.bts.and b)
/-- all vertices below n -/
theorem Msk.full {n : Int} (h : 0 ≤ n) : Msk (1 * 2 ^ n.toNat - 1) (fun i => i < n) := by
  have e : (1 * 2 ^ n.toNat - 1 : Int) = ((2 ^ n.toNat - 1 : Nat) : Int) := by
    have p := Nat.two_pow_pos n.toNat
    have c := PySem.W.kbt_cast n.toNat
    generalize 2 ^ n.toNat = q at *
    omega
  rw [e]
  refine ⟨Int.natCast_nonneg _, fun i => ?_⟩
  rw [Int.toNat_natCast, Nat.testBit_two_pow_sub_one, decide_eq_true_eq]
  omega
/-- x.bit_length() -/
def rBitLen : V → List V → Hp → VK → Prop := fun x xs H Q => ∃ i : Int, x = .int i ∧ xs = [] ∧ Q (.int (Builtin.Int.intBits i)) H
theorem mt_bitlen {X : Cx} : MtR X "int.bit_length" rBitLen := by
  intro pins s σ H x xs v us Q I rx rv h
  obtain ⟨i, rfl, rfl, q⟩ := h
  obtain ⟨t, rfl⟩ := rx
  have hus : us = [] := rv.zero
  subst hus
  exact call_int_bit_length ⟨.int _, H, I.tok _, ⟨_, rfl⟩, q⟩
section
variable {K : PySem.W.Frag} {σ : L2.St} {H : Hp} {Q : VK}
theorem r_bm0I {r : V → List V → Hp → VK → Prop} {i : Int} (q : r (.int i) [] H Q) : Bm0 K "int" r Q (.int i) H := ⟨rfl, q⟩
theorem r_bitlen {i : Int} (q : Q (.int (Builtin.Int.intBits i)) H) : rBitLen (.int i) [] H Q := ⟨i, rfl, rfl, q⟩
theorem r_augI {i : Nat} {f : Int → Int → V} {nx : L2.St → Hp → Prop} {a b : Int} {σ' : L2.St} (e : σ.set i (some (f a b)) = σ') (h : nx σ' H) : AugN i (rI0 f) σ nx (.int a) (.int b) H := ⟨a, b, rfl, rfl, by subst e; exact h⟩
end

set_option Elab.async false
set_option linter.all false
set_option maxRecDepth 100000
set_option maxHeartbeats 4000000
open PySem PySem.Spec PySem.W PyProof.Rows L2
/-! # the least of a list of data -/
section
variable {X : Cx}
end

set_option Elab.async false
set_option linter.all false
set_option maxRecDepth 100000
set_option maxHeartbeats 4000000
open PySem PySem.Spec PyProof.Rows L2
/-! # ranges downwards, methods of tuples, slices of lists -/
section
variable {X : Cx} {K : PySem.W.Frag} {σ : L2.St} {H : Hp} {Q : VK}
end

set_option Elab.async false
set_option linter.all false
open PySem PySem.Spec PyProof.Rows L2
/-- one step of a walk that asks nothing -/
class Stp (p : Prop) (q : outParam Prop) : Prop where
  imp : q → p
/-- any number of such steps -/
class Run (p : Prop) (q : outParam Prop) : Prop where
  imp : q → p
/-- one step at least -/
class Run1 (p : Prop) (q : outParam Prop) : Prop where
  imp : q → p
instance (priority := 10) run_end {p : Prop} : Run p p := ⟨fun h => h⟩
instance (priority := 100) run_step {p q r : Prop} [a : Stp p q] [b : Run q r] : Run p r := ⟨fun h => a.imp (b.imp h)⟩
instance run1_step {p q r : Prop} [a : Stp p q] [b : Run q r] : Run1 p r := ⟨fun h => a.imp (b.imp h)⟩
theorem r_run {p q : Prop} [a : Run1 p q] (h : q) : p := a.imp h
instance (priority := 1900) s_iteF {p q : Prop} : Stp (if false = true then p else q) q := ⟨fun h => iteF h⟩
instance (priority := 1900) s_iteT {p q : Prop} : Stp (if true = true then p else q) p := ⟨fun h => iteT h⟩
section
variable {K : PySem.W.Frag} {P : Program} {w : World} {σ : L2.St} {H H2 : Hp} {Q : VK} {D : Ends} {ta tb tc te : TE} {t u : TT} {nx bk ct : L2.St → Hp → Prop} {a b : TS} {g : TG} {ix : Nat}
instance (priority := 2000) sr_seq  : Stp (tSeq a b ⟨nx, Q, bk, ct⟩ σ H) (a ⟨b ⟨nx, Q, bk, ct⟩, Q, bk, ct⟩ σ H) := ⟨fun h => r_seq h⟩
instance (priority := 1999) sr_asg {g : TG} : Stp (tAsg te g ⟨nx, Q, bk, ct⟩ σ H) (te σ H fun x H1 => g x σ H1 nx) := ⟨fun h => r_asg h⟩
instance (priority := 1997) sr_name1 {x0 x1 : Option V} {σ : L2.St} {v : V} {q : L2.St → Hp → Prop} : Stp (gName 1 v (x0 :: x1 :: σ) H q) (q (x0 :: some v :: σ) H) := ⟨fun h => r_name1 h⟩
instance (priority := 1996) sr_name2 {x0 x1 x2 : Option V} {σ : L2.St} {v : V} {q : L2.St → Hp → Prop} : Stp (gName 2 v (x0 :: x1 :: x2 :: σ) H q) (q (x0 :: x1 :: some v :: σ) H) := ⟨fun h => r_name2 h⟩
instance (priority := 1995) sr_name3 {x0 x1 x2 x3 : Option V} {σ : L2.St} {v : V} {q : L2.St → Hp → Prop} : Stp (gName 3 v (x0 :: x1 :: x2 :: x3 :: σ) H q) (q (x0 :: x1 :: x2 :: some v :: σ) H) := ⟨fun h => r_name3 h⟩
instance (priority := 1994) sr_name4 {x0 x1 x2 x3 x4 : Option V} {σ : L2.St} {v : V} {q : L2.St → Hp → Prop} : Stp (gName 4 v (x0 :: x1 :: x2 :: x3 :: x4 :: σ) H q) (q (x0 :: x1 :: x2 :: x3 :: some v :: σ) H) := ⟨fun h => r_name4 h⟩
instance (priority := 1993) sr_name5 {x0 x1 x2 x3 x4 x5 : Option V} {σ : L2.St} {v : V} {q : L2.St → Hp → Prop} : Stp (gName 5 v (x0 :: x1 :: x2 :: x3 :: x4 :: x5 :: σ) H q) (q (x0 :: x1 :: x2 :: x3 :: x4 :: some v :: σ) H) := ⟨fun h => r_name5 h⟩
instance (priority := 1992) sr_name6 {x0 x1 x2 x3 x4 x5 x6 : Option V} {σ : L2.St} {v : V} {q : L2.St → Hp → Prop} : Stp (gName 6 v (x0 :: x1 :: x2 :: x3 :: x4 :: x5 :: x6 :: σ) H q) (q (x0 :: x1 :: x2 :: x3 :: x4 :: x5 :: some v :: σ) H) := ⟨fun h => r_name6 h⟩
instance (priority := 1991) sr_name7 {x0 x1 x2 x3 x4 x5 x6 x7 : Option V} {σ : L2.St} {v : V} {q : L2.St → Hp → Prop} : Stp (gName 7 v (x0 :: x1 :: x2 :: x3 :: x4 :: x5 :: x6 :: x7 :: σ) H q) (q (x0 :: x1 :: x2 :: x3 :: x4 :: x5 :: x6 :: some v :: σ) H) := ⟨fun h => r_name7 h⟩
instance (priority := 1990) sr_name8 {x0 x1 x2 x3 x4 x5 x6 x7 x8 : Option V} {σ : L2.St} {v : V} {q : L2.St → Hp → Prop} : Stp (gName 8 v (x0 :: x1 :: x2 :: x3 :: x4 :: x5 :: x6 :: x7 :: x8 :: σ) H q) (q (x0 :: x1 :: x2 :: x3 :: x4 :: x5 :: x6 :: x7 :: some v :: σ) H) := ⟨fun h => r_name8 h⟩
instance (priority := 1989) sr_name9 {x0 x1 x2 x3 x4 x5 x6 x7 x8 x9 : Option V} {σ : L2.St} {v : V} {q : L2.St → Hp → Prop} : Stp (gName 9 v (x0 :: x1 :: x2 :: x3 :: x4 :: x5 :: x6 :: x7 :: x8 :: x9 :: σ) H q) (q (x0 :: x1 :: x2 :: x3 :: x4 :: x5 :: x6 :: x7 :: x8 :: some v :: σ) H) := ⟨fun h => r_name9 h⟩
instance (priority := 1988) sr_name10 {x0 x1 x2 x3 x4 x5 x6 x7 x8 x9 x10 : Option V} {σ : L2.St} {v : V} {q : L2.St → Hp → Prop} : Stp (gName 10 v (x0 :: x1 :: x2 :: x3 :: x4 :: x5 :: x6 :: x7 :: x8 :: x9 :: x10 :: σ) H q) (q (x0 :: x1 :: x2 :: x3 :: x4 :: x5 :: x6 :: x7 :: x8 :: x9 :: some v :: σ) H) := ⟨fun h => r_name10 h⟩
instance (priority := 1987) sr_name11 {x0 x1 x2 x3 x4 x5 x6 x7 x8 x9 x10 x11 : Option V} {σ : L2.St} {v : V} {q : L2.St → Hp → Prop} : Stp (gName 11 v (x0 :: x1 :: x2 :: x3 :: x4 :: x5 :: x6 :: x7 :: x8 :: x9 :: x10 :: x11 :: σ) H q) (q (x0 :: x1 :: x2 :: x3 :: x4 :: x5 :: x6 :: x7 :: x8 :: x9 :: x10 :: some v :: σ) H) := ⟨fun h => r_name11 h⟩
instance (priority := 1986) sr_name12 {x0 x1 x2 x3 x4 x5 x6 x7 x8 x9 x10 x11 x12 : Option V} {σ : L2.St} {v : V} {q : L2.St → Hp → Prop} : Stp (gName 12 v (x0 :: x1 :: x2 :: x3 :: x4 :: x5 :: x6 :: x7 :: x8 :: x9 :: x10 :: x11 :: x12 :: σ) H q) (q (x0 :: x1 :: x2 :: x3 :: x4 :: x5 :: x6 :: x7 :: x8 :: x9 :: x10 :: x11 :: some v :: σ) H) := ⟨fun h => r_name12 h⟩
instance (priority := 1978) sr_c {v : V} : Stp (tC v σ H Q) (Q v H) := ⟨fun h => r_c h⟩
instance (priority := 1977) sr_op {r : R2} : Stp (tOp r ta tb σ H Q) (ta σ H fun x H1 => tb σ H1 fun y H2 => r x y H2 Q) := ⟨fun h => r_op h⟩
instance (priority := 1976) sr_i0 {g : Int → Int → V} {i j : Int} : Stp (rI0 g (.int i) (.int j) H Q) (Q (g i j) H) := ⟨fun h => r_i0 h⟩
instance (priority := 1975) sr_eqI {i j : Int} : Stp (rEq (.int i) (.int j) H Q) (Q (.bl (decide (i = j))) H) := ⟨fun h => r_eqI h⟩
instance (priority := 1974) sr_neI {i j : Int} : Stp (rNe (.int i) (.int j) H Q) (Q (.bl (!decide (i = j))) H) := ⟨fun h => r_neI h⟩
instance (priority := 1973) sr_cons {tr : TA} {Q : List V → Hp → Prop} : Stp (tCons ta tr σ H Q) (ta σ H fun x H1 => tr σ H1 fun xs H2 => Q (x :: xs) H2) := ⟨fun h => r_cons h⟩
instance (priority := 1972) sr_nil {Q : List V → Hp → Prop} : Stp (tNil σ H Q) (Q [] H) := ⟨fun h => r_nil h⟩
instance (priority := 1971) sr_call {sp : Sp} {dvs : List V} {E : XK} {ta : TA} : Stp (tCall sp dvs E ta σ H Q) (ta σ H fun vs H1 => sp (vs ++ dvs) H1 Q E) := ⟨fun h => r_call h⟩
instance (priority := 1970) sr_cb {r : List V → Hp → VK → Prop} {ta : TA} : Stp (tCB r ta σ H Q) (ta σ H fun vs H1 => r vs H1 Q) := ⟨fun h => r_cb h⟩
instance (priority := 1969) sr_test {Q : Bool → Hp → Prop} : Stp (tTest te σ H Q) (te σ H fun x H1 => KB Q x H1) := ⟨fun h => r_test h⟩
instance (priority := 1968) sr_tB {Q : Bool → Hp → Prop} : Stp (tB te σ H Q) (te σ H fun x H1 => KB Q x H1) := ⟨fun h => r_tB h⟩
instance (priority := 1967) sr_k {Q : Bool → Hp → Prop} {b : Bool} : Stp (KB Q (.bl b) H) (Q b H) := ⟨fun h => r_k h⟩
instance (priority := 1966) sr_int1 {i : Int} : Stp (rInt1 [.int i] H Q) (Q (.int i) H) := ⟨fun h => r_int1 h⟩
instance (priority := 1962) sr_ret  : Stp (tRet te ⟨nx, Q, bk, ct⟩ σ H) (te σ H Q) := ⟨fun h => r_ret h⟩
instance (priority := 1961) sr_ifS  : Stp (tIfS t a b ⟨nx, Q, bk, ct⟩ σ H) (t σ H fun c H1 => if c = true then a ⟨nx, Q, bk, ct⟩ σ H1 else b ⟨nx, Q, bk, ct⟩ σ H1) := ⟨fun h => r_ifS h⟩
instance (priority := 1960) sr_tup {ta : TA} : Stp (tTup ta σ H Q) (ta σ H (TupN Q)) := ⟨fun h => r_tup h⟩
instance (priority := 1959) sr_lst {ta : TA} : Stp (tLst ta σ H Q) (ta σ H (LstN Q)) := ⟨fun h => r_lst h⟩
instance (priority := 1958) sr_un {r : V → Hp → VK → Prop} : Stp (tUn r ta σ H Q) (ta σ H fun x H1 => r x H1 Q) := ⟨fun h => r_un h⟩
instance (priority := 1957) sr_u {g : Int → V} {i : Int} : Stp (rU g (.int i) H Q) (Q (g i) H) := ⟨fun h => r_u h⟩
instance (priority := 1955) sr_neB {i j : Bool} : Stp (rNe (.bl i) (.bl j) H Q) (Q (.bl (!(i == j))) H) := ⟨fun h => r_neB h⟩
instance (priority := 1954) sr_not {Q : Bool → Hp → Prop} : Stp (tNot t σ H Q) (t σ H fun c H1 => Q (!c) H1) := ⟨fun h => r_not h⟩
instance (priority := 1953) sr_and {Q : Bool → Hp → Prop} : Stp (tAnd t u σ H Q) (t σ H fun c H1 => if c = true then u σ H1 Q else Q false H1) := ⟨fun h => r_and h⟩
instance (priority := 1952) sr_or {Q : Bool → Hp → Prop} : Stp (tOr t u σ H Q) (t σ H fun c H1 => if c = true then Q true H1 else u σ H1 Q) := ⟨fun h => r_or h⟩
instance (priority := 1951) sr_if  : Stp (tIf t ta tb σ H Q) (t σ H fun c H1 => if c = true then ta σ H1 Q else tb σ H1 Q) := ⟨fun h => r_if h⟩
instance (priority := 1950) sr_bm {T : String} {r : V → List V → Hp → VK → Prop} {ta : TA} : Stp (tBM K T r te ta σ H Q) (te σ H (Bm K T r ta σ Q)) := ⟨fun h => r_bm h⟩
instance (priority := 1949) sr_lstRg {t : L2.St → Hp → (Int → Int → Hp → Prop) → Prop} : Stp (tLstRg t σ H Q) (t σ H (LRg Q)) := ⟨fun h => r_lstRg h⟩
instance (priority := 1948) sr_tRg1 {Q : Int → Int → Hp → Prop} : Stp (tRg1 ta σ H Q) (ta σ H (R1N Q)) := ⟨fun h => r_tRg1 h⟩
instance (priority := 1947) sr_r1N {Q : Int → Int → Hp → Prop} {n : Int} : Stp (R1N Q (.int n) H) (Q 0 n H) := ⟨fun h => r_r1N h⟩
instance (priority := 1946) sr_sl {r : V → Option Int → Option Int → Hp → VK → Prop} {tl th : TO} : Stp (tSl r te tl th σ H Q) (te σ H fun x H1 => tl σ H1 fun l H2 => th σ H2 fun u H3 => r x l u H3 Q) := ⟨fun h => r_sl h⟩
instance (priority := 1945) sr_part {Q : Option Int → Hp → Prop} : Stp (tPart te σ H Q) (te σ H (PartN Q)) := ⟨fun h => r_part h⟩
instance (priority := 1944) sr_partN {Q : Option Int → Hp → Prop} {i : Int} : Stp (PartN Q (.int i) H) (Q (some i) H) := ⟨fun h => r_partN h⟩
instance (priority := 1943) sr_noPart {Q : Option Int → Hp → Prop} : Stp (tNoPart σ H Q) (Q none H) := ⟨fun h => r_noPart h⟩
instance (priority := 1942) sr_andV  : Stp (tAndV ta tb σ H Q) (ta σ H (AndN tb σ Q)) := ⟨fun h => r_andV h⟩
instance (priority := 1940) sr_notV  : Stp (tNotV ta σ H Q) (ta σ H (NotN Q)) := ⟨fun h => r_notV h⟩
instance (priority := 1939) sr_andN {c : Bool} : Stp (AndN tb σ Q (.bl c) H) (if c = true then tb σ H Q else Q (.bl false) H) := ⟨fun h => r_andN h⟩
instance (priority := 1937) sr_notN {c : Bool} : Stp (NotN Q (.bl c) H) (Q (.bl (!c)) H) := ⟨fun h => r_notN h⟩
instance (priority := 1936) sr_next  : Stp (tNext ⟨nx, Q, bk, ct⟩ σ H) (nx σ H) := ⟨fun h => r_next h⟩
instance (priority := 1935) sr_drop  : Stp (tDrop te ⟨nx, Q, bk, ct⟩ σ H) (te σ H fun _ H1 => nx σ H1) := ⟨fun h => r_drop h⟩
instance (priority := 1934) sr_sub {to ti : TE} {ts : TSet} {v : V} {q : L2.St → Hp → Prop} : Stp (gSub to ti ts v σ H q) (to σ H fun o H1 => ti σ H1 fun i H2 => ts o i v H2 fun H3 => q σ H3) := ⟨fun h => r_sub h⟩
instance (priority := 1933) sr_for {wi : TI} {g : TG} {tb : TS} : Stp (tFor wi g tb ⟨nx, Q, bk, ct⟩ σ H) (wi σ H fun J H1 => ForR J g tb nx Q σ H1) := ⟨fun h => r_for h⟩
instance (priority := 1932) sr_rng1 {ta : TA} {R : It → Hp → Prop} : Stp (iRng1 ta σ H R) (ta σ H (Rg1 R)) := ⟨fun h => r_rng1 h⟩
instance (priority := 1931) sr_rng2 {ta : TA} {R : It → Hp → Prop} : Stp (iRng2 ta σ H R) (ta σ H (Rg2 R)) := ⟨fun h => r_rng2 h⟩
instance (priority := 1930) sr_ilist {R : It → Hp → Prop} : Stp (iList K te σ H R) (te σ H (Il K R)) := ⟨fun h => r_ilist h⟩
instance (priority := 1929) sr_itup {R : It → Hp → Prop} : Stp (iTup K te σ H R) (te σ H (Itp K R)) := ⟨fun h => r_itup h⟩
instance (priority := 1928) sr_lc {wi : TI} {g : TG} {tt : TT} {vs : List Nat} : Stp (tLc wi g tt te vs σ H Q) (wi σ H fun J H1 => ∀ D, H1 D = none → LcR J g tt te vs σ D Q H1) := ⟨fun h => r_lc h⟩
instance (priority := 1927) sr_yes {Q : Bool → Hp → Prop} : Stp (tYes σ H Q) (Q true H) := ⟨fun h => r_yes h⟩
instance (priority := 1926) sr_gcons {g : TG} {gs : TGs} {v : V} {r : List V} {q : L2.St → Hp → Prop} : Stp (gCons g gs (v :: r) σ H q) (g v σ H fun σ' H' => gs r σ' H' q) := ⟨fun h => r_gcons h⟩
instance (priority := 1925) sr_gnil {q : L2.St → Hp → Prop} : Stp (gNil [] σ H q) (q σ H) := ⟨fun h => r_gnil h⟩
instance (priority := 1921) sr_star {te : TE} {t : TA} {Q : List V → Hp → Prop} : Stp (StX.tStar K te t σ H Q) (te σ H (StN K t σ Q)) := ⟨fun h => r_star h⟩
instance (priority := 1920) sr_match {te : TE} {t : V → TS} : Stp (tMatch te t D σ H) (te σ H fun v H1 => t v D σ H1) := ⟨fun h => r_match h⟩
instance (priority := 1917) sr_chain {r r' : R2} {ta tb tc : TE} : Stp (tChain r r' ta tb tc σ H Q) (ta σ H fun x H1 => tb σ H1 fun y H2 => r x y H2 (ChN r' tc σ Q y)) := ⟨fun h => r_chain h⟩
instance (priority := 1916) sr_chn {r' : R2} {tc : TE} {y : V} {b : Bool} : Stp (ChN r' tc σ Q y (.bl b) H) (if b = true then tc σ H fun w' H4 => r' y w' H4 Q else Q (.bl false) H) := ⟨fun h => r_chn h⟩
instance (priority := 1913) sr_bm0 {T : String} {r : V → List V → Hp → VK → Prop} {te : TE} : Stp (tBM0 K T r te σ H Q) (te σ H (Bm0 K T r Q)) := ⟨fun h => r_bm0 h⟩
instance (priority := 1899) sr_set2u {p : Addr} {x0 x1 x2 : V} {xs : List V} {v : V} {q : Hp → Prop} : Stp (rSetL (.ref p) (.int 2) v (upd H p (.lst (x0 :: x1 :: x2 :: xs))) q) (q (upd H p (.lst (x0 :: x1 :: v :: xs)))) := ⟨fun h => r_set2u h⟩
instance (priority := 1990) sr_var0 {σ : L2.St} {v : V} : Stp (tVar 0 (some v :: σ) H Q) (Q v H) := ⟨fun h => r_var rfl h⟩
instance (priority := 1990) sr_var1 {x0 : Option V} {σ : L2.St} {v : V} : Stp (tVar 1 (x0 :: some v :: σ) H Q) (Q v H) := ⟨fun h => r_var rfl h⟩
instance (priority := 1990) sr_var2 {x0 x1 : Option V} {σ : L2.St} {v : V} : Stp (tVar 2 (x0 :: x1 :: some v :: σ) H Q) (Q v H) := ⟨fun h => r_var rfl h⟩
instance (priority := 1990) sr_var3 {x0 x1 x2 : Option V} {σ : L2.St} {v : V} : Stp (tVar 3 (x0 :: x1 :: x2 :: some v :: σ) H Q) (Q v H) := ⟨fun h => r_var rfl h⟩
instance (priority := 1990) sr_var4 {x0 x1 x2 x3 : Option V} {σ : L2.St} {v : V} : Stp (tVar 4 (x0 :: x1 :: x2 :: x3 :: some v :: σ) H Q) (Q v H) := ⟨fun h => r_var rfl h⟩
instance (priority := 1990) sr_var5 {x0 x1 x2 x3 x4 : Option V} {σ : L2.St} {v : V} : Stp (tVar 5 (x0 :: x1 :: x2 :: x3 :: x4 :: some v :: σ) H Q) (Q v H) := ⟨fun h => r_var rfl h⟩
instance (priority := 1990) sr_var6 {x0 x1 x2 x3 x4 x5 : Option V} {σ : L2.St} {v : V} : Stp (tVar 6 (x0 :: x1 :: x2 :: x3 :: x4 :: x5 :: some v :: σ) H Q) (Q v H) := ⟨fun h => r_var rfl h⟩
instance (priority := 1990) sr_var7 {x0 x1 x2 x3 x4 x5 x6 : Option V} {σ : L2.St} {v : V} : Stp (tVar 7 (x0 :: x1 :: x2 :: x3 :: x4 :: x5 :: x6 :: some v :: σ) H Q) (Q v H) := ⟨fun h => r_var rfl h⟩
instance (priority := 1990) sr_var9 {x0 x1 x2 x3 x4 x5 x6 x7 x8 : Option V} {σ : L2.St} {v : V} : Stp (tVar 9 (x0 :: x1 :: x2 :: x3 :: x4 :: x5 :: x6 :: x7 :: x8 :: some v :: σ) H Q) (Q v H) := ⟨fun h => r_var rfl h⟩
instance (priority := 1990) sr_var10 {x0 x1 x2 x3 x4 x5 x6 x7 x8 x9 : Option V} {σ : L2.St} {v : V} : Stp (tVar 10 (x0 :: x1 :: x2 :: x3 :: x4 :: x5 :: x6 :: x7 :: x8 :: x9 :: some v :: σ) H Q) (Q v H) := ⟨fun h => r_var rfl h⟩
instance (priority := 1990) sr_var11 {x0 x1 x2 x3 x4 x5 x6 x7 x8 x9 x10 : Option V} {σ : L2.St} {v : V} : Stp (tVar 11 (x0 :: x1 :: x2 :: x3 :: x4 :: x5 :: x6 :: x7 :: x8 :: x9 :: x10 :: some v :: σ) H Q) (Q v H) := ⟨fun h => r_var rfl h⟩
instance (priority := 1990) sr_var12 {x0 x1 x2 x3 x4 x5 x6 x7 x8 x9 x10 x11 : Option V} {σ : L2.St} {v : V} : Stp (tVar 12 (x0 :: x1 :: x2 :: x3 :: x4 :: x5 :: x6 :: x7 :: x8 :: x9 :: x10 :: x11 :: some v :: σ) H Q) (Q v H) := ⟨fun h => r_var rfl h⟩
end

set_option Elab.async false
set_option linter.all false
set_option maxRecDepth 100000
set_option maxHeartbeats 4000000
open PySem PySem.Spec PySem.W PyProof.Rows L2
/-! # sorted of a list of data -/
theorem zip_snd {K : PySem.W.Frag} {H : Hp} : ∀ {xs : List V} {ds : List PyData}, DpAll K H xs ds → (xs.zip ds).map Prod.snd = ds
  | _, _, .nil => rfl
  | _, _, .cons _ t => by rw [List.zip_cons_cons, List.map_cons, zip_snd t]
theorem dp_len {K : PySem.W.Frag} {H : Hp} : ∀ {xs : List V} {ds : List PyData}, DpAll K H xs ds → xs.length = ds.length
  | _, _, .nil => rfl
  | _, _, .cons _ t => by rw [List.length_cons, List.length_cons, dp_len t]
section
variable {X : Cx}
end

set_option Elab.async false
set_option linter.all false
set_option maxRecDepth 100000
set_option maxHeartbeats 4000000
open PySem PySem.Spec PyProof.Rows L2
/-! # is a tuple in a set of tuples -/
section
variable {P : Program} {w : World} {A : Around} {E : Value → Shared → Prop} {s : Shared} {a : Addr} {L : List (Addr × List Int)} {es : Array (Int × Value)} {ep : Nat} {t : SetTable}
end
section
variable {X : Cx} {K : PySem.W.Frag} {P : Program} {w : World} {σ : L2.St} {H : Hp} {Q : VK}
variable {o e : Expr} {es : List Expr} {to : TE} {t : TA} {apos cpos : Pos}
end

set_option Elab.async false
set_option linter.all false
set_option maxRecDepth 100000
set_option maxHeartbeats 4000000
/-! # orbits of a map that turns a list around, and the list of them -/
section
variable {α : Type} [DecidableEq α]
variable {f : α → α} {A : List α}
/-! ## the walks the other way around -/
end

set_option Elab.async false
set_option linter.all false
set_option maxRecDepth 100000
set_option maxHeartbeats 4000000
/-! # the arrow behind an arrow, by a rotation -/
set_option Elab.async false
set_option linter.all false
set_option maxRecDepth 100000
set_option maxHeartbeats 4000000
open PySem PySem.Spec PyProof.Rows L2
/-! # t[::-1] of a tuple -/
section
variable {prog : Program} {w : World} {A : Around} {E : Value → Shared → Prop} {s : Shared}
open HT in
end
section
variable {X : Cx} {K : PySem.W.Frag} {σ : L2.St} {H : Hp} {Q : VK}
def RevTN (K : PySem.W.Frag) (Q : VK) : VK := fun x H1 => ∃ a xs, x = V.ref a ∧ SqT K H1 a xs ∧ ∀ (p : Addr) (o : Obj), H1 p = none → o.dict = none → Q (.ref p) (upd H1 p (.frz o (.tup xs.reverse)))
def tRevT (K : PySem.W.Frag) (te : TE) : TE := fun σ H Q => te σ H (RevTN K Q)
theorem r_revT {te : TE} (h : te σ H (RevTN K Q)) : tRevT K te σ H Q := h
theorem r_revTN {a : Addr} {xs : List V} (h : SqT K H a xs) (q : ∀ (p : Addr) (o : Obj), H p = none → o.dict = none → Q (.ref p) (upd H p (.frz o (.tup xs.reverse)))) : RevTN K Q (.ref a) H := ⟨a, xs, rfl, h, q⟩
end

set_option Elab.async false
set_option linter.all false
set_option maxRecDepth 100000
set_option maxHeartbeats 4000000
open PySem PySem.Spec PySem.W PySem.Calls PyProof.Rows L2
/-! # sorted of a tuple of data -/
section
variable {prog : Program} {w : World} {A : Around} {E : Value → Shared → Prop} {s : Shared}
end
section
variable {X : Cx}
end
/-! # one sorted list alone -/
set_option Elab.async false
set_option linter.all false
set_option maxRecDepth 100000
set_option maxHeartbeats 4000000
/-! # decompositions -/
section
variable {n : Int} {ps L : List (Int × Int)} {bags : List (List Int)}
/-! ## a bag within a linked one goes -/
theorem map_inj_on {α β : Type} {f : α → β} {l : List α} (h : (l.map f).Nodup) {a b : α} (ha : a ∈ l) (hb : b ∈ l) (e : f a = f b) : a = b := by
  induction l with
  | nil => cases ha
  | cons c l ih =>
    obtain ⟨n1, n2⟩ := List.nodup_cons.mp h
    rcases List.mem_cons.mp ha with ea | ha
    · rcases List.mem_cons.mp hb with eb | hb
      · rw [ea, eb]
      · exact absurd (List.mem_map.mpr ⟨b, hb, by rw [← ea]; exact e.symm⟩) n1
    · rcases List.mem_cons.mp hb with eb | hb
      · exact absurd (List.mem_map.mpr ⟨a, ha, by rw [← eb]; exact e⟩) n1
      · exact ih n2 ha hb
end

set_option Elab.async false
set_option linter.all false
set_option maxRecDepth 100000
set_option maxHeartbeats 4000000
/-! # the decomposition that an order gives -/
section
variable {n : Nat} {ps : List (Int × Int)} {o : List Int}
end

set_option Elab.async false
set_option linter.all false
set_option maxRecDepth 100000
set_option maxHeartbeats 4000000
open PySem PySem.Spec PySem.W PySem.Calls PyProof.Rows L2
/-! # list.remove of data; (a, b) = a list -/
section
variable {X : Cx}
end
section
variable {K : PySem.W.Frag} {σ : L2.St} {H : Hp} {Q : VK} {te : TE}
end
set_option Elab.async false
set_option linter.all false
set_option maxRecDepth 100000
set_option maxHeartbeats 4000000
open PySem PySem.Spec PySem.W PySem.Calls PyProof.Rows L2
/-! # a op b op c op d, as a test -/
section
variable {X : Cx} {a b c d : Expr} {ta tb tc td : TE} {pos : Pos}
end
section
variable {σ : L2.St} {H : Hp} {Q : VK} {ta tb tc td : TE} {r r' r'' : R2}
end

set_option Elab.async false
set_option linter.all false
set_option maxRecDepth 100000
set_option maxHeartbeats 4000000
open PySem PySem.Spec PyProof.Rows L2 LamX
/-! # a lambda of one parameter, handed to a def of two -/
theorem nodup_at {α : Type} {N : List α} (nd : N.Nodup) {i j : Nat} {x : α} (h1 : N[i]? = some x) (h2 : N[j]? = some x) : i = j := by
  obtain ⟨a1, b1⟩ := List.getElem?_eq_some_iff.mp h1
  obtain ⟨a2, b2⟩ := List.getElem?_eq_some_iff.mp h2
  have pw := List.pairwise_iff_getElem.mp nd
  rcases Nat.lt_trichotomy i j with c | c | c
  · exact absurd (b1.trans b2.symm) (pw _ _ a1 a2 c)
  · exact c
  · exact absurd (b2.trans b1.symm) (pw _ _ a2 a1 c)
section
variable {X : Cx} {pins : List (Addr × Obj)} {σ : L2.St} {H HZ : Hp} {s s1 : Shared}
end
section
variable {X : Cx}
end

set_option Elab.async false
set_option linter.all false
set_option maxRecDepth 100000
set_option maxHeartbeats 4000000
open PySem PySem.Spec PySem.W PySem.Calls PyProof.Rows L2
/-! # dicts whose keys are tuples: {k: v}, sorted(d) -/
section
variable {X : Cx}
end
section
variable {X : Cx}
end

set_option Elab.async false
set_option linter.all false
set_option maxRecDepth 100000
set_option maxHeartbeats 4000000
open PySem PySem.Spec PySem.W PyProof.Rows L2 LamX
/-! # all but the tables stand -/
theorem ext_same {H H' : Hp} (s : Same H H') : ExtN H H' := fun b o h _ => s b o h
theorem ext_tk {H H' : Hp} (x : ExtN H H') : TK H H' := fun b xs e => x b _ e (fun ps z => nomatch z)
theorem ext_lst {H H' : Hp} (x : ExtN H H') {a : Addr} {xs : List V} (h : H a = some (.lst xs)) : H' a = some (.lst xs) := x a _ h (fun ps z => nomatch z)
theorem ext_tup {H H' : Hp} (x : ExtN H H') {a : Addr} {xs : List V} (h : H a = some (.tup xs)) : H' a = some (.tup xs) := x a _ h (fun ps z => nomatch z)
theorem tabs_same {T : List (Addr × Str)} {H H' : Hp} (t : Tabs T H) (s : Same H H') : Tabs T H' := t.ext s
theorem tabs_upd {T : List (Addr × Str)} {H : Hp} {f : Addr} {u o : HO} (t : Tabs T H) (hf : H f = some u) (n1 : ∀ ps, u ≠ .tbl ps) (n2 : ∀ c q, u ≠ CodeO c q) : Tabs T (upd H f o) := fun p hp => by
  obtain ⟨ps, h1, h2, h3⟩ := t p hp
  refine ⟨ps, ?_, h2, fun pos cv hc => ?_⟩
  · rw [upd_ne (fun z => by rw [z, hf] at h1; exact n1 ps (Option.some.inj h1))]
    exact h1
  · obtain ⟨c, e1, e2⟩ := h3 pos cv hc
    refine ⟨c, e1, ?_⟩
    rw [upd_ne (fun z => by subst z; rw [hf] at e2; exact n2 _ p.2 (Option.some.inj e2))]
    exact e2
theorem tabs_lst {T : List (Addr × Str)} {H : Hp} {f : Addr} {xs : List V} {o : HO} (t : Tabs T H) (hf : H f = some (.lst xs)) : Tabs T (upd H f o) := tabs_upd t hf (fun _ z => nomatch z) (fun c q z => by unfold CodeO at z; cases z)
/-! # dicts with pairs as keys -/
def kk (p : Int × Int) : List L2.Key := [.inl p.1, .inl p.2]
section
variable {X : Cx} {σ : L2.St} {H : Hp} {Q : VK} {D : L2.Ends}
end
/-! # a dict's keys in order -/
/-! # what can be reached -/
set_option Elab.async false
set_option linter.all false
set_option maxRecDepth 100000
set_option maxHeartbeats 4000000
open PySem PySem.Spec PySem.W PyProof.Rows L2 LamX
/-! # dicts with ints as keys -/
section
variable {X : Cx} {σ : L2.St} {H : Hp} {Q : VK} {D : L2.Ends}
end
/-! # enumerate over a list -/
section
variable {X : Cx} {K : PySem.W.Frag} {σ : L2.St} {H : Hp} {Q : VK} {nx : L2.St → Hp → Prop}
end
/-! # a def that knows its own code -/
theorem okV {P : Program} {w : World} {K : PySem.W.Frag} {mg : Str → Option Value} {base : Heap} {x qual : Str} {st : Stmt} {f : Addr} {fd : FuncData} {N ps : List Str} {k : Nat} {sp : Sp} (F : Fun K x qual st f fd) (S : FnScope N ps (defScope st)) (len : ∀ vs H Q E, sp vs H Q E → vs.length = ps.length)
    (body : ∀ (cdv : Value) (A : Around) (outer : List Env) (s : Shared) (H : Hp) (vs : List V) (Q : VK) (E : XK), fd.code = cdv → Room k (A.deeper (envOfC qual (defScope st) s.heap.objs.size f cdv)) → sp vs H Q E →
      ∃ t, PSs (cxOf CX0 P w K mg base N qual (defScope st) f cdv A outer s H E).nox (defBody st) t ∧ t { nx := fun _ H' => Q .non H', rt := Q } (L2.start N vs) H) : FnOk P w K mg base CX0 (k + 1) f fd ps sp := by
  obtain ⟨oc, od, kV, doc, pm, an, cdv, ct, osl, rfl, lk, hcd⟩ := F.ex
  exact fn_of lk hcd S len fun A outer s H vs Q E hr hsp => by
    obtain ⟨t, h, q⟩ := body cdv A outer s H vs Q E rfl hr hsp
    exact ⟨t, h.nox, q⟩
theorem tabsGr {T : List (Addr × Str)} {H H' : Hp} {a : Addr} {xs : List V} (g : Gr a H H') (ha : H a = some (.lst xs)) (t : Tabs T H) : Tabs T H' := fun p hp => by
  obtain ⟨ps, h1, h2, h3⟩ := t p hp
  refine ⟨ps, g _ _ (fun z => by rw [z, ha] at h1; cases h1) h1, h2, fun pos cv hc => ?_⟩
  obtain ⟨c, e1, e2⟩ := h3 pos cv hc
  exact ⟨c, e1, g _ _ (fun z => by
    subst z
    rw [ha] at e2
    unfold CodeO at e2
    cases e2) e2⟩
set_option Elab.async false
set_option linter.all false
set_option maxRecDepth 100000
set_option maxHeartbeats 4000000
open PySem PySem.Spec PyProof.Rows L2 LamX
/-! # all(.. for x in ..) over anything that PI serves -/
/-- the generator's own scope: its name, the walked thing, captured names, globals -/
structure GenS1 (x : Str) (sc scope : Scope) : Prop where
  kind : scope.kind = .function
  co : scope.isCoroutine = false
  own : ∀ y ∈ scope.names, (y.2 = .local → y.1 = x ∨ y.1 = (".0" : Str)) ∧ y.2 ≠ .cell
  dot : scope.names.lookup (".0" : Str) = some .local
  par : scope.names.lookup x = some .local
  free : ∀ y ∈ scope.names, y.2 = .free → sc.names.lookup y.1 = some .cell ∨ sc.names.lookup y.1 = some .free
def genS1B (x : Str) (sc scope : Scope) : Bool :=
  decide (scope.kind = .function) && !scope.isCoroutine && decide (scope.names.lookup (".0" : Str) = some .local) && decide (scope.names.lookup x = some .local) && scope.names.all fun y => (!decide (y.2 = .local) || decide (y.1 = x) || decide (y.1 = (".0" : Str))) && !decide (y.2 = .cell) && (!decide (y.2 = .free) || decide (sc.names.lookup y.1 = some .cell) || decide (sc.names.lookup y.1 = some .free))
theorem genS1_by {x : Str} {sc scope : Scope} (h : genS1B x sc scope = true) : GenS1 x sc scope := by
  unfold genS1B at h
  simp only [Bool.and_eq_true, Bool.or_eq_true, Bool.not_eq_true', decide_eq_true_eq, decide_eq_false_iff_not, List.all_eq_true] at h
  obtain ⟨⟨⟨⟨h1, h2⟩, h3⟩, h5⟩, h4⟩ := h
  refine ⟨h1, h2, fun y hy => ⟨fun e => ?_, (h4 y hy).1.2⟩, h3, h5, fun y hy e => ?_⟩
  · rcases (h4 y hy).1.1 with (z | z) | z
    · exact absurd e z
    · exact .inl z
    · exact .inr z
  · rcases (h4 y hy).2 with (z | z) | z
    · exact absurd e z
    · exact .inl z
    · exact .inr z
theorem GenS1.has {X : Cx} {x : Str} {scope : Scope} (L : GenS1 x X.env.scope scope) (ok : X.Ok) : ∀ y ∈ scope.names, y.2 = .free → ∃ c, X.env.cells.lookup y.1 = some c := fun y hy e => by
  rcases L.free y hy e with k | k
  · exact ok.has _ (.inl k)
  · exact ok.has _ (.inr k)
abbrev gEnv (X : Cx) (scope : Scope) (C : Addr) (code : Value) : Env := genEnv scope (cloFrom X.env.cells scope.names []) C code builtinsNs X.env
/-- the context of the element, entered at s -/
def genCx (X : Cx) (A : Around) (s : Shared) (H : Hp) (scope : Scope) (C : Addr) (code : Value) (fp : List Addr) : Cx where
  prog := X.prog
  w := X.w
  K := X.K
  mg := X.mg
  base := X.base
  A := A
  N := X.N
  s_0 := s
  H_0 := H
  env := gEnv X scope C code
  outer := X.stack
  stack := gEnv X scope C code :: X.stack
  ex := fp
  fn := fun _ => false
  calm := true
  pn := []
  xe := fun _ _ => False
section
variable {X : Cx} {pins : List (Addr × Obj)} {σ : L2.St} {H : Hp} {s : Shared}
theorem gen_code {T : List (Addr × Str)} {c P : Addr} {scope : Scope} {gpos : Pos} {Q E : Value → Shared → Prop} (I : Inv X pins σ H s) (TB : LamX.TabB X.base X.mg c P) (hcode : X.env.code = .ref c)
    (hm : (P, X.env.qual ++ "<genexpr>") ∈ T) (hu : ∀ p ∈ T, p.1 = P → p.2 = X.env.qual ++ "<genexpr>") (hT : Tabs T H)
    (h : ∀ (code : Value) (H1 : Hp) (h' : Heap) (tk : Nat), Inv X pins σ H1 { s with heap := h', toks := tk } → ExtN H H1 → Tabs T H1 → (∀ b o, b ≠ P → s.heap.get? b = some o → h'.get? b = some o) → H P ≠ none → (∀ b o, s.heap.get? b = some o → H b = none → H1 b = none) → Q code { s with heap := h', toks := tk }) :
    wpAny (model X.prog X.w) X.A (genexprCode X.env gpos (X.env.qual ++ "<genexpr>") scope) Q E s := by
  obtain ⟨ps, hP, ht, ha⟩ := hT _ hm
  have hPs : s.heap.get? P = some { cls := .none, data := .fields ps } := I.hok P _ hP
  have cd : PySem.W.CodeHd s.heap c P := TB.code.keeps I.bk
  have hPn : H P ≠ none := by rw [hP]; exact fun z => nomatch z
  cases hf : codeAmong gpos ps.toList with
  | none =>
    refine wpAny_genexprCodeX hcode (cd.code hPs ht) (cd.tab hPs) hf fun c' h' tk hx hge hlt hco' hrec htab' _ => ?_
    obtain ⟨c2, oc, vs, t, e2, hoc, hd, hv⟩ := hrec
    cases e2
    have nC : H c' = none := I.hok.fresh hge
    have I1 := inv_table (q := X.env.qual ++ "<genexpr>") (t' := tk) (more := #[rawInt gpos.line, rawInt gpos.col, .ref c']) (h' := h') I hP hx htab'.2 hge ⟨oc, vs, t, hoc, hd, hv⟩
    have hE : ExtN H (upd (upd H P (.tbl (ps ++ #[rawInt gpos.line, rawInt gpos.col, .ref c']))) c' (CodeO c' (X.env.qual ++ "<genexpr>"))) := fun b o e n => by
      rw [upd_ne (ne_of_none e nC), upd_ne (fun z => n ps (Option.some.inj (e.symm.trans (by rw [z]; exact hP))))]
      exact e
    have eL : (ps ++ #[rawInt gpos.line, rawInt gpos.col, .ref c']).toList = ps.toList ++ [rawInt gpos.line, rawInt gpos.col, .ref c'] := by simp
    refine h _ _ h' tk I1 hE (fun p hp => ?_) hx hPn fun b o e n => ?_
    · by_cases hb : p.1 = P
      · rw [hu p hp hb, hb]
        refine ⟨_, by rw [upd_ne (ne_of_none hP nC), upd_same], by rw [eL]; exact PySem.TriplesOk_snoc _ _ _ _ ht, fun p' cv hcv => ?_⟩
        rw [eL] at hcv
        rcases among_app _ ht hcv with z | z
        · obtain ⟨c0, e1, e2⟩ := ha p' cv z
          exact ⟨c0, e1, hE _ _ e2 codeO_ne⟩
        · exact ⟨c', z, upd_same⟩
      · obtain ⟨ps', a1, a2, a3⟩ := hT p hp
        refine ⟨ps', by rw [upd_ne (ne_of_none a1 nC), upd_ne hb]; exact a1, a2, fun p' cv hcv => ?_⟩
        obtain ⟨c0, e1, e2⟩ := a3 p' cv hcv
        exact ⟨c0, e1, hE _ _ e2 codeO_ne⟩
    · rw [upd_ne (Nat.ne_of_lt (Nat.lt_of_lt_of_le (Heap.lt_size e) hge)), upd_ne (fun z => hPn (by have z : b = P := z; rw [← z]; exact n))]
      exact n
  | some cv =>
    refine wpAny_genexprCode_hit hcode (cd.code hPs ht) hf ?_
    exact h cv H s.heap s.toks I (ExtN.refl H) hT (fun _ _ _ e => e) hPn fun _ _ _ n => n
theorem gen_start {A : Around} {scope : Scope} {x : Str} {ix : Nat} {code it : Value} {fp : List Addr} {h' : Heap} {tk : Nat} {g' : Array GenState} (I : Inv X pins σ H s) (L : GenS1 x X.env.scope scope) (hx : X.N[ix]? = some x) (hN : X.N.Nodup) (h0 : (".0" : Str) ∉ X.N)
    (hd : A.handled = none) (hfr : A.frames = some (gEnv X scope s.heap.objs.size code :: X.stack)) (hfp : ∀ b ∈ fp, FpOk X pins H b ∧ b < s.heap.objs.size)
    (hns : h'.Ns s.heap.objs.size fun y => if y = ".0" then some it else none) (kp : ∀ b o, s.heap.get? b = some o → h'.get? b = some o) (hg : AllBare g') :
    Inv (genCx X A s H scope s.heap.objs.size code fp) [] (wipe σ [ix]) H { s with heap := h', toks := tk, gens := g' } := by
  have hfree := L.has I.ok
  have cm : ∀ {y c}, (cloFrom X.env.cells scope.names []).lookup y = some c → X.env.cells.lookup y = some c := fun {y c} e => by
    rcases cloFrom_mem (PySem.mem_of_lookup e) with hm | ⟨h1, h2⟩
    · cases hm
    · obtain ⟨c1, hc⟩ := hfree _ h1 rfl
      have hc : X.env.cells.lookup y = some c1 := hc
      have e2 : c = c1 := by
        rw [h2, hc] <;> rfl
      rw [e2]
      exact hc
  have look : ∀ {y}, scope.names.lookup y = some .free → ∃ c, (cloFrom X.env.cells scope.names []).lookup y = some c := fun {y} hl => by
    have hy : (y, NameKind.free) ∈ scope.names := PySem.mem_of_lookup hl
    exact mem_lookup (cloFrom_has (cells := X.env.cells) (acc := []) hy)
  have cellK : ∀ {c : Addr} {v : Option Value}, s.heap.IsCell c v → h'.IsCell c v := fun {c v} ⟨o, ho, hd⟩ => ⟨_, kp _ _ ho, hd⟩
  have okZ : (genCx X A s H scope s.heap.objs.size code fp).Ok := by
    refine ⟨I.ok.mod, L.kind, I.ok.glob, rfl, Nat.le_refl _, fun y z c e1 e2 => I.ok.inj y z c (cm e1) (cm e2), fun y hy => ?_, fun y c z _ => ?_, fun _ => hd, hfr, .inr ⟨rfl, rfl⟩, fun b hb => ⟨?_, fun y c e z => ?_⟩, I.bs, Nat.le_trans I.ok.bsz I.sz, fun b o e hb => ?_, fun b hb z => ?_, I.stack, I.stkFree⟩
    · have hy : scope.names.lookup y = some .cell ∨ scope.names.lookup y = some .free := hy
      rcases hy with hy | hy
      · exact absurd rfl (L.own _ (PySem.mem_of_lookup hy)).2
      · exact look hy
    · have z : false = true := z
      cases z
    · exact Nat.ne_of_lt (hfp b hb).2
    · exact (hfp b hb).1.2.2.2.2.1 y c (cm e) z
    · rcases (hfp b hb).1.2.2.2.1 with z | z
      · exact I.ok.noex b o e z
      · exact absurd (Nat.lt_of_lt_of_le (Heap.lt_size e) (Nat.le_trans I.ok.bsz z)) (Nat.lt_irrefl _)
    · rcases List.mem_cons.mp (I.stkSub b z) with z | z
      · exact (hfp b hb).1.2.1 z
      · exact (hfp b hb).1.2.2.1 z
  refine ⟨okZ, rfl, hg, Un.kept kp, ⟨_, hns, fun i y v e1 e2 e3 => ?_⟩, fun y c e => ?_, I.hok.fresh (Nat.le_refl _), fun y c e => I.freeC y c (cm e), fun q hq => absurd (show q ∈ ([] : List (Addr × Obj)) ++ [] from hq) (by simp), I.hok.kept kp, by rw [wipe_length]; exact I.len⟩
  · have e3 : Vis scope y := e3
    have e1 : X.N[i]? = some y := e1
    obtain ⟨e2', hne⟩ := wipe_some e2
    rcases e3 with k | k | k
    · rcases (L.own _ (PySem.mem_of_lookup k)).1 rfl with z | z
      · have z : y = x := z
        subst z
        exact absurd (List.mem_singleton.mpr (nodup_at hN e1 hx)) hne
      · have z : y = (".0" : Str) := z
        subst z
        exact absurd (List.mem_of_getElem? e1) h0
    · exact absurd rfl (L.own _ (PySem.mem_of_lookup k)).2
    · obtain ⟨m, hn, hl⟩ := I.loc
      have hvis : Vis X.env.scope y := (L.free _ (PySem.mem_of_lookup k) rfl).elim (fun k => .inr (.inl k)) (fun k => .inr (.inr k))
      obtain ⟨w', r, q⟩ := hl i y v e1 e2' hvis
      obtain ⟨c2, h2⟩ := look k
      refine ⟨w', r, .inr ⟨.inr k, c2, h2, ?_⟩⟩
      have c1 := cm h2
      rcases q with ⟨k', _⟩ | ⟨_, c3, e', z⟩
      · have k' : X.env.scope.names.lookup y = some .local := k'
        rcases L.free _ (PySem.mem_of_lookup k) rfl with k2 | k2 <;> rw [show X.env.scope.names.lookup y = _ from k2] at k' <;> cases k'
      · rw [c1] at e'
        cases e'
        exact cellK z
  · obtain ⟨w', z⟩ := I.cell y c (cm e)
    exact ⟨w', cellK z⟩
end
/-- what is left once the iterated thing is there -/
def GAll (J : It) (g : TG) (te : TE) (ix : Nat) (σ : L2.St) (Q : VK) (H2 : Hp) : Prop := ∃ W : Nat → Nat → Hp → Prop, (∃ m, W 0 m H2) ∧ ∀ i m H, W i m H → (J.stop i H ∧ Q (.bl true) H) ∨
  (J.go i H ∧ ∃ Nx : Hp → Prop, (∀ H', Nx H' → ∃ m', m' < m ∧ W (i + 1) m' H') ∧ ∀ x H', J.yld i H x H' → g x (wipe σ [ix]) H' fun σ2 H3 => wipe σ2 [ix] = wipe σ [ix] ∧ te σ2 H3 fun y H4 => ∃ b, y = .bl b ∧ if b = true then Nx H4 else Q (.bl false) H4)
def tGenAll (T : List (Addr × Str)) (wi : TI) (g : TG) (te : TE) (ix : Nat) : TE := fun σ H Q => wi σ H fun J H1 => Tabs T H1 ∧ ∀ H2, ExtN H1 H2 → Tabs T H2 → GAll J g te ix σ Q H2
theorem inv_gens {X : Cx} {pins : List (Addr × Obj)} {σ : L2.St} {H : Hp} {s : Shared} (I : Inv X pins σ H s) {g' : Array GenState} (hg : AllBare g') : Inv X pins σ H { s with gens := g' } :=
  ⟨I.ok, I.os, hg, I.base, I.loc, I.cell, I.free, I.freeC, I.pin, I.hok, I.len⟩
theorem bare_set {s : Shared} {g : Nat} {x : GenState} (hb : AllBare s.gens) (hx : x.bare = true) : AllBare (s.setGen g x).gens := fun y hy => by
  show y.bare = true
  have hy : y ∈ s.gens.setIfInBounds g x := hy
  rcases Array.mem_or_eq_of_mem_setIfInBounds hy with z | z
  · exact hb y z
  · rw [z]; exact hx
/-- the generator's object -/
abbrev gObj (n : Nat) (q : Str) (t : Tok) : Obj := { cls := .type "generator", data := .fields #[.int n 0, .str "<genexpr>" (t + 1), .str q (t + 1 + 1)] }
section
variable {X : Cx} {elt iter : Expr} {x : Str} {px : Pos} {scope : Scope} {pos : Pos}
abbrev lCode (elt iter : Expr) (x : Str) (px : Pos) (scope : Scope) (pos : Pos) (it : Value) (ce : Env) : Code := .compLoop (.GeneratorExp elt [⟨.Name x px, iter, [], 0⟩] scope pos) 0 it .none ce
/-- between two items all but the generators' table stands -/
structure Still (s s' : Shared) : Prop where
  heap : s'.heap = s.heap
  os : s'.os = s.os
  bare : AllBare s'.gens
theorem inv_still {Y : Cx} {pins : List (Addr × Obj)} {σ : L2.St} {H : Hp} {s s' : Shared} (I : Inv Y pins σ H s) (z : Still s s') : Inv Y pins σ H s' :=
  ⟨I.ok, z.os.trans I.os, z.bare, by rw [z.heap]; exact I.base, by rw [z.heap]; exact I.loc, by rw [z.heap]; exact I.cell, I.free, I.freeC, by rw [z.heap]; exact I.pin, by rw [z.heap]; exact I.hok, I.len⟩
/-- what a turn's end says, by the answer b; kap: the way on -/
def GYp (Z : Cx) (pg : List (Addr × Obj)) (Q : VK) : Protocol := fun _ _ v s kap => ∃ (b : Bool), v = .bool b ∧ AllBare s.gens ∧ (∃ σ' H', Inv Z pg σ' H' s ∧ (b = false → Q (.bl false) H')) ∧ (b = true → ∀ s', Still s s' → kap (.send .none) s')
def GRp (Z : Cx) (pg : List (Addr × Obj)) (Q : VK) (s₁ : Shared) : Prop := ∃ σ' H', Inv Z pg σ' H' s₁ ∧ Q (.bl true) H'
theorem gen_seg {Z : Cx} {Ag : Around} {J : It} {g : TG} {te : TE} {ix : Nat} {σ : L2.St} {Q : VK} {W : Nat → Nat → Hp → Prop} {fp : List Addr} {tn : Nat → Heap → Prop} {it : Addr} {a : Addr} {go : Obj}
    (ho : Ag.over (lCode elt iter x px scope pos (.ref it) Z.env) [] = Z.A) (hc : Z.calm = true) (hex : Z.ex = fp) (hpn : Z.pn = []) (hco : Z.env.scope.isCoroutine = false) (hxe : Z.xe = fun _ _ => False) (haf : ∀ b ∈ fp, a ≠ b)
    (T : Turn Z.prog Z.w Z.K (.Name x px) J fp it tn) (hg : PG Z (.Name x px) g) (he : PE Z elt te)
    (turn : ∀ i m H, W i m H → (J.stop i H ∧ Q (.bl true) H) ∨ (J.go i H ∧ ∃ Nx : Hp → Prop, (∀ H', Nx H' → ∃ m', m' < m ∧ W (i + 1) m' H') ∧ ∀ x H', J.yld i H x H' → g x (wipe σ [ix]) H' fun σ2 H3 => wipe σ2 [ix] = wipe σ [ix] ∧ te σ2 H3 fun y H4 => ∃ b, y = .bl b ∧ if b = true then Nx H4 else Q (.bl false) H4)) :
    ∀ (m n i : Nat) (s₀ s : Shared) (H : Hp), m < n → W i m H → Inv Z [(a, go)] (wipe σ [ix]) H s → tn i s.heap → (∀ b ∈ fp, H b = none) →
      Seg (model Z.prog Z.w) Ag (fun n s₀ r s₁ => r = .ok .next ∧ GRp Z [(a, go)] Q s₁) (GYp Z [(a, go)] Q) n s₀ (lCode elt iter x px scope pos (.ref it) Z.env) ((model Z.prog Z.w).den (lCode elt iter x px scope pos (.ref it) Z.env)) [] s := by
  have stat : ∀ {σ' : L2.St} {H' : Hp} {s' : Shared}, Inv Z [(a, go)] σ' H' s' → (∀ b ∈ fp, H' b = none) → ∀ b ∈ fp, FpOk Z [(a, go)] H' b := fun {σ' H' s'} I' hn b hb => by
    have hb' : b ∈ Z.ex := by rw [hex]; exact hb
    refine ⟨hn b hb, (I'.ok.exf b hb').1, I'.ok.exfs b hb', .inl hb', fun x c e => (I'.ok.exf b hb').2 x c e, fun p hp => ?_⟩
    rw [hpn] at hp
    have hp : p = (a, go) := List.mem_singleton.mp hp
    rw [hp]
    exact haf b hb
  intro m
  induction m using Nat.strongRecOn with
  | ind m ih =>
    intro n i s₀ s H hmn w I st hn
    show Seg _ Ag _ _ _ s₀ _ ((compTurn (.GeneratorExp elt [⟨.Name x px, iter, [], 0⟩] scope pos) 0 (.ref it) .none Z.env).onRaise (leaving Z.env)) [] s
    rw [compTurn_gen, Sem.onRaise_eq_wrap]
    refine seg_bind_wrap (wpAny_standAt ?_)
    rcases turn i m H w with ⟨stop, qq⟩ | ⟨go', Nx, hNx, step⟩
    · refine seg_bind_wrap ?_
      rw [ho]
      refine wpAny_mono (T.done Z rfl rfl rfl hc i [(a, go)] s _ H (fun _ _ => False) I (stat I hn) st stop) (fun r s1 ⟨e, I1⟩ => ?_) (fun _ _ z => False.elim z)
      subst e
      exact seg_end (.ok .next) ⟨rfl, _, H, I1, qq⟩
    · refine seg_bind_wrap ?_
      rw [ho]
      refine wpAny_mono (T.item Z rfl rfl rfl hc i [(a, go)] s _ H (fun _ _ => False) I (stat I hn) st go') (fun r s1 ⟨u, e, h2⟩ => ?_) (fun _ _ z => False.elim z)
      subst e
      refine seg_bind_wrap ?_
      rw [ho]
      refine wpAny_mono h2 (fun _ s2 ⟨y, H', I2, ry, hy, st2, hn2⟩ => ?_) (fun _ _ z => False.elim z)
      have I2' := I2.pinned (stat I2 hn2) (T.obj _ _ st2)
      refine seg_bind_wrap ?_
      rw [ho]
      refine wpAny_mono (hg.run _ s2 _ H' y u _ I2' ry (step y H' hy)) (fun _ s3 ⟨σ3, H3, I3, hw3, q3⟩ => ?_) (fun e s' z => by rw [hxe] at z; exact False.elim z)
      refine seg_bind_wrap ?_
      rw [ho]
      refine wpAny_tests_nil ?_
      simp only [if_true]
      have hyo : ∀ v, yieldOut Z.env v = yieldValue v := fun v => by simp only [yieldOut, hco, Bool.false_eq_true, if_false]
      simp only [hyo]
      rw [Sem.bind_eq_wrap', Sem.bind_eq_wrap', Sem.wrap_wrap, Sem.wrap_wrap]
      refine seg_wrap ?_
      rw [ho]
      refine wpAny_mono (he.run _ s3 σ3 H3 _ I3 q3) (fun v s4 ⟨yv, H4, I4, r4, b, eb, q4⟩ => ?_) (fun e s' z => by rw [hxe] at z; exact False.elim z)
      subst eb
      have r4 : v = .bool b := r4
      subst r4
      have I4' : Inv Z [(a, go)] σ3 H4 s4 := I4.unpinned
      cases n with
      | zero => exact absurd hmn (Nat.not_lt_zero _)
      | succ n =>
      refine seg_at (seg_yield rfl rfl rfl ⟨b, rfl, I4.bare, ⟨σ3, H4, I4', fun e => ?_⟩, fun e s' z => ?_⟩)
      · subst e
        exact q4
      · subst e
        simp only [if_true] at q4
        obtain ⟨m', hm, w'⟩ := hNx _ q4
        have J4 := inv_still I4 z
        have pin' : ∀ b ∈ fp, ∀ o, s2.heap.get? b = some o → s'.heap.get? b = some o ∧ H4 b = none := fun b hb o e =>
          let z := J4.pin (b, o) (List.mem_append_right _ (List.mem_append_right _ (mem_pinsAt hb e)))
          ⟨z.1, z.2.1⟩
        have hl : (wipe σ [ix]).length = σ3.length := by rw [← hw3, wipe_length]
        refine seg_again rfl (ih m' hm n (i + 1) s' s' H4 (by omega) w' ((J4.unpinned (pins := [(a, go)])).weak hl (fun j v e => ?_)) (T.keep _ _ _ st2 fun b hb o e => (pin' b hb o e).1) fun b hb => ?_)
        · rw [← hw3] at e
          exact (wipe_some e).1
        · obtain ⟨o, e, _⟩ := T.obj _ _ st2 b hb
          exact (pin' b hb o e).2
theorem gen_env_over {Ag : Around} {ce : Env} {it : Addr} : Ag.over (lCode elt iter x px scope pos (.ref it) ce) [] = Ag.deeper ce := by
  first
    | rfl
    | (obtain ⟨hd, d, fr, gs, u⟩ := Ag; simp [Around.over, Around.deeper, marksOver, frameCount, unitsOf, envsOf, guardsOf, pushEnvs, pushGuards, Code.envs, Code.env?, Code.isFrame, Code.guards, Code.isGuard, Code.weight, Code.frames, Code.isCreation, Code.isCaller, Code.cUnits])
/-- the first wake -/
theorem gen_first {Z : Cx} {Ag : Around} {J : It} {Q : VK} {fp : List Addr} {tn : Nat → Heap → Prop} {it : Addr} {a : Addr} {go : Obj}
    (T : Turn Z.prog Z.w Z.K (.Name x px) J fp it tn) {n : Nat} {s₀ s : Shared} (st : tn 0 s.heap)
    (loop : Seg (model Z.prog Z.w) Ag (fun n s₀ r s₁ => r = .ok .next ∧ GRp Z [(a, go)] Q s₁) (GYp Z [(a, go)] Q) n s₀ (lCode elt iter x px scope pos (.ref it) Z.env) ((model Z.prog Z.w).den (lCode elt iter x px scope pos (.ref it) Z.env)) [] s) :
    Seg (model Z.prog Z.w) Ag (fun n s₀ r s₁ => r = .ok .next ∧ GRp Z [(a, go)] Q s₁) (GYp Z [(a, go)] Q) n s₀ (.compStart (.GeneratorExp elt [⟨.Name x px, iter, [], 0⟩] scope pos) 0 (.ref it) .none Z.env) ((model Z.prog Z.w).den (.compStart (.GeneratorExp elt [⟨.Name x px, iter, [], 0⟩] scope pos) 0 (.ref it) .none Z.env)) [] s := by
  show Seg _ Ag _ _ _ s₀ _ ((compStart (.GeneratorExp elt [⟨.Name x px, iter, [], 0⟩] scope pos) 0 (.ref it) .none Z.env).onRaise (leaving Z.env)) [] s
  unfold compStart
  rw [Sem.onRaise_eq_wrap]
  show Seg _ Ag _ _ _ s₀ _ ((ask >>= _).wrap _ _ _ _) [] s
  refine seg_bind_wrap (wpAny_askSetting ?_)
  split
  · exact seg_again rfl loop
  · first
      | exact seg_bind_wrap (wpAny_rule (seg_bind_wrap (wpAny_standAt (seg_bind_wrap (T.self _ 0 s _ _ st (seg_again rfl loop))))))
      | (refine seg_bind_wrap (wpAny_rule ?_); show Seg _ Ag _ _ _ s₀ _ ((standAt iter.pos >>= _).wrap _ _ _ _) [] s; exact seg_bind_wrap (wpAny_standAt (seg_bind_wrap (T.self _ 0 s _ _ st (seg_again rfl loop)))))
end
/-- all, over such a generator -/
theorem all_loop {Z : Cx} {A : Around} {pg : List (Addr × Obj)} {Q : VK} {a : Addr} {gi : Nat} {q : Str} {t : Tok} {R : Result → Shared → Prop} (hh : A.handled = none) (hroom : A.depth < recursionLimit) (hpg : pg = [(a, gObj gi q t)])
    (hR : ∀ b s', (∃ σ' H', Inv Z pg σ' H' s' ∧ Q (.bl b) H') → R (.ok (.ret (.bool b))) s') :
    ∀ (n : Nat) (s : Shared) (gs : GenState) (σ' : L2.St) (H : Hp), Inv Z pg σ' H s → s.gens[gi]? = some gs →
      (gs.Goes (model Z.prog Z.w) A.in1.in1 (fun n s₀ r s₁ => r = .ok .next ∧ GRp Z pg Q s₁) (GYp Z pg Q) n (.send .none) (s.setGen gi .running)) →
      codeAny (model Z.prog Z.w) A (.builtin "all.loop" ⟨[.ref a], []⟩) R s := by
  have isg : ∀ {σ' : L2.St} {H : Hp} {s : Shared}, Inv Z pg σ' H s → s.heap.IsGen a gi := fun {σ' H s} I => by
    have := (I.pin (a, gObj gi q t) (List.mem_append_right _ (by rw [hpg]; exact List.mem_cons_self))).1
    exact ⟨_, _, _, this, rfl, rfl, rfl⟩
  have gsa : ∀ {s₁ : Shared} {x : GenState}, gi + 1 ≤ (s₁.setGen gi x).gens.size → (s₁.setGen gi x).gens[gi]? = some x := fun {s₁ x} h => by
    rw [GenW.setGen_size] at h
    have hlt : gi < s₁.gens.size := h
    simp [Shared.setGen, hlt]
  intro n
  induction n with
  | zero =>
    intro s gs σ' H I hgs hgo
    refine codeAny_builtin F.entry_all_loop ?_
    rw [Around.under_plainId F.plain_all_loop _]
    show wpAny _ A.in1 (pyNext (.ref a) >>= _) _ _ s
    refine wpAny_bind (wpAny_pyNext_genexpQ (P := fun _ _ s₁ => GRp Z pg Q s₁) hh I.nolimit hroom (isg I) hgs hgo (fun v s₁ gs' hb hv => ?_) (fun s₁ hp h' hk => ?_))
    · obtain ⟨b, rfl, hbare, ⟨σ1, H1, I1, qf⟩, kap⟩ := hv
      cases b with
      | true => exact (kap rfl s₁ ⟨rfl, rfl, hbare⟩).elim
      | false =>
        refine wpAny_bind (wpAny_holding (wpAny_truthy_bool ?_))
        refine wpAny_bind (wpAny_letGo ?_)
        simp only [Bool.false_eq_true, if_false]
        refine wpAny_bind (wpAny_rule (wpAny_pure ?_))
        exact hR false _ ⟨σ1, H1, inv_gens I1 (bare_set I1.bare hb), qf rfl⟩
    · obtain ⟨σ1, H1, I1, q1⟩ := hp
      refine wpAny_bind (wpAny_rule (wpAny_pure ?_))
      exact hR true _ ⟨σ1, H1, (inv_gens I1 (bare_set I1.bare rfl)).kept hk, q1⟩
  | succ n ih =>
    intro s gs σ' H I hgs hgo
    have hlt : gi + 1 ≤ s.gens.size := (Array.getElem?_eq_some_iff.mp hgs).1
    refine codeAny_builtin F.entry_all_loop ?_
    rw [Around.under_plainId F.plain_all_loop _]
    show wpAny _ A.in1 (pyNext (.ref a) >>= _) _ _ s
    refine wpAny_bind (GenW.wpAny_gsz hlt (wpAny_pyNext_genexpQ (P := fun _ _ s₁ => GRp Z pg Q s₁) hh I.nolimit hroom (isg I) hgs hgo (fun v s₁ gs' hb hv => ?_) (fun s₁ hp h' hk => ?_)))
    · intro hsz
      obtain ⟨b, rfl, hbare, ⟨σ1, H1, I1, qf⟩, kap⟩ := hv
      have J1 := inv_gens I1 (g' := (s₁.setGen gi gs').gens) (bare_set I1.bare hb)
      refine wpAny_bind (wpAny_holding (wpAny_truthy_bool ?_))
      refine wpAny_bind (wpAny_letGo ?_)
      cases b with
      | true =>
        simp only [if_true]
        refine wpAny_pure ⟨plainId_quiet F.plain_all_loop _, ih _ gs' σ1 H1 J1 (gsa hsz) ?_⟩
        have h2 := kap rfl ((s₁.setGen gi gs').setGen gi .running) ⟨rfl, rfl, bare_set (bare_set I1.bare hb) rfl⟩
        exact h2
      | false =>
        simp only [Bool.false_eq_true, if_false]
        refine wpAny_bind (wpAny_rule (wpAny_pure ?_))
        exact hR false _ ⟨σ1, H1, J1, qf rfl⟩
    · intro hsz
      obtain ⟨σ1, H1, I1, q1⟩ := hp
      refine wpAny_bind (wpAny_rule (wpAny_pure ?_))
      exact hR true _ ⟨σ1, H1, (inv_gens I1 (bare_set I1.bare rfl)).kept hk, q1⟩
section
variable {X : Cx}
/-- all(elt for x in iter) -/
theorem pe_allG {T : List (Addr × Str)} {c P : Addr} {elt iter : Expr} {x : Str} {px p pos gpos : Pos} {scope : Scope} {wi : TI} {g : TG} {te : TE} {ix k : Nat}
    (hr : Room (k + 3) X.A) (hga : Gl X "all") (hma : X.mg "all" = none) (hb : bootBuiltins "all" = some (.builtin "all")) (TB : LamX.TabB X.base X.mg c P) (hcode : X.env.code = .ref c) (hm : (P, X.env.qual ++ "<genexpr>") ∈ T) (hu : ∀ p ∈ T, p.1 = P → p.2 = X.env.qual ++ "<genexpr>")
    (L : GenS1 x X.env.scope scope) (hx : X.N[ix]? = some x) (hN : X.N.Nodup) (h0 : (".0" : Str) ∉ X.N) (hi : PI X (.Name x px) iter wi)
    (hg : ∀ (A : Around) (s : Shared) (H : Hp) (C : Addr) (code : Value) (fp : List Addr), PG (genCx X A s H scope C code fp) (.Name x px) g)
    (hel : ∀ (A : Around) (s : Shared) (H : Hp) (C : Addr) (code : Value) (fp : List Addr), Room k A → PE (genCx X A s H scope C code fp) elt te)
    (hs : ∀ v, genFold iter X.env v = pure v := by intro _; rfl)
    (he : starEach [.GeneratorExp elt [⟨.Name x px, iter, [], 0⟩] scope gpos] X.env = (false, eval (.GeneratorExp elt [⟨.Name x px, iter, [], 0⟩] scope gpos) X.env) :: starEach [] X.env := by rfl) :
    PE X (.Call (.Name "all" p) [.GeneratorExp elt [⟨.Name x px, iter, [], 0⟩] scope gpos] [] pos) (tGenAll T wi g te ix) := by
  refine ⟨fun pins s σ H Q I h => ?_⟩
  refine wpAny_Call_Name_kw (ld_blt I hga hma hb ?_)
  refine PyProof.Rows.callWith_builtin1 ?_ he (by rfl)
  rw [he]
  show wpAny _ _ (spliced ((false, eval (.GeneratorExp elt [⟨.Name x px, iter, [], 0⟩] scope gpos) X.env) :: backTo pos (starEach [] X.env))) _ _ s
  refine Calls.spliced_cons ?_
  refine wpAny_GeneratorExp_make L.co (closure_ok (L.has I.ok)) (fun y hy => (L.own y hy).2) L.dot L.kind (by have := hr.dp; omega) ?_ hs
  refine thn (hi.run pins s σ H _ I h) fun xv s1 h1 => thn h1 fun itv s2 ⟨it, fp, tn, J, H2, e2, I2, Tn, st2, f2, hT, q2⟩ => ?_
  subst e2
  refine ⟨I2.nolimit, ?_⟩
  refine gen_code I2 TB hcode hm hu hT fun code H3 h3 tk3 I3 eN T3 k3 hPn fr3 => ?_
  obtain ⟨bm, ob, e1, e2, _, e4, e5, e6, e7, e8⟩ := TB.bm
  refine wpAny_builtinsFor (m := X.mg) (by rw [I3.ok.glob]; exact I3.mod.glob.keeps I3.bk) e1 e2 (I3.bk _ _ e5) e6 e7 e8 ?_
  intro h' hn' hs'
  refine Calls.spliced_nil ?_
  -- the state ahead of the call
  have keep' : ∀ b o, h3.get? b = some o → h'.get? b = some o := fun b o e => hs'.extBut b o (Nat.ne_of_lt (Heap.lt_size e)) (Heap.get?_push_of_some _ e)
  have keep5 : ∀ (go : Obj) b o, h3.get? b = some o → (h'.push go).get? b = some o := fun go b o e => Heap.get?_push_of_some _ (keep' b o e)
  have hsz : h'.objs.size = h3.objs.size + 1 := by rw [hs'.1, Heap.size_push]
  have sz : ∀ b ∈ fp, b < h3.objs.size ∧ H3 b = none := fun b hb => by
    obtain ⟨o, e, _⟩ := Tn.obj _ _ st2 b hb
    have n := (f2 b hb).1
    have nP : b ≠ P := fun z => hPn (by rw [← z]; exact n)
    exact ⟨Heap.lt_size (k3 b o nP e), fr3 b o e n⟩
  have f3 : ∀ b ∈ fp, FpOk X pins H3 b ∧ b < h3.objs.size := fun b hb => ⟨⟨(sz b hb).2, (f2 b hb).2⟩, (sz b hb).1⟩
  have nofr : ∀ f, h3.objs.size ≤ f → f ∉ frs X.stack := fun f hf z => by
    rcases List.mem_cons.mp (I3.stkSub _ z) with e | e
    · have h1 := I3.lt
      rw [← e] at h1
      exact Nat.lt_irrefl _ (Nat.lt_of_lt_of_le h1 hf)
    · exact I3.nofs hf e
  have hrA : Room k (X.A.in1.in1.deeper (gEnv X scope h3.objs.size code)) := (hr.in1.in1).deeper _
  have J0 := gen_start (A := X.A.in1.in1.deeper (gEnv X scope h3.objs.size code)) (tk := tk3 + 1 + 1 + 1) (h' := h'.push (gObj s2.gens.size (X.env.qual ++ "<genexpr>") tk3)) (g' := s2.gens.push (.fresh (.compStart (.GeneratorExp elt [⟨.Name x px, iter, [], 0⟩] scope gpos) 0 (.ref it) .none (gEnv X scope h3.objs.size code)))) (code := code) (it := .ref it) (fp := fp) I3 L hx hN h0 hrA.hd (Around.frames_deeper I3.ok.frames) f3 (hn'.push _) (keep5 _) (I2.bare.push rfl)
  have nA : H3 h'.objs.size = none := I3.hok.fresh (by show h3.objs.size ≤ _; omega)
  have J : Inv (genCx X (X.A.in1.in1.deeper (gEnv X scope h3.objs.size code)) { s2 with heap := h3, toks := tk3 } H3 scope h3.objs.size code fp) [(h'.objs.size, gObj s2.gens.size (X.env.qual ++ "<genexpr>") tk3)] (wipe σ [ix]) H3 _ := J0.pins_of fun p hp => by
    rw [List.mem_singleton.mp hp]
    refine ⟨Heap.get?_push_size _ rfl, nA, ?_, nofr _ (by show h3.objs.size ≤ h'.objs.size; omega), fun v z => by cases z⟩
    show h'.objs.size ≠ h3.objs.size
    omega
  have st5 : tn 0 (h'.push (gObj s2.gens.size (X.env.qual ++ "<genexpr>") tk3)) := Tn.keep _ _ _ st2 fun b hb o e => keep5 _ b o (k3 b o (fun z => hPn (by rw [← z]; exact (f2 b hb).1)) e)
  obtain ⟨W, ⟨m0, w0⟩, turn⟩ := q2 H3 eN T3
  have loop := gen_seg (elt := elt) (iter := iter) (x := x) (px := px) (scope := scope) (pos := gpos) (it := it) (a := h'.objs.size) (go := gObj s2.gens.size (X.env.qual ++ "<genexpr>") tk3) (Ag := X.A.in1.in1) gen_env_over (rfl : (genCx X (X.A.in1.in1.deeper (gEnv X scope h3.objs.size code)) { s2 with heap := h3, toks := tk3 } H3 scope h3.objs.size code fp).calm = true) rfl rfl L.co rfl (fun b hb => Nat.ne_of_gt (Nat.lt_of_lt_of_le (sz b hb).1 (by rw [hsz]; exact Nat.le_succ _))) Tn (hg _ _ _ _ _ _) (hel _ _ _ _ _ _ hrA) turn m0 (m0 + 1) 0
  refine call_function_tree F.kind_all F.plain_all F.entry_all (F.args_all1 _) ?_
  unfold Builtin.«all»
  refine wpAny_bind (m := oneArg "all" _) (wpAny_pure ?_)
  have isg : (h'.push (gObj s2.gens.size (X.env.qual ++ "<genexpr>") tk3)).IsGen h'.objs.size s2.gens.size := ⟨_, _, _, Heap.get?_push_size _ rfl, rfl, rfl, rfl⟩
  refine wpAny_bind (wpAny_pyIter_gen isg ?_)
  refine wpAny_pure ⟨plainId_quiet F.plain_all_loop _, all_loop (Z := genCx X (X.A.in1.in1.deeper (gEnv X scope h3.objs.size code)) { s2 with heap := h3, toks := tk3 } H3 scope h3.objs.size code fp) (Q := Q) (q := X.env.qual ++ "<genexpr>") (t := tk3) hr.hd hr.depth rfl (fun b s' ⟨σ', H', IZ, q⟩ => ?_) (m0 + 1) _ _ _ _ J (Array.getElem?_push_size ..) ?_⟩
  · refine ⟨rfl, ?_⟩
    refine gen_first (Z := genCx X (X.A.in1.in1.deeper (gEnv X scope h3.objs.size code)) { s2 with heap := h3, toks := tk3 } H3 scope h3.objs.size code fp) (elt := elt) (iter := iter) (x := x) (px := px) (scope := scope) (pos := gpos) Tn ?_ ?_
    · exact st5
    · exact loop _ _ H3 (Nat.lt_succ_self _) w0 (inv_gens J (bare_set (x := .running) J.bare rfl)) st5 fun b hb => (sz b hb).2
  · exact ⟨.bl b, H', I3.call' (ch := fp) IZ.os IZ.base IZ.hok IZ.bare fun b hb => ⟨(f3 b hb).1.2.2.2.1, (f3 b hb).1.2.1, (f3 b hb).1.2.2.2.2.1, (f3 b hb).1.2.2.2.2.2⟩, rfl, q⟩
end

set_option Elab.async false
set_option linter.all false
set_option maxRecDepth 100000
set_option maxHeartbeats 4000000
open PySem PySem.Spec PyProof.Rows L2 LamX
/-! # the readings of all(.. for x in ..) -/
section
variable {K : PySem.W.Frag} {σ : L2.St} {H H2 : Hp} {Q : VK} {g : TG} {te : TE} {ix : Nat}
def GenN (T : List (Addr × Str)) (g : TG) (te : TE) (ix : Nat) (σ : L2.St) (Q : VK) (J : It) (H1 : Hp) : Prop := Tabs T H1 ∧ ∀ H2, ExtN H1 H2 → Tabs T H2 → GAll J g te ix σ Q H2
theorem r_genAll {T : List (Addr × Str)} {wi : TI} (h : wi σ H (GenN T g te ix σ Q)) : tGenAll T wi g te ix σ H Q := h
/-- a turn's end -/
def GenE (N : Hp → Prop) (Q : VK) : VK := fun y H4 => ∃ b, y = .bl b ∧ if b = true then N H4 else Q (.bl false) H4
theorem r_genE {N : Hp → Prop} {b : Bool} (h : if b = true then N H else Q (.bl false) H) : GenE N Q (.bl b) H := ⟨b, rfl, h⟩
theorem gall_tup {a : Addr} {xs : List V} {σw : L2.St} (Pv : Nat → Hp → Prop) (ew : wipe σ [ix] = σw) (h0 : Pv 0 H2) (hl : ∀ i H, i ≤ xs.length → Pv i H → SqT K H a xs)
    (hs : ∀ (i : Nat) x H, xs[i]? = some x → Pv i H → g x σw H fun σ2 H3 => wipe σ2 [ix] = σw ∧ te σ2 H3 (GenE (Pv (i + 1)) Q)) (hd : ∀ H, Pv xs.length H → Q (.bl true) H) : GAll (Itt K a) g te ix σ Q H2 := by
  subst ew
  refine ⟨fun i m H => m = xs.length - i ∧ i ≤ xs.length ∧ Pv i H, ⟨xs.length, by simp, Nat.zero_le _, h0⟩, ?_⟩
  rintro i m H ⟨rfl, hi, p⟩
  have q := hl i H hi p
  by_cases hlt : i < xs.length
  · refine .inr ⟨⟨xs, xs[i], q, by simp [hlt]⟩, Pv (i + 1), fun H' p' => ⟨xs.length - (i + 1), by omega, rfl, hlt, p'⟩, fun x H' y => ?_⟩
    obtain ⟨e, y⟩ := y
    subst e
    exact hs i x _ (y xs q) p
  · have e : i = xs.length := by omega
    subst e
    exact .inl ⟨⟨xs, q, Nat.le_refl _⟩, hd H p⟩
theorem gall_range {lo : Int} {n : Nat} {σw : L2.St} (Pv : Nat → Hp → Prop) (ew : wipe σ [ix] = σw) (h0 : Pv 0 H2)
    (hs : ∀ (i : Nat) H, i < n → Pv i H → g (.int (lo + i)) σw H fun σ2 H3 => wipe σ2 [ix] = σw ∧ te σ2 H3 (GenE (Pv (i + 1)) Q)) (hd : ∀ H, Pv n H → Q (.bl true) H) : GAll (Itr lo n) g te ix σ Q H2 := by
  subst ew
  refine ⟨fun i m H => m = n - i ∧ i ≤ n ∧ Pv i H, ⟨n, by simp, Nat.zero_le _, h0⟩, ?_⟩
  rintro i m H ⟨rfl, hi, p⟩
  by_cases hlt : i < n
  · refine .inr ⟨hlt, Pv (i + 1), fun H' p' => ⟨n - (i + 1), by omega, rfl, hlt, p'⟩, fun x H' y => ?_⟩
    obtain ⟨e, y⟩ := y
    subst e y
    exact hs i _ hlt p
  · have e : i = n := by omega
    subst e
    exact .inl ⟨Nat.le_refl _, hd H p⟩
end
/-! # set(t) of a tuple of ints, repetitions too -/
def rSetTI (K : PySem.W.Frag) (w : World) : List V → Hp → VK → Prop := fun vs H Q => ∃ (l : Addr) (ns : List Int), vs = [.ref l] ∧ SqT K H l (ns.map V.int) ∧ ns.length ≤ 1000 ∧
  ∀ (p : Addr) (ks : List Int), H p = none → ks.Nodup → (∀ k, k ∈ ks ↔ k ∈ ns) → Q (.ref p) (upd H p (SetO w p (fun j => decide (j ∈ ns)) ks.length))
theorem cr_setTI {X : Cx} {K : PySem.W.Frag} {w : World} (hK : X.K = K) (hw : X.w = w) (hc : X.calm = true) : CallR X (.type "set") (rSetTI K w) := by
  subst hK hw
  intro pins s σ H vs us Q I r h
  obtain ⟨l, ns, rfl, hs, ln, q⟩ := h
  rw [Vals.ref1 r]
  obtain ⟨its, rv, pt, hz⟩ := I.tuple hs
  have hi : IntsAre its.toArray.toList ns := ints_of_vals rv
  refine call_set_tupI ns (I.ok.hd hc) (show s.heap.IsTuple l its.toArray from pt) hi (by unfold scanBound; omega) fun h' tk c R1 hcn k => ?_
  have R2 := R1
  obtain ⟨o, es, ep, t, ho, hex, hdt, g, nd, hm2, hb, hf, hn, hr, hl2⟩ := R1
  have e1 : (es.toList.map keyOf).length = c := by
    rw [List.length_map, ← hn]
    simp
  have hq := q s.heap.objs.size (es.toList.map keyOf) (I.hok.fresh (Nat.le_refl _)) nd fun k => by
    have := hm2 k
    rw [← this, decide_eq_true_eq]
  rw [e1] at hq
  exact ⟨.ref _, _, I.laid (t' := tk) k (Nat.le_refl _) (setO_new R2), rfl, hq⟩
theorem r_setTI {K : PySem.W.Frag} {w : World} {H : Hp} {Q : VK} {l : Addr} {ns : List Int} (h : SqT K H l (ns.map V.int)) (ln : ns.length ≤ 1000) (q : ∀ (p : Addr) (ks : List Int), H p = none → ks.Nodup → (∀ k, k ∈ ks ↔ k ∈ ns) → Q (.ref p) (upd H p (SetO w p (fun j => decide (j ∈ ns)) ks.length))) : rSetTI K w [.ref l] H Q := ⟨l, ns, rfl, h, ln, q⟩
/-- as many as there are different ones -/
theorem nodup_len {ns ks : List Int} (nd : ks.Nodup) (h : ∀ k, k ∈ ks ↔ k ∈ ns) : ks.length = ns.length ↔ ns.Nodup := by
  constructor
  · intro e
    have sub : ∀ {l : List Int} {m : List Int}, m.Nodup → (∀ k ∈ m, k ∈ l) → m.length = l.length → l.Nodup := by
      intro l
      induction l with
      | nil => intro m _ _ _; exact .nil
      | cons a l ih =>
        intro m md ms me
        have e1 : (m.erase a).length ≤ l.length := by
          by_cases c : a ∈ m
          · rw [List.length_erase_of_mem c]
            simp only [List.length_cons] at me
            omega
          · exfalso
            have s2 : ∀ k ∈ m, k ∈ l := fun k hk => by
              rcases List.mem_cons.mp (ms k hk) with z | z
              · rw [z] at hk
                exact absurd hk c
              · exact z
            have := nodup_le m l md s2
            simp only [List.length_cons] at me
            omega
        by_cases c : a ∈ m
        · have md2 := md.erase a
          have ms2 : ∀ k ∈ m.erase a, k ∈ l := fun k hk => by
            have h1 := (md.mem_erase_iff).mp hk
            rcases List.mem_cons.mp (ms k h1.2) with z | z
            · exact absurd z h1.1
            · exact z
          have el : (m.erase a).length = l.length := by
            rw [List.length_erase_of_mem c]
            simp only [List.length_cons] at me
            omega
          refine List.nodup_cons.mpr ⟨fun ha => ?_, ih md2 ms2 el⟩
          have : ∀ k ∈ m, k ∈ l := fun k hk => by
            rcases List.mem_cons.mp (ms k hk) with z | z
            · rw [z]; exact ha
            · exact z
          have := nodup_le m l md this
          simp only [List.length_cons] at me
          omega
        · exfalso
          have s2 : ∀ k ∈ m, k ∈ l := fun k hk => by
            rcases List.mem_cons.mp (ms k hk) with z | z
            · rw [z] at hk
              exact absurd hk c
            · exact z
          have := nodup_le m l md s2
          simp only [List.length_cons] at me
          omega
    exact sub nd (fun k hk => (h k).mp hk) e
  · intro n
    exact Nat.le_antisymm (nodup_le ks ns nd fun k hk => (h k).mp hk) (nodup_le ns ks n fun k hk => (h k).mpr hk)

set_option Elab.async false
set_option linter.all false
set_option maxRecDepth 100000
set_option maxHeartbeats 4000000
open PySem PySem.Spec PyProof.Rows L2 LamX RZ
/-! # data of any kind, none of whose lists stands at a -/
mutual
inductive DA (a : Addr) (H : Hp) : V → PyData → Prop
  | non : DA a H .non .none
  | bl (b : Bool) : DA a H (.bl b) (.bool b)
  | int (i : Int) : DA a H (.int i) (.int i)
  | str (x : Str) : DA a H (.str x) (.str x)
  | lst {p : Addr} {xs : List V} {ds : List PyData} : p ≠ a → H p = some (.lst xs) → DAs a H xs ds → DA a H (.ref p) (.list ds)
  | tup {p : Addr} {xs : List V} {ds : List PyData} : H p = some (.tup xs) → DAs a H xs ds → DA a H (.ref p) (.tuple ds)
inductive DAs (a : Addr) (H : Hp) : List V → List PyData → Prop
  | nil : DAs a H [] []
  | cons {v : V} {vs : List V} {d : PyData} {ds : List PyData} : DA a H v d → DAs a H vs ds → DAs a H (v :: vs) (d :: ds)
end
mutual
theorem DA.mono {a a' : Addr} {H H' : Hp} (kl : ∀ p xs, p ≠ a → H p = some (.lst xs) → p ≠ a' ∧ H' p = some (.lst xs)) (kt : ∀ p xs, H p = some (.tup xs) → H' p = some (.tup xs)) : ∀ (d : PyData) {v : V}, DA a H v d → DA a' H' v d
  | .none, _, h => by cases h; exact .non
  | .bool b, _, h => by cases h; exact .bl b
  | .int i, _, h => by cases h; exact .int i
  | .str x, _, h => by cases h; exact .str x
  | .list ds, _, h => by
    cases h with
    | lst n hs ha => exact .lst (kl _ _ n hs).1 (kl _ _ n hs).2 (DAs.mono kl kt ds ha)
  | .tuple ds, _, h => by
    cases h with
    | tup hs ha => exact .tup (kt _ _ hs) (DAs.mono kl kt ds ha)
  | .dict _, _, h => by cases h
theorem DAs.mono {a a' : Addr} {H H' : Hp} (kl : ∀ p xs, p ≠ a → H p = some (.lst xs) → p ≠ a' ∧ H' p = some (.lst xs)) (kt : ∀ p xs, H p = some (.tup xs) → H' p = some (.tup xs)) : ∀ (ds : List PyData) {vs : List V}, DAs a H vs ds → DAs a' H' vs ds
  | [], _, h => by cases h; exact .nil
  | d :: ds, _, h => by
    cases h with
    | cons h1 h2 => exact .cons (DA.mono kl kt d h1) (DAs.mono kl kt ds h2)
end
mutual
theorem DA.dp {K : PySem.W.Frag} {a : Addr} {H : Hp} : ∀ (d : PyData) {v : V}, DA a H v d → Dp K H v d
  | .none, _, h => by cases h; exact .non
  | .bool b, _, h => by cases h; exact .bl b
  | .int i, _, h => by cases h; exact .int i
  | .str x, _, h => by cases h; exact .str x
  | .list ds, _, h => by
    cases h with
    | lst n hs ha => exact .lst (.inl (.inl hs)) (DAs.dp ds ha)
  | .tuple ds, _, h => by
    cases h with
    | tup hs ha => exact .tup (.inl (.inl hs)) (DAs.dp ds ha)
  | .dict _, _, h => by cases h
theorem DAs.dp {K : PySem.W.Frag} {a : Addr} {H : Hp} : ∀ (ds : List PyData) {vs : List V}, DAs a H vs ds → DpAll K H vs ds
  | [], _, h => by cases h; exact .nil
  | d :: ds, _, h => by
    cases h with
    | cons h1 h2 => exact .cons (DA.dp d h1) (DAs.dp ds h2)
end
theorem pd_set {α β : Type} {F : α → β → Prop} {x : α} {p : β} (r : F x p) : ∀ {xs : List α} {ps : List β} (i : Nat), Paired F xs ps → Paired F (xs.set i x) (ps.set i p)
  | _, _, _, .nil => .nil
  | _, _, 0, .cons _ t => .cons r t
  | _, _, i + 1, .cons q t => .cons q (pd_set r i t)
/-- no deeper than d, nowhere longer than L -/
def lim : Nat → Nat → PyData → Prop
  | _, _, .none => True
  | _, _, .bool _ => True
  | _, _, .int _ => True
  | _, _, .str x => x.cps.all (· < 0x110000) = true
  | 0, _, .list _ => False
  | 0, _, .tuple _ => False
  | d + 1, L, .list xs => xs.length ≤ L ∧ ∀ x ∈ xs, lim d L x
  | d + 1, L, .tuple xs => xs.length ≤ L ∧ ∀ x ∈ xs, lim d L x
  | _, _, .dict _ => False
theorem lim.mono {L L' : Nat} (hL : L ≤ L') : ∀ {d d' : Nat} {t : PyData}, d ≤ d' → lim d L t → lim d' L' t
  | d, d', .none, _, _ => by cases d' <;> trivial
  | d, d', .bool _, _, _ => by cases d' <;> trivial
  | d, d', .int _, _, _ => by cases d' <;> trivial
  | d, d', .str x, _, h => by cases d <;> cases d' <;> exact h
  | 0, _, .list _, _, h => h.elim
  | 0, _, .tuple _, _, h => h.elim
  | d + 1, 0, .list _, h, _ => absurd h (Nat.not_succ_le_zero d)
  | d + 1, 0, .tuple _, h, _ => absurd h (Nat.not_succ_le_zero d)
  | d + 1, d' + 1, .list xs, h, ⟨h1, h2⟩ => ⟨Nat.le_trans h1 hL, fun x hx => lim.mono hL (Nat.le_of_succ_le_succ h) (h2 x hx)⟩
  | d + 1, d' + 1, .tuple xs, h, ⟨h1, h2⟩ => ⟨Nat.le_trans h1 hL, fun x hx => lim.mono hL (Nat.le_of_succ_le_succ h) (h2 x hx)⟩
  | d, _, .dict _, _, h => by cases d <;> exact h.elim
theorem lim_int {d L : Nat} {i : Int} : lim d L (.int i) := by cases d <;> trivial
/-! ## what a value is -/
def intD : PyData → Bool
  | .int _ => true
  | _ => false
def verD (n : Int) : PyData → Bool
  | .int i => decide (0 ≤ i ∧ i < n)
  | _ => false
def versD (n : Int) : PyData → Bool
  | .tuple ds => ds.all (verD n)
  | _ => false
theorem allI_of : ∀ {ds : List PyData}, ds.all intD = true → ∃ ns : List Int, ds = ns.map PyData.int
  | [], _ => ⟨[], rfl⟩
  | d :: ds, h => by
    rw [List.all_cons, Bool.and_eq_true] at h
    obtain ⟨ns, rfl⟩ := allI_of h.2
    cases d with
    | int i => exact ⟨i :: ns, rfl⟩
    | _ => exact absurd h.1 Bool.false_ne_true
theorem verD_int {n : Int} {d : PyData} (h : verD n d = true) : intD d = true := by
  cases d <;> first | rfl | exact absurd h Bool.false_ne_true
theorem allV_of {n : Int} {ds : List PyData} (h : ds.all (verD n) = true) : ∃ ns : List Int, ds = ns.map PyData.int ∧ ∀ z ∈ ns, 0 ≤ z ∧ z < n := by
  obtain ⟨ns, rfl⟩ := allI_of (List.all_eq_true.mpr fun d hd => verD_int (List.all_eq_true.mp h d hd))
  refine ⟨ns, rfl, fun z hz => ?_⟩
  have := List.all_eq_true.mp h _ (List.mem_map.mpr ⟨z, hz, rfl⟩)
  exact of_decide_eq_true this
theorem versD_of {n : Int} {d : PyData} (h : versD n d = true) : ∃ ns : List Int, d = .tuple (ns.map PyData.int) ∧ ∀ z ∈ ns, 0 ≤ z ∧ z < n := by
  cases d with
  | tuple ds =>
    obtain ⟨ns, rfl, b⟩ := allV_of h
    exact ⟨ns, rfl, b⟩
  | _ => exact absurd h Bool.false_ne_true
theorem versD_ints {n : Int} {ns : List Int} : versD n (.tuple (ns.map PyData.int)) = decide (∀ z ∈ ns, 0 ≤ z ∧ z < n) := by
  show (ns.map PyData.int).all (verD n) = _
  rw [List.all_map]
  apply Bool.eq_iff_iff.mpr
  rw [List.all_eq_true, decide_eq_true_eq]
  exact ⟨fun h z hz => of_decide_eq_true (h z hz), fun h z hz => decide_eq_true (h z hz)⟩
theorem dp_ints {K : PySem.W.Frag} {H : Hp} : ∀ {ns : List Int} {vs : List V}, DpAll K H vs (ns.map PyData.int) → vs = ns.map V.int
  | [], _, h => by cases h; rfl
  | n :: ns, _, h => by
    cases h with
    | cons h1 h2 =>
      cases h1
      rw [dp_ints h2]
      rfl
/-! # slices of tuples, the whole too -/
section
variable {X : Cx} {K : PySem.W.Frag} {H : Hp} {Q : VK}
theorem sl_tupAK (h : X.K = K) : SlR X (rSlA K) := h ▸ sl_tupA
theorem cutV_whole (xs : List V) {lo hi : Option Int} (h : HT.sIx xs.length 0 lo = 0 ∧ HT.sIx xs.length xs.length hi = xs.length) : cutV xs lo hi = xs := by
  unfold cutV
  rw [h.1, h.2]
  simp
theorem r_slA {a : Addr} {xs : List V} {lo hi : Option Int} (h : SqT K H a xs) (q : ∀ p H', Same H H' → SqT K H' p (cutV xs lo hi) → (H a = some (.tup xs) → H' p = some (.tup (cutV xs lo hi))) → Q (.ref p) H') : rSlA K (.ref a) lo hi H Q :=
  ⟨a, xs, rfl, h, fun w => q a H (fun _ _ h => h) (by rw [cutV_whole xs w]; exact h) (fun e => by rw [cutV_whole xs w]; exact e), fun _ p hp => q p _ (same_new hp) (.inl (.inl upd_same)) fun _ => upd_same⟩
/-! # zip, d.items() -/
end

set_option Elab.async false
set_option linter.all false
set_option maxRecDepth 100000
set_option maxHeartbeats 4000000
open PySem PySem.Spec PyProof.Rows PySem.SeqAt

theorem dict_eq_declines_int (l : Addr) (es : Array DictEntry) (n : Nat) (dd : Option Addr) (sl : Array (Option Value)) (b : Int) (u : Tok) :
    Meets (Builtin.«dict.__eq__» ⟨[.ref l, .int b u], []⟩) (fun _ R s => s.heap.get? l = some { cls := .type "dict", dict := dd, data := .dict es n, slots := sl } ∧ R (.ok (.ret .notImplemented)) s) :=
  .of_wp fun prog w A R s h => by obtain ⟨hp, g, d, tk, os⟩ := s; obtain ⟨hl, h⟩ := h; have f1 := PySem.F.sub_int_dict; wp_walk using AutoSeq1.wpAny_loadPart' hl; exact ⟨_, rfl, h⟩
theorem int_eq_declines_dict (b : Int) (u : Tok) (l : Addr) (c : Value) (es : Array DictEntry) (n : Nat) (dd : Option Addr) (sl : Array (Option Value)) :
    Meets (Builtin.«int.__eq__» ⟨[.int b u, .ref l], []⟩) (fun _ R s => s.heap.get? l = some { cls := c, dict := dd, data := .dict es n, slots := sl } ∧ R (.ok (.ret .notImplemented)) s) :=
  .of_wp fun prog w A R s h => by obtain ⟨hp, g, d, tk, os⟩ := s; obtain ⟨hl, h⟩ := h; wp_walk using AutoSeq1.wpAny_loadPart' hl, wpAny_load hl; exact ⟨_, rfl, h⟩
theorem rc_dict_int {A : Around} {s : Shared} {l : Addr} {es : Array DictEntry} {n : Nat} {dd : Option Addr} {sl : Array (Option Value)} (b : Int) (u : Tok) (ho : s.heap.get? l = some { cls := .type "dict", dict := dd, data := .dict es n, slots := sl }) (hu : A.units < cLine) : RcAt A s (.ref l) (.int b u) false := fun prog w E Q h =>
  rc_eq_decline_or (k := false) ⟨_, ho, rfl⟩ (typeIs_int s b u) (by decide) PySem.F.sub_int_dict PySem.F.slot_dict_eq PySem.F.slot_int_eq_refl
    (fun _ hq => call_meets PySem.F.slot_dict_eq ⟨_, ho, rfl⟩ PySem.F.entry_dict_eq (PySem.F.args_dict_eq_2 _ _) (dict_eq_declines_int l es n dd sl b u) ⟨ho, hq⟩)
    (fun _ hq => call_meets PySem.F.slot_int_eq_refl (typeIs_int s b u) PySem.F.entry_int_eq (PySem.F.args_int_eq_2 _ _) (int_eq_declines_dict b u l (.type "dict") es n dd sl) ⟨ho, hq⟩)
    (fun _ hq => wpAny_of_eq (rfl : isSame (.ref l) (.int b u) = pure false) hq) (.inr hu) h
open L2
section
variable {X : Cx}
def rOr2 (r1 r2 : R2) : R2 := fun x y H Q => r1 x y H Q ∨ r2 x y H Q
theorem op_or2 {f : Value → Value → Sem Value} {r1 r2 : R2} (h1 : OpR X f r1) (h2 : OpR X f r2) : OpR X f (rOr2 r1 r2) := fun pins s σ H x y v u Q I rx ry h => h.elim (h1 pins s σ H x y v u Q I rx ry) (h2 pins s σ H x y v u Q I rx ry)
/-- t == (): by length alone -/
def rEqTE (K : PySem.W.Frag) : R2 := fun x y H Q => ∃ a b xs, x = .ref a ∧ y = .ref b ∧ SqT K H a xs ∧ SqT K H b [] ∧ Q (.bl xs.isEmpty) H
theorem op_eqTE (hu : X.A.units < cLine) : OpR X (compareOp .Eq) (rEqTE X.K) := by
  intro pins s σ H x y v u Q I rx ry h
  obtain ⟨a, b, xs, rfl, rfl, ha, hb, q⟩ := h
  cases rx
  cases ry
  obtain ⟨its, r1, p1, _⟩ := I.tuple ha
  obtain ⟨its2, r2, p2, _⟩ := I.tuple hb
  cases r2
  refine eq_tupleAt (e := fun _ => true) p1 p2 hu (fun j h1 h2 => absurd h2 (by simp)) ?_
  have e : ((List.range (min its.toArray.size ([] : List Value).toArray.size)).all (fun _ => true) && its.toArray.size == ([] : List Value).toArray.size) = xs.isEmpty := by
    cases r1 with
    | nil => rfl
    | cons _ _ => rfl
  rw [e]
  exact ⟨.bl _, H, I, rfl, q⟩
/-- {..} == i -/
def rEqDI : R2 := fun x y H Q => ∃ a kvs i, x = .ref a ∧ y = .int i ∧ H a = some (.dK kvs) ∧ Q (.bl false) H
theorem op_eqDI (hu : X.A.units < cLine) : OpR X (compareOp .Eq) rEqDI := by
  intro pins s σ H x y v u Q I rx ry h
  obtain ⟨a, kvs, i, rfl, rfl, ha, q⟩ := h
  obtain rfl : v = Value.ref a := rx
  obtain ⟨_, _, _, _, d⟩ := (show ObjOk X.prog X.w H s.heap a (.dK kvs) from I.hok a _ ha)
  obtain ⟨o, es, ep, ho, hx, hd, _⟩ := d
  obtain ⟨cls, dd, data, sl⟩ := o
  obtain rfl : cls = .type "dict" := hx.1
  obtain rfl : data = .dict es ep := hd
  obtain ⟨t, rfl⟩ := ry
  exact rc_dict_int _ _ ho hu _ _ _ _ ⟨.bl _, H, I, rfl, q⟩
/-- [..] == i -/
def rEqLI : R2 := fun x y H Q => ∃ a xs i, x = .ref a ∧ y = .int i ∧ H a = some (.lst xs) ∧ Q (.bl false) H
theorem op_eqLI (hu : X.A.units < cLine) : OpR X (compareOp .Eq) rEqLI := by
  intro pins s σ H x y v u Q I rx ry h
  obtain ⟨a, xs, i, rfl, rfl, ha, q⟩ := h
  obtain rfl : v = Value.ref a := rx
  obtain ⟨t, rfl⟩ := ry
  obtain ⟨its, _, p, _⟩ := I.list (Or.inl (Or.inl ha))
  exact RcAt.list_int _ _ p.isList hu _ _ _ _ ⟨.bl _, H, I, rfl, q⟩
/-- what is asked of a drawn value -/
def rEqX (K : PySem.W.Frag) : R2 := rOr2 (rEqTE K) (rOr2 rEqDI (rOr2 rEqLI (rEqD K)))
theorem op_eqX {K : PySem.W.Frag} (e : X.K = K) (hu : X.A.units + 64 < cLine) : OpR X (compareOp .Eq) (rEqX K) := e ▸ op_or2 (op_eqTE (by omega)) (op_or2 (op_eqDI (by omega)) (op_or2 (op_eqLI (by omega)) (op_eqD hu)))
/-- i < j, or of tuples of ints -/
def rLtIT (K : PySem.W.Frag) : R2 := rOr2 (rI0 fun i j => .bl (decide (i < j))) (rLtT K)
theorem op_ltIT {K : PySem.W.Frag} (e : X.K = K) (hu : X.A.units + 64 < cLine) : OpR X (compareOp .Lt) (rLtIT K) := e ▸ op_or2 op_lt (op_ltT (by omega))
end
section
variable {K : PySem.W.Frag} {H : Hp} {Q : VK}
theorem r_eqTE {a b : Addr} {xs : List V} (ha : SqT K H a xs) (hb : SqT K H b []) (q : Q (.bl xs.isEmpty) H) : rEqX K (.ref a) (.ref b) H Q := .inl ⟨a, b, xs, rfl, rfl, ha, hb, q⟩
theorem r_eqDI {a : Addr} {kvs : List (L2.Key × V)} {i : Int} (ha : H a = some (.dK kvs)) (q : Q (.bl false) H) : rEqX K (.ref a) (.int i) H Q := .inr (.inl ⟨a, kvs, i, rfl, rfl, ha, q⟩)
theorem r_eqXD {x y : V} (h : rEqD K x y H Q) : rEqX K x y H Q := .inr (.inr (.inr h))
theorem r_eqLIX {a : Addr} {xs : List V} {i : Int} (ha : H a = some (.lst xs)) (q : Q (.bl false) H) : rEqX K (.ref a) (.int i) H Q := .inr (.inr (.inl ⟨a, xs, i, rfl, rfl, ha, q⟩))
theorem r_ltI {i j : Int} (q : Q (.bl (decide (i < j))) H) : rLtIT K (.int i) (.int j) H Q := .inl ⟨i, j, rfl, rfl, q⟩
theorem r_ltT {x y : V} (h : rLtT K x y H Q) : rLtIT K x y H Q := .inr h
end

set_option Elab.async false
set_option linter.all false
set_option maxRecDepth 100000
set_option maxHeartbeats 4000000
open PySem PySem.Spec PyProof.Rows L2 LamX RZ
/-- a tuple on the heap -/
abbrev ST (H : Hp) (p : Addr) (xs : List V) : Prop := H p = some (.tup xs) ∨ ∃ o, H p = some (.frz o (.tup xs))
/-! # data of any kind, empty dicts too; none of whose lists and dicts stands at a -/
mutual
inductive DX (a : Addr) (H : Hp) : V → PyData → Prop
  | non : DX a H .non .none
  | bl (b : Bool) : DX a H (.bl b) (.bool b)
  | int (i : Int) : DX a H (.int i) (.int i)
  | str (x : Str) : DX a H (.str x) (.str x)
  | lst {p : Addr} {xs : List V} {ds : List PyData} : p ≠ a → H p = some (.lst xs) → DXs a H xs ds → DX a H (.ref p) (.list ds)
  | tup {p : Addr} {xs : List V} {ds : List PyData} : ST H p xs → DXs a H xs ds → DX a H (.ref p) (.tuple ds)
  | dk {p : Addr} : p ≠ a → H p = some (.dK []) → DX a H (.ref p) (.dict [])
inductive DXs (a : Addr) (H : Hp) : List V → List PyData → Prop
  | nil : DXs a H [] []
  | cons {v : V} {vs : List V} {d : PyData} {ds : List PyData} : DX a H v d → DXs a H vs ds → DXs a H (v :: vs) (d :: ds)
end
theorem ST.keep {a : Addr} {H H' : Hp} (k : ∀ p o, (∀ ps, o ≠ .tbl ps) → (p ≠ a ∨ ∀ xs, o ≠ .lst xs) → H p = some o → H' p = some o) {p : Addr} {xs : List V} (h : ST H p xs) : ST H' p xs :=
  h.elim (fun h => .inl (k _ _ (fun ps z => nomatch z) (.inr fun xs z => nomatch z) h)) fun ⟨o, h⟩ => .inr ⟨o, k _ _ (fun ps z => nomatch z) (.inr fun xs z => nomatch z) h⟩
theorem keep_same {a : Addr} {H H' : Hp} (s : Same H H') : ∀ p o, (∀ ps, o ≠ .tbl ps) → (p ≠ a ∨ ∀ xs, o ≠ .lst xs) → H p = some o → H' p = some o := fun p o _ _ e => s p o e
theorem keep_ext {a : Addr} {H H' : Hp} (s : ExtN H H') : ∀ p o, (∀ ps, o ≠ .tbl ps) → (p ≠ a ∨ ∀ xs, o ≠ .lst xs) → H p = some o → H' p = some o := fun p o n _ e => s p o e n
theorem ST.same {H H' : Hp} (s : Same H H') {p : Addr} {xs : List V} (h : ST H p xs) : ST H' p xs := h.keep (a := 0) (keep_same s)
theorem ST.ext {H H' : Hp} (s : ExtN H H') {p : Addr} {xs : List V} (h : ST H p xs) : ST H' p xs := h.keep (a := 0) (keep_ext s)
mutual
theorem DX.mono {a : Addr} {H H' : Hp} (k : ∀ p o, (∀ ps, o ≠ .tbl ps) → (p ≠ a ∨ ∀ xs, o ≠ .lst xs) → H p = some o → H' p = some o) : ∀ (d : PyData) {v : V}, DX a H v d → DX a H' v d
  | .none, _, h => by cases h; exact .non
  | .bool b, _, h => by cases h; exact .bl b
  | .int i, _, h => by cases h; exact .int i
  | .str x, _, h => by cases h; exact .str x
  | .list ds, _, h => by
    cases h with
    | lst n hs ha => exact .lst n (k _ _ (fun ps z => nomatch z) (.inl n) hs) (DXs.mono k ds ha)
  | .tuple ds, _, h => by
    cases h with
    | tup hs ha => exact .tup (ST.keep k hs) (DXs.mono k ds ha)
  | .dict _, _, h => by
    cases h with
    | dk n hs => exact .dk n (k _ _ (fun ps z => nomatch z) (.inl n) hs)
theorem DXs.mono {a : Addr} {H H' : Hp} (k : ∀ p o, (∀ ps, o ≠ .tbl ps) → (p ≠ a ∨ ∀ xs, o ≠ .lst xs) → H p = some o → H' p = some o) : ∀ (ds : List PyData) {vs : List V}, DXs a H vs ds → DXs a H' vs ds
  | [], _, h => by cases h; exact .nil
  | d :: ds, _, h => by
    cases h with
    | cons h1 h2 => exact .cons (DX.mono k d h1) (DXs.mono k ds h2)
end
theorem DX.same {a : Addr} {H H' : Hp} (s : Same H H') {d : PyData} {v : V} (h : DX a H v d) : DX a H' v d := DX.mono (keep_same s) d h
theorem DXs.same {a : Addr} {H H' : Hp} (s : Same H H') {ds : List PyData} {vs : List V} (h : DXs a H vs ds) : DXs a H' vs ds := DXs.mono (keep_same s) ds h
theorem DX.ext {a : Addr} {H H' : Hp} (s : ExtN H H') {d : PyData} {v : V} (h : DX a H v d) : DX a H' v d := DX.mono (keep_ext s) d h
theorem DXs.ext {a : Addr} {H H' : Hp} (s : ExtN H H') {d : List PyData} {v : List V} (h : DXs a H v d) : DXs a H' v d := DXs.mono (keep_ext s) d h
theorem DXs.pd {a : Addr} {H : Hp} : ∀ (ds : List PyData) {vs : List V}, DXs a H vs ds → Paired (DX a H) vs ds
  | [], _, h => by cases h; exact .nil
  | d :: ds, _, h => by
    cases h with
    | cons h1 h2 => exact .cons h1 (DXs.pd ds h2)
theorem DXs.len {a : Addr} {H : Hp} {xs : List V} {ds : List PyData} (h : DXs a H xs ds) : xs.length = ds.length := (DXs.pd _ h).length
/-- no deeper than d, nowhere longer than L -/
def limX : Nat → Nat → PyData → Prop
  | _, _, .none => True
  | _, _, .bool _ => True
  | _, _, .int _ => True
  | _, _, .str x => x.cps.all (· < 0x110000) = true
  | 0, _, .list _ => False
  | 0, _, .tuple _ => False
  | d + 1, L, .list xs => xs.length ≤ L ∧ ∀ x ∈ xs, limX d L x
  | d + 1, L, .tuple xs => xs.length ≤ L ∧ ∀ x ∈ xs, limX d L x
  | _, _, .dict _ => True
theorem limX.mono {L L' : Nat} (hL : L ≤ L') : ∀ {d d' : Nat} {t : PyData}, d ≤ d' → limX d L t → limX d' L' t
  | d, d', .none, _, _ => by cases d' <;> trivial
  | d, d', .bool _, _, _ => by cases d' <;> trivial
  | d, d', .int _, _, _ => by cases d' <;> trivial
  | d, d', .str x, _, h => by cases d <;> cases d' <;> exact h
  | 0, _, .list _, _, h => h.elim
  | 0, _, .tuple _, _, h => h.elim
  | d + 1, 0, .list _, h, _ => absurd h (Nat.not_succ_le_zero d)
  | d + 1, 0, .tuple _, h, _ => absurd h (Nat.not_succ_le_zero d)
  | d + 1, d' + 1, .list xs, h, ⟨h1, h2⟩ => ⟨Nat.le_trans h1 hL, fun x hx => limX.mono hL (Nat.le_of_succ_le_succ h) (h2 x hx)⟩
  | d + 1, d' + 1, .tuple xs, h, ⟨h1, h2⟩ => ⟨Nat.le_trans h1 hL, fun x hx => limX.mono hL (Nat.le_of_succ_le_succ h) (h2 x hx)⟩
  | d, d', .dict _, _, h => by cases d' <;> trivial
theorem limX_int {d L : Nat} {i : Int} : limX d L (.int i) := by cases d <;> trivial
theorem limX_mk {d L : Nat} {ds : List PyData} (h : ds.length ≤ L) (k : ∀ x ∈ ds, limX d L x) : limX (d + 1) L (.tuple ds) := ⟨h, k⟩
theorem limX_mkl {d L : Nat} {ds : List PyData} (h : ds.length ≤ L) (k : ∀ x ∈ ds, limX d L x) : limX (d + 1) L (.list ds) := ⟨h, k⟩
theorem limX_tup {d L : Nat} {ds : List PyData} (h : limX d L (.tuple ds)) : ∃ d', d = d' + 1 ∧ ds.length ≤ L ∧ ∀ x ∈ ds, limX d' L x := by
  cases d with
  | zero => exact h.elim
  | succ d => exact ⟨d, rfl, h.1, h.2⟩
section
variable {K : PySem.W.Frag} {H : Hp} {Q : VK}
theorem r_catX {l b : Addr} {xs zs : List V} (h1 : ST H l xs) (h2 : ST H b zs) (hz : xs.length + zs.length ≤ 100000) (q : ∀ p H', Same H H' → ST H' p (xs ++ zs) → Q (.ref p) H') : rCatA K (.ref l) (.ref b) H Q := by
  refine ⟨l, b, xs, zs, rfl, rfl, .inl h1, .inl h2, small_len hz, fun e => ?_, fun e1 e2 => ?_, fun e1 e2 p hp => q p _ (same_new hp) (.inl upd_same)⟩
  · subst e
    exact q b H (fun _ _ h => h) h2
  · subst e2
    refine q l H (fun _ _ h => h) ?_
    rw [List.append_nil]
    exact h1
end

set_option Elab.async false
set_option linter.all false
set_option maxRecDepth 100000
set_option maxHeartbeats 4000000
open PySem PySem.Spec PyProof.Rows L2 LamX RZ
/-! # data of any kind in a tuple, or not -/
def rNinDT (K : PySem.W.Frag) : R2 := fun x y H Q => ∃ d ds, Dp K H x d ∧ Dp K H y (.tuple ds) ∧ SeqAt.shaped d = true ∧ SeqAt.shaped (.tuple ds) = true ∧ Q (.bl (!ds.any fun z => PyData.eqv z d)) H
theorem op_ninDT {X : Cx} (hu : X.A.units + 65 < cLine) : OpR X (compareOp .NotIn) (rNinDT X.K) := by
  intro pins s σ H x y v u Q I rx ry h
  obtain ⟨d, ds, hd, he, sd, se, q⟩ := h
  obtain ⟨as, r1⟩ := Dp.reads I d x v hd rx
  obtain ⟨bs, r2⟩ := Dp.reads I (.tuple ds) y u he ry
  exact SeqAt.notIn_tuple_reads r2 r1 (SeqAt.canLay_of_shaped se) (SeqAt.canLay_of_shaped sd) (room_in_shaped sd hu) ⟨.bl _, H, I, rfl, q⟩
theorem op_ninDTK {X : Cx} {K : PySem.W.Frag} (h : X.K = K) (hu : X.A.units + 65 < cLine) : OpR X (compareOp .NotIn) (rNinDT K) := h ▸ op_ninDT hu
theorem layAll_ofY : ∀ {ds : List PyData}, (∀ d ∈ ds, d.canLay0 = true) → PyData.canLayAll0 ds = true
  | [], _ => by simp [PyData.canLayAll0]
  | d :: ds, h => by
    unfold PyData.canLayAll0
    rw [h d List.mem_cons_self, layAll_ofY fun x hx => h x (List.mem_cons_of_mem _ hx)]
    rfl
theorem depAll_ofY {D : Nat} : ∀ {ds : List PyData}, (∀ d ∈ ds, d.depth ≤ D) → PyData.depthAll ds ≤ D
  | [], _ => by simp [PyData.depthAll]
  | d :: ds, h => by
    have h1 := h d List.mem_cons_self
    have h2 := depAll_ofY fun x hx => h x (List.mem_cons_of_mem _ hx)
    simp only [PyData.depthAll]
    omega
theorem lim_lay : ∀ (D : Nat) {L : Nat} (t : PyData), lim D L t → t.canLay0 = true ∧ t.depth ≤ D
  | D, _, .none, _ => ⟨by simp [PyData.canLay0], by simp [PyData.depth]⟩
  | D, _, .bool _, _ => ⟨by simp [PyData.canLay0], by simp [PyData.depth]⟩
  | D, _, .int _, _ => ⟨by simp [PyData.canLay0], by simp [PyData.depth]⟩
  | D, _, .str _, h => ⟨by
    simp only [PyData.canLay0]
    cases D <;> exact h, by simp [PyData.depth]⟩
  | 0, _, .list _, h => h.elim
  | 0, _, .tuple _, h => h.elim
  | D + 1, _, .list xs, h => by
    refine ⟨?_, ?_⟩
    · unfold PyData.canLay0
      exact layAll_ofY fun x hx => (lim_lay D x (h.2 x hx)).1
    · have := depAll_ofY (D := D) fun x hx => (lim_lay D x (h.2 x hx)).2
      unfold PyData.depth
      omega
  | D + 1, _, .tuple xs, h => by
    refine ⟨?_, ?_⟩
    · unfold PyData.canLay0
      exact layAll_ofY fun x hx => (lim_lay D x (h.2 x hx)).1
    · have := depAll_ofY (D := D) fun x hx => (lim_lay D x (h.2 x hx)).2
      unfold PyData.depth
      omega
  | 0, _, .dict _, h => h.elim
  | D + 1, _, .dict _, h => h.elim
theorem lim_limX : ∀ (D : Nat) {L : Nat} (t : PyData), lim D L t → limX D L t
  | D, _, .none, _ => by cases D <;> trivial
  | D, _, .bool _, _ => by cases D <;> trivial
  | D, _, .int _, _ => by cases D <;> trivial
  | D, _, .str _, h => by cases D <;> exact h
  | 0, _, .list _, h => h.elim
  | 0, _, .tuple _, h => h.elim
  | D + 1, _, .list xs, h => ⟨h.1, fun x hx => lim_limX D x (h.2 x hx)⟩
  | D + 1, _, .tuple xs, h => ⟨h.1, fun x hx => lim_limX D x (h.2 x hx)⟩
  | 0, _, .dict _, h => h.elim
  | D + 1, _, .dict _, h => h.elim
theorem lim_shaped {D L : Nat} {t : PyData} (h : lim D L t) (hD : D ≤ 64) : SeqAt.shaped t = true := shaped_of (lim_lay D t h).1 (by have := (lim_lay D t h).2; omega)

set_option Elab.async false
set_option linter.all false
set_option maxRecDepth 100000
set_option maxHeartbeats 4000000
open PySem PySem.Spec PyProof.Rows L2 LamX RZ
/-! # data of any kind, none of whose lists stands in B -/
mutual
inductive DB (B : Addr → Prop) (H : Hp) : V → PyData → Prop
  | non : DB B H .non .none
  | bl (b : Bool) : DB B H (.bl b) (.bool b)
  | int (i : Int) : DB B H (.int i) (.int i)
  | str (x : Str) : DB B H (.str x) (.str x)
  | lst {p : Addr} {xs : List V} {ds : List PyData} : ¬ B p → H p = some (.lst xs) → DBs B H xs ds → DB B H (.ref p) (.list ds)
  | tup {p : Addr} {xs : List V} {ds : List PyData} : H p = some (.tup xs) → DBs B H xs ds → DB B H (.ref p) (.tuple ds)
inductive DBs (B : Addr → Prop) (H : Hp) : List V → List PyData → Prop
  | nil : DBs B H [] []
  | cons {v : V} {vs : List V} {d : PyData} {ds : List PyData} : DB B H v d → DBs B H vs ds → DBs B H (v :: vs) (d :: ds)
end
mutual
theorem DB.mono {B B' : Addr → Prop} {H H' : Hp} (kl : ∀ p xs, ¬ B p → H p = some (.lst xs) → ¬ B' p ∧ H' p = some (.lst xs)) (kt : ∀ p xs, H p = some (.tup xs) → H' p = some (.tup xs)) : ∀ (d : PyData) {v : V}, DB B H v d → DB B' H' v d
  | .none, _, h => by cases h; exact .non
  | .bool b, _, h => by cases h; exact .bl b
  | .int i, _, h => by cases h; exact .int i
  | .str x, _, h => by cases h; exact .str x
  | .list ds, _, h => by
    cases h with
    | lst n hs ha => exact .lst (kl _ _ n hs).1 (kl _ _ n hs).2 (DBs.mono kl kt ds ha)
  | .tuple ds, _, h => by
    cases h with
    | tup hs ha => exact .tup (kt _ _ hs) (DBs.mono kl kt ds ha)
  | .dict _, _, h => by cases h
theorem DBs.mono {B B' : Addr → Prop} {H H' : Hp} (kl : ∀ p xs, ¬ B p → H p = some (.lst xs) → ¬ B' p ∧ H' p = some (.lst xs)) (kt : ∀ p xs, H p = some (.tup xs) → H' p = some (.tup xs)) : ∀ (ds : List PyData) {vs : List V}, DBs B H vs ds → DBs B' H' vs ds
  | [], _, h => by cases h; exact .nil
  | d :: ds, _, h => by
    cases h with
    | cons h1 h2 => exact .cons (DB.mono kl kt d h1) (DBs.mono kl kt ds h2)
end
mutual
theorem DB.dp {K : PySem.W.Frag} {B : Addr → Prop} {H : Hp} : ∀ (d : PyData) {v : V}, DB B H v d → Dp K H v d
  | .none, _, h => by cases h; exact .non
  | .bool b, _, h => by cases h; exact .bl b
  | .int i, _, h => by cases h; exact .int i
  | .str x, _, h => by cases h; exact .str x
  | .list ds, _, h => by
    cases h with
    | lst n hs ha => exact .lst (.inl (.inl hs)) (DBs.dp ds ha)
  | .tuple ds, _, h => by
    cases h with
    | tup hs ha => exact .tup (.inl (.inl hs)) (DBs.dp ds ha)
  | .dict _, _, h => by cases h
theorem DBs.dp {K : PySem.W.Frag} {B : Addr → Prop} {H : Hp} : ∀ (ds : List PyData) {vs : List V}, DBs B H vs ds → DpAll K H vs ds
  | [], _, h => by cases h; exact .nil
  | d :: ds, _, h => by
    cases h with
    | cons h1 h2 => exact .cons (DB.dp d h1) (DBs.dp ds h2)
end
theorem DB.gr {B : Addr → Prop} {a : Addr} {H H' : Hp} {ys : List V} (hB : B a) (g : Gr a H H') (ha : H a = some (.lst ys)) {d : PyData} {v : V} (h : DB B H v d) : DB B H' v d :=
  DB.mono (fun p xs n e => ⟨n, g p _ (fun z => n (z ▸ hB)) e⟩) (fun p xs e => TK.of_gr g ha p xs e) d h
theorem DBs.gr {B : Addr → Prop} {a : Addr} {H H' : Hp} {ys : List V} (hB : B a) (g : Gr a H H') (ha : H a = some (.lst ys)) {ds : List PyData} {vs : List V} (h : DBs B H vs ds) : DBs B H' vs ds :=
  DBs.mono (fun p xs n e => ⟨n, g p _ (fun z => n (z ▸ hB)) e⟩) (fun p xs e => TK.of_gr g ha p xs e) ds h
theorem DB.same {B : Addr → Prop} {H H' : Hp} (s : Same H H') {d : PyData} {v : V} (h : DB B H v d) : DB B H' v d := DB.mono (fun p xs n e => ⟨n, s p _ e⟩) (fun p xs e => s p _ e) d h
theorem DBs.same {B : Addr → Prop} {H H' : Hp} (s : Same H H') {ds : List PyData} {vs : List V} (h : DBs B H vs ds) : DBs B H' vs ds := DBs.mono (fun p xs n e => ⟨n, s p _ e⟩) (fun p xs e => s p _ e) ds h
theorem DB.ext {B : Addr → Prop} {H H' : Hp} (s : ExtN H H') {d : PyData} {v : V} (h : DB B H v d) : DB B H' v d := DB.mono (fun p xs n e => ⟨n, ext_lst s e⟩) (fun p xs e => ext_tup s e) d h
theorem DBs.pd {B : Addr → Prop} {H : Hp} : ∀ (ds : List PyData) {vs : List V}, DBs B H vs ds → Paired (DB B H) vs ds
  | [], _, h => by cases h; exact .nil
  | d :: ds, _, h => by
    cases h with
    | cons h1 h2 => exact .cons h1 (DBs.pd ds h2)
theorem DBs.of {B : Addr → Prop} {H : Hp} : ∀ {ds : List PyData} {vs : List V}, Paired (DB B H) vs ds → DBs B H vs ds
  | _, _, .nil => .nil
  | _, _, .cons h r => .cons h (DBs.of r)
theorem DBs.app {B : Addr → Prop} {H : Hp} {xs ys : List V} {ds es : List PyData} (h1 : DBs B H xs ds) (h2 : DBs B H ys es) : DBs B H (xs ++ ys) (ds ++ es) := DBs.of (pd_append (DBs.pd _ h1) (DBs.pd _ h2))
theorem DBs.take {B : Addr → Prop} {H : Hp} {xs : List V} {ds : List PyData} (n : Nat) (h : DBs B H xs ds) : DBs B H (xs.take n) (ds.take n) := DBs.of (pd_take n (DBs.pd _ h))
theorem DBs.drop {B : Addr → Prop} {H : Hp} {xs : List V} {ds : List PyData} (n : Nat) (h : DBs B H xs ds) : DBs B H (xs.drop n) (ds.drop n) := DBs.of (pd_drop n (DBs.pd _ h))
theorem DBs.ints {B : Addr → Prop} {H : Hp} : ∀ (ns : List Int), DBs B H (ns.map V.int) (ns.map PyData.int)
  | [] => .nil
  | n :: ns => .cons (.int n) (DBs.ints ns)
theorem DBs.len {B : Addr → Prop} {H : Hp} {xs : List V} {ds : List PyData} (h : DBs B H xs ds) : xs.length = ds.length := (DBs.pd _ h).length
mutual
theorem DB.dx {B : Addr → Prop} {a : Addr} {H : Hp} (hB : B a) : ∀ (d : PyData) {v : V}, DB B H v d → DX a H v d
  | .none, _, h => by cases h; exact .non
  | .bool b, _, h => by cases h; exact .bl b
  | .int i, _, h => by cases h; exact .int i
  | .str x, _, h => by cases h; exact .str x
  | .list ds, _, h => by
    cases h with
    | lst n hs ha => exact .lst (fun z => n (z ▸ hB)) hs (DBs.dx hB ds ha)
  | .tuple ds, _, h => by
    cases h with
    | tup hs ha => exact .tup (.inl hs) (DBs.dx hB ds ha)
  | .dict _, _, h => by cases h
theorem DBs.dx {B : Addr → Prop} {a : Addr} {H : Hp} (hB : B a) : ∀ (ds : List PyData) {vs : List V}, DBs B H vs ds → DXs a H vs ds
  | [], _, h => by cases h; exact .nil
  | d :: ds, _, h => by
    cases h with
    | cons h1 h2 => exact .cons (DB.dx hB d h1) (DBs.dx hB ds h2)
end
/-- a list of B may be another one -/
theorem DB.upd {B : Addr → Prop} {f : Addr} {H : Hp} {xs ys : List V} {d : PyData} {v : V} (hB : B f) (hf : H f = some (.lst xs)) (h : DB B H v d) : DB B (L2.upd H f (.lst ys)) v d :=
  DB.mono (fun p zs n e => ⟨n, (upd_ne fun z => n (by rw [z]; exact hB)).trans e⟩) (fun p zs e => (upd_ne fun z => by rw [z, hf] at e; cases e).trans e) d h

set_option Elab.async false
set_option linter.all false
set_option maxRecDepth 100000
set_option maxHeartbeats 4000000
open PySem PySem.Spec PySem.W PySem.Calls PyProof.Rows L2 LamX
/-! # sorted(xs, key=f), the keys ints: what f keeps is told by J -/
section
variable {prog : Program} {w : World} {A : Around}
end
/-! # in the layer -/
section
variable {X : Cx} {pins : List (Addr × Obj)} {σ : L2.St} {H : Hp} {s : Shared}
end
section
variable {X : Cx} {pins : List (Addr × Obj)} {σ : L2.St} {H : Hp} {s : Shared}
end

set_option Elab.async false
set_option linter.all false
set_option maxRecDepth 100000
set_option maxHeartbeats 4000000
/-! # forests -/
/-! # union-find -/
set_option Elab.async false
set_option linter.all false
set_option maxRecDepth 100000
set_option maxHeartbeats 4000000
open PySem PySem.Spec PySem.W PySem.Calls PyProof.Rows L2 LamX
/-! # o[i] op= e, over a list -/
section
variable {X : Cx}
end
section
variable {K : PySem.W.Frag} {σ : L2.St} {H : Hp} {Q : VK} {nx bk ct : L2.St → Hp → Prop}
end
/-! # name = {..} on one line, the name a local -/
section
variable {X : Cx}
end
/-! # a op b op c op d, as a value -/
section
variable {X : Cx} {a b c d : Expr} {ta tb tc td : TE} {pos : Pos}
end

set_option Elab.async false
set_option linter.all false
set_option maxRecDepth 100000
set_option maxHeartbeats 4000000
open PySem PySem.Spec PyProof.Rows L2
/-! # f'{m:b}' of a small m, and how many ones it has -/
def binS (m : Nat) : Str := ⟨((Nat.toDigits 2 m).map Char.toNat).toArray⟩
/-- how many members a mask has -/
def pop (m : Nat) : Nat := ((List.range 8).filter fun k => m.testBit k).length
def FmtB (m : Nat) : Prop := ∀ t u, Builtin.«int.__format__» { pos := [Value.int (m : Nat) t, Value.str (Str.ofString "b") u] } = retStr (binS m)
def AllB (P : Nat → Prop) : Nat → Prop
  | 0 => True
  | n + 1 => P n ∧ AllB P n
theorem AllB.get {P : Nat → Prop} : ∀ {n : Nat}, AllB P n → ∀ m < n, P m
  | n + 1, h, m, l => by
    by_cases c : m = n
    · rw [c]
      exact h.1
    · exact AllB.get h.2 m (by omega)
theorem fmt_all : AllB FmtB 128 := by
  repeat refine And.intro (by intro t u; kernel_rfl) ?_
  exact True.intro
theorem gives_fmtB {m : Nat} (h : m < 128) (t u : Tok) : Gives (Builtin.«int.__format__» { pos := [Value.int (m : Nat) t, Value.str (Str.ofString "b") u] }) (Made.str (binS m)) := by
  rw [AllB.get fmt_all m h t u]
  exact gives_retStr _
theorem binS_len : ∀ m < 128, (binS m).length ≤ 8 := by decide +kernel
theorem binS_count : ∀ m < 128, Txt.count (binS m) (Str.ofString "1") = (pop m : Nat) := by decide +kernel
def tFmtB (te : TE) : TE := fun σ H Q => te σ H fun x H1 => ∃ m : Nat, x = .int (m : Nat) ∧ m < 128 ∧ Q (.str (binS m)) H1
theorem pe_fmtB {X : Cx} {e : Expr} {te : TE} {j : Nat} {p1 p2 pos : Pos} (he : PE X e te) : PE X (.FormattedValue e (-1) (some (.JoinedStr [.Constant (.str (Str.ofString "b")) j p1] p2)) pos) (tFmtB te) where
  run pins s σ H Q I h := by
    refine wpAny_FormattedValue_spec (thn (he.run pins s σ H _ I h) fun v s1 hv => ?_)
    obtain ⟨x, H1, I1, r1, m, rfl, lm, q⟩ := hv
    obtain ⟨t, rfl⟩ := r1
    refine thn ((pe_joined1 (pe_str (x := Str.ofString "b"))).run pins s1 σ H1 (fun y H2 => y = .str (Str.ofString "b") ∧ H2 = H1) I1 ⟨rfl, rfl⟩) fun r s2 hr => ?_
    obtain ⟨y, H2, I2, r2, rfl, rfl⟩ := hr
    obtain ⟨t2, rfl⟩ := r2
    refine ⟨_, _, rfl, wpAny_formatField_spec (by rfl) (fun s' => typeIs_int s' _ _) F.slot_int_format F.entry_int_format F.args_int_format_2 (fun u => gives_fmtB lm t u) ?_ (by decide) (Nat.le_trans (binS_len m lm) (by decide))⟩
    exact ⟨.str (binS m), H2, I2.tok _, ⟨_, rfl⟩, q⟩

set_option Elab.async false
set_option linter.all false
set_option maxRecDepth 100000
set_option maxHeartbeats 4000000
open PySem PySem.Spec PySem.W PySem.Calls PyProof.Rows L2 LamX
/-! # sorted(xs, key=a def) -/
section
variable {X : Cx} {pins : List (Addr × Obj)} {σ : L2.St} {H : Hp} {s : Shared}
end
set_option Elab.async false
set_option linter.all false
set_option maxRecDepth 100000
set_option maxHeartbeats 4000000
open PySem PySem.Spec PySem.W PySem.Calls PyProof.Rows L2 LamX
/-! # min(xs, key=a def), xs a list -/
section
variable {prog : Program} {w : World} {A : Around}
end
section
variable {X : Cx} {pins : List (Addr × Obj)} {σ : L2.St} {H : Hp} {s : Shared}
end
set_option Elab.async false
set_option linter.all false
set_option maxRecDepth 100000
set_option maxHeartbeats 4000000
open PySem PySem.Spec PySem.W PySem.Calls PyProof.Rows L2 LamX
/-! # max(xs, default=d), xs a list of ints -/
set_option Elab.async false
set_option linter.all false
set_option maxRecDepth 100000
set_option maxHeartbeats 4000000
open PySem PySem.Spec PyProof.Rows L2
/-! # least sets of bits that meet given sets of bits, below 2^7 -/
theorem pop_xor : ∀ X < 128, ∀ v < 7, X.testBit v = true → X ^^^ 2 ^ v < 128 ∧ pop (X ^^^ 2 ^ v) + 1 = pop X := by decide +kernel
theorem pop_or1 : ∀ X < 128, ∀ v < 7, X ||| 2 ^ v < 128 ∧ pop (X ||| 2 ^ v) ≤ pop X + 1 := by decide +kernel
theorem pop_zero : pop 0 = 0 := by decide
theorem bit_lt {a v : Nat} (h : a < 128) (t : a.testBit v = true) : v < 7 := by
  refine Nat.lt_of_not_le fun c => ?_
  have : a.testBit v = false := Nat.testBit_lt_two_pow (Nat.lt_of_lt_of_le h (show 2 ^ 7 ≤ 2 ^ v from Nat.pow_le_pow_right (by decide) c))
  rw [t] at this
  cases this
/-! ## how often a bit stands in the sets -/
/-! ## the greatest k of a list -/
/-! ## what the search finds -/
set_option Elab.async false
set_option linter.all false
set_option maxRecDepth 100000
set_option maxHeartbeats 4000000
open PySem PySem.Spec PyProof.Rows L2
set_option synthInstance.maxHeartbeats 0
set_option synthInstance.maxSize 100000
local macro_rules | `(tactic| walk_at "zs") => `(tactic| first | decide | omega | (dsimp only; omega) | (unfold CMul; omega) | (unfold CDivW; decide) | assumption)
local macro_rules | `(tactic| walk_at "zh") => `(tactic| first | assumption | with_reducible exact upd_same | ((with_reducible refine' (upd_ne ?zn).trans ?zr); (case zn => walk_at "zne"); (case zr => walk_at "zh")))
local macro_rules | `(tactic| walk_at "zw") => `(tactic| (simp only [wipe, List.map_cons, List.map_nil, List.set_cons_succ, List.set_cons_zero]; rfl))
local macro_rules | `(tactic| walk_at "zne") => `(tactic| first | assumption | (apply Ne.symm; assumption) | (refine' ne_of_none ?zh1 ?zh2; (case zh2 => assumption); (case zh1 => walk_at "zh")) | (apply Ne.symm; refine' ne_of_none ?zh1 ?zh2; (case zh2 => assumption); (case zh1 => walk_at "zh")))
local macro_rules | `(tactic| walk_at "zl") => `(tactic| first | assumption | exact Or.inl (Or.inl (by walk_at "zh")))
local macro_rules | `(tactic| walk_at "zat") => `(tactic| first | assumption | exact rfl | exact atI_nat (j := 0) (by rfl))
local macro_rules | `(tactic| walk_at "z1") => `(tactic| first
  | with_reducible refine r_seq ?_
  | with_reducible refine r_asg ?_
  | with_reducible refine r_name0 ?_
  | with_reducible refine r_name1 ?_
  | with_reducible refine r_name2 ?_
  | with_reducible refine r_name3 ?_
  | with_reducible refine r_name4 ?_
  | with_reducible refine r_name5 ?_
  | with_reducible refine r_name6 ?_
  | with_reducible refine r_name7 ?_
  | with_reducible refine r_name8 ?_
  | with_reducible refine r_name9 ?_
  | with_reducible refine r_name10 ?_
  | with_reducible refine r_name11 ?_
  | with_reducible refine r_name12 ?_
  | with_reducible refine r_name13 ?_
  | with_reducible refine r_name14 ?_
  | with_reducible refine r_name15 ?_
  | with_reducible refine r_name16 ?_
  | with_reducible refine r_name17 ?_
  | with_reducible refine r_name18 ?_
  | with_reducible refine r_name19 ?_
  | ((with_reducible show tVar _ _ _ _); refine r_var rfl ?_)
  | with_reducible refine r_c ?_
  | with_reducible refine r_op ?_
  | with_reducible refine r_i0 ?_
  | with_reducible refine r_eqI ?_
  | with_reducible refine r_neI ?_
  | with_reducible refine r_i (by walk_at "zs") ?_
  | with_reducible refine r_cons ?_
  | with_reducible refine r_nil ?_
  | with_reducible refine r_call ?_
  | with_reducible refine r_cb ?_
  | with_reducible refine r_test ?_
  | with_reducible refine r_tB ?_
  | with_reducible refine r_k ?_
  | with_reducible refine r_int1 ?_
  | with_reducible refine r_int1b ?_
  | with_reducible refine r_min2 ?_
  | with_reducible refine r_max2 ?_
  | with_reducible refine r_ret ?_
  | with_reducible refine r_ifS ?_
  | with_reducible refine r_tup ?_
  | with_reducible refine r_lst ?_
  | with_reducible refine r_un ?_
  | with_reducible refine r_u ?_
  | with_reducible refine r_eqB ?_
  | with_reducible refine r_neB ?_
  | with_reducible refine r_not ?_
  | with_reducible refine r_and ?_
  | with_reducible refine r_or ?_
  | with_reducible refine r_if ?_
  | with_reducible refine r_bm ?_
  | with_reducible refine r_lstRg ?_
  | with_reducible refine r_tRg1 ?_
  | with_reducible refine r_r1N ?_
  | with_reducible refine r_sl ?_
  | with_reducible refine r_part ?_
  | with_reducible refine r_partN ?_
  | with_reducible refine r_noPart ?_
  | with_reducible refine r_andV ?_
  | with_reducible refine r_orV ?_
  | with_reducible refine r_notV ?_
  | with_reducible refine r_andN ?_
  | with_reducible refine r_orN ?_
  | with_reducible refine r_notN ?_
  | with_reducible refine r_next ?_
  | with_reducible refine r_drop ?_
  | with_reducible refine r_sub ?_
  | with_reducible refine r_for ?_
  | with_reducible refine r_rng1 ?_
  | with_reducible refine r_rng2 ?_
  | with_reducible refine r_ilist ?_
  | with_reducible refine r_itup ?_
  | with_reducible refine r_lc ?_
  | with_reducible refine r_yes ?_
  | with_reducible refine r_gcons ?_
  | with_reducible refine r_gnil ?_
  | ((with_reducible show Bm _ "list" _ _ _ _ (V.ref _) _); refine' r_bmL ?zh ?zq; (case zh => walk_at "zl"))
  | with_reducible refine iteF ?_
  | with_reducible refine iteT ?_
  | ((with_reducible show rIxL _ (V.ref _) (V.int _) _ _); refine' r_ixL ?zh ?za ?zq; (case zh => walk_at "zl"); (case za => walk_at "zat"))
  | ((with_reducible show rIxT _ (V.ref _) (V.int _) _ _); refine' r_ixT ?zh ?za ?zq; (case zh => walk_at "zl"); (case za => walk_at "zat"))
  | with_reducible refine r_dget ?_
  | with_reducible refine r_star ?_
  | with_reducible refine r_match ?_
  | with_reducible refine r_enumT ?_
  | with_reducible refine r_dnot ?_
  | with_reducible refine r_chain ?_
  | with_reducible refine r_chn ?_
  | with_reducible refine r_callS ?_
  | with_reducible refine r_truth ?_
  | with_reducible refine r_bm0 ?_
  | with_reducible refine r_sadd ?_
  | with_reducible refine r_saddT ?_
  | ((with_reducible show Bm0 _ "list" _ _ (V.ref _) _); refine' r_bm0L ?zh ?zq; (case zh => walk_at "zl"))
  | with_reducible refine r_bm0I ?_
  | with_reducible refine r_bu ?_
  | with_reducible refine r_rng3 ?_
  | with_reducible refine r_bitlen ?_
  | with_reducible refine r_genAll ?_
  | with_reducible refine r_zipA ?_
  | with_reducible refine r_items ?_
  | with_reducible refine r_sortLam ?_
  | with_reducible refine r_augS ?_
  | with_reducible refine r_set0u ?_
  | with_reducible refine r_set1u ?_
  | with_reducible refine r_set2u ?_
  | with_reducible refine r_set3u ?_
  | with_reducible refine r_set4u ?_
  | ((with_reducible show rSetL (V.ref _) (V.int 0) _ _ _); refine' r_set0 ?zh ?zq; (case zh => walk_at "zh"))
  | ((with_reducible show rSetL (V.ref _) (V.int 1) _ _ _); refine' r_set1 ?zh ?zq; (case zh => walk_at "zh"))
  | ((with_reducible show rSetL (V.ref _) (V.int 2) _ _ _); refine' r_set2 ?zh ?zq; (case zh => walk_at "zh"))
  | ((with_reducible show rSetL (V.ref _) (V.int 3) _ _ _); refine' r_set3 ?zh ?zq; (case zh => walk_at "zh"))
  | ((with_reducible show rSetL (V.ref _) (V.int 4) _ _ _); refine' r_set4 ?zh ?zq; (case zh => walk_at "zh"))
  | ((with_reducible show rLen _ [V.ref _] _ _); refine' r_lenL ?zh ?zq; (case zh => walk_at "zl"))
  | ((with_reducible show rLen _ [V.ref _] _ _); refine' r_lenT ?zh ?zq; (case zh => walk_at "zl")))
local macro_rules | `(tactic| walk_at "z2") => `(tactic| first
  | with_reducible refine r_run ?_
  | ((with_reducible show tVar _ _ _ _); refine r_var rfl ?_)
  | with_reducible refine r_i (by walk_at "zs") ?_
  | ((with_reducible show Bm _ "list" _ _ _ _ (V.ref _) _); refine' r_bmL ?zh ?zq; (case zh => walk_at "zl"))
  | ((with_reducible show rIxL _ (V.ref _) (V.int _) _ _); refine' r_ixL ?zh ?za ?zq; (case zh => walk_at "zl"); (case za => walk_at "zat"))
  | ((with_reducible show rIxT _ (V.ref _) (V.int _) _ _); refine' r_ixT ?zh ?za ?zq; (case zh => walk_at "zl"); (case za => walk_at "zat"))
  | with_reducible refine r_sadd ?_
  | with_reducible refine r_saddT ?_
  | ((with_reducible show Bm0 _ "list" _ _ (V.ref _) _); refine' r_bm0L ?zh ?zq; (case zh => walk_at "zl"))
  | with_reducible refine r_bm0I ?_
  | with_reducible refine r_bitlen ?_
  | with_reducible refine r_genAll ?_
  | with_reducible refine r_zipA ?_
  | with_reducible refine r_items ?_
  | with_reducible refine r_sortLam ?_
  | with_reducible refine r_augS ?_
  | ((with_reducible show rSetL (V.ref _) (V.int 0) _ _ _); refine' r_set0 ?zh ?zq; (case zh => walk_at "zh"))
  | ((with_reducible show rSetL (V.ref _) (V.int 1) _ _ _); refine' r_set1 ?zh ?zq; (case zh => walk_at "zh"))
  | ((with_reducible show rSetL (V.ref _) (V.int 2) _ _ _); refine' r_set2 ?zh ?zq; (case zh => walk_at "zh"))
  | ((with_reducible show rSetL (V.ref _) (V.int 3) _ _ _); refine' r_set3 ?zh ?zq; (case zh => walk_at "zh"))
  | ((with_reducible show rSetL (V.ref _) (V.int 4) _ _ _); refine' r_set4 ?zh ?zq; (case zh => walk_at "zh"))
  | ((with_reducible show rLen _ [V.ref _] _ _); refine' r_lenL ?zh ?zq; (case zh => walk_at "zl"))
  | ((with_reducible show rLen _ [V.ref _] _ _); refine' r_lenT ?zh ?zq; (case zh => walk_at "zl")))
local macro_rules | `(tactic| walk_at "z") => `(tactic| repeat (walk_at "z2"))

def topS (i : Nat) : Stmt := PySem.Challenge.pw_trellis_k20_degenerate.main.body.getD i (.Pass ⟨0, 0, 0, 0⟩)
/-- a def of the text and where it stands -/
structure DefAt (K : PySem.W.Frag) (mg : Str → Option Value) (x : Str) (st : Stmt) (ps : List Str) where
  f : Addr
  fd : FuncData
  F : Fun K x x st f fd
  b : Binds K fd ps []
  g : mg x = some (.ref f)
/-- a def that stands under another name, too -/
structure DefAl (K : PySem.W.Frag) (mg : Str → Option Value) (al x : Str) (st : Stmt) (ps : List Str) where
  f : Addr
  fd : FuncData
  F : Fun K x x st f fd
  b : Binds K fd ps []
  g : mg al = some (.ref f)
/-- the built-ins' names are not the module's own -/
structure Blt (mg : Str → Option Value) : Prop where
  len : mg "len" = none
  range : mg "range" = none
  list : mg "list" = none
  tuple : mg "tuple" = none
  int : mg "int" = none
  min : mg "min" = none
  max : mg "max" = none
  sorted : mg "sorted" = none
  isinstance : mg "isinstance" = none
  bool : mg "bool" = none
  str : mg "str" = none
  enumerate : mg "enumerate" = none
/-! ## the pool -/
def Pool (H : Hp) (a s : Addr) : Prop := ∃ (ns : List Int) (p v c salt : Int), H a = some (.lst [.ref s, .int p, .int v, .int c, .int salt]) ∧ H s = some (.lst (ns.map V.int)) ∧ 0 ≤ p ∧ s ≠ a
theorem Pool.lst {H : Hp} {a s : Addr} (h : Pool H a s) : ∃ xs, H a = some (.lst xs) := by
  obtain ⟨ns, p, v, c, salt, h, _⟩ := h
  exact ⟨_, h⟩
theorem Pool.mono {H H' : Hp} {a s : Addr} (h : Pool H a s) (k : Same H H') : Pool H' a s := by
  obtain ⟨ns, p, v, c, salt, h1, h2, h3, h4⟩ := h
  exact ⟨ns, p, v, c, salt, k _ _ h1, k _ _ h2, h3, h4⟩
theorem Pool.ne {H : Hp} {a s : Addr} (h : Pool H a s) : H a ≠ none := by
  obtain ⟨xs, e⟩ := h.lst
  rw [e]
  exact fun z => nomatch z
theorem Gr.tk {a s : Addr} {H H' : Hp} (g : Gr a H H') (h : Pool H a s) : TK H H' := by
  obtain ⟨xs, e⟩ := h.lst
  exact .of_gr g e
theorem new_ne {H : Hp} {a s l : Addr} (h : Pool H a s) (n : H l = none) : l ≠ a ∧ l ≠ s := by
  obtain ⟨ns, p, v, c, salt, h1, h2, h3, h4⟩ := h
  exact ⟨ne_of_none h1 n |> Ne.symm, ne_of_none h2 n |> Ne.symm⟩
theorem Pool.upd {H : Hp} {a s l : Addr} {o : HO} (h : Pool H a s) (n : l ≠ a ∧ l ≠ s) : Pool (upd H l o) a s := by
  obtain ⟨ns, p, v, c, salt, h1, h2, h3, h4⟩ := h
  exact ⟨ns, p, v, c, salt, (upd_ne (Ne.symm n.1)).trans h1, (upd_ne (Ne.symm n.2)).trans h2, h3, h4⟩
abbrev s_law_spread : Stmt := topS 322
theorem sc_law_spread : FnScope ["cell", "mixed", "total", "k"] ["cell"] (defScope s_law_spread) := ⟨rfl, rfl, rfl, by decide +kernel, rfl, by decide +kernel, by decide +kernel⟩

abbrev s_law_draw : Stmt := topS 323
theorem sc_law_draw : FnScope ["pool", "many", "cell", "mixed", "value"] ["pool", "many"] (defScope s_law_draw) := ⟨rfl, rfl, rfl, by decide +kernel, rfl, by decide +kernel, by decide +kernel⟩

section
variable {P : Program} {w : World} {K : PySem.W.Frag} {mg : Str → Option Value} {base : Heap}
def spSpread : Sp := fun vs H Q _ => ∃ n : Int, vs = [.int n] ∧ ∀ r : Int, Q (.int r) H
theorem ok_spread (T : Blt mg) (D : DefAt K mg "_law_spread" s_law_spread ["cell"]) : FnOk P w K mg base CX0 1 D.f D.fd ["cell"] spSpread := by
  refine D.F.ok sc_law_spread (fun vs H Q E h => ?_) (fun cdv A outer s H vs Q E hr h => ?_)
  · obtain ⟨n, rfl, _⟩ := h
    rfl
  · obtain ⟨n, rfl, q⟩ := h
    refine ⟨_, (pss_cons (ps_set (i := 1) sc_law_spread.nd rfl (Or.inl rfl) (pe_op op_mod (pe_callTy call_int1' (by rfl) T.int (by decide +kernel) (pa_cons (pv 0) pa_nil)) pe_int))
      (pss_cons (ps_set (i := 2) sc_law_spread.nd rfl (Or.inl rfl) pe_int)
      (pss_cons (ps_for PassesOwn.never (by rfl) (pi_range1 (by rfl) T.range (pa_cons pe_int pa_nil)) (pg_name (i := 3) sc_law_spread.nd rfl (Or.inl rfl))
        (pss_cons (ps_set (i := 1) sc_law_spread.nd rfl (Or.inl rfl) (pe_op op_mod (pe_callTy call_int1' (by rfl) T.int (by decide +kernel) (pa_cons (pe_op op_add (pe_op op_add (pe_op op_mul (pv 1) pe_int) pe_int) (pv 3)) pa_nil)) pe_int))
        (pss_one (ps_set (i := 2) sc_law_spread.nd rfl (Or.inl rfl) (pe_op op_add (pe_op op_mul (pv 2) pe_int) (pv 1))))))
      (pss_one (ps_ret (pv 2)))))), ?_⟩
    refine r_at (σ := [some _, none, none, none]) rfl ?_
    walk_at "z"
    refine r_rg1 (by decide) (forR_range (fun _ σ' H' => H' = H ∧ ∃ a b c : Int, ∃ x, σ' = [some (.int a), some (.int b), some (.int c), x]) ⟨rfl, _, _, _, _, rfl⟩ (fun i σ' H' _ ⟨eH, a, b, c, x, eσ⟩ => ?_) fun σ' H' ⟨eH, a, b, c, x, eσ⟩ => ?_)
    · subst eH eσ
      walk_at "z"
      exact ⟨rfl, _, _, _, _, rfl⟩
    · subst eH eσ
      walk_at "z"
      exact q _
/-- a draw: a number from 0 up to the bound; the pool stays a pool; all else stands -/
def spDraw : Sp := fun vs H Q _ => ∃ (a s : Addr) (m : Int), vs = [.ref a, .int m] ∧ Pool H a s ∧ 0 < m ∧ m < 1000000 ∧ ∀ (r : Int) (H' : Hp), 0 ≤ r → r < m → Pool H' a s → Gr a H H' → Q (.int r) H'
theorem ok_draw (T : Blt mg) (D : DefAt K mg "_law_draw" s_law_draw ["pool", "many"]) (D_law_spread : DefAt K mg "_law_spread" s_law_spread ["cell"]) (G_law_spread : FnOk P w K mg base CX0 1 D_law_spread.f D_law_spread.fd ["cell"] spSpread) : FnOk P w K mg base CX0 2 D.f D.fd ["pool", "many"] spDraw := by
  refine D.F.ok sc_law_draw (fun vs H Q E h => ?_) (fun cdv A outer s H vs Q E hr h => ?_)
  · obtain ⟨a, _, m, rfl, _⟩ := h
    rfl
  · obtain ⟨a, s0, m, rfl, ⟨ns, p, v, c, salt, ha, hs, hp, hsa⟩, m0, m1, q⟩ := h
    refine ⟨_, (pss_cons (ps_if (PW.pt (pw_and (pt_cmpR op_le (pe_ix (ix_listK (K := K) rfl) (pv 0) pe_int (fun _ _ => rfl)) pe_int (nomark _)) (pw_and1 (pt_cmpR op_lt (pe_ix (ix_listK (K := K) rfl) (pv 0) pe_int (fun _ _ => rfl)) (pe_callB (call_lenK (K := K) rfl) (by rfl) T.len (by decide +kernel) (pa_cons (pe_ix (ix_listK (K := K) rfl) (pv 0) pe_int (fun _ _ => rfl)) pa_nil)) (nomark _)))))
        (pss_cons (ps_set (i := 2) sc_law_draw.nd rfl (Or.inl rfl) (pe_ix (ix_listK (K := K) rfl) (pe_ix (ix_listK (K := K) rfl) (pv 0) pe_int (fun _ _ => rfl)) (pe_ix (ix_listK (K := K) rfl) (pv 0) pe_int (fun _ _ => rfl)) (fun _ _ => rfl)))
        (pss_cons (ps_asg (pe_op op_add (pe_ix (ix_listK (K := K) rfl) (pv 0) pe_int (fun _ _ => rfl)) pe_int) (pg_sub (pv 0) pe_int set_list))
        (pss_cons (ps_asg (pv 2) (pg_sub (pv 0) pe_int set_list))
        (pss_one (ps_if (pt_cmpR op_lt (pv 2) pe_int (nomark _))
          (pss_one (ps_asg (pe_call G_law_spread (hr.mono (by first | decide | omega)) (by rfl) D_law_spread.g D_law_spread.F.kp D_law_spread.b .nil pass0 (pa_cons (pv 2) pa_nil)) (pg_sub (pv 0) pe_int set_list)))
          pss_nil)))))
        pss_nil)
      (pss_cons (ps_asg (pe_op op_add (pe_ix (ix_listK (K := K) rfl) (pv 0) pe_int (fun _ _ => rfl)) pe_int) (pg_sub (pv 0) pe_int set_list))
      (pss_cons (ps_if (pt_cmpR op_le (pe_ix (ix_listK (K := K) rfl) (pv 0) pe_int (fun _ _ => rfl)) pe_int (nomark _))
        (pss_cons (ps_set (i := 3) sc_law_draw.nd rfl (Or.inl rfl) (pe_op op_mod (pe_callTy call_int1' (by rfl) T.int (by decide +kernel) (pa_cons (pe_op op_add (pe_op op_add (pe_op op_mul (pe_ix (ix_listK (K := K) rfl) (pv 0) pe_int (fun _ _ => rfl)) pe_int) (pe_op op_mul (pe_ix (ix_listK (K := K) rfl) (pv 0) pe_int (fun _ _ => rfl)) pe_int)) pe_int) pa_nil)) pe_int))
        (pss_cons (ps_set (i := 3) sc_law_draw.nd rfl (Or.inl rfl) (pe_op op_mod (pe_callTy call_int1' (by rfl) T.int (by decide +kernel) (pa_cons (pe_op op_add (pe_op op_mul (pv 3) pe_int) (pe_ix (ix_listK (K := K) rfl) (pv 0) pe_int (fun _ _ => rfl))) pa_nil)) pe_int))
        (pss_one (ps_ret (pe_op op_mod (pe_op op_fdivW (pv 3) pe_int) (pv 1))))))
        pss_nil)
      (pss_cons (ps_set (i := 4) sc_law_draw.nd rfl (Or.inl rfl) (pe_op op_mod (pe_callTy call_int1' (by rfl) T.int (by decide +kernel) (pa_cons (pe_ix (ix_listK (K := K) rfl) (pv 0) pe_int (fun _ _ => rfl)) pa_nil)) (pv 1)))
      (pss_cons (ps_asg (pe_op op_fdivW (pe_ix (ix_listK (K := K) rfl) (pv 0) pe_int (fun _ _ => rfl)) (pv 1)) (pg_sub (pv 0) pe_int set_list))
      (pss_one (ps_ret (pv 4)))))))), ?_⟩
    refine r_at (σ := [some _, some _, none, none, none]) rfl ?_
    refine r_seqW (fun σ' H' => ∃ (p v c : Int) (x2 : Option V), σ' = [some (.ref a), some (.int m), x2, none, none] ∧ H' a = some (.lst [.ref s0, .int p, .int v, .int c, .int salt]) ∧ 0 ≤ p ∧ H' s0 = some (.lst (ns.map V.int)) ∧ Gr a H H') ?tail (fun B hB => ?head)
    case head =>
      have sa : s0 ≠ a := hsa
      walk_at "z"
      refine r_ite (fun hv => ?_) (fun hv => ?_)
      · walk_at "z"
        refine r_ite (fun hl => ?_) (fun hl => ?_)
        · rw [List.length_map] at hl
          obtain ⟨cell, _, hc⟩ := at_int hp hl
          walk_at "z"
          have key : ∀ r : Int, B [some (V.ref a), some (V.int m), some (V.int cell), none, none] (upd H a (.lst [.ref s0, .int (p + 1), .int r, .int c, .int salt])) := fun r => hB _ _ ⟨p + 1, r, c, _, rfl, upd_same, by omega, (upd_ne sa).trans hs, .self⟩
          refine r_ite (fun hb => ?_) (fun hb => ?_)
          · walk_at "z"
            refine ⟨_, rfl, fun r => ?_⟩
            walk_at "z"
            exact key _
          · walk_at "z"
            exact key _
        · walk_at "z"
          exact hB _ _ ⟨p, v, c, _, rfl, ha, hp, hs, .refl a H⟩
      · walk_at "z"
        exact hB _ _ ⟨p, v, c, _, rfl, ha, hp, hs, .refl a H⟩
    case tail =>
      rintro σ' H' ⟨p', v', c', x2, rfl, ha', hp', hs', g⟩
      have md : ∀ z : Int, 0 ≤ z % m ∧ z % m < m := fun z => ⟨Int.emod_nonneg z (by omega), Int.emod_lt_of_pos z m0⟩
      have fin : ∀ (z v2 : Int), Q (V.int (z % m)) (upd H' a (.lst [.ref s0, .int p', .int v2, .int (c' + 1), .int salt])) := fun z v2 =>
        q _ _ (md z).1 (md z).2 ⟨ns, p', v2, c' + 1, salt, upd_same, (upd_ne hsa).trans hs', hp', hsa⟩ (g.trans .self)
      walk_at "z"
      refine r_ite (fun hv => ?_) (fun hv => ?_)
      · walk_at "z"
        exact fin _ _
      · walk_at "z"
        refine r_i ⟨m0, (wide_div (i := 0) m0 (b := 20) (by omega) (by decide) (by decide)).2⟩ ?_
        walk_at "z"
        exact fin _ _
/-- the pool of a script -/
abbrev s_law_pool : Stmt := topS 321
theorem sc_law_pool : FnScope ["script", "salt", "cell"] ["script"] (defScope s_law_pool) := ⟨rfl, rfl, rfl, by decide +kernel, rfl, by decide +kernel, by decide +kernel⟩

def spPool (K : PySem.W.Frag) : Sp := fun vs H Q _ => ∃ (l : Addr) (ns : List Int), vs = [.ref l] ∧ SqL K H l (ns.map V.int) ∧ ∀ (a s : Addr) (H' : Hp), H a = none → Same H H' → Pool H' a s → Q (.ref a) H'
theorem cut_ints (ns : List Int) (lo hi : Option Int) : ∃ ms : List Int, cutV (ns.map V.int) lo hi = ms.map V.int ∧ ms.length ≤ ns.length := by
  refine ⟨(ns.drop (HT.sIx ns.length 0 lo)).take (HT.sIx ns.length ns.length hi - HT.sIx ns.length 0 lo), ?_, ?_⟩
  · unfold cutV
    rw [List.length_map, List.map_take, List.map_drop]
  · rw [List.length_take, List.length_drop]
    omega
theorem ok_pool (T : Blt mg) (D : DefAt K mg "_law_pool" s_law_pool ["script"]) : FnOk P w K mg base CX0 1 D.f D.fd ["script"] (spPool K) := by
  refine D.F.ok sc_law_pool (fun vs H Q E h => ?_) (fun cdv A outer s H vs Q E hr h => ?_)
  · obtain ⟨a, m, rfl, _⟩ := h
    rfl
  · obtain ⟨l, ns, rfl, hl, q⟩ := h
    refine ⟨_, (pss_cons (ps_set (i := 1) sc_law_pool.nd rfl (Or.inl rfl) pe_int)
      (pss_cons (ps_for PassesOwn.never (by rfl) (PI.listK (K := K) rfl (pi_list (pe_slice (sl_listK (K := K) rfl) (pv 0) po_none (po_some pe_int)))) (pg_name (i := 2) sc_law_pool.nd rfl (Or.inl rfl))
        (pss_one (ps_set (i := 1) sc_law_pool.nd rfl (Or.inl rfl) (pe_op op_mod (pe_callTy call_int1' (by rfl) T.int (by decide +kernel) (pa_cons (pe_op op_add (pe_op op_mul (pv 1) pe_int) (pv 2)) pa_nil)) pe_int))))
      (pss_one (ps_ret (pe_lst (pa_cons (pe_callTy (call_listK (K := K) rfl) (by rfl) T.list (by decide +kernel) (pa_cons (pv 0) pa_nil)) (pa_cons pe_int (pa_cons pe_int (pa_cons pe_int (pa_cons (pv 1) pa_nil)))))))))), ?_⟩
    refine r_at (σ := [some _, none, none]) rfl ?_
    walk_at "z"
    obtain ⟨ms, em, _⟩ := cut_ints ns none (some 63)
    refine ⟨l, _, rfl, hl, fun c hc => ?_⟩
    have sc : Same H (upd H c (.lst (ms.map V.int))) := same_new hc
    rw [em]
    refine r_il (.inl (.inl upd_same)) (forR_list (xs := ms.map V.int) (fun i σ' H' => H' = upd H c (.lst (ms.map V.int)) ∧ ∃ (z : Int) (x : Option V), σ' = [some (.ref l), some (.int z), x]) ⟨rfl, _, _, rfl⟩ (fun i σ' H' _ ⟨eH, _⟩ => ?_) (fun i x σ' H' hx ⟨eH, z, y, eσ⟩ => ?_) fun σ' H' ⟨eH, z, y, eσ⟩ => ?_)
    · rw [eH]
      exact .inl (.inl upd_same)
    · subst eH eσ
      rw [List.getElem?_map] at hx
      obtain ⟨n, _, rfl⟩ := Option.map_eq_some_iff.mp hx
      walk_at "z"
      exact ⟨rfl, _, _, rfl⟩
    · subst eH eσ
      walk_at "z"
      refine r_listL (sc.seq hl) fun b hb => ?_
      walk_at "z"
      refine r_lstN (by show 5 ≤ sizeLine; decide) fun a ha => ?_
      have sb := sc.trans (same_new (o := .lst (ns.map V.int)) hb)
      exact q a b _ (sb.free ha) (sb.trans (same_new ha)) ⟨ns, 0, 0, 0, z, upd_same, (upd_ne (ne_of_none upd_same ha)).trans upd_same, by omega, ne_of_none upd_same ha⟩
end

end Z
set_option Elab.async false
set_option linter.all false
set_option maxRecDepth 100000
/-! the top's run cut in pieces: the state between two pieces is told by a quick twin for defs, and each piece is one kernel computation -/
noncomputable section
namespace HP
open PySem PySem.W PySem.Calls PyProof.Rows HandSHeadRun
def posEq (a b : Pos) : Bool := Nat.beq a.line b.line && Nat.beq a.col b.col
/-- the thread stands ahead of the statement at p -/
def atPos (p : Pos) (t : Thread) : Bool := match t.cur with
  | .at q _ => posEq q p
  | _ => false
section
variable (st : SharedT → Thread → Option (SharedT × Thread)) (n0 : Nat) (ann : Option Value)
/-- the run until the statement at p -/
def goB (p : Pos) : Nat → SharedT → Thread → Option (SharedT × Thread)
  | 0, _, _ => none
  | m + 1, s, t => match atPos p t with
    | true => some (s, t)
    | false => match through t with
      | true => none
      | false => match stepOk n0 ann t with
        | false => none
        | true => match st s t with
          | some (s', t') => frS s' fun s' => goB p m s' t'
          | none => none
variable {st n0 ann}
theorem goF_mono : ∀ {m : Nat} {s r : SharedT} {t : Thread} (d : Nat), goF st n0 ann m s t = some r → goF st n0 ann (m + d) s t = some r
  | 0, _, _, _, _, h => by cases h
  | m + 1, s, r, t, d, h => by
    rw [Nat.add_right_comm]
    unfold goF at h ⊢
    cases ht : through t with
    | true =>
      rw [ht] at h
      exact h
    | false =>
      rw [ht] at h
      cases hk : stepOk n0 ann t with
      | false =>
        rw [hk] at h
        cases h
      | true =>
        rw [hk] at h
        cases hs : st s t with
        | none =>
          rw [hs] at h
          cases h
        | some q =>
          obtain ⟨s2, t2⟩ := q
          rw [hs] at h
          have h3 : (frS s2 fun s' => goF st n0 ann m s' t2) = some r := h
          show (frS s2 fun s' => goF st n0 ann (m + d) s' t2) = some r
          rw [frS_eq] at h3 ⊢
          exact goF_mono d h3
theorem goB_goF {p : Pos} : ∀ {m M : Nat} {s s' r : SharedT} {t t' : Thread}, goB st n0 ann p m s t = some (s', t') → goF st n0 ann M s' t' = some r → goF st n0 ann (m + M) s t = some r
  | 0, _, _, _, _, _, _, h, _ => by cases h
  | m + 1, M, s, s', r, t, t', h, k => by
    unfold goB at h
    cases ha : atPos p t with
    | true =>
      rw [ha] at h
      cases h
      rw [Nat.add_comm]
      exact goF_mono _ k
    | false =>
      rw [ha] at h
      cases ht : through t with
      | true =>
        rw [ht] at h
        cases h
      | false =>
        rw [ht] at h
        cases hk : stepOk n0 ann t with
        | false =>
          rw [hk] at h
          cases h
        | true =>
          rw [hk] at h
          cases hs : st s t with
          | none =>
            rw [hs] at h
            cases h
          | some q =>
            obtain ⟨s2, t2⟩ := q
            rw [hs] at h
            have h3 : (frS s2 fun s' => goB st n0 ann p m s' t2) = some (s', t') := h
            rw [frS_eq] at h3
            have r3 := goB_goF h3 k
            rw [Nat.add_right_comm]
            unfold goF
            rw [ht, hk, hs]
            show (frS s2 fun s' => goF st n0 ann (m + M) s' t2) = some r
            rw [frS_eq]
            exact r3
end
/-! ### the quick twin of a def's statement -/
def lk : List (Nat × Obj) → Nat → Option Obj
  | [], _ => none
  | (b, o) :: r, a => match Nat.beq b a with
    | true => some o
    | false => lk r a
def md (a : Nat) (f : Obj → Obj) : List (Nat × Obj) → List (Nat × Obj)
  | [] => []
  | (b, o) :: r => match Nat.beq b a with
    | true => (b, f o) :: r
    | false => (b, o) :: md a f r
/-- a tree's insertion (a twin of its own, so that the kernel doesn't compare the two ways step by step) -/
def insB : BT → Nat → Obj → BT
  | .nil, _, o => .node o .nil .nil
  | .node v l r, i, o => match Nat.beq i 0 with
    | true => .node o l r
    | false => match Nat.beq (i % 2) 1 with
      | true => .node v (insB l (i / 2) o) r
      | false => .node v l (insB r (i / 2 - 1) o)
def runS (set : Setting) (T : BT) : Nat → List (Nat × Obj) → Nat → Nat → Sem Fin → Option (List (Nat × Obj) × Nat × Nat)
  | 0, _, _, _, _ => none
  | f + 1, L, n, k, m => match m with
    | .pure (.done .next) => some (L, n, k)
    | .at _ g => runS set T f L n k (g ())
    | .rule _ g => runS set T f L n k (g ())
    | .point _ g => runS set T f L n k (g ())
    | .load a _ g => match lk L a with
      | some o => runS set T f L n k (g o)
      | none => match T.get a with
        | some o => runS set T f L n k (g o)
        | none => none
    | .update a _ h g => runS set T f (md a h L) n k (g ())
    | .alloc o g => frNat (n + 1) fun n' => runS set T f ((n, o) :: L) n' k (g n)
    | .fresh g => frNat (k + 1) fun k' => runS set T f L n k' (g k)
    | .ask g => runS set T f L n k (g set)
    | _ => none
def dictCut (m : Nat) : Obj → Obj
  | ⟨c, d, .dict es ep, s⟩ => ⟨c, d, .dict (es.toList.take m).toArray ep, s⟩
  | o => o
def dictNew (m : Nat) : Obj → List DictEntry
  | ⟨_, _, .dict es _, _⟩ => es.toList.drop m
  | _ => []
def dictAdd (es2 : List DictEntry) (k : Nat) : Obj → Obj
  | ⟨c, d, .dict es ep, s⟩ => ⟨c, d, .dict (es.toList ++ es2).toArray (ep + k), s⟩
  | o => o
def fldsCut : Obj → Obj
  | ⟨c, d, .fields _, s⟩ => ⟨c, d, .fields #[], s⟩
  | o => o
def fldsOf : Obj → List Value
  | ⟨_, _, .fields vs, _⟩ => vs.toList
  | _ => []
def fldsAdd (vs2 : List Value) : Obj → Obj
  | ⟨c, d, .fields vs, s⟩ => ⟨c, d, .fields (vs.toList ++ vs2).toArray, s⟩
  | o => o
/-- the defs one after another: the tree, the next address, the next token, what the module's dict and the code's places gain -/
def defsF (den : Code → Sem Fin) (set : Setting) (env : Env) (aM aP aC m : Nat) (oM oP oC : Obj) : List Stmt → BT → Nat → Nat → List DictEntry → List Value → Option (BT × Nat × Nat × List DictEntry × List Value)
  | [], T, n, k, es, vs => some (T, n, k, es, vs)
  | st :: r, T, n, k, es, vs => match runS set T 400 [(aM, oM), (aP, oP), (aC, oC)] n k (den (.body [st] env)) with
    | some (L, n', k') => match lk L aM, lk L aP with
      | some pM, some pP => defsF den set env aM aP aC m oM oP oC r ((L.take (n' - n)).foldr (fun p T => insB T p.1 p.2) T) n' k' (es ++ dictNew m pM) (vs ++ fldsOf pP)
      | _, _ => none
    | none => none
def setB (f : Obj → Obj) : BT → Nat → BT
  | .nil, _ => .nil
  | .node v l r, i => match Nat.beq i 0 with
    | true => .node (f v) l r
    | false => match Nat.beq (i % 2) 1 with
      | true => .node v (setB f l (i / 2)) r
      | false => .node v l (setB f r (i / 2 - 1))
/-- a row of defs -/
def segD (den : Code → Sem Fin) (set : Setting) (env : Env) (aM aP aC m : Nat) (sts : List Stmt) : SharedT → Option SharedT
  | ⟨T, n, life, gens, drawn, toks, os⟩ => match T.get aM, T.get aP, T.get aC with
    | some oM, some oP, some oC => match defsF den set env aM aP aC m (dictCut m oM) (fldsCut oP) oC sts T n toks [] [] with
      | some (T', n', k', es, vs) => some ⟨setB (fldsAdd vs) (setB (dictAdd es es.length) T' aM) aP, n', life, gens, drawn, k', os⟩
      | none => none
    | _, _, _ => none
/-- statements one by one, with the whole dict -/
def segA (den : Code → Sem Fin) (set : Setting) (env : Env) (aM aP aC : Nat) : List Stmt → SharedT → Option SharedT
  | [], s => some s
  | st :: r, ⟨T, n, life, gens, drawn, toks, os⟩ => match T.get aM, T.get aP, T.get aC with
    | some oM, some oP, some oC => match runS set T 2000 [(aM, oM), (aP, oP), (aC, oC)] n toks (den (.body [st] env)) with
      | some (L, n', k') => match lk L aM, lk L aP with
        | some pM, some pP => segA den set env aM aP aC r ⟨setB (fun _ => pP) (setB (fun _ => pM) ((L.take (n' - n)).foldr (fun p T => insB T p.1 p.2) T) aM) aP, n', life, gens, drawn, k', os⟩
        | _, _ => none
      | none => none
    | _, _, _ => none
/-! ### a def's objects told at once -/
def namesV : List Str → Nat → List Value
  | [], _ => []
  | s :: r, k => .str s k :: namesV r (k + 1)
def tupO (vs : List Value) : Obj := { cls := .type "tuple", data := .seq vs.toArray }
/-- the objects of a def, the next address, the next token, the function's address -/
def defO (env : Env) (c : CodeContext) (file : Str) (pm : Value) (bl : Addr) (name qual : Str) (args : Arguments) (body : List Stmt) (scope : Scope) (pos : Pos) (loc : Option (List Str × List Str)) (n k : Nat) : List (Nat × Obj) × Nat × Nat × Nat :=
  let tm : Obj := { cls := .none, data := .func { name, qualname := qual, params := args, body := .stmts body, scope, globals := builtinsNs, closure := [], defaults := .none, kwdefaults := .none } }
  let co (n2 k2 : Nat) (v1 v2 tv : Value) : Obj := { cls := .type "code", data := .fields [.str name k, .str qual (k + 1), .str c.file (k + 2), rawInt pos.line, rawInt (args.posonlyargs.length + args.args.length : Nat), rawInt args.posonlyargs.length, rawInt args.kwonlyargs.length,
    rawInt (functionFlags args.vararg.isSome args.kwarg.isSome scope c : Nat), .ref n, .bool (true || c.inFunction), rawInt c.text, .ref (n + 1), .none, v1, v2, tv, rawInt k2, rawInt pos.line, .str c.file (k2 + 1)].toArray }
  let fn (n2 : Nat) (doc : Value) : Obj := { cls := .type "function", data := .func { name, qualname := qual, params := args, body := .stmts body, scope, globals := env.globals, closure := [], closureTuple := .none, code := .ref n2, builtins := bl, defaults := .none, kwdefaults := .none, annotations := none, pyModule := pm, doc } }
  let fin (objs : List (Nat × Obj)) (n2 k2 : Nat) : List (Nat × Obj) × Nat × Nat × Nat := match docOf body with
    | some s => ((n2 + 1, fn n2 (.str s k2)) :: objs, n2 + 2, k2 + 1, n2 + 1)
    | none => ((n2 + 1, fn n2 .none) :: objs, n2 + 2, k2, n2 + 1)
  match loc with
  | none => frNat (k + 3) fun k2 => fin [(n + 3, co (n + 3) k2 .none .none (.ref (n + 2))), (n + 2, tm), (n + 1, { cls := .none, data := .fields #[] }), (n, tupO [])] (n + 3) (k2 + 2)
  | some (l1, l2) => frNat (k + 3 + l1.length) fun ka => frNat (ka + l2.length) fun k2 =>
    fin [(n + 5, co (n + 5) k2 (.ref (n + 2)) (.ref (n + 3)) (.ref (n + 4))), (n + 4, tm), (n + 3, tupO (namesV l2 ka)), (n + 2, tupO (namesV l1 (k + 3))), (n + 1, { cls := .none, data := .fields #[] }), (n, tupO [])] (n + 5) (k2 + 2)
def defsO (set : Setting) (env : Env) (c : CodeContext) (pm : Value) (bl : Addr) : List Stmt → List (Option (List Str × List Str)) → BT → Nat → Nat → List DictEntry → List Value → Option (BT × Nat × Nat × List DictEntry × List Value)
  | [], _, T, n, k, es, vs => some (T, n, k, es, vs)
  | .FunctionDef name args body _ _ _ scope _ bind pos :: r, loc :: ls, T, n, k, es, vs => match defO env c c.file pm bl name (qualnameIn env name bind) args body scope pos loc n k with
    | (L, n', k', f) => frNat n' fun n' => frNat k' fun k' => frNat f fun f => frNat (k' + 1) fun k2 =>
      defsO set env c pm bl r ls (L.foldr (fun p T => insB T p.1 p.2) T) n' k2 (es ++ [⟨if bind.cps.isEmpty then 0 else reduceHash (set.params.strHash bind.cps), .str bind k', .ref f⟩]) (vs ++ [rawInt pos.line, rawInt pos.col, .ref (f - 1)])
  | _, _, _, _, _, _, _ => none
def nameOf : List DictEntry → Value
  | [] => .none
  | e :: r => if e.key.isStr "__name__" then e.val else nameOf r
/-- a row of defs, their objects told at once -/
def segO (set : Setting) (env : Env) (aM aP aC m : Nat) (bl : Addr) (sts : List Stmt) (ls : List (Option (List Str × List Str))) : SharedT → Option SharedT
  | ⟨T, n, life, gens, drawn, toks, os⟩ => match T.get aM, T.get aC with
    | some ⟨_, _, .dict es0 _, _⟩, some ⟨_, _, .fields vs, _⟩ => match vs.getD 18 .none, vs.getD 7 .none, vs.getD 9 .none, vs.getD 10 .none with
      | .str file _, .int flags _, .bool inF, .int text _ =>
        match defsO set env { file, future := flags.toNat &&& (coFutureAnnotations ||| coFutureBarry), inFunction := inF || env.scope.kind == .function, text := text.toNat } (nameOf (es0.toList.take m)) bl sts ls T n toks [] [] with
        | some (T', n', k', es, vs2) => some ⟨setB (fldsAdd vs2) (setB (dictAdd es es.length) T' aM) aP, n', life, gens, drawn, k', os⟩
        | none => none
      | _, _, _, _ => none
    | _, _ => none
end HP

set_option Elab.async false
set_option linter.all false
set_option maxRecDepth 100000
set_option maxHeartbeats 4000000
noncomputable section
namespace HP
open PySem PySem.W PySem.Calls PyProof.Rows HandSHeadRun
/-- the Hook over told addresses: the module's dict, the defs, their codes -/
def obsL (as : List Addr) (fa : List He.Fa) (fn : List He.DefD) (tf : List He.Defn) (ex : PySem.W.Frag → Bool) (g : Addr → Option Obj) : He.AlX := (He.obsT fa fn [] (He.frT g as), ex (He.frT g as) && He.tabsB g tf (He.frT g as))
theorem saysL_of {as : List Addr} {fa : List He.Fa} {fn : List He.DefD} {tf : List He.Defn} {ex : PySem.W.Frag → Bool} {w : World} {h : Heap} (e : obsL as fa fn tf ex h.get? = He.valX fn [] w) : He.SaysX fa fn [] tf ex w h (He.frT h.get? as) := by
  have e1 : He.obsT fa fn [] (He.frT h.get? as) = He.valT fn [] w := congrArg (fun z : He.AlX => z.1) e
  have e2 : (ex (He.frT h.get? as) && He.tabsB h.get? tf (He.frT h.get? as)) = true := congrArg (fun z : He.AlX => z.2) e
  obtain ⟨h1, h2⟩ := Bool.and_eq_true_iff.mp e2
  have key : ∀ p ∈ tf, PySem.W.codeHdIn (He.frT h.get? as) (He.cT (He.frT h.get? as) p).1 (He.cT (He.frT h.get? as) p).2 = true ∧ ∃ o, h.get? (He.cT (He.frT h.get? as) p).2 = some o ∧ He.emptyTab o = true := fun p hp => by
    obtain ⟨h3, h4⟩ := Bool.and_eq_true_iff.mp (List.all_eq_true.mp h2 p hp)
    refine ⟨h3, ?_⟩
    cases q : h.get? (He.cT (He.frT h.get? as) p).2 with
    | none =>
      rw [q] at h4
      cases h4
    | some o =>
      rw [q] at h4
      exact ⟨o, rfl, h4⟩
  exact ⟨e1, h1, fun p hp => (key p hp).1, fun p hp => by
    obtain ⟨_, o, q, z⟩ := key p hp
    exact He.frT_none q z, fun p hp => by
    obtain ⟨_, o, q, z⟩ := key p hp
    rw [q, He.emptyTab_eq z]⟩
def hookL (as : List Addr) (fa : List He.Fa) (fn : List He.DefD) (tf : List He.Defn) (ex : PySem.W.Frag → Bool) : PySem.W.Hook where
  α := He.AlX
  obs := fun s => obsL as fa fn tf ex s.heap.get?
  val := fun w => He.valX fn [] w
  says := fun w h => ∃ K : PySem.W.Frag, K.In h ∧ He.SaysX fa fn [] tf ex w h K
  of := fun _ _ e => ⟨_, He.frT_in, saysL_of e⟩
  keeps := fun _ _ _ ⟨K, hK, c⟩ k => ⟨K, PySem.W.Frag.In.keeps hK k, ⟨c.t, c.more, c.hd, c.out, fun p hp => k _ _ (c.empty p hp)⟩⟩
theorem obsL_eq {as : List Addr} {fa : List He.Fa} {fn : List He.DefD} {tf : List He.Defn} {ex : PySem.W.Frag → Bool} {g : Addr → Option Obj} {s : Shared} (h : ∀ a, g a = s.heap.get? a) : obsL as fa fn tf ex g = (hookL as fa fn tf ex).obs s := by
  have e : g = s.heap.get? := funext h
  rw [e] <;> rfl
/-- the run's equation from its end -/
theorem runEq_of {r : OpenRow} {q : Program} {H : Hook} {ob : SharedT → H.α} {M : Nat} {loose : List PySem.Str} {w : World} (S : OsState → SharedT) (run : ∀ os, endF (stepQ (denQ tabQ) r.prog w) M r.prog w os = some (S os))
    (l1 : ∀ os, staticsOk (importedModules r.prog.main.body) (boot_heap w.params) (S os).abs.heap = true) (l2 : ∀ os, namesBound r.prog (S os).abs.heap = true) (l3 : ∀ os, gensDone (S os).abs = true) (l4 : ∀ os, laidKept (boot_heap w.params) (S os).abs.heap = true)
    (sn : ∀ os, seenQ q loose (importedModules r.prog.main.body) (fun s => xlAt q [] s && recOk r.toRowW.records s) (S os).abs = openGood q loose) (hk : ∀ os, ob (S os) = H.val w) : RunEq r q H ob M loose w := fun os => by
  rw [run os]
  show some (looksF r.prog (boot_heap w.params) (S os).abs, _, _) = _
  rw [sn os, hk os]
  have : looksF r.prog (boot_heap w.params) (S os).abs = true := by
    unfold looksF
    rw [l1 os, l2 os, l3 os, l4 os]
    rfl
  rw [this]
end HP

set_option Elab.async false
set_option linter.all false
set_option maxRecDepth 100000
set_option maxHeartbeats 4000000
namespace Z
open PySem PySem.Spec PyProof.Rows L2 LamX
def kdsH : List Str := ["connected", "bipartite", "forest", "block", "chordal", "interval", "cograph", "comparability", "permutation", "prime", "planar", "outerplanar", "degenerate", "indegree", "forests", "trees", "width", "colours", "independent", "matching", "linked", "isomorphic"]
def nksH : List Str := ["degenerate", "indegree", "forests", "trees", "width", "colours", "independent", "matching"]
/-- a def of the top, as the head tells it -/
def dfd (x : Str) (st : Stmt) : He.DefD := ⟨(x, none), x, x, defArgs st, defBody st, defScope st, [], []⟩
def dfa (a x : Str) (st : Stmt) : He.DefD := ⟨(a, none), x, x, defArgs st, defBody st, defScope st, [], []⟩
def fnX : List He.DefD := [dfd "is_integer" (topS 1), dfd "is_tuple" (topS 2), dfd "is_vertex" (topS 4), dfd "are_vertices" (topS 5), dfd "is_row" (topS 6), dfd "is_order" (topS 7), dfd "is_set" (topS 8), dfd "is_ascending" (topS 9), dfd "is_edge" (topS 11), dfd "are_edges" (topS 12), dfd "neighbour_lists" (topS 20), dfd "neighbour_masks" (topS 21), dfd "masks_behind" (topS 22), dfd "mask_of" (topS 24), dfd "members_of" (topS 25), dfd "size_of" (topS 26), dfd "full_mask" (topS 34), dfd "is_size" (topS 38), dfd "is_graph" (topS 39), dfd "is_sparse_paper" (topS 162), dfd "are_few_behind" (topS 163), dfa "is_tight_check_sparse" "_is_tight" (topS 164), dfd "is_question" (topS 183), dfd "_are_ends" (topS 184), dfd "_is_number" (topS 185)] ++ ([dfd "check" (topS 187), dfd "_is_right" (topS 188), dfd "sparse_paper" (topS 291), dfd "_degenerate_paper" (topS 292), dfd "_loose" (topS 293), dfd "decide" (topS 317), dfd "_law_same" (topS 319), dfd "_law_is_integer" (topS 320), dfd "_law_pool" (topS 321), dfd "_law_spread" (topS 322), dfd "_law_draw" (topS 323), dfd "_law_pairs" (topS 324), dfd "_law_sorted_graph" (topS 325), dfd "_law_graph" (topS 326), dfd "_law_near" (topS 327), dfd "_law_rising" (topS 331), dfd "_law_ints" (topS 332), dfd "_law_vertices" (topS 333), dfd "_law_is_set" (topS 334), dfd "_law_is_order" (topS 335), dfd "_law_behind" (topS 342), dfd "_law_bent" (topS 343), dfd "_law_some_set" (topS 344), dfd "_law_some_order" (topS 345), dfd "_law_papers" (topS 348)] ++ ([dfd "_law_right" (topS 349), dfd "law" (topS 350)]))
def faX : List He.Fa := ([.glo "is_integer", .glo "is_tuple", .glo "is_vertex", .glo "are_vertices", .glo "is_row", .glo "is_order", .glo "is_set", .glo "is_ascending", .glo "is_edge", .glo "are_edges", .glo "neighbour_lists", .glo "neighbour_masks", .glo "masks_behind", .glo "mask_of", .glo "members_of", .glo "size_of", .glo "full_mask", .glo "is_size", .glo "is_graph", .glo "is_sparse_paper", .glo "are_few_behind", .glo "is_tight_check_sparse", .glo "is_question", .glo "_are_ends", .glo "_is_number"] : List He.Fa) ++ (([.glo "check", .glo "_is_right", .glo "sparse_paper", .glo "_degenerate_paper", .glo "_loose", .glo "decide", .glo "_law_same", .glo "_law_is_integer", .glo "_law_pool", .glo "_law_spread", .glo "_law_draw", .glo "_law_pairs", .glo "_law_sorted_graph", .glo "_law_graph", .glo "_law_near", .glo "_law_rising", .glo "_law_ints", .glo "_law_vertices", .glo "_law_is_set", .glo "_law_is_order", .glo "_law_behind", .glo "_law_bent", .glo "_law_some_set", .glo "_law_some_order", .glo "_law_papers"] : List He.Fa) ++ (([.glo "_law_right", .glo "law", .free "len", .free "range", .free "list", .free "tuple", .free "int", .free "min", .free "max", .free "sorted", .free "isinstance", .free "bool", .free "str", .free "enumerate", .free "all", .free "set", .free "zip", .free "any", .free "sum", .int "MOST_VERTICES" 60] : List He.Fa)))
def tfX : List He.Defn := [("are_vertices", none), ("is_ascending", none), ("are_edges", none)]
def strsV : List Value → List Str → Bool
  | [], [] => true
  | .str x _ :: us, k :: ks => decide (x.cps.toList = k.cps.toList) && strsV us ks
  | _, _ => false
theorem str_toL {x k : Str} (h : x.cps.toList = k.cps.toList) : x = k := by
  obtain ⟨a⟩ := x
  obtain ⟨b⟩ := k
  have : a = b := Array.toList_inj.mp h
  rw [this]
theorem strsV_ok : ∀ {us : List Value} {ks : List Str}, strsV us ks = true → Vals (ks.map V.str) us
  | [], [], _ => .nil
  | [], _ :: _, h => by cases h
  | u :: us, [], h => by
    cases u <;> cases h
  | u :: us, k :: ks, h => by
    cases u with
    | str x t =>
      have h : (decide (x.cps.toList = k.cps.toList) && strsV us ks) = true := h
      rw [Bool.and_eq_true, decide_eq_true_eq] at h
      exact .cons ⟨t, by rw [str_toL h.1]⟩ (strsV_ok h.2)
    | _ => cases h
/-- the constant x is a tuple of these texts -/
def tupK (K : PySem.W.Frag) (x : Str) (ks : List Str) : Bool := match PySem.W.nsIn K mainGlobals x with
  | some (some (.ref a)) => (match K.lookup a with
    | some ⟨.type c, _, .seq its _, _⟩ => decide (c = "tuple") && (decide (its.size ≤ sizeLine) && strsV its.toList ks)
    | _ => false)
  | _ => false
theorem tupK_ok {K : PySem.W.Frag} {h : Heap} {mg : Str → Option Value} {x : Str} {ks : List Str} (X : K.In h) (G : h.Ns mainGlobals mg) (e : tupK K x ks = true) : ∃ a, mg x = some (.ref a) ∧ ∀ H, SqT K H a (ks.map V.str) := by
  unfold tupK at e
  split at e
  · rename_i a hn
    refine ⟨a, PySem.W.mg_of X G hn, fun H => ?_⟩
    split at e
    · rename_i c od its m sl hk
      rw [Bool.and_eq_true, Bool.and_eq_true, decide_eq_true_eq, decide_eq_true_eq] at e
      obtain ⟨e1, e2, e3⟩ := e
      exact .inr ⟨_, its, m, hk, by rw [e1], rfl, e2, strsV_ok e3⟩
    · cases e
  · cases e
def exX (K : PySem.W.Frag) : Bool := decide (([(He.cT K ("are_vertices", none)).2, (He.cT K ("is_ascending", none)).2, (He.cT K ("are_edges", none)).2] : List Addr).Nodup) && (tupK K "KINDS" kdsH && tupK K "NUMBER_KINDS" nksH)
def asX : List Addr := [3, 21, 20, 28, 27, 42, 41, 49, 48, 56, 55, 63, 62, 70, 69, 77, 76, 91, 90, 98, 97, 150, 149, 155, 154, 162, 161, 174, 173, 181, 180, 188, 187, 242, 241, 256, 255, 263, 262, 968] ++ ([967, 973, 972, 978, 977, 1060, 1059, 1067, 1066, 1074, 1073, 1081, 1080, 1086, 1085, 1745, 1744, 1752, 1751, 1759, 1758, 1869, 1868, 1876, 1875, 1883, 1882, 1890, 1889, 1897, 1896, 1904, 1903, 1909, 1908, 1914, 1913, 1919, 1918, 1924] ++ ([1923, 1948, 1947, 1953, 1952, 1958, 1957, 1965, 1964, 1972, 1971, 2011, 2010, 2018, 2017, 2023, 2022, 2028, 2027, 2045, 2044, 2050, 2049, 2057, 2056, 1052, 1053]))
abbrev hkX : PySem.W.Hook := HP.hookL asX faX fnX tfX exX
def obX (s : PySem.W.SharedT) : He.AlX := HP.obsL asX faX fnX tfX exX (HandSHeadRun.getT s)
theorem obX_eq (s : PySem.W.SharedT) : obX s = hkX.obs s.abs := HP.obsL_eq (HandSHeadRun.getT_eq s)

end Z
set_option Elab.async false
set_option linter.all false
set_option maxRecDepth 100000
set_option maxHeartbeats 0
namespace HT
noncomputable section
open PySem PySem.W PySem.Calls PyProof.Rows HandSHeadRun
abbrev RX : OpenRow := OpenLaw.row PySem.Challenge.rw_trellis_k20_degenerate
def PX : Program := RX.prog
def bodyX : List Stmt := behindTheImports PX
def stX (w : World) : SharedT → Thread → Option (SharedT × Thread) := stepQ (denQ tabQ) PX w
def posX (i : Nat) : Pos := match bodyX.drop i with
  | .FunctionDef _ _ _ _ _ _ _ _ _ p :: _ => p
  | _ => default
def bootX (w : World) (os : OsState) : SharedT := match putAll (boot_heap w.params).objs.toList .nil 0 with
  | some (t, n) => frNat n fun n0 => bootT w os (t, n0)
  | none => bootT w os (.nil, 0)
def goK (st : SharedT → Thread → Option (SharedT × Thread)) : Nat → SharedT → Thread → Option (SharedT × Thread)
  | 0, s, t => some (s, t)
  | m + 1, s, t => match st s t with
    | some (s', t') => frS s' fun s' => goK st m s' t'
    | none => none
def begX (w : World) (os : OsState) : Thread := match goK (stX w) 12 (bootX w os) (topStub PX) with
  | some (_, t) => t
  | none => topStub PX
def envOfX (t : Thread) : Env := match t.code with
  | .body _ e => e
  | _ => default
/-- the thread ahead of the i-th statement -/
def thX (w : World) (os : OsState) (i : Nat) (p : Pos) : Thread := match begX w os with
  | t => ⟨denQ tabQ (.body (bodyX.drop i) (envOfX t)), t.code, p, t.stack⟩
def defsX (w : World) (os : OsState) (i k : Nat) (ls : List (Option (List Str × List Str))) (s : Option SharedT) : Option SharedT := match s with
  | some s => HP.segO ⟨PX, w.params⟩ (envOfX (begX w os)) 3 12 13 9 0 ((bodyX.drop i).take k) ls s
  | none => none
def asgX (w : World) (os : OsState) (i k : Nat) (s : Option SharedT) : Option SharedT := match s with
  | some s => HP.segA (denQ tabQ) ⟨PX, w.params⟩ (envOfX (begX w os)) 3 12 13 ((bodyX.drop i).take k) s
  | none => none
def startX (w : World) (os : OsState) : SharedT := match goK (stX w) 12 (bootX w os) (topStub PX) with
  | some (s, _) => s
  | none => bootX w os
def slowX (w : World) (os : OsState) (i j : Nat) (s : Option SharedT) : Option SharedT := match s with
  | some s => match HP.goB (stX w) 11 (bootAnn w) (posX j) 20000 s (thX w os i (posX (i - 1))) with
    | some (s', _) => some s'
    | none => none
  | none => none
def sX1 (w : World) (os : OsState) : Option SharedT := asgX w os 0 1 ((some (startX w os)))
def sX15 (w : World) (os : OsState) : Option SharedT := defsX w os 1 14 [some (["value"], []), some (["value", "many"], []), some (["value", "word", "many"], []), some (["n", "value"], []), some (["n", "value"], ["n"]), some (["n", "value"], []), some (["n", "value"], []), some (["n", "value"], []), some (["items"], ["items"]), some (["n", "value"], []), some (["n", "value"], []), some (["n", "value"], ["n"]), none, none] (sX1 w os)
def sX16 (w : World) (os : OsState) : Option SharedT := asgX w os 15 1 (sX15 w os)
def sX20 (w : World) (os : OsState) : Option SharedT := slowX w os 16 20 (sX16 w os)
def sX36 (w : World) (os : OsState) : Option SharedT := defsX w os 20 16 [none, none, some (["graph", "order", "around", "left", "behind", "v"], []), none, some (["members", "mask", "v"], []), some (["mask", "found", "low"], []), some (["mask"], []), some (["mask"], []), some (["around", "mask", "near", "v"], []), some (["around", "mask", "parts", "part"], []), some (["around", "mask", "fresh", "seen"], []), none, some (["around", "u", "v", "rows"], []), some (["mask", "v"], []), some (["n"], []), some (["part", "whole"], [])] (sX20 w os)
def sX38 (w : World) (os : OsState) : Option SharedT := asgX w os 36 2 (sX36 w os)
def sX52 (w : World) (os : OsState) : Option SharedT := defsX w os 38 14 [some (["value"], []), some (["value", "n", "edges"], []), none, some (["u", "v"], []), none, some (["graph", "u", "v"], []), some (["graph", "members"], []), none, some (["graph", "around", "placed", "found", "v", "part", "u"], []), some (["around", "start", "seen", "waiting", "v", "w"], []), some (["graph", "members"], []), none, none, none] (sX38 w os)
def sX53 (w : World) (os : OsState) : Option SharedT := asgX w os 52 1 (sX52 w os)
def sX60 (w : World) (os : OsState) : Option SharedT := defsX w os 53 7 [none, some (["around", "start"], ["around"]), some (["steps", "start", "before", "layer", "further", "v", "w"], []), some (["v", "before", "way"], []), some (["graph", "around", "before", "v"], []), some (["graph", "before", "u", "v"], []), some (["before", "u", "v", "fork", "first", "second"], [])] (sX53 w os)
def sX67 (w : World) (os : OsState) : Option SharedT := defsX w os 60 7 [none, some (["graph", "value"], []), some (["graph", "value"], []), none, some (["n", "edges", "above", "u", "v", "low", "high"], ["sizes"]), some (["above", "v"], []), some (["n", "edges"], [])] (sX60 w os)
def sX68 (w : World) (os : OsState) : Option SharedT := asgX w os 67 1 (sX67 w os)
def sX81 (w : World) (os : OsState) : Option SharedT := defsX w os 68 13 [none, none, none, some (["value"], []), none, some (["first", "second"], []), some (["graph", "value", "_", "a", "b", "c", "p", "q", "r"], []), some (["graph", "start", "end", "other", "path", "near"], []), none, none, some (["around", "arrow", "forced", "a", "b", "c", "d"], []), some (["graph", "value"], []), none] (sX68 w os)
def sX82 (w : World) (os : OsState) : Option SharedT := asgX w os 81 1 (sX81 w os)
def sX87 (w : World) (os : OsState) : Option SharedT := defsX w os 82 5 [some (["graph", "rotation", "placed", "found", "arrow", "walk", "step"], []), none, some (["rotation", "start", "walk", "arrow"], []), some (["rotation", "arrow", "u", "v", "around"], []), some (["graph", "search", "v"], [])] (sX82 w os)
def sX88 (w : World) (os : OsState) : Option SharedT := slowX w os 87 88 (sX87 w os)
def sX90 (w : World) (os : OsState) : Option SharedT := defsX w os 88 2 [none, none] (sX88 w os)
def sX95 (w : World) (os : OsState) : Option SharedT := asgX w os 90 5 (sX90 w os)
def sX103 (w : World) (os : OsState) : Option SharedT := defsX w os 95 8 [none, none, none, none, none, some (["first", "second", "a", "c", "b", "d"], []), none, some (["graph", "ends", "path"], [])] (sX95 w os)
def sX104 (w : World) (os : OsState) : Option SharedT := asgX w os 103 1 (sX103 w os)
def sX110 (w : World) (os : OsState) : Option SharedT := defsX w os 104 6 [none, none, none, some (["sets", "many", "used", "mask"], []), none, some (["sets"], [])] (sX104 w os)
def sX111 (w : World) (os : OsState) : Option SharedT := asgX w os 110 1 (sX110 w os)
def sX120 (w : World) (os : OsState) : Option SharedT := defsX w os 111 9 [none, some (["n", "value"], ["n"]), some (["many", "value"], ["many"]), some (["many", "value"], []), none, none, none, none, some (["graph", "order", "place", "around", "rows", "left", "v", "behind", "u"], ["place"])] (sX111 w os)
def sX121 (w : World) (os : OsState) : Option SharedT := defsX w os 120 1 [none] (sX120 w os)
def sX125 (w : World) (os : OsState) : Option SharedT := asgX w os 121 4 (sX121 w os)
def sX129 (w : World) (os : OsState) : Option SharedT := defsX w os 125 4 [some (["graph", "members", "mask"], []), some (["graph", "members"], []), some (["around", "whole", "mask", "parting"], []), some (["around", "whole", "mask", "some", "every", "v"], [])] (sX125 w os)
def sX130 (w : World) (os : OsState) : Option SharedT := asgX w os 129 1 (sX129 w os)
def sX139 (w : World) (os : OsState) : Option SharedT := defsX w os 130 9 [some (["graph"], []), none, some (["graph"], []), some (["tables", "mask", "around", "opposite", "parts"], []), none, some (["n", "tree"], []), some (["n", "value", "seen", "waiting", "part"], []), some (["value"], []), none] (sX130 w os)
def sX140 (w : World) (os : OsState) : Option SharedT := asgX w os 139 1 (sX139 w os)
def sX144 (w : World) (os : OsState) : Option SharedT := defsX w os 140 4 [none, none, none, some (["around", "pair", "row", "n", "mask", "v", "near"], [])] (sX140 w os)
def sX145 (w : World) (os : OsState) : Option SharedT := asgX w os 144 1 (sX144 w os)
def sX161 (w : World) (os : OsState) : Option SharedT := defsX w os 145 16 [none, some (["n", "k", "value"], ["k"]), none, some (["graph", "k", "value", "waiting", "around", "left", "search", "_", "u", "v", "same", "different"], []), some (["around", "left", "value"], []), some (["around", "left", "value", "u", "v"], []), some (["graph", "k", "value", "around", "waiting", "left", "many", "search", "_", "v", "taken", "not_taken", "others"], []), none, none, none, some (["graph"], []), some (["graph", "other", "value", "waiting", "pairs", "search", "further"], []), none, none, some (["graph", "v"], []), none] (sX145 w os)
def sX162 (w : World) (os : OsState) : Option SharedT := asgX w os 161 1 (sX161 w os)
def sX165 (w : World) (os : OsState) : Option SharedT := defsX w os 162 3 [none, none, none] (sX162 w os)
def sX166 (w : World) (os : OsState) : Option SharedT := asgX w os 165 1 (sX165 w os)
def sX171 (w : World) (os : OsState) : Option SharedT := defsX w os 166 5 [some (["graph", "direction", "many", "_", "v"], []), none, none, none, none] (sX166 w os)
def sX172 (w : World) (os : OsState) : Option SharedT := asgX w os 171 1 (sX171 w os)
def sX180 (w : World) (os : OsState) : Option SharedT := defsX w os 172 8 [none, none, none, some (["graph", "value", "n", "edges", "built", "ear"], []), some (["graph", "built", "value"], []), none, some (["graph", "s", "t", "value"], []), none] (sX172 w os)
def sX183 (w : World) (os : OsState) : Option SharedT := asgX w os 180 3 (sX180 w os)
def sX184 (w : World) (os : OsState) : Option SharedT := defsX w os 183 1 [some (["graph", "value", "kind"], [])] (sX183 w os)
def sX186 (w : World) (os : OsState) : Option SharedT := defsX w os 184 2 [some (["graph", "s", "t", "n"], []), some (["value"], [])] (sX184 w os)
def sX187 (w : World) (os : OsState) : Option SharedT := asgX w os 186 1 (sX186 w os)
def sX189 (w : World) (os : OsState) : Option SharedT := defsX w os 187 2 [some (["graph", "question", "paper", "answer", "data"], []), none] (sX187 w os)
def sX190 (w : World) (os : OsState) : Option SharedT := asgX w os 189 1 (sX189 w os)
def sX198 (w : World) (os : OsState) : Option SharedT := defsX w os 190 8 [none, none, some (["graph", "around", "left", "order", "v"], []), some (["around", "left", "v"], []), none, some (["around", "arrow"], ["around"]), some (["graph", "around", "chain"], []), some (["graph", "around", "seen", "u", "v", "before", "arrow"], [])] (sX190 w os)
def sX199 (w : World) (os : OsState) : Option SharedT := asgX w os 198 1 (sX198 w os)
def sX201 (w : World) (os : OsState) : Option SharedT := defsX w os 199 2 [none, some (["around", "towards", "rows", "u", "v"], [])] (sX199 w os)
def sX202 (w : World) (os : OsState) : Option SharedT := asgX w os 201 1 (sX201 w os)
def sX213 (w : World) (os : OsState) : Option SharedT := defsX w os 202 11 [none, some (["graph", "order", "left"], []), some (["graph", "direction", "chain"], []), none, some (["n", "arrows"], ["many"]), some (["n", "arrows", "many", "_", "v"], []), some (["graph", "hole", "asteroid", "before", "_"], []), some (["n", "before", "begin", "end", "u", "v"], []), none, some (["graph", "v", "around", "row", "part", "u"], []), some (["graph", "start", "end", "other", "near"], [])] (sX202 w os)
def sX214 (w : World) (os : OsState) : Option SharedT := asgX w os 213 1 (sX213 w os)
def sX224 (w : World) (os : OsState) : Option SharedT := defsX w os 214 10 [none, some (["graph", "n", "edges", "found"], []), none, none, some (["graph", "around", "cycle", "faces", "drawn", "piece", "at", "path"], []), some (["drawn", "row", "u", "v"], []), none, none, some (["around", "piece", "ends", "part", "start", "goal", "ways", "v", "row"], []), some (["face", "path", "at", "turned", "end"], [])] (sX214 w os)
def sX225 (w : World) (os : OsState) : Option SharedT := asgX w os 224 1 (sX224 w os)
def sX234 (w : World) (os : OsState) : Option SharedT := defsX w os 225 9 [some (["graph", "question"], []), none, none, none, none, some (["graph", "ways", "v", "others", "way"], []), none, none, none] (sX225 w os)
def sX236 (w : World) (os : OsState) : Option SharedT := asgX w os 234 2 (sX234 w os)
def sX241 (w : World) (os : OsState) : Option SharedT := defsX w os 236 5 [some (["around", "whole", "k", "first", "rows", "left", "rest"], []), some (["around", "whole", "k", "rows", "left", "order", "v"], []), some (["rows", "left", "k", "v", "near"], []), none, some (["rows", "v", "near", "found", "u", "row"], [])] (sX236 w os)
def sX243 (w : World) (os : OsState) : Option SharedT := asgX w os 241 2 (sX241 w os)
def sX244 (w : World) (os : OsState) : Option SharedT := defsX w os 243 1 [some (["around", "whole", "k", "rows", "left", "order", "v"], [])] (sX243 w os)
def sX245 (w : World) (os : OsState) : Option SharedT := defsX w os 244 1 [some (["rows", "members"], ["rows"])] (sX244 w os)
def sX247 (w : World) (os : OsState) : Option SharedT := slowX w os 245 247 (sX245 w os)
def sX256 (w : World) (os : OsState) : Option SharedT := defsX w os 247 9 [none, none, some (["groups", "members", "mask", "v"], []), none, none, none, none, none, none] (sX247 w os)
def sX257 (w : World) (os : OsState) : Option SharedT := asgX w os 256 1 (sX256 w os)
def sX262 (w : World) (os : OsState) : Option SharedT := defsX w os 257 5 [none, some (["graph", "tree"], []), some (["graph", "around", "b", "c", "ends", "a"], []), some (["graph", "n", "around", "rows", "u", "v"], []), some (["around", "mask", "row", "v"], [])] (sX257 w os)
def sX264 (w : World) (os : OsState) : Option SharedT := asgX w os 262 2 (sX262 w os)
def sX265 (w : World) (os : OsState) : Option SharedT := defsX w os 264 1 [none] (sX264 w os)
def sX266 (w : World) (os : OsState) : Option SharedT := asgX w os 265 1 (sX265 w os)
def sX269 (w : World) (os : OsState) : Option SharedT := defsX w os 266 3 [none, some (["graph", "mates", "spare", "v", "mate", "search", "mask"], []), some (["graph", "around", "mates", "v", "search"], [])] (sX266 w os)
def sX272 (w : World) (os : OsState) : Option SharedT := slowX w os 269 272 (sX269 w os)
def sX273 (w : World) (os : OsState) : Option SharedT := defsX w os 272 1 [none] (sX272 w os)
def sX274 (w : World) (os : OsState) : Option SharedT := asgX w os 273 1 (sX273 w os)
def sX283 (w : World) (os : OsState) : Option SharedT := defsX w os 274 9 [none, some (["graph", "k", "edges"], []), none, some (["around", "left", "best", "v", "clique", "u"], ["around", "common"]), some (["around", "left", "clique", "others", "v"], ["around", "left", "clique"]), none, some (["graph", "k", "waiting", "done", "task", "not_taken", "taken", "_", "chosen", "cover", "v", "others"], ["around", "left"]), some (["around", "left", "cliques", "v", "clique", "common", "u"], ["around", "left"]), none] (sX274 w os)
def sX284 (w : World) (os : OsState) : Option SharedT := asgX w os 283 1 (sX283 w os)
def sX286 (w : World) (os : OsState) : Option SharedT := defsX w os 284 2 [some (["graph", "many", "n", "edges", "places", "parts", "chain", "target", "closed"], []), none] (sX284 w os)
def sX288 (w : World) (os : OsState) : Option SharedT := asgX w os 286 2 (sX286 w os)
def sX290 (w : World) (os : OsState) : Option SharedT := defsX w os 288 2 [none, none] (sX288 w os)
def sX291 (w : World) (os : OsState) : Option SharedT := asgX w os 290 1 (sX290 w os)
def sX299 (w : World) (os : OsState) : Option SharedT := defsX w os 291 8 [none, some (["graph", "k", "around", "left", "order", "v"], []), some (["around", "left", "k", "v"], []), none, none, none, none, none] (sX291 w os)
def sX300 (w : World) (os : OsState) : Option SharedT := asgX w os 299 1 (sX299 w os)
def sX303 (w : World) (os : OsState) : Option SharedT := defsX w os 300 3 [some (["graph", "s", "t", "most", "around", "flow", "many", "before"], []), none, none] (sX300 w os)
def sX305 (w : World) (os : OsState) : Option SharedT := asgX w os 303 2 (sX303 w os)
def sX306 (w : World) (os : OsState) : Option SharedT := defsX w os 305 1 [none] (sX305 w os)
def sX307 (w : World) (os : OsState) : Option SharedT := asgX w os 306 1 (sX306 w os)
def sX308 (w : World) (os : OsState) : Option SharedT := defsX w os 307 1 [none] (sX307 w os)
def sX316 (w : World) (os : OsState) : Option SharedT := defsX w os 308 8 [none, none, some (["graph", "cycle"], []), some (["graph", "n", "parts", "cuts", "sides"], []), some (["graph", "around", "ears", "built"], []), none, some (["around", "built", "v", "w"], []), none] (sX308 w os)
def sX317 (w : World) (os : OsState) : Option SharedT := asgX w os 316 1 (sX316 w os)
def sX318 (w : World) (os : OsState) : Option SharedT := defsX w os 317 1 [none] (sX317 w os)
def sX319 (w : World) (os : OsState) : Option SharedT := asgX w os 318 1 (sX318 w os)
def sX351 (w : World) (os : OsState) : Option SharedT := defsX w os 319 32 [some (["actual", "due", "k"], []), some (["actual"], []), some (["script", "salt", "cell"], []), some (["cell", "mixed", "total", "k"], []), some (["pool", "many", "cell", "mixed", "value"], []), none, none, none, none, some (["graph", "u", "v"], []), some (["graph", "v", "members", "found", "u", "w"], []), none, none, none, none, some (["graph", "value"], []), some (["graph", "value"], []), none, some (["graph", "value"], []), some (["graph", "value"], []), none, none, none, none, some (["pool", "value", "at", "turn", "other", "items"], []), none, none, none, none, some (["pool", "told", "drawn", "papers", "k", "bent", "pair"], []), none, some (["script", "pool", "graph", "question", "told", "drawn", "turn", "paper"], [])] (sX319 w os)
def gX (s : Option SharedT) : SharedT := match s with
  | some s => s
  | none => ⟨.nil, 0, {}, #[], {}, 0, {}⟩
theorem piece60 (w : World) (os : OsState) : HP.goB (stX w) 11 (bootAnn w) (posX 60) 20000 (bootX w os) (topStub PX) = some (gX (sX60 w os), thX w os 60 (posX 59)) := by kernel_rfl
theorem piece120 (w : World) (os : OsState) : HP.goB (stX w) 11 (bootAnn w) (posX 120) 20000 (gX (sX60 w os)) (thX w os 60 (posX 59)) = some (gX (sX120 w os), thX w os 120 (posX 119)) := by kernel_rfl
theorem piece184 (w : World) (os : OsState) : HP.goB (stX w) 11 (bootAnn w) (posX 184) 20000 (gX (sX120 w os)) (thX w os 120 (posX 119)) = some (gX (sX184 w os), thX w os 184 (posX 183)) := by kernel_rfl
theorem piece244 (w : World) (os : OsState) : HP.goB (stX w) 11 (bootAnn w) (posX 244) 20000 (gX (sX184 w os)) (thX w os 184 (posX 183)) = some (gX (sX244 w os), thX w os 244 (posX 243)) := by kernel_rfl
theorem piece308 (w : World) (os : OsState) : HP.goB (stX w) 11 (bootAnn w) (posX 308) 20000 (gX (sX244 w os)) (thX w os 244 (posX 243)) = some (gX (sX308 w os), thX w os 308 (posX 307)) := by kernel_rfl
theorem pieceE (w : World) (os : OsState) : goF (stX w) 11 (bootAnn w) 20000 (gX (sX308 w os)) (thX w os 308 (posX 307)) = some (gX (sX351 w os)) := by kernel_rfl
end
end HT

set_option Elab.async false
set_option linter.all false
set_option maxRecDepth 100000
set_option maxHeartbeats 4000000
namespace HB
open PySem PySem.W PySem.Calls PyProof.Rows TablesWhole
/-! # the looks at a long text, statement by statement in chunks -/
theorem wSs_and {A : Alg Bool} (hu : A.unit = true) (hb : ∀ a b, A.both a b = (a && b)) (top : Scope) (cx : TablesWhole.Ctx) (sc : Scope) : ∀ (l m : List Stmt), wSs A top cx sc l = true → wSs A top cx sc m = true → wSs A top cx sc (l ++ m) = true
  | [], m, _, h => h
  | s :: l, m, h1, h2 => by
    rw [wSs, hb, Bool.and_eq_true_iff] at h1
    rw [List.cons_append, wSs, hb, Bool.and_eq_true_iff]
    exact ⟨h1.1, wSs_and hu hb top cx sc l m h1.2 h2⟩
theorem wSs_app {α : Type} {A : Alg (List α)} (hb : ∀ a b, A.both a b = a ++ b) (top : Scope) (cx : TablesWhole.Ctx) (sc : Scope) : ∀ (l m : List Stmt), wSs A top cx sc l = [] → wSs A top cx sc m = [] → wSs A top cx sc (l ++ m) = []
  | [], m, _, h => h
  | s :: l, m, h1, h2 => by
    rw [wSs, hb, List.append_eq_nil_iff] at h1
    rw [List.cons_append, wSs, hb, List.append_eq_nil_iff]
    exact ⟨h1.1, wSs_app hb top cx sc l m h1.2 h2⟩
theorem told_take {α : Type} {A : Alg (List α)} (hb : ∀ a b, A.both a b = a ++ b) (hu : A.unit = []) (top : Scope) (cx : TablesWhole.Ctx) (sc : Scope) : ∀ (l : List Stmt) (k : Nat), wSs A top cx sc l = [] → wSs A top cx sc (l.take k) = []
  | [], k, h => by rw [List.take_nil]; exact h
  | s :: l, 0, h => by
    rw [List.take_zero, wSs]
    exact hu
  | s :: l, k + 1, h => by
    rw [wSs, hb, List.append_eq_nil_iff] at h
    rw [List.take_succ_cons, wSs, hb, List.append_eq_nil_iff]
    exact ⟨h.1, told_take hb hu top cx sc l k h.2⟩
theorem cut {α : Type} {P : List α → Prop} (app : ∀ l m, P l → P m → P (l ++ m)) {l : List α} (i k : Nat) (h1 : P ((l.drop i).take k)) (h2 : P (l.drop (i + k))) : P (l.drop i) := by
  have e : (l.drop i).take k ++ l.drop (i + k) = l.drop i := by
    rw [← List.drop_drop]
    exact List.take_append_drop k (l.drop i)
  rw [← e]
  exact app _ _ h1 h2
theorem roads_app {lk : Look} : ∀ (l m : List Stmt), noRoadLSs lk l = true → noRoadLSs lk m = true → noRoadLSs lk (l ++ m) = true
  | [], m, _, h => h
  | s :: l, m, h1, h2 => by
    rw [noRoadLSs, Bool.and_eq_true_iff] at h1
    rw [List.cons_append, noRoadLSs, Bool.and_eq_true_iff]
    exact ⟨h1.1, roads_app l m h1.2 h2⟩
/-! # names, each once: by places in a long number -/
noncomputable def cdN (M : Nat) (s : Str) : Nat := Nat.mod (Fast.code s.cps.toList) M
noncomputable def dist (M : Nat) (l : List (Str × NameKind)) : Nat → Bool :=
  @List.rec (Str × NameKind) (fun _ => Nat → Bool) (fun _ => true) (fun p _ ih m => @Bool.rec (fun _ => Bool) false (ih (Nat.lor m (Nat.shiftLeft 1 (cdN M p.1)))) (Nat.beq (Nat.land (Nat.shiftRight m (cdN M p.1)) 1) 0)) l
theorem bit0 {m i : Nat} (h : Nat.beq (Nat.land (Nat.shiftRight m i) 1) 0 = true) : m.testBit i = false := by
  have h : (m >>> i) &&& 1 = 0 := Nat.eq_of_beq_eq_true h
  rw [Nat.testBit, Nat.and_comm, h]
  rfl
theorem dist_ok {M : Nat} : ∀ (l : List (Str × NameKind)) (m : Nat), dist M l m = true → (∀ p ∈ l, m.testBit (cdN M p.1) = false) ∧ (l.map fun p => p.1).Nodup
  | [], m, _ => ⟨fun p hp => (nomatch hp), .nil⟩
  | p :: l, m, h => by
    have h : @Bool.rec (fun _ => Bool) false (dist M l (Nat.lor m (Nat.shiftLeft 1 (cdN M p.1)))) (Nat.beq (Nat.land (Nat.shiftRight m (cdN M p.1)) 1) 0) = true := h
    cases e : Nat.beq (Nat.land (Nat.shiftRight m (cdN M p.1)) 1) 0 with
    | false =>
      rw [e] at h
      cases h
    | true =>
      rw [e] at h
      have h : dist M l (m ||| 1 <<< cdN M p.1) = true := h
      obtain ⟨h1, h2⟩ := dist_ok l _ h
      have key : ∀ q ∈ l, m.testBit (cdN M q.1) = false ∧ cdN M q.1 ≠ cdN M p.1 := fun q hq => by
        have := h1 q hq
        rw [Nat.testBit_or, Bool.or_eq_false_iff, Nat.one_shiftLeft] at this
        refine ⟨this.1, fun z => ?_⟩
        rw [z, Nat.testBit_two_pow_self] at this
        cases this.2
      refine ⟨fun q hq => ?_, ?_⟩
      · rcases List.mem_cons.mp hq with rfl | hq
        · exact bit0 e
        · exact (key q hq).1
      · rw [List.map_cons, List.nodup_cons]
        refine ⟨fun hm => ?_, h2⟩
        obtain ⟨q, hq, z⟩ := List.mem_map.mp hm
        exact (key q hq).2 (congrArg (cdN M) z)
theorem once {l : List (Str × NameKind)} (nd : (l.map fun p => p.1).Nodup) {p : Str × NameKind} (hp : p ∈ l) : l.filter (fun q => q.1 == p.1) = [p] := by
  induction l with
  | nil => cases hp
  | cons a l ih =>
    rw [List.map_cons, List.nodup_cons] at nd
    rcases List.mem_cons.mp hp with rfl | hp
    · rw [List.filter_cons, if_pos (beq_self_eq_true _)]
      refine congrArg (p :: ·) (List.filter_eq_nil_iff.mpr fun q hq e => nd.1 ?_)
      exact List.mem_map.mpr ⟨q, hq, eq_of_beq e⟩
    · have ne : (a.1 == p.1) = false := by
        rw [beq_eq_false_iff_ne]
        exact fun e => nd.1 (List.mem_map.mpr ⟨p, hp, e.symm⟩)
      rw [List.filter_cons, ne]
      exact ih nd.2 hp
theorem noTwice_of {sc : Scope} (M : Nat) (h : dist M sc.names 0 = true) : noTwice sc = true := by
  unfold noTwice
  rw [List.all_eq_true]
  rintro ⟨n, k⟩ hp
  have := once (dist_ok _ _ h).2 hp
  simp only [this]
theorem tables_of {p : Program} (hm : p.modules = []) (hp : p.parses = []) (hh : p.harvested = []) (nt : noTwice p.main.scope = true) (told : wSs gather p.main.scope ⟨p.main.scope, [], [], [], none⟩ p.main.scope (p.main.body.drop 0) = []) (b : wSs holds p.main.scope ⟨p.main.scope, [], [], [], none⟩ p.main.scope (p.main.body.drop 0) = true) : p.tablesWhole = true := by
  rw [List.drop_zero] at told b
  unfold Program.tablesWhole wProgram wModule
  rw [hm, hp, hh, told]
  simp only [Alg.all, List.map_nil, List.foldr_cons, List.foldr_nil]
  rw [b]
  simp only [holds, nt]
  rfl
/-- a walk that asks names only -/
def mA (f : Scope → Str → Bool) : Alg Bool := ⟨fun sc n _ => f sc n, fun _ _ _ _ => true, fun _ => true, true, false, fun a b => a && b⟩
theorem meet_of {f : Scope → Str → Bool} {p : Program} {body : List Stmt} (told : wSs gather p.main.scope ⟨p.main.scope, [], [], [], none⟩ p.main.scope (body.drop 0) = []) (b : wSs (mA f) p.main.scope ⟨p.main.scope, [], [], [], none⟩ p.main.scope (body.drop 0) = true) : namesMeet p body f = true := by
  rw [List.drop_zero] at told b
  unfold mA at b
  unfold namesMeet wModule
  simp only [told, Alg.all, List.foldr_cons, List.foldr_nil, b, Bool.and_true]
def resF (p : Program) (sc : Scope) (n : Str) : Bool := match sc.names.lookup n with
    | some .globalImplicit | some .globalExplicit => p.boundNames.contains n || n == ("__name__" : Str) || n == ("__debug__" : Str) || (builtinNamed n && !worldNames.contains n && !n.opensWith "__")
    | _ => true
theorem resolve_of {p : Program} (h : namesMeet p p.main.body (resF p) = true) : namesResolve p = true := h
theorem reads_of {p : Program} {body : List Stmt} {n : Str} (h : namesMeet p body (fun sc x => x != n || !(sc.names.lookup x == some .globalImplicit || sc.names.lookup x == some .globalExplicit)) = true) : readsOut p body n = false := by
  unfold readsOut
  rw [h]
  rfl
theorem roads_of {p : Program} (hs : (!(importedModules p.main.body).all cThrough.contains) = false) (r1 : readsOut p p.main.body "vars" = false) (r2 : readsOut p p.main.body "dir" = false) (r3 : readsOut p p.main.body "locals" = false) (h : noRoadLSs { strict := false, foot := none, bare := [] } (p.main.body.drop 0) = true) :
    noRoadLSs { strict := !(importedModules p.main.body).all cThrough.contains, foot := none, bare := (["vars", "dir", "locals"] : List Str).filter (readsOut p p.main.body) } p.main.body = true := by
  rw [List.drop_zero] at h
  rw [hs]
  simp only [List.filter_cons, r1, r2, r3, List.filter_nil]
  exact h
/-- the keys are names of the text, in its order -/
def subl (keys bound : List Str) : Bool := match keys, bound with
  | [], _ => true
  | _ :: _, [] => false
  | k :: ks, b :: bs => if k == b then subl ks bs else subl (k :: ks) bs
theorem subl_ok : ∀ (bound keys : List Str), subl keys bound = true → ∀ k ∈ keys, k ∈ bound
  | bound, [], _, k, hk => (nomatch hk)
  | [], x :: ks, h, k, hk => by
    unfold subl at h
    cases h
  | b :: bs, x :: ks, h, k, hk => by
    unfold subl at h
    cases e : x == b with
    | true =>
      rw [e, if_pos rfl] at h
      rcases List.mem_cons.mp hk with rfl | hk
      · rw [eq_of_beq e]
        exact List.mem_cons_self
      · exact List.mem_cons_of_mem _ (subl_ok bs ks h k hk)
    | false =>
      rw [e, if_neg (by decide)] at h
      exact List.mem_cons_of_mem _ (subl_ok bs (x :: ks) h k hk)
theorem nb_of {p : Program} {h : Heap} (j : Nat) (x : (h.isNs mainGlobals && ((h.nsKeys mainGlobals).take j).all (fun k => startupNames.contains k) && subl ((h.nsKeys mainGlobals).drop j) p.boundNames) = true) : namesBound p h = true := by
  rw [Bool.and_eq_true, Bool.and_eq_true] at x
  obtain ⟨⟨h1, h2⟩, h3⟩ := x
  unfold namesBound
  rw [h1, Bool.true_and, List.all_eq_true]
  intro k hk
  rw [← List.take_append_drop j (h.nsKeys mainGlobals)] at hk
  rw [Bool.or_eq_true]
  rcases List.mem_append.mp hk with c | c
  · exact .inl (List.all_eq_true.mp h2 k c)
  · exact .inr (List.contains_iff_mem.mpr (subl_ok _ _ h3 k c))
end HB

set_option Elab.async false
set_option linter.all false
set_option maxRecDepth 100000
set_option maxHeartbeats 0
namespace Z
noncomputable section
open PySem PySem.W PySem.Calls PyProof.Rows L2 HandSHeadRun
abbrev RX : OpenRow := OpenLaw.row PySem.Challenge.rw_trellis_k20_degenerate
abbrev qV : Program := view RX.prog [350]
def names0 : List PySem.Str := ["__name__", "is_integer", "is_tuple", "is_headed", "is_vertex", "are_vertices", "is_row", "is_order", "is_set", "is_ascending", "is_pair", "is_edge", "are_edges", "are_edges_of", "is_direction", "TrellisError", "BadGraph", "BadQuestion", "neighbour_lists", "neighbour_masks", "masks_behind", "is_clique", "mask_of", "members_of", "size_of", "first_of", "near_of", "parts_of", "_connected_to", "merged"]
def names1 : List PySem.Str := ["joined", "has", "full_mask", "is_within", "MOST_VERTICES", "is_size", "is_graph", "graph_of", "edge_of", "neighbours", "are_neighbours", "inside", "_edges_inside", "components", "_reached", "is_connected", "complement", "induced", "renamed", "shortest_path", "reached", "reached_by", "way_to", "searched", "found_cycle", "closed_way", "parted_ways", "is_path", "is_cycle", "_are_steps"]
def names2 : List PySem.Str := ["is_forest", "_top", "is_spanning_tree", "is_class_paper", "_are_cliques_behind", "_is_hole", "_is_interval", "_meet_right", "_meet", "_is_asteroid", "_leads_past", "_leads_on", "_is_chain", "_forces", "_is_chain_of_either", "_differ_right", "faces", "_arrows", "_walk", "_arrow_behind", "blocks", "BlockSearch", "_without_edges_of", "cut_vertices", "FIVE", "THREE", "FOUR", "TWO", "is_drawing_paper", "_is_rotation"]
def names3 : List PySem.Str := ["_is_plane", "_is_part_plane", "_do_edges_cross", "_cross", "_contains", "_joins", "mask_within", "_least_sets", "_search", "_needed_apart", "_may_suffice", "_smallest", "is_decomposition", "_are_bags", "_are_links", "_is_link", "_holds_edges", "_is_together", "width_of", "from_order", "_rows_behind", "is_bramble", "UNION", "JOIN", "PRIME", "is_module", "least_module", "_least", "_parting", "parting_modules"]
def names4 : List PySem.Str := ["module_tree", "_tree", "_both_tables", "_largest_inside", "_prime_parts", "tree_graph", "is_tree", "_is_node", "_vertices_and_pairs", "is_part_paper", "_has_no_shortcut", "_are_all_split", "_takes_in_all", "is_search_paper", "_are_colours", "_do_neighbours_differ", "_is_colour_search", "_is_clique_among", "_is_split", "_is_set_search", "_is_cover", "_have_no_common_end", "_most_matched", "_sizes", "_is_pairing_search", "_searches_tried", "_is_dead_end", "_degree", "_many_near", "is_sparse_paper"]
def names5 : List PySem.Str := ["are_few_behind", "_is_tight", "is_tight_check_sparse", "_most_arrows_to_one", "_are_forests", "_are_separate_trees", "_is_partition", "_edges_between", "is_walk_paper", "_is_separation", "_parts_all_ends", "_is_built_of_ears", "_is_ear", "_are_separate_paths", "_is_path_between", "_is_cut", "KINDS", "NUMBER_KINDS", "is_question", "_are_ends", "_is_number", "check", "_is_right", "find_hole", "_path_past", "clique_order", "_tied", "forced", "forced_on", "direction_or_chain"]
def names6 : List PySem.Str := ["_chain", "chain_classes", "_direction", "_without", "class_paper", "_chordal_paper", "_comparability_paper", "_permutation_paper", "_by_arrows", "_arrows_to", "_interval_paper", "_intervals", "_asteroid", "_parts_past", "_passing", "drawn_rotation", "_rotation_of_block", "_rotation_of_faces", "_row_around", "drawn_faces", "_drawn_along", "_next_piece", "_pieces", "_path_through", "_parted", "drawing_paper", "_planar_paper", "_outerplanar_paper", "_order_around", "_least_graph"]
def names7 : List PySem.Str := ["_ways_between_corners", "_ways_from", "_corners_of", "_paths", "paths_decide_drawings", "narrow_order", "_begun", "_harmless", "_is_nearly_clique", "taken_out", "is_tight_narrow", "_greedy_order", "_lightest", "NarrowSearch", "found_bramble", "_cut_to", "_union_of", "_shrunk", "_group_of", "_bramble_of_small", "_flaps", "_ways_to_win", "_won", "part_paper", "_cograph_paper", "_bare_path", "_prime_paper", "_taken_in", "parting_decide_parts", "_width_paper"]
def names8 : List PySem.Str := ["largest_matching", "barrier", "_mates", "MateSearch", "Pairing", "degrees_near", "search_paper", "_matching_paper", "_colours_paper", "_clique", "_pair_to_split", "_colour_tasks", "_independent_paper", "_cover", "_isomorphic_paper", "packed", "_parts", "chain_packing", "_in_the_way", "_moved", "sparse_paper", "_degenerate_paper", "_loose", "_indegree_paper", "_tails", "_turned", "_forests_paper", "_trees_paper", "disjoint_paths", "_ways"]
def names9 : List PySem.Str := ["_changed", "paths_disjoint", "_cut", "walk_paper", "_connected_paper", "_bipartite_paper", "_forest_paper", "_block_paper", "_ears", "_next_ear", "_step_out", "_linked_paper", "decide", "_law_same", "_law_is_integer", "_law_pool", "_law_spread", "_law_draw", "_law_pairs", "_law_sorted_graph", "_law_graph", "_law_near", "_law_linked", "_law_reach", "_law_parts", "_law_rising", "_law_ints", "_law_vertices", "_law_is_set", "_law_is_order"]
def names10 : List PySem.Str := ["_law_is_path", "_law_is_cycle", "_law_is_edge", "_law_are_edges", "_law_crossing", "_law_inner", "_law_behind", "_law_bent", "_law_some_set", "_law_some_order", "_law_some_edges", "_law_some_walk", "_law_papers", "_law_right"]
def names : List PySem.Str := names0 ++ (names1 ++ (names2 ++ (names3 ++ (names4 ++ (names5 ++ (names6 ++ (names7 ++ (names8 ++ (names9 ++ (names10))))))))))
abbrev mX : Nat := 20000 + (20000 + (20000 + (20000 + (20000 + (20000)))))
def lastX (w : World) (os : OsState) : SharedT := HT.gX (HT.sX351 w os)
theorem lastRun (w : World) (os : OsState) : goF (HT.stX w) 11 (bootAnn w) mX (HT.bootX w os) (topStub HT.PX) = some (lastX w os) := HP.goB_goF (HT.piece60 w os) (HP.goB_goF (HT.piece120 w os) (HP.goB_goF (HT.piece184 w os) (HP.goB_goF (HT.piece244 w os) (HP.goB_goF (HT.piece308 w os) (HT.pieceE w os)))))
theorem endGo (w : World) (os : OsState) (M : Nat) : endF (stepQ (denQ tabQ) RX.prog w) M RX.prog w os = goF (HT.stX w) 11 (bootAnn w) M (HT.bootX w os) (topStub HT.PX) := by kernel_rfl
theorem endRun (w : World) (os : OsState) : endF (stepQ (denQ tabQ) RX.prog w) mX RX.prog w os = some (lastX w os) := (endGo w os mX).trans (lastRun w os)
theorem all4 (w : World) (os : OsState) : (staticsOk (importedModules RX.prog.main.body) (boot_heap w.params) (lastX w os).abs.heap && gensDone (lastX w os).abs && laidKept (boot_heap w.params) (lastX w os).abs.heap && ((lastX w os).abs.heap.isNs mainGlobals && (((lastX w os).abs.heap.nsKeys mainGlobals).take 9).all (fun k => startupNames.contains k) && HB.subl (((lastX w os).abs.heap.nsKeys mainGlobals).drop 9) RX.prog.boundNames)) = true := by kernel_rfl
theorem looks1 (w : World) (os : OsState) : staticsOk (importedModules RX.prog.main.body) (boot_heap w.params) (lastX w os).abs.heap = true := (Bool.and_eq_true_iff.mp (Bool.and_eq_true_iff.mp (Bool.and_eq_true_iff.mp (all4 w os)).1).1).1
theorem looks2 (w : World) (os : OsState) : namesBound RX.prog (lastX w os).abs.heap = true := HB.nb_of 9 (Bool.and_eq_true_iff.mp (all4 w os)).2
theorem looks3 (w : World) (os : OsState) : gensDone (lastX w os).abs = true := (Bool.and_eq_true_iff.mp (Bool.and_eq_true_iff.mp (Bool.and_eq_true_iff.mp (all4 w os)).1).1).2
theorem looks4 (w : World) (os : OsState) : laidKept (boot_heap w.params) (lastX w os).abs.heap = true := (Bool.and_eq_true_iff.mp (Bool.and_eq_true_iff.mp (all4 w os)).1).2
theorem seenX (w : World) (os : OsState) : HandSHeadRun.seenQ qV names (importedModules RX.prog.main.body) (fun s => xlAt qV [] s && recOk RX.toRowW.records s) (lastX w os).abs = openGood qV names := by kernel_rfl
theorem toldX (w : World) (os : OsState) : obX (lastX w os) = hkX.val w := by kernel_rfl
theorem runX (w : World) : RunEq RX qV hkX obX mX names w := HP.runEq_of (lastX w) (endRun w) (looks1 w) (looks2 w) (looks3 w) (looks4 w) (seenX w) (toldX w)
end

end Z
set_option Elab.async false
set_option linter.all false
set_option maxRecDepth 100000
set_option maxHeartbeats 0
namespace HS
open PySem PySem.W PySem.Calls PyProof.Rows
abbrev LX : OpenLaw := PySem.Challenge.rw_trellis_k20_degenerate
abbrev PX : Program := (OpenLaw.row PySem.Challenge.rw_trellis_k20_degenerate).prog
abbrev cX : TablesWhole.Ctx := ⟨PX.main.scope, [], [], [], none⟩
theorem noT : TablesWhole.noTwice PX.main.scope = true := HB.noTwice_of 60017 (by kernel_rfl)
theorem over : PX.main.body.drop 360 = [] := by kernel_rfl
theorem told0 : TablesWhole.wSs TablesWhole.gather PX.main.scope cX PX.main.scope ((PX.main.body.drop 0).take 60) = [] := by kernel_rfl
theorem told60 : TablesWhole.wSs TablesWhole.gather PX.main.scope cX PX.main.scope ((PX.main.body.drop 60).take 60) = [] := by kernel_rfl
theorem told120 : TablesWhole.wSs TablesWhole.gather PX.main.scope cX PX.main.scope ((PX.main.body.drop 120).take 60) = [] := by kernel_rfl
theorem told180 : TablesWhole.wSs TablesWhole.gather PX.main.scope cX PX.main.scope ((PX.main.body.drop 180).take 60) = [] := by kernel_rfl
theorem told240 : TablesWhole.wSs TablesWhole.gather PX.main.scope cX PX.main.scope ((PX.main.body.drop 240).take 60) = [] := by kernel_rfl
theorem told300 : TablesWhole.wSs TablesWhole.gather PX.main.scope cX PX.main.scope ((PX.main.body.drop 300).take 60) = [] := by kernel_rfl
theorem told : TablesWhole.wSs TablesWhole.gather PX.main.scope cX PX.main.scope (PX.main.body.drop 0) = [] := HB.cut (P := fun l => TablesWhole.wSs TablesWhole.gather PX.main.scope cX PX.main.scope l = []) (fun l m h1 h2 => HB.wSs_app (fun _ _ => rfl) _ _ _ l m h1 h2) 0 60 told0 (HB.cut (P := fun l => TablesWhole.wSs TablesWhole.gather PX.main.scope cX PX.main.scope l = []) (fun l m h1 h2 => HB.wSs_app (fun _ _ => rfl) _ _ _ l m h1 h2) 60 60 told60 (HB.cut (P := fun l => TablesWhole.wSs TablesWhole.gather PX.main.scope cX PX.main.scope l = []) (fun l m h1 h2 => HB.wSs_app (fun _ _ => rfl) _ _ _ l m h1 h2) 120 60 told120 (HB.cut (P := fun l => TablesWhole.wSs TablesWhole.gather PX.main.scope cX PX.main.scope l = []) (fun l m h1 h2 => HB.wSs_app (fun _ _ => rfl) _ _ _ l m h1 h2) 180 60 told180 (HB.cut (P := fun l => TablesWhole.wSs TablesWhole.gather PX.main.scope cX PX.main.scope l = []) (fun l m h1 h2 => HB.wSs_app (fun _ _ => rfl) _ _ _ l m h1 h2) 240 60 told240 (HB.cut (P := fun l => TablesWhole.wSs TablesWhole.gather PX.main.scope cX PX.main.scope l = []) (fun l m h1 h2 => HB.wSs_app (fun _ _ => rfl) _ _ _ l m h1 h2) 300 60 told300 ((by rw [over]; rfl)))))))
theorem body0 : TablesWhole.wSs TablesWhole.holds PX.main.scope cX PX.main.scope ((PX.main.body.drop 0).take 60) = true := by kernel_rfl
theorem body60 : TablesWhole.wSs TablesWhole.holds PX.main.scope cX PX.main.scope ((PX.main.body.drop 60).take 60) = true := by kernel_rfl
theorem body120 : TablesWhole.wSs TablesWhole.holds PX.main.scope cX PX.main.scope ((PX.main.body.drop 120).take 60) = true := by kernel_rfl
theorem body180 : TablesWhole.wSs TablesWhole.holds PX.main.scope cX PX.main.scope ((PX.main.body.drop 180).take 60) = true := by kernel_rfl
theorem body240 : TablesWhole.wSs TablesWhole.holds PX.main.scope cX PX.main.scope ((PX.main.body.drop 240).take 60) = true := by kernel_rfl
theorem body300 : TablesWhole.wSs TablesWhole.holds PX.main.scope cX PX.main.scope ((PX.main.body.drop 300).take 60) = true := by kernel_rfl
theorem body : TablesWhole.wSs TablesWhole.holds PX.main.scope cX PX.main.scope (PX.main.body.drop 0) = true := HB.cut (P := fun l => TablesWhole.wSs TablesWhole.holds PX.main.scope cX PX.main.scope l = true) (fun l m h1 h2 => (HB.wSs_and rfl (fun _ _ => rfl) _ _ _ l m h1 h2)) 0 60 body0 (HB.cut (P := fun l => TablesWhole.wSs TablesWhole.holds PX.main.scope cX PX.main.scope l = true) (fun l m h1 h2 => (HB.wSs_and rfl (fun _ _ => rfl) _ _ _ l m h1 h2)) 60 60 body60 (HB.cut (P := fun l => TablesWhole.wSs TablesWhole.holds PX.main.scope cX PX.main.scope l = true) (fun l m h1 h2 => (HB.wSs_and rfl (fun _ _ => rfl) _ _ _ l m h1 h2)) 120 60 body120 (HB.cut (P := fun l => TablesWhole.wSs TablesWhole.holds PX.main.scope cX PX.main.scope l = true) (fun l m h1 h2 => (HB.wSs_and rfl (fun _ _ => rfl) _ _ _ l m h1 h2)) 180 60 body180 (HB.cut (P := fun l => TablesWhole.wSs TablesWhole.holds PX.main.scope cX PX.main.scope l = true) (fun l m h1 h2 => (HB.wSs_and rfl (fun _ _ => rfl) _ _ _ l m h1 h2)) 240 60 body240 (HB.cut (P := fun l => TablesWhole.wSs TablesWhole.holds PX.main.scope cX PX.main.scope l = true) (fun l m h1 h2 => (HB.wSs_and rfl (fun _ _ => rfl) _ _ _ l m h1 h2)) 300 60 body300 ((by rw [over]; rfl)))))))
theorem bareX0 : PX.bare := ⟨rfl, rfl, rfl, rfl, rfl, HB.tables_of rfl rfl rfl noT told body⟩
theorem reso0 : TablesWhole.wSs (HB.mA (HB.resF PX)) PX.main.scope cX PX.main.scope ((PX.main.body.drop 0).take 60) = true := by unfold HB.mA HB.resF; k_qdec
theorem reso60 : TablesWhole.wSs (HB.mA (HB.resF PX)) PX.main.scope cX PX.main.scope ((PX.main.body.drop 60).take 60) = true := by unfold HB.mA HB.resF; k_qdec
theorem reso120 : TablesWhole.wSs (HB.mA (HB.resF PX)) PX.main.scope cX PX.main.scope ((PX.main.body.drop 120).take 60) = true := by unfold HB.mA HB.resF; k_qdec
theorem reso180 : TablesWhole.wSs (HB.mA (HB.resF PX)) PX.main.scope cX PX.main.scope ((PX.main.body.drop 180).take 60) = true := by unfold HB.mA HB.resF; k_qdec
theorem reso240 : TablesWhole.wSs (HB.mA (HB.resF PX)) PX.main.scope cX PX.main.scope ((PX.main.body.drop 240).take 60) = true := by unfold HB.mA HB.resF; k_qdec
theorem reso300 : TablesWhole.wSs (HB.mA (HB.resF PX)) PX.main.scope cX PX.main.scope ((PX.main.body.drop 300).take 60) = true := by unfold HB.mA HB.resF; k_qdec
theorem reso : TablesWhole.wSs (HB.mA (HB.resF PX)) PX.main.scope cX PX.main.scope (PX.main.body.drop 0) = true := HB.cut (P := fun l => TablesWhole.wSs (HB.mA (HB.resF PX)) PX.main.scope cX PX.main.scope l = true) (fun l m h1 h2 => (HB.wSs_and rfl (fun _ _ => rfl) _ _ _ l m h1 h2)) 0 60 reso0 (HB.cut (P := fun l => TablesWhole.wSs (HB.mA (HB.resF PX)) PX.main.scope cX PX.main.scope l = true) (fun l m h1 h2 => (HB.wSs_and rfl (fun _ _ => rfl) _ _ _ l m h1 h2)) 60 60 reso60 (HB.cut (P := fun l => TablesWhole.wSs (HB.mA (HB.resF PX)) PX.main.scope cX PX.main.scope l = true) (fun l m h1 h2 => (HB.wSs_and rfl (fun _ _ => rfl) _ _ _ l m h1 h2)) 120 60 reso120 (HB.cut (P := fun l => TablesWhole.wSs (HB.mA (HB.resF PX)) PX.main.scope cX PX.main.scope l = true) (fun l m h1 h2 => (HB.wSs_and rfl (fun _ _ => rfl) _ _ _ l m h1 h2)) 180 60 reso180 (HB.cut (P := fun l => TablesWhole.wSs (HB.mA (HB.resF PX)) PX.main.scope cX PX.main.scope l = true) (fun l m h1 h2 => (HB.wSs_and rfl (fun _ _ => rfl) _ _ _ l m h1 h2)) 240 60 reso240 (HB.cut (P := fun l => TablesWhole.wSs (HB.mA (HB.resF PX)) PX.main.scope cX PX.main.scope l = true) (fun l m h1 h2 => (HB.wSs_and rfl (fun _ _ => rfl) _ _ _ l m h1 h2)) 300 60 reso300 ((by rw [over]; rfl)))))))
theorem attr0 : TablesWhole.wSs (HB.mA (fun _ n => attrL n)) PX.main.scope cX PX.main.scope ((PX.main.body.drop 0).take 60) = true := by unfold HB.mA; k_qdec
theorem attr60 : TablesWhole.wSs (HB.mA (fun _ n => attrL n)) PX.main.scope cX PX.main.scope ((PX.main.body.drop 60).take 60) = true := by unfold HB.mA; k_qdec
theorem attr120 : TablesWhole.wSs (HB.mA (fun _ n => attrL n)) PX.main.scope cX PX.main.scope ((PX.main.body.drop 120).take 60) = true := by unfold HB.mA; k_qdec
theorem attr180 : TablesWhole.wSs (HB.mA (fun _ n => attrL n)) PX.main.scope cX PX.main.scope ((PX.main.body.drop 180).take 60) = true := by unfold HB.mA; k_qdec
theorem attr240 : TablesWhole.wSs (HB.mA (fun _ n => attrL n)) PX.main.scope cX PX.main.scope ((PX.main.body.drop 240).take 60) = true := by unfold HB.mA; k_qdec
theorem attr300 : TablesWhole.wSs (HB.mA (fun _ n => attrL n)) PX.main.scope cX PX.main.scope ((PX.main.body.drop 300).take 60) = true := by unfold HB.mA; k_qdec
theorem attr : TablesWhole.wSs (HB.mA (fun _ n => attrL n)) PX.main.scope cX PX.main.scope (PX.main.body.drop 0) = true := HB.cut (P := fun l => TablesWhole.wSs (HB.mA (fun _ n => attrL n)) PX.main.scope cX PX.main.scope l = true) (fun l m h1 h2 => (HB.wSs_and rfl (fun _ _ => rfl) _ _ _ l m h1 h2)) 0 60 attr0 (HB.cut (P := fun l => TablesWhole.wSs (HB.mA (fun _ n => attrL n)) PX.main.scope cX PX.main.scope l = true) (fun l m h1 h2 => (HB.wSs_and rfl (fun _ _ => rfl) _ _ _ l m h1 h2)) 60 60 attr60 (HB.cut (P := fun l => TablesWhole.wSs (HB.mA (fun _ n => attrL n)) PX.main.scope cX PX.main.scope l = true) (fun l m h1 h2 => (HB.wSs_and rfl (fun _ _ => rfl) _ _ _ l m h1 h2)) 120 60 attr120 (HB.cut (P := fun l => TablesWhole.wSs (HB.mA (fun _ n => attrL n)) PX.main.scope cX PX.main.scope l = true) (fun l m h1 h2 => (HB.wSs_and rfl (fun _ _ => rfl) _ _ _ l m h1 h2)) 180 60 attr180 (HB.cut (P := fun l => TablesWhole.wSs (HB.mA (fun _ n => attrL n)) PX.main.scope cX PX.main.scope l = true) (fun l m h1 h2 => (HB.wSs_and rfl (fun _ _ => rfl) _ _ _ l m h1 h2)) 240 60 attr240 (HB.cut (P := fun l => TablesWhole.wSs (HB.mA (fun _ n => attrL n)) PX.main.scope cX PX.main.scope l = true) (fun l m h1 h2 => (HB.wSs_and rfl (fun _ _ => rfl) _ _ _ l m h1 h2)) 300 60 attr300 ((by rw [over]; rfl)))))))
theorem readvars0 : TablesWhole.wSs (HB.mA (fun sc x => x != "vars" || !(sc.names.lookup x == some .globalImplicit || sc.names.lookup x == some .globalExplicit))) PX.main.scope cX PX.main.scope ((PX.main.body.drop 0).take 60) = true := by unfold HB.mA; k_qdec
theorem readvars60 : TablesWhole.wSs (HB.mA (fun sc x => x != "vars" || !(sc.names.lookup x == some .globalImplicit || sc.names.lookup x == some .globalExplicit))) PX.main.scope cX PX.main.scope ((PX.main.body.drop 60).take 60) = true := by unfold HB.mA; k_qdec
theorem readvars120 : TablesWhole.wSs (HB.mA (fun sc x => x != "vars" || !(sc.names.lookup x == some .globalImplicit || sc.names.lookup x == some .globalExplicit))) PX.main.scope cX PX.main.scope ((PX.main.body.drop 120).take 60) = true := by unfold HB.mA; k_qdec
theorem readvars180 : TablesWhole.wSs (HB.mA (fun sc x => x != "vars" || !(sc.names.lookup x == some .globalImplicit || sc.names.lookup x == some .globalExplicit))) PX.main.scope cX PX.main.scope ((PX.main.body.drop 180).take 60) = true := by unfold HB.mA; k_qdec
theorem readvars240 : TablesWhole.wSs (HB.mA (fun sc x => x != "vars" || !(sc.names.lookup x == some .globalImplicit || sc.names.lookup x == some .globalExplicit))) PX.main.scope cX PX.main.scope ((PX.main.body.drop 240).take 60) = true := by unfold HB.mA; k_qdec
theorem readvars300 : TablesWhole.wSs (HB.mA (fun sc x => x != "vars" || !(sc.names.lookup x == some .globalImplicit || sc.names.lookup x == some .globalExplicit))) PX.main.scope cX PX.main.scope ((PX.main.body.drop 300).take 60) = true := by unfold HB.mA; k_qdec
theorem readvars : TablesWhole.wSs (HB.mA (fun sc x => x != "vars" || !(sc.names.lookup x == some .globalImplicit || sc.names.lookup x == some .globalExplicit))) PX.main.scope cX PX.main.scope (PX.main.body.drop 0) = true := HB.cut (P := fun l => TablesWhole.wSs (HB.mA (fun sc x => x != "vars" || !(sc.names.lookup x == some .globalImplicit || sc.names.lookup x == some .globalExplicit))) PX.main.scope cX PX.main.scope l = true) (fun l m h1 h2 => (HB.wSs_and rfl (fun _ _ => rfl) _ _ _ l m h1 h2)) 0 60 readvars0 (HB.cut (P := fun l => TablesWhole.wSs (HB.mA (fun sc x => x != "vars" || !(sc.names.lookup x == some .globalImplicit || sc.names.lookup x == some .globalExplicit))) PX.main.scope cX PX.main.scope l = true) (fun l m h1 h2 => (HB.wSs_and rfl (fun _ _ => rfl) _ _ _ l m h1 h2)) 60 60 readvars60 (HB.cut (P := fun l => TablesWhole.wSs (HB.mA (fun sc x => x != "vars" || !(sc.names.lookup x == some .globalImplicit || sc.names.lookup x == some .globalExplicit))) PX.main.scope cX PX.main.scope l = true) (fun l m h1 h2 => (HB.wSs_and rfl (fun _ _ => rfl) _ _ _ l m h1 h2)) 120 60 readvars120 (HB.cut (P := fun l => TablesWhole.wSs (HB.mA (fun sc x => x != "vars" || !(sc.names.lookup x == some .globalImplicit || sc.names.lookup x == some .globalExplicit))) PX.main.scope cX PX.main.scope l = true) (fun l m h1 h2 => (HB.wSs_and rfl (fun _ _ => rfl) _ _ _ l m h1 h2)) 180 60 readvars180 (HB.cut (P := fun l => TablesWhole.wSs (HB.mA (fun sc x => x != "vars" || !(sc.names.lookup x == some .globalImplicit || sc.names.lookup x == some .globalExplicit))) PX.main.scope cX PX.main.scope l = true) (fun l m h1 h2 => (HB.wSs_and rfl (fun _ _ => rfl) _ _ _ l m h1 h2)) 240 60 readvars240 (HB.cut (P := fun l => TablesWhole.wSs (HB.mA (fun sc x => x != "vars" || !(sc.names.lookup x == some .globalImplicit || sc.names.lookup x == some .globalExplicit))) PX.main.scope cX PX.main.scope l = true) (fun l m h1 h2 => (HB.wSs_and rfl (fun _ _ => rfl) _ _ _ l m h1 h2)) 300 60 readvars300 ((by rw [over]; rfl)))))))
theorem readdir0 : TablesWhole.wSs (HB.mA (fun sc x => x != "dir" || !(sc.names.lookup x == some .globalImplicit || sc.names.lookup x == some .globalExplicit))) PX.main.scope cX PX.main.scope ((PX.main.body.drop 0).take 60) = true := by unfold HB.mA; k_qdec
theorem readdir60 : TablesWhole.wSs (HB.mA (fun sc x => x != "dir" || !(sc.names.lookup x == some .globalImplicit || sc.names.lookup x == some .globalExplicit))) PX.main.scope cX PX.main.scope ((PX.main.body.drop 60).take 60) = true := by unfold HB.mA; k_qdec
theorem readdir120 : TablesWhole.wSs (HB.mA (fun sc x => x != "dir" || !(sc.names.lookup x == some .globalImplicit || sc.names.lookup x == some .globalExplicit))) PX.main.scope cX PX.main.scope ((PX.main.body.drop 120).take 60) = true := by unfold HB.mA; k_qdec
theorem readdir180 : TablesWhole.wSs (HB.mA (fun sc x => x != "dir" || !(sc.names.lookup x == some .globalImplicit || sc.names.lookup x == some .globalExplicit))) PX.main.scope cX PX.main.scope ((PX.main.body.drop 180).take 60) = true := by unfold HB.mA; k_qdec
theorem readdir240 : TablesWhole.wSs (HB.mA (fun sc x => x != "dir" || !(sc.names.lookup x == some .globalImplicit || sc.names.lookup x == some .globalExplicit))) PX.main.scope cX PX.main.scope ((PX.main.body.drop 240).take 60) = true := by unfold HB.mA; k_qdec
theorem readdir300 : TablesWhole.wSs (HB.mA (fun sc x => x != "dir" || !(sc.names.lookup x == some .globalImplicit || sc.names.lookup x == some .globalExplicit))) PX.main.scope cX PX.main.scope ((PX.main.body.drop 300).take 60) = true := by unfold HB.mA; k_qdec
theorem readdir : TablesWhole.wSs (HB.mA (fun sc x => x != "dir" || !(sc.names.lookup x == some .globalImplicit || sc.names.lookup x == some .globalExplicit))) PX.main.scope cX PX.main.scope (PX.main.body.drop 0) = true := HB.cut (P := fun l => TablesWhole.wSs (HB.mA (fun sc x => x != "dir" || !(sc.names.lookup x == some .globalImplicit || sc.names.lookup x == some .globalExplicit))) PX.main.scope cX PX.main.scope l = true) (fun l m h1 h2 => (HB.wSs_and rfl (fun _ _ => rfl) _ _ _ l m h1 h2)) 0 60 readdir0 (HB.cut (P := fun l => TablesWhole.wSs (HB.mA (fun sc x => x != "dir" || !(sc.names.lookup x == some .globalImplicit || sc.names.lookup x == some .globalExplicit))) PX.main.scope cX PX.main.scope l = true) (fun l m h1 h2 => (HB.wSs_and rfl (fun _ _ => rfl) _ _ _ l m h1 h2)) 60 60 readdir60 (HB.cut (P := fun l => TablesWhole.wSs (HB.mA (fun sc x => x != "dir" || !(sc.names.lookup x == some .globalImplicit || sc.names.lookup x == some .globalExplicit))) PX.main.scope cX PX.main.scope l = true) (fun l m h1 h2 => (HB.wSs_and rfl (fun _ _ => rfl) _ _ _ l m h1 h2)) 120 60 readdir120 (HB.cut (P := fun l => TablesWhole.wSs (HB.mA (fun sc x => x != "dir" || !(sc.names.lookup x == some .globalImplicit || sc.names.lookup x == some .globalExplicit))) PX.main.scope cX PX.main.scope l = true) (fun l m h1 h2 => (HB.wSs_and rfl (fun _ _ => rfl) _ _ _ l m h1 h2)) 180 60 readdir180 (HB.cut (P := fun l => TablesWhole.wSs (HB.mA (fun sc x => x != "dir" || !(sc.names.lookup x == some .globalImplicit || sc.names.lookup x == some .globalExplicit))) PX.main.scope cX PX.main.scope l = true) (fun l m h1 h2 => (HB.wSs_and rfl (fun _ _ => rfl) _ _ _ l m h1 h2)) 240 60 readdir240 (HB.cut (P := fun l => TablesWhole.wSs (HB.mA (fun sc x => x != "dir" || !(sc.names.lookup x == some .globalImplicit || sc.names.lookup x == some .globalExplicit))) PX.main.scope cX PX.main.scope l = true) (fun l m h1 h2 => (HB.wSs_and rfl (fun _ _ => rfl) _ _ _ l m h1 h2)) 300 60 readdir300 ((by rw [over]; rfl)))))))
theorem readlocals0 : TablesWhole.wSs (HB.mA (fun sc x => x != "locals" || !(sc.names.lookup x == some .globalImplicit || sc.names.lookup x == some .globalExplicit))) PX.main.scope cX PX.main.scope ((PX.main.body.drop 0).take 60) = true := by unfold HB.mA; k_qdec
theorem readlocals60 : TablesWhole.wSs (HB.mA (fun sc x => x != "locals" || !(sc.names.lookup x == some .globalImplicit || sc.names.lookup x == some .globalExplicit))) PX.main.scope cX PX.main.scope ((PX.main.body.drop 60).take 60) = true := by unfold HB.mA; k_qdec
theorem readlocals120 : TablesWhole.wSs (HB.mA (fun sc x => x != "locals" || !(sc.names.lookup x == some .globalImplicit || sc.names.lookup x == some .globalExplicit))) PX.main.scope cX PX.main.scope ((PX.main.body.drop 120).take 60) = true := by unfold HB.mA; k_qdec
theorem readlocals180 : TablesWhole.wSs (HB.mA (fun sc x => x != "locals" || !(sc.names.lookup x == some .globalImplicit || sc.names.lookup x == some .globalExplicit))) PX.main.scope cX PX.main.scope ((PX.main.body.drop 180).take 60) = true := by unfold HB.mA; k_qdec
theorem readlocals240 : TablesWhole.wSs (HB.mA (fun sc x => x != "locals" || !(sc.names.lookup x == some .globalImplicit || sc.names.lookup x == some .globalExplicit))) PX.main.scope cX PX.main.scope ((PX.main.body.drop 240).take 60) = true := by unfold HB.mA; k_qdec
theorem readlocals300 : TablesWhole.wSs (HB.mA (fun sc x => x != "locals" || !(sc.names.lookup x == some .globalImplicit || sc.names.lookup x == some .globalExplicit))) PX.main.scope cX PX.main.scope ((PX.main.body.drop 300).take 60) = true := by unfold HB.mA; k_qdec
theorem readlocals : TablesWhole.wSs (HB.mA (fun sc x => x != "locals" || !(sc.names.lookup x == some .globalImplicit || sc.names.lookup x == some .globalExplicit))) PX.main.scope cX PX.main.scope (PX.main.body.drop 0) = true := HB.cut (P := fun l => TablesWhole.wSs (HB.mA (fun sc x => x != "locals" || !(sc.names.lookup x == some .globalImplicit || sc.names.lookup x == some .globalExplicit))) PX.main.scope cX PX.main.scope l = true) (fun l m h1 h2 => (HB.wSs_and rfl (fun _ _ => rfl) _ _ _ l m h1 h2)) 0 60 readlocals0 (HB.cut (P := fun l => TablesWhole.wSs (HB.mA (fun sc x => x != "locals" || !(sc.names.lookup x == some .globalImplicit || sc.names.lookup x == some .globalExplicit))) PX.main.scope cX PX.main.scope l = true) (fun l m h1 h2 => (HB.wSs_and rfl (fun _ _ => rfl) _ _ _ l m h1 h2)) 60 60 readlocals60 (HB.cut (P := fun l => TablesWhole.wSs (HB.mA (fun sc x => x != "locals" || !(sc.names.lookup x == some .globalImplicit || sc.names.lookup x == some .globalExplicit))) PX.main.scope cX PX.main.scope l = true) (fun l m h1 h2 => (HB.wSs_and rfl (fun _ _ => rfl) _ _ _ l m h1 h2)) 120 60 readlocals120 (HB.cut (P := fun l => TablesWhole.wSs (HB.mA (fun sc x => x != "locals" || !(sc.names.lookup x == some .globalImplicit || sc.names.lookup x == some .globalExplicit))) PX.main.scope cX PX.main.scope l = true) (fun l m h1 h2 => (HB.wSs_and rfl (fun _ _ => rfl) _ _ _ l m h1 h2)) 180 60 readlocals180 (HB.cut (P := fun l => TablesWhole.wSs (HB.mA (fun sc x => x != "locals" || !(sc.names.lookup x == some .globalImplicit || sc.names.lookup x == some .globalExplicit))) PX.main.scope cX PX.main.scope l = true) (fun l m h1 h2 => (HB.wSs_and rfl (fun _ _ => rfl) _ _ _ l m h1 h2)) 240 60 readlocals240 (HB.cut (P := fun l => TablesWhole.wSs (HB.mA (fun sc x => x != "locals" || !(sc.names.lookup x == some .globalImplicit || sc.names.lookup x == some .globalExplicit))) PX.main.scope cX PX.main.scope l = true) (fun l m h1 h2 => (HB.wSs_and rfl (fun _ _ => rfl) _ _ _ l m h1 h2)) 300 60 readlocals300 ((by rw [over]; rfl)))))))
theorem rdvars : readsOut PX PX.main.body "vars" = false := HB.reads_of (HB.meet_of told readvars)
theorem rddir : readsOut PX PX.main.body "dir" = false := HB.reads_of (HB.meet_of told readdir)
theorem rdlocals : readsOut PX PX.main.body "locals" = false := HB.reads_of (HB.meet_of told readlocals)
theorem strictX : (!(importedModules PX.main.body).all cThrough.contains) = false := by kernel_rfl
theorem road0 : noRoadLSs { strict := false, foot := none, bare := [] } ((PX.main.body.drop 0).take 60) = true := by k_qdec
theorem road60 : noRoadLSs { strict := false, foot := none, bare := [] } ((PX.main.body.drop 60).take 60) = true := by k_qdec
theorem road120 : noRoadLSs { strict := false, foot := none, bare := [] } ((PX.main.body.drop 120).take 60) = true := by k_qdec
theorem road180 : noRoadLSs { strict := false, foot := none, bare := [] } ((PX.main.body.drop 180).take 60) = true := by k_qdec
theorem road240 : noRoadLSs { strict := false, foot := none, bare := [] } ((PX.main.body.drop 240).take 60) = true := by k_qdec
theorem road300 : noRoadLSs { strict := false, foot := none, bare := [] } ((PX.main.body.drop 300).take 60) = true := by k_qdec
theorem road : noRoadLSs { strict := false, foot := none, bare := [] } (PX.main.body.drop 0) = true := HB.cut (P := fun l => noRoadLSs { strict := false, foot := none, bare := [] } l = true) (fun l m h1 h2 => (HB.roads_app l m h1 h2)) 0 60 road0 (HB.cut (P := fun l => noRoadLSs { strict := false, foot := none, bare := [] } l = true) (fun l m h1 h2 => (HB.roads_app l m h1 h2)) 60 60 road60 (HB.cut (P := fun l => noRoadLSs { strict := false, foot := none, bare := [] } l = true) (fun l m h1 h2 => (HB.roads_app l m h1 h2)) 120 60 road120 (HB.cut (P := fun l => noRoadLSs { strict := false, foot := none, bare := [] } l = true) (fun l m h1 h2 => (HB.roads_app l m h1 h2)) 180 60 road180 (HB.cut (P := fun l => noRoadLSs { strict := false, foot := none, bare := [] } l = true) (fun l m h1 h2 => (HB.roads_app l m h1 h2)) 240 60 road240 (HB.cut (P := fun l => noRoadLSs { strict := false, foot := none, bare := [] } l = true) (fun l m h1 h2 => (HB.roads_app l m h1 h2)) 300 60 road300 ((by rw [over]; rfl)))))))
theorem roadsX : noRoadLSs { strict := !(importedModules PX.main.body).all cThrough.contains, foot := none, bare := (["vars", "dir", "locals"] : List PySem.Str).filter (readsOut PX PX.main.body) } PX.main.body = true := HB.roads_of (p := PX) strictX rdvars rddir rdlocals road
theorem resX : namesResolve PX = true := HB.resolve_of (HB.meet_of told reso)
theorem attX : namesMeet PX PX.main.body (fun _ n => attrL n) = true := HB.meet_of told attr
theorem toldA : TablesWhole.wSs TablesWhole.gather PX.main.scope cX PX.main.scope (LX.above.drop 0) = [] := by
  have := told
  rw [List.drop_zero] at this ⊢
  exact HB.told_take (fun _ _ => rfl) rfl _ _ _ _ _ this
theorem overA : LX.above.drop 360 = [] := by kernel_rfl
theorem ownA0 : TablesWhole.wSs (HB.mA (fun _ n => !LX.own.contains n)) PX.main.scope cX PX.main.scope ((LX.above.drop 0).take 60) = true := by unfold HB.mA; k_qdec
theorem ownA60 : TablesWhole.wSs (HB.mA (fun _ n => !LX.own.contains n)) PX.main.scope cX PX.main.scope ((LX.above.drop 60).take 60) = true := by unfold HB.mA; k_qdec
theorem ownA120 : TablesWhole.wSs (HB.mA (fun _ n => !LX.own.contains n)) PX.main.scope cX PX.main.scope ((LX.above.drop 120).take 60) = true := by unfold HB.mA; k_qdec
theorem ownA180 : TablesWhole.wSs (HB.mA (fun _ n => !LX.own.contains n)) PX.main.scope cX PX.main.scope ((LX.above.drop 180).take 60) = true := by unfold HB.mA; k_qdec
theorem ownA240 : TablesWhole.wSs (HB.mA (fun _ n => !LX.own.contains n)) PX.main.scope cX PX.main.scope ((LX.above.drop 240).take 60) = true := by unfold HB.mA; k_qdec
theorem ownA300 : TablesWhole.wSs (HB.mA (fun _ n => !LX.own.contains n)) PX.main.scope cX PX.main.scope ((LX.above.drop 300).take 60) = true := by unfold HB.mA; k_qdec
theorem ownA : TablesWhole.wSs (HB.mA (fun _ n => !LX.own.contains n)) PX.main.scope cX PX.main.scope (LX.above.drop 0) = true := HB.cut (P := fun l => TablesWhole.wSs (HB.mA (fun _ n => !LX.own.contains n)) PX.main.scope cX PX.main.scope l = true) (fun l m h1 h2 => (HB.wSs_and rfl (fun _ _ => rfl) _ _ _ l m h1 h2)) 0 60 ownA0 (HB.cut (P := fun l => TablesWhole.wSs (HB.mA (fun _ n => !LX.own.contains n)) PX.main.scope cX PX.main.scope l = true) (fun l m h1 h2 => (HB.wSs_and rfl (fun _ _ => rfl) _ _ _ l m h1 h2)) 60 60 ownA60 (HB.cut (P := fun l => TablesWhole.wSs (HB.mA (fun _ n => !LX.own.contains n)) PX.main.scope cX PX.main.scope l = true) (fun l m h1 h2 => (HB.wSs_and rfl (fun _ _ => rfl) _ _ _ l m h1 h2)) 120 60 ownA120 (HB.cut (P := fun l => TablesWhole.wSs (HB.mA (fun _ n => !LX.own.contains n)) PX.main.scope cX PX.main.scope l = true) (fun l m h1 h2 => (HB.wSs_and rfl (fun _ _ => rfl) _ _ _ l m h1 h2)) 180 60 ownA180 (HB.cut (P := fun l => TablesWhole.wSs (HB.mA (fun _ n => !LX.own.contains n)) PX.main.scope cX PX.main.scope l = true) (fun l m h1 h2 => (HB.wSs_and rfl (fun _ _ => rfl) _ _ _ l m h1 h2)) 240 60 ownA240 (HB.cut (P := fun l => TablesWhole.wSs (HB.mA (fun _ n => !LX.own.contains n)) PX.main.scope cX PX.main.scope l = true) (fun l m h1 h2 => (HB.wSs_and rfl (fun _ _ => rfl) _ _ _ l m h1 h2)) 300 60 ownA300 ((by rw [overA]; rfl)))))))
theorem ownX : namesMeet PX LX.above (fun _ n => !LX.own.contains n) = true := HB.meet_of toldA ownA
theorem said : LX.wellSaid = true := by
  unfold OpenLaw.wellSaid OpenRow.wellSaid OpenRow.partSaid looksOpen
  simp only [Bool.and_eq_true]
  repeat' apply And.intro
  · kernel_rfl
  · k_qdec
  · exact resX
  · k_qdec
  · exact roadsX
  · exact attX
  · first | k_qdec | kernel_rfl
  · first | k_qdec | kernel_rfl
  · first | k_qdec | kernel_rfl
  · first | k_qdec | kernel_rfl
  · first | k_qdec | kernel_rfl
  · first | k_qdec | kernel_rfl
  · first | k_qdec | kernel_rfl
  · first | k_qdec | kernel_rfl
  · first | k_qdec | kernel_rfl
  · first | k_qdec | kernel_rfl
  · first | k_qdec | kernel_rfl
  · first | k_qdec | kernel_rfl
  · first | k_qdec | kernel_rfl
  · first | k_qdec | kernel_rfl
  · first | k_qdec | kernel_rfl
  · first | k_qdec | kernel_rfl
  · first | k_qdec | kernel_rfl
  · first | k_qdec | kernel_rfl
  · first | k_qdec | kernel_rfl
  · first | k_qdec | kernel_rfl
  · first | k_qdec | kernel_rfl
  · first | k_qdec | kernel_rfl
  · first | k_qdec | kernel_rfl
  · first | k_qdec | kernel_rfl
  · first | k_qdec | kernel_rfl
  · first | k_qdec | kernel_rfl
  · first | k_qdec | kernel_rfl
  · first | k_qdec | kernel_rfl
  · first | k_qdec | kernel_rfl
  · first | k_qdec | kernel_rfl
  · first | k_qdec | kernel_rfl
  · exact ownX
  · first | k_qdec | kernel_rfl
theorem lawX0 (hyp : (OpenLaw.row PySem.Challenge.rw_trellis_k20_degenerate).wellSaid = true → (OpenLaw.row PySem.Challenge.rw_trellis_k20_degenerate).Holds) : PySem.Challenge.rw_trellis_k20_degenerate.Holds := by
  w_on
  exact holds_law said hyp
theorem witX0 : (OpenLaw.row PySem.Challenge.rw_trellis_k20_degenerate).toRowW.promised := by
  w_on; w_witness2
end HS
open PySem PySem.W PySem.Calls PyProof.Rows in
theorem HT.bareX : (OpenLaw.row PySem.Challenge.rw_trellis_k20_degenerate).prog.bare := HS.bareX0
open PySem PySem.W PySem.Calls PyProof.Rows in
theorem HT.lawX (hyp : (OpenLaw.row PySem.Challenge.rw_trellis_k20_degenerate).wellSaid = true → (OpenLaw.row PySem.Challenge.rw_trellis_k20_degenerate).Holds) : PySem.Challenge.rw_trellis_k20_degenerate.Holds := HS.lawX0 hyp
open PySem PySem.W PySem.Calls PyProof.Rows in
theorem HT.witX : (OpenLaw.row PySem.Challenge.rw_trellis_k20_degenerate).toRowW.promised := HS.witX0

set_option Elab.async false
set_option linter.all false
set_option maxRecDepth 100000
set_option maxHeartbeats 4000000
namespace Z
open PySem PySem.Spec PyProof.Rows L2
set_option synthInstance.maxHeartbeats 0
set_option synthInstance.maxSize 100000
local macro_rules | `(tactic| walk_at "zs") => `(tactic| first | decide | omega | (dsimp only; omega) | (unfold CMul; omega) | (unfold CDivW; decide) | assumption)
local macro_rules | `(tactic| walk_at "zh") => `(tactic| first | assumption | with_reducible exact upd_same | ((with_reducible refine' (upd_ne ?zn).trans ?zr); (case zn => walk_at "zne"); (case zr => walk_at "zh")))
local macro_rules | `(tactic| walk_at "zw") => `(tactic| (simp only [wipe, List.map_cons, List.map_nil, List.set_cons_succ, List.set_cons_zero]; rfl))
local macro_rules | `(tactic| walk_at "zne") => `(tactic| first | assumption | (apply Ne.symm; assumption) | (refine' ne_of_none ?zh1 ?zh2; (case zh2 => assumption); (case zh1 => walk_at "zh")) | (apply Ne.symm; refine' ne_of_none ?zh1 ?zh2; (case zh2 => assumption); (case zh1 => walk_at "zh")))
local macro_rules | `(tactic| walk_at "zl") => `(tactic| first | assumption | exact Or.inl (Or.inl (by walk_at "zh")))
local macro_rules | `(tactic| walk_at "zat") => `(tactic| first | assumption | exact rfl | exact atI_nat (j := 0) (by rfl))
local macro_rules | `(tactic| walk_at "z1") => `(tactic| first
  | with_reducible refine r_seq ?_
  | with_reducible refine r_asg ?_
  | with_reducible refine r_name0 ?_
  | with_reducible refine r_name1 ?_
  | with_reducible refine r_name2 ?_
  | with_reducible refine r_name3 ?_
  | with_reducible refine r_name4 ?_
  | with_reducible refine r_name5 ?_
  | with_reducible refine r_name6 ?_
  | with_reducible refine r_name7 ?_
  | with_reducible refine r_name8 ?_
  | with_reducible refine r_name9 ?_
  | with_reducible refine r_name10 ?_
  | with_reducible refine r_name11 ?_
  | with_reducible refine r_name12 ?_
  | with_reducible refine r_name13 ?_
  | with_reducible refine r_name14 ?_
  | with_reducible refine r_name15 ?_
  | with_reducible refine r_name16 ?_
  | with_reducible refine r_name17 ?_
  | with_reducible refine r_name18 ?_
  | with_reducible refine r_name19 ?_
  | ((with_reducible show tVar _ _ _ _); refine r_var rfl ?_)
  | with_reducible refine r_c ?_
  | with_reducible refine r_op ?_
  | with_reducible refine r_i0 ?_
  | with_reducible refine r_eqI ?_
  | with_reducible refine r_neI ?_
  | with_reducible refine r_i (by walk_at "zs") ?_
  | with_reducible refine r_cons ?_
  | with_reducible refine r_nil ?_
  | with_reducible refine r_call ?_
  | with_reducible refine r_cb ?_
  | with_reducible refine r_test ?_
  | with_reducible refine r_tB ?_
  | with_reducible refine r_k ?_
  | with_reducible refine r_int1 ?_
  | with_reducible refine r_int1b ?_
  | with_reducible refine r_min2 ?_
  | with_reducible refine r_max2 ?_
  | with_reducible refine r_ret ?_
  | with_reducible refine r_ifS ?_
  | with_reducible refine r_tup ?_
  | with_reducible refine r_lst ?_
  | with_reducible refine r_un ?_
  | with_reducible refine r_u ?_
  | with_reducible refine r_eqB ?_
  | with_reducible refine r_neB ?_
  | with_reducible refine r_not ?_
  | with_reducible refine r_and ?_
  | with_reducible refine r_or ?_
  | with_reducible refine r_if ?_
  | with_reducible refine r_bm ?_
  | with_reducible refine r_lstRg ?_
  | with_reducible refine r_tRg1 ?_
  | with_reducible refine r_r1N ?_
  | with_reducible refine r_sl ?_
  | with_reducible refine r_part ?_
  | with_reducible refine r_partN ?_
  | with_reducible refine r_noPart ?_
  | with_reducible refine r_andV ?_
  | with_reducible refine r_orV ?_
  | with_reducible refine r_notV ?_
  | with_reducible refine r_andN ?_
  | with_reducible refine r_orN ?_
  | with_reducible refine r_notN ?_
  | with_reducible refine r_next ?_
  | with_reducible refine r_drop ?_
  | with_reducible refine r_sub ?_
  | with_reducible refine r_for ?_
  | with_reducible refine r_rng1 ?_
  | with_reducible refine r_rng2 ?_
  | with_reducible refine r_ilist ?_
  | with_reducible refine r_itup ?_
  | with_reducible refine r_lc ?_
  | with_reducible refine r_yes ?_
  | with_reducible refine r_gcons ?_
  | with_reducible refine r_gnil ?_
  | ((with_reducible show Bm _ "list" _ _ _ _ (V.ref _) _); refine' r_bmL ?zh ?zq; (case zh => walk_at "zl"))
  | with_reducible refine iteF ?_
  | with_reducible refine iteT ?_
  | ((with_reducible show rIxL _ (V.ref _) (V.int _) _ _); refine' r_ixL ?zh ?za ?zq; (case zh => walk_at "zl"); (case za => walk_at "zat"))
  | ((with_reducible show rIxT _ (V.ref _) (V.int _) _ _); refine' r_ixT ?zh ?za ?zq; (case zh => walk_at "zl"); (case za => walk_at "zat"))
  | with_reducible refine r_dget ?_
  | with_reducible refine r_star ?_
  | with_reducible refine r_match ?_
  | with_reducible refine r_enumT ?_
  | with_reducible refine r_dnot ?_
  | with_reducible refine r_chain ?_
  | with_reducible refine r_chn ?_
  | with_reducible refine r_callS ?_
  | with_reducible refine r_truth ?_
  | with_reducible refine r_bm0 ?_
  | with_reducible refine r_sadd ?_
  | with_reducible refine r_saddT ?_
  | ((with_reducible show Bm0 _ "list" _ _ (V.ref _) _); refine' r_bm0L ?zh ?zq; (case zh => walk_at "zl"))
  | with_reducible refine r_bm0I ?_
  | with_reducible refine r_bu ?_
  | with_reducible refine r_rng3 ?_
  | with_reducible refine r_bitlen ?_
  | with_reducible refine r_genAll ?_
  | with_reducible refine r_zipA ?_
  | with_reducible refine r_items ?_
  | with_reducible refine r_sortLam ?_
  | with_reducible refine r_augS ?_
  | with_reducible refine r_set0u ?_
  | with_reducible refine r_set1u ?_
  | with_reducible refine r_set2u ?_
  | with_reducible refine r_set3u ?_
  | with_reducible refine r_set4u ?_
  | ((with_reducible show rSetL (V.ref _) (V.int 0) _ _ _); refine' r_set0 ?zh ?zq; (case zh => walk_at "zh"))
  | ((with_reducible show rSetL (V.ref _) (V.int 1) _ _ _); refine' r_set1 ?zh ?zq; (case zh => walk_at "zh"))
  | ((with_reducible show rSetL (V.ref _) (V.int 2) _ _ _); refine' r_set2 ?zh ?zq; (case zh => walk_at "zh"))
  | ((with_reducible show rSetL (V.ref _) (V.int 3) _ _ _); refine' r_set3 ?zh ?zq; (case zh => walk_at "zh"))
  | ((with_reducible show rSetL (V.ref _) (V.int 4) _ _ _); refine' r_set4 ?zh ?zq; (case zh => walk_at "zh"))
  | ((with_reducible show rLen _ [V.ref _] _ _); refine' r_lenL ?zh ?zq; (case zh => walk_at "zl"))
  | ((with_reducible show rLen _ [V.ref _] _ _); refine' r_lenT ?zh ?zq; (case zh => walk_at "zl")))
local macro_rules | `(tactic| walk_at "z2") => `(tactic| first
  | with_reducible refine r_run ?_
  | ((with_reducible show tVar _ _ _ _); refine r_var rfl ?_)
  | with_reducible refine r_i (by walk_at "zs") ?_
  | ((with_reducible show Bm _ "list" _ _ _ _ (V.ref _) _); refine' r_bmL ?zh ?zq; (case zh => walk_at "zl"))
  | ((with_reducible show rIxL _ (V.ref _) (V.int _) _ _); refine' r_ixL ?zh ?za ?zq; (case zh => walk_at "zl"); (case za => walk_at "zat"))
  | ((with_reducible show rIxT _ (V.ref _) (V.int _) _ _); refine' r_ixT ?zh ?za ?zq; (case zh => walk_at "zl"); (case za => walk_at "zat"))
  | with_reducible refine r_sadd ?_
  | with_reducible refine r_saddT ?_
  | ((with_reducible show Bm0 _ "list" _ _ (V.ref _) _); refine' r_bm0L ?zh ?zq; (case zh => walk_at "zl"))
  | with_reducible refine r_bm0I ?_
  | with_reducible refine r_bitlen ?_
  | with_reducible refine r_genAll ?_
  | with_reducible refine r_zipA ?_
  | with_reducible refine r_items ?_
  | with_reducible refine r_sortLam ?_
  | with_reducible refine r_augS ?_
  | ((with_reducible show rSetL (V.ref _) (V.int 0) _ _ _); refine' r_set0 ?zh ?zq; (case zh => walk_at "zh"))
  | ((with_reducible show rSetL (V.ref _) (V.int 1) _ _ _); refine' r_set1 ?zh ?zq; (case zh => walk_at "zh"))
  | ((with_reducible show rSetL (V.ref _) (V.int 2) _ _ _); refine' r_set2 ?zh ?zq; (case zh => walk_at "zh"))
  | ((with_reducible show rSetL (V.ref _) (V.int 3) _ _ _); refine' r_set3 ?zh ?zq; (case zh => walk_at "zh"))
  | ((with_reducible show rSetL (V.ref _) (V.int 4) _ _ _); refine' r_set4 ?zh ?zq; (case zh => walk_at "zh"))
  | ((with_reducible show rLen _ [V.ref _] _ _); refine' r_lenL ?zh ?zq; (case zh => walk_at "zl"))
  | ((with_reducible show rLen _ [V.ref _] _ _); refine' r_lenT ?zh ?zq; (case zh => walk_at "zl")))
local macro_rules | `(tactic| walk_at "z") => `(tactic| repeat (walk_at "z2"))

abbrev s_law_pairs : Stmt := topS 324
theorem sc_law_pairs : FnScope ["n", "pairs", "u", "v"] ["n"] (defScope s_law_pairs) := ⟨rfl, rfl, rfl, by decide +kernel, rfl, by decide +kernel, by decide +kernel⟩

section
variable {P : Program} {w : World} {K : PySem.W.Frag} {mg : Str → Option Value} {base : Heap}
theorem prs_push {H : Hp} {l t : Addr} {xs : List V} {ps : List (Int × Int)} {a b : Int} (hl : H l = some (.lst xs)) (hp : Prs H xs ps) (ht : H t = none) :
    Prs (upd (upd H t (.tup [.int a, .int b])) l (.lst (xs ++ [.ref t]))) (xs ++ [.ref t]) (ps ++ [(a, b)]) := by
  have n : t ≠ l := (ne_of_none hl ht).symm
  have k : TK H (upd (upd H t (.tup [.int a, .int b])) l (.lst (xs ++ [.ref t]))) := fun c ys e => by
    rw [upd_ne (fun z => by rw [z, hl] at e; cases e), upd_ne (ne_of_none e ht)]
    exact e
  exact (hp.tk k).snoc ⟨t, rfl, by rw [upd_ne n]; exact upd_same⟩
/-- all pairs u < v below n -/
def spPairs : Sp := fun vs H Q _ => ∃ n : Nat, vs = [.int (n : Int)] ∧ n ≤ 100 ∧ ∀ (l : Addr) (xs : List V) (H' : Hp), H l = none → Same H H' → H' l = some (.lst xs) → Prs H' xs (allP n) → Q (.ref l) H'
end

set_option Elab.async false
set_option linter.all false
set_option maxRecDepth 100000
set_option maxHeartbeats 4000000
open PySem PySem.Spec PyProof.Rows L2

abbrev s_law_near : Stmt := topS 327
theorem sc_law_near : FnScope ["graph", "v", "u"] ["graph", "v"] (defScope s_law_near) := ⟨rfl, rfl, rfl, by decide +kernel, rfl, by decide +kernel, by decide +kernel⟩

section
variable {P : Program} {w : World} {K : PySem.W.Frag} {mg : Str → Option Value} {base : Heap}
/-- the edges stand as a tuple of pairs at e -/
def EdgesAt (H : Hp) (e : Addr) (ps : List (Int × Int)) : Prop := ∃ xs, H e = some (.tup xs) ∧ Prs H xs ps
theorem EdgesAt.tk {H H' : Hp} (k : TK H H') {e : Addr} {ps : List (Int × Int)} (h : EdgesAt H e ps) : EdgesAt H' e ps := by
  obtain ⟨xs, h1, h2⟩ := h
  exact ⟨xs, k _ _ h1, h2.tk k⟩
/-- v is the graph of n and these edges -/
def GrAt (H : Hp) (v : V) (n : Int) (ps : List (Int × Int)) : Prop := ∃ g e, v = .ref g ∧ H g = some (.tup [.int n, .ref e]) ∧ EdgesAt H e ps
theorem GrAt.tk {H H' : Hp} (k : TK H H') {v : V} {n : Int} {ps : List (Int × Int)} (h : GrAt H v n ps) : GrAt H' v n ps := by
  obtain ⟨g, e, h1, h2, h3⟩ := h
  exact ⟨g, e, h1, k _ _ h2, h3.tk k⟩
end

set_option Elab.async false
set_option linter.all false
set_option maxRecDepth 100000
set_option maxHeartbeats 4000000
open PySem PySem.Spec PyProof.Rows L2

abbrev s_law_same : Stmt := topS 319
theorem sc_law_same : FnScope ["actual", "due", "k"] ["actual", "due"] (defScope s_law_same) := ⟨rfl, rfl, rfl, by decide +kernel, rfl, by decide +kernel, by decide +kernel⟩

/-! ## values that are alike -/
def kd : PyData → String
  | .none => "NoneType"
  | .bool _ => "bool"
  | .int _ => "int"
  | .str _ => "str"
  | .list _ => "list"
  | .tuple _ => "tuple"
  | .dict _ => "dict"
/-- no deeper than d, and nowhere long -/
def sm : Nat → PyData → Prop
  | 0, _ => False
  | _ + 1, .none => True
  | _ + 1, .bool _ => True
  | _ + 1, .int _ => True
  | _ + 1, .str x => x.cps.all (· < 0x110000) = true
  | d + 1, .list xs => xs.length ≤ 100000 ∧ ∀ x ∈ xs, sm d x
  | d + 1, .tuple xs => xs.length ≤ 100000 ∧ ∀ x ∈ xs, sm d x
  | _ + 1, .dict _ => False
section
variable {P : Program} {w : World} {K : PySem.W.Frag} {mg : Str → Option Value} {base : Heap}
theorem DpAll.pd {H : Hp} : ∀ (ds : List PyData) {vs : List V}, DpAll K H vs ds → Paired (Dp K H) vs ds
  | [], _, .nil => .nil
  | _ :: ds, _, .cons h r => .cons h (DpAll.pd ds r)
theorem ty_dp {H : Hp} {x : V} {t : PyData} (h : Dp K H x t) : TyX K H x (.type (kd t)) := by
  cases h with
  | non => exact .base .non
  | bl b => exact .base (.bl b)
  | int i => exact .base (.int i)
  | str s => exact .base (.str s)
  | lst h _ =>
    rcases h with (h | ⟨ob, h⟩) | ⟨o, its, n, h1, h2, _⟩
    · exact .base (.lst h)
    · exact .base (.frz h)
    · exact .kList h1 h2
  | tup h _ =>
    rcases h with (h | ⟨ob, h⟩) | ⟨o, its, n, h1, h2, _⟩
    · exact .base (.tup h)
    · exact .fTuple h
    · exact .kTuple h1 h2
theorem r_isiD {H : Hp} {Q : VK} {x : V} {t : PyData} {c k : String} {b : Bool} (h : Dp K H x t) (e1 : kd t = k) (e : kitB k c = some b) (q : Q (.bl b) H) : rIsi K [x, .ty c] H Q :=
  ⟨x, .ty c, .type k, .type c, b, rfl, .ty _, e1 ▸ ty_dp h, kit_ty e, q⟩
theorem r_eqD {H : Hp} {Q : VK} {x y : V} {t : PyData} (hx : Dp K H x t) (hy : Dp K H y t) (c : t.canLay0 = true) (d : t.depth ≤ 64) (q : Q (.bl true) H) : rEqD K x y H Q := by
  have e : SeqAt.shaped t = true := by
    unfold SeqAt.shaped
    rw [c, decide_eq_true d]
    rfl
  refine ⟨t, t, hx, hy, e, e, ?_⟩
  rw [PySem.SeqAt.eqv_refl t c]
  exact q
theorem r_isN {H : Hp} {Q : VK} {x : V} (q : Q (.bl (decide (x = .non))) H) : (fun (x y : V) (H : Hp) (Q : VK) => y = .non ∧ Q (.bl (decide (x = .non))) H) x .non H Q := ⟨rfl, q⟩
def spSame (K : PySem.W.Frag) (d : Nat) : Sp := fun vs H Q _ => ∃ (x y : V) (t : PyData), vs = [x, y] ∧ Dp K H x t ∧ Dp K H y t ∧ sm d t ∧ Q (.bl true) H
theorem ok_same (T : Blt mg) (D_law_same : DefAt K mg "_law_same" s_law_same ["actual", "due"]) : ∀ d : Nat, FnOk P w K mg base CX0 d D_law_same.f D_law_same.fd ["actual", "due"] (spSame K d)
  | 0 => fn_none.imp fun vs H Q E h => by
    obtain ⟨_, _, _, _, _, _, h, _⟩ := h
    exact h
  | d + 1 => by
    have G_law_same := ok_same T D_law_same d
    refine D_law_same.F.ok sc_law_same (fun vs H Q E h => ?_) (fun cdv A outer s H vs Q E hr h => ?_)
    · obtain ⟨x, y, t, rfl, _⟩ := h
      rfl
    · obtain ⟨x, y, t, rfl, hx, hy, hd, q⟩ := h
      refine ⟨_, (pss_cons (ps_if (PW.pt (pw_or (pt_val (pe_callB (call_isiK (K := K) rfl) (by rfl) T.isinstance (by decide +kernel) (pa_cons (pv 1) (pa_cons (pe_bltn (v := .ty "tuple") (u := .type "tuple") (by rfl) T.tuple (by decide +kernel) rfl) pa_nil)))) (pw_or1 (pt_val (pe_callB (call_isiK (K := K) rfl) (by rfl) T.isinstance (by decide +kernel) (pa_cons (pv 1) (pa_cons (pe_bltn (v := .ty "list") (u := .type "list") (by rfl) T.list (by decide +kernel) rfl) pa_nil)))))))
        (pss_cons (ps_if (PW.pt (pw_or (pt_cmpR op_ne (pe_callB (call_isiK (K := K) rfl) (by rfl) T.isinstance (by decide +kernel) (pa_cons (pv 1) (pa_cons (pe_bltn (v := .ty "tuple") (u := .type "tuple") (by rfl) T.tuple (by decide +kernel) rfl) pa_nil))) (pe_callB (call_isiK (K := K) rfl) (by rfl) T.isinstance (by decide +kernel) (pa_cons (pv 0) (pa_cons (pe_bltn (v := .ty "tuple") (u := .type "tuple") (by rfl) T.tuple (by decide +kernel) rfl) pa_nil))) (nomark _)) (pw_or1 (pt_cmpR op_ne (pe_callB (call_isiK (K := K) rfl) (by rfl) T.isinstance (by decide +kernel) (pa_cons (pv 1) (pa_cons (pe_bltn (v := .ty "list") (u := .type "list") (by rfl) T.list (by decide +kernel) rfl) pa_nil))) (pe_callB (call_isiK (K := K) rfl) (by rfl) T.isinstance (by decide +kernel) (pa_cons (pv 0) (pa_cons (pe_bltn (v := .ty "list") (u := .type "list") (by rfl) T.list (by decide +kernel) rfl) pa_nil))) (nomark _)))))
          (pss_one (ps_ret pe_bl))
          pss_nil)
        (pss_cons (ps_if (pt_cmpR op_ne (pe_callB (call_lenK (K := K) rfl) (by rfl) T.len (by decide +kernel) (pa_cons (pv 0) pa_nil)) (pe_callB (call_lenK (K := K) rfl) (by rfl) T.len (by decide +kernel) (pa_cons (pv 1) pa_nil)) (nomark _))
          (pss_one (ps_ret pe_bl))
          pss_nil)
        (pss_cons (ps_for PassesOwn.never (by rfl) (pi_range1 (by rfl) T.range (pa_cons (pe_callB (call_lenK (K := K) rfl) (by rfl) T.len (by decide +kernel) (pa_cons (pv 1) pa_nil)) pa_nil)) (pg_name (i := 2) sc_law_same.nd rfl (Or.inl rfl))
          (pss_one (ps_if (pt_not (pt_val (pe_call G_law_same (hr.mono (by first | decide | omega)) (by rfl) D_law_same.g D_law_same.F.kp D_law_same.b .nil pass0 (pa_cons (pe_ix (ix_eitherK (K := K) rfl) (pv 0) (pv 2) (fun _ _ => rfl)) (pa_cons (pe_ix (ix_eitherK (K := K) rfl) (pv 1) (pv 2) (fun _ _ => rfl)) pa_nil)))))
            (pss_one (ps_ret pe_bl))
            pss_nil)))
        (pss_one (ps_ret pe_bl)))))
        pss_nil)
      (pss_cons (ps_if (pt_cmpR op_isN (pv 1) pe_non (nomark _))
        (pss_one (ps_ret (pe_cmpR op_isN (pv 0) pe_non (nomark _))))
        pss_nil)
      (pss_cons (ps_if (pt_val (pe_callB (call_isiK (K := K) rfl) (by rfl) T.isinstance (by decide +kernel) (pa_cons (pv 1) (pa_cons (pe_bltn (v := .ty "bool") (u := .type "bool") (by rfl) T.bool (by decide +kernel) rfl) pa_nil))))
        (pss_one (ps_ret (pe_and (pe_callB (call_isiK (K := K) rfl) (by rfl) T.isinstance (by decide +kernel) (pa_cons (pv 0) (pa_cons (pe_bltn (v := .ty "bool") (u := .type "bool") (by rfl) T.bool (by decide +kernel) rfl) pa_nil))) (pe_one (pe_cmpR (op_eqDK (K := K) rfl hr.units) (pv 0) (pv 1) (nomark _))))))
        pss_nil)
      (pss_cons (ps_if (pt_val (pe_callB (call_isiK (K := K) rfl) (by rfl) T.isinstance (by decide +kernel) (pa_cons (pv 1) (pa_cons (pe_bltn (v := .ty "int") (u := .type "int") (by rfl) T.int (by decide +kernel) rfl) pa_nil))))
        (pss_one (ps_ret (pe_and (pe_callB (call_isiK (K := K) rfl) (by rfl) T.isinstance (by decide +kernel) (pa_cons (pv 0) (pa_cons (pe_bltn (v := .ty "int") (u := .type "int") (by rfl) T.int (by decide +kernel) rfl) pa_nil))) (pe_and (pe_not (pe_callB (call_isiK (K := K) rfl) (by rfl) T.isinstance (by decide +kernel) (pa_cons (pv 0) (pa_cons (pe_bltn (v := .ty "bool") (u := .type "bool") (by rfl) T.bool (by decide +kernel) rfl) pa_nil)))) (pe_one (pe_cmpR (op_eqDK (K := K) rfl hr.units) (pv 0) (pv 1) (nomark _)))))))
        pss_nil)
      (pss_one (ps_ret (pe_and (pe_callB (call_isiK (K := K) rfl) (by rfl) T.isinstance (by decide +kernel) (pa_cons (pv 0) (pa_cons (pe_bltn (v := .ty "str") (u := .type "str") (by rfl) T.str (by decide +kernel) rfl) pa_nil))) (pe_one (pe_cmpR (op_eqDK (K := K) rfl hr.units) (pv 0) (pv 1) (nomark _)))))))))), ?_⟩
      refine r_at (σ := [some _, some _, none]) rfl ?_
      cases t with
      | none =>
        cases hx; cases hy
        walk_at "z"
        refine r_isiD .non (k := "NoneType") rfl (b := false) (by decide +kernel) ?_
        walk_at "z"
        refine r_isiD .non (k := "NoneType") rfl (b := false) (by decide +kernel) ?_
        walk_at "z"
        refine r_isN ?_
        walk_at "z"
        refine iteT ?_
        walk_at "z"
        refine r_isN ?_
        exact q
      | bool b =>
        cases hx; cases hy
        walk_at "z"
        refine r_isiD (.bl b) (k := "bool") rfl (b := false) (by decide +kernel) ?_
        walk_at "z"
        refine r_isiD (.bl b) (k := "bool") rfl (b := false) (by decide +kernel) ?_
        walk_at "z"
        refine r_isN ?_
        walk_at "z"
        refine iteF ?_
        walk_at "z"
        refine r_isiD (.bl b) (k := "bool") rfl (b := true) (by decide +kernel) ?_
        walk_at "z"
        refine r_isiD (.bl b) (k := "bool") rfl (b := true) (by decide +kernel) ?_
        walk_at "z"
        exact r_eqD (.bl b) (.bl b) (by simp [PyData.canLay0]) (by simp [PyData.depth]) q
      | int i =>
        cases hx; cases hy
        walk_at "z"
        refine r_isiD (.int i) (k := "int") rfl (b := false) (by decide +kernel) ?_
        walk_at "z"
        refine r_isiD (.int i) (k := "int") rfl (b := false) (by decide +kernel) ?_
        walk_at "z"
        refine r_isN ?_
        walk_at "z"
        refine iteF ?_
        walk_at "z"
        refine r_isiD (.int i) (k := "int") rfl (b := false) (by decide +kernel) ?_
        walk_at "z"
        refine r_isiD (.int i) (k := "int") rfl (b := true) (by decide +kernel) ?_
        walk_at "z"
        refine r_isiD (.int i) (k := "int") rfl (b := true) (by decide +kernel) ?_
        walk_at "z"
        refine r_isiD (.int i) (k := "int") rfl (b := false) (by decide +kernel) ?_
        walk_at "z"
        refine iteT ?_
        walk_at "z"
        exact r_eqD (.int i) (.int i) (by simp [PyData.canLay0]) (by simp [PyData.depth]) q
      | str z =>
        cases hx; cases hy
        walk_at "z"
        refine r_isiD (.str z) (k := "str") rfl (b := false) (by decide +kernel) ?_
        walk_at "z"
        refine r_isiD (.str z) (k := "str") rfl (b := false) (by decide +kernel) ?_
        walk_at "z"
        refine r_isN ?_
        walk_at "z"
        refine iteF ?_
        walk_at "z"
        refine r_isiD (.str z) (k := "str") rfl (b := false) (by decide +kernel) ?_
        walk_at "z"
        refine r_isiD (.str z) (k := "str") rfl (b := false) (by decide +kernel) ?_
        walk_at "z"
        refine r_isiD (.str z) (k := "str") rfl (b := true) (by decide +kernel) ?_
        walk_at "z"
        exact r_eqD (.str z) (.str z) (by unfold PyData.canLay0; exact hd) (by simp [PyData.depth]) q
      | list ds =>
        obtain ⟨hn, hm⟩ := hd
        cases id hx with
        | @lst a xs _ hxs hxd =>
        cases id hy with
        | @lst b ys _ hys hyd =>
        have px := DpAll.pd _ hxd
        have py := DpAll.pd _ hyd
        have lx := px.length
        have ly := py.length
        walk_at "z"
        refine r_isiD hy (k := "list") rfl (b := false) (by decide +kernel) ?_
        walk_at "z"
        refine r_isiD hy (k := "list") rfl (b := true) (by decide +kernel) ?_
        walk_at "z"
        refine r_isiD hy (k := "list") rfl (b := false) (by decide +kernel) ?_
        walk_at "z"
        refine r_isiD hx (k := "list") rfl (b := false) (by decide +kernel) ?_
        walk_at "z"
        refine iteF ?_
        walk_at "z"
        refine r_isiD hy (k := "list") rfl (b := true) (by decide +kernel) ?_
        walk_at "z"
        refine r_isiD hx (k := "list") rfl (b := true) (by decide +kernel) ?_
        walk_at "z"
        refine iteF ?_
        walk_at "z"
        refine r_iteN (fun h => absurd (by omega) h) (fun _ => ?_)
        walk_at "z"
        walk_at "z"
        refine r_rg1 (by omega) (forR_range (fun i σ' H' => H' = H ∧ ∃ x2, σ' = [some (.ref a), some (.ref b), x2]) ⟨rfl, _, rfl⟩ ?_ ?_)
        · rintro i σ' H' hi ⟨rfl, x2, rfl⟩
          have hi' : i < ds.length := by omega
          obtain ⟨x, hxi, hxt⟩ := pd_get2 px (List.getElem?_eq_getElem hi')
          obtain ⟨y, hyi, hyt⟩ := pd_get2 py (List.getElem?_eq_getElem hi')
          have e0 : (0 : Int) + (i : Int) = i := by omega
          walk_at "z"
          rw [e0]
          refine r_ixE (.inl hxs) (atI_nat hxi) ?_
          walk_at "z"
          refine r_ixE (.inl hys) (atI_nat hyi) ?_
          walk_at "z"
          refine ⟨x, y, ds[i], rfl, hxt, hyt, hm _ (List.getElem_mem hi'), ?_⟩
          walk_at "z"
          refine iteF ?_
          exact ⟨rfl, _, rfl⟩
        · rintro σ' H' ⟨rfl, x2, rfl⟩
          walk_at "z"
          exact q
      | tuple ds =>
        obtain ⟨hn, hm⟩ := hd
        cases id hx with
        | @tup a xs _ hxs hxd =>
        cases id hy with
        | @tup b ys _ hys hyd =>
        have px := DpAll.pd _ hxd
        have py := DpAll.pd _ hyd
        have lx := px.length
        have ly := py.length
        walk_at "z"
        refine r_isiD hy (k := "tuple") rfl (b := true) (by decide +kernel) ?_
        walk_at "z"
        refine r_isiD hy (k := "tuple") rfl (b := true) (by decide +kernel) ?_
        walk_at "z"
        refine r_isiD hx (k := "tuple") rfl (b := true) (by decide +kernel) ?_
        walk_at "z"
        refine iteF ?_
        walk_at "z"
        refine r_isiD hy (k := "tuple") rfl (b := false) (by decide +kernel) ?_
        walk_at "z"
        refine r_isiD hx (k := "tuple") rfl (b := false) (by decide +kernel) ?_
        walk_at "z"
        refine iteF ?_
        walk_at "z"
        refine r_iteN (fun h => absurd (by omega) h) (fun _ => ?_)
        walk_at "z"
        walk_at "z"
        refine r_rg1 (by omega) (forR_range (fun i σ' H' => H' = H ∧ ∃ x2, σ' = [some (.ref a), some (.ref b), x2]) ⟨rfl, _, rfl⟩ ?_ ?_)
        · rintro i σ' H' hi ⟨rfl, x2, rfl⟩
          have hi' : i < ds.length := by omega
          obtain ⟨x, hxi, hxt⟩ := pd_get2 px (List.getElem?_eq_getElem hi')
          obtain ⟨y, hyi, hyt⟩ := pd_get2 py (List.getElem?_eq_getElem hi')
          have e0 : (0 : Int) + (i : Int) = i := by omega
          walk_at "z"
          rw [e0]
          refine r_ixE (.inr hxs) (atI_nat hxi) ?_
          walk_at "z"
          refine r_ixE (.inr hys) (atI_nat hyi) ?_
          walk_at "z"
          refine ⟨x, y, ds[i], rfl, hxt, hyt, hm _ (List.getElem_mem hi'), ?_⟩
          walk_at "z"
          refine iteF ?_
          exact ⟨rfl, _, rfl⟩
        · rintro σ' H' ⟨rfl, x2, rfl⟩
          walk_at "z"
          exact q
      | dict ds => exact hd.elim
end

set_option Elab.async false
set_option linter.all false
set_option maxRecDepth 100000
set_option maxHeartbeats 4000000
open PySem PySem.Spec PyProof.Rows L2 LamX RZ

abbrev s_is_integer : Stmt := topS 1
theorem sc_is_integer : FnScope ["value"] ["value"] (defScope s_is_integer) := ⟨rfl, rfl, rfl, by decide +kernel, rfl, by decide +kernel, by decide +kernel⟩

abbrev s_is_tuple : Stmt := topS 2
theorem sc_is_tuple : FnScope ["value", "many"] ["value", "many"] (defScope s_is_tuple) := ⟨rfl, rfl, rfl, by decide +kernel, rfl, by decide +kernel, by decide +kernel⟩

abbrev s_is_vertex : Stmt := topS 4
theorem sc_is_vertex : FnScope ["n", "value"] ["n", "value"] (defScope s_is_vertex) := ⟨rfl, rfl, rfl, by decide +kernel, rfl, by decide +kernel, by decide +kernel⟩

abbrev s_are_vertices : Stmt := topS 5
theorem sc_are_vertices : FnScope ["n", "value", "v"] ["n", "value"] (defScope s_are_vertices) := ⟨rfl, rfl, rfl, by decide +kernel, rfl, by decide +kernel, by decide +kernel⟩

abbrev s_is_set : Stmt := topS 8
theorem sc_is_set : FnScope ["n", "value"] ["n", "value"] (defScope s_is_set) := ⟨rfl, rfl, rfl, by decide +kernel, rfl, by decide +kernel, by decide +kernel⟩

abbrev s_is_ascending : Stmt := topS 9
theorem sc_is_ascending : FnScope ["items", "at"] ["items"] (defScope s_is_ascending) := ⟨rfl, rfl, rfl, by decide +kernel, rfl, by decide +kernel, by decide +kernel⟩

abbrev s_is_edge : Stmt := topS 11
theorem sc_is_edge : FnScope ["n", "value"] ["n", "value"] (defScope s_is_edge) := ⟨rfl, rfl, rfl, by decide +kernel, rfl, by decide +kernel, by decide +kernel⟩

abbrev s_are_edges : Stmt := topS 12
theorem sc_are_edges : FnScope ["n", "value", "edge"] ["n", "value"] (defScope s_are_edges) := ⟨rfl, rfl, rfl, by decide +kernel, rfl, by decide +kernel, by decide +kernel⟩

abbrev s_is_size : Stmt := topS 38
theorem sc_is_size : FnScope ["value"] ["value"] (defScope s_is_size) := ⟨rfl, rfl, rfl, by decide +kernel, rfl, by decide +kernel, by decide +kernel⟩

abbrev s_is_graph : Stmt := topS 39
theorem sc_is_graph : FnScope ["value", "n", "edges"] ["value"] (defScope s_is_graph) := ⟨rfl, rfl, rfl, by decide +kernel, rfl, by decide +kernel, by decide +kernel⟩

/-- the name of a generator expression in the def x -/
def genN (x : Str) : Str := (envOfC x default 0 0 .none).qual ++ "<genexpr>"
theorem ty_dx {K : PySem.W.Frag} {a : Addr} {H : Hp} {x : V} {t : PyData} (h : DX a H x t) : TyX K H x (.type (kd t)) := by
  cases h with
  | non => exact .base .non
  | bl b => exact .base (.bl b)
  | int i => exact .base (.int i)
  | str s => exact .base (.str s)
  | lst _ h _ => exact .base (.lst h)
  | tup h _ => exact h.elim (fun h => .base (.tup h)) fun ⟨o, h⟩ => .fTuple h
  | dk _ h => exact .base (.dK h)
theorem r_isiX {K : PySem.W.Frag} {a : Addr} {H : Hp} {Q : VK} {x : V} {t : PyData} {c k : String} {b : Bool} (h : DX a H x t) (e1 : kd t = k) (e : kitB k c = some b) (q : Q (.bl b) H) : rIsi K [x, .ty c] H Q :=
  ⟨x, .ty c, .type k, .type c, b, rfl, .ty _, e1 ▸ ty_dx h, kit_ty e, q⟩
/-- the kinds -/
def tupD : PyData → Bool
  | .tuple _ => true
  | _ => false
theorem kit_tup (t : PyData) : kitB (kd t) "tuple" = some (tupD t) := by
  cases t with
  | none => exact (show kitB "NoneType" "tuple" = some false by decide +kernel)
  | bool b => exact (show kitB "bool" "tuple" = some false by decide +kernel)
  | int b => exact (show kitB "int" "tuple" = some false by decide +kernel)
  | str b => exact (show kitB "str" "tuple" = some false by decide +kernel)
  | list b => exact (show kitB "list" "tuple" = some false by decide +kernel)
  | tuple b => exact (show kitB "tuple" "tuple" = some true by decide +kernel)
  | dict b => exact (show kitB "dict" "tuple" = some false by decide +kernel)
theorem tupD_of {t : PyData} (h : tupD t = true) : ∃ ds, t = .tuple ds := by
  cases t with
  | tuple ds => exact ⟨ds, rfl⟩
  | _ => exact absurd h Bool.false_ne_true
/-- each item less than the next -/
def adjI (ns : List Int) : Prop := ∀ (j : Nat) x y, ns[j]? = some x → ns[j + 1]? = some y → x < y
def adjP (ps : List (Int × Int)) : Prop := ∀ (j : Nat) x y, ps[j]? = some x → ps[j + 1]? = some y → ltP x y
def edgD (n : Int) (d : PyData) : Prop := ∃ u v : Int, d = .tuple [.int u, .int v] ∧ 0 ≤ u ∧ u < v ∧ v < n
section
variable {P : Program} {w : World} {K : PySem.W.Frag} {mg : Str → Option Value} {base : Heap}
def spIntX (b : Addr) : Sp := fun vs H Q _ => ∃ (v : V) (d : PyData), vs = [v] ∧ DX b H v d ∧ Q (.bl (intD d)) H
theorem ok_intX {b : Addr} (T : Blt mg) (D : DefAt K mg "is_integer" s_is_integer ["value"]) : FnOk P w K mg base CX0 1 D.f D.fd ["value"] (spIntX b) := by
  refine D.F.ok sc_is_integer (fun vs H Q E h => ?_) (fun cdv A outer s H vs Q E hr h => ?_)
  · obtain ⟨v, d, rfl, _⟩ := h
    rfl
  · obtain ⟨v, d, rfl, hd, q⟩ := h
    refine ⟨_, (pss_one (ps_ret (pe_and (pe_callB (call_isiK (K := K) rfl) (by rfl) T.isinstance (by decide +kernel) (pa_cons (pv 0) (pa_cons (pe_bltn (v := .ty "int") (u := .type "int") (by rfl) T.int (by decide +kernel) rfl) pa_nil))) (pe_one (pe_not (pe_callB (call_isiK (K := K) rfl) (by rfl) T.isinstance (by decide +kernel) (pa_cons (pv 0) (pa_cons (pe_bltn (v := .ty "bool") (u := .type "bool") (by rfl) T.bool (by decide +kernel) rfl) pa_nil)))))))), ?_⟩
    refine r_at (σ := [some _]) rfl ?_
    walk_at "z"
    cases d with
    | int i =>
      refine r_isiX hd (k := "int") rfl (b := true) (by decide +kernel) ?_
      walk_at "z"
      refine r_isiX hd (k := "int") rfl (b := false) (by decide +kernel) ?_
      walk_at "z"
      exact q
    | bool i =>
      refine r_isiX hd (k := "bool") rfl (b := true) (by decide +kernel) ?_
      walk_at "z"
      refine r_isiX hd (k := "bool") rfl (b := true) (by decide +kernel) ?_
      walk_at "z"
      exact q
    | none =>
      refine r_isiX hd (k := "NoneType") rfl (b := false) (by decide +kernel) ?_
      walk_at "z"
      exact q
    | str x =>
      refine r_isiX hd (k := "str") rfl (b := false) (by decide +kernel) ?_
      walk_at "z"
      exact q
    | list ds =>
      refine r_isiX hd (k := "list") rfl (b := false) (by decide +kernel) ?_
      walk_at "z"
      exact q
    | tuple ds =>
      refine r_isiX hd (k := "tuple") rfl (b := false) (by decide +kernel) ?_
      walk_at "z"
      exact q
    | dict ds =>
      refine r_isiX hd (k := "dict") rfl (b := false) (by decide +kernel) ?_
      walk_at "z"
      exact q
def lenD (m : Int) : PyData → Bool
  | .tuple ds => decide ((ds.length : Int) = m)
  | _ => false
def spTupX (b : Addr) : Sp := fun vs H Q _ => ∃ (v : V) (d : PyData) (m : Int), vs = [v, .int m] ∧ DX b H v d ∧ Q (.bl (lenD m d)) H
theorem ok_tupX {b : Addr} (T : Blt mg) (D : DefAt K mg "is_tuple" s_is_tuple ["value", "many"]) : FnOk P w K mg base CX0 1 D.f D.fd ["value", "many"] (spTupX b) := by
  refine D.F.ok sc_is_tuple (fun vs H Q E h => ?_) (fun cdv A outer s H vs Q E hr h => ?_)
  · obtain ⟨v, d, m, rfl, _⟩ := h
    rfl
  · obtain ⟨v, d, m, rfl, hd, q⟩ := h
    refine ⟨_, (pss_one (ps_ret (pe_and (pe_callB (call_isiK (K := K) rfl) (by rfl) T.isinstance (by decide +kernel) (pa_cons (pv 0) (pa_cons (pe_bltn (v := .ty "tuple") (u := .type "tuple") (by rfl) T.tuple (by decide +kernel) rfl) pa_nil))) (pe_one (pe_cmpR op_eq (pe_callB (call_lenK (K := K) rfl) (by rfl) T.len (by decide +kernel) (pa_cons (pv 0) pa_nil)) (pv 1) (nomark _)))))), ?_⟩
    refine r_at (σ := [some _, some _]) rfl ?_
    walk_at "z"
    refine r_isiX hd rfl (kit_tup d) ?_
    cases e : tupD d with
    | false =>
      walk_at "z"
      have : lenD m d = false := by
        cases d with
        | tuple ds => exact absurd e.symm Bool.false_ne_true
        | _ => rfl
      rw [this] at q
      exact q
    | true =>
      obtain ⟨ds, rfl⟩ := tupD_of e
      cases id hd with
      | @tup p xs _ hp hxd =>
      have hq : SqT K H p xs := .inl hp
      walk_at "z"
      rw [hxd.len]
      exact q
def spVxX (b : Addr) : Sp := fun vs H Q _ => ∃ (n : Int) (v : V) (d : PyData), vs = [.int n, v] ∧ DX b H v d ∧ Q (.bl (verD n d)) H
theorem ok_vxX {b : Addr} (T : Blt mg) (D : DefAt K mg "is_vertex" s_is_vertex ["n", "value"]) (D_is_integer : DefAt K mg "is_integer" s_is_integer ["value"]) (G_is_integer : FnOk P w K mg base CX0 1 D_is_integer.f D_is_integer.fd ["value"] (spIntX b)) :
    FnOk P w K mg base CX0 2 D.f D.fd ["n", "value"] (spVxX b) := by
  refine D.F.ok sc_is_vertex (fun vs H Q E h => ?_) (fun cdv A outer s H vs Q E hr h => ?_)
  · obtain ⟨n, v, d, rfl, _⟩ := h
    rfl
  · obtain ⟨n, v, d, rfl, hd, q⟩ := h
    refine ⟨_, (pss_one (ps_ret (pe_and (pe_call G_is_integer (hr.mono (by first | decide | omega)) (by rfl) D_is_integer.g D_is_integer.F.kp D_is_integer.b .nil pass0 (pa_cons (pv 1) pa_nil)) (pe_one (pe_chain op_le op_lt pe_int (pv 1) (pv 0)))))), ?_⟩
    refine r_at (σ := [some _, some _]) rfl ?_
    walk_at "z"
    refine ⟨v, d, rfl, hd, ?_⟩
    walk_at "z"
    cases d with
    | int i =>
      cases hd
      walk_at "z"
      refine iteT ?_
      walk_at "z"
      refine r_ite (fun h => ?_) (fun h => ?_)
      · walk_at "z"
        have e : verD n (.int i) = decide (i < n) := by simp [verD, h]
        rw [e] at q
        exact q
      · have e : verD n (.int i) = false := by simp [verD, h]
        rw [e] at q
        exact q
    | _ => exact iteF q
def spVsX (b : Addr) (TT : List (Addr × Str)) : Sp := fun vs H Q _ => ∃ (n : Int) (v : V) (d : PyData), vs = [.int n, v] ∧ DX b H v d ∧ Tabs TT H ∧ ∀ H', ExtN H H' → Tabs TT H' → Q (.bl (versD n d)) H'
theorem all_take {α : Type} {p : α → Bool} {l : List α} {i : Nat} {x : α} (h : l[i]? = some x) (t : (l.take i).all p = true) : (l.take (i + 1)).all p = p x := by
  rw [take_next h, List.all_append, t, Bool.true_and, List.all_cons, List.all_nil, Bool.and_true]
theorem all_false {α : Type} {p : α → Bool} {l : List α} {i : Nat} {x : α} (h : l[i]? = some x) (t : p x = false) : l.all p = false := by
  cases e : l.all p with
  | false => rfl
  | true =>
    have := List.all_eq_true.mp e x (List.mem_of_getElem? h)
    rw [t] at this
    cases this
theorem ok_vsX {b c PT : Addr} {TT : List (Addr × Str)} (TB : TabB base mg c PT) (hm9 : (PT, genN "are_vertices") ∈ TT) (hu9 : ∀ p ∈ TT, p.1 = PT → p.2 = genN "are_vertices") (T : Blt mg) (z_all : mg "all" = none) (D : DefAt K mg "are_vertices" s_are_vertices ["n", "value"]) (hco : D.fd.code = .ref c)
    (D_is_vertex : DefAt K mg "is_vertex" s_is_vertex ["n", "value"]) (G_is_vertex : FnOk P w K mg base CX0 2 D_is_vertex.f D_is_vertex.fd ["n", "value"] (spVxX b)) : FnOk P w K mg base CX0 7 D.f D.fd ["n", "value"] (spVsX b TT) := by
  refine okV D.F sc_are_vertices (fun vs H Q E h => ?_) (fun cdv A outer s H vs Q E hcv hr h => ?_)
  · obtain ⟨n, v, d, rfl, _⟩ := h
    rfl
  · obtain ⟨n, v, d, rfl, hd, hT, q⟩ := h
    obtain rfl : cdv = .ref c := hcv.symm.trans hco
    refine ⟨_, (pss_one (ps_ret (pe_and (pe_callB (call_isiK (K := K) rfl) (by rfl) T.isinstance (by decide +kernel) (pa_cons (pv 1) (pa_cons (pe_bltn (v := .ty "tuple") (u := .type "tuple") (by rfl) T.tuple (by decide +kernel) rfl) pa_nil))) (pe_one (pe_allG (k := 3) (hr.mono (by first | decide | omega)) (by rfl) z_all (by decide +kernel) TB rfl hm9 hu9 (genS1_by (sc := defScope s_are_vertices) (by decide +kernel)) (ix := 2) rfl sc_are_vertices.nd (show (".0" : Str) ∉ (["n", "value", "v"] : List Str) by decide +kernel) (PI.tupK (K := K) rfl (pi_tup (pv 1))) (fun _ _ _ _ _ _ => (pg_name (i := 2) sc_are_vertices.nd rfl (Or.inl rfl))) (fun _ _ _ _ _ _ hr => (pe_call G_is_vertex (hr.mono (by first | decide | omega)) (by rfl) D_is_vertex.g D_is_vertex.F.kp D_is_vertex.b .nil pass0 (pa_cons (pv 0) (pa_cons (pv 2) pa_nil))))))))), ?_⟩
    refine r_at (σ := [some _, some _, none]) rfl ?_
    walk_at "z"
    refine r_isiX hd rfl (kit_tup d) ?_
    cases et : tupD d with
    | false =>
      walk_at "z"
      have : versD n d = false := by
        cases d with
        | tuple ds => exact absurd et.symm Bool.false_ne_true
        | _ => rfl
      have := this ▸ q H (ExtN.refl H) hT
      exact this
    | true =>
      obtain ⟨ds, rfl⟩ := tupD_of et
      cases id hd with
      | @tup p xs _ hxs hxd =>
      walk_at "z"
      refine r_it (.inl hxs) ⟨hT, fun H2 e2 T2 => gall_tup (xs := xs) (fun i H' => H' = H2 ∧ (ds.take i).all (verD n) = true) (by walk_at "zw") ⟨rfl, rfl⟩ (fun i H' _ ⟨e, _⟩ => e ▸ .inl (hxs.ext e2)) ?_ ?_⟩
      · rintro i x H' hx ⟨rfl, al⟩
        obtain ⟨d, hd1, fd⟩ := pd_get (DXs.pd _ (hxd.ext e2)) hx
        walk_at "z"
        refine ⟨rfl, ?_⟩
        walk_at "z"
        refine ⟨n, x, d, rfl, fd, ?_⟩
        refine r_genE ?_
        cases e : verD n d with
        | true => exact ⟨rfl, (all_take hd1 al).trans e⟩
        | false =>
          have := q H' e2 T2
          rw [show versD n (.tuple ds) = ds.all (verD n) from rfl, all_false hd1 e] at this
          exact this
      · rintro H' ⟨rfl, al⟩
        rw [hxd.len, List.take_length] at al
        have := q H' e2 T2
        rw [show versD n (.tuple ds) = ds.all (verD n) from rfl, al] at this
        exact this
end

set_option Elab.async false
set_option linter.all false
set_option maxRecDepth 100000
set_option maxHeartbeats 4000000
open PySem PySem.Spec PyProof.Rows L2 LamX RZ

theorem lex_pair {p q : Int × Int} : HT.lexLt [p.1, p.2] [q.1, q.2] = true ↔ ltP p q := by
  rw [HT.lexLt_cons, HT.lexLt_cons, HT.lexLt_nil_nil]
  unfold ltP
  by_cases h : p.1 = q.1
  · rw [if_pos h]
    by_cases k : p.2 = q.2
    · rw [if_pos k]
      simp [h, k]
    · rw [if_neg k, decide_eq_true_eq]
      omega
  · rw [if_neg h, decide_eq_true_eq]
    omega
def prX (p : Int × Int) : PyData := .tuple [.int p.1, .int p.2]
def setX (n : Int) (d : PyData) : Prop := ∃ ns : List Int, d = .tuple (ns.map PyData.int) ∧ (∀ z ∈ ns, 0 ≤ z ∧ z < n) ∧ adjI ns
def edsX (n : Int) (d : PyData) : Prop := ∃ ps : List (Int × Int), d = .tuple (ps.map prX) ∧ (∀ p ∈ ps, 0 ≤ p.1 ∧ p.1 < p.2 ∧ p.2 < n) ∧ adjP ps
def gphX (d : PyData) : Prop := ∃ (n : Int) (ps : List (Int × Int)), d = .tuple [.int n, .tuple (ps.map prX)] ∧ 1 ≤ n ∧ n ≤ 60 ∧ (∀ p ∈ ps, 0 ≤ p.1 ∧ p.1 < p.2 ∧ p.2 < n) ∧ adjP ps
theorem ints_inj {ns ms : List Int} (h : ns.map PyData.int = ms.map PyData.int) : ns = ms := List.map_inj_right (fun a b e => by cases e; rfl) |>.mp h
theorem prX_inj {p q : Int × Int} (h : prX p = prX q) : p = q := by
  obtain ⟨a, b⟩ := p
  obtain ⟨c, d⟩ := q
  have := PyData.tuple.inj h
  simp only [List.cons.injEq, PyData.int.injEq, and_true] at this
  exact Prod.ext this.1 this.2
theorem prXs_inj {ps qs : List (Int × Int)} (h : ps.map prX = qs.map prX) : ps = qs := List.map_inj_right (fun a b e => prX_inj e) |>.mp h
theorem dx_ints {a : Addr} {H : Hp} : ∀ {ns : List Int} {vs : List V}, DXs a H vs (ns.map PyData.int) → vs = ns.map V.int
  | [], _, h => by cases h; rfl
  | n :: ns, _, h => by
    cases h with
    | cons h1 h2 =>
      cases h1
      rw [dx_ints h2]
      rfl
/-- a pair, how ever it came -/
def IsPX (H : Hp) (x : V) (p : Int × Int) : Prop := ∃ t, x = .ref t ∧ ST H t [.int p.1, .int p.2]
abbrev PrsX (H : Hp) : List V → List (Int × Int) → Prop := Paired (IsPX H)
theorem PrsX.ext {H H' : Hp} (s : ExtN H H') : ∀ {xs : List V} {ps : List (Int × Int)}, PrsX H xs ps → PrsX H' xs ps
  | _, _, .nil => .nil
  | _, _, .cons ⟨t, e, h⟩ r => .cons ⟨t, e, h.ext s⟩ (PrsX.ext s r)
theorem dx_pr {a : Addr} {H : Hp} {x : V} {p : Int × Int} (h : DX a H x (prX p)) : IsPX H x p := by
  unfold prX at h
  cases h with
  | tup hp hx =>
    have := dx_ints (ns := [p.1, p.2]) hx
    subst this
    exact ⟨_, rfl, hp⟩
theorem dx_prs {a : Addr} {H : Hp} : ∀ {ps : List (Int × Int)} {vs : List V}, DXs a H vs (ps.map prX) → PrsX H vs ps
  | [], _, h => by cases h; exact .nil
  | p :: ps, _, h => by
    cases h with
    | cons h1 h2 => exact .cons (dx_pr h1) (dx_prs h2)
/-- the items that are edges, one by one -/
theorem eds_of {n : Int} : ∀ {ds : List PyData}, (∀ d ∈ ds, edgD n d) → ∃ ps : List (Int × Int), ds = ps.map prX ∧ ∀ p ∈ ps, 0 ≤ p.1 ∧ p.1 < p.2 ∧ p.2 < n
  | [], _ => ⟨[], rfl, fun p hp => (nomatch hp)⟩
  | d :: ds, h => by
    obtain ⟨ps, e, hp⟩ := eds_of (n := n) (ds := ds) fun d hd => h d (List.mem_cons_of_mem _ hd)
    obtain ⟨u, v, rfl, h1, h2, h3⟩ := h d List.mem_cons_self
    refine ⟨(u, v) :: ps, by rw [e]; rfl, fun p hp' => ?_⟩
    rcases List.mem_cons.mp hp' with rfl | c
    · exact ⟨h1, h2, h3⟩
    · exact hp p c
section
variable {P : Program} {w : World} {K : PySem.W.Frag} {mg : Str → Option Value} {base : Heap}
def spAscX (TT : List (Addr × Str)) : Sp := fun vs H Q _ => ∃ p : Addr, vs = [.ref p] ∧ Tabs TT H ∧
  ((∃ ns : List Int, ST H p (ns.map V.int) ∧ ns.length ≤ 100000 ∧ ∀ (b : Bool) H', ExtN H H' → Tabs TT H' → (b = true ↔ adjI ns) → Q (.bl b) H') ∨
   (∃ (xs : List V) (ps : List (Int × Int)), ST H p xs ∧ PrsX H xs ps ∧ ps.length ≤ 100000 ∧ ∀ (b : Bool) H', ExtN H H' → Tabs TT H' → (b = true ↔ adjP ps) → Q (.bl b) H'))
theorem ok_ascX {c PT : Addr} {TT : List (Addr × Str)} (TB : TabB base mg c PT) (hm9 : (PT, genN "is_ascending") ∈ TT) (hu9 : ∀ p ∈ TT, p.1 = PT → p.2 = genN "is_ascending") (T : Blt mg) (z_all : mg "all" = none) (D : DefAt K mg "is_ascending" s_is_ascending ["items"]) (hco : D.fd.code = .ref c) :
    FnOk P w K mg base CX0 7 D.f D.fd ["items"] (spAscX TT) := by
  refine okV D.F sc_is_ascending (fun vs H Q E h => ?_) (fun cdv A outer s H vs Q E hcv hr h => ?_)
  · obtain ⟨p, rfl, _⟩ := h
    rfl
  · obtain ⟨p, rfl, hT, h⟩ := h
    obtain rfl : cdv = .ref c := hcv.symm.trans hco
    refine ⟨_, (pss_one (ps_ret (pe_allG (k := 3) (hr.mono (by first | decide | omega)) (by rfl) z_all (by decide +kernel) TB rfl hm9 hu9 (genS1_by (sc := defScope s_is_ascending) (by decide +kernel)) (ix := 1) rfl sc_is_ascending.nd (show (".0" : Str) ∉ (["items", "at"] : List Str) by decide +kernel) (pi_range1 (by rfl) T.range (pa_cons (pe_op op_sub (pe_callB (call_lenK (K := K) rfl) (by rfl) T.len (by decide +kernel) (pa_cons (pv 0) pa_nil)) pe_int) pa_nil)) (fun _ _ _ _ _ _ => (pg_name (i := 1) sc_is_ascending.nd rfl (Or.inl rfl))) (fun _ _ _ _ _ _ hr => (pe_cmpR (op_ltIT (K := K) rfl hr.units) (pe_ix (ix_tupK (K := K) rfl) (pv 0) (pv 1) (fun _ _ => rfl)) (pe_ix (ix_tupK (K := K) rfl) (pv 0) (pe_op op_add (pv 1) pe_int) (fun _ _ => rfl)) (nomark _)))))), ?_⟩
    refine r_at (σ := [some _, none]) rfl ?_
    rcases h with ⟨ns, hp, ln, q⟩ | ⟨xs, ps, hp, hxs, ln, q⟩
    · have hq : SqT K H p (ns.map V.int) := .inl hp
      walk_at "z"
      rw [List.length_map]
      refine r_rg1 (by omega) ⟨hT, fun H2 e2 T2 => gall_range (fun i H' => H' = H2 ∧ ∀ j : Nat, j < i → ∀ x y, ns[j]? = some x → ns[j + 1]? = some y → x < y) (by walk_at "zw") ⟨rfl, fun j hj => absurd hj (Nat.not_lt_zero j)⟩ ?_ ?_⟩
      · rintro i H' hi ⟨rfl, al⟩
        have hp2 := hp.ext e2
        have hq2 : SqT K H' p _ := .inl hp2
        obtain ⟨x, hx⟩ : ∃ x, ns[i]? = some x := ⟨_, List.getElem?_eq_getElem (by omega)⟩
        obtain ⟨y, hy⟩ : ∃ x, ns[i + 1]? = some x := ⟨_, List.getElem?_eq_getElem (by omega)⟩
        walk_at "z"
        refine ⟨rfl, ?_⟩
        walk_at "z"
        refine r_ixT (.inl hp2) (at_of (j := i) (by omega) (by rw [List.getElem?_map, hx]; rfl)) ?_
        walk_at "z"
        refine r_ixT (.inl hp2) (at_of (j := i + 1) (by omega) (by rw [List.getElem?_map, hy]; rfl)) ?_
        walk_at "z"
        refine r_ltI ?_
        refine r_genE ?_
        by_cases c : x < y
        · rw [decide_eq_true c]
          refine ⟨rfl, fun j hj x' y' hx' hy' => ?_⟩
          by_cases ej : j = i
          · rw [ej] at hx' hy'
            rw [hx] at hx'
            rw [hy] at hy'
            cases hx'
            cases hy'
            exact c
          · exact al j (by omega) x' y' hx' hy'
        · rw [decide_eq_false c]
          exact q false H' e2 T2 ⟨fun h => (nomatch h), fun h => (c (h i x y hx hy)).elim⟩
      · rintro H' ⟨rfl, al⟩
        refine q true H' e2 T2 ⟨fun _ j x y hx hy => al j ?_ x y hx hy, fun _ => rfl⟩
        have := (List.getElem?_eq_some_iff.mp hy).1
        omega
    · have lx := hxs.length
      have hq : SqT K H p xs := .inl hp
      walk_at "z"
      refine r_rg1 (by omega) ⟨hT, fun H2 e2 T2 => gall_range (fun i H' => H' = H2 ∧ ∀ j : Nat, j < i → ∀ x y, ps[j]? = some x → ps[j + 1]? = some y → ltP x y) (by walk_at "zw") ⟨rfl, fun j hj => absurd hj (Nat.not_lt_zero j)⟩ ?_ ?_⟩
      · rintro i H' hi ⟨rfl, al⟩
        have hp2 := hp.ext e2
        have hq2 : SqT K H' p _ := .inl hp2
        have hxs2 := hxs.ext e2
        obtain ⟨x, hx⟩ : ∃ x, ps[i]? = some x := ⟨_, List.getElem?_eq_getElem (by omega)⟩
        obtain ⟨y, hy⟩ : ∃ x, ps[i + 1]? = some x := ⟨_, List.getElem?_eq_getElem (by omega)⟩
        obtain ⟨x', hx', ⟨ta, rfl, hta⟩⟩ := pd_get2 hxs2 hx
        obtain ⟨y', hy', ⟨tb, rfl, htb⟩⟩ := pd_get2 hxs2 hy
        walk_at "z"
        refine ⟨rfl, ?_⟩
        walk_at "z"
        refine r_ixT (.inl hp2) (at_of (j := i) (by omega) hx') ?_
        walk_at "z"
        refine r_ixT (.inl hp2) (at_of (j := i + 1) (by omega) hy') ?_
        walk_at "z"
        refine r_ltT ⟨ta, tb, [x.1, x.2], [y.1, y.2], rfl, rfl, .inl hta, .inl htb, ?_⟩
        refine r_genE ?_
        cases c : HT.lexLt [x.1, x.2] [y.1, y.2] with
        | true =>
          refine ⟨rfl, fun j hj x' y' hx' hy' => ?_⟩
          by_cases ej : j = i
          · rw [ej] at hx' hy'
            rw [hx] at hx'
            rw [hy] at hy'
            cases hx'
            cases hy'
            exact lex_pair.mp c
          · exact al j (by omega) x' y' hx' hy'
        | false =>
          exact q false H' e2 T2 ⟨fun h => (nomatch h), fun h => by
            have := lex_pair.mpr (h i x y hx hy)
            rw [c] at this
            cases this⟩
      · rintro H' ⟨rfl, al⟩
        refine q true H' e2 T2 ⟨fun _ j x y hx hy => al j ?_ x y hx hy, fun _ => rfl⟩
        have := (List.getElem?_eq_some_iff.mp hy).1
        omega
def spSetX (b : Addr) (TT : List (Addr × Str)) : Sp := fun vs H Q _ => ∃ (n : Int) (v : V) (d : PyData), vs = [.int n, v] ∧ DX b H v d ∧ (∀ ds, d = .tuple ds → ds.length ≤ 100000) ∧ Tabs TT H ∧ ∀ (r : Bool) H', ExtN H H' → Tabs TT H' → (r = true ↔ setX n d) → Q (.bl r) H'
theorem ok_setX {b : Addr} {TT : List (Addr × Str)} (T : Blt mg) (D : DefAt K mg "is_set" s_is_set ["n", "value"]) (D_are_vertices : DefAt K mg "are_vertices" s_are_vertices ["n", "value"]) (G_are_vertices : FnOk P w K mg base CX0 7 D_are_vertices.f D_are_vertices.fd ["n", "value"] (spVsX b TT))
    (D_is_ascending : DefAt K mg "is_ascending" s_is_ascending ["items"]) (G_is_ascending : FnOk P w K mg base CX0 7 D_is_ascending.f D_is_ascending.fd ["items"] (spAscX TT)) : FnOk P w K mg base CX0 8 D.f D.fd ["n", "value"] (spSetX b TT) := by
  refine D.F.ok sc_is_set (fun vs H Q E h => ?_) (fun cdv A outer s H vs Q E hr h => ?_)
  · obtain ⟨n, v, d, rfl, _⟩ := h
    rfl
  · obtain ⟨n, v, d, rfl, hd, len, hT, q⟩ := h
    refine ⟨_, (pss_one (ps_ret (pe_and (pe_call G_are_vertices (hr.mono (by first | decide | omega)) (by rfl) D_are_vertices.g D_are_vertices.F.kp D_are_vertices.b .nil pass0 (pa_cons (pv 0) (pa_cons (pv 1) pa_nil))) (pe_one (pe_call G_is_ascending (hr.mono (by first | decide | omega)) (by rfl) D_is_ascending.g D_is_ascending.F.kp D_is_ascending.b .nil pass0 (pa_cons (pv 1) pa_nil)))))), ?_⟩
    refine r_at (σ := [some _, some _]) rfl ?_
    walk_at "z"
    refine ⟨n, v, d, rfl, hd, hT, fun H1 e1 T1 => ?_⟩
    cases e : versD n d with
    | false =>
      walk_at "z"
      refine q false H1 e1 T1 ⟨fun h => (nomatch h), fun ⟨ns, ed, bd, _⟩ => ?_⟩
      rw [ed, versD_ints, decide_eq_true bd] at e
      cases e
    | true =>
      obtain ⟨ns, rfl, bd⟩ := versD_of e
      have ln := len _ rfl
      rw [List.length_map] at ln
      cases hd.ext e1 with
      | @tup p xs _ hxs hxd =>
      rw [dx_ints hxd] at hxs
      walk_at "z"
      refine ⟨p, rfl, T1, .inl ⟨ns, hxs, ln, fun r H2 e2 T2 hr2 => ?_⟩⟩
      refine q r H2 (e1.trans e2) T2 (hr2.trans ⟨fun h => ⟨ns, rfl, bd, h⟩, fun ⟨ms, em, _, h⟩ => ?_⟩)
      rw [ints_inj (PyData.tuple.inj em)]
      exact h
def spEdgX (b : Addr) (TT : List (Addr × Str)) : Sp := fun vs H Q _ => ∃ (n : Int) (v : V) (d : PyData), vs = [.int n, v] ∧ DX b H v d ∧ Tabs TT H ∧ ∀ (r : Bool) H', ExtN H H' → Tabs TT H' → (r = true ↔ edgD n d) → Q (.bl r) H'
theorem edg_set {n : Int} {ds : List PyData} (h : ds.length = 2) : setX n (.tuple ds) ↔ edgD n (.tuple ds) := by
  constructor
  · rintro ⟨ns, e, bd, ad⟩
    have e := PyData.tuple.inj e
    rw [e, List.length_map] at h
    match ns, h with
    | [u, v], _ =>
      refine ⟨u, v, by rw [e]; rfl, (bd u (by simp)).1, ad 0 u v rfl rfl, (bd v (by simp)).2⟩
  · rintro ⟨u, v, e, h1, h2, h3⟩
    refine ⟨[u, v], e, fun z hz => ?_, fun j x y hx hy => ?_⟩
    · rcases List.mem_cons.mp hz with rfl | hz
      · omega
      · rw [List.mem_singleton.mp hz]
        omega
    · match j with
      | 0 =>
        cases hx
        cases hy
        exact h2
      | j + 1 => simp at hy
theorem ok_edgX {b : Addr} {TT : List (Addr × Str)} (T : Blt mg) (D : DefAt K mg "is_edge" s_is_edge ["n", "value"]) (D_is_tuple : DefAt K mg "is_tuple" s_is_tuple ["value", "many"]) (G_is_tuple : FnOk P w K mg base CX0 1 D_is_tuple.f D_is_tuple.fd ["value", "many"] (spTupX b))
    (D_is_set : DefAt K mg "is_set" s_is_set ["n", "value"]) (G_is_set : FnOk P w K mg base CX0 8 D_is_set.f D_is_set.fd ["n", "value"] (spSetX b TT)) : FnOk P w K mg base CX0 9 D.f D.fd ["n", "value"] (spEdgX b TT) := by
  refine D.F.ok sc_is_edge (fun vs H Q E h => ?_) (fun cdv A outer s H vs Q E hr h => ?_)
  · obtain ⟨n, v, d, rfl, _⟩ := h
    rfl
  · obtain ⟨n, v, d, rfl, hd, hT, q⟩ := h
    refine ⟨_, (pss_one (ps_ret (pe_and (pe_call G_is_tuple (hr.mono (by first | decide | omega)) (by rfl) D_is_tuple.g D_is_tuple.F.kp D_is_tuple.b .nil pass0 (pa_cons (pv 1) (pa_cons pe_int pa_nil))) (pe_one (pe_call G_is_set (hr.mono (by first | decide | omega)) (by rfl) D_is_set.g D_is_set.F.kp D_is_set.b .nil pass0 (pa_cons (pv 0) (pa_cons (pv 1) pa_nil))))))), ?_⟩
    refine r_at (σ := [some _, some _]) rfl ?_
    walk_at "z"
    refine ⟨v, d, 2, rfl, hd, ?_⟩
    cases e : lenD 2 d with
    | false =>
      walk_at "z"
      refine q false H (.refl H) hT ⟨fun h => (nomatch h), fun ⟨u, v', ed, _⟩ => ?_⟩
      rw [ed] at e
      cases e
    | true =>
      obtain ⟨ds, rfl, l2⟩ : ∃ ds, d = .tuple ds ∧ ds.length = 2 := by
        cases d with
        | tuple ds => exact ⟨ds, rfl, by have := of_decide_eq_true e; omega⟩
        | _ => exact absurd e Bool.false_ne_true
      walk_at "z"
      refine ⟨n, v, _, rfl, hd, fun es ee => by cases ee; omega, hT, fun r H1 e1 T1 hr1 => ?_⟩
      exact q r H1 e1 T1 (hr1.trans (edg_set l2))
def spEdsX (b : Addr) (TT : List (Addr × Str)) : Sp := fun vs H Q _ => ∃ (n : Int) (v : V) (d : PyData), vs = [.int n, v] ∧ DX b H v d ∧ (∀ ds, d = .tuple ds → ds.length ≤ 100000) ∧ Tabs TT H ∧ ∀ (r : Bool) H', ExtN H H' → Tabs TT H' → (r = true ↔ edsX n d) → Q (.bl r) H'
theorem ok_edsX {b c PT : Addr} {TT : List (Addr × Str)} (TB : TabB base mg c PT) (hm9 : (PT, genN "are_edges") ∈ TT) (hu9 : ∀ p ∈ TT, p.1 = PT → p.2 = genN "are_edges") (T : Blt mg) (z_all : mg "all" = none) (D : DefAt K mg "are_edges" s_are_edges ["n", "value"]) (hco : D.fd.code = .ref c)
    (D_is_edge : DefAt K mg "is_edge" s_is_edge ["n", "value"]) (G_is_edge : FnOk P w K mg base CX0 9 D_is_edge.f D_is_edge.fd ["n", "value"] (spEdgX b TT))
    (D_is_ascending : DefAt K mg "is_ascending" s_is_ascending ["items"]) (G_is_ascending : FnOk P w K mg base CX0 7 D_is_ascending.f D_is_ascending.fd ["items"] (spAscX TT)) : FnOk P w K mg base CX0 14 D.f D.fd ["n", "value"] (spEdsX b TT) := by
  refine okV D.F sc_are_edges (fun vs H Q E h => ?_) (fun cdv A outer s H vs Q E hcv hr h => ?_)
  · obtain ⟨n, v, d, rfl, _⟩ := h
    rfl
  · obtain ⟨n, v, d, rfl, hd, len, hT, q⟩ := h
    obtain rfl : cdv = .ref c := hcv.symm.trans hco
    refine ⟨_, (pss_one (ps_ret (pe_and (pe_callB (call_isiK (K := K) rfl) (by rfl) T.isinstance (by decide +kernel) (pa_cons (pv 1) (pa_cons (pe_bltn (v := .ty "tuple") (u := .type "tuple") (by rfl) T.tuple (by decide +kernel) rfl) pa_nil))) (pe_and (pe_allG (k := 10) (hr.mono (by first | decide | omega)) (by rfl) z_all (by decide +kernel) TB rfl hm9 hu9 (genS1_by (sc := defScope s_are_edges) (by decide +kernel)) (ix := 2) rfl sc_are_edges.nd (show (".0" : Str) ∉ (["n", "value", "edge"] : List Str) by decide +kernel) (PI.tupK (K := K) rfl (pi_tup (pv 1))) (fun _ _ _ _ _ _ => (pg_name (i := 2) sc_are_edges.nd rfl (Or.inl rfl))) (fun _ _ _ _ _ _ hr => (pe_call G_is_edge (hr.mono (by first | decide | omega)) (by rfl) D_is_edge.g D_is_edge.F.kp D_is_edge.b .nil pass0 (pa_cons (pv 0) (pa_cons (pv 2) pa_nil))))) (pe_one (pe_call G_is_ascending (hr.mono (by first | decide | omega)) (by rfl) D_is_ascending.g D_is_ascending.F.kp D_is_ascending.b .nil pass0 (pa_cons (pv 1) pa_nil))))))), ?_⟩
    refine r_at (σ := [some _, some _, none]) rfl ?_
    walk_at "z"
    refine r_isiX hd rfl (kit_tup d) ?_
    cases et : tupD d with
    | false =>
      walk_at "z"
      refine q false H (.refl H) hT ⟨fun h => (nomatch h), fun ⟨ps, e, _⟩ => ?_⟩
      rw [e] at et
      cases et
    | true =>
      obtain ⟨ds, rfl⟩ := tupD_of et
      have ln := len _ rfl
      cases id hd with
      | @tup p xs _ hxs hxd =>
      walk_at "z"
      refine r_it (.inl hxs) ⟨hT, fun H2 e2 T2 => gall_tup (xs := xs) (fun i H' => ExtN H H' ∧ Tabs TT H' ∧ ∀ d ∈ ds.take i, edgD n d) (by walk_at "zw") ⟨e2, T2, fun d hd => by simp at hd⟩ (fun i H' _ ⟨e3, _⟩ => .inl (hxs.ext e3)) ?_ ?_⟩
      · rintro i x H' hx ⟨e3, T3, al⟩
        obtain ⟨d, hd1, fd⟩ := pd_get (DXs.pd _ (hxd.ext e3)) hx
        walk_at "z"
        refine ⟨rfl, ?_⟩
        walk_at "z"
        refine ⟨n, x, d, rfl, fd, T3, fun r H4 e4 T4 hr4 => ?_⟩
        refine r_genE ?_
        cases r with
        | true =>
          refine ⟨e3.trans e4, T4, fun z hz => ?_⟩
          rw [take_next hd1] at hz
          rcases List.mem_append.mp hz with c | c
          · exact al z c
          · rw [List.mem_singleton.mp c]
            exact hr4.mp rfl
        | false =>
          refine iteF ?_
          walk_at "z"
          refine q false H4 (e3.trans e4) T4 ⟨fun h => (nomatch h), fun ⟨ps, e, bd, _⟩ => ?_⟩
          have e := PyData.tuple.inj e
          have dm := List.mem_of_getElem? hd1
          rw [e] at dm
          obtain ⟨p', hp', rfl⟩ := List.mem_map.mp dm
          have := hr4.mpr ⟨p'.1, p'.2, rfl, bd p' hp'⟩
          cases this
      · rintro H' ⟨e3, T3, al⟩
        rw [hxd.len, List.take_length] at al
        obtain ⟨ps, rfl, bd⟩ := eds_of al
        rw [List.length_map] at ln
        have hp3 := dx_prs (hxd.ext e3)
        walk_at "z"
        refine ⟨p, rfl, T3, .inr ⟨xs, ps, hxs.ext e3, hp3, ln, fun r H4 e4 T4 hr4 => ?_⟩⟩
        refine q r H4 (e3.trans e4) T4 (hr4.trans ⟨fun h => ⟨ps, rfl, bd, h⟩, fun ⟨qs, e, _, h⟩ => ?_⟩)
        rw [prXs_inj (PyData.tuple.inj e)]
        exact h
def sizD : PyData → Bool
  | .int i => decide (1 ≤ i) && decide (i ≤ 60)
  | _ => false
def spSizX (b : Addr) : Sp := fun vs H Q _ => ∃ (v : V) (d : PyData), vs = [v] ∧ DX b H v d ∧ Q (.bl (sizD d)) H
theorem ok_sizX {b : Addr} (T : Blt mg) {tk : Tok} (C_MOST_VERTICES : mg "MOST_VERTICES" = some (.int 60 tk)) (D : DefAt K mg "is_size" s_is_size ["value"]) (D_is_integer : DefAt K mg "is_integer" s_is_integer ["value"]) (G_is_integer : FnOk P w K mg base CX0 1 D_is_integer.f D_is_integer.fd ["value"] (spIntX b)) :
    FnOk P w K mg base CX0 2 D.f D.fd ["value"] (spSizX b) := by
  refine D.F.ok sc_is_size (fun vs H Q E h => ?_) (fun cdv A outer s H vs Q E hr h => ?_)
  · obtain ⟨v, d, rfl, _⟩ := h
    rfl
  · obtain ⟨v, d, rfl, hd, q⟩ := h
    refine ⟨_, (pss_one (ps_ret (pe_and (pe_call G_is_integer (hr.mono (by first | decide | omega)) (by rfl) D_is_integer.g D_is_integer.F.kp D_is_integer.b .nil pass0 (pa_cons (pv 0) pa_nil)) (pe_one (pe_chain op_le op_le pe_int (pv 0) (pe_glob rfl C_MOST_VERTICES rel_int)))))), ?_⟩
    refine r_at (σ := [some _]) rfl ?_
    walk_at "z"
    refine ⟨v, d, rfl, hd, ?_⟩
    walk_at "z"
    cases d with
    | int i =>
      cases hd
      walk_at "z"
      refine iteT ?_
      walk_at "z"
      refine r_ite (fun h => ?_) (fun h => ?_)
      · walk_at "z"
        have e : sizD (.int i) = decide (i ≤ 60) := by simp [sizD, h]
        rw [e] at q
        exact q
      · have e : sizD (.int i) = false := by simp [sizD, h]
        rw [e] at q
        exact q
    | _ => exact iteF q
def spGphX (b : Addr) (TT : List (Addr × Str)) : Sp := fun vs H Q _ => ∃ (v : V) (d : PyData), vs = [v] ∧ DX b H v d ∧ (∃ D, limX D 100000 d) ∧ Tabs TT H ∧ ∀ (r : Bool) H', ExtN H H' → Tabs TT H' → (r = true ↔ gphX d) → Q (.bl r) H'
theorem ok_gphX {b : Addr} {TT : List (Addr × Str)} (T : Blt mg) (D : DefAt K mg "is_graph" s_is_graph ["value"]) (D_is_tuple : DefAt K mg "is_tuple" s_is_tuple ["value", "many"]) (G_is_tuple : FnOk P w K mg base CX0 1 D_is_tuple.f D_is_tuple.fd ["value", "many"] (spTupX b))
    (D_is_size : DefAt K mg "is_size" s_is_size ["value"]) (G_is_size : FnOk P w K mg base CX0 2 D_is_size.f D_is_size.fd ["value"] (spSizX b)) (D_are_edges : DefAt K mg "are_edges" s_are_edges ["n", "value"]) (G_are_edges : FnOk P w K mg base CX0 14 D_are_edges.f D_are_edges.fd ["n", "value"] (spEdsX b TT)) :
    FnOk P w K mg base CX0 15 D.f D.fd ["value"] (spGphX b TT) := by
  refine D.F.ok sc_is_graph (fun vs H Q E h => ?_) (fun cdv A outer s H vs Q E hr h => ?_)
  · obtain ⟨v, d, rfl, _⟩ := h
    rfl
  · obtain ⟨v, d, rfl, hd, ⟨DD, hl⟩, hT, q⟩ := h
    refine ⟨_, (pss_cons (ps_if (pt_not (pt_val (pe_call G_is_tuple (hr.mono (by first | decide | omega)) (by rfl) D_is_tuple.g D_is_tuple.F.kp D_is_tuple.b .nil pass0 (pa_cons (pv 0) (pa_cons pe_int pa_nil)))))
        (pss_one (ps_ret pe_bl))
        pss_nil)
      (pss_cons (ps_asg (pv 0) (PG.tupK (K := K) rfl (pg_tup (n := 2) rfl (pgs_cons (pg_name (i := 1) sc_is_graph.nd rfl (Or.inl rfl)) (pgs_cons (pg_name (i := 2) sc_is_graph.nd rfl (Or.inl rfl)) pgs_nil)))))
      (pss_one (ps_ret (pe_and (pe_call G_is_size (hr.mono (by first | decide | omega)) (by rfl) D_is_size.g D_is_size.F.kp D_is_size.b .nil pass0 (pa_cons (pv 1) pa_nil)) (pe_one (pe_call G_are_edges (hr.mono (by first | decide | omega)) (by rfl) D_are_edges.g D_are_edges.F.kp D_are_edges.b .nil pass0 (pa_cons (pv 1) (pa_cons (pv 2) pa_nil))))))))), ?_⟩
    refine r_at (σ := [some _, none, none]) rfl ?_
    walk_at "z"
    refine ⟨v, d, 2, rfl, hd, ?_⟩
    cases e : lenD 2 d with
    | false =>
      walk_at "z"
      refine iteT ?_
      walk_at "z"
      refine q false H (.refl H) hT ⟨fun h => (nomatch h), fun ⟨n, ps, ed, _⟩ => ?_⟩
      rw [ed] at e
      cases e
    | true =>
      obtain ⟨ds, rfl, l2⟩ : ∃ ds, d = .tuple ds ∧ ds.length = 2 := by
        cases d with
        | tuple ds => exact ⟨ds, rfl, by have := of_decide_eq_true e; omega⟩
        | _ => exact absurd e Bool.false_ne_true
      match ds, l2 with
      | [d1, d2], _ =>
      obtain ⟨D1, _, _, lim1⟩ := limX_tup hl
      have l2' := lim1 d2 (by simp)
      cases id hd with
      | @tup p xs _ hxs hxd =>
      cases hxd with
      | @cons x1 _ _ _ hd1 hr1 =>
      cases hr1 with
      | @cons x2 _ _ _ hd2 hr2 =>
      cases hr2
      walk_at "z"
      refine iteF ?_
      walk_at "z"
      refine r_gtup (.inl hxs) rfl ?_
      walk_at "z"
      refine ⟨x1, d1, rfl, hd1, ?_⟩
      cases es : sizD d1 with
      | false =>
        walk_at "z"
        refine q false H (.refl H) hT ⟨fun h => (nomatch h), fun ⟨n, ps, ed, h1, h2, _⟩ => ?_⟩
        have := PyData.tuple.inj ed
        simp only [List.cons.injEq, and_true] at this
        rw [this.1] at es
        simp [sizD, h1, h2] at es
      | true =>
        obtain ⟨n, rfl, n1, n60⟩ : ∃ n, d1 = .int n ∧ 1 ≤ n ∧ n ≤ 60 := by
          cases d1 with
          | int n =>
            have h : (decide (1 ≤ n) && decide (n ≤ 60)) = true := es
            rw [Bool.and_eq_true, decide_eq_true_eq, decide_eq_true_eq] at h
            exact ⟨n, rfl, h.1, h.2⟩
          | _ => exact absurd es Bool.false_ne_true
        cases hd1
        walk_at "z"
        refine ⟨n, x2, d2, rfl, hd2, fun es ee => by
          subst ee
          obtain ⟨_, _, h, _⟩ := limX_tup l2'
          exact h, hT, fun r H1 e1 T1 hr1 => ?_⟩
        refine q r H1 e1 T1 (hr1.trans ⟨fun ⟨ps, e, bd, ad⟩ => ⟨n, ps, by rw [e], n1, n60, bd, ad⟩, fun ⟨m, ps, e, _, _, bd, ad⟩ => ?_⟩)
        have e := PyData.tuple.inj e
        simp only [List.cons.injEq, PyData.int.injEq, and_true] at e
        refine ⟨ps, e.2, ?_, ad⟩
        rw [e.1]
        exact bd
end

set_option Elab.async false
set_option linter.all false
set_option maxRecDepth 100000
set_option maxHeartbeats 4000000
open PySem PySem.Spec PyProof.Rows L2 LamX RZ

section
variable {P : Program} {w : World} {K : PySem.W.Frag} {mg : Str → Option Value} {base : Heap}
theorem forall_cons {α : Type} {p : α → Prop} {a : α} {l : List α} (h : p a) (k : ∀ x ∈ l, p x) : ∀ x ∈ a :: l, p x := fun x hx => by
  rcases List.mem_cons.mp hx with rfl | c
  · exact h
  · exact k x c
theorem r_catL {H : Hp} {Q : VK} {l b : Addr} {xs zs : List V} (h1 : H l = some (.lst xs)) (h2 : H b = some (.lst zs)) (hz : xs.length + zs.length ≤ 100000) (q : ∀ p, H p = none → Q (.ref p) (upd H p (.lst (xs ++ zs)))) : rCat (.ref l) (.ref b) H Q := ⟨l, b, xs, zs, rfl, rfl, h1, h2, small_len hz, q⟩
theorem yes_ok : (Str.ofString "yes").cps.all (· < 0x110000) = true := by decide +kernel
theorem union_ok : (Str.ofString "union").cps.all (· < 0x110000) = true := by decide +kernel
theorem lim_str {d L : Nat} {x : Str} (h : x.cps.all (· < 0x110000) = true) : limX d L (.str x) := by cases d <;> exact h
theorem lim_lit (d L : Nat) (n : Int) : ∀ x ∈ [PyData.none, .bool true, .bool false, .str (Str.ofString "yes"), .tuple [], .list [], .dict [], .int 0, .int n, .tuple [.int 0], .str (Str.ofString "union"), .tuple [.tuple []], .int (-1)], limX (d + 2) (2 * L + 2) x :=
  forall_cons trivial (forall_cons trivial (forall_cons trivial (forall_cons (lim_str yes_ok) (forall_cons ⟨Nat.zero_le _, fun x hx => nomatch hx⟩ (forall_cons ⟨Nat.zero_le _, fun x hx => nomatch hx⟩ (forall_cons trivial (forall_cons trivial (forall_cons trivial
  (forall_cons (limX_mk (by simp only [List.length_cons, List.length_nil]; omega) (forall_cons limX_int fun x hx => nomatch hx)) (forall_cons (lim_str union_ok) (forall_cons (limX_mk (by simp only [List.length_cons, List.length_nil]; omega) (forall_cons (limX_mk (Nat.zero_le _) fun x hx => nomatch hx) fun x hx => nomatch hx)) (forall_cons limX_int fun x hx => nomatch hx))))))))))))
theorem eq_one {H : Hp} {Q : VK} {a : Addr} {v : V} {t : PyData} {d L : Nat} (h : DX a H v t) (nt : tupD t = false) (l : limX d L t) (q : ∀ b, Q (.bl b) H) : rEqX K v (.int 1) H Q := by
  have one : SeqAt.shaped (.int 1) = true := by rfl
  cases h with
  | non => exact r_eqXD ⟨.none, .int 1, .non, .int 1, by rfl, one, q _⟩
  | bl b => exact r_eqXD ⟨.bool b, .int 1, .bl b, .int 1, by rfl, one, q _⟩
  | int i => exact r_eqXD ⟨.int i, .int 1, .int i, .int 1, by rfl, one, q _⟩
  | str x =>
    have hx : x.cps.all (· < 0x110000) = true := by cases d <;> exact l
    exact r_eqXD ⟨.str x, .int 1, .str x, .int 1, shaped_of hx (Nat.zero_le _), one, q _⟩
  | lst n h _ => exact r_eqLIX h (q _)
  | dk n h => exact r_eqDI h (q _)
  | tup h _ => exact absurd nt.symm Bool.false_ne_true
set_option hygiene false in
local macro_rules | `(tactic| walk_at "zend") => `(tactic| (
  walk_at "z"
  rw [lx17]
  refine ⟨a, s0, 17, rfl, hP14, by omega, by omega, fun r H15 r0 r1 hP15 g15 => ?_⟩
  have hl15 := g15 _ _ nl6.1 hl14
  have hx15 := hP14.dxs g15 hx14
  obtain ⟨y, hy⟩ : ∃ y, xs17[r.toNat]? = some y := ⟨_, List.getElem?_eq_getElem (by omega)⟩
  obtain ⟨z, hz, hyz⟩ := pd_get (DXs.pd _ hx15) hy
  walk_at "z"
  refine r_ixL (.inl (.inl hl15)) (at_of (j := r.toNat) (by omega) hy) ?_
  exact q y z H15 hP15 ((g1.trans (Gr.of_same s114)).trans g15) hyz (lim17 z (List.mem_of_getElem? hz))))
set_option hygiene false in
local macro_rules | `(tactic| walk_at "zrows") => `(tactic| (
  walk_at "z"
  refine r_tupN (by decide) fun e1 he1 => ?_
  have s2 := same_new (o := .tup []) he1
  have f1 : (upd H1 e1 (.tup [])) e1 = some (.tup []) := upd_same
  generalize upd H1 e1 (.tup []) = H2 at s2 f1 ⊢
  walk_at "z"
  refine r_lstN (by decide) fun l1 hl1 => ?_
  have nl1 := new_ne (hP1.mono s2) hl1
  have s3 := same_new (o := .lst []) hl1
  have f2 : (upd H2 l1 (.lst [])) l1 = some (.lst []) := upd_same
  generalize upd H2 l1 (.lst []) = H3 at s3 f2 ⊢
  walk_at "z"
  intro d1 hd1
  have nd1 := new_ne ((hP1.mono s2).mono s3) hd1
  have s4 := same_new (o := .dK []) hd1
  have f3 : (upd H3 d1 (.dK [])) d1 = some (.dK []) := upd_same
  generalize upd H3 d1 (.dK []) = H4 at s4 f3 ⊢
  walk_at "z"
  refine r_tupN sz1 fun t1 ht1 => ?_
  have s5 := same_new (o := .tup [.int 0]) ht1
  have f4 : (upd H4 t1 (.tup [.int 0])) t1 = some (.tup [.int 0]) := upd_same
  generalize upd H4 t1 (.tup [.int 0]) = H5 at s5 f4 ⊢
  walk_at "z"
  refine r_tupN (by decide) fun e2 he2 => ?_
  have s6 := same_new (o := .tup []) he2
  have f5 : (upd H5 e2 (.tup [])) e2 = some (.tup []) := upd_same
  generalize upd H5 e2 (.tup []) = H6 at s6 f5 ⊢
  walk_at "z"
  refine r_tupN sz1 fun t2 ht2 => ?_
  have s7 := same_new (o := .tup [.ref e2]) ht2
  have f6 : (upd H6 t2 (.tup [.ref e2])) t2 = some (.tup [.ref e2]) := upd_same
  generalize upd H6 t2 (.tup [.ref e2]) = H7 at s7 f6 ⊢
  walk_at "z"
  have s27 : Same H2 H7 := (s3.trans s4).trans ((s5.trans s6).trans s7)
  have lit7 : DXs a H7 [.non, .bl true, .bl false, .str (Str.ofString "yes"), .ref e1, .ref l1, .ref d1, .int 0, .int n, .ref t1, .str (Str.ofString "union"), .ref t2, .int (-1)] [PyData.none, .bool true, .bool false, .str (Str.ofString "yes"), .tuple [], .list [], .dict [], .int 0, .int n, .tuple [.int 0], .str (Str.ofString "union"), .tuple [.tuple []], .int (-1)] :=
    .cons .non (.cons (.bl _) (.cons (.bl _) (.cons (.str _) (.cons (.tup (.inl (s27 _ _ f1)) .nil) (.cons (.lst nl1.1 (((s4.trans s5).trans (s6.trans s7)) _ _ f2) .nil) (.cons (.dk nd1.1 ((s5.trans (s6.trans s7)) _ _ f3)) (.cons (.int _) (.cons (.int _)
    (.cons (.tup (.inl ((s6.trans s7) _ _ f4)) (.cons (.int 0) .nil)) (.cons (.str _) (.cons (.tup (.inl f6) (.cons (.tup (.inl (s7 _ _ f5)) .nil) .nil)) (.cons (.int _) .nil))))))))))))
  refine r_lstN (small_len (by simp only [List.length_cons, List.length_nil]; omega)) fun R hR => ?_
  have lim13 := lim_lit d L n
  have len13 : [V.non, .bl true, .bl false, .str (Str.ofString "yes"), .ref e1, .ref l1, .ref d1, .int 0, .int n, .ref t1, .str (Str.ofString "union"), .ref t2, .int (-1)].length = 13 := rfl
  generalize [V.non, .bl true, .bl false, .str (Str.ofString "yes"), .ref e1, .ref l1, .ref d1, .int 0, .int n, .ref t1, .str (Str.ofString "union"), .ref t2, .int (-1)] = xs13 at lit7 len13 ⊢
  generalize [PyData.none, .bool true, .bool false, .str (Str.ofString "yes"), .tuple [], .list [], .dict [], .int 0, .int n, .tuple [.int 0], .str (Str.ofString "union"), .tuple [.tuple []], .int (-1)] = ds13 at lit7 lim13
  have s8 := same_new (o := .lst xs13) hR
  have f8 : (upd H7 R (.lst xs13)) R = some (.lst xs13) := upd_same
  have lit8 := lit7.same s8
  have s18 := s2.trans (s27.trans s8)
  have hP8 := hP1.mono s18
  have hd8 := (hP.dx g1 hd).same s18
  generalize upd H7 R (.lst xs13) = H8 at f8 lit8 s18 hP8 hd8 ⊢
  walk_at "z"
  refine r_isiX hd8 rfl (kit_tup t) ?_
  cases et : tupD t with
  | true =>
    obtain ⟨ds, rfl⟩ := tupD_of et
    obtain ⟨d', rfl, ll, le⟩ := limX_tup hl
    cases hd8 with
    | @tup p xs _ hp8 hxd8 =>
    have lx := hxd8.len
    walk_at "z"
    refine r_listT (.inl hp8) fun l2 hl2 => ?_
    have nl2 := new_ne hP8 hl2
    have s9 := same_new (o := .lst xs) hl2
    have f9 : (upd H8 l2 (.lst xs)) l2 = some (.lst xs) := upd_same
    generalize upd H8 l2 (.lst xs) = H9 at s9 f9 ⊢
    have hp9 := hp8.same s9
    walk_at "z"
    refine r_catX hp9 hp9 (by omega) fun c1 H10 s10 hc10 => ?_
    walk_at "z"
    refine r_tupN sz1 fun t3 ht3 => ?_
    have s11 := same_new (o := .tup [.ref p]) ht3
    have f11 : (upd H10 t3 (.tup [.ref p])) t3 = some (.tup [.ref p]) := upd_same
    generalize upd H10 t3 (.tup [.ref p]) = H11 at s11 f11 ⊢
    have hp11 := (hp9.same s10).same s11
    walk_at "z"
    refine r_revT ?_
    walk_at "z"
    refine r_revTN (.inl hp11) fun rv o hrv _ => ?_
    have s12 := same_new (o := .frz o (.tup xs.reverse)) hrv
    have f12 : (upd H11 rv (.frz o (.tup xs.reverse))) rv = some (.frz o (.tup xs.reverse)) := upd_same
    generalize upd H11 rv (.frz o (.tup xs.reverse)) = H12 at s12 f12 ⊢
    walk_at "z"
    have s8c := (s9.trans s10).trans (s11.trans s12)
    have hxd12 := hxd8.same s8c
    have four : DXs a H12 [.ref l2, .ref c1, .ref t3, .ref rv] [.list ds, .tuple (ds ++ ds), .tuple [.tuple ds], .tuple ds.reverse] :=
      .cons (.lst nl2.1 (((s10.trans s11).trans s12) _ _ f9) hxd12) (.cons (.tup (hc10.same (s11.trans s12)) (hxd12.app hxd12)) (.cons (.tup (.inl (s12 _ _ f11)) (.cons (.tup (hp8.same s8c) hxd12) .nil)) (.cons (.tup (.inr ⟨o, f12⟩) hxd12.rev) .nil)))
    have lim4 : ∀ x ∈ [PyData.list ds, .tuple (ds ++ ds), .tuple [.tuple ds], .tuple ds.reverse], limX (d' + 1 + 2) (2 * L + 2) x := by
      have lm : ∀ x ∈ ds, limX (d' + 2) (2 * L + 2) x := fun x hx => (le x hx).mono (by omega) (by omega)
      refine forall_cons (limX_mkl (by omega) lm) (forall_cons (limX_mk (by rw [List.length_append]; omega) fun x hx => (List.mem_append.mp hx).elim (lm x) (lm x)) (forall_cons (limX_mk (by simp only [List.length_cons, List.length_nil]; omega) (forall_cons (limX_mk (by omega) fun x hx => (le x hx).mono (by omega) (by omega)) fun x hx => nomatch hx)) (forall_cons (limX_mk (by rw [List.length_reverse]; omega) fun x hx => lm x (List.mem_reverse.mp hx)) fun x hx => nomatch hx)))
    refine r_lstN (small_len (by simp only [List.length_cons, List.length_nil]; omega)) fun l5 hl5 => ?_
    have len4 : [V.ref l2, .ref c1, .ref t3, .ref rv].length = 4 := rfl
    generalize [V.ref l2, .ref c1, .ref t3, .ref rv] = xs4 at four len4 ⊢
    generalize [PyData.list ds, .tuple (ds ++ ds), .tuple [.tuple ds], .tuple ds.reverse] = ds4 at four lim4
    have s13 := same_new (o := .lst xs4) hl5
    have f13 : (upd H12 l5 (.lst xs4)) l5 = some (.lst xs4) := upd_same
    have s8d := s8c.trans s13
    have four13 := four.same s13
    generalize upd H12 l5 (.lst xs4) = H13 at s13 f13 s8d four13 ⊢
    walk_at "z"
    refine r_catL (s8d _ _ f8) f13 (by omega) fun l6 hl6 => ?_
    have lx17 : (xs13 ++ xs4).length = 17 := by rw [List.length_append, len13, len4]
    have hx13 := (lit8.same s8d).app four13
    have lim17 : ∀ x ∈ ds13 ++ ds4, limX (d' + 1 + 2) (2 * L + 2) x := fun x hx => (List.mem_append.mp hx).elim (lim13 x) (lim4 x)
    generalize xs13 ++ xs4 = xs17 at lx17 hx13 ⊢
    generalize ds13 ++ ds4 = ds17 at hx13 lim17
    have nl6 := new_ne (hP8.mono s8d) hl6
    have s14 := same_new (o := .lst xs17) hl6
    have hl14 : (upd H13 l6 (.lst xs17)) l6 = some (.lst xs17) := upd_same
    have hx14 := hx13.same s14
    have s114 := s18.trans (s8d.trans s14)
    have hP14 := hP1.mono s114
    generalize upd H13 l6 (.lst xs17) = H14 at hl14 hx14 s114 hP14 ⊢
    walk_at "zend"
  | false =>
    walk_at "z"
    refine r_tupN sz1 fun t3 ht3 => ?_
    have s9 := same_new (o := .tup [v]) ht3
    have f9 : (upd H8 t3 (.tup [v])) t3 = some (.tup [v]) := upd_same
    generalize upd H8 t3 (.tup [v]) = H9 at s9 f9 ⊢
    walk_at "z"
    refine r_lstN sz1 fun l2 hl2 => ?_
    have nl2 := new_ne (hP8.mono s9) hl2
    have s10 := same_new (o := .lst [v]) hl2
    have f10 : (upd H9 l2 (.lst [v])) l2 = some (.lst [v]) := upd_same
    generalize upd H9 l2 (.lst [v]) = H10 at s10 f10 ⊢
    have s810 := s9.trans s10
    have hd10 := hd8.same s810
    walk_at "z"
    refine eq_one hd10 et hl fun b => ?_
    walk_at "z"
    refine ⟨n, rfl, log_small n0 n1, ?_⟩
    walk_at "z"
    have four : DXs a H10 [.ref t3, .ref l2, .bl b, .str (Str.ofString (toString n))] [.tuple [t], .list [t], .bool b, .str (Str.ofString (toString n))] :=
      .cons (.tup (.inl (s10 _ _ f9)) (.cons hd10 .nil)) (.cons (.lst nl2.1 f10 (.cons hd10 .nil)) (.cons (.bl _) (.cons (.str _) .nil)))
    have lim4 : ∀ x ∈ [PyData.tuple [t], .list [t], .bool b, .str (Str.ofString (toString n))], limX (d + 2) (2 * L + 2) x := by
      have lm : ∀ x ∈ [t], limX (d + 1) (2 * L + 2) x := forall_cons (hl.mono (by omega) (by omega)) fun x hx => nomatch hx
      exact forall_cons (limX_mk (by simp only [List.length_cons, List.length_nil]; omega) lm) (forall_cons (limX_mkl (by simp only [List.length_cons, List.length_nil]; omega) lm) (forall_cons trivial (forall_cons (lim_str (int_str n)) fun x hx => nomatch hx)))
    refine r_lstN (small_len (by simp only [List.length_cons, List.length_nil]; omega)) fun l5 hl5 => ?_
    have len4 : [V.ref t3, .ref l2, .bl b, .str (Str.ofString (toString n))].length = 4 := rfl
    generalize [V.ref t3, .ref l2, .bl b, .str (Str.ofString (toString n))] = xs4 at four len4 ⊢
    generalize [PyData.tuple [t], .list [t], .bool b, .str (Str.ofString (toString n))] = ds4 at four lim4
    have s13 := same_new (o := .lst xs4) hl5
    have f13 : (upd H10 l5 (.lst xs4)) l5 = some (.lst xs4) := upd_same
    have s8d := s810.trans s13
    have four13 := four.same s13
    generalize upd H10 l5 (.lst xs4) = H13 at s13 f13 s8d four13 ⊢
    walk_at "z"
    refine r_catL (s8d _ _ f8) f13 (by omega) fun l6 hl6 => ?_
    have lx17 : (xs13 ++ xs4).length = 17 := by rw [List.length_append, len13, len4]
    have hx13 := (lit8.same s8d).app four13
    have lim17 : ∀ x ∈ ds13 ++ ds4, limX (d + 2) (2 * L + 2) x := fun x hx => (List.mem_append.mp hx).elim (lim13 x) (lim4 x)
    generalize xs13 ++ xs4 = xs17 at lx17 hx13 ⊢
    generalize ds13 ++ ds4 = ds17 at hx13 lim17
    have nl6 := new_ne (hP8.mono s8d) hl6
    have s14 := same_new (o := .lst xs17) hl6
    have hl14 : (upd H13 l6 (.lst xs17)) l6 = some (.lst xs17) := upd_same
    have hx14 := hx13.same s14
    have s114 := s18.trans (s8d.trans s14)
    have hP14 := hP1.mono s114
    generalize upd H13 l6 (.lst xs17) = H14 at hl14 hx14 s114 hP14 ⊢
    walk_at "zend"))
theorem log_small {n : Int} (h0 : 0 ≤ n) (h1 : n ≤ 100) : n.natAbs.log2 < 1920 := by
  have : n.natAbs < 2 ^ 7 := by omega
  rcases Nat.eq_zero_or_pos n.natAbs with h | h
  · rw [h]
    decide
  · have := (Nat.log2_lt (by omega)).mpr this
    omega
theorem ch_lt (c : Char) : c.toNat < 0x110000 := by
  rcases c.valid with h | h
  · exact Nat.lt_trans h (by decide)
  · exact h.2
theorem int_str (n : Int) : (Str.ofString (toString n)).cps.all (· < 0x110000) = true := by
  rw [Str.ofString_eq_toList]
  show ((toString n).toList.map Char.toNat).toArray.all _ = true
  rw [List.all_toArray, List.all_map, List.all_eq_true]
  intro c _
  exact decide_eq_true (ch_lt c)
end

set_option Elab.async false
set_option linter.all false
set_option maxRecDepth 100000
set_option maxHeartbeats 4000000
open PySem PySem.Spec PyProof.Rows L2 LamX RZ

section
variable {P : Program} {w : World} {K : PySem.W.Frag} {mg : Str → Option Value} {base : Heap}
end

set_option Elab.async false
set_option linter.all false
set_option maxRecDepth 100000
set_option maxHeartbeats 4000000
open PySem PySem.Spec PyProof.Rows L2 LamX RZ

abbrev s_is_number : Stmt := topS 185
theorem sc_is_number : FnScope ["value"] ["value"] (defScope s_is_number) := ⟨rfl, rfl, rfl, by decide +kernel, rfl, by decide +kernel, by decide +kernel⟩

abbrev s_are_ends : Stmt := topS 184
theorem sc_are_ends : FnScope ["graph", "s", "t", "n"] ["graph", "s", "t"] (defScope s_are_ends) := ⟨rfl, rfl, rfl, by decide +kernel, rfl, by decide +kernel, by decide +kernel⟩

abbrev s_is_question : Stmt := topS 183
theorem sc_is_question : FnScope ["graph", "value", "kind"] ["graph", "value"] (defScope s_is_question) := ⟨rfl, rfl, rfl, by decide +kernel, rfl, by decide +kernel, by decide +kernel⟩

def kds : List Str := ["connected", "bipartite", "forest", "block", "chordal", "interval", "cograph", "comparability", "permutation", "prime", "planar", "outerplanar", "degenerate", "indegree", "forests", "trees", "width", "colours", "independent", "matching", "linked", "isomorphic"]
def nks : List Str := ["degenerate", "indegree", "forests", "trees", "width", "colours", "independent", "matching"]
theorem inV_strs {x : Str} : ∀ ks : List Str, inV (.str x) (ks.map V.str) = decide (x ∈ ks)
  | [] => rfl
  | k :: ks => by
    have ih := inV_strs (x := x) ks
    unfold inV at ih ⊢
    rw [List.map_cons, List.any_cons, ih]
    apply Bool.eq_iff_iff.mpr
    rw [Bool.or_eq_true, decide_eq_true_eq, decide_eq_true_eq, List.mem_cons]
    have : eqV (.str k) (.str x) = true ↔ x = k := by
      show (k == x) = true ↔ x = k
      rw [beq_iff_eq]
      exact eq_comm
    rw [this]
theorem flat_strs : ∀ ks : List Str, (ks.map V.str).all flatV = true
  | [] => rfl
  | k :: ks => by
    rw [List.map_cons, List.all_cons, flat_strs ks]
    rfl
theorem r_inS {K : PySem.W.Frag} {H : Hp} {Q : VK} {m : Addr} {ks : List Str} {x : Str} (h : SqL K H m (ks.map V.str) ∨ SqT K H m (ks.map V.str)) (q : Q (.bl (decide (x ∈ ks))) H) : rIn K false (.str x) (.ref m) H Q := ⟨m, _, rfl, h, rfl, flat_strs ks, by
  rw [if_neg Bool.false_ne_true, inV_strs]
  exact q⟩
theorem r_ninS {K : PySem.W.Frag} {H : Hp} {Q : VK} {m : Addr} {ks : List Str} {x : Str} (h : SqL K H m (ks.map V.str) ∨ SqT K H m (ks.map V.str)) (q : Q (.bl (!decide (x ∈ ks))) H) : rIn K true (.str x) (.ref m) H Q := ⟨m, _, rfl, h, rfl, flat_strs ks, by
  rw [if_pos rfl, inV_strs]
  exact q⟩
theorem r_eqS {H : Hp} {Q : VK} {x y : Str} (q : Q (.bl (decide (x = y))) H) : rEq (.str x) (.str y) H Q := ⟨rfl, by
  have : decide (V.str x = V.str y) = decide (x = y) := by
    apply Bool.eq_iff_iff.mpr
    rw [decide_eq_true_eq, decide_eq_true_eq, V.str.injEq]
  rw [this]
  exact q⟩
def bodyX (n : Int) (w : Str) (ds : List PyData) : Prop :=
  w ∈ kds ∧ (if w = "linked" then ∃ s t k : Int, ds = [.int s, .int t, .int k] ∧ (0 ≤ s ∧ s < n) ∧ (0 ≤ t ∧ t < n) ∧ s ≠ t ∧ 0 ≤ k
    else if w = "isomorphic" then ∃ g, ds = [g] ∧ gphX g else if w ∈ nks then ∃ k : Int, ds = [.int k] ∧ 0 ≤ k else ds = [])
def qX (n : Int) (d : PyData) : Prop := ∃ (w : Str) (ds : List PyData), d = .tuple (.str w :: ds) ∧ bodyX n w ds
theorem qX_cons {n : Int} {w : Str} {ds : List PyData} : qX n (.tuple (.str w :: ds)) ↔ bodyX n w ds := by
  constructor
  · rintro ⟨w', ds', e, h⟩
    have e := PyData.tuple.inj e
    simp only [List.cons.injEq, PyData.str.injEq] at e
    rw [e.1, e.2]
    exact h
  · exact fun h => ⟨w, ds, rfl, h⟩
def strD : PyData → Bool
  | .str _ => true
  | _ => false
theorem kit_str (t : PyData) : kitB (kd t) "str" = some (strD t) := by
  cases t with
  | none => exact (show kitB "NoneType" "str" = some false by decide +kernel)
  | bool b => exact (show kitB "bool" "str" = some false by decide +kernel)
  | int b => exact (show kitB "int" "str" = some false by decide +kernel)
  | str b => exact (show kitB "str" "str" = some true by decide +kernel)
  | list b => exact (show kitB "list" "str" = some false by decide +kernel)
  | tuple b => exact (show kitB "tuple" "str" = some false by decide +kernel)
  | dict b => exact (show kitB "dict" "str" = some false by decide +kernel)
def numD : PyData → Bool
  | .int i => decide (i ≥ 0)
  | _ => false
section
variable {P : Program} {w : World} {K : PySem.W.Frag} {mg : Str → Option Value} {base : Heap}
def spNumX (b : Addr) : Sp := fun vs H Q _ => ∃ (v : V) (d : PyData), vs = [v] ∧ DX b H v d ∧ Q (.bl (numD d)) H
theorem ok_numX {b : Addr} (T : Blt mg) (D : DefAt K mg "_is_number" s_is_number ["value"]) (D_is_integer : DefAt K mg "is_integer" s_is_integer ["value"]) (G_is_integer : FnOk P w K mg base CX0 1 D_is_integer.f D_is_integer.fd ["value"] (spIntX b)) :
    FnOk P w K mg base CX0 2 D.f D.fd ["value"] (spNumX b) := by
  refine D.F.ok sc_is_number (fun vs H Q E h => ?_) (fun cdv A outer s H vs Q E hr h => ?_)
  · obtain ⟨v, d, rfl, _⟩ := h
    rfl
  · obtain ⟨v, d, rfl, hd, q⟩ := h
    refine ⟨_, (pss_one (ps_ret (pe_and (pe_call G_is_integer (hr.mono (by first | decide | omega)) (by rfl) D_is_integer.g D_is_integer.F.kp D_is_integer.b .nil pass0 (pa_cons (pv 0) pa_nil)) (pe_one (pe_cmpR op_ge (pv 0) pe_int (nomark _)))))), ?_⟩
    refine r_at (σ := [some _]) rfl ?_
    walk_at "z"
    refine ⟨v, d, rfl, hd, ?_⟩
    walk_at "z"
    cases d with
    | int i =>
      cases hd
      walk_at "z"
      refine iteT ?_
      walk_at "z"
      exact q
    | _ => exact iteF q
def endsD (n : Int) (s t : PyData) : Prop := ∃ i j : Int, s = .int i ∧ t = .int j ∧ (0 ≤ i ∧ i < n) ∧ (0 ≤ j ∧ j < n) ∧ i ≠ j
def spEndsX (b : Addr) : Sp := fun vs H Q _ => ∃ (g x y : V) (n : Int) (ps : List (Int × Int)) (s t : PyData), vs = [g, x, y] ∧ GrAt H g n ps ∧ DX b H x s ∧ DX b H y t ∧ ∀ r : Bool, (r = true ↔ endsD n s t) → Q (.bl r) H
theorem ver_of {n : Int} {d : PyData} (h : verD n d = true) : ∃ i, d = .int i ∧ 0 ≤ i ∧ i < n := by
  cases d with
  | int i => exact ⟨i, rfl, of_decide_eq_true h⟩
  | _ => exact absurd h Bool.false_ne_true
theorem ok_endsX {b : Addr} (T : Blt mg) (D : DefAt K mg "_are_ends" s_are_ends ["graph", "s", "t"]) (D_is_vertex : DefAt K mg "is_vertex" s_is_vertex ["n", "value"]) (G_is_vertex : FnOk P w K mg base CX0 2 D_is_vertex.f D_is_vertex.fd ["n", "value"] (spVxX b)) :
    FnOk P w K mg base CX0 3 D.f D.fd ["graph", "s", "t"] (spEndsX b) := by
  refine D.F.ok sc_are_ends (fun vs H Q E h => ?_) (fun cdv A outer s H vs Q E hr h => ?_)
  · obtain ⟨g, x, y, n, ps, s, t, rfl, _⟩ := h
    rfl
  · obtain ⟨g, x, y, n, ps, s, t, rfl, ⟨ga, e, rfl, hg, _⟩, hx, hy, q⟩ := h
    refine ⟨_, (pss_cons (ps_set (i := 3) sc_are_ends.nd rfl (Or.inl rfl) (pe_ix (ix_tupK (K := K) rfl) (pv 0) pe_int (fun _ _ => rfl)))
      (pss_one (ps_ret (pe_and (pe_call G_is_vertex (hr.mono (by first | decide | omega)) (by rfl) D_is_vertex.g D_is_vertex.F.kp D_is_vertex.b .nil pass0 (pa_cons (pv 3) (pa_cons (pv 1) pa_nil))) (pe_and (pe_call G_is_vertex (hr.mono (by first | decide | omega)) (by rfl) D_is_vertex.g D_is_vertex.F.kp D_is_vertex.b .nil pass0 (pa_cons (pv 3) (pa_cons (pv 2) pa_nil))) (pe_one (pe_cmpR op_ne (pv 1) (pv 2) (nomark _)))))))), ?_⟩
    refine r_at (σ := [some _, some _, some _, none]) rfl ?_
    walk_at "z"
    refine ⟨n, x, s, rfl, hx, ?_⟩
    cases e1 : verD n s with
    | false =>
      walk_at "z"
      refine q false ⟨fun h => (nomatch h), fun ⟨i, j, es, _, bi, _⟩ => ?_⟩
      rw [es] at e1
      exact (of_decide_eq_false e1 bi).elim
    | true =>
      obtain ⟨i, rfl, i0, i1⟩ := ver_of e1
      cases hx
      walk_at "z"
      refine ⟨n, y, t, rfl, hy, ?_⟩
      cases e2 : verD n t with
      | false =>
        walk_at "z"
        refine q false ⟨fun h => (nomatch h), fun ⟨i, j, _, et, _, bj, _⟩ => ?_⟩
        rw [et] at e2
        exact (of_decide_eq_false e2 bj).elim
      | true =>
        obtain ⟨j, rfl, j0, j1⟩ := ver_of e2
        cases hy
        walk_at "z"
        refine q _ ?_
        constructor
        · intro h
          exact ⟨i, j, rfl, rfl, ⟨i0, i1⟩, ⟨j0, j1⟩, fun z => by rw [z] at h; simp at h⟩
        · rintro ⟨i', j', e3, e4, _, _, ne⟩
          cases e3
          cases e4
          simp [ne]
def spQX (b : Addr) (TT : List (Addr × Str)) : Sp := fun vs H Q _ => ∃ (g v : V) (n : Int) (ps : List (Int × Int)) (d : PyData), vs = [g, v] ∧ GrAt H g n ps ∧ DX b H v d ∧ (∃ D, limX D 100000 d) ∧ Tabs TT H ∧ ∀ (r : Bool) H', ExtN H H' → Tabs TT H' → (r = true ↔ qX n d) → Q (.bl r) H'
theorem ok_isq {b aK aN : Addr} {TT : List (Addr × Str)} (T : Blt mg) (C_KINDS : mg "KINDS" = some (.ref aK)) (C_NUMBER_KINDS : mg "NUMBER_KINDS" = some (.ref aN)) (hK : ∀ H, SqT K H aK (kds.map V.str)) (hN : ∀ H, SqT K H aN (nks.map V.str)) (D : DefAt K mg "is_question" s_is_question ["graph", "value"])
    (D_is_tuple : DefAt K mg "is_tuple" s_is_tuple ["value", "many"]) (G_is_tuple : FnOk P w K mg base CX0 1 D_is_tuple.f D_is_tuple.fd ["value", "many"] (spTupX b)) (D_is_graph : DefAt K mg "is_graph" s_is_graph ["value"]) (G_is_graph : FnOk P w K mg base CX0 15 D_is_graph.f D_is_graph.fd ["value"] (spGphX b TT))
    (D_are_ends : DefAt K mg "_are_ends" s_are_ends ["graph", "s", "t"]) (G_are_ends : FnOk P w K mg base CX0 3 D_are_ends.f D_are_ends.fd ["graph", "s", "t"] (spEndsX b)) (D_is_number : DefAt K mg "_is_number" s_is_number ["value"]) (G_is_number : FnOk P w K mg base CX0 2 D_is_number.f D_is_number.fd ["value"] (spNumX b)) :
    FnOk P w K mg base CX0 16 D.f D.fd ["graph", "value"] (spQX b TT) := by
  refine D.F.ok sc_is_question (fun vs H Q E h => ?_) (fun cdv A outer s H vs Q E hr h => ?_)
  · obtain ⟨g, v, n, ps, d, rfl, _⟩ := h
    rfl
  · obtain ⟨g, v, n, ps, d, rfl, hgr, hd, ⟨DD, hl⟩, hT, q⟩ := h
    refine ⟨_, (pss_cons (ps_if (PW.pt (pw_or (pt_not (pt_val (pe_callB (call_isiK (K := K) rfl) (by rfl) T.isinstance (by decide +kernel) (pa_cons (pv 1) (pa_cons (pe_bltn (v := .ty "tuple") (u := .type "tuple") (by rfl) T.tuple (by decide +kernel) rfl) pa_nil))))) (pw_or1 (pt_cmpR (op_eqX (K := K) rfl hr.units) (pv 1) (pe_tup pa_nil) (nomark _)))))
        (pss_one (ps_ret pe_bl))
        pss_nil)
      (pss_cons (ps_set (i := 2) sc_is_question.nd rfl (Or.inl rfl) (pe_ix (ix_tupK (K := K) rfl) (pv 1) pe_int (fun _ _ => rfl)))
      (pss_cons (ps_if (PW.pt (pw_or (pt_not (pt_val (pe_callB (call_isiK (K := K) rfl) (by rfl) T.isinstance (by decide +kernel) (pa_cons (pv 2) (pa_cons (pe_bltn (v := .ty "str") (u := .type "str") (by rfl) T.str (by decide +kernel) rfl) pa_nil))))) (pw_or1 (pt_cmpR (op_ninSeqK (K := K) rfl) (pv 2) (pe_glob rfl C_KINDS rel_ref) (by rfl)))))
        (pss_one (ps_ret pe_bl))
        pss_nil)
      (pss_cons (ps_if (pt_cmpR op_eq (pv 2) pe_str (nomark _))
        (pss_one (ps_ret (pe_and (pe_call G_is_tuple (hr.mono (by first | decide | omega)) (by rfl) D_is_tuple.g D_is_tuple.F.kp D_is_tuple.b .nil pass0 (pa_cons (pv 1) (pa_cons pe_int pa_nil))) (pe_and (pe_call G_are_ends (hr.mono (by first | decide | omega)) (by rfl) D_are_ends.g D_are_ends.F.kp D_are_ends.b .nil pass0 (pa_cons (pv 0) (pa_cons (pe_ix (ix_tupK (K := K) rfl) (pv 1) pe_int (fun _ _ => rfl)) (pa_cons (pe_ix (ix_tupK (K := K) rfl) (pv 1) pe_int (fun _ _ => rfl)) pa_nil)))) (pe_one (pe_call G_is_number (hr.mono (by first | decide | omega)) (by rfl) D_is_number.g D_is_number.F.kp D_is_number.b .nil pass0 (pa_cons (pe_ix (ix_tupK (K := K) rfl) (pv 1) pe_int (fun _ _ => rfl)) pa_nil)))))))
        pss_nil)
      (pss_cons (ps_if (pt_cmpR op_eq (pv 2) pe_str (nomark _))
        (pss_one (ps_ret (pe_and (pe_call G_is_tuple (hr.mono (by first | decide | omega)) (by rfl) D_is_tuple.g D_is_tuple.F.kp D_is_tuple.b .nil pass0 (pa_cons (pv 1) (pa_cons pe_int pa_nil))) (pe_one (pe_call G_is_graph (hr.mono (by first | decide | omega)) (by rfl) D_is_graph.g D_is_graph.F.kp D_is_graph.b .nil pass0 (pa_cons (pe_ix (ix_tupK (K := K) rfl) (pv 1) pe_int (fun _ _ => rfl)) pa_nil))))))
        pss_nil)
      (pss_cons (ps_if (pt_cmpR (op_inSeqK (K := K) rfl) (pv 2) (pe_glob rfl C_NUMBER_KINDS rel_ref) (by rfl))
        (pss_one (ps_ret (pe_and (pe_call G_is_tuple (hr.mono (by first | decide | omega)) (by rfl) D_is_tuple.g D_is_tuple.F.kp D_is_tuple.b .nil pass0 (pa_cons (pv 1) (pa_cons pe_int pa_nil))) (pe_one (pe_call G_is_number (hr.mono (by first | decide | omega)) (by rfl) D_is_number.g D_is_number.F.kp D_is_number.b .nil pass0 (pa_cons (pe_ix (ix_tupK (K := K) rfl) (pv 1) pe_int (fun _ _ => rfl)) pa_nil))))))
        pss_nil)
      (pss_one (ps_ret (pe_call G_is_tuple (hr.mono (by first | decide | omega)) (by rfl) D_is_tuple.g D_is_tuple.F.kp D_is_tuple.b .nil pass0 (pa_cons (pv 1) (pa_cons pe_int pa_nil))))))))))), ?_⟩
    refine r_at (σ := [some _, some _, none]) rfl ?_
    walk_at "z"
    refine r_isiX hd rfl (kit_tup d) ?_
    cases et : tupD d with
    | false =>
      walk_at "z"
      refine iteT (iteT ?_)
      walk_at "z"
      refine q false H (.refl H) hT ⟨fun h => (nomatch h), fun ⟨w, ds, e, _⟩ => ?_⟩
      rw [e] at et
      cases et
    | true =>
      obtain ⟨ds, rfl⟩ := tupD_of et
      cases id hd with
      | @tup p xs _ hp hxd =>
      walk_at "z"
      refine iteF ?_
      walk_at "z"
      refine r_tupN (by decide) fun e1 he1 => ?_
      have s1 := same_new (o := .tup []) he1
      have f1 : (upd H e1 (.tup [])) e1 = some (.tup []) := upd_same
      generalize upd H e1 (.tup []) = H1 at s1 f1 ⊢
      have x1 := ext_same s1
      have T1 := hT.ext s1
      have gr1 := hgr.tk (.of_same s1)
      have hd1 := hd.same s1
      have hp1 := hp.same s1
      have hxd1 := hxd.same s1
      refine r_eqTE (.inl hp1) (.inl (.inl f1)) ?_
      cases hxd1 with
      | nil =>
        rw [show ([] : List V).isEmpty = true from rfl]
        walk_at "z"
        refine q false H1 x1 T1 ⟨fun h => (nomatch h), fun ⟨w, ds, e, _⟩ => ?_⟩
        cases e
      | @cons x0 xs' d0 ds' h0 hrest =>
        have hq : SqT K H1 p (x0 :: xs') := .inl hp1
        rw [show (x0 :: xs').isEmpty = false from rfl]
        walk_at "z"
        refine r_isiX h0 rfl (kit_str d0) ?_
        cases es : strD d0 with
        | false =>
          walk_at "z"
          refine iteT (iteT ?_)
          walk_at "z"
          refine q false H1 x1 T1 ⟨fun h => (nomatch h), fun ⟨w, ds, e, _⟩ => ?_⟩
          have e := PyData.tuple.inj e
          simp only [List.cons.injEq] at e
          rw [e.1] at es
          cases es
        | true =>
          obtain ⟨w, rfl⟩ : ∃ w, d0 = .str w := by
            cases d0 with
            | str w => exact ⟨w, rfl⟩
            | _ => exact absurd es Bool.false_ne_true
          cases h0
          walk_at "z"
          refine iteF ?_
          walk_at "z"
          refine r_ninS (.inr (hK _)) ?_
          walk_at "z"
          have lenT : ∀ m : Int, lenD m (.tuple (.str w :: ds')) = decide (((ds'.length : Int) + 1) = m) := fun m => by
            show decide ((((PyData.str w :: ds').length : Nat) : Int) = m) = _
            rw [List.length_cons]
            rfl
          have no : ∀ H', ExtN H H' → Tabs TT H' → ¬ bodyX n w ds' → Q (.bl false) H' := fun H' e' T' h => q false H' e' T' ⟨fun h => (nomatch h), fun h' => (h (qX_cons.mp h')).elim⟩
          by_cases wk : w ∈ kds
          · rw [decide_eq_true wk]
            refine iteF ?_
            walk_at "z"
            refine r_eqS ?_
            walk_at "z"
            by_cases wl : w = "linked"
            · rw [decide_eq_true wl]
              refine iteT ?_
              walk_at "z"
              refine ⟨.ref p, _, 4, rfl, hd1, ?_⟩
              rw [lenT]
              by_cases l4 : ds'.length = 3
              · rw [decide_eq_true (show (ds'.length : Int) + 1 = 4 by omega)]
                match ds', l4, hrest, no, q with
                | [a1, a2, a3], _, hrest, no, q =>
                cases hrest with
                | @cons y1 _ _ _ h1 hr1 =>
                cases hr1 with
                | @cons y2 _ _ _ h2 hr2 =>
                cases hr2 with
                | @cons y3 _ _ _ h3 hr3 =>
                cases hr3
                walk_at "z"
                refine ⟨g, y1, y2, n, ps, a1, a2, rfl, gr1, h1, h2, fun r hr2 => ?_⟩
                cases r with
                | false =>
                  walk_at "z"
                  refine no H1 x1 T1 fun ⟨_, h⟩ => ?_
                  rw [if_pos wl] at h
                  obtain ⟨s, t, k, e, bs, bt, ne, _⟩ := h
                  simp only [List.cons.injEq, and_true] at e
                  have := hr2.mpr ⟨s, t, e.1, e.2.1, bs, bt, ne⟩
                  cases this
                | true =>
                  obtain ⟨s, t, rfl, rfl, bs, bt, ne⟩ := hr2.mp rfl
                  walk_at "z"
                  refine ⟨y3, a3, rfl, h3, ?_⟩
                  refine q _ H1 x1 T1 ?_
                  rw [qX_cons]
                  unfold bodyX
                  rw [if_pos wl]
                  constructor
                  · intro h
                    obtain ⟨k, rfl, k0⟩ : ∃ k, a3 = .int k ∧ 0 ≤ k := by
                      cases a3 with
                      | int k => exact ⟨k, rfl, of_decide_eq_true h⟩
                      | _ => exact absurd h Bool.false_ne_true
                    exact ⟨wk, s, t, k, rfl, bs, bt, ne, k0⟩
                  · rintro ⟨_, s', t', k, e, _, _, _, k0⟩
                    simp only [List.cons.injEq, and_true] at e
                    rw [e.2.2]
                    exact decide_eq_true k0
              · rw [decide_eq_false (show ¬ (ds'.length : Int) + 1 = 4 by omega)]
                walk_at "z"
                refine no H1 x1 T1 fun ⟨_, h⟩ => ?_
                rw [if_pos wl] at h
                obtain ⟨s, t, k, e, _⟩ := h
                rw [e] at l4
                exact l4 rfl
            · rw [decide_eq_false wl]
              refine iteF ?_
              walk_at "z"
              refine r_eqS ?_
              walk_at "z"
              by_cases wi : w = "isomorphic"
              · rw [decide_eq_true wi]
                refine iteT ?_
                walk_at "z"
                refine ⟨.ref p, _, 2, rfl, hd1, ?_⟩
                rw [lenT]
                by_cases l2 : ds'.length = 1
                · rw [decide_eq_true (show (ds'.length : Int) + 1 = 2 by omega)]
                  match ds', l2, hrest, no, q, hl with
                  | [a1], _, hrest, no, q, hl =>
                  cases hrest with
                  | @cons y1 _ _ _ h1 hr1 =>
                  cases hr1
                  obtain ⟨D1, _, _, lim1⟩ := limX_tup hl
                  walk_at "z"
                  refine ⟨y1, a1, rfl, h1, ⟨_, lim1 a1 (by simp)⟩, T1, fun r H2 e2 T2 hr2 => ?_⟩
                  refine q r H2 (x1.trans e2) T2 (hr2.trans ?_)
                  rw [qX_cons]
                  unfold bodyX
                  rw [if_neg wl, if_pos wi]
                  constructor
                  · exact fun h => ⟨wk, a1, rfl, h⟩
                  · rintro ⟨_, g', e, h⟩
                    simp only [List.cons.injEq, and_true] at e
                    rw [e]
                    exact h
                · rw [decide_eq_false (show ¬ (ds'.length : Int) + 1 = 2 by omega)]
                  walk_at "z"
                  refine no H1 x1 T1 fun ⟨_, h⟩ => ?_
                  rw [if_neg wl, if_pos wi] at h
                  obtain ⟨g', e, _⟩ := h
                  rw [e] at l2
                  exact l2 rfl
              · rw [decide_eq_false wi]
                refine iteF ?_
                walk_at "z"
                refine r_inS (.inr (hN _)) ?_
                walk_at "z"
                by_cases wn : w ∈ nks
                · rw [decide_eq_true wn]
                  refine iteT ?_
                  walk_at "z"
                  refine ⟨.ref p, _, 2, rfl, hd1, ?_⟩
                  rw [lenT]
                  by_cases l2 : ds'.length = 1
                  · rw [decide_eq_true (show (ds'.length : Int) + 1 = 2 by omega)]
                    match ds', l2, hrest, no, q with
                    | [a1], _, hrest, no, q =>
                    cases hrest with
                    | @cons y1 _ _ _ h1 hr1 =>
                    cases hr1
                    walk_at "z"
                    refine ⟨y1, a1, rfl, h1, ?_⟩
                    refine q _ H1 x1 T1 ?_
                    rw [qX_cons]
                    unfold bodyX
                    rw [if_neg wl, if_neg wi, if_pos wn]
                    constructor
                    · intro h
                      obtain ⟨k, rfl, k0⟩ : ∃ k, a1 = .int k ∧ 0 ≤ k := by
                        cases a1 with
                        | int k => exact ⟨k, rfl, of_decide_eq_true h⟩
                        | _ => exact absurd h Bool.false_ne_true
                      exact ⟨wk, k, rfl, k0⟩
                    · rintro ⟨_, k, e, k0⟩
                      simp only [List.cons.injEq, and_true] at e
                      rw [e]
                      exact decide_eq_true k0
                  · rw [decide_eq_false (show ¬ (ds'.length : Int) + 1 = 2 by omega)]
                    walk_at "z"
                    refine no H1 x1 T1 fun ⟨_, h⟩ => ?_
                    rw [if_neg wl, if_neg wi, if_pos wn] at h
                    obtain ⟨k, e, _⟩ := h
                    rw [e] at l2
                    exact l2 rfl
                · rw [decide_eq_false wn]
                  refine iteF ?_
                  walk_at "z"
                  refine ⟨.ref p, _, 1, rfl, hd1, ?_⟩
                  refine q _ H1 x1 T1 ?_
                  rw [lenT, qX_cons, decide_eq_true_eq]
                  unfold bodyX
                  rw [if_neg wl, if_neg wi, if_neg wn]
                  constructor
                  · exact fun h => ⟨wk, List.length_eq_zero_iff.mp (by omega)⟩
                  · rintro ⟨_, e⟩
                    rw [e]
                    rfl
          · rw [decide_eq_false wk]
            refine iteT ?_
            walk_at "z"
            exact no H1 x1 T1 fun h => wk h.1
end

set_option Elab.async false
set_option linter.all false
set_option maxRecDepth 100000
set_option maxHeartbeats 4000000
open PySem PySem.Spec PyProof.Rows L2

section
variable {P : Program} {w : World} {K : PySem.W.Frag} {mg : Str → Option Value} {base : Heap}
end

set_option Elab.async false
set_option linter.all false
set_option maxRecDepth 100000
set_option maxHeartbeats 4000000
open PySem PySem.Spec PyProof.Rows L2
/-! graphs and pairs as data -/
def pT (p : Int × Int) : PyData := .tuple [.int p.1, .int p.2]
section
variable {K : PySem.W.Frag} {H : Hp} {Q : VK}
theorem dp_pair {x : V} {p : Int × Int} (h : IsP H x p) : Dp K H x (pT p) := by
  obtain ⟨t, rfl, ht⟩ := h
  exact .tup (.inl (.inl ht)) (.cons (.int _) (.cons (.int _) .nil))
theorem dp_prs : ∀ {xs : List V} {ps : List (Int × Int)}, Prs H xs ps → DpAll K H xs (ps.map pT)
  | _, _, .nil => .nil
  | _, _, .cons h r => .cons (dp_pair h) (dp_prs r)
theorem dp_list {l : Addr} {xs : List V} {ps : List (Int × Int)} (h : SqL K H l xs) (hp : Prs H xs ps) : Dp K H (.ref l) (.list (ps.map pT)) := .lst h (dp_prs hp)
theorem lay_pT : ∀ ps : List (Int × Int), PyData.canLayAll0 (ps.map pT) = true
  | [] => by simp [PyData.canLayAll0]
  | p :: ps => by
    rw [List.map_cons]
    simp only [PyData.canLayAll0, pT, PyData.canLay0, Bool.and_self, Bool.true_and]
    exact lay_pT ps
theorem deep_pT : ∀ ps : List (Int × Int), PyData.depthAll (ps.map pT) ≤ 1
  | [] => by simp [PyData.depthAll]
  | p :: ps => by
    have := deep_pT ps
    rw [List.map_cons]
    simp only [PyData.depthAll, pT, PyData.depth]
    omega
end

set_option Elab.async false
set_option linter.all false
set_option maxRecDepth 100000
set_option maxHeartbeats 4000000
open PySem PySem.Spec PyProof.Rows L2

abbrev s_law_sorted_graph : Stmt := topS 325
theorem sc_law_sorted_graph : FnScope ["n", "edges", "pair"] ["n", "edges"] (defScope s_law_sorted_graph) := ⟨rfl, rfl, rfl, by decide +kernel, rfl, by decide +kernel, by decide +kernel⟩

section
variable {P : Program} {w : World} {K : PySem.W.Frag} {mg : Str → Option Value} {base : Heap}
theorem pT_eqv (a b : Int × Int) : PyData.eqv (pT a) (pT b) = decide (a = b) := by
  have h := tupI_eqv [a.1, a.2] [b.1, b.2]
  show PyData.eqv (.tuple ([a.1, a.2].map PyData.int)) (.tuple ([b.1, b.2].map PyData.int)) = _
  rw [h]
  obtain ⟨a1, a2⟩ := a
  obtain ⟨b1, b2⟩ := b
  simp
theorem pT_any (p : Int × Int) : ∀ ps : List (Int × Int), ((ps.map pT).any fun z => PyData.eqv z (pT p)) = decide (p ∈ ps)
  | [] => by simp
  | q :: ps => by
    rw [List.map_cons, List.any_cons, pT_any p ps, pT_eqv]
    by_cases e : q = p
    · simp [e]
    · have e2 : ¬ p = q := fun z => e z.symm
      simp [e, e2]
/-- a pair in a list of pairs -/
theorem r_inLP {x : V} {p : Int × Int} {l : Addr} {xs : List V} {ps : List (Int × Int)} {H : Hp} {Q : VK} (hx : IsP H x p) (hl : SqL K H l xs) (hp : Prs H xs ps) (q : Q (.bl (decide (p ∈ ps))) H) : rInD K x (.ref l) H Q := by
  refine ⟨pT p, ps.map pT, dp_pair hx, dp_list hl hp, shaped_of ?_ ?_, shaped_of ?_ ?_, ?_⟩
  · have := lay_pT [p]
    simpa [PyData.canLayAll0] using this
  · have := deep_pT [p]
    simp only [List.map_cons, List.map_nil, PyData.depthAll] at this
    omega
  · unfold PyData.canLay0
    exact lay_pT ps
  · have := deep_pT ps
    unfold PyData.depth
    omega
  · rw [pT_any]
    exact q
theorem r_cat0 {H : Hp} {Q : VK} {l b : Addr} {xs zs : List V} (h1 : H l = some (.lst xs)) (h2 : H b = some (.lst zs)) (hz : xs.length + zs.length ≤ 100000) (q : ∀ p, H p = none → Q (.ref p) (upd H p (.lst (xs ++ zs)))) : rCat (.ref l) (.ref b) H Q := ⟨l, b, xs, zs, rfl, rfl, h1, h2, small_len hz, q⟩
theorem ok_pairs (T : Blt mg) (D : DefAt K mg "_law_pairs" s_law_pairs ["n"]) : FnOk P w K mg base CX0 1 D.f D.fd ["n"] spPairs := by
  refine D.F.ok sc_law_pairs (fun vs H Q E h => ?_) (fun cdv A outer s H vs Q E hr h => ?_)
  · obtain ⟨n, rfl, _⟩ := h
    rfl
  · obtain ⟨n, rfl, hn, q⟩ := h
    refine ⟨_, (pss_cons (ps_set (i := 1) sc_law_pairs.nd rfl (Or.inl rfl) (pe_lst pa_nil))
      (pss_cons (ps_for PassesOwn.never (by rfl) (pi_range1 (by rfl) T.range (pa_cons (pv 0) pa_nil)) (pg_name (i := 2) sc_law_pairs.nd rfl (Or.inr rfl))
        (pss_one (ps_set (i := 1) sc_law_pairs.nd rfl (Or.inl rfl) (pe_op op_cat (pv 1) (pe_lc (own := [("v", 3)]) (by rfl) sc_law_pairs.nd (pi_range2 (by rfl) T.range (pa_cons (pe_op op_add (pv 2) pe_int) (pa_cons (pv 0) pa_nil))) (blkOk_by (own := [("v", 3)]) (N := ["n", "pairs", "u", "v"]) (sc := (defScope s_law_pairs)) (by decide +kernel)) (fun _ _ _ _ _ => (pg_name (i := 3) sc_law_pairs.nd rfl (Or.inl rfl))) (fun _ _ _ _ _ => pts_nil) (fun _ _ _ _ _ => (pe_tup (pa_cons (pv 2) (pa_cons (pv 3) pa_nil)))))))))
      (pss_one (ps_ret (pv 1))))), ?_⟩
    refine r_at (σ := [some _, none, none, none]) rfl ?_
    walk_at "z"
    refine r_lstN (by decide) fun f hf => ?_
    walk_at "z"
    refine r_rg1 (by omega) (forR_range (fun i σ' H' => (∃ b x2, σ' = [some (.int (n : Int)), some (.ref b), x2, none] ∧ H b = none ∧ ∃ xs, H' b = some (.lst xs) ∧ Prs H' xs (preP n i)) ∧ Same H H') ⟨⟨f, _, rfl, hf, [], upd_same, .nil⟩, same_new hf⟩ ?_ ?_)
    · rintro i σ' H' hi ⟨⟨b, x2, rfl, hb, xs, hx, hp⟩, sm⟩
      walk_at "z"
      refine r_rg2 (by omega) fun d hd => lcR_range (fun j H3 => Same H' H3 ∧ ∃ ys, H3 d = some (.lst ys) ∧ Prs H3 ys (rowP i ((i : Int) + 1) j)) (by walk_at "zw") ⟨same_new hd, [], upd_same, .nil⟩ ?_ ?_
      · rintro j H3 hj ⟨s3, ys, hy, hys⟩
        walk_at "z"
        refine ⟨rfl, ?_⟩
        walk_at "z"
        refine r_tupN sz2 fun t ht => ?_
        refine r_lce (by walk_at "zh") (small_lt (by rw [hys.length, rowP_len]; omega)) ⟨same_mut (s3.trans (same_new ht)) hd, _, upd_same, ?_⟩
        rw [rowP_succ]
        have e1 : (0 : Int) + (i : Int) = i := by omega
        have e2 : (0 : Int) + (i : Int) + 1 + (j : Int) = (i : Int) + 1 + j := by omega
        rw [e2, e1]
        exact prs_push hy hys ht
      · rintro H3 ⟨s3, ys, hy, hys⟩
        have e : ((n : Int) - (0 + (i : Int) + 1)).toNat = n - 1 - i := by omega
        rw [e] at hys
        refine r_cat0 (s3 _ _ hx) hy ?_ fun c hc => ?_
        · have h1 := preP_len (n := n) (i := i)
          have h2 : i * n ≤ 100 * 100 := Nat.mul_le_mul (by omega) hn
          rw [hp.length, hys.length, rowP_len]
          omega
        · walk_at "z"
          exact ⟨⟨c, _, rfl, (sm.trans s3).free hc, _, upd_same, Prs.tk (.new hc) (pd_append (hp.tk (.of_same s3)) hys)⟩, (sm.trans s3).trans (same_new hc)⟩
    · rintro σ' H' ⟨⟨b, x2, rfl, hb, xs, hx, hp⟩, sm⟩
      walk_at "z"
      exact q b xs H' hb sm hx hp
/-- which pairs are among these, either way round -/
def isE (es : List (Int × Int)) (p : Int × Int) : Bool := decide (p ∈ es) || decide ((p.2, p.1) ∈ es)
def spSorted (K : PySem.W.Frag) : Sp := fun vs H Q _ => ∃ (n : Nat) (l : Addr) (xs : List V) (es : List (Int × Int)), vs = [.int (n : Int), .ref l] ∧ n ≤ 100 ∧ SqL K H l xs ∧ Prs H xs es ∧
  ∀ (v : V) (H' : Hp), Same H H' → GrAt H' v (n : Int) ((allP n).filter (isE es)) → Q v H'
theorem ok_sorted_graph (T : Blt mg) (D : DefAt K mg "_law_sorted_graph" s_law_sorted_graph ["n", "edges"]) (D_law_pairs : DefAt K mg "_law_pairs" s_law_pairs ["n"]) (G_law_pairs : FnOk P w K mg base CX0 1 D_law_pairs.f D_law_pairs.fd ["n"] spPairs) :
    FnOk P w K mg base CX0 2 D.f D.fd ["n", "edges"] (spSorted K) := by
  refine D.F.ok sc_law_sorted_graph (fun vs H Q E h => ?_) (fun cdv A outer s H vs Q E hr h => ?_)
  · obtain ⟨n, l, xs, es, rfl, _⟩ := h
    rfl
  · obtain ⟨n, l, xs, es, rfl, hn, hl, hp, q⟩ := h
    refine ⟨_, (pss_one (ps_ret (pe_tup (pa_cons (pv 0) (pa_cons (pe_callTy (call_tupleK (K := K) rfl) (by rfl) T.tuple (by decide +kernel) (pa_cons (pe_lc (own := [("pair", 2)]) (by rfl) sc_law_sorted_graph.nd (PI.listK (K := K) rfl (pi_list (pe_call G_law_pairs (hr.mono (by first | decide | omega)) (by rfl) D_law_pairs.g D_law_pairs.F.kp D_law_pairs.b .nil pass0 (pa_cons (pv 0) pa_nil)))) (blkOk_by (own := [("pair", 2)]) (N := ["n", "edges", "pair"]) (sc := (defScope s_law_sorted_graph)) (by decide +kernel)) (fun _ _ _ _ _ => (pg_name (i := 2) sc_law_sorted_graph.nd rfl (Or.inl rfl))) (fun _ _ _ _ _ => (pts_one (PW.pt (pw_or (pt_cmpR (op_inDK (K := K) rfl (units65 hr)) (pv 2) (pv 1) (by rfl)) (pw_or1 (pt_cmpR (op_inDK (K := K) rfl (units65 hr)) (pe_tup (pa_cons (pe_ix (ix_tupK (K := K) rfl) (pv 2) pe_int (fun _ _ => rfl)) (pa_cons (pe_ix (ix_tupK (K := K) rfl) (pv 2) pe_int (fun _ _ => rfl)) pa_nil))) (pv 1) (by rfl))))))) (fun _ _ _ _ _ => (pv 2))) pa_nil)) pa_nil))))), ?_⟩
    refine r_at (σ := [some _, some _, none]) rfl ?_
    walk_at "z"
    refine ⟨n, rfl, hn, fun l1 zs H1 hl1 s1 hz hzs => ?_⟩
    refine r_il (.inl (.inl hz)) fun d hd => lcR_list (xs := zs) (fun i H' => Same H1 H' ∧ ∃ ys, H' d = some (.lst ys) ∧ Prs H' ys (((allP n).take i).filter (isE es))) (by walk_at "zw") ⟨same_new hd, [], upd_same, .nil⟩ (fun i H' _ ⟨s2, _⟩ => .inl (.inl (s2 _ _ hz))) ?_ ?_
    · rintro i x H' hx ⟨s2, ys, hy, hys⟩
      obtain ⟨p, hpi, hxp⟩ := pd_get (hzs.tk (.of_same s2)) hx
      have sm := s1.trans s2
      have hl' := sm.seq hl
      have hp' := hp.tk (.of_same sm)
      have len : ys.length < sizeLine := small_lt (by
        have h1 := hys.length
        have h2 := List.length_filter_le (isE es) ((allP n).take i)
        have h3 : ((allP n).take i).length ≤ (allP n).length := by
          rw [List.length_take]
          omega
        have h4 := preP_len (n := n) (i := n)
        have h5 : n * n ≤ 100 * 100 := Nat.mul_le_mul hn hn
        unfold allP at *
        omega)
      have suc : ((allP n).take (i + 1)).filter (isE es) = ((allP n).take i).filter (isE es) ++ (if isE es p = true then [p] else []) := by
        rw [take_next hpi, List.filter_append, List.filter_cons, List.filter_nil]
      have yes : ∀ H2 : Hp, Same H' H2 → isE es p = true → LcE d (fun H3 => Same H1 H3 ∧ ∃ ys, H3 d = some (.lst ys) ∧ Prs H3 ys (((allP n).take (i + 1)).filter (isE es))) x H2 := fun H2 sx hE => by
        refine r_lce (sx _ _ hy) len ⟨same_mut (s2.trans sx) hd, _, upd_same, ?_⟩
        rw [suc, if_pos hE]
        have kk : TK H' (upd H2 d (.lst (ys ++ [x]))) := (TK.of_same sx).trans (.lst (sx _ _ hy))
        exact (hys.tk kk).snoc (hxp.tk kk)
      have no : ∀ H2 : Hp, Same H' H2 → isE es p = false → Same H1 H2 ∧ ∃ ys, H2 d = some (.lst ys) ∧ Prs H2 ys (((allP n).take (i + 1)).filter (isE es)) := fun H2 sx hE => by
        refine ⟨s2.trans sx, ys, sx _ _ hy, ?_⟩
        rw [suc, if_neg (by rw [hE]; exact Bool.false_ne_true), List.append_nil]
        exact hys.tk (.of_same sx)
      obtain ⟨t0, rfl, ht0⟩ := id hxp
      walk_at "z"
      refine ⟨rfl, ?_⟩
      walk_at "z"
      refine r_inLP hxp hl' hp' ?_
      walk_at "z"
      refine r_ite (fun h1 => ?_) (fun h1 => ?_)
      · refine iteT ?_
        walk_at "z"
        exact yes H' (fun _ _ h => h) (by simp [isE, h1])
      · walk_at "z"
        refine r_tupN sz2 fun t ht => ?_
        have st := same_new (o := .tup [.int p.2, .int p.1]) ht
        walk_at "z"
        refine r_inLP (p := (p.2, p.1)) ⟨t, rfl, upd_same⟩ (st.seq hl') (hp'.tk (.of_same st)) ?_
        walk_at "z"
        refine r_ite (fun h2 => ?_) (fun h2 => ?_)
        · walk_at "z"
          exact yes _ st (by simp [isE, h2])
        · exact no _ st (by simp [isE, h1, h2])
    · rintro H' ⟨s2, ys, hy, hys⟩
      rw [hzs.length, List.take_length] at hys
      walk_at "z"
      refine r_tupL (.inl (.inl hy)) fun e2 he2 => ?_
      walk_at "z"
      refine r_tupN sz2 fun g2 hg2 => ?_
      have s3 : Same H' (upd H' e2 (.tup ys)) := same_new he2
      have s4 := s3.trans (same_new (o := .tup [.int (n : Int), .ref e2]) hg2)
      exact q _ _ ((s1.trans s2).trans s4) ⟨g2, e2, rfl, upd_same, ys, (upd_ne (ne_of_none upd_same hg2)).trans upd_same, hys.tk (.of_same s4)⟩
end

set_option Elab.async false
set_option linter.all false
set_option maxRecDepth 100000
set_option maxHeartbeats 4000000
open PySem PySem.Spec PyProof.Rows L2

abbrev s_neighbour_lists : Stmt := topS 20
theorem sc_neighbour_lists : FnScope ["graph", "n", "edges", "around", "u", "v", "_"] ["graph"] (defScope s_neighbour_lists) := ⟨rfl, rfl, rfl, by decide +kernel, rfl, by decide +kernel, by decide +kernel⟩

abbrev s_neighbour_masks : Stmt := topS 21
theorem sc_neighbour_masks : FnScope ["graph", "others"] ["graph"] (defScope s_neighbour_masks) := ⟨rfl, rfl, rfl, by decide +kernel, rfl, by decide +kernel, by decide +kernel⟩

abbrev s_mask_of : Stmt := topS 24
theorem sc_mask_of : FnScope ["members", "mask", "v"] ["members"] (defScope s_mask_of) := ⟨rfl, rfl, rfl, by decide +kernel, rfl, by decide +kernel, by decide +kernel⟩

/-- the neighbours of v in the order of the edges -/
def adjL (ps : List (Int × Int)) (v : Nat) : List Int := ps.flatMap fun p => (if p.1 = (v : Int) then [p.2] else []) ++ (if p.2 = (v : Int) then [p.1] else [])
theorem adjL_next {ps : List (Int × Int)} {j v : Nat} {p : Int × Int} (h : ps[j]? = some p) : adjL (ps.take (j + 1)) v = adjL (ps.take j) v ++ ((if p.1 = (v : Int) then [p.2] else []) ++ (if p.2 = (v : Int) then [p.1] else [])) := by
  unfold adjL
  rw [take_next h, List.flatMap_append]
  simp
theorem adjL_len (ps : List (Int × Int)) (v : Nat) : (adjL ps v).length ≤ 2 * ps.length := by
  unfold adjL
  induction ps with
  | nil => simp
  | cons p ps ih =>
    rw [List.flatMap_cons, List.length_append, List.length_append, List.length_cons]
    have h1 : (if p.1 = (v : Int) then [p.2] else []).length ≤ 1 := by split <;> simp
    have h2 : (if p.2 = (v : Int) then [p.1] else []).length ≤ 1 := by split <;> simp
    omega
theorem mem_adjL {ps : List (Int × Int)} {v : Nat} {u : Int} : u ∈ adjL ps v ↔ ((v : Int), u) ∈ ps ∨ (u, (v : Int)) ∈ ps := by
  unfold adjL
  rw [List.mem_flatMap]
  constructor
  · rintro ⟨p, hp, h⟩
    rcases List.mem_append.mp h with h | h
    · split at h
      · rename_i c
        rw [List.mem_singleton.mp h, ← c]
        exact .inl hp
      · cases h
    · split at h
      · rename_i c
        rw [List.mem_singleton.mp h, ← c]
        exact .inr hp
      · cases h
  · rintro (h | h)
    · exact ⟨_, h, by simp⟩
    · exact ⟨_, h, by simp⟩
section
variable {P : Program} {w : World} {K : PySem.W.Frag} {mg : Str → Option Value} {base : Heap}
/-- a list of lists of neighbours -/
def spNLists : Sp := fun vs H Q _ => ∃ (g : V) (n : Nat) (ps : List (Int × Int)), vs = [g] ∧ GrAt H g (n : Int) ps ∧ n ≤ 100 ∧ ps.length ≤ 10000 ∧ (∀ p ∈ ps, 0 ≤ p.1 ∧ p.1 < p.2 ∧ p.2 < (n : Int)) ∧
  ∀ (l : Addr) (as : List Addr) (H' : Hp), Same H H' → H' l = some (.lst (as.map V.ref)) → as.length = n → (∀ i a, as[i]? = some a → H' a = some (.lst ((adjL ps i).map V.int))) → Q (.ref l) H'
theorem ok_nlists (T : Blt mg) (D : DefAt K mg "neighbour_lists" s_neighbour_lists ["graph"]) : FnOk P w K mg base CX0 1 D.f D.fd ["graph"] spNLists := by
  refine D.F.ok sc_neighbour_lists (fun vs H Q E h => ?_) (fun cdv A outer s H vs Q E hr h => ?_)
  · obtain ⟨g, n, ps, rfl, _⟩ := h
    rfl
  · obtain ⟨g, n, ps, rfl, ⟨ga, e, rfl, hg, xs, he, hp⟩, hn, hlen, inn, q⟩ := h
    refine ⟨_, (pss_cons (ps_asg (pv 0) (PG.tupK (K := K) rfl (pg_tup (n := 2) rfl (pgs_cons (pg_name (i := 1) sc_neighbour_lists.nd rfl (Or.inl rfl)) (pgs_cons (pg_name (i := 2) sc_neighbour_lists.nd rfl (Or.inl rfl)) pgs_nil)))))
      (pss_cons (ps_setLc (i := 3) (own := [("_", 6)]) (by rfl) sc_neighbour_lists.nd rfl rfl (sw_true rfl rfl rfl (by decide +kernel)) (pi_range1 (by rfl) T.range (pa_cons (pv 1) pa_nil)) (blkOk_by (own := [("_", 6)]) (N := ["graph", "n", "edges", "around", "u", "v", "_"]) (sc := (defScope s_neighbour_lists)) (by decide +kernel)) (fun _ _ _ _ _ => (pg_name (i := 6) sc_neighbour_lists.nd rfl (Or.inl rfl))) (fun _ _ _ _ _ => pts_nil) (fun _ _ _ _ _ => (pe_lst pa_nil)))
      (pss_cons (ps_for PassesOwn.never (by rfl) (PI.tupK (K := K) rfl (pi_tup (pv 2))) (PG.tupK (K := K) rfl (pg_tup (n := 2) rfl (pgs_cons (pg_name (i := 4) sc_neighbour_lists.nd rfl (Or.inl rfl)) (pgs_cons (pg_name (i := 5) sc_neighbour_lists.nd rfl (Or.inl rfl)) pgs_nil))))
        (pss_cons (ps_expr (PE.bmK (K := K) rfl (pe_bm PySem.F.plainAttrs_list PySem.F.slot_list_append PySem.F.type_list_append mt_append (pe_ix (ix_listK (K := K) rfl) (pv 3) (pv 4) (fun _ _ => rfl)) (pa_cons (pv 5) pa_nil))))
        (pss_one (ps_expr (PE.bmK (K := K) rfl (pe_bm PySem.F.plainAttrs_list PySem.F.slot_list_append PySem.F.type_list_append mt_append (pe_ix (ix_listK (K := K) rfl) (pv 3) (pv 5) (fun _ _ => rfl)) (pa_cons (pv 4) pa_nil)))))))
      (pss_one (ps_ret (pv 3)))))), ?_⟩
    refine r_at (σ := [some _, none, none, none, none, none, none]) rfl ?_
    walk_at "z"
    refine r_gtup (.inl (.inl hg)) rfl ?_
    walk_at "z"
    refine r_rg1 (by omega) fun d hd => lcR_range (fun i H' => Same H H' ∧ ∃ as : List Addr, H' d = some (.lst (as.map V.ref)) ∧ as.length = i ∧ as.Nodup ∧ ∀ a ∈ as, H a = none ∧ a ≠ d ∧ H' a = some (.lst [])) (by walk_at "zw") ⟨same_new hd, [], upd_same, rfl, .nil, fun a h => nomatch h⟩ ?_ ?_
    · rintro i H' hi ⟨s1, as, hD, la, nd, ho⟩
      walk_at "z"
      refine ⟨rfl, ?_⟩
      walk_at "z"
      refine r_lstN (Nat.zero_le _) fun t ht => ?_
      have tD : d ≠ t := ne_of_none hD ht
      refine r_lce ((upd_ne tD).trans hD) (small_lt (by rw [List.length_map]; omega)) ⟨same_mut (s1.trans (same_new ht)) hd, as ++ [t], by rw [List.map_append]; exact upd_same, by rw [List.length_append, la]; rfl, ?_, ?_⟩
      · refine List.nodup_append.mpr ⟨nd, by simp, fun a ha b hb => ?_⟩
        rw [List.mem_singleton.mp hb]
        exact ne_of_none (ho a ha).2.2 ht
      · intro a ha
        rcases List.mem_append.mp ha with c | c
        · obtain ⟨o1, o2, o3⟩ := ho a c
          exact ⟨o1, o2, (upd_ne o2).trans ((upd_ne (ne_of_none o3 ht)).trans o3)⟩
        · rw [List.mem_singleton.mp c]
          exact ⟨s1.free ht, tD.symm, (upd_ne tD.symm).trans upd_same⟩
    · rintro H1 ⟨s1, as, hD, la, nd, ho⟩
      rw [show (n : Int).toNat = n by omega] at la
      walk_at "z"
      refine r_it (.inl (.inl (s1 _ _ he))) (forR_tup (xs := xs) (fun j σ' H' => (∃ x4 x5 x6, σ' = [some (.ref ga), some (.int n), some (.ref e), some (.ref d), x4, x5, x6]) ∧ Same H H' ∧ H' d = some (.lst (as.map V.ref)) ∧ ∀ i a, as[i]? = some a → H' a = some (.lst ((adjL (ps.take j) i).map V.int))) ⟨⟨_, _, _, rfl⟩, s1, hD, fun i a h => (ho a (List.mem_of_getElem? h)).2.2⟩ (fun i σ' H' _ ⟨_, s2, _⟩ => .inl (.inl (s2 _ _ he))) ?_ ?_)
      · rintro j x σ' H' hx ⟨⟨x4, x5, x6, rfl⟩, s2, hD2, adj⟩
        obtain ⟨p, hpj, t, rfl, ht⟩ := pd_get (hp.tk (.of_same s2)) hx
        obtain ⟨b0, b1, b2⟩ := inn p (List.mem_of_getElem? hpj)
        obtain ⟨au, hau⟩ : ∃ a, as[p.1.toNat]? = some a := ⟨_, List.getElem?_eq_getElem (by omega)⟩
        obtain ⟨av, hav⟩ : ∃ a, as[p.2.toNat]? = some a := ⟨_, List.getElem?_eq_getElem (by omega)⟩
        obtain ⟨u1, u2, _⟩ := ho au (List.mem_of_getElem? hau)
        obtain ⟨v1, v2, _⟩ := ho av (List.mem_of_getElem? hav)
        have idx : ∀ {i k : Nat} {a : Addr}, as[i]? = some a → as[k]? = some a → i = k := fun {i k a} h1 h2 => by
          obtain ⟨l1, e1⟩ := List.getElem?_eq_some_iff.mp h1
          obtain ⟨l2, e2⟩ := List.getElem?_eq_some_iff.mp h2
          exact (List.getElem_inj nd).mp (e1.trans e2.symm)
        have ne : av ≠ au := fun z => by
          have := idx hau (z ▸ hav)
          omega
        have lens : ∀ i, ((adjL (ps.take j) i).map V.int).length < sizeLine := fun i => small_lt (by
          rw [List.length_map]
          have := adjL_len (ps.take j) i
          rw [List.length_take] at this
          omega)
        have hU := adj _ _ hau
        have hV := adj _ _ hav
        have eD : ∀ a, (as.map V.ref)[a]? = (as[a]?).map V.ref := fun a => by rw [List.getElem?_map]
        refine r_gtup (.inl (.inl ht)) rfl ?_
        walk_at "z"
        refine r_ixL (.inl (.inl hD2)) (at_of (j := p.1.toNat) (by omega) (by rw [eD, hau]; rfl)) ?_
        walk_at "z"
        refine r_appT hU (lens _) ?_
        walk_at "z"
        refine r_ixL (.inl (.inl ((upd_ne u2.symm).trans hD2))) (at_of (j := p.2.toNat) (by omega) (by rw [eD, hav]; rfl)) ?_
        have hV2 := (upd_ne (H := H') (o := .lst ((adjL (ps.take j) p.1.toNat).map V.int ++ [.int p.2])) ne).trans hV
        walk_at "z"
        refine r_appT hV2 (lens _) ?_
        refine ⟨⟨_, _, _, rfl⟩, same_mut (same_mut s2 u1) v1, (upd_ne v2.symm).trans ((upd_ne u2.symm).trans hD2), fun i a h => ?_⟩
        rw [adjL_next hpj]
        by_cases c2 : a = av
        · subst c2
          have e2 := idx h hav
          subst e2
          rw [if_neg (by omega), if_pos (by omega), upd_same, List.nil_append, List.map_append]
          rfl
        · rw [upd_ne c2]
          by_cases c1 : a = au
          · subst c1
            have e1 := idx h hau
            subst e1
            rw [if_pos (by omega), if_neg (by omega), upd_same, List.append_nil, List.map_append]
            rfl
          · have n1 : p.1 ≠ (i : Int) := fun z => c1 (by
              have e : p.1.toNat = i := by omega
              rw [e, h] at hau
              exact Option.some.inj hau)
            have n2 : p.2 ≠ (i : Int) := fun z => c2 (by
              have e : p.2.toNat = i := by omega
              rw [e, h] at hav
              exact Option.some.inj hav)
            rw [upd_ne c1, if_neg n1, if_neg n2, List.append_nil, List.append_nil]
            exact adj i a h
      · rintro σ' H' ⟨⟨x4, x5, x6, rfl⟩, s2, hD2, adj⟩
        rw [hp.length, List.take_length] at adj
        walk_at "z"
        exact q d as H' s2 hD2 la adj
/-- the bits of a list or tuple -/
def spMask (K : PySem.W.Frag) : Sp := fun vs H Q _ => ∃ (l : Addr) (ns : List Int), vs = [.ref l] ∧ (SqL K H l (ns.map V.int) ∨ SqT K H l (ns.map V.int)) ∧ (∀ v ∈ ns, 0 ≤ v ∧ v < 1000) ∧ ∀ x : Int, Msk x (fun i => i ∈ ns) → Q (.int x) H
theorem ok_mask (T : Blt mg) (D : DefAt K mg "mask_of" s_mask_of ["members"]) : FnOk P w K mg base CX0 1 D.f D.fd ["members"] (spMask K) := by
  refine D.F.ok sc_mask_of (fun vs H Q E h => ?_) (fun cdv A outer s H vs Q E hr h => ?_)
  · obtain ⟨l, ns, rfl, _⟩ := h
    rfl
  · obtain ⟨l, ns, rfl, hl, bd, q⟩ := h
    have step : ∀ (i : Nat) (v x : Int), ns[i]? = some v → Msk x (fun z => z ∈ ns.take i) → Msk (Builtin.bitOr x (1 * 2 ^ v.toNat)) (fun z => z ∈ ns.take (i + 1)) := fun i v x hv m => by
      rw [take_next hv]
      exact m.snoc (bd v (List.mem_of_getElem? hv)).1
    rcases hl with hl | hl
    · refine ⟨_, (pss_cons (ps_set (i := 1) sc_mask_of.nd rfl (Or.inl rfl) pe_int)
      (pss_cons (ps_for PassesOwn.never (by rfl) (PI.listK (K := K) rfl (pi_list (pv 0))) (pg_name (i := 2) sc_mask_of.nd rfl (Or.inl rfl))
        (pss_one (ps_aug (i := 1) sc_mask_of.nd rfl (Or.inl rfl) (pe_op op_shl pe_int (pv 2)) iop_or)))
      (pss_one (ps_ret (pv 1))))), ?_⟩
      refine r_at (σ := [some _, none, none]) rfl ?_
      walk_at "z"
      refine r_il hl (forR_list (xs := ns.map V.int) (fun i σ' H' => H' = H ∧ ∃ (x : Int) (z : Option V), σ' = [some (.ref l), some (.int x), z] ∧ Msk x (fun z => z ∈ ns.take i)) ⟨rfl, _, _, rfl, .nil⟩ (fun i σ' H' _ ⟨eH, _⟩ => eH ▸ hl) ?_ ?_)
      · rintro i v σ' H' hv ⟨rfl, x, z, rfl, m⟩
        rw [List.getElem?_map] at hv
        obtain ⟨v, hv9, rfl⟩ := Option.map_eq_some_iff.mp hv
        obtain ⟨b0, b1⟩ := bd v (List.mem_of_getElem? hv9)
        walk_at "z"
        refine r_aug rfl ?_
        walk_at "z"
        refine r_i ⟨by omega, by omega, by decide⟩ ?_
        refine r_augOr rfl ?_
        exact ⟨rfl, _, _, rfl, step i v x hv9 m⟩
      · rintro σ' H' ⟨rfl, x, z, rfl, m⟩
        rw [List.length_map, List.take_length] at m
        walk_at "z"
        exact q x m
    · refine ⟨_, (pss_cons (ps_set (i := 1) sc_mask_of.nd rfl (Or.inl rfl) pe_int)
      (pss_cons (ps_for PassesOwn.never (by rfl) (PI.tupK (K := K) rfl (pi_tup (pv 0))) (pg_name (i := 2) sc_mask_of.nd rfl (Or.inl rfl))
        (pss_one (ps_aug (i := 1) sc_mask_of.nd rfl (Or.inl rfl) (pe_op op_shl pe_int (pv 2)) iop_or)))
      (pss_one (ps_ret (pv 1))))), ?_⟩
      refine r_at (σ := [some _, none, none]) rfl ?_
      walk_at "z"
      refine r_it hl (forR_tup (xs := ns.map V.int) (fun i σ' H' => H' = H ∧ ∃ (x : Int) (z : Option V), σ' = [some (.ref l), some (.int x), z] ∧ Msk x (fun z => z ∈ ns.take i)) ⟨rfl, _, _, rfl, .nil⟩ (fun i σ' H' _ ⟨eH, _⟩ => eH ▸ hl) ?_ ?_)
      · rintro i v σ' H' hv ⟨rfl, x, z, rfl, m⟩
        rw [List.getElem?_map] at hv
        obtain ⟨v, hv9, rfl⟩ := Option.map_eq_some_iff.mp hv
        obtain ⟨b0, b1⟩ := bd v (List.mem_of_getElem? hv9)
        walk_at "z"
        refine r_aug rfl ?_
        walk_at "z"
        refine r_i ⟨by omega, by omega, by decide⟩ ?_
        refine r_augOr rfl ?_
        exact ⟨rfl, _, _, rfl, step i v x hv9 m⟩
      · rintro σ' H' ⟨rfl, x, z, rfl, m⟩
        rw [List.length_map, List.take_length] at m
        walk_at "z"
        exact q x m
def spNMasks : Sp := fun vs H Q _ => ∃ (g : V) (n : Nat) (ps : List (Int × Int)), vs = [g] ∧ GrAt H g (n : Int) ps ∧ n ≤ 100 ∧ ps.length ≤ 10000 ∧ (∀ p ∈ ps, 0 ≤ p.1 ∧ p.1 < p.2 ∧ p.2 < (n : Int)) ∧
  ∀ (l : Addr) (ms : List Int) (H' : Hp), Same H H' → H' l = some (.lst (ms.map V.int)) → ms.length = n → (∀ i m, ms[i]? = some m → Msk m (fun z => z ∈ adjL ps i)) → Q (.ref l) H'
theorem ok_nmasks (T : Blt mg) (D : DefAt K mg "neighbour_masks" s_neighbour_masks ["graph"]) (D_neighbour_lists : DefAt K mg "neighbour_lists" s_neighbour_lists ["graph"]) (G_neighbour_lists : FnOk P w K mg base CX0 1 D_neighbour_lists.f D_neighbour_lists.fd ["graph"] spNLists)
    (D_mask_of : DefAt K mg "mask_of" s_mask_of ["members"]) (G_mask_of : FnOk P w K mg base CX0 1 D_mask_of.f D_mask_of.fd ["members"] (spMask K)) : FnOk P w K mg base CX0 2 D.f D.fd ["graph"] spNMasks := by
  refine D.F.ok sc_neighbour_masks (fun vs H Q E h => ?_) (fun cdv A outer s H vs Q E hr h => ?_)
  · obtain ⟨g, n, ps, rfl, _⟩ := h
    rfl
  · obtain ⟨g, n, ps, rfl, hgr, hn, hlen, inn, q⟩ := h
    refine ⟨_, (pss_one (ps_ret (pe_lc (own := [("others", 1)]) (by rfl) sc_neighbour_masks.nd (PI.listK (K := K) rfl (pi_list (pe_call G_neighbour_lists (hr.mono (by first | decide | omega)) (by rfl) D_neighbour_lists.g D_neighbour_lists.F.kp D_neighbour_lists.b .nil pass0 (pa_cons (pv 0) pa_nil)))) (blkOk_by (own := [("others", 1)]) (N := ["graph", "others"]) (sc := (defScope s_neighbour_masks)) (by decide +kernel)) (fun _ _ _ _ _ => (pg_name (i := 1) sc_neighbour_masks.nd rfl (Or.inl rfl))) (fun _ _ _ _ _ => pts_nil) (fun _ _ _ _ _ => (pe_call G_mask_of (hr.mono (by first | decide | omega)) (by rfl) D_mask_of.g D_mask_of.F.kp D_mask_of.b .nil pass0 (pa_cons (pv 1) pa_nil)))))), ?_⟩
    refine r_at (σ := [some _, none]) rfl ?_
    walk_at "z"
    refine ⟨g, n, ps, rfl, hgr, hn, hlen, inn, fun l as H1 s1 hl la adj => ?_⟩
    walk_at "z"
    refine r_il (.inl (.inl hl)) fun d hd => lcR_list (xs := as.map V.ref) (fun i H' => Same H1 H' ∧ ∃ ms : List Int, H' d = some (.lst (ms.map V.int)) ∧ ms.length = i ∧ ∀ j m, ms[j]? = some m → Msk m (fun z => z ∈ adjL ps j)) (by walk_at "zw") ⟨same_new hd, [], upd_same, rfl, fun j m h => by simp at h⟩ (fun i H' _ ⟨s2, _⟩ => .inl (.inl (s2 _ _ hl))) ?_ ?_
    · rintro i x H' hx ⟨s2, ms, hm, lm, mk⟩
      rw [List.getElem?_map] at hx
      obtain ⟨a, ha, rfl⟩ := Option.map_eq_some_iff.mp hx
      have hi : i < as.length := (List.getElem?_eq_some_iff.mp ha).1
      walk_at "z"
      refine ⟨rfl, ?_⟩
      walk_at "z"
      refine ⟨a, adjL ps i, rfl, .inl (.inl (.inl (s2 _ _ (adj i a ha)))), fun z hz => ?_, fun x m => ?_⟩
      · rcases mem_adjL.mp hz with c | c
        · have := inn _ c; dsimp only at this; omega
        · have := inn _ c; dsimp only at this; omega
      · refine r_lce hm (small_lt (by rw [List.length_map]; omega)) ⟨same_mut s2 hd, ms ++ [x], by rw [List.map_append]; exact upd_same, by rw [List.length_append, lm]; rfl, fun j y hy => ?_⟩
        rcases Nat.lt_or_ge j ms.length with c | c
        · rw [List.getElem?_append_left c] at hy
          exact mk j y hy
        · rw [List.getElem?_append_right c] at hy
          have : j - ms.length = 0 := by
            have := (List.getElem?_eq_some_iff.mp hy).1
            simp at this
            omega
          rw [this] at hy
          have e1 : x = y := Option.some.inj hy
          have e2 : j = i := by omega
          rw [← e1, e2]
          exact m
    · rintro H' ⟨s2, ms, hm, lm, mk⟩
      rw [List.length_map] at lm
      exact q d ms H' (s1.trans s2) hm (by omega) mk
end

set_option Elab.async false
set_option linter.all false
set_option maxRecDepth 100000
set_option maxHeartbeats 4000000
open PySem PySem.Spec PyProof.Rows L2

section
variable {P : Program} {w : World} {K : PySem.W.Frag} {mg : Str → Option Value} {base : Heap}
theorem r_popAt {H : Hp} {Q : VK} {l : Addr} {xs : List V} {i : Int} {k : Nat} {y : V} (h : H l = some (.lst xs)) (e : i = (k : Int)) (hk : k < 1000000) (hy : xs[k]? = some y) (q : Q y (upd H l (.lst (xs.eraseIdx k)))) : rPopAt (.ref l) [.int i] H Q := by
  have hlt : k < xs.length := (List.getElem?_eq_some_iff.mp hy).1
  refine ⟨l, xs, i, k, y, rfl, rfl, h, by omega, by omega, ?_, hy, q⟩
  subst e
  unfold seqIndex?
  simp only [show ¬ ((k : Int) < 0) by omega, if_false]
  rw [if_pos (by simp; omega)]
  rfl
theorem map_erase {α β : Type} (f : α → β) : ∀ (l : List α) (k : Nat), (l.map f).eraseIdx k = (l.eraseIdx k).map f
  | [], _ => by simp
  | _ :: _, 0 => rfl
  | x :: l, k + 1 => by
    show f x :: (l.map f).eraseIdx k = f x :: (l.eraseIdx k).map f
    rw [map_erase f l k]
theorem get_erase_perm {α : Type} : ∀ (l : List α) {k : Nat} {x : α}, l[k]? = some x → (x :: l.eraseIdx k).Perm l
  | [], _, _, h => by simp at h
  | y :: l, 0, x, h => by
    have e : y = x := Option.some.inj h
    subst e
    exact .refl _
  | y :: l, k + 1, x, h => by
    have ih := get_erase_perm l (k := k) h
    show (x :: y :: l.eraseIdx k).Perm (y :: l)
    exact (List.Perm.swap y x _).trans (ih.cons y)
/-- the graph whose vertices have other numbers -/
def ordP (o : List Int) (p : Int × Int) : Int × Int := (o.getD p.1.toNat 0, o.getD p.2.toNat 0)
theorem at_ord {o : List Int} {z : Int} (h0 : 0 ≤ z) (h1 : z < o.length) : atI (o.map V.int) z = some (.int (o.getD z.toNat 0)) := by
  have hlt : z.toNat < o.length := by omega
  refine at_of (j := z.toNat) (by omega) ?_
  rw [List.getElem?_map, List.getElem?_eq_getElem hlt, List.getD_eq_getElem?_getD, List.getElem?_eq_getElem hlt]
  rfl
end

set_option Elab.async false
set_option linter.all false
set_option maxRecDepth 100000
set_option maxHeartbeats 4000000
open PySem PySem.Spec PyProof.Rows L2

abbrev s_members_of : Stmt := topS 25
theorem sc_members_of : FnScope ["mask", "found", "low"] ["mask"] (defScope s_members_of) := ⟨rfl, rfl, rfl, by decide +kernel, rfl, by decide +kernel, by decide +kernel⟩

section
variable {P : Program} {w : World} {K : PySem.W.Frag} {mg : Str → Option Value} {base : Heap}
/-- the set of a mask, ascending -/
def spMem : Sp := fun vs H Q _ => ∃ (x : Int) (S : Int → Prop), vs = [.int x] ∧ Msk x S ∧ (∀ i : Nat, S i → i < 1000) ∧
  ∀ (p : Addr) (ns : List Int) (H' : Hp), Same H H' → H' p = some (.tup (ns.map V.int)) → H p = none → ns.Pairwise (· < ·) → (∀ z, z ∈ ns ↔ 0 ≤ z ∧ S z) → Q (.ref p) H'
theorem asc_len {n : Nat} {ns : List Int} (asc : ns.Pairwise (· < ·)) (h : ∀ v ∈ ns, 0 ≤ v ∧ v < (n : Int)) : ns.length ≤ n := by
  have nd : ns.Nodup := asc.imp fun {a b} h => by omega
  have := nodup_le ns (rgI (n : Int)) nd fun v hv => mem_rgI.mpr (h v hv)
  rw [rgI_len] at this
  omega
theorem ok_members (T : Blt mg) (D : DefAt K mg "members_of" s_members_of ["mask"]) : FnOk P w K mg base CX0 1 D.f D.fd ["mask"] spMem := by
  refine D.F.ok sc_members_of (fun vs H Q E h => ?_) (fun cdv A outer s H vs Q E hr h => ?_)
  · obtain ⟨x, S, rfl, _⟩ := h
    rfl
  · obtain ⟨x, S, rfl, m, bd, q⟩ := h
    refine ⟨_, (pss_cons (ps_set (i := 1) sc_members_of.nd rfl (Or.inl rfl) (pe_lst pa_nil))
      (pss_cons (ps_while PassesOwn.never (pt_cmpR op_gt (pv 0) pe_int (nomark _))
        (pss_cons (ps_set (i := 2) sc_members_of.nd rfl (Or.inl rfl) (pe_op op_and (pv 0) (pe_un un_neg (pv 0))))
        (pss_cons (ps_expr (PE.bmK (K := K) rfl (pe_bm PySem.F.plainAttrs_list PySem.F.slot_list_append PySem.F.type_list_append mt_append (pv 1) (pa_cons (pe_op op_sub (PE.bm0K (K := K) rfl (pe_bm0 PySem.F.plainAttrs_int PySem.F.slot_int_bit_length PySem.F.type_int_bit_length mt_bitlen (pv 2))) pe_int) pa_nil))))
        (pss_one (ps_aug (i := 0) sc_members_of.nd rfl (Or.inl rfl) (pv 2) iop_xor)))))
      (pss_one (ps_ret (pe_callTy (call_tupleK (K := K) rfl) (by rfl) T.tuple (by decide +kernel) (pa_cons (pv 1) pa_nil)))))), ?_⟩
    refine r_at (σ := [some _, none, none]) rfl ?_
    walk_at "z"
    refine r_lstN (by decide) fun f hf => ?_
    walk_at "z"
    let W : Nat → L2.St → Hp → Prop := fun k σ' H' => ∃ (y : Int) (ns : List Int) (x3 : Option V), σ' = [some (.int y), some (.ref f), x3] ∧ k = y.toNat ∧ Same H H' ∧ H' f = some (.lst (ns.map V.int)) ∧ ns.Pairwise (· < ·) ∧ Msk y (fun i => S i ∧ i ∉ ns) ∧ (∀ v ∈ ns, 0 ≤ v ∧ v < 1000 ∧ S v) ∧ (∀ v ∈ ns, ∀ i : Nat, Bit y i = true → v < i)
    have start : W x.toNat [some (.int x), some (.ref f), none] (upd H f (.lst [])) := ⟨x, [], none, rfl, rfl, same_new hf, upd_same, .nil, m.congr fun i => by simp, fun v h => (nomatch h), fun v h => (nomatch h)⟩
    refine r_while W _ start ?_
    rintro k σ' H1 ⟨y, ns, x3, rfl, rfl, s1, hF, asc, my, sub, low⟩
    have y0 := my.nn
    walk_at "z"
    refine r_ite (fun c => ?_) (fun c => ?_)
    · refine r_whGo ?_
      obtain ⟨b, e1, e2, e3, e4, e5, e6⟩ := low_bit (x := y) (by omega)
      have hb := (my.bts b).mp e2
      have b1 := bd b hb.1
      walk_at "z"
      refine r_appT hF (small_lt (by
        have := asc_len (n := 1000) asc fun v hv => ⟨(sub v hv).1, (sub v hv).2.1⟩
        rw [List.length_map]
        omega)) ?_
      walk_at "z"
      refine r_aug rfl ?_
      walk_at "z"
      refine r_augI rfl ?_
      have eb : ((Builtin.Int.intBits (Builtin.bitAnd y (-y)) : Nat) : Int) - 1 = (b : Int) := by
        rw [e1, intBits_pow]
        omega
      rw [eb]
      refine ⟨(Builtin.bitXor y (Builtin.bitAnd y (-y))).toNat, by omega, _, ns ++ [(b : Int)], _, rfl, rfl, same_mut s1 hf, by rw [List.map_append]; exact upd_same, ?_, .of e4 fun i => ?_, fun v hv => ?_, fun v hv i hi => ?_⟩
      · refine List.pairwise_append.mpr ⟨asc, by simp, fun a ha c hc => ?_⟩
        rw [List.mem_singleton.mp hc]
        exact low a ha b e2
      · rw [e6, Bool.and_eq_true, my.bts i, Bool.not_eq_true', decide_eq_false_iff_not, List.mem_append, List.mem_singleton]
        constructor
        · rintro ⟨⟨h1, h2⟩, h3⟩
          exact ⟨h1, fun z => z.elim h2 fun z => h3 (by omega)⟩
        · rintro ⟨h1, h2⟩
          exact ⟨⟨h1, fun z => h2 (.inl z)⟩, fun z => h2 (.inr (by omega))⟩
      · rcases List.mem_append.mp hv with h | h
        · exact sub v h
        · rw [List.mem_singleton.mp h]
          exact ⟨by omega, by omega, hb.1⟩
      · rw [e6, Bool.and_eq_true, Bool.not_eq_true', decide_eq_false_iff_not] at hi
        rcases List.mem_append.mp hv with h | h
        · exact low v h i hi.1
        · rw [List.mem_singleton.mp h]
          rcases Nat.lt_or_ge i b with z | z
          · rw [e3 i z] at hi
            exact absurd hi.1 Bool.false_ne_true
          · have := hi.2
            omega
    · walk_at "z"
      refine r_tupL (.inl (.inl hF)) fun p hp => ?_
      have e : y = 0 := by omega
      subst e
      refine q p ns _ (s1.trans (same_new hp)) upd_same (s1.free hp) asc fun z => ⟨fun h => ⟨(sub z h).1, (sub z h).2.2⟩, fun ⟨h1, h2⟩ => ?_⟩
      refine Classical.byContradiction fun n => ?_
      have := my.ne0.mpr ⟨z.toNat, by
        rw [show ((z.toNat : Nat) : Int) = z by omega]
        exact ⟨h2, n⟩⟩
      exact this rfl
end

set_option Elab.async false
set_option linter.all false
set_option maxRecDepth 100000
set_option maxHeartbeats 4000000
open PySem PySem.Spec PyProof.Rows L2 LamX

section
variable {P : Program} {w : World} {K : PySem.W.Frag} {mg : Str → Option Value} {base : Heap}
end

set_option Elab.async false
set_option linter.all false
set_option maxRecDepth 100000
set_option maxHeartbeats 4000000
open PySem PySem.Spec PyProof.Rows L2 LamX RZ

abbrev s_is_row : Stmt := topS 6
theorem sc_is_row : FnScope ["n", "value"] ["n", "value"] (defScope s_is_row) := ⟨rfl, rfl, rfl, by decide +kernel, rfl, by decide +kernel, by decide +kernel⟩

def rowD (n : Int) : PyData → Bool
  | .tuple ds => ds.all (verD n) && decide ((ds.map fun d => match d with | .int i => i | _ => 0).Nodup)
  | _ => false
theorem rowD_ints {n : Int} {ns : List Int} : rowD n (.tuple (ns.map PyData.int)) = (decide (∀ z ∈ ns, 0 ≤ z ∧ z < n) && decide ns.Nodup) := by
  have h := versD_ints (n := n) (ns := ns)
  show ((ns.map PyData.int).all (verD n) && decide (((ns.map PyData.int).map fun d => match d with | .int i => i | _ => 0).Nodup)) = _
  rw [show (ns.map PyData.int).all (verD n) = versD n (.tuple (ns.map PyData.int)) from rfl, h, List.map_map]
  have e : (ns.map ((fun d => match d with | .int i => i | _ => 0) ∘ PyData.int)) = ns := by
    rw [show ((fun d => match d with | PyData.int i => i | _ => 0) ∘ PyData.int : Int → Int) = id from rfl, List.map_id]
  rw [e]
theorem rowD_of {n : Int} {d : PyData} (h : rowD n d = true) : ∃ ns : List Int, d = .tuple (ns.map PyData.int) ∧ (∀ z ∈ ns, 0 ≤ z ∧ z < n) ∧ ns.Nodup := by
  cases d with
  | tuple ds =>
    have h1 : versD n (.tuple ds) = true := by
      have h : (ds.all (verD n) && _) = true := h
      rw [Bool.and_eq_true] at h
      exact h.1
    obtain ⟨ns, e, b⟩ := versD_of h1
    rw [e, rowD_ints, Bool.and_eq_true, decide_eq_true_eq, decide_eq_true_eq] at h
    exact ⟨ns, e, b, h.2⟩
  | _ => exact absurd h Bool.false_ne_true
theorem isE_adj {ps : List (Int × Int)} {u v : Int} (h : 0 ≤ u) : isE ps (u, v) = true ↔ v ∈ adjL ps u.toNat := by
  rw [mem_adjL]
  unfold isE
  rw [Bool.or_eq_true, decide_eq_true_eq, decide_eq_true_eq, show ((u.toNat : Nat) : Int) = u by omega]
section
variable {P : Program} {w : World} {K : PySem.W.Frag} {mg : Str → Option Value} {base : Heap}
theorem tup_ext {H H' : Hp} (x : ExtN H H') {p : Addr} {xs : List V} (h : SqT K H p xs) : SqT K H' p xs := by
  rcases h with (h | ⟨o, h⟩) | h
  · exact .inl (.inl (ext_tup x h))
  · exact .inl (.inr ⟨o, x _ _ h (fun ps z => nomatch z)⟩)
  · exact .inr h
theorem lst_ext {H H' : Hp} (x : ExtN H H') {p : Addr} {xs : List V} (h : SqL K H p xs) : SqL K H' p xs := by
  rcases h with (h | ⟨o, h⟩) | h
  · exact .inl (.inl (ext_lst x h))
  · exact .inl (.inr ⟨o, x _ _ h (fun ps z => nomatch z)⟩)
  · exact .inr h
def spIsRow (bb : Addr) (TT : List (Addr × Str)) : Sp := fun vs H Q _ => ∃ (n : Int) (v : V) (d : PyData), vs = [.int n, v] ∧ DX bb H v d ∧ n ≤ 100 ∧ (∀ ds, d = .tuple ds → ds.length ≤ 1000) ∧ Tabs TT H ∧ ∀ H', ExtN H H' → Tabs TT H' → Q (.bl (rowD n d)) H'
theorem ok_isRow {bb : Addr} {TT : List (Addr × Str)} (T : Blt mg) (z_set : mg "set" = none) (D : DefAt K mg "is_row" s_is_row ["n", "value"]) (D_are_vertices : DefAt K mg "are_vertices" s_are_vertices ["n", "value"]) (G_are_vertices : FnOk P w K mg base CX0 7 D_are_vertices.f D_are_vertices.fd ["n", "value"] (spVsX bb TT)) :
    FnOk P w K mg base CX0 8 D.f D.fd ["n", "value"] (spIsRow bb TT) := by
  refine D.F.ok sc_is_row (fun vs H Q E h => ?_) (fun cdv A outer s H vs Q E hr h => ?_)
  · obtain ⟨n, v, d, rfl, _⟩ := h
    rfl
  · obtain ⟨n, v, d, rfl, hd, n1, len, hT, q⟩ := h
    refine ⟨_, (pss_one (ps_ret (pe_and (pe_call G_are_vertices (hr.mono (by first | decide | omega)) (by rfl) D_are_vertices.g D_are_vertices.F.kp D_are_vertices.b .nil pass0 (pa_cons (pv 0) (pa_cons (pv 1) pa_nil))) (pe_one (pe_cmpR op_eq (pe_callB (call_lenSet (w := w) rfl) (by rfl) T.len (by decide +kernel) (pa_cons (pe_callTy (cr_setTI (K := K) (w := w) rfl rfl rfl) (by rfl) z_set (by decide +kernel) (pa_cons (pv 1) pa_nil)) pa_nil)) (pe_callB (call_lenK (K := K) rfl) (by rfl) T.len (by decide +kernel) (pa_cons (pv 1) pa_nil)) (nomark _)))))), ?_⟩
    refine r_at (σ := [some _, some _]) rfl ?_
    walk_at "z"
    refine ⟨n, v, d, rfl, hd, hT, fun H1 e1 T1 => ?_⟩
    cases e : versD n d with
    | false =>
      have e2 : rowD n d = false := by
        cases c : rowD n d with
        | false => rfl
        | true =>
          obtain ⟨ns, rfl, b, _⟩ := rowD_of c
          rw [versD_ints, decide_eq_true b] at e
          cases e
      walk_at "z"
      rw [← e2]
      exact q H1 e1 T1
    | true =>
      obtain ⟨ns, rfl, b⟩ := versD_of e
      have ln : ns.length ≤ 1000 := by
        have := len _ rfl
        rwa [List.length_map] at this
      cases hd.ext e1 with
      | @tup a xs _ hxs hxd =>
      rw [dx_ints hxd] at hxs
      have hxs : SqT K H1 a (ns.map V.int) := .inl hxs
      walk_at "z"
      refine r_setTI hxs ln fun p ks hp nd mem => ?_
      have eN : ExtN H1 (upd H1 p (SetO w p (fun j => decide (j ∈ ns)) ks.length)) := ext_same (same_new hp)
      have T2 := tabs_same T1 (same_new (o := SetO w p (fun j => decide (j ∈ ns)) ks.length) hp)
      have hx2 := tup_ext eN hxs
      have hp2 : (upd H1 p (SetO w p (fun j => decide (j ∈ ns)) ks.length)) p = some (SetO w p (fun j => decide (j ∈ ns)) ks.length) := upd_same
      generalize upd H1 p (SetO w p (fun j => decide (j ∈ ns)) ks.length) = H2 at eN T2 hx2 hp2 ⊢
      walk_at "z"
      refine r_lenSet hp2 ?_
      walk_at "z"
      have := q _ (e1.trans eN) T2
      rw [rowD_ints, decide_eq_true b, Bool.true_and] at this
      have ee : decide ((ks.length : Int) = ((ns.map V.int).length : Int)) = decide ns.Nodup := by
        rw [List.length_map]
        have := nodup_len nd mem
        apply Bool.eq_iff_iff.mpr
        rw [decide_eq_true_eq, decide_eq_true_eq]
        exact ⟨fun h => this.mp (by omega), fun h => by have := this.mpr h; omega⟩
      rw [← ee] at this
      exact this
theorem sqT_sm {H H' : Hp} (s : Same H H') {a : Addr} {xs : List V} (h : SqT K H a xs) : SqT K H' a xs := h.elim (fun h => .inl (h.elim (fun h => .inl (s _ _ h)) fun ⟨b, h⟩ => .inr ⟨b, s _ _ h⟩)) .inr
theorem gr_ext {H H' : Hp} (x : ExtN H H') {g : V} {n : Int} {ps : List (Int × Int)} (h : GrAt H g n ps) : GrAt H' g n ps := by
  obtain ⟨ga, e, rfl, hg, xs, he, hp⟩ := h
  exact ⟨ga, e, rfl, ext_tup x hg, xs, ext_tup x he, hp.tk (ext_tk x)⟩
theorem rowD_false {n : Int} {d : PyData} {ns : List Int} (h : rowD n d = false) (e : d = .tuple (ns.map PyData.int)) (b : ∀ z ∈ ns, 0 ≤ z ∧ z < n) (nd : ns.Nodup) : False := by
  rw [e, rowD_ints, decide_eq_true b, decide_eq_true nd] at h
  cases h
end

set_option Elab.async false
set_option linter.all false
set_option maxRecDepth 100000
set_option maxHeartbeats 4000000
open PySem PySem.Spec PyProof.Rows L2

section
variable {P : Program} {w : World} {K : PySem.W.Frag} {mg : Str → Option Value} {base : Heap}
theorem good_filter {n : Nat} (h : 1 ≤ n) (c : Int × Int → Bool) : GoodG (n : Int) ((allP n).filter c) :=
  ⟨by omega, (allP_asc n).filter _, fun p hp => mem_allP.mp (List.mem_filter.mp hp).1⟩
theorem allP_small {n : Nat} (h : n ≤ 100) : (allP n).length ≤ 10000 := by
  have h4 := preP_len (n := n) (i := n)
  have h5 : n * n ≤ 100 * 100 := Nat.mul_le_mul h h
  unfold allP
  omega
/-- a drawn graph of n vertices -/
def GenQ (a s : Addr) (H : Hp) (n : Int) (Q : VK) : Prop := ∀ (v : V) (qs : List (Int × Int)) (H' : Hp), Pool H' a s → Gr a H H' → GrAt H' v n qs → GoodG n qs → Q v H'
end

set_option Elab.async false
set_option linter.all false
set_option maxRecDepth 100000
set_option maxHeartbeats 4000000
open PySem PySem.Spec PyProof.Rows L2

section
variable {P : Program} {w : World} {K : PySem.W.Frag} {mg : Str → Option Value} {base : Heap}
theorem flt_next {n i : Nat} {p : Int × Int} (h : (allP n)[i]? = some p) (c : Int × Int → Bool) (b : Bool) : ∃ c' : Int × Int → Bool, ((allP n).take (i + 1)).filter c' = ((allP n).take i).filter c ++ (if b = true then [p] else []) := by
  have pn : p ∉ (allP n).take i := fun z => by
    have nd := asc_nodup (allP_asc n)
    have e := take_next h
    have nd2 : ((allP n).take (i + 1)).Nodup := nd.sublist (List.take_sublist _ _)
    rw [e] at nd2
    exact (List.nodup_append.mp nd2).2.2 p z p (List.mem_singleton.mpr rfl) rfl
  refine ⟨fun z => if z = p then b else c z, ?_⟩
  rw [take_next h, List.filter_append]
  congr 1
  · refine List.filter_congr fun z hz => ?_
    rw [if_neg (fun e => pn (by rw [← e]; exact hz))]
  · cases b <;> simp
end

set_option Elab.async false
set_option linter.all false
set_option maxRecDepth 100000
set_option maxHeartbeats 4000000
open PySem PySem.Spec PyProof.Rows L2

section
variable {P : Program} {w : World} {K : PySem.W.Frag} {mg : Str → Option Value} {base : Heap}
theorem flat_ints (ns : List Int) : (ns.map V.int).all flatV = true := by
  rw [List.all_eq_true]
  intro x hx
  obtain ⟨n, _, rfl⟩ := List.mem_map.mp hx
  rfl
theorem eqV_int (i j : Int) : eqV (.int i) (.int j) = decide (i = j) := by
  show (i == j) = decide (i = j)
  exact int_beq i j
end

set_option Elab.async false
set_option linter.all false
set_option maxRecDepth 100000
set_option maxHeartbeats 4000000
open PySem PySem.Spec PyProof.Rows L2

section
variable {P : Program} {w : World} {K : PySem.W.Frag} {mg : Str → Option Value} {base : Heap}
end

set_option Elab.async false
set_option linter.all false
set_option maxRecDepth 100000
set_option maxHeartbeats 4000000
open PySem PySem.Spec PyProof.Rows L2

/-! ## trees -/
inductive Tr where
  | leaf (z : Int)
  | node (w : Bool) (ts : List Tr)
def wd (w : Bool) : PySem.Str := if w then "join" else "union"
mutual
def dp : Tr → Nat
  | .leaf _ => 0
  | .node _ ts => dps ts + 1
def dps : List Tr → Nat
  | [] => 0
  | t :: ts => max (dp t) (dps ts)
end
mutual
inductive TreeAt (H : Hp) : V → Tr → Prop
  | leaf (z : Int) : TreeAt H (.int z) (.leaf z)
  | node {a : Addr} {xs : List V} {ts : List Tr} (w : Bool) (h : H a = some (.tup (.str (wd w) :: xs))) (t : TreesAt H xs ts) : TreeAt H (.ref a) (.node w ts)
inductive TreesAt (H : Hp) : List V → List Tr → Prop
  | nil : TreesAt H [] []
  | cons {x : V} {xs : List V} {t : Tr} {ts : List Tr} (h : TreeAt H x t) (r : TreesAt H xs ts) : TreesAt H (x :: xs) (t :: ts)
end
mutual
theorem TreeAt.tk {H H' : Hp} (k : TK H H') : ∀ (t : Tr) {v : V}, TreeAt H v t → TreeAt H' v t
  | .leaf _, _, .leaf z => .leaf z
  | .node _ ts, _, .node w h t => .node w (k _ _ h) (TreesAt.tk k ts t)
theorem TreesAt.tk {H H' : Hp} (k : TK H H') : ∀ (ts : List Tr) {vs : List V}, TreesAt H vs ts → TreesAt H' vs ts
  | [], _, .nil => .nil
  | t :: ts, _, .cons h r => .cons (TreeAt.tk k t h) (TreesAt.tk k ts r)
end
section
variable {P : Program} {w : World} {K : PySem.W.Frag} {mg : Str → Option Value} {base : Heap}
theorem r_isiTup {H : Hp} {Q : VK} {a : Addr} {xs : List V} (h : H a = some (.tup xs)) (q : Q (.bl true) H) : rIsi K [.ref a, .ty "tuple"] H Q := ⟨.ref a, .ty "tuple", .type "tuple", .type "tuple", true, rfl, .ty _, .base (.tup h), kit_ty (by decide +kernel), q⟩
theorem pd_erase {α β : Type} {F : α → β → Prop} : ∀ {xs : List α} {ps : List β} (k : Nat), Paired F xs ps → Paired F (xs.eraseIdx k) (ps.eraseIdx k)
  | _, _, _, .nil => .nil
  | _, _, 0, .cons _ t => t
  | _, _, k + 1, .cons f t => .cons f (pd_erase k t)
end

set_option Elab.async false
set_option linter.all false
set_option maxRecDepth 100000
set_option maxHeartbeats 4000000
open PySem PySem.Spec PyProof.Rows L2

abbrev s_law_graph : Stmt := topS 326
theorem sc_law_graph : FnScope ["pool", "most", "n", "turn", "dense", "edges", "v", "many", "k", "places", "names", "edge", "pair"] ["pool", "most"] (defScope s_law_graph) := ⟨rfl, rfl, rfl, by decide +kernel, rfl, by decide +kernel, by decide +kernel⟩

section
variable {P : Program} {w : World} {K : PySem.W.Frag} {mg : Str → Option Value} {base : Heap}
end

set_option Elab.async false
set_option linter.all false
set_option maxRecDepth 100000
set_option maxHeartbeats 4000000
open PySem PySem.Spec PyProof.Rows L2

section
variable {P : Program} {w : World} {K : PySem.W.Frag} {mg : Str → Option Value} {base : Heap}
theorem inV_ints (ns : List Int) (z : Int) : inV (.int z) (ns.map V.int) = decide (z ∈ ns) := by
  unfold inV
  rw [List.any_map]
  refine Bool.eq_iff_iff.mpr ?_
  rw [List.any_eq_true, decide_eq_true_eq]
  constructor
  · rintro ⟨y, hy, h⟩
    have h1 : eqV (.int y) (.int z) = true := h
    rw [eqV_int] at h1
    rw [← of_decide_eq_true h1]
    exact hy
  · intro h
    refine ⟨z, h, ?_⟩
    show eqV (.int z) (.int z) = true
    rw [eqV_int]
    exact decide_eq_true rfl
theorem r_inI {H : Hp} {Q : VK} {m : Addr} {ns : List Int} {z : Int} (h : SqL K H m (ns.map V.int) ∨ SqT K H m (ns.map V.int)) (q : Q (.bl (decide (z ∈ ns))) H) : rIn K false (.int z) (.ref m) H Q := ⟨m, _, rfl, h, rfl, flat_ints ns, by
  rw [if_neg Bool.false_ne_true, inV_ints]
  exact q⟩
end

set_option Elab.async false
set_option linter.all false
set_option maxRecDepth 100000
set_option maxHeartbeats 4000000
open PySem PySem.Spec PyProof.Rows L2

section
variable {P : Program} {w : World} {K : PySem.W.Frag} {mg : Str → Option Value} {base : Heap}
end

set_option Elab.async false
set_option linter.all false
set_option maxRecDepth 100000
set_option maxHeartbeats 4000000
open PySem PySem.Spec PyProof.Rows L2

section
variable {P : Program} {w : World} {K : PySem.W.Frag} {mg : Str → Option Value} {base : Heap}
end

set_option Elab.async false
set_option linter.all false
set_option maxRecDepth 100000
set_option maxHeartbeats 4000000
open PySem PySem.Spec PyProof.Rows L2

section
variable {P : Program} {w : World} {K : PySem.W.Frag} {mg : Str → Option Value} {base : Heap}
end

set_option Elab.async false
set_option linter.all false
set_option maxRecDepth 100000
set_option maxHeartbeats 4000000
open PySem PySem.Spec PyProof.Rows L2

section
variable {P : Program} {w : World} {K : PySem.W.Frag} {mg : Str → Option Value} {base : Heap}
end

set_option Elab.async false
set_option linter.all false
set_option maxRecDepth 100000
set_option maxHeartbeats 4000000
open PySem PySem.Spec PyProof.Rows L2

section
variable {P : Program} {w : World} {K : PySem.W.Frag} {mg : Str → Option Value} {base : Heap}
end

set_option Elab.async false
set_option linter.all false
set_option maxRecDepth 100000
set_option maxHeartbeats 4000000
open PySem PySem.Spec PyProof.Rows L2

section
variable {P : Program} {w : World} {K : PySem.W.Frag} {mg : Str → Option Value} {base : Heap}
end

set_option Elab.async false
set_option linter.all false
set_option maxRecDepth 100000
set_option maxHeartbeats 4000000
open PySem PySem.Spec PyProof.Rows L2

section
variable {P : Program} {w : World} {K : PySem.W.Frag} {mg : Str → Option Value} {base : Heap}
end

set_option Elab.async false
set_option linter.all false
set_option maxRecDepth 100000
set_option maxHeartbeats 4000000
open PySem PySem.Spec PyProof.Rows L2

section
variable {P : Program} {w : World} {K : PySem.W.Frag} {mg : Str → Option Value} {base : Heap}
end

set_option Elab.async false
set_option linter.all false
set_option maxRecDepth 100000
set_option maxHeartbeats 4000000
open PySem PySem.Spec PyProof.Rows L2 LamX RZ
abbrev s_size_of : Stmt := topS 26
theorem sc_size_of : FnScope ["mask"] ["mask"] (defScope s_size_of) := ⟨rfl, rfl, rfl, by decide +kernel, rfl, by decide +kernel, by decide +kernel⟩

section
variable {P : Program} {w : World} {K : PySem.W.Frag} {mg : Str → Option Value} {base : Heap}
theorem r_fmtB {te : TE} {σ : L2.St} {H : Hp} {Q : VK} (h : te σ H fun x H1 => ∃ m : Nat, x = .int (m : Nat) ∧ m < 128 ∧ Q (.str (binS m)) H1) : tFmtB te σ H Q := h
def spSize : Sp := fun vs H Q _ => ∃ m : Nat, vs = [.int (m : Nat)] ∧ m < 128 ∧ Q (.int (pop m : Nat)) H
theorem ok_size (T : Blt mg) (D : DefAt K mg "size_of" s_size_of ["mask"]) : FnOk P w K mg base CX0 1 D.f D.fd ["mask"] spSize := by
  refine D.F.ok sc_size_of (fun vs H Q E h => ?_) (fun cdv A outer s H vs Q E hr h => ?_)
  · obtain ⟨m, rfl, _⟩ := h
    rfl
  · obtain ⟨m, rfl, lm, q⟩ := h
    refine ⟨_, (pss_one (ps_ret (PE.bmK (K := K) rfl (pe_bm PySem.F.plainAttrs_str PySem.F.slot_str_count PySem.F.type_str_count mt_count (pe_joined1 (pe_fmtB (pv 0))) (pa_cons pe_str pa_nil))))), ?_⟩
    refine r_at (σ := [some _]) rfl ?_
    walk_at "z"
    refine r_fmtB ?_
    walk_at "z"
    refine ⟨m, rfl, lm, ?_⟩
    walk_at "z"
    refine ⟨rfl, _, _, rfl, rfl, ?_⟩
    rw [binS_count m lm]
    exact q
end

set_option Elab.async false
set_option linter.all false
set_option maxRecDepth 100000
set_option maxHeartbeats 4000000
open PySem PySem.Spec PyProof.Rows L2 LamX RZ

theorem msk_natC {x : Int} {S : Int → Prop} (h : Msk x S) (b : ∀ i : Nat, S i → i < 7) : ∃ m : Nat, x = (m : Int) ∧ m < 128 ∧ ∀ i : Nat, m.testBit i = true ↔ S i := by
  refine ⟨x.toNat, by have := h.nn; omega, Nat.lt_pow_two_of_testBit (n := 7) x.toNat fun i hi => ?_, h.bits⟩
  cases c : x.toNat.testBit i with
  | false => rfl
  | true =>
    have := b i ((h.bits i).mp c)
    omega
/-- a set of small numbers as bits -/
theorem bits_ofC : ∀ (ks : List Int), ks.Nodup → (∀ k ∈ ks, 0 ≤ k ∧ k < 7) → ∃ Y < 128, (∀ i : Nat, Y.testBit i = true ↔ ((i : Nat) : Int) ∈ ks) ∧ pop Y = ks.length
  | [], _, _ => ⟨0, by decide, fun i => by simp, pop_zero⟩
  | k :: ks, nd, b => by
    obtain ⟨n1, n2⟩ := List.nodup_cons.mp nd
    obtain ⟨Y, hY, bY, pY⟩ := bits_ofC ks n2 fun z hz => b z (List.mem_cons_of_mem _ hz)
    have bk := b k List.mem_cons_self
    obtain ⟨v, rfl⟩ : ∃ v : Nat, k = (v : Int) := ⟨k.toNat, by omega⟩
    have v7 : v < 7 := by omega
    have lt2 := (pop_or1 Y hY v v7).1
    have bb : ∀ i : Nat, (Y ||| 2 ^ v).testBit i = true ↔ ((i : Nat) : Int) ∈ ((v : Nat) : Int) :: ks := fun i => by
      rw [Nat.testBit_or, Nat.testBit_two_pow, Bool.or_eq_true, decide_eq_true_iff, bY, List.mem_cons]
      constructor
      · rintro (h | h)
        · exact .inr h
        · exact .inl (by omega)
      · rintro (h | h)
        · exact .inr (by omega)
        · exact .inl h
    refine ⟨Y ||| 2 ^ v, lt2, bb, ?_⟩
    have tv : (Y ||| 2 ^ v).testBit v = true := (bb v).mpr List.mem_cons_self
    obtain ⟨_, p2⟩ := pop_xor _ lt2 v v7 tv
    have e : (Y ||| 2 ^ v) ^^^ 2 ^ v = Y := Nat.eq_of_testBit_eq fun u => by
      rw [Nat.testBit_xor, Nat.testBit_or, Nat.testBit_two_pow]
      by_cases c : v = u
      · subst c
        have : Y.testBit v = false := by
          cases d : Y.testBit v with
          | false => rfl
          | true => exact absurd ((bY v).mp d) n1
        simp [this]
      · simp [c]
    rw [e] at p2
    rw [List.length_cons]
    omega
theorem mem_pop {X : Nat} (hX : X < 128) {ns : List Int} (asc : ns.Pairwise (· < ·)) (mem : ∀ z, z ∈ ns ↔ 0 ≤ z ∧ X.testBit z.toNat = true) : ns.length = pop X := by
  obtain ⟨Y, hY, bY, pY⟩ := bits_ofC ns (asc.imp fun h => by omega) fun k hk => by
    obtain ⟨k0, kb⟩ := (mem k).mp hk
    have := bit_lt hX kb
    omega
  have : Y = X := Nat.eq_of_testBit_eq fun i => Bool.eq_iff_iff.mpr ((bY i).trans ((mem _).trans ⟨fun h => by have := h.2; rwa [Int.toNat_natCast] at this, fun h => ⟨Int.natCast_nonneg _, by rw [Int.toNat_natCast]; exact h⟩⟩))
  rw [← this, pY]
section
variable {P : Program} {w : World} {K : PySem.W.Frag} {mg : Str → Option Value} {base : Heap}
end

set_option Elab.async false
set_option linter.all false
set_option maxRecDepth 100000
set_option maxHeartbeats 4000000
open PySem PySem.Spec PyProof.Rows L2 LamX RZ

abbrev s_masks_behind : Stmt := topS 22
theorem sc_masks_behind : FnScope ["graph", "order", "around", "left", "behind", "v"] ["graph", "order"] (defScope s_masks_behind) := ⟨rfl, rfl, rfl, by decide +kernel, rfl, by decide +kernel, by decide +kernel⟩

abbrev s_is_order : Stmt := topS 7
theorem sc_is_order : FnScope ["n", "value"] ["n", "value"] (defScope s_is_order) := ⟨rfl, rfl, rfl, by decide +kernel, rfl, by decide +kernel, by decide +kernel⟩

section
variable {P : Program} {w : World} {K : PySem.W.Frag} {mg : Str → Option Value} {base : Heap}
def spMBeh (K : PySem.W.Frag) : Sp := fun vs H Q _ => ∃ (g : V) (a : Addr) (n : Nat) (ps : List (Int × Int)) (ns : List Int), vs = [g, .ref a] ∧ GrAt H g (n : Int) ps ∧ n ≤ 60 ∧ ps.length ≤ 10000 ∧ (∀ p ∈ ps, 0 ≤ p.1 ∧ p.1 < p.2 ∧ p.2 < (n : Int)) ∧ SqT K H a (ns.map V.int) ∧ (∀ z ∈ ns, 0 ≤ z ∧ z < (n : Int)) ∧ ns.Nodup ∧
  ∀ (l : Addr) (ms : List Int) (H' : Hp), Same H H' → H' l = some (.lst (ms.map V.int)) → ms.length = ns.length → (∀ (i : Nat) v m, ns[i]? = some v → ms[i]? = some m → Msk m (fun z => z ∈ adjL ps v.toNat ∧ z ∈ ns.drop (i + 1))) → Q (.ref l) H'
theorem ok_mbeh (T : Blt mg) (D : DefAt K mg "masks_behind" s_masks_behind ["graph", "order"])
    (D_neighbour_masks : DefAt K mg "neighbour_masks" s_neighbour_masks ["graph"]) (G_neighbour_masks : FnOk P w K mg base CX0 2 D_neighbour_masks.f D_neighbour_masks.fd ["graph"] spNMasks)
    (D_mask_of : DefAt K mg "mask_of" s_mask_of ["members"]) (G_mask_of : FnOk P w K mg base CX0 1 D_mask_of.f D_mask_of.fd ["members"] (spMask K)) :
    FnOk P w K mg base CX0 3 D.f D.fd ["graph", "order"] (spMBeh K) := by
  refine D.F.ok sc_masks_behind (fun vs H Q E h => ?_) (fun cdv A outer s H vs Q E hr h => ?_)
  · obtain ⟨g, a, n, ps, ns, rfl, _⟩ := h
    rfl
  · obtain ⟨g, a, n, ps, ns, rfl, hgr, n60, hlen, inn, hx, bd, nd, q⟩ := h
    have ln : ns.length ≤ 60 := by
      have := nodup_le ns (rgI (n : Int)) nd fun v hv => mem_rgI.mpr (bd v hv)
      rw [rgI_len] at this
      omega
    refine ⟨_, (pss_cons (ps_set (i := 2) sc_masks_behind.nd rfl (Or.inl rfl) (pe_call G_neighbour_masks (hr.mono (by first | decide | omega)) (by rfl) D_neighbour_masks.g D_neighbour_masks.F.kp D_neighbour_masks.b .nil pass0 (pa_cons (pv 0) pa_nil)))
      (pss_cons (ps_set (i := 3) sc_masks_behind.nd rfl (Or.inl rfl) (pe_call G_mask_of (hr.mono (by first | decide | omega)) (by rfl) D_mask_of.g D_mask_of.F.kp D_mask_of.b .nil pass0 (pa_cons (pv 1) pa_nil)))
      (pss_cons (ps_set (i := 4) sc_masks_behind.nd rfl (Or.inl rfl) (pe_lst pa_nil))
      (pss_cons (ps_for PassesOwn.never (by rfl) (PI.tupK (K := K) rfl (pi_tup (pv 1))) (pg_name (i := 5) sc_masks_behind.nd rfl (Or.inl rfl))
        (pss_cons (ps_aug (i := 3) sc_masks_behind.nd rfl (Or.inl rfl) (pe_un un_inv (pe_op op_shl pe_int (pv 5))) iop_and)
        (pss_one (ps_expr (PE.bmK (K := K) rfl (pe_bm PySem.F.plainAttrs_list PySem.F.slot_list_append PySem.F.type_list_append mt_append (pv 4) (pa_cons (pe_op op_and (pe_ix (ix_listK (K := K) rfl) (pv 2) (pv 5) (fun _ _ => rfl)) (pv 3)) pa_nil)))))))
      (pss_one (ps_ret (pv 4))))))), ?_⟩
    refine r_at (σ := [some _, some _, none, none, none, none]) rfl ?_
    walk_at "z"
    refine ⟨g, n, ps, rfl, hgr, by omega, hlen, inn, fun l ms H1 s1 hms lm mk => ?_⟩
    have hx1 := sqT_sm s1 hx
    walk_at "z"
    refine ⟨a, ns, rfl, .inr hx1, fun v hv => ⟨(bd v hv).1, by have := (bd v hv).2; omega⟩, fun x mx => ?_⟩
    walk_at "z"
    refine r_lstN (by decide) fun c hc => ?_
    have s2 : Same H1 (upd H1 c (.lst [])) := same_new hc
    have hc2 : (upd H1 c (.lst [])) c = some (.lst (([] : List Int).map V.int)) := upd_same
    have c0 : H1 c = none := hc
    generalize upd H1 c (.lst []) = H2 at s2 hc2 ⊢
    walk_at "z"
    refine r_it (sqT_sm s2 hx1) (forR_tup (xs := ns.map V.int) (fun i σ' H' => ∃ (y : Int) (x5 : Option V) (bs : List Int), σ' = [some g, some (.ref a), some (.ref l), some (.int y), some (.ref c), x5] ∧ Same H1 H' ∧ H' c = some (.lst (bs.map V.int)) ∧ bs.length = i ∧ Msk y (fun z => z ∈ ns.drop i) ∧ ∀ (j : Nat) v m, ns[j]? = some v → bs[j]? = some m → Msk m (fun z => z ∈ adjL ps v.toNat ∧ z ∈ ns.drop (j + 1)))
      ⟨x, _, [], rfl, s2, hc2, rfl, mx, fun j v m _ h => by simp at h⟩ (fun i σ' H' _ ⟨_, _, _, _, s3, _⟩ => sqT_sm s3 hx1) ?_ ?_)
    · rintro i yv σ' H' hy ⟨y, x5, bs, rfl, s3, hbs, lb, my, hm⟩
      rw [List.getElem?_map] at hy
      obtain ⟨v, hv, rfl⟩ := Option.map_eq_some_iff.mp hy
      have il := (List.getElem?_eq_some_iff.mp hv).1
      have vb := bd v (List.mem_of_getElem? hv)
      obtain ⟨m, hmv⟩ : ∃ m, ms[v.toNat]? = some m := ⟨_, List.getElem?_eq_getElem (by omega)⟩
      have ed : ns.drop i = v :: ns.drop (i + 1) := by
        rw [List.drop_eq_getElem_cons il]
        congr 1
        exact (List.getElem?_eq_some_iff.mp hv).2
      have nd2 : (v :: ns.drop (i + 1)).Nodup := ed ▸ nd.sublist (List.drop_sublist _ _)
      have my2 := (my.andB (Msk.shl (v := v) vb.1).bts.not).congr (T := fun z => z ∈ ns.drop (i + 1)) fun z => by
        rw [ed, List.mem_cons]
        constructor
        · rintro ⟨h1, h2⟩
          exact h1.resolve_left fun e => h2 (by omega)
        · exact fun h => ⟨.inr h, fun e => (List.nodup_cons.mp nd2).1 (by rwa [show v = (z : Int) by omega])⟩
      walk_at "z"
      refine r_aug rfl ?_
      walk_at "z"
      refine r_i ⟨by omega, by omega, by decide⟩ ?_
      walk_at "z"
      refine r_augI rfl ?_
      simp only [List.set_cons_succ, List.set_cons_zero]
      walk_at "z"
      refine r_ixL (.inl (.inl (s3 _ _ hms))) (at_of (j := v.toNat) (by omega) (by rw [List.getElem?_map, hmv]; rfl)) ?_
      walk_at "z"
      refine r_appT hbs (small_lt (by rw [List.length_map]; omega)) ⟨_, _, bs ++ [_], rfl, same_mut s3 c0, by rw [List.map_append]; exact upd_same, by rw [List.length_append, lb]; rfl, my2, fun j v' m' h1 h2 => ?_⟩
      rcases Nat.lt_or_ge j bs.length with c3 | c3
      · rw [List.getElem?_append_left c3] at h2
        exact hm j v' m' h1 h2
      · rw [List.getElem?_append_right c3] at h2
        have ej : j = i := by
          have := (List.getElem?_eq_some_iff.mp h2).1
          simp only [List.length_cons, List.length_nil] at this
          omega
        rw [ej, lb, Nat.sub_self] at h2
        cases h2
        rw [ej, hv] at h1
        cases h1
        rw [ej]
        exact (mk _ _ hmv).and my2
    · rintro σ' H' ⟨y, x5, bs, rfl, s3, hbs, lb, my, hm⟩
      rw [List.length_map] at lb
      walk_at "z"
      exact q c bs H' (s1.trans s3) hbs lb hm
def spOrdX (bb : Addr) (TT : List (Addr × Str)) : Sp := fun vs H Q _ => ∃ (n : Int) (v : V) (d : PyData), vs = [.int n, v] ∧ DX bb H v d ∧ n ≤ 100 ∧ (∀ ds, d = .tuple ds → ds.length ≤ 1000) ∧ Tabs TT H ∧
  ∀ (r : Bool) H', ExtN H H' → Tabs TT H' → (r = true ↔ ∃ ns : List Int, d = .tuple (ns.map PyData.int) ∧ (∀ z ∈ ns, 0 ≤ z ∧ z < n) ∧ ns.Nodup ∧ (ns.length : Int) = n) → Q (.bl r) H'
theorem ok_ordX {bb : Addr} {TT : List (Addr × Str)} (T : Blt mg) (D : DefAt K mg "is_order" s_is_order ["n", "value"])
    (D_is_row : DefAt K mg "is_row" s_is_row ["n", "value"]) (G_is_row : FnOk P w K mg base CX0 8 D_is_row.f D_is_row.fd ["n", "value"] (spIsRow bb TT)) : FnOk P w K mg base CX0 9 D.f D.fd ["n", "value"] (spOrdX bb TT) := by
  refine D.F.ok sc_is_order (fun vs H Q E h => ?_) (fun cdv A outer s H vs Q E hr h => ?_)
  · obtain ⟨n, v, d, rfl, _⟩ := h
    rfl
  · obtain ⟨n, v, d, rfl, hd, n1, len, hT, q⟩ := h
    refine ⟨_, (pss_one (ps_ret (pe_and (pe_call G_is_row (hr.mono (by first | decide | omega)) (by rfl) D_is_row.g D_is_row.F.kp D_is_row.b .nil pass0 (pa_cons (pv 0) (pa_cons (pv 1) pa_nil))) (pe_one (pe_cmpR op_eq (pe_callB (call_lenK (K := K) rfl) (by rfl) T.len (by decide +kernel) (pa_cons (pv 1) pa_nil)) (pv 0) (nomark _)))))), ?_⟩
    refine r_at (σ := [some _, some _]) rfl ?_
    walk_at "z"
    refine ⟨n, v, d, rfl, hd, n1, len, hT, fun H1 e1 T1 => ?_⟩
    cases er : rowD n d with
    | false =>
      walk_at "z"
      exact q false H1 e1 T1 ⟨fun h => (nomatch h), fun ⟨ns, e, b, nd, _⟩ => (rowD_false er e b nd).elim⟩
    | true =>
      obtain ⟨ns, rfl, b, nd⟩ := rowD_of er
      cases hd.ext e1 with
      | @tup a xs _ hxs hxd =>
      rw [dx_ints hxd] at hxs
      have hxs : SqT K H1 a (ns.map V.int) := .inl hxs
      walk_at "z"
      rw [List.length_map]
      refine q _ H1 e1 T1 (decide_eq_true_iff.trans ⟨fun h => ⟨ns, rfl, b, nd, h⟩, fun ⟨ms, e, _, _, h⟩ => by rw [ints_inj (PyData.tuple.inj e)]; exact h⟩)
end

set_option Elab.async false
set_option linter.all false
set_option maxRecDepth 100000
set_option maxHeartbeats 4000000
open PySem PySem.Spec PyProof.Rows L2

abbrev s_full_mask : Stmt := topS 34
theorem sc_full_mask : FnScope ["n"] ["n"] (defScope s_full_mask) := ⟨rfl, rfl, rfl, by decide +kernel, rfl, by decide +kernel, by decide +kernel⟩

/-- u and v are neighbours -/
def Nb (ps : List (Int × Int)) (u v : Int) : Prop := (u, v) ∈ ps ∨ (v, u) ∈ ps
instance {ps : List (Int × Int)} {u v : Int} : Decidable (Nb ps u v) := inferInstanceAs (Decidable (_ ∨ _))
section
variable {P : Program} {w : World} {K : PySem.W.Frag} {mg : Str → Option Value} {base : Heap}
def spFull : Sp := fun vs H Q _ => ∃ n : Int, vs = [.int n] ∧ 0 ≤ n ∧ n ≤ 1000 ∧ Q (.int (1 * 2 ^ n.toNat - 1)) H
theorem ok_full (T : Blt mg) (D : DefAt K mg "full_mask" s_full_mask ["n"]) : FnOk P w K mg base CX0 1 D.f D.fd ["n"] spFull := by
  refine D.F.ok sc_full_mask (fun vs H Q E h => ?_) (fun cdv A outer s H vs Q E hr h => ?_)
  · obtain ⟨n, rfl, _⟩ := h
    rfl
  · obtain ⟨n, rfl, n0, n1, q⟩ := h
    refine ⟨_, (pss_one (ps_ret (pe_op op_sub (pe_op op_shl pe_int (pv 0)) pe_int))), ?_⟩
    refine r_at (σ := [some _]) rfl ?_
    walk_at "z"
    refine r_i ⟨by omega, by omega, by decide⟩ ?_
    walk_at "z"
    exact q
end

set_option Elab.async false
set_option linter.all false
set_option maxRecDepth 100000
set_option maxHeartbeats 4000000
open PySem PySem.Spec PyProof.Rows L2
/-! # match: words (one or several), two words and names, anything -/
/-- each pattern of these is a word -/
inductive WPats : List Pattern → List PySem.Str → Prop where
  | nil : WPats [] []
  | cons {ps : List Pattern} {zs : List PySem.Str} (z : PySem.Str) (j : Nat) (p1 p2 : Pos) (r : WPats ps zs) : WPats (.MatchValue (.Constant (.str z) j p1) p2 :: ps) (z :: zs)
section
variable {X : Cx} {pins : List (Addr × Obj)} {σ : L2.St} {H : Hp}
theorem val_pat {z y : PySem.Str} {j : Nat} {p1 p2 : Pos} {u : Value} {s : Shared} {Q : Option (List (PySem.Str × Value)) → Shared → Prop} (I : Inv X pins σ H s) (r0 : RelV (.str y) u) (h : ∀ s', Inv X pins σ H s' → Q (if y = z then some [] else none) s') :
    wpAny (model X.prog X.w) X.A (matchPattern (.MatchValue (.Constant (.str z) j p1) p2) X.env u) Q X.xe s := by
  refine wpAny_matchPattern_Value ?_
  have pz : PE X (.Constant (.str z) j p1) (tC (.str z)) := pe_str
  refine thn (pz.run pins _ σ H (fun x H' => x = .str z ∧ H' = H) I ⟨rfl, rfl⟩) fun uz s2 ⟨vz, H2, I2, rz, ez, eh⟩ => ?_
  subst ez eh
  refine thn (op_eq pins s2 σ H2 (.str y) (.str z) u uz (fun x H' => x = .bl (decide (y = z)) ∧ H' = H2) I2 r0 rz ⟨rfl, ?_, rfl⟩) fun uc s3 ⟨vc, H3, I3, rc, ec, eh3⟩ => ?_
  · exact congrArg V.bl (by simp)
  · subst ec eh3
    cases (show uc = Value.bool (decide (y = z)) from rc)
    refine wpAny_truthy_bool ?_
    have q := h s3 I3
    by_cases e : y = z
    · rw [decide_eq_true e, if_pos rfl]
      rw [if_pos e] at q
      exact q
    · rw [decide_eq_false e, if_neg Bool.false_ne_true]
      rw [if_neg e] at q
      exact q
theorem first_pat {y : PySem.Str} {u : Value} {Q : Option (List (PySem.Str × Value)) → Shared → Prop} {ps : List Pattern} {zs : List PySem.Str} (c : WPats ps zs) : ∀ {s : Shared}, Inv X pins σ H s → RelV (.str y) u → (∀ s', Inv X pins σ H s' → Q (if y ∈ zs then some [] else none) s') →
    wpAny (model X.prog X.w) X.A (matchFirst ps X.env u) Q X.xe s := by
  induction c with
  | nil =>
    intro s I r0 h
    refine wpAny_matchFirst_nil ?_
    have := h s I
    rwa [if_neg (List.not_mem_nil)] at this
  | @cons ps zs z j p1 p2 r ih =>
    intro s I r0 h
    refine wpAny_matchFirst_cons (val_pat I r0 fun s' I' => ?_)
    by_cases e : y = z
    · rw [if_pos e]
      have := h s' I'
      rwa [if_pos (by rw [e]; exact List.mem_cons_self)] at this
    · rw [if_neg e]
      refine ih I' r0 fun s2 I2 => ?_
      have := h s2 I2
      have iff : y ∈ z :: zs ↔ y ∈ zs := by rw [List.mem_cons]; exact ⟨fun h => h.elim (fun h => absurd h e) id, .inr⟩
      simp only [iff] at this
      exact this
/-- case 'a' | 'b' | .. -/
def tStrs (zs : List PySem.Str) (tb : TS) (rest : V → TS) : V → TS := fun v D σ H => ∃ y : PySem.Str, v = .str y ∧ (y ∈ zs → tb D σ H) ∧ (y ∉ zs → rest v D σ H)
theorem pm_or {ps : List Pattern} {zs : List PySem.Str} {p3 : Pos} {body : List Stmt} {cs : List MatchCase} {tb : TS} {rest : V → TS} (c : WPats ps zs) (hb : PSs X body tb) (hr : PMc X cs rest) (hn : namesOfAll (ps.take 1) = [] := by rfl) : PMc X (⟨.MatchOr ps p3, none, body⟩ :: cs) (tStrs zs tb rest) := by
  refine ⟨fun pins s σ H D v u first I r h => ?_⟩
  obtain ⟨y, rfl, yes, no⟩ := h
  refine wpAny_matchCases_cons (wpAny_matchPattern_Or (first_pat c I r fun s' I' => ?_))
  by_cases e : y ∈ zs
  · rw [if_pos e]
    show wpAny _ _ (assignInOrder ((((namesOfAll (ps.take 1)).filterMap fun n => (([] : List (PySem.Str × Value)).lookup n).map (n, ·))).map fun (n, _) => bindName X.env n) ((((namesOfAll (ps.take 1)).filterMap fun n => (([] : List (PySem.Str × Value)).lookup n).map (n, ·))).map (·.2))) _ _ _
    rw [hn]
    refine wpAny_assignInOrder_none ?_
    exact hb.run pins s' σ H D I' (yes e)
  · rw [if_neg e]
    exact hr.run pins s' σ H D (.str y) u false I' r (no e)
theorem pm_str {z : PySem.Str} {j : Nat} {p1 p2 : Pos} {body : List Stmt} {cs : List MatchCase} {tb : TS} {rest : V → TS} (hb : PSs X body tb) (hr : PMc X cs rest) : PMc X (⟨.MatchValue (.Constant (.str z) j p1) p2, none, body⟩ :: cs) (tStrs [z] tb rest) := by
  refine ⟨fun pins s σ H D v u first I r h => ?_⟩
  obtain ⟨y, rfl, yes, no⟩ := h
  refine wpAny_matchCases_cons (val_pat I r fun s' I' => ?_)
  by_cases e : y = z
  · rw [if_pos e]
    refine wpAny_assignInOrder_none ?_
    exact hb.run pins s' σ H D I' (yes (List.mem_singleton.mpr e))
  · rw [if_neg e]
    exact hr.run pins s' σ H D (.str y) u false I' r (no fun k => e (List.mem_singleton.mp k))
/-- case _ -/
def tElse (tb : TS) : V → TS := fun _ D σ H => tb D σ H
theorem pm_else {p : Pos} {body : List Stmt} {tb : TS} (hb : PSs X body tb) : PMc X [⟨.MatchAs none none p, none, body⟩] (tElse tb) := by
  refine ⟨fun pins s σ H D v u first I r h => ?_⟩
  refine wpAny_matchCases_cons (wpAny_matchPattern_Capture ?_)
  refine wpAny_assignInOrder_none ?_
  exact hb.run pins s σ H D I h
/-- case ['a', 'b', n1, ..] -/
def tTwo (K : PySem.W.Frag) (z1 z2 : PySem.Str) (n : Nat) (g : TGs) (tb : TS) (rest : V → TS) : V → TS := fun v D σ H => ∃ (a : Addr) (y1 y2 : PySem.Str) (xs : List V), v = .ref a ∧ SqT K H a (.str y1 :: .str y2 :: xs) ∧
  (xs.length = n ∧ y1 = z1 ∧ y2 = z2 → g xs σ H fun σ' H' => tb D σ' H') ∧ (¬ (xs.length = n ∧ y1 = z1 ∧ y2 = z2) → rest v D σ H)
theorem pm_two {z1 z2 : PySem.Str} {j1 j2 : Nat} {p1 p2 p3 p4 p5 : Pos} {ps : List Pattern} {ns : List PySem.Str} {body : List Stmt} {cs : List MatchCase} {g : TGs} {tb : TS} {rest : V → TS} (hc : X.calm = true) (c : Caps ps ns) (hg : PBn X ns g) (hb : PSs X body tb) (hr : PMc X cs rest)
    (hs : (Pattern.MatchValue (.Constant (.str z1) j1 p1) p2 :: Pattern.MatchValue (.Constant (.str z2) j2 p3) p4 :: ps).findIdx? (·.isStar) = none := by rfl)
    (hw : ((Pattern.MatchValue (.Constant (.str z1) j1 p1) p2 :: Pattern.MatchValue (.Constant (.str z2) j2 p3) p4 :: ps).all fun p => p.isWildcard || (p.isStar && p.names.isEmpty)) = false := by rfl) :
    PMc X (⟨.MatchSequence (.MatchValue (.Constant (.str z1) j1 p1) p2 :: .MatchValue (.Constant (.str z2) j2 p3) p4 :: ps) p5, none, body⟩ :: cs) (tTwo X.K z1 z2 ns.length g tb rest) := by
  refine ⟨fun pins s σ H D v u first I r h => ?_⟩
  obtain ⟨a, y1, y2, xs, rfl, hq, yes, no⟩ := h
  cases r
  obtain ⟨its, rv, p, hz⟩ := I.tuple hq
  obtain ⟨u1, u2, us, rfl, r1, r2, rs⟩ : ∃ u1 u2 us, its = u1 :: u2 :: us ∧ RelV (.str y1) u1 ∧ RelV (.str y2) u2 ∧ Vals xs us := by
    cases rv with
    | cons r0 rs => cases rs with
      | cons r9 rs => exact ⟨_, _, _, rfl, r0, r9, rs⟩
  have xl : xs.length = us.length := rs.length
  have fit : (((u1 :: u2 :: us).toArray.size : Nat) : Int) < 2 ^ 63 := by
    have h1 : (u1 :: u2 :: us).toArray.size ≤ sizeLine := by
      have z := hz
      simp only [List.length_cons] at z
      simp only [List.size_toArray, List.length_cons]
      omega
    rw [sizeLine_eq] at h1
    omega
  refine wpAny_matchCases_cons ?_
  by_cases hl : xs.length = ns.length
  · refine matchSeq_tuple_hit p fit (by simp [c.len, ← hl, xl]) ?_ hs hw
    have en : (Pattern.MatchValue (.Constant (.str z1) j1 p1) p2 :: Pattern.MatchValue (.Constant (.str z2) j2 p3) p4 :: ps).length = (u1 :: u2 :: us).toArray.size := by simp [c.len, ← hl, xl]
    rw [en]
    refine wpAny_unpackItems_tuple (I.ok.hd hc) p fun h' eb => ?_
    have I1 : Inv X pins σ H { s with heap := h', toks := s.toks + 1 + 1 } := I.kept (t' := s.toks + 1 + 1) fun b o e => eb b o (Nat.ne_of_lt (Heap.lt_size e)) e
    show wpAny _ _ (matchEach _ _ (u1 :: u2 :: us)) _ _ _
    refine wpAny_matchEach_cons (val_pat I1 r1 fun s2 I2 => ?_)
    have fin : ∀ s9, Inv X pins σ H s9 → rest (.ref a) D σ H → wpAny (model X.prog X.w) X.A (matchCases cs X.env (.ref a) false) (SP X pins D) X.xe s9 := fun s9 I9 w => hr.run pins s9 σ H D (.ref a) (.ref a) false I9 rfl w
    by_cases e1 : y1 = z1
    · rw [if_pos e1]
      refine wpAny_matchEach_cons (val_pat I2 r2 fun s3 I3 => ?_)
      by_cases e2 : y2 = z2
      · rw [if_pos e2]
        refine caps_each c (by omega) ?_
        obtain ⟨q1, q2⟩ := zip_names (bindName X.env) ns us (by omega)
        show wpAny _ _ (assignInOrder ((([] : List (PySem.Str × Value)) ++ (([] : List (PySem.Str × Value)) ++ ns.zip us)).map fun (n, _) => bindName X.env n) ((([] : List (PySem.Str × Value)) ++ (([] : List (PySem.Str × Value)) ++ ns.zip us)).map (·.2))) _ _ _
        rw [List.nil_append, List.nil_append, q1, q2]
        refine thn (hg.run pins s3 σ H xs us _ I3 rs (yes ⟨hl, e1, e2⟩)) fun _ s4 ⟨σ4, H4, I4, q4⟩ => ?_
        exact hb.run pins s4 σ4 H4 D I4 q4
      · rw [if_neg e2]
        exact fin s3 I3 (no fun k => e2 k.2.2)
    · rw [if_neg e1]
      exact fin s2 I2 (no fun k => e1 k.2.1)
  · refine matchSeq_tuple_miss p fit (by simp [c.len]; omega) ?_ hs hw
    exact hr.run pins _ σ H D (.ref a) (.ref a) false (I.kept (t' := _) fun b o e => e) rfl (no fun k => hl k.1)
theorem pm_twoK {K : PySem.W.Frag} (hk : X.K = K) {z1 z2 : PySem.Str} {j1 j2 : Nat} {p1 p2 p3 p4 p5 : Pos} {ps : List Pattern} {ns : List PySem.Str} {body : List Stmt} {cs : List MatchCase} {g : TGs} {tb : TS} {rest : V → TS} (hc : X.calm = true) (c : Caps ps ns) (hg : PBn X ns g) (hb : PSs X body tb) (hr : PMc X cs rest)
    (hs : (Pattern.MatchValue (.Constant (.str z1) j1 p1) p2 :: Pattern.MatchValue (.Constant (.str z2) j2 p3) p4 :: ps).findIdx? (·.isStar) = none := by rfl)
    (hw : ((Pattern.MatchValue (.Constant (.str z1) j1 p1) p2 :: Pattern.MatchValue (.Constant (.str z2) j2 p3) p4 :: ps).all fun p => p.isWildcard || (p.isStar && p.names.isEmpty)) = false := by rfl) :
    PMc X (⟨.MatchSequence (.MatchValue (.Constant (.str z1) j1 p1) p2 :: .MatchValue (.Constant (.str z2) j2 p3) p4 :: ps) p5, none, body⟩ :: cs) (tTwo K z1 z2 ns.length g tb rest) := hk ▸ pm_two hc c hg hb hr hs hw
/-- a row of statements that is never walked -/
def sDead : TS := fun _ _ _ => False
theorem pss_dead {sts : List Stmt} : PSs X sts sDead := ⟨fun _ _ _ _ _ _ h => h.elim⟩
variable {K : PySem.W.Frag} {D : Ends}
theorem r_sHit {zs : List PySem.Str} {y : PySem.Str} {tb : TS} {rest : V → TS} (h : y ∈ zs) (q : tb D σ H) : tStrs zs tb rest (.str y) D σ H := ⟨y, rfl, fun _ => q, fun n => absurd h n⟩
theorem r_sMiss {zs : List PySem.Str} {y : PySem.Str} {tb : TS} {rest : V → TS} (h : y ∉ zs) (q : rest (.str y) D σ H) : tStrs zs tb rest (.str y) D σ H := ⟨y, rfl, fun n => absurd n h, fun _ => q⟩
theorem r_tHit {z1 z2 : PySem.Str} {n : Nat} {g : TGs} {tb : TS} {rest : V → TS} {a : Addr} {xs : List V} (h : H a = some (.tup (.str z1 :: .str z2 :: xs))) (hl : xs.length = n) (q : g xs σ H fun σ' H' => tb D σ' H') : tTwo K z1 z2 n g tb rest (.ref a) D σ H :=
  ⟨a, z1, z2, xs, rfl, .inl (.inl h), fun _ => q, fun x => absurd ⟨hl, rfl, rfl⟩ x⟩
theorem r_tMiss {z1 z2 y1 y2 : PySem.Str} {n : Nat} {g : TGs} {tb : TS} {rest : V → TS} {a : Addr} {xs : List V} (h : H a = some (.tup (.str y1 :: .str y2 :: xs))) (ne : ¬ (xs.length = n ∧ y1 = z1 ∧ y2 = z2)) (q : rest (.ref a) D σ H) : tTwo K z1 z2 n g tb rest (.ref a) D σ H :=
  ⟨a, y1, y2, xs, rfl, .inl (.inl h), fun x => absurd x ne, fun _ => q⟩
end

set_option Elab.async false
set_option linter.all false
set_option maxRecDepth 100000
set_option maxHeartbeats 4000000
open PySem PySem.Spec PyProof.Rows L2 LamX RZ

abbrev s_loose : Stmt := topS 293
theorem sc_loose : FnScope ["around", "left", "k", "v"] ["around", "left", "k"] (defScope s_loose) := ⟨rfl, rfl, rfl, by decide +kernel, rfl, by decide +kernel, by decide +kernel⟩

abbrev s_degenerate_paper : Stmt := topS 292
theorem sc_degenerate_paper : FnScope ["graph", "k", "around", "left", "order", "v"] ["graph", "k"] (defScope s_degenerate_paper) := ⟨rfl, rfl, rfl, by decide +kernel, rfl, by decide +kernel, by decide +kernel⟩

abbrev s_sparse_paper : Stmt := topS 291
theorem sc_sparse_paper : FnScope ["graph", "question", "kind", "k"] ["graph", "question"] (defScope s_sparse_paper) := ⟨rfl, rfl, rfl, by decide +kernel, rfl, by decide +kernel, by decide +kernel⟩

abbrev s_decide : Stmt := topS 317
theorem sc_decide : FnScope ["graph", "question"] ["graph", "question"] (defScope s_decide) := ⟨rfl, rfl, rfl, by decide +kernel, rfl, by decide +kernel, by decide +kernel⟩

/-! # how many neighbours: among the vertices of a set -/
open Classical in
/-- the vertices of S that are neighbours of v -/
noncomputable def nbS (n : Nat) (ps : List (Int × Int)) (S : Int → Prop) (v : Int) : List Int := (rgI (n : Int)).filter fun z => decide (isE ps (v, z) = true ∧ S z)
open Classical in
theorem mem_nbS {n : Nat} {ps : List (Int × Int)} {S : Int → Prop} {v z : Int} : z ∈ nbS n ps S v ↔ (0 ≤ z ∧ z < (n : Int)) ∧ isE ps (v, z) = true ∧ S z := by
  unfold nbS
  rw [List.mem_filter, decide_eq_true_iff, mem_rgI]
theorem nbS_nodup {n : Nat} {ps : List (Int × Int)} {S : Int → Prop} {v : Int} : (nbS n ps S v).Nodup := (rgI_nodup _).sublist List.filter_sublist
theorem rgI_ascG (n : Int) : (rgI n).Pairwise (· < ·) := by
  unfold rgI
  refine List.pairwise_map.mpr ?_
  exact List.pairwise_lt_range.imp fun {a b} h => by omega
theorem nbS_asc {n : Nat} {ps : List (Int × Int)} {S : Int → Prop} {v : Int} : (nbS n ps S v).Pairwise (· < ·) := (rgI_ascG _).sublist List.filter_sublist
theorem nbS_mono {n : Nat} {ps : List (Int × Int)} {S S' : Int → Prop} {v : Int} (h : ∀ z, 0 ≤ z → S z → S' z) : (nbS n ps S v).length ≤ (nbS n ps S' v).length :=
  nodup_le _ _ nbS_nodup fun z hz => by
    obtain ⟨a, b, c⟩ := mem_nbS.mp hz
    exact mem_nbS.mpr ⟨a, b, h z a.1 c⟩
/-- the mask's size -/
theorem pop_nbS {n : Nat} {ps : List (Int × Int)} {S : Int → Prop} {v m : Int} (n7 : n ≤ 7) (v0 : 0 ≤ v) (h : Msk m fun z => z ∈ adjL ps v.toNat ∧ S z) (sl : ∀ i : Nat, S i → (i : Int) < (n : Int)) : ∃ X : Nat, m = (X : Int) ∧ X < 128 ∧ pop X = (nbS n ps S v).length := by
  obtain ⟨X, e, lX, bit⟩ := msk_natC h fun i hi => by have := sl i hi.2; omega
  refine ⟨X, e, lX, (mem_pop lX nbS_asc fun z => ?_).symm⟩
  rw [mem_nbS]
  constructor
  · rintro ⟨⟨z0, z1⟩, e, s⟩
    refine ⟨z0, (bit z.toNat).mpr ?_⟩
    rw [show ((z.toNat : Nat) : Int) = z by omega]
    exact ⟨(isE_adj v0).mp e, s⟩
  · rintro ⟨z0, h⟩
    have := (bit z.toNat).mp h
    rw [show ((z.toNat : Nat) : Int) = z by omega] at this
    have l := sl z.toNat (by rw [show ((z.toNat : Nat) : Int) = z by omega]; exact this.2)
    exact ⟨⟨z0, by omega⟩, (isE_adj v0).mpr this.1, this.2⟩
/-- a row in which each vertex has at most k neighbours behind it, and left -/
def ElimK (n : Nat) (ps : List (Int × Int)) (k : Int) (os : List Int) (S : Int → Prop) : Prop := ∀ (i : Nat) v, os[i]? = some v → ((nbS n ps (fun z => z ∈ os.drop (i + 1) ∨ S z) v).length : Int) ≤ k
theorem ElimK.nil {n : Nat} {ps : List (Int × Int)} {k : Int} {S : Int → Prop} : ElimK n ps k [] S := fun i v h => by simp at h
theorem ElimK.step {n : Nat} {ps : List (Int × Int)} {k : Int} {os : List Int} {S S' : Int → Prop} {v : Int} (h : ElimK n ps k os S) (hv : S v) (few : ((nbS n ps S v).length : Int) ≤ k) (sub : ∀ z, S' z → S z) : ElimK n ps k (os ++ [v]) S' := fun i u hu => by
  rcases Nat.lt_or_ge i os.length with c | c
  · rw [List.getElem?_append_left c] at hu
    have := nbS_mono (n := n) (ps := ps) (v := u) (S := fun z => z ∈ (os ++ [v]).drop (i + 1) ∨ S' z) (S' := fun z => z ∈ os.drop (i + 1) ∨ S z) fun z _ hz => by
      rcases hz with e | e
      · rw [List.drop_append_of_le_length (by omega)] at e
        rcases List.mem_append.mp e with e | e
        · exact .inl e
        · rw [List.mem_singleton.mp e]
          exact .inr hv
      · exact .inr (sub z e)
    have := h i u hu
    omega
  · have il := (List.getElem?_eq_some_iff.mp hu).1
    rw [List.length_append] at il
    simp only [List.length_cons, List.length_nil] at il
    have e : i = os.length := by omega
    subst e
    rw [List.getElem?_append_right (Nat.le_refl _), Nat.sub_self] at hu
    cases (show some v = some u from hu)
    have := nbS_mono (n := n) (ps := ps) (v := v) (S := fun z => z ∈ (os ++ [v]).drop (os.length + 1) ∨ S' z) (S' := S) fun z _ hz => by
      rcases hz with e | e
      · rw [List.drop_of_length_le (by rw [List.length_append]; simp)] at e
        cases e
      · exact sub z e
    omega
def fewP (n : Nat) (ps : List (Int × Int)) (k : Int) (d : PyData) : Prop := ∃ ns : List Int, d = .tuple (ns.map PyData.int) ∧ (∀ z ∈ ns, 0 ≤ z ∧ z < (n : Int)) ∧ ns.Nodup ∧ (ns.length : Int) = (n : Int) ∧ ∀ (i : Nat) v, ns[i]? = some v → ((nbS n ps (fun z => z ∈ ns.drop (i + 1)) v).length : Int) ≤ k
def tgtP (n : Nat) (ps : List (Int × Int)) (k : Int) (d : PyData) : Prop := ∃ ns : List Int, d = .tuple (ns.map PyData.int) ∧ (∀ z ∈ ns, 0 ≤ z ∧ z < (n : Int)) ∧ adjI ns ∧ ns ≠ [] ∧ ∀ v ∈ ns, k < ((nbS n ps (fun z => z ∈ ns) v).length : Int)
/-- the right answers and data -/
def rgtD (n : Nat) (ps : List (Int × Int)) (k : Int) (a : Str) (d : PyData) : Prop := (a = "yes" ∧ fewP n ps k d) ∨ (a = "no" ∧ tgtP n ps k d)
section
variable {P : Program} {w : World} {K : PySem.W.Frag} {mg : Str → Option Value} {base : Heap}
def spLoose : Sp := fun vs H Q _ => ∃ (l : Addr) (m k : Int) (n : Nat) (ms : List Int) (ps : List (Int × Int)) (S : Int → Prop), vs = [.ref l, .int m, .int k] ∧ H l = some (.lst (ms.map V.int)) ∧ ms.length = n ∧ n ≤ 7 ∧ (∀ i m, ms[i]? = some m → Msk m (fun z => z ∈ adjL ps i)) ∧ Msk m S ∧ (∀ i : Nat, S i → i < n) ∧
  ∀ (x : V) (H' : Hp), Same H H' → ((x = .non ∧ ∀ v, 0 ≤ v → S v → k < ((nbS n ps S v).length : Int)) ∨ ∃ v : Int, x = .int v ∧ 0 ≤ v ∧ S v ∧ ((nbS n ps S v).length : Int) ≤ k) → Q x H'
theorem ok_loose (T : Blt mg) (D : DefAt K mg "_loose" s_loose ["around", "left", "k"]) (D_members_of : DefAt K mg "members_of" s_members_of ["mask"]) (G_members_of : FnOk P w K mg base CX0 1 D_members_of.f D_members_of.fd ["mask"] spMem)
    (D_size_of : DefAt K mg "size_of" s_size_of ["mask"]) (G_size_of : FnOk P w K mg base CX0 1 D_size_of.f D_size_of.fd ["mask"] spSize) : FnOk P w K mg base CX0 2 D.f D.fd ["around", "left", "k"] spLoose := by
  refine D.F.ok sc_loose (fun vs H Q E h => ?_) (fun cdv A outer s H vs Q E hr h => ?_)
  · obtain ⟨l, m, k, n, ms, ps, S, rfl, _⟩ := h
    rfl
  · obtain ⟨l, m, k, n, ms, ps, S, rfl, hl, lm, n7, mk, mS, sl, q⟩ := h
    refine ⟨_, (pss_cons (ps_for PassesOwn.never (by rfl) (PI.tupK (K := K) rfl (pi_tup (pe_call G_members_of (hr.mono (by first | decide | omega)) (by rfl) D_members_of.g D_members_of.F.kp D_members_of.b .nil pass0 (pa_cons (pv 1) pa_nil)))) (pg_name (i := 3) sc_loose.nd rfl (Or.inl rfl))
        (pss_one (ps_if (pt_cmpR op_le (pe_call G_size_of (hr.mono (by first | decide | omega)) (by rfl) D_size_of.g D_size_of.F.kp D_size_of.b .nil pass0 (pa_cons (pe_op op_and (pe_ix (ix_listK (K := K) rfl) (pv 0) (pv 3) (fun _ _ => rfl)) (pv 1)) pa_nil)) (pv 2) (nomark _))
          (pss_one (ps_ret (pv 3)))
          pss_nil)))
      (pss_one (ps_ret pe_non))), ?_⟩
    refine r_at (σ := [some _, some _, some _, none]) rfl ?_
    walk_at "z"
    refine ⟨m, S, rfl, mS, fun i h => by have := sl i h; omega, fun p ns H1 s1 hp _ asc mem => ?_⟩
    have hl1 := s1 _ _ hl
    refine r_it (.inl (.inl hp)) (forR_tup (xs := ns.map V.int) (fun i σ' H' => (∃ x2, σ' = [some (.ref l), some (.int m), some (.int k), x2]) ∧ Same H1 H' ∧ ∀ v ∈ ns.take i, k < ((nbS n ps S v).length : Int)) ⟨⟨_, rfl⟩, Same.refl _, fun v hv => by simp at hv⟩ (fun i σ' H' _ ⟨_, s2, _⟩ => .inl (.inl (s2 _ _ hp))) ?_ ?_)
    · rintro i x σ' H2 hx ⟨⟨x2, rfl⟩, s2, no⟩
      rw [List.getElem?_map] at hx
      obtain ⟨v, hv, rfl⟩ := Option.map_eq_some_iff.mp hx
      obtain ⟨v0, hS⟩ := (mem v).mp (List.mem_of_getElem? hv)
      have v1 := sl v.toNat (by rw [show ((v.toNat : Nat) : Int) = v by omega]; exact hS)
      obtain ⟨mv, hmv⟩ : ∃ k, ms[v.toNat]? = some k := ⟨_, List.getElem?_eq_getElem (by omega)⟩
      have ix : atI (ms.map V.int) v = some (.int mv) := at_of (j := v.toNat) (by omega) (by rw [List.getElem?_map, hmv]; rfl)
      have hl2 := s2 _ _ hl1
      obtain ⟨X, eX, lX, pX⟩ := pop_nbS (n := n) (ps := ps) n7 v0 ((mk _ _ hmv).and mS) (fun i h => by have := sl i h; omega)
      walk_at "z"
      refine ⟨X, by rw [← eX]; rfl, lX, ?_⟩
      rw [pX]
      walk_at "z"
      refine r_ite (fun c => ?_) (fun c => ?_)
      · walk_at "z"
        exact q _ H2 (s1.trans s2) (.inr ⟨v, rfl, v0, hS, c⟩)
      · walk_at "z"
        refine ⟨⟨_, rfl⟩, s2, fun u hu => ?_⟩
        rw [take_next hv] at hu
        rcases List.mem_append.mp hu with e | e
        · exact no u e
        · rw [List.mem_singleton.mp e]
          omega
    · rintro σ' H2 ⟨⟨x2, rfl⟩, s2, no⟩
      rw [List.length_map, List.take_length] at no
      walk_at "z"
      exact q _ H2 (s1.trans s2) (.inl ⟨rfl, fun v v0 hS => no v ((mem v).mpr ⟨v0, hS⟩)⟩)
def spDP : Sp := fun vs H Q _ => ∃ (g : V) (n : Nat) (ps : List (Int × Int)) (k : Int), vs = [g, .int k] ∧ GrAt H g (n : Int) ps ∧ n ≤ 7 ∧ ps.length ≤ 10000 ∧ (∀ p ∈ ps, 0 ≤ p.1 ∧ p.1 < p.2 ∧ p.2 < (n : Int)) ∧
  ∀ (t a : Addr) (y : Str) (os : List Int) (H' : Hp), Same H H' → H' t = some (.tup [.str y, .ref a]) → H' a = some (.tup (os.map V.int)) → os.length ≤ 7 → rgtD n ps k y (.tuple (os.map PyData.int)) → Q (.ref t) H'
theorem ok_dpaper (T : Blt mg) (D : DefAt K mg "_degenerate_paper" s_degenerate_paper ["graph", "k"]) (D_neighbour_masks : DefAt K mg "neighbour_masks" s_neighbour_masks ["graph"]) (G_neighbour_masks : FnOk P w K mg base CX0 2 D_neighbour_masks.f D_neighbour_masks.fd ["graph"] spNMasks)
    (D_full_mask : DefAt K mg "full_mask" s_full_mask ["n"]) (G_full_mask : FnOk P w K mg base CX0 1 D_full_mask.f D_full_mask.fd ["n"] spFull)
    (D_loose : DefAt K mg "_loose" s_loose ["around", "left", "k"]) (G_loose : FnOk P w K mg base CX0 2 D_loose.f D_loose.fd ["around", "left", "k"] spLoose)
    (D_members_of : DefAt K mg "members_of" s_members_of ["mask"]) (G_members_of : FnOk P w K mg base CX0 1 D_members_of.f D_members_of.fd ["mask"] spMem) : FnOk P w K mg base CX0 3 D.f D.fd ["graph", "k"] spDP := by
  refine D.F.ok sc_degenerate_paper (fun vs H Q E h => ?_) (fun cdv A outer s H vs Q E hr h => ?_)
  · obtain ⟨g, n, ps, k, rfl, _⟩ := h
    rfl
  · obtain ⟨g, n, ps, k, rfl, hgr, n7, hlen, inn, q⟩ := h
    obtain ⟨ga, e, rfl, hg, he⟩ := id hgr
    refine ⟨_, (pss_cons (ps_set (i := 2) sc_degenerate_paper.nd rfl (Or.inl rfl) (pe_call G_neighbour_masks (hr.mono (by first | decide | omega)) (by rfl) D_neighbour_masks.g D_neighbour_masks.F.kp D_neighbour_masks.b .nil pass0 (pa_cons (pv 0) pa_nil)))
      (pss_cons (ps_set (i := 3) sc_degenerate_paper.nd rfl (Or.inl rfl) (pe_call G_full_mask (hr.mono (by first | decide | omega)) (by rfl) D_full_mask.g D_full_mask.F.kp D_full_mask.b .nil pass0 (pa_cons (pe_ix (ix_tupK (K := K) rfl) (pv 0) pe_int (fun _ _ => rfl)) pa_nil)))
      (pss_cons (ps_set (i := 4) sc_degenerate_paper.nd rfl (Or.inl rfl) (pe_lst pa_nil))
      (pss_cons (ps_set (i := 5) sc_degenerate_paper.nd rfl (Or.inl rfl) (pe_call G_loose (hr.mono (by first | decide | omega)) (by rfl) D_loose.g D_loose.F.kp D_loose.b .nil pass0 (pa_cons (pv 2) (pa_cons (pv 3) (pa_cons (pv 1) pa_nil)))))
      (pss_cons (ps_while PassesOwn.never (pt_cmpR op_notN (pv 5) pe_non (nomark _))
        (pss_cons (ps_expr (PE.bmK (K := K) rfl (pe_bm PySem.F.plainAttrs_list PySem.F.slot_list_append PySem.F.type_list_append mt_append (pv 4) (pa_cons (pv 5) pa_nil))))
        (pss_cons (ps_aug (i := 3) sc_degenerate_paper.nd rfl (Or.inl rfl) (pe_un un_inv (pe_op op_shl pe_int (pv 5))) iop_and)
        (pss_one (ps_set (i := 5) sc_degenerate_paper.nd rfl (Or.inl rfl) (pe_call G_loose (hr.mono (by first | decide | omega)) (by rfl) D_loose.g D_loose.F.kp D_loose.b .nil pass0 (pa_cons (pv 2) (pa_cons (pv 3) (pa_cons (pv 1) pa_nil)))))))))
      (pss_one (ps_ret (pe_ifExp (pt_cmpR op_eq (pv 3) pe_int (nomark _)) (pe_tup (pa_cons pe_str (pa_cons (pe_callTy (call_tupleK (K := K) rfl) (by rfl) T.tuple (by decide +kernel) (pa_cons (pv 4) pa_nil)) pa_nil))) (pe_tup (pa_cons pe_str (pa_cons (pe_call G_members_of (hr.mono (by first | decide | omega)) (by rfl) D_members_of.g D_members_of.F.kp D_members_of.b .nil pass0 (pa_cons (pv 3) pa_nil)) pa_nil))))))))))), ?_⟩
    refine r_at (σ := [some _, some _, none, none, none, none]) rfl ?_
    walk_at "z"
    refine ⟨_, n, ps, rfl, hgr, by omega, hlen, inn, fun l ms H1 s1 hl lm mk => ?_⟩
    have hg1 := s1 _ _ hg
    walk_at "z"
    refine ⟨n, rfl, by omega, by omega, ?_⟩
    walk_at "z"
    refine r_lstN (Nat.zero_le _) fun o ho => ?_
    have s2 : Same H (upd H1 o (.lst [])) := s1.trans (same_new ho)
    have oH := s1.free ho
    have oH' := ho
    have hl1' := hl
    have ho2 : (upd H1 o (.lst [])) o = some (.lst (([] : List Int).map V.int)) := upd_same
    have hl2 := same_new (o := .lst []) ho _ _ hl
    generalize upd H1 o (.lst []) = H2 at s2 ho2 hl2 ⊢
    have mF : Msk (1 * 2 ^ ((n : Int)).toNat - 1) (fun i => i < (n : Int)) := Msk.full (by omega)
    walk_at "z"
    refine ⟨l, _, k, n, ms, ps, _, rfl, hl2, lm, n7, mk, mF, fun i h => by omega, fun x0 H3 s3 hx0 => ?_⟩
    have ho3 := s3 _ _ ho2
    have hl3 := s3 _ _ hl2
    walk_at "z"
    let W : Nat → L2.St → Hp → Prop := fun m σ' H' => ∃ (x0 : V) (mask : Int) (S : Int → Prop) (os : List Int), σ' = [some (.ref ga), some (.int k), some (.ref l), some (.int mask), some (.ref o), some x0] ∧ m = n - os.length ∧ Same H H' ∧ H' l = some (.lst (ms.map V.int)) ∧ H' o = some (.lst (os.map V.int)) ∧ os.Nodup ∧ (∀ z ∈ os, z ∈ rgI (n : Int) ∧ ¬ S z) ∧ Msk mask S ∧ (∀ i : Nat, S i → i < n) ∧
      ((x0 = .non ∧ ∀ v, 0 ≤ v → S v → k < ((nbS n ps S v).length : Int)) ∨ ∃ v : Int, x0 = .int v ∧ 0 ≤ v ∧ S v ∧ ((nbS n ps S v).length : Int) ≤ k) ∧ ElimK n ps k os S ∧ (∀ z : Int, 0 ≤ z → z < (n : Int) → z ∈ os ∨ S z)
    have start : W n [some (.ref ga), some (.int k), some (.ref l), some (.int (1 * 2 ^ ((n : Int)).toNat - 1)), some (.ref o), some x0] H3 := ⟨x0, _, _, [], rfl, rfl, s2.trans s3, hl3, ho3, .nil, fun z hz => (nomatch hz), mF, fun i h => by omega, hx0, .nil, fun z _ hz => .inr hz⟩
    refine r_while W _ start ?_
    rintro m σ' H4 ⟨x1, mask, S, os, rfl, rfl, s4, hl4, ho4, nd, osn, mS, sl, hx1, hel, hall⟩
    have lol : os.length ≤ n := by
      have := nodup_le os (rgI (n : Int)) nd fun z hz => (osn z hz).1
      rw [rgI_len] at this
      omega
    rcases hx1 with ⟨rfl, no⟩ | ⟨v, rfl, v0, hS, hsim⟩
    · walk_at "z"
      refine ⟨rfl, ?_⟩
      walk_at "z"
      refine iteF ?_
      walk_at "z"
      refine r_ite (fun c => ?_) (fun c => ?_)
      · have emp : ∀ i : Nat, ¬ S i := fun i hi => by
          exact mS.ne0.mpr ⟨i, hi⟩ c
        walk_at "z"
        refine r_tupL (.inl (.inl ho4)) fun p1 hp1 => ?_
        have s5 := s4.trans (same_new (o := .tup (os.map V.int)) hp1)
        have hp1' : (upd H4 p1 (.tup (os.map V.int))) p1 = some (.tup (os.map V.int)) := upd_same
        generalize upd H4 p1 (.tup (os.map V.int)) = H5 at s5 hp1' ⊢
        walk_at "z"
        refine r_tupN sz2 fun t ht => ?_
        have st := same_new (o := .tup [.str "yes", .ref p1]) ht
        refine q t p1 "yes" os _ (s5.trans st) upd_same (st _ _ hp1') (by omega) (.inl ⟨rfl, os, rfl, fun z hz => mem_rgI.mp (osn z hz).1, nd, ?_, fun i v hv => ?_⟩)
        · have h1 := nodup_le (rgI (n : Int)) os (rgI_nodup (n : Int)) fun z hz => by
            obtain ⟨z0, z1⟩ := mem_rgI.mp hz
            rcases hall z z0 z1 with c | c
            · exact c
            · exact (emp z.toNat (by rw [show ((z.toNat : Nat) : Int) = z by omega]; exact c)).elim
          rw [rgI_len] at h1
          omega
        · have := hel i v hv
          have := nbS_mono (n := n) (ps := ps) (v := v) (S := fun z => z ∈ os.drop (i + 1)) (S' := fun z => z ∈ os.drop (i + 1) ∨ S z) fun z _ hz => .inl hz
          omega
      · walk_at "z"
        refine ⟨mask, S, rfl, mS, fun i h => by have := sl i h; omega, fun p2 ns H6 s6 hp2 _ asc mem => ?_⟩
        walk_at "z"
        refine r_tupN sz2 fun t ht => ?_
        have st := same_new (o := .tup [.str "no", .ref p2]) ht
        have bd : ∀ z ∈ ns, 0 ≤ z ∧ z < (n : Int) := fun z hz => by
          obtain ⟨z0, hz⟩ := (mem z).mp hz
          have := sl z.toNat (by rw [show ((z.toNat : Nat) : Int) = z by omega]; exact hz)
          omega
        have ln : ns.length ≤ 7 := by
          have := nodup_le ns (rgI (n : Int)) (asc.imp fun {a b} h e => by omega) fun z hz => mem_rgI.mpr (bd z hz)
          rw [rgI_len] at this
          omega
        refine q t p2 "no" ns _ ((s4.trans s6).trans st) upd_same (st _ _ hp2) ln (.inr ⟨rfl, ns, rfl, bd, fun j x y hx hy => ?_, fun e => ?_, fun v hv => ?_⟩)
        · obtain ⟨h1, e1⟩ := List.getElem?_eq_some_iff.mp hx
          obtain ⟨h2, e2⟩ := List.getElem?_eq_some_iff.mp hy
          have := List.pairwise_iff_getElem.mp asc j (j + 1) h1 h2 (by omega)
          rw [e1, e2] at this
          exact this
        · obtain ⟨i, hi⟩ := mS.ne0.mp c
          have := (mem (i : Int)).mpr ⟨by omega, hi⟩
          rw [e] at this
          cases this
        · obtain ⟨v0, hS⟩ := (mem v).mp hv
          have := no v v0 hS
          have := nbS_mono (n := n) (ps := ps) (v := v) (S := S) (S' := fun z => z ∈ ns) fun z z0 hz => (mem z).mpr ⟨z0, hz⟩
          omega
    · have vm := sl v.toNat (by rw [show ((v.toNat : Nat) : Int) = v by omega]; exact hS)
      have vr : v ∈ rgI (n : Int) := mem_rgI.mpr ⟨v0, by omega⟩
      have nd2 : (os ++ [v]).Nodup := List.nodup_append.mpr ⟨nd, by simp, fun x hx y hy e => (osn x hx).2 (by rw [e, List.mem_singleton.mp hy]; exact hS)⟩
      have lo2 : os.length + 1 ≤ n := by
        have := nodup_le (os ++ [v]) (rgI (n : Int)) nd2 fun z hz => by
          rcases List.mem_append.mp hz with c | c
          · exact (osn z c).1
          · rw [List.mem_singleton.mp c]
            exact vr
        rw [rgI_len, List.length_append] at this
        simp only [List.length_cons, List.length_nil] at this
        omega
      walk_at "z"
      refine ⟨rfl, ?_⟩
      walk_at "z"
      refine iteT (r_whGo ?_)
      walk_at "z"
      refine r_appT ho4 (small_lt (by rw [List.length_map]; omega)) ?_
      have lo : l ≠ o := fun z => by
        rw [z, oH'] at hl1'
        cases hl1'
      have s5 : Same H (upd H4 o (.lst (os.map V.int ++ [V.int v]))) := same_mut s4 oH
      have ho5 : (upd H4 o (.lst (os.map V.int ++ [V.int v]))) o = some (.lst ((os ++ [v]).map V.int)) := by
        rw [List.map_append]
        exact upd_same
      have hl5 := (upd_ne (H := H4) (o := .lst (os.map V.int ++ [V.int v])) lo).trans hl4
      generalize upd H4 o (.lst (os.map V.int ++ [V.int v])) = H5 at s5 ho5 hl5 ⊢
      have m5 := mS.andB (Msk.shl v0).bts.not
      walk_at "z"
      refine r_aug rfl ?_
      walk_at "z"
      refine r_i ⟨by omega, by omega, by decide⟩ ?_
      walk_at "z"
      refine r_augI rfl ?_
      walk_at "z"
      refine ⟨l, _, k, n, ms, ps, _, rfl, hl5, lm, n7, mk, m5, fun i h => sl i h.1, fun x6 H6 s6 hx6 => ?_⟩
      walk_at "z"
      refine ⟨n - (os.length + 1), by omega, x6, _, _, os ++ [v], rfl, by rw [List.length_append]; rfl, s5.trans s6, s6 _ _ hl5, s6 _ _ ho5, nd2, fun z hz => ?_, m5, fun i h => sl i h.1, hx6, hel.step hS hsim fun z hz => hz.1, fun z z0 z1 => ?_⟩
      · rcases List.mem_append.mp hz with c | c
        · exact ⟨(osn z c).1, fun h => (osn z c).2 h.1⟩
        · rw [List.mem_singleton.mp c]
          exact ⟨vr, fun h => h.2 rfl⟩
      · rcases hall z z0 z1 with c | c
        · exact .inl (List.mem_append_left _ c)
        · by_cases e : z = v
          · rw [e]
            exact .inl (List.mem_append_right _ List.mem_cons_self)
          · exact .inr ⟨c, e⟩
def spDPQ : Sp := fun vs H Q E => ∃ (qa : Addr) (g : V) (k : Int), vs = [g, .ref qa] ∧ H qa = some (.tup [.str "degenerate", .int k]) ∧ spDP [g, .int k] H Q E
theorem ok_spap (T : Blt mg) (D : DefAt K mg "sparse_paper" s_sparse_paper ["graph", "question"])
    (D_degenerate_paper : DefAt K mg "_degenerate_paper" s_degenerate_paper ["graph", "k"]) (G_degenerate_paper : FnOk P w K mg base CX0 3 D_degenerate_paper.f D_degenerate_paper.fd ["graph", "k"] spDP) :
    FnOk P w K mg base CX0 4 D.f D.fd ["graph", "question"] spDPQ := by
  refine D.F.ok sc_sparse_paper (fun vs H Q E h => ?_) (fun cdv A outer s H vs Q E hr h => ?_)
  · obtain ⟨qa, g, k, rfl, _⟩ := h
    rfl
  · obtain ⟨qa, g, k, rfl, hq, h⟩ := h
    refine ⟨_, (pss_cons (ps_asg (pv 1) (PG.tupK (K := K) rfl (pg_tup (n := 2) rfl (pgs_cons (pg_name (i := 2) sc_sparse_paper.nd rfl (Or.inl rfl)) (pgs_cons (pg_name (i := 3) sc_sparse_paper.nd rfl (Or.inl rfl)) pgs_nil)))))
      (pss_cons (ps_match (pv 2) (pm_str (pss_one (ps_ret (pe_call G_degenerate_paper (hr.mono (by first | decide | omega)) (by rfl) D_degenerate_paper.g D_degenerate_paper.F.kp D_degenerate_paper.b .nil pass0 (pa_cons (pv 0) (pa_cons (pv 3) pa_nil)))))
        (pm_str pss_dead
        (pm_str pss_dead
        pm_nil))))
      pss_dead)), ?_⟩
    refine r_at (σ := [some _, some _, none, none]) rfl ?_
    walk_at "z"
    refine r_gtup (.inl (.inl hq)) rfl ?_
    walk_at "z"
    refine r_sHit (by decide +kernel) ?_
    walk_at "z"
    exact h
def spDec (TT : List (Addr × Str)) : Sp := fun vs H Q _ => ∃ (qa : Addr) (g : V) (n : Nat) (ps : List (Int × Int)) (k : Int), vs = [g, .ref qa] ∧ H qa = some (.tup [.str "degenerate", .int k]) ∧ 0 ≤ k ∧ GrAt H g (n : Int) ps ∧ n ≤ 7 ∧ ps.length ≤ 10000 ∧ (∀ p ∈ ps, 0 ≤ p.1 ∧ p.1 < p.2 ∧ p.2 < (n : Int)) ∧ Tabs TT H ∧
  ∀ (t a : Addr) (y : Str) (os : List Int) (H' : Hp), ExtN H H' → Tabs TT H' → H' t = some (.tup [.str y, .ref a]) → H' a = some (.tup (os.map V.int)) → os.length ≤ 7 → rgtD n ps k y (.tuple (os.map PyData.int)) → Q (.ref t) H'
theorem qX_deg {n k : Int} (h : 0 ≤ k) : qX n (.tuple [.str "degenerate", .int k]) := qX_cons.mpr ⟨by decide +kernel, by
  rw [if_neg (by decide +kernel), if_neg (by decide +kernel), if_pos (by decide +kernel)]
  exact ⟨k, rfl, h⟩⟩
theorem limX_deg {k : Int} : ∃ D, limX D 100000 (.tuple [.str "degenerate", .int k]) := ⟨2, by simp, fun x hx => by
  rcases List.mem_cons.mp hx with rfl | hx
  · exact (by decide +kernel : ("degenerate" : Str).cps.all (· < 0x110000) = true)
  · rw [List.mem_singleton.mp hx]
    trivial⟩
theorem ok_decide {b : Addr} {TT : List (Addr × Str)} (T : Blt mg) (D : DefAt K mg "decide" s_decide ["graph", "question"])
    (D_is_question : DefAt K mg "is_question" s_is_question ["graph", "value"]) (G_is_question : FnOk P w K mg base CX0 16 D_is_question.f D_is_question.fd ["graph", "value"] (spQX b TT))
    (D_sparse_paper : DefAt K mg "sparse_paper" s_sparse_paper ["graph", "question"]) (G_sparse_paper : FnOk P w K mg base CX0 4 D_sparse_paper.f D_sparse_paper.fd ["graph", "question"] spDPQ) :
    FnOk P w K mg base CX0 17 D.f D.fd ["graph", "question"] (spDec TT) := by
  refine D.F.ok sc_decide (fun vs H Q E h => ?_) (fun cdv A outer s H vs Q E hr h => ?_)
  · obtain ⟨qa, g, n, ps, k, rfl, _⟩ := h
    rfl
  · obtain ⟨qa, g, n, ps, k, rfl, hq, k0, hgr, n7, hlen, inn, hT, q⟩ := h
    refine ⟨_, (pss_cons (ps_if (pt_not (pt_val (pe_call G_is_question (hr.mono (by first | decide | omega)) (by rfl) D_is_question.g D_is_question.F.kp D_is_question.b .nil pass0 (pa_cons (pv 0) (pa_cons (pv 1) pa_nil)))))
        pss_dead
        pss_nil)
      (pss_one (ps_match (pe_ix (ix_tupK (K := K) rfl) (pv 1) pe_int (fun _ _ => rfl)) (pm_or (.cons _ _ _ _ (.cons _ _ _ _ (.cons _ _ _ _ (.cons _ _ _ _ (.cons _ _ _ _ .nil))))) pss_dead
        (pm_or (.cons _ _ _ _ (.cons _ _ _ _ (.cons _ _ _ _ (.cons _ _ _ _ .nil)))) (pss_one (ps_ret (pe_call G_sparse_paper (hr.mono (by first | decide | omega)) (by rfl) D_sparse_paper.g D_sparse_paper.F.kp D_sparse_paper.b .nil pass0 (pa_cons (pv 0) (pa_cons (pv 1) pa_nil)))))
        (pm_or (.cons _ _ _ _ (.cons _ _ _ _ (.cons _ _ _ _ (.cons _ _ _ _ .nil)))) pss_dead
        (pm_or (.cons _ _ _ _ (.cons _ _ _ _ (.cons _ _ _ _ .nil))) pss_dead
        (pm_or (.cons _ _ _ _ (.cons _ _ _ _ .nil)) pss_dead
        (pm_else pss_dead))))))))), ?_⟩
    refine r_at (σ := [some _, some _]) rfl ?_
    walk_at "z"
    refine ⟨g, .ref qa, (n : Int), ps, .tuple [.str "degenerate", .int k], rfl, hgr, .tup (.inl hq) (.cons (.str _) (.cons (.int _) .nil)), limX_deg, hT, fun r H1 e1 T1 hr1 => ?_⟩
    have rt : r = true := hr1.mpr (qX_deg k0)
    subst rt
    have hq1 := ext_tup e1 hq
    walk_at "z"
    try refine iteF ?_
    walk_at "z"
    refine r_sMiss (by decide +kernel) ?_
    refine r_sHit (by decide +kernel) ?_
    walk_at "z"
    exact ⟨qa, g, k, rfl, hq1, g, n, ps, k, rfl, hgr.tk (ext_tk e1), n7, hlen, inn, fun t a y os H2 s2 ht ha lo hp => q t a y os H2 (e1.trans (ext_same s2)) (tabs_same T1 s2) ht ha lo hp⟩
end

set_option Elab.async false
set_option linter.all false
set_option maxRecDepth 100000
set_option maxHeartbeats 4000000
open PySem PySem.Spec PyProof.Rows L2 LamX RZ

abbrev s_are_few_behind : Stmt := topS 163
theorem sc_are_few_behind : FnScope ["graph", "k", "value", "mask"] ["graph", "k", "value"] (defScope s_are_few_behind) := ⟨rfl, rfl, rfl, by decide +kernel, rfl, by decide +kernel, by decide +kernel⟩

abbrev s_is_tight_check_sparse : Stmt := topS 164
theorem sc_is_tight_check_sparse : FnScope ["graph", "k", "value", "around", "v"] ["graph", "k", "value"] (defScope s_is_tight_check_sparse) := ⟨rfl, rfl, rfl, by decide +kernel, rfl, by decide +kernel, by decide +kernel⟩

abbrev s_is_sparse_paper : Stmt := topS 162
theorem sc_is_sparse_paper : FnScope ["graph", "question", "answer", "data", "k"] ["graph", "question", "answer", "data"] (defScope s_is_sparse_paper) := ⟨rfl, rfl, rfl, by decide +kernel, rfl, by decide +kernel, by decide +kernel⟩

abbrev s_is_right : Stmt := topS 188
theorem sc_is_right : FnScope ["graph", "question", "answer", "data"] ["graph", "question", "answer", "data"] (defScope s_is_right) := ⟨rfl, rfl, rfl, by decide +kernel, rfl, by decide +kernel, by decide +kernel⟩

abbrev s_check : Stmt := topS 187
theorem sc_check : FnScope ["graph", "question", "paper", "answer", "data"] ["graph", "question", "paper"] (defScope s_check) := ⟨rfl, rfl, rfl, by decide +kernel, rfl, by decide +kernel, by decide +kernel⟩

theorem yn_ne : ("no" : Str) ≠ "yes" := by decide +kernel
theorem adjI_asc {ns : List Int} (h : adjI ns) : ns.Pairwise (· < ·) := by
  rw [List.pairwise_iff_getElem]
  intro i j hi hj ij
  obtain ⟨d, rfl⟩ : ∃ d, j = i + 1 + d := ⟨j - i - 1, by omega⟩
  clear ij
  induction d with
  | zero => exact h i _ _ (List.getElem?_eq_getElem hi) (List.getElem?_eq_getElem hj)
  | succ d ih =>
    have h1 := ih (by omega)
    have h2 := h (i + 1 + d) _ _ (List.getElem?_eq_getElem (by omega)) (List.getElem?_eq_getElem hj)
    omega
theorem r_eqTQG {K : PySem.W.Frag} {H : Hp} {Q : VK} {f e : Addr} {ns ms : List Int} (h : SqT K H f (ns.map V.int)) (he : SqT K H e (ms.map V.int)) (q : Q (.bl (decide (ns = ms))) H) : rEqD K (.ref f) (.ref e) H Q := by
  refine ⟨.tuple (ns.map PyData.int), .tuple (ms.map PyData.int), .tup h (dps_int ns), .tup he (dps_int ms), shaped_of (tupI_lay ns) (by have := tupI_depth ns; omega), shaped_of (tupI_lay ms) (by have := tupI_depth ms; omega), ?_⟩
  rw [tupI_eqv]
  exact q
section
variable {P : Program} {w : World} {K : PySem.W.Frag} {mg : Str → Option Value} {base : Heap}
def spFew (bb : Addr) (TT : List (Addr × Str)) : Sp := fun vs H Q _ => ∃ (g v : V) (k : Int) (n : Nat) (ps : List (Int × Int)) (d : PyData), vs = [g, .int k, v] ∧ GrAt H g (n : Int) ps ∧ n ≤ 7 ∧ ps.length ≤ 10000 ∧ (∀ p ∈ ps, 0 ≤ p.1 ∧ p.1 < p.2 ∧ p.2 < (n : Int)) ∧ DX bb H v d ∧ (∀ ds, d = .tuple ds → ds.length ≤ 1000) ∧ Tabs TT H ∧
  ∀ (r : Bool) (H' : Hp), ExtN H H' → Tabs TT H' → (r = true ↔ fewP n ps k d) → Q (.bl r) H'
theorem ok_few {bb : Addr} {TT : List (Addr × Str)} (T : Blt mg) (z_all : mg "all" = none) (D : DefAt K mg "are_few_behind" s_are_few_behind ["graph", "k", "value"])
    (D_is_order : DefAt K mg "is_order" s_is_order ["n", "value"]) (G_is_order : FnOk P w K mg base CX0 9 D_is_order.f D_is_order.fd ["n", "value"] (spOrdX bb TT))
    (D_masks_behind : DefAt K mg "masks_behind" s_masks_behind ["graph", "order"]) (G_masks_behind : FnOk P w K mg base CX0 3 D_masks_behind.f D_masks_behind.fd ["graph", "order"] (spMBeh K))
    (D_size_of : DefAt K mg "size_of" s_size_of ["mask"]) (G_size_of : FnOk P w K mg base CX0 1 D_size_of.f D_size_of.fd ["mask"] spSize) :
    FnOk P w K mg base CX0 10 D.f D.fd ["graph", "k", "value"] (spFew bb TT) := by
  refine D.F.ok sc_are_few_behind (fun vs H Q E h => ?_) (fun cdv A outer s H vs Q E hr h => ?_)
  · obtain ⟨g, v, k, n, ps, d, rfl, _⟩ := h
    rfl
  · obtain ⟨g, v, k, n, ps, d, rfl, hgr, n7, hlen, inn, hd, len, hT, q⟩ := h
    obtain ⟨ga, e, rfl, hg, _⟩ := id hgr
    refine ⟨_, (pss_one (ps_ret (pe_and (pe_call G_is_order (hr.mono (by first | decide | omega)) (by rfl) D_is_order.g D_is_order.F.kp D_is_order.b .nil pass0 (pa_cons (pe_ix (ix_tupK (K := K) rfl) (pv 0) pe_int (fun _ _ => rfl)) (pa_cons (pv 2) pa_nil))) (pe_one (pe_callB (cr_allK (K := K) rfl rfl) (by rfl) z_all (by decide +kernel) (pa_cons (pe_lc (own := [("mask", 3)]) (by rfl) sc_are_few_behind.nd (PI.listK (K := K) rfl (pi_list (pe_call G_masks_behind (hr.mono (by first | decide | omega)) (by rfl) D_masks_behind.g D_masks_behind.F.kp D_masks_behind.b .nil pass0 (pa_cons (pv 0) (pa_cons (pv 2) pa_nil))))) (blkOk_by (own := [("mask", 3)]) (N := ["graph", "k", "value", "mask"]) (sc := (defScope s_are_few_behind)) (by decide +kernel)) (fun _ _ _ _ _ => (pg_name (i := 3) sc_are_few_behind.nd rfl (Or.inl rfl))) (fun _ _ _ _ _ => pts_nil) (fun _ _ _ _ _ => (pe_cmpR op_le (pe_call G_size_of (hr.mono (by first | decide | omega)) (by rfl) D_size_of.g D_size_of.F.kp D_size_of.b .nil pass0 (pa_cons (pv 3) pa_nil)) (pv 1) (nomark _)))) pa_nil)))))), ?_⟩
    refine r_at (σ := [some _, some _, some _, none]) rfl ?_
    walk_at "z"
    refine ⟨(n : Int), v, d, rfl, hd, by omega, len, hT, fun r H1 e1 T1 hr1 => ?_⟩
    cases r with
    | false =>
      walk_at "z"
      try refine iteF ?_
      try walk_at "z"
      exact q false H1 e1 T1 ⟨fun h => (nomatch h), fun ⟨ns, e, b, nd, l, _⟩ => by have := hr1.mpr ⟨ns, e, b, nd, l⟩; cases this⟩
    | true =>
      obtain ⟨ns, rfl, bd, nd, ll⟩ := hr1.mp rfl
      cases hd.ext e1 with
      | @tup a xs _ hxs hxd =>
      rw [dx_ints hxd] at hxs
      have hxs : SqT K H1 a (ns.map V.int) := .inl hxs
      have hgr1 := gr_ext e1 hgr
      walk_at "z"
      try refine iteT ?_
      try walk_at "z"
      refine ⟨.ref ga, a, n, ps, ns, rfl, hgr1, by omega, hlen, inn, hxs, bd, nd, fun f ks H3 s3 hf lk hk => ?_⟩
      refine r_il (.inl (.inl hf)) fun c hc => lcR_list (xs := ks.map V.int) (fun i H' => Same H3 H' ∧ ∃ bs : List Bool, H' c = some (.lst (bs.map V.bl)) ∧ bs.length = i ∧ (bs.all id = true ↔ ∀ (j : Nat) v, j < i → ns[j]? = some v → ((nbS n ps (fun z => z ∈ ns.drop (j + 1)) v).length : Int) ≤ k)) (by walk_at "zw") ⟨same_new hc, [], upd_same, rfl, by simp⟩ (fun i H' _ ⟨s4, _⟩ => .inl (.inl (s4 _ _ hf))) ?_ ?_
      · rintro i y H4 hy ⟨s4, bs, hB, lb, hit⟩
        rw [List.getElem?_map] at hy
        obtain ⟨m, hm, rfl⟩ := Option.map_eq_some_iff.mp hy
        have il := (List.getElem?_eq_some_iff.mp hm).1
        obtain ⟨u, hu⟩ : ∃ u, ns[i]? = some u := ⟨_, List.getElem?_eq_getElem (by omega)⟩
        have ub := bd u (List.mem_of_getElem? hu)
        obtain ⟨X, eX, lX, pX⟩ := pop_nbS (n := n) (ps := ps) n7 ub.1 (hk i u m hu hm) (fun j hj => (bd _ ((List.drop_sublist _ _).mem hj)).2)
        walk_at "z"
        refine ⟨rfl, ?_⟩
        walk_at "z"
        refine ⟨X, by rw [← eX]; rfl, lX, ?_⟩
        rw [pX]
        walk_at "z"
        refine r_lce hB (small_lt (by rw [List.length_map]; omega)) ⟨same_mut s4 hc, bs ++ [decide (((nbS n ps (fun z => z ∈ ns.drop (i + 1)) u).length : Int) ≤ k)], by rw [List.map_append]; exact upd_same, by rw [List.length_append, lb]; rfl, ?_⟩
        rw [List.all_append, Bool.and_eq_true, hit]
        simp only [List.all_cons, List.all_nil, Bool.and_true, id]
        rw [decide_eq_true_iff]
        constructor
        · rintro ⟨h1, h2⟩ j v' jl hv'
          rcases Nat.lt_or_ge j i with c3 | c3
          · exact h1 j v' c3 hv'
          · have ej : j = i := by omega
            rw [ej, hu] at hv'
            cases hv'
            rw [ej]
            exact h2
        · exact fun h => ⟨fun j v' jl hv' => h j v' (by omega) hv', h i u (by omega) hu⟩
      · rintro H4 ⟨s4, bs, hB, lb, hit⟩
        rw [List.length_map] at hit
        walk_at "z"
        refine r_all hB ?_
        have s34 := s3.trans s4
        exact q _ H4 (e1.trans (ext_same s34)) (tabs_same T1 s34) (hit.trans ⟨fun h9 => ⟨ns, rfl, bd, nd, ll, fun j v' hv' => h9 j v' (by have := (List.getElem?_eq_some_iff.mp hv').1; omega) hv'⟩, fun ⟨ms', e, _, _, _, h9⟩ j v' _ hv' => by
          have em := ints_inj (PyData.tuple.inj e)
          rw [em] at hv' ⊢
          exact h9 j v' hv'⟩)
def spTight (bb : Addr) (TT : List (Addr × Str)) : Sp := fun vs H Q _ => ∃ (g v : V) (k : Int) (n : Nat) (ps : List (Int × Int)) (d : PyData), vs = [g, .int k, v] ∧ GrAt H g (n : Int) ps ∧ n ≤ 7 ∧ ps.length ≤ 10000 ∧ (∀ p ∈ ps, 0 ≤ p.1 ∧ p.1 < p.2 ∧ p.2 < (n : Int)) ∧ DX bb H v d ∧ (∀ ds, d = .tuple ds → ds.length ≤ 1000) ∧ Tabs TT H ∧
  ∀ (r : Bool) (H' : Hp), ExtN H H' → Tabs TT H' → (r = true ↔ tgtP n ps k d) → Q (.bl r) H'
theorem ok_tight {bb : Addr} {TT : List (Addr × Str)} (T : Blt mg) (z_all : mg "all" = none) (D : DefAl K mg "is_tight_check_sparse" "_is_tight" s_is_tight_check_sparse ["graph", "k", "value"])
    (D_is_set : DefAt K mg "is_set" s_is_set ["n", "value"]) (G_is_set : FnOk P w K mg base CX0 8 D_is_set.f D_is_set.fd ["n", "value"] (spSetX bb TT))
    (D_neighbour_masks : DefAt K mg "neighbour_masks" s_neighbour_masks ["graph"]) (G_neighbour_masks : FnOk P w K mg base CX0 2 D_neighbour_masks.f D_neighbour_masks.fd ["graph"] spNMasks)
    (D_size_of : DefAt K mg "size_of" s_size_of ["mask"]) (G_size_of : FnOk P w K mg base CX0 1 D_size_of.f D_size_of.fd ["mask"] spSize)
    (D_mask_of : DefAt K mg "mask_of" s_mask_of ["members"]) (G_mask_of : FnOk P w K mg base CX0 1 D_mask_of.f D_mask_of.fd ["members"] (spMask K)) :
    FnOk P w K mg base CX0 14 D.f D.fd ["graph", "k", "value"] (spTight bb TT) := by
  refine D.F.ok sc_is_tight_check_sparse (fun vs H Q E h => ?_) (fun cdv A outer s H vs Q E hr h => ?_)
  · obtain ⟨g, v, k, n, ps, d, rfl, _⟩ := h
    rfl
  · obtain ⟨g, v, k, n, ps, d, rfl, hgr, n7, hlen, inn, hd, len, hT, q⟩ := h
    obtain ⟨ga, e, rfl, hg, _⟩ := id hgr
    refine ⟨_, (pss_cons (ps_if (PW.pt (pw_or (pt_not (pt_val (pe_call G_is_set (hr.mono (by first | decide | omega)) (by rfl) D_is_set.g D_is_set.F.kp D_is_set.b .nil pass0 (pa_cons (pe_ix (ix_tupK (K := K) rfl) (pv 0) pe_int (fun _ _ => rfl)) (pa_cons (pv 2) pa_nil))))) (pw_or1 (pt_cmpR (op_eqDK (K := K) rfl hr.units) (pv 2) (pe_tup pa_nil) (nomark _)))))
        (pss_one (ps_ret pe_bl))
        pss_nil)
      (pss_cons (ps_set (i := 3) sc_is_tight_check_sparse.nd rfl (Or.inr rfl) (pe_call G_neighbour_masks (hr.mono (by first | decide | omega)) (by rfl) D_neighbour_masks.g D_neighbour_masks.F.kp D_neighbour_masks.b .nil pass0 (pa_cons (pv 0) pa_nil)))
      (pss_one (ps_ret (pe_callB (cr_allK (K := K) rfl rfl) (by rfl) z_all (by decide +kernel) (pa_cons (pe_lc (own := [("v", 4)]) (by rfl) sc_is_tight_check_sparse.nd (PI.tupK (K := K) rfl (pi_tup (pv 2))) (blkOk_by (own := [("v", 4)]) (N := ["graph", "k", "value", "around", "v"]) (sc := (defScope s_is_tight_check_sparse)) (by decide +kernel)) (fun _ _ _ _ _ => (pg_name (i := 4) sc_is_tight_check_sparse.nd rfl (Or.inl rfl))) (fun _ _ _ _ _ => pts_nil) (fun _ _ _ _ _ => (pe_cmpR op_gt (pe_call G_size_of (hr.mono (by first | decide | omega)) (by rfl) D_size_of.g D_size_of.F.kp D_size_of.b .nil pass0 (pa_cons (pe_op op_and (pe_ix (ix_listK (K := K) rfl) (pv 3) (pv 4) (fun _ _ => rfl)) (pe_call G_mask_of (hr.mono (by first | decide | omega)) (by rfl) D_mask_of.g D_mask_of.F.kp D_mask_of.b .nil pass0 (pa_cons (pv 2) pa_nil))) pa_nil)) (pv 1) (nomark _)))) pa_nil)))))), ?_⟩
    refine r_at (σ := [some _, some _, some _, none, none]) rfl ?_
    walk_at "z"
    refine ⟨(n : Int), v, d, rfl, hd, fun ds e => by have := len ds e; omega, hT, fun r H1 e1 T1 hr1 => ?_⟩
    cases r with
    | false =>
      walk_at "z"
      try refine iteT ?_
      try walk_at "z"
      exact q false H1 e1 T1 ⟨fun h => (nomatch h), fun ⟨ns, e, b, asc, _⟩ => by have := hr1.mpr ⟨ns, e, b, asc⟩; cases this⟩
    | true =>
      obtain ⟨ns, rfl, bd, asc⟩ := hr1.mp rfl
      have nd : ns.Nodup := (adjI_asc asc).imp fun {a b} h e => by omega
      have ln : ns.length ≤ 7 := by
        have := nodup_le ns (rgI (n : Int)) nd fun v hv => mem_rgI.mpr (bd v hv)
        rw [rgI_len] at this
        omega
      cases hd.ext e1 with
      | @tup a xs _ hxs hxd =>
      rw [dx_ints hxd] at hxs
      have hxs : SqT K H1 a (ns.map V.int) := .inl hxs
      have hgr1 := gr_ext e1 hgr
      walk_at "z"
      try refine iteF ?_
      try walk_at "z"
      refine r_tupN (Nat.zero_le _) fun t0 ht0 => ?_
      have s2 := same_new (o := .tup []) ht0
      have ht2 : (upd H1 t0 (.tup [])) t0 = some (.tup (([] : List Int).map V.int)) := upd_same
      have hx2 := sqT_sm s2 hxs
      generalize upd H1 t0 (.tup []) = H2 at s2 ht2 hx2 ⊢
      have T2 := tabs_same T1 s2
      have hgr2 := hgr1.tk (.of_same s2)
      refine r_eqTQG hx2 (.inl (.inl ht2)) ?_
      walk_at "z"
      refine r_ite (fun c => ?_) (fun c => ?_)
      · walk_at "z"
        exact q false H2 (e1.trans (ext_same s2)) T2 ⟨fun h => (nomatch h), fun ⟨ms, e, _, _, ne, _⟩ => (ne (by rw [← ints_inj (PyData.tuple.inj e)]; exact c)).elim⟩
      · walk_at "z"
        refine ⟨.ref ga, n, ps, rfl, hgr2, by omega, hlen, inn, fun l ms H3 s3 hms lm mk => ?_⟩
        have hx3 := sqT_sm s3 hx2
        walk_at "z"
        refine r_it hx3 fun cc hc => lcR_tup (xs := ns.map V.int) (fun i H' => Same H3 H' ∧ ∃ bs : List Bool, H' cc = some (.lst (bs.map V.bl)) ∧ bs.length = i ∧ (bs.all id = true ↔ ∀ v ∈ ns.take i, k < ((nbS n ps (fun z => z ∈ ns) v).length : Int))) (by walk_at "zw") ⟨same_new hc, [], upd_same, rfl, by simp⟩ (fun i H' _ ⟨s4, _⟩ => sqT_sm s4 hx3) ?_ ?_
        · rintro i y H4 hy ⟨s4, bs, hB, lb, hit⟩
          rw [List.getElem?_map] at hy
          obtain ⟨u, hu, rfl⟩ := Option.map_eq_some_iff.mp hy
          have ub := bd u (List.mem_of_getElem? hu)
          have il := (List.getElem?_eq_some_iff.mp hu).1
          obtain ⟨mv, hmv⟩ : ∃ k, ms[u.toNat]? = some k := ⟨_, List.getElem?_eq_getElem (by omega)⟩
          have ix : atI (ms.map V.int) u = some (.int mv) := at_of (j := u.toNat) (by omega) (by rw [List.getElem?_map, hmv]; rfl)
          have hms4 := s4 _ _ hms
          walk_at "z"
          refine ⟨rfl, ?_⟩
          walk_at "z"
          refine ⟨a, ns, rfl, .inr (sqT_sm s4 hx3), fun v hv => ⟨(bd v hv).1, by have := (bd v hv).2; omega⟩, fun x mx => ?_⟩
          obtain ⟨X, eX, lX, pX⟩ := pop_nbS (n := n) (ps := ps) n7 ub.1 ((mk _ _ hmv).and mx) (fun j hj => (bd _ hj).2)
          walk_at "z"
          refine ⟨X, by rw [← eX]; rfl, lX, ?_⟩
          rw [pX]
          walk_at "z"
          refine r_lce hB (small_lt (by rw [List.length_map]; omega)) ⟨same_mut s4 hc, bs ++ [decide (k < ((nbS n ps (fun z => z ∈ ns) u).length : Int))], by rw [List.map_append]; exact upd_same, by rw [List.length_append, lb]; rfl, ?_⟩
          rw [List.all_append, Bool.and_eq_true, hit, take_next hu]
          simp only [List.all_cons, List.all_nil, Bool.and_true, id]
          rw [decide_eq_true_iff]
          constructor
          · rintro ⟨h1, h2⟩ z hz
            rcases List.mem_append.mp hz with c3 | c3
            · exact h1 z c3
            · rw [List.mem_singleton.mp c3]
              exact h2
          · exact fun h => ⟨fun z hz => h z (List.mem_append_left _ hz), h u (List.mem_append_right _ List.mem_cons_self)⟩
        · rintro H4 ⟨s4, bs, hB, lb, hit⟩
          rw [List.length_map, List.take_length] at hit
          walk_at "z"
          refine r_all hB ?_
          have s34 := (s2.trans s3).trans s4
          exact q _ H4 (e1.trans (ext_same s34)) (tabs_same T1 s34) (hit.trans ⟨fun h9 => ⟨ns, rfl, bd, asc, c, h9⟩, fun ⟨ms', e, _, _, _, h9⟩ => by
            have em := ints_inj (PyData.tuple.inj e)
            rw [em]
            exact h9⟩)
def spSparse (bb : Addr) (TT : List (Addr × Str)) : Sp := fun vs H Q _ => ∃ (g v : V) (n : Nat) (ps : List (Int × Int)) (qa : Addr) (k : Int) (a : Str) (d : PyData), vs = [g, .ref qa, .str a, v] ∧ GrAt H g (n : Int) ps ∧ (∀ p ∈ ps, 0 ≤ p.1 ∧ p.1 < p.2 ∧ p.2 < (n : Int)) ∧ n ≤ 7 ∧ ps.length ≤ 60 ∧
  H qa = some (.tup [.str "degenerate", .int k]) ∧ DX bb H v d ∧ (∀ ds, d = .tuple ds → ds.length ≤ 1000) ∧ Tabs TT H ∧ ∀ (r : Bool) H', ExtN H H' → Tabs TT H' → (r = true ↔ rgtD n ps k a d) → Q (.bl r) H'
theorem ok_sparse {bb : Addr} {TT : List (Addr × Str)} (T : Blt mg) (D : DefAt K mg "is_sparse_paper" s_is_sparse_paper ["graph", "question", "answer", "data"])
    (D_are_few_behind : DefAt K mg "are_few_behind" s_are_few_behind ["graph", "k", "value"]) (G_are_few_behind : FnOk P w K mg base CX0 10 D_are_few_behind.f D_are_few_behind.fd ["graph", "k", "value"] (spFew bb TT))
    (D_is_tight_check_sparse : DefAl K mg "is_tight_check_sparse" "_is_tight" s_is_tight_check_sparse ["graph", "k", "value"]) (G_is_tight_check_sparse : FnOk P w K mg base CX0 14 D_is_tight_check_sparse.f D_is_tight_check_sparse.fd ["graph", "k", "value"] (spTight bb TT)) :
    FnOk P w K mg base CX0 15 D.f D.fd ["graph", "question", "answer", "data"] (spSparse bb TT) := by
  refine D.F.ok sc_is_sparse_paper (fun vs H Q E h => ?_) (fun cdv A outer s H vs Q E hr h => ?_)
  · obtain ⟨g, v, n, ps, qa, k, a, d, rfl, _⟩ := h
    rfl
  · obtain ⟨g, v, n, ps, qa, k, a, d, rfl, hgr, inn, n7, lps, hq, hd, len, hT, q⟩ := h
    refine ⟨_, (pss_cons (ps_match (pe_tup (pa_cons (pv 2) (pa_starK (K := K) rfl (pv 1) pa_nil))) (pm_twoK (K := K) rfl rfl (.cons _ _ .nil) (bn_cons (i := 4) sc_is_sparse_paper.nd rfl (Or.inl rfl) bn_nil)
        (pss_one (ps_ret (pe_call G_are_few_behind (hr.mono (by first | decide | omega)) (by rfl) D_are_few_behind.g D_are_few_behind.F.kp D_are_few_behind.b .nil pass0 (pa_cons (pv 0) (pa_cons (pv 4) (pa_cons (pv 3) pa_nil))))))
        (pm_twoK (K := K) rfl rfl (.cons _ _ .nil) (bn_cons (i := 4) sc_is_sparse_paper.nd rfl (Or.inl rfl) bn_nil)
        (pss_one (ps_ret (pe_call G_is_tight_check_sparse (hr.mono (by first | decide | omega)) (by rfl) D_is_tight_check_sparse.g D_is_tight_check_sparse.F.kp D_is_tight_check_sparse.b .nil pass0 (pa_cons (pv 0) (pa_cons (pv 4) (pa_cons (pv 3) pa_nil))))))
        (pm_twoK (K := K) rfl rfl (.cons _ _ .nil) (bn_cons (i := 4) sc_is_sparse_paper.nd rfl (Or.inl rfl) bn_nil)
        pss_dead
        (pm_twoK (K := K) rfl rfl (.cons _ _ .nil) (bn_cons (i := 4) sc_is_sparse_paper.nd rfl (Or.inl rfl) bn_nil)
        pss_dead
        (pm_twoK (K := K) rfl rfl (.cons _ _ .nil) (bn_cons (i := 4) sc_is_sparse_paper.nd rfl (Or.inl rfl) bn_nil)
        pss_dead
        (pm_twoK (K := K) rfl rfl (.cons _ _ .nil) (bn_cons (i := 4) sc_is_sparse_paper.nd rfl (Or.inl rfl) bn_nil)
        pss_dead
        (pm_twoK (K := K) rfl rfl (.cons _ _ .nil) (bn_cons (i := 4) sc_is_sparse_paper.nd rfl (Or.inl rfl) bn_nil)
        pss_dead
        (pm_twoK (K := K) rfl rfl (.cons _ _ .nil) (bn_cons (i := 4) sc_is_sparse_paper.nd rfl (Or.inl rfl) bn_nil)
        pss_dead
        pm_nil)))))))))
      (pss_one (ps_ret pe_bl))), ?_⟩
    refine r_at (σ := [some _, some _, some _, some _, none]) rfl ?_
    walk_at "z"
    refine r_stN hq ?_
    walk_at "z"
    refine r_tupN (small_len (by simp only [List.length_cons, List.length_nil, List.length_append]; omega)) fun t ht => ?_
    have s1 : Same H (upd H t (.tup (.str a :: ([.str "degenerate", .int k] ++ [])))) := same_new ht
    have ht1 : (upd H t (.tup (.str a :: ([.str "degenerate", .int k] ++ [])))) t = some (.tup (.str a :: .str "degenerate" :: [.int k])) := upd_same
    generalize upd H t (.tup (.str a :: ([.str "degenerate", .int k] ++ []))) = H1 at s1 ht1 ⊢
    have T1 := tabs_same hT s1
    have gr1 := hgr.tk (.of_same s1)
    have hd1 := hd.same s1
    by_cases ey : a = "yes"
    · subst ey
      refine r_tHit ht1 rfl ?_
      walk_at "z"
      exact ⟨g, v, k, n, ps, d, rfl, gr1, n7, by omega, inn, hd1, len, T1, fun r H2 e2 T2 hr2 => q r H2 ((ext_same s1).trans e2) T2 (hr2.trans ⟨fun h => .inl ⟨rfl, h⟩, fun h => h.elim (fun h => h.2) fun h => absurd h.1.symm yn_ne⟩)⟩
    · by_cases en : a = "no"
      · subst en
        refine r_tMiss ht1 (fun h => yn_ne h.2.1) ?_
        refine r_tHit ht1 rfl ?_
        walk_at "z"
        exact ⟨g, v, k, n, ps, d, rfl, gr1, n7, by omega, inn, hd1, len, T1, fun r H2 e2 T2 hr2 => q r H2 ((ext_same s1).trans e2) T2 (hr2.trans ⟨fun h => .inr ⟨rfl, h⟩, fun h => h.elim (fun h => absurd h.1 yn_ne) fun h => h.2⟩)⟩
      · refine r_tMiss ht1 (fun h => ey h.2.1) ?_
        refine r_tMiss ht1 (fun h => en h.2.1) ?_
        refine r_tMiss ht1 (fun h => ey h.2.1) ?_
        refine r_tMiss ht1 (fun h => en h.2.1) ?_
        refine r_tMiss ht1 (fun h => ey h.2.1) ?_
        refine r_tMiss ht1 (fun h => en h.2.1) ?_
        refine r_tMiss ht1 (fun h => ey h.2.1) ?_
        refine r_tMiss ht1 (fun h => en h.2.1) ?_
        walk_at "z"
        exact q false H1 (ext_same s1) T1 ⟨fun h => (nomatch h), fun h => (h.elim (fun h => ey h.1) fun h => en h.1).elim⟩
def spRight (b : Addr) (TT : List (Addr × Str)) : Sp := spSparse b TT
theorem ok_right {b : Addr} {TT : List (Addr × Str)} (T : Blt mg) (D : DefAt K mg "_is_right" s_is_right ["graph", "question", "answer", "data"])
    (D_is_sparse_paper : DefAt K mg "is_sparse_paper" s_is_sparse_paper ["graph", "question", "answer", "data"]) (G_is_sparse_paper : FnOk P w K mg base CX0 15 D_is_sparse_paper.f D_is_sparse_paper.fd ["graph", "question", "answer", "data"] (spSparse b TT)) :
    FnOk P w K mg base CX0 17 D.f D.fd ["graph", "question", "answer", "data"] (spRight b TT) := by
  refine D.F.ok sc_is_right (fun vs H Q E h => ?_) (fun cdv A outer s H vs Q E hr h => ?_)
  · obtain ⟨g, v, n, ps, qa, k, a, d, rfl, _⟩ := h
    rfl
  · have hp := h
    obtain ⟨g, v, n, ps, qa, k, a, d, rfl, hgr, inn, n7, lps, hq, hd, hl, hT, q⟩ := h
    refine ⟨_, (pss_one (ps_match (pe_ix (ix_tupK (K := K) rfl) (pv 1) pe_int (fun _ _ => rfl)) (pm_or (.cons _ _ _ _ (.cons _ _ _ _ (.cons _ _ _ _ (.cons _ _ _ _ (.cons _ _ _ _ .nil))))) pss_dead
        (pm_or (.cons _ _ _ _ (.cons _ _ _ _ (.cons _ _ _ _ (.cons _ _ _ _ .nil)))) (pss_one (ps_ret (pe_call G_is_sparse_paper (hr.mono (by first | decide | omega)) (by rfl) D_is_sparse_paper.g D_is_sparse_paper.F.kp D_is_sparse_paper.b .nil pass0 (pa_cons (pv 0) (pa_cons (pv 1) (pa_cons (pv 2) (pa_cons (pv 3) pa_nil)))))))
        (pm_or (.cons _ _ _ _ (.cons _ _ _ _ (.cons _ _ _ _ (.cons _ _ _ _ .nil)))) pss_dead
        (pm_or (.cons _ _ _ _ (.cons _ _ _ _ (.cons _ _ _ _ .nil))) pss_dead
        (pm_or (.cons _ _ _ _ (.cons _ _ _ _ .nil)) pss_dead
        (pm_else pss_dead)))))))), ?_⟩
    refine r_at (σ := [some _, some _, some _, some _]) rfl ?_
    walk_at "z"
    refine r_sMiss (by decide +kernel) ?_
    refine r_sHit (by decide +kernel) ?_
    walk_at "z"
    exact ⟨g, v, n, ps, qa, k, a, d, rfl, hgr, inn, n7, lps, hq, hd, hl, hT, q⟩
/-- a right paper -/
def papD (n : Nat) (ps : List (Int × Int)) (k : Int) (d : PyData) : Prop := ∃ (a : Str) (x : PyData), d = .tuple [.str a, x] ∧ rgtD n ps k a x
def spCheck (b : Addr) (TT : List (Addr × Str)) : Sp := fun vs H Q _ => ∃ (g v : V) (n : Nat) (ps : List (Int × Int)) (qa : Addr) (k : Int) (d : PyData), vs = [g, .ref qa, v] ∧ GrAt H g (n : Int) ps ∧ (∀ p ∈ ps, 0 ≤ p.1 ∧ p.1 < p.2 ∧ p.2 < (n : Int)) ∧ n ≤ 7 ∧ ps.length ≤ 60 ∧ 0 ≤ k ∧
  H qa = some (.tup [.str "degenerate", .int k]) ∧ DX b H v d ∧ (∃ D, limX D 1000 d) ∧ Tabs TT H ∧ ∀ (r : Bool) H', ExtN H H' → Tabs TT H' → (r = true ↔ papD n ps k d) → Q (.bl r) H'
theorem ok_check {b : Addr} {TT : List (Addr × Str)} (T : Blt mg) (D : DefAt K mg "check" s_check ["graph", "question", "paper"])
    (D_is_question : DefAt K mg "is_question" s_is_question ["graph", "value"]) (G_is_question : FnOk P w K mg base CX0 16 D_is_question.f D_is_question.fd ["graph", "value"] (spQX b TT))
    (D_is_tuple : DefAt K mg "is_tuple" s_is_tuple ["value", "many"]) (G_is_tuple : FnOk P w K mg base CX0 1 D_is_tuple.f D_is_tuple.fd ["value", "many"] (spTupX b))
    (D_is_right : DefAt K mg "_is_right" s_is_right ["graph", "question", "answer", "data"]) (G_is_right : FnOk P w K mg base CX0 17 D_is_right.f D_is_right.fd ["graph", "question", "answer", "data"] (spRight b TT)) :
    FnOk P w K mg base CX0 18 D.f D.fd ["graph", "question", "paper"] (spCheck b TT) := by
  refine D.F.ok sc_check (fun vs H Q E h => ?_) (fun cdv A outer s H vs Q E hr h => ?_)
  · obtain ⟨g, v, n, ps, qa, k, d, rfl, _⟩ := h
    rfl
  · obtain ⟨g, v, n, ps, qa, k, d, rfl, hgr, inn, n7, lps, k0, hq, hd, ⟨DD, hl⟩, hT, q⟩ := h
    refine ⟨_, (pss_cons (ps_if (pt_not (pt_val (pe_call G_is_question (hr.mono (by first | decide | omega)) (by rfl) D_is_question.g D_is_question.F.kp D_is_question.b .nil pass0 (pa_cons (pv 0) (pa_cons (pv 1) pa_nil)))))
        pss_dead
        pss_nil)
      (pss_cons (ps_if (PW.pt (pw_or (pt_not (pt_val (pe_call G_is_tuple (hr.mono (by first | decide | omega)) (by rfl) D_is_tuple.g D_is_tuple.F.kp D_is_tuple.b .nil pass0 (pa_cons (pv 2) (pa_cons pe_int pa_nil))))) (pw_or1 (pt_not (pt_val (pe_callB (call_isiK (K := K) rfl) (by rfl) T.isinstance (by decide +kernel) (pa_cons (pe_ix (ix_tupK (K := K) rfl) (pv 2) pe_int (fun _ _ => rfl)) (pa_cons (pe_bltn (v := .ty "str") (u := .type "str") (by rfl) T.str (by decide +kernel) rfl) pa_nil))))))))
        (pss_one (ps_ret pe_bl))
        pss_nil)
      (pss_cons (ps_asg (pv 2) (PG.tupK (K := K) rfl (pg_tup (n := 2) rfl (pgs_cons (pg_name (i := 3) sc_check.nd rfl (Or.inl rfl)) (pgs_cons (pg_name (i := 4) sc_check.nd rfl (Or.inl rfl)) pgs_nil)))))
      (pss_one (ps_ret (pe_call G_is_right (hr.mono (by first | decide | omega)) (by rfl) D_is_right.g D_is_right.F.kp D_is_right.b .nil pass0 (pa_cons (pv 0) (pa_cons (pv 1) (pa_cons (pv 3) (pa_cons (pv 4) pa_nil)))))))))), ?_⟩
    refine r_at (σ := [some _, some _, some _, none, none]) rfl ?_
    walk_at "z"
    refine ⟨g, .ref qa, (n : Int), ps, .tuple [.str "degenerate", .int k], rfl, hgr, .tup (.inl hq) (.cons (.str _) (.cons (.int _) .nil)), limX_deg, hT, fun r H1 e1 T1 hr1 => ?_⟩
    have rt : r = true := hr1.mpr (qX_deg k0)
    subst rt
    have hq1 := ext_tup e1 hq
    have hd1 := hd.ext e1
    walk_at "z"
    try refine iteF ?_
    walk_at "z"
    refine ⟨v, d, 2, rfl, hd1, ?_⟩
    cases el : lenD 2 d with
    | false =>
      walk_at "z"
      try refine iteT ?_
      try walk_at "z"
      exact q false H1 e1 T1 ⟨fun h => (nomatch h), fun ⟨a, x, e, _⟩ => by rw [e] at el; cases el⟩
    | true =>
      obtain ⟨x1, x2, rfl⟩ : ∃ x1 x2, d = .tuple [x1, x2] := by
        cases d with
        | tuple ds =>
          have el := of_decide_eq_true el
          match ds, el with
          | [x1, x2], _ => exact ⟨x1, x2, rfl⟩
          | [], el => simp at el
          | [_], el => simp at el
          | _ :: _ :: _ :: _, el =>
            simp only [List.length_cons] at el
            omega
        | _ => cases el
      cases hd1 with
      | @tup pa xs _ hxs hxd =>
      cases hxd with
      | @cons v1 vs1 _ _ h1 hr =>
      cases hr with
      | @cons v2 vs2 _ _ h2 hr =>
      cases hr
      obtain ⟨d', rfl, _, hlx⟩ := limX_tup hl
      have hxs : SqT K H1 pa [v1, v2] := .inl hxs
      walk_at "z"
      try refine iteF ?_
      try walk_at "z"
      refine r_isiX h1 rfl (kit_str x1) ?_
      cases es : strD x1 with
      | false =>
        walk_at "z"
        try refine iteT ?_
        try walk_at "z"
        exact q false H1 e1 T1 ⟨fun h => (nomatch h), fun ⟨a, x, e, _⟩ => by
          have e := PyData.tuple.inj e
          rw [(List.cons.inj e).1] at es
          cases es⟩
      | true =>
        obtain ⟨a, rfl⟩ : ∃ a, x1 = .str a := by
          cases x1 with
          | str a => exact ⟨a, rfl⟩
          | _ => cases es
        cases h1
        walk_at "z"
        try refine iteF ?_
        try walk_at "z"
        refine r_gtup hxs rfl ?_
        walk_at "z"
        exact ⟨g, v2, n, ps, qa, k, a, x2, rfl, hgr.tk (ext_tk e1), inn, n7, lps, hq1, h2, fun ds e => by
            have hx := hlx x2 (by simp)
            rw [e] at hx
            obtain ⟨_, _, lb, _⟩ := limX_tup hx
            exact lb, T1, fun r H2 e2 T2 h => q r H2 (e1.trans e2) T2 (h.trans ⟨fun h => ⟨a, x2, rfl, h⟩, fun ⟨a', x', e, h⟩ => by
            have e := PyData.tuple.inj e
            simp only [List.cons.injEq, PyData.str.injEq] at e
            rw [e.1, e.2.1]
            exact h⟩)⟩
end

set_option Elab.async false
set_option linter.all false
set_option maxRecDepth 100000
set_option maxHeartbeats 4000000
open PySem PySem.Spec PyProof.Rows L2 LamX RZ
section
variable {P : Program} {w : World} {K : PySem.W.Frag} {mg : Str → Option Value} {base : Heap}
def spIsIntD (K : PySem.W.Frag) : Sp := fun vs H Q _ => ∃ (v : V) (d : PyData), vs = [v] ∧ Dp K H v d ∧ Q (.bl (intD d)) H
mutual
theorem dp_ext {H H' : Hp} (s : ExtN H H') : ∀ (d : PyData) (v : V), Dp K H v d → Dp K H' v d
  | .none, _, h => by cases h; exact .non
  | .bool b, _, h => by cases h; exact .bl b
  | .int i, _, h => by cases h; exact .int i
  | .str x, _, h => by cases h; exact .str x
  | .list ds, _, h => by
    cases h with
    | lst hs ha => exact .lst (lst_ext s hs) (dps_ext s ds _ ha)
  | .tuple ds, _, h => by
    cases h with
    | tup hs ha => exact .tup (tup_ext s hs) (dps_ext s ds _ ha)
  | .dict _, _, h => by cases h
theorem dps_ext {H H' : Hp} (s : ExtN H H') : ∀ (ds : List PyData) (vs : List V), DpAll K H vs ds → DpAll K H' vs ds
  | [], _, h => by cases h; exact .nil
  | d :: ds, _, h => by
    cases h with
    | cons h1 h2 => exact .cons (dp_ext s d _ h1) (dps_ext s ds _ h2)
end
theorem dp_same {H H' : Hp} (s : Same H H') {d : PyData} {v : V} (h : Dp K H v d) : Dp K H' v d := dp_ext (ext_same s) _ _ h
mutual
theorem DA.dx {a : Addr} {H : Hp} : ∀ (d : PyData) {v : V}, DA a H v d → DX a H v d
  | .none, _, h => by cases h; exact .non
  | .bool b, _, h => by cases h; exact .bl b
  | .int i, _, h => by cases h; exact .int i
  | .str x, _, h => by cases h; exact .str x
  | .list ds, _, h => by
    cases h with
    | lst n hs ha => exact .lst n hs (DAs.dx ds ha)
  | .tuple ds, _, h => by
    cases h with
    | tup hs ha => exact .tup (.inl hs) (DAs.dx ds ha)
  | .dict _, _, h => by cases h
theorem DAs.dx {a : Addr} {H : Hp} : ∀ (ds : List PyData) {vs : List V}, DAs a H vs ds → DXs a H vs ds
  | [], _, h => by cases h; exact .nil
  | d :: ds, _, h => by
    cases h with
    | cons h1 h2 => exact .cons (DA.dx d h1) (DAs.dx ds h2)
end
end

set_option Elab.async false
set_option linter.all false
set_option maxRecDepth 100000
set_option maxHeartbeats 4000000
open PySem PySem.Spec PyProof.Rows L2 LamX RZ

abbrev s_law_is_integer : Stmt := topS 320
theorem sc_law_is_integer : FnScope ["actual"] ["actual"] (defScope s_law_is_integer) := ⟨rfl, rfl, rfl, by decide +kernel, rfl, by decide +kernel, by decide +kernel⟩

abbrev s_law_ints : Stmt := topS 332
theorem sc_law_ints : FnScope ["value", "item"] ["value"] (defScope s_law_ints) := ⟨rfl, rfl, rfl, by decide +kernel, rfl, by decide +kernel, by decide +kernel⟩

abbrev s_law_vertices : Stmt := topS 333
theorem sc_law_vertices : FnScope ["graph", "value", "v"] ["graph", "value"] (defScope s_law_vertices) := ⟨rfl, rfl, rfl, by decide +kernel, rfl, by decide +kernel, by decide +kernel⟩

section
variable {P : Program} {w : World} {K : PySem.W.Frag} {mg : Str → Option Value} {base : Heap}
theorem ok_lisint (T : Blt mg) (D : DefAt K mg "_law_is_integer" s_law_is_integer ["actual"]) : FnOk P w K mg base CX0 1 D.f D.fd ["actual"] (spIsIntD K) := by
  refine D.F.ok sc_law_is_integer (fun vs H Q E h => ?_) (fun cdv A outer s H vs Q E hr h => ?_)
  · obtain ⟨v, d, rfl, _⟩ := h
    rfl
  · obtain ⟨v, d, rfl, hd, q⟩ := h
    refine ⟨_, (pss_one (ps_ret (pe_and (pe_callB (call_isiK (K := K) rfl) (by rfl) T.isinstance (by decide +kernel) (pa_cons (pv 0) (pa_cons (pe_bltn (v := .ty "int") (u := .type "int") (by rfl) T.int (by decide +kernel) rfl) pa_nil))) (pe_one (pe_not (pe_callB (call_isiK (K := K) rfl) (by rfl) T.isinstance (by decide +kernel) (pa_cons (pv 0) (pa_cons (pe_bltn (v := .ty "bool") (u := .type "bool") (by rfl) T.bool (by decide +kernel) rfl) pa_nil)))))))), ?_⟩
    refine r_at (σ := [some _]) rfl ?_
    walk_at "z"
    cases d with
    | int i =>
      refine r_isiD hd (k := "int") rfl (b := true) (by decide +kernel) ?_
      walk_at "z"
      refine r_isiD hd (k := "int") rfl (b := false) (by decide +kernel) ?_
      walk_at "z"
      exact q
    | bool i =>
      refine r_isiD hd (k := "bool") rfl (b := true) (by decide +kernel) ?_
      walk_at "z"
      refine r_isiD hd (k := "bool") rfl (b := true) (by decide +kernel) ?_
      walk_at "z"
      exact q
    | none =>
      refine r_isiD hd (k := "NoneType") rfl (b := false) (by decide +kernel) ?_
      walk_at "z"
      exact q
    | str x =>
      refine r_isiD hd (k := "str") rfl (b := false) (by decide +kernel) ?_
      walk_at "z"
      exact q
    | list ds =>
      refine r_isiD hd (k := "list") rfl (b := false) (by decide +kernel) ?_
      walk_at "z"
      exact q
    | tuple ds =>
      refine r_isiD hd (k := "tuple") rfl (b := false) (by decide +kernel) ?_
      walk_at "z"
      exact q
    | dict ds => cases hd
def intsD : PyData → Bool
  | .tuple ds => ds.all intD
  | _ => false
def spLInts (K : PySem.W.Frag) : Sp := fun vs H Q _ => ∃ (v : V) (d : PyData), vs = [v] ∧ Dp K H v d ∧ (∀ ds, d = .tuple ds → ds.length ≤ 1000) ∧ ∀ H', Same H H' → Q (.bl (intsD d)) H'
theorem all_snoc {α : Type} {p : α → Bool} {l : List α} {i : Nat} {x : α} (h : l[i]? = some x) : (l.take (i + 1)).all p = ((l.take i).all p && p x) := by
  rw [take_next h, List.all_append, List.all_cons, List.all_nil, Bool.and_true]
theorem ok_lints (T : Blt mg) (D : DefAt K mg "_law_ints" s_law_ints ["value"]) (D_law_is_integer : DefAt K mg "_law_is_integer" s_law_is_integer ["actual"]) (G_law_is_integer : FnOk P w K mg base CX0 1 D_law_is_integer.f D_law_is_integer.fd ["actual"] (spIsIntD K)) : FnOk P w K mg base CX0 2 D.f D.fd ["value"] (spLInts K) := by
  refine D.F.ok sc_law_ints (fun vs H Q E h => ?_) (fun cdv A outer s H vs Q E hr h => ?_)
  · obtain ⟨v, d, rfl, _⟩ := h
    rfl
  · obtain ⟨v, d, rfl, hd, len, q⟩ := h
    refine ⟨_, (pss_one (ps_ret (pe_and (pe_callB (call_isiK (K := K) rfl) (by rfl) T.isinstance (by decide +kernel) (pa_cons (pv 0) (pa_cons (pe_bltn (v := .ty "tuple") (u := .type "tuple") (by rfl) T.tuple (by decide +kernel) rfl) pa_nil))) (pe_one (pe_cmpR op_eq (pe_callB (call_lenK (K := K) rfl) (by rfl) T.len (by decide +kernel) (pa_cons (pe_lc (own := [("item", 1)]) (by rfl) sc_law_ints.nd (PI.tupK (K := K) rfl (pi_tup (pv 0))) (blkOk_by (own := [("item", 1)]) (N := ["value", "item"]) (sc := (defScope s_law_ints)) (by decide +kernel)) (fun _ _ _ _ _ => (pg_name (i := 1) sc_law_ints.nd rfl (Or.inl rfl))) (fun _ _ _ _ _ => (pts_one (pt_not (pt_val (pe_call G_law_is_integer (hr.mono (by first | decide | omega)) (by rfl) D_law_is_integer.g D_law_is_integer.F.kp D_law_is_integer.b .nil pass0 (pa_cons (pv 1) pa_nil)))))) (fun _ _ _ _ _ => (pv 1))) pa_nil)) pe_int (nomark _)))))), ?_⟩
    refine r_at (σ := [some _, none]) rfl ?_
    walk_at "z"
    cases d with
    | tuple ds =>
      have ln := len ds rfl
      cases id hd with
      | @tup a xs _ hxs hxd =>
      have lx := (DpAll.pd _ hxd).length
      refine r_isiD hd (k := "tuple") rfl (b := true) (by decide +kernel) ?_
      walk_at "z"
      refine r_it hxs fun c hc => lcR_tup (xs := xs) (fun i H' => Same H H' ∧ ∃ ys, H' c = some (.lst ys) ∧ ys.length ≤ i ∧ (ys.length = 0 ↔ (ds.take i).all intD = true)) (by walk_at "zw") ⟨same_new hc, [], upd_same, Nat.le_refl 0, by simp⟩ (fun i H' _ ⟨s2, _⟩ => sqT_sm s2 hxs) ?_ ?_
      · rintro i x H2 hx ⟨s2, ys, hc2, ly, iff⟩
        obtain ⟨d, hd1, fd⟩ := pd_get (DpAll.pd _ (dps_ext (ext_same s2) _ _ hxd)) hx
        have il := (List.getElem?_eq_some_iff.mp hx).1
        walk_at "z"
        refine ⟨rfl, ?_⟩
        walk_at "z"
        refine ⟨x, d, rfl, fd, ?_⟩
        cases e : intD d with
        | true =>
          walk_at "z"
          refine iteF ?_
          refine ⟨s2, ys, hc2, by omega, ?_⟩
          rw [all_snoc hd1, e, Bool.and_true]
          exact iff
        | false =>
          walk_at "z"
          refine iteT ?_
          walk_at "z"
          refine r_lce hc2 (small_lt (by omega)) ⟨same_mut s2 hc, ys ++ [x], upd_same, by rw [List.length_append]; simp only [List.length_cons, List.length_nil]; omega, ?_⟩
          rw [all_snoc hd1, e, Bool.and_false, List.length_append]
          simp
      · rintro H2 ⟨s2, ys, hc2, ly, iff⟩
        rw [lx, List.take_length] at iff
        walk_at "z"
        have := q H2 s2
        rw [show intsD (.tuple ds) = ds.all intD from rfl] at this
        have ee : decide ((ys.length : Int) = 0) = ds.all intD := by
          apply Bool.eq_iff_iff.mpr
          rw [decide_eq_true_eq, ← iff]
          omega
        rw [← ee] at this
        exact this
    | int i =>
      refine r_isiD hd (k := "int") rfl (b := false) (by decide +kernel) ?_
      walk_at "z"
      exact q H (fun _ _ h => h)
    | bool i =>
      refine r_isiD hd (k := "bool") rfl (b := false) (by decide +kernel) ?_
      walk_at "z"
      exact q H (fun _ _ h => h)
    | none =>
      refine r_isiD hd (k := "NoneType") rfl (b := false) (by decide +kernel) ?_
      walk_at "z"
      exact q H (fun _ _ h => h)
    | str x =>
      refine r_isiD hd (k := "str") rfl (b := false) (by decide +kernel) ?_
      walk_at "z"
      exact q H (fun _ _ h => h)
    | list ds =>
      refine r_isiD hd (k := "list") rfl (b := false) (by decide +kernel) ?_
      walk_at "z"
      exact q H (fun _ _ h => h)
    | dict ds => cases hd
theorem intsD_of {d : PyData} (h : intsD d = true) : ∃ ns : List Int, d = .tuple (ns.map PyData.int) := by
  cases d with
  | tuple ds =>
    obtain ⟨ns, rfl⟩ := allI_of h
    exact ⟨ns, rfl⟩
  | _ => exact absurd h Bool.false_ne_true
theorem intsD_ints {ns : List Int} : intsD (.tuple (ns.map PyData.int)) = true := List.all_eq_true.mpr fun d hd => by
  obtain ⟨i, _, rfl⟩ := List.mem_map.mp hd
  rfl
theorem rowD_ints_false {n : Int} {d : PyData} (h : intsD d = false) : rowD n d = false := by
  cases e : rowD n d with
  | false => rfl
  | true =>
    obtain ⟨ns, rfl, _⟩ := rowD_of e
    rw [intsD_ints] at h
    cases h
def spLVerts (K : PySem.W.Frag) : Sp := fun vs H Q _ => ∃ (g v : V) (n : Int) (ps : List (Int × Int)) (d : PyData), vs = [g, v] ∧ GrAt H g n ps ∧ Dp K H v d ∧ (∀ ds, d = .tuple ds → ds.length ≤ 1000) ∧ ∀ H', Same H H' → Q (.bl (rowD n d)) H'
theorem ok_lverts (T : Blt mg) (z_set : mg "set" = none) (D : DefAt K mg "_law_vertices" s_law_vertices ["graph", "value"]) (D_law_ints : DefAt K mg "_law_ints" s_law_ints ["value"]) (G_law_ints : FnOk P w K mg base CX0 2 D_law_ints.f D_law_ints.fd ["value"] (spLInts K)) : FnOk P w K mg base CX0 3 D.f D.fd ["graph", "value"] (spLVerts K) := by
  refine D.F.ok sc_law_vertices (fun vs H Q E h => ?_) (fun cdv A outer s H vs Q E hr h => ?_)
  · obtain ⟨g, v, n, ps, d, rfl, _⟩ := h
    rfl
  · obtain ⟨g, v, n, ps, d, rfl, hgr, hd, len, q⟩ := h
    obtain ⟨ga, e, rfl, hg, _⟩ := id hgr
    refine ⟨_, (pss_cons (ps_if (pt_not (pt_val (pe_call G_law_ints (hr.mono (by first | decide | omega)) (by rfl) D_law_ints.g D_law_ints.F.kp D_law_ints.b .nil pass0 (pa_cons (pv 1) pa_nil))))
        (pss_one (ps_ret pe_bl))
        pss_nil)
      (pss_one (ps_ret (pe_and (pe_cmpR op_eq (pe_callB (call_lenK (K := K) rfl) (by rfl) T.len (by decide +kernel) (pa_cons (pe_lc (own := [("v", 2)]) (by rfl) sc_law_vertices.nd (PI.tupK (K := K) rfl (pi_tup (pv 1))) (blkOk_by (own := [("v", 2)]) (N := ["graph", "value", "v"]) (sc := (defScope s_law_vertices)) (by decide +kernel)) (fun _ _ _ _ _ => (pg_name (i := 2) sc_law_vertices.nd rfl (Or.inl rfl))) (fun _ _ _ _ _ => (pts_one (PW.pt (pw_or (pt_cmpR op_lt (pv 2) pe_int (nomark _)) (pw_or1 (pt_cmpR op_ge (pv 2) (pe_ix (ix_tupK (K := K) rfl) (pv 0) pe_int (fun _ _ => rfl)) (nomark _))))))) (fun _ _ _ _ _ => (pv 2))) pa_nil)) pe_int (nomark _)) (pe_one (pe_cmpR op_eq (pe_callB (call_lenSet (w := w) rfl) (by rfl) T.len (by decide +kernel) (pa_cons (pe_callTy (cr_setTI (K := K) (w := w) rfl rfl rfl) (by rfl) z_set (by decide +kernel) (pa_cons (pv 1) pa_nil)) pa_nil)) (pe_callB (call_lenK (K := K) rfl) (by rfl) T.len (by decide +kernel) (pa_cons (pv 1) pa_nil)) (nomark _))))))), ?_⟩
    refine r_at (σ := [some _, some _, none]) rfl ?_
    walk_at "z"
    refine ⟨v, d, rfl, hd, len, fun H1 s1 => ?_⟩
    cases ed : intsD d with
    | false =>
      walk_at "z"
      refine iteT ?_
      walk_at "z"
      have := q H1 s1
      rw [rowD_ints_false ed] at this
      exact this
    | true =>
      obtain ⟨ns, rfl⟩ := intsD_of ed
      have ln : ns.length ≤ 1000 := by
        have := len _ rfl
        rwa [List.length_map] at this
      cases dp_ext (ext_same s1) _ _ hd with
      | @tup a xs _ hxs hxd =>
      rw [dp_ints hxd] at hxs
      walk_at "z"
      refine iteF ?_
      walk_at "z"
      refine r_it hxs fun c hc => lcR_tup (xs := ns.map V.int) (fun i H' => Same H1 H' ∧ ∃ ys, H' c = some (.lst ys) ∧ ys.length ≤ i ∧ (ys.length = 0 ↔ ∀ z ∈ ns.take i, 0 ≤ z ∧ z < n)) (by walk_at "zw") ⟨same_new hc, [], upd_same, Nat.le_refl 0, by simp⟩ (fun i H' _ ⟨s2, _⟩ => sqT_sm s2 hxs) ?_ ?_
      · rintro i x H2 hx ⟨s2, ys, hc2, ly, iff⟩
        rw [List.getElem?_map] at hx
        obtain ⟨u, hu, rfl⟩ := Option.map_eq_some_iff.mp hx
        have il := (List.getElem?_eq_some_iff.mp hu).1
        have hg2 := s2 _ _ (s1 _ _ hg)
        have tk : (∀ z ∈ ns.take (i + 1), 0 ≤ z ∧ z < n) ↔ (∀ z ∈ ns.take i, 0 ≤ z ∧ z < n) ∧ 0 ≤ u ∧ u < n := by
          rw [take_next hu, List.forall_mem_append]
          simp
        have no : (u < 0 ∨ n ≤ u) → ¬ ∀ z ∈ ns.take (i + 1), 0 ≤ z ∧ z < n := fun h1 h2 => by
          have := (tk.mp h2).2
          omega
        walk_at "z"
        refine ⟨rfl, ?_⟩
        walk_at "z"
        refine r_ite (fun h1 => ?_) (fun h1 => ?_)
        · walk_at "z"
          refine r_lce hc2 (small_lt (by omega)) ⟨same_mut s2 hc, ys ++ [.int u], upd_same, by rw [List.length_append]; simp only [List.length_cons, List.length_nil]; omega, ?_⟩
          rw [List.length_append]
          exact ⟨fun h => by simp at h, fun h => (no (.inl h1) h).elim⟩
        · walk_at "z"
          refine r_ite (fun h2 => ?_) (fun h2 => ?_)
          · walk_at "z"
            refine r_lce hc2 (small_lt (by omega)) ⟨same_mut s2 hc, ys ++ [.int u], upd_same, by rw [List.length_append]; simp only [List.length_cons, List.length_nil]; omega, ?_⟩
            rw [List.length_append]
            exact ⟨fun h => by simp at h, fun h => (no (.inr (by omega)) h).elim⟩
          · refine ⟨s2, ys, hc2, by omega, ?_⟩
            rw [tk, ← iff]
            exact ⟨fun h => ⟨h, by omega, by omega⟩, fun h => h.1⟩
      · rintro H2 ⟨s2, ys, hc2, ly, iff⟩
        rw [List.length_map, List.take_length] at iff
        walk_at "z"
        by_cases b : ∀ z ∈ ns, 0 ≤ z ∧ z < n
        · rw [decide_eq_true (show ((ys.length : Int) = 0) by have := iff.mpr b; omega)]
          have hx2 := sqT_sm s2 hxs
          walk_at "z"
          refine r_setTI hx2 ln fun p ks hp nd mem => ?_
          have s3 : Same H1 (upd H2 p (SetO w p (fun j => decide (j ∈ ns)) ks.length)) := s2.trans (same_new hp)
          have hx3 := sqT_sm s3 hxs
          have hp3 : (upd H2 p (SetO w p (fun j => decide (j ∈ ns)) ks.length)) p = some (SetO w p (fun j => decide (j ∈ ns)) ks.length) := upd_same
          generalize upd H2 p (SetO w p (fun j => decide (j ∈ ns)) ks.length) = H3 at s3 hx3 hp3 ⊢
          walk_at "z"
          refine r_lenSet hp3 ?_
          walk_at "z"
          have := q _ (s1.trans s3)
          rw [rowD_ints, decide_eq_true b, Bool.true_and] at this
          have ee : decide ((ks.length : Int) = ((ns.map V.int).length : Int)) = decide ns.Nodup := by
            rw [List.length_map]
            have := nodup_len nd mem
            apply Bool.eq_iff_iff.mpr
            rw [decide_eq_true_eq, decide_eq_true_eq]
            exact ⟨fun h => this.mp (by omega), fun h => by have := this.mpr h; omega⟩
          rw [← ee] at this
          exact this
        · rw [decide_eq_false (show ¬ ((ys.length : Int) = 0) from fun h => b (iff.mp (by omega)))]
          walk_at "z"
          have := q _ (s1.trans s2)
          rw [rowD_ints, decide_eq_false b, Bool.false_and] at this
          exact this
end

set_option Elab.async false
set_option linter.all false
set_option maxRecDepth 100000
set_option maxHeartbeats 4000000
open PySem PySem.Spec PyProof.Rows L2

section
variable {P : Program} {w : World} {K : PySem.W.Frag} {mg : Str → Option Value} {base : Heap}
/-- the neighbours of v, ascending, whichever way an edge stands -/
def nbL (ps : List (Int × Int)) (v : Int) (k : Nat) : List Int := ((List.range k).map fun (i : Nat) => (i : Int)).filter fun u => isE ps (u, v)
theorem nbL_len (ps : List (Int × Int)) (v : Int) (k : Nat) : (nbL ps v k).length ≤ k := by
  unfold nbL
  have := List.length_filter_le (fun u => isE ps (u, v)) ((List.range k).map fun (i : Nat) => (i : Int))
  rw [List.length_map, List.length_range] at this
  exact this
theorem nbL_succ (ps : List (Int × Int)) (v : Int) (i : Nat) : nbL ps v (i + 1) = nbL ps v i ++ (if isE ps ((i : Int), v) = true then [(i : Int)] else []) := by
  unfold nbL
  rw [List.range_succ, List.map_append, List.filter_append]
  simp only [List.map_cons, List.map_nil, List.filter_cons, List.filter_nil]
def spNb : Sp := fun vs H Q _ => ∃ (g : V) (n v : Int) (ps : List (Int × Int)), vs = [g, .int v] ∧ GrAt H g n ps ∧ 0 ≤ n ∧ n ≤ 100 ∧ ∀ (l : Addr) (H' : Hp), H l = none → Same H H' → H' l = some (.lst ((nbL ps v n.toNat).map V.int)) → Q (.ref l) H'
theorem ok_nb (T : Blt mg) (D : DefAt K mg "_law_near" s_law_near ["graph", "v"]) :
    FnOk P w K mg base CX0 1 D.f D.fd ["graph", "v"] spNb := by
  refine D.F.ok sc_law_near (fun vs H Q E h => ?_) (fun cdv A outer s H vs Q E hr h => ?_)
  · obtain ⟨g, n, v, ps, rfl, _⟩ := h
    rfl
  · obtain ⟨g, n, v, ps, rfl, hgr, n0, n1, q⟩ := h
    obtain ⟨ga, e, rfl, hg, xs, he, hp⟩ := id hgr
    refine ⟨_, (pss_one (ps_ret (pe_lc (own := [("u", 2)]) (by rfl) sc_law_near.nd (pi_range1 (by rfl) T.range (pa_cons (pe_ix (ix_tupK (K := K) rfl) (pv 0) pe_int (fun _ _ => rfl)) pa_nil)) (blkOk_by (own := [("u", 2)]) (N := ["graph", "v", "u"]) (sc := (defScope s_law_near)) (by decide +kernel)) (fun _ _ _ _ _ => (pg_name (i := 2) sc_law_near.nd rfl (Or.inl rfl))) (fun _ _ _ _ _ => (pts_one (PW.pt (pw_or (pt_cmpR (op_inPK (K := K) rfl hr) (pe_tup (pa_cons (pv 2) (pa_cons (pv 1) pa_nil))) (pe_ix (ix_tupK (K := K) rfl) (pv 0) pe_int (fun _ _ => rfl)) (by rfl)) (pw_or1 (pt_cmpR (op_inPK (K := K) rfl hr) (pe_tup (pa_cons (pv 1) (pa_cons (pv 2) pa_nil))) (pe_ix (ix_tupK (K := K) rfl) (pv 0) pe_int (fun _ _ => rfl)) (by rfl))))))) (fun _ _ _ _ _ => (pv 2))))), ?_⟩
    refine r_at (σ := [some _, some _, none]) rfl ?_
    walk_at "z"
    refine r_rg1 (by omega) fun d hd => lcR_range (fun i H' => Same H H' ∧ H' d = some (.lst ((nbL ps v i).map V.int))) (by walk_at "zw") ⟨same_new hd, upd_same⟩ ?_ ?_
    · rintro i H' hi ⟨s1, hl⟩
      have g1 := hgr.tk (.of_same s1)
      have e0 : (0 : Int) + (i : Int) = i := by omega
      have len : ((nbL ps v i).map V.int).length < sizeLine := small_lt (by
        have := nbL_len ps v i
        rw [List.length_map]
        omega)
      have yes : ∀ H2 : Hp, Same H' H2 → isE ps ((i : Int), v) = true → LcE d (fun H' => Same H H' ∧ H' d = some (.lst ((nbL ps v (i + 1)).map V.int))) (.int (i : Int)) H2 := fun H2 sx hE => by
        refine r_lce (sx _ _ hl) len ⟨same_mut (s1.trans sx) hd, ?_⟩
        rw [nbL_succ, if_pos hE, List.map_append]
        exact upd_same
      have no : ∀ H2 : Hp, Same H' H2 → isE ps ((i : Int), v) = false → Same H H2 ∧ H2 d = some (.lst ((nbL ps v (i + 1)).map V.int)) := fun H2 sx hE => by
        refine ⟨s1.trans sx, ?_⟩
        rw [nbL_succ, if_neg (by rw [hE]; exact Bool.false_ne_true), List.append_nil]
        exact sx _ _ hl
      have hg1 := s1 _ _ hg
      have he1 := s1 _ _ he
      have hp1 := hp.tk (.of_same s1)
      walk_at "z"
      refine ⟨rfl, ?_⟩
      walk_at "z"
      rw [e0]
      refine r_tupN sz2 fun t ht => ?_
      have st := same_new (o := .tup [.int (i : Int), .int v]) ht
      have hg2 := st _ _ hg1
      walk_at "z"
      refine ⟨((i : Int), v), e, xs, ps, ⟨t, rfl, upd_same⟩, rfl, .inl (.inl (st _ _ he1)), hp1.tk (.of_same st), ?_⟩
      walk_at "z"
      refine r_ite (fun h1 => ?_) (fun h1 => ?_)
      · refine iteT ?_
        walk_at "z"
        exact yes _ st (by simp [isE, h1])
      · walk_at "z"
        refine r_tupN sz2 fun t2 ht2 => ?_
        have st2 := st.trans (same_new (o := .tup [.int v, .int (i : Int)]) ht2)
        have hg3 := st2 _ _ hg1
        walk_at "z"
        refine ⟨(v, (i : Int)), e, xs, ps, ⟨t2, rfl, upd_same⟩, rfl, .inl (.inl (st2 _ _ he1)), hp1.tk (.of_same st2), ?_⟩
        walk_at "z"
        refine r_ite (fun h2 => ?_) (fun h2 => ?_)
        · walk_at "z"
          exact yes _ st2 (by simp [isE, h2])
        · exact no _ st2 (by simp [isE, h1, h2])
    · rintro H' ⟨s1, hl⟩
      exact q d H' hd s1 hl
/-- one of three numbers of a tuple -/
theorem r_pick3 {H : Hp} {Q : VK} {t : Addr} {i j k r : Int} (h : H t = some (.tup [.int i, .int j, .int k])) (r0 : 0 ≤ r) (r1 : r < 3) (q : ∀ m, m = i ∨ m = j ∨ m = k → Q (.int m) H) : rIxT K (.ref t) (.int r) H Q := by
  obtain rfl | rfl | rfl : r = 0 ∨ r = 1 ∨ r = 2 := by omega
  · exact r_ixT (.inl (.inl h)) rfl (q i (.inl rfl))
  · exact r_ixT (.inl (.inl h)) rfl (q j (.inr (.inl rfl)))
  · exact r_ixT (.inl (.inl h)) rfl (q k (.inr (.inr rfl)))
end

set_option Elab.async false
set_option linter.all false
set_option maxRecDepth 100000
set_option maxHeartbeats 4000000
open PySem PySem.Spec PyProof.Rows L2 LamX RZ

abbrev s_law_rising : Stmt := topS 331
theorem sc_law_rising : FnScope ["items", "k"] ["items"] (defScope s_law_rising) := ⟨rfl, rfl, rfl, by decide +kernel, rfl, by decide +kernel, by decide +kernel⟩

abbrev s_law_is_set : Stmt := topS 334
theorem sc_law_is_set : FnScope ["graph", "value"] ["graph", "value"] (defScope s_law_is_set) := ⟨rfl, rfl, rfl, by decide +kernel, rfl, by decide +kernel, by decide +kernel⟩

abbrev s_law_is_order : Stmt := topS 335
theorem sc_law_is_order : FnScope ["graph", "value"] ["graph", "value"] (defScope s_law_is_order) := ⟨rfl, rfl, rfl, by decide +kernel, rfl, by decide +kernel, by decide +kernel⟩

abbrev s_law_behind : Stmt := topS 342
theorem sc_law_behind : FnScope ["graph", "order", "k", "near", "v"] ["graph", "order", "k"] (defScope s_law_behind) := ⟨rfl, rfl, rfl, by decide +kernel, rfl, by decide +kernel, by decide +kernel⟩

theorem isE_symG {ps : List (Int × Int)} {x y : Int} : isE ps (x, y) = isE ps (y, x) := by
  unfold isE
  exact Bool.or_comm _ _
theorem mem_nbLG {n : Nat} {ps : List (Int × Int)} {v z : Int} : z ∈ nbL ps v n ↔ (0 ≤ z ∧ z < (n : Int)) ∧ isE ps (v, z) = true := by
  unfold nbL
  rw [List.mem_filter, isE_symG (x := z)]
  refine and_congr_left fun _ => ?_
  exact mem_rgI (n := (n : Int))
theorem nbL_nodupG {n : Nat} {ps : List (Int × Int)} {v : Int} : (nbL ps v n).Nodup := (rgI_nodup (n : Int)).sublist List.filter_sublist
theorem nbS_behind {n : Nat} {ps : List (Int × Int)} {ms : List Int} {v : Int} (nd : ms.Nodup) (bd : ∀ z ∈ ms, 0 ≤ z ∧ z < (n : Int)) : (ms.filter fun z => decide (z ∈ nbL ps v n)).length = (nbS n ps (fun z => z ∈ ms) v).length := by
  refine ((List.perm_ext_iff_of_nodup (nd.sublist List.filter_sublist) nbS_nodup).mpr fun z => ?_).length_eq
  rw [mem_nbS, List.mem_filter, decide_eq_true_iff, mem_nbLG]
  exact ⟨fun h => ⟨bd z h.1, h.2.2, h.1⟩, fun h => ⟨h.2.2, h.1, h.2.1⟩⟩
theorem nbS_near {n : Nat} {ps : List (Int × Int)} {ms : List Int} {v : Int} : ((nbL ps v n).filter fun z => decide (z ∈ ms)).length = (nbS n ps (fun z => z ∈ ms) v).length := by
  refine ((List.perm_ext_iff_of_nodup (nbL_nodupG.sublist List.filter_sublist) nbS_nodup).mpr fun z => ?_).length_eq
  rw [mem_nbS, List.mem_filter, decide_eq_true_iff, mem_nbLG]
  exact ⟨fun h => ⟨h.1.1, h.1.2, h.2⟩, fun h => ⟨⟨h.1, h.2.1⟩, h.2.2⟩⟩
theorem r_slTFromG {K : PySem.W.Frag} {a : Addr} {xs : List V} {k : Nat} {H : Hp} {Q : VK} (h : SqT K H a xs) (h1 : 1 ≤ k) (hk : k ≤ xs.length) (q : ∀ p, H p = none → Q (.ref p) (upd H p (.tup (xs.drop k)))) : rSlT K (.ref a) (some (k : Int)) none H Q := by
  refine ⟨a, xs, rfl, h, fun z => ?_, fun p hp => by rw [cut_from xs k hk]; exact q p hp⟩
  rw [HT.sIx_nat] at z
  omega
section
variable {P : Program} {w : World} {K : PySem.W.Frag} {mg : Str → Option Value} {base : Heap}
def spRisI (K : PySem.W.Frag) : Sp := fun vs H Q _ => ∃ (p : Addr) (ms : List Int), vs = [.ref p] ∧ SqT K H p (ms.map V.int) ∧ ms.length ≤ 1000 ∧ ∀ (r : Bool) H', Same H H' → (r = true ↔ adjI ms) → Q (.bl r) H'
theorem ok_risI (T : Blt mg) (D : DefAt K mg "_law_rising" s_law_rising ["items"]) : FnOk P w K mg base CX0 1 D.f D.fd ["items"] (spRisI K) := by
  refine D.F.ok sc_law_rising (fun vs H Q E h => ?_) (fun cdv A outer s H vs Q E hr h => ?_)
  · obtain ⟨p, ms, rfl, _⟩ := h
    rfl
  · obtain ⟨p, ms, rfl, hp, l, q⟩ := h
    refine ⟨_, (pss_one (ps_ret (pe_cmpR op_eq (pe_callB (call_lenK (K := K) rfl) (by rfl) T.len (by decide +kernel) (pa_cons (pe_lc (own := [("k", 1)]) (by rfl) sc_law_rising.nd (pi_range2 (by rfl) T.range (pa_cons pe_int (pa_cons (pe_callB (call_lenK (K := K) rfl) (by rfl) T.len (by decide +kernel) (pa_cons (pv 0) pa_nil)) pa_nil))) (blkOk_by (own := [("k", 1)]) (N := ["items", "k"]) (sc := (defScope s_law_rising)) (by decide +kernel)) (fun _ _ _ _ _ => (pg_name (i := 1) sc_law_rising.nd rfl (Or.inl rfl))) (fun _ _ _ _ _ => (pts_one (pt_not (pt_cmpR op_lt (pe_ix (ix_tupK (K := K) rfl) (pv 0) (pe_op op_sub (pv 1) pe_int) (fun _ _ => rfl)) (pe_ix (ix_tupK (K := K) rfl) (pv 0) (pv 1) (fun _ _ => rfl)) (nomark _))))) (fun _ _ _ _ _ => (pv 1))) pa_nil)) pe_int (nomark _)))), ?_⟩
    refine r_at (σ := [some _, none]) rfl ?_
    walk_at "z"
    rw [List.length_map]
    refine r_rg2 (by omega) fun d hd => lcR_range (fun i H' => Same H H' ∧ ∃ ys : List V, H' d = some (.lst ys) ∧ ys.length ≤ i ∧ (ys.length = 0 ↔ ∀ j, j < i → ∀ x y, ms[j]? = some x → ms[j + 1]? = some y → x < y)) (by walk_at "zw") ⟨same_new hd, [], upd_same, Nat.le_refl 0, by simp⟩ ?_ ?_
    · rintro i H1 hi ⟨s1, ys, hD, ly, iff⟩
      have hp1 := sqT_sm s1 hp
      have hi2 : i + 1 < ms.length := by omega
      have e1 : (ms.map V.int)[i]? = some (.int ms[i]) := by rw [List.getElem?_map, List.getElem?_eq_getElem (by omega)]; rfl
      have e2 : (ms.map V.int)[i + 1]? = some (.int ms[i + 1]) := by rw [List.getElem?_map, List.getElem?_eq_getElem (by omega)]; rfl
      have tk : (∀ j, j < i + 1 → ∀ x y, ms[j]? = some x → ms[j + 1]? = some y → x < y) ↔ (∀ j, j < i → ∀ x y, ms[j]? = some x → ms[j + 1]? = some y → x < y) ∧ ms[i] < ms[i + 1] := by
        constructor
        · exact fun h => ⟨fun j hj => h j (by omega), h i (by omega) _ _ (List.getElem?_eq_getElem _) (List.getElem?_eq_getElem _)⟩
        · rintro ⟨h1, h2⟩ j hj x y hx hy
          by_cases ej : j = i
          · subst ej
            rw [List.getElem?_eq_getElem (by omega)] at hx hy
            cases hx
            cases hy
            exact h2
          · exact h1 j (by omega) x y hx hy
      walk_at "z"
      refine ⟨rfl, ?_⟩
      walk_at "z"
      refine r_ixT hp1 (at_of (j := i) (by omega) e1) ?_
      walk_at "z"
      refine r_ixT hp1 (at_of (j := i + 1) (by omega) e2) ?_
      walk_at "z"
      refine r_iteN (fun h => ?_) (fun h => ?_)
      · walk_at "z"
        refine r_lce hD (small_lt (by omega)) ⟨same_mut s1 hd, ys ++ [_], upd_same, by rw [List.length_append]; simp only [List.length_cons, List.length_nil]; omega, ?_⟩
        rw [List.length_append]
        exact ⟨fun z => by simp at z, fun z => (h (tk.mp z).2).elim⟩
      · refine ⟨s1, ys, hD, by omega, ?_⟩
        rw [tk, iff]
        exact ⟨fun z => ⟨z, h⟩, fun z => z.1⟩
    · rintro H1 ⟨s1, ys, hD, ly, iff⟩
      walk_at "z"
      refine q _ H1 s1 (decide_eq_true_iff.trans ?_)
      rw [show ((ys.length : Int) = 0 ↔ ys.length = 0) by omega, iff]
      constructor
      · intro h j x y hx hy
        have := (List.getElem?_eq_some_iff.mp hy).1
        exact h j (by omega) x y hx hy
      · exact fun h j _ x y hx hy => h j x y hx hy
def spLSetG (K : PySem.W.Frag) : Sp := fun vs H Q _ => ∃ (g v : V) (n : Int) (ps : List (Int × Int)) (d : PyData), vs = [g, v] ∧ GrAt H g n ps ∧ Dp K H v d ∧ (∀ ds, d = .tuple ds → ds.length ≤ 1000) ∧ ∀ (r : Bool) H', Same H H' → (r = true ↔ setX n d) → Q (.bl r) H'
theorem ok_lsetG (T : Blt mg) (D : DefAt K mg "_law_is_set" s_law_is_set ["graph", "value"]) (D_law_vertices : DefAt K mg "_law_vertices" s_law_vertices ["graph", "value"]) (G_law_vertices : FnOk P w K mg base CX0 3 D_law_vertices.f D_law_vertices.fd ["graph", "value"] (spLVerts K))
    (D_law_rising : DefAt K mg "_law_rising" s_law_rising ["items"]) (G_law_rising : FnOk P w K mg base CX0 1 D_law_rising.f D_law_rising.fd ["items"] (spRisI K)) : FnOk P w K mg base CX0 4 D.f D.fd ["graph", "value"] (spLSetG K) := by
  refine D.F.ok sc_law_is_set (fun vs H Q E h => ?_) (fun cdv A outer s H vs Q E hr h => ?_)
  · obtain ⟨g, v, n, ps, d, rfl, _⟩ := h
    rfl
  · obtain ⟨g, v, n, ps, d, rfl, hg, hd, len, q⟩ := h
    refine ⟨_, (pss_one (ps_ret (pe_and (pe_call G_law_vertices (hr.mono (by first | decide | omega)) (by rfl) D_law_vertices.g D_law_vertices.F.kp D_law_vertices.b .nil pass0 (pa_cons (pv 0) (pa_cons (pv 1) pa_nil))) (pe_one (pe_call G_law_rising (hr.mono (by first | decide | omega)) (by rfl) D_law_rising.g D_law_rising.F.kp D_law_rising.b .nil pass0 (pa_cons (pv 1) pa_nil)))))), ?_⟩
    refine r_at (σ := [some _, some _]) rfl ?_
    walk_at "z"
    refine ⟨g, v, n, ps, d, rfl, hg, hd, len, fun H1 s1 => ?_⟩
    cases er : rowD n d with
    | false =>
      walk_at "z"
      try refine iteF ?_
      try walk_at "z"
      exact q false H1 s1 ⟨fun h => (nomatch h), fun ⟨ns, e, b, asc⟩ => (rowD_false er e b ((adjI_asc asc).imp fun {a b} h e => by omega)).elim⟩
    | true =>
      obtain ⟨ns, rfl, b, nd⟩ := rowD_of er
      cases dp_same s1 hd with
      | @tup a xs _ hxs hxd =>
      rw [dp_ints hxd] at hxs
      walk_at "z"
      try refine iteT ?_
      try walk_at "z"
      refine ⟨a, ns, rfl, hxs, by have := len _ rfl; rwa [List.length_map] at this, fun r H2 s2 hr2 => q r H2 (s1.trans s2) (hr2.trans ⟨fun h => ⟨ns, rfl, b, h⟩, fun ⟨ms, e, _, h⟩ => by
        rw [ints_inj (PyData.tuple.inj e)]
        exact h⟩)⟩
def spLOrdG (K : PySem.W.Frag) : Sp := fun vs H Q _ => ∃ (g v : V) (n : Int) (ps : List (Int × Int)) (d : PyData), vs = [g, v] ∧ GrAt H g n ps ∧ Dp K H v d ∧ (∀ ds, d = .tuple ds → ds.length ≤ 1000) ∧ ∀ (r : Bool) H', Same H H' → (r = true ↔ ∃ ns : List Int, d = .tuple (ns.map PyData.int) ∧ (∀ z ∈ ns, 0 ≤ z ∧ z < n) ∧ ns.Nodup ∧ (ns.length : Int) = n) → Q (.bl r) H'
theorem ok_lordG (T : Blt mg) (D : DefAt K mg "_law_is_order" s_law_is_order ["graph", "value"]) (D_law_vertices : DefAt K mg "_law_vertices" s_law_vertices ["graph", "value"]) (G_law_vertices : FnOk P w K mg base CX0 3 D_law_vertices.f D_law_vertices.fd ["graph", "value"] (spLVerts K)) : FnOk P w K mg base CX0 4 D.f D.fd ["graph", "value"] (spLOrdG K) := by
  refine D.F.ok sc_law_is_order (fun vs H Q E h => ?_) (fun cdv A outer s H vs Q E hr h => ?_)
  · obtain ⟨g, v, n, ps, d, rfl, _⟩ := h
    rfl
  · obtain ⟨g, v, n, ps, d, rfl, hg, hd, len, q⟩ := h
    obtain ⟨ga, e0, rfl, hga, _⟩ := id hg
    refine ⟨_, (pss_one (ps_ret (pe_and (pe_call G_law_vertices (hr.mono (by first | decide | omega)) (by rfl) D_law_vertices.g D_law_vertices.F.kp D_law_vertices.b .nil pass0 (pa_cons (pv 0) (pa_cons (pv 1) pa_nil))) (pe_one (pe_cmpR op_eq (pe_callB (call_lenK (K := K) rfl) (by rfl) T.len (by decide +kernel) (pa_cons (pv 1) pa_nil)) (pe_ix (ix_tupK (K := K) rfl) (pv 0) pe_int (fun _ _ => rfl)) (nomark _)))))), ?_⟩
    refine r_at (σ := [some _, some _]) rfl ?_
    walk_at "z"
    refine ⟨.ref ga, v, n, ps, d, rfl, hg, hd, len, fun H1 s1 => ?_⟩
    have hga1 := s1 _ _ hga
    cases er : rowD n d with
    | false =>
      walk_at "z"
      try refine iteF ?_
      try walk_at "z"
      exact q false H1 s1 ⟨fun h => (nomatch h), fun ⟨ns, e, b, nd, _⟩ => (rowD_false er e b nd).elim⟩
    | true =>
      obtain ⟨ns, rfl, b, nd⟩ := rowD_of er
      cases dp_same s1 hd with
      | @tup a xs _ hxs hxd =>
      rw [dp_ints hxd] at hxs
      walk_at "z"
      try refine iteT ?_
      try walk_at "z"
      rw [List.length_map]
      exact q _ H1 s1 (decide_eq_true_iff.trans ⟨fun h => ⟨ns, rfl, b, nd, h⟩, fun ⟨ms, e, _, _, h⟩ => by rw [ints_inj (PyData.tuple.inj e)]; exact h⟩)
def spBehind (K : PySem.W.Frag) : Sp := fun vs H Q _ => ∃ (g : V) (o : Addr) (n : Nat) (ps : List (Int × Int)) (ns : List Int) (i : Nat) (v : Int), vs = [g, .ref o, .int (i : Nat)] ∧ GrAt H g (n : Int) ps ∧ n ≤ 60 ∧ SqT K H o (ns.map V.int) ∧ ns.length ≤ 60 ∧ ns[i]? = some v ∧
  ∀ (l : Addr) (H' : Hp), Same H H' → H' l = some (.lst (((ns.drop (i + 1)).filter fun z => decide (z ∈ nbL ps v n)).map V.int)) → Q (.ref l) H'
theorem ok_behind (T : Blt mg) (D : DefAt K mg "_law_behind" s_law_behind ["graph", "order", "k"]) (D_law_near : DefAt K mg "_law_near" s_law_near ["graph", "v"]) (G_law_near : FnOk P w K mg base CX0 1 D_law_near.f D_law_near.fd ["graph", "v"] spNb) : FnOk P w K mg base CX0 2 D.f D.fd ["graph", "order", "k"] (spBehind K) := by
  refine D.F.ok sc_law_behind (fun vs H Q E h => ?_) (fun cdv A outer s H vs Q E hr h => ?_)
  · obtain ⟨g, o, n, ps, ns, i, v, rfl, _⟩ := h
    rfl
  · obtain ⟨g, o, n, ps, ns, i, v, rfl, hg, n60, ho, ln, hv, q⟩ := h
    have il := (List.getElem?_eq_some_iff.mp hv).1
    have ix : atI (ns.map V.int) ((i : Nat) : Int) = some (.int v) := at_of (j := i) (by omega) (by rw [List.getElem?_map, hv]; rfl)
    refine ⟨_, (pss_cons (ps_set (i := 3) sc_law_behind.nd rfl (Or.inr rfl) (pe_call G_law_near (hr.mono (by first | decide | omega)) (by rfl) D_law_near.g D_law_near.F.kp D_law_near.b .nil pass0 (pa_cons (pv 0) (pa_cons (pe_ix (ix_tupK (K := K) rfl) (pv 1) (pv 2) (fun _ _ => rfl)) pa_nil))))
      (pss_one (ps_ret (pe_lc (own := [("v", 4)]) (by rfl) sc_law_behind.nd (PI.tupK (K := K) rfl (pi_tup (pe_slice (sl_tupK (K := K) rfl) (pv 1) (po_some (pe_op op_add (pv 2) pe_int)) po_none))) (blkOk_by (own := [("v", 4)]) (N := ["graph", "order", "k", "near", "v"]) (sc := (defScope s_law_behind)) (by decide +kernel)) (fun _ _ _ _ _ => (pg_name (i := 4) sc_law_behind.nd rfl (Or.inl rfl))) (fun _ _ _ _ _ => (pts_one (pt_cmpR (op_inSeqK (K := K) rfl) (pv 4) (pv 3) (by rfl)))) (fun _ _ _ _ _ => (pv 4)))))), ?_⟩
    refine r_at (σ := [some _, some _, some _, none, none]) rfl ?_
    walk_at "z"
    refine ⟨g, (n : Int), v, ps, rfl, hg, by omega, by omega, fun l H1 _ s1 hl => ?_⟩
    rw [show ((n : Int)).toNat = n by omega] at hl
    have ho1 := sqT_sm s1 ho
    have lnb : (nbL ps v n).length ≤ 60 := Nat.le_trans (nbL_len _ _ _) n60
    walk_at "z"
    rw [show ((i : Nat) : Int) + 1 = ((i + 1 : Nat) : Int) by omega]
    refine r_slTFromG ho1 (by omega) (by rw [List.length_map]; omega) fun p hp => ?_
    rw [← List.map_drop]
    have s2 := same_new (o := .tup ((ns.drop (i + 1)).map V.int)) hp
    have hp2 : (upd H1 p (.tup ((ns.drop (i + 1)).map V.int))) p = some (.tup ((ns.drop (i + 1)).map V.int)) := upd_same
    have hl2 := s2 _ _ hl
    generalize upd H1 p (.tup ((ns.drop (i + 1)).map V.int)) = H2 at s2 hp2 hl2 ⊢
    have ld : (ns.drop (i + 1)).length ≤ 60 := by
      rw [List.length_drop]
      omega
    generalize ns.drop (i + 1) = ms at hp2 ld q ⊢
    refine r_it (.inl (.inl hp2)) fun c hc => lcR_tup (xs := ms.map V.int) (fun m H' => Same H2 H' ∧ H' c = some (.lst (((ms.take m).filter fun z => decide (z ∈ nbL ps v n)).map V.int))) (by walk_at "zw") ⟨same_new hc, upd_same⟩ (fun m H' _ ⟨s3, _⟩ => .inl (.inl (s3 _ _ hp2))) ?_ ?_
    · rintro m y H3 hy ⟨s3, hc3⟩
      rw [List.getElem?_map] at hy
      obtain ⟨u, hu, rfl⟩ := Option.map_eq_some_iff.mp hy
      have hl3 := s3 _ _ hl2
      have lf : ((ms.take m).filter fun z => decide (z ∈ nbL ps v n)).length ≤ 60 := Nat.le_trans (List.length_filter_le _ _) (by rw [List.length_take]; omega)
      walk_at "z"
      refine ⟨rfl, ?_⟩
      walk_at "z"
      refine r_inI (ns := nbL ps v n) (.inl (.inl (.inl hl3))) ?_
      walk_at "z"
      refine r_ite (fun h2 => ?_) (fun h2 => ?_)
      · walk_at "z"
        refine r_lce hc3 (small_lt (by rw [List.length_map]; omega)) ⟨same_mut s3 hc, ?_⟩
        rw [take_next hu, List.filter_append, List.filter_cons, if_pos (decide_eq_true h2), List.map_append]
        exact upd_same
      · refine ⟨s3, ?_⟩
        rw [take_next hu, List.filter_append, List.filter_cons, if_neg (by rw [decide_eq_true_eq]; exact h2), List.filter_nil, List.append_nil]
        exact hc3
    · rintro H3 ⟨s3, hc3⟩
      rw [List.length_map, List.take_length] at hc3
      walk_at "z"
      exact q c H3 ((s1.trans s2).trans s3) hc3
end

set_option Elab.async false
set_option linter.all false
set_option maxRecDepth 100000
set_option maxHeartbeats 4000000
open PySem PySem.Spec PyProof.Rows L2 LamX RZ

abbrev s_law_bent : Stmt := topS 343
theorem sc_law_bent : FnScope ["pool", "value", "at", "turn", "other", "items"] ["pool", "value"] (defScope s_law_bent) := ⟨rfl, rfl, rfl, by decide +kernel, rfl, by decide +kernel, by decide +kernel⟩

section
variable {P : Program} {w : World} {K : PySem.W.Frag} {mg : Str → Option Value} {base : Heap}
theorem r_pick7 {B : Addr → Prop} {H : Hp} {Q : VK} {t e : Addr} {r : Int} (h : H t = some (.tup [.str (Str.ofString "x"), .bl true, .ref e, .int 0, .int (-1), .non, .bl false])) (he : H e = some (.tup [])) (r0 : 0 ≤ r) (r1 : r < 7) (q : ∀ v d, DB B H v d → lim 1 0 d → Q v H) : rIxT K (.ref t) (.int r) H Q := by
  obtain rfl | rfl | rfl | rfl | rfl | rfl | rfl : r = 0 ∨ r = 1 ∨ r = 2 ∨ r = 3 ∨ r = 4 ∨ r = 5 ∨ r = 6 := by omega
  · exact r_ixT (.inl (.inl h)) rfl (q _ _ (.str _) (show (Str.ofString "x").cps.all (· < 0x110000) = true by decide +kernel))
  · exact r_ixT (.inl (.inl h)) rfl (q _ _ (.bl _) trivial)
  · exact r_ixT (.inl (.inl h)) rfl (q _ (.tuple []) (.tup he .nil) ⟨Nat.le_refl 0, fun x hx => nomatch hx⟩)
  · exact r_ixT (.inl (.inl h)) rfl (q _ _ (.int _) trivial)
  · exact r_ixT (.inl (.inl h)) rfl (q _ _ (.int _) trivial)
  · exact r_ixT (.inl (.inl h)) rfl (q _ _ .non trivial)
  · exact r_ixT (.inl (.inl h)) rfl (q _ _ (.bl _) trivial)
theorem r_pick4 {H : Hp} {Q : VK} {t : Addr} {i j k l r : Int} (h : H t = some (.tup [.int i, .int j, .int k, .int l])) (r0 : 0 ≤ r) (r1 : r < 4) (q : ∀ m, Q (.int m) H) : rIxT K (.ref t) (.int r) H Q := by
  obtain rfl | rfl | rfl | rfl : r = 0 ∨ r = 1 ∨ r = 2 ∨ r = 3 := by omega
  · exact r_ixT (.inl (.inl h)) rfl (q i)
  · exact r_ixT (.inl (.inl h)) rfl (q j)
  · exact r_ixT (.inl (.inl h)) rfl (q k)
  · exact r_ixT (.inl (.inl h)) rfl (q l)
theorem r_catAT {H : Hp} {Q : VK} {l b : Addr} {xs zs : List V} (h1 : H l = some (.tup xs)) (h2 : H b = some (.tup zs)) (hz : xs.length + zs.length ≤ 100000) (q : ∀ p H', Same H H' → H' p = some (.tup (xs ++ zs)) → Q (.ref p) H') : rCatA K (.ref l) (.ref b) H Q := by
  refine ⟨l, b, xs, zs, rfl, rfl, .inl (.inl h1), .inl (.inl h2), small_len hz, fun e => ?_, fun e1 e2 => ?_, fun e1 e2 p hp => q p _ (same_new hp) upd_same⟩
  · subst e
    exact q b H (fun _ _ h => h) h2
  · subst e2
    refine q l H (fun _ _ h => h) ?_
    rw [List.append_nil]
    exact h1
/-- no tuple -/
def notT (t : PyData) : Prop := ∀ ds, t ≠ .tuple ds
theorem isi_no {t : PyData} {B : Addr → Prop} {H : Hp} {v : V} (h : DB B H v t) (n : notT t) : kitB (kd t) "tuple" = some false := by
  cases h with
  | tup _ _ => exact (n _ rfl).elim
  | non => exact (show kitB "NoneType" "tuple" = some false by decide +kernel)
  | bl => exact (show kitB "bool" "tuple" = some false by decide +kernel)
  | int => exact (show kitB "int" "tuple" = some false by decide +kernel)
  | str => exact (show kitB "str" "tuple" = some false by decide +kernel)
  | lst => exact (show kitB "list" "tuple" = some false by decide +kernel)
theorem lim_tup {d L : Nat} {ds : List PyData} (h : lim d L (.tuple ds)) : ∃ d', d = d' + 1 ∧ ds.length ≤ L ∧ ∀ x ∈ ds, lim d' L x := by
  cases d with
  | zero => exact h.elim
  | succ d => exact ⟨d, rfl, h.1, h.2⟩
theorem lim_mk {d L : Nat} {ds : List PyData} (h : ds.length ≤ L) (k : ∀ x ∈ ds, lim d L x) : lim (d + 1) L (.tuple ds) := ⟨h, k⟩
theorem lim_mkl {d L : Nat} {ds : List PyData} (h : ds.length ≤ L) (k : ∀ x ∈ ds, lim d L x) : lim (d + 1) L (.list ds) := ⟨h, k⟩
def spBent (e : Nat) : Sp := fun vs H Q _ => ∃ (B : Addr → Prop) (a s : Addr) (v : V) (t : PyData) (d L : Nat), vs = [.ref a, v] ∧ Pool H a s ∧ B a ∧ (∀ p, B p → H p ≠ none) ∧ DB B H v t ∧ e = d + 1 ∧ lim d L t ∧ L ≤ 1000 ∧
  ∀ (v' : V) (t' : PyData) (H' : Hp), Pool H' a s → Gr a H H' → DB B H' v' t' → lim (d + 1) (L + 2) t' → Q v' H'
theorem Pool.da {B : Addr → Prop} {a s : Addr} {H H' : Hp} (h : Pool H a s) (hB : B a) (g : Gr a H H') {v : V} {t : PyData} (d : DB B H v t) : DB B H' v t := by
  obtain ⟨xs, hx⟩ := h.lst
  exact d.gr hB g hx
theorem Pool.das {B : Addr → Prop} {a s : Addr} {H H' : Hp} (h : Pool H a s) (hB : B a) (g : Gr a H H') {v : List V} {t : List PyData} (d : DBs B H v t) : DBs B H' v t := by
  obtain ⟨xs, hx⟩ := h.lst
  exact d.gr hB g hx
theorem occ_gr {B : Addr → Prop} {a s : Addr} {H H' : Hp} (h : Pool H' a s) (g : Gr a H H') (o : ∀ p, B p → H p ≠ none) : ∀ p, B p → H' p ≠ none := fun p hp z => by
  by_cases e : p = a
  · obtain ⟨xs, hx⟩ := h.lst
    rw [e, hx] at z
    cases z
  · cases q : H p with
    | none => exact o p hp q
    | some u =>
      rw [g p _ e q] at z
      cases z
set_option hygiene false in
local macro_rules | `(tactic| walk_at "zpick") => `(tactic| (
  walk_at "z"
  refine r_tupN (by decide) fun e0 he0 => ?_
  have sA := same_new (o := .tup []) he0
  have hA : (upd H2 e0 (.tup [])) e0 = some (.tup []) := upd_same
  generalize upd H2 e0 (.tup []) = H3 at sA hA ⊢
  walk_at "z"
  refine r_tupN (small_len (by simp only [List.length_cons, List.length_nil]; omega)) fun t0 ht0 => ?_
  have sB := same_new (o := .tup [.str (Str.ofString "x"), .bl true, .ref e0, .int 0, .int (-1), .non, .bl false]) ht0
  have hB : (upd H3 t0 (.tup [.str (Str.ofString "x"), .bl true, .ref e0, .int 0, .int (-1), .non, .bl false])) t0 = some (.tup [.str (Str.ofString "x"), .bl true, .ref e0, .int 0, .int (-1), .non, .bl false]) := upd_same
  have hA2 := sB _ _ hA
  have hP3 := hP2.mono (sA.trans sB)
  have g3 := g2.trans (Gr.of_same (sA.trans sB))
  generalize upd H3 t0 (.tup [.str (Str.ofString "x"), .bl true, .ref e0, .int 0, .int (-1), .non, .bl false]) = H4 at sB hB hA2 hP3 g3 ⊢
  walk_at "z"
  refine ⟨a, s0, 7, rfl, hP3, by omega, by omega, fun r7 H5 r70 r71 hP5 g5 => ?_⟩
  refine r_pick7 (B := B) (g5.tk hP3 _ _ hB) (g5.tk hP3 _ _ hA2) r70 r71 fun v' d' hv' hl' => ?_
  exact q v' d' H5 hP5 (g3.trans g5) hv' (lim.mono (by omega) (by omega) hl')))
theorem ok_bent (T : Blt mg) (D_law_bent : DefAt K mg "_law_bent" s_law_bent ["pool", "value"]) (D_law_draw : DefAt K mg "_law_draw" s_law_draw ["pool", "many"]) (G_law_draw : FnOk P w K mg base CX0 2 D_law_draw.f D_law_draw.fd ["pool", "many"] spDraw)
    (D_law_is_integer : DefAt K mg "_law_is_integer" s_law_is_integer ["actual"]) (G_law_is_integer : FnOk P w K mg base CX0 1 D_law_is_integer.f D_law_is_integer.fd ["actual"] (spIsIntD K)) : ∀ e : Nat, FnOk P w K mg base CX0 (e + 3) D_law_bent.f D_law_bent.fd ["pool", "value"] (spBent e)
  | 0 => fn_none.imp fun vs H Q E h => by
    obtain ⟨_, _, _, _, _, _, _, _, _, _, _, _, h, _⟩ := h
    omega
  | e + 1 => by
    have G_law_bent := ok_bent T D_law_bent D_law_draw G_law_draw D_law_is_integer G_law_is_integer e
    refine D_law_bent.F.ok sc_law_bent (fun vs H Q E h => ?_) (fun cdv A outer s H vs Q E hr h => ?_)
    · obtain ⟨B, a, s, v, t, d, L, rfl, _⟩ := h
      rfl
    · obtain ⟨B, a, s0, v, t, d, L, rfl, hP, hB, occ, hd, ed, hl, hL, q⟩ := h
      refine ⟨_, (pss_cons (ps_if (PW.pt (pw_and (pt_val (pe_callB (call_isiK (K := K) rfl) (by rfl) T.isinstance (by decide +kernel) (pa_cons (pv 1) (pa_cons (pe_bltn (v := .ty "tuple") (u := .type "tuple") (by rfl) T.tuple (by decide +kernel) rfl) pa_nil)))) (pw_and (pt_cmpR op_gt (pe_callB (call_lenK (K := K) rfl) (by rfl) T.len (by decide +kernel) (pa_cons (pv 1) pa_nil)) pe_int (nomark _)) (pw_and1 (pt_cmpR op_gt (pe_call G_law_draw (hr.mono (by first | decide | omega)) (by rfl) D_law_draw.g D_law_draw.F.kp D_law_draw.b .nil pass0 (pa_cons (pv 0) (pa_cons pe_int pa_nil))) pe_int (nomark _))))))
        (pss_cons (ps_set (i := 2) sc_law_bent.nd rfl (Or.inl rfl) (pe_call G_law_draw (hr.mono (by first | decide | omega)) (by rfl) D_law_draw.g D_law_draw.F.kp D_law_draw.b .nil pass0 (pa_cons (pv 0) (pa_cons (pe_callB (call_lenK (K := K) rfl) (by rfl) T.len (by decide +kernel) (pa_cons (pv 1) pa_nil)) pa_nil))))
        (pss_one (ps_ret (pe_op (op_catAK (K := K) rfl) (pe_op (op_catAK (K := K) rfl) (pe_slice (sl_tupAK (K := K) rfl) (pv 1) po_none (po_some (pv 2))) (pe_tup (pa_cons (pe_call G_law_bent (hr.mono (by first | decide | omega)) (by rfl) D_law_bent.g D_law_bent.F.kp D_law_bent.b .nil pass0 (pa_cons (pv 0) (pa_cons (pe_ix (ix_tupK (K := K) rfl) (pv 1) (pv 2) (fun _ _ => rfl)) pa_nil))) pa_nil))) (pe_slice (sl_tupAK (K := K) rfl) (pv 1) (po_some (pe_op op_add (pv 2) pe_int)) po_none)))))
        pss_nil)
      (pss_cons (ps_set (i := 3) sc_law_bent.nd rfl (Or.inl rfl) (pe_call G_law_draw (hr.mono (by first | decide | omega)) (by rfl) D_law_draw.g D_law_draw.F.kp D_law_draw.b .nil pass0 (pa_cons (pv 0) (pa_cons pe_int pa_nil))))
      (pss_cons (ps_if (pt_cmpR op_eq (pv 3) pe_int (nomark _))
        (pss_one (ps_ret (pe_ix (ix_tupK (K := K) rfl) (pe_tup (pa_cons pe_str (pa_cons pe_bl (pa_cons (pe_tup pa_nil) (pa_cons pe_int (pa_cons (pe_un un_neg pe_int) (pa_cons pe_non (pa_cons pe_bl pa_nil)))))))) (pe_call G_law_draw (hr.mono (by first | decide | omega)) (by rfl) D_law_draw.g D_law_draw.F.kp D_law_draw.b .nil pass0 (pa_cons (pv 0) (pa_cons pe_int pa_nil))) (fun _ _ => rfl))))
        pss_nil)
      (pss_cons (ps_if (pt_val (pe_call G_law_is_integer (hr.mono (by first | decide | omega)) (by rfl) D_law_is_integer.g D_law_is_integer.F.kp D_law_is_integer.b .nil pass0 (pa_cons (pv 1) pa_nil)))
        (pss_one (ps_ret (pe_op op_add (pv 1) (pe_ix (ix_tupK (K := K) rfl) (pe_tup (pa_cons pe_int (pa_cons (pe_un un_neg pe_int) (pa_cons pe_int (pa_cons pe_int pa_nil))))) (pe_call G_law_draw (hr.mono (by first | decide | omega)) (by rfl) D_law_draw.g D_law_draw.F.kp D_law_draw.b .nil pass0 (pa_cons (pv 0) (pa_cons pe_int pa_nil))) (fun _ _ => rfl)))))
        pss_nil)
      (pss_cons (ps_if (PW.pt (pw_or (pt_not (pt_val (pe_callB (call_isiK (K := K) rfl) (by rfl) T.isinstance (by decide +kernel) (pa_cons (pv 1) (pa_cons (pe_bltn (v := .ty "tuple") (u := .type "tuple") (by rfl) T.tuple (by decide +kernel) rfl) pa_nil))))) (pw_or1 (pt_cmpR op_eq (pe_callB (call_lenK (K := K) rfl) (by rfl) T.len (by decide +kernel) (pa_cons (pv 1) pa_nil)) pe_int (nomark _)))))
        (pss_one (ps_ret (pe_ifExp (pt_cmpR op_lt (pv 3) pe_int (nomark _)) (pe_tup (pa_cons (pv 1) (pa_cons pe_int pa_nil))) (pe_tup pa_nil))))
        pss_nil)
      (pss_cons (ps_set (i := 2) sc_law_bent.nd rfl (Or.inl rfl) (pe_call G_law_draw (hr.mono (by first | decide | omega)) (by rfl) D_law_draw.g D_law_draw.F.kp D_law_draw.b .nil pass0 (pa_cons (pv 0) (pa_cons (pe_callB (call_lenK (K := K) rfl) (by rfl) T.len (by decide +kernel) (pa_cons (pv 1) pa_nil)) pa_nil))))
      (pss_cons (ps_if (pt_cmpR op_lt (pv 3) pe_int (nomark _))
        (pss_one (ps_ret (pe_op (op_catAK (K := K) rfl) (pe_slice (sl_tupAK (K := K) rfl) (pv 1) po_none (po_some (pv 2))) (pe_slice (sl_tupAK (K := K) rfl) (pv 1) (po_some (pe_op op_add (pv 2) pe_int)) po_none))))
        pss_nil)
      (pss_cons (ps_if (pt_cmpR op_lt (pv 3) pe_int (nomark _))
        (pss_one (ps_ret (pe_op (op_catAK (K := K) rfl) (pe_op (op_catAK (K := K) rfl) (pe_slice (sl_tupAK (K := K) rfl) (pv 1) po_none (po_some (pv 2))) (pe_tup (pa_cons (pe_ix (ix_tupK (K := K) rfl) (pv 1) (pv 2) (fun _ _ => rfl)) pa_nil))) (pe_slice (sl_tupAK (K := K) rfl) (pv 1) (po_some (pv 2)) po_none))))
        pss_nil)
      (pss_cons (ps_if (pt_cmpR op_eq (pv 3) pe_int (nomark _))
        (pss_one (ps_ret (pe_callTy (call_listK (K := K) rfl) (by rfl) T.list (by decide +kernel) (pa_cons (pv 1) pa_nil))))
        pss_nil)
      (pss_cons (ps_set (i := 4) sc_law_bent.nd rfl (Or.inl rfl) (pe_call G_law_draw (hr.mono (by first | decide | omega)) (by rfl) D_law_draw.g D_law_draw.F.kp D_law_draw.b .nil pass0 (pa_cons (pv 0) (pa_cons (pe_callB (call_lenK (K := K) rfl) (by rfl) T.len (by decide +kernel) (pa_cons (pv 1) pa_nil)) pa_nil))))
      (pss_cons (ps_set (i := 5) sc_law_bent.nd rfl (Or.inl rfl) (pe_callTy (call_listK (K := K) rfl) (by rfl) T.list (by decide +kernel) (pa_cons (pv 1) pa_nil)))
      (pss_cons (ps_asg (pe_ix (ix_tupK (K := K) rfl) (pv 1) (pv 4) (fun _ _ => rfl)) (pg_sub (pv 5) (pv 2) set_list))
      (pss_cons (ps_asg (pe_ix (ix_tupK (K := K) rfl) (pv 1) (pv 2) (fun _ _ => rfl)) (pg_sub (pv 5) (pv 4) set_list))
      (pss_one (ps_ret (pe_callTy (call_tupleK (K := K) rfl) (by rfl) T.tuple (by decide +kernel) (pa_cons (pv 5) pa_nil))))))))))))))))), ?_⟩
      refine r_at (σ := [some _, some _, none, none, none, none]) rfl ?_
      walk_at "z"
      by_cases nt : notT t
      · have hk := isi_no hd nt
        refine r_isiD hd.dp rfl hk ?_
        walk_at "z"
        refine ⟨a, s0, 9, rfl, hP, by omega, by omega, fun r H2 r0 r1 hP2 g2 => ?_⟩
        walk_at "z"
        refine r_ite (fun h => ?_) (fun h => ?_)
        · walk_at "zpick"
        · have hd2 := hP.da hB g2 hd
          walk_at "z"
          refine ⟨v, t, rfl, hd2.dp, ?_⟩
          cases ei : intD t with
          | true =>
            obtain ⟨i, rfl⟩ : ∃ i, t = .int i := by
              cases t with
              | int i => exact ⟨i, rfl⟩
              | _ => exact absurd ei Bool.false_ne_true
            cases hd2
            walk_at "z"
            refine r_tupN (by decide) fun t0 ht0 => ?_
            have sB := same_new (o := .tup [.int 1, .int (-1), .int 2, .int 0]) ht0
            have hB : (upd H2 t0 (.tup [.int 1, .int (-1), .int 2, .int 0])) t0 = some (.tup [.int 1, .int (-1), .int 2, .int 0]) := upd_same
            have hP3 := hP2.mono sB
            have g3 := g2.trans (Gr.of_same sB)
            generalize upd H2 t0 (.tup [.int 1, .int (-1), .int 2, .int 0]) = H3 at sB hB hP3 g3 ⊢
            walk_at "z"
            refine ⟨a, s0, 4, rfl, hP3, by omega, by omega, fun r7 H5 r70 r71 hP5 g5 => ?_⟩
            walk_at "z"
            refine r_pick4 (g5.tk hP3 _ _ hB) r70 r71 fun m => ?_
            walk_at "z"
            exact q _ (.int (i + m)) H5 hP5 (g3.trans g5) (.int _) lim_int
          | false =>
            walk_at "z"
            refine r_isiD hd2.dp rfl (isi_no hd2 nt) ?_
            walk_at "z"
            refine iteT (iteT ?_)
            walk_at "z"
            refine r_ite (fun h5 => ?_) (fun h5 => ?_)
            · walk_at "z"
              refine r_tupN sz2 fun t0 ht0 => ?_
              refine q _ (.tuple [t, .int 0]) _ (hP2.mono (same_new ht0)) (g2.trans (.new ht0)) (.tup upd_same (.cons (hd2.same (same_new ht0)) (.cons (.int 0) .nil))) (lim_mk (by simp only [List.length_cons, List.length_nil]; omega) fun x hx => ?_)
              rcases List.mem_cons.mp hx with rfl | hx
              · exact hl.mono (by omega) (Nat.le_refl _)
              · rw [List.mem_singleton.mp hx]
                exact lim_int
            · walk_at "z"
              refine r_tupN (by decide) fun t0 ht0 => ?_
              exact q _ (.tuple []) _ (hP2.mono (same_new ht0)) (g2.trans (.new ht0)) (.tup upd_same .nil) (lim_mk (Nat.zero_le _) fun x hx => nomatch hx)
      · obtain ⟨ds, rfl⟩ : ∃ ds, t = .tuple ds := Classical.byContradiction fun c => nt fun ds e => c ⟨ds, e⟩
        obtain ⟨d', rfl, ll, le⟩ := lim_tup hl
        cases id hd with
        | @tup p xs _ hp hxd =>
        have lx := hxd.len
        refine r_isiD hd.dp (k := "tuple") rfl (b := true) (by decide +kernel) ?_
        walk_at "z"
        by_cases lz : ds.length = 0
        · rw [decide_eq_false (show ¬ (0 : Int) < xs.length by omega)]
          walk_at "z"
          refine ⟨a, s0, 9, rfl, hP, by omega, by omega, fun r H2 r0 r1 hP2 g2 => ?_⟩
          walk_at "z"
          refine r_ite (fun h => ?_) (fun h => ?_)
          · walk_at "zpick"
          · have hd2 := hP.da hB g2 hd
            have hp2 := g2.tk hP _ _ hp
            walk_at "z"
            refine ⟨.ref p, _, rfl, hd2.dp, ?_⟩
            walk_at "z"
            refine iteF ?_
            walk_at "z"
            refine r_isiD hd2.dp (k := "tuple") rfl (b := true) (by decide +kernel) ?_
            walk_at "z"
            refine iteF ?_
            walk_at "z"
            rw [decide_eq_true (show (xs.length : Int) = 0 by omega)]
            walk_at "z"
            refine r_ite (fun h5 => ?_) (fun h5 => ?_)
            · walk_at "z"
              refine r_tupN sz2 fun t0 ht0 => ?_
              refine q _ (.tuple [.tuple ds, .int 0]) _ (hP2.mono (same_new ht0)) (g2.trans (.new ht0)) (.tup upd_same (.cons (hd2.same (same_new ht0)) (.cons (.int 0) .nil))) (lim_mk (by simp only [List.length_cons, List.length_nil]; omega) fun x hx => ?_)
              rcases List.mem_cons.mp hx with rfl | hx
              · exact hl.mono (by omega) (Nat.le_refl _)
              · rw [List.mem_singleton.mp hx]
                exact lim_int
            · walk_at "z"
              refine r_tupN (by decide) fun t0 ht0 => ?_
              exact q _ (.tuple []) _ (hP2.mono (same_new ht0)) (g2.trans (.new ht0)) (.tup upd_same .nil) (lim_mk (Nat.zero_le _) fun x hx => nomatch hx)
        · rw [decide_eq_true (show (0 : Int) < xs.length by omega)]
          walk_at "z"
          refine ⟨a, s0, 3, rfl, hP, by omega, by omega, fun r3 H1 r30 r31 hP1 g1 => ?_⟩
          have hd1 := hP.da hB g1 hd
          have hp1 := g1.tk hP _ _ hp
          have hxd1 := hP.das hB g1 hxd
          walk_at "z"
          refine r_ite (fun h => ?_) (fun h => ?_)
          · -- one item is bent
            walk_at "z"
            refine ⟨a, s0, _, rfl, hP1, by omega, by omega, fun r H2 r0 r1 hP2 g2 => ?_⟩
            have hd2 := hP1.da hB g2 hd1
            have hp2 := g2.tk hP1 _ _ hp1
            have hxd2 := hP1.das hB g2 hxd1
            have er : ((r.toNat : Nat) : Int) = r := by omega
            have hr : r.toNat < ds.length := by omega
            obtain ⟨z, hz⟩ : ∃ z, ds[r.toNat]? = some z := ⟨_, List.getElem?_eq_getElem hr⟩
            obtain ⟨y, hy⟩ : ∃ y, xs[r.toNat]? = some y := ⟨_, List.getElem?_eq_getElem (by omega)⟩
            walk_at "z"
            refine r_slA (.inl (.inl hp2)) fun p3 H3 s3 _ hp3 => ?_
            have hp3 := hp3 hp2
            rw [← er, cut_to xs r.toNat (by omega)] at hp3
            have hP3 := hP2.mono s3
            have hp3x := s3 _ _ hp2
            have hxd3 := hxd2.same s3
            have g03 := (g1.trans g2).trans (Gr.of_same s3)
            walk_at "z"
            refine r_ixT (.inl (.inl hp3x)) (at_of (j := r.toNat) (by omega) hy) ?_
            have hyd : DB B H3 y z := by
              obtain ⟨z', hz', hd'⟩ := pd_get (DBs.pd _ hxd3) hy
              rw [hz] at hz'
              cases hz'
              exact hd'
            walk_at "z"
            refine ⟨B, a, s0, y, z, d', L, rfl, hP3, hB, occ_gr hP3 g03 occ, hyd, by omega, le z (List.mem_of_getElem? hz), hL, fun v' t' H4 hP4 g4 hd4 hl4 => ?_⟩
            have hp4 := g4.tk hP3 _ _ hp3
            have hp4x := g4.tk hP3 _ _ hp3x
            have hxd4 := hP3.das hB g4 hxd3
            walk_at "z"
            refine r_tupN sz1 fun q1 hq1 => ?_
            have s5 := same_new (o := .tup [v']) hq1
            have hq5 : (upd H4 q1 (.tup [v'])) q1 = some (.tup [v']) := upd_same
            have hP5 := hP4.mono s5
            have hp5 := s5 _ _ hp4
            have hp5x := s5 _ _ hp4x
            have hxd5 := hxd4.same s5
            have hd5 := hd4.same s5
            have g05 := (g03.trans g4).trans (Gr.of_same s5)
            generalize upd H4 q1 (.tup [v']) = H5 at s5 hq5 hP5 hp5 hp5x hxd5 hd5 g05 ⊢
            walk_at "z"
            refine r_catAT hp5 hq5 (by rw [List.length_take]; simp only [List.length_cons, List.length_nil]; omega) fun p6 H6 s6 hp6 => ?_
            have hp6x := s6 _ _ hp5x
            walk_at "z"
            refine r_slA (.inl (.inl hp6x)) fun p7 H7 s7 _ hp7 => ?_
            have hp7 := hp7 hp6x
            rw [show r + 1 = ((r.toNat + 1 : Nat) : Int) by omega, cut_from xs (r.toNat + 1) (by omega)] at hp7
            have hp7b := s7 _ _ hp6
            walk_at "z"
            refine r_catAT hp7b hp7 (by rw [List.length_append, List.length_take, List.length_drop]; simp only [List.length_cons, List.length_nil]; omega) fun p8 H8 s8 hp8 => ?_
            have s58 := (s6.trans s7).trans s8
            have hxd8 := hxd5.same s58
            refine q _ (.tuple (ds.take r.toNat ++ [t'] ++ ds.drop (r.toNat + 1))) H8 (hP5.mono s58) (g05.trans (Gr.of_same s58)) (.tup hp8 (((hxd8.take r.toNat).app (.cons (hd5.same s58) .nil)).app (hxd8.drop (r.toNat + 1)))) (lim_mk ?_ fun x hx => ?_)
            · rw [List.length_append, List.length_append, List.length_take, List.length_drop]
              simp only [List.length_cons, List.length_nil]
              omega
            · rcases List.mem_append.mp hx with hx | hx
              · rcases List.mem_append.mp hx with hx | hx
                · exact (le x (List.mem_of_mem_take hx)).mono (by omega) (by omega)
                · rw [List.mem_singleton.mp hx]
                  exact hl4
              · exact (le x (List.mem_of_mem_drop hx)).mono (by omega) (by omega)
          · walk_at "z"
            refine ⟨a, s0, 9, rfl, hP1, by omega, by omega, fun r H2 r0 r1 hP2 g12 => ?_⟩
            have g2 := g1.trans g12
            walk_at "z"
            refine r_ite (fun h => ?_) (fun h => ?_)
            · walk_at "zpick"
            · have hd2 := hP1.da hB g12 hd1
              have hp2 := g12.tk hP1 _ _ hp1
              have hxd2 := hP1.das hB g12 hxd1
              walk_at "z"
              refine ⟨.ref p, _, rfl, hd2.dp, ?_⟩
              walk_at "z"
              refine iteF ?_
              walk_at "z"
              refine r_isiD hd2.dp (k := "tuple") rfl (b := true) (by decide +kernel) ?_
              walk_at "z"
              refine iteF ?_
              walk_at "z"
              rw [decide_eq_false (show ¬ (xs.length : Int) = 0 by omega)]
              walk_at "z"
              refine ⟨a, s0, _, rfl, hP2, by omega, by omega, fun c H3 c0 c1 hP3 g3 => ?_⟩
              have hp3 := g3.tk hP2 _ _ hp2
              have hxd3 := hP2.das hB g3 hxd2
              have g03 := g2.trans g3
              have ec : ((c.toNat : Nat) : Int) = c := by omega
              have hc : c.toNat < ds.length := by omega
              obtain ⟨z, hz⟩ : ∃ z, ds[c.toNat]? = some z := ⟨_, List.getElem?_eq_getElem hc⟩
              obtain ⟨y, hy⟩ : ∃ y, xs[c.toNat]? = some y := ⟨_, List.getElem?_eq_getElem (by omega)⟩
              have hyd : DB B H3 y z := by
                obtain ⟨z', hz', hd'⟩ := pd_get (DBs.pd _ hxd3) hy
                rw [hz] at hz'
                cases hz'
                exact hd'
              have lim2 : ∀ x ∈ ds, lim (d' + 1) (L + 2) x := fun x hx => (le x hx).mono (by omega) (by omega)
              walk_at "z"
              refine r_ite (fun h3 => ?_) (fun h3 => ?_)
              · walk_at "z"
                refine r_slA (.inl (.inl hp3)) fun p4 H4 s4 _ hp4 => ?_
                have hp4 := hp4 hp3
                rw [← ec, cut_to xs c.toNat (by omega)] at hp4
                have hp4x := s4 _ _ hp3
                walk_at "z"
                refine r_slA (.inl (.inl hp4x)) fun p5 H5 s5 _ hp5 => ?_
                have hp5 := hp5 hp4x
                rw [show c + 1 = ((c.toNat + 1 : Nat) : Int) by omega, cut_from xs (c.toNat + 1) (by omega)] at hp5
                have hp54 := s5 _ _ hp4
                walk_at "z"
                refine r_catAT hp54 hp5 (by rw [List.length_take, List.length_drop]; omega) fun p6 H6 s6 hp6 => ?_
                have s36 := (s4.trans s5).trans s6
                have hxd6 := hxd3.same s36
                refine q _ (.tuple (ds.take c.toNat ++ ds.drop (c.toNat + 1))) H6 (hP3.mono s36) (g03.trans (Gr.of_same s36)) (.tup hp6 ((hxd6.take c.toNat).app (hxd6.drop (c.toNat + 1)))) (lim_mk ?_ fun x hx => ?_)
                · rw [List.length_append, List.length_take, List.length_drop]
                  omega
                · rcases List.mem_append.mp hx with hx | hx
                  · exact lim2 x (List.mem_of_mem_take hx)
                  · exact lim2 x (List.mem_of_mem_drop hx)
              · walk_at "z"
                refine r_ite (fun h4 => ?_) (fun h4 => ?_)
                · walk_at "z"
                  refine r_slA (.inl (.inl hp3)) fun p4 H4 s4 _ hp4 => ?_
                  have hp4 := hp4 hp3
                  rw [← ec, cut_to xs c.toNat (by omega)] at hp4
                  have hp4x := s4 _ _ hp3
                  walk_at "z"
                  refine r_ixT (.inl (.inl hp4x)) (at_of (j := c.toNat) (by omega) hy) ?_
                  walk_at "z"
                  refine r_tupN sz1 fun q1 hq1 => ?_
                  have s5 := same_new (o := .tup [y]) hq1
                  have hq5 : (upd H4 q1 (.tup [y])) q1 = some (.tup [y]) := upd_same
                  have hp5 := s5 _ _ hp4
                  have hp5x := s5 _ _ hp4x
                  generalize upd H4 q1 (.tup [y]) = H5 at s5 hq5 hp5 hp5x ⊢
                  walk_at "z"
                  refine r_catAT hp5 hq5 (by rw [List.length_take]; simp only [List.length_cons, List.length_nil]; omega) fun p6 H6 s6 hp6 => ?_
                  have hp6x := s6 _ _ hp5x
                  walk_at "z"
                  refine r_slA (.inl (.inl hp6x)) fun p7 H7 s7 _ hp7 => ?_
                  have hp7 := hp7 hp6x
                  rw [← ec, cut_from xs c.toNat (by omega)] at hp7
                  have hp7b := s7 _ _ hp6
                  walk_at "z"
                  refine r_catAT hp7b hp7 (by rw [List.length_append, List.length_take, List.length_drop]; simp only [List.length_cons, List.length_nil]; omega) fun p8 H8 s8 hp8 => ?_
                  have s38 := ((s4.trans s5).trans s6).trans (s7.trans s8)
                  have hxd8 := hxd3.same s38
                  refine q _ (.tuple (ds.take c.toNat ++ [z] ++ ds.drop c.toNat)) H8 (hP3.mono s38) (g03.trans (Gr.of_same s38)) (.tup hp8 (((hxd8.take c.toNat).app (.cons (hyd.same s38) .nil)).app (hxd8.drop c.toNat))) (lim_mk ?_ fun x hx => ?_)
                  · rw [List.length_append, List.length_append, List.length_take, List.length_drop]
                    simp only [List.length_cons, List.length_nil]
                    omega
                  · rcases List.mem_append.mp hx with hx | hx
                    · rcases List.mem_append.mp hx with hx | hx
                      · exact lim2 x (List.mem_of_mem_take hx)
                      · rw [List.mem_singleton.mp hx]
                        exact lim2 z (List.mem_of_getElem? hz)
                    · exact lim2 x (List.mem_of_mem_drop hx)
                · walk_at "z"
                  refine r_ite (fun h5 => ?_) (fun h5 => ?_)
                  · walk_at "z"
                    refine r_listT (.inl (.inl hp3)) fun l hl4 => ?_
                    exact q _ (.list ds) _ (hP3.mono (same_new hl4)) (g03.trans (.new hl4)) (.lst (fun z => occ_gr hP3 g03 occ l z hl4) upd_same (hxd3.same (same_new hl4))) (lim_mkl (by omega) lim2)
                  · walk_at "z"
                    refine ⟨a, s0, _, rfl, hP3, by omega, by omega, fun b H4 b0 b1 hP4 g4 => ?_⟩
                    have hp4 := g4.tk hP3 _ _ hp3
                    have hxd4 := hP3.das hB g4 hxd3
                    have hb : b.toNat < ds.length := by omega
                    obtain ⟨z2, hz2⟩ : ∃ z, ds[b.toNat]? = some z := ⟨_, List.getElem?_eq_getElem hb⟩
                    obtain ⟨y2, hy2⟩ : ∃ y, xs[b.toNat]? = some y := ⟨_, List.getElem?_eq_getElem (by omega)⟩
                    walk_at "z"
                    refine r_listT (.inl (.inl hp4)) fun l hl4 => ?_
                    have nl := new_ne hP4 hl4
                    have s5 := same_new (o := .lst xs) hl4
                    have hl5 : (upd H4 l (.lst xs)) l = some (.lst xs) := upd_same
                    have hp5 := s5 _ _ hp4
                    have npl : p ≠ l := ne_of_none hp4 hl4
                    have hP5 := hP4.mono s5
                    generalize upd H4 l (.lst xs) = H5 at s5 hl5 hp5 hP5 ⊢
                    walk_at "z"
                    refine r_ixT (.inl (.inl hp5)) (at_of (j := b.toNat) (by omega) hy2) ?_
                    walk_at "z"
                    refine r_setL hl5 (j := c.toNat) (by unfold ixN; rw [if_pos c0, if_pos (by omega)]) ?_
                    have hp6 : (upd H5 l (.lst (xs.set c.toNat y2))) p = some (.tup xs) := (upd_ne npl).trans hp5
                    have hl6 : (upd H5 l (.lst (xs.set c.toNat y2))) l = some (.lst (xs.set c.toNat y2)) := upd_same
                    have s6 := same_mut (o := .lst (xs.set c.toNat y2)) s5 hl4
                    have hP6 := hP5.upd (o := .lst (xs.set c.toNat y2)) nl
                    generalize upd H5 l (.lst (xs.set c.toNat y2)) = H6 at hp6 hl6 s6 hP6 ⊢
                    walk_at "z"
                    refine r_ixT (.inl (.inl hp6)) (at_of (j := c.toNat) (by omega) hy) ?_
                    walk_at "z"
                    refine r_setL hl6 (j := b.toNat) (by unfold ixN; rw [if_pos b0, if_pos (by rw [List.length_set]; omega)]) ?_
                    have hl7 : (upd H6 l (.lst ((xs.set c.toNat y2).set b.toNat y))) l = some (.lst ((xs.set c.toNat y2).set b.toNat y)) := upd_same
                    have s7 := same_mut (o := .lst ((xs.set c.toNat y2).set b.toNat y)) s6 hl4
                    have hP7 := hP6.upd (o := .lst ((xs.set c.toNat y2).set b.toNat y)) nl
                    generalize upd H6 l (.lst ((xs.set c.toNat y2).set b.toNat y)) = H7 at hl7 s7 hP7 ⊢
                    walk_at "z"
                    refine r_tupL (.inl (.inl hl7)) fun u hu => ?_
                    have s8 := s7.trans (same_new (o := .tup ((xs.set c.toNat y2).set b.toNat y)) hu)
                    have hxd8 := hxd4.same s8
                    have hyd8 := (hP3.da hB g4 hyd).same s8
                    have hyd82 : DB B (upd H7 u (.tup ((xs.set c.toNat y2).set b.toNat y))) y2 z2 := by
                      obtain ⟨z', hz', hd'⟩ := pd_get (DBs.pd _ hxd8) hy2
                      rw [hz2] at hz'
                      cases hz'
                      exact hd'
                    refine q _ (.tuple ((ds.set c.toNat z2).set b.toNat z)) _ (hP7.mono (same_new hu)) ((g03.trans g4).trans (Gr.of_same s8)) (.tup upd_same (.of (pd_set hyd8 _ (pd_set hyd82 _ (DBs.pd _ hxd8))))) (lim_mk (by rw [List.length_set, List.length_set]; omega) fun x hx => ?_)
                    rcases List.mem_or_eq_of_mem_set hx with hx | rfl
                    · rcases List.mem_or_eq_of_mem_set hx with hx | rfl
                      · exact lim2 x hx
                      · exact lim2 _ (List.mem_of_getElem? hz2)
                    · exact lim2 _ (List.mem_of_getElem? hz)
end

set_option Elab.async false
set_option linter.all false
set_option maxRecDepth 100000
set_option maxHeartbeats 4000000
open PySem PySem.Spec PyProof.Rows L2 LamX RZ

abbrev s_law_right : Stmt := topS 349
theorem sc_law_right : FnScope ["graph", "question", "paper", "data", "k", "v", "i", "u"] ["graph", "question", "paper"] (defScope s_law_right) := ⟨rfl, rfl, rfl, by decide +kernel, rfl, by decide +kernel, by decide +kernel⟩

def ynD : PyData → Bool
  | .str a => decide (a = "yes") || decide (a = "no")
  | _ => false
theorem any_yn (d : PyData) : ([PyData.str "yes", .str "no"].any fun z => PyData.eqv z d) = ynD d := by
  cases d with
  | str a =>
    simp only [List.any_cons, List.any_nil, PyData.eqv, ynD, Bool.or_false]
    have e : ∀ x y : Str, (x == y) = decide (y = x) := fun x y => by
      apply Bool.eq_iff_iff.mpr
      rw [beq_iff_eq, decide_eq_true_eq]
      exact eq_comm
    rw [e, e]
  | _ => simp [PyData.eqv, ynD]
section
variable {P : Program} {w : World} {K : PySem.W.Frag} {mg : Str → Option Value} {base : Heap}
def spLRight (K : PySem.W.Frag) : Sp := fun vs H Q _ => ∃ (g v : V) (n : Nat) (ps : List (Int × Int)) (qa : Addr) (k : Int) (d : PyData), vs = [g, .ref qa, v] ∧ GrAt H g (n : Int) ps ∧ n ≤ 7 ∧ H qa = some (.tup [.str "degenerate", .int k]) ∧ Dp K H v d ∧ (∃ D, D ≤ 60 ∧ lim D 1000 d) ∧
  ∀ (r : Bool) (H' : Hp), Same H H' → (r = true ↔ papD n ps k d) → Q (.bl r) H'
theorem ok_lright (T : Blt mg) (D : DefAt K mg "_law_right" s_law_right ["graph", "question", "paper"])
    (D_law_is_order : DefAt K mg "_law_is_order" s_law_is_order ["graph", "value"]) (G_law_is_order : FnOk P w K mg base CX0 4 D_law_is_order.f D_law_is_order.fd ["graph", "value"] (spLOrdG K))
    (D_law_is_set : DefAt K mg "_law_is_set" s_law_is_set ["graph", "value"]) (G_law_is_set : FnOk P w K mg base CX0 4 D_law_is_set.f D_law_is_set.fd ["graph", "value"] (spLSetG K))
    (D_law_behind : DefAt K mg "_law_behind" s_law_behind ["graph", "order", "k"]) (G_law_behind : FnOk P w K mg base CX0 2 D_law_behind.f D_law_behind.fd ["graph", "order", "k"] (spBehind K))
    (D_law_near : DefAt K mg "_law_near" s_law_near ["graph", "v"]) (G_law_near : FnOk P w K mg base CX0 1 D_law_near.f D_law_near.fd ["graph", "v"] spNb) : FnOk P w K mg base CX0 5 D.f D.fd ["graph", "question", "paper"] (spLRight K) := by
  refine D.F.ok sc_law_right (fun vs H Q E h => ?_) (fun cdv A outer s H vs Q E hr h => ?_)
  · obtain ⟨g, v, n, ps, qa, k, d, rfl, _⟩ := h
    rfl
  · obtain ⟨g, v, n, ps, qa, k, d, rfl, hgr, n7, hq, hd, ⟨DD, hD, hl⟩, q⟩ := h
    obtain ⟨ga, e0, rfl, hga, _⟩ := id hgr
    refine ⟨_, (pss_cons (ps_if (PW.pt (pw_or (pt_not (pt_val (pe_callB (call_isiK (K := K) rfl) (by rfl) T.isinstance (by decide +kernel) (pa_cons (pv 2) (pa_cons (pe_bltn (v := .ty "tuple") (u := .type "tuple") (by rfl) T.tuple (by decide +kernel) rfl) pa_nil))))) (pw_or (pt_cmpR op_ne (pe_callB (call_lenK (K := K) rfl) (by rfl) T.len (by decide +kernel) (pa_cons (pv 2) pa_nil)) pe_int (nomark _)) (pw_or1 (pt_cmpR (op_ninDTK (K := K) rfl (units65 hr)) (pe_ix (ix_tupK (K := K) rfl) (pv 2) pe_int (fun _ _ => rfl)) (pe_tup (pa_cons pe_str (pa_cons pe_str pa_nil))) (by rfl))))))
        (pss_one (ps_ret pe_bl))
        pss_nil)
      (pss_cons (ps_set (i := 3) sc_law_right.nd rfl (Or.inr rfl) (pe_ix (ix_tupK (K := K) rfl) (pv 2) pe_int (fun _ _ => rfl)))
      (pss_cons (ps_set (i := 4) sc_law_right.nd rfl (Or.inr rfl) (pe_ix (ix_tupK (K := K) rfl) (pv 1) pe_int (fun _ _ => rfl)))
      (pss_cons (ps_if (pt_cmpR (op_eqDK (K := K) rfl hr.units) (pe_ix (ix_tupK (K := K) rfl) (pv 2) pe_int (fun _ _ => rfl)) pe_str (nomark _))
        (pss_cons (ps_if (pt_not (pt_val (pe_call G_law_is_order (hr.mono (by first | decide | omega)) (by rfl) D_law_is_order.g D_law_is_order.F.kp D_law_is_order.b .nil pass0 (pa_cons (pv 0) (pa_cons (pv 3) pa_nil)))))
          (pss_one (ps_ret pe_bl))
          pss_nil)
        (pss_one (ps_ret (pe_cmpR op_eq (pe_callB (call_lenK (K := K) rfl) (by rfl) T.len (by decide +kernel) (pa_cons (pe_lc (own := [("i", 6)]) (by rfl) sc_law_right.nd (pi_range1 (by rfl) T.range (pa_cons (pe_ix (ix_tupK (K := K) rfl) (pv 0) pe_int (fun _ _ => rfl)) pa_nil)) (blkOk_by (own := [("i", 6)]) (N := ["graph", "question", "paper", "data", "k", "v", "i", "u"]) (sc := (defScope s_law_right)) (by decide +kernel)) (fun _ _ _ _ _ => (pg_name (i := 6) sc_law_right.nd rfl (Or.inl rfl))) (fun _ _ _ _ _ => (pts_one (pt_cmpR op_gt (pe_callB (call_lenK (K := K) rfl) (by rfl) T.len (by decide +kernel) (pa_cons (pe_call G_law_behind (hr.mono (by first | decide | omega)) (by rfl) D_law_behind.g D_law_behind.F.kp D_law_behind.b .nil pass0 (pa_cons (pv 0) (pa_cons (pv 3) (pa_cons (pv 6) pa_nil)))) pa_nil)) (pv 4) (nomark _)))) (fun _ _ _ _ _ => (pv 6))) pa_nil)) pe_int (nomark _)))))
        pss_nil)
      (pss_cons (ps_if (PW.pt (pw_or (pt_not (pt_val (pe_call G_law_is_set (hr.mono (by first | decide | omega)) (by rfl) D_law_is_set.g D_law_is_set.F.kp D_law_is_set.b .nil pass0 (pa_cons (pv 0) (pa_cons (pv 3) pa_nil))))) (pw_or1 (pt_cmpR op_eq (pe_callB (call_lenK (K := K) rfl) (by rfl) T.len (by decide +kernel) (pa_cons (pv 3) pa_nil)) pe_int (nomark _)))))
        (pss_one (ps_ret pe_bl))
        pss_nil)
      (pss_cons (ps_for PassesOwn.never (by rfl) (PI.tupK (K := K) rfl (pi_tup (pv 3))) (pg_name (i := 5) sc_law_right.nd rfl (Or.inl rfl))
        (pss_one (ps_if (pt_cmpR op_le (pe_callB (call_lenK (K := K) rfl) (by rfl) T.len (by decide +kernel) (pa_cons (pe_lc (own := [("u", 7)]) (by rfl) sc_law_right.nd (PI.listK (K := K) rfl (pi_list (pe_call G_law_near (hr.mono (by first | decide | omega)) (by rfl) D_law_near.g D_law_near.F.kp D_law_near.b .nil pass0 (pa_cons (pv 0) (pa_cons (pv 5) pa_nil))))) (blkOk_by (own := [("u", 7)]) (N := ["graph", "question", "paper", "data", "k", "v", "i", "u"]) (sc := (defScope s_law_right)) (by decide +kernel)) (fun _ _ _ _ _ => (pg_name (i := 7) sc_law_right.nd rfl (Or.inl rfl))) (fun _ _ _ _ _ => (pts_one (pt_cmpR (op_inSeqK (K := K) rfl) (pv 7) (pv 3) (by rfl)))) (fun _ _ _ _ _ => (pv 7))) pa_nil)) (pv 4) (nomark _))
          (pss_one (ps_ret pe_bl))
          pss_nil)))
      (pss_one (ps_ret pe_bl)))))))), ?_⟩
    refine r_at (σ := [some _, some _, some _, none, none, none, none, none]) rfl ?_
    walk_at "z"
    refine r_isiD hd rfl (kit_tup d) ?_
    cases et : tupD d with
    | false =>
      walk_at "z"
      try refine iteT ?_
      try walk_at "z"
      exact q false H (Same.refl _) ⟨fun h => (nomatch h), fun ⟨a, x, e, _⟩ => by rw [e] at et; cases et⟩
    | true =>
    obtain ⟨ds, rfl⟩ : ∃ ds, d = .tuple ds := by
      cases d with
      | tuple ds => exact ⟨ds, rfl⟩
      | _ => cases et
    cases hd with
    | @tup pa xs _ hxs hxd =>
    have lx : xs.length = ds.length := dp_len hxd
    walk_at "z"
    try refine iteF ?_
    try walk_at "z"
    refine r_iteN (fun h => ?_) (fun h => ?_)
    · walk_at "z"
      exact q false H (Same.refl _) ⟨fun h => (nomatch h), fun ⟨a, x, e, _⟩ => (h (by rw [lx, PyData.tuple.inj e]; rfl)).elim⟩
    obtain ⟨x1, x2, rfl⟩ : ∃ x1 x2, ds = [x1, x2] := by
      have el : ds.length = 2 := by omega
      match ds, el with
      | [x1, x2], _ => exact ⟨x1, x2, rfl⟩
    cases hxd with
    | @cons v1 vs1 _ _ h1 hr =>
    cases hr with
    | @cons v2 vs2 _ _ h2 hr =>
    cases hr
    obtain ⟨d', rfl, _, hlx⟩ := lim_tup hl
    have sh1 := lim_shaped (hlx x1 (by simp)) (by omega)
    have sh2 := lim_shaped (hlx x2 (by simp)) (by omega)
    have l2 : ∀ ds, x2 = .tuple ds → ds.length ≤ 1000 := fun ds e => by
      have hx := hlx x2 (by simp)
      rw [e] at hx
      obtain ⟨_, _, lb, _⟩ := lim_tup hx
      exact lb
    walk_at "z"
    refine r_tupN sz2 fun t ht => ?_
    have s1 := same_new (o := .tup [.str "yes", .str "no"]) ht
    have ht1 : (upd H t (.tup [.str "yes", .str "no"])) t = some (.tup [.str "yes", .str "no"]) := upd_same
    have hx1 := sqT_sm s1 hxs
    have hq1 := s1 _ _ hq
    have hga1 := s1 _ _ hga
    have hgr1 := hgr.tk (.of_same s1)
    have h11 := dp_same s1 h1
    have h21 := dp_same s1 h2
    generalize upd H t (.tup [.str "yes", .str "no"]) = H1 at s1 ht1 hx1 hq1 hga1 hgr1 h11 h21 ⊢
    refine ⟨x1, [.str "yes", .str "no"], h11, .tup (.inl (.inl ht1)) (.cons (.str _) (.cons (.str _) .nil)), sh1, shaped_of (by decide +kernel) (by decide +kernel), ?_⟩
    rw [any_yn]
    cases ey : ynD x1 with
    | false =>
      walk_at "z"
      try refine iteT ?_
      try walk_at "z"
      exact q false H1 s1 ⟨fun h => (nomatch h), fun ⟨a, x, e, h⟩ => by
        have e := PyData.tuple.inj e
        rw [(List.cons.inj e).1] at ey
        rcases h with ⟨rfl, _⟩ | ⟨rfl, _⟩
        · exact absurd ey (by decide +kernel)
        · exact absurd ey (by decide +kernel)⟩
    | true =>
    obtain ⟨a, rfl, ya⟩ : ∃ a, x1 = .str a ∧ (a = "yes" ∨ a = "no") := by
      cases x1 with
      | str a =>
        refine ⟨a, rfl, ?_⟩
        rcases Bool.or_eq_true_iff.mp ey with c | c
        · exact .inl (of_decide_eq_true c)
        · exact .inr (of_decide_eq_true c)
      | _ => cases ey
    cases h11
    cases h1
    have tell : ∀ {r : Bool} {H'}, Same H H' → (r = true ↔ rgtD n ps k a x2) → Q (.bl r) H' := fun s' h => q _ _ s' (h.trans ⟨fun h => ⟨a, x2, rfl, h⟩, fun ⟨a', x', e, h⟩ => by
      have e := PyData.tuple.inj e
      simp only [List.cons.injEq, PyData.str.injEq] at e
      rw [e.1, e.2.1]
      exact h⟩)
    walk_at "z"
    try refine iteF ?_
    try walk_at "z"
    refine ⟨.str a, .str "yes", .str _, .str _, sh1, shaped_of (by decide +kernel) (by decide +kernel), ?_⟩
    rcases ya with rfl | rfl
    · rw [show PyData.eqv (.str "yes") (.str "yes") = true by decide +kernel]
      walk_at "z"
      try refine iteT ?_
      try walk_at "z"
      refine ⟨.ref ga, v2, (n : Int), ps, x2, rfl, hgr1, h21, l2, fun r H2 s2 hr2 => ?_⟩
      have s02 := s1.trans s2
      cases r with
      | false =>
        walk_at "z"
        try refine iteT ?_
        try walk_at "z"
        exact tell s02 ⟨fun h => (nomatch h), fun h => h.elim (fun ⟨_, ns, e, b, nd, l, _⟩ => by have := hr2.mpr ⟨ns, e, b, nd, l⟩; cases this) fun h => absurd h.1.symm yn_ne⟩
      | true =>
      obtain ⟨ns, rfl, bd, nd, ll⟩ := hr2.mp rfl
      cases dp_same s2 h21 with
      | @tup o xs2 _ hxs2 hxd2 =>
      rw [dp_ints hxd2] at hxs2
      have hga2 := s2 _ _ hga1
      have hgr2 := hgr1.tk (.of_same s2)
      walk_at "z"
      try refine iteF ?_
      try walk_at "z"
      refine r_rg1 (by omega) fun c hc => lcR_range (fun i H' => Same H2 H' ∧ ∃ ys : List V, H' c = some (.lst ys) ∧ ys.length ≤ i ∧ (ys.length = 0 ↔ ∀ (j : Nat) v, j < i → ns[j]? = some v → ((nbS n ps (fun z => z ∈ ns.drop (j + 1)) v).length : Int) ≤ k)) (by walk_at "zw") ⟨same_new hc, [], upd_same, Nat.le_refl 0, by simp⟩ ?_ ?_
      · rintro i H3 hi ⟨s3, ys, hys, ly, iff⟩
        obtain ⟨u, hu⟩ : ∃ u, ns[i]? = some u := ⟨_, List.getElem?_eq_getElem (by omega)⟩
        have tk : (∀ (j : Nat) v, j < i + 1 → ns[j]? = some v → ((nbS n ps (fun z => z ∈ ns.drop (j + 1)) v).length : Int) ≤ k) ↔ (∀ (j : Nat) v, j < i → ns[j]? = some v → ((nbS n ps (fun z => z ∈ ns.drop (j + 1)) v).length : Int) ≤ k) ∧ ((nbS n ps (fun z => z ∈ ns.drop (i + 1)) u).length : Int) ≤ k := by
          constructor
          · exact fun h => ⟨fun j v hj => h j v (by omega), h i u (by omega) hu⟩
          · rintro ⟨h1, h2⟩ j v hj hv
            by_cases ej : j = i
            · subst ej
              rw [hu] at hv
              cases hv
              exact h2
            · exact h1 j v (by omega) hv
        have nbd := nbS_behind (n := n) (ps := ps) (v := u) (nd.sublist (List.drop_sublist (i + 1) ns)) fun z hz => bd z ((List.drop_sublist _ _).mem hz)
        walk_at "z"
        refine ⟨rfl, ?_⟩
        walk_at "z"
        refine ⟨.ref ga, o, n, ps, ns, i, u, by rw [Int.zero_add]; rfl, hgr2.tk (.of_same s3), by omega, sqT_sm s3 hxs2, by omega, hu, fun l H4 s4 hl4 => ?_⟩
        have hys4 := s4 _ _ hys
        have s34 := s3.trans s4
        walk_at "z"
        rw [List.length_map, nbd]
        refine r_ite (fun h => ?_) (fun h => ?_)
        · walk_at "z"
          refine r_lce hys4 (small_lt (by omega)) ⟨same_mut s34 hc, ys ++ [_], upd_same, by rw [List.length_append]; simp only [List.length_cons, List.length_nil]; omega, ?_⟩
          rw [List.length_append]
          exact ⟨fun z => by simp at z, fun z => by have := (tk.mp z).2; omega⟩
        · refine ⟨s34, ys, hys4, by omega, ?_⟩
          rw [tk, iff]
          exact ⟨fun z => ⟨z, by omega⟩, fun z => z.1⟩
      · rintro H3 ⟨s3, ys, hys, ly, iff⟩
        walk_at "z"
        refine tell (s02.trans s3) (decide_eq_true_iff.trans ?_)
        rw [show ((ys.length : Int) = 0 ↔ ys.length = 0) by omega, iff]
        constructor
        · exact fun h => .inl ⟨rfl, ns, rfl, bd, nd, ll, fun i v hv => h i v (by have := (List.getElem?_eq_some_iff.mp hv).1; omega) hv⟩
        · rintro (⟨_, ms, e, _, _, _, h⟩ | ⟨e, _⟩)
          · have em := ints_inj (PyData.tuple.inj e)
            intro j v _ hv
            rw [em] at hv ⊢
            exact h j v hv
          · exact absurd e.symm yn_ne
    · rw [show PyData.eqv (.str "no") (.str "yes") = false by decide +kernel]
      walk_at "z"
      try refine iteF ?_
      try walk_at "z"
      refine ⟨.ref ga, v2, (n : Int), ps, x2, rfl, hgr1, h21, l2, fun r H2 s2 hr2 => ?_⟩
      have s02 := s1.trans s2
      cases r with
      | false =>
        walk_at "z"
        try refine iteT ?_
        try walk_at "z"
        exact tell s02 ⟨fun h => (nomatch h), fun h => h.elim (fun h => absurd h.1 yn_ne) fun ⟨_, ns, e, b, asc, _⟩ => by have := hr2.mpr ⟨ns, e, b, asc⟩; cases this⟩
      | true =>
      obtain ⟨ns, rfl, bd, asc⟩ := hr2.mp rfl
      cases dp_same s2 h21 with
      | @tup o xs2 _ hxs2 hxd2 =>
      rw [dp_ints hxd2] at hxs2
      have nd : ns.Nodup := (adjI_asc asc).imp fun {a b} h e => by omega
      have ln : ns.length ≤ 7 := by
        have := nodup_le ns (rgI (n : Int)) nd fun v hv => mem_rgI.mpr (bd v hv)
        rw [rgI_len] at this
        omega
      have hga2 := s2 _ _ hga1
      have hgr2 := hgr1.tk (.of_same s2)
      walk_at "z"
      try refine iteF ?_
      try walk_at "z"
      rw [List.length_map]
      refine r_ite (fun h => ?_) (fun h => ?_)
      · walk_at "z"
        exact tell s02 ⟨fun h => (nomatch h), fun h9 => h9.elim (fun h => absurd h.1 yn_ne) fun ⟨_, ms, e, _, _, ne, _⟩ => (ne (by rw [← ints_inj (PyData.tuple.inj e)]; exact List.length_eq_zero_iff.mp (by omega))).elim⟩
      · have nne : ns ≠ [] := fun e => h (by rw [e]; rfl)
        walk_at "z"
        refine r_it hxs2 (forR_tup (xs := ns.map V.int) (fun i σ' H' => (∃ x5 x6 x7, σ' = [some (.ref ga), some (.ref qa), some (.ref pa), some (.ref o), some (.int k), x5, x6, x7]) ∧ Same H2 H' ∧ ∀ v ∈ ns.take i, k < ((nbS n ps (fun z => z ∈ ns) v).length : Int)) ⟨⟨_, _, _, rfl⟩, Same.refl _, fun v hv => by simp at hv⟩ (fun i σ' H' _ ⟨_, s3, _⟩ => sqT_sm s3 hxs2) ?_ ?_)
        · rintro i x σ' H3 hx ⟨⟨x5, x6, x7, rfl⟩, s3, all⟩
          rw [List.getElem?_map] at hx
          obtain ⟨u, hu, rfl⟩ := Option.map_eq_some_iff.mp hx
          have um : u ∈ ns := List.mem_of_getElem? hu
          have hx3 := sqT_sm s3 hxs2
          have lnb : (nbL ps u n).length ≤ 60 := Nat.le_trans (nbL_len _ _ _) (by omega)
          walk_at "z"
          refine ⟨.ref ga, (n : Int), u, ps, rfl, hgr2.tk (.of_same s3), by omega, by omega, fun l H4 _ s4 hl => ?_⟩
          rw [show ((n : Int)).toNat = n by omega] at hl
          have hx4 := sqT_sm s4 hx3
          refine r_il (.inl (.inl hl)) fun c hc => lcR_list (xs := (nbL ps u n).map V.int) (fun m H' => Same H4 H' ∧ H' c = some (.lst ((((nbL ps u n).take m).filter fun z => decide (z ∈ ns)).map V.int))) (by walk_at "zw") ⟨same_new hc, upd_same⟩ (fun m H' _ ⟨s5, _⟩ => .inl (.inl (s5 _ _ hl))) ?_ ?_
          · rintro m y H5 hy ⟨s5, hc5⟩
            rw [List.getElem?_map] at hy
            obtain ⟨z, hz, rfl⟩ := Option.map_eq_some_iff.mp hy
            have lf : (((nbL ps u n).take m).filter fun z => decide (z ∈ ns)).length ≤ 60 := Nat.le_trans (List.length_filter_le _ _) (by rw [List.length_take]; omega)
            walk_at "z"
            refine ⟨rfl, ?_⟩
            walk_at "z"
            refine r_inI (ns := ns) (.inr (sqT_sm s5 hx4)) ?_
            walk_at "z"
            refine r_ite (fun h2 => ?_) (fun h2 => ?_)
            · walk_at "z"
              refine r_lce hc5 (small_lt (by rw [List.length_map]; omega)) ⟨same_mut s5 hc, ?_⟩
              rw [take_next hz, List.filter_append, List.filter_cons, if_pos (decide_eq_true h2), List.map_append]
              exact upd_same
            · refine ⟨s5, ?_⟩
              rw [take_next hz, List.filter_append, List.filter_cons, if_neg (by rw [decide_eq_true_eq]; exact h2), List.filter_nil, List.append_nil]
              exact hc5
          · rintro H5 ⟨s5, hc5⟩
            rw [List.length_map, List.take_length] at hc5
            have s35 := (s3.trans s4).trans s5
            walk_at "z"
            rw [List.length_map, nbS_near]
            refine r_ite (fun h2 => ?_) (fun h2 => ?_)
            · walk_at "z"
              exact tell (s02.trans s35) ⟨fun h => (nomatch h), fun h9 => h9.elim (fun h => absurd h.1 yn_ne) fun ⟨_, ms, e, _, _, _, h⟩ => by
                have em := ints_inj (PyData.tuple.inj e)
                have := h u (by rw [← em]; exact um)
                rw [← em] at this
                omega⟩
            · walk_at "z"
              refine ⟨⟨_, _, _, rfl⟩, s35, fun z hz => ?_⟩
              rw [take_next hu] at hz
              rcases List.mem_append.mp hz with c3 | c3
              · exact all z c3
              · rw [List.mem_singleton.mp c3]
                omega
        · rintro σ' H3 ⟨⟨x5, x6, x7, rfl⟩, s3, all⟩
          rw [List.length_map, List.take_length] at all
          walk_at "z"
          exact tell (s02.trans s3) ⟨fun _ => .inr ⟨rfl, ns, rfl, bd, asc, nne, all⟩, fun _ => rfl⟩
end

set_option Elab.async false
set_option linter.all false
set_option maxRecDepth 100000
set_option maxHeartbeats 4000000
open PySem PySem.Spec PyProof.Rows L2 LamX RZ

abbrev s_law_papers : Stmt := topS 348
theorem sc_law_papers : FnScope ["pool", "told", "drawn", "papers", "k", "bent", "pair"] ["pool", "told", "drawn"] (defScope s_law_papers) := ⟨rfl, rfl, rfl, by decide +kernel, rfl, by decide +kernel, by decide +kernel⟩

/-- a paper of any kind, none of whose lists stands in B -/
def PapB (B : Addr → Prop) (H : Hp) (x : V) : Prop := ∃ d, DB B H x d ∧ lim 5 40 d
theorem PapB.same {B : Addr → Prop} {H H' : Hp} {x : V} (h : PapB B H x) (s : Same H H') : PapB B H' x := h.imp fun d h => ⟨h.1.same s, h.2⟩
theorem PapB.gr {B : Addr → Prop} {a s : Addr} {H H' : Hp} {x : V} (h : PapB B H x) (hP : Pool H a s) (hB : B a) (g : Gr a H H') : PapB B H' x := h.imp fun d h => ⟨hP.da hB g h.1, h.2⟩
theorem PapB.upd {B : Addr → Prop} {f : Addr} {H : Hp} {xs ys : List V} {x : V} (hB : B f) (hf : H f = some (.lst xs)) (h : PapB B H x) : PapB B (L2.upd H f (.lst ys)) x := h.imp fun d h => ⟨h.1.upd hB hf, h.2⟩
def PapsB (B : Addr → Prop) (H : Hp) (f : Addr) (m : Nat) : Prop := ∃ xs : List V, H f = some (.lst xs) ∧ xs.length = m ∧ ∀ x ∈ xs, PapB B H x
theorem PapsB.gr {B : Addr → Prop} {a s f : Addr} {m : Nat} {H H' : Hp} (h : PapsB B H f m) (hP : Pool H a s) (hB : B a) (fa : f ≠ a) (g : Gr a H H') : PapsB B H' f m := by
  obtain ⟨xs, h1, h2, h3⟩ := h
  exact ⟨xs, g _ _ fa h1, h2, fun x hx => (h3 x hx).gr hP hB g⟩
theorem PapsB.same {B : Addr → Prop} {f : Addr} {m : Nat} {H H' : Hp} (h : PapsB B H f m) (s : Same H H') : PapsB B H' f m := by
  obtain ⟨xs, h1, h2, h3⟩ := h
  exact ⟨xs, s _ _ h1, h2, fun x hx => (h3 x hx).same s⟩
theorem PapsB.put {B : Addr → Prop} {f : Addr} {m : Nat} {H : Hp} {xs : List V} {x : V} (hB : B f) (h1 : H f = some (.lst xs)) (h2 : xs.length = m) (h3 : ∀ x ∈ xs, PapB B H x) (h : PapB B H x) : PapsB B (L2.upd H f (.lst (xs ++ [x]))) f (m + 1) :=
  ⟨_, upd_same, by rw [List.length_append, h2]; rfl, fun z hz => by
    rcases List.mem_append.mp hz with c | c
    · exact (h3 z c).upd hB h1
    · rw [List.mem_singleton.mp c]
      exact h.upd hB h1⟩
/-- a pair of a text and vertices -/
def PairG (H : Hp) (x : V) : Prop := ∃ (u b : Addr) (y : Str) (ns : List Int), x = .ref u ∧ H u = some (.tup [.str y, .ref b]) ∧ (y = "yes" ∨ y = "no") ∧ H b = some (.tup (ns.map V.int)) ∧ ns.length ≤ 10
theorem PairG.tk {H H' : Hp} {x : V} (h : PairG H x) (k : TK H H') : PairG H' x := by
  obtain ⟨u, b, y, ns, e, h1, hy, h2, l⟩ := h
  exact ⟨u, b, y, ns, e, k _ _ h1, hy, k _ _ h2, l⟩
theorem lim_intsG {ns : List Int} (h : ns.length ≤ 10) : lim 1 10 (.tuple (ns.map PyData.int)) := lim_mk (by rw [List.length_map]; omega) fun x hx => by
  obtain ⟨i, _, rfl⟩ := List.mem_map.mp hx
  exact lim_int
theorem lim_ynG {y : Str} (hy : y = "yes" ∨ y = "no") {D L : Nat} : lim D L (.str y) := by
  rcases hy with rfl | rfl
  · cases D <;> exact (by decide +kernel : ("yes" : Str).cps.all (· < 0x110000) = true)
  · cases D <;> exact (by decide +kernel : ("no" : Str).cps.all (· < 0x110000) = true)
theorem pap_pair {B : Addr → Prop} {H : Hp} {x : V} (h : PairG H x) : PapB B H x := by
  obtain ⟨u, b, y, ns, rfl, h1, hy, h2, l⟩ := h
  refine ⟨.tuple [.str y, .tuple (ns.map PyData.int)], .tup h1 (.cons (.str _) (.cons (.tup h2 (DBs.ints _)) .nil)), ?_⟩
  refine (lim_mk (d := 1) (L := 10) (by simp) fun x hx => ?_).mono (by omega) (by omega)
  rcases List.mem_cons.mp hx with rfl | hx
  · exact lim_ynG hy
  · rw [List.mem_singleton.mp hx]
    exact lim_intsG l
theorem pair_lim {D L : Nat} {y : Str} {d : PyData} (hy : y = "yes" ∨ y = "no") (h : lim D L d) (hL : 2 ≤ L) : lim (D + 1) L (.tuple [.str y, d]) := lim_mk (by simp only [List.length_cons, List.length_nil]; omega) fun x hx => by
  rcases List.mem_cons.mp hx with rfl | hx
  · exact lim_ynG hy
  · rw [List.mem_singleton.mp hx]
    exact h
section
variable {P : Program} {w : World} {K : PySem.W.Frag} {mg : Str → Option Value} {base : Heap}
def spBentA : Sp := fun vs H Q E => ∃ e, e ≤ 4 ∧ spBent e vs H Q E
def spPapers : Sp := fun vs H Q _ => ∃ (a s dl : Addr) (t : V) (xs : List V), vs = [.ref a, t, .ref dl] ∧ Pool H a s ∧ PairG H t ∧ H dl = some (.lst xs) ∧ dl ≠ a ∧ xs.length ≤ 10 ∧ (∀ x ∈ xs, PairG H x) ∧
  ∀ (f : Addr) (m : Nat) (H' : Hp), Pool H' a s → Gr a H H' → f ≠ a → m ≤ 30 → PapsB (fun p => p = a) H' f m → Q (.ref f) H'
theorem ok_papers (T : Blt mg) (D : DefAt K mg "_law_papers" s_law_papers ["pool", "told", "drawn"]) (D_law_bent : DefAt K mg "_law_bent" s_law_bent ["pool", "value"]) (GB : ∀ e : Nat, FnOk P w K mg base CX0 (e + 3) D_law_bent.f D_law_bent.fd ["pool", "value"] (spBent e)) : FnOk P w K mg base CX0 8 D.f D.fd ["pool", "told", "drawn"] spPapers := by
  have G_law_bent : FnOk P w K mg base CX0 7 D_law_bent.f D_law_bent.fd ["pool", "value"] spBentA := ⟨fun vs H Q E ⟨e, _, h⟩ => (GB e).len vs H Q E h, fun A outer s H args us vs Q E hr x1 x2 x3 ⟨e, le, h⟩ => ((GB e).mono (by omega)).run A outer s H args us vs Q E hr x1 x2 x3 h⟩
  refine D.F.ok sc_law_papers (fun vs H Q E h => ?_) (fun cdv A outer s H vs Q E hr h => ?_)
  · obtain ⟨a, s0, dl, t, xs, rfl, _⟩ := h
    rfl
  · obtain ⟨a, s0, dl, t, xs, rfl, hP, hpt, hdl, dla, lxs, hxs, q⟩ := h
    obtain ⟨tt, bb, y, ns, rfl, ht, hy, hb, ln⟩ := id hpt
    refine ⟨_, (pss_cons (ps_set (i := 3) sc_law_papers.nd rfl (Or.inl rfl) (pe_lst (pa_cons (pv 1) pa_nil)))
      (pss_cons (ps_for PassesOwn.never (by rfl) (pi_range1 (by rfl) T.range (pa_cons pe_int pa_nil)) (pg_name (i := 4) sc_law_papers.nd rfl (Or.inl rfl))
        (pss_cons (ps_set (i := 5) sc_law_papers.nd rfl (Or.inl rfl) (pe_tup (pa_cons (pe_ix (ix_tupK (K := K) rfl) (pv 1) pe_int (fun _ _ => rfl)) (pa_cons (pe_call G_law_bent (hr.mono (by first | decide | omega)) (by rfl) D_law_bent.g D_law_bent.F.kp D_law_bent.b .nil pass0 (pa_cons (pv 0) (pa_cons (pe_ix (ix_tupK (K := K) rfl) (pv 1) pe_int (fun _ _ => rfl)) pa_nil))) pa_nil))))
        (pss_cons (ps_expr (PE.bmK (K := K) rfl (pe_bm PySem.F.plainAttrs_list PySem.F.slot_list_append PySem.F.type_list_append mt_append (pv 3) (pa_cons (pv 5) pa_nil))))
        (pss_one (ps_expr (PE.bmK (K := K) rfl (pe_bm PySem.F.plainAttrs_list PySem.F.slot_list_append PySem.F.type_list_append mt_append (pv 3) (pa_cons (pe_ifExp (pt_cmpR op_eq (pv 4) pe_int (nomark _)) (pe_call G_law_bent (hr.mono (by first | decide | omega)) (by rfl) D_law_bent.g D_law_bent.F.kp D_law_bent.b .nil pass0 (pa_cons (pv 0) (pa_cons (pv 5) pa_nil))) (pe_tup (pa_cons (pe_ix (ix_tupK (K := K) rfl) (pv 5) pe_int (fun _ _ => rfl)) (pa_cons (pe_call G_law_bent (hr.mono (by first | decide | omega)) (by rfl) D_law_bent.g D_law_bent.F.kp D_law_bent.b .nil pass0 (pa_cons (pv 0) (pa_cons (pe_ix (ix_tupK (K := K) rfl) (pv 5) pe_int (fun _ _ => rfl)) pa_nil))) pa_nil)))) pa_nil))))))))
      (pss_cons (ps_for PassesOwn.never (by rfl) (PI.listK (K := K) rfl (pi_list (pv 2))) (pg_name (i := 6) sc_law_papers.nd rfl (Or.inl rfl))
        (pss_cons (ps_expr (PE.bmK (K := K) rfl (pe_bm PySem.F.plainAttrs_list PySem.F.slot_list_append PySem.F.type_list_append mt_append (pv 3) (pa_cons (pv 6) pa_nil))))
        (pss_one (ps_expr (PE.bmK (K := K) rfl (pe_bm PySem.F.plainAttrs_list PySem.F.slot_list_append PySem.F.type_list_append mt_append (pv 3) (pa_cons (pe_tup (pa_cons (pe_ifExp (pt_cmpR op_eq (pe_ix (ix_tupK (K := K) rfl) (pv 6) pe_int (fun _ _ => rfl)) pe_str (nomark _)) pe_str pe_str) (pa_cons (pe_ix (ix_tupK (K := K) rfl) (pv 6) pe_int (fun _ _ => rfl)) pa_nil))) pa_nil)))))))
      (pss_one (ps_ret (pv 3)))))), ?_⟩
    refine r_at (σ := [some _, some _, some _, none, none, none, none]) rfl ?_
    walk_at "z"
    refine r_lstN sz1 fun f hf => ?_
    have fa : f ≠ a := (new_ne hP hf).1
    have f0 : H f = none := hf
    have s1 := same_new (o := .lst [.ref tt]) hf
    have hf1 : (upd H f (.lst [.ref tt])) f = some (.lst [.ref tt]) := upd_same
    have hP1 := hP.mono s1
    have g1 : Gr a H (upd H f (.lst [.ref tt])) := Gr.of_same s1
    generalize upd H f (.lst [.ref tt]) = H1 at s1 hf1 hP1 g1 ⊢
    obtain ⟨B, hBa, hBf, hBo⟩ : ∃ B : Addr → Prop, B a ∧ B f ∧ ∀ p, B p → p = a ∨ p = f := ⟨fun p => p = a ∨ p = f, .inl rfl, .inr rfl, fun p h => h⟩
    have occ : ∀ {H' : Hp} {m : Nat}, Pool H' a s0 → PapsB B H' f m → ∀ p, B p → H' p ≠ none := fun hP' ⟨xs, h1, _⟩ p hp z => by
      rcases hBo p hp with rfl | rfl
      · obtain ⟨ys, hy⟩ := hP'.lst
        rw [hy] at z
        cases z
      · rw [h1] at z
        cases z
    have pp1 : PapsB B H1 f 1 := ⟨_, hf1, rfl, fun x hx => by
      rw [List.mem_singleton.mp hx]
      exact pap_pair (hpt.tk (g1.tk hP))⟩
    walk_at "z"
    refine r_rg1 (by omega) (forR_range (fun i σ' H' => (∃ x4 x5 x6, σ' = [some (.ref a), some (.ref tt), some (.ref dl), some (.ref f), x4, x5, x6]) ∧ Pool H' a s0 ∧ Gr a H H' ∧ PapsB B H' f (1 + 2 * i)) ⟨⟨_, _, _, rfl⟩, hP1, g1, pp1⟩ ?_ ?_)
    · rintro i σ' H2 hi ⟨⟨x4, x5, x6, rfl⟩, hP2, g2, pp2⟩
      have ht2 := g2.tk hP _ _ ht
      have hb2 := g2.tk hP _ _ hb
      walk_at "z"
      refine ⟨2, by omega, B, a, s0, .ref bb, .tuple (ns.map PyData.int), 1, 10, rfl, hP2, hBa, occ hP2 pp2, .tup hb2 (DBs.ints _), rfl, lim_intsG ln, by omega, fun v3 d3 H3 hP3 g3 hd3 hl3 => ?_⟩
      have pp3 := pp2.gr hP2 hBa fa g3
      walk_at "z"
      refine r_tupN sz2 fun t4 ht4 => ?_
      have s4 := same_new (o := .tup [.str y, v3]) ht4
      have ht44 : (upd H3 t4 (.tup [.str y, v3])) t4 = some (.tup [.str y, v3]) := upd_same
      have hP4 := hP3.mono s4
      have pp4 := pp3.same s4
      have hd4 := hd3.same s4
      have g4 := (g2.trans g3).trans (Gr.of_same s4)
      generalize upd H3 t4 (.tup [.str y, v3]) = H4 at s4 ht44 hP4 pp4 hd4 g4 ⊢
      obtain ⟨x7, k1, k2, k3⟩ := pp4
      walk_at "z"
      refine r_appT k1 (small_lt (by omega)) ?_
      have pd4 : DB B H4 (.ref t4) (.tuple [.str y, d3]) := .tup ht44 (.cons (.str _) (.cons hd4 .nil))
      have l4 : lim 3 12 (.tuple [.str y, d3]) := pair_lim hy hl3 (by omega)
      have pp5 := PapsB.put (x := .ref t4) hBf k1 k2 k3 ⟨_, pd4, l4.mono (by omega) (by omega)⟩
      have pd5 : DB B (upd H4 f (.lst (x7 ++ [.ref t4]))) (.ref t4) (.tuple [.str y, d3]) := pd4.upd hBf k1
      have hd5 : DB B (upd H4 f (.lst (x7 ++ [.ref t4]))) v3 d3 := hd4.upd hBf k1
      have hP5 := hP4.upd (o := .lst (x7 ++ [.ref t4])) ⟨fa, fun z => by
        obtain ⟨ns', p', v', c', salt', _, hs', _⟩ := hP
        rw [← z, f0] at hs'
        cases hs'⟩
      have g5 := g4.mut (o := .lst (x7 ++ [.ref t4])) f0
      have ht5 : (upd H4 f (.lst (x7 ++ [.ref t4]))) t4 = some (.tup [.str y, v3]) := (upd_ne fun z => by rw [z, k1] at ht44; cases ht44).trans ht44
      generalize upd H4 f (.lst (x7 ++ [.ref t4])) = H5 at pp5 pd5 hd5 hP5 g5 ht5 ⊢
      obtain ⟨x9, kf5, _, _⟩ := id pp5
      walk_at "z"
      refine r_ite (fun h => ?_) (fun h => ?_)
      · walk_at "z"
        refine ⟨4, by omega, B, a, s0, .ref t4, _, 3, 12, rfl, hP5, hBa, occ hP5 pp5, pd5, rfl, l4, by omega, fun v6 d6 H6 hP6 g6 hd6 hl6 => ?_⟩
        obtain ⟨x8, k1, k2, k3⟩ := pp5.gr hP5 hBa fa g6
        walk_at "z"
        refine r_appT k1 (small_lt (by omega)) ?_
        walk_at "z"
        refine ⟨⟨_, _, _, rfl⟩, hP6.upd ⟨fa, fun z => by
          obtain ⟨ns', p', v', c', salt', _, hs', _⟩ := hP
          rw [← z, f0] at hs'
          cases hs'⟩, (g5.trans g6).mut f0, ?_⟩
        have := PapsB.put (x := v6) hBf k1 k2 k3 ⟨_, hd6, hl6.mono (by omega) (by omega)⟩
        rwa [show 1 + 2 * (i + 1) = 1 + 2 * i + 1 + 1 by omega]
      · walk_at "z"
        refine ⟨3, by omega, B, a, s0, v3, d3, 2, 12, rfl, hP5, hBa, occ hP5 pp5, hd5, rfl, hl3, by omega, fun v6 d6 H6 hP6 g6 hd6 hl6 => ?_⟩
        have pp6 := pp5.gr hP5 hBa fa g6
        walk_at "z"
        refine r_tupN sz2 fun t7 ht7 => ?_
        have s7 := same_new (o := .tup [.str y, v6]) ht7
        have ht77 : (upd H6 t7 (.tup [.str y, v6])) t7 = some (.tup [.str y, v6]) := upd_same
        have hP7 := hP6.mono s7
        have pp7 := pp6.same s7
        have hd7 := hd6.same s7
        have g7 := (g5.trans g6).trans (Gr.of_same s7)
        generalize upd H6 t7 (.tup [.str y, v6]) = H7 at s7 ht77 hP7 pp7 hd7 g7 ⊢
        obtain ⟨x8, k1, k2, k3⟩ := pp7
        walk_at "z"
        refine r_appT k1 (small_lt (by omega)) ?_
        walk_at "z"
        refine ⟨⟨_, _, _, rfl⟩, hP7.upd ⟨fa, fun z => by
          obtain ⟨ns', p', v', c', salt', _, hs', _⟩ := hP
          rw [← z, f0] at hs'
          cases hs'⟩, g7.mut f0, ?_⟩
        have := PapsB.put (x := .ref t7) hBf k1 k2 k3 ⟨.tuple [.str y, d6], .tup ht77 (.cons (.str _) (.cons hd7 .nil)), (pair_lim hy hl6 (by omega)).mono (by omega) (by omega)⟩
        rwa [show 1 + 2 * (i + 1) = 1 + 2 * i + 1 + 1 by omega]
    · rintro σ' H2 ⟨⟨x4, x5, x6, rfl⟩, hP2, g2, pp2⟩
      have pp2 : PapsB B H2 f 7 := pp2
      walk_at "z"
      refine r_il (.inl (.inl (g2 _ _ dla hdl))) (forR_list (xs := xs) (fun i σ' H' => (∃ x4 x5 x6, σ' = [some (.ref a), some (.ref tt), some (.ref dl), some (.ref f), x4, x5, x6]) ∧ Pool H' a s0 ∧ Gr a H H' ∧ PapsB B H' f (7 + 2 * i)) ⟨⟨_, _, _, rfl⟩, hP2, g2, pp2⟩ (fun i σ' H' _ ⟨_, _, g, _⟩ => .inl (.inl (g _ _ dla hdl))) ?_ ?_)
      · rintro i x σ' H3 hx ⟨⟨x4, x5, x6, rfl⟩, hP3, g3, x7, k1, k2, k3⟩
        have il := (List.getElem?_eq_some_iff.mp hx).1
        have pg := (hxs x (List.mem_of_getElem? hx)).tk (g3.tk hP)
        obtain ⟨u, b, z, ms, rfl, hu, hz, hbm, lm⟩ := id pg
        have upp : ∀ {H' : Hp} {o : HO}, Pool H' a s0 → Pool (upd H' f o) a s0 := fun h => h.upd ⟨fa, fun z => by
          obtain ⟨ns', p', v', c', salt', _, hs', _⟩ := hP
          rw [← z, f0] at hs'
          cases hs'⟩
        walk_at "z"
        refine r_appT k1 (small_lt (by omega)) ?_
        have pp4 := PapsB.put (x := .ref u) hBf k1 k2 k3 (pap_pair pg)
        have hP4 := upp (o := .lst (x7 ++ [.ref u])) hP3
        have g4 := g3.mut (o := .lst (x7 ++ [.ref u])) f0
        have hu4 : (upd H3 f (.lst (x7 ++ [.ref u]))) u = some (.tup [.str z, .ref b]) := (upd_ne fun e => by rw [e, k1] at hu; cases hu).trans hu
        have hb4 : (upd H3 f (.lst (x7 ++ [.ref u]))) b = some (.tup (ms.map V.int)) := (upd_ne fun e => by rw [e, k1] at hbm; cases hbm).trans hbm
        generalize upd H3 f (.lst (x7 ++ [.ref u])) = H4 at pp4 hP4 g4 hu4 hb4 ⊢
        obtain ⟨x9, kf4, _, _⟩ := id pp4
        have fin : ∀ y' : Str, (y' = "yes" ∨ y' = "no") → ∀ (t5 : Addr), H4 t5 = none → ∃ x8, (upd H4 t5 (.tup [.str y', .ref b])) f = some (.lst x8) ∧ x8.length = 7 + 2 * i + 1 ∧ Pool (upd (upd H4 t5 (.tup [.str y', .ref b])) f (.lst (x8 ++ [.ref t5]))) a s0 ∧ Gr a H (upd (upd H4 t5 (.tup [.str y', .ref b])) f (.lst (x8 ++ [.ref t5]))) ∧ PapsB B (upd (upd H4 t5 (.tup [.str y', .ref b])) f (.lst (x8 ++ [.ref t5]))) f (7 + 2 * (i + 1)) := fun y' hy' t5 ht5 => by
          have s5 := same_new (o := .tup [.str y', .ref b]) ht5
          have ht55 : (upd H4 t5 (.tup [.str y', .ref b])) t5 = some (.tup [.str y', .ref b]) := upd_same
          obtain ⟨x8, k1, k2, k3⟩ := pp4.same s5
          refine ⟨x8, k1, k2, upp (hP4.mono s5), (g4.trans (Gr.of_same s5)).mut f0, ?_⟩
          have := PapsB.put (x := .ref t5) hBf k1 k2 k3 (pap_pair ⟨t5, b, y', ms, rfl, ht55, hy', s5 _ _ hb4, lm⟩)
          rwa [show 7 + 2 * (i + 1) = 7 + 2 * i + 1 + 1 by omega]
        walk_at "z"
        refine r_eqS ?_
        walk_at "z"
        refine r_ite (fun h => ?_) (fun h => ?_)
        · walk_at "z"
          refine r_tupN sz2 fun t5 ht5 => ?_
          obtain ⟨x8, k1, k2, p1, p2, p3⟩ := fin "no" (.inr rfl) t5 ht5
          walk_at "z"
          refine r_appT k1 (small_lt (by omega)) ?_
          walk_at "z"
          exact ⟨⟨_, _, _, rfl⟩, p1, p2, p3⟩
        · walk_at "z"
          refine r_tupN sz2 fun t5 ht5 => ?_
          obtain ⟨x8, k1, k2, p1, p2, p3⟩ := fin "yes" (.inl rfl) t5 ht5
          walk_at "z"
          refine r_appT k1 (small_lt (by omega)) ?_
          walk_at "z"
          exact ⟨⟨_, _, _, rfl⟩, p1, p2, p3⟩
      · rintro σ' H3 ⟨⟨x4, x5, x6, rfl⟩, hP3, g3, x7, k1, k2, k3⟩
        walk_at "z"
        refine q f (7 + 2 * xs.length) H3 hP3 g3 fa (by omega) ⟨x7, k1, k2, fun x hx => (k3 x hx).imp fun d h => ⟨DB.mono (fun p ys n e => ⟨fun z => n (z ▸ hBa), e⟩) (fun p ys e => e) d h.1, h.2⟩⟩
end

set_option Elab.async false
set_option linter.all false
set_option maxRecDepth 100000
set_option maxHeartbeats 4000000
open PySem PySem.Spec PyProof.Rows L2

section
variable {P : Program} {w : World} {K : PySem.W.Frag} {mg : Str → Option Value} {base : Heap}
def spGraphO : Sp := fun vs H Q _ => ∃ (a s : Addr) (most : Int), vs = [.ref a, .int most] ∧ Pool H a s ∧ 1 ≤ most ∧ most ≤ 60 ∧ ∀ n : Int, 1 ≤ n → n ≤ most → GenQ a s H n Q
/-- pairs of vertices below n -/
def Bd2 (n : Int) (ps : List (Int × Int)) : Prop := ∀ p ∈ ps, 0 ≤ p.1 ∧ p.1 < n ∧ 0 ≤ p.2 ∧ p.2 < n
theorem ok_graphO (T : Blt mg) (D : DefAt K mg "_law_graph" s_law_graph ["pool", "most"]) (D_law_draw : DefAt K mg "_law_draw" s_law_draw ["pool", "many"]) (G_law_draw : FnOk P w K mg base CX0 2 D_law_draw.f D_law_draw.fd ["pool", "many"] spDraw)
    (D_law_pairs : DefAt K mg "_law_pairs" s_law_pairs ["n"]) (G_law_pairs : FnOk P w K mg base CX0 1 D_law_pairs.f D_law_pairs.fd ["n"] spPairs)
    (D_law_sorted_graph : DefAt K mg "_law_sorted_graph" s_law_sorted_graph ["n", "edges"]) (G_law_sorted_graph : FnOk P w K mg base CX0 2 D_law_sorted_graph.f D_law_sorted_graph.fd ["n", "edges"] (spSorted K)) :
    FnOk P w K mg base CX0 3 D.f D.fd ["pool", "most"] spGraphO := by
  refine D.F.ok sc_law_graph (fun vs H Q E h => ?_) (fun cdv A outer s H vs Q E hr h => ?_)
  · obtain ⟨a, s, most, rfl, _⟩ := h
    rfl
  · obtain ⟨a, s0, most, rfl, hP, m1, m2, q⟩ := h
    refine ⟨_, (pss_cons (ps_set (i := 2) sc_law_graph.nd rfl (Or.inl rfl) (pe_op op_add pe_int (pe_call G_law_draw (hr.mono (by first | decide | omega)) (by rfl) D_law_draw.g D_law_draw.F.kp D_law_draw.b .nil pass0 (pa_cons (pv 0) (pa_cons (pv 1) pa_nil)))))
      (pss_cons (ps_set (i := 3) sc_law_graph.nd rfl (Or.inl rfl) (pe_call G_law_draw (hr.mono (by first | decide | omega)) (by rfl) D_law_draw.g D_law_draw.F.kp D_law_draw.b .nil pass0 (pa_cons (pv 0) (pa_cons pe_int pa_nil))))
      (pss_cons (ps_if (pt_cmpR op_lt (pv 3) pe_int (nomark _))
        (pss_cons (ps_set (i := 4) sc_law_graph.nd rfl (Or.inr rfl) (pe_ix (ix_tupK (K := K) rfl) (pe_tup (pa_cons pe_int (pa_cons pe_int (pa_cons pe_int pa_nil)))) (pv 3) (fun _ _ => rfl)))
        (pss_one (ps_ret (pe_tup (pa_cons (pv 2) (pa_cons (pe_callTy (call_tupleK (K := K) rfl) (by rfl) T.tuple (by decide +kernel) (pa_cons (pe_lc (own := [("pair", 12)]) (by rfl) sc_law_graph.nd (PI.listK (K := K) rfl (pi_list (pe_call G_law_pairs (hr.mono (by first | decide | omega)) (by rfl) D_law_pairs.g D_law_pairs.F.kp D_law_pairs.b .nil pass0 (pa_cons (pv 2) pa_nil)))) (blkOk_by (own := [("pair", 12)]) (N := ["pool", "most", "n", "turn", "dense", "edges", "v", "many", "k", "places", "names", "edge", "pair"]) (sc := (defScope s_law_graph)) (by decide +kernel)) (fun _ _ _ _ _ => (pg_name (i := 12) sc_law_graph.nd rfl (Or.inl rfl))) (fun _ _ _ _ _ => (pts_one (pt_cmpR op_lt (pe_call G_law_draw (hr.mono (by first | decide | omega)) (by rfl) D_law_draw.g D_law_draw.F.kp D_law_draw.b .nil pass0 (pa_cons (pv 0) (pa_cons pe_int pa_nil))) (pv 4) (nomark _)))) (fun _ _ _ _ _ => (pv 12))) pa_nil)) pa_nil))))))
        pss_nil)
      (pss_cons (ps_set (i := 5) sc_law_graph.nd rfl (Or.inl rfl) (pe_lst pa_nil))
      (pss_cons (ps_for PassesOwn.never (by rfl) (pi_range2 (by rfl) T.range (pa_cons pe_int (pa_cons (pv 2) pa_nil))) (pg_name (i := 6) sc_law_graph.nd rfl (Or.inl rfl))
        (pss_cons (ps_set (i := 7) sc_law_graph.nd rfl (Or.inl rfl) (pe_ix (ix_tupK (K := K) rfl) (pe_tup (pa_cons pe_int (pa_cons pe_int (pa_cons pe_int pa_nil)))) (pe_op op_sub (pv 3) pe_int) (fun _ _ => rfl)))
        (pss_one (ps_for PassesOwn.never (by rfl) (pi_range1 (by rfl) T.range (pa_cons (pv 7) pa_nil)) (pg_name (i := 8) sc_law_graph.nd rfl (Or.inl rfl))
          (pss_one (ps_expr (PE.bmK (K := K) rfl (pe_bm PySem.F.plainAttrs_list PySem.F.slot_list_append PySem.F.type_list_append mt_append (pv 5) (pa_cons (pe_tup (pa_cons (pe_call G_law_draw (hr.mono (by first | decide | omega)) (by rfl) D_law_draw.g D_law_draw.F.kp D_law_draw.b .nil pass0 (pa_cons (pv 0) (pa_cons (pv 6) pa_nil))) (pa_cons (pv 6) pa_nil))) pa_nil)))))))))
      (pss_cons (ps_if (PW.pt (pw_and (pt_cmpR op_eq (pe_call G_law_draw (hr.mono (by first | decide | omega)) (by rfl) D_law_draw.g D_law_draw.F.kp D_law_draw.b .nil pass0 (pa_cons (pv 0) (pa_cons pe_int pa_nil))) pe_int (nomark _)) (pw_and1 (pt_cmpR op_gt (pe_callB (call_lenK (K := K) rfl) (by rfl) T.len (by decide +kernel) (pa_cons (pv 5) pa_nil)) pe_int (nomark _)))))
        (pss_one (ps_expr (PE.bmK (K := K) rfl (pe_bm PySem.F.plainAttrs_list PySem.F.slot_list_pop PySem.F.type_list_pop mt_popAt (pv 5) (pa_cons (pe_call G_law_draw (hr.mono (by first | decide | omega)) (by rfl) D_law_draw.g D_law_draw.F.kp D_law_draw.b .nil pass0 (pa_cons (pv 0) (pa_cons (pe_callB (call_lenK (K := K) rfl) (by rfl) T.len (by decide +kernel) (pa_cons (pv 5) pa_nil)) pa_nil))) pa_nil)))))
        pss_nil)
      (pss_cons (ps_set (i := 9) sc_law_graph.nd rfl (Or.inr rfl) (pe_listRg rfl (by rfl) T.list (prg_1 (by rfl) T.range (pv 2))))
      (pss_cons (ps_set (i := 10) sc_law_graph.nd rfl (Or.inr rfl) (pe_lc (own := [("v", 6)]) (by rfl) sc_law_graph.nd (pi_range1 (by rfl) T.range (pa_cons (pv 2) pa_nil)) (blkOk_by (own := [("v", 6)]) (N := ["pool", "most", "n", "turn", "dense", "edges", "v", "many", "k", "places", "names", "edge", "pair"]) (sc := (defScope s_law_graph)) (by decide +kernel)) (fun _ _ _ _ _ => (pg_name (i := 6) sc_law_graph.nd rfl (Or.inl rfl))) (fun _ _ _ _ _ => pts_nil) (fun _ _ _ _ _ => (PE.bmK (K := K) rfl (pe_bm PySem.F.plainAttrs_list PySem.F.slot_list_pop PySem.F.type_list_pop mt_popAt (pv 9) (pa_cons (pe_call G_law_draw (hr.mono (by first | decide | omega)) (by rfl) D_law_draw.g D_law_draw.F.kp D_law_draw.b .nil pass0 (pa_cons (pv 0) (pa_cons (pe_callB (call_lenK (K := K) rfl) (by rfl) T.len (by decide +kernel) (pa_cons (pv 9) pa_nil)) pa_nil))) pa_nil))))))
      (pss_one (ps_ret (pe_call G_law_sorted_graph (hr.mono (by first | decide | omega)) (by rfl) D_law_sorted_graph.g D_law_sorted_graph.F.kp D_law_sorted_graph.b .nil pass0 (pa_cons (pv 2) (pa_cons (pe_lc (own := [("edge", 11)]) (by rfl) sc_law_graph.nd (PI.listK (K := K) rfl (pi_list (pv 5))) (blkOk_by (own := [("edge", 11)]) (N := ["pool", "most", "n", "turn", "dense", "edges", "v", "many", "k", "places", "names", "edge", "pair"]) (sc := (defScope s_law_graph)) (by decide +kernel)) (fun _ _ _ _ _ => (pg_name (i := 11) sc_law_graph.nd rfl (Or.inl rfl))) (fun _ _ _ _ _ => pts_nil) (fun _ _ _ _ _ => (pe_tup (pa_cons (pe_ix (ix_listK (K := K) rfl) (pv 10) (pe_ix (ix_tupK (K := K) rfl) (pv 11) pe_int (fun _ _ => rfl)) (fun _ _ => rfl)) (pa_cons (pe_ix (ix_listK (K := K) rfl) (pv 10) (pe_ix (ix_tupK (K := K) rfl) (pv 11) pe_int (fun _ _ => rfl)) (fun _ _ => rfl)) pa_nil))))) pa_nil))))))))))))), ?_⟩
    refine r_at (σ := [some _, some _, none, none, none, none, none, none, none, none, none, none, none]) rfl ?_
    walk_at "z"
    refine ⟨a, s0, most, rfl, hP, by omega, by omega, fun r H1 r0 r1 hP1 g1 => ?_⟩
    walk_at "z"
    obtain ⟨n, hn⟩ : ∃ n : Nat, 1 + r = (n : Int) := ⟨(1 + r).toNat, by omega⟩
    rw [hn]
    have n1 : 1 ≤ n := by omega
    have n2 : n ≤ 60 := by omega
    have fin := q (n : Int) (by omega) (by omega)
    refine ⟨a, s0, 6, rfl, hP1, by omega, by omega, fun tn H2 t0 t1 hP2 g2 => ?_⟩
    walk_at "z"
    refine r_ite (fun h0 => ?_) (fun h0 => ?_)
    · walk_at "z"
      refine r_tupN sz3 fun t ht => ?_
      walk_at "z"
      refine r_pick3 upd_same t0 h0 fun m hm => ?_
      walk_at "z"
      have hP3 := hP2.mono (same_new (o := .tup [.int 2, .int 4, .int 6]) ht)
      have g3 : Gr a H (upd H2 t (.tup [.int 2, .int 4, .int 6])) := (g1.trans g2).trans (.new ht)
      generalize upd H2 t (.tup [.int 2, .int 4, .int 6]) = H3 at hP3 g3 ⊢
      refine ⟨n, rfl, by omega, fun f xs H4 hf s4 hx hp => ?_⟩
      have hP4 := hP3.mono s4
      have g5 : Gr a H H4 := g3.trans (.of_same s4)
      refine r_il (.inl (.inl hx)) fun d hd => lcR_list (xs := xs) (fun i H' => Pool H' a s0 ∧ Gr a H4 H' ∧ ∃ ys c, H' d = some (.lst ys) ∧ Prs H' ys (((allP n).take i).filter c)) (by walk_at "zw") ⟨hP4.mono (same_new hd), .new hd, [], fun _ => true, upd_same, .nil⟩ (fun i H' _ ⟨_, g, _⟩ => .inl (.inl (g _ _ (new_ne hP3 hf).1 hx))) ?_ ?_
      · rintro i x H' hx2 ⟨hP', g, ys, c, hy, hys⟩
        obtain ⟨p, hpi, hxp⟩ := pd_get (hp.tk (g.tk hP4)) hx2
        walk_at "z"
        refine ⟨rfl, ?_⟩
        walk_at "z"
        refine ⟨a, s0, 8, rfl, hP', by omega, by omega, fun r4 H5 _ _ hP5 g6 => ?_⟩
        have hy5 := g6 _ _ (new_ne hP4 hd).1 hy
        have kk := g6.tk hP'
        walk_at "z"
        refine r_ite (fun h => ?_) (fun h => ?_)
        · walk_at "z"
          obtain ⟨c', e⟩ := flt_next hpi c true
          refine r_lce hy5 (small_lt ?_) ⟨hP5.upd (new_ne hP4 hd), (g.trans g6).mut hd, _, c', upd_same, ?_⟩
          · have h1 := hys.length
            have h2 := List.length_filter_le c ((allP n).take i)
            have h3 := allP_small (n := n) (by omega)
            have h4 : ((allP n).take i).length ≤ (allP n).length := by
              rw [List.length_take]
              omega
            omega
          · rw [e, if_pos rfl]
            have k2 : TK H' (upd H5 d (.lst (ys ++ [x]))) := kk.trans (.lst hy5)
            exact (hys.tk k2).snoc (hxp.tk k2)
        · obtain ⟨c', e⟩ := flt_next hpi c false
          refine ⟨hP5, g.trans g6, ys, c', hy5, ?_⟩
          rw [e, if_neg Bool.false_ne_true, List.append_nil]
          exact hys.tk kk
      · rintro H' ⟨hP', g, ys, c, hy, hys⟩
        rw [hp.length, List.take_length] at hys
        walk_at "z"
        refine r_tupL (.inl (.inl hy)) fun e he => ?_
        walk_at "z"
        refine r_tupN sz2 fun t ht => ?_
        have s5 : Same H' (upd H' e (.tup ys)) := same_new he
        have s6 := s5.trans (same_new (o := .tup [.int (n : Int), .ref e]) ht)
        exact fin _ _ _ (hP'.mono s6) ((g5.trans g).trans (.of_same s6)) ⟨t, e, rfl, upd_same, ys, (upd_ne (ne_of_none upd_same ht)).trans upd_same, hys.tk (.of_same s6)⟩ (good_filter n1 c)
    · walk_at "z"
      refine r_lstN (by decide) fun f hf => ?_
      walk_at "z"
      have fa := new_ne hP2 hf
      have g12 : Gr a H H2 := g1.trans g2
      refine r_rg2 (by omega) (forR_range (fun i σ' H' => (∃ x6 x7 x8, σ' = [some (.ref a), some (.int most), some (.int (n : Int)), some (.int tn), none, some (.ref f), x6, x7, x8, none, none, none, none]) ∧ Pool H' a s0 ∧ Gr a H2 H' ∧ ∃ xs es, H' f = some (.lst xs) ∧ Prs H' xs es ∧ Bd2 n es ∧ es.length ≤ 3 * i) ⟨⟨_, _, _, rfl⟩, hP2.mono (same_new hf), .new hf, [], [], upd_same, .nil, (fun p hp => by cases hp), Nat.le_refl _⟩ ?_ ?_)
      · rintro i σ' H' hi ⟨⟨x6, x7, x8, rfl⟩, hP', g, xs, es, hx, hp, bd, hl⟩
        have hi : i < 60 := by omega
        walk_at "z"
        refine r_tupN sz3 fun t ht => ?_
        walk_at "z"
        refine r_pick3 upd_same (by omega) (by omega) fun m hm => ?_
        walk_at "z"
        have s3 := same_new (o := .tup [.int 1, .int 2, .int 3]) ht
        refine r_rg1 (by omega) (forR_range (fun j σ' H' => (∃ x8, σ' = [some (.ref a), some (.int most), some (.int (n : Int)), some (.int tn), none, some (.ref f), some (.int (1 + (i : Int))), some (.int m), x8, none, none, none, none]) ∧ Pool H' a s0 ∧ Gr a H2 H' ∧ ∃ xs es, H' f = some (.lst xs) ∧ Prs H' xs es ∧ Bd2 n es ∧ es.length ≤ 3 * i + j) ⟨⟨_, rfl⟩, hP'.mono s3, g.trans (.of_same s3), xs, es, s3 _ _ hx, hp.tk (.of_same s3), bd, hl⟩ ?_ ?_)
        · rintro j σ' H3 hj ⟨⟨x8, rfl⟩, hP3, g3, xs, es, hx, hp, bd, hl⟩
          walk_at "z"
          refine ⟨a, s0, _, rfl, hP3, by omega, by omega, fun c H4 c0 c1 hP4 g4 => ?_⟩
          have hx4 := g4 _ _ fa.1 hx
          walk_at "z"
          refine r_tupN sz2 fun t ht => ?_
          walk_at "z"
          refine r_appT (by walk_at "zh") (small_lt (by rw [hp.length]; omega)) ?_
          refine ⟨⟨_, rfl⟩, (hP4.mono (same_new ht)).upd fa, ((g3.trans g4).trans (.new ht)).mut hf, _, _, upd_same, prs_push hx4 (hp.tk (g4.tk hP3)) ht, fun p hp => ?_, by rw [List.length_append]; simp only [List.length_cons, List.length_nil]; omega⟩
          rcases List.mem_append.mp hp with z | z
          · exact bd p z
          · rw [List.mem_singleton.mp z]
            simp only
            omega
        · rintro σ' H3 ⟨⟨x8, rfl⟩, hP3, g3, xs, es, hx, hp, bd, hl⟩
          exact ⟨⟨_, _, _, rfl⟩, hP3, g3, xs, es, hx, hp, bd, by omega⟩
      · rintro σ' H' ⟨⟨x6, x7, x8, rfl⟩, hP', g, xs, es, hx, hp, bd, hl⟩
        have hl : es.length ≤ 180 := by omega
        let W : L2.St → Hp → Prop := fun σ' H' => (σ' = [some (.ref a), some (.int most), some (.int (n : Int)), some (.int tn), none, some (.ref f), x6, x7, x8, none, none, none, none]) ∧ Pool H' a s0 ∧ Gr a H2 H' ∧ ∃ xs es, H' f = some (.lst xs) ∧ Prs H' xs es ∧ Bd2 n es ∧ es.length ≤ 180
        refine r_seqW W ?tlA fun B hB => ?hdA
        case hdA =>
          walk_at "z"
          refine ⟨a, s0, 3, rfl, hP', by omega, by omega, fun c H4 c0 c1 hP4 g4 => ?_⟩
          have hx4 := g4 _ _ fa.1 hx
          have hp4 := hp.tk (g4.tk hP')
          have skp := hB _ _ ⟨rfl, hP4, g.trans g4, xs, es, hx4, hp4, bd, hl⟩
          walk_at "z"
          refine r_ite (fun h1 => ?_) (fun h1 => ?_)
          · walk_at "z"
            refine r_ite (fun h2 => ?_) (fun h2 => ?_)
            · walk_at "z"
              refine ⟨a, s0, _, rfl, hP4, by omega, by have := hp.length; omega, fun k H5 k0 k1 hP5 g5 => ?_⟩
              have hx5 := g5 _ _ fa.1 hx4
              have hp5 := hp4.tk (g5.tk hP4)
              walk_at "z"
              have hk : k.toNat < xs.length := by omega
              refine r_popAt hx5 (k := k.toNat) (y := xs[k.toNat]) (by omega) (by have := hp.length; omega) (List.getElem?_eq_getElem hk) ?_
              refine hB _ _ ⟨rfl, hP5.upd fa, ((g.trans g4).trans g5).mut hf, _, es.eraseIdx k.toNat, upd_same, Prs.tk (.lst hx5) (pd_erase k.toNat hp5), fun p hp => bd p (List.mem_of_mem_eraseIdx hp), ?_⟩
              have := List.length_eraseIdx_le es k.toNat
              omega
            · exact skp
          · exact skp
        case tlA =>
          rintro σ' H' ⟨rfl, hP', g, xs, es, hx, hp, bd, hl⟩
          walk_at "z"
          refine r_lRg (by omega) (by omega) fun l1 hl1 => ?_
          walk_at "z"
          have la := new_ne hP' hl1
          refine r_rg1 (by omega) fun d hd => lcR_range (fun i H3 => Pool H3 a s0 ∧ Gr a H' H3 ∧ ∃ ys zs : List Int, H3 l1 = some (.lst (ys.map V.int)) ∧ H3 d = some (.lst (zs.map V.int)) ∧ (ys ++ zs).Perm (rgI n) ∧ zs.length = i) (by walk_at "zw") ⟨(hP'.mono (same_new hl1)).mono (same_new hd), (Gr.new hl1).trans (.new hd), rgI n, [], (upd_ne (ne_of_none upd_same hd)).trans upd_same, upd_same, by rw [List.append_nil], rfl⟩ ?_ ?_
          · rintro i H3 hi ⟨hP3, g3, ys, zs, hy, hz, pm, hlz⟩
            have ld : l1 ≠ d := ne_of_none upd_same hd
            have dn : H' d = none := (same_new hl1).free hd
            have ly : ys.length + i = n := by
              have := pm.length_eq
              rw [List.length_append, rgI_len] at this
              omega
            have hi : i < n := by omega
            walk_at "z"
            refine ⟨rfl, ?_⟩
            walk_at "z"
            rw [List.length_map]
            refine ⟨a, s0, _, rfl, hP3, by omega, by omega, fun c H4 c0 c1 hP4 g4 => ?_⟩
            have hy4 := g4 _ _ la.1 hy
            have da := new_ne hP' dn
            have hz4 := g4 _ _ da.1 hz
            walk_at "z"
            have hc : c.toNat < ys.length := by omega
            have gx : ys[c.toNat]? = some ys[c.toNat] := List.getElem?_eq_getElem hc
            refine r_popAt hy4 (k := c.toNat) (y := V.int ys[c.toNat]) (by omega) (by omega) (by rw [List.getElem?_map, gx]; rfl) ?_
            rw [map_erase]
            refine r_lce ((upd_ne (Ne.symm ld)).trans hz4) (small_lt (by rw [List.length_map]; omega)) ⟨(hP4.upd la).upd da, ((g3.trans g4).mut hl1).mut dn, ys.eraseIdx c.toNat, zs ++ [ys[c.toNat]], ?_, ?_, ?_, ?_⟩
            · rw [upd_ne ld]
              exact upd_same
            · rw [List.map_append]
              exact upd_same
            · refine List.Perm.trans ?_ pm
              have p1 : (ys.eraseIdx c.toNat ++ (zs ++ [ys[c.toNat]])).Perm ([ys[c.toNat]] ++ (ys.eraseIdx c.toNat ++ zs)) := by
                rw [← List.append_assoc]
                exact List.perm_append_comm
              exact p1.trans ((get_erase_perm ys gx).append_right zs)
            · rw [List.length_append, hlz]
              rfl
          · rintro H3 ⟨hP3, g3, ys, zs, hy, hz, pm, hlz⟩
            have lz : zs.length = n := by omega
            have hx3 := g3 _ _ fa.1 hx
            have hp3 := hp.tk (g3.tk hP')
            walk_at "z"
            refine r_il (.inl (.inl hx3)) fun d2 hd2 => lcR_list (xs := xs) (fun i H' => Same H3 H' ∧ ∃ ys, H' d2 = some (.lst ys) ∧ Prs H' ys ((es.take i).map (ordP zs))) (by walk_at "zw") ⟨same_new hd2, [], upd_same, .nil⟩ (fun i H' _ ⟨s1, _⟩ => .inl (.inl (s1 _ _ hx3))) ?_ ?_
            · rintro i x H4 hxi ⟨s4, us, hu, hus⟩
              obtain ⟨p, hpi, hxp⟩ := pd_get (hp3.tk (.of_same s4)) hxi
              obtain ⟨t, rfl, ht⟩ := hxp
              obtain ⟨b1, b2, b3, b4⟩ := bd p (List.mem_of_getElem? hpi)
              have hz4 := s4 _ _ hz
              have hpl : i < es.length := (List.getElem?_eq_some_iff.mp hpi).1
              walk_at "z"
              refine ⟨rfl, ?_⟩
              walk_at "z"
              refine r_ixL (.inl (.inl hz4)) (at_ord b1 (by omega)) ?_
              walk_at "z"
              refine r_ixL (.inl (.inl hz4)) (at_ord b3 (by omega)) ?_
              walk_at "z"
              refine r_tupN sz2 fun t ht => ?_
              refine r_lce (by walk_at "zh") (small_lt ?_) ⟨same_mut (s4.trans (same_new ht)) hd2, _, upd_same, ?_⟩
              · rw [hus.length, List.length_map, List.length_take]
                omega
              · rw [take_next hpi, List.map_append]
                exact prs_push hu hus ht
            · rintro H4 ⟨s4, us, hu, hus⟩
              rw [hp3.length, List.take_length] at hus
              walk_at "z"
              refine ⟨n, d2, us, _, rfl, by omega, .inl (.inl hu), hus, fun v H5 s5 hv => ?_⟩
              exact fin v _ H5 ((hP3.mono s4).mono s5) (((g12.trans g).trans g3).trans (.of_same (s4.trans s5))) hv (good_filter n1 _)
end

set_option Elab.async false
set_option linter.all false
set_option maxRecDepth 100000
set_option maxHeartbeats 4000000
open PySem PySem.Spec PyProof.Rows L2

abbrev s_law_some_set : Stmt := topS 344
theorem sc_law_some_set : FnScope ["pool", "graph", "v"] ["pool", "graph"] (defScope s_law_some_set) := ⟨rfl, rfl, rfl, by decide +kernel, rfl, by decide +kernel, by decide +kernel⟩

abbrev s_law_some_order : Stmt := topS 345
theorem sc_law_some_order : FnScope ["pool", "graph", "left", "v"] ["pool", "graph"] (defScope s_law_some_order) := ⟨rfl, rfl, rfl, by decide +kernel, rfl, by decide +kernel, by decide +kernel⟩

section
variable {P : Program} {w : World} {K : PySem.W.Frag} {mg : Str → Option Value} {base : Heap}
end

set_option Elab.async false
set_option linter.all false
set_option maxRecDepth 100000
set_option maxHeartbeats 4000000
open PySem PySem.Spec PyProof.Rows L2

section
variable {P : Program} {w : World} {K : PySem.W.Frag} {mg : Str → Option Value} {base : Heap}
/-- a drawn set of vertices -/
def spSomeSet : Sp := fun vs H Q _ => ∃ (a s : Addr) (g : V) (n : Nat) (ps : List (Int × Int)), vs = [.ref a, g] ∧ Pool H a s ∧ GrAt H g (n : Int) ps ∧ n ≤ 100 ∧
  ∀ (t : Addr) (ns : List Int) (H' : Hp), H t = none → Pool H' a s → Gr a H H' → H' t = some (.tup (ns.map V.int)) → ns.Pairwise (· < ·) → (∀ z ∈ ns, 0 ≤ z ∧ z < (n : Int)) → Q (.ref t) H'
theorem ok_some_set (T : Blt mg) (D : DefAt K mg "_law_some_set" s_law_some_set ["pool", "graph"]) (D_law_draw : DefAt K mg "_law_draw" s_law_draw ["pool", "many"]) (G_law_draw : FnOk P w K mg base CX0 2 D_law_draw.f D_law_draw.fd ["pool", "many"] spDraw) :
    FnOk P w K mg base CX0 3 D.f D.fd ["pool", "graph"] spSomeSet := by
  refine D.F.ok sc_law_some_set (fun vs H Q E h => ?_) (fun cdv A outer s H vs Q E hr h => ?_)
  · obtain ⟨a, s, g, n, ps, rfl, _⟩ := h
    rfl
  · obtain ⟨a, s0, g, n, ps, rfl, hP, ⟨ga, e, rfl, hg, he⟩, hn, q⟩ := h
    refine ⟨_, (pss_one (ps_ret (pe_callTy (call_tupleK (K := K) rfl) (by rfl) T.tuple (by decide +kernel) (pa_cons (pe_lc (own := [("v", 2)]) (by rfl) sc_law_some_set.nd (pi_range1 (by rfl) T.range (pa_cons (pe_ix (ix_tupK (K := K) rfl) (pv 1) pe_int (fun _ _ => rfl)) pa_nil)) (blkOk_by (own := [("v", 2)]) (N := ["pool", "graph", "v"]) (sc := (defScope s_law_some_set)) (by decide +kernel)) (fun _ _ _ _ _ => (pg_name (i := 2) sc_law_some_set.nd rfl (Or.inl rfl))) (fun _ _ _ _ _ => (pts_one (pt_cmpR op_eq (pe_call G_law_draw (hr.mono (by first | decide | omega)) (by rfl) D_law_draw.g D_law_draw.F.kp D_law_draw.b .nil pass0 (pa_cons (pv 0) (pa_cons pe_int pa_nil))) pe_int (nomark _)))) (fun _ _ _ _ _ => (pv 2))) pa_nil)))), ?_⟩
    refine r_at (σ := [some _, some _, none]) rfl ?_
    walk_at "z"
    refine r_rg1 (by omega) fun d hd => lcR_range (fun i H' => Pool H' a s0 ∧ Gr a H H' ∧ ∃ ns : List Int, H' d = some (.lst (ns.map V.int)) ∧ ns.Pairwise (· < ·) ∧ (∀ z ∈ ns, 0 ≤ z ∧ z < (i : Int)) ∧ ns.length ≤ i) (by walk_at "zw") ⟨hP.mono (same_new hd), .new hd, [], upd_same, .nil, fun z hz => (nomatch hz), Nat.le_refl _⟩ ?_ ?_
    · rintro i H' hi ⟨hP', g', ns, hy, asc, bd, ln⟩
      walk_at "z"
      refine ⟨rfl, ?_⟩
      walk_at "z"
      refine ⟨a, s0, 2, rfl, hP', by omega, by omega, fun r H2 _ _ hP2 g2 => ?_⟩
      have da := new_ne hP hd
      have hy2 := g2 _ _ da.1 hy
      walk_at "z"
      refine r_ite (fun h => ?_) (fun h => ?_)
      · walk_at "z"
        refine r_lce hy2 (small_lt (by rw [List.length_map]; omega)) ⟨hP2.upd da, (g'.trans g2).mut hd, ns ++ [(0 : Int) + (i : Int)], by rw [List.map_append]; exact upd_same, List.pairwise_append.mpr ⟨asc, by simp, fun x hx y hy => ?_⟩, fun z hz => ?_, by rw [List.length_append]; simp only [List.length_cons, List.length_nil]; omega⟩
        · rw [List.mem_singleton.mp hy]
          have := bd x hx
          omega
        · rcases List.mem_append.mp hz with c | c
          · have := bd z c
            omega
          · rw [List.mem_singleton.mp c]
            omega
      · exact ⟨hP2, g'.trans g2, ns, hy2, asc, fun z hz => ⟨(bd z hz).1, by have := (bd z hz).2; omega⟩, by omega⟩
    · rintro H' ⟨hP', g', ns, hy, asc, bd, ln⟩
      walk_at "z"
      refine r_tupL (.inl (.inl hy)) fun t ht => ?_
      exact q t ns _ (g'.free hP'.ne ht) (hP'.mono (same_new ht)) (g'.trans (.new ht)) upd_same asc fun z hz => ⟨(bd z hz).1, by have := (bd z hz).2; omega⟩
/-- a drawn order -/
def spSomeOrder : Sp := fun vs H Q _ => ∃ (a s : Addr) (g : V) (n : Nat) (ps : List (Int × Int)), vs = [.ref a, g] ∧ Pool H a s ∧ GrAt H g (n : Int) ps ∧ n ≤ 100 ∧
  ∀ (t : Addr) (ns : List Int) (H' : Hp), H t = none → Pool H' a s → Gr a H H' → H' t = some (.tup (ns.map V.int)) → ns.Perm (rgI n) → Q (.ref t) H'
theorem ok_some_order (T : Blt mg) (D : DefAt K mg "_law_some_order" s_law_some_order ["pool", "graph"]) (D_law_draw : DefAt K mg "_law_draw" s_law_draw ["pool", "many"]) (G_law_draw : FnOk P w K mg base CX0 2 D_law_draw.f D_law_draw.fd ["pool", "many"] spDraw) :
    FnOk P w K mg base CX0 3 D.f D.fd ["pool", "graph"] spSomeOrder := by
  refine D.F.ok sc_law_some_order (fun vs H Q E h => ?_) (fun cdv A outer s H vs Q E hr h => ?_)
  · obtain ⟨a, s, g, n, ps, rfl, _⟩ := h
    rfl
  · obtain ⟨a, s0, g, n, ps, rfl, hP', ⟨ga, e, rfl, hg, he⟩, hn, q⟩ := h
    refine ⟨_, (pss_cons (ps_set (i := 2) sc_law_some_order.nd rfl (Or.inr rfl) (pe_listRg rfl (by rfl) T.list (prg_1 (by rfl) T.range (pe_ix (ix_tupK (K := K) rfl) (pv 1) pe_int (fun _ _ => rfl)))))
      (pss_one (ps_ret (pe_callTy (call_tupleK (K := K) rfl) (by rfl) T.tuple (by decide +kernel) (pa_cons (pe_lc (own := [("v", 3)]) (by rfl) sc_law_some_order.nd (pi_range1 (by rfl) T.range (pa_cons (pe_ix (ix_tupK (K := K) rfl) (pv 1) pe_int (fun _ _ => rfl)) pa_nil)) (blkOk_by (own := [("v", 3)]) (N := ["pool", "graph", "left", "v"]) (sc := (defScope s_law_some_order)) (by decide +kernel)) (fun _ _ _ _ _ => (pg_name (i := 3) sc_law_some_order.nd rfl (Or.inl rfl))) (fun _ _ _ _ _ => pts_nil) (fun _ _ _ _ _ => (PE.bmK (K := K) rfl (pe_bm PySem.F.plainAttrs_list PySem.F.slot_list_pop PySem.F.type_list_pop mt_popAt (pv 2) (pa_cons (pe_call G_law_draw (hr.mono (by first | decide | omega)) (by rfl) D_law_draw.g D_law_draw.F.kp D_law_draw.b .nil pass0 (pa_cons (pv 0) (pa_cons (pe_callB (call_lenK (K := K) rfl) (by rfl) T.len (by decide +kernel) (pa_cons (pv 2) pa_nil)) pa_nil))) pa_nil))))) pa_nil))))), ?_⟩
    refine r_at (σ := [some _, some _, none, none]) rfl ?_
    walk_at "z"
    refine r_lRg (by omega) (by omega) fun l1 hl1 => ?_
    have la := new_ne hP' hl1
    have hg1 := same_new (o := .lst ((rgI (n : Int)).map V.int)) hl1 _ _ hg
    walk_at "z"
    refine r_rg1 (by omega) fun d hd => lcR_range (fun i H3 => Pool H3 a s0 ∧ Gr a H H3 ∧ ∃ ys zs : List Int, H3 l1 = some (.lst (ys.map V.int)) ∧ H3 d = some (.lst (zs.map V.int)) ∧ (ys ++ zs).Perm (rgI n) ∧ zs.length = i) (by walk_at "zw") ⟨(hP'.mono (same_new hl1)).mono (same_new hd), (Gr.new hl1).trans (.new hd), rgI n, [], (upd_ne (ne_of_none upd_same hd)).trans upd_same, upd_same, by rw [List.append_nil], rfl⟩ ?_ ?_
    · rintro i H3 hi ⟨hP3, g3, ys, zs, hy, hz, pm, hlz⟩
      have ld : l1 ≠ d := ne_of_none upd_same hd
      have dn : H d = none := (same_new hl1).free hd
      have ly : ys.length + i = n := by
        have := pm.length_eq
        rw [List.length_append, rgI_len] at this
        omega
      have hi : i < n := by omega
      walk_at "z"
      refine ⟨rfl, ?_⟩
      walk_at "z"
      rw [List.length_map]
      refine ⟨a, s0, _, rfl, hP3, by omega, by omega, fun c H4 c0 c1 hP4 g4 => ?_⟩
      have hy4 := g4 _ _ la.1 hy
      have da := new_ne hP' dn
      have hz4 := g4 _ _ da.1 hz
      walk_at "z"
      have hc : c.toNat < ys.length := by omega
      have gx : ys[c.toNat]? = some ys[c.toNat] := List.getElem?_eq_getElem hc
      refine r_popAt hy4 (k := c.toNat) (y := V.int ys[c.toNat]) (by omega) (by omega) (by rw [List.getElem?_map, gx]; rfl) ?_
      rw [map_erase]
      refine r_lce ((upd_ne (Ne.symm ld)).trans hz4) (small_lt (by rw [List.length_map]; omega)) ⟨(hP4.upd la).upd da, ((g3.trans g4).mut hl1).mut dn, ys.eraseIdx c.toNat, zs ++ [ys[c.toNat]], ?_, ?_, ?_, ?_⟩
      · rw [upd_ne ld]
        exact upd_same
      · rw [List.map_append]
        exact upd_same
      · refine List.Perm.trans ?_ pm
        have p1 : (ys.eraseIdx c.toNat ++ (zs ++ [ys[c.toNat]])).Perm ([ys[c.toNat]] ++ (ys.eraseIdx c.toNat ++ zs)) := by
          rw [← List.append_assoc]
          exact List.perm_append_comm
        exact p1.trans ((get_erase_perm ys gx).append_right zs)
      · rw [List.length_append, hlz]
        rfl
    · rintro H3 ⟨hP3, g3, ys, zs, hy, hz, pm, hlz⟩
      have e0 : ys = [] := by
        have := pm.length_eq
        rw [List.length_append, rgI_len] at this
        exact List.eq_nil_of_length_eq_zero (by omega)
      subst e0
      walk_at "z"
      refine r_tupL (.inl (.inl hz)) fun t ht => ?_
      exact q t zs _ (g3.free hP3.ne ht) (hP3.mono (same_new ht)) (g3.trans (.new ht)) upd_same pm
end

set_option Elab.async false
set_option linter.all false
set_option maxRecDepth 100000
set_option maxHeartbeats 4000000
open PySem PySem.Spec PyProof.Rows L2 LamX RZ

abbrev s_law : Stmt := topS 350
theorem sc_law : FnScope ["script", "pool", "graph", "question", "told", "drawn", "turn", "paper"] ["script"] (defScope s_law) := ⟨rfl, rfl, rfl, by decide +kernel, rfl, by decide +kernel, by decide +kernel⟩

theorem Pool.ext {H H' : Hp} {a s : Addr} (h : Pool H a s) (k : ExtN H H') : Pool H' a s := by
  obtain ⟨ns, p, v, c, salt, h1, h2, h3, h4⟩ := h
  exact ⟨ns, p, v, c, salt, ext_lst k h1, ext_lst k h2, h3, h4⟩
theorem Pool.tab {TB : List (Addr × Str)} {a s : Addr} {H H' : Hp} (h : Pool H a s) (g : Gr a H H') (r : Tabs TB H) : Tabs TB H' := by
  obtain ⟨xs, hx⟩ := h.lst
  exact tabsGr g hx r
theorem gd_len7 {n : Int} {ps : List (Int × Int)} (g : GoodG n ps) (n7 : n ≤ 7) : ps.length ≤ 21 := by
  have := nodup_le ps ((List.range 7).flatMap fun (j : Nat) => (List.range j).map fun (i : Nat) => ((i : Int), (j : Int))) (asc_nodup g.asc) fun p hp => by
    have b1 := g.inn p hp
    refine List.mem_flatMap.mpr ⟨p.2.toNat, List.mem_range.mpr (by omega), List.mem_map.mpr ⟨p.1.toNat, List.mem_range.mpr (by omega), ?_⟩⟩
    exact Prod.ext (by show ((p.1.toNat : Nat) : Int) = p.1; omega) (by show ((p.2.toNat : Nat) : Int) = p.2; omega)
  have e : ((List.range 7).flatMap fun (j : Nat) => (List.range j).map fun (i : Nat) => ((i : Int), (j : Int))).length = 21 := by decide
  omega
theorem PapB.ext {B : Addr → Prop} {H H' : Hp} {x : V} (h : PapB B H x) (s : ExtN H H') : PapB B H' x := h.imp fun d h => ⟨h.1.ext s, h.2⟩
/-- the drawn papers -/
def Drn (H : Hp) (d : Addr) (m : Nat) : Prop := ∃ xs : List V, H d = some (.lst xs) ∧ xs.length = m ∧ ∀ x ∈ xs, PairG H x
theorem Drn.same {H H' : Hp} {d : Addr} {m : Nat} (h : Drn H d m) (s : Same H H') : Drn H' d m := by
  obtain ⟨xs, h1, h2, h3⟩ := h
  exact ⟨xs, s _ _ h1, h2, fun x hx => (h3 x hx).tk (.of_same s)⟩
theorem Drn.gr {H H' : Hp} {a s d : Addr} {m : Nat} (h : Drn H d m) (hP : Pool H a s) (da : d ≠ a) (g : Gr a H H') : Drn H' d m := by
  obtain ⟨xs, h1, h2, h3⟩ := h
  exact ⟨xs, g _ _ da h1, h2, fun x hx => (h3 x hx).tk (g.tk hP)⟩
theorem Drn.put {H : Hp} {d : Addr} {m : Nat} {xs : List V} {x : V} (h1 : H d = some (.lst xs)) (h2 : xs.length = m) (h3 : ∀ x ∈ xs, PairG H x) (h : PairG H x) : Drn (L2.upd H d (.lst (xs ++ [x]))) d (m + 1) :=
  ⟨_, upd_same, by rw [List.length_append, h2]; rfl, fun z hz => by
    rcases List.mem_append.mp hz with c | c
    · exact (h3 z c).tk (.lst h1)
    · rw [List.mem_singleton.mp c]
      exact h.tk (.lst h1)⟩
section
variable {P : Program} {w : World} {K : PySem.W.Frag} {mg : Str → Option Value} {base : Heap}
def TRgM (Q : VK) (a b : Int) (H1 : Hp) : Prop := RgOk a b ∧ ∀ q, H1 q = none → Q (.ref q) (upd H1 q (.tup (rgV a b)))
theorem r_tupRgM {t : L2.St → Hp → (Int → Int → Hp → Prop) → Prop} {σ : L2.St} {H : Hp} {Q : VK} (h : t σ H (TRgM Q)) : tTupRg t σ H Q := h
theorem r_tRgM {H : Hp} {Q : VK} {n : Int} (h0 : 0 ≤ n) (h1 : n ≤ 10000) (q : ∀ p, H p = none → Q (.ref p) (upd H p (.tup ((rgI n).map V.int)))) : TRgM Q 0 n H := ⟨.of_le (by omega) (by omega) (by omega) h0, fun p hp => by
  rw [rgV_rgI]
  exact q p hp⟩
theorem fn_ex {k : Nat} {f : Addr} {fd : FuncData} {ps : List PySem.Str} {CX : CXT} {ι : Type} {sp : ι → Sp} (h : ∀ b, FnOk P w K mg base CX k f fd ps (sp b)) : FnOk P w K mg base CX k f fd ps (fun vs H Q E => ∃ b, sp b vs H Q E) :=
  ⟨fun vs H Q E ⟨b, x⟩ => (h b).1 vs H Q E x, fun x1 x2 x3 x4 x5 x6 x7 x8 x9 x10 x11 x12 x13 ⟨b, x⟩ => (h b).2 x1 x2 x3 x4 x5 x6 x7 x8 x9 x10 x11 x12 x13 x⟩
def spCheckA (TT : List (Addr × Str)) : Sp := fun vs H Q E => ∃ b, spCheck b TT vs H Q E
def spLaw (K : PySem.W.Frag) (TT : List (Addr × Str)) : Sp := fun vs H Q _ => ∃ (l : Addr) (ns : List Int), vs = [.ref l] ∧ SqL K H l (ns.map V.int) ∧ Tabs TT H ∧ ∀ H', Q (.bl true) H'
theorem ok_law {TT : List (Addr × Str)} (T : Blt mg) (D : DefAt K mg "law" s_law ["script"])
    (D_law_pool : DefAt K mg "_law_pool" s_law_pool ["script"]) (G_law_pool : FnOk P w K mg base CX0 1 D_law_pool.f D_law_pool.fd ["script"] (spPool K))
    (D_law_graph : DefAt K mg "_law_graph" s_law_graph ["pool", "most"]) (G_law_graph : FnOk P w K mg base CX0 3 D_law_graph.f D_law_graph.fd ["pool", "most"] spGraphO)
    (D_law_draw : DefAt K mg "_law_draw" s_law_draw ["pool", "many"]) (G_law_draw : FnOk P w K mg base CX0 2 D_law_draw.f D_law_draw.fd ["pool", "many"] spDraw)
    (D_law_same : DefAt K mg "_law_same" s_law_same ["actual", "due"]) (G_law_same : FnOk P w K mg base CX0 4 D_law_same.f D_law_same.fd ["actual", "due"] (spSame K 4))
    (D_decide : DefAt K mg "decide" s_decide ["graph", "question"]) (G_decide : FnOk P w K mg base CX0 17 D_decide.f D_decide.fd ["graph", "question"] (spDec TT))
    (D_check : DefAt K mg "check" s_check ["graph", "question", "paper"]) (G_check : FnOk P w K mg base CX0 18 D_check.f D_check.fd ["graph", "question", "paper"] (spCheckA TT))
    (D_law_right : DefAt K mg "_law_right" s_law_right ["graph", "question", "paper"]) (G_law_right : FnOk P w K mg base CX0 5 D_law_right.f D_law_right.fd ["graph", "question", "paper"] (spLRight K))
    (D_law_some_order : DefAt K mg "_law_some_order" s_law_some_order ["pool", "graph"]) (G_law_some_order : FnOk P w K mg base CX0 3 D_law_some_order.f D_law_some_order.fd ["pool", "graph"] spSomeOrder)
    (D_law_some_set : DefAt K mg "_law_some_set" s_law_some_set ["pool", "graph"]) (G_law_some_set : FnOk P w K mg base CX0 3 D_law_some_set.f D_law_some_set.fd ["pool", "graph"] spSomeSet)
    (D_law_papers : DefAt K mg "_law_papers" s_law_papers ["pool", "told", "drawn"]) (G_law_papers : FnOk P w K mg base CX0 8 D_law_papers.f D_law_papers.fd ["pool", "told", "drawn"] spPapers) :
    FnOk P w K mg base CX0 64 D.f D.fd ["script"] (spLaw K TT) := by
  refine D.F.ok sc_law (fun vs H Q E h => ?_) (fun cdv A outer s H vs Q E hr h => ?_)
  · obtain ⟨l, ns, rfl, _⟩ := h
    rfl
  · obtain ⟨l, ns, rfl, hl, hT, q⟩ := h
    refine ⟨_, (pss_cons (ps_set (i := 1) sc_law.nd rfl (Or.inl rfl) (pe_call G_law_pool (hr.mono (by first | decide | omega)) (by rfl) D_law_pool.g D_law_pool.F.kp D_law_pool.b .nil pass0 (pa_cons (pv 0) pa_nil)))
      (pss_cons (ps_set (i := 2) sc_law.nd rfl (Or.inl rfl) (pe_call G_law_graph (hr.mono (by first | decide | omega)) (by rfl) D_law_graph.g D_law_graph.F.kp D_law_graph.b .nil pass0 (pa_cons (pv 1) (pa_cons pe_int pa_nil))))
      (pss_cons (ps_set (i := 3) sc_law.nd rfl (Or.inl rfl) (pe_tup (pa_cons pe_str (pa_cons (pe_call G_law_draw (hr.mono (by first | decide | omega)) (by rfl) D_law_draw.g D_law_draw.F.kp D_law_draw.b .nil pass0 (pa_cons (pv 1) (pa_cons pe_int pa_nil))) pa_nil))))
      (pss_cons (ps_set (i := 4) sc_law.nd rfl (Or.inl rfl) (pe_call G_decide (hr.mono (by first | decide | omega)) (by rfl) D_decide.g D_decide.F.kp D_decide.b .nil pass0 (pa_cons (pv 2) (pa_cons (pv 3) pa_nil))))
      (pss_cons (ps_if (PW.pt (pw_or (pt_not (pt_val (pe_callB (call_isiK (K := K) rfl) (by rfl) T.isinstance (by decide +kernel) (pa_cons (pv 4) (pa_cons (pe_bltn (v := .ty "tuple") (u := .type "tuple") (by rfl) T.tuple (by decide +kernel) rfl) pa_nil))))) (pw_or (pt_cmpR op_ne (pe_callB (call_lenK (K := K) rfl) (by rfl) T.len (by decide +kernel) (pa_cons (pv 4) pa_nil)) pe_int (nomark _)) (pw_or1 (pt_not (pt_val (pe_call G_law_right (hr.mono (by first | decide | omega)) (by rfl) D_law_right.g D_law_right.F.kp D_law_right.b .nil pass0 (pa_cons (pv 2) (pa_cons (pv 3) (pa_cons (pv 4) pa_nil))))))))))
        (pss_one (ps_ret pe_bl))
        pss_nil)
      (pss_cons (ps_set (i := 5) sc_law.nd rfl (Or.inl rfl) (pe_lst pa_nil))
      (pss_cons (ps_for PassesOwn.never (by rfl) (pi_range1 (by rfl) T.range (pa_cons pe_int pa_nil)) (pg_name (i := 6) sc_law.nd rfl (Or.inl rfl))
        (pss_cons (ps_expr (PE.bmK (K := K) rfl (pe_bm PySem.F.plainAttrs_list PySem.F.slot_list_append PySem.F.type_list_append mt_append (pv 5) (pa_cons (pe_tup (pa_cons pe_str (pa_cons (pe_call G_law_some_order (hr.mono (by first | decide | omega)) (by rfl) D_law_some_order.g D_law_some_order.F.kp D_law_some_order.b .nil pass0 (pa_cons (pv 1) (pa_cons (pv 2) pa_nil))) pa_nil))) pa_nil))))
        (pss_cons (ps_expr (PE.bmK (K := K) rfl (pe_bm PySem.F.plainAttrs_list PySem.F.slot_list_append PySem.F.type_list_append mt_append (pv 5) (pa_cons (pe_tup (pa_cons pe_str (pa_cons (pe_call G_law_some_set (hr.mono (by first | decide | omega)) (by rfl) D_law_some_set.g D_law_some_set.F.kp D_law_some_set.b .nil pass0 (pa_cons (pv 1) (pa_cons (pv 2) pa_nil))) pa_nil))) pa_nil))))
        (pss_one (ps_expr (PE.bmK (K := K) rfl (pe_bm PySem.F.plainAttrs_list PySem.F.slot_list_append PySem.F.type_list_append mt_append (pv 5) (pa_cons (pe_tup (pa_cons pe_str (pa_cons (pe_tupRg rfl (by rfl) T.tuple (prg_1 (by rfl) T.range (pe_ix (ix_tupK (K := K) rfl) (pv 2) pe_int (fun _ _ => rfl)))) pa_nil))) pa_nil))))))))
      (pss_cons (ps_for PassesOwn.never (by rfl) (PI.listK (K := K) rfl (pi_list (pe_call G_law_papers (hr.mono (by first | decide | omega)) (by rfl) D_law_papers.g D_law_papers.F.kp D_law_papers.b .nil pass0 (pa_cons (pv 1) (pa_cons (pv 4) (pa_cons (pv 5) pa_nil)))))) (pg_name (i := 7) sc_law.nd rfl (Or.inl rfl))
        (pss_one (ps_if (pt_not (pt_val (pe_call G_law_same (hr.mono (by first | decide | omega)) (by rfl) D_law_same.g D_law_same.F.kp D_law_same.b .nil pass0 (pa_cons (pe_call G_check (hr.mono (by first | decide | omega)) (by rfl) D_check.g D_check.F.kp D_check.b .nil pass0 (pa_cons (pv 2) (pa_cons (pv 3) (pa_cons (pv 7) pa_nil)))) (pa_cons (pe_call G_law_right (hr.mono (by first | decide | omega)) (by rfl) D_law_right.g D_law_right.F.kp D_law_right.b .nil pass0 (pa_cons (pv 2) (pa_cons (pv 3) (pa_cons (pv 7) pa_nil)))) pa_nil)))))
          (pss_one (ps_ret pe_bl))
          pss_nil)))
      (pss_one (ps_ret pe_bl)))))))))), ?_⟩
    refine r_at (σ := [some _, none, none, none, none, none, none, none]) rfl ?_
    walk_at "z"
    refine ⟨l, ns, rfl, hl, fun a s0 H1 ha s1 hP1 => ?_⟩
    have T1 := tabs_same hT s1
    walk_at "z"
    refine ⟨a, s0, 7, rfl, hP1, by omega, by omega, fun n1 n10 n11 gv p1 H2 hP2 g2 hg2 gd => ?_⟩
    obtain ⟨n, rfl⟩ : ∃ n : Nat, n1 = (n : Int) := ⟨n1.toNat, by omega⟩
    have lps := gd_len7 gd (by omega)
    have inn : ∀ p ∈ p1, 0 ≤ p.1 ∧ p.1 < p.2 ∧ p.2 < (n : Int) := gd.inn
    have T2 := hP1.tab g2 T1
    walk_at "z"
    refine ⟨a, s0, 5, rfl, hP2, by omega, by omega, fun k H3 k0 k1 hP3 g3 => ?_⟩
    have T3 := hP2.tab g3 T2
    have hg3 := hg2.tk (g3.tk hP2)
    walk_at "z"
    refine r_tupN sz2 fun qa hqa => ?_
    have s4 := same_new (o := .tup [.str "degenerate", .int k]) hqa
    have hq4 : (upd H3 qa (.tup [.str "degenerate", .int k])) qa = some (.tup [.str "degenerate", .int k]) := upd_same
    have T4 := tabs_same T3 s4
    have hP4 := hP3.mono s4
    have hg4 := hg3.tk (.of_same s4)
    generalize upd H3 qa (.tup [.str "degenerate", .int k]) = H4 at s4 hq4 T4 hP4 hg4 ⊢
    walk_at "z"
    refine ⟨qa, gv, n, p1, k, rfl, hq4, k0, hg4, by omega, by omega, inn, T4, fun t d y os H5 e5 T5 ht5 hd5 los rg => ?_⟩
    have hP5 := hP4.ext e5
    have hg5 := hg4.tk (ext_tk e5)
    have hq5 := ext_tup e5 hq4
    have hya : y = "yes" ∨ y = "no" := rg.elim (fun h => .inl h.1) (fun h => .inr h.1)
    have pt5 : PairG H5 (.ref t) := ⟨t, d, y, os, rfl, ht5, hya, hd5, by omega⟩
    walk_at "z"
    refine r_isiTup ht5 ?_
    walk_at "z"
    refine iteF ?_
    walk_at "z"
    refine r_iteN (fun h => (h rfl).elim) fun _ => ?_
    walk_at "z"
    refine ⟨gv, .ref t, n, p1, qa, k, .tuple [.str y, .tuple (os.map PyData.int)], rfl, hg5, by omega, hq5, .tup (.inl (.inl ht5)) (.cons (.str _) (.cons (.tup (.inl (.inl hd5)) (dps_int _)) .nil)), ⟨2, by omega, (pair_lim hya (lim_intsG (by omega)) (by omega)).mono (by omega) (by omega)⟩, fun r H6 s6 hr6 => ?_⟩
    cases r with
    | false => exact (nomatch hr6.mpr ⟨y, _, rfl, rg⟩)
    | true =>
    have hP6 := hP5.mono s6
    have hg6 := hg5.tk (.of_same s6)
    have hq6 := s6 _ _ hq5
    have T6 := tabs_same T5 s6
    have pt6 := pt5.tk (.of_same s6)
    walk_at "z"
    try refine iteF ?_
    try walk_at "z"
    refine r_lstN (Nat.zero_le _) fun dl hdl => ?_
    have dla : dl ≠ a := (new_ne hP6 hdl).1
    have dls : dl ≠ s0 := (new_ne hP6 hdl).2
    have s7 := same_new (o := .lst []) hdl
    have dr7 : Drn (upd H6 dl (.lst [])) dl 0 := ⟨[], upd_same, rfl, fun x hx => nomatch hx⟩
    have hP7 := hP6.mono s7
    have hg7 := hg6.tk (.of_same s7)
    have hq7 := s7 _ _ hq6
    have T7 := tabs_same T6 s7
    have pt7 := pt6.tk (.of_same s7)
    generalize upd H6 dl (.lst []) = H7 at s7 dr7 hP7 hg7 hq7 T7 pt7 ⊢
    walk_at "z"
    refine r_rg1 (by omega) (forR_range (fun i σ' H' => (∃ x6 x7, σ' = [some (.ref l), some (.ref a), some gv, some (.ref qa), some (.ref t), some (.ref dl), x6, x7]) ∧ Pool H' a s0 ∧ GrAt H' gv (n : Int) p1 ∧ H' qa = some (.tup [.str "degenerate", .int k]) ∧ Tabs TT H' ∧ PairG H' (.ref t) ∧ Drn H' dl (3 * i)) ⟨⟨_, _, rfl⟩, hP7, hg7, hq7, T7, pt7, dr7⟩ ?_ ?_)
    · rintro i σ' H8 hi ⟨⟨x6, x7, rfl⟩, hP8, hg8, hq8, T8, pt8, dr8⟩
      have put : ∀ {H' : Hp} {m : Nat} {x : V} {y2 : Str} {b2 : Addr} {ms : List Int} {t2 : Addr}, Pool H' a s0 → GrAt H' gv (n : Int) p1 → H' qa = some (.tup [.str "degenerate", .int k]) → Tabs TT H' → PairG H' (.ref t) → Drn H' dl m → H' b2 = some (.tup (ms.map V.int)) → ms.length ≤ 10 → (y2 = "yes" ∨ y2 = "no") → H' t2 = none →
          ∃ xs, (upd H' t2 (.tup [.str y2, .ref b2])) dl = some (.lst xs) ∧ xs.length = m ∧ Pool (upd (upd H' t2 (.tup [.str y2, .ref b2])) dl (.lst (xs ++ [.ref t2]))) a s0 ∧ GrAt (upd (upd H' t2 (.tup [.str y2, .ref b2])) dl (.lst (xs ++ [.ref t2]))) gv (n : Int) p1 ∧ (upd (upd H' t2 (.tup [.str y2, .ref b2])) dl (.lst (xs ++ [.ref t2]))) qa = some (.tup [.str "degenerate", .int k]) ∧ Tabs TT (upd (upd H' t2 (.tup [.str y2, .ref b2])) dl (.lst (xs ++ [.ref t2]))) ∧ PairG (upd (upd H' t2 (.tup [.str y2, .ref b2])) dl (.lst (xs ++ [.ref t2]))) (.ref t) ∧ Drn (upd (upd H' t2 (.tup [.str y2, .ref b2])) dl (.lst (xs ++ [.ref t2]))) dl (m + 1) := by
        intro H' m x y2 b2 ms t2 hP' hg' hq' T' pt' dr' hb2 lm hy2 ht2
        have s' := same_new (o := .tup [.str y2, .ref b2]) ht2
        have ht22 : (upd H' t2 (.tup [.str y2, .ref b2])) t2 = some (.tup [.str y2, .ref b2]) := upd_same
        obtain ⟨xs, c1, c2, c3⟩ := dr'.same s'
        have tk : TK (upd H' t2 (.tup [.str y2, .ref b2])) (upd (upd H' t2 (.tup [.str y2, .ref b2])) dl (.lst (xs ++ [.ref t2]))) := .lst c1
        exact ⟨xs, c1, c2, (hP'.mono s').upd ⟨dla, dls⟩, (hg'.tk (.of_same s')).tk tk, tk _ _ (s' _ _ hq'), tabs_lst (tabs_same T' s') c1, (pt'.tk (.of_same s')).tk tk, Drn.put c1 c2 c3 ⟨t2, b2, y2, ms, rfl, ht22, hy2, s' _ _ hb2, lm⟩⟩
      obtain ⟨ys8, kd8, _, _⟩ := id dr8
      walk_at "z"
      refine ⟨a, s0, gv, n, p1, rfl, hP8, hg8, by omega, fun to ms H9 _ hP9 g9 hto pm => ?_⟩
      have hg9 := hg8.tk (g9.tk hP8)
      have hq9 := g9.tk hP8 _ _ hq8
      have T9 := hP8.tab g9 T8
      have pt9 := pt8.tk (g9.tk hP8)
      have dr9 := dr8.gr hP8 dla g9
      have lms : ms.length ≤ 10 := by
        rw [pm.length_eq, rgI_len]
        omega
      walk_at "z"
      refine r_tupN sz2 fun tA htA => ?_
      obtain ⟨xsA, cA, lA, hPA, hgA, hqA, TA, ptA, drA⟩ := put (x := .non) hP9 hg9 hq9 T9 pt9 dr9 hto lms (.inl rfl) htA
      walk_at "z"
      refine r_appT cA (small_lt (by omega)) ?_
      generalize upd (upd H9 tA (.tup [.str "yes", .ref to])) dl (.lst (xsA ++ [.ref tA])) = HA at hPA hgA hqA TA ptA drA ⊢
      obtain ⟨ysA, kdA, _, _⟩ := id drA
      walk_at "z"
      refine ⟨a, s0, gv, n, p1, rfl, hPA, hgA, by omega, fun tt ns2 HB _ hPB gB htt asc2 bd2 => ?_⟩
      have hgB := hgA.tk (gB.tk hPA)
      have hqB := gB.tk hPA _ _ hqA
      have TB := hPA.tab gB TA
      have ptB := ptA.tk (gB.tk hPA)
      have drB := drA.gr hPA dla gB
      have ln2 : ns2.length ≤ 10 := by
        have := nodup_le ns2 (rgI (n : Int)) (asc2.imp fun {a b} h e => by omega) fun v hv => mem_rgI.mpr (bd2 v hv)
        rw [rgI_len] at this
        omega
      walk_at "z"
      refine r_tupN sz2 fun tC htC => ?_
      obtain ⟨xsC, cC, lC, hPC, hgC, hqC, TC, ptC, drC⟩ := put (x := .non) hPB hgB hqB TB ptB drB htt ln2 (.inr rfl) htC
      walk_at "z"
      refine r_appT cC (small_lt (by omega)) ?_
      generalize upd (upd HB tC (.tup [.str "no", .ref tt])) dl (.lst (xsC ++ [.ref tC])) = HC at hPC hgC hqC TC ptC drC ⊢
      obtain ⟨ysC, kdC, _, _⟩ := id drC
      obtain ⟨ga, e0, ega, hga, _⟩ := id hgC
      subst ega
      walk_at "z"
      refine r_tupRgM ?_
      walk_at "z"
      refine r_tRgM (by omega) (by omega) fun tm htm => ?_
      have sD := same_new (o := .tup ((rgI (n : Int)).map V.int)) htm
      have fD : (upd HC tm (.tup ((rgI (n : Int)).map V.int))) tm = some (.tup ((rgI (n : Int)).map V.int)) := upd_same
      have hPD := hPC.mono sD
      have hgD := hgC.tk (.of_same sD)
      have hqD := sD _ _ hqC
      have TD := tabs_same TC sD
      have ptD := ptC.tk (.of_same sD)
      have drD := drC.same sD
      generalize upd HC tm (.tup ((rgI (n : Int)).map V.int)) = HD at sD fD hPD hgD hqD TD ptD drD ⊢
      walk_at "z"
      refine r_tupN sz2 fun tE htE => ?_
      obtain ⟨xsE, cE, lE, hPE, hgE, hqE, TE, ptE, drE⟩ := put (x := .non) hPD hgD hqD TD ptD drD fD (by rw [rgI_len]; omega) (.inr rfl) htE
      walk_at "z"
      refine r_appT cE (small_lt (by omega)) ?_
      walk_at "z"
      exact ⟨⟨_, _, rfl⟩, hPE, hgE, hqE, TE, ptE, by rwa [show 3 * (i + 1) = 3 * i + 1 + 1 + 1 by omega]⟩
    · rintro σ' H8 ⟨⟨x6, x7, rfl⟩, hP8, hg8, hq8, T8, pt8, xs8, c1, c2, c3⟩
      walk_at "z"
      refine ⟨a, s0, dl, .ref t, xs8, rfl, hP8, pt8, c1, dla, by omega, c3, fun f m H9 hP9 g9 fa m30 pp9 => ?_⟩
      have hg9 := hg8.tk (g9.tk hP8)
      have hq9 := g9.tk hP8 _ _ hq8
      have T9 := hP8.tab g9 T8
      obtain ⟨xs9, d1, d2, d3⟩ := id pp9
      refine r_il (.inl (.inl d1)) (forR_list (xs := xs9) (fun i σ' H' => (∃ x6 x7, σ' = [some (.ref l), some (.ref a), some gv, some (.ref qa), some (.ref t), some (.ref dl), x6, x7]) ∧ Pool H' a s0 ∧ GrAt H' gv (n : Int) p1 ∧ H' qa = some (.tup [.str "degenerate", .int k]) ∧ Tabs TT H' ∧ ExtN H9 H') ⟨⟨_, _, rfl⟩, hP9, hg9, hq9, T9, ExtN.refl _⟩ (fun i σ' H' _ ⟨_, _, _, _, _, e⟩ => .inl (.inl (ext_lst e d1))) ?_ ?_)
      · rintro i x σ' HA hx ⟨⟨x6, x7, rfl⟩, hPA, hgA, hqA, TA, eA⟩
        obtain ⟨d, hd, hl5⟩ := (d3 x (List.mem_of_getElem? hx)).ext eA
        walk_at "z"
        refine ⟨a, gv, x, n, p1, qa, k, d, rfl, hgA, inn, by omega, by omega, k0, hqA, DB.dx (B := fun p => p = a) (a := a) rfl d hd, ⟨5, (lim_limX _ _ hl5).mono (by omega) (Nat.le_refl _)⟩, TA, fun r HB eB TB hrB => ?_⟩
        have hgB := hgA.tk (ext_tk eB)
        have hqB := ext_tup eB hqA
        walk_at "z"
        refine ⟨gv, x, n, p1, qa, k, d, rfl, hgB, by omega, hqB, (hd.ext eB).dp, ⟨5, by omega, hl5.mono (by omega) (Nat.le_refl _)⟩, fun r2 HC sC hrC => ?_⟩
        have er : r2 = r := Bool.eq_iff_iff.mpr (hrC.trans hrB.symm)
        subst er
        walk_at "z"
        refine ⟨.bl r2, .bl r2, .bool r2, rfl, .bl _, .bl _, trivial, ?_⟩
        walk_at "z"
        refine iteF ?_
        walk_at "z"
        exact ⟨⟨_, _, rfl⟩, (hPA.ext eB).mono sC, hgB.tk (.of_same sC), sC _ _ hqB, tabs_same TB sC, (eA.trans eB).trans (ext_same sC)⟩
      · rintro σ' HA ⟨⟨x6, x7, rfl⟩, _⟩
        walk_at "z"
        exact q _
end

set_option Elab.async false
set_option linter.all false
set_option maxRecDepth 100000
set_option maxHeartbeats 4000000
open PySem PySem.Spec PyProof.Rows L2 LamX
theorem code_of {K : PySem.W.Frag} {x : Str} {st : Stmt} {f : Addr} {fd : FuncData} (F : Fun K x x st f fd) {p : Str × Option Str} (hp : He.fAd K p = f) : fd.code = .ref (He.codeOf K p) := by
  obtain ⟨oc, od, kV, doc, pm, an, cdr, ct, osl, efd, lk, hcd⟩ := F.ex
  obtain ⟨c, rfl⟩ := He.codeIn_ref hcd
  have e : fd.code = .ref c := by rw [efd] <;> rfl
  rw [He.codeOf_eq (by rw [hp]; exact lk) e]
  exact e
section
variable {w : World} {K : PySem.W.Frag} {h : Heap} {mg : Str → Option Value}
noncomputable def mkD_is_integer (X : K.In h) (G : h.Ns mainGlobals mg) (c : He.SaysX faX fnX [] tfX exX w h K) : DefAt K mg "is_integer" s_is_integer ["value"] :=
  have F : Fun K "is_integer" "is_integer" s_is_integer (He.fAd K ("is_integer", none)) (Classical.choose (c.t.d.def_ 0 (d := dfd "is_integer" s_is_integer) (by kernel_rfl))) := He5.fun_of (Classical.choose_spec (c.t.d.def_ 0 (d := dfd "is_integer" s_is_integer) (by kernel_rfl)))
  ⟨He.fAd K ("is_integer", none), _, F, F.binds (ps := ["value"]) fun _ _ _ _ _ _ us hl => match us, hl with | [_], _ => by kernel_rfl, He.glo_ok X G (c.t.d.fact 0 (f := .glo "is_integer") (by kernel_rfl))⟩
noncomputable def mkD_is_tuple (X : K.In h) (G : h.Ns mainGlobals mg) (c : He.SaysX faX fnX [] tfX exX w h K) : DefAt K mg "is_tuple" s_is_tuple ["value", "many"] :=
  have F : Fun K "is_tuple" "is_tuple" s_is_tuple (He.fAd K ("is_tuple", none)) (Classical.choose (c.t.d.def_ 1 (d := dfd "is_tuple" s_is_tuple) (by kernel_rfl))) := He5.fun_of (Classical.choose_spec (c.t.d.def_ 1 (d := dfd "is_tuple" s_is_tuple) (by kernel_rfl)))
  ⟨He.fAd K ("is_tuple", none), _, F, F.binds (ps := ["value", "many"]) fun _ _ _ _ _ _ us hl => match us, hl with | [_, _], _ => by kernel_rfl, He.glo_ok X G (c.t.d.fact 1 (f := .glo "is_tuple") (by kernel_rfl))⟩
noncomputable def mkD_is_vertex (X : K.In h) (G : h.Ns mainGlobals mg) (c : He.SaysX faX fnX [] tfX exX w h K) : DefAt K mg "is_vertex" s_is_vertex ["n", "value"] :=
  have F : Fun K "is_vertex" "is_vertex" s_is_vertex (He.fAd K ("is_vertex", none)) (Classical.choose (c.t.d.def_ 2 (d := dfd "is_vertex" s_is_vertex) (by kernel_rfl))) := He5.fun_of (Classical.choose_spec (c.t.d.def_ 2 (d := dfd "is_vertex" s_is_vertex) (by kernel_rfl)))
  ⟨He.fAd K ("is_vertex", none), _, F, F.binds (ps := ["n", "value"]) fun _ _ _ _ _ _ us hl => match us, hl with | [_, _], _ => by kernel_rfl, He.glo_ok X G (c.t.d.fact 2 (f := .glo "is_vertex") (by kernel_rfl))⟩
noncomputable def mkD_are_vertices (X : K.In h) (G : h.Ns mainGlobals mg) (c : He.SaysX faX fnX [] tfX exX w h K) : DefAt K mg "are_vertices" s_are_vertices ["n", "value"] :=
  have F : Fun K "are_vertices" "are_vertices" s_are_vertices (He.fAd K ("are_vertices", none)) (Classical.choose (c.t.d.def_ 3 (d := dfd "are_vertices" s_are_vertices) (by kernel_rfl))) := He5.fun_of (Classical.choose_spec (c.t.d.def_ 3 (d := dfd "are_vertices" s_are_vertices) (by kernel_rfl)))
  ⟨He.fAd K ("are_vertices", none), _, F, F.binds (ps := ["n", "value"]) fun _ _ _ _ _ _ us hl => match us, hl with | [_, _], _ => by kernel_rfl, He.glo_ok X G (c.t.d.fact 3 (f := .glo "are_vertices") (by kernel_rfl))⟩
noncomputable def mkD_is_row (X : K.In h) (G : h.Ns mainGlobals mg) (c : He.SaysX faX fnX [] tfX exX w h K) : DefAt K mg "is_row" s_is_row ["n", "value"] :=
  have F : Fun K "is_row" "is_row" s_is_row (He.fAd K ("is_row", none)) (Classical.choose (c.t.d.def_ 4 (d := dfd "is_row" s_is_row) (by kernel_rfl))) := He5.fun_of (Classical.choose_spec (c.t.d.def_ 4 (d := dfd "is_row" s_is_row) (by kernel_rfl)))
  ⟨He.fAd K ("is_row", none), _, F, F.binds (ps := ["n", "value"]) fun _ _ _ _ _ _ us hl => match us, hl with | [_, _], _ => by kernel_rfl, He.glo_ok X G (c.t.d.fact 4 (f := .glo "is_row") (by kernel_rfl))⟩
noncomputable def mkD_is_order (X : K.In h) (G : h.Ns mainGlobals mg) (c : He.SaysX faX fnX [] tfX exX w h K) : DefAt K mg "is_order" s_is_order ["n", "value"] :=
  have F : Fun K "is_order" "is_order" s_is_order (He.fAd K ("is_order", none)) (Classical.choose (c.t.d.def_ 5 (d := dfd "is_order" s_is_order) (by kernel_rfl))) := He5.fun_of (Classical.choose_spec (c.t.d.def_ 5 (d := dfd "is_order" s_is_order) (by kernel_rfl)))
  ⟨He.fAd K ("is_order", none), _, F, F.binds (ps := ["n", "value"]) fun _ _ _ _ _ _ us hl => match us, hl with | [_, _], _ => by kernel_rfl, He.glo_ok X G (c.t.d.fact 5 (f := .glo "is_order") (by kernel_rfl))⟩
noncomputable def mkD_is_set (X : K.In h) (G : h.Ns mainGlobals mg) (c : He.SaysX faX fnX [] tfX exX w h K) : DefAt K mg "is_set" s_is_set ["n", "value"] :=
  have F : Fun K "is_set" "is_set" s_is_set (He.fAd K ("is_set", none)) (Classical.choose (c.t.d.def_ 6 (d := dfd "is_set" s_is_set) (by kernel_rfl))) := He5.fun_of (Classical.choose_spec (c.t.d.def_ 6 (d := dfd "is_set" s_is_set) (by kernel_rfl)))
  ⟨He.fAd K ("is_set", none), _, F, F.binds (ps := ["n", "value"]) fun _ _ _ _ _ _ us hl => match us, hl with | [_, _], _ => by kernel_rfl, He.glo_ok X G (c.t.d.fact 6 (f := .glo "is_set") (by kernel_rfl))⟩
noncomputable def mkD_is_ascending (X : K.In h) (G : h.Ns mainGlobals mg) (c : He.SaysX faX fnX [] tfX exX w h K) : DefAt K mg "is_ascending" s_is_ascending ["items"] :=
  have F : Fun K "is_ascending" "is_ascending" s_is_ascending (He.fAd K ("is_ascending", none)) (Classical.choose (c.t.d.def_ 7 (d := dfd "is_ascending" s_is_ascending) (by kernel_rfl))) := He5.fun_of (Classical.choose_spec (c.t.d.def_ 7 (d := dfd "is_ascending" s_is_ascending) (by kernel_rfl)))
  ⟨He.fAd K ("is_ascending", none), _, F, F.binds (ps := ["items"]) fun _ _ _ _ _ _ us hl => match us, hl with | [_], _ => by kernel_rfl, He.glo_ok X G (c.t.d.fact 7 (f := .glo "is_ascending") (by kernel_rfl))⟩
noncomputable def mkD_is_edge (X : K.In h) (G : h.Ns mainGlobals mg) (c : He.SaysX faX fnX [] tfX exX w h K) : DefAt K mg "is_edge" s_is_edge ["n", "value"] :=
  have F : Fun K "is_edge" "is_edge" s_is_edge (He.fAd K ("is_edge", none)) (Classical.choose (c.t.d.def_ 8 (d := dfd "is_edge" s_is_edge) (by kernel_rfl))) := He5.fun_of (Classical.choose_spec (c.t.d.def_ 8 (d := dfd "is_edge" s_is_edge) (by kernel_rfl)))
  ⟨He.fAd K ("is_edge", none), _, F, F.binds (ps := ["n", "value"]) fun _ _ _ _ _ _ us hl => match us, hl with | [_, _], _ => by kernel_rfl, He.glo_ok X G (c.t.d.fact 8 (f := .glo "is_edge") (by kernel_rfl))⟩
noncomputable def mkD_are_edges (X : K.In h) (G : h.Ns mainGlobals mg) (c : He.SaysX faX fnX [] tfX exX w h K) : DefAt K mg "are_edges" s_are_edges ["n", "value"] :=
  have F : Fun K "are_edges" "are_edges" s_are_edges (He.fAd K ("are_edges", none)) (Classical.choose (c.t.d.def_ 9 (d := dfd "are_edges" s_are_edges) (by kernel_rfl))) := He5.fun_of (Classical.choose_spec (c.t.d.def_ 9 (d := dfd "are_edges" s_are_edges) (by kernel_rfl)))
  ⟨He.fAd K ("are_edges", none), _, F, F.binds (ps := ["n", "value"]) fun _ _ _ _ _ _ us hl => match us, hl with | [_, _], _ => by kernel_rfl, He.glo_ok X G (c.t.d.fact 9 (f := .glo "are_edges") (by kernel_rfl))⟩
noncomputable def mkD_neighbour_lists (X : K.In h) (G : h.Ns mainGlobals mg) (c : He.SaysX faX fnX [] tfX exX w h K) : DefAt K mg "neighbour_lists" s_neighbour_lists ["graph"] :=
  have F : Fun K "neighbour_lists" "neighbour_lists" s_neighbour_lists (He.fAd K ("neighbour_lists", none)) (Classical.choose (c.t.d.def_ 10 (d := dfd "neighbour_lists" s_neighbour_lists) (by kernel_rfl))) := He5.fun_of (Classical.choose_spec (c.t.d.def_ 10 (d := dfd "neighbour_lists" s_neighbour_lists) (by kernel_rfl)))
  ⟨He.fAd K ("neighbour_lists", none), _, F, F.binds (ps := ["graph"]) fun _ _ _ _ _ _ us hl => match us, hl with | [_], _ => by kernel_rfl, He.glo_ok X G (c.t.d.fact 10 (f := .glo "neighbour_lists") (by kernel_rfl))⟩
noncomputable def mkD_neighbour_masks (X : K.In h) (G : h.Ns mainGlobals mg) (c : He.SaysX faX fnX [] tfX exX w h K) : DefAt K mg "neighbour_masks" s_neighbour_masks ["graph"] :=
  have F : Fun K "neighbour_masks" "neighbour_masks" s_neighbour_masks (He.fAd K ("neighbour_masks", none)) (Classical.choose (c.t.d.def_ 11 (d := dfd "neighbour_masks" s_neighbour_masks) (by kernel_rfl))) := He5.fun_of (Classical.choose_spec (c.t.d.def_ 11 (d := dfd "neighbour_masks" s_neighbour_masks) (by kernel_rfl)))
  ⟨He.fAd K ("neighbour_masks", none), _, F, F.binds (ps := ["graph"]) fun _ _ _ _ _ _ us hl => match us, hl with | [_], _ => by kernel_rfl, He.glo_ok X G (c.t.d.fact 11 (f := .glo "neighbour_masks") (by kernel_rfl))⟩
noncomputable def mkD_masks_behind (X : K.In h) (G : h.Ns mainGlobals mg) (c : He.SaysX faX fnX [] tfX exX w h K) : DefAt K mg "masks_behind" s_masks_behind ["graph", "order"] :=
  have F : Fun K "masks_behind" "masks_behind" s_masks_behind (He.fAd K ("masks_behind", none)) (Classical.choose (c.t.d.def_ 12 (d := dfd "masks_behind" s_masks_behind) (by kernel_rfl))) := He5.fun_of (Classical.choose_spec (c.t.d.def_ 12 (d := dfd "masks_behind" s_masks_behind) (by kernel_rfl)))
  ⟨He.fAd K ("masks_behind", none), _, F, F.binds (ps := ["graph", "order"]) fun _ _ _ _ _ _ us hl => match us, hl with | [_, _], _ => by kernel_rfl, He.glo_ok X G (c.t.d.fact 12 (f := .glo "masks_behind") (by kernel_rfl))⟩
noncomputable def mkD_mask_of (X : K.In h) (G : h.Ns mainGlobals mg) (c : He.SaysX faX fnX [] tfX exX w h K) : DefAt K mg "mask_of" s_mask_of ["members"] :=
  have F : Fun K "mask_of" "mask_of" s_mask_of (He.fAd K ("mask_of", none)) (Classical.choose (c.t.d.def_ 13 (d := dfd "mask_of" s_mask_of) (by kernel_rfl))) := He5.fun_of (Classical.choose_spec (c.t.d.def_ 13 (d := dfd "mask_of" s_mask_of) (by kernel_rfl)))
  ⟨He.fAd K ("mask_of", none), _, F, F.binds (ps := ["members"]) fun _ _ _ _ _ _ us hl => match us, hl with | [_], _ => by kernel_rfl, He.glo_ok X G (c.t.d.fact 13 (f := .glo "mask_of") (by kernel_rfl))⟩
noncomputable def mkD_members_of (X : K.In h) (G : h.Ns mainGlobals mg) (c : He.SaysX faX fnX [] tfX exX w h K) : DefAt K mg "members_of" s_members_of ["mask"] :=
  have F : Fun K "members_of" "members_of" s_members_of (He.fAd K ("members_of", none)) (Classical.choose (c.t.d.def_ 14 (d := dfd "members_of" s_members_of) (by kernel_rfl))) := He5.fun_of (Classical.choose_spec (c.t.d.def_ 14 (d := dfd "members_of" s_members_of) (by kernel_rfl)))
  ⟨He.fAd K ("members_of", none), _, F, F.binds (ps := ["mask"]) fun _ _ _ _ _ _ us hl => match us, hl with | [_], _ => by kernel_rfl, He.glo_ok X G (c.t.d.fact 14 (f := .glo "members_of") (by kernel_rfl))⟩
noncomputable def mkD_size_of (X : K.In h) (G : h.Ns mainGlobals mg) (c : He.SaysX faX fnX [] tfX exX w h K) : DefAt K mg "size_of" s_size_of ["mask"] :=
  have F : Fun K "size_of" "size_of" s_size_of (He.fAd K ("size_of", none)) (Classical.choose (c.t.d.def_ 15 (d := dfd "size_of" s_size_of) (by kernel_rfl))) := He5.fun_of (Classical.choose_spec (c.t.d.def_ 15 (d := dfd "size_of" s_size_of) (by kernel_rfl)))
  ⟨He.fAd K ("size_of", none), _, F, F.binds (ps := ["mask"]) fun _ _ _ _ _ _ us hl => match us, hl with | [_], _ => by kernel_rfl, He.glo_ok X G (c.t.d.fact 15 (f := .glo "size_of") (by kernel_rfl))⟩
noncomputable def mkD_full_mask (X : K.In h) (G : h.Ns mainGlobals mg) (c : He.SaysX faX fnX [] tfX exX w h K) : DefAt K mg "full_mask" s_full_mask ["n"] :=
  have F : Fun K "full_mask" "full_mask" s_full_mask (He.fAd K ("full_mask", none)) (Classical.choose (c.t.d.def_ 16 (d := dfd "full_mask" s_full_mask) (by kernel_rfl))) := He5.fun_of (Classical.choose_spec (c.t.d.def_ 16 (d := dfd "full_mask" s_full_mask) (by kernel_rfl)))
  ⟨He.fAd K ("full_mask", none), _, F, F.binds (ps := ["n"]) fun _ _ _ _ _ _ us hl => match us, hl with | [_], _ => by kernel_rfl, He.glo_ok X G (c.t.d.fact 16 (f := .glo "full_mask") (by kernel_rfl))⟩
noncomputable def mkD_is_size (X : K.In h) (G : h.Ns mainGlobals mg) (c : He.SaysX faX fnX [] tfX exX w h K) : DefAt K mg "is_size" s_is_size ["value"] :=
  have F : Fun K "is_size" "is_size" s_is_size (He.fAd K ("is_size", none)) (Classical.choose (c.t.d.def_ 17 (d := dfd "is_size" s_is_size) (by kernel_rfl))) := He5.fun_of (Classical.choose_spec (c.t.d.def_ 17 (d := dfd "is_size" s_is_size) (by kernel_rfl)))
  ⟨He.fAd K ("is_size", none), _, F, F.binds (ps := ["value"]) fun _ _ _ _ _ _ us hl => match us, hl with | [_], _ => by kernel_rfl, He.glo_ok X G (c.t.d.fact 17 (f := .glo "is_size") (by kernel_rfl))⟩
noncomputable def mkD_is_graph (X : K.In h) (G : h.Ns mainGlobals mg) (c : He.SaysX faX fnX [] tfX exX w h K) : DefAt K mg "is_graph" s_is_graph ["value"] :=
  have F : Fun K "is_graph" "is_graph" s_is_graph (He.fAd K ("is_graph", none)) (Classical.choose (c.t.d.def_ 18 (d := dfd "is_graph" s_is_graph) (by kernel_rfl))) := He5.fun_of (Classical.choose_spec (c.t.d.def_ 18 (d := dfd "is_graph" s_is_graph) (by kernel_rfl)))
  ⟨He.fAd K ("is_graph", none), _, F, F.binds (ps := ["value"]) fun _ _ _ _ _ _ us hl => match us, hl with | [_], _ => by kernel_rfl, He.glo_ok X G (c.t.d.fact 18 (f := .glo "is_graph") (by kernel_rfl))⟩
noncomputable def mkD_is_sparse_paper (X : K.In h) (G : h.Ns mainGlobals mg) (c : He.SaysX faX fnX [] tfX exX w h K) : DefAt K mg "is_sparse_paper" s_is_sparse_paper ["graph", "question", "answer", "data"] :=
  have F : Fun K "is_sparse_paper" "is_sparse_paper" s_is_sparse_paper (He.fAd K ("is_sparse_paper", none)) (Classical.choose (c.t.d.def_ 19 (d := dfd "is_sparse_paper" s_is_sparse_paper) (by kernel_rfl))) := He5.fun_of (Classical.choose_spec (c.t.d.def_ 19 (d := dfd "is_sparse_paper" s_is_sparse_paper) (by kernel_rfl)))
  ⟨He.fAd K ("is_sparse_paper", none), _, F, F.binds (ps := ["graph", "question", "answer", "data"]) fun _ _ _ _ _ _ us hl => match us, hl with | [_, _, _, _], _ => by kernel_rfl, He.glo_ok X G (c.t.d.fact 19 (f := .glo "is_sparse_paper") (by kernel_rfl))⟩
noncomputable def mkD_are_few_behind (X : K.In h) (G : h.Ns mainGlobals mg) (c : He.SaysX faX fnX [] tfX exX w h K) : DefAt K mg "are_few_behind" s_are_few_behind ["graph", "k", "value"] :=
  have F : Fun K "are_few_behind" "are_few_behind" s_are_few_behind (He.fAd K ("are_few_behind", none)) (Classical.choose (c.t.d.def_ 20 (d := dfd "are_few_behind" s_are_few_behind) (by kernel_rfl))) := He5.fun_of (Classical.choose_spec (c.t.d.def_ 20 (d := dfd "are_few_behind" s_are_few_behind) (by kernel_rfl)))
  ⟨He.fAd K ("are_few_behind", none), _, F, F.binds (ps := ["graph", "k", "value"]) fun _ _ _ _ _ _ us hl => match us, hl with | [_, _, _], _ => by kernel_rfl, He.glo_ok X G (c.t.d.fact 20 (f := .glo "are_few_behind") (by kernel_rfl))⟩
noncomputable def mkD_is_tight_check_sparse (X : K.In h) (G : h.Ns mainGlobals mg) (c : He.SaysX faX fnX [] tfX exX w h K) : DefAl K mg "is_tight_check_sparse" "_is_tight" s_is_tight_check_sparse ["graph", "k", "value"] :=
  have F : Fun K "_is_tight" "_is_tight" s_is_tight_check_sparse (He.fAd K ("is_tight_check_sparse", none)) (Classical.choose (c.t.d.def_ 21 (d := dfa "is_tight_check_sparse" "_is_tight" s_is_tight_check_sparse) (by kernel_rfl))) := He5.fun_of (Classical.choose_spec (c.t.d.def_ 21 (d := dfa "is_tight_check_sparse" "_is_tight" s_is_tight_check_sparse) (by kernel_rfl)))
  ⟨He.fAd K ("is_tight_check_sparse", none), _, F, F.binds (ps := ["graph", "k", "value"]) fun _ _ _ _ _ _ us hl => match us, hl with | [_, _, _], _ => by kernel_rfl, He.glo_ok X G (c.t.d.fact 21 (f := .glo "is_tight_check_sparse") (by kernel_rfl))⟩
noncomputable def mkD_is_question (X : K.In h) (G : h.Ns mainGlobals mg) (c : He.SaysX faX fnX [] tfX exX w h K) : DefAt K mg "is_question" s_is_question ["graph", "value"] :=
  have F : Fun K "is_question" "is_question" s_is_question (He.fAd K ("is_question", none)) (Classical.choose (c.t.d.def_ 22 (d := dfd "is_question" s_is_question) (by kernel_rfl))) := He5.fun_of (Classical.choose_spec (c.t.d.def_ 22 (d := dfd "is_question" s_is_question) (by kernel_rfl)))
  ⟨He.fAd K ("is_question", none), _, F, F.binds (ps := ["graph", "value"]) fun _ _ _ _ _ _ us hl => match us, hl with | [_, _], _ => by kernel_rfl, He.glo_ok X G (c.t.d.fact 22 (f := .glo "is_question") (by kernel_rfl))⟩
noncomputable def mkD_are_ends (X : K.In h) (G : h.Ns mainGlobals mg) (c : He.SaysX faX fnX [] tfX exX w h K) : DefAt K mg "_are_ends" s_are_ends ["graph", "s", "t"] :=
  have F : Fun K "_are_ends" "_are_ends" s_are_ends (He.fAd K ("_are_ends", none)) (Classical.choose (c.t.d.def_ 23 (d := dfd "_are_ends" s_are_ends) (by kernel_rfl))) := He5.fun_of (Classical.choose_spec (c.t.d.def_ 23 (d := dfd "_are_ends" s_are_ends) (by kernel_rfl)))
  ⟨He.fAd K ("_are_ends", none), _, F, F.binds (ps := ["graph", "s", "t"]) fun _ _ _ _ _ _ us hl => match us, hl with | [_, _, _], _ => by kernel_rfl, He.glo_ok X G (c.t.d.fact 23 (f := .glo "_are_ends") (by kernel_rfl))⟩
noncomputable def mkD_is_number (X : K.In h) (G : h.Ns mainGlobals mg) (c : He.SaysX faX fnX [] tfX exX w h K) : DefAt K mg "_is_number" s_is_number ["value"] :=
  have F : Fun K "_is_number" "_is_number" s_is_number (He.fAd K ("_is_number", none)) (Classical.choose (c.t.d.def_ 24 (d := dfd "_is_number" s_is_number) (by kernel_rfl))) := He5.fun_of (Classical.choose_spec (c.t.d.def_ 24 (d := dfd "_is_number" s_is_number) (by kernel_rfl)))
  ⟨He.fAd K ("_is_number", none), _, F, F.binds (ps := ["value"]) fun _ _ _ _ _ _ us hl => match us, hl with | [_], _ => by kernel_rfl, He.glo_ok X G (c.t.d.fact 24 (f := .glo "_is_number") (by kernel_rfl))⟩
noncomputable def mkD_check (X : K.In h) (G : h.Ns mainGlobals mg) (c : He.SaysX faX fnX [] tfX exX w h K) : DefAt K mg "check" s_check ["graph", "question", "paper"] :=
  have F : Fun K "check" "check" s_check (He.fAd K ("check", none)) (Classical.choose (c.t.d.def_ 25 (d := dfd "check" s_check) (by kernel_rfl))) := He5.fun_of (Classical.choose_spec (c.t.d.def_ 25 (d := dfd "check" s_check) (by kernel_rfl)))
  ⟨He.fAd K ("check", none), _, F, F.binds (ps := ["graph", "question", "paper"]) fun _ _ _ _ _ _ us hl => match us, hl with | [_, _, _], _ => by kernel_rfl, He.glo_ok X G (c.t.d.fact 25 (f := .glo "check") (by kernel_rfl))⟩
noncomputable def mkD_is_right (X : K.In h) (G : h.Ns mainGlobals mg) (c : He.SaysX faX fnX [] tfX exX w h K) : DefAt K mg "_is_right" s_is_right ["graph", "question", "answer", "data"] :=
  have F : Fun K "_is_right" "_is_right" s_is_right (He.fAd K ("_is_right", none)) (Classical.choose (c.t.d.def_ 26 (d := dfd "_is_right" s_is_right) (by kernel_rfl))) := He5.fun_of (Classical.choose_spec (c.t.d.def_ 26 (d := dfd "_is_right" s_is_right) (by kernel_rfl)))
  ⟨He.fAd K ("_is_right", none), _, F, F.binds (ps := ["graph", "question", "answer", "data"]) fun _ _ _ _ _ _ us hl => match us, hl with | [_, _, _, _], _ => by kernel_rfl, He.glo_ok X G (c.t.d.fact 26 (f := .glo "_is_right") (by kernel_rfl))⟩
noncomputable def mkD_sparse_paper (X : K.In h) (G : h.Ns mainGlobals mg) (c : He.SaysX faX fnX [] tfX exX w h K) : DefAt K mg "sparse_paper" s_sparse_paper ["graph", "question"] :=
  have F : Fun K "sparse_paper" "sparse_paper" s_sparse_paper (He.fAd K ("sparse_paper", none)) (Classical.choose (c.t.d.def_ 27 (d := dfd "sparse_paper" s_sparse_paper) (by kernel_rfl))) := He5.fun_of (Classical.choose_spec (c.t.d.def_ 27 (d := dfd "sparse_paper" s_sparse_paper) (by kernel_rfl)))
  ⟨He.fAd K ("sparse_paper", none), _, F, F.binds (ps := ["graph", "question"]) fun _ _ _ _ _ _ us hl => match us, hl with | [_, _], _ => by kernel_rfl, He.glo_ok X G (c.t.d.fact 27 (f := .glo "sparse_paper") (by kernel_rfl))⟩
noncomputable def mkD_degenerate_paper (X : K.In h) (G : h.Ns mainGlobals mg) (c : He.SaysX faX fnX [] tfX exX w h K) : DefAt K mg "_degenerate_paper" s_degenerate_paper ["graph", "k"] :=
  have F : Fun K "_degenerate_paper" "_degenerate_paper" s_degenerate_paper (He.fAd K ("_degenerate_paper", none)) (Classical.choose (c.t.d.def_ 28 (d := dfd "_degenerate_paper" s_degenerate_paper) (by kernel_rfl))) := He5.fun_of (Classical.choose_spec (c.t.d.def_ 28 (d := dfd "_degenerate_paper" s_degenerate_paper) (by kernel_rfl)))
  ⟨He.fAd K ("_degenerate_paper", none), _, F, F.binds (ps := ["graph", "k"]) fun _ _ _ _ _ _ us hl => match us, hl with | [_, _], _ => by kernel_rfl, He.glo_ok X G (c.t.d.fact 28 (f := .glo "_degenerate_paper") (by kernel_rfl))⟩
noncomputable def mkD_loose (X : K.In h) (G : h.Ns mainGlobals mg) (c : He.SaysX faX fnX [] tfX exX w h K) : DefAt K mg "_loose" s_loose ["around", "left", "k"] :=
  have F : Fun K "_loose" "_loose" s_loose (He.fAd K ("_loose", none)) (Classical.choose (c.t.d.def_ 29 (d := dfd "_loose" s_loose) (by kernel_rfl))) := He5.fun_of (Classical.choose_spec (c.t.d.def_ 29 (d := dfd "_loose" s_loose) (by kernel_rfl)))
  ⟨He.fAd K ("_loose", none), _, F, F.binds (ps := ["around", "left", "k"]) fun _ _ _ _ _ _ us hl => match us, hl with | [_, _, _], _ => by kernel_rfl, He.glo_ok X G (c.t.d.fact 29 (f := .glo "_loose") (by kernel_rfl))⟩
noncomputable def mkD_decide (X : K.In h) (G : h.Ns mainGlobals mg) (c : He.SaysX faX fnX [] tfX exX w h K) : DefAt K mg "decide" s_decide ["graph", "question"] :=
  have F : Fun K "decide" "decide" s_decide (He.fAd K ("decide", none)) (Classical.choose (c.t.d.def_ 30 (d := dfd "decide" s_decide) (by kernel_rfl))) := He5.fun_of (Classical.choose_spec (c.t.d.def_ 30 (d := dfd "decide" s_decide) (by kernel_rfl)))
  ⟨He.fAd K ("decide", none), _, F, F.binds (ps := ["graph", "question"]) fun _ _ _ _ _ _ us hl => match us, hl with | [_, _], _ => by kernel_rfl, He.glo_ok X G (c.t.d.fact 30 (f := .glo "decide") (by kernel_rfl))⟩
noncomputable def mkD_law_same (X : K.In h) (G : h.Ns mainGlobals mg) (c : He.SaysX faX fnX [] tfX exX w h K) : DefAt K mg "_law_same" s_law_same ["actual", "due"] :=
  have F : Fun K "_law_same" "_law_same" s_law_same (He.fAd K ("_law_same", none)) (Classical.choose (c.t.d.def_ 31 (d := dfd "_law_same" s_law_same) (by kernel_rfl))) := He5.fun_of (Classical.choose_spec (c.t.d.def_ 31 (d := dfd "_law_same" s_law_same) (by kernel_rfl)))
  ⟨He.fAd K ("_law_same", none), _, F, F.binds (ps := ["actual", "due"]) fun _ _ _ _ _ _ us hl => match us, hl with | [_, _], _ => by kernel_rfl, He.glo_ok X G (c.t.d.fact 31 (f := .glo "_law_same") (by kernel_rfl))⟩
noncomputable def mkD_law_is_integer (X : K.In h) (G : h.Ns mainGlobals mg) (c : He.SaysX faX fnX [] tfX exX w h K) : DefAt K mg "_law_is_integer" s_law_is_integer ["actual"] :=
  have F : Fun K "_law_is_integer" "_law_is_integer" s_law_is_integer (He.fAd K ("_law_is_integer", none)) (Classical.choose (c.t.d.def_ 32 (d := dfd "_law_is_integer" s_law_is_integer) (by kernel_rfl))) := He5.fun_of (Classical.choose_spec (c.t.d.def_ 32 (d := dfd "_law_is_integer" s_law_is_integer) (by kernel_rfl)))
  ⟨He.fAd K ("_law_is_integer", none), _, F, F.binds (ps := ["actual"]) fun _ _ _ _ _ _ us hl => match us, hl with | [_], _ => by kernel_rfl, He.glo_ok X G (c.t.d.fact 32 (f := .glo "_law_is_integer") (by kernel_rfl))⟩
noncomputable def mkD_law_pool (X : K.In h) (G : h.Ns mainGlobals mg) (c : He.SaysX faX fnX [] tfX exX w h K) : DefAt K mg "_law_pool" s_law_pool ["script"] :=
  have F : Fun K "_law_pool" "_law_pool" s_law_pool (He.fAd K ("_law_pool", none)) (Classical.choose (c.t.d.def_ 33 (d := dfd "_law_pool" s_law_pool) (by kernel_rfl))) := He5.fun_of (Classical.choose_spec (c.t.d.def_ 33 (d := dfd "_law_pool" s_law_pool) (by kernel_rfl)))
  ⟨He.fAd K ("_law_pool", none), _, F, F.binds (ps := ["script"]) fun _ _ _ _ _ _ us hl => match us, hl with | [_], _ => by kernel_rfl, He.glo_ok X G (c.t.d.fact 33 (f := .glo "_law_pool") (by kernel_rfl))⟩
noncomputable def mkD_law_spread (X : K.In h) (G : h.Ns mainGlobals mg) (c : He.SaysX faX fnX [] tfX exX w h K) : DefAt K mg "_law_spread" s_law_spread ["cell"] :=
  have F : Fun K "_law_spread" "_law_spread" s_law_spread (He.fAd K ("_law_spread", none)) (Classical.choose (c.t.d.def_ 34 (d := dfd "_law_spread" s_law_spread) (by kernel_rfl))) := He5.fun_of (Classical.choose_spec (c.t.d.def_ 34 (d := dfd "_law_spread" s_law_spread) (by kernel_rfl)))
  ⟨He.fAd K ("_law_spread", none), _, F, F.binds (ps := ["cell"]) fun _ _ _ _ _ _ us hl => match us, hl with | [_], _ => by kernel_rfl, He.glo_ok X G (c.t.d.fact 34 (f := .glo "_law_spread") (by kernel_rfl))⟩
noncomputable def mkD_law_draw (X : K.In h) (G : h.Ns mainGlobals mg) (c : He.SaysX faX fnX [] tfX exX w h K) : DefAt K mg "_law_draw" s_law_draw ["pool", "many"] :=
  have F : Fun K "_law_draw" "_law_draw" s_law_draw (He.fAd K ("_law_draw", none)) (Classical.choose (c.t.d.def_ 35 (d := dfd "_law_draw" s_law_draw) (by kernel_rfl))) := He5.fun_of (Classical.choose_spec (c.t.d.def_ 35 (d := dfd "_law_draw" s_law_draw) (by kernel_rfl)))
  ⟨He.fAd K ("_law_draw", none), _, F, F.binds (ps := ["pool", "many"]) fun _ _ _ _ _ _ us hl => match us, hl with | [_, _], _ => by kernel_rfl, He.glo_ok X G (c.t.d.fact 35 (f := .glo "_law_draw") (by kernel_rfl))⟩
noncomputable def mkD_law_pairs (X : K.In h) (G : h.Ns mainGlobals mg) (c : He.SaysX faX fnX [] tfX exX w h K) : DefAt K mg "_law_pairs" s_law_pairs ["n"] :=
  have F : Fun K "_law_pairs" "_law_pairs" s_law_pairs (He.fAd K ("_law_pairs", none)) (Classical.choose (c.t.d.def_ 36 (d := dfd "_law_pairs" s_law_pairs) (by kernel_rfl))) := He5.fun_of (Classical.choose_spec (c.t.d.def_ 36 (d := dfd "_law_pairs" s_law_pairs) (by kernel_rfl)))
  ⟨He.fAd K ("_law_pairs", none), _, F, F.binds (ps := ["n"]) fun _ _ _ _ _ _ us hl => match us, hl with | [_], _ => by kernel_rfl, He.glo_ok X G (c.t.d.fact 36 (f := .glo "_law_pairs") (by kernel_rfl))⟩
noncomputable def mkD_law_sorted_graph (X : K.In h) (G : h.Ns mainGlobals mg) (c : He.SaysX faX fnX [] tfX exX w h K) : DefAt K mg "_law_sorted_graph" s_law_sorted_graph ["n", "edges"] :=
  have F : Fun K "_law_sorted_graph" "_law_sorted_graph" s_law_sorted_graph (He.fAd K ("_law_sorted_graph", none)) (Classical.choose (c.t.d.def_ 37 (d := dfd "_law_sorted_graph" s_law_sorted_graph) (by kernel_rfl))) := He5.fun_of (Classical.choose_spec (c.t.d.def_ 37 (d := dfd "_law_sorted_graph" s_law_sorted_graph) (by kernel_rfl)))
  ⟨He.fAd K ("_law_sorted_graph", none), _, F, F.binds (ps := ["n", "edges"]) fun _ _ _ _ _ _ us hl => match us, hl with | [_, _], _ => by kernel_rfl, He.glo_ok X G (c.t.d.fact 37 (f := .glo "_law_sorted_graph") (by kernel_rfl))⟩
noncomputable def mkD_law_graph (X : K.In h) (G : h.Ns mainGlobals mg) (c : He.SaysX faX fnX [] tfX exX w h K) : DefAt K mg "_law_graph" s_law_graph ["pool", "most"] :=
  have F : Fun K "_law_graph" "_law_graph" s_law_graph (He.fAd K ("_law_graph", none)) (Classical.choose (c.t.d.def_ 38 (d := dfd "_law_graph" s_law_graph) (by kernel_rfl))) := He5.fun_of (Classical.choose_spec (c.t.d.def_ 38 (d := dfd "_law_graph" s_law_graph) (by kernel_rfl)))
  ⟨He.fAd K ("_law_graph", none), _, F, F.binds (ps := ["pool", "most"]) fun _ _ _ _ _ _ us hl => match us, hl with | [_, _], _ => by kernel_rfl, He.glo_ok X G (c.t.d.fact 38 (f := .glo "_law_graph") (by kernel_rfl))⟩
noncomputable def mkD_law_near (X : K.In h) (G : h.Ns mainGlobals mg) (c : He.SaysX faX fnX [] tfX exX w h K) : DefAt K mg "_law_near" s_law_near ["graph", "v"] :=
  have F : Fun K "_law_near" "_law_near" s_law_near (He.fAd K ("_law_near", none)) (Classical.choose (c.t.d.def_ 39 (d := dfd "_law_near" s_law_near) (by kernel_rfl))) := He5.fun_of (Classical.choose_spec (c.t.d.def_ 39 (d := dfd "_law_near" s_law_near) (by kernel_rfl)))
  ⟨He.fAd K ("_law_near", none), _, F, F.binds (ps := ["graph", "v"]) fun _ _ _ _ _ _ us hl => match us, hl with | [_, _], _ => by kernel_rfl, He.glo_ok X G (c.t.d.fact 39 (f := .glo "_law_near") (by kernel_rfl))⟩
noncomputable def mkD_law_rising (X : K.In h) (G : h.Ns mainGlobals mg) (c : He.SaysX faX fnX [] tfX exX w h K) : DefAt K mg "_law_rising" s_law_rising ["items"] :=
  have F : Fun K "_law_rising" "_law_rising" s_law_rising (He.fAd K ("_law_rising", none)) (Classical.choose (c.t.d.def_ 40 (d := dfd "_law_rising" s_law_rising) (by kernel_rfl))) := He5.fun_of (Classical.choose_spec (c.t.d.def_ 40 (d := dfd "_law_rising" s_law_rising) (by kernel_rfl)))
  ⟨He.fAd K ("_law_rising", none), _, F, F.binds (ps := ["items"]) fun _ _ _ _ _ _ us hl => match us, hl with | [_], _ => by kernel_rfl, He.glo_ok X G (c.t.d.fact 40 (f := .glo "_law_rising") (by kernel_rfl))⟩
noncomputable def mkD_law_ints (X : K.In h) (G : h.Ns mainGlobals mg) (c : He.SaysX faX fnX [] tfX exX w h K) : DefAt K mg "_law_ints" s_law_ints ["value"] :=
  have F : Fun K "_law_ints" "_law_ints" s_law_ints (He.fAd K ("_law_ints", none)) (Classical.choose (c.t.d.def_ 41 (d := dfd "_law_ints" s_law_ints) (by kernel_rfl))) := He5.fun_of (Classical.choose_spec (c.t.d.def_ 41 (d := dfd "_law_ints" s_law_ints) (by kernel_rfl)))
  ⟨He.fAd K ("_law_ints", none), _, F, F.binds (ps := ["value"]) fun _ _ _ _ _ _ us hl => match us, hl with | [_], _ => by kernel_rfl, He.glo_ok X G (c.t.d.fact 41 (f := .glo "_law_ints") (by kernel_rfl))⟩
noncomputable def mkD_law_vertices (X : K.In h) (G : h.Ns mainGlobals mg) (c : He.SaysX faX fnX [] tfX exX w h K) : DefAt K mg "_law_vertices" s_law_vertices ["graph", "value"] :=
  have F : Fun K "_law_vertices" "_law_vertices" s_law_vertices (He.fAd K ("_law_vertices", none)) (Classical.choose (c.t.d.def_ 42 (d := dfd "_law_vertices" s_law_vertices) (by kernel_rfl))) := He5.fun_of (Classical.choose_spec (c.t.d.def_ 42 (d := dfd "_law_vertices" s_law_vertices) (by kernel_rfl)))
  ⟨He.fAd K ("_law_vertices", none), _, F, F.binds (ps := ["graph", "value"]) fun _ _ _ _ _ _ us hl => match us, hl with | [_, _], _ => by kernel_rfl, He.glo_ok X G (c.t.d.fact 42 (f := .glo "_law_vertices") (by kernel_rfl))⟩
noncomputable def mkD_law_is_set (X : K.In h) (G : h.Ns mainGlobals mg) (c : He.SaysX faX fnX [] tfX exX w h K) : DefAt K mg "_law_is_set" s_law_is_set ["graph", "value"] :=
  have F : Fun K "_law_is_set" "_law_is_set" s_law_is_set (He.fAd K ("_law_is_set", none)) (Classical.choose (c.t.d.def_ 43 (d := dfd "_law_is_set" s_law_is_set) (by kernel_rfl))) := He5.fun_of (Classical.choose_spec (c.t.d.def_ 43 (d := dfd "_law_is_set" s_law_is_set) (by kernel_rfl)))
  ⟨He.fAd K ("_law_is_set", none), _, F, F.binds (ps := ["graph", "value"]) fun _ _ _ _ _ _ us hl => match us, hl with | [_, _], _ => by kernel_rfl, He.glo_ok X G (c.t.d.fact 43 (f := .glo "_law_is_set") (by kernel_rfl))⟩
noncomputable def mkD_law_is_order (X : K.In h) (G : h.Ns mainGlobals mg) (c : He.SaysX faX fnX [] tfX exX w h K) : DefAt K mg "_law_is_order" s_law_is_order ["graph", "value"] :=
  have F : Fun K "_law_is_order" "_law_is_order" s_law_is_order (He.fAd K ("_law_is_order", none)) (Classical.choose (c.t.d.def_ 44 (d := dfd "_law_is_order" s_law_is_order) (by kernel_rfl))) := He5.fun_of (Classical.choose_spec (c.t.d.def_ 44 (d := dfd "_law_is_order" s_law_is_order) (by kernel_rfl)))
  ⟨He.fAd K ("_law_is_order", none), _, F, F.binds (ps := ["graph", "value"]) fun _ _ _ _ _ _ us hl => match us, hl with | [_, _], _ => by kernel_rfl, He.glo_ok X G (c.t.d.fact 44 (f := .glo "_law_is_order") (by kernel_rfl))⟩
noncomputable def mkD_law_behind (X : K.In h) (G : h.Ns mainGlobals mg) (c : He.SaysX faX fnX [] tfX exX w h K) : DefAt K mg "_law_behind" s_law_behind ["graph", "order", "k"] :=
  have F : Fun K "_law_behind" "_law_behind" s_law_behind (He.fAd K ("_law_behind", none)) (Classical.choose (c.t.d.def_ 45 (d := dfd "_law_behind" s_law_behind) (by kernel_rfl))) := He5.fun_of (Classical.choose_spec (c.t.d.def_ 45 (d := dfd "_law_behind" s_law_behind) (by kernel_rfl)))
  ⟨He.fAd K ("_law_behind", none), _, F, F.binds (ps := ["graph", "order", "k"]) fun _ _ _ _ _ _ us hl => match us, hl with | [_, _, _], _ => by kernel_rfl, He.glo_ok X G (c.t.d.fact 45 (f := .glo "_law_behind") (by kernel_rfl))⟩
noncomputable def mkD_law_bent (X : K.In h) (G : h.Ns mainGlobals mg) (c : He.SaysX faX fnX [] tfX exX w h K) : DefAt K mg "_law_bent" s_law_bent ["pool", "value"] :=
  have F : Fun K "_law_bent" "_law_bent" s_law_bent (He.fAd K ("_law_bent", none)) (Classical.choose (c.t.d.def_ 46 (d := dfd "_law_bent" s_law_bent) (by kernel_rfl))) := He5.fun_of (Classical.choose_spec (c.t.d.def_ 46 (d := dfd "_law_bent" s_law_bent) (by kernel_rfl)))
  ⟨He.fAd K ("_law_bent", none), _, F, F.binds (ps := ["pool", "value"]) fun _ _ _ _ _ _ us hl => match us, hl with | [_, _], _ => by kernel_rfl, He.glo_ok X G (c.t.d.fact 46 (f := .glo "_law_bent") (by kernel_rfl))⟩
noncomputable def mkD_law_some_set (X : K.In h) (G : h.Ns mainGlobals mg) (c : He.SaysX faX fnX [] tfX exX w h K) : DefAt K mg "_law_some_set" s_law_some_set ["pool", "graph"] :=
  have F : Fun K "_law_some_set" "_law_some_set" s_law_some_set (He.fAd K ("_law_some_set", none)) (Classical.choose (c.t.d.def_ 47 (d := dfd "_law_some_set" s_law_some_set) (by kernel_rfl))) := He5.fun_of (Classical.choose_spec (c.t.d.def_ 47 (d := dfd "_law_some_set" s_law_some_set) (by kernel_rfl)))
  ⟨He.fAd K ("_law_some_set", none), _, F, F.binds (ps := ["pool", "graph"]) fun _ _ _ _ _ _ us hl => match us, hl with | [_, _], _ => by kernel_rfl, He.glo_ok X G (c.t.d.fact 47 (f := .glo "_law_some_set") (by kernel_rfl))⟩
noncomputable def mkD_law_some_order (X : K.In h) (G : h.Ns mainGlobals mg) (c : He.SaysX faX fnX [] tfX exX w h K) : DefAt K mg "_law_some_order" s_law_some_order ["pool", "graph"] :=
  have F : Fun K "_law_some_order" "_law_some_order" s_law_some_order (He.fAd K ("_law_some_order", none)) (Classical.choose (c.t.d.def_ 48 (d := dfd "_law_some_order" s_law_some_order) (by kernel_rfl))) := He5.fun_of (Classical.choose_spec (c.t.d.def_ 48 (d := dfd "_law_some_order" s_law_some_order) (by kernel_rfl)))
  ⟨He.fAd K ("_law_some_order", none), _, F, F.binds (ps := ["pool", "graph"]) fun _ _ _ _ _ _ us hl => match us, hl with | [_, _], _ => by kernel_rfl, He.glo_ok X G (c.t.d.fact 48 (f := .glo "_law_some_order") (by kernel_rfl))⟩
noncomputable def mkD_law_papers (X : K.In h) (G : h.Ns mainGlobals mg) (c : He.SaysX faX fnX [] tfX exX w h K) : DefAt K mg "_law_papers" s_law_papers ["pool", "told", "drawn"] :=
  have F : Fun K "_law_papers" "_law_papers" s_law_papers (He.fAd K ("_law_papers", none)) (Classical.choose (c.t.d.def_ 49 (d := dfd "_law_papers" s_law_papers) (by kernel_rfl))) := He5.fun_of (Classical.choose_spec (c.t.d.def_ 49 (d := dfd "_law_papers" s_law_papers) (by kernel_rfl)))
  ⟨He.fAd K ("_law_papers", none), _, F, F.binds (ps := ["pool", "told", "drawn"]) fun _ _ _ _ _ _ us hl => match us, hl with | [_, _, _], _ => by kernel_rfl, He.glo_ok X G (c.t.d.fact 49 (f := .glo "_law_papers") (by kernel_rfl))⟩
noncomputable def mkD_law_right (X : K.In h) (G : h.Ns mainGlobals mg) (c : He.SaysX faX fnX [] tfX exX w h K) : DefAt K mg "_law_right" s_law_right ["graph", "question", "paper"] :=
  have F : Fun K "_law_right" "_law_right" s_law_right (He.fAd K ("_law_right", none)) (Classical.choose (c.t.d.def_ 50 (d := dfd "_law_right" s_law_right) (by kernel_rfl))) := He5.fun_of (Classical.choose_spec (c.t.d.def_ 50 (d := dfd "_law_right" s_law_right) (by kernel_rfl)))
  ⟨He.fAd K ("_law_right", none), _, F, F.binds (ps := ["graph", "question", "paper"]) fun _ _ _ _ _ _ us hl => match us, hl with | [_, _, _], _ => by kernel_rfl, He.glo_ok X G (c.t.d.fact 50 (f := .glo "_law_right") (by kernel_rfl))⟩
end
set_option maxHeartbeats 0 in
theorem facts {lw : PySem.W.OpenLaw} {w : World} {K : PySem.W.Frag} {h : Heap} {mg : Str → Option Value} {fa : Addr} (X : K.In h) (G : h.Ns mainGlobals mg) (hfa : mg "law" = some (.ref fa)) (c : He.SaysX faX fnX [] tfX exX w h K) :
    LamX.LawAtS lw w K L2.CX0 64 63 "script" mg fa h := by
  have D_is_integer : DefAt K mg "is_integer" s_is_integer ["value"] := mkD_is_integer X G c
  have D_is_tuple : DefAt K mg "is_tuple" s_is_tuple ["value", "many"] := mkD_is_tuple X G c
  have D_is_vertex : DefAt K mg "is_vertex" s_is_vertex ["n", "value"] := mkD_is_vertex X G c
  let D_are_vertices : DefAt K mg "are_vertices" s_are_vertices ["n", "value"] := mkD_are_vertices X G c
  have D_is_row : DefAt K mg "is_row" s_is_row ["n", "value"] := mkD_is_row X G c
  have D_is_order : DefAt K mg "is_order" s_is_order ["n", "value"] := mkD_is_order X G c
  have D_is_set : DefAt K mg "is_set" s_is_set ["n", "value"] := mkD_is_set X G c
  let D_is_ascending : DefAt K mg "is_ascending" s_is_ascending ["items"] := mkD_is_ascending X G c
  have D_is_edge : DefAt K mg "is_edge" s_is_edge ["n", "value"] := mkD_is_edge X G c
  let D_are_edges : DefAt K mg "are_edges" s_are_edges ["n", "value"] := mkD_are_edges X G c
  have D_neighbour_lists : DefAt K mg "neighbour_lists" s_neighbour_lists ["graph"] := mkD_neighbour_lists X G c
  have D_neighbour_masks : DefAt K mg "neighbour_masks" s_neighbour_masks ["graph"] := mkD_neighbour_masks X G c
  have D_masks_behind : DefAt K mg "masks_behind" s_masks_behind ["graph", "order"] := mkD_masks_behind X G c
  have D_mask_of : DefAt K mg "mask_of" s_mask_of ["members"] := mkD_mask_of X G c
  have D_members_of : DefAt K mg "members_of" s_members_of ["mask"] := mkD_members_of X G c
  have D_size_of : DefAt K mg "size_of" s_size_of ["mask"] := mkD_size_of X G c
  have D_full_mask : DefAt K mg "full_mask" s_full_mask ["n"] := mkD_full_mask X G c
  have D_is_size : DefAt K mg "is_size" s_is_size ["value"] := mkD_is_size X G c
  have D_is_graph : DefAt K mg "is_graph" s_is_graph ["value"] := mkD_is_graph X G c
  have D_is_sparse_paper : DefAt K mg "is_sparse_paper" s_is_sparse_paper ["graph", "question", "answer", "data"] := mkD_is_sparse_paper X G c
  have D_are_few_behind : DefAt K mg "are_few_behind" s_are_few_behind ["graph", "k", "value"] := mkD_are_few_behind X G c
  have D_is_tight_check_sparse : DefAl K mg "is_tight_check_sparse" "_is_tight" s_is_tight_check_sparse ["graph", "k", "value"] := mkD_is_tight_check_sparse X G c
  have D_is_question : DefAt K mg "is_question" s_is_question ["graph", "value"] := mkD_is_question X G c
  have D_are_ends : DefAt K mg "_are_ends" s_are_ends ["graph", "s", "t"] := mkD_are_ends X G c
  have D_is_number : DefAt K mg "_is_number" s_is_number ["value"] := mkD_is_number X G c
  have D_check : DefAt K mg "check" s_check ["graph", "question", "paper"] := mkD_check X G c
  have D_is_right : DefAt K mg "_is_right" s_is_right ["graph", "question", "answer", "data"] := mkD_is_right X G c
  have D_sparse_paper : DefAt K mg "sparse_paper" s_sparse_paper ["graph", "question"] := mkD_sparse_paper X G c
  have D_degenerate_paper : DefAt K mg "_degenerate_paper" s_degenerate_paper ["graph", "k"] := mkD_degenerate_paper X G c
  have D_loose : DefAt K mg "_loose" s_loose ["around", "left", "k"] := mkD_loose X G c
  have D_decide : DefAt K mg "decide" s_decide ["graph", "question"] := mkD_decide X G c
  have D_law_same : DefAt K mg "_law_same" s_law_same ["actual", "due"] := mkD_law_same X G c
  have D_law_is_integer : DefAt K mg "_law_is_integer" s_law_is_integer ["actual"] := mkD_law_is_integer X G c
  have D_law_pool : DefAt K mg "_law_pool" s_law_pool ["script"] := mkD_law_pool X G c
  have D_law_spread : DefAt K mg "_law_spread" s_law_spread ["cell"] := mkD_law_spread X G c
  have D_law_draw : DefAt K mg "_law_draw" s_law_draw ["pool", "many"] := mkD_law_draw X G c
  have D_law_pairs : DefAt K mg "_law_pairs" s_law_pairs ["n"] := mkD_law_pairs X G c
  have D_law_sorted_graph : DefAt K mg "_law_sorted_graph" s_law_sorted_graph ["n", "edges"] := mkD_law_sorted_graph X G c
  have D_law_graph : DefAt K mg "_law_graph" s_law_graph ["pool", "most"] := mkD_law_graph X G c
  have D_law_near : DefAt K mg "_law_near" s_law_near ["graph", "v"] := mkD_law_near X G c
  have D_law_rising : DefAt K mg "_law_rising" s_law_rising ["items"] := mkD_law_rising X G c
  have D_law_ints : DefAt K mg "_law_ints" s_law_ints ["value"] := mkD_law_ints X G c
  have D_law_vertices : DefAt K mg "_law_vertices" s_law_vertices ["graph", "value"] := mkD_law_vertices X G c
  have D_law_is_set : DefAt K mg "_law_is_set" s_law_is_set ["graph", "value"] := mkD_law_is_set X G c
  have D_law_is_order : DefAt K mg "_law_is_order" s_law_is_order ["graph", "value"] := mkD_law_is_order X G c
  have D_law_behind : DefAt K mg "_law_behind" s_law_behind ["graph", "order", "k"] := mkD_law_behind X G c
  have D_law_bent : DefAt K mg "_law_bent" s_law_bent ["pool", "value"] := mkD_law_bent X G c
  have D_law_some_set : DefAt K mg "_law_some_set" s_law_some_set ["pool", "graph"] := mkD_law_some_set X G c
  have D_law_some_order : DefAt K mg "_law_some_order" s_law_some_order ["pool", "graph"] := mkD_law_some_order X G c
  have D_law_papers : DefAt K mg "_law_papers" s_law_papers ["pool", "told", "drawn"] := mkD_law_papers X G c
  have D_law_right : DefAt K mg "_law_right" s_law_right ["graph", "question", "paper"] := mkD_law_right X G c
  obtain ⟨fd51, F51⟩ := c.t.d.def_ 51 (d := dfd "law" s_law) rfl
  have FF51 : Fun K "law" "law" s_law (He.fAd K ("law", none)) fd51 := He5.fun_of F51
  let D_law : DefAt K mg "law" s_law ["script"] := ⟨He.fAd K ("law", none), fd51, FF51, FF51.binds (ps := ["script"]) fun _ _ _ _ _ _ us hl => match us, hl with | [_], _ => rfl, He.glo_ok X G (c.t.d.fact 51 (f := .glo "law") rfl)⟩
  have Z_all : mg "all" = none := He.free_ok X G (c.t.d.fact 64 (f := .free "all") rfl)
  have Z_set : mg "set" = none := He.free_ok X G (c.t.d.fact 65 (f := .free "set") rfl)
  have Z_zip : mg "zip" = none := He.free_ok X G (c.t.d.fact 66 (f := .free "zip") rfl)
  have Z_any : mg "any" = none := He.free_ok X G (c.t.d.fact 67 (f := .free "any") rfl)
  have Z_sum : mg "sum" = none := He.free_ok X G (c.t.d.fact 68 (f := .free "sum") rfl)
  obtain ⟨tkM, C_MOST_VERTICES⟩ := He.int_ok X G (c.t.d.fact 69 (f := .int "MOST_VERTICES" 60) rfl)
  have e := hfa.symm.trans D_law.g
  cases e
  have T : Blt mg := ⟨He.free_ok X G (c.t.d.fact 52 (f := .free "len") rfl), He.free_ok X G (c.t.d.fact 53 (f := .free "range") rfl), He.free_ok X G (c.t.d.fact 54 (f := .free "list") rfl), He.free_ok X G (c.t.d.fact 55 (f := .free "tuple") rfl), He.free_ok X G (c.t.d.fact 56 (f := .free "int") rfl), He.free_ok X G (c.t.d.fact 57 (f := .free "min") rfl), He.free_ok X G (c.t.d.fact 58 (f := .free "max") rfl), He.free_ok X G (c.t.d.fact 59 (f := .free "sorted") rfl), He.free_ok X G (c.t.d.fact 60 (f := .free "isinstance") rfl), He.free_ok X G (c.t.d.fact 61 (f := .free "bool") rfl), He.free_ok X G (c.t.d.fact 62 (f := .free "str") rfl), He.free_ok X G (c.t.d.fact 63 (f := .free "enumerate") rfl)⟩
  have hmore := Bool.and_eq_true_iff.mp c.more
  have hnd : ([(He.cT K ("are_vertices", none)).2, (He.cT K ("is_ascending", none)).2, (He.cT K ("are_edges", none)).2] : List Addr).Nodup := of_decide_eq_true hmore.1
  have htup := Bool.and_eq_true_iff.mp hmore.2
  obtain ⟨a_KINDS, C_KINDS, h_KINDS⟩ := tupK_ok X G htup.1
  obtain ⟨a_NUMBER_KINDS, C_NUMBER_KINDS, h_NUMBER_KINDS⟩ := tupK_ok X G htup.2
  have m0 : (("are_vertices", none) : He.Defn) ∈ tfX := List.mem_cons_self
  have hco0 : D_are_vertices.fd.code = .ref (He.cT K ("are_vertices", none)).1 := code_of D_are_vertices.F rfl
  have m1 : (("is_ascending", none) : He.Defn) ∈ tfX := (List.mem_cons_of_mem _ List.mem_cons_self)
  have hco1 : D_is_ascending.fd.code = .ref (He.cT K ("is_ascending", none)).1 := code_of D_is_ascending.F rfl
  have m2 : (("are_edges", none) : He.Defn) ∈ tfX := (List.mem_cons_of_mem _ (List.mem_cons_of_mem _ List.mem_cons_self))
  have hco2 : D_are_edges.fd.code = .ref (He.cT K ("are_edges", none)).1 := code_of D_are_edges.F rfl
  let TT : List (Addr × Str) := [((He.cT K ("are_vertices", none)).2, genN "are_vertices"), ((He.cT K ("is_ascending", none)).2, genN "is_ascending"), ((He.cT K ("are_edges", none)).2, genN "are_edges")]
  have hnd' : (TT.map Prod.fst).Nodup := hnd
  have hu : ∀ {A : Addr} {N : Str}, (A, N) ∈ TT → ∀ p ∈ TT, p.1 = A → p.2 = N := fun {A N} hm p hp e => congrArg Prod.snd (map_inj_on hnd' hp hm e)
  have i0 : ((He.cT K ("are_vertices", none)).2, genN "are_vertices") ∈ TT := List.mem_cons_self
  have i1 : ((He.cT K ("is_ascending", none)).2, genN "is_ascending") ∈ TT := (List.mem_cons_of_mem _ List.mem_cons_self)
  have i2 : ((He.cT K ("are_edges", none)).2, genN "are_edges") ∈ TT := (List.mem_cons_of_mem _ (List.mem_cons_of_mem _ List.mem_cons_self))
  refine ⟨D_law.fd, tfX.map (He.cT K), spLaw K TT, fun p hp => ?_, fun p hp => ?_, fun p hp => ?_, fun s v => FunD.bindsA (ps := ["script"]) F51 (fun _ _ _ _ _ _ us hl => match us, hl with | [_], _ => rfl) s [v] rfl,
    fun H a ns _ _ hH hS => ⟨a, ns, rfl, hS, fun p hp => ?_, fun _ => rfl⟩, fun base _ _ hTB => ?_⟩
  · obtain ⟨d, hd, rfl⟩ := List.mem_map.mp hp
    exact c.empty _ hd
  · obtain ⟨d, hd, rfl⟩ := List.mem_map.mp hp
    exact c.out _ hd
  · obtain ⟨d, hd, rfl⟩ := List.mem_map.mp hp
    exact PySem.W.codeHd_of_K X (c.hd _ hd)
  · have hH' : ∀ d ∈ tfX, H (He.cT K d).2 = some (.tbl #[]) := fun d hd => hH _ (List.mem_map.mpr ⟨d, hd, rfl⟩)
    rcases List.mem_cons.mp hp with rfl | hp
    · exact TabS.nil (hH' _ m0)
    rcases List.mem_cons.mp hp with rfl | hp
    · exact TabS.nil (hH' _ m1)
    rw [List.mem_singleton.mp hp]
    exact TabS.nil (hH' _ m2)
  have hTB' : ∀ d ∈ tfX, LamX.TabB base mg (He.cT K d).1 (He.cT K d).2 := fun d hd => hTB _ (List.mem_map.mpr ⟨d, hd, rfl⟩)
  have TB0 := hTB' _ m0
  have TB1 := hTB' _ m1
  have TB2 := hTB' _ m2
  have G_spread := ok_spread (P := lw.prog) (w := w) (base := base) T D_law_spread
  have G_draw := ok_draw T D_law_draw D_law_spread G_spread
  have G_pool := ok_pool (P := lw.prog) (w := w) (base := base) T D_law_pool
  have G_pairs := ok_pairs (P := lw.prog) (w := w) (base := base) T D_law_pairs
  have G_sorted := ok_sorted_graph T D_law_sorted_graph D_law_pairs G_pairs
  have G_graph := ok_graphO T D_law_graph D_law_draw G_draw D_law_pairs G_pairs D_law_sorted_graph G_sorted
  have G_same := ok_same (P := lw.prog) (w := w) (base := base) T D_law_same 4
  have G_mask := ok_mask (P := lw.prog) (w := w) (base := base) (K := K) T D_mask_of
  have G_asc := ok_ascX (P := lw.prog) (w := w) (K := K) (TT := TT) TB1 i1 (hu i1) T Z_all D_is_ascending hco1
  have G_nl := ok_nlists (P := lw.prog) (w := w) (base := base) (K := K) T D_neighbour_lists
  have G_nm := ok_nmasks T D_neighbour_masks D_neighbour_lists G_nl D_mask_of G_mask
  have G_mem := ok_members (P := lw.prog) (w := w) (base := base) (K := K) T D_members_of
  have G_size := ok_size (P := lw.prog) (w := w) (base := base) (K := K) T D_size_of
  have G_full := ok_full (P := lw.prog) (w := w) (base := base) (K := K) T D_full_mask
  have G_mb := ok_mbeh T D_masks_behind D_neighbour_masks G_nm D_mask_of G_mask
  have G_isq : ∀ b, FnOk lw.prog w K mg base CX0 16 D_is_question.f D_is_question.fd ["graph", "value"] (spQX b TT) := fun b => by
    have G_int := ok_intX (b := b) (P := lw.prog) (w := w) (base := base) (K := K) T D_is_integer
    have G_tup := ok_tupX (b := b) (P := lw.prog) (w := w) (base := base) (K := K) T D_is_tuple
    have G_vx := ok_vxX T D_is_vertex D_is_integer G_int
    have G_vs := ok_vsX (TT := TT) TB0 i0 (hu i0) T Z_all D_are_vertices hco0 D_is_vertex G_vx
    have G_set := ok_setX T D_is_set D_are_vertices G_vs D_is_ascending G_asc
    have G_edg := ok_edgX T D_is_edge D_is_tuple G_tup D_is_set G_set
    have G_eds := ok_edsX (TT := TT) TB2 i2 (hu i2) T Z_all D_are_edges hco2 D_is_edge G_edg D_is_ascending G_asc
    have G_siz := ok_sizX T C_MOST_VERTICES D_is_size D_is_integer G_int
    have G_gph := ok_gphX T D_is_graph D_is_tuple G_tup D_is_size G_siz D_are_edges G_eds
    have G_num := ok_numX T D_is_number D_is_integer G_int
    have G_ends := ok_endsX T D_are_ends D_is_vertex G_vx
    exact ok_isq T C_KINDS C_NUMBER_KINDS h_KINDS h_NUMBER_KINDS D_is_question D_is_tuple G_tup D_is_graph G_gph D_are_ends G_ends D_is_number G_num
  have G_de := ok_decide T D_decide D_is_question (G_isq 0) D_sparse_paper (ok_spap T D_sparse_paper D_degenerate_paper (ok_dpaper T D_degenerate_paper D_neighbour_masks G_nm D_full_mask G_full D_loose (ok_loose T D_loose D_members_of G_mem D_size_of G_size) D_members_of G_mem))
  have G_ch : ∀ b, FnOk lw.prog w K mg base CX0 18 D_check.f D_check.fd ["graph", "question", "paper"] (spCheck b TT) := fun b => by
    have G_int := ok_intX (b := b) (P := lw.prog) (w := w) (base := base) (K := K) T D_is_integer
    have G_tup := ok_tupX (b := b) (P := lw.prog) (w := w) (base := base) (K := K) T D_is_tuple
    have G_vx := ok_vxX T D_is_vertex D_is_integer G_int
    have G_vs := ok_vsX (TT := TT) TB0 i0 (hu i0) T Z_all D_are_vertices hco0 D_is_vertex G_vx
    have G_set := ok_setX T D_is_set D_are_vertices G_vs D_is_ascending G_asc
    have G_row := ok_isRow T Z_set D_is_row D_are_vertices G_vs
    have G_ord := ok_ordX T D_is_order D_is_row G_row
    have G_fb := ok_few T Z_all D_are_few_behind D_is_order G_ord D_masks_behind G_mb D_size_of G_size
    have G_ti := ok_tight T Z_all D_is_tight_check_sparse D_is_set G_set D_neighbour_masks G_nm D_size_of G_size D_mask_of G_mask
    have G_sp := ok_sparse T D_is_sparse_paper D_are_few_behind G_fb D_is_tight_check_sparse G_ti
    have G_ri := ok_right T D_is_right D_is_sparse_paper G_sp
    exact ok_check T D_check D_is_question (G_isq b) D_is_tuple G_tup D_is_right G_ri
  have G_nb := ok_nb (P := lw.prog) (w := w) (base := base) (K := K) T D_law_near
  have G_li := ok_lisint (P := lw.prog) (w := w) (base := base) (K := K) T D_law_is_integer
  have G_ls := ok_lints T D_law_ints D_law_is_integer G_li
  have G_lv := ok_lverts T Z_set D_law_vertices D_law_ints G_ls
  have G_ris := ok_risI (P := lw.prog) (w := w) (base := base) (K := K) T D_law_rising
  have G_lst := ok_lsetG T D_law_is_set D_law_vertices G_lv D_law_rising G_ris
  have G_lor := ok_lordG T D_law_is_order D_law_vertices G_lv
  have G_beh := ok_behind T D_law_behind D_law_near G_nb
  have G_lr := ok_lright T D_law_right D_law_is_order G_lor D_law_is_set G_lst D_law_behind G_beh D_law_near G_nb
  have G_bent := ok_bent T D_law_bent D_law_draw G_draw D_law_is_integer G_li
  have G_so := ok_some_order (K := K) T D_law_some_order D_law_draw G_draw
  have G_ss := ok_some_set T D_law_some_set D_law_draw G_draw
  have G_pap := ok_papers T D_law_papers D_law_bent G_bent
  exact ok_law T D_law D_law_pool G_pool D_law_graph G_graph D_law_draw G_draw D_law_same G_same D_decide G_de D_check (fn_ex G_ch) D_law_right G_lr D_law_some_order G_so D_law_some_set G_ss D_law_papers G_pap

end Z
set_option Elab.async false
set_option linter.all false
set_option maxRecDepth 100000
open PySem PySem.W PySem.Calls PyProof.Rows
set_option maxHeartbeats 0 in
theorem PySem.Challenge.cw_trellis_k20_degenerate_holds : PySem.Challenge.rw_trellis_k20_degenerate.Holds := by
  refine HT.lawX fun said => ?_
  refine HandSHeadRun.head_any (r := OpenLaw.row PySem.Challenge.rw_trellis_k20_degenerate) (q := Z.qV) (H := Z.hkX) (ob := Z.obX) (M := Z.mX) (loose := Z.names) (d := HandSHeadRun.topDef (OpenLaw.row PySem.Challenge.rw_trellis_k20_degenerate).prog 350) (kwd := []) Z.obX_eq
    (by kernel_rfl) (fun s => by kernel_rfl) Z.runX (by kernel_rfl) (by kernel_rfl) (by kernel_rfl) (by rfl) said (by decide +kernel) HT.bareX HT.witX ?hc
  case hc =>
    refine LamX.walk_ofTsE (l := PySem.Challenge.rw_trellis_k20_degenerate) (n := 63) (k := 64) (x := "script") (CX := fun _ => L2.CX0) rfl (by decide) rfl ⟨rfl, by decide, by decide⟩ ?F (fun _ _ _ _ _ h => h)
    intro w mg fa h Y G hmg0
    obtain ⟨K, KX, c⟩ := Y
    have hmg : mg ("law" : PySem.Str) = some (.ref fa) := by
      have e : (HandSHeadRun.topDef (OpenLaw.row PySem.Challenge.rw_trellis_k20_degenerate).prog 350).name = ("law" : PySem.Str) := by kernel_rfl
      rw [← e]
      exact hmg0
    exact ⟨K, KX, Z.facts KX G hmg c⟩
