import PyProof.Rows.All
import Wide.All
import OpenK.AllK
import Wide.FinOn
import HandS.ForMost
import HandS.Style
import HandS.Conv
import HandS.DictComp
import HandS.Evl
import HandS.ExcInit
import HandS.ExcField
import KE.KExcInit
import HandS.WordsExc
import KE.DatumOrd
import HandS.IsInst
import HandS.Walk
import PySem.Challenge.RW_mastcalls_k44_whole_pacing
set_option Elab.async false
set_option maxRecDepth 100000
set_option maxHeartbeats 4000000
namespace Mc
open PySem L2 PySem.Spec PyProof.Rows
/-! rules that the layer lacks -/
theorem get_list {X : Cx} : PGet X (rIxL X.K) := by
  intro pins s σ H o i ov iv Q I ro ri h
  obtain ⟨p, xs, k, v, rfl, rfl, hs, hv, q⟩ := h
  cases ro
  obtain ⟨t, rfl⟩ := ri
  obtain ⟨its, r, pl, hz⟩ := I.list hs
  obtain ⟨j, h1, h2, h3, h4, h5⟩ := atI_get hv
  obtain ⟨w, ew, rw'⟩ := r.get h2
  have hl := r.length
  have hn := line63
  have fin : EP X pins σ Q w s := ⟨v, H, I, rw', q⟩
  by_cases h0 : 0 ≤ k
  · have hj : k.toNat = j := by
      rw [seqIndex_of h0 h5] at h1
      exact Option.some.inj h1
    exact wpAny_getItem_list pl.isList h0 (by omega) (by rw [hj]; simpa using ew) fin
  · have hj : (k + (its.toArray.size : Int)).toNat = j := by
      rw [seqIndex_neg (by omega) h4] at h1
      rw [List.size_toArray, ← hl]
      exact Option.some.inj h1
    exact wpAny_getItem_list_neg pl.isList (by omega) (by rw [List.size_toArray] <;> omega) (by omega) (by rw [hj]; simpa using ew) fin

/-! ### a heap that is kept but for some objects -/
def Kp (M : List Addr) (H H' : Hp) : Prop := ∀ b o, H b = some o → b ∉ M → H' b = some o
theorem Kp.refl (M : List Addr) (H : Hp) : Kp M H H := fun _ _ h _ => h
theorem Kp.trans {M : List Addr} {H H1 H2 : Hp} (a : Kp M H H1) (b : Kp M H1 H2) : Kp M H H2 := fun c o h n => b c o (a c o h n) n
theorem Kp.mono {M N : List Addr} {H H' : Hp} (k : Kp M H H') (h : ∀ b ∈ M, b ∈ N) : Kp N H H' := fun b o e n => k b o e fun z => n (h b z)
theorem Kp.new {M : List Addr} {p : Addr} {H : Hp} {o : HO} (h : H p = none) : Kp M H (upd H p o) := fun b u e _ => by
  rw [upd_ne (ne_of_none e h)]
  exact e
theorem Kp.at {M : List Addr} {d : Addr} {H : Hp} {o : HO} (h : d ∈ M) : Kp M H (upd H d o) := fun b u e n => by
  rw [upd_ne fun z => n (by rw [z]; exact h)]
  exact e
theorem Kp.same {M : List Addr} {H H' : Hp} (h : Same H H') : Kp M H H' := fun b o e _ => h b o e
/-- nothing tracked is lost -/
def Lv (H H' : Hp) : Prop := ∀ b, H' b = none → H b = none
theorem Kp.live {M : List Addr} {H H' : Hp} (k : Kp M H H') (h : ∀ d ∈ M, ∃ o, H' d = some o) {p : Addr} (e : H' p = none) : H p = none := by
  cases q : H p with
  | none => rfl
  | some u =>
    by_cases n : p ∈ M
    · obtain ⟨o, z⟩ := h p n
      rw [z] at e; cases e
    · rw [k p u q n] at e; cases e
/-- what was not there may be changed freely -/
theorem Kp.drop {M : List Addr} {p : Addr} {H H' : Hp} (k : Kp (p :: M) H H') (h : H p = none) : Kp M H H' := fun b o e n => k b o e fun z => by
  rcases List.mem_cons.mp z with rfl | z
  · rw [h] at e; cases e
  · exact n z

/-- the draw stands at d: the script, and how many were drawn; M: all that may be changed -/
structure Dr (K : PySem.W.Frag) (M : List Addr) (d a : Addr) (H : Hp) : Prop where
  at_ : ∃ k : Int, H d = some (.lst [.ref a, .int k])
  mem : d ∈ M
  sc : ∃ ns : List Int, ns.length ≤ 63 ∧ ∀ H', Kp M H H' → SqL K H' a (ns.map V.int)
section
variable {K : PySem.W.Frag} {M : List Addr} {d a : Addr} {H H' : Hp}
theorem Dr.keep (D : Dr K M d a H) (k : Kp M H H') (e : ∀ o, H d = some o → H' d = some o) : Dr K M d a H' := by
  obtain ⟨⟨k0, h⟩, m, ns, hl, hs⟩ := D
  exact ⟨⟨k0, e _ h⟩, m, ns, hl, fun H2 k2 => hs H2 (k.trans k2)⟩
theorem Dr.same (D : Dr K M d a H) (k : Same H H') : Dr K M d a H' := D.keep (Kp.same k) fun o h => k _ o h
theorem Dr.new {p : Addr} {o : HO} (D : Dr K M d a H) (h : H p = none) : Dr K M d a (upd H p o) := D.same fun b u e => by rw [upd_ne (ne_of_none e h)]; exact e
theorem Dr.next (D : Dr K M d a H) (k : Kp M H H') {j : Int} (h : H' d = some (.lst [.ref a, .int j])) : Dr K M d a H' := by
  obtain ⟨_, m, ns, hl, hs⟩ := D
  exact ⟨⟨j, h⟩, m, ns, hl, fun H2 k2 => hs H2 (k.trans k2)⟩
/-- one more object may be changed, that was not there -/
theorem Dr.grow {p : Addr} (D : Dr K M d a H) (h : H p = none) : Dr K (p :: M) d a H := by
  obtain ⟨k0, m, ns, hl, hs⟩ := D
  exact ⟨k0, List.mem_cons_of_mem _ m, ns, hl, fun H2 k2 => hs H2 (k2.drop h)⟩
/-- fewer may be changed -/
theorem Dr.sub {N : List Addr} (D : Dr K M d a H) (h : ∀ b ∈ N, b ∈ M) (hd : d ∈ N) : Dr K N d a H := by
  obtain ⟨k0, _, ns, hl, hs⟩ := D
  exact ⟨k0, hd, ns, hl, fun H2 k2 => hs H2 (k2.mono h)⟩
/-- a draw made of the script -/
theorem Dr.mk' {ns : List Int} {j : Int} (hs : SqL K H a (ns.map V.int)) (hl : ns.length ≤ 63) (hd : H d = none) : Dr K [d] d a (upd H d (.lst [.ref a, .int j])) := by
  refine ⟨⟨j, upd_same⟩, List.mem_singleton.mpr rfl, ns, hl, fun H' k => ?_⟩
  have ne : ∀ {o}, H a = some o → a ∉ [d] := fun h z => ne_of_none h hd (List.mem_singleton.mp z)
  rcases hs with (h | ⟨o, h⟩) | h
  · exact .inl (.inl (k a _ (by rw [upd_ne (ne_of_none h hd)]; exact h) (ne h)))
  · exact .inl (.inr ⟨o, k a _ (by rw [upd_ne (ne_of_none h hd)]; exact h) (ne h)⟩)
  · exact .inr h
end

theorem rel_int {i : Int} {t : Tok} : RelV (.int i) (.int i t) := ⟨t, rfl⟩
theorem rel_str {x : PySem.Str} {t : Tok} : RelV (.str x) (.str x t) := ⟨t, rfl⟩
/-! ### rules for a comprehension's block: K by its name -/
section
variable {X : Cx} {K : PySem.W.Frag} {e : Expr} {f : PySem.Str} {pos : Pos} {ta : TE}
theorem pe_fldK (h : X.K = K) (he : PE X e ta) (hb : attributeBase e f X.env (eval e X.env) = eval e X.env) : PE X (.Attribute e f pos) (tFld K ta f) := by
  subst h
  exact pe_fld he hb
theorem ix_listK (h : X.K = K) : IxR X (rIxL K) := by
  subst h
  exact ix_list
theorem ix_tupK (h : X.K = K) : IxR X (rIxT K) := by
  subst h
  exact ix_tup
theorem sl_listK (h : X.K = K) : SlR X (rSlL K) := by
  subst h
  exact sl_list
theorem call_len_seqK (h : X.K = K) : CallR X (.builtin "len") (fun xs H Q => ∃ p ys, xs = [.ref p] ∧ (SqL K H p ys ∨ SqT K H p ys) ∧ Q (.int ys.length) H) := by
  subst h
  exact call_len_seq
theorem op_eqDK (h : X.K = K) (hu : X.A.units + 64 < cLine) : OpR X (compareOp .Eq) (rEqD K) := by
  subst h
  exact op_eqD hu
theorem op_neDK (h : X.K = K) (hu : X.A.units + 64 < cLine) : OpR X (compareOp .NotEq) (rNeD K) := by
  subst h
  exact op_neD hu
theorem pe_tupleOfK (h : X.K = K) {a : Expr} {p pos : Pos} (hg : Gl X "tuple") (hm : X.mg "tuple" = none) (ha : PE X a ta) (na : starEach [a] X.env = (false, eval a X.env) :: starEach [] X.env := by rfl) :
    PE X (.Call (.Name "tuple" p) [a] [] pos) (tThen ta (kTup K)) := by
  subst h
  exact pe_tupleOf hg hm ha na
end
/-! ### defs, methods, classes: what a caller needs -/
/-- a def of the module keeps its promise -/
def Cal (P : Program) (w : World) (K : PySem.W.Frag) (mg : PySem.Str → Option Value) (base : Heap) (k : Nat) (x : PySem.Str) (ps : List PySem.Str) (sp : Sp) : Prop :=
  ∃ (f : Addr) (fd : FuncData), mg x = some (.ref f) ∧ PySem.W.keepIn K (.ref f) = true ∧ Binds K fd ps [] ∧ FnOk P w K mg base CX0 k f fd ps sp
/-- a method of the class at C -/
def CalM (P : Program) (w : World) (K : PySem.W.Frag) (mg : PySem.Str → Option Value) (base : Heap) (C : Addr) (k : Nat) (m : PySem.Str) (ps : List PySem.Str) (sp : Sp) : Prop :=
  ∃ (f : Addr) (fd : FuncData), Meth K C m f ∧ Binds K fd ps [] ∧ FnOk P w K mg base CX0 k f fd ps sp
/-- the class of that name, made by its __init__ -/
def CalI (P : Program) (w : World) (K : PySem.W.Frag) (mg : PySem.Str → Option Value) (base : Heap) (C : Addr) (k : Nat) (x : PySem.Str) (ps : List PySem.Str) (sp : Sp) : Prop :=
  ∃ (f : Addr) (fd : FuncData), mg x = some (.ref C) ∧ Mk K C f ∧ Binds K fd ps [] ∧ FnOk P w K mg base CX0 k f fd ps sp
section
variable {X : Cx} {k : Nat} {x m : PySem.Str} {ps : List PySem.Str} {sp : Sp} {C : Addr} {p pos apos : Pos} {e o : Expr} {es : List Expr} {t : TA} {ta : TE}
theorem pe_cal (c : Cal X.prog X.w X.K X.mg X.base k x ps sp) (hr : Room k X.A) (hg : Gl X x) (ha : PA X (e :: es) t) (hdb : (x == ("__debug__" : PySem.Str)) = false := by decide)
    (he : starEach (e :: es) X.env = (false, eval e X.env) :: starEach es X.env := by rfl) (hpl : (backTo pos (starEach es X.env)).any (·.1) = false := by rfl) : PE X (.Call (.Name x p) (e :: es) [] pos) (tCall sp [] E0 t) := by
  obtain ⟨f, fd, hm, hk, hb, F⟩ := c
  exact pe_call F hr hg hm hk hb .nil pass0 ha hdb he hpl
theorem pe_cal0 (c : Cal X.prog X.w X.K X.mg X.base k x ps sp) (hr : Room k X.A) (hg : Gl X x) (hdb : (x == ("__debug__" : PySem.Str)) = false := by decide) : PE X (.Call (.Name x p) [] [] pos) (tCall sp [] E0 tNil) := by
  obtain ⟨f, fd, hm, hk, hb, F⟩ := c
  exact pe_call0 F hr hg hm hk hb .nil pass0 hdb
theorem pe_calM {pl : Sem Bool} (he : PE X o ta) (cl : Cls X.K C) (c : CalM X.prog X.w X.K X.mg X.base C k m ps sp) (hr : Room k X.A) (ha : PA X (e :: es) t)
    (hst : starEach (e :: es) X.env = (false, eval e X.env) :: starEach es X.env := by rfl) (hpl : (backTo pos (starEach es X.env)).any (·.1) = false := by rfl)
    (ht : eval (.Call (.Attribute o m apos) (e :: es) [] pos) X.env = (do
      let ov ← eval o X.env
      standAt apos.atName
      let (f, first) ← holding [ov] (getMethod ov m pl)
      callWith pos f first (backTo pos (starEach (e :: es) X.env)) (backToKw pos (keywordEach [] X.env))) := by rfl) :
    PE X (.Call (.Attribute o m apos) (e :: es) [] pos) (tMeth C m sp [] E0 ta t) := by
  obtain ⟨f, fd, hm, hb, F⟩ := c
  exact pe_meth he cl hm F hr hb .nil pass0 ha hst hpl ht
theorem pe_calM0 {pl : Sem Bool} (he : PE X o ta) (cl : Cls X.K C) (c : CalM X.prog X.w X.K X.mg X.base C k m ps sp) (hr : Room k X.A)
    (ht : eval (.Call (.Attribute o m apos) [] [] pos) X.env = (do
      let ov ← eval o X.env
      standAt apos.atName
      let (f, first) ← holding [ov] (getMethod ov m pl)
      callWith pos f first (backTo pos (starEach [] X.env)) (backToKw pos (keywordEach [] X.env))) := by rfl) :
    PE X (.Call (.Attribute o m apos) [] [] pos) (tMeth C m sp [] E0 ta tNil) := by
  obtain ⟨f, fd, hm, hb, F⟩ := c
  exact pe_meth0 he cl hm F hr hb .nil pass0 ht
theorem pe_calI (c : CalI X.prog X.w X.K X.mg X.base C k x ps sp) (hr : Room (k + 1) X.A) (hg : Gl X x) (ha : PA X (e :: es) t) (hdb : (x == ("__debug__" : PySem.Str)) = false := by decide)
    (he : starEach (e :: es) X.env = (false, eval e X.env) :: starEach es X.env := by rfl) (hpl : (backTo pos (starEach es X.env)).any (·.1) = false := by rfl) : PE X (.Call (.Name x p) (e :: es) [] pos) (tMake C sp [] E0 t) := by
  obtain ⟨f, fd, hm, M, hb, F⟩ := c
  exact pe_make M F hr hg hm hb .nil pass0 ha hdb he hpl
theorem pe_calI0 (c : CalI X.prog X.w X.K X.mg X.base C k x ps sp) (hr : Room (k + 1) X.A) (hg : Gl X x) (hdb : (x == ("__debug__" : PySem.Str)) = false := by decide) : PE X (.Call (.Name x p) [] [] pos) (tMake C sp [] E0 tNil) := by
  obtain ⟨f, fd, hm, M, hb, F⟩ := c
  exact pe_make0 M F hr hg hm hb .nil pass0 hdb
end
/-! ### data of ints -/
def pdI (ns : List Int) : PyData := .list (ns.map PyData.int)
theorem dpAll_ints (K : PySem.W.Frag) (H : Hp) : ∀ ns : List Int, DpAll K H (ns.map V.int) (ns.map PyData.int)
  | [] => .nil
  | n :: ns => .cons (.int n) (dpAll_ints K H ns)
theorem dp_ints {K : PySem.W.Frag} {H : Hp} {a : Addr} {ns : List Int} (h : SqL K H a (ns.map V.int)) : Dp K H (.ref a) (pdI ns) := .lst h (dpAll_ints K H ns)
theorem canLay_ints : ∀ ns : List Int, PyData.canLayAll0 (ns.map PyData.int) = true
  | [] => rfl
  | n :: ns => by
    show (PyData.canLay0 (.int n) && PyData.canLayAll0 (ns.map PyData.int)) = true
    rw [canLay_ints ns]
    rfl
theorem depth_ints : ∀ ns : List Int, PyData.depthAll (ns.map PyData.int) = 0
  | [] => rfl
  | n :: ns => by
    show max (PyData.depth (.int n)) (PyData.depthAll (ns.map PyData.int)) = 0
    rw [depth_ints ns]
    rfl
theorem shaped_ints (ns : List Int) : SeqAt.shaped (pdI ns) = true := by
  have h : PyData.depth (pdI ns) = PyData.depthAll (ns.map PyData.int) + 1 := by unfold pdI; rw [PyData.depth]
  unfold SeqAt.shaped
  rw [h, depth_ints]
  have h2 : (pdI ns).canLay0 = true := by unfold pdI; rw [PyData.canLay0]; exact canLay_ints ns
  rw [h2]
  rfl
theorem eqvAll_ints : ∀ ns ms : List Int, PyData.eqvAll (ns.map PyData.int) (ms.map PyData.int) = decide (ns = ms)
  | [], [] => rfl
  | [], m :: ms => by simp [PyData.eqvAll]
  | n :: ns, [] => by simp [PyData.eqvAll]
  | n :: ns, m :: ms => by
    show (PyData.eqv (.int n) (.int m) && PyData.eqvAll (ns.map PyData.int) (ms.map PyData.int)) = _
    rw [eqvAll_ints ns ms]
    have : PyData.eqv (.int n) (.int m) = (n == m) := by rw [PyData.eqv]
    rw [this]
    by_cases h : n = m <;> simp [h]
theorem eqv_ints (ns ms : List Int) : PyData.eqv (pdI ns) (pdI ms) = decide (ns = ms) := by
  unfold pdI
  rw [PyData.eqv]
  exact eqvAll_ints ns ms
end Mc
namespace Mc
/-! ### ends as data -/
/-- a frame: its number and word, how many were told -/
structure Fr where
  nw : Option (Nat × Int)
  many : Nat
/-- an end -/
structure ES where
  out : List Int
  told : List Int
  ans : Nat
  ep : Int
def ES.new : ES := ⟨[], [], 0, 0⟩
def ES.put (E : ES) (w : Int) : ES := { E with out := E.out ++ [w] }
def ES.last (E : ES) : Nat := min (E.ans + 3) E.out.length
def ES.frames (E : ES) : List Fr := if E.ans = E.last then [⟨none, E.told.length⟩] else (List.range (E.last - E.ans)).map fun i => ⟨some (E.ans + i, E.out.getD (E.ans + i) 0), E.told.length⟩
def ES.hear (E : ES) (ep : Int) (f : Fr) : ES := if ep < E.ep then E else
  { out := E.out
    told := match f.nw with
      | none => E.told
      | some (n, w) => if n = E.told.length then E.told ++ [w] else E.told
    ans := if E.ans < f.many ∧ f.many ≤ E.out.length then f.many else E.ans
    ep := ep }
/-! ### what is so of ends and frames -/
structure Lt where
  goal : Nat
  ep : Int
  f : Fr
def setE (E : Nat → ES) (i : Nat) (X : ES) : Nat → ES := fun j => if j = i then X else E j
theorem setE_same (E : Nat → ES) (i : Nat) (X : ES) : setE E i X i = X := by unfold setE; rw [if_pos rfl]
theorem setE_ne (E : Nat → ES) {i j : Nat} (X : ES) (h : j ≠ i) : setE E i X j = E j := by unfold setE; rw [if_neg h]
theorem hear_out (E : ES) (ep : Int) (f : Fr) : (E.hear ep f).out = E.out := by unfold ES.hear; split <;> rfl
theorem hear_ep (E : ES) (ep : Int) (f : Fr) : E.ep ≤ (E.hear ep f).ep := by unfold ES.hear; split; exact Int.le_refl _; show E.ep ≤ ep; omega
theorem hear_ep_le {E : ES} {ep e : Int} (f : Fr) (h1 : E.ep ≤ e) (h2 : ep ≤ e) : (E.hear ep f).ep ≤ e := by unfold ES.hear; split; exact h1; exact h2
theorem hear_old {E : ES} {ep : Int} (f : Fr) (h : ep < E.ep) : E.hear ep f = E := by unfold ES.hear; rw [if_pos h]
theorem hear_ans (E : ES) (ep : Int) (f : Fr) : E.ans ≤ (E.hear ep f).ans := by
  unfold ES.hear; split
  · exact Nat.le_refl _
  · show E.ans ≤ if E.ans < f.many ∧ f.many ≤ E.out.length then f.many else E.ans
    split <;> omega
theorem hear_ans_le (E : ES) (ep : Int) (f : Fr) {n : Nat} (h1 : E.ans ≤ n) (h2 : f.many ≤ n) : (E.hear ep f).ans ≤ n := by
  unfold ES.hear; split
  · exact h1
  · show (if E.ans < f.many ∧ f.many ≤ E.out.length then f.many else E.ans) ≤ n
    split <;> omega
theorem hear_told (E : ES) (ep : Int) (f : Fr) : (E.hear ep f).told = E.told ∨ ∃ w, f.nw = some (E.told.length, w) ∧ (E.hear ep f).told = E.told ++ [w] := by
  unfold ES.hear; split
  · exact .inl rfl
  · cases h : f.nw with
    | none => exact .inl rfl
    | some p =>
      obtain ⟨n, w⟩ := p
      by_cases e : n = E.told.length
      · subst e
        refine .inr ⟨w, rfl, ?_⟩
        show (if E.told.length = E.told.length then E.told ++ [w] else E.told) = _
        rw [if_pos rfl]
      · refine .inl ?_
        show (if n = E.told.length then E.told ++ [w] else E.told) = _
        rw [if_neg e]
theorem hear_len (E : ES) (ep : Int) (f : Fr) : E.told.length ≤ (E.hear ep f).told.length := by
  rcases hear_told E ep f with h | ⟨w, _, h⟩
  · rw [h]; exact Nat.le_refl _
  · rw [h, List.length_append]; omega
theorem hear_pre {E : ES} {O : List Int} (ep : Int) {f : Fr} (h : E.told = O.take E.told.length) (hf : ∀ n w, f.nw = some (n, w) → O[n]? = some w) : (E.hear ep f).told = O.take (E.hear ep f).told.length := by
  rcases hear_told E ep f with e | ⟨w, e1, e2⟩
  · rw [e]; exact h
  · have g := hf _ _ e1
    have hl : E.told.length < O.length := (List.getElem?_eq_some_iff.mp g).1
    rw [e2, List.length_append, List.length_singleton, List.take_add_one, g]
    show E.told ++ [w] = _ ++ [w]
    rw [← h]
theorem pre_len {O T : List Int} (h : T = O.take T.length) : T.length ≤ O.length := by
  have e := congrArg List.length h
  rw [List.length_take] at e
  omega
/-- what holds of both ends and the letters between them -/
structure JJ (E : Nat → ES) (ls : List Lt) (ep : Int) : Prop where
  pre : ∀ i, i < 2 → (E i).told = (E (1 - i)).out.take (E i).told.length
  ans : ∀ i, i < 2 → (E i).ans ≤ (E (1 - i)).told.length
  old : ∀ i, i < 2 → (E i).ep ≤ ep
  goal : ∀ x ∈ ls, x.goal < 2 ∧ x.ep ≤ ep
  many : ∀ x ∈ ls, x.f.many ≤ (E (1 - x.goal)).told.length
  nw : ∀ x ∈ ls, ∀ n w, x.f.nw = some (n, w) → (E (1 - x.goal)).out[n]? = some w
theorem two {i : Nat} (h : i < 2) : 1 - i < 2 ∧ 1 - i ≠ i ∧ 1 - (1 - i) = i := by omega
theorem JJ.put {E : Nat → ES} {ls : List Lt} {ep : Int} (J : JJ E ls ep) {i : Nat} (_ : i < 2) (w : Int) : JJ (setE E i ((E i).put w)) ls ep := by
  have out : ∀ j, (setE E i ((E i).put w) j).out = if j = i then (E i).out ++ [w] else (E j).out := fun j => by unfold setE; split <;> rfl
  have told : ∀ j, (setE E i ((E i).put w) j).told = (E j).told := fun j => by unfold setE; split; (rename_i h; rw [h]; rfl); rfl
  have ans : ∀ j, (setE E i ((E i).put w) j).ans = (E j).ans := fun j => by unfold setE; split; (rename_i h; rw [h]; rfl); rfl
  have epe : ∀ j, (setE E i ((E i).put w) j).ep = (E j).ep := fun j => by unfold setE; split; (rename_i h; rw [h]; rfl); rfl
  refine ⟨fun j hj => ?_, fun j hj => by rw [ans, told]; exact J.ans j hj, fun j hj => by rw [epe]; exact J.old j hj, J.goal, fun x hx => by rw [told]; exact J.many x hx, fun x hx n v e => ?_⟩
  · rw [told, out]
    have p := J.pre j hj
    split
    · rename_i h
      rw [h] at p
      rw [List.take_append_of_le_length (pre_len p)]
      exact p
    · exact p
  · have g := J.nw x hx n v e
    rw [out]
    split
    · rename_i h
      rw [h] at g
      rw [List.getElem?_append_left (List.getElem?_eq_some_iff.mp g).1]
      exact g
    · exact g
theorem JJ.ep {E : Nat → ES} {ls : List Lt} {ep : Int} (J : JJ E ls ep) : JJ E ls (ep + 1) :=
  ⟨J.pre, J.ans, fun i hi => by have := J.old i hi; omega, fun x hx => ⟨(J.goal x hx).1, by have := (J.goal x hx).2; omega⟩, J.many, J.nw⟩
theorem JJ.sub {E : Nat → ES} {ls ls' : List Lt} {ep : Int} (J : JJ E ls ep) (h : ∀ x ∈ ls', x ∈ ls) : JJ E ls' ep :=
  ⟨J.pre, J.ans, J.old, fun x hx => J.goal x (h x hx), fun x hx => J.many x (h x hx), fun x hx => J.nw x (h x hx)⟩
theorem frames_mem {E : ES} {f : Fr} (h : f ∈ E.frames) : f.many = E.told.length ∧ ∀ n w, f.nw = some (n, w) → E.out[n]? = some w := by
  unfold ES.frames at h
  split at h
  · cases List.mem_singleton.mp h
    exact ⟨rfl, fun n w e => nomatch e⟩
  · obtain ⟨i, hi, rfl⟩ := List.mem_map.mp h
    refine ⟨rfl, fun n w e => ?_⟩
    cases Option.some.inj e
    have hi : i < E.last - E.ans := List.mem_range.mp hi
    have hl : E.last ≤ E.out.length := Nat.min_le_right _ _
    have hx : E.ans + i < E.out.length := by omega
    rw [List.getD_eq_getElem?_getD, List.getElem?_eq_getElem hx]
    rfl
theorem JJ.send {E : Nat → ES} {ls : List Lt} {ep : Int} (J : JJ E ls ep) {i : Nat} (hi : i < 2) : JJ E (ls ++ (E i).frames.map fun f => ⟨1 - i, ep, f⟩) ep := by
  have h2 := two hi
  refine ⟨J.pre, J.ans, J.old, fun x hx => ?_, fun x hx => ?_, fun x hx => ?_⟩
  all_goals rcases List.mem_append.mp hx with h | h
  · exact J.goal x h
  · obtain ⟨f, hf, rfl⟩ := List.mem_map.mp h
    exact ⟨h2.1, Int.le_refl _⟩
  · exact J.many x h
  · obtain ⟨f, hf, rfl⟩ := List.mem_map.mp h
    show f.many ≤ (E (1 - (1 - i))).told.length
    rw [h2.2.2, (frames_mem hf).1]
    exact Nat.le_refl _
  · exact J.nw x h
  · obtain ⟨f, hf, rfl⟩ := List.mem_map.mp h
    show ∀ n w, f.nw = some (n, w) → (E (1 - (1 - i))).out[n]? = some w
    rw [h2.2.2]
    exact (frames_mem hf).2
theorem JJ.hear {E : Nat → ES} {ls : List Lt} {ep : Int} (J : JJ E ls ep) {x : Lt} (hx : x ∈ ls) : JJ (setE E x.goal ((E x.goal).hear x.ep x.f)) ls ep := by
  have hg := (J.goal x hx).1
  have h2 := two hg
  have out : ∀ j, (setE E x.goal ((E x.goal).hear x.ep x.f) j).out = (E j).out := fun j => by unfold setE; split; (rename_i h; rw [h, hear_out]); rfl
  have lenm : ∀ j, (E j).told.length ≤ (setE E x.goal ((E x.goal).hear x.ep x.f) j).told.length := fun j => by
    unfold setE; split
    · rename_i h; rw [h]; exact hear_len _ _ _
    · exact Nat.le_refl _
  refine ⟨fun j hj => ?_, fun j hj => ?_, fun j hj => ?_, J.goal, fun y hy => Nat.le_trans (J.many y hy) (lenm _), fun y hy => by rw [out]; exact J.nw y hy⟩
  · rw [out]
    by_cases h : j = x.goal
    · rw [h, setE_same]
      exact hear_pre _ (J.pre _ hg) (J.nw x hx)
    · rw [setE_ne _ _ h]
      exact J.pre j hj
  · by_cases h : j = x.goal
    · rw [h, setE_same, setE_ne _ _ h2.2.1]
      exact hear_ans_le _ _ _ (J.ans _ hg) (J.many x hx)
    · rw [setE_ne _ _ h]
      exact Nat.le_trans (J.ans j hj) (lenm _)
  · by_cases h : j = x.goal
    · rw [h, setE_same]
      exact hear_ep_le _ (J.old _ hg) (J.goal x hx).2
    · rw [setE_ne _ _ h]
      exact J.old j hj
theorem last_le (E : ES) : E.last ≤ E.out.length := Nat.min_le_right _ _
theorem last_ans {E : ES} (h : E.ans ≤ E.out.length) : E.ans ≤ E.last := by unfold ES.last; omega
theorem frames_eq {E : ES} (h : E.ans = E.last) : E.frames = [⟨none, E.told.length⟩] := by unfold ES.frames; rw [if_pos h]
theorem frames_nq {E : ES} (h : ¬ E.ans = E.last) : E.frames = (List.range (E.last - E.ans)).map fun i => ⟨some (E.ans + i, E.out.getD (E.ans + i) 0), E.told.length⟩ := by unfold ES.frames; rw [if_neg h]
theorem frames_len {E : ES} (h : ¬ E.ans = E.last) : E.frames.length = E.last - E.ans := by rw [frames_nq h, List.length_map, List.length_range]
theorem frames_ne {E : ES} (h : E.ans ≤ E.out.length) : 0 < E.frames.length := by
  by_cases e : E.ans = E.last
  · rw [frames_eq e]; exact Nat.zero_lt_one
  · rw [frames_len e]
    have := last_ans h
    omega
theorem frames_le (E : ES) : E.frames.length ≤ 3 := by
  by_cases e : E.ans = E.last
  · rw [frames_eq e]; exact Nat.le_of_ble_eq_true rfl
  · rw [frames_len e]
    have : E.last ≤ E.ans + 3 := Nat.min_le_left _ _
    omega
theorem hear_num {Y : ES} {ep : Int} {f : Fr} {n : Nat} {w : Int} (h : Y.ep ≤ ep) (hf : f.nw = some (n, w)) (hn : n ≤ Y.told.length) : n + 1 ≤ (Y.hear ep f).told.length := by
  unfold ES.hear
  rw [if_neg (by omega), hf]
  show n + 1 ≤ (if n = Y.told.length then Y.told ++ [w] else Y.told).length
  split
  · rw [List.length_append, List.length_singleton]; omega
  · omega
theorem hear_many {Y : ES} {ep : Int} {f : Fr} (h : Y.ep ≤ ep) (hf : f.many ≤ Y.out.length) : f.many ≤ (Y.hear ep f).ans := by
  unfold ES.hear
  rw [if_neg (by omega)]
  show f.many ≤ if Y.ans < f.many ∧ f.many ≤ Y.out.length then f.many else Y.ans
  split <;> omega
def recv (ep : Int) (S X : ES) (k : Nat) : ES := (S.frames.take k).foldl (fun Y f => Y.hear ep f) X
theorem recv_succ {ep : Int} {S X : ES} {k : Nat} {f : Fr} (h : S.frames[k]? = some f) : recv ep S X (k + 1) = (recv ep S X k).hear ep f := by
  unfold recv
  rw [List.take_add_one, h, List.foldl_append]
  rfl
structure RK (ep : Int) (S X Y : ES) (k : Nat) : Prop where
  out : Y.out = X.out
  pre : Y.told = S.out.take Y.told.length
  old : Y.ep ≤ ep
  le : Y.ans ≤ S.told.length
  up : X.told.length ≤ Y.told.length
  ge : 0 < k → S.told.length ≤ Y.ans
  num : S.ans = S.last ∨ S.ans + k ≤ Y.told.length
theorem recv_ok {S X : ES} {ep : Int} (h1 : X.told = S.out.take X.told.length) (h2 : S.ans ≤ X.told.length) (h3 : X.ep ≤ ep) (h4 : X.ans ≤ S.told.length) (h5 : S.told.length ≤ X.out.length) :
    ∀ k, k ≤ S.frames.length → RK ep S X (recv ep S X k) k
  | 0, _ => ⟨rfl, h1, h3, h4, Nat.le_refl _, fun z => absurd z (Nat.lt_irrefl _), .inr h2⟩
  | k + 1, hk => by
    obtain ⟨q1, q2, q3, q4, q5, q6, q7⟩ := recv_ok h1 h2 h3 h4 h5 k (by omega)
    have hk' : k < S.frames.length := by omega
    have e : S.frames[k]? = some S.frames[k] := List.getElem?_eq_getElem hk'
    have m := frames_mem (List.getElem_mem hk')
    rw [recv_succ e]
    refine ⟨by rw [hear_out, q1], hear_pre _ q2 m.2, hear_ep_le _ q3 (Int.le_refl _), hear_ans_le _ _ _ q4 (Nat.le_of_eq m.1), Nat.le_trans q5 (hear_len _ _ _), fun _ => ?_, ?_⟩
    · rw [← m.1]
      exact hear_many q3 (by rw [m.1, q1]; exact h5)
    · rcases q7 with q | q
      · exact .inl q
      · by_cases c : S.ans = S.last
        · exact .inl c
        · refine .inr ?_
          have hn : ∃ w, S.frames[k].nw = some (S.ans + k, w) := by
            have hr : k < S.last - S.ans := by rw [← frames_len c]; exact hk'
            have e2 : S.frames[k]? = some ⟨some (S.ans + k, S.out.getD (S.ans + k) 0), S.told.length⟩ := by
              rw [frames_nq c, List.getElem?_map, List.getElem?_range hr]
              rfl
            have e' := Option.some.inj (e.symm.trans e2)
            exact ⟨S.out.getD (S.ans + k) 0, by rw [e']⟩
          obtain ⟨w, hw⟩ := hn
          exact hear_num q3 hw q
/-- all frames came -/
theorem recv_all {S X : ES} {ep : Int} (h1 : X.told = S.out.take X.told.length) (h2 : S.ans ≤ X.told.length) (h3 : X.ep ≤ ep) (h4 : X.ans ≤ S.told.length) (h5 : S.told.length ≤ X.out.length) (h6 : S.ans ≤ S.out.length) :
    RK ep S X (recv ep S X S.frames.length) S.frames.length ∧ S.last ≤ (recv ep S X S.frames.length).told.length ∧ S.told.length ≤ (recv ep S X S.frames.length).ans := by
  have r := recv_ok h1 h2 h3 h4 h5 S.frames.length (Nat.le_refl _)
  refine ⟨r, ?_, r.ge (frames_ne h6)⟩
  by_cases c : S.ans = S.last
  · rw [← c]
    exact Nat.le_trans h2 r.up
  · rcases r.num with q | q
    · exact absurd q c
    · have q2 := frames_len c
      have := last_ans h6
      omega
/-- both ends, and how far all came behind n quiet turns -/
structure QT (O0 O1 : List Int) (ep : Int) (E : Nat → ES) (n : Nat) : Prop where
  o0 : (E 0).out = O0
  o1 : (E 1).out = O1
  p0 : (E 0).told = O1.take (E 0).told.length
  p1 : (E 1).told = O0.take (E 1).told.length
  a0 : (E 0).ans ≤ (E 1).told.length
  a1 : (E 1).ans ≤ (E 0).told.length
  e0 : (E 0).ep ≤ ep
  e1 : (E 1).ep ≤ ep
  g0 : min (3 * n) O0.length ≤ (E 0).ans
  g1 : min (3 * n) O1.length ≤ (E 0).told.length
  g2 : min (3 * n) O0.length ≤ (E 1).told.length
def quiet1 (ep : Int) (E : Nat → ES) : Nat → ES := setE E 1 (recv ep (E 0) (E 1) (E 0).frames.length)
def quiet0 (ep : Int) (E : Nat → ES) : Nat → ES := setE E 0 (recv ep (E 1) (E 0) (E 1).frames.length)
theorem quiet_turn {O0 O1 : List Int} {ep : Int} {E : Nat → ES} {n : Nat} (h : QT O0 O1 ep E n) : QT O0 O1 ep (quiet0 ep (quiet1 ep E)) (n + 1) := by
  obtain ⟨o0, o1, p0, p1, a0, a1, e0, e1, g0, g1, g2⟩ := h
  have l0 := pre_len p0
  have l1 := pre_len p1
  obtain ⟨r, r1, r2⟩ := recv_all (S := E 0) (X := E 1) (ep := ep) (by rw [o0]; exact p1) a0 e1 a1 (by rw [o1]; exact l0) (by rw [o0]; omega)
  have q0 : quiet1 ep E 0 = E 0 := setE_ne _ _ (by decide)
  have q1 : quiet1 ep E 1 = recv ep (E 0) (E 1) (E 0).frames.length := setE_same _ _ _
  generalize hY : recv ep (E 0) (E 1) (E 0).frames.length = Y at *
  have pY := r.pre
  rw [o0] at pY
  have lY := pre_len pY
  obtain ⟨s, s1, s2⟩ := recv_all (S := Y) (X := E 0) (ep := ep) (by rw [r.out, o1]; exact p0) r.le e0 (Nat.le_trans a0 r.up) (by rw [o0]; exact lY) (by rw [r.out, o1]; exact Nat.le_trans r.le l0)
  have z0 : quiet0 ep (quiet1 ep E) 0 = recv ep Y (E 0) Y.frames.length := by unfold quiet0; rw [setE_same, q0, q1]
  have z1 : quiet0 ep (quiet1 ep E) 1 = Y := by unfold quiet0; rw [setE_ne _ _ (by decide), q1]
  generalize hZ : recv ep Y (E 0) Y.frames.length = Z at *
  have k1 : (E 0).last = min ((E 0).ans + 3) O0.length := by unfold ES.last; rw [o0]
  have k2 : Y.last = min (Y.ans + 3) O1.length := by unfold ES.last; rw [r.out, o1]
  have b1 := r.up
  have b2 := r.le
  have c1 := s.le
  have c2 := s.up
  refine ⟨by rw [z0, s.out, o0], by rw [z1, r.out, o1], by rw [z0]; have := s.pre; rw [r.out, o1] at this; exact this, by rw [z1]; exact pY, by rw [z0, z1]; exact c1, by rw [z0, z1]; omega, by rw [z0]; exact s.old, by rw [z1]; exact r.old, ?_, ?_, ?_⟩
  · rw [z0]; omega
  · rw [z0]; omega
  · rw [z1]; omega
theorem quiet_end {O0 O1 : List Int} {ep : Int} {E : Nat → ES} {n : Nat} (h : QT O0 O1 ep E n) (h0 : O0.length ≤ n) (h1 : O1.length ≤ n) : (E 0).told = (E 1).out ∧ (E 1).told = (E 0).out ∧ (E 0).ans = (E 0).out.length := by
  obtain ⟨o0, o1, p0, p1, a0, a1, e0, e1, g0, g1, g2⟩ := h
  have l0 := pre_len p0
  have l1 := pre_len p1
  refine ⟨?_, ?_, ?_⟩
  · rw [o1, p0, List.take_of_length_le (by omega)]
  · rw [o0, p1, List.take_of_length_le (by omega)]
  · rw [o0]; omega
theorem JJ.quiet {E : Nat → ES} {ls : List Lt} {ep : Int} (J : JJ E ls ep) : QT (E 0).out (E 1).out ep E 0 :=
  ⟨rfl, rfl, J.pre 0 (by decide), J.pre 1 (by decide), J.ans 0 (by decide), J.ans 1 (by decide), J.old 0 (by decide), J.old 1 (by decide), by omega, by omega, by omega⟩
/-- the frames with words -/
theorem words_eq {E : ES} (h : E.ans ≤ E.out.length) : (E.frames.filter fun f => f.nw.isSome).map (fun f => (f.nw.map (·.2)).getD 0) = (E.out.drop E.ans).take 3 := by
  by_cases c : E.ans = E.last
  · have : E.out.length ≤ E.ans := by unfold ES.last at c; omega
    rw [frames_eq c, List.drop_eq_nil_of_le this]
    rfl
  · have e : E.frames.filter (fun f => f.nw.isSome) = E.frames := by
      rw [List.filter_eq_self]
      intro f hf
      rw [frames_nq c] at hf
      obtain ⟨i, _, rfl⟩ := List.mem_map.mp hf
      rfl
    rw [e, frames_nq c, List.map_map]
    refine List.ext_getElem? fun i => ?_
    rw [List.getElem?_map, List.getElem?_take, List.getElem?_drop]
    have hl := last_le E
    have hl2 : E.last = min (E.ans + 3) E.out.length := rfl
    by_cases hi : i < E.last - E.ans
    · rw [List.getElem?_range hi, if_pos (by omega), List.getElem?_eq_getElem (by omega)]
      show some (E.out.getD (E.ans + i) 0) = _
      rw [List.getD_eq_getElem?_getD, List.getElem?_eq_getElem (by omega)]
      rfl
    · rw [List.getElem?_eq_none (by rw [List.length_range]; omega)]
      show none = _
      split
      · rw [List.getElem?_eq_none (by omega)]
      · rfl
theorem words_len {E : ES} (h : E.ans ≤ E.out.length) : (E.frames.filter fun f => f.nw.isSome).length ≤ 3 ∧ E.frames.length = max 1 (E.frames.filter fun f => f.nw.isSome).length := by
  by_cases c : E.ans = E.last
  · rw [frames_eq c]
    exact ⟨Nat.le_of_ble_eq_true rfl, rfl⟩
  · have e : E.frames.filter (fun f => f.nw.isSome) = E.frames := by
      rw [List.filter_eq_self]
      intro f hf
      rw [frames_nq c] at hf
      obtain ⟨i, _, rfl⟩ := List.mem_map.mp hf
      rfl
    rw [e]
    have := frames_ne h
    exact ⟨frames_le E, by omega⟩
end Mc
namespace Mc
open PySem L2 PySem.Spec PyProof.Rows
/-! ### own classes of error over Exception, with an __init__ that stores its arguments -/
def exT : List Value := [.type "Exception", .type "BaseException", .type "object"]
structure OexB (K : PySem.W.Frag) (C : Addr) : Prop where
  ini : PySem.W.excInitIn K C exT "Exception.__new__" = true
  ovr : PySem.W.excOver K C exT = true
  hd : PySem.W.hasDictIn K C = true
  sa : PySem.W.findIn K (.ref C) "__setattr__" = some (some (.builtin "object.__setattr__"))
  exC : PySem.W.subIn K (.ref C) (.type "BaseException") = some true
  tyC : PySem.W.typeIn K (.ref C) = some (.type "type")
  kC : PySem.W.keepIn K (.ref C) = true
theorem OexB.cd {K : PySem.W.Frag} {C : Addr} (T : OexB K C) : ∃ c, PySem.W.clsIn K C = some c ∧ c.hasDict = true := by
  have h := T.hd
  unfold PySem.W.hasDictIn at h
  cases e : PySem.W.clsIn K C with
  | none => rw [e] at h; cases h
  | some c => rw [e] at h; exact ⟨c, rfl, h⟩
section
open Builtin Builtin.ObjectAttr
variable {prog : Program} {w : World} {A : Around} {R : Result → Shared → Prop} {hp : Heap} {g : Array GenState} {dr : Drawn} {t : Nat} {os : OsState} {K : PySem.W.Frag} {C x : Addr} {y : PySem.Str} {tk : Tok} {u : Value} {fv : Array Value}
theorem taker_none (h : PySem.W.findIn K (.ref C) y = some none) : PySem.W.takerIn K C y = some none := by
  unfold PySem.W.takerIn
  rw [h]
  rfl
theorem sto_first (T : OexB K C) (hK : K.In hp) (ho : hp.get? x = some { cls := .ref C, data := .fields fv }) (hno : PySem.W.findIn K (.ref C) y = some none)
    (q : ∀ h' tk' dx, (∀ b o, b ≠ x → hp.get? b = some o → h'.get? b = some o) → hp.objs.size ≤ dx → dx ≠ x → h'.get? x = some { cls := .ref C, dict := some dx, data := .fields fv } → h'.Ns1 dx (fun z => if z = y then some u else none) →
      R (.ok (.ret .none)) ⟨h', g, dr, tk', os⟩) : codeAny (model prog w) A (.call (.builtin "object.__setattr__") ⟨[.ref x, .str y tk, u], []⟩) R ⟨hp, g, dr, t, os⟩ := by
  obtain ⟨c, hc, hh⟩ := T.cd
  refine PySem.W.osa_openX (od := none) (r := none) PySem.F.store_Exception hK ⟨ho, rfl, rfl, trivial⟩ T.ovr (taker_none hno) fun b => ?_
  have hcl : PySem.W.Looks (model prog w) hp (classData C) c := PySem.W.looks_clsIn hK hc
  have ne : x ≠ hp.objs.size := Nat.ne_of_lt (Heap.lt_size ho)
  obtain ⟨c1, c2, c3, c4, c5, c6, c7, c8, c9, c10, c11⟩ := c
  dsimp only at hh
  subst hh
  show wpAny _ _ (storeInOwnDict (.ref x) (.ref C) (.str y tk) y u b) _ _ _
  unfold storeInOwnDict ownDictForStores
  repeat (first | with_reducible refine PySem.PX.store_in_new ?_ ?_ | with_reducible refine wpAny_loadPart_at ho ?_ | with_reducible refine hcl.at ?_ | wp_step)
  · exact ⟨_, #[], _, (Heap.get?_update_ne _ _ _ _ ne.symm).trans (Heap.get?_push_at rfl rfl), rfl, fun e he => absurd he (by simp), fun _ => rfl⟩
  · intro h' tk' hn' hs
    exact q h' tk' hp.objs.size (fun b o hb hbo => (hs.2 b (Nat.ne_of_lt (Heap.lt_size hbo))).trans ((Heap.get?_update_ne _ _ _ _ hb).trans (Heap.get?_push_of_some _ hbo))) (Nat.le_refl _) ne.symm
      ((hs.2 x ne).trans (Heap.get?_update_self _ (Heap.get?_push_of_some _ ho) rfl)) hn'
theorem sto_more {dx : Addr} {m0 : PySem.Str → Option Value} {nl : List PySem.Str} (T : OexB K C) (hK : K.In hp) (ho : hp.get? x = some { cls := .ref C, dict := some dx, data := .fields fv }) (hno : PySem.W.findIn K (.ref C) y = some none)
    (hns : hp.Ns1 dx m0) (hw : Within m0 nl) (hz : nl.length ≤ 1000)
    (q : ∀ h' tk', (∀ b o, b ≠ dx → hp.get? b = some o → h'.get? b = some o) → h'.Ns1 dx (fun z => if z = y then some u else m0 z) → R (.ok (.ret .none)) ⟨h', g, dr, tk', os⟩) :
    codeAny (model prog w) A (.call (.builtin "object.__setattr__") ⟨[.ref x, .str y tk, u], []⟩) R ⟨hp, g, dr, t, os⟩ := by
  obtain ⟨c, hc, hh⟩ := T.cd
  obtain ⟨oD, _, _, hoD, _, _⟩ := hns.count hw
  refine PySem.W.osa_openX (od := some oD) (r := none) PySem.F.store_Exception hK ⟨ho, rfl, rfl, hoD⟩ T.ovr (taker_none hno) fun b => ?_
  have hcl : PySem.W.Looks (model prog w) hp (classData C) c := PySem.W.looks_clsIn hK hc
  obtain ⟨c1, c2, c3, c4, c5, c6, c7, c8, c9, c10, c11⟩ := c
  dsimp only at hh
  subst hh
  show wpAny _ _ (storeInOwnDict (.ref x) (.ref C) (.str y tk) y u b) _ _ _
  unfold storeInOwnDict ownDictForStores
  repeat (first | with_reducible refine PySem.OEX.store_in_old hns hw hz ?_ | with_reducible refine wpAny_loadPart_at ho ?_ | with_reducible refine hcl.at ?_ | wp_step)
  intro h' tk' hn' hs
  exact q h' tk' (fun b o hb hbo => (hs.2 b hb).trans hbo) hn'
end
section
variable {X : Cx} {pins : List (Addr × Obj)} {σ : L2.St} {H : Hp} {s : Shared} {a C dx : Addr} {f : PySem.Str} {y : V} {u : Value} {fs : List (PySem.Str × V)} {Q : Unit → Shared → Prop} {E : Value → Shared → Prop} {A : Around}
theorem fld_first (T : OexB X.K C) (I : Inv X pins σ H s) (e : H a = some (exo a C none)) (hno : PySem.W.findIn X.K (.ref C) f = some none) (ry : RelV y u)
    (q : ∀ dx s', H dx = none → dx ≠ a → Inv X pins σ (upd (upd H dx (exd dx [(f, y)])) a (exo a C (some dx))) s' → Q () s') : wpAny (model X.prog X.w) A (setAttr (.ref a) f u) Q E s := by
  obtain ⟨t1, ho⟩ := exo_at I.hok e
  obtain ⟨hp, g, d, t, os⟩ := s
  refine PySem.W.set_plain I.kIn (od := none) ⟨ho, rfl, rfl, trivial⟩ T.sa (sto_first T I.kIn ho hno fun h' tk' dx k dn dne hx hn => ?_)
  have hnd : H dx = none := I.hok.fresh dn
  have hb' : ∀ b, b ≠ a → (h'.update a fun _ => { cls := .ref C, data := .fields #[.ref t1, .none, .none, .none, .bool false, .none] }).get? b = h'.get? b := fun b hb => Heap.get?_update_ne _ _ _ _ hb
  have I1 : Inv X pins σ (upd H dx (exd dx [(f, y)])) ⟨h'.update a fun _ => { cls := .ref C, data := .fields #[.ref t1, .none, .none, .none, .bool false, .none] }, g, d, tk', os⟩ :=
    I.laid (t' := tk') (fun b o z => by
      by_cases hb : b = a
      · subst hb
        rw [show hp.get? b = _ from ho] at z
        cases z
        exact Heap.get?_update_self _ hx rfl
      · rw [hb' b hb]
        exact k b o hb z) dn (exd_ok (hn.at fun o z => (hb' dx dne).trans z) (relO_put (fs := []) ry fun g => True.intro))
  have ea : upd H dx (exd dx [(f, y)]) a = some (exo a C none) := by rw [upd_ne (Ne.symm dne)]; exact e
  exact q dx _ hnd dne (I1.write (t' := tk') (x := a) (e := a) (o := exo a C (some dx)) (by rw [ea]; exact True.intro) (.inl rfl) (fun b o hb z => (hb' b hb).symm.trans z) ⟨_, hx⟩ (exo_ok hx))
theorem fld_more (T : OexB X.K C) (I : Inv X pins σ H s) (e : H a = some (exo a C (some dx))) (ed : H dx = some (exd dx fs)) (hl : fs.length ≤ 900) (hno : PySem.W.findIn X.K (.ref C) f = some none) (ry : RelV y u)
    (q : ∀ s', Inv X pins σ (upd H dx (exd dx ((f, y) :: fs))) s' → Q () s') : wpAny (model X.prog X.w) A (setAttr (.ref a) f u) Q E s := by
  obtain ⟨t1, ho⟩ := exo_at I.hok e
  obtain ⟨mA, hns, rel⟩ := exd_at I.hok ed
  have hw := within_of rel
  obtain ⟨hp, g, d, t, os⟩ := s
  obtain ⟨oD, _, _, hoD, _, _⟩ := hns.count hw
  refine PySem.W.set_plain I.kIn (od := some oD) ⟨ho, rfl, rfl, hoD⟩ T.sa (sto_more T I.kIn ho hno hns hw (by rw [List.length_map]; omega) fun h' tk' k hn => ?_)
  obtain ⟨o, _, _, e', _⟩ := id hn
  exact q _ (I.write (t' := tk') (x := dx) (e := dx) (o := exd dx ((f, y) :: fs)) (by rw [ed]; exact True.intro) (.inl rfl) k ⟨o, e'⟩ (exd_ok hn (relO_put ry rel)))
end
section
variable {X : Cx} {o e : Expr} {es : List Expr} {to te : TE} {ta : TA} {p' p pos : Pos} {f x : PySem.Str}
def tOstB (K : PySem.W.Frag) (f : PySem.Str) (to te : TE) : TS := fun D σ H => te σ H fun y H1 => to σ H1 fun x H2 => ∃ a C : Addr, x = .ref a ∧ OexB K C ∧ PySem.W.findIn K (.ref C) f = some none ∧
  ((H2 a = some (exo a C none) ∧ ∀ dx, H2 dx = none → dx ≠ a → D.nx σ (upd (upd H2 dx (exd dx [(f, y)])) a (exo a C (some dx)))) ∨
    ∃ (dx : Addr) (fs : List (PySem.Str × V)), H2 a = some (exo a C (some dx)) ∧ H2 dx = some (exd dx fs) ∧ fs.length ≤ 900 ∧ D.nx σ (upd H2 dx (exd dx ((f, y) :: fs))))
theorem ps_ostB (ho : PE X o to) (he : PE X e te) (hs : swapsWith e (some (.Attribute o f p')) pos.line X.env = pure false := by rfl) : PS X (.Assign [.Attribute o f p'] e pos) (tOstB X.K f to te) := by
  constructor
  intro pins s σ H D I h
  refine plainObj_wpAny_Assign_Attribute (thn (he.run pins s σ H _ I h) fun v s1 hv => ?_) hs
  obtain ⟨y, H1, I1, r1, q1⟩ := hv
  refine thn (ho.run pins s1 σ H1 _ I1 q1) fun u s2 hu => ?_
  obtain ⟨x, H2, I2, r2, a, C, rfl, T, hno, q⟩ := hu
  cases r2
  rcases q with ⟨ea, q⟩ | ⟨dx, fs, ea, ed, hl, q⟩
  · exact fld_first T I2 ea hno r1 fun dx s' n1 n2 J => ⟨σ, _, J, q dx n1 n2⟩
  · exact fld_more T I2 ea ed hl hno r1 fun s' J => ⟨σ, _, J, q⟩
/-- C(e, ..) -/
def tMkB (C : Addr) (sp : Sp) (ta : TA) : L2.St → Hp → XK → Prop := fun σ H Q => ta σ H fun vs H1 => vs.length ≤ 1000 ∧ ∀ a, H1 a = none → sp (.ref a :: vs) (upd H1 a (exo a C none)) (fun v H2 => v = .non ∧
  ∃ (d : Addr) (fs : List (PySem.Str × V)), H2 a = some (exo a C (some d)) ∧ H2 d = some (exd d fs) ∧ H1 d = none ∧ Q (.ref C) (some d) (upd (del H2 a) d (.xd fs))) E0
theorem pmk_B {C fI : Addr} {k : Nat} {fd : FuncData} {ps : List PySem.Str} {sp : Sp} (T : OexB X.K C) (iC : PySem.W.findIn X.K (.ref C) "__init__" = some (some (.ref fI))) (tI : PySem.W.isFn X.K (.ref fI) = true)
    (F1 : FnOk X.prog X.w X.K X.mg X.base CX0 k fI fd ps sp) (hr : Room (k + 1) X.A) (hb : Binds X.K fd ps []) (hg : Gl X x) (hm : X.mg x = some (.ref C)) (ha : PA X (e :: es) ta)
    (hdb : (x == ("__debug__" : PySem.Str)) = false := by decide) (he : starEach (e :: es) X.env = (false, eval e X.env) :: starEach es X.env := by rfl) (hpl : (backTo pos (starEach es X.env)).any (·.1) = false := by rfl) :
    PMk X (.Call (.Name x p) (e :: es) [] pos) (tMkB C sp ta) := by
  intro pins s σ H Q I h
  refine wpAny_Call_Name_kw (ld_glob I hg hm ?_ hdb)
  refine PySem.W.callWith_K (h₀ := X.base) I.ok.mod.kin T.kC (thn (ha.run pos pins s σ H _ I h) fun us s1 hu => ?_) he hpl
  obtain ⟨vs, H1, I1, r1, hz, q1⟩ := hu
  refine ⟨I1.kIn, ?_⟩
  show wpAny _ _ (call (.ref C) us) _ _ _
  obtain ⟨nm, N, qn, bs, bm, hdct, sn, sub, ab, col, dd, k0, k1, k2, k3, k5, hC, hT⟩ := PySem.W.excInit_of I1.kIn T.ini
  obtain ⟨oI, hoI, hcI⟩ : ∃ oI, s1.heap.get? fI = some oI ∧ oI.cls = .type "function" := by
    obtain ⟨o, z1, z2⟩ := Option.map_eq_some_iff.mp (show (X.K.lookup fI).map (·.cls) = some (.type "function") from beq_iff_eq.mp tI)
    exact ⟨o, I1.kIn _ _ z1, z2⟩
  obtain ⟨hp, g, dr, tk, os⟩ := s1
  have le1 : hp.objs.size ≤ hp.objs.size + 1 := Nat.le_succ _
  have q2 := q1 (hp.objs.size + 1) (I1.hok.fresh le1)
  have grow : ∀ b o, hp.get? b = some o → ((hp.push (PySem.W.kdv_tup us)).push (PySem.PX.excO C hp.objs.size)).get? b = some o := fun b o z => Heap.get?_push_of_some _ (Heap.get?_push_of_some _ z)
  have here : ((hp.push (PySem.W.kdv_tup us)).push (PySem.PX.excO C hp.objs.size)).get? (hp.objs.size + 1) = some (PySem.PX.excO C hp.objs.size) := by heap_get
  have I2 : Inv X pins σ (upd H1 (hp.objs.size + 1) (exo (hp.objs.size + 1) C none)) ⟨(hp.push (PySem.W.kdv_tup us)).push (PySem.PX.excO C hp.objs.size), g, dr, tk, os⟩ := I1.laid (t' := tk) grow le1 (exo_ok here)
  have hv : Vals (V.ref (hp.objs.size + 1) :: vs) (Value.ref (hp.objs.size + 1) :: us) := .cons rfl r1
  have hln : (Value.ref (hp.objs.size + 1) :: us ++ []).length = ps.length := by
    rw [List.append_nil, ← hv.length]
    exact F1.len _ _ _ _ q2
  have hus : us.length ≤ sizeLine := by
    rw [← Paired.length r1, sizeLine_eq]
    omega
  have bt := hb ⟨(hp.push (PySem.W.kdv_tup us)).push (PySem.PX.excO C hp.objs.size), g, dr, tk, os⟩ (Value.ref (hp.objs.size + 1) :: us) I2.kIn hln
  rw [List.append_nil] at bt
  refine wpAny_call (PySem.PX.call_own PySem.F.excBase_Exception hT hC (PySem.W.looks_findIn I1.kIn iC) (fun self => PySem.W.exc_bind hoI hcI self) hus
    (codeAny_mono (F1.run _ X.stack _ _ ⟨Value.ref (hp.objs.size + 1) :: us, []⟩ _ _ _ E0 (hr.make C us []) (I2.env0.make C us []) bt hv q2) fun r s' z => ?_))
  cases r with
  | error er => exact pass0 pins σ _ _ er s' I2 z
  | ok fl =>
    cases fl with
    | ret u =>
      obtain ⟨v, H2, z1, z2, z3, z4, rv, rfl, d, fs, ea, ed, hd1, q3⟩ := z
      obtain ⟨h2, g2, d2, t2, os'⟩ := s'
      exact ⟨rv, mk_end (raises_own T.exC T.tyC) I1 le1 grow z3 z4 z1 z2 ea ed hd1 q3⟩
    | next => exact False.elim z
    | brk => exact False.elim z
    | cont => exact False.elim z
end
end Mc
namespace Mc
open PySem L2 PySem.Spec PyProof.Rows
/-! ### calls that may raise -/
def CalX (P : Program) (w : World) (K : PySem.W.Frag) (mg : PySem.Str → Option Value) (base : Heap) (k : Nat) (x : PySem.Str) (ps : List PySem.Str) (sp : Sp) : Prop :=
  ∃ (f : Addr) (fd : FuncData), mg x = some (.ref f) ∧ PySem.W.keepIn K (.ref f) = true ∧ Binds K fd ps [] ∧ FnOk P w K mg base (L2.CX P w) k f fd ps sp
def CalMX (P : Program) (w : World) (K : PySem.W.Frag) (mg : PySem.Str → Option Value) (base : Heap) (C : Addr) (k : Nat) (m : PySem.Str) (ps : List PySem.Str) (sp : Sp) : Prop :=
  ∃ (f : Addr) (fd : FuncData), Meth K C m f ∧ Binds K fd ps [] ∧ FnOk P w K mg base (L2.CX P w) k f fd ps sp
def CalIX (P : Program) (w : World) (K : PySem.W.Frag) (mg : PySem.Str → Option Value) (base : Heap) (C : Addr) (k : Nat) (x : PySem.Str) (ps : List PySem.Str) (sp : Sp) : Prop :=
  ∃ (f : Addr) (fd : FuncData), mg x = some (.ref C) ∧ Mk K C f ∧ Binds K fd ps [] ∧ FnOk P w K mg base (L2.CX P w) k f fd ps sp
/-- o.m(..) where E σ is wished of what it raises -/
def tMethE (C : Addr) (m : PySem.Str) (sp : Sp) (E : L2.St → XK) (ta : TE) (t : TA) : TE := fun σ H Q => ta σ H fun x H1 => ∃ a dx fs, x = .ref a ∧ H1 a = some (.ins C dx fs) ∧ fs.lookup m = none ∧ t σ H1 fun vs H2 => sp (x :: vs) H2 Q (E σ)
section
variable {X : Cx} {k : Nat} {x m : PySem.Str} {ps : List PySem.Str} {sp : Sp} {C : Addr} {p pos apos : Pos} {e o : Expr} {es : List Expr} {t : TA} {ta : TE} {E : L2.St → XK}
theorem pe_calX (c : CalX X.prog X.w X.K X.mg X.base k x ps sp) (hr : Room k X.A) (hg : Gl X x) (hx : ∀ σ, PassesAt (L2.CX X.prog X.w) X σ (E σ)) (ha : PA X (e :: es) t) (hdb : (x == ("__debug__" : PySem.Str)) = false := by decide)
    (he : starEach (e :: es) X.env = (false, eval e X.env) :: starEach es X.env := by rfl) (hpl : (backTo pos (starEach es X.env)).any (·.1) = false := by rfl) : PE X (.Call (.Name x p) (e :: es) [] pos) (tCallS sp E t) := by
  obtain ⟨f, fd, hm, hk, hb, F⟩ := c
  exact pe_callS F hr hg hm hk hb hx ha hdb he hpl
theorem pe_calMX {pl : Sem Bool} (ho : PE X o ta) (cl : Cls X.K C) (c : CalMX X.prog X.w X.K X.mg X.base C k m ps sp) (hr : Room k X.A) (hx : ∀ σ, PassesAt (L2.CX X.prog X.w) X σ (E σ)) (ha : PA X (e :: es) t)
    (hst : starEach (e :: es) X.env = (false, eval e X.env) :: starEach es X.env := by rfl) (hpl : (backTo pos (starEach es X.env)).any (·.1) = false := by rfl)
    (ht : eval (.Call (.Attribute o m apos) (e :: es) [] pos) X.env = (do
      let ov ← eval o X.env
      standAt apos.atName
      let (f, first) ← holding [ov] (getMethod ov m pl)
      callWith pos f first (backTo pos (starEach (e :: es) X.env)) (backToKw pos (keywordEach [] X.env))) := by rfl) :
    PE X (.Call (.Attribute o m apos) (e :: es) [] pos) (tMethE C m sp E ta t) := by
  obtain ⟨f, fd, hm, hb, F⟩ := c
  constructor
  intro pins s σ H Q I h
  refine PySem.W.methodCall_KW (pl := pl) (thn (ho.run pins s σ H _ I h) fun u s1 z1 => ?_) ht
  obtain ⟨x, H1, I1, rx, a, dx, fs, rfl, ea, l, q⟩ := z1
  cases rx
  refine getmeth_ok I1 ea cl hm l (PySem.W.callWith_K (first := [.ref a]) (h₀ := X.base) I.ok.mod.kin hm.kp (thn (ha.run pos pins s1 σ H1 _ I1 q) fun us s2 z2 => ?_) hst hpl)
  obtain ⟨vs, H2, I2, r, q2⟩ := z2
  exact ⟨I2.kIn, run_fnS (us := .ref a :: us) (vs := .ref a :: vs) F hr hb (hx σ) I2 (.cons rfl r) q2⟩
/-- nothing is raised at this call -/
theorem noE {X : Cx} : ∀ σ : L2.St, PassesAt (L2.CX X.prog X.w) X σ ((fun _ => E0) σ) := fun σ pins H s e s' I h => passL pins σ H s e s' I h
end
/-! ### C(..) whose __init__ may raise -/
def tMakeE (C : Addr) (sp : Sp) (E : L2.St → XK) (t : TA) : TE := fun σ H Q => t σ H fun vs H1 => ∀ x dx, H1 x = none → H1 dx = none → dx ≠ x → sp (.ref x :: vs) (upd (upd H1 dx (.own x)) x (.ins C dx [])) (fun v H2 => v = .non ∧ Q (.ref x) H2) (E σ)
theorem run_makeE {X : Cx} {k : Nat} {f C : Addr} {fd : FuncData} {ps : List PySem.Str} {sp : Sp} {E : XK} {pins : List (Addr × Obj)} {σ : L2.St} {H : Hp} {s : Shared} {Q : VK} {us : List Value} {vs : List V} (M : Mk X.K C f) (F : FnOk X.prog X.w X.K X.mg X.base (L2.CX X.prog X.w) k f fd ps sp) (hr : Room (k + 1) X.A) (hb : Binds X.K fd ps [])
    (hx : PassesAt (L2.CX X.prog X.w) X σ E) (I : Inv X pins σ H s) (r : Vals vs us)
    (h : ∀ x dx, H x = none → H dx = none → dx ≠ x → sp (.ref x :: vs) (upd (upd H dx (.own x)) x (.ins C dx [])) (fun v H2 => v = .non ∧ Q (.ref x) H2) E) :
    wpAny (model X.prog X.w) X.A (call (.ref C) us) (EP X pins σ Q) X.xe s := by
  have hq := h (s.heap.objs.size + 1) s.heap.objs.size (I.hok.fresh (Nat.le_succ _)) (I.hok.fresh (Nat.le_refl _)) (Nat.ne_of_lt (Nat.lt_succ_self _))
  have I2 := Inv.made (C := C) I
  have r2 : Vals (V.ref (s.heap.objs.size + 1) :: vs) (Value.ref (s.heap.objs.size + 1) :: us) := .cons rfl r
  have hl : (Value.ref (s.heap.objs.size + 1) :: us ++ []).length = ps.length := by
    have e := r2.length
    rw [F.len _ _ _ _ hq] at e
    rw [List.append_nil]
    exact e.symm
  have bt := hb _ (Value.ref (s.heap.objs.size + 1) :: us) I2.kIn hl
  rw [List.append_nil] at bt
  refine wpAny_call (make_map (f := f) I.kIn M.makes M.init (beq_iff_eq.mp M.fn) (codeAny_mono (F.run _ X.stack _ _ ⟨Value.ref (s.heap.objs.size + 1) :: us, []⟩ (Value.ref (s.heap.objs.size + 1) :: us) _ _ E (hr.make C us [])
    (I2.env0.make C us []) bt r2 hq) fun r s' hq' => ?_))
  cases r with
  | error e => exact hx pins _ _ e s' I2 hq'
  | ok fl =>
    cases fl with
    | ret u =>
      obtain ⟨v, H', I3, rv, ev, q3⟩ := I2.after hq'
      subst ev
      exact ⟨rv, ⟨V.ref (s.heap.objs.size + 1), H', I3, rfl, q3⟩⟩
    | next => exact False.elim hq'
    | brk => exact False.elim hq'
    | cont => exact False.elim hq'
section
variable {X : Cx} {k : Nat} {x : PySem.Str} {ps : List PySem.Str} {sp : Sp} {C : Addr} {p pos : Pos} {e : Expr} {es : List Expr} {t : TA} {E : L2.St → XK}
theorem pe_calIX (c : CalIX X.prog X.w X.K X.mg X.base C k x ps sp) (hr : Room (k + 1) X.A) (hg : Gl X x) (hx : ∀ σ, PassesAt (L2.CX X.prog X.w) X σ (E σ)) (ha : PA X (e :: es) t) (hdb : (x == ("__debug__" : PySem.Str)) = false := by decide)
    (he : starEach (e :: es) X.env = (false, eval e X.env) :: starEach es X.env := by rfl) (hpl : (backTo pos (starEach es X.env)).any (·.1) = false := by rfl) : PE X (.Call (.Name x p) (e :: es) [] pos) (tMakeE C sp E t) := by
  obtain ⟨f, fd, hm, M, hb, F⟩ := c
  refine ⟨fun pins s σ H Q I h => ?_⟩
  refine wpAny_Call_Name_kw (ld_glob I hg hm ?_ hdb)
  refine PySem.W.callWith_K (h₀ := X.base) I.ok.mod.kin M.kp (thn (ha.run pos pins s σ H _ I h) fun us s1 ⟨vs, H1, I1, r, q⟩ => ⟨I1.kIn, ?_⟩) he hpl
  exact run_makeE M F hr hb (hx σ) I1 r q
end
/-! ### an own error of one field -/
def spBadI (C : Addr) (f : PySem.Str) : Sp := fun vs H Q _ => ∃ (a : Addr) (v : V), vs = [.ref a, v] ∧ H a = some (exo a C none) ∧ ∀ d, H d = none → d ≠ a → Q .non (upd (upd H d (exd d [(f, v)])) a (exo a C (some d)))
theorem ok_badI {P : Program} {w : World} {K : PySem.W.Frag} {mg : PySem.Str → Option Value} {base : Heap} {st : Stmt} {f C : Addr} {fd : FuncData} {n q : PySem.Str} (F : Fun K "__init__" q st f fd) (T : OexB K C) (hno : PySem.W.findIn K (.ref C) n = some none)
    (sc : FnScope ["self", n] ["self", n] (defScope st))
    (bd : ∀ (cdv : Value) (A : Around) (outer : List Env) (s : Shared) (H : Hp) (Q : VK) (E : XK), PSs (cxOf CX0 P w K mg base ["self", n] q (defScope st) f cdv A outer s H E).nox (defBody st) (tOstB K n (tVar 0) (tVar 1))) : FnOk P w K mg base CX0 1 f fd ["self", n] (spBadI C n) := by
  refine F.ok sc (fun vs H Q E h => ?_) (fun cdv A outer s H vs Q E hr h => ?_)
  · obtain ⟨a, v, rfl, _⟩ := h
    rfl
  · obtain ⟨a, v, rfl, ha, k⟩ := h
    refine ⟨_, bd cdv A outer s H Q E, ?_⟩
    exact ⟨_, rfl, _, rfl, a, C, rfl, T, hno, .inl ⟨ha, k⟩⟩
theorem bad_heap {H : Hp} {a d : Addr} {o1 o2 o3 x : HO} (ha : H a = none) (ne : d ≠ a) : upd (del (upd (upd (upd H a o1) d o2) a o3) a) d x = upd H d x := by
  funext b
  by_cases h1 : b = d
  · rw [h1, upd_same, upd_same]
  · rw [upd_ne h1, upd_ne h1]
    by_cases h2 : b = a
    · rw [h2, del_same, ha]
    · rw [del_ne h2, upd_ne h2, upd_ne h1, upd_ne h2]
/-- C(v) -/
theorem mkB_one {C : Addr} {f : PySem.Str} {v : V} {H : Hp} {Q : XK} (q : ∀ d, H d = none → Q (.ref C) (some d) (upd H d (.xd [(f, v)]))) : [v].length ≤ 1000 ∧ ∀ a, H a = none → spBadI C f (.ref a :: [v]) (upd H a (exo a C none)) (fun v' H2 => v' = .non ∧
    ∃ (d : Addr) (fs : List (PySem.Str × V)), H2 a = some (exo a C (some d)) ∧ H2 d = some (exd d fs) ∧ H d = none ∧ Q (.ref C) (some d) (upd (del H2 a) d (.xd fs))) E0 := by
  refine ⟨by show 1 ≤ 1000; decide, fun a ha => ⟨a, v, rfl, upd_same, fun d hd ne => ⟨rfl, d, [(f, v)], upd_same, by rw [upd_ne ne, upd_same], by rw [upd_ne ne] at hd; exact hd, ?_⟩⟩⟩
  have hd0 : H d = none := by rw [upd_ne ne] at hd; exact hd
  rw [bad_heap ha ne]
  exact q d hd0
end Mc
namespace Mc
open PySem L2 PySem.Spec PyProof.Rows
/-! ### data that can be compared, equal to itself -/
structure DOk (n : Nat) (d : PyData) : Prop where
  lay : d.canLay0 = true
  dep : d.depth ≤ n
  eq : PyData.eqv d d = true
theorem DOk.mono {n m : Nat} {d : PyData} (h : DOk n d) (k : n ≤ m) : DOk m d := ⟨h.lay, Nat.le_trans h.dep k, h.eq⟩
theorem DOk.non {n : Nat} : DOk n .none := ⟨rfl, by rw [PyData.depth]; exact Nat.zero_le _, by rw [PyData.eqv]⟩
theorem DOk.int {n : Nat} {i : Int} : DOk n (.int i) := ⟨rfl, by rw [PyData.depth]; exact Nat.zero_le _, by rw [PyData.eqv]; exact beq_self_eq_true i⟩
theorem DOk.str {n : Nat} {x : PySem.Str} (h : PyData.canLay0 (.str x) = true) : DOk n (.str x) := ⟨h, by rw [PyData.depth]; exact Nat.zero_le _, by rw [PyData.eqv]; exact beq_self_eq_true x⟩
theorem lays {n : Nat} : ∀ {ds : List PyData}, (∀ d ∈ ds, DOk n d) → PyData.canLayAll0 ds = true
  | [], _ => rfl
  | d :: ds, h => by
    show (PyData.canLay0 d && PyData.canLayAll0 ds) = true
    rw [(h d (by simp)).lay, lays fun x hx => h x (by simp [hx])]
    rfl
theorem deps {n : Nat} : ∀ {ds : List PyData}, (∀ d ∈ ds, DOk n d) → PyData.depthAll ds ≤ n
  | [], _ => Nat.zero_le _
  | d :: ds, h => by
    show max (PyData.depth d) (PyData.depthAll ds) ≤ n
    exact Nat.max_le.mpr ⟨(h d (by simp)).dep, deps fun x hx => h x (by simp [hx])⟩
theorem eqs {n : Nat} : ∀ {ds : List PyData}, (∀ d ∈ ds, DOk n d) → PyData.eqvAll ds ds = true
  | [], _ => rfl
  | d :: ds, h => by
    show (PyData.eqv d d && PyData.eqvAll ds ds) = true
    rw [(h d (by simp)).eq, eqs fun x hx => h x (by simp [hx])]
    rfl
theorem DOk.tup {n : Nat} {ds : List PyData} (h : ∀ d ∈ ds, DOk n d) : DOk (n + 1) (.tuple ds) :=
  ⟨by rw [PyData.canLay0]; exact lays h, by rw [PyData.depth]; exact Nat.succ_le_succ (deps h), by rw [PyData.eqv]; exact eqs h⟩
theorem DOk.lst {n : Nat} {ds : List PyData} (h : ∀ d ∈ ds, DOk n d) : DOk (n + 1) (.list ds) :=
  ⟨by rw [PyData.canLay0]; exact lays h, by rw [PyData.depth]; exact Nat.succ_le_succ (deps h), by rw [PyData.eqv]; exact eqs h⟩
theorem DOk.shaped {n : Nat} {d : PyData} (h : DOk n d) (k : n ≤ 64 := by decide) : SeqAt.shaped d = true := by
  unfold SeqAt.shaped
  rw [h.lay, decide_eq_true (Nat.le_trans h.dep k)]
  rfl
/-- two data of one form that are equal -/
theorem eqv_tup2 (a b c d : Int) : PyData.eqv (.tuple [.int a, .int b]) (.tuple [.int c, .int d]) = decide ((a, b) = (c, d)) := by
  rw [PyData.eqv]
  show (PyData.eqv (.int a) (.int c) && (PyData.eqv (.int b) (.int d) && true)) = _
  rw [PyData.eqv, PyData.eqv, Bool.and_true]
  by_cases h1 : a = c <;> by_cases h2 : b = d <;> simp [h1, h2]
theorem dpA1 {K : PySem.W.Frag} {H : Hp} {v : V} {d : PyData} (h : Dp K H v d) : DpAll K H [v] [d] := .cons h .nil
theorem dpA2 {K : PySem.W.Frag} {H : Hp} {v u : V} {d e : PyData} (h : Dp K H v d) (k : Dp K H u e) : DpAll K H [v, u] [d, e] := .cons h (.cons k .nil)
theorem neD_same {K : PySem.W.Frag} {H : Hp} {n : Nat} {x y : V} {d : PyData} {Q : VK} (ok : DOk n d) (hn : n ≤ 64) (h1 : Dp K H x d) (h2 : Dp K H y d) (q : Q (.bl false) H) : rNeD K x y H Q :=
  ⟨d, d, h1, h2, ok.shaped hn, ok.shaped hn, by rw [ok.eq]; exact q⟩
theorem eqD_same {K : PySem.W.Frag} {H : Hp} {n : Nat} {x y : V} {d : PyData} {Q : VK} (ok : DOk n d) (hn : n ≤ 64) (h1 : Dp K H x d) (h2 : Dp K H y d) (q : Q (.bl true) H) : rEqD K x y H Q :=
  ⟨d, d, h1, h2, ok.shaped hn, ok.shaped hn, by rw [ok.eq]; exact q⟩
theorem okInts (ns : List Int) : DOk 1 (pdI ns) := DOk.lst fun d hd => by
  obtain ⟨i, _, rfl⟩ := List.mem_map.mp hd
  exact DOk.int
end Mc
namespace Mc
open PySem L2 PySem.Spec PyProof.Rows
/-- try: .. except C as n: .., its reading by a name -/
def tTryAs (K : PySem.W.Frag) (c : Value) (i : Nat) (tb : WX → TS) (ts : Addr → Value → Option Addr → TS) (Wout : WX) : TS := fun D σ H => tb (wAs K c i ts Wout D) D σ H
theorem ps_tryAs {X : Cx} {x n : Str} {c : Value} {i : Nat} {body suite : List Stmt} {b₀ : Stmt} {np pos pos' : Pos} {tb : WX → TS} {ts : Addr → Value → Option Addr → TS} {Wout : WX} (hs : X.stack = X.env :: X.outer) (hf : X.env.frame = some X.env.locals) (hN : X.N.Nodup) (hi : X.N[i]? = some n) (hln : X.env.kindOf n = some .local) (hc : Names X x c) (tk : Takes X Wout)
    (hb : ∀ (W : WX) (pn : List (Addr × Obj)) (xe : Value → Shared → Prop), Takes (X.tr pn xe) W → PassesOwn (model X.prog X.w) X.A X.env xe → PSs (X.tr pn xe) body (tb W))
    (hsu : ∀ (a : Addr) (oe : Obj) (cls : Value) (d : Option Addr) (pn : List (Addr × Obj)), Zc cls d oe → (∃ vs, oe.data = .fields vs) → PSs (X.suite a ((a, oe) :: pn)) (b₀ :: suite) (ts a cls d)) :
    PS X (.Try body [.ExceptHandler (some (.Name x np)) (some n) (b₀ :: suite) pos'] [] [] pos) (tTryAs X.K c i tb ts Wout) := ps_try_as hs hf hN hi hln hc tk hb hsu
end Mc
namespace Mc
open PySem L2 PySem.Spec PyProof.Rows
/-! ### max of a tuple of two ints -/
def rMaxT (K : PySem.W.Frag) : List V → Hp → VK → Prop := fun vs H Q => ∃ (a : Addr) (n m : Int), vs = [V.ref a] ∧ SqT K H a [.int n, .int m] ∧ Q (.int (if n < m then m else n)) H
theorem cr_maxT {X : Cx} (hc : X.calm = true) (hu : X.A.units + 1 < cLine) : CallR X (.builtin "max") (rMaxT X.K) := by
  intro pins s σ H vs us Q I r h
  obtain ⟨a, n, m, rfl, hs, q⟩ := h
  obtain ⟨its, rv, ht, _⟩ := I.tuple hs
  rw [Vals.ref1 r]
  obtain ⟨t, u, rfl⟩ : ∃ t u, its = [.int n t, .int m u] := by
    cases rv with
    | cons r1 rv =>
      cases rv with
      | cons r2 rv =>
        cases rv
        obtain ⟨t, rfl⟩ := r1
        obtain ⟨u, rfl⟩ := r2
        exact ⟨t, u, rfl⟩
  refine PySem.W.max_tuple_datum (α := Int) (x := n) (xs := [m]) (I.ok.hd hc) ht ⟨_, .cons (.int n t) (.cons (.int m u) .nil)⟩ (by show X.A.units + 1 + 0 < cLine; exact hu) fun i v h' tk hi hv hk => ?_
  have e : PySem.W.maxOf n [m] = if n < m then m else n := by
    show (if decide (n < m) = true then m else n) = _
    by_cases z : n < m
    · rw [if_pos z, if_pos (decide_eq_true z)]
    · rw [if_neg z, if_neg (by simp [z])]
  rw [e] at hv
  obtain ⟨as, rd⟩ := hv
  have rd' : Reads h' v (.int (if n < m then m else n)) as := rd
  generalize (if n < m then m else n) = w at rd' q
  cases rd' with
  | int i t => exact ⟨.int _, H, I.kept hk, ⟨_, rfl⟩, q⟩
end Mc
namespace Mc
open PySem L2 PySem.Spec PyProof.Rows
def top (i : Nat) : Stmt := PySem.Challenge.pw_mastcalls_k44_whole_pacing.main.body.getD i (.Pass ⟨0, 0, 0, 0⟩)
/-! ### the draws -/
abbrev sNum : Stmt := top 14
abbrev sTake : Stmt := top 15
def spNum (K : PySem.W.Frag) : Sp := fun vs H Q _ => ∃ (a : Addr) (ns : List Int) (k : Int), vs = [.ref a, .int k] ∧ SqL K H a (ns.map V.int) ∧ ns.length ≤ 63 ∧
  ∀ (v : Int) (H' : Hp), 0 ≤ v → Same H H' → Q (.int v) H'
def spTake (K : PySem.W.Frag) : Sp := fun vs H Q _ => ∃ (M : List Addr) (d a : Addr) (m : Int), vs = [.ref d, .int m] ∧ Dr K M d a H ∧ 0 < m ∧
  ∀ (v : Int) (H' : Hp), 0 ≤ v → v < m → Dr K M d a H' → Kp [d] H H' → Q (.int v) H'
/-- what the draws ask of the module -/
structure TxD (K : PySem.W.Frag) (mg : Str → Option Value) (fN fT : Addr) : Prop where
  len : mg "len" = none
  int : mg "int" = none
  abs : mg "abs" = none
  num : mg "_law_number" = some (.ref fN)
  take : mg "_law_take" = some (.ref fT)
section
variable {P : Program} {w : World} {K : PySem.W.Frag} {mg : Str → Option Value} {base : Heap}
theorem scNum : FnScope ["script", "index", "cell", "blend"] ["script", "index"] (defScope sNum) := ⟨rfl, rfl, rfl, by decide +kernel, rfl, by decide +kernel, by decide +kernel⟩
theorem ok_num {f fN fT : Addr} {fd : FuncData} (F : Fun K "_law_number" "_law_number" sNum f fd) (T : TxD K mg fN fT) : FnOk P w K mg base CX0 1 f fd ["script", "index"] (spNum K) := by
  refine F.ok scNum (fun vs H Q E h => ?_) (fun cdv A outer s H vs Q E hr h => ?_)
  · obtain ⟨a, ns, k, rfl, _⟩ := h
    rfl
  · obtain ⟨a, ns, k, rfl, hS, hl, q⟩ := h
    refine ⟨_, pss_cons (ps_if (pt_cmpR (op_eqD hr.units) (pv 0) (pe_lst pa_nil) (nomark _)) (pss_one (ps_ret (pe_callTy call_int1 (by rfl) T.int boot_int (pa_cons (pe_op op_mod (pe_op op_add (pe_op op_mul (pv 1) pe_int) pe_int) pe_int) pa_nil)))) pss_nil)
      (pss_cons (ps_set (i := 2) scNum.nd rfl (Or.inl rfl) (pe_ix ix_list (pv 0) (pe_op op_mod (pv 1) (pe_callB call_len_seq (by rfl) T.len PySem.boot_len (pa_cons (pv 0) pa_nil))) (fun _ _ => rfl)))
      (pss_cons (ps_if (pt_cmpR op_ge (pe_callB call_abs (by rfl) T.abs boot_abs (pa_cons (pv 2) pa_nil)) (pe_op op_pow pe_int pe_int) (nomark _)) (pss_one (ps_set (i := 2) scNum.nd rfl (Or.inl rfl) (pe_op op_mod (pv 2) (pe_op op_pow pe_int pe_int)))) pss_nil)
      (pss_cons (ps_set (i := 3) scNum.nd rfl (Or.inl rfl) (pe_op op_mod (pe_op op_add (pe_op op_mul (pe_op op_add (pv 2) (pe_op op_mul pe_int (pv 1))) pe_int) (pe_op op_mul pe_int (pe_callB call_len_seq (by rfl) T.len PySem.boot_len (pa_cons (pv 0) pa_nil)))) pe_int))
      (pss_one (ps_ret (pe_callTy call_int1 (by rfl) T.int boot_int (pa_cons (pe_op op_mod (pe_op op_add (pe_op op_mul (pe_op op_mod (pe_op op_mul (pv 3) pe_int) pe_int) pe_int) (pv 1)) pe_int) pa_nil))))))), ?_⟩
    refine ⟨_, rfl, Nat.zero_le _, fun p hp => ?_⟩
    have s1 : Same H (upd H p (.lst [])) := fun b o e => by rw [upd_ne (ne_of_none e hp)]; exact e
    have hS1 := s1.seq hS
    refine ⟨pdI ns, pdI [], dp_ints hS1, dp_ints (SqL.of upd_same), shaped_ints _, shaped_ints _, _, rfl, ?_⟩
    refine ite2 (fun _ => ?_) (fun e => ?_)
    · refine ⟨_, rfl, _, _, rfl, rfl, .inr (by decide), _, _, rfl, rfl, _, _, rfl, rfl, (by show (0 : Int) < _; decide), .inl ⟨_, rfl, ?_⟩⟩
      exact q _ _ (Int.emod_nonneg _ (by decide)) s1
    · have hn : 0 < ns.length := by
        rw [eqv_ints] at e
        cases ns with
        | nil => exact absurd (decide_eq_true rfl) e
        | cons x r => exact Nat.succ_pos _
      have hlen : ((ns.map V.int).length : Int) = (ns.length : Int) := by rw [List.length_map]
      have hlt : (k % (((ns.map V.int).length : Nat) : Int)).toNat < ns.length := by
        have h1 := Int.emod_nonneg k (b := (((ns.map V.int).length : Nat) : Int)) (by omega)
        have h2 := Int.emod_lt_of_pos k (b := (((ns.map V.int).length : Nat) : Int)) (by omega)
        omega
      refine ⟨_, rfl, _, rfl, _, rfl, a, _, rfl, .inl hS1, _, _, rfl, rfl, (by show (0 : Int) < _; omega), a, _, _, V.int ns[(k % (((ns.map V.int).length : Nat) : Int)).toNat], rfl, rfl, hS1, at_of (j := (k % (((ns.map V.int).length : Nat) : Int)).toNat) (by
        have h1 := Int.emod_nonneg k (b := (((ns.map V.int).length : Nat) : Int)) (by omega)
        omega) (by rw [List.getElem?_map, List.getElem?_eq_getElem hlt]; rfl), ?_⟩
      generalize ns[(k % (((ns.map V.int).length : Nat) : Int)).toNat] = c
      refine ⟨_, rfl, _, rfl, _, _, rfl, rfl, ⟨by decide, by decide, by decide⟩, _, _, rfl, rfl, _, rfl, ?_⟩
      refine ite2 (fun _ => ?_) (fun _ => ?_)
      refine ⟨_, rfl, _, _, rfl, rfl, ⟨by decide, by decide, by decide⟩, _, _, rfl, rfl, (by show (0 : Int) < _; decide), ?_⟩
      all_goals
        refine ⟨_, rfl, _, rfl, _, _, rfl, rfl, .inl ⟨by decide, by decide⟩, _, _, rfl, rfl, _, _, rfl, rfl, .inr (by decide), _, rfl, a, _, rfl, .inl hS1, _, _, rfl, rfl, .inl ⟨by decide, by decide⟩, _, _, rfl, rfl, _, _, rfl, rfl, (by show (0 : Int) < _; decide), ?_⟩
        refine ⟨_, rfl, _, _, rfl, rfl, .inr (by decide), _, _, rfl, rfl, (by show (0 : Int) < _; decide), _, _, rfl, rfl, .inr (by decide), _, rfl, _, _, rfl, rfl, _, _, rfl, rfl, (by show (0 : Int) < _; decide), .inl ⟨_, rfl, ?_⟩⟩
        exact q _ _ (Int.emod_nonneg _ (by decide)) s1
theorem scTake : FnScope ["draw", "many"] ["draw", "many"] (defScope sTake) := ⟨rfl, rfl, rfl, by decide +kernel, rfl, by decide +kernel, by decide +kernel⟩
theorem ok_take {f fN fT : Addr} {fd fdN : FuncData} (F : Fun K "_law_take" "_law_take" sTake f fd) (T : TxD K mg fN fT) (FN : Fun K "_law_number" "_law_number" sNum fN fdN) (bN : Binds K fdN ["script", "index"] []) :
    FnOk P w K mg base CX0 2 f fd ["draw", "many"] (spTake K) := by
  have GN : FnOk P w K mg base CX0 1 fN fdN ["script", "index"] (spNum K) := ok_num FN T
  refine F.ok scTake (fun vs H Q E h => ?_) (fun cdv A outer s H vs Q E hr h => ?_)
  · obtain ⟨M, d, a, m, rfl, _⟩ := h
    rfl
  · obtain ⟨M, d, a, m, rfl, D, hm, q⟩ := h
    obtain ⟨⟨k, hd⟩, hM, ns, hl, hs⟩ := id D
    refine ⟨_, pss_cons (ps_augS (pv 0) pe_int get_list pe_int ip_add set_list)
      (pss_one (ps_ret (pe_op op_mod (pe_callTy call_int1 (by rfl) T.int boot_int (pa_cons (pe_call GN hr rfl T.num FN.kp bN .nil pass0 (pa_cons (pe_ix ix_list (pv 0) pe_int (fun _ _ => rfl)) (pa_cons (pe_callTy call_int1 (by rfl) T.int boot_int (pa_cons (pe_ix ix_list (pv 0) pe_int (fun _ _ => rfl)) pa_nil)) pa_nil))) pa_nil)) (pv 1)))), ?_⟩
    refine ⟨_, rfl, d, _, _, .int k, rfl, rfl, SqL.of hd, rfl, _, _, rfl, rfl, d, _, _, 1, rfl, rfl, hd, rfl, ?_⟩
    have hd1 : (upd H d (HO.lst ([V.ref a, V.int k].set 1 (V.int (k + 1))))) d = some (.lst [.ref a, .int (k + 1)]) := upd_same
    have k1 : Kp [d] H (upd H d (HO.lst ([V.ref a, V.int k].set 1 (V.int (k + 1))))) := Kp.at (List.mem_singleton.mpr rfl)
    have up : ∀ b ∈ [d], b ∈ M := fun b z => by rw [List.mem_singleton.mp z]; exact hM
    refine ⟨_, rfl, d, _, _, .ref a, rfl, rfl, SqL.of hd1, rfl, _, rfl, d, _, _, .int (k + 1), rfl, rfl, SqL.of hd1, rfl, .inl ⟨_, rfl, ?_⟩⟩
    refine ⟨a, ns, k + 1, rfl, hs _ (k1.mono up), hl, fun v H' hv s1 => .inl ⟨_, rfl, ?_⟩⟩
    refine ⟨_, rfl, _, _, rfl, rfl, hm, ?_⟩
    have k2 := k1.trans (Kp.same s1)
    exact q _ H' (Int.emod_nonneg _ (by omega)) (Int.emod_lt_of_pos _ hm) (D.next (k2.mono up) (s1 _ _ hd1)) k2
end
/-! ### an end -/
abbrev sEInit : Stmt := inClass (top 2) 0
abbrev sEPut : Stmt := inClass (top 2) 1
abbrev sEFrames : Stmt := inClass (top 2) 2
abbrev sEHear : Stmt := inClass (top 2) 3
def Fr.num (f : Fr) : V := match f.nw with | none => .non | some p => .int p.1
def Fr.word (g : Int → V) (f : Fr) : V := match f.nw with | none => .non | some p => g p.2
def Fr.vs (g : Int → V) (f : Fr) : List V := [.str "frame", f.num, f.word g, .int f.many]
def eF (o t : Addr) (E : ES) : List (Str × V) := [("out", .ref o), ("answered", .int E.ans), ("told", .ref t), ("epoch", .int E.ep)]
structure EndAt (g : Int → V) (C : Addr) (H : Hp) (e o t : Addr) (E : ES) : Prop where
  ob : ∃ dx, H e = some (.ins C dx (eF o t E))
  ho : H o = some (.lst (E.out.map g))
  ht : H t = some (.lst (E.told.map g))
  ne : o ≠ t
def FrAt (g : Int → V) (H : Hp) (a : Addr) (f : Fr) : Prop := H a = some (.tup (f.vs g))
def spEInit (g : Int → V) (C : Addr) : Sp := fun vs H Q _ => ∃ (p dx : Addr), vs = [.ref p] ∧ H p = some (.ins C dx []) ∧ ∀ (o t : Addr) (H' : Hp), H o = none → H t = none → EndAt g C H' p o t ES.new → Kp [p] H H' → Q .non H'
def spEPut (g : Int → V) (C : Addr) : Sp := fun vs H Q _ => ∃ (e o t : Addr) (E : ES) (w : Int), vs = [.ref e, g w] ∧ EndAt g C H e o t E ∧ E.out.length ≤ 1000 ∧ ∀ H' : Hp, EndAt g C H' e o t (E.put w) → Kp [o] H H' → Q .non H'
def spEFrames (g : Int → V) (C : Addr) : Sp := fun vs H Q _ => ∃ (e o t : Addr) (E : ES), vs = [.ref e] ∧ EndAt g C H e o t E ∧ E.ans ≤ E.out.length ∧ E.out.length ≤ 1000 ∧
  ∀ (p : Addr) (as : List Addr) (H' : Hp), H p = none → Same H H' → H' p = some (.tup (as.map V.ref)) → as.length = E.frames.length → (∀ (i : Nat) a f, as[i]? = some a → E.frames[i]? = some f → FrAt g H' a f) → Q (.ref p) H'
def spEHear (g : Int → V) (C : Addr) : Sp := fun vs H Q _ => ∃ (e o t a : Addr) (E : ES) (ep : Int) (f : Fr), vs = [.ref e, .int ep, .ref a] ∧ EndAt g C H e o t E ∧ FrAt g H a f ∧ E.told.length ≤ 1000 ∧ ∀ H' : Hp, EndAt g C H' e o t (E.hear ep f) → Kp [e, t] H H' → Q .non H'
structure TxE (K : PySem.W.Frag) (mg : Str → Option Value) (C : Addr) : Prop where
  cl : Cls K C
  nO : NoAttr K C "out"
  nA : NoAttr K C "answered"
  nT : NoAttr K C "told"
  nE : NoAttr K C "epoch"
  mgC : mg "End" = some (.ref C)
  win : ∃ t, mg "WINDOW" = some (.int 3 t)
  len : mg "len" = none
  min : mg "min" = none
  tuple : mg "tuple" = none
  range : mg "range" = none
section
variable {g : Int → V} {P : Program} {w : World} {K : PySem.W.Frag} {mg : Str → Option Value} {base : Heap}
theorem scEI : FnScope ["self"] ["self"] (defScope sEInit) := ⟨rfl, rfl, rfl, by decide +kernel, rfl, by decide +kernel, by decide +kernel⟩
theorem ok_einit {f C : Addr} {fd : FuncData} (F : Fun K "__init__" "End.__init__" sEInit f fd) (T : TxE K mg C) : FnOk P w K mg base CX0 1 f fd ["self"] (spEInit g C) := by
  refine F.ok scEI (fun vs H Q E h => ?_) (fun cdv A outer s H vs Q E hr h => ?_)
  · obtain ⟨p, dx, rfl, _⟩ := h
    rfl
  · obtain ⟨p, dx, rfl, hp, k⟩ := h
    refine ⟨_, pss_cons (ps_fld (pv 0) (pe_lst pa_nil) rfl) (pss_cons (ps_fld (pv 0) pe_int rfl) (pss_cons (ps_fld (pv 0) (pe_lst pa_nil) rfl) (pss_one (ps_fld (pv 0) pe_int rfl)))), ?_⟩
    refine ⟨Nat.zero_le _, fun o ho => ?_⟩
    have npo : p ≠ o := ne_of_none hp ho
    refine ⟨_, rfl, p, C, dx, [], rfl, (by rw [upd_ne npo]; exact hp), T.cl, T.nO, (by show 0 < 1000; decide), ?_⟩
    refine ⟨_, rfl, p, C, dx, _, rfl, upd_same, T.cl, T.nA, (by show 1 < 1000; decide), ?_⟩
    refine ⟨Nat.zero_le _, fun t ht => ?_⟩
    have npt : p ≠ t := ne_of_none upd_same ht
    have e1 : upd (upd (upd H o (.lst [])) p (.ins C dx (putF "out" (.ref o) []))) p (.ins C dx (putF "answered" (.int 0) (putF "out" (.ref o) []))) o = some (.lst []) := by rw [upd_ne npo.symm, upd_ne npo.symm, upd_same]
    have not_ : o ≠ t := ne_of_none e1 ht
    have ht0 : H t = none := by
      rw [upd_ne npt.symm, upd_ne npt.symm, upd_ne not_.symm] at ht
      exact ht
    refine ⟨_, rfl, p, C, dx, _, rfl, (by rw [upd_ne npt]; exact upd_same), T.cl, T.nT, (by show 2 < 1000; decide), ?_⟩
    refine ⟨_, rfl, p, C, dx, _, rfl, upd_same, T.cl, T.nE, (by show 3 < 1000; decide), ?_⟩
    refine k o t _ ho ht0 ⟨⟨dx, upd_same⟩, ?_, ?_, not_⟩ fun b u e n => ?_
    · rw [upd_ne npo.symm, upd_ne npo.symm, upd_ne not_, upd_ne npo.symm, upd_ne npo.symm, upd_same]
      rfl
    · rw [upd_ne npt.symm, upd_ne npt.symm, upd_same]
      rfl
    · have nb : b ≠ p := fun z => n (List.mem_singleton.mpr z)
      rw [upd_ne nb, upd_ne nb, upd_ne (ne_of_none e ht0), upd_ne nb, upd_ne nb, upd_ne (ne_of_none e ho)]
      exact e
theorem scEP : FnScope ["self", "word"] ["self", "word"] (defScope sEPut) := ⟨rfl, rfl, rfl, by decide +kernel, rfl, by decide +kernel, by decide +kernel⟩
theorem ok_eput {f C : Addr} {fd : FuncData} (F : Fun K "put" "End.put" sEPut f fd) (T : TxE K mg C) : FnOk P w K mg base CX0 1 f fd ["self", "word"] (spEPut g C) := by
  refine F.ok scEP (fun vs H Q E h => ?_) (fun cdv A outer s H vs Q E hr h => ?_)
  · obtain ⟨e, o, t, E, w, rfl, _⟩ := h
    rfl
  · obtain ⟨e, o, t, E, w, rfl, ⟨⟨dx, he⟩, ho, ht, ne⟩, hl, k⟩ := h
    have neo : e ≠ o := ne_of he ho (by intro z; cases z)
    refine ⟨_, pss_one (ps_expr (pe_bm PySem.F.plainAttrs_list PySem.F.slot_list_append PySem.F.type_list_append mt_append (pe_fld (pv 0) rfl) (pa_cons (pv 1) pa_nil))), ?_⟩
    refine ⟨_, rfl, e, C, dx, _, _, rfl, he, T.cl, T.nO, rfl, .inl ⟨rfl, _, SqL.of ho⟩, _, rfl, o, _, _, rfl, rfl, ho, by rw [List.length_map]; exact small1000 hl, ?_⟩
    refine k _ ⟨⟨dx, by rw [upd_ne neo]; exact he⟩, by rw [upd_same]; show _ = some (HO.lst ((E.out ++ [w]).map g)); rw [List.map_append]; rfl, by rw [upd_ne ne.symm]; exact ht, ne⟩ (Kp.at (List.mem_singleton.mpr rfl))
theorem scEH : FnScope ["self", "epoch", "frame", "_", "number", "word", "many"] ["self", "epoch", "frame"] (defScope sEHear) := ⟨rfl, rfl, rfl, by decide +kernel, rfl, by decide +kernel, by decide +kernel⟩
theorem ok_ehear {f C : Addr} {fd : FuncData} (F : Fun K "hear" "End.hear" sEHear f fd) (T : TxE K mg C) : FnOk P w K mg base CX0 1 f fd ["self", "epoch", "frame"] (spEHear g C) := by
  refine F.ok scEH (fun vs H Q E h => ?_) (fun cdv A outer s H vs Q E hr h => ?_)
  · obtain ⟨e, o, t, a, E, ep, fr, rfl, _⟩ := h
    rfl
  · obtain ⟨e, o, t, a, E, ep, fr, rfl, ⟨⟨dx, he⟩, ho, ht, ne⟩, hf, hl, k⟩ := h
    have neo : e ≠ o := ne_of he ho (by intro z; cases z)
    have net : e ≠ t := ne_of he ht (by intro z; cases z)
    have nea : a ≠ e := ne_of hf he (by intro z; cases z)
    refine ⟨_, pss_cons (ps_if (pt_cmpR op_lt (pv 1) (pe_fld (pv 0) rfl) (nomark _)) (pss_one ps_retN) pss_nil)
      (pss_cons (ps_fld (pv 0) (pv 1) rfl)
      (pss_cons (ps_asg (pv 2) (pg_tup rfl (pgs_cons (pg_name (i := 3) scEH.nd rfl (Or.inl rfl)) (pgs_cons (pg_name (i := 4) scEH.nd rfl (Or.inl rfl)) (pgs_cons (pg_name (i := 5) scEH.nd rfl (Or.inl rfl)) (pgs_cons (pg_name (i := 6) scEH.nd rfl (Or.inl rfl)) pgs_nil))))))
      (Evl.pss_cut (ps_if (pt_cmpR op_eq (pv 4) (pe_callB call_len_seq (by rfl) T.len PySem.boot_len (pa_cons (pe_fld (pv 0) rfl) pa_nil)) (nomark _))
        (pss_one (ps_expr (pe_bm PySem.F.plainAttrs_list PySem.F.slot_list_append PySem.F.type_list_append mt_append (pe_fld (pv 0) rfl) (pa_cons (pv 5) pa_nil)))) pss_nil)
      (pss_one (ps_if (pt_chain op_lt op_le (pe_fld (pv 0) rfl) (pv 6) (pe_callB call_len_seq (by rfl) T.len PySem.boot_len (pa_cons (pe_fld (pv 0) rfl) pa_nil))) (pss_one (ps_fld (pv 0) (pv 6) rfl)) pss_nil))))), ?_⟩
    refine ⟨_, rfl, _, rfl, e, C, dx, _, _, rfl, he, T.cl, T.nE, rfl, _, _, rfl, rfl, _, rfl, ?_⟩
    refine ite2 (fun h1 => ?_) (fun h1 => ?_)
    · have h1 : ep < E.ep := of_decide_eq_true h1
      have e1 : E.hear ep fr = E := by unfold ES.hear; rw [if_pos h1]
      exact k H (by rw [e1]; exact ⟨⟨dx, he⟩, ho, ht, ne⟩) (Kp.refl _ _)
    have h1 : ¬ ep < E.ep := fun z => h1 (decide_eq_true z)
    refine ⟨_, rfl, _, rfl, e, C, dx, _, rfl, he, T.cl, T.nE, (by show 4 < 1000; decide), ?_⟩
    have g1 : upd H e (.ins C dx (eF o t { E with ep := ep })) e = some (.ins C dx (eF o t { E with ep := ep })) := upd_same
    have ho1 : upd H e (.ins C dx (eF o t { E with ep := ep })) o = some (.lst (E.out.map g)) := by rw [upd_ne neo.symm]; exact ho
    have ht1 : upd H e (.ins C dx (eF o t { E with ep := ep })) t = some (.lst (E.told.map g)) := by rw [upd_ne net.symm]; exact ht
    have hf1 : upd H e (.ins C dx (eF o t { E with ep := ep })) a = some (.tup (fr.vs g)) := by rw [upd_ne nea]; exact hf
    refine ⟨_, rfl, a, (fr.vs g), rfl, SqT.of hf1, rfl, _, _, rfl, _, _, rfl, _, _, rfl, _, _, rfl, rfl, ?_⟩
    refine ⟨fun σ' H2 => ∃ E2 : ES, σ' = [some (.ref e), some (.int ep), some (.ref a), some (.str "frame"), some fr.num, some (fr.word g), some (.int fr.many)] ∧ H2 e = some (.ins C dx (eF o t E2)) ∧ H2 o = some (.lst (E2.out.map g)) ∧ H2 t = some (.lst (E2.told.map g)) ∧ Kp [e, t] H H2 ∧
      E.hear ep fr = { E2 with ans := if E2.ans < fr.many ∧ fr.many ≤ E2.out.length then fr.many else E2.ans }, ⟨_, rfl, _, rfl, e, C, dx, _, _, rfl, g1, T.cl, T.nT, rfl, t, _, rfl, .inl (SqL.of ht1), (by unfold Fr.num; split <;> rfl), _, rfl, ?_⟩, ?_⟩
    · show (if decide (fr.num = V.int ((E.told.map g).length : Int)) = true then _ else _)
      refine ite2 (fun h2 => ?_) (fun h2 => ?_)
      · have h2 : fr.num = V.int ((E.told.map g).length : Int) := of_decide_eq_true h2
        rw [List.length_map] at h2
        cases hn : fr.nw with
        | none => unfold Fr.num at h2; rw [hn] at h2; cases h2
        | some p =>
          obtain ⟨n, w⟩ := p
          have hw : fr.word g = g w := by unfold Fr.word; rw [hn]
          have e2 : (n : Int) = (E.told.length : Int) := by
            unfold Fr.num at h2; rw [hn] at h2
            exact V.int.inj h2
          have e3 : n = E.told.length := by omega
          refine ⟨_, rfl, e, C, dx, _, _, rfl, g1, T.cl, T.nT, rfl, .inl ⟨rfl, _, SqL.of ht1⟩, _, rfl, t, _, _, rfl, rfl, ht1, by rw [List.length_map]; exact small1000 hl, ?_⟩
          refine ⟨{ E with ep := ep, told := E.told ++ [w] }, rfl, by rw [upd_ne net]; exact g1, by rw [upd_ne ne]; exact ho1, by rw [upd_same, hw, List.map_append]; rfl, ?_, ?_⟩
          · exact (Kp.at (by simp)).trans (Kp.at (by simp))
          · unfold ES.hear; rw [if_neg h1, hn]
            simp only [if_pos e3]
      · have h2 : ¬ fr.num = V.int ((E.told.map g).length : Int) := fun z => h2 (decide_eq_true z)
        rw [List.length_map] at h2
        refine ⟨{ E with ep := ep }, rfl, g1, ho1, ht1, Kp.at (by simp), ?_⟩
        unfold ES.hear; rw [if_neg h1]
        cases hn : fr.nw with
        | none => rfl
        | some p =>
          obtain ⟨n, w⟩ := p
          have e3 : ¬ n = E.told.length := fun z => h2 (by unfold Fr.num; rw [hn, z])
          simp only [if_neg e3]
    · rintro σ' H2 ⟨E2, rfl, q1, q2, q3, kp, eh⟩
      refine ⟨_, rfl, e, C, dx, _, _, rfl, q1, T.cl, T.nA, rfl, _, rfl, _, _, rfl, rfl, _, rfl, ?_⟩
      have fin : ∀ {H3 : Hp} {E3 : ES}, H3 e = some (.ins C dx (eF o t E3)) → H3 o = some (.lst (E3.out.map g)) → H3 t = some (.lst (E3.told.map g)) → Kp [e, t] H H3 → E.hear ep fr = E3 → Q .non H3 := fun a1 a2 a3 a4 a5 => k _ (by rw [a5]; exact ⟨⟨dx, a1⟩, a2, a3, ne⟩) a4
      refine ite2 (fun h3 => ?_) (fun h3 => ?_)
      · have h3 : (E2.ans : Int) < (fr.many : Int) := of_decide_eq_true h3
        refine ⟨_, rfl, e, C, dx, _, _, rfl, q1, T.cl, T.nO, rfl, o, _, rfl, .inl (SqL.of q2), _, _, rfl, rfl, _, rfl, ?_⟩
        refine ite2 (fun h4 => ?_) (fun h4 => ?_)
        · have h4 : (fr.many : Int) ≤ ((E2.out.map g).length : Int) := of_decide_eq_true h4
          rw [List.length_map] at h4
          refine ⟨_, rfl, _, rfl, e, C, dx, _, rfl, q1, T.cl, T.nA, (by show 4 < 1000; decide), ?_⟩
          refine fin (E3 := { E2 with ans := fr.many }) upd_same (by rw [upd_ne neo.symm]; exact q2) (by rw [upd_ne net.symm]; exact q3) (kp.trans (Kp.at (by simp))) (by rw [eh, if_pos ⟨by omega, by omega⟩])
        · have h4 : ¬ (fr.many : Int) ≤ ((E2.out.map g).length : Int) := fun z => h4 (decide_eq_true z)
          rw [List.length_map] at h4
          exact fin (E3 := E2) q1 q2 q3 kp (by rw [eh, if_neg (by omega)])
      · have h3 : ¬ (E2.ans : Int) < (fr.many : Int) := fun z => h3 (decide_eq_true z)
        refine ⟨false, rfl, ?_⟩
        exact fin (E3 := E2) q1 q2 q3 kp (by rw [eh, if_neg (by omega)])
theorem scEF : FnScope ["self", "many", "last", "at"] ["self"] (defScope sEFrames) := ⟨rfl, rfl, rfl, by decide +kernel, rfl, by decide +kernel, by decide +kernel⟩
theorem ok_eframes {f C : Addr} {fd : FuncData} (F : Fun K "frames" "End.frames" sEFrames f fd) (T : TxE K mg C) : FnOk P w K mg base CX0 1 f fd ["self"] (spEFrames g C) := by
  obtain ⟨tw, hwin⟩ := T.win
  refine F.ok scEF (fun vs H Q E h => ?_) (fun cdv A outer s H vs Q E hr h => ?_)
  · obtain ⟨e, o, t, E, rfl, _⟩ := h
    rfl
  · obtain ⟨e, o, t, E, rfl, ⟨⟨dx, he⟩, ho, ht, ne⟩, hl, hsz, k⟩ := h
    refine ⟨_, (pss_cons (ps_set (i := 1) scEF.nd rfl (Or.inr rfl) (pe_callB call_len_seq (by rfl) T.len PySem.boot_len (pa_cons (pe_fld (pv 0) rfl) pa_nil)))
      (pss_cons (ps_set (i := 2) scEF.nd rfl (Or.inl rfl) (pe_callB (call_min2 rfl) (by rfl) T.min boot_min (pa_cons (pe_op op_add (pe_fld (pv 0) rfl) (pe_glob (by rfl) hwin rel_int)) (pa_cons (pe_callB call_len_seq (by rfl) T.len PySem.boot_len (pa_cons (pe_fld (pv 0) rfl) pa_nil)) pa_nil))))
      (pss_cons (ps_if (pt_cmpR op_eq (pe_fld (pv 0) rfl) (pv 2) (nomark _))
        (pss_one (ps_ret (pe_tup (pa_cons (pe_tup (pa_cons pe_str (pa_cons pe_non (pa_cons pe_non (pa_cons (pv 1) pa_nil))))) pa_nil))))
        pss_nil)
      (pss_one (ps_ret (pe_tupleOf (by rfl) T.tuple (pe_lc (own := [("at", 3)]) (g := gName 3) (tt := tYes) rfl scEF.nd (pi_range2 (by rfl) T.range (pa_cons (pe_fld (pv 0) rfl) (pa_cons (pv 2) pa_nil))) (blkOk_by (own := [("at", 3)]) (N := ["self", "many", "last", "at"]) (sc := defScope sEFrames) (by decide +kernel)) (fun _ _ _ _ _ => pg_name (i := 3) scEF.nd rfl (Or.inl rfl)) (fun _ _ _ _ _ => pts_nil) (fun _ _ _ _ _ => (pe_tup (pa_cons pe_str (pa_cons (pv 3) (pa_cons (pe_ix (ix_listK (K := K) rfl) (pe_fldK (K := K) rfl (pv 0) rfl) (pv 3) (fun _ _ => rfl)) (pa_cons (pv 1) pa_nil))))))))))))), ?_⟩
    refine ⟨_, rfl, e, C, dx, _, _, rfl, he, T.cl, T.nT, rfl, t, _, rfl, .inl (SqL.of ht), ?_⟩
    rw [List.length_map]
    refine ⟨_, rfl, e, C, dx, _, _, rfl, he, T.cl, T.nA, rfl, _, _, rfl, rfl, _, rfl, e, C, dx, _, _, rfl, he, T.cl, T.nO, rfl, o, _, rfl, .inl (SqL.of ho), _, _, rfl, ?_⟩
    rw [List.length_map]
    have hlast : (if (E.out.length : Int) < (E.ans : Int) + 3 then (E.out.length : Int) else (E.ans : Int) + 3) = (E.last : Int) := by
      unfold ES.last
      split <;> omega
    rw [hlast]
    refine ⟨_, rfl, e, C, dx, _, _, rfl, he, T.cl, T.nA, rfl, _, rfl, rfl, _, rfl, ?_⟩
    refine ite2 (fun h1 => ?_) (fun h1 => ?_)
    · have h1 : V.int (E.ans : Int) = V.int (E.last : Int) := of_decide_eq_true h1
      have h2 : E.ans = E.last := Int.ofNat.inj (V.int.inj h1)
      have hfr : E.frames = [⟨none, E.told.length⟩] := by unfold ES.frames; rw [if_pos h2]
      refine ⟨_, rfl, (by show 4 ≤ sizeLine; decide), fun a ha => ⟨(by show 1 ≤ sizeLine; decide), fun p hp => ?_⟩⟩
      have hp0 : H p = none := by
        cases q : H p with
        | none => rfl
        | some u => rw [upd_ne (ne_of_none q ha)] at hp; rw [q] at hp; cases hp
      have nap : a ≠ p := ne_of_none upd_same hp
      refine k p [a] _ hp0 (fun b u z => by rw [upd_ne (ne_of_none z hp0), upd_ne (ne_of_none z ha)]; exact z) upd_same (by rw [hfr]; rfl) fun i a' f' e1 e2 => ?_
      rw [hfr] at e2
      match i, e1, e2 with
      | 0, e1, e2 =>
        cases Option.some.inj e1
        cases Option.some.inj e2
        show upd (upd H a _) p _ a = _
        rw [upd_ne nap]
        exact upd_same
      | i + 1, e1, _ => simp at e1
    · have h1 : ¬ V.int (E.ans : Int) = V.int (E.last : Int) := fun z => h1 (decide_eq_true z)
      have h2 : ¬ E.ans = E.last := fun z => h1 (by rw [← z])
      have hlo : E.last ≤ E.out.length := Nat.min_le_right _ _
      have hfr : E.frames = (List.range (E.last - E.ans)).map fun i => ⟨some (E.ans + i, E.out.getD (E.ans + i) 0), E.told.length⟩ := by unfold ES.frames; rw [if_neg h2]
      refine ⟨_, rfl, e, C, dx, _, _, rfl, he, T.cl, T.nA, rfl, _, rfl, _, _, rfl, ⟨by omega, by omega, by omega, by omega⟩, fun D hD => ?_⟩
      have en : ((E.last : Int) - (E.ans : Int)).toNat = E.last - E.ans := by omega
      rw [en]
      refine lc_range (lo := (E.ans : Int)) (n := E.last - E.ans) (fun i H2 => ∃ as : List Addr, as.length = i ∧ Same H H2 ∧ H2 D = some (.lst (as.map V.ref)) ∧ ∀ (j : Nat) a, as[j]? = some a → FrAt g H2 a ⟨some (E.ans + j, E.out.getD (E.ans + j) 0), E.told.length⟩)
        ⟨[], rfl, fun b u z => by rw [upd_ne (ne_of_none z hD)]; exact z, upd_same, fun j a z => by simp at z⟩ ?_ ?_
      · rintro i H2 hi ⟨as, hla, s2, hd2, hat⟩
        have hx : E.ans + i < E.out.length := by omega
        refine ⟨rfl, _, rfl, _, rfl, e, C, dx, _, _, rfl, s2 _ _ he, T.cl, T.nO, rfl, _, rfl, o, _, _, g (E.out.getD (E.ans + i) 0), rfl, rfl, SqL.of (s2 _ _ ho), at_of (j := E.ans + i) (by omega) (by rw [List.getElem?_map, List.getD_eq_getElem?_getD, List.getElem?_eq_getElem hx]; rfl), _, rfl, (by show 4 ≤ sizeLine; decide), fun a ha => ?_⟩
        have naD : D ≠ a := ne_of_none hd2 ha
        refine ⟨as.map V.ref, by rw [upd_ne naD]; exact hd2, small1000 (by rw [List.length_map]; have : E.last ≤ E.ans + 3 := Nat.min_le_left _ _; omega), as ++ [a], by rw [List.length_append, hla]; rfl, fun b u z => ?_, by rw [upd_same, List.map_append]; rfl, fun j a' z => ?_⟩
        · rw [upd_ne (ne_of_none z hD), upd_ne (ne_of_none (s2 _ _ z) ha)]
          exact s2 _ _ z
        · by_cases hj : j < as.length
          · rw [List.getElem?_append_left hj] at z
            have q := hat j a' z
            show upd _ D _ a' = _
            rw [upd_ne (fun w => by rw [w] at q; rw [q] at hd2; cases hd2), upd_ne (ne_of_none q ha)]
            exact q
          · have ej : j = as.length := by
              have := (List.getElem?_eq_some_iff.mp z).1
              rw [List.length_append] at this
              simp at this
              omega
            subst ej
            rw [List.getElem?_append_right (Nat.le_refl _), Nat.sub_self] at z
            cases Option.some.inj z
            show upd _ D _ a = _
            rw [upd_ne naD.symm, upd_same, hla]
            show some (HO.tup [V.str "frame", V.int ((E.ans : Int) + (i : Int)), g (E.out.getD (E.ans + i) 0), V.int (E.told.length : Int)]) = some (HO.tup [V.str "frame", V.int ((E.ans + i : Nat) : Int), g (E.out.getD (E.ans + i) 0), V.int (E.told.length : Int)])
            rw [Int.natCast_add]
      · rintro H2 ⟨as, hla, s2, hd2, hat⟩
        refine .inl ⟨D, _, rfl, SqL.of hd2, fun p hp => ?_⟩
        refine k p as _ (s2.free hp) (fun b u z => by rw [upd_ne (ne_of_none (s2 _ _ z) hp)]; exact s2 _ _ z) upd_same (by rw [hfr, List.length_map, List.length_range, hla]) fun j a f e1 e2 => ?_
        have q := hat j a e1
        rw [hfr, List.getElem?_map] at e2
        have hj : j < E.last - E.ans := by rw [← hla]; exact (List.getElem?_eq_some_iff.mp e1).1
        rw [List.getElem?_range hj] at e2
        cases Option.some.inj e2
        show upd H2 p _ a = _
        rw [upd_ne (ne_of_none q hp)]
        exact q
end
end Mc
namespace Mc
open PySem L2 PySem.Spec PyProof.Rows
/-! ### tuples stay -/
def Tp (H H' : Hp) : Prop := ∀ b xs, H b = some (.tup xs) → H' b = some (.tup xs)
theorem Tp.refl (H : Hp) : Tp H H := fun _ _ e => e
theorem Tp.trans {A B C : Hp} (a : Tp A B) (b : Tp B C) : Tp A C := fun x y e => b x y (a x y e)
theorem Tp.same {H H' : Hp} (s : Same H H') : Tp H H' := fun b xs e => s b _ e
theorem Tp.at {H : Hp} {a : Addr} {o o' : HO} (h : H a = some o) (n : ∀ xs, o ≠ .tup xs) : Tp H (upd H a o') := fun b xs e => by
  rw [upd_ne (ne_of e h fun z => n xs z.symm)]
  exact e
theorem Tp.new {H : Hp} {a : Addr} {o : HO} (h : H a = none) : Tp H (upd H a o) := fun b xs e => by
  rw [upd_ne (ne_of_none e h)]
  exact e
theorem Same.new {H : Hp} {a : Addr} {o : HO} (h : H a = none) : Same H (upd H a o) := fun b xs e => by
  rw [upd_ne (ne_of_none e h)]
  exact e
theorem Same.tr {A B C : Hp} (a : Same A B) (b : Same B C) : Same A C := fun x y e => b x y (a x y e)
/-! ### rows of tuples -/
def TT (F : Hp → Addr → α → Prop) (H : Hp) (t : Addr) (rs : List α) : Prop := ∃ as : List Addr, H t = some (.tup (as.map V.ref)) ∧ Paired (F H) as rs
def LL (F : Hp → Addr → α → Prop) (H : Hp) (t : Addr) (rs : List α) : Prop := ∃ as : List Addr, H t = some (.lst (as.map V.ref)) ∧ Paired (F H) as rs
def Stay (F : Hp → Addr → α → Prop) : Prop := ∀ {H H' : Hp} {a : Addr} {x : α}, Tp H H' → F H a x → F H' a x
theorem Paired.app {α β : Type} {F : α → β → Prop} : ∀ {a : List α} {b : List β} {c : List α} {d : List β}, Paired F a b → Paired F c d → Paired F (a ++ c) (b ++ d)
  | _, _, _, _, .nil, h => h
  | _, _, _, _, .cons r t, h => .cons r (Paired.app t h)
theorem Paired.tk {α β : Type} {F : α → β → Prop} : ∀ {a : List α} {b : List β} (n : Nat), Paired F a b → Paired F (a.take n) (b.take n)
  | _, _, 0, _ => by rw [List.take_zero, List.take_zero]; exact .nil
  | _, _, n + 1, .nil => .nil
  | _, _, n + 1, .cons r t => .cons r (Paired.tk n t)
theorem Paired.dr {α β : Type} {F : α → β → Prop} : ∀ {a : List α} {b : List β} (n : Nat), Paired F a b → Paired F (a.drop n) (b.drop n)
  | _, _, 0, h => h
  | _, _, n + 1, .nil => .nil
  | _, _, n + 1, .cons _ t => Paired.dr n t
theorem Paired.ix {α β : Type} {F : α → β → Prop} : ∀ {a : List α} {b : List β} {n : Nat} {y : β}, Paired F a b → b[n]? = some y → ∃ x, a[n]? = some x ∧ F x y
  | _, _, 0, _, .cons r t, h => by cases h; exact ⟨_, rfl, r⟩
  | _, _, n + 1, _, .cons r t, h => Paired.ix t (n := n) h
  | _, _, n, y, .nil, h => by simp at h
theorem Paired.ix' {α β : Type} {F : α → β → Prop} : ∀ {a : List α} {b : List β} {n : Nat} {x : α}, Paired F a b → a[n]? = some x → ∃ y, b[n]? = some y ∧ F x y
  | _, _, 0, _, .cons r t, h => by cases h; exact ⟨_, rfl, r⟩
  | _, _, n + 1, _, .cons r t, h => Paired.ix' t (n := n) h
  | _, _, n, y, .nil, h => by simp at h
section
variable {α : Type} {F : Hp → Addr → α → Prop} {H H' : Hp} {t : Addr} {rs : List α}
theorem TT.stay (hF : Stay F) (h : Tp H H') (x : TT F H t rs) : TT F H' t rs := by
  obtain ⟨as, e, p⟩ := x
  exact ⟨as, h _ _ e, Paired.mapP p fun _ _ => hF h⟩
theorem LL.stay (hF : Stay F) (h : Tp H H') (e2 : ∀ o, H t = some o → H' t = some o) (x : LL F H t rs) : LL F H' t rs := by
  obtain ⟨as, e, p⟩ := x
  exact ⟨as, e2 _ e, Paired.mapP p fun _ _ => hF h⟩
theorem LL.same (hF : Stay F) (h : Same H H') (x : LL F H t rs) : LL F H' t rs := LL.stay hF (Tp.same h) (fun o e => h _ o e) x
theorem TT.same (hF : Stay F) (h : Same H H') (x : TT F H t rs) : TT F H' t rs := TT.stay hF (Tp.same h) x
end
theorem TT.len {α : Type} {F : Hp → Addr → α → Prop} {H : Hp} {rs : List α} {as : List Addr} (p : Paired (F H) as rs) : (as.map V.ref).length = rs.length := by rw [List.length_map]; exact Paired.length p
theorem tIfS_of {tt : L2.TT} {ta tb : TS} {D : Ends} {σ : L2.St} {H : Hp} {b : Bool} (h : ∀ Kk : Bool → Hp → Prop, (∀ H', Same H H' → Kk b H') → tt σ H Kk) (q : ∀ H', Same H H' → if b = true then ta D σ H' else tb D σ H') : tIfS tt ta tb D σ H := h _ q
theorem atN {α : Type} {xs : List α} {i : Int} {j : Nat} {v : α} (e : i = (j : Int)) (h : xs[j]? = some v) : atI xs i = some v := by subst e; exact atI_nat h
end Mc
namespace Mc
open PySem L2 PySem.Spec PyProof.Rows
def spIsN : Sp := fun vs H Q _ => ∃ (x : V) (lo hi : Int), vs = [x, .int lo, .int hi] ∧ ((∃ n : Int, x = .int n ∧ Q (.bl (decide (lo ≤ n) && decide (n ≤ hi))) H) ∨ (∃ z, x = .str z ∧ Q (.bl false) H))
abbrev sIsN : Stmt := top 7
structure TxI (mg : Str → Option Value) : Prop where
  isi : mg "isinstance" = none
  int : mg "int" = none
  bool : mg "bool" = none
section
variable {P : Program} {w : World} {K : PySem.W.Frag} {mg : Str → Option Value} {base : Heap}
theorem scIsN : FnScope ["thing", "low", "high"] ["thing", "low", "high"] (defScope sIsN) := ⟨rfl, rfl, rfl, by decide +kernel, rfl, by decide +kernel, by decide +kernel⟩
theorem ok_isn {f : Addr} {fd : FuncData} (F : Fun K "is_number" "is_number" sIsN f fd) (T : TxI mg) : FnOk P w K mg base CX0 1 f fd ["thing", "low", "high"] spIsN := by
  refine F.ok scIsN (fun vs H Q E h => ?_) (fun cdv A outer s H vs Q E hr h => ?_)
  · obtain ⟨x, lo, hi, rfl, _⟩ := h
    rfl
  · obtain ⟨x, lo, hi, rfl, h⟩ := h
    refine ⟨_, (pss_one (ps_ret (pe_and (pe_callB call_isi (by rfl) T.isi boot_isinstance (pa_cons (pv 0) (pa_cons (pe_bltn (v := .ty "int") (by rfl) T.int boot_int rfl) pa_nil))) (pe_and (pe_not (pe_callB call_isi (by rfl) T.isi boot_isinstance (pa_cons (pv 0) (pa_cons (pe_bltn (v := .ty "bool") (by rfl) T.bool (by rfl) rfl) pa_nil)))) (pe_one (pe_chain op_le op_le (pv 1) (pv 0) (pv 2))))))), ?_⟩
    rcases h with ⟨n, rfl, q⟩ | ⟨z, rfl, q⟩
    · refine ⟨_, rfl, _, _, _, _, _, rfl, .ty "int", .base (.int _), by rfl, true, rfl, _, rfl, _, _, _, _, _, rfl, .ty "bool", .base (.int _), by rfl, false, rfl, true, rfl, ?_⟩
      refine ⟨_, rfl, _, rfl, _, _, rfl, rfl, _, rfl, ?_⟩
      refine ite2 (fun h => ?_) (fun h => ?_)
      · refine ⟨_, rfl, _, _, rfl, rfl, ?_⟩
        rw [decide_eq_true (of_decide_eq_true h)] at q
        exact q
      · rw [Bool.eq_false_iff.mpr h] at q
        exact q
    · exact ⟨_, rfl, _, _, _, _, _, rfl, .ty "int", .base (.str _), by rfl, false, rfl, q⟩
end
structure TxB (K : PySem.W.Frag) (mg : Str → Option Value) (CB : Addr) : Prop where
  T : OexB K CB
  mg : mg "BadName" = some (.ref CB)
def CalB (P : Program) (w : World) (K : PySem.W.Frag) (mg : Str → Option Value) (base : Heap) (CB : Addr) (f : Str) : Prop :=
  ∃ (fI : Addr) (fd : FuncData), PySem.W.findIn K (.ref CB) "__init__" = some (some (.ref fI)) ∧ PySem.W.isFn K (.ref fI) = true ∧ Binds K fd ["self", f] [] ∧ FnOk P w K mg base CX0 1 fI fd ["self", f] (spBadI CB f)
def numV (x : V) (lo hi : Int) : Option Bool := match x with
  | .int n => some (decide (lo ≤ n) && decide (n ≤ hi))
  | .str _ => some false
  | _ => none
theorem isN_of {x : V} {lo hi : Int} {b : Bool} {H : Hp} {Q : VK} {E : XK} (h : numV x lo hi = some b) (q : Q (.bl b) H) : spIsN [x, .int lo, .int hi] H Q E := by
  cases x with
  | int n => cases Option.some.inj h; exact ⟨_, _, _, rfl, .inl ⟨n, rfl, q⟩⟩
  | str z => cases Option.some.inj h; exact ⟨_, _, _, rfl, .inr ⟨z, rfl, q⟩⟩
  | _ => cases h
theorem isN_or {x : V} {lo hi : Int} {b : Bool} {H : Hp} {Q : VK} (h : numV x lo hi = some b) (q : Q (.bl b) H) : (∃ n : Int, x = .int n ∧ Q (.bl (decide (lo ≤ n) && decide (n ≤ hi))) H) ∨ (∃ z, x = .str z ∧ Q (.bl false) H) := by
  cases x with
  | int n => cases Option.some.inj h; exact .inl ⟨n, rfl, q⟩
  | str z => cases Option.some.inj h; exact .inr ⟨z, rfl, q⟩
  | _ => cases h
end Mc
namespace Mc
open PySem L2 PySem.Spec PyProof.Rows
/-! ### two ends by a clock, as data -/
structure FlR where
  due : Nat
  goal : Nat
  f : Fr
structure PS where
  E : Nat → ES
  t : Nat
  r : Nat → Nat
  fl : List FlR
def setN (f : Nat → Nat) (i v : Nat) : Nat → Nat := fun j => if j = i then v else f j
def lts (fl : List FlR) : List Lt := fl.map fun x => ⟨x.goal, 1, x.f⟩
def PS.send (S : PS) (i due : Nat) : PS := { S with fl := S.fl ++ (S.E i).frames.map fun f => ⟨due, 1 - i, f⟩ }
def hear1 (E : Nat → ES) (x : FlR) : Nat → ES := setE E x.goal ((E x.goal).hear 1 x.f)
def hearAll (E : Nat → ES) (xs : List FlR) : Nat → ES := xs.foldl hear1 E
def PS.wish (L : Nat) (S : PS) (i : Nat) (w : Bool × Nat) : PS := if w.1 = true ∧ S.r i < L then { S with r := setN S.r i (S.r i + 1) } else PS.send { S with r := setN S.r i 0 } i (S.t + w.2)
def PS.hearF (S : PS) : PS := { S with E := hearAll S.E (S.fl.filter fun x => decide (x.due = S.t)), fl := S.fl.filter fun x => decide (S.t < x.due) }
def PS.next (S : PS) : PS := PS.hearF { S with t := S.t + 1 }
def PS.tick (L : Nat) (S : PS) (w : (Bool × Nat) × (Bool × Nat)) : PS := ((S.wish L 0 w.1).wish L 1 w.2).next
def PS.run (L : Nat) (S : PS) (ws : List ((Bool × Nat) × (Bool × Nat))) : PS := ws.foldl (PS.tick L) S
def okW (D : Nat) (w : (Bool × Nat) × (Bool × Nat)) : Prop := 1 ≤ w.1.2 ∧ w.1.2 ≤ D ∧ 1 ≤ w.2.2 ∧ w.2.2 ≤ D
/-- what is always so -/
structure JP (L : Nat) (S : PS) : Prop where
  jj : JJ S.E (lts S.fl) 1
  due : ∀ x ∈ S.fl, S.t < x.due
  rl : ∀ i, S.r i ≤ L
theorem lts_app (a b : List FlR) : lts (a ++ b) = lts a ++ lts b := List.map_append
theorem lts_sub {a b : List FlR} (h : ∀ x ∈ a, x ∈ b) : ∀ x ∈ lts a, x ∈ lts b := by
  intro x hx
  obtain ⟨y, hy, rfl⟩ := List.mem_map.mp hx
  exact List.mem_map.mpr ⟨y, h y hy, rfl⟩
theorem hear1_out (E : Nat → ES) (x : FlR) (j : Nat) : (hear1 E x j).out = (E j).out := by
  unfold hear1 setE; split
  · rename_i h; rw [h, hear_out]
  · rfl
theorem hear1_told (E : Nat → ES) (x : FlR) (j : Nat) : (E j).told.length ≤ (hear1 E x j).told.length := by
  unfold hear1 setE; split
  · rename_i h; rw [h]; exact hear_len _ _ _
  · exact Nat.le_refl _
theorem hear1_ans (E : Nat → ES) (x : FlR) (j : Nat) : (E j).ans ≤ (hear1 E x j).ans := by
  unfold hear1 setE; split
  · rename_i h; rw [h]; exact hear_ans _ _ _
  · exact Nat.le_refl _
theorem hearAll_out : ∀ (xs : List FlR) (E : Nat → ES) (j : Nat), (hearAll E xs j).out = (E j).out
  | [], _, _ => rfl
  | x :: xs, E, j => (hearAll_out xs (hear1 E x) j).trans (hear1_out E x j)
theorem hearAll_told : ∀ (xs : List FlR) (E : Nat → ES) (j : Nat), (E j).told.length ≤ (hearAll E xs j).told.length
  | [], _, _ => Nat.le_refl _
  | x :: xs, E, j => Nat.le_trans (hear1_told E x j) (hearAll_told xs (hear1 E x) j)
theorem hearAll_ans : ∀ (xs : List FlR) (E : Nat → ES) (j : Nat), (E j).ans ≤ (hearAll E xs j).ans
  | [], _, _ => Nat.le_refl _
  | x :: xs, E, j => Nat.le_trans (hear1_ans E x j) (hearAll_ans xs (hear1 E x) j)
theorem JJ.hear1 {E : Nat → ES} {ls : List Lt} (J : JJ E ls 1) {x : FlR} (h : (⟨x.goal, 1, x.f⟩ : Lt) ∈ ls) : JJ (Mc.hear1 E x) ls 1 := J.hear h
theorem JJ.hearAll : ∀ {xs : List FlR} {E : Nat → ES} {ls : List Lt}, JJ E ls 1 → (∀ x ∈ xs, (⟨x.goal, 1, x.f⟩ : Lt) ∈ ls) → JJ (Mc.hearAll E xs) ls 1
  | [], _, _, J, _ => J
  | x :: xs, E, ls, J, h => JJ.hearAll (xs := xs) (J.hear1 (h x List.mem_cons_self)) fun y hy => h y (List.mem_cons_of_mem _ hy)
theorem JP.wish {L : Nat} {S : PS} (J : JP L S) {i : Nat} (hi : i < 2) {w : Bool × Nat} (hw : 1 ≤ w.2) : JP L (S.wish L i w) := by
  unfold PS.wish
  split
  · rename_i h
    refine ⟨J.jj, J.due, fun j => ?_⟩
    show setN S.r i (S.r i + 1) j ≤ L
    unfold setN
    split
    · omega
    · exact J.rl j
  · refine ⟨?_, fun x hx => ?_, fun j => ?_⟩
    · show JJ S.E (lts (S.fl ++ (S.E i).frames.map fun f => ⟨S.t + w.2, 1 - i, f⟩)) 1
      rw [lts_app]
      have := J.jj.send hi
      unfold lts at this ⊢
      rw [List.map_map]
      exact this
    · show S.t < x.due
      rcases List.mem_append.mp hx with h | h
      · exact J.due x h
      · obtain ⟨f, _, rfl⟩ := List.mem_map.mp h
        show S.t < S.t + w.2
        omega
    · show setN S.r i 0 j ≤ L
      unfold setN
      split
      · omega
      · exact J.rl j
theorem wish_t {L : Nat} {S : PS} {i : Nat} {w : Bool × Nat} : (S.wish L i w).t = S.t := by unfold PS.wish; split <;> rfl
theorem wish_E {L : Nat} {S : PS} {i : Nat} {w : Bool × Nat} : (S.wish L i w).E = S.E := by unfold PS.wish; split <;> rfl
theorem wish_r {L : Nat} {S : PS} {i j : Nat} {w : Bool × Nat} (h : j ≠ i) : (S.wish L i w).r j = S.r j := by
  unfold PS.wish; split
  · show setN S.r i _ j = _
    unfold setN; rw [if_neg h]
  · show setN S.r i _ j = _
    unfold setN; rw [if_neg h]
theorem wish_fl {L : Nat} {S : PS} {i : Nat} {w : Bool × Nat} : ∃ xs, (S.wish L i w).fl = S.fl ++ xs := by
  unfold PS.wish; split
  · exact ⟨[], (List.append_nil _).symm⟩
  · exact ⟨_, rfl⟩
theorem JP.next {L : Nat} {S : PS} (J : JP L S) : JP L S.next := by
  refine ⟨?_, fun x hx => ?_, J.rl⟩
  · have h : JJ (Mc.hearAll S.E (S.fl.filter fun x => decide (x.due = S.t + 1))) (lts S.fl) 1 := J.jj.hearAll fun x hx => List.mem_map.mpr ⟨x, (List.mem_filter.mp hx).1, rfl⟩
    exact h.sub (lts_sub fun x hx => (List.mem_filter.mp hx).1)
  · exact of_decide_eq_true (List.mem_filter.mp hx).2
theorem JP.tick {L D : Nat} {S : PS} (J : JP L S) {w : (Bool × Nat) × (Bool × Nat)} (hw : okW D w) : JP L (S.tick L w) := ((J.wish (by decide) hw.1).wish (by decide) hw.2.2.1).next
theorem tick_out {L : Nat} {S : PS} {w : (Bool × Nat) × (Bool × Nat)} (j : Nat) : ((S.tick L w).E j).out = (S.E j).out := by
  show (hearAll _ _ j).out = _
  rw [hearAll_out]
  show (((S.wish L 0 w.1).wish L 1 w.2).E j).out = _
  rw [wish_E, wish_E]
theorem tick_t {L : Nat} {S : PS} {w : (Bool × Nat) × (Bool × Nat)} : (S.tick L w).t = S.t + 1 := by
  show ((S.wish L 0 w.1).wish L 1 w.2).t + 1 = _
  rw [wish_t, wish_t]
theorem tick_told {L : Nat} {S : PS} {w : (Bool × Nat) × (Bool × Nat)} (j : Nat) : (S.E j).told.length ≤ ((S.tick L w).E j).told.length := by
  have h := hearAll_told ((((S.wish L 0 w.1).wish L 1 w.2).fl).filter fun x => decide (x.due = ((S.wish L 0 w.1).wish L 1 w.2).t + 1)) ((S.wish L 0 w.1).wish L 1 w.2).E j
  rw [wish_E, wish_E] at h
  have e : (S.tick L w).E = hearAll S.E ((((S.wish L 0 w.1).wish L 1 w.2).fl).filter fun x => decide (x.due = ((S.wish L 0 w.1).wish L 1 w.2).t + 1)) := by
    show hearAll ((S.wish L 0 w.1).wish L 1 w.2).E _ = _
    rw [wish_E, wish_E]
  rw [e]
  exact h
theorem tick_E {L : Nat} {S : PS} {w : (Bool × Nat) × (Bool × Nat)} : (S.tick L w).E = hearAll S.E ((((S.wish L 0 w.1).wish L 1 w.2).fl).filter fun x => decide (x.due = S.t + 1)) := by
  show hearAll ((S.wish L 0 w.1).wish L 1 w.2).E ((((S.wish L 0 w.1).wish L 1 w.2).fl).filter fun x => decide (x.due = ((S.wish L 0 w.1).wish L 1 w.2).t + 1)) = _
  rw [wish_E, wish_E, wish_t, wish_t]
theorem tick_fl {L : Nat} {S : PS} {w : (Bool × Nat) × (Bool × Nat)} : (S.tick L w).fl = (((S.wish L 0 w.1).wish L 1 w.2).fl).filter fun x => decide (S.t + 1 < x.due) := by
  show (((S.wish L 0 w.1).wish L 1 w.2).fl).filter (fun x => decide (((S.wish L 0 w.1).wish L 1 w.2).t + 1 < x.due)) = _
  rw [wish_t, wish_t]
theorem tick_ans {L : Nat} {S : PS} {w : (Bool × Nat) × (Bool × Nat)} (j : Nat) : (S.E j).ans ≤ ((S.tick L w).E j).ans := by
  rw [tick_E]
  exact hearAll_ans _ _ _
/-- numbers in order come through -/
theorem bring {g : Nat} : ∀ {bs xs : List FlR} {E : Nat → ES} {ls : List Lt} {a : Nat}, bs.Sublist xs → JJ E ls 1 → (∀ x ∈ xs, (⟨x.goal, 1, x.f⟩ : Lt) ∈ ls) → (∀ (j : Nat) x, bs[j]? = some x → x.goal = g ∧ ∃ w, x.f.nw = some (a + j, w)) → g < 2 →
    a ≤ (E g).told.length → a + bs.length ≤ (hearAll E xs g).told.length
  | _, _, E, ls, a, .slnil, _, _, _, _, h => h
  | bs, x :: xs, E, ls, a, .cons _ s, J, hx, hb, hg, h => bring (bs := bs) (xs := xs) s (J.hear1 (hx x List.mem_cons_self)) (fun y hy => hx y (List.mem_cons_of_mem _ hy)) hb hg (Nat.le_trans h (hear1_told E x g))
  | b :: bs, _, E, ls, a, .cons_cons (l₂ := xs) _ s, J, hx, hb, hg, h => by
    obtain ⟨e1, w, e2⟩ := hb 0 _ rfl
    have n1 : a + 1 ≤ (Mc.hear1 E b g).told.length := by
      unfold Mc.hear1
      rw [e1, setE_same]
      exact hear_num (J.old g hg) e2 h
    have r := bring (bs := bs) (xs := xs) (a := a + 1) s (J.hear1 (hx b List.mem_cons_self)) (fun y hy => hx y (List.mem_cons_of_mem _ hy)) (fun j y hj => by
      obtain ⟨q1, w', q2⟩ := hb (j + 1) y hj
      exact ⟨q1, w', by rw [q2, Nat.add_right_comm, Nat.add_assoc]⟩) hg n1
    show a + (bs.length + 1) ≤ _
    have : a + (bs.length + 1) = a + 1 + bs.length := by omega
    rw [this]
    exact r
/-- a count comes through -/
theorem count {g M : Nat} : ∀ {xs : List FlR} {E : Nat → ES} {ls : List Lt} {x : FlR}, x ∈ xs → JJ E ls 1 → (∀ x ∈ xs, (⟨x.goal, 1, x.f⟩ : Lt) ∈ ls) → x.goal = g → g < 2 → M ≤ x.f.many → M ≤ (hearAll E xs g).ans
  | y :: xs, E, ls, x, h, J, hx, e, hg, hm => by
    rcases List.mem_cons.mp h with rfl | h
    · refine Nat.le_trans ?_ (hearAll_ans xs (Mc.hear1 E x) g)
      have hl : x.f.many ≤ (E (1 - g)).told.length := by rw [← e]; exact J.many _ (hx x List.mem_cons_self)
      have hp := pre_len (J.pre (1 - g) (by omega))
      have z : 1 - (1 - g) = g := by omega
      rw [z] at hp
      refine Nat.le_trans hm ?_
      unfold Mc.hear1
      rw [e, setE_same]
      exact hear_many (J.old g hg) (by omega)
    · exact count (xs := xs) h (J.hear1 (hx y List.mem_cons_self)) (fun z hz => hx z (List.mem_cons_of_mem _ hz)) e hg hm
/-- one end's words are on their way -/
def PhA (L D T i a0 M : Nat) (S : PS) : Prop := M ≤ (S.E (1 - i)).told.length ∨
  (∃ (due a : Nat) (bs : List FlR), due ≤ T + L + D ∧ bs.Sublist S.fl ∧ (∀ x ∈ bs, x.due = due) ∧ (∀ (j : Nat) x, bs[j]? = some x → x.goal = 1 - i ∧ ∃ w, x.f.nw = some (a + j, w)) ∧ a ≤ (S.E (1 - i)).told.length ∧ M ≤ a + bs.length) ∨ S.t ≤ T + S.r i
theorem wish_send {L : Nat} {S : PS} {i : Nat} {w : Bool × Nat} : ((S.wish L i w).r i = S.r i + 1 ∧ (S.wish L i w).fl = S.fl) ∨ (S.wish L i w).fl = S.fl ++ (S.E i).frames.map fun f => ⟨S.t + w.2, 1 - i, f⟩ := by
  unfold PS.wish
  split
  · refine .inl ⟨?_, rfl⟩
    show setN S.r i _ i = _
    unfold setN; rw [if_pos rfl]
  · exact .inr rfl
/-- what end i sends in a tick: nothing, or all its frames -/
theorem tick_send {L D : Nat} {S : PS} {w : (Bool × Nat) × (Bool × Nat)} (hw : okW D w) {i : Nat} (hi : i < 2) : ∃ k, 1 ≤ k ∧ k ≤ D ∧ (((S.tick L w).r i = S.r i + 1) ∨ ((S.E i).frames.map fun f => (⟨S.t + k, 1 - i, f⟩ : FlR)).Sublist ((S.wish L 0 w.1).wish L 1 w.2).fl) := by
  obtain ⟨h1, h2, h3, h4⟩ := hw
  have e : i = 0 ∨ i = 1 := by omega
  rcases e with rfl | rfl
  · refine ⟨w.1.2, h1, h2, ?_⟩
    rcases wish_send (L := L) (S := S) (i := 0) (w := w.1) with ⟨a, _⟩ | a
    · refine .inl ?_
      show ((S.wish L 0 w.1).wish L 1 w.2).r 0 = _
      rw [wish_r (by decide), a]
    · refine .inr ?_
      obtain ⟨xs, e⟩ := wish_fl (L := L) (S := S.wish L 0 w.1) (i := 1) (w := w.2)
      rw [e, a, List.append_assoc]
      exact (List.sublist_append_left _ _).trans (List.sublist_append_right _ _)
  · refine ⟨w.2.2, h3, h4, ?_⟩
    rcases wish_send (L := L) (S := S.wish L 0 w.1) (i := 1) (w := w.2) with ⟨a, _⟩ | a
    · refine .inl ?_
      show ((S.wish L 0 w.1).wish L 1 w.2).r 1 = _
      rw [a, wish_r (by decide)]
    · refine .inr ?_
      rw [a, wish_E, wish_t]
      exact List.sublist_append_right _ _
theorem grows {L : Nat} {S : PS} {w : (Bool × Nat) × (Bool × Nat)} : S.fl.Sublist ((S.wish L 0 w.1).wish L 1 w.2).fl := by
  obtain ⟨x1, e1⟩ := wish_fl (L := L) (S := S) (i := 0) (w := w.1)
  obtain ⟨x2, e2⟩ := wish_fl (L := L) (S := S.wish L 0 w.1) (i := 1) (w := w.2)
  rw [e2, e1, List.append_assoc]
  exact List.sublist_append_left _ _
theorem filter_all {p : FlR → Bool} {bs : List FlR} (h : ∀ x ∈ bs, p x = true) : bs.filter p = bs := List.filter_eq_self.mpr h
theorem mids {L D : Nat} {S : PS} (J : JP L S) {w : (Bool × Nat) × (Bool × Nat)} (hw : okW D w) : JJ S.E (lts ((S.wish L 0 w.1).wish L 1 w.2).fl) 1 := by
  have := ((J.wish (i := 0) (by decide) hw.1).wish (i := 1) (w := w.2) (by decide) hw.2.2.1).jj
  rw [wish_E, wish_E] at this
  exact this
/-- a block that is under way is heard, or stays -/
theorem block {L D : Nat} {S : PS} (J : JP L S) {w : (Bool × Nat) × (Bool × Nat)} (hw : okW D w) {g due a : Nat} (hg : g < 2) {bs : List FlR} (hd : S.t < due) (hs : bs.Sublist ((S.wish L 0 w.1).wish L 1 w.2).fl) (h1 : ∀ x ∈ bs, x.due = due)
    (h2 : ∀ (j : Nat) x, bs[j]? = some x → x.goal = g ∧ ∃ w, x.f.nw = some (a + j, w)) (h3 : a ≤ (S.E g).told.length) : a + bs.length ≤ ((S.tick L w).E g).told.length ∨ bs.Sublist (S.tick L w).fl := by
  by_cases e : due = S.t + 1
  · refine .inl ?_
    rw [tick_E]
    have hs' := hs.filter fun x => decide (x.due = S.t + 1)
    rw [filter_all fun x hx => decide_eq_true ((h1 x hx).trans e)] at hs'
    exact bring hs' (mids J hw) (fun x hx => List.mem_map.mpr ⟨x, (List.mem_filter.mp hx).1, rfl⟩) h2 hg h3
  · refine .inr ?_
    rw [tick_fl]
    have hs' := hs.filter fun x => decide (S.t + 1 < x.due)
    rw [filter_all fun x hx => decide_eq_true (by rw [h1 x hx]; omega)] at hs'
    exact hs'
theorem PhA.tick {L D T i a0 M : Nat} {S : PS} (J : JP L S) (hi : i < 2) (ha : a0 ≤ (S.E i).ans) (hM : M = min (a0 + 3) (S.E i).out.length) {w : (Bool × Nat) × (Bool × Nat)} (hw : okW D w) (h : PhA L D T i a0 M S) : PhA L D T i a0 M (S.tick L w) := by
  have hg := two hi
  rcases h with h | ⟨due, a, bs, d1, d2, d3, d4, d5, d6⟩ | h
  · exact .inl (Nat.le_trans h (tick_told _))
  · by_cases e : bs = []
    · subst e
      exact .inl (Nat.le_trans (by simpa using d6) (Nat.le_trans d5 (tick_told _)))
    · have hd : S.t < due := by
        obtain ⟨b, hb⟩ := List.exists_mem_of_ne_nil _ e
        rw [← d3 b hb]
        exact J.due b (d2.subset hb)
      rcases block J hw hg.1 hd (d2.trans grows) d3 d4 d5 with k | k
      · exact .inl (Nat.le_trans d6 k)
      · exact .inr (.inl ⟨due, a, bs, d1, k, d3, d4, Nat.le_trans d5 (tick_told _), d6⟩)
  · obtain ⟨k, k1, k2, hk | hk⟩ := tick_send (L := L) (S := S) hw hi
    · refine .inr (.inr ?_)
      rw [tick_t, hk]
      omega
    · have hr := J.rl i
      have an := J.jj.ans i hi
      by_cases c : (S.E i).ans = (S.E i).last
      · refine .inl (Nat.le_trans ?_ (tick_told _))
        unfold ES.last at c
        omega
      · have fr := frames_nq c
        have fl := frames_len c
        have hb2 : ∀ (j : Nat) x, ((S.E i).frames.map fun f => (⟨S.t + k, 1 - i, f⟩ : FlR))[j]? = some x → x.goal = 1 - i ∧ ∃ w, x.f.nw = some ((S.E i).ans + j, w) := fun j x hx => by
          rw [List.getElem?_map] at hx
          obtain ⟨f, hf, rfl⟩ := Option.map_eq_some_iff.mp hx
          rw [fr, List.getElem?_map] at hf
          obtain ⟨j', hj', rfl⟩ := Option.map_eq_some_iff.mp hf
          obtain ⟨hlt, e0⟩ := List.getElem?_eq_some_iff.mp hj'
          rw [List.getElem_range] at e0
          subst e0
          exact ⟨rfl, _, rfl⟩
        have hM2 : M ≤ (S.E i).ans + ((S.E i).frames.map fun f => (⟨S.t + k, 1 - i, f⟩ : FlR)).length := by
          rw [List.length_map, fl]
          unfold ES.last at c ⊢
          omega
        rcases block J hw hg.1 (due := S.t + k) (by omega) hk (fun x hx => by obtain ⟨f, _, rfl⟩ := List.mem_map.mp hx; rfl) hb2 an with q | q
        · exact .inl (Nat.le_trans hM2 q)
        · exact .inr (.inl ⟨S.t + k, (S.E i).ans, _, by omega, q, fun x hx => by obtain ⟨f, _, rfl⟩ := List.mem_map.mp hx; rfl, hb2, Nat.le_trans an (tick_told _), hM2⟩)
/-- a count is on its way -/
def PhB (L D T i M : Nat) (S : PS) : Prop := M ≤ (S.E i).ans ∨ (∃ x ∈ S.fl, x.goal = i ∧ M ≤ x.f.many ∧ x.due ≤ T + L + D) ∨ S.t ≤ T + S.r (1 - i)
theorem one {L D : Nat} {S : PS} (J : JP L S) {w : (Bool × Nat) × (Bool × Nat)} (hw : okW D w) {x : FlR} (hx : x ∈ ((S.wish L 0 w.1).wish L 1 w.2).fl) (hg : x.goal < 2) (hd : S.t < x.due) : x.f.many ≤ ((S.tick L w).E x.goal).ans ∨ x ∈ (S.tick L w).fl := by
  by_cases e : x.due = S.t + 1
  · refine .inl ?_
    rw [tick_E]
    exact count (List.mem_filter.mpr ⟨hx, decide_eq_true e⟩) (mids J hw) (fun y hy => List.mem_map.mpr ⟨y, (List.mem_filter.mp hy).1, rfl⟩) rfl hg (Nat.le_refl _)
  · refine .inr ?_
    rw [tick_fl]
    exact List.mem_filter.mpr ⟨hx, decide_eq_true (by omega)⟩
theorem PhB.tick {L D T i M : Nat} {S : PS} (J : JP L S) (hi : i < 2) (hM : M ≤ (S.E (1 - i)).told.length) {w : (Bool × Nat) × (Bool × Nat)} (hw : okW D w) (h : PhB L D T i M S) : PhB L D T i M (S.tick L w) := by
  have hg := two hi
  rcases h with h | ⟨x, x1, x2, x3, x4⟩ | h
  · exact .inl (Nat.le_trans h (tick_ans _))
  · rcases one J hw (grows.subset x1) (by omega) (J.due x x1) with k | k
    · rw [x2] at k
      exact .inl (Nat.le_trans x3 k)
    · exact .inr (.inl ⟨x, k, x2, x3, x4⟩)
  · obtain ⟨k, k1, k2, hk | hk⟩ := tick_send (L := L) (S := S) hw hg.1
    · refine .inr (.inr ?_)
      rw [tick_t, hk]
      omega
    · have hr := J.rl (1 - i)
      have hl : (S.E (1 - i)).ans ≤ (S.E (1 - i)).out.length := by
        have p := pre_len (J.jj.pre i hi)
        have a := J.jj.ans (1 - i) hg.1
        rw [hg.2.2] at a
        omega
      have hn := frames_ne hl
      have h0 : (S.E (1 - i)).frames[0]? = some (S.E (1 - i)).frames[0] := List.getElem?_eq_getElem hn
      generalize (S.E (1 - i)).frames[0] = f at h0
      have hf := List.mem_of_getElem? h0
      have hm := (frames_mem hf).1
      have hx : (⟨S.t + k, 1 - (1 - i), f⟩ : FlR) ∈ ((S.wish L 0 w.1).wish L 1 w.2).fl := hk.subset (List.mem_map.mpr ⟨f, hf, rfl⟩)
      rw [hg.2.2] at hx
      rcases one J hw hx hi (by show S.t < S.t + k; omega) with q | q
      · exact .inl (Nat.le_trans (by rw [hm]; exact hM) q)
      · exact .inr (.inl ⟨_, q, rfl, by show M ≤ f.many; rw [hm]; exact hM, by show S.t + k ≤ _; omega⟩)
theorem run_cons {L : Nat} {S : PS} {w : (Bool × Nat) × (Bool × Nat)} {ws : List ((Bool × Nat) × (Bool × Nat))} : S.run L (w :: ws) = (S.tick L w).run L ws := rfl
theorem run_app {L : Nat} {S : PS} {a b : List ((Bool × Nat) × (Bool × Nat))} : S.run L (a ++ b) = (S.run L a).run L b := List.foldl_append ..
theorem JP.run {L D : Nat} : ∀ {ws : List ((Bool × Nat) × (Bool × Nat))} {S : PS}, JP L S → (∀ w ∈ ws, okW D w) → JP L (S.run L ws)
  | [], _, J, _ => J
  | w :: ws, S, J, h => JP.run (ws := ws) (J.tick (h w List.mem_cons_self)) fun v hv => h v (List.mem_cons_of_mem _ hv)
theorem run_out {L : Nat} (j : Nat) : ∀ {ws : List ((Bool × Nat) × (Bool × Nat))} {S : PS}, ((S.run L ws).E j).out = (S.E j).out
  | [], _ => rfl
  | w :: ws, S => (run_out j (ws := ws) (S := S.tick L w)).trans (tick_out j)
theorem run_ans {L : Nat} (j : Nat) : ∀ {ws : List ((Bool × Nat) × (Bool × Nat))} {S : PS}, (S.E j).ans ≤ ((S.run L ws).E j).ans
  | [], _ => Nat.le_refl _
  | w :: ws, S => Nat.le_trans (tick_ans j) (run_ans j (ws := ws) (S := S.tick L w))
theorem run_told {L : Nat} (j : Nat) : ∀ {ws : List ((Bool × Nat) × (Bool × Nat))} {S : PS}, (S.E j).told.length ≤ ((S.run L ws).E j).told.length
  | [], _ => Nat.le_refl _
  | w :: ws, S => Nat.le_trans (tick_told j) (run_told j (ws := ws) (S := S.tick L w))
theorem run_t {L : Nat} : ∀ {ws : List ((Bool × Nat) × (Bool × Nat))} {S : PS}, (S.run L ws).t = S.t + ws.length
  | [], _ => rfl
  | w :: ws, S => by rw [run_cons, run_t (ws := ws), tick_t, List.length_cons]; omega
theorem PhA.run {L D T i a0 M : Nat} (hi : i < 2) : ∀ {ws : List ((Bool × Nat) × (Bool × Nat))} {S : PS}, JP L S → a0 ≤ (S.E i).ans → M = min (a0 + 3) (S.E i).out.length → (∀ w ∈ ws, okW D w) → PhA L D T i a0 M S → PhA L D T i a0 M (S.run L ws)
  | [], _, _, _, _, _, h => h
  | w :: ws, S, J, ha, hM, hw, h => PhA.run hi (ws := ws) (J.tick (hw w List.mem_cons_self)) (Nat.le_trans ha (tick_ans i)) (by rw [tick_out]; exact hM) (fun v hv => hw v (List.mem_cons_of_mem _ hv)) (h.tick J hi ha hM (hw w List.mem_cons_self))
theorem PhB.run {L D T i M : Nat} (hi : i < 2) : ∀ {ws : List ((Bool × Nat) × (Bool × Nat))} {S : PS}, JP L S → M ≤ (S.E (1 - i)).told.length → (∀ w ∈ ws, okW D w) → PhB L D T i M S → PhB L D T i M (S.run L ws)
  | [], _, _, _, _, h => h
  | w :: ws, S, J, hM, hw, h => PhB.run hi (ws := ws) (J.tick (hw w List.mem_cons_self)) (Nat.le_trans hM (tick_told _)) (fun v hv => hw v (List.mem_cons_of_mem _ hv)) (h.tick J hi hM (hw w List.mem_cons_self))
theorem half1 {L D i m : Nat} {S : PS} {ws : List ((Bool × Nat) × (Bool × Nat))} (hD : 1 ≤ D) (hi : i < 2) (J : JP L S) (hw : ∀ w ∈ ws, okW D w) (hl : L + D ≤ ws.length) (hm : m ≤ (S.E i).ans) : min (m + 3) (S.E i).out.length ≤ ((S.run L ws).E (1 - i)).told.length := by
  have J2 := J.run (D := D) hw
  rcases PhA.run (D := D) (T := S.t) hi J hm rfl hw (.inr (.inr (Nat.le_add_right _ _))) with h | ⟨due, a, bs, d1, d2, d3, d4, d5, d6⟩ | h
  · exact h
  · by_cases e : bs = []
    · subst e
      exact Nat.le_trans (by simpa using d6) d5
    · obtain ⟨b, hb⟩ := List.exists_mem_of_ne_nil _ e
      have := J2.due b (d2.subset hb)
      rw [run_t, d3 b hb] at this
      omega
  · rw [run_t] at h
    have := J2.rl i
    omega
theorem half2 {L D i M : Nat} {S : PS} {ws : List ((Bool × Nat) × (Bool × Nat))} (hD : 1 ≤ D) (hi : i < 2) (J : JP L S) (hw : ∀ w ∈ ws, okW D w) (hl : L + D ≤ ws.length) (hm : M ≤ (S.E (1 - i)).told.length) : M ≤ ((S.run L ws).E i).ans := by
  have J2 := J.run (D := D) hw
  rcases PhB.run (D := D) (T := S.t) hi J hm hw (.inr (.inr (Nat.le_add_right _ _))) with h | ⟨x, x1, x2, x3, x4⟩ | h
  · exact h
  · have := J2.due x x1
    rw [run_t] at this
    omega
  · rw [run_t] at h
    have := J2.rl (1 - i)
    omega
theorem window {L D i m : Nat} {S : PS} {ws : List ((Bool × Nat) × (Bool × Nat))} (hD : 1 ≤ D) (hi : i < 2) (J : JP L S) (hw : ∀ w ∈ ws, okW D w) (hl : ws.length = 2 * (D + L + 1)) (hm : m ≤ (S.E i).ans) : min (m + 3) (S.E i).out.length ≤ ((S.run L ws).E i).ans := by
  have e : ws = ws.take (D + L + 1) ++ ws.drop (D + L + 1) := (List.take_append_drop _ _).symm
  have w1 : ∀ w ∈ ws.take (D + L + 1), okW D w := fun w h => hw w (List.mem_of_mem_take h)
  have w2 : ∀ w ∈ ws.drop (D + L + 1), okW D w := fun w h => hw w (List.mem_of_mem_drop h)
  rw [e, run_app]
  refine half2 hD hi (J.run w1) w2 (by rw [List.length_drop]; omega) ?_
  exact half1 hD hi J w1 (by rw [List.length_take]; omega) hm
theorem windows {L D i : Nat} (hD : 1 ≤ D) (hi : i < 2) : ∀ (n : Nat) {S : PS} {ws : List ((Bool × Nat) × (Bool × Nat))}, JP L S → (∀ w ∈ ws, okW D w) → ws.length = 2 * (D + L + 1) * n → min ((S.E i).ans + 3 * n) (S.E i).out.length ≤ ((S.run L ws).E i).ans
  | 0, S, ws, J, hw, hl => by
    have : ws = [] := List.length_eq_zero_iff.mp (by rw [hl, Nat.mul_zero])
    subst this
    exact Nat.min_le_left _ _
  | n + 1, S, ws, J, hw, hl => by
    have e : ws = ws.take (2 * (D + L + 1)) ++ ws.drop (2 * (D + L + 1)) := (List.take_append_drop _ _).symm
    have w1 : ∀ w ∈ ws.take (2 * (D + L + 1)), okW D w := fun w h => hw w (List.mem_of_mem_take h)
    have w2 : ∀ w ∈ ws.drop (2 * (D + L + 1)), okW D w := fun w h => hw w (List.mem_of_mem_drop h)
    rw [Nat.mul_succ] at hl
    have h1 := window hD hi J w1 (by rw [List.length_take]; omega) (Nat.le_refl _)
    have h2 := windows hD hi n (J.run w1) w2 (by rw [List.length_drop]; omega)
    rw [← run_app, ← e, run_out] at h2
    omega
end Mc
namespace Mc
open PySem L2 PySem.Spec PyProof.Rows
/-! ### a Pace -/
abbrev sPInit : Stmt := inClass (top 11) 0
abbrev sPPut : Stmt := inClass (top 11) 1
abbrev sPTick : Stmt := inClass (top 11) 2
abbrev sPSend : Stmt := inClass (top 11) 3
abbrev sPHear : Stmt := inClass (top 11) 4
abbrev sPDone : Stmt := inClass (top 11) 5
def PS.new : PS := ⟨fun _ => ES.new, 0, fun _ => 0, []⟩
def PS.put (S : PS) (i : Nat) (w : Int) : PS := { S with E := setE S.E i ((S.E i).put w) }
structure Pd where
  p : Addr
  te : Addr
  rl : Addr
  e : Nat → Addr
  o : Nat → Addr
  t : Nat → Addr
def Pd.M (A : Pd) : List Addr := [A.p, A.rl, A.e 0, A.o 0, A.t 0, A.e 1, A.o 1, A.t 1]
def PF (D L : Nat) (A : Pd) (fl : Addr) (S : PS) : List (Str × V) := [("delay", .int D), ("losses", .int L), ("ends", .ref A.te), ("time", .int S.t), ("row_of_losses", .ref A.rl), ("flying", .ref fl)]
def FlAt (g : Int → V) (H : Hp) (a : Addr) (x : FlR) : Prop := ∃ fa, H a = some (.tup [.int x.due, .int x.goal, .ref fa]) ∧ FrAt g H fa x.f
theorem flStay {g : Int → V} : Stay (FlAt g) := fun h ⟨fa, e1, e2⟩ => ⟨fa, h _ _ e1, h _ _ e2⟩
structure PaceAt (g : Int → V) (CP CE : Addr) (D L : Nat) (H : Hp) (A : Pd) (fl : Addr) (S : PS) : Prop where
  ob : ∃ dx, H A.p = some (.ins CP dx (PF D L A fl S))
  te : H A.te = some (.tup [.ref (A.e 0), .ref (A.e 1)])
  en : ∀ i, i < 2 → EndAt g CE H (A.e i) (A.o i) (A.t i) (S.E i)
  rl : H A.rl = some (.lst [.int (S.r 0), .int (S.r 1)])
  fy : LL (FlAt g) H fl S.fl
  nd : (fl :: A.M).Nodup
theorem EndAt.kp {g : Int → V} {C : Addr} {H H' : Hp} {e o t : Addr} {E : ES} {N : List Addr} (h : EndAt g C H e o t E) (k : Kp N H H') (he : e ∉ N) (ho : o ∉ N) (ht : t ∉ N) : EndAt g C H' e o t E := by
  obtain ⟨⟨dx, a⟩, b, c, ne⟩ := h
  exact ⟨⟨dx, k _ _ a he⟩, k _ _ b ho, k _ _ c ht, ne⟩
section
variable {g : Int → V} {CP CE : Addr} {D L : Nat} {H H' : Hp} {A : Pd} {fl : Addr} {S : PS}
theorem i2 {i : Nat} (h : i < 2) : i = 0 ∨ i = 1 := by omega
theorem Pd.mem {A : Pd} {i : Nat} (hi : i < 2) : A.e i ∈ A.M ∧ A.o i ∈ A.M ∧ A.t i ∈ A.M := by
  rcases i2 hi with rfl | rfl <;> (unfold Pd.M; simp)
/-- no tuple is among what changes -/
theorem PaceAt.nt (P : PaceAt g CP CE D L H A fl S) : ∀ x ∈ fl :: A.M, ∀ xs, H x ≠ some (.tup xs) := by
  obtain ⟨⟨dx, h1⟩, _, en, h3, ⟨as, h4, _⟩, _⟩ := P
  obtain ⟨⟨d0, a0⟩, b0, c0, _⟩ := en 0 (by decide)
  obtain ⟨⟨d1, a1⟩, b1, c1, _⟩ := en 1 (by decide)
  intro x hx xs z
  unfold Pd.M at hx
  simp only [List.mem_cons, List.not_mem_nil, or_false] at hx
  rcases hx with rfl | rfl | rfl | rfl | rfl | rfl | rfl | rfl | rfl
  · rw [z] at h4; cases h4
  · rw [z] at h1; cases h1
  · rw [z] at h3; cases h3
  · rw [z] at a0; cases a0
  · rw [z] at b0; cases b0
  · rw [z] at c0; cases c0
  · rw [z] at a1; cases a1
  · rw [z] at b1; cases b1
  · rw [z] at c1; cases c1
theorem tp_of {N : List Addr} (k : Kp N H H') (n : ∀ x ∈ N, ∀ xs, H x ≠ some (.tup xs)) : Tp H H' := fun b xs e => k b _ e fun hb => n b hb xs e
theorem PaceAt.tp (P : PaceAt g CP CE D L H A fl S) (k : Kp (fl :: A.M) H H') : Tp H H' := tp_of k P.nt
/-- what is all else stays -/
theorem PaceAt.kp {N : List Addr} (P : PaceAt g CP CE D L H A fl S) (k : Kp N H H') (hn : ∀ x ∈ N, x ∉ fl :: A.M) (ht : ∀ x ∈ N, ∀ xs, H x ≠ some (.tup xs)) : PaceAt g CP CE D L H' A fl S := by
  obtain ⟨⟨dx, h1⟩, h2, en, h3, ⟨as, h4, pf⟩, nd⟩ := P
  have q : ∀ {x}, x ∈ fl :: A.M → x ∉ N := fun h z => hn _ z h
  have m := fun {i} (hi : i < 2) => Pd.mem (A := A) hi
  have tp := tp_of k ht
  refine ⟨⟨dx, k _ _ h1 (q (by unfold Pd.M; simp))⟩, tp _ _ h2, fun i hi => (en i hi).kp k (q (List.mem_cons_of_mem _ (m hi).1)) (q (List.mem_cons_of_mem _ (m hi).2.1)) (q (List.mem_cons_of_mem _ (m hi).2.2)), k _ _ h3 (q (by unfold Pd.M; simp)), ⟨as, k _ _ h4 (q (by simp)), Paired.mapP pf fun a b => flStay tp⟩, nd⟩
theorem PaceAt.same (P : PaceAt g CP CE D L H A fl S) (s : Same H H') : PaceAt g CP CE D L H' A fl S := P.kp (N := []) (Kp.same s) (by simp) (by simp)
theorem Pd.ne {A : Pd} (nd : (fl :: A.M).Nodup) : (A.p ≠ fl ∧ A.rl ≠ fl ∧ A.p ≠ A.rl) ∧ ∀ i, i < 2 → (A.e i ≠ fl ∧ A.o i ≠ fl ∧ A.t i ≠ fl ∧ A.e i ≠ A.p ∧ A.o i ≠ A.p ∧ A.t i ≠ A.p ∧ A.e i ≠ A.rl ∧ A.o i ≠ A.rl ∧ A.t i ≠ A.rl) ∧ ∀ j, j < 2 → j ≠ i → ∀ x ∈ [A.e j, A.o j, A.t j], x ∉ [A.e i, A.o i, A.t i] := by
  unfold Pd.M at nd
  simp only [List.nodup_cons, List.mem_cons, List.not_mem_nil, or_false, not_or] at nd
  obtain ⟨⟨f1, f2, f3, f4, f5, f6, f7, f8⟩, ⟨p2, p3, p4, p5, p6, p7, p8⟩, ⟨r3, r4, r5, r6, r7, r8⟩, ⟨x4, x5, x6, x7, x8⟩, ⟨y5, y6, y7, y8⟩, ⟨z6, z7, z8⟩, ⟨u7, u8⟩, v8, _⟩ := nd
  refine ⟨⟨Ne.symm f1, Ne.symm f2, p2⟩, fun i hi => ?_⟩
  rcases i2 hi with rfl | rfl
  · refine ⟨⟨Ne.symm f3, Ne.symm f4, Ne.symm f5, Ne.symm p3, Ne.symm p4, Ne.symm p5, Ne.symm r3, Ne.symm r4, Ne.symm r5⟩, fun j hj hn x hx => ?_⟩
    have e : j = 1 := by omega
    subst e
    simp only [List.mem_cons, List.not_mem_nil, or_false] at hx
    simp only [List.mem_cons, List.not_mem_nil, or_false, not_or]
    rcases hx with rfl | rfl | rfl
    · exact ⟨Ne.symm x6, Ne.symm y6, Ne.symm z6⟩
    · exact ⟨Ne.symm x7, Ne.symm y7, Ne.symm z7⟩
    · exact ⟨Ne.symm x8, Ne.symm y8, Ne.symm z8⟩
  · refine ⟨⟨Ne.symm f6, Ne.symm f7, Ne.symm f8, Ne.symm p6, Ne.symm p7, Ne.symm p8, Ne.symm r6, Ne.symm r7, Ne.symm r8⟩, fun j hj hn x hx => ?_⟩
    have e : j = 0 := by omega
    subst e
    simp only [List.mem_cons, List.not_mem_nil, or_false] at hx
    simp only [List.mem_cons, List.not_mem_nil, or_false, not_or]
    rcases hx with rfl | rfl | rfl
    · exact ⟨x6, x7, x8⟩
    · exact ⟨y6, y7, y8⟩
    · exact ⟨z6, z7, z8⟩
/-- one end has changed -/
theorem PaceAt.end_ (P : PaceAt g CP CE D L H A fl S) {i : Nat} (hi : i < 2) {X : ES} (h : EndAt g CE H' (A.e i) (A.o i) (A.t i) X) (k : Kp [A.e i, A.o i, A.t i] H H') : PaceAt g CP CE D L H' A fl { S with E := setE S.E i X } := by
  obtain ⟨⟨n1, n2, n3⟩, n4⟩ := Pd.ne P.nd
  obtain ⟨⟨m1, m2, m3, m4, m5, m6, m7, m8, m9⟩, m10⟩ := n4 i hi
  have tp : Tp H H' := tp_of k fun x hx => P.nt x (List.mem_cons_of_mem _ (by
    have := Pd.mem (A := A) hi
    simp only [List.mem_cons, List.not_mem_nil, or_false] at hx
    rcases hx with rfl | rfl | rfl
    · exact this.1
    · exact this.2.1
    · exact this.2.2))
  obtain ⟨⟨dx, h1⟩, h2, en, h3, ⟨as, h4, pf⟩, nd⟩ := P
  have q : ∀ {x}, x ≠ A.e i → x ≠ A.o i → x ≠ A.t i → x ∉ [A.e i, A.o i, A.t i] := fun a b c => by simp; exact ⟨a, b, c⟩
  refine ⟨⟨dx, k _ _ h1 (q (Ne.symm m4) (Ne.symm m5) (Ne.symm m6))⟩, tp _ _ h2, fun j hj => ?_, k _ _ h3 (q (Ne.symm m7) (Ne.symm m8) (Ne.symm m9)), ⟨as, k _ _ h4 (q (Ne.symm m1) (Ne.symm m2) (Ne.symm m3)), Paired.mapP pf fun a b => flStay tp⟩, nd⟩
  by_cases e : j = i
  · subst e
    show EndAt g CE H' _ _ _ (setE S.E j X j)
    rw [setE_same]
    exact h
  · show EndAt g CE H' _ _ _ (setE S.E i X j)
    rw [setE_ne _ _ e]
    have z := m10 j hj e
    exact (en j hj).kp k (z _ (by simp)) (z _ (by simp)) (z _ (by simp))
/-- the rows of losses have changed -/
theorem PaceAt.row (P : PaceAt g CP CE D L H A fl S) (r : Nat → Nat) : PaceAt g CP CE D L (upd H A.rl (.lst [.int (r 0), .int (r 1)])) A fl { S with r := r } := by
  obtain ⟨⟨n1, n2, n3⟩, n4⟩ := Pd.ne P.nd
  have k : Kp [A.rl] H (upd H A.rl (.lst [.int (r 0), .int (r 1)])) := Kp.at (by simp)
  have tp : Tp H (upd H A.rl (.lst [.int (r 0), .int (r 1)])) := tp_of k fun x hx => P.nt x (by rw [List.mem_singleton.mp hx]; unfold Pd.M; simp)
  obtain ⟨⟨dx, h1⟩, h2, en, h3, ⟨as, h4, pf⟩, nd⟩ := P
  refine ⟨⟨dx, k _ _ h1 (by simp; exact n3)⟩, tp _ _ h2, fun j hj => ?_, upd_same, ⟨as, k _ _ h4 (by simp; exact Ne.symm n2), Paired.mapP pf fun a b => flStay tp⟩, nd⟩
  obtain ⟨⟨_, _, _, _, _, _, a, b, c⟩, _⟩ := n4 j hj
  exact (en j hj).kp k (by simp; exact a) (by simp; exact b) (by simp; exact c)
/-- what flies has changed, in its place -/
theorem PaceAt.fly (P : PaceAt g CP CE D L H A fl S) {as : List Addr} {xs : List FlR} (h : Paired (FlAt g H) as xs) : PaceAt g CP CE D L (upd H fl (.lst (as.map V.ref))) A fl { S with fl := xs } := by
  obtain ⟨⟨n1, n2, n3⟩, n4⟩ := Pd.ne P.nd
  have k : Kp [fl] H (upd H fl (.lst (as.map V.ref))) := Kp.at (by simp)
  have tp : Tp H (upd H fl (.lst (as.map V.ref))) := tp_of k fun x hx => P.nt x (by rw [List.mem_singleton.mp hx]; simp)
  obtain ⟨⟨dx, h1⟩, h2, en, h3, _, nd⟩ := P
  refine ⟨⟨dx, k _ _ h1 (by simp; exact n1)⟩, tp _ _ h2, fun j hj => ?_, k _ _ h3 (by simp; exact n2), ⟨as, upd_same, Paired.mapP h fun a b => flStay tp⟩, nd⟩
  obtain ⟨⟨a, b, c, _⟩, _⟩ := n4 j hj
  exact (en j hj).kp k (by simp; exact a) (by simp; exact b) (by simp; exact c)
/-- the object itself has changed: its clock, and a new list of what flies -/
theorem PaceAt.obj (P : PaceAt g CP CE D L H A fl S) {dx fl' : Addr} {S' : PS} (e1 : S'.E = S.E) (e2 : S'.r = S.r) (h : LL (FlAt g) H fl' S'.fl) (nd' : (fl' :: A.M).Nodup) : PaceAt g CP CE D L (upd H A.p (.ins CP dx (PF D L A fl' S'))) A fl' S' := by
  obtain ⟨⟨n1, n2, n3⟩, n4⟩ := Pd.ne nd'
  have k : Kp [A.p] H (upd H A.p (.ins CP dx (PF D L A fl' S'))) := Kp.at (by simp)
  have tp : Tp H (upd H A.p (.ins CP dx (PF D L A fl' S'))) := tp_of k fun x hx => P.nt x (by rw [List.mem_singleton.mp hx]; unfold Pd.M; simp)
  obtain ⟨⟨_, h1⟩, h2, en, h3, _, nd⟩ := P
  obtain ⟨as, h4, pf⟩ := h
  refine ⟨⟨dx, upd_same⟩, tp _ _ h2, fun j hj => ?_, by rw [e2]; exact k _ _ h3 (by simp; exact Ne.symm n3), ⟨as, k _ _ h4 (by simp; exact Ne.symm n1), Paired.mapP pf fun a b => flStay tp⟩, nd'⟩
  obtain ⟨⟨_, _, _, a, b, c, _⟩, _⟩ := n4 j hj
  rw [e1]
  exact (en j hj).kp k (by simp; exact a) (by simp; exact b) (by simp; exact c)
/-- what changes is there -/
theorem PaceAt.live {g : Int → V} {CP CE : Addr} {D L : Nat} {H : Hp} {A : Pd} {fl : Addr} {S : PS} (P : PaceAt g CP CE D L H A fl S) {x : Addr} (hx : x ∈ fl :: A.M) : ∃ o, H x = some o := by
  obtain ⟨⟨dx, h1⟩, _, en, h3, ⟨as, h4, _⟩, _⟩ := P
  obtain ⟨⟨d0, a0⟩, b0, c0, _⟩ := en 0 (by decide)
  obtain ⟨⟨d1, a1⟩, b1, c1, _⟩ := en 1 (by decide)
  unfold Pd.M at hx
  simp only [List.mem_cons, List.not_mem_nil, or_false] at hx
  rcases hx with rfl | rfl | rfl | rfl | rfl | rfl | rfl | rfl | rfl
  · exact ⟨_, h4⟩
  · exact ⟨_, h1⟩
  · exact ⟨_, h3⟩
  · exact ⟨_, a0⟩
  · exact ⟨_, b0⟩
  · exact ⟨_, c0⟩
  · exact ⟨_, a1⟩
  · exact ⟨_, b1⟩
  · exact ⟨_, c1⟩
theorem PaceAt.fresh {g : Int → V} {CP CE : Addr} {D L : Nat} {H : Hp} {A : Pd} {fl : Addr} {S : PS} (P : PaceAt g CP CE D L H A fl S) {x : Addr} (hx : H x = none) : x ∉ fl :: A.M := fun z => by
  obtain ⟨o, e⟩ := P.live z
  rw [hx] at e
  cases e
theorem ends_at {A : Pd} {j : Nat} (hj : j < 2) : atI [V.ref (A.e 0), V.ref (A.e 1)] ((j : Nat) : Int) = some (.ref (A.e j)) := by
  rcases i2 hj with rfl | rfl <;> rfl
end
structure TxP (K : PySem.W.Frag) (mg : Str → Option Value) (CP CE CB : Addr) : Prop where
  E : TxE K mg CE
  cl : Cls K CP
  nD : NoAttr K CP "delay"
  nL : NoAttr K CP "losses"
  nE : NoAttr K CP "ends"
  nT : NoAttr K CP "time"
  nR : NoAttr K CP "row_of_losses"
  nF : NoAttr K CP "flying"
  mgC : mg "Pace" = some (.ref CP)
  long : ∃ t, mg "LONGEST" = some (.int 1000 t)
  ep : ∃ t, mg "EPOCH" = some (.int 1 t)
  enum : mg "enumerate" = none
  all : mg "all" = none
  B : TxB K mg CB
def spPSend (g : Int → V) (CP CE : Addr) : Sp := fun vs H Q _ => ∃ (A : Pd) (fl : Addr) (D L : Nat) (S : PS) (i due : Nat), vs = [.ref A.p, .int i, .int due] ∧ PaceAt g CP CE D L H A fl S ∧ i < 2 ∧ (S.E i).ans ≤ (S.E i).out.length ∧ (S.E i).out.length ≤ 1000 ∧ S.fl.length ≤ 900 ∧
  ∀ H' : Hp, PaceAt g CP CE D L H' A fl (S.send i due) → Kp [fl] H H' → Q .non H'
def spPPut (g : Int → V) (CP CE : Addr) : Sp := fun vs H Q _ => ∃ (A : Pd) (fl : Addr) (D L : Nat) (S : PS) (i : Nat) (w : Int), vs = [.ref A.p, .int i, g w] ∧ PaceAt g CP CE D L H A fl S ∧ i < 2 ∧ (S.E i).out.length ≤ 1000 ∧
  ∀ H' : Hp, PaceAt g CP CE D L H' A fl (S.put i w) → Kp A.M H H' → Q .non H'
def spPDone (g : Int → V) (CP CE : Addr) : Sp := fun vs H Q _ => ∃ (A : Pd) (fl : Addr) (D L : Nat) (S : PS), vs = [.ref A.p] ∧ PaceAt g CP CE D L H A fl S ∧
  ∀ H' : Hp, Same H H' → Q (.bl (decide ((S.E 0).ans = (S.E 0).out.length) && decide ((S.E 1).ans = (S.E 1).out.length))) H'
def spPHear (g : Int → V) (CP CE : Addr) : Sp := fun vs H Q _ => ∃ (A : Pd) (fl : Addr) (D L : Nat) (S : PS), vs = [.ref A.p] ∧ PaceAt g CP CE D L H A fl S ∧ (∀ x ∈ S.fl, x.goal < 2) ∧ (∀ i, i < 2 → (S.E i).told.length + S.fl.length ≤ 900) ∧
  ∀ (fl' : Addr) (H' : Hp), H fl' = none → PaceAt g CP CE D L H' A fl' S.hearF → Kp (fl :: A.M) H H' → Q .non H'
section
variable {g : Int → V} {P : Program} {w : World} {K : PySem.W.Frag} {mg : Str → Option Value} {base : Heap} {CP CE CB : Addr}
theorem scPPut : FnScope ["self", "at", "word"] ["self", "at", "word"] (defScope sPPut) := ⟨rfl, rfl, rfl, by decide +kernel, rfl, by decide +kernel, by decide +kernel⟩
theorem ok_pput {f : Addr} {fd : FuncData} (F : Fun K "put" "Pace.put" sPPut f fd) (T : TxP K mg CP CE CB) (c : CalM P w K mg base CE 1 "put" ["self", "word"] (spEPut g CE)) : FnOk P w K mg base CX0 2 f fd ["self", "at", "word"] (spPPut g CP CE) := by
  refine F.ok scPPut (fun vs H Q E h => ?_) (fun cdv A outer s H vs Q E hr h => ?_)
  · obtain ⟨A, fl, D, L, S, i, w, rfl, _⟩ := h
    rfl
  · obtain ⟨A, fl, D, L, S, i, w, rfl, PA, hi, hl, k⟩ := h
    refine ⟨_, (pss_one (ps_expr (pe_calM (pe_ix ix_tup (pe_fld (pv 0) rfl) (pv 1) (fun _ _ => rfl)) T.E.cl c (hr.mono (by decide)) (pa_cons (pv 2) pa_nil)))), ?_⟩
    obtain ⟨dx, h1⟩ := PA.ob
    obtain ⟨⟨de, a1⟩, _⟩ := PA.en i hi
    refine ⟨_, rfl, A.p, CP, dx, _, _, rfl, h1, T.cl, T.nE, rfl, _, rfl, A.te, _, _, _, rfl, rfl, SqT.of PA.te, ends_at hi, A.e i, de, _, rfl, a1, rfl, _, rfl, A.e i, A.o i, A.t i, S.E i, w, rfl, PA.en i hi, hl, fun H' e' k' => ?_⟩
    refine k H' (PA.end_ hi e' (k'.mono (by simp))) (k'.mono fun b hb => ?_)
    rw [List.mem_singleton.mp hb]
    exact (Pd.mem hi).2.1
theorem scPSend : FnScope ["self", "at", "due", "frame"] ["self", "at", "due"] (defScope sPSend) := ⟨rfl, rfl, rfl, by decide +kernel, rfl, by decide +kernel, by decide +kernel⟩
theorem ok_psend {f : Addr} {fd : FuncData} (F : Fun K "send" "Pace.send" sPSend f fd) (T : TxP K mg CP CE CB) (c : CalM P w K mg base CE 1 "frames" ["self"] (spEFrames g CE)) : FnOk P w K mg base CX0 2 f fd ["self", "at", "due"] (spPSend g CP CE) := by
  refine F.ok scPSend (fun vs H Q E h => ?_) (fun cdv A outer s H vs Q E hr h => ?_)
  · obtain ⟨A, fl, D, L, S, i, due, rfl, _⟩ := h
    rfl
  · obtain ⟨A, fl, D, L, S, i, due, rfl, PA, hi, hl, hl2, hl3, k⟩ := h
    refine ⟨_, (pss_one (ps_expr (pe_bm PySem.F.plainAttrs_list PySem.F.slot_list_extend PySem.F.type_list_extend mt_extend (pe_fld (pv 0) rfl) (pa_cons (pe_lc (own := [("frame", 3)]) (g := gName 3) (tt := tYes) rfl scPSend.nd (pi_tup (pe_calM0 (pe_ix ix_tup (pe_fld (pv 0) rfl) (pv 1) (fun _ _ => rfl)) T.E.cl c (hr.mono (by decide)))) (blkOk_by (own := [("frame", 3)]) (N := ["self", "at", "due", "frame"]) (sc := defScope sPSend) (by decide +kernel)) (fun _ _ _ _ _ => pg_name (i := 3) scPSend.nd rfl (Or.inl rfl)) (fun _ _ _ _ _ => pts_nil) (fun _ _ _ _ _ => (pe_tup (pa_cons (pv 2) (pa_cons (pe_op op_sub pe_int (pv 1)) (pa_cons (pv 3) pa_nil)))))) pa_nil)))), ?_⟩
    obtain ⟨dx, h1⟩ := PA.ob
    obtain ⟨⟨de, a1⟩, _⟩ := PA.en i hi
    obtain ⟨af, hfl, pfl⟩ := PA.fy
    refine ⟨_, rfl, A.p, CP, dx, _, _, rfl, h1, T.cl, T.nF, rfl, .inl ⟨rfl, _, SqL.of hfl⟩, ?_⟩
    refine ⟨_, rfl, A.p, CP, dx, _, _, rfl, h1, T.cl, T.nE, rfl, _, rfl, A.te, _, _, _, rfl, rfl, SqT.of PA.te, ends_at hi, A.e i, de, _, rfl, a1, rfl, A.e i, A.o i, A.t i, S.E i, rfl, PA.en i hi, hl, hl2, fun p as H1 hp s1 ht1 hla hat => ?_⟩
    refine ⟨p, rfl, ⟨_, SqT.of ht1⟩, fun Dl hD => lc_tup (K := K) (a := p) (xs := as.map V.ref) (fun j H' => ∃ bs : List Addr, Same H1 H' ∧ H' Dl = some (.lst (bs.map V.ref)) ∧ Paired (FlAt g H') bs (((S.E i).frames.take j).map fun f => ⟨due, 1 - i, f⟩)) ?_ ?_ ?_ ?_⟩
    · exact ⟨[], Same.new hD, upd_same, .nil⟩
    · rintro j H' _ ⟨bs, s2, _⟩
      exact SqT.of (s2 _ _ ht1)
    · rintro j y H2 hj ⟨bs, s2, hd2, pb⟩
      rw [List.getElem?_map] at hj
      obtain ⟨a, ha, rfl⟩ := Option.map_eq_some_iff.mp hj
      have hjl : j < (S.E i).frames.length := by rw [← hla]; exact (List.getElem?_eq_some_iff.mp ha).1
      have hf := List.getElem?_eq_getElem hjl
      have fa := s2 _ _ (hat j a _ ha hf)
      have hbl := Paired.length pb
      rw [List.length_map, List.length_take] at hbl
      have hf3 := frames_le (S.E i)
      refine ⟨rfl, _, rfl, _, rfl, _, _, rfl, rfl, _, rfl, (by show 3 ≤ sizeLine; decide), fun u hu => ?_⟩
      have s3 : Same H2 (upd H2 u (.tup [.int due, .int (1 - (i : Int)), .ref a])) := Same.new hu
      have nDu : Dl ≠ u := ne_of_none hd2 hu
      refine ⟨bs.map V.ref, by rw [upd_ne nDu]; exact hd2, small1000 (by rw [List.length_map]; omega), bs ++ [u], ?_, ?_, ?_⟩
      · intro b o z
        have nb : b ≠ Dl := ne_of_none z hD
        rw [upd_ne nb]
        exact s3 _ _ (s2 _ _ z)
      · rw [upd_same, List.map_append]; rfl
      · have t4 : Tp (upd H2 u (.tup [.int due, .int (1 - (i : Int)), .ref a])) (upd (upd H2 u (.tup [.int due, .int (1 - (i : Int)), .ref a])) Dl (.lst (bs.map V.ref ++ [.ref u]))) := Tp.at (by rw [upd_ne nDu]; exact hd2) fun xs z => by cases z
        have t5 := (Tp.same s3).trans t4
        rw [List.take_add_one, hf, List.map_append]
        refine Paired.app (Paired.mapP pb fun x y => flStay t5) (.cons ⟨a, t4 _ _ ?_, t5 _ _ fa⟩ .nil)
        rw [upd_same]
        have e1 : (1 : Int) - (i : Int) = ((1 - i : Nat) : Int) := by omega
        rw [e1]
    · rintro H2 ⟨bs, s2, hd2, pb⟩
      rw [List.length_map, hla, List.take_length] at pb
      have s12 := Same.tr s1 s2
      have hbl := Paired.length pb
      rw [List.length_map] at hbl
      have hf3 := frames_le (S.E i)
      have haf : af.length = S.fl.length := Paired.length pfl
      have PB := PA.same s12
      have hfl2 := s12 _ _ hfl
      have nfD : fl ≠ Dl := fun z => by
        have := s1 _ _ hfl
        rw [z, hD] at this
        cases this
      refine ⟨fl, Dl, _, _, rfl, rfl, hfl2, hd2, by rw [List.length_map, List.length_map, haf, hbl]; exact Nat.le_of_lt (small1000 (by omega)), ?_⟩
      have q := PB.fly (as := af ++ bs) (xs := S.fl ++ (S.E i).frames.map fun f => ⟨due, 1 - i, f⟩) (Paired.app (Paired.mapP pfl fun a b => flStay (Tp.same s12)) pb)
      rw [List.map_append] at q
      exact k _ q ((Kp.same s12).trans (Kp.at (by simp)))
theorem scPDone : FnScope ["self", "end"] ["self"] (defScope sPDone) := ⟨rfl, rfl, rfl, by decide +kernel, rfl, by decide +kernel, by decide +kernel⟩
theorem ok_pdone {f : Addr} {fd : FuncData} (F : Fun K "is_done" "Pace.is_done" sPDone f fd) (T : TxP K mg CP CE CB) : FnOk P w K mg base CX0 1 f fd ["self"] (spPDone g CP CE) := by
  refine F.ok scPDone (fun vs H Q E h => ?_) (fun cdv A outer s H vs Q E hr h => ?_)
  · obtain ⟨A, fl, D, L, S, rfl, _⟩ := h
    rfl
  · obtain ⟨A, fl, D, L, S, rfl, PA, k⟩ := h
    refine ⟨_, (pss_one (ps_ret (pe_callB (cr_all rfl) (by rfl) T.all boot_all (pa_cons (pe_lc (own := [("end", 1)]) (g := gName 1) (tt := tYes) rfl scPDone.nd (pi_tup (pe_fld (pv 0) rfl)) (blkOk_by (own := [("end", 1)]) (N := ["self", "end"]) (sc := defScope sPDone) (by decide +kernel)) (fun _ _ _ _ _ => pg_name (i := 1) scPDone.nd rfl (Or.inl rfl)) (fun _ _ _ _ _ => pts_nil) (fun _ _ _ _ _ => (pe_cmpR op_eq (pe_fldK (K := K) rfl (pv 1) rfl) (pe_callB (call_len_seqK (K := K) rfl) (by rfl) T.E.len PySem.boot_len (pa_cons (pe_fldK (K := K) rfl (pv 1) rfl) pa_nil)) (nomark _)))) pa_nil)))), ?_⟩
    obtain ⟨dx, h1⟩ := PA.ob
    refine ⟨_, rfl, A.p, CP, dx, _, _, rfl, h1, T.cl, T.nE, rfl, A.te, rfl, ⟨_, SqT.of PA.te⟩, fun Dl hD => lc_tup (K := K) (a := A.te) (xs := [V.ref (A.e 0), V.ref (A.e 1)]) (fun j H' => Same H H' ∧ H' Dl = some (.lst (([decide ((S.E 0).ans = (S.E 0).out.length), decide ((S.E 1).ans = (S.E 1).out.length)].take j).map V.bl))) ?_ ?_ ?_ ?_⟩
    · exact ⟨Same.new hD, upd_same⟩
    · rintro j H' _ ⟨s2, _⟩
      exact SqT.of (s2 _ _ PA.te)
    · rintro j y H2 hj ⟨s2, hd2⟩
      have hy : ∃ i, i < 2 ∧ j = i ∧ y = .ref (A.e i) := by
        match j, hj with
        | 0, hj => cases hj; exact ⟨0, by decide, rfl, rfl⟩
        | 1, hj => cases hj; exact ⟨1, by decide, rfl, rfl⟩
      obtain ⟨i, hi, rfl, rfl⟩ := hy
      obtain ⟨⟨de, a1⟩, a2, _, _⟩ := PA.en j hi
      refine ⟨rfl, _, rfl, A.e j, CE, de, _, _, rfl, s2 _ _ a1, T.E.cl, T.E.nA, rfl, _, rfl, A.e j, CE, de, _, _, rfl, s2 _ _ a1, T.E.cl, T.E.nO, rfl, A.o j, _, rfl, .inl (SqL.of (s2 _ _ a2)), rfl, ?_⟩
      rw [List.length_map]
      refine ⟨_, hd2, small1000 (by rw [List.length_map, List.length_take]; show min j 2 ≤ _; omega), fun b o z => ?_, ?_⟩
      · rw [upd_ne (ne_of_none z hD)]
        exact s2 _ _ z
      · have eb : decide (V.int ((S.E j).ans : Int) = V.int ((S.E j).out.length : Int)) = decide ((S.E j).ans = (S.E j).out.length) := decide_eq_decide.mpr ⟨fun z => by have := V.int.inj z; omega, fun z => by rw [z]⟩
        rw [upd_same, eb]
        rcases i2 hi with rfl | rfl <;> rfl
    · rintro H2 ⟨s2, hd2⟩
      refine ⟨Dl, _, rfl, SqL.of hd2, ?_⟩
      have := k H2 s2
      generalize decide ((S.E 0).ans = (S.E 0).out.length) = b0 at this ⊢
      generalize decide ((S.E 1).ans = (S.E 1).out.length) = b1 at this ⊢
      cases b0 <;> cases b1 <;> exact this
theorem scPHear : FnScope ["self", "coming", "_", "at", "frame", "row"] ["self"] (defScope sPHear) := ⟨rfl, rfl, rfl, by decide +kernel, rfl, by decide +kernel, by decide +kernel⟩
theorem hearAll_take {xs : List FlR} {E : Nat → ES} {j : Nat} {x : FlR} (h : xs[j]? = some x) : hearAll E (xs.take (j + 1)) = hear1 (hearAll E (xs.take j)) x := by
  unfold hearAll
  rw [List.take_add_one, h, List.foldl_append]
  rfl
theorem hear_len1 (E : ES) (ep : Int) (f : Fr) : (E.hear ep f).told.length ≤ E.told.length + 1 := by
  rcases hear_told E ep f with h | ⟨w, _, h⟩
  · rw [h]; omega
  · rw [h, List.length_append]; exact Nat.le_refl _
theorem hearAll_len1 (xs : List FlR) : ∀ (E : Nat → ES) (i : Nat), (hearAll E xs i).told.length ≤ (E i).told.length + xs.length := by
  induction xs with
  | nil => exact fun _ _ => Nat.le_refl _
  | cons x xs ih =>
    intro E i
    have h := ih (hear1 E x) i
    have h2 : (hear1 E x i).told.length ≤ (E i).told.length + 1 := by
      unfold hear1 setE; split
      · rename_i e; rw [e]; exact hear_len1 _ _ _
      · omega
    show (hearAll (hear1 E x) xs i).told.length ≤ _
    rw [List.length_cons]
    omega
/-- rows of what flies, kept by a test -/
theorem pick {g : Int → V} {H : Hp} {p : FlR → Bool} {as : List Addr} {xs : List FlR} (h : Paired (FlAt g H) as xs) : ∃ bs : Nat → List Addr, (∀ j, Paired (FlAt g H) (bs j) ((xs.take j).filter p)) ∧ bs 0 = [] ∧ ∀ (j : Nat) a x, as[j]? = some a → xs[j]? = some x → bs (j + 1) = if p x = true then bs j ++ [a] else bs j := by
  refine ⟨fun j => (((as.zip xs).take j).filter fun q => p q.2).map (·.1), fun j => ?_, rfl, fun j a x ha hx => ?_⟩
  · induction h generalizing j with
    | nil => cases j <;> exact .nil
    | @cons a x as xs r t ih =>
      cases j with
      | zero => exact .nil
      | succ j =>
        show Paired _ ((((a, x) :: (as.zip xs).take j).filter fun q => p q.2).map (·.1)) ((x :: xs.take j).filter p)
        cases e : p x with
        | true =>
          rw [List.filter_cons_of_pos (by exact e), List.filter_cons_of_pos e]
          exact .cons r (ih j)
        | false =>
          rw [List.filter_cons_of_neg (by simp [e]), List.filter_cons_of_neg (by simp [e])]
          exact ih j
  · have e : (as.zip xs)[j]? = some (a, x) := List.getElem?_zip_eq_some.mpr ⟨ha, hx⟩
    show (((as.zip xs).take (j + 1)).filter fun q => p q.2).map (·.1) = _
    rw [List.take_add_one, e, List.filter_append, List.map_append]
    show _ ++ ([(a, x)].filter fun q => p q.2).map (·.1) = _
    cases z : p x with
    | true =>
      rw [List.filter_cons_of_pos (by exact z), if_pos rfl]
      rfl
    | false =>
      rw [List.filter_cons_of_neg (by simp [z]), if_neg (by simp)]
      exact List.append_nil _
theorem ok_phear {f : Addr} {fd : FuncData} (F : Fun K "hear_frames" "Pace.hear_frames" sPHear f fd) (T : TxP K mg CP CE CB) (c : CalM P w K mg base CE 1 "hear" ["self", "epoch", "frame"] (spEHear g CE)) : FnOk P w K mg base CX0 2 f fd ["self"] (spPHear g CP CE) := by
  obtain ⟨tep, hep⟩ := T.ep
  refine F.ok scPHear (fun vs H Q E h => ?_) (fun cdv A outer s H vs Q E hr h => ?_)
  · obtain ⟨A, fl, D, L, S, rfl, _⟩ := h
    rfl
  · obtain ⟨A, fl, D, L, S, rfl, PA, hgo, hln, k⟩ := h
    refine ⟨_, (pss_cons (ps_setLc (i := 1) (own := [("row", 5)]) (g := gName 5) rfl scPHear.nd rfl rfl (sw_true rfl rfl rfl (by decide +kernel)) (pi_list (pe_fld (pv 0) rfl)) (blkOk_by (own := [("row", 5)]) (N := ["self", "coming", "_", "at", "frame", "row"]) (sc := defScope sPHear) (by decide +kernel)) (fun _ _ _ _ _ => pg_name (i := 5) scPHear.nd rfl (Or.inl rfl)) (fun _ _ _ _ _ => pts_one (pt_cmpR op_eq (pe_ix (ix_tupK (K := K) rfl) (pv 5) pe_int (fun _ _ => rfl)) (pe_fldK (K := K) rfl (pv 0) rfl) (nomark _))) (fun _ _ _ _ _ => (pv 5)))
      (pss_cons (ps_fld (pv 0) (pe_lc (own := [("row", 5)]) (g := gName 5) rfl scPHear.nd (pi_list (pe_fld (pv 0) rfl)) (blkOk_by (own := [("row", 5)]) (N := ["self", "coming", "_", "at", "frame", "row"]) (sc := defScope sPHear) (by decide +kernel)) (fun _ _ _ _ _ => pg_name (i := 5) scPHear.nd rfl (Or.inl rfl)) (fun _ _ _ _ _ => pts_one (pt_cmpR op_gt (pe_ix (ix_tupK (K := K) rfl) (pv 5) pe_int (fun _ _ => rfl)) (pe_fldK (K := K) rfl (pv 0) rfl) (nomark _))) (fun _ _ _ _ _ => (pv 5))) rfl)
      (pss_one (ps_for PassesOwn.never rfl (pi_list (pv 1)) (pg_tup rfl (pgs_cons (pg_name (i := 2) scPHear.nd rfl (Or.inl rfl)) (pgs_cons (pg_name (i := 3) scPHear.nd rfl (Or.inl rfl)) (pgs_cons (pg_name (i := 4) scPHear.nd rfl (Or.inl rfl)) pgs_nil))))
        (pss_one (ps_expr (pe_calM (pe_ix ix_tup (pe_fld (pv 0) rfl) (pv 3) (fun _ _ => rfl)) T.E.cl c (hr.mono (by decide)) (pa_cons (pe_glob (by rfl) hep rel_int) (pa_cons (pv 4) pa_nil))))))))), ?_⟩
    obtain ⟨dx, h1⟩ := PA.ob
    obtain ⟨af, hfl, pfl⟩ := PA.fy
    have haf : af.length = S.fl.length := Paired.length pfl
    have hz : S.fl.length ≤ 900 := Nat.le_trans (Nat.le_add_left _ _) (hln 0 (by decide))
    obtain ⟨bs, pbs, bs0, bstep⟩ := pick (p := fun x => decide (x.due = S.t)) pfl
    refine ⟨_, rfl, A.p, CP, dx, _, _, rfl, h1, T.cl, T.nF, rfl, fl, rfl, ⟨_, SqL.of hfl⟩, fun Dl hD => lc_list (K := K) (a := fl) (xs := af.map V.ref) (fun j H' => Same H H' ∧ H' Dl = some (.lst ((bs j).map V.ref))) ?_ ?_ ?_ ?_⟩
    · exact ⟨Same.new hD, by rw [bs0]; exact upd_same⟩
    · rintro j H' _ ⟨s2, _⟩
      exact SqL.of (s2 _ _ hfl)
    · rintro j y H2 hj ⟨s2, hd2⟩
      rw [List.getElem?_map] at hj
      obtain ⟨a, ha, rfl⟩ := Option.map_eq_some_iff.mp hj
      obtain ⟨x, hx, fa, q1, q2⟩ := Paired.ix' pfl ha
      have st := bstep j a x ha hx
      refine ⟨rfl, _, rfl, a, _, 0, .int x.due, rfl, rfl, SqT.of (s2 _ _ q1), rfl, _, rfl, A.p, CP, dx, _, _, rfl, s2 _ _ h1, T.cl, T.nT, rfl, rfl, _, rfl, ?_⟩
      have hbl : (bs j).length ≤ S.fl.length := by
        rw [Paired.length (pbs j)]
        exact Nat.le_trans (List.length_filter_le _ _) (by rw [List.length_take]; omega)
      have ed : decide (V.int (x.due : Int) = V.int (S.t : Int)) = decide (x.due = S.t) := decide_eq_decide.mpr ⟨fun z => by have := V.int.inj z; omega, fun z => by rw [z]⟩
      refine ite2 (fun h => ?_) (fun h => ?_)
      · have h : decide (V.int (x.due : Int) = V.int (S.t : Int)) = true := h
        rw [ed] at h
        rw [if_pos h] at st
        refine ⟨_, rfl, _, hd2, small1000 (by rw [List.length_map]; omega), fun b o z => ?_, ?_⟩
        · rw [upd_ne (ne_of_none z hD)]
          exact s2 _ _ z
        · rw [upd_same, st, List.map_append]
          rfl
      · have h : ¬ decide (V.int (x.due : Int) = V.int (S.t : Int)) = true := h
        rw [ed] at h
        rw [if_neg h] at st
        exact ⟨s2, by rw [st]; exact hd2⟩
    · rintro H2 ⟨s2, hd2⟩
      rw [List.length_map, haf] at hd2
      have pcom := pbs S.fl.length
      rw [List.take_length] at pcom
      obtain ⟨cs, pcs, cs0, cstep⟩ := pick (p := fun x => decide (S.t < x.due)) pfl
      have h12 := s2 _ _ h1
      have hfl2 := s2 _ _ hfl
      refine ⟨_, rfl, A.p, CP, dx, _, _, rfl, h12, T.cl, T.nF, rfl, fl, rfl, ⟨_, SqL.of hfl2⟩, fun D2 hD2 => lc_list (K := K) (a := fl) (xs := af.map V.ref) (fun j H' => Same H2 H' ∧ H' D2 = some (.lst ((cs j).map V.ref))) ?_ ?_ ?_ ?_⟩
      · exact ⟨Same.new hD2, by rw [cs0]; exact upd_same⟩
      · rintro j H' _ ⟨s3, _⟩
        exact SqL.of (s3 _ _ hfl2)
      · rintro j y H3 hj ⟨s3, hd3⟩
        rw [List.getElem?_map] at hj
        obtain ⟨a, ha, rfl⟩ := Option.map_eq_some_iff.mp hj
        obtain ⟨x, hx, fa, q1, q2⟩ := Paired.ix' pfl ha
        have st := cstep j a x ha hx
        refine ⟨rfl, _, rfl, a, _, 0, .int x.due, rfl, rfl, SqT.of (s3 _ _ (s2 _ _ q1)), rfl, _, rfl, A.p, CP, dx, _, _, rfl, s3 _ _ h12, T.cl, T.nT, rfl, _, _, rfl, rfl, _, rfl, ?_⟩
        have hbl : (cs j).length ≤ S.fl.length := by
          rw [Paired.length (pcs j)]
          exact Nat.le_trans (List.length_filter_le _ _) (by rw [List.length_take]; omega)
        have ed : decide ((S.t : Int) < (x.due : Int)) = decide (S.t < x.due) := decide_eq_decide.mpr ⟨fun z => by omega, fun z => by omega⟩
        refine ite2 (fun h => ?_) (fun h => ?_)
        · have h : decide ((S.t : Int) < (x.due : Int)) = true := h
          rw [ed] at h
          rw [if_pos h] at st
          refine ⟨_, rfl, _, hd3, small1000 (by rw [List.length_map]; omega), fun b o z => ?_, ?_⟩
          · rw [upd_ne (ne_of_none z hD2)]
            exact s3 _ _ z
          · rw [upd_same, st, List.map_append]
            rfl
        · have h : ¬ decide ((S.t : Int) < (x.due : Int)) = true := h
          rw [ed] at h
          rw [if_neg h] at st
          exact ⟨s3, by rw [st]; exact hd3⟩
      · rintro H3 ⟨s3, hd3⟩
        rw [List.length_map, haf] at hd3
        have pfin := pcs S.fl.length
        rw [List.take_length] at pfin
        have s13 := Same.tr s2 s3
        have h13 := s13 _ _ h1
        have PA3 := PA.same s13
        have hD2n : H D2 = none := by
          cases z : H D2 with
          | none => rfl
          | some o => rw [s2 _ _ z] at hD2; cases hD2
        have nd' : (D2 :: A.M).Nodup := List.nodup_cons.mpr ⟨fun z => PA.fresh hD2n (List.mem_cons_of_mem _ z), (List.nodup_cons.mp PA.nd).2⟩
        have PA4 := PA3.obj (dx := dx) (fl' := D2) (S' := { S with fl := S.fl.filter fun x => decide (S.t < x.due) }) rfl rfl ⟨_, hd3, Paired.mapP pfin fun a b => flStay (Tp.same s13)⟩ nd'
        refine ⟨_, rfl, A.p, CP, dx, _, rfl, h13, T.cl, T.nF, (by show 6 < 1000; decide), ?_⟩
        have k4 : Kp (fl :: A.M) H (upd H3 A.p (.ins CP dx (PF D L A D2 { S with fl := S.fl.filter fun x => decide (S.t < x.due) }))) := (Kp.same s13).trans (Kp.at (by unfold Pd.M; simp))
        have t4 : Tp H (upd H3 A.p (.ins CP dx (PF D L A D2 { S with fl := S.fl.filter fun x => decide (S.t < x.due) }))) := PA.tp k4
        have hDl4 : upd H3 A.p (.ins CP dx (PF D L A D2 { S with fl := S.fl.filter fun x => decide (S.t < x.due) })) Dl = some (.lst ((bs S.fl.length).map V.ref)) := by
          rw [upd_ne (ne_of (s3 _ _ hd2) h13 (by intro z; cases z))]
          exact s3 _ _ hd2
        have nDl : Dl ∉ D2 :: A.M := fun z => by
          rcases List.mem_cons.mp z with z | z
          · exact ne_of_none hd2 hD2 z
          · exact PA.fresh hD (List.mem_cons_of_mem _ z)
        have nfl : fl ≠ A.p := Ne.symm (Pd.ne PA.nd).1.1
        rw [show upd H3 A.p (.ins CP dx (putF "flying" (.ref D2) (PF D L A fl S))) = upd H3 A.p (.ins CP dx (PF D L A D2 { S with fl := S.fl.filter fun x => decide (S.t < x.due) })) from rfl]
        generalize upd H3 A.p (.ins CP dx (PF D L A D2 { S with fl := S.fl.filter fun x => decide (S.t < x.due) })) = H4 at PA4 k4 t4 hDl4 ⊢
        have hcl : (bs S.fl.length).length = (S.fl.filter fun x => decide (x.due = S.t)).length := Paired.length pcom
        have hcle : (S.fl.filter fun x => decide (x.due = S.t)).length ≤ S.fl.length := List.length_filter_le _ _
        refine ⟨_, rfl, Dl, rfl, ⟨_, SqL.of hDl4⟩, for_list (K := K) (a := Dl) (xs := (bs S.fl.length).map V.ref) (fun j σ' H' => ∃ (v2 v3 v4 v5 : Option V), σ' = [some (.ref A.p), some (.ref Dl), v2, v3, v4, v5] ∧ PaceAt g CP CE D L H' A D2 { S with E := hearAll S.E ((S.fl.filter fun x => decide (x.due = S.t)).take j), fl := S.fl.filter fun x => decide (S.t < x.due) } ∧ Kp A.M H4 H') ?_ ?_ ?_ ?_⟩
        · exact ⟨_, _, _, _, rfl, PA4, Kp.refl _ _⟩
        · rintro j σ' H' _ ⟨v2, v3, v4, v5, rfl, _, k5⟩
          exact SqL.of (k5 _ _ hDl4 fun z => nDl (List.mem_cons_of_mem _ z))
        · rintro j y σ' H5 hj ⟨v2, v3, v4, v5, rfl, PA5, k5⟩
          rw [List.getElem?_map] at hj
          obtain ⟨a, ha, rfl⟩ := Option.map_eq_some_iff.mp hj
          obtain ⟨x, hx, fa, q1, q2⟩ := Paired.ix' pcom ha
          have t5 : Tp H4 H5 := tp_of k5 fun z hz => PA4.nt z (List.mem_cons_of_mem _ hz)
          have q1' := t5 _ _ (t4 _ _ q1)
          have q2' : FrAt g H5 fa x.f := t5 _ _ (t4 _ _ q2)
          have hxm := (List.mem_filter.mp (List.mem_of_getElem? hx)).1
          have hg2 := hgo x hxm
          obtain ⟨dx5, h5⟩ := PA5.ob
          have en5 := PA5.en x.goal hg2
          obtain ⟨⟨de, a5⟩, _⟩ := id en5
          refine ⟨a, _, rfl, SqT.of q1', rfl, _, _, rfl, _, _, rfl, _, _, rfl, rfl, ?_⟩
          refine ⟨_, rfl, A.p, CP, dx5, _, _, rfl, h5, T.cl, T.nE, rfl, _, rfl, A.te, _, _, _, rfl, rfl, SqT.of PA5.te, ends_at hg2, A.e x.goal, de, _, rfl, a5, rfl, _, rfl, A.e x.goal, A.o x.goal, A.t x.goal, fa, _, 1, x.f, rfl, en5, q2', ?_, fun H6 e6 k6 => ?_⟩
          · have h1 := hearAll_len1 ((S.fl.filter fun x => decide (x.due = S.t)).take j) S.E x.goal
            have h2 := hln x.goal hg2
            have h3 := List.length_take_le j (S.fl.filter fun x => decide (x.due = S.t))
            show (hearAll S.E _ x.goal).told.length ≤ 1000
            have h4 : ((S.fl.filter fun x => decide (x.due = S.t)).take j).length ≤ (S.fl.filter fun x => decide (x.due = S.t)).length := by rw [List.length_take]; omega
            omega
          · have k6' : Kp [A.e x.goal, A.o x.goal, A.t x.goal] H5 H6 := k6.mono (by simp)
            have PA6 := PA5.end_ hg2 e6 k6'
            refine ⟨_, _, _, _, rfl, ?_, k5.trans (k6'.mono fun b hb => ?_)⟩
            · rw [hearAll_take hx]
              exact PA6
            · have := Pd.mem (A := A) hg2
              simp only [List.mem_cons, List.not_mem_nil, or_false] at hb
              rcases hb with rfl | rfl | rfl
              · exact this.1
              · exact this.2.1
              · exact this.2.2
        · rintro σ' H5 ⟨v2, v3, v4, v5, rfl, PA5, k5⟩
          rw [List.length_map, hcl, List.take_length] at PA5
          exact k D2 H5 hD2n PA5 (k4.trans (k5.mono fun b hb => List.mem_cons_of_mem _ hb))
end
end Mc
namespace Mc
open PySem L2 PySem.Spec PyProof.Rows
/-! ### Pace.__init__, Pace.tick -/
theorem nodup_new {H : Hp} {y : Addr} {l : List Addr} (h : l.Nodup) (hl : ∀ x ∈ l, ∃ o, H x = some o) (hy : H y = none) : (y :: l).Nodup := List.nodup_cons.mpr ⟨fun z => (by
  obtain ⟨o, e⟩ := hl y z
  rw [hy] at e
  cases e), h⟩
def spPInit (g : Int → V) (CP CE CB : Addr) : Sp := fun vs H Q E => ∃ (p dx : Addr) (x y : V), vs = [.ref p, x, y] ∧ H p = some (.ins CP dx []) ∧
  ((∃ D L : Nat, x = .int D ∧ y = .int L ∧ 1 ≤ D ∧ D ≤ 1000 ∧ L ≤ 1000 ∧ ∀ (A : Pd) (fl : Addr) (H' : Hp), A.p = p → (∀ b ∈ fl :: A.M, b ≠ p → H b = none) → PaceAt g CP CE D L H' A fl PS.new → Kp [p] H H' → Q .non H') ∨
    ∃ z, ((numV x 1 1000 = some false ∧ z = x) ∨ (numV x 1 1000 = some true ∧ numV y 0 1000 = some false ∧ z = y)) ∧ ∀ d H', Same H H' → H' d = some (.xd [("name", z)]) → E (.ref CB) (some d) H')
structure Sz (L : Nat) (S : PS) : Prop where
  j : JP L S
  out : ∀ i, i < 2 → (S.E i).out.length ≤ 100
  fl : S.fl.length ≤ 6 * S.t
  t : S.t ≤ 100
def spPTick (g : Int → V) (CP CE CB : Addr) : Sp := fun vs H Q E => ∃ (A : Pd) (fl : Addr) (D L : Nat) (S : PS) (lw a0 a1 : Addr) (w : (Bool × Nat) × (Bool × Nat)), vs = [.ref A.p, .ref lw] ∧ PaceAt g CP CE D L H A fl S ∧ H lw = some (.lst [.ref a0, .ref a1]) ∧ lw ∉ fl :: A.M ∧
  H a0 = some (.tup [.bl w.1.1, .int w.1.2]) ∧ H a1 = some (.tup [.bl w.2.1, .int w.2.2]) ∧ Sz L S ∧
  ((okW D w ∧ ∀ (fl' : Addr) (H' : Hp), H fl' = none → PaceAt g CP CE D L H' A fl' (S.tick L w) → Kp (fl :: A.M) H H' → Q .non H') ∨
    (1 ≤ w.1.2 ∧ w.1.2 ≤ D ∧ D < w.2.2 ∧ ∀ d H', Same H H' → H' d = some (.xd [("name", .int w.2.2)]) → E (.ref CB) (some d) H'))
section
variable {g : Int → V} {P : Program} {w : World} {K : PySem.W.Frag} {mg : Str → Option Value} {base : Heap} {CP CE CB : Addr}
theorem scPInit : FnScope ["self", "delay", "losses"] ["self", "delay", "losses"] (defScope sPInit) := ⟨rfl, rfl, rfl, by decide +kernel, rfl, by decide +kernel, by decide +kernel⟩
theorem ok_pinit {f : Addr} {fd : FuncData} (F : Fun K "__init__" "Pace.__init__" sPInit f fd) (T : TxP K mg CP CE CB) (c_is_number : Cal P w K mg base 1 "is_number" ["thing", "low", "high"] spIsN) (cB : CalB P w K mg base CB "name") (c_End : CalI P w K mg base CE 1 "End" ["self"] (spEInit g CE)) :
    FnOk P w K mg base (L2.CX P w) 4 f fd ["self", "delay", "losses"] (spPInit g CP CE CB) := by
  obtain ⟨fI, fdI, iC, tI, bI, FI⟩ := cB
  obtain ⟨tl, hlong⟩ := T.long
  refine F.okX scPInit (fun vs H Q E h => ?_) (fun cdv A outer s H vs Q E hr h => ?_)
  · obtain ⟨p, dx, x, y, rfl, _⟩ := h
    rfl
  · obtain ⟨p, dx, x, y, rfl, hp, h⟩ := h
    refine ⟨_, (pss_cons (ps_if (pt_not (pt_val (pe_cal c_is_number (hr.mono (by decide)) rfl (pa_cons (pv 1) (pa_cons pe_int (pa_cons (pe_glob (by rfl) hlong rel_int) pa_nil))))))
        (pss_one (ps_raise rfl (takes_of rfl rfl rfl rfl) (pmk_B T.B.T iC tI FI (hr.mono (by decide)) bI rfl T.B.mg (pa_cons (pv 1) pa_nil))))
        pss_nil)
      (pss_cons (ps_if (pt_not (pt_val (pe_cal c_is_number (hr.mono (by decide)) rfl (pa_cons (pv 2) (pa_cons pe_int (pa_cons (pe_glob (by rfl) hlong rel_int) pa_nil))))))
        (pss_one (ps_raise rfl (takes_of rfl rfl rfl rfl) (pmk_B T.B.T iC tI FI (hr.mono (by decide)) bI rfl T.B.mg (pa_cons (pv 2) pa_nil))))
        pss_nil)
      (pss_cons (ps_fld (pv 0) (pv 1) rfl)
      (pss_cons (ps_fld (pv 0) (pv 2) rfl)
      (pss_cons (ps_fld (pv 0) (pe_tup (pa_cons (pe_calI0 c_End (hr.mono (by decide)) rfl) (pa_cons (pe_calI0 c_End (hr.mono (by decide)) rfl) pa_nil))) rfl)
      (pss_cons (ps_fld (pv 0) pe_int rfl)
      (pss_cons (ps_fld (pv 0) (pe_lst (pa_cons pe_int (pa_cons pe_int pa_nil))) rfl)
      (pss_one (ps_fld (pv 0) (pe_lst pa_nil) rfl))))))))), ?_⟩
    rcases h with ⟨D, L, rfl, rfl, d1, d2, l2, k⟩ | ⟨z, h, k⟩
    · refine ⟨_, rfl, _, _, _, rfl, .inl ⟨_, rfl, _, rfl, ?_⟩⟩
      rw [decide_eq_true (by omega : (1 : Int) ≤ D), decide_eq_true (by omega : (D : Int) ≤ 1000)]
      refine ite2 (fun h => absurd h (by decide)) (fun _ => ?_)
      refine ⟨_, rfl, _, _, _, rfl, .inl ⟨_, rfl, _, rfl, ?_⟩⟩
      rw [decide_eq_true (by omega : (0 : Int) ≤ L), decide_eq_true (by omega : (L : Int) ≤ 1000)]
      refine ite2 (fun h => absurd h (by decide)) (fun _ => ?_)
      refine ⟨_, rfl, _, rfl, p, CP, dx, [], rfl, hp, T.cl, T.nD, (by show 0 < 1000; decide), ?_⟩
      refine ⟨_, rfl, _, rfl, p, CP, dx, _, rfl, upd_same, T.cl, T.nL, (by show 1 < 1000; decide), ?_⟩
      have g1 : upd (upd H p (.ins CP dx [("delay", .int D)])) p (.ins CP dx [("delay", .int D), ("losses", .int L)]) p = some (.ins CP dx [("delay", .int D), ("losses", .int L)]) := upd_same
      have k1 : Kp [p] H (upd (upd H p (.ins CP dx [("delay", .int D)])) p (.ins CP dx [("delay", .int D), ("losses", .int L)])) := (Kp.at (by simp)).trans (Kp.at (by simp))
      rw [show upd (upd H p (.ins CP dx (putF "delay" (.int D) []))) p (.ins CP dx (putF "losses" (.int L) (putF "delay" (.int D) []))) = upd (upd H p (.ins CP dx [("delay", .int D)])) p (.ins CP dx [("delay", .int D), ("losses", .int L)]) from rfl]
      have n1 : ∀ b, upd (upd H p (.ins CP dx [("delay", .int D)])) p (.ins CP dx [("delay", .int D), ("losses", .int L)]) b = none → H b = none := fun b hb => k1.live (fun d hd => by rw [List.mem_singleton.mp hd]; exact ⟨_, g1⟩) hb
      generalize upd (upd H p (.ins CP dx [("delay", .int D)])) p (.ins CP dx [("delay", .int D), ("losses", .int L)]) = H1 at g1 k1 n1 ⊢
      -- End()
      intro e0 x0 he0 hx0 _
      have s2 : Same H1 (upd (upd H1 x0 (.own e0)) e0 (.ins CE x0 [])) := fun b o z => by rw [upd_ne (ne_of_none z he0), upd_ne (ne_of_none z hx0)]; exact z
      refine ⟨e0, x0, rfl, upd_same, fun o0 t0 H3 ho0 ht0 E0 k3 => ⟨rfl, ?_⟩⟩
      have q0 : (upd (upd H1 x0 (.own e0)) e0 (.ins CE x0 [])) e0 = some (.ins CE x0 []) := upd_same
      generalize upd (upd H1 x0 (.own e0)) e0 (.ins CE x0 []) = H2 at s2 ho0 ht0 k3 q0
      have nE0 : o0 ≠ e0 := (ne_of_none q0 ho0).symm
      have nE0' : t0 ≠ e0 := (ne_of_none q0 ht0).symm
      have k03 : Kp [e0] H1 H3 := (Kp.same s2).trans k3
      have g3 : H3 p = some (.ins CP dx [("delay", .int D), ("losses", .int L)]) := k03 _ _ g1 (by simp; exact ne_of_none g1 he0)
      obtain ⟨⟨y0, a0⟩, b0, c0, m0⟩ := id E0
      -- End()
      intro e1 x1 he1 hx1 _
      have s4 : Same H3 (upd (upd H3 x1 (.own e1)) e1 (.ins CE x1 [])) := fun b o z => by rw [upd_ne (ne_of_none z he1), upd_ne (ne_of_none z hx1)]; exact z
      refine ⟨e1, x1, rfl, upd_same, fun o1 t1 H5 ho1 ht1 E1 k5 => ⟨rfl, ?_⟩⟩
      have q1 : (upd (upd H3 x1 (.own e1)) e1 (.ins CE x1 [])) e1 = some (.ins CE x1 []) := upd_same
      generalize upd (upd H3 x1 (.own e1)) e1 (.ins CE x1 []) = H4 at s4 ho1 ht1 k5 q1
      have k35 : Kp [e1] H3 H5 := (Kp.same s4).trans k5
      have ne1 : ∀ {b o}, H3 b = some o → b ≠ e1 := fun z => ne_of_none z he1
      have g5 : H5 p = some (.ins CP dx [("delay", .int D), ("losses", .int L)]) := k35 _ _ g3 (by simp; exact ne1 g3)
      have E05 := E0.kp k35 (by simp; exact ne1 a0) (by simp; exact ne1 b0) (by simp; exact ne1 c0)
      obtain ⟨⟨y1, a1⟩, b1', c1, m1⟩ := id E1
      obtain ⟨⟨y0', a05⟩, b05, c05, _⟩ := id E05
      have n3 : ∀ b, H3 b = none → H1 b = none := fun b hb => k03.live (fun d hd => by rw [List.mem_singleton.mp hd]; exact ⟨_, a0⟩) hb
      have n5 : ∀ b, H5 b = none → H3 b = none := fun b hb => k35.live (fun d hd => by rw [List.mem_singleton.mp hd]; exact ⟨_, a1⟩) hb
      have n4 : ∀ b, H4 b = none → H3 b = none := fun b hb => by
        cases z : H3 b with
        | none => rfl
        | some o => rw [s4 _ _ z] at hb; cases hb
      have n2 : ∀ b, H2 b = none → H1 b = none := fun b hb => by
        cases z : H1 b with
        | none => rfl
        | some o => rw [s2 _ _ z] at hb; cases hb
      have nd7 : [t1, o1, e1, t0, o0, e0, p].Nodup := by
        have nd1 : [p].Nodup := by simp
        have nd2 : [e0, p].Nodup := nodup_new nd1 (fun x hx => by rw [List.mem_singleton.mp hx]; exact ⟨_, g1⟩) he0
        have nd3 : [o0, e0, p].Nodup := nodup_new (H := H2) nd2 (fun x hx => by
          simp only [List.mem_cons, List.not_mem_nil, or_false] at hx
          rcases hx with rfl | rfl
          · exact ⟨_, q0⟩
          · exact ⟨_, s2 _ _ g1⟩) ho0
        have nd4 : [t0, o0, e0, p].Nodup := by
          have z := nodup_new (H := H2) nd2 (fun x hx => by
            simp only [List.mem_cons, List.not_mem_nil, or_false] at hx
            rcases hx with rfl | rfl
            · exact ⟨_, q0⟩
            · exact ⟨_, s2 _ _ g1⟩) ht0
          refine List.nodup_cons.mpr ⟨fun y => ?_, nd3⟩
          rcases List.mem_cons.mp y with y | y
          · exact m0 y.symm
          · exact (List.nodup_cons.mp z).1 y
        have lv : ∀ x ∈ [t0, o0, e0, p], ∃ o, H3 x = some o := fun x hx => by
          simp only [List.mem_cons, List.not_mem_nil, or_false] at hx
          rcases hx with rfl | rfl | rfl | rfl
          · exact ⟨_, c0⟩
          · exact ⟨_, b0⟩
          · exact ⟨_, a0⟩
          · exact ⟨_, g3⟩
        have nd5 : [e1, t0, o0, e0, p].Nodup := nodup_new nd4 lv he1
        have lv2 : ∀ x ∈ [e1, t0, o0, e0, p], ∃ o, H4 x = some o := fun x hx => by
          rcases List.mem_cons.mp hx with rfl | hx
          · exact ⟨_, q1⟩
          · obtain ⟨o, z⟩ := lv x hx
            exact ⟨o, s4 _ _ z⟩
        have nd6 : [o1, e1, t0, o0, e0, p].Nodup := nodup_new nd5 lv2 ho1
        have z := nodup_new nd5 lv2 ht1
        refine List.nodup_cons.mpr ⟨fun y => ?_, nd6⟩
        rcases List.mem_cons.mp y with y | y
        · exact m1 y.symm
        · exact (List.nodup_cons.mp z).1 y
      have lv5 : ∀ x ∈ [t1, o1, e1, t0, o0, e0, p], ∃ o, H5 x = some o := fun x hx => by
        simp only [List.mem_cons, List.not_mem_nil, or_false] at hx
        rcases hx with rfl | rfl | rfl | rfl | rfl | rfl | rfl
        · exact ⟨_, c1⟩
        · exact ⟨_, b1'⟩
        · exact ⟨_, a1⟩
        · exact ⟨_, c05⟩
        · exact ⟨_, b05⟩
        · exact ⟨_, a05⟩
        · exact ⟨_, g5⟩
      -- the rest of the fields
      refine ⟨(by show 2 ≤ sizeLine; decide), fun te hte => ?_⟩
      have npte : p ≠ te := ne_of_none g5 hte
      refine ⟨_, rfl, p, CP, dx, _, rfl, (by rw [upd_ne npte]; exact g5), T.cl, T.nE, (by show 2 < 1000; decide), ?_⟩
      refine ⟨_, rfl, p, CP, dx, _, rfl, upd_same, T.cl, T.nT, (by show 3 < 1000; decide), ?_⟩
      refine ⟨(by show 2 ≤ sizeLine; decide), fun rl hrl => ?_⟩
      have nprl : p ≠ rl := ne_of_none upd_same hrl
      refine ⟨_, rfl, p, CP, dx, _, rfl, (by rw [upd_ne nprl]; exact upd_same), T.cl, T.nR, (by show 4 < 1000; decide), ?_⟩
      refine ⟨Nat.zero_le _, fun fl hfl => ?_⟩
      have npfl : p ≠ fl := ne_of_none upd_same hfl
      refine ⟨_, rfl, p, CP, dx, _, rfl, (by rw [upd_ne npfl]; exact upd_same), T.cl, T.nF, (by show 5 < 1000; decide), ?_⟩
      have hrl0 : H5 rl = none := by
        have nter : te ≠ rl := ne_of_none (o := .tup [.ref e0, .ref e1]) (by rw [upd_ne npte.symm, upd_ne npte.symm, upd_same]) hrl
        rw [upd_ne nprl.symm, upd_ne nprl.symm, upd_ne nter.symm] at hrl
        exact hrl
      have nter : te ≠ rl := ne_of_none (o := .tup [.ref e0, .ref e1]) (by rw [upd_ne npte.symm, upd_ne npte.symm, upd_same]) hrl
      have ntef : te ≠ fl := ne_of_none (o := .tup [.ref e0, .ref e1]) (by rw [upd_ne npte.symm, upd_ne nter, upd_ne npte.symm, upd_ne npte.symm, upd_same]) hfl
      have nrlf : rl ≠ fl := ne_of_none (o := .lst [.int 0, .int 0]) (by rw [upd_ne nprl.symm, upd_same]) hfl
      have hfl0 : H5 fl = none := by
        rw [upd_ne npfl.symm, upd_ne nrlf.symm, upd_ne npfl.symm, upd_ne npfl.symm, upd_ne ntef.symm] at hfl
        exact hfl
      have nd8 := nodup_new nd7 lv5 hrl0
      have nd9 : [fl, rl, t1, o1, e1, t0, o0, e0, p].Nodup := by
        refine List.nodup_cons.mpr ⟨fun y => ?_, nd8⟩
        rcases List.mem_cons.mp y with y | y
        · exact nrlf y.symm
        · exact (List.nodup_cons.mp (nodup_new nd7 lv5 hfl0)).1 y
      have kp5 : ∀ b o, H5 b = some o → b ≠ p → (upd (upd (upd (upd (upd (upd (upd H5 te (.tup [.ref e0, .ref e1])) p (.ins CP dx (putF "ends" (.ref te) [("delay", .int D), ("losses", .int L)]))) p (.ins CP dx (putF "time" (.int 0) (putF "ends" (.ref te) [("delay", .int D), ("losses", .int L)])))) rl (.lst [.int 0, .int 0])) p (.ins CP dx (putF "row_of_losses" (.ref rl) (putF "time" (.int 0) (putF "ends" (.ref te) [("delay", .int D), ("losses", .int L)]))))) fl (.lst [])) p (.ins CP dx (putF "flying" (.ref fl) (putF "row_of_losses" (.ref rl) (putF "time" (.int 0) (putF "ends" (.ref te) [("delay", .int D), ("losses", .int L)])))))) b = some o := fun b o z nb => by
        rw [upd_ne nb, upd_ne (ne_of_none z hfl0), upd_ne nb, upd_ne (ne_of_none z hrl0), upd_ne nb, upd_ne nb, upd_ne (ne_of_none z hte)]
        exact z
      have nn := nd9
      simp only [List.nodup_cons, List.mem_cons, List.not_mem_nil, or_false, not_or, not_false_eq_true, List.nodup_nil, and_true] at nn
      obtain ⟨⟨f1, f2, f3, f4, f5, f6, f7, f8⟩, ⟨r2, r3, r4, r5, r6, r7, r8⟩, ⟨x3, x4, x5, x6, x7, x8⟩, ⟨y4, y5, y6, y7, y8⟩, ⟨z5, z6, z7, z8⟩, ⟨u6, u7, u8⟩, ⟨v7, v8⟩, w8⟩ := nn
      refine k ⟨p, te, rl, fun i => if i = 0 then e0 else e1, fun i => if i = 0 then o0 else o1, fun i => if i = 0 then t0 else t1⟩ fl _ rfl (fun b hb nb => ?_) ⟨⟨dx, upd_same⟩, ?_, fun i hi => ?_, ?_, ⟨[], ?_, .nil⟩, ?_⟩ (fun b o z nb => ?_)
      · have hb' : b ∈ [fl, p, rl, e0, o0, t0, e1, o1, t1] := hb
        simp only [List.mem_cons, List.not_mem_nil, or_false] at hb'
        rcases hb' with rfl | rfl | rfl | rfl | rfl | rfl | rfl | rfl | rfl
        · exact n1 _ (n3 _ (n5 _ hfl0))
        · exact absurd rfl nb
        · exact n1 _ (n3 _ (n5 _ hrl0))
        · exact n1 _ he0
        · exact n1 _ (n2 _ ho0)
        · exact n1 _ (n2 _ ht0)
        · exact n1 _ (n3 _ he1)
        · exact n1 _ (n3 _ (n4 _ ho1))
        · exact n1 _ (n3 _ (n4 _ ht1))
      · show _ = some (HO.tup [.ref e0, .ref e1])
        rw [upd_ne npte.symm, upd_ne ntef, upd_ne npte.symm, upd_ne nter, upd_ne npte.symm, upd_ne npte.symm, upd_same]
      · rcases i2 hi with rfl | rfl
        · show EndAt g CE _ e0 o0 t0 ES.new
          exact ⟨⟨y0', kp5 _ _ a05 w8⟩, kp5 _ _ b05 v8, kp5 _ _ c05 u8, m0⟩
        · show EndAt g CE _ e1 o1 t1 ES.new
          exact ⟨⟨y1, kp5 _ _ a1 z8⟩, kp5 _ _ b1' y8, kp5 _ _ c1 x8, m1⟩
      · show _ = some (HO.lst [.int 0, .int 0])
        rw [upd_ne nprl.symm, upd_ne nrlf, upd_ne nprl.symm, upd_same]
      · rw [upd_ne npfl.symm, upd_same]
        rfl
      · show [fl, p, rl, e0, o0, t0, e1, o1, t1].Nodup
        simp only [List.nodup_cons, List.mem_cons, List.not_mem_nil, or_false, not_or, not_false_eq_true, List.nodup_nil, and_true]
        exact ⟨⟨f8, f1, f7, f6, f5, f4, f3, f2⟩, ⟨Ne.symm r8, Ne.symm w8, Ne.symm v8, Ne.symm u8, Ne.symm z8, Ne.symm y8, Ne.symm x8⟩, ⟨r7, r6, r5, r4, r3, r2⟩, ⟨Ne.symm v7, Ne.symm u7, Ne.symm z7, Ne.symm y7, Ne.symm x7⟩, ⟨Ne.symm u6, Ne.symm z6, Ne.symm y6, Ne.symm x6⟩, ⟨Ne.symm z5, Ne.symm y5, Ne.symm x5⟩, ⟨Ne.symm y4, Ne.symm x4⟩, Ne.symm x3⟩
      · have nbp : b ≠ p := fun y => nb (by rw [y]; simp)
        refine kp5 _ _ (k35 _ _ (k03 _ _ (k1 _ _ z nb) ?_) ?_) nbp
        · simp
          exact ne_of_none (k1 _ _ z nb) he0
        · simp
          exact ne_of_none (k03 _ _ (k1 _ _ z nb) (by simp; exact ne_of_none (k1 _ _ z nb) he0)) he1
    · have go : ∀ (i : Nat) (v : V), (start ["self", "delay", "losses"] [.ref p, x, y])[i]? = some (some v) → v = z → tMkB CB (spBadI CB "name") (tCons (tVar i) tNil) (start ["self", "delay", "losses"] [.ref p, x, y]) H (fun cls d H' => E cls d H') := fun i v e1 e2 => by
        subst e2
        exact ⟨_, e1, mkB_one fun d hd => k d _ (Same.new hd) upd_same⟩
      rcases h with ⟨h, rfl⟩ | ⟨h, h2, rfl⟩
      · cases z with
        | int n =>
          have eb : (decide ((1 : Int) ≤ n) && decide (n ≤ 1000)) = false := Option.some.inj h
          refine ⟨_, rfl, _, _, _, rfl, .inl ⟨_, rfl, _, rfl, ?_⟩⟩
          rw [eb]
          exact ite2 (fun _ => go 1 _ rfl rfl) (fun h => absurd rfl h)
        | str n =>
          refine ⟨_, rfl, _, _, _, rfl, .inr ⟨_, rfl, _, rfl, ?_⟩⟩
          exact ite2 (fun _ => go 1 _ rfl rfl) (fun h => absurd rfl h)
        | _ => cases h
      · have nx : ∃ n : Int, x = .int n ∧ (decide ((1 : Int) ≤ n) && decide (n ≤ 1000)) = true := by
          cases x with
          | int n => exact ⟨n, rfl, Option.some.inj h⟩
          | str n => cases Option.some.inj h
          | _ => cases h
        obtain ⟨n, rfl, eb⟩ := nx
        refine ⟨_, rfl, _, _, _, rfl, .inl ⟨_, rfl, _, rfl, ?_⟩⟩
        rw [eb]
        refine ite2 (fun h => absurd h (by decide)) (fun _ => ?_)
        cases z with
        | int m =>
          have eb : (decide ((0 : Int) ≤ m) && decide (m ≤ 1000)) = false := Option.some.inj h2
          refine ⟨_, rfl, _, _, _, rfl, .inl ⟨_, rfl, _, rfl, ?_⟩⟩
          rw [eb]
          exact ite2 (fun _ => go 2 _ rfl rfl) (fun h => absurd rfl h)
        | str m =>
          refine ⟨_, rfl, _, _, _, rfl, .inr ⟨_, rfl, _, rfl, ?_⟩⟩
          exact ite2 (fun _ => go 2 _ rfl rfl) (fun h => absurd rfl h)
        | _ => cases h2
end
end Mc
namespace Mc
open PySem L2 PySem.Spec PyProof.Rows
/-! ### Pace.tick -/
def stT (L : Nat) (S : PS) (w : (Bool × Nat) × (Bool × Nat)) : Nat → PS
  | 0 => S
  | 1 => S.wish L 0 w.1
  | _ => (S.wish L 0 w.1).wish L 1 w.2
def wAt (w : (Bool × Nat) × (Bool × Nat)) (j : Nat) : Bool × Nat := if j = 0 then w.1 else w.2
theorem stT_succ (L : Nat) (S : PS) (w : (Bool × Nat) × (Bool × Nat)) {j : Nat} (h : j < 2) : stT L S w (j + 1) = (stT L S w j).wish L j (wAt w j) := by
  rcases i2 h with rfl | rfl <;> rfl
theorem stT_ok {L D : Nat} {S : PS} {w : (Bool × Nat) × (Bool × Nat)} (Z : Sz L S) (hw : okW D w) (j : Nat) : JP L (stT L S w j) ∧ (stT L S w j).t = S.t ∧ (stT L S w j).E = S.E ∧ (stT L S w j).fl.length ≤ S.fl.length + 6 := by
  have e0 : ∀ {S : PS} {i : Nat} {v : Bool × Nat}, (S.wish L i v).fl.length ≤ S.fl.length + 3 := fun {S i v} => by
    unfold PS.wish
    split
    · exact Nat.le_add_right _ _
    · show (S.fl ++ _).length ≤ _
      rw [List.length_append, List.length_map]
      have := frames_le (S.E i)
      exact Nat.add_le_add_left this _
  match j with
  | 0 => exact ⟨Z.j, rfl, rfl, Nat.le_add_right _ _⟩
  | 1 => exact ⟨Z.j.wish (by decide) hw.1, wish_t, wish_E, Nat.le_trans e0 (by omega)⟩
  | j + 2 =>
    refine ⟨(Z.j.wish (by decide) hw.1).wish (by decide) hw.2.2.1, wish_t.trans wish_t, wish_E.trans wish_E, ?_⟩
    have h1 := e0 (S := S) (i := 0) (v := w.1)
    have h2 := e0 (S := S.wish L 0 w.1) (i := 1) (v := w.2)
    show ((S.wish L 0 w.1).wish L 1 w.2).fl.length ≤ _
    omega
section
variable {g : Int → V} {P : Program} {w : World} {K : PySem.W.Frag} {mg : Str → Option Value} {base : Heap} {CP CE CB : Addr}
theorem scPTick : FnScope ["self", "wishes", "_", "ticks", "at", "is_lost"] ["self", "wishes"] (defScope sPTick) := ⟨rfl, rfl, rfl, by decide +kernel, rfl, by decide +kernel, by decide +kernel⟩
theorem ok_ptick {f : Addr} {fd : FuncData} (F : Fun K "tick" "Pace.tick" sPTick f fd) (T : TxP K mg CP CE CB) (c_is_number : Cal P w K mg base 1 "is_number" ["thing", "low", "high"] spIsN) (cB : CalB P w K mg base CB "name")
    (c_send : CalM P w K mg base CP 2 "send" ["self", "at", "due"] (spPSend g CP CE)) (c_hear : CalM P w K mg base CP 2 "hear_frames" ["self"] (spPHear g CP CE)) :
    FnOk P w K mg base (L2.CX P w) 4 f fd ["self", "wishes"] (spPTick g CP CE CB) := by
  obtain ⟨fI, fdI, iC, tI, bI, FI⟩ := cB
  refine F.okX scPTick (fun vs H Q E h => ?_) (fun cdv A outer s H vs Q E hr h => ?_)
  · obtain ⟨A, fl, D, L, S, lw, a0, a1, w, rfl, _⟩ := h
    rfl
  · obtain ⟨A, fl, D, L, S, lw, a0, a1, w, rfl, PA, hlw, nlw, h0, h1, Z, h⟩ := h
    refine ⟨_, (pss_cons (ps_for (passes_of rfl) rfl (pi_list (pv 1)) (pg_tup rfl (pgs_cons (pg_name (i := 2) scPTick.nd rfl (Or.inl rfl)) (pgs_cons (pg_name (i := 3) scPTick.nd rfl (Or.inl rfl)) pgs_nil)))
        (pss_one (ps_if (pt_not (pt_val (pe_cal c_is_number (hr.mono (by decide)) rfl (pa_cons (pv 3) (pa_cons pe_int (pa_cons (pe_fld (pv 0) rfl) pa_nil))))))
          (pss_one (ps_raise rfl (takes_of rfl rfl rfl rfl) (pmk_B T.B.T iC tI FI (hr.mono (by decide)) bI rfl T.B.mg (pa_cons (pv 3) pa_nil))))
          pss_nil)))
      (pss_cons (ps_for (passes_of rfl) rfl (pi_enum (by rfl) T.enum (pa_cons (pv 1) pa_nil)) (pg_tup rfl (pgs_cons (pg_name (i := 4) scPTick.nd rfl (Or.inl rfl)) (pgs_cons (pg_tup rfl (pgs_cons (pg_name (i := 5) scPTick.nd rfl (Or.inl rfl)) (pgs_cons (pg_name (i := 3) scPTick.nd rfl (Or.inl rfl)) pgs_nil))) pgs_nil)))
        (pss_one (ps_if (PW.pt (pw_and (pt_val (pv 5)) (pw_and1 (pt_cmpR op_lt (pe_ix ix_list (pe_fld (pv 0) rfl) (pv 4) (fun _ _ => rfl)) (pe_fld (pv 0) rfl) (nomark _)))))
          (pss_one (ps_augS (pe_fld (pv 0) rfl) (pv 4) get_list pe_int ip_add set_list))
          (pss_cons (ps_asg pe_int (pg_sub (pe_fld (pv 0) rfl) (pv 4) set_list))
          (pss_one (ps_expr (pe_calM (pv 0) T.cl c_send (hr.mono (by decide)) (pa_cons (pv 4) (pa_cons (pe_op op_add (pe_fld (pv 0) rfl) (pv 3)) pa_nil)))))))))
      (pss_cons (ps_fldaug (pv 0) pe_int in_add)
      (pss_one (ps_expr (pe_calM0 (pv 0) T.cl c_hear (hr.mono (by decide)))))))), ?_⟩
    have wat : ∀ (j : Nat) (y : V), ([V.ref a0, V.ref a1] : List V)[j]? = some y → j < 2 ∧ ∃ a, y = .ref a ∧ H a = some (.tup [.bl (wAt w j).1, .int (wAt w j).2]) := fun j y hj => by
      match j, hj with
      | 0, hj => cases hj; exact ⟨by decide, _, rfl, h0⟩
      | 1, hj => cases hj; exact ⟨by decide, _, rfl, h1⟩
    obtain ⟨dx, hob⟩ := PA.ob
    refine ⟨_, rfl, lw, rfl, ⟨_, SqL.of hlw⟩, for_list (K := K) (a := lw) (xs := [V.ref a0, V.ref a1]) (fun j σ' H' => H' = H ∧ (2 ≤ j → okW D w) ∧ ∃ (v2 v3 : Option V), σ' = [some (.ref A.p), some (.ref lw), v2, v3, none, none]) ⟨rfl, fun h => absurd h (by decide), _, _, rfl⟩ ?_ ?_ ?_⟩
    · rintro j σ' H' _ ⟨rfl, _⟩
      exact SqL.of hlw
    · rintro j y σ' H' hj ⟨rfl, ho, v2, v3, rfl⟩
      obtain ⟨hj2, a, rfl, ha⟩ := wat j y hj
      refine ⟨a, _, rfl, SqT.of ha, rfl, _, _, rfl, _, _, rfl, rfl, ?_⟩
      refine ⟨_, rfl, _, rfl, A.p, CP, dx, _, _, rfl, hob, T.cl, T.nD, rfl, _, _, _, rfl, .inl ⟨_, rfl, _, rfl, ?_⟩⟩
      rcases h with ⟨ok, k⟩ | ⟨w1, w2, w3, k⟩
      · have hb : 1 ≤ (wAt w j).2 ∧ (wAt w j).2 ≤ D := by
          rcases i2 hj2 with rfl | rfl
          · exact ⟨ok.1, ok.2.1⟩
          · exact ⟨ok.2.2.1, ok.2.2.2⟩
        rw [decide_eq_true (by omega : (1 : Int) ≤ (wAt w j).2), decide_eq_true (by omega : ((wAt w j).2 : Int) ≤ D)]
        refine ite2 (fun h => absurd h (by decide)) (fun _ => ?_)
        exact ⟨rfl, fun _ => ok, _, _, rfl⟩
      · rcases i2 hj2 with rfl | rfl
        · show (if (!(decide ((1 : Int) ≤ w.1.2) && decide ((w.1.2 : Int) ≤ D))) = true then _ else _)
          rw [decide_eq_true (by omega : (1 : Int) ≤ w.1.2), decide_eq_true (by omega : (w.1.2 : Int) ≤ D)]
          refine ite2 (fun h => absurd h (by decide)) (fun _ => ?_)
          exact ⟨rfl, fun h => absurd h (by decide), _, _, rfl⟩
        · show (if (!(decide ((1 : Int) ≤ w.2.2) && decide ((w.2.2 : Int) ≤ D))) = true then _ else _)
          rw [decide_eq_true (by omega : (1 : Int) ≤ w.2.2), decide_eq_false (by omega : ¬ (w.2.2 : Int) ≤ D)]
          refine ite2 (fun _ => ?_) (fun h => absurd rfl h)
          exact ⟨_, rfl, mkB_one fun d hd => k d _ (Same.new hd) upd_same⟩
    · rintro σ' H' ⟨rfl, ho, v2, v3, rfl⟩
      have ok := ho (by simp)
      obtain ⟨_, k⟩ := h.resolve_right fun ⟨_, _, w3, _⟩ => by have := ok.2.2.2; omega
      refine ⟨_, rfl, lw, _, rfl, SqL.of hlw, for_it (walk_enum (K := K) (a := lw) (xs := [V.ref a0, V.ref a1])) (fun j σ' H2 => ∃ (v2 v3 v4 v5 : Option V), σ' = [some (.ref A.p), some (.ref lw), v2, v3, v4, v5] ∧ PaceAt g CP CE D L H2 A fl (stT L S w j) ∧ Kp (fl :: A.M) H' H2) ⟨_, _, _, _, rfl, PA, Kp.refl _ _⟩ ?_ ?_ ?_⟩
      · rintro j σ' H2 _ ⟨v2, v3, v4, v5, rfl, _, k2⟩
        exact SqL.of (k2 _ _ hlw nlw)
      · rintro j x σ' H2 H3 hj ⟨v2, v3, v4, v5, rfl, PA2, k2⟩ ⟨t, x1, y1, rfl, htn, rfl, e1, e2⟩
        cases Option.some.inj e1
        obtain ⟨hj2, a, rfl, ha⟩ := wat j y1 e2
        have s3 : Same H2 (upd H2 t (.tup [.int j, .ref a])) := Same.new htn
        have ht3 : upd H2 t (.tup [.int j, .ref a]) t = some (.tup [.int j, .ref a]) := upd_same
        generalize upd H2 t (.tup [.int j, .ref a]) = H3 at s3 ht3 ⊢
        have PA3 := PA2.same s3
        have ha3 := s3 _ _ (PA.tp k2 _ _ ha)
        obtain ⟨jp, jt, jE, jf⟩ := stT_ok Z ok j
        rw [stT_succ L S w hj2]
        have hwa : 1 ≤ (wAt w j).2 := by
          rcases i2 hj2 with rfl | rfl
          · exact ok.1
          · exact ok.2.2.1
        have hout : ((stT L S w j).E j).out.length ≤ 100 := by rw [jE]; exact Z.out j hj2
        have hans : ((stT L S w j).E j).ans ≤ ((stT L S w j).E j).out.length := by
          have q1 := jp.jj.ans j hj2
          have q2 := pre_len (jp.jj.pre (1 - j) (two hj2).1)
          rw [(two hj2).2.2] at q2
          omega
        have hfl6 : (stT L S w j).fl.length ≤ 900 := by have := Z.fl; have := Z.t; omega
        generalize stT L S w j = Sj at PA2 PA3 jp jt jE jf hout hans hfl6 ⊢
        generalize wAt w j = v at ha ha3 hwa ⊢
        obtain ⟨dx3, hob3⟩ := PA3.ob
        have hrl3 := PA3.rl
        have hri : atI [V.int (Sj.r 0 : Int), V.int (Sj.r 1 : Int)] (j : Int) = some (.int (Sj.r j : Int)) := by rcases i2 hj2 with rfl | rfl <;> rfl
        refine ⟨t, _, rfl, SqT.of ht3, rfl, _, _, rfl, _, _, rfl, ⟨a, _, rfl, SqT.of ha3, rfl, _, _, rfl, _, _, rfl, rfl, rfl, ?_⟩⟩
        refine tIfS_of (b := v.1 && decide (Sj.r j < L)) (fun Kk kk => ?_) fun H4 s4 => ?_
        · refine ⟨_, rfl, _, rfl, ?_⟩
          refine ite2 (fun h => ?_) (fun h => ?_)
          · have h : v.1 = true := h
            rw [h, Bool.true_and] at kk
            refine ⟨_, rfl, A.p, CP, dx3, _, _, rfl, hob3, T.cl, T.nR, rfl, _, rfl, A.rl, _, _, _, rfl, rfl, SqL.of hrl3, hri, _, rfl, A.p, CP, dx3, _, _, rfl, hob3, T.cl, T.nL, rfl, _, _, rfl, rfl, _, rfl, ?_⟩
            rw [show decide ((Sj.r j : Int) < (L : Int)) = decide (Sj.r j < L) from decide_eq_decide.mpr ⟨fun z => by omega, fun z => by omega⟩]
            exact kk H3 fun _ _ z => z
          · have h : v.1 = false := Bool.eq_false_iff.mpr h
            rw [h, Bool.false_and] at kk
            exact kk H3 fun _ _ z => z
        · have PA4 := PA3.same s4
          have k34 : Kp (fl :: A.M) H' H4 := (k2.trans (Kp.same s3)).trans (Kp.same s4)
          obtain ⟨dx4, hob4⟩ := PA4.ob
          have hrl4 := PA4.rl
          have hix : ixN ([V.int (Sj.r 0 : Int), V.int (Sj.r 1 : Int)]).length (j : Int) = some j := by rcases i2 hj2 with rfl | rfl <;> rfl
          have hset : ∀ n : Nat, ([V.int (Sj.r 0 : Int), V.int (Sj.r 1 : Int)]).set j (V.int (n : Int)) = [V.int (setN Sj.r j n 0 : Int), V.int (setN Sj.r j n 1 : Int)] := fun n => by rcases i2 hj2 with rfl | rfl <;> rfl
          refine ite2 (fun h => ?_) (fun h => ?_)
          · have h : (v.1 && decide (Sj.r j < L)) = true := h
            rw [Bool.and_eq_true, decide_eq_true_eq] at h
            refine ⟨_, rfl, A.p, CP, dx4, _, _, rfl, hob4, T.cl, T.nR, rfl, _, rfl, A.rl, _, _, _, rfl, rfl, SqL.of hrl4, hri, _, _, rfl, rfl, A.rl, _, _, j, rfl, rfl, hrl4, hix, ?_⟩
            refine ⟨_, _, _, _, rfl, ?_, k34.trans (Kp.at (by unfold Pd.M; simp))⟩
            have e : Sj.wish L j v = { Sj with r := setN Sj.r j (Sj.r j + 1) } := by unfold PS.wish; rw [if_pos h]
            rw [e]
            have := PA4.row (setN Sj.r j (Sj.r j + 1))
            rw [← hset (Sj.r j + 1)] at this
            exact this
          · have h : ¬ (v.1 && decide (Sj.r j < L)) = true := h
            rw [Bool.and_eq_true, decide_eq_true_eq] at h
            refine ⟨_, rfl, A.p, CP, dx4, _, _, rfl, hob4, T.cl, T.nR, rfl, _, rfl, A.rl, _, _, j, rfl, rfl, hrl4, hix, ?_⟩
            have PA5 := PA4.row (setN Sj.r j 0)
            have k5 : Kp (fl :: A.M) H' (upd H4 A.rl (.lst [.int (setN Sj.r j 0 0), .int (setN Sj.r j 0 1)])) := k34.trans (Kp.at (by unfold Pd.M; simp))
            rw [show ([V.int (Sj.r 0 : Int), V.int (Sj.r 1 : Int)]).set j (V.int 0) = [V.int (setN Sj.r j 0 0 : Int), V.int (setN Sj.r j 0 1 : Int)] from hset 0]
            generalize upd H4 A.rl (.lst [.int (setN Sj.r j 0 0), .int (setN Sj.r j 0 1)]) = H5 at PA5 k5 ⊢
            obtain ⟨dx5, hob5⟩ := PA5.ob
            refine ⟨_, rfl, A.p, dx5, _, rfl, hob5, rfl, _, rfl, _, rfl, A.p, CP, dx5, _, _, rfl, hob5, T.cl, T.nT, rfl, _, rfl, _, _, rfl, rfl, A, fl, D, L, _, j, Sj.t + v.2, rfl, PA5, hj2, hans, by show (Sj.E j).out.length ≤ 1000; omega, hfl6, fun H6 PA6 k6 => ?_⟩
            refine ⟨_, _, _, _, rfl, ?_, k5.trans (k6.mono (by simp))⟩
            have e : Sj.wish L j v = PS.send { Sj with r := setN Sj.r j 0 } j (Sj.t + v.2) := by unfold PS.wish; rw [if_neg h]
            rw [e]
            exact PA6
      · rintro σ' H2 ⟨v2, v3, v4, v5, rfl, PA2, k2⟩
        obtain ⟨jp, jt, jE, jf⟩ := stT_ok Z ok 2
        have PA2 : PaceAt g CP CE D L H2 A fl (stT L S w 2) := PA2
        have es : S.tick L w = (stT L S w 2).next := rfl
        rw [es] at k
        generalize stT L S w 2 = S2 at PA2 jp jt jE jf k
        obtain ⟨dx2, hob2⟩ := PA2.ob
        refine ⟨_, rfl, A.p, CP, dx2, _, _, rfl, hob2, T.cl, T.nT, rfl, _, _, rfl, rfl, dx2, _, hob2, (by show 6 < 1000; decide), ?_⟩
        have PA3 := PA2.obj (dx := dx2) (fl' := fl) (S' := { S2 with t := S2.t + 1 }) rfl rfl PA2.fy PA2.nd
        have k3 : Kp (fl :: A.M) H' (upd H2 A.p (.ins CP dx2 (PF D L A fl { S2 with t := S2.t + 1 }))) := k2.trans (Kp.at (by unfold Pd.M; simp))
        have n3 : ∀ b, upd H2 A.p (.ins CP dx2 (PF D L A fl { S2 with t := S2.t + 1 })) b = none → H' b = none := fun b hb => k3.live (fun d hd => PA3.live hd) hb
        rw [show upd H2 A.p (.ins CP dx2 (putF "time" (.int ((S2.t : Int) + 1)) (PF D L A fl S2))) = upd H2 A.p (.ins CP dx2 (PF D L A fl { S2 with t := S2.t + 1 })) from rfl]
        generalize upd H2 A.p (.ins CP dx2 (PF D L A fl { S2 with t := S2.t + 1 })) = H3 at PA3 k3 n3 ⊢
        obtain ⟨dx3, hob3⟩ := PA3.ob
        refine ⟨_, rfl, A.p, dx3, _, rfl, hob3, rfl, A, fl, D, L, _, rfl, PA3, fun x hx => ?_, fun i hi => ?_, fun fl' H4 hn4 PA4 k4 => ?_⟩
        · exact (jp.jj.goal ⟨x.goal, 1, x.f⟩ (List.mem_map.mpr ⟨x, hx, rfl⟩)).1
        · show (S2.E i).told.length + S2.fl.length ≤ 900
          rw [jE]
          have q2 := pre_len (Z.j.jj.pre i hi)
          have q3 := Z.out (1 - i) (two hi).1
          have := Z.fl
          have := Z.t
          omega
        · exact k fl' H4 (n3 _ hn4) PA4 (k3.trans k4)
end
end Mc
namespace Mc
open PySem L2 PySem.Spec PyProof.Rows
/-! ### slowest, and the law's small runs -/
abbrev sSlowest : Stmt := top 12
abbrev sRefused : Stmt := top 16
abbrev sSlow : Stmt := top 17
abbrev sLate : Stmt := top 18
theorem Sz.tick {L D : Nat} {S : PS} (Z : Sz L S) {w : (Bool × Nat) × (Bool × Nat)} (hw : okW D w) (ht : S.t < 100) : Sz L (S.tick L w) := by
  obtain ⟨_, _, _, jf⟩ := stT_ok Z hw 2
  refine ⟨Z.j.tick hw, fun i hi => by rw [tick_out]; exact Z.out i hi, ?_, by rw [tick_t]; omega⟩
  rw [tick_fl, tick_t]
  have h := List.length_filter_le (fun x : FlR => decide (S.t + 1 < x.due)) ((S.wish L 0 w.1).wish L 1 w.2).fl
  have jf : ((S.wish L 0 w.1).wish L 1 w.2).fl.length ≤ S.fl.length + 6 := jf
  have := Z.fl
  omega
theorem Sz.run {L D : Nat} : ∀ {ws : List ((Bool × Nat) × (Bool × Nat))} {S : PS}, Sz L S → (∀ w ∈ ws, okW D w) → S.t + ws.length ≤ 100 → Sz L (S.run L ws)
  | [], _, Z, _, _ => Z
  | w :: ws, S, Z, h, ht => by
    rw [List.length_cons] at ht
    exact Sz.run (ws := ws) (Z.tick (h w List.mem_cons_self) (by omega)) (fun v hv => h v (List.mem_cons_of_mem _ hv)) (by rw [tick_t]; omega)
theorem new_jj : JJ (fun _ => ES.new) [] 1 := ⟨fun _ _ => rfl, fun _ _ => Nat.zero_le _, fun _ _ => by show (0 : Int) ≤ 1; decide, fun x h => (nomatch h), fun x h => (nomatch h), fun x h => (nomatch h)⟩
theorem Sz.new (L : Nat) : Sz L PS.new := ⟨⟨new_jj, fun x h => (nomatch h), fun _ => Nat.zero_le _⟩, fun _ _ => Nat.zero_le _, Nat.zero_le _, Nat.zero_le _⟩
theorem Sz.put {L : Nat} {S : PS} (Z : Sz L S) {i : Nat} (hi : i < 2) (w : Int) (h : (S.E i).out.length < 100) : Sz L (S.put i w) := by
  refine ⟨⟨Z.j.jj.put hi w, Z.j.due, Z.j.rl⟩, fun j hj => ?_, Z.fl, Z.t⟩
  show (setE S.E i ((S.E i).put w) j).out.length ≤ 100
  unfold setE
  split
  · show ((S.E i).out ++ [w]).length ≤ 100
    rw [List.length_append]
    exact h
  · exact Z.out j hj
structure TxV (K : PySem.W.Frag) (mg : Str → Option Value) (CP CE CB : Addr) : Prop extends TxP K mg CP CE CB where
  xf : XfC K CB
  nName : PySem.W.findIn K (.ref CB) "name" = some none
  te : PySem.W.exmOne K (.ref CB) (.ref CB) = some true
def spSlowest : Sp := fun vs H Q _ => ∃ n D L : Nat, vs = [.int n, .int D, .int L] ∧ n ≤ 1000 ∧ D ≤ 1000 ∧ L ≤ 1000 ∧ Q (.int (2 * (D + L + 1) * ((n + 2) / 3) : Nat)) H
def spRefused : Sp := fun vs H Q _ => ∃ x y z : V, vs = [x, y] ∧ ((numV x 1 1000 = some false ∧ z = x) ∨ (numV x 1 1000 = some true ∧ numV y 0 1000 = some false ∧ z = y)) ∧ ∀ H', Same H H' → Q z H'
def spTrue : Sp := fun vs H Q _ => vs = [] ∧ ∀ H', Same H H' → Q (.bl true) H'
section
variable {P : Program} {w : World} {K : PySem.W.Frag} {mg : Str → Option Value} {base : Heap} {CP CE CB : Addr}
theorem scSlowest : FnScope ["words", "delay", "losses", "windows"] ["words", "delay", "losses"] (defScope sSlowest) := ⟨rfl, rfl, rfl, by decide +kernel, rfl, by decide +kernel, by decide +kernel⟩
theorem ok_slowest {f : Addr} {fd : FuncData} (F : Fun K "slowest" "slowest" sSlowest f fd) (T : TxE K mg CE) : FnOk P w K mg base CX0 1 f fd ["words", "delay", "losses"] spSlowest := by
  obtain ⟨tw, hwin⟩ := T.win
  refine F.ok scSlowest (fun vs H Q E h => ?_) (fun cdv A outer s H vs Q E hr h => ?_)
  · obtain ⟨n, D, L, rfl, _⟩ := h
    rfl
  · obtain ⟨n, D, L, rfl, hn, hD, hL, k⟩ := h
    refine ⟨_, (pss_cons (ps_set (i := 3) scSlowest.nd rfl (Or.inl rfl) (pe_op op_fdiv (pe_op op_sub (pe_op op_add (pv 0) (pe_glob (by rfl) hwin rel_int)) pe_int) (pe_glob (by rfl) hwin rel_int)))
      (pss_one (ps_ret (pe_op op_mul (pe_op op_mul pe_int (pe_op op_add (pe_op op_add (pv 1) (pv 2)) pe_int)) (pv 3))))), ?_⟩
    refine ⟨_, rfl, _, _, rfl, rfl, _, _, rfl, rfl, _, _, rfl, rfl, ⟨by decide, by decide⟩, ?_⟩
    refine ⟨_, rfl, _, rfl, _, _, rfl, rfl, _, _, rfl, rfl, _, _, rfl, rfl, .inl ⟨by decide, by decide⟩, _, rfl, _, _, rfl, rfl, .inl ⟨by omega, by omega⟩, ?_⟩
    have e : (2 : Int) * ((D : Int) + (L : Int) + 1) * (((n : Int) + 3 - 1) / 3) = ((2 * (D + L + 1) * ((n + 2) / 3) : Nat) : Int) := by
      have e1 : ((n : Int) + 3 - 1) / 3 = (((n + 2) / 3 : Nat) : Int) := by omega
      rw [e1]
      push_cast
      rfl
    show Q (.int ((2 : Int) * ((D : Int) + (L : Int) + 1) * (((n : Int) + 3 - 1) / 3))) H
    rw [e]
    exact k
theorem scRefused : FnScope ["delay", "losses", "fault"] ["delay", "losses"] (defScope sRefused) := ⟨rfl, rfl, rfl, by decide +kernel, rfl, by decide +kernel, by decide +kernel⟩
theorem ok_refused {f : Addr} {fd : FuncData} (F : Fun K "_law_refused" "_law_refused" sRefused f fd) (T : TxV K mg CP CE CB) (c_Pace : ∀ g, CalIX P w K mg base CP 4 "Pace" ["self", "delay", "losses"] (spPInit g CP CE CB)) : FnOk P w K mg base CX0 6 f fd ["delay", "losses"] spRefused := by
  refine F.ok scRefused (fun vs H Q E h => ?_) (fun cdv A outer s H vs Q E hr h => ?_)
  · obtain ⟨x, y, z, rfl, _⟩ := h
    rfl
  · obtain ⟨x, y, z, rfl, h, k⟩ := h
    refine ⟨_, (pss_one (ps_tryAs (i := 2) (Wout := fun _ _ _ _ => False) rfl rfl scRefused.nd rfl rfl ⟨rfl, by decide, Or.inl T.B.mg⟩ takes0
      (fun W pn xe tk _ => pss_cons (ps_expr (pe_calIX (c_Pace V.int) (hr.mono (by decide)) rfl (fun σ => passAt tk σ) (pa_cons (pv 0) (pa_cons (pv 1) pa_nil)))) (pss_one (ps_ret pe_str)))
      (fun a oe cls d pn hz hf => pss_one (ps_ret (pe_xf T.xf T.nName hz hf (pv 2)))))), ?_⟩
    refine ⟨_, rfl, _, rfl, ?_⟩
    intro p dx hp hdx _
    have s1 : Same H (upd (upd H dx (.own p)) p (.ins CP dx [])) := fun b o z => by rw [upd_ne (ne_of_none z hp), upd_ne (ne_of_none z hdx)]; exact z
    refine ⟨p, dx, x, y, rfl, upd_same, .inr ⟨z, h, fun d H2 s2 hd2 => ?_⟩⟩
    refine ⟨true, T.te, fun _ a0 _ => ?_, fun q => Bool.noConfusion q⟩
    exact ⟨_, rfl, rfl, rfl, d, _, _, rfl, hd2, rfl, k _ (Same.tr s1 s2)⟩
theorem scSlow : FnScope ["pace", "seen", "wish"] [] (defScope sSlow) := ⟨rfl, rfl, rfl, by decide +kernel, rfl, by decide +kernel, by decide +kernel⟩
def gA : Int → V := fun _ => .str "a"
def wsS : List ((Bool × Nat) × (Bool × Nat)) := [((true, 1), (false, 1)), ((true, 2), (false, 1)), ((false, 3), (false, 1)), ((false, 1), (false, 1))]
def seenOf (L i j : Nat) (S : PS) (ws : List ((Bool × Nat) × (Bool × Nat))) : List Int := (List.range j).map fun q => (((S.run L (ws.take (q + 1))).E i).told.length : Int)
theorem seenOf_succ (L i j : Nat) (S : PS) (ws : List ((Bool × Nat) × (Bool × Nat))) : seenOf L i (j + 1) S ws = seenOf L i j S ws ++ [(((S.run L (ws.take (j + 1))).E i).told.length : Int)] := by
  unfold seenOf
  rw [List.range_succ, List.map_append]
  rfl
theorem seenOf_len (L i j : Nat) (S : PS) (ws : List ((Bool × Nat) × (Bool × Nat))) : (seenOf L i j S ws).length = j := by unfold seenOf; rw [List.length_map, List.length_range]
theorem run_take {L j : Nat} {S : PS} {ws : List ((Bool × Nat) × (Bool × Nat))} {v : (Bool × Nat) × (Bool × Nat)} (h : ws[j]? = some v) : S.run L (ws.take (j + 1)) = (S.run L (ws.take j)).tick L v := by
  rw [List.take_add_one, h, run_app]
  rfl
def S0 : PS := PS.new.put 0 0
def S1 : PS := PS.new.put 1 0
theorem ok_slow {f : Addr} {fd : FuncData} (F : Fun K "_law_slow" "_law_slow" sSlow f fd) (T : TxV K mg CP CE CB) (c_Pace : ∀ g, CalIX P w K mg base CP 4 "Pace" ["self", "delay", "losses"] (spPInit g CP CE CB))
    (c_put : ∀ g, CalM P w K mg base CP 2 "put" ["self", "at", "word"] (spPPut g CP CE)) (c_tick : ∀ g, CalMX P w K mg base CP 4 "tick" ["self", "wishes"] (spPTick g CP CE CB)) (c_done : ∀ g, CalM P w K mg base CP 1 "is_done" ["self"] (spPDone g CP CE)) :
    FnOk P w K mg base CX0 6 f fd [] spTrue := by
  refine F.ok scSlow (fun vs H Q E h => ?_) (fun cdv A outer s H vs Q E hr h => ?_)
  · obtain ⟨rfl, _⟩ := h
    rfl
  · obtain ⟨rfl, k⟩ := h
    refine ⟨_, (pss_cons (ps_set (i := 0) scSlow.nd rfl (Or.inl rfl) (pe_calIX (c_Pace gA) (hr.mono (by decide)) rfl noE (pa_cons pe_int (pa_cons pe_int pa_nil))))
      (pss_cons (ps_expr (pe_calM (pv 0) T.cl (c_put gA) (hr.mono (by decide)) (pa_cons pe_int (pa_cons pe_str pa_nil))))
      (pss_cons (ps_set (i := 1) scSlow.nd rfl (Or.inl rfl) (pe_lst pa_nil))
      (pss_cons (ps_for PassesOwn.never rfl (pi_tup (pe_tup (pa_cons (pe_tup (pa_cons pe_bl (pa_cons pe_int pa_nil))) (pa_cons (pe_tup (pa_cons pe_bl (pa_cons pe_int pa_nil))) (pa_cons (pe_tup (pa_cons pe_bl (pa_cons pe_int pa_nil))) (pa_cons (pe_tup (pa_cons pe_bl (pa_cons pe_int pa_nil))) pa_nil)))))) (pg_name (i := 2) scSlow.nd rfl (Or.inl rfl))
        (pss_cons (ps_expr (pe_calMX (pv 0) T.cl (c_tick gA) (hr.mono (by decide)) noE (pa_cons (pe_lst (pa_cons (pv 2) (pa_cons (pe_tup (pa_cons pe_bl (pa_cons pe_int pa_nil))) pa_nil))) pa_nil)))
        (pss_one (ps_expr (pe_bm PySem.F.plainAttrs_list PySem.F.slot_list_append PySem.F.type_list_append mt_append (pv 1) (pa_cons (pe_callB call_len_seq (by rfl) T.E.len PySem.boot_len (pa_cons (pe_fld (pe_ix ix_tup (pe_fld (pv 0) rfl) pe_int (fun _ _ => rfl)) rfl) pa_nil)) pa_nil))))))
      (pss_one (ps_ret (pe_and (pe_cmpR (op_eqD hr.units) (pv 1) (pe_lst (pa_cons pe_int (pa_cons pe_int (pa_cons pe_int (pa_cons pe_int pa_nil))))) (nomark _)) (pe_and (pe_cmpR (op_eqD hr.units) (pe_tup (pa_cons (pe_fld (pv 0) rfl) (pa_cons (pe_fld (pv 0) rfl) pa_nil))) (pe_tup (pa_cons pe_int (pa_cons pe_int pa_nil))) (nomark _)) (pe_one (pe_calM0 (pv 0) T.cl (c_done gA) (hr.mono (by decide)))))))))))), ?_⟩
    intro p dx hp hdx _
    have s1 : Same H (upd (upd H dx (.own p)) p (.ins CP dx [])) := fun b o z => by rw [upd_ne (ne_of_none z hp), upd_ne (ne_of_none z hdx)]; exact z
    refine ⟨p, dx, _, _, rfl, upd_same, .inl ⟨3, 1, rfl, rfl, by decide, by decide, by decide, fun A fl H2 hAp hfr PA2 k2 => ⟨rfl, ?_⟩⟩⟩
    subst hAp
    have k12 : Kp [] H H2 := fun b o z _ => (Kp.same s1).trans (k2.mono (fun _ h => h)) _ _ z (by simp; exact ne_of_none z hp)
    have s12 : Same H H2 := fun b o z => k12 b o z (by simp)
    have hfr2 : ∀ b ∈ fl :: A.M, H b = none := fun b hb => by
      by_cases e : b = A.p
      · rw [e]; exact hp
      · have z := hfr b hb e
        rw [upd_ne e] at z
        cases q : H b with
        | none => rfl
        | some o => rw [upd_ne (ne_of_none q hdx), q] at z; cases z
    clear k2 k12 s1 hfr
    obtain ⟨dx2, hob2⟩ := PA2.ob
    refine ⟨_, rfl, A.p, dx2, _, rfl, hob2, rfl, A, fl, 3, 1, PS.new, 0, 0, rfl, PA2, by decide, by decide, fun H3 PA3 k3 => ?_⟩
    have s03 : Same H H3 := fun b o z => k3 _ _ (s12 _ _ z) fun hb => by rw [hfr2 b (List.mem_cons_of_mem _ hb)] at z; cases z
    refine ⟨Nat.zero_le _, fun sn hsn => ?_⟩
    have nsn := PA3.fresh hsn
    have hsn0 : H sn = none := by
      cases q : H sn with
      | none => rfl
      | some o => rw [s03 _ _ q] at hsn; cases hsn
    have PA4 := PA3.same (Same.new (o := .lst []) hsn)
    have s04 : Same H (upd H3 sn (.lst [])) := Same.tr s03 (Same.new hsn)
    have h4 : upd H3 sn (.lst []) sn = some (.lst []) := upd_same
    generalize upd H3 sn (.lst []) = H4 at PA4 s04 h4 ⊢
    refine ⟨(by show 2 ≤ sizeLine; decide), fun w0 hw0 => ⟨(by show 2 ≤ sizeLine; decide), fun w1 hw1 => ⟨(by show 2 ≤ sizeLine; decide), fun w2 hw2 => ⟨(by show 2 ≤ sizeLine; decide), fun w3 hw3 => ⟨(by show 4 ≤ sizeLine; decide), fun u hu9 => ?_⟩⟩⟩⟩⟩
    have m01 : w0 ≠ w1 := ne_of_none (o := .tup [.bl true, .int 1]) (by exact upd_same) hw1
    have m02 : w0 ≠ w2 := ne_of_none (o := .tup [.bl true, .int 1]) (by rw [upd_ne m01, upd_same]) hw2
    have m03 : w0 ≠ w3 := ne_of_none (o := .tup [.bl true, .int 1]) (by rw [upd_ne m02, upd_ne m01, upd_same]) hw3
    have m0u : w0 ≠ u := ne_of_none (o := .tup [.bl true, .int 1]) (by rw [upd_ne m03, upd_ne m02, upd_ne m01, upd_same]) hu9
    have m12 : w1 ≠ w2 := ne_of_none (o := .tup [.bl true, .int 2]) (by exact upd_same) hw2
    have m13 : w1 ≠ w3 := ne_of_none (o := .tup [.bl true, .int 2]) (by rw [upd_ne m12, upd_same]) hw3
    have m1u : w1 ≠ u := ne_of_none (o := .tup [.bl true, .int 2]) (by rw [upd_ne m13, upd_ne m12, upd_same]) hu9
    have m23 : w2 ≠ w3 := ne_of_none (o := .tup [.bl false, .int 3]) (by exact upd_same) hw3
    have m2u : w2 ≠ u := ne_of_none (o := .tup [.bl false, .int 3]) (by rw [upd_ne m23, upd_same]) hu9
    have m3u : w3 ≠ u := ne_of_none (o := .tup [.bl false, .int 1]) (by exact upd_same) hu9
    have s49 : Same H4 (upd (upd (upd (upd (upd H4 w0 (.tup [.bl true, .int 1])) w1 (.tup [.bl true, .int 2])) w2 (.tup [.bl false, .int 3])) w3 (.tup [.bl false, .int 1])) u (.tup [.ref w0, .ref w1, .ref w2, .ref w3])) := Same.tr (Same.new hw0) (Same.tr (Same.new hw1) ( Same.tr (Same.new hw2) ( Same.tr (Same.new hw3) (Same.new hu9))))
    have g0 : (upd (upd (upd (upd (upd H4 w0 (.tup [.bl true, .int 1])) w1 (.tup [.bl true, .int 2])) w2 (.tup [.bl false, .int 3])) w3 (.tup [.bl false, .int 1])) u (.tup [.ref w0, .ref w1, .ref w2, .ref w3])) w0 = some (.tup [.bl true, .int 1]) := by rw [upd_ne m0u, upd_ne m03, upd_ne m02, upd_ne m01, upd_same]
    have g1 : (upd (upd (upd (upd (upd H4 w0 (.tup [.bl true, .int 1])) w1 (.tup [.bl true, .int 2])) w2 (.tup [.bl false, .int 3])) w3 (.tup [.bl false, .int 1])) u (.tup [.ref w0, .ref w1, .ref w2, .ref w3])) w1 = some (.tup [.bl true, .int 2]) := by rw [upd_ne m1u, upd_ne m13, upd_ne m12, upd_same]
    have g2 : (upd (upd (upd (upd (upd H4 w0 (.tup [.bl true, .int 1])) w1 (.tup [.bl true, .int 2])) w2 (.tup [.bl false, .int 3])) w3 (.tup [.bl false, .int 1])) u (.tup [.ref w0, .ref w1, .ref w2, .ref w3])) w2 = some (.tup [.bl false, .int 3]) := by rw [upd_ne m2u, upd_ne m23, upd_same]
    have g3 : (upd (upd (upd (upd (upd H4 w0 (.tup [.bl true, .int 1])) w1 (.tup [.bl true, .int 2])) w2 (.tup [.bl false, .int 3])) w3 (.tup [.bl false, .int 1])) u (.tup [.ref w0, .ref w1, .ref w2, .ref w3])) w3 = some (.tup [.bl false, .int 1]) := by rw [upd_ne m3u, upd_same]
    have gu : (upd (upd (upd (upd (upd H4 w0 (.tup [.bl true, .int 1])) w1 (.tup [.bl true, .int 2])) w2 (.tup [.bl false, .int 3])) w3 (.tup [.bl false, .int 1])) u (.tup [.ref w0, .ref w1, .ref w2, .ref w3])) u = some (.tup [.ref w0, .ref w1, .ref w2, .ref w3]) := upd_same
    generalize upd (upd (upd (upd (upd H4 w0 (.tup [.bl true, .int 1])) w1 (.tup [.bl true, .int 2])) w2 (.tup [.bl false, .int 3])) w3 (.tup [.bl false, .int 1])) u (.tup [.ref w0, .ref w1, .ref w2, .ref w3]) = H9 at s49 g0 g1 g2 g3 gu ⊢
    have PA9 := PA4.same s49
    have h9 := s49 _ _ h4
    have s09 := Same.tr s04 s49
    have okAll : ∀ w ∈ wsS, okW 3 w := by
      intro w hw
      unfold wsS at hw
      simp only [List.mem_cons, List.not_mem_nil, or_false] at hw
      rcases hw with rfl | rfl | rfl | rfl <;> (unfold okW; decide)
    have gat : ∀ (j : Nat) (y : V), ([V.ref w0, V.ref w1, V.ref w2, V.ref w3] : List V)[j]? = some y → ∃ (a : Addr) (w : (Bool × Nat) × (Bool × Nat)), y = .ref a ∧ wsS[j]? = some w ∧ H9 a = some (.tup [.bl w.1.1, .int w.1.2]) ∧ (w.2 = (false, 1) ∧ okW 3 w) := fun j y hj => by
      match j, hj with
      | 0, hj => cases hj; exact ⟨_, _, rfl, rfl, g0, rfl, by unfold okW; decide⟩
      | 1, hj => cases hj; exact ⟨_, _, rfl, rfl, g1, rfl, by unfold okW; decide⟩
      | 2, hj => cases hj; exact ⟨_, _, rfl, rfl, g2, rfl, by unfold okW; decide⟩
      | 3, hj => cases hj; exact ⟨_, _, rfl, rfl, g3, rfl, by unfold okW; decide⟩
    refine ⟨u, rfl, ⟨_, SqT.of gu⟩, for_tup (K := K) (a := u) (xs := [V.ref w0, V.ref w1, V.ref w2, V.ref w3]) (fun j σ' H' => ∃ (fl : Addr) (v2 : Option V), σ' = [some (.ref A.p), some (.ref sn), v2] ∧ PaceAt gA CP CE 3 1 H' A fl (PS.run 1 S0 (wsS.take j)) ∧ H' sn = some (.lst ((seenOf 1 1 j S0 wsS).map V.int)) ∧ sn ∉ fl :: A.M ∧ (∀ b ∈ fl :: A.M, H b = none) ∧ Same H H' ∧ Tp H9 H')
      ⟨fl, _, rfl, PA9, h9, nsn, hfr2, s09, Tp.refl _⟩ ?_ ?_ ?_⟩
    · rintro j σ' H' _ ⟨fl, v2, rfl, _, _, _, _, _, t9⟩
      exact SqT.of (t9 _ _ gu)
    · rintro j y σ' H5 hj ⟨fl, v2, rfl, PA5, h5, n5, f5, s5, t5⟩
      obtain ⟨aj, wj, rfl, hwj, haj, okj⟩ := gat j y hj
      have haj5 := t5 _ _ haj
      have hj4 : j < 4 := (List.getElem?_eq_some_iff.mp hwj).1
      obtain ⟨dx5, hob5⟩ := PA5.ob
      obtain ⟨e1, okj⟩ := okj
      refine ⟨_, rfl, A.p, dx5, _, rfl, hob5, rfl, _, rfl, (by show 2 ≤ sizeLine; decide), fun q hq => ⟨(by show 2 ≤ sizeLine; decide), fun lw hlw => ?_⟩⟩
      have hlwf := hlw
      have nuq : q ≠ lw := ne_of_none upd_same hlw
      have s56 : Same H5 (upd (upd H5 q (.tup [.bl false, .int 1])) lw (.lst [.ref aj, .ref q])) := Same.tr (Same.new hq) (Same.new hlw)
      have glw : (upd (upd H5 q (.tup [.bl false, .int 1])) lw (.lst [.ref aj, .ref q])) lw = some (.lst [.ref aj, .ref q]) := upd_same
      have gq : (upd (upd H5 q (.tup [.bl false, .int 1])) lw (.lst [.ref aj, .ref q])) q = some (.tup [.bl false, .int 1]) := by rw [upd_ne nuq, upd_same]
      generalize upd (upd H5 q (.tup [.bl false, .int 1])) lw (.lst [.ref aj, .ref q]) = H6 at s56 glw gq hlw ⊢
      have hlw5 : H5 lw = none := by
        cases z : H5 lw with
        | none => rfl
        | some o => have := hlwf; rw [Same.new hq _ _ z] at this; cases this
      have Z : Sz 1 (PS.run 1 S0 (wsS.take j)) := Sz.run (D := 3) (by exact (Sz.new _).put (by decide) 0 (by decide)) (fun w hw => okAll w (List.mem_of_mem_take hw)) (by have : (S0).t = 0 := rfl; rw [this, List.length_take]; have : (wsS).length = 4 := rfl; omega)
      refine ⟨A, fl, 3, 1, _, lw, aj, q, wj, rfl, PA5.same s56, glw, PA5.fresh hlw5, s56 _ _ haj5, (by rw [e1]; exact gq), Z, .inl ⟨okj, fun fl' H7 hn7 PA7 k7 => ?_⟩⟩
      rw [← run_take hwj] at PA7
      have t7 : Tp H6 H7 := (PA5.same s56).tp k7
      have h7 := k7 _ _ (s56 _ _ h5) n5
      have n7 : sn ∉ fl' :: A.M := fun z => by
        rcases List.mem_cons.mp z with z | z
        · rw [← z, s56 _ _ h5] at hn7; cases hn7
        · exact n5 (List.mem_cons_of_mem _ z)
      obtain ⟨dx7, hob7⟩ := PA7.ob
      obtain ⟨⟨de, a1⟩, b1, c1, _⟩ := PA7.en 1 (by decide)
      refine ⟨_, rfl, .inl ⟨rfl, _, SqL.of h7⟩, _, rfl, A.p, CP, dx7, _, _, rfl, hob7, T.cl, T.nE, rfl, A.te, _, _, _, rfl, rfl, SqT.of PA7.te, ends_at (j := 1) (by decide), A.e 1, CE, de, _, _, rfl, a1, T.E.cl, T.E.nT, rfl, A.t 1, _, rfl, .inl (SqL.of c1), sn, _, _, rfl, rfl, h7, small1000 (by rw [List.length_map, seenOf_len]; omega), ?_⟩
      rw [List.length_map]
      have k8 : Kp [sn] H7 (upd H7 sn (.lst ((seenOf 1 1 j S0 wsS).map V.int ++ [.int ((((PS.run 1 S0 (wsS.take (j + 1))).E 1).told.length : Nat) : Int)]))) := Kp.at (by simp)
      have snt : ∀ x ∈ [sn], ∀ xs, H7 x ≠ some (.tup xs) := fun x hx xs z => by rw [List.mem_singleton.mp hx, h7] at z; cases z
      refine ⟨fl', _, rfl, PA7.kp k8 (fun x hx => by rw [List.mem_singleton.mp hx]; exact n7) snt, ?_, n7, fun b hb => ?_, fun b o z => ?_, (t5.trans (Tp.same s56)).trans (t7.trans (tp_of k8 snt))⟩
      · rw [upd_same, seenOf_succ, List.map_append]; rfl
      · rcases List.mem_cons.mp hb with rfl | hb
        · cases q' : H b with
          | none => rfl
          | some o => rw [s56 _ _ (s5 _ _ q')] at hn7; cases hn7
        · exact f5 b (List.mem_cons_of_mem _ hb)
      · rw [upd_ne (ne_of_none z hsn0)]
        exact k7 _ _ (s56 _ _ (s5 _ _ z)) fun hb => by rw [f5 b hb] at z; cases z
    · rintro σ' H5 ⟨fl, v2, rfl, PA5, h5, n5, f5, s5, t5⟩
      have e4 : seenOf 1 1 4 S0 wsS = [0, 0, 1, 1] := by decide +kernel
      have h5' : H5 sn = some (.lst (([0, 0, 1, 1] : List Int).map V.int)) := by rw [← e4]; exact h5
      refine ⟨_, rfl, (by show 4 ≤ sizeLine; decide), fun q hq => ?_⟩
      have s6 : Same H5 (upd H5 q (.lst [.int 0, .int 0, .int 1, .int 1])) := Same.new hq
      refine eqD_same (okInts [0, 0, 1, 1]) (by decide) (dp_ints (SqL.of (s6 _ _ h5'))) (dp_ints (ns := [0, 0, 1, 1]) (SqL.of upd_same)) ⟨_, rfl, ?_⟩
      refine ite2 (fun _ => ?_) (fun h => absurd rfl h)
      have PA6 := PA5.same s6
      have s06 := Same.tr s5 s6
      generalize upd H5 q (.lst [.int 0, .int 0, .int 1, .int 1]) = H6 at PA6 s06 ⊢
      obtain ⟨dx6, hob6⟩ := PA6.ob
      refine ⟨_, rfl, A.p, CP, dx6, _, _, rfl, hob6, T.cl, T.nD, rfl, _, rfl, A.p, CP, dx6, _, _, rfl, hob6, T.cl, T.nL, rfl, (by show 2 ≤ sizeLine; decide), fun t1 ht1 => ⟨(by show 2 ≤ sizeLine; decide), fun t2 ht2 => ?_⟩⟩
      have n12 : t1 ≠ t2 := ne_of_none upd_same ht2
      have s7 : Same H6 (upd (upd H6 t1 (.tup [.int (3 : Nat), .int (1 : Nat)])) t2 (.tup [.int 3, .int 1])) := Same.tr (Same.new ht1) (Same.new ht2)
      refine eqD_same (d := .tuple [.int 3, .int 1]) (DOk.tup (n := 0) fun d hd => by simp only [List.mem_cons, List.not_mem_nil, or_false] at hd; rcases hd with rfl | rfl <;> exact DOk.int) (by decide) (.tup (SqT.of (by rw [upd_ne n12]; exact upd_same)) (dpA2 (.int _) (.int _))) (.tup (SqT.of upd_same) (dpA2 (.int _) (.int _))) ⟨_, rfl, ?_⟩
      refine ite2 (fun _ => ?_) (fun h => absurd rfl h)
      have PA7 := PA6.same s7
      obtain ⟨dx7, hob7⟩ := PA7.ob
      refine ⟨_, rfl, A.p, dx7, _, rfl, hob7, rfl, A, fl, 3, 1, _, rfl, PA7, fun H8 s8 => ?_⟩
      have ed : (decide (((PS.run 1 S0 (wsS.take 4)).E 0).ans = ((PS.run 1 S0 (wsS.take 4)).E 0).out.length) && decide (((PS.run 1 S0 (wsS.take 4)).E 1).ans = ((PS.run 1 S0 (wsS.take 4)).E 1).out.length)) = true := by decide +kernel
      have kk := k H8 (Same.tr s06 (Same.tr s7 s8))
      rw [← ed] at kk
      exact kk
theorem scLate : FnScope ["pace", "seen", "wish"] [] (defScope sLate) := ⟨rfl, rfl, rfl, by decide +kernel, rfl, by decide +kernel, by decide +kernel⟩
def gB : Int → V := fun _ => .str "b"
def wsL : List ((Bool × Nat) × (Bool × Nat)) := [((false, 1), (true, 3)), ((false, 1), (true, 3)), ((false, 1), (true, 3))]
theorem ok_late {f : Addr} {fd : FuncData} (F : Fun K "_law_late" "_law_late" sLate f fd) (T : TxV K mg CP CE CB) (c_Pace : ∀ g, CalIX P w K mg base CP 4 "Pace" ["self", "delay", "losses"] (spPInit g CP CE CB))
    (c_put : ∀ g, CalM P w K mg base CP 2 "put" ["self", "at", "word"] (spPPut g CP CE)) (c_tick : ∀ g, CalMX P w K mg base CP 4 "tick" ["self", "wishes"] (spPTick g CP CE CB)) :
    FnOk P w K mg base CX0 6 f fd [] spTrue := by
  refine F.ok scLate (fun vs H Q E h => ?_) (fun cdv A outer s H vs Q E hr h => ?_)
  · obtain ⟨rfl, _⟩ := h
    rfl
  · obtain ⟨rfl, k⟩ := h
    refine ⟨_, (pss_cons (ps_par (i := 0) (j := 1) rfl scLate.nd rfl rfl (by decide) rfl rfl (pa_cons (pe_calIX (c_Pace gB) (hr.mono (by decide)) rfl noE (pa_cons pe_int (pa_cons pe_int pa_nil))) (pa_cons (pe_lst pa_nil) pa_nil)) (by rfl))
      (pss_cons (ps_expr (pe_calM (pv 0) T.cl (c_put gB) (hr.mono (by decide)) (pa_cons pe_int (pa_cons pe_str pa_nil))))
      (pss_cons (ps_for PassesOwn.never rfl (pi_tup (pe_tup (pa_cons (pe_tup (pa_cons pe_bl (pa_cons pe_int pa_nil))) (pa_cons (pe_tup (pa_cons pe_bl (pa_cons pe_int pa_nil))) (pa_cons (pe_tup (pa_cons pe_bl (pa_cons pe_int pa_nil))) pa_nil))))) (pg_name (i := 2) scLate.nd rfl (Or.inl rfl))
        (pss_cons (ps_expr (pe_calMX (pv 0) T.cl (c_tick gB) (hr.mono (by decide)) noE (pa_cons (pe_lst (pa_cons (pe_tup (pa_cons pe_bl (pa_cons pe_int pa_nil))) (pa_cons (pv 2) pa_nil))) pa_nil)))
        (pss_one (ps_expr (pe_bm PySem.F.plainAttrs_list PySem.F.slot_list_append PySem.F.type_list_append mt_append (pv 1) (pa_cons (pe_callB call_len_seq (by rfl) T.E.len PySem.boot_len (pa_cons (pe_fld (pe_ix ix_tup (pe_fld (pv 0) rfl) pe_int (fun _ _ => rfl)) rfl) pa_nil)) pa_nil))))))
      (pss_one (ps_ret (pe_cmpR (op_eqD hr.units) (pv 1) (pe_lst (pa_cons pe_int (pa_cons pe_int (pa_cons pe_int pa_nil)))) (nomark _))))))), ?_⟩
    intro p dx hp hdx _
    have s1 : Same H (upd (upd H dx (.own p)) p (.ins CP dx [])) := fun b o z => by rw [upd_ne (ne_of_none z hp), upd_ne (ne_of_none z hdx)]; exact z
    refine ⟨p, dx, _, _, rfl, upd_same, .inl ⟨3, 0, rfl, rfl, by decide, by decide, by decide, fun A fl H2 hAp hfr PA2 k2 => ⟨rfl, ?_⟩⟩⟩
    subst hAp
    have k12 : Kp [] H H2 := fun b o z _ => (Kp.same s1).trans (k2.mono (fun _ h => h)) _ _ z (by simp; exact ne_of_none z hp)
    have s12 : Same H H2 := fun b o z => k12 b o z (by simp)
    have hfr2 : ∀ b ∈ fl :: A.M, H b = none := fun b hb => by
      by_cases e : b = A.p
      · rw [e]; exact hp
      · have z := hfr b hb e
        rw [upd_ne e] at z
        cases q : H b with
        | none => rfl
        | some o => rw [upd_ne (ne_of_none q hdx), q] at z; cases z
    clear k2 k12 s1 hfr
    refine ⟨Nat.zero_le _, fun sn hsn => ⟨_, _, rfl, ?_⟩⟩
    have nsn := PA2.fresh hsn
    have hsn0 : H sn = none := by
      cases q : H sn with
      | none => rfl
      | some o => rw [s12 _ _ q] at hsn; cases hsn
    have PA3 := PA2.same (Same.new (o := .lst []) hsn)
    have s03 : Same H (upd H2 sn (.lst [])) := Same.tr s12 (Same.new hsn)
    have h3 : upd H2 sn (.lst []) sn = some (.lst []) := upd_same
    generalize upd H2 sn (.lst []) = H3 at PA3 s03 h3 ⊢
    obtain ⟨dx3, hob3⟩ := PA3.ob
    dsimp only
    refine ⟨_, rfl, A.p, dx3, _, rfl, hob3, rfl, A, fl, 3, 0, PS.new, 1, 0, rfl, PA3, by decide, by decide, fun H4 PA4 k4 => ?_⟩
    have s04 : Same H H4 := fun b o z => k4 _ _ (s03 _ _ z) fun hb => by rw [hfr2 b (List.mem_cons_of_mem _ hb)] at z; cases z
    have h4 := k4 _ _ h3 fun hb => nsn (List.mem_cons_of_mem _ hb)
    refine ⟨(by show 2 ≤ sizeLine; decide), fun w0 hw0 => ⟨(by show 2 ≤ sizeLine; decide), fun w1 hw1 => ⟨(by show 2 ≤ sizeLine; decide), fun w2 hw2 => ⟨(by show 3 ≤ sizeLine; decide), fun u hu9 => ?_⟩⟩⟩⟩
    have m01 : w0 ≠ w1 := ne_of_none (o := .tup [.bl true, .int 3]) (by exact upd_same) hw1
    have m02 : w0 ≠ w2 := ne_of_none (o := .tup [.bl true, .int 3]) (by rw [upd_ne m01, upd_same]) hw2
    have m0u : w0 ≠ u := ne_of_none (o := .tup [.bl true, .int 3]) (by rw [upd_ne m02, upd_ne m01, upd_same]) hu9
    have m12 : w1 ≠ w2 := ne_of_none (o := .tup [.bl true, .int 3]) (by exact upd_same) hw2
    have m1u : w1 ≠ u := ne_of_none (o := .tup [.bl true, .int 3]) (by rw [upd_ne m12, upd_same]) hu9
    have m2u : w2 ≠ u := ne_of_none (o := .tup [.bl true, .int 3]) (by exact upd_same) hu9
    have s49 : Same H4 (upd (upd (upd (upd H4 w0 (.tup [.bl true, .int 3])) w1 (.tup [.bl true, .int 3])) w2 (.tup [.bl true, .int 3])) u (.tup [.ref w0, .ref w1, .ref w2])) := Same.tr (Same.new hw0) (Same.tr (Same.new hw1) ( Same.tr (Same.new hw2) (Same.new hu9)))
    have g0 : (upd (upd (upd (upd H4 w0 (.tup [.bl true, .int 3])) w1 (.tup [.bl true, .int 3])) w2 (.tup [.bl true, .int 3])) u (.tup [.ref w0, .ref w1, .ref w2])) w0 = some (.tup [.bl true, .int 3]) := by rw [upd_ne m0u, upd_ne m02, upd_ne m01, upd_same]
    have g1 : (upd (upd (upd (upd H4 w0 (.tup [.bl true, .int 3])) w1 (.tup [.bl true, .int 3])) w2 (.tup [.bl true, .int 3])) u (.tup [.ref w0, .ref w1, .ref w2])) w1 = some (.tup [.bl true, .int 3]) := by rw [upd_ne m1u, upd_ne m12, upd_same]
    have g2 : (upd (upd (upd (upd H4 w0 (.tup [.bl true, .int 3])) w1 (.tup [.bl true, .int 3])) w2 (.tup [.bl true, .int 3])) u (.tup [.ref w0, .ref w1, .ref w2])) w2 = some (.tup [.bl true, .int 3]) := by rw [upd_ne m2u, upd_same]
    have gu : (upd (upd (upd (upd H4 w0 (.tup [.bl true, .int 3])) w1 (.tup [.bl true, .int 3])) w2 (.tup [.bl true, .int 3])) u (.tup [.ref w0, .ref w1, .ref w2])) u = some (.tup [.ref w0, .ref w1, .ref w2]) := upd_same
    generalize upd (upd (upd (upd H4 w0 (.tup [.bl true, .int 3])) w1 (.tup [.bl true, .int 3])) w2 (.tup [.bl true, .int 3])) u (.tup [.ref w0, .ref w1, .ref w2]) = H9 at s49 g0 g1 g2 gu ⊢
    have PA9 := PA4.same s49
    have h9 := s49 _ _ h4
    have s09 := Same.tr s04 s49
    have okAll : ∀ w ∈ wsL, okW 3 w := by
      intro w hw
      unfold wsL at hw
      simp only [List.mem_cons, List.not_mem_nil, or_false] at hw
      rcases hw with rfl | rfl | rfl <;> (unfold okW; decide)
    have gat : ∀ (j : Nat) (y : V), ([V.ref w0, V.ref w1, V.ref w2] : List V)[j]? = some y → ∃ (a : Addr) (w : (Bool × Nat) × (Bool × Nat)), y = .ref a ∧ wsL[j]? = some w ∧ H9 a = some (.tup [.bl w.2.1, .int w.2.2]) ∧ (w.1 = (false, 1) ∧ okW 3 w) := fun j y hj => by
      match j, hj with
      | 0, hj => cases hj; exact ⟨_, _, rfl, rfl, g0, rfl, by unfold okW; decide⟩
      | 1, hj => cases hj; exact ⟨_, _, rfl, rfl, g1, rfl, by unfold okW; decide⟩
      | 2, hj => cases hj; exact ⟨_, _, rfl, rfl, g2, rfl, by unfold okW; decide⟩
    refine ⟨u, rfl, ⟨_, SqT.of gu⟩, for_tup (K := K) (a := u) (xs := [V.ref w0, V.ref w1, V.ref w2]) (fun j σ' H' => ∃ (fl : Addr) (v2 : Option V), σ' = [some (.ref A.p), some (.ref sn), v2] ∧ PaceAt gB CP CE 3 0 H' A fl (PS.run 0 S1 (wsL.take j)) ∧ H' sn = some (.lst ((seenOf 0 0 j S1 wsL).map V.int)) ∧ sn ∉ fl :: A.M ∧ (∀ b ∈ fl :: A.M, H b = none) ∧ Same H H' ∧ Tp H9 H')
      ⟨fl, _, rfl, PA9, h9, nsn, hfr2, s09, Tp.refl _⟩ ?_ ?_ ?_⟩
    · rintro j σ' H' _ ⟨fl, v2, rfl, _, _, _, _, _, t9⟩
      exact SqT.of (t9 _ _ gu)
    · rintro j y σ' H5 hj ⟨fl, v2, rfl, PA5, h5, n5, f5, s5, t5⟩
      obtain ⟨aj, wj, rfl, hwj, haj, okj⟩ := gat j y hj
      have haj5 := t5 _ _ haj
      have hj4 : j < 3 := (List.getElem?_eq_some_iff.mp hwj).1
      obtain ⟨dx5, hob5⟩ := PA5.ob
      obtain ⟨e1, okj⟩ := okj
      refine ⟨_, rfl, A.p, dx5, _, rfl, hob5, rfl, (by show 2 ≤ sizeLine; decide), fun q hq => ⟨_, rfl, (by show 2 ≤ sizeLine; decide), fun lw hlw => ?_⟩⟩
      have hlwf := hlw
      have nuq : q ≠ lw := ne_of_none upd_same hlw
      have s56 : Same H5 (upd (upd H5 q (.tup [.bl false, .int 1])) lw (.lst [.ref q, .ref aj])) := Same.tr (Same.new hq) (Same.new hlw)
      have glw : (upd (upd H5 q (.tup [.bl false, .int 1])) lw (.lst [.ref q, .ref aj])) lw = some (.lst [.ref q, .ref aj]) := upd_same
      have gq : (upd (upd H5 q (.tup [.bl false, .int 1])) lw (.lst [.ref q, .ref aj])) q = some (.tup [.bl false, .int 1]) := by rw [upd_ne nuq, upd_same]
      generalize upd (upd H5 q (.tup [.bl false, .int 1])) lw (.lst [.ref q, .ref aj]) = H6 at s56 glw gq hlw ⊢
      have hlw5 : H5 lw = none := by
        cases z : H5 lw with
        | none => rfl
        | some o => have := hlwf; rw [Same.new hq _ _ z] at this; cases this
      have Z : Sz 0 (PS.run 0 S1 (wsL.take j)) := Sz.run (D := 3) (by exact (Sz.new _).put (by decide) 0 (by decide)) (fun w hw => okAll w (List.mem_of_mem_take hw)) (by have : (S1).t = 0 := rfl; rw [this, List.length_take]; have : (wsL).length = 3 := rfl; omega)
      refine ⟨A, fl, 3, 0, _, lw, q, aj, wj, rfl, PA5.same s56, glw, PA5.fresh hlw5, (by rw [e1]; exact gq), s56 _ _ haj5, Z, .inl ⟨okj, fun fl' H7 hn7 PA7 k7 => ?_⟩⟩
      rw [← run_take hwj] at PA7
      have t7 : Tp H6 H7 := (PA5.same s56).tp k7
      have h7 := k7 _ _ (s56 _ _ h5) n5
      have n7 : sn ∉ fl' :: A.M := fun z => by
        rcases List.mem_cons.mp z with z | z
        · rw [← z, s56 _ _ h5] at hn7; cases hn7
        · exact n5 (List.mem_cons_of_mem _ z)
      obtain ⟨dx7, hob7⟩ := PA7.ob
      obtain ⟨⟨de, a1⟩, b1, c1, _⟩ := PA7.en 0 (by decide)
      refine ⟨_, rfl, .inl ⟨rfl, _, SqL.of h7⟩, _, rfl, A.p, CP, dx7, _, _, rfl, hob7, T.cl, T.nE, rfl, A.te, _, _, _, rfl, rfl, SqT.of PA7.te, ends_at (j := 0) (by decide), A.e 0, CE, de, _, _, rfl, a1, T.E.cl, T.E.nT, rfl, A.t 0, _, rfl, .inl (SqL.of c1), sn, _, _, rfl, rfl, h7, small1000 (by rw [List.length_map, seenOf_len]; omega), ?_⟩
      rw [List.length_map]
      have k8 : Kp [sn] H7 (upd H7 sn (.lst ((seenOf 0 0 j S1 wsL).map V.int ++ [.int ((((PS.run 0 S1 (wsL.take (j + 1))).E 0).told.length : Nat) : Int)]))) := Kp.at (by simp)
      have snt : ∀ x ∈ [sn], ∀ xs, H7 x ≠ some (.tup xs) := fun x hx xs z => by rw [List.mem_singleton.mp hx, h7] at z; cases z
      refine ⟨fl', _, rfl, PA7.kp k8 (fun x hx => by rw [List.mem_singleton.mp hx]; exact n7) snt, ?_, n7, fun b hb => ?_, fun b o z => ?_, (t5.trans (Tp.same s56)).trans (t7.trans (tp_of k8 snt))⟩
      · rw [upd_same, seenOf_succ, List.map_append]; rfl
      · rcases List.mem_cons.mp hb with rfl | hb
        · cases q' : H b with
          | none => rfl
          | some o => rw [s56 _ _ (s5 _ _ q')] at hn7; cases hn7
        · exact f5 b (List.mem_cons_of_mem _ hb)
      · rw [upd_ne (ne_of_none z hsn0)]
        exact k7 _ _ (s56 _ _ (s5 _ _ z)) fun hb => by rw [f5 b hb] at z; cases z
    · rintro σ' H5 ⟨fl, v2, rfl, PA5, h5, n5, f5, s5, t5⟩
      have e4 : seenOf 0 0 3 S1 wsL = [0, 0, 1] := by decide +kernel
      have h5' : H5 sn = some (.lst (([0, 0, 1] : List Int).map V.int)) := by rw [← e4]; exact h5
      refine ⟨_, rfl, (by show 3 ≤ sizeLine; decide), fun q hq => ?_⟩
      have s6 : Same H5 (upd H5 q (.lst [.int 0, .int 0, .int 1])) := Same.new hq
      exact eqD_same (okInts [0, 0, 1]) (by decide) (dp_ints (SqL.of (s6 _ _ h5'))) (dp_ints (ns := [0, 0, 1]) (SqL.of upd_same)) (k _ (Same.tr s5 s6))
end
end Mc
namespace Mc
open PySem L2 PySem.Spec PyProof.Rows
/-! ### the law -/
abbrev s_law : Stmt := top 19
def spLaw (K : PySem.W.Frag) : Sp := fun vs H Q _ => ∃ (a : Addr) (ns : List Int), vs = [.ref a] ∧ SqL K H a (ns.map V.int) ∧ ns.length ≤ 63 ∧ ∀ H', Q (.bl true) H'
structure TxW (K : PySem.W.Frag) (mg : Str → Option Value) (CP CE CB : Addr) : Prop extends TxV K mg CP CE CB where
  max : mg "max" = none
  range : mg "range" = none
theorem cutTo (xs : List Int) (n : Nat) : cutV (xs.map V.int) none (some (n : Int)) = (xs.take n).map V.int := by
  unfold cutV
  rw [HT.sIx_none, HT.sIx_nat, List.drop_zero, Nat.sub_zero, List.length_map, ← List.map_take]
  by_cases h : n ≤ xs.length
  · rw [Nat.min_eq_left h]
  · rw [Nat.min_eq_right (by omega), List.take_of_length_le (Nat.le_refl _), List.take_of_length_le (by omega)]
theorem Dr.growL {K : PySem.W.Frag} {M : List Addr} {d a : Addr} {H : Hp} (Dd : Dr K M d a H) : ∀ {l : List Addr}, (∀ b ∈ l, H b = none) → Dr K (l ++ M) d a H
  | [], _ => Dd
  | b :: l, h => (Dr.growL Dd (l := l) fun c hc => h c (List.mem_cons_of_mem _ hc)).grow (h b List.mem_cons_self)
/-- what the law holds between its steps -/
structure LW (K : PySem.W.Frag) (CP CE : Addr) (D L : Nat) (d a : Addr) (A : Pd) (fl : Addr) (H : Hp) (S : PS) : Prop where
  dr : Dr K (d :: fl :: A.M) d a H
  pa : PaceAt V.int CP CE D L H A fl S
  nd : d ∉ fl :: A.M
section
variable {K : PySem.W.Frag} {CP CE : Addr} {D L : Nat} {d a : Addr} {A : Pd} {fl : Addr} {H H' : Hp} {S S' : PS}
theorem LW.dt (I : LW K CP CE D L d a A fl H S) : ∀ x ∈ [d], ∀ xs, H x ≠ some (.tup xs) := fun x hx xs z => by
  obtain ⟨⟨k, h⟩, _, _⟩ := I.dr
  rw [List.mem_singleton.mp hx, h] at z
  cases z
theorem LW.same (I : LW K CP CE D L d a A fl H S) (s : Same H H') : LW K CP CE D L d a A fl H' S := ⟨I.dr.same s, I.pa.same s, I.nd⟩
theorem LW.draw (I : LW K CP CE D L d a A fl H S) (Dn : Dr K (d :: fl :: A.M) d a H') (k : Kp [d] H H') : LW K CP CE D L d a A fl H' S ∧ Tp H H' :=
  ⟨⟨Dn, I.pa.kp k (fun x hx => by rw [List.mem_singleton.mp hx]; exact I.nd) I.dt, I.nd⟩, tp_of k I.dt⟩
theorem LW.put (I : LW K CP CE D L d a A fl H S) (P : PaceAt V.int CP CE D L H' A fl S') (k : Kp A.M H H') : LW K CP CE D L d a A fl H' S' ∧ Tp H H' := by
  have k' : Kp (fl :: A.M) H H' := k.mono fun b hb => List.mem_cons_of_mem _ hb
  exact ⟨⟨I.dr.keep (k'.mono fun b hb => List.mem_cons_of_mem _ hb) fun o z => k' _ _ z I.nd, P, I.nd⟩, I.pa.tp k'⟩
theorem LW.tick (I : LW K CP CE D L d a A fl H S) {fl' : Addr} (hn : H fl' = none) (P : PaceAt V.int CP CE D L H' A fl' S') (k : Kp (fl :: A.M) H H') : LW K CP CE D L d a A fl' H' S' ∧ Tp H H' := by
  obtain ⟨⟨q, hd⟩, _, _⟩ := id I.dr
  refine ⟨⟨((I.dr.grow hn).keep (k.mono fun b hb => List.mem_cons_of_mem _ (List.mem_cons_of_mem _ hb)) fun o z => k _ _ z I.nd).sub (fun b hb => ?_) (by simp), P, fun z => ?_⟩, I.pa.tp k⟩
  · simp only [List.mem_cons] at hb ⊢
    rcases hb with h | h | h
    · exact .inr (.inl h)
    · exact .inl h
    · exact .inr (.inr (.inr h))
  · rcases List.mem_cons.mp z with z | z
    · rw [← z, hd] at hn; cases hn
    · exact I.nd (List.mem_cons_of_mem _ z)
end
section
variable {P : Program} {w : World} {K : PySem.W.Frag} {mg : Str → Option Value} {base : Heap} {CP CE CB : Addr}
theorem sc_law : FnScope ["script", "draw", "delay", "losses", "pace", "words", "at", "word", "harsh", "tick", "wishes", "one", "other", "fault"] ["script"] (defScope s_law) := ⟨rfl, rfl, rfl, by decide +kernel, rfl, by decide +kernel, by decide +kernel⟩
theorem ok_law {f : Addr} {fd : FuncData} (F : Fun K "law" "law" s_law f fd) (T : TxW K mg CP CE CB) (c__law_take : Cal P w K mg base 2 "_law_take" ["draw", "many"] (spTake K)) (c_Pace : ∀ g, CalIX P w K mg base CP 4 "Pace" ["self", "delay", "losses"] (spPInit g CP CE CB))
    (c_put : ∀ g, CalM P w K mg base CP 2 "put" ["self", "at", "word"] (spPPut g CP CE)) (c_tick : ∀ g, CalMX P w K mg base CP 4 "tick" ["self", "wishes"] (spPTick g CP CE CB)) (c_done : ∀ g, CalM P w K mg base CP 1 "is_done" ["self"] (spPDone g CP CE))
    (c_slowest : Cal P w K mg base 1 "slowest" ["words", "delay", "losses"] spSlowest) (c_slow : Cal P w K mg base 6 "_law_slow" [] spTrue) (c_late : Cal P w K mg base 6 "_law_late" [] spTrue) (c_refused : Cal P w K mg base 6 "_law_refused" ["delay", "losses"] spRefused) :
    FnOk P w K mg base CX0 7 f fd ["script"] (spLaw K) := by
  refine F.ok sc_law (fun vs H Q E h => ?_) (fun cdv Ar outer s H vs Q E hr h => ?_)
  · obtain ⟨a, ns, rfl, _⟩ := h
    rfl
  · obtain ⟨a, ns, rfl, hS, hlen, k⟩ := h
    have hu := hu_of hr
    refine ⟨_, (pss_cons (ps_set (i := 1) sc_law.nd rfl (Or.inl rfl) (pe_lst (pa_cons (pv 0) (pa_cons pe_int pa_nil))))
      (pss_cons (ps_par (i := 2) (j := 3) rfl sc_law.nd rfl rfl (by decide) rfl rfl (pa_cons (pe_op op_add pe_int (pe_cal c__law_take (hr.mono (by decide)) rfl (pa_cons (pv 1) (pa_cons pe_int pa_nil)))) (pa_cons (pe_cal c__law_take (hr.mono (by decide)) rfl (pa_cons (pv 1) (pa_cons pe_int pa_nil))) pa_nil)) (by rfl))
      (pss_cons (ps_par (i := 4) (j := 5) rfl sc_law.nd rfl rfl (by decide) rfl rfl (pa_cons (pe_calIX (c_Pace V.int) (hr.mono (by decide)) rfl noE (pa_cons (pv 2) (pa_cons (pv 3) pa_nil))) (pa_cons (pe_tup (pa_cons (pe_cal c__law_take (hr.mono (by decide)) rfl (pa_cons (pv 1) (pa_cons pe_int pa_nil))) (pa_cons (pe_cal c__law_take (hr.mono (by decide)) rfl (pa_cons (pv 1) (pa_cons pe_int pa_nil))) pa_nil))) pa_nil)) (by rfl))
      (pss_cons (ps_for PassesOwn.never rfl (pi_tup (pe_tup (pa_cons pe_int (pa_cons pe_int pa_nil)))) (pg_name (i := 6) sc_law.nd rfl (Or.inl rfl))
        (pss_one (ps_for PassesOwn.never rfl (pi_range1 (by rfl) T.range (pa_cons (pe_ix ix_tup (pv 5) (pv 6) (fun _ _ => rfl)) pa_nil)) (pg_name (i := 7) sc_law.nd rfl (Or.inl rfl))
          (pss_one (ps_expr (pe_calM (pv 4) T.cl (c_put V.int) (hr.mono (by decide)) (pa_cons (pv 6) (pa_cons (pv 7) pa_nil))))))))
      (pss_cons (ps_set (i := 8) sc_law.nd rfl (Or.inl rfl) (pe_cmpR op_eq (pe_cal c__law_take (hr.mono (by decide)) rfl (pa_cons (pv 1) (pa_cons pe_int pa_nil))) pe_int (nomark _)))
      (pss_cons (ps_for PassesOwn.never rfl (pi_range1 (by rfl) T.range (pa_cons (pe_cal c_slowest (hr.mono (by decide)) rfl (pa_cons (pe_callB (cr_maxT rfl hu) (by rfl) T.max boot_max (pa_cons (pv 5) pa_nil)) (pa_cons (pv 2) (pa_cons (pv 3) pa_nil)))) pa_nil)) (pg_name (i := 9) sc_law.nd rfl (Or.inl rfl))
        (pss_cons (ps_set (i := 10) sc_law.nd rfl (Or.inl rfl) (pe_lst pa_nil))
        (pss_cons (ps_for PassesOwn.never rfl (pi_tup (pe_tup (pa_cons pe_int (pa_cons pe_int pa_nil)))) (pg_name (i := 6) sc_law.nd rfl (Or.inl rfl))
          (pss_one (ps_expr (pe_bm PySem.F.plainAttrs_list PySem.F.slot_list_append PySem.F.type_list_append mt_append (pv 10) (pa_cons (pe_tup (pa_cons (pe_or (pv 8) (pe_one (pe_cmpR op_eq (pe_cal c__law_take (hr.mono (by decide)) rfl (pa_cons (pv 1) (pa_cons pe_int pa_nil))) pe_int (nomark _)))) (pa_cons (pe_ifExp (pt_val (pv 8)) (pv 2) (pe_op op_add pe_int (pe_cal c__law_take (hr.mono (by decide)) rfl (pa_cons (pv 1) (pa_cons (pv 2) pa_nil))))) pa_nil))) pa_nil)))))
        (pss_cons (ps_expr (pe_calMX (pv 4) T.cl (c_tick V.int) (hr.mono (by decide)) noE (pa_cons (pv 10) pa_nil)))
        (pss_cons (ps_asg (pe_fld (pv 4) rfl) (pg_tup rfl (pgs_cons (pg_name (i := 11) sc_law.nd rfl (Or.inl rfl)) (pgs_cons (pg_name (i := 12) sc_law.nd rfl (Or.inl rfl)) pgs_nil))))
        (pss_one (ps_if (PW.pt (pw_or (pt_cmpR (op_neD hr.units) (pe_fld (pv 11) rfl) (pe_slice sl_list (pe_fld (pv 12) rfl) po_none (po_some (pe_callB call_len_seq (by rfl) T.E.len PySem.boot_len (pa_cons (pe_fld (pv 11) rfl) pa_nil)))) (nomark _)) (pw_or (pt_cmpR (op_neD hr.units) (pe_fld (pv 12) rfl) (pe_slice sl_list (pe_fld (pv 11) rfl) po_none (po_some (pe_callB call_len_seq (by rfl) T.E.len PySem.boot_len (pa_cons (pe_fld (pv 12) rfl) pa_nil)))) (nomark _)) (pw_or1 (pt_cmpR op_ne (pe_fld (pv 4) rfl) (pe_op op_add (pv 9) pe_int) (nomark _))))))
          (pss_one (ps_ret pe_bl))
          pss_nil)))))))
      (pss_cons (ps_if (PW.pt (pw_or (pt_not (pt_val (pe_calM0 (pv 4) T.cl (c_done V.int) (hr.mono (by decide))))) (pw_or (pt_cmpR op_ne (pe_cal c_slowest (hr.mono (by decide)) rfl (pa_cons pe_int (pa_cons (pv 2) (pa_cons (pv 3) pa_nil)))) pe_int (nomark _)) (pw_or (pt_not (pt_val (pe_cal0 c_slow (hr.mono (by decide)) rfl))) (pw_or1 (pt_not (pt_val (pe_cal0 c_late (hr.mono (by decide)) rfl))))))))
        (pss_one (ps_ret pe_bl))
        pss_nil)
      (pss_cons (ps_tryAs (i := 13) (Wout := fun _ _ _ _ => False) rfl rfl sc_law.nd rfl rfl ⟨rfl, by decide, Or.inl T.B.mg⟩ takes0
          (fun W pn xe tk _ => pss_cons (ps_expr (pe_calMX (pv 4) T.cl (c_tick V.int) (hr.mono (by decide)) (fun σ => passAt tk σ) (pa_cons (pe_lst (pa_cons (pe_tup (pa_cons pe_bl (pa_cons pe_int pa_nil))) (pa_cons (pe_tup (pa_cons pe_bl (pa_cons (pe_op op_add (pv 2) pe_int) pa_nil))) pa_nil))) pa_nil))) (pss_one (ps_ret pe_bl)))
          (fun a oe cls d pn hz hf => pss_one (ps_if (pt_cmpR op_ne (pe_xf T.xf T.nName hz hf (pv 13)) (pe_op op_add (pv 2) pe_int) (nomark _)) (pss_one (ps_ret pe_bl)) pss_nil)))
      (pss_one (ps_ret (pe_cmpR (op_eqD hr.units) (pe_lst (pa_cons (pe_cal c_refused (hr.mono (by decide)) rfl (pa_cons pe_int (pa_cons pe_int pa_nil))) (pa_cons (pe_cal c_refused (hr.mono (by decide)) rfl (pa_cons pe_int (pa_cons (pe_un un_neg pe_int) pa_nil))) (pa_cons (pe_cal c_refused (hr.mono (by decide)) rfl (pa_cons pe_int (pa_cons pe_int pa_nil))) (pa_cons (pe_cal c_refused (hr.mono (by decide)) rfl (pa_cons pe_str (pa_cons pe_int pa_nil))) pa_nil))))) (pe_lst (pa_cons pe_int (pa_cons (pe_un un_neg pe_int) (pa_cons pe_int (pa_cons pe_str pa_nil))))) (nomark _)))))))))))), ?_⟩
    -- draw = [script, 0]
    refine ⟨_, rfl, (by show 2 ≤ sizeLine; decide), fun d hd => ?_⟩
    have D0 : Dr K [d] d a (upd H d (.lst [.ref a, .int 0])) := Dr.mk' hS hlen hd
    generalize upd H d (.lst [.ref a, .int 0]) = H0 at D0 ⊢
    clear hS hd
    -- delay, losses
    refine ⟨_, rfl, [d], d, a, 4, rfl, D0, by decide, fun v H1 v0 v1 D1 k1 => ⟨_, _, rfl, rfl, _, rfl, [d], d, a, 4, rfl, D1, by decide, fun l H2 l0 l1 D2 k2 => ⟨_, _, rfl, ?_⟩⟩⟩
    obtain ⟨dv, rfl⟩ : ∃ n : Nat, v = n := ⟨v.toNat, by omega⟩
    obtain ⟨L, rfl⟩ : ∃ n : Nat, l = n := ⟨l.toNat, by omega⟩
    clear k1 k2 D0 D1
    obtain ⟨D, eD⟩ : ∃ D : Nat, D = 1 + dv := ⟨_, rfl⟩
    dsimp only
    rw [show (1 : Int) + (dv : Int) = ((D : Nat) : Int) by omega]
    have hD1 : 1 ≤ D := by omega
    have hD4 : D ≤ 4 := by omega
    have hL3 : L ≤ 3 := by omega
    clear eD v0 v1 l0 l1
    -- pace, words
    refine ⟨_, rfl, _, rfl, ?_⟩
    intro p dx hp hdx _
    have s1 : Same H2 (upd (upd H2 dx (.own p)) p (.ins CP dx [])) := fun b o z => by rw [upd_ne (ne_of_none z hp), upd_ne (ne_of_none z hdx)]; exact z
    refine ⟨p, dx, _, _, rfl, upd_same, .inl ⟨D, L, rfl, rfl, hD1, by omega, by omega, fun A fl H4 hAp hfr PA4 k4 => ⟨rfl, ?_⟩⟩⟩
    subst hAp
    have s24 : Same H2 H4 := fun b o z => (Kp.same s1).trans (k4.mono (fun _ h => h)) _ _ z (by simp; exact ne_of_none z hp)
    have hfr2 : ∀ b ∈ fl :: A.M, H2 b = none := fun b hb => by
      by_cases e : b = A.p
      · rw [e]; exact hp
      · have z := hfr b hb e
        rw [upd_ne e] at z
        cases q : H2 b with
        | none => rfl
        | some o => rw [upd_ne (ne_of_none q hdx), q] at z; cases z
    have I4 : LW K CP CE D L d a A fl H4 PS.new := by
      obtain ⟨⟨q, hd⟩, _, _⟩ := id D2
      refine ⟨((D2.growL hfr2).same s24).sub (fun b hb => ?_) (by simp), PA4, fun z => ?_⟩
      · rcases List.mem_cons.mp hb with h | h
        · exact List.mem_append_right _ (by simp [h])
        · exact List.mem_append_left _ h
      · rw [hfr2 d z] at hd; cases hd
    clear k4 s1 s24 hfr hfr2 PA4 hp hdx D2
    refine ⟨_, rfl, d :: fl :: A.M, d, a, 9, rfl, I4.dr, by decide, fun n0 H5 n00 n01 D5 k5 => ?_⟩
    have I5 := (I4.draw D5 k5).1
    refine ⟨_, rfl, d :: fl :: A.M, d, a, 9, rfl, I5.dr, by decide, fun n1 H6 n10 n11 D6 k6 => ?_⟩
    have I6 := (I5.draw D6 k6).1
    obtain ⟨n0, rfl⟩ : ∃ n : Nat, n0 = n := ⟨n0.toNat, by omega⟩
    obtain ⟨n1, rfl⟩ : ∃ n : Nat, n1 = n := ⟨n1.toNat, by omega⟩
    refine ⟨(by show 2 ≤ sizeLine; decide), fun wt hwt => ⟨_, _, rfl, ?_⟩⟩
    have I7 := I6.same (Same.new (o := .tup [.int n0, .int n1]) hwt)
    have hw7 : upd H6 wt (.tup [.int n0, .int n1]) wt = some (.tup [.int n0, .int n1]) := upd_same
    generalize upd H6 wt (.tup [.int n0, .int n1]) = H7 at I7 hw7 ⊢
    clear I4 I5 I6 D5 D6 k5 k6
    dsimp only
    -- for at in (0, 1): for word in range(words[at])
    refine ⟨(by show 2 ≤ sizeLine; decide), fun ut hut => ?_⟩
    have s8 : Same H7 (upd H7 ut (.tup [.int 0, .int 1])) := Same.new hut
    have hu8 : upd H7 ut (.tup [.int 0, .int 1]) ut = some (.tup [.int 0, .int 1]) := upd_same
    have I8 := I7.same s8
    have hw8 := s8 _ _ hw7
    generalize upd H7 ut (.tup [.int 0, .int 1]) = H8 at s8 hu8 I8 hw8 ⊢
    have out01 : ∀ (y : V) (j : Nat), ([V.int 0, V.int 1] : List V)[j]? = some y → j < 2 ∧ y = .int ((j : Nat) : Int) := fun y j hj => by
      match j, hj with
      | 0, hj => cases hj; exact ⟨by decide, rfl⟩
      | 1, hj => cases hj; exact ⟨by decide, rfl⟩
    refine ⟨ut, rfl, ⟨_, SqT.of hu8⟩, for_tup (K := K) (a := ut) (xs := [V.int 0, V.int 1]) (fun j σ' H' => ∃ (S : PS) (v6 v7 : Option V), σ' = [some (.ref a), some (.ref d), some (.int D), some (.int L), some (.ref A.p), some (.ref wt), v6, v7, none, none, none, none, none, none] ∧ LW K CP CE D L d a A fl H' S ∧ Sz L S ∧ S.t = 0 ∧
      (S.E 0).out.length = (if 0 < j then n0 else 0) ∧ (S.E 1).out.length = (if 1 < j then n1 else 0) ∧ Tp H8 H') ⟨_, _, _, rfl, I8, Sz.new L, rfl, rfl, rfl, Tp.refl _⟩ ?_ ?_ ?_⟩
    · rintro j σ' H' _ ⟨S, v6, v7, rfl, _, _, _, _, _, t⟩
      exact SqT.of (t _ _ hu8)
    · rintro j y σ' H9 hj ⟨S, v6, v7, rfl, I9, Z9, t9, o0, o1, tp9⟩
      obtain ⟨hj2, rfl⟩ := out01 y j hj
      have hwt9 := tp9 _ _ hw8
      have hat : atI [V.int (n0 : Int), V.int (n1 : Int)] ((j : Nat) : Int) = some (.int ((if j = 0 then n0 else n1 : Nat) : Int)) := by rcases i2 hj2 with rfl | rfl <;> rfl
      refine ⟨_, rfl, _, rfl, wt, _, _, _, rfl, rfl, SqT.of hwt9, hat, _, rfl, by omega, ?_, for_range (lo := 0) (n := (((if j = 0 then n0 else n1 : Nat) : Int)).toNat) (fun i σ' H' => ∃ (S : PS) (v7 : Option V), σ' = [some (.ref a), some (.ref d), some (.int D), some (.int L), some (.ref A.p), some (.ref wt), some (.int ((j : Nat) : Int)), v7, none, none, none, none, none, none] ∧ LW K CP CE D L d a A fl H' S ∧ Sz L S ∧ S.t = 0 ∧
        (S.E j).out.length = i ∧ (∀ q, q < 2 → q ≠ j → (S.E q).out.length = if q < j then (if q = 0 then n0 else n1) else 0) ∧ Tp H8 H') ?_ ?_ ?_⟩
      · split <;> omega
      · refine ⟨S, _, rfl, I9, Z9, t9, ?_, fun q hq hn => ?_, tp9⟩
        · rcases i2 hj2 with rfl | rfl
          · exact o0
          · exact o1
        · rcases i2 hj2 with rfl | rfl <;> rcases i2 hq with rfl | rfl
          · exact absurd rfl hn
          · exact o1
          · exact o0
          · exact absurd rfl hn
      · rintro i σ' HA hi ⟨S, v7, rfl, IA, ZA, tA, oA, oB, tpA⟩
        have hi8 : i < 9 := by
          have : (if j = 0 then n0 else n1) ≤ 8 := by split <;> omega
          omega
        obtain ⟨dxA, hobA⟩ := IA.pa.ob
        refine ⟨_, rfl, A.p, dxA, _, rfl, hobA, rfl, _, rfl, _, rfl, A, fl, D, L, S, j, 0 + (i : Int), rfl, IA.pa, hj2, by omega, fun HB PAB kB => ?_⟩
        obtain ⟨IB, tpB⟩ := IA.put PAB kB
        refine ⟨_, _, rfl, IB, ZA.put hj2 _ (by omega), tA, ?_, fun q hq hn => ?_, tpA.trans tpB⟩
        · show (setE S.E j ((S.E j).put _) j).out.length = i + 1
          rw [setE_same]
          show ((S.E j).out ++ [_]).length = i + 1
          rw [List.length_append, oA]
          rfl
        · show (setE S.E j ((S.E j).put _) q).out.length = _
          rw [setE_ne _ _ hn]
          exact oB q hq hn
      · rintro σ' HA ⟨S, v7, rfl, IA, ZA, tA, oA, oB, tpA⟩
        rw [Int.toNat_natCast] at oA
        refine ⟨S, _, _, rfl, IA, ZA, tA, ?_, ?_, tpA⟩
        · rcases i2 hj2 with rfl | rfl
          · exact oA
          · exact oB 0 (by decide) (by decide)
        · rcases i2 hj2 with rfl | rfl
          · exact oB 1 (by decide) (by decide)
          · exact oA
    · rintro σ' H9 ⟨S0, v6, v7, rfl, I9, Z9, t9, o0, o1, tp9⟩
      have o0 : (S0.E 0).out.length = n0 := o0
      have o1 : (S0.E 1).out.length = n1 := o1
      have hwt9 := tp9 _ _ hw8
      -- harsh
      refine ⟨_, rfl, d :: fl :: A.M, d, a, 3, rfl, I9.dr, by decide, fun hh HA _ _ DA kA => ⟨rfl, ?_⟩⟩
      obtain ⟨IA, tpA⟩ := I9.draw DA kA
      have hwtA := tpA _ _ hwt9
      generalize decide (V.int hh = V.int 0) = hb
      clear DA kA tpA hw8 hu8 s8 I7 I8 hw7 hut
      -- the ticks
      refine ⟨_, rfl, wt, _, _, rfl, SqT.of hwtA, ?_⟩
      rw [show (if (n0 : Int) < (n1 : Int) then (n1 : Int) else (n0 : Int)) = ((max n0 n1 : Nat) : Int) by split <;> omega]
      have hN : 2 * (D + L + 1) * ((max n0 n1 + 2) / 3) ≤ 2 * 8 * 3 := Nat.mul_le_mul (by omega) (by omega)
      refine ⟨_, rfl, _, rfl, max n0 n1, D, L, rfl, by omega, by omega, by omega, _, rfl, by omega, by omega, ?_⟩
      generalize eN : 2 * (D + L + 1) * ((max n0 n1 + 2) / 3) = N at hN
      refine for_range (lo := 0) (n := ((N : Nat) : Int).toNat) (fun j σ' H' => ∃ (fl : Addr) (ws : List ((Bool × Nat) × (Bool × Nat))) (v6 v7 v9 v10 v11 v12 : Option V), σ' = [some (.ref a), some (.ref d), some (.int D), some (.int L), some (.ref A.p), some (.ref wt), v6, v7, some (.bl hb), v9, v10, v11, v12, none] ∧ LW K CP CE D L d a A fl H' (S0.run L ws) ∧
        ws.length = j ∧ ∀ w ∈ ws, okW D w) ⟨fl, [], _, _, _, _, _, _, rfl, IA, rfl, fun w hw => (nomatch hw)⟩ ?_ ?_
      · rintro j σ' HB hj ⟨fl, ws, v6, v7, v9, v10, v11, v12, rfl, IB, hwl, hok⟩
        have hjN : j < 48 := by omega
        have ZB := Z9.run hok (by rw [t9, hwl]; omega)
        have hSt : (S0.run L ws).t = j := by rw [run_t, t9, hwl, Nat.zero_add]
        have hSo : ∀ i, ((S0.run L ws).E i).out = (S0.E i).out := fun i => run_out i
        generalize eS : S0.run L ws = S at IB ZB hSt hSo
        -- wishes = []
        refine ⟨Nat.zero_le _, fun lw hlw => ?_⟩
        have nlw := IB.pa.fresh hlw
        have nld : lw ≠ d := fun z => by
          obtain ⟨⟨q, hd⟩, _, _⟩ := IB.dr
          rw [z, hd] at hlw; cases hlw
        have IC := IB.same (Same.new (o := .lst []) hlw)
        have hlC : upd HB lw (.lst []) lw = some (.lst []) := upd_same
        have DC := (IB.dr.grow hlw).same (Same.new (o := .lst []) hlw)
        generalize upd HB lw (.lst []) = HC at IC hlC DC ⊢
        refine ⟨(by show 2 ≤ sizeLine; decide), fun ut hut => ?_⟩
        have sD : Same HC (upd HC ut (.tup [.int 0, .int 1])) := Same.new hut
        have huD : upd HC ut (.tup [.int 0, .int 1]) ut = some (.tup [.int 0, .int 1]) := upd_same
        have ID := IC.same sD
        have hlD := sD _ _ hlC
        have DD := DC.same sD
        have PD := ID.pa
        have ndD := ID.nd
        generalize upd HC ut (.tup [.int 0, .int 1]) = HD at sD huD PD hlD DD ⊢
        clear ID IC DC
        refine ⟨ut, rfl, ⟨_, SqT.of huD⟩, for_tup (K := K) (a := ut) (xs := [V.int 0, V.int 1]) (fun i σ' H' => ∃ (v6 : Option V) (as : List Addr) (vs : List (Bool × Nat)), σ' = [some (.ref a), some (.ref d), some (.int D), some (.int L), some (.ref A.p), some (.ref wt), v6, v7, some (.bl hb), some (.int (0 + (j : Int))), some (.ref lw), v11, v12, none] ∧ Dr K (lw :: d :: fl :: A.M) d a H' ∧ PaceAt V.int CP CE D L H' A fl S ∧
          H' lw = some (.lst (as.map V.ref)) ∧ as.length = i ∧ Paired (fun a v => H' a = some (.tup [.bl v.1, .int v.2])) as vs ∧ (∀ v ∈ vs, 1 ≤ v.2 ∧ v.2 ≤ D) ∧ Tp HD H') ⟨_, [], [], rfl, DD, PD, hlD, rfl, .nil, fun v hv => (nomatch hv), Tp.refl _⟩ ?_ ?_ ?_⟩
        · rintro i σ' H' _ ⟨v6, as, vs, rfl, _, _, _, _, _, _, t⟩
          exact SqT.of (t _ _ huD)
        · rintro i y σ' HE hi ⟨v6, as, vs, rfl, DE, PE, hlE, hal, pE, hv, tE⟩
          obtain ⟨hi2, rfl⟩ := out01 y i hi
          have drw : ∀ {H9 HF : Hp}, Dr K (lw :: d :: fl :: A.M) d a H9 → PaceAt V.int CP CE D L H9 A fl S → H9 lw = some (.lst (as.map V.ref)) → Kp [d] H9 HF → PaceAt V.int CP CE D L HF A fl S ∧ HF lw = some (.lst (as.map V.ref)) ∧ Tp H9 HF := fun {H9 HF} D9 P9 h9 k9 => by
            have nt : ∀ x ∈ [d], ∀ xs, H9 x ≠ some (.tup xs) := fun x hx xs z => by
              obtain ⟨⟨q, hd⟩, _, _⟩ := D9
              rw [List.mem_singleton.mp hx, hd] at z; cases z
            exact ⟨P9.kp k9 (fun x hx => by rw [List.mem_singleton.mp hx]; exact ndD) nt, k9 _ _ h9 (by simp; exact nld), tp_of k9 nt⟩
          have fin : ∀ (HF : Hp) (b : Bool) (q : Nat) (t : Addr) (v6' : Option V), Dr K (lw :: d :: fl :: A.M) d a HF → PaceAt V.int CP CE D L HF A fl S → Tp HE HF → HF lw = some (.lst (as.map V.ref)) → HF t = none → 1 ≤ q → q ≤ D → ∃ (v6 : Option V) (as' : List Addr) (vs : List (Bool × Nat)), ([some (.ref a), some (.ref d), some (.int D), some (.int L), some (.ref A.p), some (.ref wt), v6', v7, some (.bl hb), some (.int (0 + (j : Int))), some (.ref lw), v11, v12, none] : L2.St) = [some (.ref a), some (.ref d), some (.int D), some (.int L), some (.ref A.p), some (.ref wt), v6, v7, some (.bl hb), some (.int (0 + (j : Int))), some (.ref lw), v11, v12, none] ∧
              Dr K (lw :: d :: fl :: A.M) d a (upd (upd HF t (.tup [.bl b, .int (q : Int)])) lw (.lst (as.map V.ref ++ [.ref t]))) ∧ PaceAt V.int CP CE D L (upd (upd HF t (.tup [.bl b, .int (q : Int)])) lw (.lst (as.map V.ref ++ [.ref t]))) A fl S ∧ (upd (upd HF t (.tup [.bl b, .int (q : Int)])) lw (.lst (as.map V.ref ++ [.ref t]))) lw = some (.lst (as'.map V.ref)) ∧ as'.length = i + 1 ∧ Paired (fun a v => (upd (upd HF t (.tup [.bl b, .int (q : Int)])) lw (.lst (as.map V.ref ++ [.ref t]))) a = some (.tup [.bl v.1, .int v.2])) as' vs ∧ (∀ v ∈ vs, 1 ≤ v.2 ∧ v.2 ≤ D) ∧ Tp HD (upd (upd HF t (.tup [.bl b, .int (q : Int)])) lw (.lst (as.map V.ref ++ [.ref t]))) := fun HF b q t v6' DF PF tF hlF ht q1 q2 => by
            have nlt : lw ≠ t := ne_of_none hlF ht
            have s1 : Same HF (upd HF t (.tup [.bl b, .int (q : Int)])) := Same.new ht
            have k2 : Kp [lw] (upd HF t (.tup [.bl b, .int (q : Int)])) (upd (upd HF t (.tup [.bl b, .int (q : Int)])) lw (.lst (as.map V.ref ++ [.ref t]))) := Kp.at (by simp)
            have nt : ∀ x ∈ [lw], ∀ xs, (upd HF t (.tup [.bl b, .int (q : Int)])) x ≠ some (.tup xs) := fun x hx xs z => by rw [List.mem_singleton.mp hx, s1 _ _ hlF] at z; cases z
            have t2 := tp_of k2 nt
            have tAll := (tF.trans (Tp.same s1)).trans t2
            refine ⟨_, as ++ [t], vs ++ [(b, q)], rfl, (DF.same s1).keep (k2.mono (by simp)) fun o z => by rw [upd_ne nld.symm]; exact z, (PF.same s1).kp k2 (fun x hx => by rw [List.mem_singleton.mp hx]; exact nlw) nt, by rw [upd_same, List.map_append]; rfl, by rw [List.length_append, hal]; rfl, Paired.app (Paired.mapP pE fun x y z => tAll _ _ z) (.cons ?_ .nil), fun v hv' => ?_, tE.trans tAll⟩
            · rw [upd_ne nlt.symm]
              exact upd_same
            · rcases List.mem_append.mp hv' with h | h
              · exact hv v h
              · cases List.mem_singleton.mp h
                exact ⟨q1, q2⟩
          have hsz : (as.map V.ref).length < sizeLine := small1000 (by rw [List.length_map]; omega)
          refine ⟨_, rfl, .inl ⟨rfl, _, SqL.of hlE⟩, _, rfl, hb, rfl, ?_⟩
          cases hb with
          | true =>
            refine ite2 (fun _ => ?_) (fun h => absurd rfl h)
            refine ⟨_, rfl, _, rfl, ?_⟩
            refine ite2 (fun _ => ?_) (fun h => absurd rfl h)
            refine ⟨_, rfl, (by show 2 ≤ sizeLine; decide), fun t ht => ⟨lw, _, _, rfl, rfl, ?_, hsz, ?_⟩⟩
            · rw [upd_ne (ne_of_none hlE ht)]; exact hlE
            · exact fin HE true D t _ DE PE (Tp.refl _) hlE ht hD1 (Nat.le_refl _)
          | false =>
            refine ite2 (fun h => absurd h (by decide)) (fun _ => ?_)
            refine ⟨_, rfl, lw :: d :: fl :: A.M, d, a, 2, rfl, DE, by decide, fun v2 HF _ _ DF kF => ⟨rfl, ?_⟩⟩
            obtain ⟨PF, hlF, tF⟩ := drw DE PE hlE kF
            refine ⟨_, rfl, _, rfl, ?_⟩
            refine ite2 (fun h => absurd h (by decide)) (fun _ => ?_)
            refine ⟨_, rfl, _, rfl, lw :: d :: fl :: A.M, d, a, (D : Int), rfl, DF, by omega, fun q HG q0 q1 DG kG => ?_⟩
            obtain ⟨PG, hlG, tG⟩ := drw DF PF hlF kG
            obtain ⟨q, rfl⟩ : ∃ n : Nat, q = n := ⟨q.toNat, by omega⟩
            refine ⟨_, _, rfl, rfl, (by show 2 ≤ sizeLine; decide), fun t ht => ?_⟩
            have eq1 : (1 : Int) + (q : Int) = ((1 + q : Nat) : Int) := by omega
            dsimp only at ht ⊢
            rw [eq1]
            refine ⟨lw, _, _, rfl, rfl, ?_, hsz, ?_⟩
            · rw [upd_ne (ne_of_none hlG ht)]; exact hlG
            · exact fin HG _ (1 + q) t _ DG PG (tF.trans tG) hlG ht (by omega) (by omega)
        · rintro σ' HE ⟨v6, as, vs, rfl, DE, PE, hlE, hal, pE, hv, tE⟩
          have hvl := Paired.length pE
          obtain ⟨a0, a1, rfl⟩ : ∃ a0 a1, as = [a0, a1] := by
            match as, hal with
            | [x, y], _ => exact ⟨x, y, rfl⟩
          obtain ⟨w0, w1, rfl⟩ : ∃ w0 w1, vs = [w0, w1] := by
            match vs, hvl with
            | [x, y], _ => exact ⟨x, y, rfl⟩
          cases pE with
          | cons g0 pE =>
          cases pE with
          | cons g1 pE =>
          have h0 := hv w0 (by simp)
          have h1 := hv w1 (by simp)
          have IE : LW K CP CE D L d a A fl HE S := ⟨DE.sub (fun b hb => List.mem_cons_of_mem _ hb) (by simp), PE, ndD⟩
          obtain ⟨dxE, hobE⟩ := PE.ob
          refine ⟨_, rfl, A.p, dxE, _, rfl, hobE, rfl, _, rfl, A, fl, D, L, S, lw, a0, a1, (w0, w1), rfl, PE, hlE, nlw, g0, g1, ZB, .inl ⟨⟨h0.1, h0.2, h1.1, h1.2⟩, fun fl' HF hnF PF kF => ?_⟩⟩
          obtain ⟨IF, tF⟩ := IE.tick hnF PF kF
          have JF : JP L (S.tick L (w0, w1)) := ZB.j.tick (D := D) ⟨h0.1, h0.2, h1.1, h1.2⟩
          have eS2 : S0.run L (ws ++ [(w0, w1)]) = S.tick L (w0, w1) := by rw [run_app, eS]; rfl
          obtain ⟨dxF, hobF⟩ := PF.ob
          obtain ⟨⟨de0, q0⟩, b0, c0, _⟩ := PF.en 0 (by decide)
          obtain ⟨⟨de1, q1⟩, b1, c1, _⟩ := PF.en 1 (by decide)
          have p0 : ((S.tick L (w0, w1)).E 0).told = ((S.tick L (w0, w1)).E 1).out.take ((S.tick L (w0, w1)).E 0).told.length := JF.jj.pre 0 (by decide)
          have p1 : ((S.tick L (w0, w1)).E 1).told = ((S.tick L (w0, w1)).E 0).out.take ((S.tick L (w0, w1)).E 1).told.length := JF.jj.pre 1 (by decide)
          have hT : (S.tick L (w0, w1)).t = j + 1 := by rw [tick_t, hSt]
          generalize S.tick L (w0, w1) = S2 at IF PF eS2 hobF q0 b0 c0 q1 b1 c1 p0 p1 hT
          refine ⟨_, rfl, A.p, CP, dxF, _, _, rfl, hobF, T.cl, T.nE, rfl, A.te, _, rfl, SqT.of PF.te, rfl, _, _, rfl, _, _, rfl, rfl, ?_⟩
          refine ⟨_, rfl, A.e 0, CE, de0, _, _, rfl, q0, T.E.cl, T.E.nT, rfl, _, rfl, A.e 1, CE, de1, _, _, rfl, q1, T.E.cl, T.E.nO, rfl, _, rfl, A.e 0, CE, de0, _, _, rfl, q0, T.E.cl, T.E.nT, rfl, A.t 0, _, rfl, .inl (SqL.of c0), ((S2.E 0).told.map V.int).length, rfl, A.o 1, _, rfl, SqL.of b1, fun r hr1 => ?_⟩
          rw [List.length_map, cutTo, ← p0]
          have sG : Same HF (upd HF r (.lst ((S2.E 0).told.map V.int))) := Same.new hr1
          refine neD_same (okInts (S2.E 0).told) (by decide) (dp_ints (SqL.of (sG _ _ c0))) (dp_ints (SqL.of upd_same)) ⟨_, rfl, ?_⟩
          refine ite2 (fun h => absurd h (by decide)) (fun _ => ?_)
          have IG := IF.same sG
          have q0G := sG _ _ q0
          have b0G := sG _ _ b0
          have q1G := sG _ _ q1
          have c1G := sG _ _ c1
          generalize upd HF r (.lst ((S2.E 0).told.map V.int)) = HG at IG q0G b0G q1G c1G ⊢
          refine ⟨_, rfl, A.e 1, CE, de1, _, _, rfl, q1G, T.E.cl, T.E.nT, rfl, _, rfl, A.e 0, CE, de0, _, _, rfl, q0G, T.E.cl, T.E.nO, rfl, _, rfl, A.e 1, CE, de1, _, _, rfl, q1G, T.E.cl, T.E.nT, rfl, A.t 1, _, rfl, .inl (SqL.of c1G), ((S2.E 1).told.map V.int).length, rfl, A.o 0, _, rfl, SqL.of b0G, fun r2 hr2 => ?_⟩
          rw [List.length_map, cutTo, ← p1]
          have sH : Same HG (upd HG r2 (.lst ((S2.E 1).told.map V.int))) := Same.new hr2
          refine neD_same (okInts (S2.E 1).told) (by decide) (dp_ints (SqL.of (sH _ _ c1G))) (dp_ints (SqL.of upd_same)) ⟨_, rfl, ?_⟩
          refine ite2 (fun h => absurd h (by decide)) (fun _ => ?_)
          have IH := IG.same sH
          generalize upd HG r2 (.lst ((S2.E 1).told.map V.int)) = HH at IH ⊢
          obtain ⟨dxH, hobH⟩ := IH.pa.ob
          refine ⟨_, rfl, A.p, CP, dxH, _, _, rfl, hobH, T.cl, T.nT, rfl, _, rfl, _, _, rfl, rfl, rfl, _, rfl, ?_⟩
          have et : V.int (S2.t : Int) = V.int (0 + (j : Int) + 1) := by rw [hT]; congr 1; omega
          refine ite2 (fun h => absurd h ?_) (fun _ => ?_)
          · show ¬ (!decide (V.int (S2.t : Int) = V.int (0 + (j : Int) + 1))) = true
            rw [decide_eq_true et]; decide
          · exact ⟨fl', ws ++ [(w0, w1)], _, _, _, _, _, _, rfl, by rw [eS2]; exact IH, by rw [List.length_append, hwl]; rfl, fun w hw => by
              rcases List.mem_append.mp hw with h | h
              · exact hok w h
              · rw [List.mem_singleton.mp h]; exact ⟨h0.1, h0.2, h1.1, h1.2⟩⟩
      · rintro σ' HB ⟨fl, ws, v6, v7, v9, v10, v11, v12, rfl, IB, hwl, hok⟩
        rw [Int.toNat_natCast] at hwl
        have ZB := Z9.run hok (by rw [t9, hwl]; omega)
        have dn : ∀ i, i < 2 → ((S0.run L ws).E i).ans = ((S0.run L ws).E i).out.length := fun i hi => by
          have h1 := windows hD1 hi ((max n0 n1 + 2) / 3) Z9.j hok (by rw [hwl, ← eN])
          have h2 : ((S0.run L ws).E i).out = (S0.E i).out := run_out i
          have h3 : (S0.E i).out.length ≤ max n0 n1 := by
            rcases i2 hi with rfl | rfl
            · rw [o0]; omega
            · rw [o1]; omega
          have h4 := ZB.j.jj.ans i hi
          have h5 := pre_len (ZB.j.jj.pre (1 - i) (two hi).1)
          rw [(two hi).2.2] at h5
          rw [h2] at h5 ⊢
          omega
        generalize S0.run L ws = S at IB ZB dn
        obtain ⟨dxB, hobB⟩ := IB.pa.ob
        refine ⟨_, rfl, A.p, dxB, _, rfl, hobB, rfl, A, fl, D, L, S, rfl, IB.pa, fun HC sC => ⟨_, rfl, ?_⟩⟩
        rw [decide_eq_true (dn 0 (by decide)), decide_eq_true (dn 1 (by decide))]
        refine ite2 (fun h => absurd h (by decide)) (fun _ => ?_)
        refine ⟨_, rfl, _, rfl, 0, D, L, rfl, by decide, by omega, by omega, rfl, _, rfl, ?_⟩
        refine ite2 (fun h => absurd h ?_) (fun _ => ?_)
        · show ¬ (!decide (V.int ((2 * (D + L + 1) * ((0 + 2) / 3) : Nat) : Int) = V.int 0)) = true
          rw [show 2 * (D + L + 1) * ((0 + 2) / 3) = 0 by simp]
          decide
        refine ⟨rfl, fun HD sD => ⟨_, rfl, ?_⟩⟩
        refine ite2 (fun h => absurd h (by decide)) (fun _ => ?_)
        refine ⟨rfl, fun HE sE => ⟨_, rfl, ?_⟩⟩
        refine ite2 (fun h => absurd h (by decide)) (fun _ => ?_)
        have IE := IB.same (Same.tr sC (Same.tr sD sE))
        clear IB hobB
        obtain ⟨dxE, hobE⟩ := IE.pa.ob
        -- pace.tick([(False, 1), (False, delay + 1)])
        refine ⟨_, rfl, A.p, dxE, _, rfl, hobE, rfl, (by show 2 ≤ sizeLine; decide), fun b0 hb0 => ⟨_, rfl, _, _, rfl, rfl, (by show 2 ≤ sizeLine; decide), fun b1 hb1 => ⟨(by show 2 ≤ sizeLine; decide), fun lw hlw => ?_⟩⟩⟩
        have n01 : b0 ≠ b1 := ne_of_none upd_same hb1
        have n0l : b0 ≠ lw := ne_of_none (o := .tup [.bl false, .int 1]) (by rw [upd_ne n01, upd_same]) hlw
        have n1l : b1 ≠ lw := ne_of_none upd_same hlw
        have sF : Same HE (upd (upd (upd HE b0 (.tup [.bl false, .int 1])) b1 (.tup [.bl false, .int ((D : Int) + 1)])) lw (.lst [.ref b0, .ref b1])) := Same.tr (Same.new hb0) (Same.tr (Same.new hb1) (Same.new hlw))
        have hlE : HE lw = none := by
          cases z : HE lw with
          | none => rfl
          | some o => rw [Same.tr (Same.new (o := .tup [.bl false, .int 1]) hb0) (Same.new hb1) _ _ z] at hlw; cases hlw
        refine ⟨A, fl, D, L, S, lw, b0, b1, ((false, 1), (false, D + 1)), rfl, IE.pa.same sF, upd_same, IE.pa.fresh hlE, by rw [upd_ne n0l, upd_ne n01]; exact upd_same, by rw [upd_ne n1l]; exact upd_same, ZB, .inr ⟨Nat.le_refl _, hD1, Nat.lt_succ_self _, fun dd HF sF2 hdd => ?_⟩⟩
        refine ⟨true, T.te, fun _ x0 _ => ?_, fun q => Bool.noConfusion q⟩
        refine ⟨_, rfl, rfl, rfl, dd, _, _, rfl, hdd, rfl, _, rfl, _, _, rfl, rfl, rfl, _, rfl, ?_⟩
        refine ite2 (fun h => absurd h ?_) (fun _ => ?_)
        · show ¬ (!decide (V.int ((D + 1 : Nat) : Int) = V.int ((D : Int) + 1))) = true
          rw [decide_eq_true (by congr 1)]
          decide
        -- the refusals
        refine ⟨.int 0, .int 1, .int 0, rfl, .inl ⟨by decide, rfl⟩, fun H1 _ => ⟨_, rfl, .int 1, .int (-1), .int (-1), rfl, .inr ⟨by decide, by decide, rfl⟩, fun H2 _ => ⟨.int 1001, .int 0, .int 1001, rfl, .inl ⟨by decide, rfl⟩, fun H3 _ => ⟨.str "1", .int 0, .str "1", rfl, .inl ⟨by rfl, rfl⟩, fun H4 _ => ⟨(by show 4 ≤ sizeLine; decide), fun r hr1 => ⟨_, rfl, (by show 4 ≤ sizeLine; decide), fun r2 hr2 => ?_⟩⟩⟩⟩⟩⟩
        have nr : r ≠ r2 := ne_of_none upd_same hr2
        have o1s : DOk 0 (.str "1") := DOk.str (by rw [PyData.canLay0]; decide +kernel)
        refine eqD_same (d := .list [.int 0, .int (-1), .int 1001, .str "1"]) (DOk.lst (n := 0) fun x hx => ?_) (by decide) (.lst (SqL.of (by rw [upd_ne nr]; exact upd_same)) (.cons (.int _) (.cons (.int _) (.cons (.int _) (.cons (.str _) .nil))))) (.lst (SqL.of upd_same) (.cons (.int _) (.cons (.int _) (.cons (.int _) (.cons (.str _) .nil))))) (k _)
        simp only [List.mem_cons, List.not_mem_nil, or_false] at hx
        rcases hx with rfl | rfl | rfl | rfl
        · exact DOk.int
        · exact DOk.int
        · exact DOk.int
        · exact o1s
end
end Mc
namespace Mc
open PySem L2 PySem.Spec PyProof.Rows
/-! ### an error of a class is what «except» of that class names -/
theorem exm_self {K : PySem.W.Frag} {S : Addr} (h1 : PySem.W.subIn K (.ref S) (.type "BaseException") = some true) (h2 : PySem.W.isClsIn K S = true) (h3 : PySem.W.typeIn K (.ref S) = some (.type "type")) (h4 : PySem.W.subIn K (.ref S) (.ref S) = some true) :
    PySem.W.exmOne K (.ref S) (.ref S) = some true := by
  have e1 : (PySem.W.subIn K (.ref S) (.type "BaseException") == some true) = true := by rw [h1] <;> rfl
  have e2 : ((PySem.W.clsIn K S).isSome && PySem.W.typeIn K (.ref S) == some (.type "type")) = true := by
    have h2' : (PySem.W.clsIn K S).isSome = true := h2
    rw [h2', h3] <;> rfl
  show (if (PySem.W.subIn K (.ref S) (.type "BaseException") == some true) = true then (if ((PySem.W.clsIn K S).isSome && PySem.W.typeIn K (.ref S) == some (.type "type")) = true then PySem.W.subIn K (.ref S) (.ref S) else none) else none) = some true
  rw [if_pos e1, if_pos e2]
  exact h4
abbrev sBadI : Stmt := inClass (top 5) 0
theorem scBadI : FnScope ["self", "name"] ["self", "name"] (defScope sBadI) := ⟨rfl, rfl, rfl, by decide +kernel, rfl, by decide +kernel, by decide +kernel⟩
theorem all_mk {l : PySem.W.OpenLaw} {w : World} {K : PySem.W.Frag} {h : Heap} {mg : PySem.Str → Option Value} {fa : Addr} (X : K.In h) (G : h.Ns mainGlobals mg) (hfa : mg "law" = some (.ref fa))
    {CE : Addr}
    {f_End_init : Addr} {od_End_init an_End_init : Option Addr} {sl_End_init : Array (Option Value)} {oc_End_init kV_End_init dc_End_init pm_End_init cd_End_init ct_End_init : Value}
    {f_End_put : Addr} {od_End_put an_End_put : Option Addr} {sl_End_put : Array (Option Value)} {oc_End_put kV_End_put dc_End_put pm_End_put cd_End_put ct_End_put : Value}
    {f_End_frames : Addr} {od_End_frames an_End_frames : Option Addr} {sl_End_frames : Array (Option Value)} {oc_End_frames kV_End_frames dc_End_frames pm_End_frames cd_End_frames ct_End_frames : Value}
    {f_End_hear : Addr} {od_End_hear an_End_hear : Option Addr} {sl_End_hear : Array (Option Value)} {oc_End_hear kV_End_hear dc_End_hear pm_End_hear cd_End_hear ct_End_hear : Value}
    {CP : Addr}
    {f_Pace_init : Addr} {od_Pace_init an_Pace_init : Option Addr} {sl_Pace_init : Array (Option Value)} {oc_Pace_init kV_Pace_init dc_Pace_init pm_Pace_init cd_Pace_init ct_Pace_init : Value}
    {f_Pace_put : Addr} {od_Pace_put an_Pace_put : Option Addr} {sl_Pace_put : Array (Option Value)} {oc_Pace_put kV_Pace_put dc_Pace_put pm_Pace_put cd_Pace_put ct_Pace_put : Value}
    {f_Pace_tick : Addr} {od_Pace_tick an_Pace_tick : Option Addr} {sl_Pace_tick : Array (Option Value)} {oc_Pace_tick kV_Pace_tick dc_Pace_tick pm_Pace_tick cd_Pace_tick ct_Pace_tick : Value}
    {f_Pace_send : Addr} {od_Pace_send an_Pace_send : Option Addr} {sl_Pace_send : Array (Option Value)} {oc_Pace_send kV_Pace_send dc_Pace_send pm_Pace_send cd_Pace_send ct_Pace_send : Value}
    {f_Pace_hear_frames : Addr} {od_Pace_hear_frames an_Pace_hear_frames : Option Addr} {sl_Pace_hear_frames : Array (Option Value)} {oc_Pace_hear_frames kV_Pace_hear_frames dc_Pace_hear_frames pm_Pace_hear_frames cd_Pace_hear_frames ct_Pace_hear_frames : Value}
    {f_Pace_is_done : Addr} {od_Pace_is_done an_Pace_is_done : Option Addr} {sl_Pace_is_done : Array (Option Value)} {oc_Pace_is_done kV_Pace_is_done dc_Pace_is_done pm_Pace_is_done cd_Pace_is_done ct_Pace_is_done : Value}
    {CB : Addr}
    {f_BadName_init : Addr} {od_BadName_init an_BadName_init : Option Addr} {sl_BadName_init : Array (Option Value)} {oc_BadName_init kV_BadName_init dc_BadName_init pm_BadName_init cd_BadName_init ct_BadName_init : Value}
    {f_is_number : Addr} {od_is_number an_is_number : Option Addr} {sl_is_number : Array (Option Value)} {oc_is_number kV_is_number dc_is_number pm_is_number cd_is_number ct_is_number : Value}
    {f_slowest : Addr} {od_slowest an_slowest : Option Addr} {sl_slowest : Array (Option Value)} {oc_slowest kV_slowest dc_slowest pm_slowest cd_slowest ct_slowest : Value}
    {f_law_number : Addr} {od_law_number an_law_number : Option Addr} {sl_law_number : Array (Option Value)} {oc_law_number kV_law_number dc_law_number pm_law_number cd_law_number ct_law_number : Value}
    {f_law_take : Addr} {od_law_take an_law_take : Option Addr} {sl_law_take : Array (Option Value)} {oc_law_take kV_law_take dc_law_take pm_law_take cd_law_take ct_law_take : Value}
    {f_law_refused : Addr} {od_law_refused an_law_refused : Option Addr} {sl_law_refused : Array (Option Value)} {oc_law_refused kV_law_refused dc_law_refused pm_law_refused cd_law_refused ct_law_refused : Value}
    {f_law_slow : Addr} {od_law_slow an_law_slow : Option Addr} {sl_law_slow : Array (Option Value)} {oc_law_slow kV_law_slow dc_law_slow pm_law_slow cd_law_slow ct_law_slow : Value}
    {f_law_late : Addr} {od_law_late an_law_late : Option Addr} {sl_law_late : Array (Option Value)} {oc_law_late kV_law_late dc_law_late pm_law_late cd_law_late ct_law_late : Value}
    {f_law : Addr} {od_law an_law : Option Addr} {sl_law : Array (Option Value)} {oc_law kV_law dc_law pm_law cd_law ct_law : Value}
    {t_WINDOW : Tok}
    {t_LONGEST : Tok}
    {t_EPOCH : Tok}
    (a_End : PySem.W.nsIn K mainGlobals "End" = some (some (.ref CE)))
    (a_End_init : PySem.W.findIn K (.ref CE) "__init__" = some (some (.ref f_End_init)))
    (i_End_init : PySem.W.isFn K (.ref f_End_init) = true)
    (l_End_init : K.lookup f_End_init = some ⟨oc_End_init, od_End_init, .func (PySem.W.fnOf "__init__" "End.__init__" (defArgs sEInit) (defBody sEInit) (defScope sEInit) .none kV_End_init dc_End_init pm_End_init an_End_init cd_End_init ct_End_init), sl_End_init⟩)
    (c_End_init : PySem.W.codeIn K cd_End_init "End.__init__" = true)
    (k_End_init : PySem.W.keepIn K (.ref f_End_init) = true)
    (a_End_put : PySem.W.findIn K (.ref CE) "put" = some (some (.ref f_End_put)))
    (i_End_put : PySem.W.isFn K (.ref f_End_put) = true)
    (l_End_put : K.lookup f_End_put = some ⟨oc_End_put, od_End_put, .func (PySem.W.fnOf "put" "End.put" (defArgs sEPut) (defBody sEPut) (defScope sEPut) .none kV_End_put dc_End_put pm_End_put an_End_put cd_End_put ct_End_put), sl_End_put⟩)
    (c_End_put : PySem.W.codeIn K cd_End_put "End.put" = true)
    (k_End_put : PySem.W.keepIn K (.ref f_End_put) = true)
    (a_End_frames : PySem.W.findIn K (.ref CE) "frames" = some (some (.ref f_End_frames)))
    (i_End_frames : PySem.W.isFn K (.ref f_End_frames) = true)
    (l_End_frames : K.lookup f_End_frames = some ⟨oc_End_frames, od_End_frames, .func (PySem.W.fnOf "frames" "End.frames" (defArgs sEFrames) (defBody sEFrames) (defScope sEFrames) .none kV_End_frames dc_End_frames pm_End_frames an_End_frames cd_End_frames ct_End_frames), sl_End_frames⟩)
    (c_End_frames : PySem.W.codeIn K cd_End_frames "End.frames" = true)
    (k_End_frames : PySem.W.keepIn K (.ref f_End_frames) = true)
    (a_End_hear : PySem.W.findIn K (.ref CE) "hear" = some (some (.ref f_End_hear)))
    (i_End_hear : PySem.W.isFn K (.ref f_End_hear) = true)
    (l_End_hear : K.lookup f_End_hear = some ⟨oc_End_hear, od_End_hear, .func (PySem.W.fnOf "hear" "End.hear" (defArgs sEHear) (defBody sEHear) (defScope sEHear) .none kV_End_hear dc_End_hear pm_End_hear an_End_hear cd_End_hear ct_End_hear), sl_End_hear⟩)
    (c_End_hear : PySem.W.codeIn K cd_End_hear "End.hear" = true)
    (k_End_hear : PySem.W.keepIn K (.ref f_End_hear) = true)
    (pg_End : PySem.W.plainGet K CE PySem.Str.empty = true)
    (hd_End : PySem.W.hasDictIn K CE = true)
    (po_End : PySem.W.plainOver K CE = true)
    (sa_End : PySem.W.findIn K (.ref CE) "__setattr__" = some (some (.builtin "object.__setattr__")))
    (mk_End : PySem.W.makesIn K CE = true)
    (kc_End : PySem.W.keepIn K (.ref CE) = true)
    (na_End_out : PySem.W.findIn K (.ref CE) "out" = some none)
    (na_End_answered : PySem.W.findIn K (.ref CE) "answered" = some none)
    (na_End_told : PySem.W.findIn K (.ref CE) "told" = some none)
    (na_End_epoch : PySem.W.findIn K (.ref CE) "epoch" = some none)
    (a_Pace : PySem.W.nsIn K mainGlobals "Pace" = some (some (.ref CP)))
    (a_Pace_init : PySem.W.findIn K (.ref CP) "__init__" = some (some (.ref f_Pace_init)))
    (i_Pace_init : PySem.W.isFn K (.ref f_Pace_init) = true)
    (l_Pace_init : K.lookup f_Pace_init = some ⟨oc_Pace_init, od_Pace_init, .func (PySem.W.fnOf "__init__" "Pace.__init__" (defArgs sPInit) (defBody sPInit) (defScope sPInit) .none kV_Pace_init dc_Pace_init pm_Pace_init an_Pace_init cd_Pace_init ct_Pace_init), sl_Pace_init⟩)
    (c_Pace_init : PySem.W.codeIn K cd_Pace_init "Pace.__init__" = true)
    (k_Pace_init : PySem.W.keepIn K (.ref f_Pace_init) = true)
    (a_Pace_put : PySem.W.findIn K (.ref CP) "put" = some (some (.ref f_Pace_put)))
    (i_Pace_put : PySem.W.isFn K (.ref f_Pace_put) = true)
    (l_Pace_put : K.lookup f_Pace_put = some ⟨oc_Pace_put, od_Pace_put, .func (PySem.W.fnOf "put" "Pace.put" (defArgs sPPut) (defBody sPPut) (defScope sPPut) .none kV_Pace_put dc_Pace_put pm_Pace_put an_Pace_put cd_Pace_put ct_Pace_put), sl_Pace_put⟩)
    (c_Pace_put : PySem.W.codeIn K cd_Pace_put "Pace.put" = true)
    (k_Pace_put : PySem.W.keepIn K (.ref f_Pace_put) = true)
    (a_Pace_tick : PySem.W.findIn K (.ref CP) "tick" = some (some (.ref f_Pace_tick)))
    (i_Pace_tick : PySem.W.isFn K (.ref f_Pace_tick) = true)
    (l_Pace_tick : K.lookup f_Pace_tick = some ⟨oc_Pace_tick, od_Pace_tick, .func (PySem.W.fnOf "tick" "Pace.tick" (defArgs sPTick) (defBody sPTick) (defScope sPTick) .none kV_Pace_tick dc_Pace_tick pm_Pace_tick an_Pace_tick cd_Pace_tick ct_Pace_tick), sl_Pace_tick⟩)
    (c_Pace_tick : PySem.W.codeIn K cd_Pace_tick "Pace.tick" = true)
    (k_Pace_tick : PySem.W.keepIn K (.ref f_Pace_tick) = true)
    (a_Pace_send : PySem.W.findIn K (.ref CP) "send" = some (some (.ref f_Pace_send)))
    (i_Pace_send : PySem.W.isFn K (.ref f_Pace_send) = true)
    (l_Pace_send : K.lookup f_Pace_send = some ⟨oc_Pace_send, od_Pace_send, .func (PySem.W.fnOf "send" "Pace.send" (defArgs sPSend) (defBody sPSend) (defScope sPSend) .none kV_Pace_send dc_Pace_send pm_Pace_send an_Pace_send cd_Pace_send ct_Pace_send), sl_Pace_send⟩)
    (c_Pace_send : PySem.W.codeIn K cd_Pace_send "Pace.send" = true)
    (k_Pace_send : PySem.W.keepIn K (.ref f_Pace_send) = true)
    (a_Pace_hear_frames : PySem.W.findIn K (.ref CP) "hear_frames" = some (some (.ref f_Pace_hear_frames)))
    (i_Pace_hear_frames : PySem.W.isFn K (.ref f_Pace_hear_frames) = true)
    (l_Pace_hear_frames : K.lookup f_Pace_hear_frames = some ⟨oc_Pace_hear_frames, od_Pace_hear_frames, .func (PySem.W.fnOf "hear_frames" "Pace.hear_frames" (defArgs sPHear) (defBody sPHear) (defScope sPHear) .none kV_Pace_hear_frames dc_Pace_hear_frames pm_Pace_hear_frames an_Pace_hear_frames cd_Pace_hear_frames ct_Pace_hear_frames), sl_Pace_hear_frames⟩)
    (c_Pace_hear_frames : PySem.W.codeIn K cd_Pace_hear_frames "Pace.hear_frames" = true)
    (k_Pace_hear_frames : PySem.W.keepIn K (.ref f_Pace_hear_frames) = true)
    (a_Pace_is_done : PySem.W.findIn K (.ref CP) "is_done" = some (some (.ref f_Pace_is_done)))
    (i_Pace_is_done : PySem.W.isFn K (.ref f_Pace_is_done) = true)
    (l_Pace_is_done : K.lookup f_Pace_is_done = some ⟨oc_Pace_is_done, od_Pace_is_done, .func (PySem.W.fnOf "is_done" "Pace.is_done" (defArgs sPDone) (defBody sPDone) (defScope sPDone) .none kV_Pace_is_done dc_Pace_is_done pm_Pace_is_done an_Pace_is_done cd_Pace_is_done ct_Pace_is_done), sl_Pace_is_done⟩)
    (c_Pace_is_done : PySem.W.codeIn K cd_Pace_is_done "Pace.is_done" = true)
    (k_Pace_is_done : PySem.W.keepIn K (.ref f_Pace_is_done) = true)
    (pg_Pace : PySem.W.plainGet K CP PySem.Str.empty = true)
    (hd_Pace : PySem.W.hasDictIn K CP = true)
    (po_Pace : PySem.W.plainOver K CP = true)
    (sa_Pace : PySem.W.findIn K (.ref CP) "__setattr__" = some (some (.builtin "object.__setattr__")))
    (mk_Pace : PySem.W.makesIn K CP = true)
    (kc_Pace : PySem.W.keepIn K (.ref CP) = true)
    (na_Pace_delay : PySem.W.findIn K (.ref CP) "delay" = some none)
    (na_Pace_losses : PySem.W.findIn K (.ref CP) "losses" = some none)
    (na_Pace_ends : PySem.W.findIn K (.ref CP) "ends" = some none)
    (na_Pace_time : PySem.W.findIn K (.ref CP) "time" = some none)
    (na_Pace_row_of_losses : PySem.W.findIn K (.ref CP) "row_of_losses" = some none)
    (na_Pace_flying : PySem.W.findIn K (.ref CP) "flying" = some none)
    (a_BadName : PySem.W.nsIn K mainGlobals "BadName" = some (some (.ref CB)))
    (a_BadName_init : PySem.W.findIn K (.ref CB) "__init__" = some (some (.ref f_BadName_init)))
    (i_BadName_init : PySem.W.isFn K (.ref f_BadName_init) = true)
    (l_BadName_init : K.lookup f_BadName_init = some ⟨oc_BadName_init, od_BadName_init, .func (PySem.W.fnOf "__init__" "BadName.__init__" (defArgs sBadI) (defBody sBadI) (defScope sBadI) .none kV_BadName_init dc_BadName_init pm_BadName_init an_BadName_init cd_BadName_init ct_BadName_init), sl_BadName_init⟩)
    (c_BadName_init : PySem.W.codeIn K cd_BadName_init "BadName.__init__" = true)
    (k_BadName_init : PySem.W.keepIn K (.ref f_BadName_init) = true)
    (xi_BadName : PySem.W.excInitIn K CB exT "Exception.__new__" = true)
    (xo_BadName : PySem.W.excOver K CB exT = true)
    (hd_BadName : PySem.W.hasDictIn K CB = true)
    (sa_BadName : PySem.W.findIn K (.ref CB) "__setattr__" = some (some (.builtin "object.__setattr__")))
    (sb_BadName : PySem.W.subIn K (.ref CB) (.type "BaseException") = some true)
    (ty_BadName : PySem.W.typeIn K (.ref CB) = some (.type "type"))
    (kc_BadName : PySem.W.keepIn K (.ref CB) = true)
    (ga_BadName : PySem.W.findIn K (.ref CB) "__getattribute__" = some (some (.builtin "BaseException.__getattribute__")))
    (gg_BadName : PySem.W.findIn K (.ref CB) "__getattr__" = some none)
    (ic_BadName : PySem.W.isClsIn K CB = true)
    (ss_BadName : PySem.W.subIn K (.ref CB) (.ref CB) = some true)
    (na_BadName_name : PySem.W.findIn K (.ref CB) "name" = some none)
    (a_is_number : PySem.W.nsIn K mainGlobals "is_number" = some (some (.ref f_is_number)))
    (l_is_number : K.lookup f_is_number = some ⟨oc_is_number, od_is_number, .func (PySem.W.fnOf "is_number" "is_number" (defArgs sIsN) (defBody sIsN) (defScope sIsN) .none kV_is_number dc_is_number pm_is_number an_is_number cd_is_number ct_is_number), sl_is_number⟩)
    (c_is_number : PySem.W.codeIn K cd_is_number "is_number" = true)
    (k_is_number : PySem.W.keepIn K (.ref f_is_number) = true)
    (a_slowest : PySem.W.nsIn K mainGlobals "slowest" = some (some (.ref f_slowest)))
    (l_slowest : K.lookup f_slowest = some ⟨oc_slowest, od_slowest, .func (PySem.W.fnOf "slowest" "slowest" (defArgs sSlowest) (defBody sSlowest) (defScope sSlowest) .none kV_slowest dc_slowest pm_slowest an_slowest cd_slowest ct_slowest), sl_slowest⟩)
    (c_slowest : PySem.W.codeIn K cd_slowest "slowest" = true)
    (k_slowest : PySem.W.keepIn K (.ref f_slowest) = true)
    (a_law_number : PySem.W.nsIn K mainGlobals "_law_number" = some (some (.ref f_law_number)))
    (l_law_number : K.lookup f_law_number = some ⟨oc_law_number, od_law_number, .func (PySem.W.fnOf "_law_number" "_law_number" (defArgs sNum) (defBody sNum) (defScope sNum) .none kV_law_number dc_law_number pm_law_number an_law_number cd_law_number ct_law_number), sl_law_number⟩)
    (c_law_number : PySem.W.codeIn K cd_law_number "_law_number" = true)
    (k_law_number : PySem.W.keepIn K (.ref f_law_number) = true)
    (a_law_take : PySem.W.nsIn K mainGlobals "_law_take" = some (some (.ref f_law_take)))
    (l_law_take : K.lookup f_law_take = some ⟨oc_law_take, od_law_take, .func (PySem.W.fnOf "_law_take" "_law_take" (defArgs sTake) (defBody sTake) (defScope sTake) .none kV_law_take dc_law_take pm_law_take an_law_take cd_law_take ct_law_take), sl_law_take⟩)
    (c_law_take : PySem.W.codeIn K cd_law_take "_law_take" = true)
    (k_law_take : PySem.W.keepIn K (.ref f_law_take) = true)
    (a_law_refused : PySem.W.nsIn K mainGlobals "_law_refused" = some (some (.ref f_law_refused)))
    (l_law_refused : K.lookup f_law_refused = some ⟨oc_law_refused, od_law_refused, .func (PySem.W.fnOf "_law_refused" "_law_refused" (defArgs sRefused) (defBody sRefused) (defScope sRefused) .none kV_law_refused dc_law_refused pm_law_refused an_law_refused cd_law_refused ct_law_refused), sl_law_refused⟩)
    (c_law_refused : PySem.W.codeIn K cd_law_refused "_law_refused" = true)
    (k_law_refused : PySem.W.keepIn K (.ref f_law_refused) = true)
    (a_law_slow : PySem.W.nsIn K mainGlobals "_law_slow" = some (some (.ref f_law_slow)))
    (l_law_slow : K.lookup f_law_slow = some ⟨oc_law_slow, od_law_slow, .func (PySem.W.fnOf "_law_slow" "_law_slow" (defArgs sSlow) (defBody sSlow) (defScope sSlow) .none kV_law_slow dc_law_slow pm_law_slow an_law_slow cd_law_slow ct_law_slow), sl_law_slow⟩)
    (c_law_slow : PySem.W.codeIn K cd_law_slow "_law_slow" = true)
    (k_law_slow : PySem.W.keepIn K (.ref f_law_slow) = true)
    (a_law_late : PySem.W.nsIn K mainGlobals "_law_late" = some (some (.ref f_law_late)))
    (l_law_late : K.lookup f_law_late = some ⟨oc_law_late, od_law_late, .func (PySem.W.fnOf "_law_late" "_law_late" (defArgs sLate) (defBody sLate) (defScope sLate) .none kV_law_late dc_law_late pm_law_late an_law_late cd_law_late ct_law_late), sl_law_late⟩)
    (c_law_late : PySem.W.codeIn K cd_law_late "_law_late" = true)
    (k_law_late : PySem.W.keepIn K (.ref f_law_late) = true)
    (a_law : PySem.W.nsIn K mainGlobals "law" = some (some (.ref f_law)))
    (l_law : K.lookup f_law = some ⟨oc_law, od_law, .func (PySem.W.fnOf "law" "law" (defArgs s_law) (defBody s_law) (defScope s_law) .none kV_law dc_law pm_law an_law cd_law ct_law), sl_law⟩)
    (c_law : PySem.W.codeIn K cd_law "law" = true)
    (k_law : PySem.W.keepIn K (.ref f_law) = true)
    (a_WINDOW : PySem.W.nsIn K mainGlobals "WINDOW" = some (some (.int 3 t_WINDOW)))
    (a_LONGEST : PySem.W.nsIn K mainGlobals "LONGEST" = some (some (.int 1000 t_LONGEST)))
    (a_EPOCH : PySem.W.nsIn K mainGlobals "EPOCH" = some (some (.int 1 t_EPOCH)))
    (z_len : PySem.W.nsIn K mainGlobals "len" = some none)
    (z_int : PySem.W.nsIn K mainGlobals "int" = some none)
    (z_abs : PySem.W.nsIn K mainGlobals "abs" = some none)
    (z_min : PySem.W.nsIn K mainGlobals "min" = some none)
    (z_max : PySem.W.nsIn K mainGlobals "max" = some none)
    (z_tuple : PySem.W.nsIn K mainGlobals "tuple" = some none)
    (z_range : PySem.W.nsIn K mainGlobals "range" = some none)
    (z_isinstance : PySem.W.nsIn K mainGlobals "isinstance" = some none)
    (z_bool : PySem.W.nsIn K mainGlobals "bool" = some none)
    (z_enumerate : PySem.W.nsIn K mainGlobals "enumerate" = some none)
    (z_all : PySem.W.nsIn K mainGlobals "all" = some none) :
    ∃ fd : FuncData, (∀ (s : Shared) (v : Value), BindsTo s fd ⟨[v], []⟩ [("script", v)]) ∧ ∀ base : Heap, K.In base → base.Ns mainGlobals mg → FnOk l.prog w K mg base CX0 7 fa fd ["script"] (spLaw K) := by
  have e := hfa.symm.trans (PySem.W.mg_of X G a_law)
  cases e
  have F_End_init := fun_mk (st := sEInit) l_End_init c_End_init k_End_init
  have b_End_init := F_End_init.binds (ps := ["self"]) fun _ _ _ _ _ _ us hl => match us, hl with | [_], _ => rfl
  have F_End_put := fun_mk (st := sEPut) l_End_put c_End_put k_End_put
  have b_End_put := F_End_put.binds (ps := ["self", "word"]) fun _ _ _ _ _ _ us hl => match us, hl with | [_, _], _ => rfl
  have M_End_put : Meth K CE "put" f_End_put := ⟨a_End_put, i_End_put, k_End_put⟩
  have F_End_frames := fun_mk (st := sEFrames) l_End_frames c_End_frames k_End_frames
  have b_End_frames := F_End_frames.binds (ps := ["self"]) fun _ _ _ _ _ _ us hl => match us, hl with | [_], _ => rfl
  have M_End_frames : Meth K CE "frames" f_End_frames := ⟨a_End_frames, i_End_frames, k_End_frames⟩
  have F_End_hear := fun_mk (st := sEHear) l_End_hear c_End_hear k_End_hear
  have b_End_hear := F_End_hear.binds (ps := ["self", "epoch", "frame"]) fun _ _ _ _ _ _ us hl => match us, hl with | [_, _, _], _ => rfl
  have M_End_hear : Meth K CE "hear" f_End_hear := ⟨a_End_hear, i_End_hear, k_End_hear⟩
  have cls_End : Cls K CE := ⟨pg_End, hd_End, po_End, sa_End⟩
  have g_End := PySem.W.mg_of X G a_End
  have Mk_End : Mk K CE f_End_init := ⟨mk_End, a_End_init, i_End_init, kc_End⟩
  have F_Pace_init := fun_mk (st := sPInit) l_Pace_init c_Pace_init k_Pace_init
  have b_Pace_init := F_Pace_init.binds (ps := ["self", "delay", "losses"]) fun _ _ _ _ _ _ us hl => match us, hl with | [_, _, _], _ => rfl
  have F_Pace_put := fun_mk (st := sPPut) l_Pace_put c_Pace_put k_Pace_put
  have b_Pace_put := F_Pace_put.binds (ps := ["self", "at", "word"]) fun _ _ _ _ _ _ us hl => match us, hl with | [_, _, _], _ => rfl
  have M_Pace_put : Meth K CP "put" f_Pace_put := ⟨a_Pace_put, i_Pace_put, k_Pace_put⟩
  have F_Pace_tick := fun_mk (st := sPTick) l_Pace_tick c_Pace_tick k_Pace_tick
  have b_Pace_tick := F_Pace_tick.binds (ps := ["self", "wishes"]) fun _ _ _ _ _ _ us hl => match us, hl with | [_, _], _ => rfl
  have M_Pace_tick : Meth K CP "tick" f_Pace_tick := ⟨a_Pace_tick, i_Pace_tick, k_Pace_tick⟩
  have F_Pace_send := fun_mk (st := sPSend) l_Pace_send c_Pace_send k_Pace_send
  have b_Pace_send := F_Pace_send.binds (ps := ["self", "at", "due"]) fun _ _ _ _ _ _ us hl => match us, hl with | [_, _, _], _ => rfl
  have M_Pace_send : Meth K CP "send" f_Pace_send := ⟨a_Pace_send, i_Pace_send, k_Pace_send⟩
  have F_Pace_hear_frames := fun_mk (st := sPHear) l_Pace_hear_frames c_Pace_hear_frames k_Pace_hear_frames
  have b_Pace_hear_frames := F_Pace_hear_frames.binds (ps := ["self"]) fun _ _ _ _ _ _ us hl => match us, hl with | [_], _ => rfl
  have M_Pace_hear_frames : Meth K CP "hear_frames" f_Pace_hear_frames := ⟨a_Pace_hear_frames, i_Pace_hear_frames, k_Pace_hear_frames⟩
  have F_Pace_is_done := fun_mk (st := sPDone) l_Pace_is_done c_Pace_is_done k_Pace_is_done
  have b_Pace_is_done := F_Pace_is_done.binds (ps := ["self"]) fun _ _ _ _ _ _ us hl => match us, hl with | [_], _ => rfl
  have M_Pace_is_done : Meth K CP "is_done" f_Pace_is_done := ⟨a_Pace_is_done, i_Pace_is_done, k_Pace_is_done⟩
  have cls_Pace : Cls K CP := ⟨pg_Pace, hd_Pace, po_Pace, sa_Pace⟩
  have g_Pace := PySem.W.mg_of X G a_Pace
  have Mk_Pace : Mk K CP f_Pace_init := ⟨mk_Pace, a_Pace_init, i_Pace_init, kc_Pace⟩
  have F_BadName_init := fun_mk (st := sBadI) l_BadName_init c_BadName_init k_BadName_init
  have b_BadName_init := F_BadName_init.binds (ps := ["self", "name"]) fun _ _ _ _ _ _ us hl => match us, hl with | [_, _], _ => rfl
  have g_BadName := PySem.W.mg_of X G a_BadName
  have O_BadName : OexB K CB := ⟨xi_BadName, xo_BadName, hd_BadName, sa_BadName, sb_BadName, ty_BadName, kc_BadName⟩
  have xf_BadName : XfC K CB := ⟨ga_BadName, gg_BadName, sb_BadName, hd_BadName⟩
  have te_BadName := exm_self sb_BadName ic_BadName ty_BadName ss_BadName
  have F_is_number := fun_mk (st := sIsN) l_is_number c_is_number k_is_number
  have b_is_number := F_is_number.binds (ps := ["thing", "low", "high"]) fun _ _ _ _ _ _ us hl => match us, hl with | [_, _, _], _ => rfl
  have g_is_number := PySem.W.mg_of X G a_is_number
  have F_slowest := fun_mk (st := sSlowest) l_slowest c_slowest k_slowest
  have b_slowest := F_slowest.binds (ps := ["words", "delay", "losses"]) fun _ _ _ _ _ _ us hl => match us, hl with | [_, _, _], _ => rfl
  have g_slowest := PySem.W.mg_of X G a_slowest
  have F_law_number := fun_mk (st := sNum) l_law_number c_law_number k_law_number
  have b_law_number := F_law_number.binds (ps := ["script", "index"]) fun _ _ _ _ _ _ us hl => match us, hl with | [_, _], _ => rfl
  have g_law_number := PySem.W.mg_of X G a_law_number
  have F_law_take := fun_mk (st := sTake) l_law_take c_law_take k_law_take
  have b_law_take := F_law_take.binds (ps := ["draw", "many"]) fun _ _ _ _ _ _ us hl => match us, hl with | [_, _], _ => rfl
  have g_law_take := PySem.W.mg_of X G a_law_take
  have F_law_refused := fun_mk (st := sRefused) l_law_refused c_law_refused k_law_refused
  have b_law_refused := F_law_refused.binds (ps := ["delay", "losses"]) fun _ _ _ _ _ _ us hl => match us, hl with | [_, _], _ => rfl
  have g_law_refused := PySem.W.mg_of X G a_law_refused
  have F_law_slow := fun_mk (st := sSlow) l_law_slow c_law_slow k_law_slow
  have b_law_slow := F_law_slow.binds (ps := []) fun _ _ _ _ _ _ us hl => match us, hl with | [], _ => rfl
  have g_law_slow := PySem.W.mg_of X G a_law_slow
  have F_law_late := fun_mk (st := sLate) l_law_late c_law_late k_law_late
  have b_law_late := F_law_late.binds (ps := []) fun _ _ _ _ _ _ us hl => match us, hl with | [], _ => rfl
  have g_law_late := PySem.W.mg_of X G a_law_late
  have F_law := fun_mk (st := s_law) l_law c_law k_law
  have g_WINDOW := PySem.W.mg_of X G a_WINDOW
  have g_LONGEST := PySem.W.mg_of X G a_LONGEST
  have g_EPOCH := PySem.W.mg_of X G a_EPOCH
  have n_len := PySem.W.mg_none_of X G z_len
  have n_int := PySem.W.mg_none_of X G z_int
  have n_abs := PySem.W.mg_none_of X G z_abs
  have n_min := PySem.W.mg_none_of X G z_min
  have n_max := PySem.W.mg_none_of X G z_max
  have n_tuple := PySem.W.mg_none_of X G z_tuple
  have n_range := PySem.W.mg_none_of X G z_range
  have n_isinstance := PySem.W.mg_none_of X G z_isinstance
  have n_bool := PySem.W.mg_none_of X G z_bool
  have n_enumerate := PySem.W.mg_none_of X G z_enumerate
  have n_all := PySem.W.mg_none_of X G z_all
  refine ⟨PySem.W.fnOf "law" "law" (defArgs s_law) (defBody s_law) (defScope s_law) .none kV_law dc_law pm_law an_law cd_law ct_law, fun s v => .of_eq rfl, fun base _ _ => ?_⟩
  have TD : TxD K mg f_law_number f_law_take := ⟨n_len, n_int, n_abs, g_law_number, g_law_take⟩
  have TE : TxE K mg CE := ⟨cls_End, na_End_out, na_End_answered, na_End_told, na_End_epoch, g_End, ⟨_, g_WINDOW⟩, n_len, n_min, n_tuple, n_range⟩
  have TB : TxB K mg CB := ⟨O_BadName, g_BadName⟩
  have TP : TxP K mg CP CE CB := ⟨TE, cls_Pace, na_Pace_delay, na_Pace_losses, na_Pace_ends, na_Pace_time, na_Pace_row_of_losses, na_Pace_flying, g_Pace, ⟨_, g_LONGEST⟩, ⟨_, g_EPOCH⟩, n_enumerate, n_all, TB⟩
  have TV : TxV K mg CP CE CB := ⟨TP, xf_BadName, na_BadName_name, te_BadName⟩
  have c_num : Cal l.prog w K mg base 1 "is_number" ["thing", "low", "high"] spIsN := ⟨_, _, g_is_number, F_is_number.kp, b_is_number, ok_isn F_is_number ⟨n_isinstance, n_int, n_bool⟩⟩
  have cB : CalB l.prog w K mg base CB "name" := ⟨_, _, a_BadName_init, i_BadName_init, b_BadName_init, ok_badI F_BadName_init O_BadName na_BadName_name scBadI fun _ _ _ _ _ _ _ => pss_one (ps_ostB (pv 0) (pv 1))⟩
  have c_End : ∀ g, CalI l.prog w K mg base CE 1 "End" ["self"] (spEInit g CE) := fun g => ⟨_, _, g_End, Mk_End, b_End_init, ok_einit F_End_init TE⟩
  have c_eput : ∀ g, CalM l.prog w K mg base CE 1 "put" ["self", "word"] (spEPut g CE) := fun g => ⟨_, _, M_End_put, b_End_put, ok_eput F_End_put TE⟩
  have c_efr : ∀ g, CalM l.prog w K mg base CE 1 "frames" ["self"] (spEFrames g CE) := fun g => ⟨_, _, M_End_frames, b_End_frames, ok_eframes F_End_frames TE⟩
  have c_ehr : ∀ g, CalM l.prog w K mg base CE 1 "hear" ["self", "epoch", "frame"] (spEHear g CE) := fun g => ⟨_, _, M_End_hear, b_End_hear, ok_ehear F_End_hear TE⟩
  have c_send : ∀ g, CalM l.prog w K mg base CP 2 "send" ["self", "at", "due"] (spPSend g CP CE) := fun g => ⟨_, _, M_Pace_send, b_Pace_send, ok_psend F_Pace_send TP (c_efr g)⟩
  have c_hear : ∀ g, CalM l.prog w K mg base CP 2 "hear_frames" ["self"] (spPHear g CP CE) := fun g => ⟨_, _, M_Pace_hear_frames, b_Pace_hear_frames, ok_phear F_Pace_hear_frames TP (c_ehr g)⟩
  have c_Pace : ∀ g, CalIX l.prog w K mg base CP 4 "Pace" ["self", "delay", "losses"] (spPInit g CP CE CB) := fun g => ⟨_, _, g_Pace, Mk_Pace, b_Pace_init, ok_pinit F_Pace_init TP c_num cB (c_End g)⟩
  have c_put : ∀ g, CalM l.prog w K mg base CP 2 "put" ["self", "at", "word"] (spPPut g CP CE) := fun g => ⟨_, _, M_Pace_put, b_Pace_put, ok_pput F_Pace_put TP (c_eput g)⟩
  have c_tick : ∀ g, CalMX l.prog w K mg base CP 4 "tick" ["self", "wishes"] (spPTick g CP CE CB) := fun g => ⟨_, _, M_Pace_tick, b_Pace_tick, ok_ptick F_Pace_tick TP c_num cB (c_send g) (c_hear g)⟩
  have c_done : ∀ g, CalM l.prog w K mg base CP 1 "is_done" ["self"] (spPDone g CP CE) := fun g => ⟨_, _, M_Pace_is_done, b_Pace_is_done, ok_pdone F_Pace_is_done TP⟩
  exact ok_law F_law ⟨TV, n_max, n_range⟩ ⟨_, _, g_law_take, F_law_take.kp, b_law_take, ok_take F_law_take TD F_law_number b_law_number⟩ c_Pace c_put c_tick c_done
    ⟨_, _, g_slowest, F_slowest.kp, b_slowest, ok_slowest F_slowest TE⟩ ⟨_, _, g_law_slow, F_law_slow.kp, b_law_slow, ok_slow F_law_slow TV c_Pace c_put c_tick c_done⟩ ⟨_, _, g_law_late, F_law_late.kp, b_law_late, ok_late F_law_late TV c_Pace c_put c_tick⟩
    ⟨_, _, g_law_refused, F_law_refused.kp, b_law_refused, ok_refused F_law_refused TV c_Pace⟩
theorem walk {l : PySem.W.OpenLaw} {q : Program} {loose : List PySem.Str} {XP : (PySem.Str → Option Value) → Heap → Prop} {YP : World → Heap → Prop} {d : DefRec} {K : Params → PySem.W.Frag} (hn : l.most = some 63) (hdf : d.params.defaults = [])
    (hY : ∀ (w : World) (h : Heap), YP w h → (K w.params).In h)
    (F : ∀ (w : World) (mg : PySem.Str → Option Value) (fa : Addr) (h : Heap), (K w.params).In h → h.Ns mainGlobals mg → mg d.name = some (.ref fa) →
      ∃ fd : FuncData, (∀ (s : Shared) (u : Value), BindsTo s fd ⟨[u], []⟩ [("script", u)]) ∧ ∀ base : Heap, (K w.params).In base → base.Ns mainGlobals mg → FnOk l.prog w (K w.params) mg base CX0 7 fa fd ["script"] (spLaw (K w.params))) :
    PySem.W.WalkO q loose XP YP l.row.toRowW d [] (fun f vs => PySem.call f vs) :=
  L2.walk_of (n := 63) (k := 7) (x := "script") (CX := fun _ => CX0) (sp := fun w => spLaw (K w.params)) hn (by decide) hdf ⟨rfl, by decide, by decide⟩ hY F (fun _ _ a ns hl _ hS => ⟨a, ns, rfl, hS, hl, fun _ => rfl⟩) fun _ _ _ _ _ z => z
end Mc
open PySem PySem.W PyProof.Rows
set_option maxRecDepth 100000 in
set_option maxHeartbeats 0 in
theorem PySem.Challenge.cw_mastcalls_k44_whole_pacing_holds : PySem.Challenge.rw_mastcalls_k44_whole_pacing.Holds := by
  w_on; o_law; k_head; (case hw => w_witness2)
  k_fill
  refine Mc.walk (l := PySem.Challenge.rw_mastcalls_k44_whole_pacing) rfl rfl (fun w h Y => PySem.W.kIn_of Y) ?F
  case F =>
    intro w mg fa h KX G hmg
    refine' Mc.all_mk KX G hmg ?a_End ?a_End_init ?i_End_init ?l_End_init ?c_End_init ?k_End_init ?a_End_put ?i_End_put ?l_End_put ?c_End_put ?k_End_put ?a_End_frames ?i_End_frames ?l_End_frames ?c_End_frames ?k_End_frames ?a_End_hear ?i_End_hear ?l_End_hear ?c_End_hear ?k_End_hear ?pg_End ?hd_End ?po_End ?sa_End ?mk_End ?kc_End ?na_End_out ?na_End_answered ?na_End_told ?na_End_epoch ?a_Pace ?a_Pace_init ?i_Pace_init ?l_Pace_init ?c_Pace_init ?k_Pace_init ?a_Pace_put ?i_Pace_put ?l_Pace_put ?c_Pace_put ?k_Pace_put ?a_Pace_tick ?i_Pace_tick ?l_Pace_tick ?c_Pace_tick ?k_Pace_tick ?a_Pace_send ?i_Pace_send ?l_Pace_send ?c_Pace_send ?k_Pace_send ?a_Pace_hear_frames ?i_Pace_hear_frames ?l_Pace_hear_frames ?c_Pace_hear_frames ?k_Pace_hear_frames ?a_Pace_is_done ?i_Pace_is_done ?l_Pace_is_done ?c_Pace_is_done ?k_Pace_is_done ?pg_Pace ?hd_Pace ?po_Pace ?sa_Pace ?mk_Pace ?kc_Pace ?na_Pace_delay ?na_Pace_losses ?na_Pace_ends ?na_Pace_time ?na_Pace_row_of_losses ?na_Pace_flying ?a_BadName ?a_BadName_init ?i_BadName_init ?l_BadName_init ?c_BadName_init ?k_BadName_init ?xi_BadName ?xo_BadName ?hd_BadName ?sa_BadName ?sb_BadName ?ty_BadName ?kc_BadName ?ga_BadName ?gg_BadName ?ic_BadName ?ss_BadName ?na_BadName_name ?a_is_number ?l_is_number ?c_is_number ?k_is_number ?a_slowest ?l_slowest ?c_slowest ?k_slowest ?a_law_number ?l_law_number ?c_law_number ?k_law_number ?a_law_take ?l_law_take ?c_law_take ?k_law_take ?a_law_refused ?l_law_refused ?c_law_refused ?k_law_refused ?a_law_slow ?l_law_slow ?c_law_slow ?k_law_slow ?a_law_late ?l_law_late ?c_law_late ?k_law_late ?a_law ?l_law ?c_law ?k_law ?a_WINDOW ?a_LONGEST ?a_EPOCH ?z_len ?z_int ?z_abs ?z_min ?z_max ?z_tuple ?z_range ?z_isinstance ?z_bool ?z_enumerate ?z_all
    (case a_End => k_is)
    (case a_End_init => k_is)
    (case i_End_init => k_is)
    (case l_End_init => k_is)
    (case c_End_init => k_is)
    (case k_End_init => k_is)
    (case a_End_put => k_is)
    (case i_End_put => k_is)
    (case l_End_put => k_is)
    (case c_End_put => k_is)
    (case k_End_put => k_is)
    (case a_End_frames => k_is)
    (case i_End_frames => k_is)
    (case l_End_frames => k_is)
    (case c_End_frames => k_is)
    (case k_End_frames => k_is)
    (case a_End_hear => k_is)
    (case i_End_hear => k_is)
    (case l_End_hear => k_is)
    (case c_End_hear => k_is)
    (case k_End_hear => k_is)
    (case pg_End => k_is)
    (case hd_End => k_is)
    (case po_End => k_is)
    (case sa_End => k_is)
    (case mk_End => k_is)
    (case kc_End => k_is)
    (case na_End_out => k_is)
    (case na_End_answered => k_is)
    (case na_End_told => k_is)
    (case na_End_epoch => k_is)
    (case a_Pace => k_is)
    (case a_Pace_init => k_is)
    (case i_Pace_init => k_is)
    (case l_Pace_init => k_is)
    (case c_Pace_init => k_is)
    (case k_Pace_init => k_is)
    (case a_Pace_put => k_is)
    (case i_Pace_put => k_is)
    (case l_Pace_put => k_is)
    (case c_Pace_put => k_is)
    (case k_Pace_put => k_is)
    (case a_Pace_tick => k_is)
    (case i_Pace_tick => k_is)
    (case l_Pace_tick => k_is)
    (case c_Pace_tick => k_is)
    (case k_Pace_tick => k_is)
    (case a_Pace_send => k_is)
    (case i_Pace_send => k_is)
    (case l_Pace_send => k_is)
    (case c_Pace_send => k_is)
    (case k_Pace_send => k_is)
    (case a_Pace_hear_frames => k_is)
    (case i_Pace_hear_frames => k_is)
    (case l_Pace_hear_frames => k_is)
    (case c_Pace_hear_frames => k_is)
    (case k_Pace_hear_frames => k_is)
    (case a_Pace_is_done => k_is)
    (case i_Pace_is_done => k_is)
    (case l_Pace_is_done => k_is)
    (case c_Pace_is_done => k_is)
    (case k_Pace_is_done => k_is)
    (case pg_Pace => k_is)
    (case hd_Pace => k_is)
    (case po_Pace => k_is)
    (case sa_Pace => k_is)
    (case mk_Pace => k_is)
    (case kc_Pace => k_is)
    (case na_Pace_delay => k_is)
    (case na_Pace_losses => k_is)
    (case na_Pace_ends => k_is)
    (case na_Pace_time => k_is)
    (case na_Pace_row_of_losses => k_is)
    (case na_Pace_flying => k_is)
    (case a_BadName => k_is)
    (case a_BadName_init => k_is)
    (case i_BadName_init => k_is)
    (case l_BadName_init => k_is)
    (case c_BadName_init => k_is)
    (case k_BadName_init => k_is)
    (case xi_BadName => first | k_is | rfl | decide +kernel)
    (case xo_BadName => first | k_is | rfl | decide +kernel)
    (case hd_BadName => k_is)
    (case sa_BadName => k_is)
    (case sb_BadName => k_is)
    (case ty_BadName => k_is)
    (case kc_BadName => k_is)
    (case ga_BadName => k_is)
    (case gg_BadName => k_is)
    (case ic_BadName => k_is)
    (case ss_BadName => first | rfl | k_is)
    (case na_BadName_name => k_is)
    (case a_is_number => k_is)
    (case l_is_number => k_is)
    (case c_is_number => k_is)
    (case k_is_number => k_is)
    (case a_slowest => k_is)
    (case l_slowest => k_is)
    (case c_slowest => k_is)
    (case k_slowest => k_is)
    (case a_law_number => k_is)
    (case l_law_number => k_is)
    (case c_law_number => k_is)
    (case k_law_number => k_is)
    (case a_law_take => k_is)
    (case l_law_take => k_is)
    (case c_law_take => k_is)
    (case k_law_take => k_is)
    (case a_law_refused => k_is)
    (case l_law_refused => k_is)
    (case c_law_refused => k_is)
    (case k_law_refused => k_is)
    (case a_law_slow => k_is)
    (case l_law_slow => k_is)
    (case c_law_slow => k_is)
    (case k_law_slow => k_is)
    (case a_law_late => k_is)
    (case l_law_late => k_is)
    (case c_law_late => k_is)
    (case k_law_late => k_is)
    (case a_law => k_is)
    (case l_law => k_is)
    (case c_law => k_is)
    (case k_law => k_is)
    (case a_WINDOW => k_is)
    (case a_LONGEST => k_is)
    (case a_EPOCH => k_is)
    (case z_len => k_is)
    (case z_int => k_is)
    (case z_abs => k_is)
    (case z_min => k_is)
    (case z_max => k_is)
    (case z_tuple => k_is)
    (case z_range => k_is)
    (case z_isinstance => k_is)
    (case z_bool => k_is)
    (case z_enumerate => k_is)
    (case z_all => k_is)
