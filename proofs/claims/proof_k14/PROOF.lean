import PyProof.Rows.All
import Wide.All
import OpenK.AllK
import Wide.FinOn
import HandS.ForMost
import HandS.Style
import HandS.Conv
import HandS.DictComp
import HandS.Evl
import PySem.Challenge.RW_mastcalls_k14_whole_ends
set_option Elab.async false
set_option maxRecDepth 100000
set_option maxHeartbeats 4000000
namespace Mc
open PySem L2 PySem.Spec PyProof.Rows
/-! rules that the layer lacks -/
theorem get_list {X : Cx} : PGet X (rIxL X.K) := by
  intro pins s σ H o i ov iv Q I ro ri h
  obtain ⟨p, xs, k, v, rfl, rfl, hs, hv, q⟩ := h
  cases ro
  obtain ⟨t, rfl⟩ := ri
  obtain ⟨its, r, pl, hz⟩ := I.list hs
  obtain ⟨j, h1, h2, h3, h4, h5⟩ := atI_get hv
  obtain ⟨w, ew, rw'⟩ := r.get h2
  have hl := r.length
  have hn := line63
  have fin : EP X pins σ Q w s := ⟨v, H, I, rw', q⟩
  by_cases h0 : 0 ≤ k
  · have hj : k.toNat = j := by
      rw [seqIndex_of h0 h5] at h1
      exact Option.some.inj h1
    exact wpAny_getItem_list pl.isList h0 (by omega) (by rw [hj]; simpa using ew) fin
  · have hj : (k + (its.toArray.size : Int)).toNat = j := by
      rw [seqIndex_neg (by omega) h4] at h1
      rw [List.size_toArray, ← hl]
      exact Option.some.inj h1
    exact wpAny_getItem_list_neg pl.isList (by omega) (by rw [List.size_toArray] <;> omega) (by omega) (by rw [hj]; simpa using ew) fin

/-! ### a heap that is kept but for some objects -/
def Kp (M : List Addr) (H H' : Hp) : Prop := ∀ b o, H b = some o → b ∉ M → H' b = some o
theorem Kp.refl (M : List Addr) (H : Hp) : Kp M H H := fun _ _ h _ => h
theorem Kp.trans {M : List Addr} {H H1 H2 : Hp} (a : Kp M H H1) (b : Kp M H1 H2) : Kp M H H2 := fun c o h n => b c o (a c o h n) n
theorem Kp.mono {M N : List Addr} {H H' : Hp} (k : Kp M H H') (h : ∀ b ∈ M, b ∈ N) : Kp N H H' := fun b o e n => k b o e fun z => n (h b z)
theorem Kp.new {M : List Addr} {p : Addr} {H : Hp} {o : HO} (h : H p = none) : Kp M H (upd H p o) := fun b u e _ => by
  rw [upd_ne (ne_of_none e h)]
  exact e
theorem Kp.at {M : List Addr} {d : Addr} {H : Hp} {o : HO} (h : d ∈ M) : Kp M H (upd H d o) := fun b u e n => by
  rw [upd_ne fun z => n (by rw [z]; exact h)]
  exact e
theorem Kp.same {M : List Addr} {H H' : Hp} (h : Same H H') : Kp M H H' := fun b o e _ => h b o e
/-- nothing tracked is lost -/
def Lv (H H' : Hp) : Prop := ∀ b, H' b = none → H b = none
theorem Kp.live {M : List Addr} {H H' : Hp} (k : Kp M H H') (h : ∀ d ∈ M, ∃ o, H' d = some o) {p : Addr} (e : H' p = none) : H p = none := by
  cases q : H p with
  | none => rfl
  | some u =>
    by_cases n : p ∈ M
    · obtain ⟨o, z⟩ := h p n
      rw [z] at e; cases e
    · rw [k p u q n] at e; cases e
/-- what was not there may be changed freely -/
theorem Kp.drop {M : List Addr} {p : Addr} {H H' : Hp} (k : Kp (p :: M) H H') (h : H p = none) : Kp M H H' := fun b o e n => k b o e fun z => by
  rcases List.mem_cons.mp z with rfl | z
  · rw [h] at e; cases e
  · exact n z

/-- the draw stands at d: the script, and how many were drawn; M: all that may be changed -/
structure Dr (K : PySem.W.Frag) (M : List Addr) (d a : Addr) (H : Hp) : Prop where
  at_ : ∃ k : Int, H d = some (.lst [.ref a, .int k])
  mem : d ∈ M
  sc : ∃ ns : List Int, ns.length ≤ 63 ∧ ∀ H', Kp M H H' → SqL K H' a (ns.map V.int)
section
variable {K : PySem.W.Frag} {M : List Addr} {d a : Addr} {H H' : Hp}
theorem Dr.keep (D : Dr K M d a H) (k : Kp M H H') (e : ∀ o, H d = some o → H' d = some o) : Dr K M d a H' := by
  obtain ⟨⟨k0, h⟩, m, ns, hl, hs⟩ := D
  exact ⟨⟨k0, e _ h⟩, m, ns, hl, fun H2 k2 => hs H2 (k.trans k2)⟩
theorem Dr.same (D : Dr K M d a H) (k : Same H H') : Dr K M d a H' := D.keep (Kp.same k) fun o h => k _ o h
theorem Dr.new {p : Addr} {o : HO} (D : Dr K M d a H) (h : H p = none) : Dr K M d a (upd H p o) := D.same fun b u e => by rw [upd_ne (ne_of_none e h)]; exact e
theorem Dr.next (D : Dr K M d a H) (k : Kp M H H') {j : Int} (h : H' d = some (.lst [.ref a, .int j])) : Dr K M d a H' := by
  obtain ⟨_, m, ns, hl, hs⟩ := D
  exact ⟨⟨j, h⟩, m, ns, hl, fun H2 k2 => hs H2 (k.trans k2)⟩
/-- one more object may be changed, that was not there -/
theorem Dr.grow {p : Addr} (D : Dr K M d a H) (h : H p = none) : Dr K (p :: M) d a H := by
  obtain ⟨k0, m, ns, hl, hs⟩ := D
  exact ⟨k0, List.mem_cons_of_mem _ m, ns, hl, fun H2 k2 => hs H2 (k2.drop h)⟩
/-- fewer may be changed -/
theorem Dr.sub {N : List Addr} (D : Dr K M d a H) (h : ∀ b ∈ N, b ∈ M) (hd : d ∈ N) : Dr K N d a H := by
  obtain ⟨k0, _, ns, hl, hs⟩ := D
  exact ⟨k0, hd, ns, hl, fun H2 k2 => hs H2 (k2.mono h)⟩
/-- a draw made of the script -/
theorem Dr.mk' {ns : List Int} {j : Int} (hs : SqL K H a (ns.map V.int)) (hl : ns.length ≤ 63) (hd : H d = none) : Dr K [d] d a (upd H d (.lst [.ref a, .int j])) := by
  refine ⟨⟨j, upd_same⟩, List.mem_singleton.mpr rfl, ns, hl, fun H' k => ?_⟩
  have ne : ∀ {o}, H a = some o → a ∉ [d] := fun h z => ne_of_none h hd (List.mem_singleton.mp z)
  rcases hs with (h | ⟨o, h⟩) | h
  · exact .inl (.inl (k a _ (by rw [upd_ne (ne_of_none h hd)]; exact h) (ne h)))
  · exact .inl (.inr ⟨o, k a _ (by rw [upd_ne (ne_of_none h hd)]; exact h) (ne h)⟩)
  · exact .inr h
end

theorem rel_int {i : Int} {t : Tok} : RelV (.int i) (.int i t) := ⟨t, rfl⟩
theorem rel_str {x : PySem.Str} {t : Tok} : RelV (.str x) (.str x t) := ⟨t, rfl⟩
/-! ### rules for a comprehension's block: K by its name -/
section
variable {X : Cx} {K : PySem.W.Frag} {e : Expr} {f : PySem.Str} {pos : Pos} {ta : TE}
theorem pe_fldK (h : X.K = K) (he : PE X e ta) (hb : attributeBase e f X.env (eval e X.env) = eval e X.env) : PE X (.Attribute e f pos) (tFld K ta f) := by
  subst h
  exact pe_fld he hb
theorem ix_listK (h : X.K = K) : IxR X (rIxL K) := by
  subst h
  exact ix_list
theorem ix_tupK (h : X.K = K) : IxR X (rIxT K) := by
  subst h
  exact ix_tup
theorem sl_listK (h : X.K = K) : SlR X (rSlL K) := by
  subst h
  exact sl_list
theorem call_len_seqK (h : X.K = K) : CallR X (.builtin "len") (fun xs H Q => ∃ p ys, xs = [.ref p] ∧ (SqL K H p ys ∨ SqT K H p ys) ∧ Q (.int ys.length) H) := by
  subst h
  exact call_len_seq
theorem op_eqDK (h : X.K = K) (hu : X.A.units + 64 < cLine) : OpR X (compareOp .Eq) (rEqD K) := by
  subst h
  exact op_eqD hu
theorem op_neDK (h : X.K = K) (hu : X.A.units + 64 < cLine) : OpR X (compareOp .NotEq) (rNeD K) := by
  subst h
  exact op_neD hu
theorem pe_tupleOfK (h : X.K = K) {a : Expr} {p pos : Pos} (hg : Gl X "tuple") (hm : X.mg "tuple" = none) (ha : PE X a ta) (na : starEach [a] X.env = (false, eval a X.env) :: starEach [] X.env := by rfl) :
    PE X (.Call (.Name "tuple" p) [a] [] pos) (tThen ta (kTup K)) := by
  subst h
  exact pe_tupleOf hg hm ha na
end
/-! ### defs, methods, classes: what a caller needs -/
/-- a def of the module keeps its promise -/
def Cal (P : Program) (w : World) (K : PySem.W.Frag) (mg : PySem.Str → Option Value) (base : Heap) (k : Nat) (x : PySem.Str) (ps : List PySem.Str) (sp : Sp) : Prop :=
  ∃ (f : Addr) (fd : FuncData), mg x = some (.ref f) ∧ PySem.W.keepIn K (.ref f) = true ∧ Binds K fd ps [] ∧ FnOk P w K mg base CX0 k f fd ps sp
/-- a method of the class at C -/
def CalM (P : Program) (w : World) (K : PySem.W.Frag) (mg : PySem.Str → Option Value) (base : Heap) (C : Addr) (k : Nat) (m : PySem.Str) (ps : List PySem.Str) (sp : Sp) : Prop :=
  ∃ (f : Addr) (fd : FuncData), Meth K C m f ∧ Binds K fd ps [] ∧ FnOk P w K mg base CX0 k f fd ps sp
/-- the class of that name, made by its __init__ -/
def CalI (P : Program) (w : World) (K : PySem.W.Frag) (mg : PySem.Str → Option Value) (base : Heap) (C : Addr) (k : Nat) (x : PySem.Str) (ps : List PySem.Str) (sp : Sp) : Prop :=
  ∃ (f : Addr) (fd : FuncData), mg x = some (.ref C) ∧ Mk K C f ∧ Binds K fd ps [] ∧ FnOk P w K mg base CX0 k f fd ps sp
section
variable {X : Cx} {k : Nat} {x m : PySem.Str} {ps : List PySem.Str} {sp : Sp} {C : Addr} {p pos apos : Pos} {e o : Expr} {es : List Expr} {t : TA} {ta : TE}
theorem pe_cal (c : Cal X.prog X.w X.K X.mg X.base k x ps sp) (hr : Room k X.A) (hg : Gl X x) (ha : PA X (e :: es) t) (hdb : (x == ("__debug__" : PySem.Str)) = false := by decide)
    (he : starEach (e :: es) X.env = (false, eval e X.env) :: starEach es X.env := by rfl) (hpl : (backTo pos (starEach es X.env)).any (·.1) = false := by rfl) : PE X (.Call (.Name x p) (e :: es) [] pos) (tCall sp [] E0 t) := by
  obtain ⟨f, fd, hm, hk, hb, F⟩ := c
  exact pe_call F hr hg hm hk hb .nil pass0 ha hdb he hpl
theorem pe_cal0 (c : Cal X.prog X.w X.K X.mg X.base k x ps sp) (hr : Room k X.A) (hg : Gl X x) (hdb : (x == ("__debug__" : PySem.Str)) = false := by decide) : PE X (.Call (.Name x p) [] [] pos) (tCall sp [] E0 tNil) := by
  obtain ⟨f, fd, hm, hk, hb, F⟩ := c
  exact pe_call0 F hr hg hm hk hb .nil pass0 hdb
theorem pe_calM {pl : Sem Bool} (he : PE X o ta) (cl : Cls X.K C) (c : CalM X.prog X.w X.K X.mg X.base C k m ps sp) (hr : Room k X.A) (ha : PA X (e :: es) t)
    (hst : starEach (e :: es) X.env = (false, eval e X.env) :: starEach es X.env := by rfl) (hpl : (backTo pos (starEach es X.env)).any (·.1) = false := by rfl)
    (ht : eval (.Call (.Attribute o m apos) (e :: es) [] pos) X.env = (do
      let ov ← eval o X.env
      standAt apos.atName
      let (f, first) ← holding [ov] (getMethod ov m pl)
      callWith pos f first (backTo pos (starEach (e :: es) X.env)) (backToKw pos (keywordEach [] X.env))) := by rfl) :
    PE X (.Call (.Attribute o m apos) (e :: es) [] pos) (tMeth C m sp [] E0 ta t) := by
  obtain ⟨f, fd, hm, hb, F⟩ := c
  exact pe_meth he cl hm F hr hb .nil pass0 ha hst hpl ht
theorem pe_calM0 {pl : Sem Bool} (he : PE X o ta) (cl : Cls X.K C) (c : CalM X.prog X.w X.K X.mg X.base C k m ps sp) (hr : Room k X.A)
    (ht : eval (.Call (.Attribute o m apos) [] [] pos) X.env = (do
      let ov ← eval o X.env
      standAt apos.atName
      let (f, first) ← holding [ov] (getMethod ov m pl)
      callWith pos f first (backTo pos (starEach [] X.env)) (backToKw pos (keywordEach [] X.env))) := by rfl) :
    PE X (.Call (.Attribute o m apos) [] [] pos) (tMeth C m sp [] E0 ta tNil) := by
  obtain ⟨f, fd, hm, hb, F⟩ := c
  exact pe_meth0 he cl hm F hr hb .nil pass0 ht
theorem pe_calI (c : CalI X.prog X.w X.K X.mg X.base C k x ps sp) (hr : Room (k + 1) X.A) (hg : Gl X x) (ha : PA X (e :: es) t) (hdb : (x == ("__debug__" : PySem.Str)) = false := by decide)
    (he : starEach (e :: es) X.env = (false, eval e X.env) :: starEach es X.env := by rfl) (hpl : (backTo pos (starEach es X.env)).any (·.1) = false := by rfl) : PE X (.Call (.Name x p) (e :: es) [] pos) (tMake C sp [] E0 t) := by
  obtain ⟨f, fd, hm, M, hb, F⟩ := c
  exact pe_make M F hr hg hm hb .nil pass0 ha hdb he hpl
theorem pe_calI0 (c : CalI X.prog X.w X.K X.mg X.base C k x ps sp) (hr : Room (k + 1) X.A) (hg : Gl X x) (hdb : (x == ("__debug__" : PySem.Str)) = false := by decide) : PE X (.Call (.Name x p) [] [] pos) (tMake C sp [] E0 tNil) := by
  obtain ⟨f, fd, hm, M, hb, F⟩ := c
  exact pe_make0 M F hr hg hm hb .nil pass0 hdb
end
/-! ### data of ints -/
def pdI (ns : List Int) : PyData := .list (ns.map PyData.int)
theorem dpAll_ints (K : PySem.W.Frag) (H : Hp) : ∀ ns : List Int, DpAll K H (ns.map V.int) (ns.map PyData.int)
  | [] => .nil
  | n :: ns => .cons (.int n) (dpAll_ints K H ns)
theorem dp_ints {K : PySem.W.Frag} {H : Hp} {a : Addr} {ns : List Int} (h : SqL K H a (ns.map V.int)) : Dp K H (.ref a) (pdI ns) := .lst h (dpAll_ints K H ns)
theorem canLay_ints : ∀ ns : List Int, PyData.canLayAll0 (ns.map PyData.int) = true
  | [] => rfl
  | n :: ns => by
    show (PyData.canLay0 (.int n) && PyData.canLayAll0 (ns.map PyData.int)) = true
    rw [canLay_ints ns]
    rfl
theorem depth_ints : ∀ ns : List Int, PyData.depthAll (ns.map PyData.int) = 0
  | [] => rfl
  | n :: ns => by
    show max (PyData.depth (.int n)) (PyData.depthAll (ns.map PyData.int)) = 0
    rw [depth_ints ns]
    rfl
theorem shaped_ints (ns : List Int) : SeqAt.shaped (pdI ns) = true := by
  have h : PyData.depth (pdI ns) = PyData.depthAll (ns.map PyData.int) + 1 := by unfold pdI; rw [PyData.depth]
  unfold SeqAt.shaped
  rw [h, depth_ints]
  have h2 : (pdI ns).canLay0 = true := by unfold pdI; rw [PyData.canLay0]; exact canLay_ints ns
  rw [h2]
  rfl
theorem eqvAll_ints : ∀ ns ms : List Int, PyData.eqvAll (ns.map PyData.int) (ms.map PyData.int) = decide (ns = ms)
  | [], [] => rfl
  | [], m :: ms => by simp [PyData.eqvAll]
  | n :: ns, [] => by simp [PyData.eqvAll]
  | n :: ns, m :: ms => by
    show (PyData.eqv (.int n) (.int m) && PyData.eqvAll (ns.map PyData.int) (ms.map PyData.int)) = _
    rw [eqvAll_ints ns ms]
    have : PyData.eqv (.int n) (.int m) = (n == m) := by rw [PyData.eqv]
    rw [this]
    by_cases h : n = m <;> simp [h]
theorem eqv_ints (ns ms : List Int) : PyData.eqv (pdI ns) (pdI ms) = decide (ns = ms) := by
  unfold pdI
  rw [PyData.eqv]
  exact eqvAll_ints ns ms
end Mc
namespace Mc
/-! ### ends as data -/
/-- a frame: its number and word, how many were told -/
structure Fr where
  nw : Option (Nat × Int)
  many : Nat
/-- an end -/
structure ES where
  out : List Int
  told : List Int
  ans : Nat
  ep : Int
def ES.new : ES := ⟨[], [], 0, 0⟩
def ES.put (E : ES) (w : Int) : ES := { E with out := E.out ++ [w] }
def ES.last (E : ES) : Nat := min (E.ans + 3) E.out.length
def ES.frames (E : ES) : List Fr := if E.ans = E.last then [⟨none, E.told.length⟩] else (List.range (E.last - E.ans)).map fun i => ⟨some (E.ans + i, E.out.getD (E.ans + i) 0), E.told.length⟩
def ES.hear (E : ES) (ep : Int) (f : Fr) : ES := if ep < E.ep then E else
  { out := E.out
    told := match f.nw with
      | none => E.told
      | some (n, w) => if n = E.told.length then E.told ++ [w] else E.told
    ans := if E.ans < f.many ∧ f.many ≤ E.out.length then f.many else E.ans
    ep := ep }
/-! ### what is so of ends and frames -/
structure Lt where
  goal : Nat
  ep : Int
  f : Fr
def setE (E : Nat → ES) (i : Nat) (X : ES) : Nat → ES := fun j => if j = i then X else E j
theorem setE_same (E : Nat → ES) (i : Nat) (X : ES) : setE E i X i = X := by unfold setE; rw [if_pos rfl]
theorem setE_ne (E : Nat → ES) {i j : Nat} (X : ES) (h : j ≠ i) : setE E i X j = E j := by unfold setE; rw [if_neg h]
theorem hear_out (E : ES) (ep : Int) (f : Fr) : (E.hear ep f).out = E.out := by unfold ES.hear; split <;> rfl
theorem hear_ep (E : ES) (ep : Int) (f : Fr) : E.ep ≤ (E.hear ep f).ep := by unfold ES.hear; split; exact Int.le_refl _; show E.ep ≤ ep; omega
theorem hear_ep_le {E : ES} {ep e : Int} (f : Fr) (h1 : E.ep ≤ e) (h2 : ep ≤ e) : (E.hear ep f).ep ≤ e := by unfold ES.hear; split; exact h1; exact h2
theorem hear_old {E : ES} {ep : Int} (f : Fr) (h : ep < E.ep) : E.hear ep f = E := by unfold ES.hear; rw [if_pos h]
theorem hear_ans (E : ES) (ep : Int) (f : Fr) : E.ans ≤ (E.hear ep f).ans := by
  unfold ES.hear; split
  · exact Nat.le_refl _
  · show E.ans ≤ if E.ans < f.many ∧ f.many ≤ E.out.length then f.many else E.ans
    split <;> omega
theorem hear_ans_le (E : ES) (ep : Int) (f : Fr) {n : Nat} (h1 : E.ans ≤ n) (h2 : f.many ≤ n) : (E.hear ep f).ans ≤ n := by
  unfold ES.hear; split
  · exact h1
  · show (if E.ans < f.many ∧ f.many ≤ E.out.length then f.many else E.ans) ≤ n
    split <;> omega
theorem hear_told (E : ES) (ep : Int) (f : Fr) : (E.hear ep f).told = E.told ∨ ∃ w, f.nw = some (E.told.length, w) ∧ (E.hear ep f).told = E.told ++ [w] := by
  unfold ES.hear; split
  · exact .inl rfl
  · cases h : f.nw with
    | none => exact .inl rfl
    | some p =>
      obtain ⟨n, w⟩ := p
      by_cases e : n = E.told.length
      · subst e
        refine .inr ⟨w, rfl, ?_⟩
        show (if E.told.length = E.told.length then E.told ++ [w] else E.told) = _
        rw [if_pos rfl]
      · refine .inl ?_
        show (if n = E.told.length then E.told ++ [w] else E.told) = _
        rw [if_neg e]
theorem hear_len (E : ES) (ep : Int) (f : Fr) : E.told.length ≤ (E.hear ep f).told.length := by
  rcases hear_told E ep f with h | ⟨w, _, h⟩
  · rw [h]; exact Nat.le_refl _
  · rw [h, List.length_append]; omega
theorem hear_pre {E : ES} {O : List Int} (ep : Int) {f : Fr} (h : E.told = O.take E.told.length) (hf : ∀ n w, f.nw = some (n, w) → O[n]? = some w) : (E.hear ep f).told = O.take (E.hear ep f).told.length := by
  rcases hear_told E ep f with e | ⟨w, e1, e2⟩
  · rw [e]; exact h
  · have g := hf _ _ e1
    have hl : E.told.length < O.length := (List.getElem?_eq_some_iff.mp g).1
    rw [e2, List.length_append, List.length_singleton, List.take_add_one, g]
    show E.told ++ [w] = _ ++ [w]
    rw [← h]
theorem pre_len {O T : List Int} (h : T = O.take T.length) : T.length ≤ O.length := by
  have e := congrArg List.length h
  rw [List.length_take] at e
  omega
/-- what holds of both ends and the letters between them -/
structure JJ (E : Nat → ES) (ls : List Lt) (ep : Int) : Prop where
  pre : ∀ i, i < 2 → (E i).told = (E (1 - i)).out.take (E i).told.length
  ans : ∀ i, i < 2 → (E i).ans ≤ (E (1 - i)).told.length
  old : ∀ i, i < 2 → (E i).ep ≤ ep
  goal : ∀ x ∈ ls, x.goal < 2 ∧ x.ep ≤ ep
  many : ∀ x ∈ ls, x.f.many ≤ (E (1 - x.goal)).told.length
  nw : ∀ x ∈ ls, ∀ n w, x.f.nw = some (n, w) → (E (1 - x.goal)).out[n]? = some w
theorem two {i : Nat} (h : i < 2) : 1 - i < 2 ∧ 1 - i ≠ i ∧ 1 - (1 - i) = i := by omega
theorem JJ.put {E : Nat → ES} {ls : List Lt} {ep : Int} (J : JJ E ls ep) {i : Nat} (_ : i < 2) (w : Int) : JJ (setE E i ((E i).put w)) ls ep := by
  have out : ∀ j, (setE E i ((E i).put w) j).out = if j = i then (E i).out ++ [w] else (E j).out := fun j => by unfold setE; split <;> rfl
  have told : ∀ j, (setE E i ((E i).put w) j).told = (E j).told := fun j => by unfold setE; split; (rename_i h; rw [h]; rfl); rfl
  have ans : ∀ j, (setE E i ((E i).put w) j).ans = (E j).ans := fun j => by unfold setE; split; (rename_i h; rw [h]; rfl); rfl
  have epe : ∀ j, (setE E i ((E i).put w) j).ep = (E j).ep := fun j => by unfold setE; split; (rename_i h; rw [h]; rfl); rfl
  refine ⟨fun j hj => ?_, fun j hj => by rw [ans, told]; exact J.ans j hj, fun j hj => by rw [epe]; exact J.old j hj, J.goal, fun x hx => by rw [told]; exact J.many x hx, fun x hx n v e => ?_⟩
  · rw [told, out]
    have p := J.pre j hj
    split
    · rename_i h
      rw [h] at p
      rw [List.take_append_of_le_length (pre_len p)]
      exact p
    · exact p
  · have g := J.nw x hx n v e
    rw [out]
    split
    · rename_i h
      rw [h] at g
      rw [List.getElem?_append_left (List.getElem?_eq_some_iff.mp g).1]
      exact g
    · exact g
theorem JJ.ep {E : Nat → ES} {ls : List Lt} {ep : Int} (J : JJ E ls ep) : JJ E ls (ep + 1) :=
  ⟨J.pre, J.ans, fun i hi => by have := J.old i hi; omega, fun x hx => ⟨(J.goal x hx).1, by have := (J.goal x hx).2; omega⟩, J.many, J.nw⟩
theorem JJ.sub {E : Nat → ES} {ls ls' : List Lt} {ep : Int} (J : JJ E ls ep) (h : ∀ x ∈ ls', x ∈ ls) : JJ E ls' ep :=
  ⟨J.pre, J.ans, J.old, fun x hx => J.goal x (h x hx), fun x hx => J.many x (h x hx), fun x hx => J.nw x (h x hx)⟩
theorem frames_mem {E : ES} {f : Fr} (h : f ∈ E.frames) : f.many = E.told.length ∧ ∀ n w, f.nw = some (n, w) → E.out[n]? = some w := by
  unfold ES.frames at h
  split at h
  · cases List.mem_singleton.mp h
    exact ⟨rfl, fun n w e => nomatch e⟩
  · obtain ⟨i, hi, rfl⟩ := List.mem_map.mp h
    refine ⟨rfl, fun n w e => ?_⟩
    cases Option.some.inj e
    have hi : i < E.last - E.ans := List.mem_range.mp hi
    have hl : E.last ≤ E.out.length := Nat.min_le_right _ _
    have hx : E.ans + i < E.out.length := by omega
    rw [List.getD_eq_getElem?_getD, List.getElem?_eq_getElem hx]
    rfl
theorem JJ.send {E : Nat → ES} {ls : List Lt} {ep : Int} (J : JJ E ls ep) {i : Nat} (hi : i < 2) : JJ E (ls ++ (E i).frames.map fun f => ⟨1 - i, ep, f⟩) ep := by
  have h2 := two hi
  refine ⟨J.pre, J.ans, J.old, fun x hx => ?_, fun x hx => ?_, fun x hx => ?_⟩
  all_goals rcases List.mem_append.mp hx with h | h
  · exact J.goal x h
  · obtain ⟨f, hf, rfl⟩ := List.mem_map.mp h
    exact ⟨h2.1, Int.le_refl _⟩
  · exact J.many x h
  · obtain ⟨f, hf, rfl⟩ := List.mem_map.mp h
    show f.many ≤ (E (1 - (1 - i))).told.length
    rw [h2.2.2, (frames_mem hf).1]
    exact Nat.le_refl _
  · exact J.nw x h
  · obtain ⟨f, hf, rfl⟩ := List.mem_map.mp h
    show ∀ n w, f.nw = some (n, w) → (E (1 - (1 - i))).out[n]? = some w
    rw [h2.2.2]
    exact (frames_mem hf).2
theorem JJ.hear {E : Nat → ES} {ls : List Lt} {ep : Int} (J : JJ E ls ep) {x : Lt} (hx : x ∈ ls) : JJ (setE E x.goal ((E x.goal).hear x.ep x.f)) ls ep := by
  have hg := (J.goal x hx).1
  have h2 := two hg
  have out : ∀ j, (setE E x.goal ((E x.goal).hear x.ep x.f) j).out = (E j).out := fun j => by unfold setE; split; (rename_i h; rw [h, hear_out]); rfl
  have lenm : ∀ j, (E j).told.length ≤ (setE E x.goal ((E x.goal).hear x.ep x.f) j).told.length := fun j => by
    unfold setE; split
    · rename_i h; rw [h]; exact hear_len _ _ _
    · exact Nat.le_refl _
  refine ⟨fun j hj => ?_, fun j hj => ?_, fun j hj => ?_, J.goal, fun y hy => Nat.le_trans (J.many y hy) (lenm _), fun y hy => by rw [out]; exact J.nw y hy⟩
  · rw [out]
    by_cases h : j = x.goal
    · rw [h, setE_same]
      exact hear_pre _ (J.pre _ hg) (J.nw x hx)
    · rw [setE_ne _ _ h]
      exact J.pre j hj
  · by_cases h : j = x.goal
    · rw [h, setE_same, setE_ne _ _ h2.2.1]
      exact hear_ans_le _ _ _ (J.ans _ hg) (J.many x hx)
    · rw [setE_ne _ _ h]
      exact Nat.le_trans (J.ans j hj) (lenm _)
  · by_cases h : j = x.goal
    · rw [h, setE_same]
      exact hear_ep_le _ (J.old _ hg) (J.goal x hx).2
    · rw [setE_ne _ _ h]
      exact J.old j hj
theorem last_le (E : ES) : E.last ≤ E.out.length := Nat.min_le_right _ _
theorem last_ans {E : ES} (h : E.ans ≤ E.out.length) : E.ans ≤ E.last := by unfold ES.last; omega
theorem frames_eq {E : ES} (h : E.ans = E.last) : E.frames = [⟨none, E.told.length⟩] := by unfold ES.frames; rw [if_pos h]
theorem frames_nq {E : ES} (h : ¬ E.ans = E.last) : E.frames = (List.range (E.last - E.ans)).map fun i => ⟨some (E.ans + i, E.out.getD (E.ans + i) 0), E.told.length⟩ := by unfold ES.frames; rw [if_neg h]
theorem frames_len {E : ES} (h : ¬ E.ans = E.last) : E.frames.length = E.last - E.ans := by rw [frames_nq h, List.length_map, List.length_range]
theorem frames_ne {E : ES} (h : E.ans ≤ E.out.length) : 0 < E.frames.length := by
  by_cases e : E.ans = E.last
  · rw [frames_eq e]; exact Nat.zero_lt_one
  · rw [frames_len e]
    have := last_ans h
    omega
theorem frames_le (E : ES) : E.frames.length ≤ 3 := by
  by_cases e : E.ans = E.last
  · rw [frames_eq e]; exact Nat.le_of_ble_eq_true rfl
  · rw [frames_len e]
    have : E.last ≤ E.ans + 3 := Nat.min_le_left _ _
    omega
theorem hear_num {Y : ES} {ep : Int} {f : Fr} {n : Nat} {w : Int} (h : Y.ep ≤ ep) (hf : f.nw = some (n, w)) (hn : n ≤ Y.told.length) : n + 1 ≤ (Y.hear ep f).told.length := by
  unfold ES.hear
  rw [if_neg (by omega), hf]
  show n + 1 ≤ (if n = Y.told.length then Y.told ++ [w] else Y.told).length
  split
  · rw [List.length_append, List.length_singleton]; omega
  · omega
theorem hear_many {Y : ES} {ep : Int} {f : Fr} (h : Y.ep ≤ ep) (hf : f.many ≤ Y.out.length) : f.many ≤ (Y.hear ep f).ans := by
  unfold ES.hear
  rw [if_neg (by omega)]
  show f.many ≤ if Y.ans < f.many ∧ f.many ≤ Y.out.length then f.many else Y.ans
  split <;> omega
def recv (ep : Int) (S X : ES) (k : Nat) : ES := (S.frames.take k).foldl (fun Y f => Y.hear ep f) X
theorem recv_succ {ep : Int} {S X : ES} {k : Nat} {f : Fr} (h : S.frames[k]? = some f) : recv ep S X (k + 1) = (recv ep S X k).hear ep f := by
  unfold recv
  rw [List.take_add_one, h, List.foldl_append]
  rfl
structure RK (ep : Int) (S X Y : ES) (k : Nat) : Prop where
  out : Y.out = X.out
  pre : Y.told = S.out.take Y.told.length
  old : Y.ep ≤ ep
  le : Y.ans ≤ S.told.length
  up : X.told.length ≤ Y.told.length
  ge : 0 < k → S.told.length ≤ Y.ans
  num : S.ans = S.last ∨ S.ans + k ≤ Y.told.length
theorem recv_ok {S X : ES} {ep : Int} (h1 : X.told = S.out.take X.told.length) (h2 : S.ans ≤ X.told.length) (h3 : X.ep ≤ ep) (h4 : X.ans ≤ S.told.length) (h5 : S.told.length ≤ X.out.length) :
    ∀ k, k ≤ S.frames.length → RK ep S X (recv ep S X k) k
  | 0, _ => ⟨rfl, h1, h3, h4, Nat.le_refl _, fun z => absurd z (Nat.lt_irrefl _), .inr h2⟩
  | k + 1, hk => by
    obtain ⟨q1, q2, q3, q4, q5, q6, q7⟩ := recv_ok h1 h2 h3 h4 h5 k (by omega)
    have hk' : k < S.frames.length := by omega
    have e : S.frames[k]? = some S.frames[k] := List.getElem?_eq_getElem hk'
    have m := frames_mem (List.getElem_mem hk')
    rw [recv_succ e]
    refine ⟨by rw [hear_out, q1], hear_pre _ q2 m.2, hear_ep_le _ q3 (Int.le_refl _), hear_ans_le _ _ _ q4 (Nat.le_of_eq m.1), Nat.le_trans q5 (hear_len _ _ _), fun _ => ?_, ?_⟩
    · rw [← m.1]
      exact hear_many q3 (by rw [m.1, q1]; exact h5)
    · rcases q7 with q | q
      · exact .inl q
      · by_cases c : S.ans = S.last
        · exact .inl c
        · refine .inr ?_
          have hn : ∃ w, S.frames[k].nw = some (S.ans + k, w) := by
            have hr : k < S.last - S.ans := by rw [← frames_len c]; exact hk'
            have e2 : S.frames[k]? = some ⟨some (S.ans + k, S.out.getD (S.ans + k) 0), S.told.length⟩ := by
              rw [frames_nq c, List.getElem?_map, List.getElem?_range hr]
              rfl
            have e' := Option.some.inj (e.symm.trans e2)
            exact ⟨S.out.getD (S.ans + k) 0, by rw [e']⟩
          obtain ⟨w, hw⟩ := hn
          exact hear_num q3 hw q
/-- all frames came -/
theorem recv_all {S X : ES} {ep : Int} (h1 : X.told = S.out.take X.told.length) (h2 : S.ans ≤ X.told.length) (h3 : X.ep ≤ ep) (h4 : X.ans ≤ S.told.length) (h5 : S.told.length ≤ X.out.length) (h6 : S.ans ≤ S.out.length) :
    RK ep S X (recv ep S X S.frames.length) S.frames.length ∧ S.last ≤ (recv ep S X S.frames.length).told.length ∧ S.told.length ≤ (recv ep S X S.frames.length).ans := by
  have r := recv_ok h1 h2 h3 h4 h5 S.frames.length (Nat.le_refl _)
  refine ⟨r, ?_, r.ge (frames_ne h6)⟩
  by_cases c : S.ans = S.last
  · rw [← c]
    exact Nat.le_trans h2 r.up
  · rcases r.num with q | q
    · exact absurd q c
    · have q2 := frames_len c
      have := last_ans h6
      omega
/-- both ends, and how far all came behind n quiet turns -/
structure QT (O0 O1 : List Int) (ep : Int) (E : Nat → ES) (n : Nat) : Prop where
  o0 : (E 0).out = O0
  o1 : (E 1).out = O1
  p0 : (E 0).told = O1.take (E 0).told.length
  p1 : (E 1).told = O0.take (E 1).told.length
  a0 : (E 0).ans ≤ (E 1).told.length
  a1 : (E 1).ans ≤ (E 0).told.length
  e0 : (E 0).ep ≤ ep
  e1 : (E 1).ep ≤ ep
  g0 : min (3 * n) O0.length ≤ (E 0).ans
  g1 : min (3 * n) O1.length ≤ (E 0).told.length
  g2 : min (3 * n) O0.length ≤ (E 1).told.length
def quiet1 (ep : Int) (E : Nat → ES) : Nat → ES := setE E 1 (recv ep (E 0) (E 1) (E 0).frames.length)
def quiet0 (ep : Int) (E : Nat → ES) : Nat → ES := setE E 0 (recv ep (E 1) (E 0) (E 1).frames.length)
theorem quiet_turn {O0 O1 : List Int} {ep : Int} {E : Nat → ES} {n : Nat} (h : QT O0 O1 ep E n) : QT O0 O1 ep (quiet0 ep (quiet1 ep E)) (n + 1) := by
  obtain ⟨o0, o1, p0, p1, a0, a1, e0, e1, g0, g1, g2⟩ := h
  have l0 := pre_len p0
  have l1 := pre_len p1
  obtain ⟨r, r1, r2⟩ := recv_all (S := E 0) (X := E 1) (ep := ep) (by rw [o0]; exact p1) a0 e1 a1 (by rw [o1]; exact l0) (by rw [o0]; omega)
  have q0 : quiet1 ep E 0 = E 0 := setE_ne _ _ (by decide)
  have q1 : quiet1 ep E 1 = recv ep (E 0) (E 1) (E 0).frames.length := setE_same _ _ _
  generalize hY : recv ep (E 0) (E 1) (E 0).frames.length = Y at *
  have pY := r.pre
  rw [o0] at pY
  have lY := pre_len pY
  obtain ⟨s, s1, s2⟩ := recv_all (S := Y) (X := E 0) (ep := ep) (by rw [r.out, o1]; exact p0) r.le e0 (Nat.le_trans a0 r.up) (by rw [o0]; exact lY) (by rw [r.out, o1]; exact Nat.le_trans r.le l0)
  have z0 : quiet0 ep (quiet1 ep E) 0 = recv ep Y (E 0) Y.frames.length := by unfold quiet0; rw [setE_same, q0, q1]
  have z1 : quiet0 ep (quiet1 ep E) 1 = Y := by unfold quiet0; rw [setE_ne _ _ (by decide), q1]
  generalize hZ : recv ep Y (E 0) Y.frames.length = Z at *
  have k1 : (E 0).last = min ((E 0).ans + 3) O0.length := by unfold ES.last; rw [o0]
  have k2 : Y.last = min (Y.ans + 3) O1.length := by unfold ES.last; rw [r.out, o1]
  have b1 := r.up
  have b2 := r.le
  have c1 := s.le
  have c2 := s.up
  refine ⟨by rw [z0, s.out, o0], by rw [z1, r.out, o1], by rw [z0]; have := s.pre; rw [r.out, o1] at this; exact this, by rw [z1]; exact pY, by rw [z0, z1]; exact c1, by rw [z0, z1]; omega, by rw [z0]; exact s.old, by rw [z1]; exact r.old, ?_, ?_, ?_⟩
  · rw [z0]; omega
  · rw [z0]; omega
  · rw [z1]; omega
theorem quiet_end {O0 O1 : List Int} {ep : Int} {E : Nat → ES} {n : Nat} (h : QT O0 O1 ep E n) (h0 : O0.length ≤ n) (h1 : O1.length ≤ n) : (E 0).told = (E 1).out ∧ (E 1).told = (E 0).out ∧ (E 0).ans = (E 0).out.length := by
  obtain ⟨o0, o1, p0, p1, a0, a1, e0, e1, g0, g1, g2⟩ := h
  have l0 := pre_len p0
  have l1 := pre_len p1
  refine ⟨?_, ?_, ?_⟩
  · rw [o1, p0, List.take_of_length_le (by omega)]
  · rw [o0, p1, List.take_of_length_le (by omega)]
  · rw [o0]; omega
theorem JJ.quiet {E : Nat → ES} {ls : List Lt} {ep : Int} (J : JJ E ls ep) : QT (E 0).out (E 1).out ep E 0 :=
  ⟨rfl, rfl, J.pre 0 (by decide), J.pre 1 (by decide), J.ans 0 (by decide), J.ans 1 (by decide), J.old 0 (by decide), J.old 1 (by decide), by omega, by omega, by omega⟩
/-- the frames with words -/
theorem words_eq {E : ES} (h : E.ans ≤ E.out.length) : (E.frames.filter fun f => f.nw.isSome).map (fun f => (f.nw.map (·.2)).getD 0) = (E.out.drop E.ans).take 3 := by
  by_cases c : E.ans = E.last
  · have : E.out.length ≤ E.ans := by unfold ES.last at c; omega
    rw [frames_eq c, List.drop_eq_nil_of_le this]
    rfl
  · have e : E.frames.filter (fun f => f.nw.isSome) = E.frames := by
      rw [List.filter_eq_self]
      intro f hf
      rw [frames_nq c] at hf
      obtain ⟨i, _, rfl⟩ := List.mem_map.mp hf
      rfl
    rw [e, frames_nq c, List.map_map]
    refine List.ext_getElem? fun i => ?_
    rw [List.getElem?_map, List.getElem?_take, List.getElem?_drop]
    have hl := last_le E
    have hl2 : E.last = min (E.ans + 3) E.out.length := rfl
    by_cases hi : i < E.last - E.ans
    · rw [List.getElem?_range hi, if_pos (by omega), List.getElem?_eq_getElem (by omega)]
      show some (E.out.getD (E.ans + i) 0) = _
      rw [List.getD_eq_getElem?_getD, List.getElem?_eq_getElem (by omega)]
      rfl
    · rw [List.getElem?_eq_none (by rw [List.length_range]; omega)]
      show none = _
      split
      · rw [List.getElem?_eq_none (by omega)]
      · rfl
theorem words_len {E : ES} (h : E.ans ≤ E.out.length) : (E.frames.filter fun f => f.nw.isSome).length ≤ 3 ∧ E.frames.length = max 1 (E.frames.filter fun f => f.nw.isSome).length := by
  by_cases c : E.ans = E.last
  · rw [frames_eq c]
    exact ⟨Nat.le_of_ble_eq_true rfl, rfl⟩
  · have e : E.frames.filter (fun f => f.nw.isSome) = E.frames := by
      rw [List.filter_eq_self]
      intro f hf
      rw [frames_nq c] at hf
      obtain ⟨i, _, rfl⟩ := List.mem_map.mp hf
      rfl
    rw [e]
    have := frames_ne h
    exact ⟨frames_le E, by omega⟩
end Mc
namespace Mc
open PySem L2 PySem.Spec PyProof.Rows
def top (i : Nat) : Stmt := PySem.Challenge.pw_mastcalls_k14_whole_ends.main.body.getD i (.Pass ⟨0, 0, 0, 0⟩)
/-! ### the draws -/
abbrev sNum : Stmt := top 4
abbrev sTake : Stmt := top 5
def spNum (K : PySem.W.Frag) : Sp := fun vs H Q _ => ∃ (a : Addr) (ns : List Int) (k : Int), vs = [.ref a, .int k] ∧ SqL K H a (ns.map V.int) ∧ ns.length ≤ 63 ∧
  ∀ (v : Int) (H' : Hp), 0 ≤ v → Same H H' → Q (.int v) H'
def spTake (K : PySem.W.Frag) : Sp := fun vs H Q _ => ∃ (M : List Addr) (d a : Addr) (m : Int), vs = [.ref d, .int m] ∧ Dr K M d a H ∧ 0 < m ∧
  ∀ (v : Int) (H' : Hp), 0 ≤ v → v < m → Dr K M d a H' → Kp [d] H H' → Q (.int v) H'
/-- what the draws ask of the module -/
structure TxD (K : PySem.W.Frag) (mg : Str → Option Value) (fN fT : Addr) : Prop where
  len : mg "len" = none
  int : mg "int" = none
  abs : mg "abs" = none
  num : mg "_law_number" = some (.ref fN)
  take : mg "_law_take" = some (.ref fT)
section
variable {P : Program} {w : World} {K : PySem.W.Frag} {mg : Str → Option Value} {base : Heap}
theorem scNum : FnScope ["script", "index", "cell", "blend"] ["script", "index"] (defScope sNum) := ⟨rfl, rfl, rfl, by decide +kernel, rfl, by decide +kernel, by decide +kernel⟩
theorem ok_num {f fN fT : Addr} {fd : FuncData} (F : Fun K "_law_number" "_law_number" sNum f fd) (T : TxD K mg fN fT) : FnOk P w K mg base CX0 1 f fd ["script", "index"] (spNum K) := by
  refine F.ok scNum (fun vs H Q E h => ?_) (fun cdv A outer s H vs Q E hr h => ?_)
  · obtain ⟨a, ns, k, rfl, _⟩ := h
    rfl
  · obtain ⟨a, ns, k, rfl, hS, hl, q⟩ := h
    refine ⟨_, pss_cons (ps_if (pt_cmpR (op_eqD hr.units) (pv 0) (pe_lst pa_nil) (nomark _)) (pss_one (ps_ret (pe_callTy call_int1 (by rfl) T.int boot_int (pa_cons (pe_op op_mod (pe_op op_add (pe_op op_mul (pv 1) pe_int) pe_int) pe_int) pa_nil)))) pss_nil)
      (pss_cons (ps_set (i := 2) scNum.nd rfl (Or.inl rfl) (pe_ix ix_list (pv 0) (pe_op op_mod (pv 1) (pe_callB call_len_seq (by rfl) T.len PySem.boot_len (pa_cons (pv 0) pa_nil))) (fun _ _ => rfl)))
      (pss_cons (ps_if (pt_cmpR op_ge (pe_callB call_abs (by rfl) T.abs boot_abs (pa_cons (pv 2) pa_nil)) (pe_op op_pow pe_int pe_int) (nomark _)) (pss_one (ps_set (i := 2) scNum.nd rfl (Or.inl rfl) (pe_op op_mod (pv 2) (pe_op op_pow pe_int pe_int)))) pss_nil)
      (pss_cons (ps_set (i := 3) scNum.nd rfl (Or.inl rfl) (pe_op op_mod (pe_op op_add (pe_op op_mul (pe_op op_add (pv 2) (pe_op op_mul pe_int (pv 1))) pe_int) (pe_op op_mul pe_int (pe_callB call_len_seq (by rfl) T.len PySem.boot_len (pa_cons (pv 0) pa_nil)))) pe_int))
      (pss_one (ps_ret (pe_callTy call_int1 (by rfl) T.int boot_int (pa_cons (pe_op op_mod (pe_op op_add (pe_op op_mul (pe_op op_mod (pe_op op_mul (pv 3) pe_int) pe_int) pe_int) (pv 1)) pe_int) pa_nil))))))), ?_⟩
    refine ⟨_, rfl, Nat.zero_le _, fun p hp => ?_⟩
    have s1 : Same H (upd H p (.lst [])) := fun b o e => by rw [upd_ne (ne_of_none e hp)]; exact e
    have hS1 := s1.seq hS
    refine ⟨pdI ns, pdI [], dp_ints hS1, dp_ints (SqL.of upd_same), shaped_ints _, shaped_ints _, _, rfl, ?_⟩
    refine ite2 (fun _ => ?_) (fun e => ?_)
    · refine ⟨_, rfl, _, _, rfl, rfl, .inr (by decide), _, _, rfl, rfl, _, _, rfl, rfl, (by show (0 : Int) < _; decide), .inl ⟨_, rfl, ?_⟩⟩
      exact q _ _ (Int.emod_nonneg _ (by decide)) s1
    · have hn : 0 < ns.length := by
        rw [eqv_ints] at e
        cases ns with
        | nil => exact absurd (decide_eq_true rfl) e
        | cons x r => exact Nat.succ_pos _
      have hlen : ((ns.map V.int).length : Int) = (ns.length : Int) := by rw [List.length_map]
      have hlt : (k % (((ns.map V.int).length : Nat) : Int)).toNat < ns.length := by
        have h1 := Int.emod_nonneg k (b := (((ns.map V.int).length : Nat) : Int)) (by omega)
        have h2 := Int.emod_lt_of_pos k (b := (((ns.map V.int).length : Nat) : Int)) (by omega)
        omega
      refine ⟨_, rfl, _, rfl, _, rfl, a, _, rfl, .inl hS1, _, _, rfl, rfl, (by show (0 : Int) < _; omega), a, _, _, V.int ns[(k % (((ns.map V.int).length : Nat) : Int)).toNat], rfl, rfl, hS1, at_of (j := (k % (((ns.map V.int).length : Nat) : Int)).toNat) (by
        have h1 := Int.emod_nonneg k (b := (((ns.map V.int).length : Nat) : Int)) (by omega)
        omega) (by rw [List.getElem?_map, List.getElem?_eq_getElem hlt]; rfl), ?_⟩
      generalize ns[(k % (((ns.map V.int).length : Nat) : Int)).toNat] = c
      refine ⟨_, rfl, _, rfl, _, _, rfl, rfl, ⟨by decide, by decide, by decide⟩, _, _, rfl, rfl, _, rfl, ?_⟩
      refine ite2 (fun _ => ?_) (fun _ => ?_)
      refine ⟨_, rfl, _, _, rfl, rfl, ⟨by decide, by decide, by decide⟩, _, _, rfl, rfl, (by show (0 : Int) < _; decide), ?_⟩
      all_goals
        refine ⟨_, rfl, _, rfl, _, _, rfl, rfl, .inl ⟨by decide, by decide⟩, _, _, rfl, rfl, _, _, rfl, rfl, .inr (by decide), _, rfl, a, _, rfl, .inl hS1, _, _, rfl, rfl, .inl ⟨by decide, by decide⟩, _, _, rfl, rfl, _, _, rfl, rfl, (by show (0 : Int) < _; decide), ?_⟩
        refine ⟨_, rfl, _, _, rfl, rfl, .inr (by decide), _, _, rfl, rfl, (by show (0 : Int) < _; decide), _, _, rfl, rfl, .inr (by decide), _, rfl, _, _, rfl, rfl, _, _, rfl, rfl, (by show (0 : Int) < _; decide), .inl ⟨_, rfl, ?_⟩⟩
        exact q _ _ (Int.emod_nonneg _ (by decide)) s1
theorem scTake : FnScope ["draw", "many"] ["draw", "many"] (defScope sTake) := ⟨rfl, rfl, rfl, by decide +kernel, rfl, by decide +kernel, by decide +kernel⟩
theorem ok_take {f fN fT : Addr} {fd fdN : FuncData} (F : Fun K "_law_take" "_law_take" sTake f fd) (T : TxD K mg fN fT) (FN : Fun K "_law_number" "_law_number" sNum fN fdN) (bN : Binds K fdN ["script", "index"] []) :
    FnOk P w K mg base CX0 2 f fd ["draw", "many"] (spTake K) := by
  have GN : FnOk P w K mg base CX0 1 fN fdN ["script", "index"] (spNum K) := ok_num FN T
  refine F.ok scTake (fun vs H Q E h => ?_) (fun cdv A outer s H vs Q E hr h => ?_)
  · obtain ⟨M, d, a, m, rfl, _⟩ := h
    rfl
  · obtain ⟨M, d, a, m, rfl, D, hm, q⟩ := h
    obtain ⟨⟨k, hd⟩, hM, ns, hl, hs⟩ := id D
    refine ⟨_, pss_cons (ps_augS (pv 0) pe_int get_list pe_int ip_add set_list)
      (pss_one (ps_ret (pe_op op_mod (pe_callTy call_int1 (by rfl) T.int boot_int (pa_cons (pe_call GN hr rfl T.num FN.kp bN .nil pass0 (pa_cons (pe_ix ix_list (pv 0) pe_int (fun _ _ => rfl)) (pa_cons (pe_callTy call_int1 (by rfl) T.int boot_int (pa_cons (pe_ix ix_list (pv 0) pe_int (fun _ _ => rfl)) pa_nil)) pa_nil))) pa_nil)) (pv 1)))), ?_⟩
    refine ⟨_, rfl, d, _, _, .int k, rfl, rfl, SqL.of hd, rfl, _, _, rfl, rfl, d, _, _, 1, rfl, rfl, hd, rfl, ?_⟩
    have hd1 : (upd H d (HO.lst ([V.ref a, V.int k].set 1 (V.int (k + 1))))) d = some (.lst [.ref a, .int (k + 1)]) := upd_same
    have k1 : Kp [d] H (upd H d (HO.lst ([V.ref a, V.int k].set 1 (V.int (k + 1))))) := Kp.at (List.mem_singleton.mpr rfl)
    have up : ∀ b ∈ [d], b ∈ M := fun b z => by rw [List.mem_singleton.mp z]; exact hM
    refine ⟨_, rfl, d, _, _, .ref a, rfl, rfl, SqL.of hd1, rfl, _, rfl, d, _, _, .int (k + 1), rfl, rfl, SqL.of hd1, rfl, .inl ⟨_, rfl, ?_⟩⟩
    refine ⟨a, ns, k + 1, rfl, hs _ (k1.mono up), hl, fun v H' hv s1 => .inl ⟨_, rfl, ?_⟩⟩
    refine ⟨_, rfl, _, _, rfl, rfl, hm, ?_⟩
    have k2 := k1.trans (Kp.same s1)
    exact q _ H' (Int.emod_nonneg _ (by omega)) (Int.emod_lt_of_pos _ hm) (D.next (k2.mono up) (s1 _ _ hd1)) k2
end
/-! ### an end -/
abbrev sEInit : Stmt := inClass (top 2) 0
abbrev sEPut : Stmt := inClass (top 2) 1
abbrev sEFrames : Stmt := inClass (top 2) 2
abbrev sEHear : Stmt := inClass (top 2) 3
def Fr.num (f : Fr) : V := match f.nw with | none => .non | some p => .int p.1
def Fr.word (f : Fr) : V := match f.nw with | none => .non | some p => .int p.2
def Fr.vs (f : Fr) : List V := [.str "frame", f.num, f.word, .int f.many]
def eF (o t : Addr) (E : ES) : List (Str × V) := [("out", .ref o), ("answered", .int E.ans), ("told", .ref t), ("epoch", .int E.ep)]
structure EndAt (C : Addr) (H : Hp) (e o t : Addr) (E : ES) : Prop where
  ob : ∃ dx, H e = some (.ins C dx (eF o t E))
  ho : H o = some (.lst (E.out.map V.int))
  ht : H t = some (.lst (E.told.map V.int))
  ne : o ≠ t
def FrAt (H : Hp) (a : Addr) (f : Fr) : Prop := H a = some (.tup f.vs)
def spEInit (C : Addr) : Sp := fun vs H Q _ => ∃ (p dx : Addr), vs = [.ref p] ∧ H p = some (.ins C dx []) ∧ ∀ (o t : Addr) (H' : Hp), H o = none → H t = none → EndAt C H' p o t ES.new → Kp [p] H H' → Q .non H'
def spEPut (C : Addr) : Sp := fun vs H Q _ => ∃ (e o t : Addr) (E : ES) (w : Int), vs = [.ref e, .int w] ∧ EndAt C H e o t E ∧ E.out.length ≤ 1000 ∧ ∀ H' : Hp, EndAt C H' e o t (E.put w) → Kp [o] H H' → Q .non H'
def spEFrames (C : Addr) : Sp := fun vs H Q _ => ∃ (e o t : Addr) (E : ES), vs = [.ref e] ∧ EndAt C H e o t E ∧ E.ans ≤ E.out.length ∧ E.out.length ≤ 1000 ∧
  ∀ (p : Addr) (as : List Addr) (H' : Hp), H p = none → Same H H' → H' p = some (.tup (as.map V.ref)) → as.length = E.frames.length → (∀ (i : Nat) a f, as[i]? = some a → E.frames[i]? = some f → FrAt H' a f) → Q (.ref p) H'
def spEHear (C : Addr) : Sp := fun vs H Q _ => ∃ (e o t a : Addr) (E : ES) (ep : Int) (f : Fr), vs = [.ref e, .int ep, .ref a] ∧ EndAt C H e o t E ∧ FrAt H a f ∧ E.told.length ≤ 1000 ∧ ∀ H' : Hp, EndAt C H' e o t (E.hear ep f) → Kp [e, t] H H' → Q .non H'
structure TxE (K : PySem.W.Frag) (mg : Str → Option Value) (C : Addr) : Prop where
  cl : Cls K C
  nO : NoAttr K C "out"
  nA : NoAttr K C "answered"
  nT : NoAttr K C "told"
  nE : NoAttr K C "epoch"
  mgC : mg "End" = some (.ref C)
  win : ∃ t, mg "WINDOW" = some (.int 3 t)
  len : mg "len" = none
  min : mg "min" = none
  tuple : mg "tuple" = none
  range : mg "range" = none
section
variable {P : Program} {w : World} {K : PySem.W.Frag} {mg : Str → Option Value} {base : Heap}
theorem scEI : FnScope ["self"] ["self"] (defScope sEInit) := ⟨rfl, rfl, rfl, by decide +kernel, rfl, by decide +kernel, by decide +kernel⟩
theorem ok_einit {f C : Addr} {fd : FuncData} (F : Fun K "__init__" "End.__init__" sEInit f fd) (T : TxE K mg C) : FnOk P w K mg base CX0 1 f fd ["self"] (spEInit C) := by
  refine F.ok scEI (fun vs H Q E h => ?_) (fun cdv A outer s H vs Q E hr h => ?_)
  · obtain ⟨p, dx, rfl, _⟩ := h
    rfl
  · obtain ⟨p, dx, rfl, hp, k⟩ := h
    refine ⟨_, pss_cons (ps_fld (pv 0) (pe_lst pa_nil) rfl) (pss_cons (ps_fld (pv 0) pe_int rfl) (pss_cons (ps_fld (pv 0) (pe_lst pa_nil) rfl) (pss_one (ps_fld (pv 0) pe_int rfl)))), ?_⟩
    refine ⟨Nat.zero_le _, fun o ho => ?_⟩
    have npo : p ≠ o := ne_of_none hp ho
    refine ⟨_, rfl, p, C, dx, [], rfl, (by rw [upd_ne npo]; exact hp), T.cl, T.nO, (by show 0 < 1000; decide), ?_⟩
    refine ⟨_, rfl, p, C, dx, _, rfl, upd_same, T.cl, T.nA, (by show 1 < 1000; decide), ?_⟩
    refine ⟨Nat.zero_le _, fun t ht => ?_⟩
    have npt : p ≠ t := ne_of_none upd_same ht
    have e1 : upd (upd (upd H o (.lst [])) p (.ins C dx (putF "out" (.ref o) []))) p (.ins C dx (putF "answered" (.int 0) (putF "out" (.ref o) []))) o = some (.lst []) := by rw [upd_ne npo.symm, upd_ne npo.symm, upd_same]
    have not_ : o ≠ t := ne_of_none e1 ht
    have ht0 : H t = none := by
      rw [upd_ne npt.symm, upd_ne npt.symm, upd_ne not_.symm] at ht
      exact ht
    refine ⟨_, rfl, p, C, dx, _, rfl, (by rw [upd_ne npt]; exact upd_same), T.cl, T.nT, (by show 2 < 1000; decide), ?_⟩
    refine ⟨_, rfl, p, C, dx, _, rfl, upd_same, T.cl, T.nE, (by show 3 < 1000; decide), ?_⟩
    refine k o t _ ho ht0 ⟨⟨dx, upd_same⟩, ?_, ?_, not_⟩ fun b u e n => ?_
    · rw [upd_ne npo.symm, upd_ne npo.symm, upd_ne not_, upd_ne npo.symm, upd_ne npo.symm, upd_same]
      rfl
    · rw [upd_ne npt.symm, upd_ne npt.symm, upd_same]
      rfl
    · have nb : b ≠ p := fun z => n (List.mem_singleton.mpr z)
      rw [upd_ne nb, upd_ne nb, upd_ne (ne_of_none e ht0), upd_ne nb, upd_ne nb, upd_ne (ne_of_none e ho)]
      exact e
theorem scEP : FnScope ["self", "word"] ["self", "word"] (defScope sEPut) := ⟨rfl, rfl, rfl, by decide +kernel, rfl, by decide +kernel, by decide +kernel⟩
theorem ok_eput {f C : Addr} {fd : FuncData} (F : Fun K "put" "End.put" sEPut f fd) (T : TxE K mg C) : FnOk P w K mg base CX0 1 f fd ["self", "word"] (spEPut C) := by
  refine F.ok scEP (fun vs H Q E h => ?_) (fun cdv A outer s H vs Q E hr h => ?_)
  · obtain ⟨e, o, t, E, w, rfl, _⟩ := h
    rfl
  · obtain ⟨e, o, t, E, w, rfl, ⟨⟨dx, he⟩, ho, ht, ne⟩, hl, k⟩ := h
    have neo : e ≠ o := ne_of he ho (by intro z; cases z)
    refine ⟨_, pss_one (ps_expr (pe_bm PySem.F.plainAttrs_list PySem.F.slot_list_append PySem.F.type_list_append mt_append (pe_fld (pv 0) rfl) (pa_cons (pv 1) pa_nil))), ?_⟩
    refine ⟨_, rfl, e, C, dx, _, _, rfl, he, T.cl, T.nO, rfl, .inl ⟨rfl, _, SqL.of ho⟩, _, rfl, o, _, _, rfl, rfl, ho, by rw [List.length_map]; exact small1000 hl, ?_⟩
    refine k _ ⟨⟨dx, by rw [upd_ne neo]; exact he⟩, by rw [upd_same]; show _ = some (HO.lst ((E.out ++ [w]).map V.int)); rw [List.map_append]; rfl, by rw [upd_ne ne.symm]; exact ht, ne⟩ (Kp.at (List.mem_singleton.mpr rfl))
theorem scEH : FnScope ["self", "epoch", "frame", "_", "number", "word", "many"] ["self", "epoch", "frame"] (defScope sEHear) := ⟨rfl, rfl, rfl, by decide +kernel, rfl, by decide +kernel, by decide +kernel⟩
theorem ok_ehear {f C : Addr} {fd : FuncData} (F : Fun K "hear" "End.hear" sEHear f fd) (T : TxE K mg C) : FnOk P w K mg base CX0 1 f fd ["self", "epoch", "frame"] (spEHear C) := by
  refine F.ok scEH (fun vs H Q E h => ?_) (fun cdv A outer s H vs Q E hr h => ?_)
  · obtain ⟨e, o, t, a, E, ep, fr, rfl, _⟩ := h
    rfl
  · obtain ⟨e, o, t, a, E, ep, fr, rfl, ⟨⟨dx, he⟩, ho, ht, ne⟩, hf, hl, k⟩ := h
    have neo : e ≠ o := ne_of he ho (by intro z; cases z)
    have net : e ≠ t := ne_of he ht (by intro z; cases z)
    have nea : a ≠ e := ne_of hf he (by intro z; cases z)
    refine ⟨_, pss_cons (ps_if (pt_cmpR op_lt (pv 1) (pe_fld (pv 0) rfl) (nomark _)) (pss_one ps_retN) pss_nil)
      (pss_cons (ps_fld (pv 0) (pv 1) rfl)
      (pss_cons (ps_asg (pv 2) (pg_tup rfl (pgs_cons (pg_name (i := 3) scEH.nd rfl (Or.inl rfl)) (pgs_cons (pg_name (i := 4) scEH.nd rfl (Or.inl rfl)) (pgs_cons (pg_name (i := 5) scEH.nd rfl (Or.inl rfl)) (pgs_cons (pg_name (i := 6) scEH.nd rfl (Or.inl rfl)) pgs_nil))))))
      (Evl.pss_cut (ps_if (pt_cmpR op_eq (pv 4) (pe_callB call_len_seq (by rfl) T.len PySem.boot_len (pa_cons (pe_fld (pv 0) rfl) pa_nil)) (nomark _))
        (pss_one (ps_expr (pe_bm PySem.F.plainAttrs_list PySem.F.slot_list_append PySem.F.type_list_append mt_append (pe_fld (pv 0) rfl) (pa_cons (pv 5) pa_nil)))) pss_nil)
      (pss_one (ps_if (pt_chain op_lt op_le (pe_fld (pv 0) rfl) (pv 6) (pe_callB call_len_seq (by rfl) T.len PySem.boot_len (pa_cons (pe_fld (pv 0) rfl) pa_nil))) (pss_one (ps_fld (pv 0) (pv 6) rfl)) pss_nil))))), ?_⟩
    refine ⟨_, rfl, _, rfl, e, C, dx, _, _, rfl, he, T.cl, T.nE, rfl, _, _, rfl, rfl, _, rfl, ?_⟩
    refine ite2 (fun h1 => ?_) (fun h1 => ?_)
    · have h1 : ep < E.ep := of_decide_eq_true h1
      have e1 : E.hear ep fr = E := by unfold ES.hear; rw [if_pos h1]
      exact k H (by rw [e1]; exact ⟨⟨dx, he⟩, ho, ht, ne⟩) (Kp.refl _ _)
    have h1 : ¬ ep < E.ep := fun z => h1 (decide_eq_true z)
    refine ⟨_, rfl, _, rfl, e, C, dx, _, rfl, he, T.cl, T.nE, (by show 4 < 1000; decide), ?_⟩
    have g1 : upd H e (.ins C dx (eF o t { E with ep := ep })) e = some (.ins C dx (eF o t { E with ep := ep })) := upd_same
    have ho1 : upd H e (.ins C dx (eF o t { E with ep := ep })) o = some (.lst (E.out.map V.int)) := by rw [upd_ne neo.symm]; exact ho
    have ht1 : upd H e (.ins C dx (eF o t { E with ep := ep })) t = some (.lst (E.told.map V.int)) := by rw [upd_ne net.symm]; exact ht
    have hf1 : upd H e (.ins C dx (eF o t { E with ep := ep })) a = some (.tup fr.vs) := by rw [upd_ne nea]; exact hf
    refine ⟨_, rfl, a, fr.vs, rfl, SqT.of hf1, rfl, _, _, rfl, _, _, rfl, _, _, rfl, _, _, rfl, rfl, ?_⟩
    refine ⟨fun σ' H2 => ∃ E2 : ES, σ' = [some (.ref e), some (.int ep), some (.ref a), some (.str "frame"), some fr.num, some fr.word, some (.int fr.many)] ∧ H2 e = some (.ins C dx (eF o t E2)) ∧ H2 o = some (.lst (E2.out.map V.int)) ∧ H2 t = some (.lst (E2.told.map V.int)) ∧ Kp [e, t] H H2 ∧
      E.hear ep fr = { E2 with ans := if E2.ans < fr.many ∧ fr.many ≤ E2.out.length then fr.many else E2.ans }, ⟨_, rfl, _, rfl, e, C, dx, _, _, rfl, g1, T.cl, T.nT, rfl, t, _, rfl, .inl (SqL.of ht1), (by unfold Fr.num; split <;> rfl), _, rfl, ?_⟩, ?_⟩
    · show (if decide (fr.num = V.int ((E.told.map V.int).length : Int)) = true then _ else _)
      refine ite2 (fun h2 => ?_) (fun h2 => ?_)
      · have h2 : fr.num = V.int ((E.told.map V.int).length : Int) := of_decide_eq_true h2
        rw [List.length_map] at h2
        cases hn : fr.nw with
        | none => unfold Fr.num at h2; rw [hn] at h2; cases h2
        | some p =>
          obtain ⟨n, w⟩ := p
          have hw : fr.word = .int w := by unfold Fr.word; rw [hn]
          have e2 : (n : Int) = (E.told.length : Int) := by
            unfold Fr.num at h2; rw [hn] at h2
            exact V.int.inj h2
          have e3 : n = E.told.length := by omega
          refine ⟨_, rfl, e, C, dx, _, _, rfl, g1, T.cl, T.nT, rfl, .inl ⟨rfl, _, SqL.of ht1⟩, _, rfl, t, _, _, rfl, rfl, ht1, by rw [List.length_map]; exact small1000 hl, ?_⟩
          refine ⟨{ E with ep := ep, told := E.told ++ [w] }, rfl, by rw [upd_ne net]; exact g1, by rw [upd_ne ne]; exact ho1, by rw [upd_same, hw, List.map_append]; rfl, ?_, ?_⟩
          · exact (Kp.at (by simp)).trans (Kp.at (by simp))
          · unfold ES.hear; rw [if_neg h1, hn]
            simp only [if_pos e3]
      · have h2 : ¬ fr.num = V.int ((E.told.map V.int).length : Int) := fun z => h2 (decide_eq_true z)
        rw [List.length_map] at h2
        refine ⟨{ E with ep := ep }, rfl, g1, ho1, ht1, Kp.at (by simp), ?_⟩
        unfold ES.hear; rw [if_neg h1]
        cases hn : fr.nw with
        | none => rfl
        | some p =>
          obtain ⟨n, w⟩ := p
          have e3 : ¬ n = E.told.length := fun z => h2 (by unfold Fr.num; rw [hn, z])
          simp only [if_neg e3]
    · rintro σ' H2 ⟨E2, rfl, q1, q2, q3, kp, eh⟩
      refine ⟨_, rfl, e, C, dx, _, _, rfl, q1, T.cl, T.nA, rfl, _, rfl, _, _, rfl, rfl, _, rfl, ?_⟩
      have fin : ∀ {H3 : Hp} {E3 : ES}, H3 e = some (.ins C dx (eF o t E3)) → H3 o = some (.lst (E3.out.map V.int)) → H3 t = some (.lst (E3.told.map V.int)) → Kp [e, t] H H3 → E.hear ep fr = E3 → Q .non H3 := fun a1 a2 a3 a4 a5 => k _ (by rw [a5]; exact ⟨⟨dx, a1⟩, a2, a3, ne⟩) a4
      refine ite2 (fun h3 => ?_) (fun h3 => ?_)
      · have h3 : (E2.ans : Int) < (fr.many : Int) := of_decide_eq_true h3
        refine ⟨_, rfl, e, C, dx, _, _, rfl, q1, T.cl, T.nO, rfl, o, _, rfl, .inl (SqL.of q2), _, _, rfl, rfl, _, rfl, ?_⟩
        refine ite2 (fun h4 => ?_) (fun h4 => ?_)
        · have h4 : (fr.many : Int) ≤ ((E2.out.map V.int).length : Int) := of_decide_eq_true h4
          rw [List.length_map] at h4
          refine ⟨_, rfl, _, rfl, e, C, dx, _, rfl, q1, T.cl, T.nA, (by show 4 < 1000; decide), ?_⟩
          refine fin (E3 := { E2 with ans := fr.many }) upd_same (by rw [upd_ne neo.symm]; exact q2) (by rw [upd_ne net.symm]; exact q3) (kp.trans (Kp.at (by simp))) (by rw [eh, if_pos ⟨by omega, by omega⟩])
        · have h4 : ¬ (fr.many : Int) ≤ ((E2.out.map V.int).length : Int) := fun z => h4 (decide_eq_true z)
          rw [List.length_map] at h4
          exact fin (E3 := E2) q1 q2 q3 kp (by rw [eh, if_neg (by omega)])
      · have h3 : ¬ (E2.ans : Int) < (fr.many : Int) := fun z => h3 (decide_eq_true z)
        refine ⟨false, rfl, ?_⟩
        exact fin (E3 := E2) q1 q2 q3 kp (by rw [eh, if_neg (by omega)])
theorem scEF : FnScope ["self", "many", "last", "at"] ["self"] (defScope sEFrames) := ⟨rfl, rfl, rfl, by decide +kernel, rfl, by decide +kernel, by decide +kernel⟩
theorem ok_eframes {f C : Addr} {fd : FuncData} (F : Fun K "frames" "End.frames" sEFrames f fd) (T : TxE K mg C) : FnOk P w K mg base CX0 1 f fd ["self"] (spEFrames C) := by
  obtain ⟨tw, hwin⟩ := T.win
  refine F.ok scEF (fun vs H Q E h => ?_) (fun cdv A outer s H vs Q E hr h => ?_)
  · obtain ⟨e, o, t, E, rfl, _⟩ := h
    rfl
  · obtain ⟨e, o, t, E, rfl, ⟨⟨dx, he⟩, ho, ht, ne⟩, hl, hsz, k⟩ := h
    refine ⟨_, (pss_cons (ps_set (i := 1) scEF.nd rfl (Or.inr rfl) (pe_callB call_len_seq (by rfl) T.len PySem.boot_len (pa_cons (pe_fld (pv 0) rfl) pa_nil)))
      (pss_cons (ps_set (i := 2) scEF.nd rfl (Or.inl rfl) (pe_callB (call_min2 rfl) (by rfl) T.min boot_min (pa_cons (pe_op op_add (pe_fld (pv 0) rfl) (pe_glob (by rfl) hwin rel_int)) (pa_cons (pe_callB call_len_seq (by rfl) T.len PySem.boot_len (pa_cons (pe_fld (pv 0) rfl) pa_nil)) pa_nil))))
      (pss_cons (ps_if (pt_cmpR op_eq (pe_fld (pv 0) rfl) (pv 2) (nomark _))
        (pss_one (ps_ret (pe_tup (pa_cons (pe_tup (pa_cons pe_str (pa_cons pe_non (pa_cons pe_non (pa_cons (pv 1) pa_nil))))) pa_nil))))
        pss_nil)
      (pss_one (ps_ret (pe_tupleOf (by rfl) T.tuple (pe_lc (own := [("at", 3)]) (g := gName 3) (tt := tYes) rfl scEF.nd (pi_range2 (by rfl) T.range (pa_cons (pe_fld (pv 0) rfl) (pa_cons (pv 2) pa_nil))) (blkOk_by (own := [("at", 3)]) (N := ["self", "many", "last", "at"]) (sc := defScope sEFrames) (by decide +kernel)) (fun _ _ _ _ _ => pg_name (i := 3) scEF.nd rfl (Or.inl rfl)) (fun _ _ _ _ _ => pts_nil) (fun _ _ _ _ _ => (pe_tup (pa_cons pe_str (pa_cons (pv 3) (pa_cons (pe_ix (ix_listK (K := K) rfl) (pe_fldK (K := K) rfl (pv 0) rfl) (pv 3) (fun _ _ => rfl)) (pa_cons (pv 1) pa_nil))))))))))))), ?_⟩
    refine ⟨_, rfl, e, C, dx, _, _, rfl, he, T.cl, T.nT, rfl, t, _, rfl, .inl (SqL.of ht), ?_⟩
    rw [List.length_map]
    refine ⟨_, rfl, e, C, dx, _, _, rfl, he, T.cl, T.nA, rfl, _, _, rfl, rfl, _, rfl, e, C, dx, _, _, rfl, he, T.cl, T.nO, rfl, o, _, rfl, .inl (SqL.of ho), _, _, rfl, ?_⟩
    rw [List.length_map]
    have hlast : (if (E.out.length : Int) < (E.ans : Int) + 3 then (E.out.length : Int) else (E.ans : Int) + 3) = (E.last : Int) := by
      unfold ES.last
      split <;> omega
    rw [hlast]
    refine ⟨_, rfl, e, C, dx, _, _, rfl, he, T.cl, T.nA, rfl, _, rfl, rfl, _, rfl, ?_⟩
    refine ite2 (fun h1 => ?_) (fun h1 => ?_)
    · have h1 : V.int (E.ans : Int) = V.int (E.last : Int) := of_decide_eq_true h1
      have h2 : E.ans = E.last := Int.ofNat.inj (V.int.inj h1)
      have hfr : E.frames = [⟨none, E.told.length⟩] := by unfold ES.frames; rw [if_pos h2]
      refine ⟨_, rfl, (by show 4 ≤ sizeLine; decide), fun a ha => ⟨(by show 1 ≤ sizeLine; decide), fun p hp => ?_⟩⟩
      have hp0 : H p = none := by
        cases q : H p with
        | none => rfl
        | some u => rw [upd_ne (ne_of_none q ha)] at hp; rw [q] at hp; cases hp
      have nap : a ≠ p := ne_of_none upd_same hp
      refine k p [a] _ hp0 (fun b u z => by rw [upd_ne (ne_of_none z hp0), upd_ne (ne_of_none z ha)]; exact z) upd_same (by rw [hfr]; rfl) fun i a' f' e1 e2 => ?_
      rw [hfr] at e2
      match i, e1, e2 with
      | 0, e1, e2 =>
        cases Option.some.inj e1
        cases Option.some.inj e2
        show upd (upd H a _) p _ a = _
        rw [upd_ne nap]
        exact upd_same
      | i + 1, e1, _ => simp at e1
    · have h1 : ¬ V.int (E.ans : Int) = V.int (E.last : Int) := fun z => h1 (decide_eq_true z)
      have h2 : ¬ E.ans = E.last := fun z => h1 (by rw [← z])
      have hlo : E.last ≤ E.out.length := Nat.min_le_right _ _
      have hfr : E.frames = (List.range (E.last - E.ans)).map fun i => ⟨some (E.ans + i, E.out.getD (E.ans + i) 0), E.told.length⟩ := by unfold ES.frames; rw [if_neg h2]
      refine ⟨_, rfl, e, C, dx, _, _, rfl, he, T.cl, T.nA, rfl, _, rfl, _, _, rfl, ⟨by omega, by omega, by omega, by omega⟩, fun D hD => ?_⟩
      have en : ((E.last : Int) - (E.ans : Int)).toNat = E.last - E.ans := by omega
      rw [en]
      refine lc_range (lo := (E.ans : Int)) (n := E.last - E.ans) (fun i H2 => ∃ as : List Addr, as.length = i ∧ Same H H2 ∧ H2 D = some (.lst (as.map V.ref)) ∧ ∀ (j : Nat) a, as[j]? = some a → FrAt H2 a ⟨some (E.ans + j, E.out.getD (E.ans + j) 0), E.told.length⟩)
        ⟨[], rfl, fun b u z => by rw [upd_ne (ne_of_none z hD)]; exact z, upd_same, fun j a z => by simp at z⟩ ?_ ?_
      · rintro i H2 hi ⟨as, hla, s2, hd2, hat⟩
        have hx : E.ans + i < E.out.length := by omega
        refine ⟨rfl, _, rfl, _, rfl, e, C, dx, _, _, rfl, s2 _ _ he, T.cl, T.nO, rfl, _, rfl, o, _, _, V.int (E.out.getD (E.ans + i) 0), rfl, rfl, SqL.of (s2 _ _ ho), at_of (j := E.ans + i) (by omega) (by rw [List.getElem?_map, List.getD_eq_getElem?_getD, List.getElem?_eq_getElem hx]; rfl), _, rfl, (by show 4 ≤ sizeLine; decide), fun a ha => ?_⟩
        have naD : D ≠ a := ne_of_none hd2 ha
        refine ⟨as.map V.ref, by rw [upd_ne naD]; exact hd2, small1000 (by rw [List.length_map]; have : E.last ≤ E.ans + 3 := Nat.min_le_left _ _; omega), as ++ [a], by rw [List.length_append, hla]; rfl, fun b u z => ?_, by rw [upd_same, List.map_append]; rfl, fun j a' z => ?_⟩
        · rw [upd_ne (ne_of_none z hD), upd_ne (ne_of_none (s2 _ _ z) ha)]
          exact s2 _ _ z
        · by_cases hj : j < as.length
          · rw [List.getElem?_append_left hj] at z
            have q := hat j a' z
            show upd _ D _ a' = _
            rw [upd_ne (fun w => by rw [w] at q; rw [q] at hd2; cases hd2), upd_ne (ne_of_none q ha)]
            exact q
          · have ej : j = as.length := by
              have := (List.getElem?_eq_some_iff.mp z).1
              rw [List.length_append] at this
              simp at this
              omega
            subst ej
            rw [List.getElem?_append_right (Nat.le_refl _), Nat.sub_self] at z
            cases Option.some.inj z
            show upd _ D _ a = _
            rw [upd_ne naD.symm, upd_same, hla]
            show some (HO.tup [V.str "frame", V.int ((E.ans : Int) + (i : Int)), V.int (E.out.getD (E.ans + i) 0), V.int (E.told.length : Int)]) = some (HO.tup [V.str "frame", V.int ((E.ans + i : Nat) : Int), V.int (E.out.getD (E.ans + i) 0), V.int (E.told.length : Int)])
            rw [Int.natCast_add]
      · rintro H2 ⟨as, hla, s2, hd2, hat⟩
        refine .inl ⟨D, _, rfl, SqL.of hd2, fun p hp => ?_⟩
        refine k p as _ (s2.free hp) (fun b u z => by rw [upd_ne (ne_of_none (s2 _ _ z) hp)]; exact s2 _ _ z) upd_same (by rw [hfr, List.length_map, List.length_range, hla]) fun j a f e1 e2 => ?_
        have q := hat j a e1
        rw [hfr, List.getElem?_map] at e2
        have hj : j < E.last - E.ans := by rw [← hla]; exact (List.getElem?_eq_some_iff.mp e1).1
        rw [List.getElem?_range hj] at e2
        cases Option.some.inj e2
        show upd H2 p _ a = _
        rw [upd_ne (ne_of_none q hp)]
        exact q
end
end Mc
namespace Mc
open PySem L2 PySem.Spec PyProof.Rows
/-! ### the law's world -/
structure Ad where
  d : Addr
  L : Addr
  e : Nat → Addr
  o : Nat → Addr
  t : Nat → Addr
def Ad.M (A : Ad) : List Addr := [A.d, A.e 0, A.o 0, A.t 0, A.e 1, A.o 1, A.t 1]
structure IW (K : PySem.W.Frag) (C a : Addr) (A : Ad) (H : Hp) (E : Nat → ES) : Prop where
  dr : Dr K A.M A.d a H
  en : H A.L = some (.lst [.ref (A.e 0), .ref (A.e 1)])
  nl : A.L ∉ A.M
  nd : A.M.Nodup
  at_ : ∀ i, i < 2 → EndAt C H (A.e i) (A.o i) (A.t i) (E i)
def LtAt (H : Hp) (a : Addr) (x : Lt) : Prop := ∃ fa, H a = some (.tup [.int x.goal, .int x.ep, .ref fa]) ∧ FrAt H fa x.f
structure LtsAt (A : Ad) (H : Hp) (l : Addr) (ls : List Lt) : Prop where
  nl : l ∉ A.M
  at_ : ∃ as : List Addr, H l = some (.lst (as.map V.ref)) ∧ as.length = ls.length ∧ ∀ (i : Nat) a x, as[i]? = some a → ls[i]? = some x → LtAt H a x
def LI (K : PySem.W.Frag) (C a : Addr) (A : Ad) (n : Nat) (σ : L2.St) (H : Hp) : Prop := ∃ (E : Nat → ES) (ls : List Lt) (ep : Int) (l : Addr) (v5 v6 v7 v8 v9 v10 v11 v12 v13 v14 v15 v16 v17 : Option V),
  σ = [some (.ref a), some (.ref A.d), some (.ref A.L), some (.ref l), some (.int ep), v5, v6, v7, v8, v9, v10, v11, v12, v13, v14, v15, v16, v17] ∧ IW K C a A H E ∧ LtsAt A H l ls ∧ JJ E ls ep ∧ (∀ i, i < 2 → (E i).out.length ≤ n) ∧ ls.length ≤ 3 * n
structure TxL (K : PySem.W.Frag) (mg : Str → Option Value) (C : Addr) : Prop extends TxE K mg C where
  max : mg "max" = none
  any : mg "any" = none
  list : mg "list" = none
theorem i01 {i : Nat} (h : i < 2) : i = 0 ∨ i = 1 := by omega
theorem EndAt.keep {C : Addr} {H H' : Hp} {e o t : Addr} {E : ES} {N : List Addr} (h : EndAt C H e o t E) (k : Kp N H H') (he : e ∉ N) (ho : o ∉ N) (ht : t ∉ N) : EndAt C H' e o t E := by
  obtain ⟨⟨dx, a⟩, b, c, ne⟩ := h
  exact ⟨⟨dx, k _ _ a he⟩, k _ _ b ho, k _ _ c ht, ne⟩
theorem Ad.ne {A : Ad} (nd : A.M.Nodup) {i : Nat} (hi : i < 2) : (A.e i ≠ A.d ∧ A.o i ≠ A.d ∧ A.t i ≠ A.d) ∧ ∀ j, j < 2 → j ≠ i → ∀ x ∈ [A.e j, A.o j, A.t j], x ∉ [A.e i, A.o i, A.t i] := by
  have nd' : [A.d, A.e 0, A.o 0, A.t 0, A.e 1, A.o 1, A.t 1].Nodup := nd
  simp only [List.nodup_cons, List.mem_cons, List.not_mem_nil, or_false, not_or] at nd'
  obtain ⟨⟨h1, h2, h3, h4, h5, h6⟩, ⟨g1, g2, g3, g4, g5⟩, ⟨f1, f2, f3, f4⟩, ⟨c1, c2, c3⟩, ⟨b1, b2⟩, b3, _⟩ := nd'
  rcases i01 hi with rfl | rfl
  · refine ⟨⟨Ne.symm h1, Ne.symm h2, Ne.symm h3⟩, fun j hj hn x hx => ?_⟩
    have e : j = 1 := by omega
    subst e
    simp only [List.mem_cons, List.not_mem_nil, or_false] at hx
    simp only [List.mem_cons, List.not_mem_nil, or_false, not_or]
    rcases hx with rfl | rfl | rfl
    · exact ⟨Ne.symm g3, Ne.symm f2, Ne.symm c1⟩
    · exact ⟨Ne.symm g4, Ne.symm f3, Ne.symm c2⟩
    · exact ⟨Ne.symm g5, Ne.symm f4, Ne.symm c3⟩
  · refine ⟨⟨Ne.symm h4, Ne.symm h5, Ne.symm h6⟩, fun j hj hn x hx => ?_⟩
    have e : j = 0 := by omega
    subst e
    simp only [List.mem_cons, List.not_mem_nil, or_false] at hx
    simp only [List.mem_cons, List.not_mem_nil, or_false, not_or]
    rcases hx with rfl | rfl | rfl
    · exact ⟨g3, g4, g5⟩
    · exact ⟨f2, f3, f4⟩
    · exact ⟨c1, c2, c3⟩
theorem Ad.inM {A : Ad} {i : Nat} (hi : i < 2) : ∀ x ∈ [A.e i, A.o i, A.t i], x ∈ A.M := by
  intro x hx
  show x ∈ [A.d, A.e 0, A.o 0, A.t 0, A.e 1, A.o 1, A.t 1]
  simp only [List.mem_cons, List.not_mem_nil, or_false] at hx ⊢
  rcases i01 hi with rfl | rfl <;> rcases hx with rfl | rfl | rfl <;> simp
theorem Ad.dM {A : Ad} : ∀ x ∈ [A.d], x ∈ A.M := by
  intro x hx
  rw [List.mem_singleton.mp hx]
  exact List.mem_cons_self
section
variable {K : PySem.W.Frag} {C a : Addr} {A : Ad} {H H' : Hp} {E : Nat → ES} {l : Addr} {ls : List Lt}
theorem IW.same (I : IW K C a A H E) (s : Same H H') : IW K C a A H' E :=
  ⟨I.dr.same s, s _ _ I.en, I.nl, I.nd, fun i hi => (I.at_ i hi).keep (N := []) (Kp.same s) (by simp) (by simp) (by simp)⟩
theorem IW.draw (I : IW K C a A H E) (D : Dr K A.M A.d a H') (k : Kp [A.d] H H') : IW K C a A H' E := by
  refine ⟨D, k _ _ I.en fun z => I.nl (Ad.dM _ z), I.nl, I.nd, fun i hi => ?_⟩
  obtain ⟨⟨h1, h2, h3⟩, _⟩ := Ad.ne I.nd hi
  exact (I.at_ i hi).keep k (fun z => h1 (List.mem_singleton.mp z)) (fun z => h2 (List.mem_singleton.mp z)) (fun z => h3 (List.mem_singleton.mp z))
theorem IW.step (I : IW K C a A H E) {i : Nat} (hi : i < 2) {X : ES} (h : EndAt C H' (A.e i) (A.o i) (A.t i) X) (k : Kp [A.e i, A.o i, A.t i] H H') : IW K C a A H' (setE E i X) := by
  obtain ⟨⟨h1, h2, h3⟩, h4⟩ := Ad.ne I.nd hi
  have kM := k.mono (Ad.inM hi)
  refine ⟨I.dr.keep kM fun o z => k _ _ z ?_, k _ _ I.en fun z => I.nl (Ad.inM hi _ z), I.nl, I.nd, fun j hj => ?_⟩
  · simp only [List.mem_cons, List.not_mem_nil, or_false, not_or]
    exact ⟨Ne.symm h1, Ne.symm h2, Ne.symm h3⟩
  · by_cases e : j = i
    · subst e
      rw [setE_same]
      exact h
    · rw [setE_ne _ _ e]
      have q := h4 j hj e
      exact (I.at_ j hj).keep k (q _ (by simp)) (q _ (by simp)) (q _ (by simp))
theorem IW.tup (I : IW K C a A H E) {b : Addr} {xs : List V} (h : H b = some (.tup xs)) : b ∉ A.M := by
  intro hb
  have hb' : b ∈ [A.d, A.e 0, A.o 0, A.t 0, A.e 1, A.o 1, A.t 1] := hb
  obtain ⟨⟨k, hd⟩, _, _⟩ := I.dr
  obtain ⟨⟨dx0, a0⟩, b0, c0, _⟩ := I.at_ 0 (by decide)
  obtain ⟨⟨dx1, a1⟩, b1, c1, _⟩ := I.at_ 1 (by decide)
  simp only [List.mem_cons, List.not_mem_nil, or_false] at hb'
  rcases hb' with rfl | rfl | rfl | rfl | rfl | rfl | rfl
  · rw [h] at hd; cases hd
  · rw [h] at a0; cases a0
  · rw [h] at b0; cases b0
  · rw [h] at c0; cases c0
  · rw [h] at a1; cases a1
  · rw [h] at b1; cases b1
  · rw [h] at c1; cases c1
theorem LtAt.keep (I : IW K C a A H E) (k : Kp A.M H H') {b : Addr} {x : Lt} (h : LtAt H b x) : LtAt H' b x := by
  obtain ⟨fa, h1, h2⟩ := h
  exact ⟨fa, k _ _ h1 (I.tup h1), k _ _ h2 (I.tup h2)⟩
theorem LtsAt.keep (I : IW K C a A H E) (k : Kp A.M H H') (h : LtsAt A H l ls) : LtsAt A H' l ls := by
  obtain ⟨nl, as, h1, h2, h3⟩ := h
  exact ⟨nl, as, k _ _ h1 nl, h2, fun i b x e1 e2 => (h3 i b x e1 e2).keep I k⟩
/-- a fresh place is none of those that change -/
theorem IW.fresh (I : IW K C a A H E) {p : Addr} (h : H p = none) : p ∉ A.M := by
  intro hb
  have hb' : p ∈ [A.d, A.e 0, A.o 0, A.t 0, A.e 1, A.o 1, A.t 1] := hb
  obtain ⟨⟨k, hd⟩, _, _⟩ := I.dr
  obtain ⟨⟨dx0, a0⟩, b0, c0, _⟩ := I.at_ 0 (by decide)
  obtain ⟨⟨dx1, a1⟩, b1, c1, _⟩ := I.at_ 1 (by decide)
  simp only [List.mem_cons, List.not_mem_nil, or_false] at hb'
  rcases hb' with rfl | rfl | rfl | rfl | rfl | rfl | rfl
  · rw [h] at hd; cases hd
  · rw [h] at a0; cases a0
  · rw [h] at b0; cases b0
  · rw [h] at c0; cases c0
  · rw [h] at a1; cases a1
  · rw [h] at b1; cases b1
  · rw [h] at c1; cases c1
end
theorem ends_at {A : Ad} {j : Nat} (hj : j < 2) : atI [V.ref (A.e 0), V.ref (A.e 1)] ((j : Nat) : Int) = some (.ref (A.e j)) := by
  rcases i01 hj with rfl | rfl <;> rfl
theorem via {α : Type} {R G : α → Prop} {g : Prop} (h : (∀ x, R x → G x) → g) (t : ∀ x, R x → G x) : g := h t
/-! ### letters as data -/
def Fr.pd (f : Fr) : PyData := .tuple [.str "frame", (match f.nw with | none => .none | some p => .int p.1), (match f.nw with | none => .none | some p => .int p.2), .int f.many]
def Lt.pd (x : Lt) : PyData := .tuple [.int x.goal, .int x.ep, x.f.pd]
theorem Fr.dp {K : PySem.W.Frag} {H : Hp} {a : Addr} {f : Fr} (h : FrAt H a f) : Dp K H (.ref a) f.pd := by
  refine .tup (SqT.of h) ?_
  unfold Fr.vs Fr.num Fr.word
  cases f.nw with
  | none => exact .cons (.str _) (.cons .non (.cons .non (.cons (.int _) .nil)))
  | some p => exact .cons (.str _) (.cons (.int _) (.cons (.int _) (.cons (.int _) .nil)))
theorem Lt.dp {K : PySem.W.Frag} {H : Hp} {a : Addr} {x : Lt} (h : LtAt H a x) : Dp K H (.ref a) x.pd := by
  obtain ⟨fa, h1, h2⟩ := h
  exact .tup (SqT.of h1) (.cons (.int _) (.cons (.int _) (.cons (Fr.dp h2) .nil)))
theorem dpAll_lts {K : PySem.W.Frag} {H : Hp} : ∀ {as : List Addr} {ls : List Lt}, as.length = ls.length → (∀ (i : Nat) a x, as[i]? = some a → ls[i]? = some x → LtAt H a x) → DpAll K H (as.map V.ref) (ls.map Lt.pd)
  | [], [], _, _ => .nil
  | a :: as, x :: ls, h, k => .cons (Lt.dp (k 0 a x rfl rfl)) (dpAll_lts (Nat.succ.inj h) fun i b y e1 e2 => k (i + 1) b y e1 e2)
  | [], _ :: _, h, _ => nomatch h
  | _ :: _, [], h, _ => nomatch h
theorem Fr.lay (f : Fr) : PyData.canLay0 f.pd = true ∧ PyData.depth f.pd = 1 := by
  unfold Fr.pd
  have hs : PyData.canLay0 (.str "frame") = true := by rw [PyData.canLay0]; decide +kernel
  cases f.nw <;> exact ⟨by simp [PyData.canLay0, PyData.canLayAll0] at hs ⊢; exact hs, by simp [PyData.depth, PyData.depthAll]⟩
theorem Lt.lay (x : Lt) : PyData.canLay0 x.pd = true ∧ PyData.depth x.pd = 2 := by
  obtain ⟨h1, h2⟩ := Fr.lay x.f
  unfold Lt.pd
  exact ⟨by simp [PyData.canLay0, PyData.canLayAll0, h1], by simp [PyData.depth, PyData.depthAll, h2]⟩
theorem lts_lay : ∀ ls : List Lt, PyData.canLayAll0 (ls.map Lt.pd) = true ∧ PyData.depthAll (ls.map Lt.pd) ≤ 2
  | [] => ⟨rfl, by simp [PyData.depthAll]⟩
  | x :: ls => by
    obtain ⟨h1, h2⟩ := lts_lay ls
    obtain ⟨h3, h4⟩ := x.lay
    exact ⟨by simp [PyData.canLayAll0, h1, h3], by simp only [List.map_cons, PyData.depthAll, h4]; omega⟩
theorem lts_shaped (ls : List Lt) : SeqAt.shaped (.list (ls.map Lt.pd)) = true := by
  obtain ⟨h1, h2⟩ := lts_lay ls
  unfold SeqAt.shaped
  have : PyData.depth (.list (ls.map Lt.pd)) = PyData.depthAll (ls.map Lt.pd) + 1 := by rw [PyData.depth]
  rw [this, PyData.canLay0, h1, decide_eq_true (by omega)]
  rfl
def pdB (told : List Int) (ans : Nat) (ep : Int) : PyData := .tuple [pdI told, .int ans, .int ep]
theorem pdB_shaped (told : List Int) (ans : Nat) (ep : Int) : SeqAt.shaped (pdB told ans ep) = true := by
  have h := shaped_ints told
  unfold SeqAt.shaped at h ⊢
  rw [Bool.and_eq_true, decide_eq_true_eq] at h
  have hd : PyData.depth (pdI told) = 1 := by unfold pdI; rw [PyData.depth, depth_ints]
  rw [Bool.and_eq_true, decide_eq_true_eq]
  unfold pdB
  exact ⟨by simp [PyData.canLay0, PyData.canLayAll0, h.1], by simp [PyData.depth, PyData.depthAll, hd]⟩
theorem pdB_eqv (told : List Int) (ans : Nat) (ep : Int) : PyData.eqv (pdB told ans ep) (pdB told ans ep) = true := by
  unfold pdB
  rw [PyData.eqv, PyData.eqvAll, PyData.eqvAll, PyData.eqvAll, PyData.eqvAll, eqv_ints, PyData.eqv, PyData.eqv]
  simp
theorem setE_id (E : Nat → ES) (i : Nat) : setE E i (E i) = E := by
  funext j
  unfold setE
  split
  · rename_i h; rw [h]
  · rfl
theorem cutTo (xs : List Int) (n : Nat) : cutV (xs.map V.int) none (some (n : Int)) = (xs.take n).map V.int := by
  unfold cutV
  rw [HT.sIx_none, HT.sIx_nat, List.drop_zero, Nat.sub_zero, List.length_map, ← List.map_take]
  by_cases h : n ≤ xs.length
  · rw [Nat.min_eq_left h]
  · rw [Nat.min_eq_right (by omega), List.take_of_length_le (Nat.le_refl _), List.take_of_length_le (by omega)]
/-! ### a quiet turn, one end at a time -/
def quietAt (ep : Int) (E : Nat → ES) (q : Nat) : Nat → ES := setE E (1 - q) (recv ep (E q) (E (1 - q)) (E q).frames.length)
theorem JJ.recv {E : Nat → ES} {ep : Int} (J : JJ E [] ep) {q : Nat} (hq : q < 2) {k : Nat} (hk : k ≤ (E q).frames.length) : RK ep (E q) (E (1 - q)) (recv ep (E q) (E (1 - q)) k) k := by
  have z := two hq
  have p1 := J.pre (1 - q) z.1
  rw [z.2.2] at p1
  have a1 := J.ans (1 - q) z.1
  rw [z.2.2] at a1
  exact recv_ok p1 (J.ans q hq) (J.old _ z.1) a1 (pre_len (J.pre q hq)) k hk
theorem JJ.quietAt {E : Nat → ES} {ep : Int} (J : JJ E [] ep) {q : Nat} (hq : q < 2) : JJ (quietAt ep E q) [] ep := by
  have z := two hq
  have r := J.recv hq (Nat.le_refl _)
  unfold Mc.quietAt
  generalize Mc.recv ep (E q) (E (1 - q)) (E q).frames.length = Y at r ⊢
  have ei : ∀ i, i < 2 → i = q ∨ i = 1 - q := fun i hi => by omega
  refine ⟨fun i hi => ?_, fun i hi => ?_, fun i hi => ?_, fun x hx => (nomatch hx), fun x hx => (nomatch hx), fun x hx => (nomatch hx)⟩
  · rcases ei i hi with rfl | rfl
    · rw [setE_ne _ _ (Ne.symm z.2.1), setE_same, r.out]
      exact J.pre i hq
    · rw [setE_same, z.2.2, setE_ne _ _ (Ne.symm z.2.1)]
      exact r.pre
  · rcases ei i hi with rfl | rfl
    · rw [setE_ne _ _ (Ne.symm z.2.1), setE_same]
      exact Nat.le_trans (J.ans i hq) r.up
    · rw [setE_same, z.2.2, setE_ne _ _ (Ne.symm z.2.1)]
      exact r.le
  · rcases ei i hi with rfl | rfl
    · rw [setE_ne _ _ (Ne.symm z.2.1)]
      exact J.old i hq
    · rw [setE_same]
      exact r.old
theorem quietAt_out {E : Nat → ES} {ep : Int} (J : JJ E [] ep) {q : Nat} (hq : q < 2) (i : Nat) : (Mc.quietAt ep E q i).out = (E i).out := by
  have r := J.recv hq (Nat.le_refl _)
  unfold Mc.quietAt setE
  split
  · rename_i h
    rw [h, r.out]
  · rfl
def stk (ep : Int) (E : Nat → ES) : Nat → (Nat → ES)
  | 0 => E
  | k + 1 => quietAt ep (stk ep E k) k
theorem stk_J {E : Nat → ES} {ep : Int} (J : JJ E [] ep) : ∀ k, k ≤ 2 → JJ (stk ep E k) [] ep ∧ ∀ i, (stk ep E k i).out = (E i).out
  | 0, _ => ⟨J, fun _ => rfl⟩
  | k + 1, h => by
    obtain ⟨a, b⟩ := stk_J J k (by omega)
    exact ⟨a.quietAt (by omega), fun i => (quietAt_out a (by omega) i).trans (b i)⟩
def Fr.wI (f : Fr) : Int := (f.nw.map (·.2)).getD 0
theorem Fr.word_some {f : Fr} (h : f.nw.isSome = true) : f.word = .int f.wI := by
  unfold Fr.word Fr.wI
  cases e : f.nw with
  | none => rw [e] at h; cases h
  | some p => rfl
theorem Fr.num_none {f : Fr} : (!decide (f.num = .non)) = f.nw.isSome := by
  unfold Fr.num
  cases e : f.nw with
  | none => rfl
  | some p => rfl
/-- the first i frames that have words -/
def sel (as : List Addr) (fs : List Fr) (i : Nat) : List (Addr × Fr) := ((as.zip fs).take i).filter fun q => q.2.nw.isSome
theorem sel_succ {as : List Addr} {fs : List Fr} {i : Nat} {a : Addr} {f : Fr} (ha : as[i]? = some a) (hf : fs[i]? = some f) : sel as fs (i + 1) = sel as fs i ++ (if f.nw.isSome = true then [(a, f)] else []) := by
  have e : (as.zip fs)[i]? = some (a, f) := by rw [List.getElem?_zip_eq_some]; exact ⟨ha, hf⟩
  unfold sel
  rw [List.take_add_one, e, List.filter_append]
  congr 1
  show List.filter _ [(a, f)] = _
  cases h : f.nw.isSome <;> simp [h]
theorem sel_all {as : List Addr} {fs : List Fr} (h : as.length = fs.length) : (sel as fs as.length).map (·.2) = fs.filter fun f => f.nw.isSome := by
  unfold sel
  rw [List.take_of_length_le (by rw [List.length_zip]; omega)]
  have e : (as.zip fs).map (·.2) = fs := List.map_snd_zip (by omega)
  conv => rhs; rw [← e]
  rw [List.filter_map]
  rfl
theorem sel_len (as : List Addr) (fs : List Fr) (i : Nat) : (sel as fs i).length ≤ i := by
  unfold sel
  refine Nat.le_trans (List.length_filter_le _ _) ?_
  rw [List.length_take]
  omega
theorem cut3 (xs : List Int) (n : Nat) : cutV (xs.map V.int) (some (n : Int)) (some ((n : Int) + 3)) = ((xs.drop n).take 3).map V.int := by
  unfold cutV
  have e : (n : Int) + 3 = ((n + 3 : Nat) : Int) := by omega
  rw [e, HT.sIx_nat, HT.sIx_nat, List.length_map, ← List.map_drop, ← List.map_take]
  congr 1
  by_cases h : n ≤ xs.length
  · rw [Nat.min_eq_left h]
    by_cases h2 : n + 3 ≤ xs.length
    · rw [Nat.min_eq_left h2]
      congr 1
      omega
    · rw [Nat.min_eq_right (by omega), List.take_of_length_le (by rw [List.length_drop]; omega), List.take_of_length_le (by rw [List.length_drop]; omega)]
  · rw [Nat.min_eq_right (show xs.length ≤ n + 3 by omega), Nat.min_eq_right (show xs.length ≤ n by omega), Nat.sub_self, List.take_zero, List.drop_eq_nil_of_le (by omega), List.take_nil]
theorem setE_len {E : Nat → ES} {i j n : Nat} {X : ES} (h : (E j).out.length ≤ n) (hx : X.out.length ≤ n) : (setE E i X j).out.length ≤ n := by
  unfold setE
  split
  · exact hx
  · exact h
section
variable {P : Program} {w : World} {K : PySem.W.Frag} {mg : Str → Option Value} {base : Heap}
abbrev s_law : Stmt := top 6
theorem sc_law : FnScope ["script", "draw", "ends", "letters", "epoch", "turn", "kind", "at", "frames", "words", "place", "goal", "old", "frame", "end", "before", "one", "other"] ["script"] (defScope s_law) := ⟨rfl, rfl, rfl, by decide +kernel, rfl, by decide +kernel, by decide +kernel⟩

def spLaw (K : PySem.W.Frag) : Sp := fun vs H Q _ => ∃ (a : Addr) (ns : List Int), vs = [.ref a] ∧ SqL K H a (ns.map V.int) ∧ ns.length ≤ 63 ∧ ∀ H', Q (.bl true) H'
theorem ok_law {f C : Addr} {fd : FuncData} (F : Fun K "law" "law" s_law f fd) (T : TxL K mg C) (c__law_take : Cal P w K mg base 2 "_law_take" ["draw", "many"] (spTake K)) (c_End : CalI P w K mg base C 1 "End" ["self"] (spEInit C))
    (c_End_put : CalM P w K mg base C 1 "put" ["self", "word"] (spEPut C)) (c_End_frames : CalM P w K mg base C 1 "frames" ["self"] (spEFrames C)) (c_End_hear : CalM P w K mg base C 1 "hear" ["self", "epoch", "frame"] (spEHear C)) :
    FnOk P w K mg base CX0 4 f fd ["script"] (spLaw K) := by
  refine F.ok sc_law (fun vs H Q E h => ?_) (fun cdv A outer s H vs Q E hr h => ?_)
  · obtain ⟨a, ns, rfl, _⟩ := h
    rfl
  · obtain ⟨a, ns, rfl, hS, hlen, k⟩ := h
    refine ⟨_, (pss_cons (ps_set (i := 1) sc_law.nd rfl (Or.inl rfl) (pe_lst (pa_cons (pv 0) (pa_cons pe_int pa_nil))))
        (pss_cons (ps_asg (pe_tup (pa_cons (pe_lst (pa_cons (pe_calI0 c_End (hr.mono (by decide)) rfl) (pa_cons (pe_calI0 c_End (hr.mono (by decide)) rfl) pa_nil))) (pa_cons (pe_lst pa_nil) (pa_cons pe_int pa_nil)))) (pg_tup rfl (pgs_cons (pg_name (i := 2) sc_law.nd rfl (Or.inr rfl)) (pgs_cons (pg_name (i := 3) sc_law.nd rfl (Or.inl rfl)) (pgs_cons (pg_name (i := 4) sc_law.nd rfl (Or.inr rfl)) pgs_nil)))))
        (pss_cons (ps_for PassesOwn.never rfl (pi_range1 (by rfl) T.range (pa_cons (pe_op op_add pe_int (pe_cal c__law_take (hr.mono (by decide)) rfl (pa_cons (pv 1) (pa_cons pe_int pa_nil)))) pa_nil)) (pg_name (i := 5) sc_law.nd rfl (Or.inl rfl))
          (pss_cons (ps_asg (pe_tup (pa_cons (pe_cal c__law_take (hr.mono (by decide)) rfl (pa_cons (pv 1) (pa_cons pe_int pa_nil))) (pa_cons (pe_cal c__law_take (hr.mono (by decide)) rfl (pa_cons (pv 1) (pa_cons pe_int pa_nil))) pa_nil))) (pg_tup rfl (pgs_cons (pg_name (i := 6) sc_law.nd rfl (Or.inl rfl)) (pgs_cons (pg_name (i := 7) sc_law.nd rfl (Or.inr rfl)) pgs_nil))))
          (Evl.pss_cut (ps_if (pt_cmpR op_eq (pv 6) pe_int (nomark _))
            (pss_one (ps_expr (pe_calM (pe_ix ix_list (pv 2) (pv 7) (fun _ _ => rfl)) T.cl c_End_put (hr.mono (by decide)) (pa_cons (pe_cal c__law_take (hr.mono (by decide)) rfl (pa_cons (pv 1) (pa_cons pe_int pa_nil))) pa_nil))))
            (pss_one (ps_if (pt_cmpR op_eq (pv 6) pe_int (nomark _))
              (pss_cons (ps_set (i := 8) sc_law.nd rfl (Or.inl rfl) (pe_calM0 (pe_ix ix_list (pv 2) (pv 7) (fun _ _ => rfl)) T.cl c_End_frames (hr.mono (by decide))))
              (pss_cons (ps_setLc (i := 9) (own := [("frame", 13)]) (g := gName 13) rfl sc_law.nd rfl rfl (sw_true rfl rfl rfl (by decide +kernel)) (pi_tup (pv 8)) (blkOk_by (own := [("frame", 13)]) (N := ["script", "draw", "ends", "letters", "epoch", "turn", "kind", "at", "frames", "words", "place", "goal", "old", "frame", "end", "before", "one", "other"]) (sc := defScope s_law) (by decide +kernel)) (fun _ _ _ _ _ => pg_name (i := 13) sc_law.nd rfl (Or.inl rfl)) (fun _ _ _ _ _ => pts_one (pt_cmpR op_notN (pe_ix (ix_tupK (K := K) rfl) (pv 13) pe_int (fun _ _ => rfl)) pe_non (nomark _))) (fun _ _ _ _ _ => (pv 13)))
              (pss_cons (ps_if (PW.pt (pw_or (pt_cmpR op_gt (pe_callB call_len_seq (by rfl) T.len PySem.boot_len (pa_cons (pv 9) pa_nil)) pe_int (nomark _)) (pw_or1 (pt_cmpR (op_neD hr.units) (pe_lc (own := [("frame", 13)]) (g := gName 13) (tt := tYes) rfl sc_law.nd (pi_list (pv 9)) (blkOk_by (own := [("frame", 13)]) (N := ["script", "draw", "ends", "letters", "epoch", "turn", "kind", "at", "frames", "words", "place", "goal", "old", "frame", "end", "before", "one", "other"]) (sc := defScope s_law) (by decide +kernel)) (fun _ _ _ _ _ => pg_name (i := 13) sc_law.nd rfl (Or.inl rfl)) (fun _ _ _ _ _ => pts_nil) (fun _ _ _ _ _ => (pe_ix (ix_tupK (K := K) rfl) (pv 13) pe_int (fun _ _ => rfl)))) (pe_slice sl_list (pe_fld (pe_ix ix_list (pv 2) (pv 7) (fun _ _ => rfl)) rfl) (po_some (pe_fld (pe_ix ix_list (pv 2) (pv 7) (fun _ _ => rfl)) rfl)) (po_some (pe_op op_add (pe_fld (pe_ix ix_list (pv 2) (pv 7) (fun _ _ => rfl)) rfl) pe_int))) (nomark _)))))
                (pss_one (ps_ret pe_bl))
                pss_nil)
              (pss_cons (ps_if (PW.pt (pw_or (pt_val (pe_callB (cr_any rfl) (by rfl) T.any boot_any (pa_cons (pe_lc (own := [("frame", 13)]) (g := gName 13) (tt := tYes) rfl sc_law.nd (pi_tup (pv 8)) (blkOk_by (own := [("frame", 13)]) (N := ["script", "draw", "ends", "letters", "epoch", "turn", "kind", "at", "frames", "words", "place", "goal", "old", "frame", "end", "before", "one", "other"]) (sc := defScope s_law) (by decide +kernel)) (fun _ _ _ _ _ => pg_name (i := 13) sc_law.nd rfl (Or.inl rfl)) (fun _ _ _ _ _ => pts_nil) (fun _ _ _ _ _ => (pe_cmpR op_ne (pe_ix (ix_tupK (K := K) rfl) (pv 13) pe_int (fun _ _ => rfl)) (pe_callB (call_len_seqK (K := K) rfl) (by rfl) T.len PySem.boot_len (pa_cons (pe_fldK (K := K) rfl (pe_ix (ix_listK (K := K) rfl) (pv 2) (pv 7) (fun _ _ => rfl)) rfl) pa_nil)) (nomark _)))) pa_nil))) (pw_or1 (pt_cmpR op_ne (pe_callB call_len_seq (by rfl) T.len PySem.boot_len (pa_cons (pv 8) pa_nil)) (pe_callB (call_max2 rfl) (by rfl) T.max boot_max (pa_cons pe_int (pa_cons (pe_callB call_len_seq (by rfl) T.len PySem.boot_len (pa_cons (pv 9) pa_nil)) pa_nil))) (nomark _)))))
                (pss_one (ps_ret pe_bl))
                pss_nil)
              (pss_one (ps_set (i := 3) sc_law.nd rfl (Or.inl rfl) (pe_op op_cat (pv 3) (pe_lc (own := [("frame", 13)]) (g := gName 13) (tt := tYes) rfl sc_law.nd (pi_tup (pv 8)) (blkOk_by (own := [("frame", 13)]) (N := ["script", "draw", "ends", "letters", "epoch", "turn", "kind", "at", "frames", "words", "place", "goal", "old", "frame", "end", "before", "one", "other"]) (sc := defScope s_law) (by decide +kernel)) (fun _ _ _ _ _ => pg_name (i := 13) sc_law.nd rfl (Or.inl rfl)) (fun _ _ _ _ _ => pts_nil) (fun _ _ _ _ _ => (pe_tup (pa_cons (pe_op op_sub pe_int (pv 7)) (pa_cons (pv 4) (pa_cons (pv 13) pa_nil)))))))))))))
              (pss_one (ps_if (PW.pt (pw_and (pt_cmpR op_eq (pv 6) pe_int (nomark _)) (pw_and1 (pt_cmpR op_eq (pe_cal c__law_take (hr.mono (by decide)) rfl (pa_cons (pv 1) (pa_cons pe_int pa_nil))) pe_int (nomark _)))))
                (pss_one (ps_aug (i := 4) sc_law.nd rfl (Or.inr rfl) pe_int ip_add))
                (pss_one (ps_if (pt_cmpR (op_neD hr.units) (pv 3) (pe_lst pa_nil) (nomark _))
                  (pss_cons (ps_set (i := 10) sc_law.nd rfl (Or.inl rfl) (pe_cal c__law_take (hr.mono (by decide)) rfl (pa_cons (pv 1) (pa_cons (pe_callB call_len_seq (by rfl) T.len PySem.boot_len (pa_cons (pv 3) pa_nil)) pa_nil))))
                  (pss_cons (ps_asg (pe_ix ix_list (pv 3) (pv 10) (fun _ _ => rfl)) (pg_tup rfl (pgs_cons (pg_name (i := 11) sc_law.nd rfl (Or.inl rfl)) (pgs_cons (pg_name (i := 12) sc_law.nd rfl (Or.inl rfl)) (pgs_cons (pg_name (i := 13) sc_law.nd rfl (Or.inl rfl)) pgs_nil)))))
                  (Evl.pss_cut (ps_if (pt_cmpR op_gt (pe_cal c__law_take (hr.mono (by decide)) rfl (pa_cons (pv 1) (pa_cons pe_int pa_nil))) pe_int (nomark _))
                    (pss_one (ps_set (i := 3) sc_law.nd rfl (Or.inl rfl) (pe_op op_cat (pe_slice sl_list (pv 3) po_none (po_some (pv 10))) (pe_slice sl_list (pv 3) (po_some (pe_op op_add (pv 10) pe_int)) po_none))))
                    pss_nil)
                  (pss_cons (ps_set (i := 14) sc_law.nd rfl (Or.inl rfl) (pe_ix ix_list (pv 2) (pv 11) (fun _ _ => rfl)))
                  (pss_cons (ps_set (i := 15) sc_law.nd rfl (Or.inl rfl) (pe_tup (pa_cons (pe_callTy call_list_of (by rfl) T.list boot_list (pa_cons (pe_fld (pv 14) rfl) pa_nil)) (pa_cons (pe_fld (pv 14) rfl) (pa_cons (pe_fld (pv 14) rfl) pa_nil)))))
                  (Evl.pss_cut (ps_if (pt_cmpR op_gt (pe_cal c__law_take (hr.mono (by decide)) rfl (pa_cons (pv 1) (pa_cons pe_int pa_nil))) pe_int (nomark _))
                    (pss_one (ps_expr (pe_calM (pv 14) T.cl c_End_hear (hr.mono (by decide)) (pa_cons (pv 12) (pa_cons (pv 13) pa_nil)))))
                    pss_nil)
                  (pss_cons (ps_if (PW.pt (pw_and (pt_cmpR op_lt (pv 12) (pe_ix ix_tup (pv 15) pe_int (fun _ _ => rfl)) (nomark _)) (pw_and1 (pt_cmpR (op_neD hr.units) (pe_tup (pa_cons (pe_fld (pv 14) rfl) (pa_cons (pe_fld (pv 14) rfl) (pa_cons (pe_fld (pv 14) rfl) pa_nil)))) (pv 15) (nomark _)))))
                    (pss_one (ps_ret pe_bl))
                    pss_nil)
                  (pss_one (ps_if (PW.pt (pw_or (pt_cmpR op_lt (pe_fld (pv 14) rfl) (pe_ix ix_tup (pv 15) pe_int (fun _ _ => rfl)) (nomark _)) (pw_or (pt_cmpR op_lt (pe_fld (pv 14) rfl) (pe_ix ix_tup (pv 15) pe_int (fun _ _ => rfl)) (nomark _)) (pw_or1 (pt_cmpR op_lt (pe_callB call_len_seq (by rfl) T.len PySem.boot_len (pa_cons (pe_fld (pv 14) rfl) pa_nil)) (pe_callB call_len_seq (by rfl) T.len PySem.boot_len (pa_cons (pe_ix ix_tup (pv 15) pe_int (fun _ _ => rfl)) pa_nil)) (nomark _))))))
                    (pss_one (ps_ret pe_bl))
                    pss_nil)))))))))
                  pss_nil)))))))
          (pss_one (ps_for PassesOwn.never rfl (pi_tup (pe_tup (pa_cons (pe_tup (pa_cons pe_int (pa_cons pe_int pa_nil))) (pa_cons (pe_tup (pa_cons pe_int (pa_cons pe_int pa_nil))) pa_nil)))) (pg_tup rfl (pgs_cons (pg_name (i := 16) sc_law.nd rfl (Or.inl rfl)) (pgs_cons (pg_name (i := 17) sc_law.nd rfl (Or.inl rfl)) pgs_nil)))
            (pss_one (ps_if (PW.pt (pw_or (pt_cmpR (op_neD hr.units) (pe_fld (pe_ix ix_list (pv 2) (pv 16) (fun _ _ => rfl)) rfl) (pe_slice sl_list (pe_fld (pe_ix ix_list (pv 2) (pv 17) (fun _ _ => rfl)) rfl) po_none (po_some (pe_callB call_len_seq (by rfl) T.len PySem.boot_len (pa_cons (pe_fld (pe_ix ix_list (pv 2) (pv 16) (fun _ _ => rfl)) rfl) pa_nil)))) (nomark _)) (pw_or1 (pt_cmpR op_gt (pe_fld (pe_ix ix_list (pv 2) (pv 16) (fun _ _ => rfl)) rfl) (pe_callB call_len_seq (by rfl) T.len PySem.boot_len (pa_cons (pe_fld (pe_ix ix_list (pv 2) (pv 17) (fun _ _ => rfl)) rfl) pa_nil)) (nomark _)))))
              (pss_one (ps_ret pe_bl))
              pss_nil)))))))
        (pss_cons (ps_for PassesOwn.never rfl (pi_range1 (by rfl) T.range (pa_cons (pe_op op_add (pe_op op_mul pe_int (pe_callB (call_max2 rfl) (by rfl) T.max boot_max (pa_cons (pe_callB call_len_seq (by rfl) T.len PySem.boot_len (pa_cons (pe_fld (pe_ix ix_list (pv 2) pe_int (fun _ _ => rfl)) rfl) pa_nil)) (pa_cons (pe_callB call_len_seq (by rfl) T.len PySem.boot_len (pa_cons (pe_fld (pe_ix ix_list (pv 2) pe_int (fun _ _ => rfl)) rfl) pa_nil)) pa_nil)))) pe_int) pa_nil)) (pg_name (i := 5) sc_law.nd rfl (Or.inl rfl))
          (pss_one (ps_for PassesOwn.never rfl (pi_tup (pe_tup (pa_cons pe_int (pa_cons pe_int pa_nil)))) (pg_name (i := 7) sc_law.nd rfl (Or.inr rfl))
            (pss_one (ps_for PassesOwn.never rfl (pi_tup (pe_calM0 (pe_ix ix_list (pv 2) (pv 7) (fun _ _ => rfl)) T.cl c_End_frames (hr.mono (by decide)))) (pg_name (i := 13) sc_law.nd rfl (Or.inl rfl))
              (pss_one (ps_expr (pe_calM (pe_ix ix_list (pv 2) (pe_op op_sub pe_int (pv 7)) (fun _ _ => rfl)) T.cl c_End_hear (hr.mono (by decide)) (pa_cons (pv 4) (pa_cons (pv 13) pa_nil))))))))))
        (pss_one (ps_ret (pe_and (pe_cmpR (op_eqD hr.units) (pe_fld (pe_ix ix_list (pv 2) pe_int (fun _ _ => rfl)) rfl) (pe_fld (pe_ix ix_list (pv 2) pe_int (fun _ _ => rfl)) rfl) (nomark _)) (pe_and (pe_cmpR (op_eqD hr.units) (pe_fld (pe_ix ix_list (pv 2) pe_int (fun _ _ => rfl)) rfl) (pe_fld (pe_ix ix_list (pv 2) pe_int (fun _ _ => rfl)) rfl) (nomark _)) (pe_one (pe_cmpR op_eq (pe_fld (pe_ix ix_list (pv 2) pe_int (fun _ _ => rfl)) rfl) (pe_callB call_len_seq (by rfl) T.len PySem.boot_len (pa_cons (pe_fld (pe_ix ix_list (pv 2) pe_int (fun _ _ => rfl)) rfl) pa_nil)) (nomark _))))))))))), ?_⟩
    -- draw = [script, 0]
    refine ⟨_, rfl, (by show 2 ≤ sizeLine; decide), fun d hd => ?_⟩
    have D0 : Dr K [d] d a (upd H d (.lst [.ref a, .int 0])) := Dr.mk' hS hlen hd
    have hdd : (upd H d (.lst [.ref a, .int 0])) d = some (.lst [.ref a, .int 0]) := upd_same
    generalize upd H d (.lst [.ref a, .int 0]) = H0 at D0 hdd ⊢
    -- ends, letters, epoch = [End(), End()], [], 1
    intro e0 dx0 n0 m0 q0
    refine ⟨e0, dx0, rfl, upd_same, fun o0 t0 H1 ho0 ht0 A0 k0 => ⟨rfl, ?_⟩⟩
    have g0 : Same H0 (upd (upd H0 dx0 (.own e0)) e0 (.ins C dx0 [])) := fun b o z => by rw [upd_ne (ne_of_none z n0), upd_ne (ne_of_none z m0)]; exact z
    have s0 : Same H0 H1 := fun b o z => k0 b o (g0 b o z) fun y => ne_of_none z n0 (List.mem_singleton.mp y)
    obtain ⟨⟨dy0, a0e⟩, a0o, a0t, n00⟩ := id A0
    intro e1 dx1 n1 m1 q1
    refine ⟨e1, dx1, rfl, upd_same, fun o1 t1 H2 ho1 ht1 A1 k1 => ⟨rfl, ?_⟩⟩
    have g1 : Same H1 (upd (upd H1 dx1 (.own e1)) e1 (.ins C dx1 [])) := fun b o z => by rw [upd_ne (ne_of_none z n1), upd_ne (ne_of_none z m1)]; exact z
    have s1 : Same H1 H2 := fun b o z => k1 b o (g1 b o z) fun y => ne_of_none z n1 (List.mem_singleton.mp y)
    obtain ⟨⟨dy1, a1e⟩, a1o, a1t, n11⟩ := id A1
    refine ⟨(by show 2 ≤ sizeLine; decide), fun L hL => ⟨Nat.zero_le _, fun l hl => ?_⟩⟩
    refine ⟨(by show 3 ≤ sizeLine; decide), fun p hp => ?_⟩
    refine ⟨p, _, rfl, SqT.of upd_same, rfl, _, _, rfl, _, _, rfl, _, _, rfl, rfl, ?_⟩
    have hl2 : H2 l = none := by
      have : L ≠ l := ne_of_none upd_same hl
      rw [upd_ne this.symm] at hl; exact hl
    have nLl : L ≠ l := ne_of_none upd_same hl
    have nLp : L ≠ p := ne_of_none (by rw [upd_ne nLl]; exact upd_same) hp
    have nlp : l ≠ p := ne_of_none upd_same hp
    have s2 : Same H2 (upd (upd (upd H2 L (.lst [.ref e0, .ref e1])) l (.lst [])) p (.tup [.ref L, .ref l, .int 1])) := fun b o z => by
      have hp2 : H2 p = none := by rw [upd_ne nlp.symm, upd_ne nLp.symm] at hp; exact hp
      rw [upd_ne (ne_of_none z hp2), upd_ne (ne_of_none z hl2), upd_ne (ne_of_none z hL)]; exact z
    have hLL : (upd (upd (upd H2 L (.lst [.ref e0, .ref e1])) l (.lst [])) p (.tup [.ref L, .ref l, .int 1])) L = some (.lst [.ref e0, .ref e1]) := by rw [upd_ne nLp, upd_ne nLl, upd_same]
    have hll : (upd (upd (upd H2 L (.lst [.ref e0, .ref e1])) l (.lst [])) p (.tup [.ref L, .ref l, .int 1])) l = some (.lst []) := by rw [upd_ne nlp, upd_same]
    generalize upd (upd (upd H2 L (.lst [.ref e0, .ref e1])) l (.lst [])) p (.tup [.ref L, .ref l, .int 1]) = H3 at s2 hLL hll ⊢
    have hd1 := s0 _ _ hdd
    have hd2 := s1 _ _ hd1
    have G0 := g0 _ _ hdd
    have G1d := g1 _ _ hd1
    let A : Ad := ⟨d, L, fun i => if i = 0 then e0 else e1, fun i => if i = 0 then o0 else o1, fun i => if i = 0 then t0 else t1⟩
    have hM : A.M = [d, e0, o0, t0, e1, o1, t1] := rfl
    have I : IW K C a A H3 (fun _ => ES.new) := by
      have Dg : Dr K [t1, o1, e1, t0, o0, e0, d] d a H0 := by
        have z1 := (s0.trans g1).free ho1
        have z2 := (s0.trans g1).free ht1
        exact (((((D0.grow n0).grow (g0.free ho0)).grow (g0.free ht0)).grow (s0.free n1)).grow z1).grow z2
      refine ⟨(Dg.sub (fun b hb => ?_) (by rw [hM]; exact List.mem_cons_self)).same ((s0.trans s1).trans s2), hLL, ?_, ?_, fun i hi => ?_⟩
      · rw [hM] at hb
        simp only [List.mem_cons, List.not_mem_nil, or_false] at hb ⊢
        rcases hb with h | h | h | h | h | h | h <;> simp [h]
      · show L ∉ A.M
        rw [hM]
        simp only [List.mem_cons, List.not_mem_nil, or_false, not_or]
        exact ⟨Ne.symm (ne_of_none hd2 hL), Ne.symm (ne_of_none (s1 _ _ a0e) hL), Ne.symm (ne_of_none (s1 _ _ a0o) hL), Ne.symm (ne_of_none (s1 _ _ a0t) hL), Ne.symm (ne_of_none a1e hL), Ne.symm (ne_of_none a1o hL), Ne.symm (ne_of_none a1t hL)⟩
      · rw [hM]
        simp only [List.nodup_cons, List.mem_cons, List.not_mem_nil, or_false, not_or, List.nodup_nil, and_true, not_false_eq_true]
        exact ⟨⟨ne_of_none hdd n0, ne_of_none G0 ho0, ne_of_none G0 ht0, ne_of_none hd1 n1, ne_of_none G1d ho1, ne_of_none G1d ht1⟩,
          ⟨ne_of_none upd_same ho0, ne_of_none upd_same ht0, ne_of_none a0e n1, ne_of_none (g1 _ _ a0e) ho1, ne_of_none (g1 _ _ a0e) ht1⟩,
          ⟨n00, ne_of_none a0o n1, ne_of_none (g1 _ _ a0o) ho1, ne_of_none (g1 _ _ a0o) ht1⟩,
          ⟨ne_of_none a0t n1, ne_of_none (g1 _ _ a0t) ho1, ne_of_none (g1 _ _ a0t) ht1⟩,
          ⟨ne_of_none upd_same ho1, ne_of_none upd_same ht1⟩, n11⟩
      · rcases i01 hi with rfl | rfl
        · exact (A0.keep (N := []) (Kp.same (s1.trans s2)) (by simp) (by simp) (by simp))
        · exact (A1.keep (N := []) (Kp.same s2) (by simp) (by simp) (by simp))
    have Ls : LtsAt A H3 l [] := by
      refine ⟨?_, [], hll, rfl, fun i b x e => by simp at e⟩
      show l ∉ A.M
      rw [hM]
      simp only [List.mem_cons, List.not_mem_nil, or_false, not_or]
      exact ⟨Ne.symm (ne_of_none hd2 hl2), Ne.symm (ne_of_none (s1 _ _ a0e) hl2), Ne.symm (ne_of_none (s1 _ _ a0o) hl2), Ne.symm (ne_of_none (s1 _ _ a0t) hl2), Ne.symm (ne_of_none a1e hl2), Ne.symm (ne_of_none a1o hl2), Ne.symm (ne_of_none a1t hl2)⟩
    have J : JJ (fun _ => ES.new) [] 1 := ⟨fun _ _ => rfl, fun _ _ => Nat.le_refl _, fun _ _ => (by decide : (0 : Int) ≤ 1), fun x hx => (nomatch hx), fun x hx => (nomatch hx), fun x hx => (nomatch hx)⟩
    have eL : A.L = L := rfl
    have ed : A.d = d := rfl
    clear_value A
    subst eL ed
    clear s0 s1 s2 g0 g1 k0 k1 A0 A1 a0e a0o a0t a1e a1o a1t n00 n11 G0 G1d hd1 hd2 hdd D0 hM
    -- for turn in range(40 + _law_take(draw, 40))
    refine ⟨_, rfl, A.M, A.d, a, 40, rfl, I.dr, by decide, fun v H4 hv0 hv1 D4 k4 => ⟨_, _, rfl, rfl, _, rfl, by omega, by omega, ?_⟩⟩
    have I4 := I.draw D4 k4
    have Ls4 := Ls.keep I (k4.mono Ad.dM)
    refine for_range (lo := 0) (n := (40 + v).toNat) (LI K C a A) ⟨_, [], 1, _, _, _, _, _, _, _, _, _, _, _, _, _, _, rfl, I4, Ls4, J, fun _ _ => Nat.le_refl _, Nat.le_refl _⟩ ?_ ?_
    · clear k4 D4 I Ls J I4 Ls4 H4
      rintro i σ H4 hi ⟨E, ls, ep, l, v5, v6, v7, v8, v9, v10, v11, v12, v13, v14, v15, v16, v17, rfl, I, Ls, J, ho, hls⟩
      -- kind, at = ..
      refine ⟨_, rfl, A.M, A.d, a, 5, rfl, I.dr, by decide, fun kd H5 hk0 hk1 D5 k5 => ?_⟩
      have I5 := I.draw D5 k5
      have Ls5 := Ls.keep I (k5.mono Ad.dM)
      refine ⟨_, rfl, A.M, A.d, a, 2, rfl, I5.dr, by decide, fun at' H6 ha0 ha1 D6 k6 => ?_⟩
      have I6 := I5.draw D6 k6
      have Ls6 := Ls5.keep I5 (k6.mono Ad.dM)
      refine ⟨(by show 2 ≤ sizeLine; decide), fun p hp => ⟨p, _, rfl, SqT.of upd_same, rfl, _, _, rfl, _, _, rfl, rfl, ?_⟩⟩
      have s7 : Same H6 (upd H6 p (.tup [.int kd, .int at'])) := fun b o z => by rw [upd_ne (ne_of_none z hp)]; exact z
      have I7 := I6.same s7
      have Ls7 := Ls6.keep I6 (Kp.same s7)
      clear I5 I6 Ls5 Ls6 D5 D6 k5 k6 I Ls
      generalize upd H6 p (.tup [.int kd, .int at']) = H7 at I7 Ls7 ⊢
      obtain ⟨j, rfl⟩ : ∃ j : Nat, at' = (j : Int) := ⟨at'.toNat, by omega⟩
      have hj : j < 2 := by omega
      have hi80 : i ≤ 80 := by omega
      have hoj := fun q hq => Nat.le_trans (ho q hq) hi80
      have hans : ∀ q, q < 2 → (E q).ans ≤ (E q).out.length := fun q hq => by
        have z := two hq
        have p1 := J.ans q hq
        have p2 := pre_len (J.pre (1 - q) z.1)
        rw [z.2.2] at p2
        omega
      refine ⟨LI K C a A (i + 1), ?_, ?_⟩
      · refine ⟨_, rfl, rfl, _, rfl, ?_⟩
        refine ite2 (fun _ => ?_) (fun _ => ?_)
        · -- ends[at].put(..)
          obtain ⟨⟨dx, he⟩, _, _, _⟩ := id (I7.at_ j hj)
          refine ⟨_, rfl, _, rfl, A.L, _, _, _, rfl, rfl, SqL.of I7.en, ends_at hj, A.e j, dx, _, rfl, he, rfl, _, rfl, A.M, A.d, a, 50, rfl, I7.dr, by decide, fun wd H8 _ _ D8 k8 => ?_⟩
          have I8 := I7.draw D8 k8
          have Ls8 := Ls7.keep I7 (k8.mono Ad.dM)
          refine ⟨A.e j, A.o j, A.t j, E j, wd, rfl, I8.at_ j hj, by have := hoj j hj; omega, fun H9 A9 k9 => ?_⟩
          have k9' : Kp [A.e j, A.o j, A.t j] H8 H9 := k9.mono (by simp)
          refine ⟨setE E j ((E j).put wd), ls, ep, l, _, _, _, _, _, _, _, _, _, _, _, _, _, rfl, I8.step hj A9 k9', Ls8.keep I8 (k9'.mono (Ad.inM hj)), J.put hj wd, fun q hq => setE_len (Nat.le_succ_of_le (ho q hq)) ?_, by omega⟩
          show (_ ++ [wd]).length ≤ i + 1
          rw [List.length_append, List.length_singleton]
          have := ho j hj
          omega
        · refine ⟨_, rfl, rfl, _, rfl, ?_⟩
          refine ite2 (fun _ => ?_) (fun _ => ?_)
          · -- frames = ends[at].frames()
            obtain ⟨⟨dx, he⟩, ho7, ht7, _⟩ := id (I7.at_ j hj)
            refine ⟨_, rfl, _, rfl, A.L, _, _, _, rfl, rfl, SqL.of I7.en, ends_at hj, A.e j, dx, _, rfl, he, rfl, A.e j, A.o j, A.t j, E j, rfl, I7.at_ j hj, hans j hj, by have := hoj j hj; omega, fun pf as H8 hpf s8 hpt hla hfr => ?_⟩
            have I8 := I7.same s8
            have Ls8 := Ls7.keep I7 (Kp.same s8)
            have hf3 := frames_le (E j)
            -- words
            refine ⟨_, rfl, pf, rfl, ⟨_, SqT.of hpt⟩, fun D hD => lc_tup (K := K) (a := pf) (xs := as.map V.ref) (fun i H' => Same H8 H' ∧ H' D = some (.lst ((sel as (E j).frames i).map fun q => V.ref q.1)))
              ⟨fun b o z => by rw [upd_ne (ne_of_none z hD)]; exact z, upd_same⟩ (fun i H' _ q => SqT.of (q.1 _ _ hpt)) ?_ ?_⟩
            · rintro q x H' hx ⟨s9, hd9⟩
              rw [List.getElem?_map] at hx
              cases ea : as[q]? with
              | none => rw [ea] at hx; cases hx
              | some aq =>
                rw [ea] at hx
                cases Option.some.inj hx
                have hq : q < (E j).frames.length := by rw [← hla]; exact (List.getElem?_eq_some_iff.mp ea).1
                have ef : (E j).frames[q]? = some (E j).frames[q] := List.getElem?_eq_getElem hq
                have hF := s9 _ _ (hfr q _ _ ea ef)
                generalize (E j).frames[q] = f at ef hF
                refine ⟨rfl, _, rfl, aq, f.vs, 1, f.num, rfl, rfl, SqT.of hF, rfl, rfl, _, rfl, ?_⟩
                have hs := sel_succ ea ef
                rw [Fr.num_none]
                refine ite2 (fun h => ?_) (fun h => ?_)
                · rw [if_pos h] at hs
                  refine ⟨_, rfl, _, hd9, small1000 (by rw [List.length_map]; have := sel_len as (E j).frames q; omega), fun b o z => ?_, by rw [upd_same, hs, List.map_append]; rfl⟩
                  rw [upd_ne (ne_of_none z hD)]
                  exact s9 _ _ z
                · rw [if_neg h, List.append_nil] at hs
                  exact ⟨s9, by rw [hs]; exact hd9⟩
            · rintro H9 ⟨s9, hd9⟩
              have I9 := I8.same s9
              have Ls9 := Ls8.keep I8 (Kp.same s9)
              have hpt9 := s9 _ _ hpt
              have hfr9 : ∀ (i : Nat) a f, as[i]? = some a → (E j).frames[i]? = some f → FrAt H9 a f := fun i a f e1 e2 => s9 _ _ (hfr i a f e1 e2)
              rw [List.length_map] at hd9
              have hww := words_len (hans j hj)
              have hsel := sel_all hla
              have hwl : (sel as (E j).frames as.length).length ≤ 3 := by
                have := congrArg List.length hsel
                rw [List.length_map] at this
                omega
              have hsv : ∀ q ∈ sel as (E j).frames as.length, q.2.nw.isSome = true := fun q hq => (List.mem_filter.mp hq).2
              have hselat : ∀ (i : Nat) q, (sel as (E j).frames as.length)[i]? = some q → FrAt H9 q.1 q.2 := fun i q hq => by
                have hm := (List.mem_filter.mp (List.mem_of_getElem? hq)).1
                have hm2 := List.mem_of_mem_take hm
                obtain ⟨n, hn⟩ := List.mem_iff_getElem?.mp hm2
                obtain ⟨q1, q2⟩ := q
                rw [List.getElem?_zip_eq_some] at hn
                exact hfr9 n q1 q2 hn.1 hn.2
              generalize hW : sel as (E j).frames as.length = W at hd9 hwl hsel hsv hselat
              clear I8 Ls8 s8 s9 hpt hfr
              obtain ⟨⟨dx9, he9⟩, ho9, ht9, _⟩ := id (I9.at_ j hj)
              -- if len(words) > 3 or ..
              refine ⟨_, rfl, D, _, rfl, .inl (SqL.of hd9), _, _, rfl, rfl, _, rfl, ?_⟩
              refine ite2 (fun h => absurd (of_decide_eq_true h) (by rw [List.length_map]; omega)) (fun _ => ?_)
              refine ⟨_, rfl, D, rfl, ⟨_, SqL.of hd9⟩, fun D2 hD2 => lc_list (K := K) (a := D) (xs := W.map fun q => V.ref q.1) (fun i H' => Same H9 H' ∧ H' D2 = some (.lst ((W.take i).map fun q => V.int q.2.wI)))
                ⟨fun b o z => by rw [upd_ne (ne_of_none z hD2)]; exact z, upd_same⟩ (fun i H' _ q => SqL.of (q.1 _ _ hd9)) ?_ ?_⟩
              · rintro q x H' hx ⟨s10, hd10⟩
                rw [List.getElem?_map] at hx
                cases eq : W[q]? with
                | none => rw [eq] at hx; cases hx
                | some wq =>
                  rw [eq] at hx
                  cases Option.some.inj hx
                  have hF := s10 _ _ (hselat q wq eq)
                  have hw1 := Fr.word_some (hsv wq (List.mem_of_getElem? eq))
                  refine ⟨rfl, _, rfl, wq.1, wq.2.vs, 2, wq.2.word, rfl, rfl, SqT.of hF, rfl, _, hd10, small1000 (by rw [List.length_map, List.length_take]; omega), fun b o z => ?_, by rw [upd_same, List.take_add_one, eq, List.map_append, hw1]; rfl⟩
                  rw [upd_ne (ne_of_none z hD2)]
                  exact s10 _ _ z
              · rintro H10 ⟨s10, hd10⟩
                rw [List.length_map, List.take_length] at hd10
                have hd10' : H10 D2 = some (.lst ((((E j).out.drop (E j).ans).take 3).map V.int)) := by
                  rw [hd10, ← words_eq (hans j hj), ← hsel, List.map_map, List.map_map]
                  rfl
                refine ⟨_, rfl, _, rfl, A.L, _, _, _, rfl, rfl, SqL.of (s10 _ _ I9.en), ends_at hj, A.e j, C, dx9, _, _, rfl, s10 _ _ he9, T.cl, T.nO, rfl, ?_⟩
                refine ⟨_, rfl, _, rfl, A.L, _, _, _, rfl, rfl, SqL.of (s10 _ _ I9.en), ends_at hj, A.e j, C, dx9, _, _, rfl, s10 _ _ he9, T.cl, T.nA, rfl, _, rfl, ?_⟩
                refine ⟨_, rfl, _, rfl, A.L, _, _, _, rfl, rfl, SqL.of (s10 _ _ I9.en), ends_at hj, A.e j, C, dx9, _, _, rfl, s10 _ _ he9, T.cl, T.nA, rfl, _, _, rfl, rfl, _, rfl, ?_⟩
                refine ⟨A.o j, _, rfl, SqL.of (s10 _ _ ho9), fun p3 hp3 => ?_⟩
                have hp3' : (upd H10 p3 (.lst (cutV ((E j).out.map V.int) (some ((E j).ans : Int)) (some (((E j).ans : Int) + 3))))) p3 = some (.lst ((((E j).out.drop (E j).ans).take 3).map V.int)) := by rw [upd_same, cut3]
                have s11 : Same H10 (upd H10 p3 (.lst (cutV ((E j).out.map V.int) (some ((E j).ans : Int)) (some (((E j).ans : Int) + 3))))) := fun b o z => by rw [upd_ne (ne_of_none z hp3)]; exact z
                refine ⟨pdI _, pdI _, dp_ints (SqL.of (s11 _ _ hd10')), dp_ints (SqL.of hp3'), shaped_ints _, shaped_ints _, _, rfl, ?_⟩
                refine ite2 (fun h => absurd h (by rw [eqv_ints, decide_eq_true rfl]; decide)) (fun _ => ?_)
                have sA := s10.trans s11
                clear hp3'
                generalize upd H10 p3 (.lst (cutV ((E j).out.map V.int) (some ((E j).ans : Int)) (some (((E j).ans : Int) + 3)))) = H11 at s11 sA ⊢
                -- if any(..) or len(frames) != ..
                have I11 := I9.same sA
                have Ls11 := Ls9.keep I9 (Kp.same sA)
                have hpt11 := sA _ _ hpt9
                have hd11 := sA _ _ hd9
                have hfr11 : ∀ (i : Nat) a f, as[i]? = some a → (E j).frames[i]? = some f → FrAt H11 a f := fun i a f e1 e2 => sA _ _ (hfr9 i a f e1 e2)
                clear I9 Ls9 hpt9 hd9 hfr9 s10 s11 sA hselat hd10' hd10 he9 ho9 ht9
                obtain ⟨⟨dx11, he11⟩, ho11, ht11, _⟩ := id (I11.at_ j hj)
                refine ⟨_, rfl, pf, rfl, ⟨_, SqT.of hpt11⟩, fun D3 hD3 => lc_tup (K := K) (a := pf) (xs := as.map V.ref) (fun i H' => Same H11 H' ∧ H' D3 = some (.lst ((List.replicate i false).map V.bl)))
                  ⟨fun b o z => by rw [upd_ne (ne_of_none z hD3)]; exact z, upd_same⟩ (fun i H' _ q => SqT.of (q.1 _ _ hpt11)) ?_ ?_⟩
                · rintro q x H' hx ⟨s12, hd12⟩
                  rw [List.getElem?_map] at hx
                  cases ea : as[q]? with
                  | none => rw [ea] at hx; cases hx
                  | some aq =>
                    rw [ea] at hx
                    cases Option.some.inj hx
                    have hq : q < (E j).frames.length := by rw [← hla]; exact (List.getElem?_eq_some_iff.mp ea).1
                    have ef : (E j).frames[q]? = some (E j).frames[q] := List.getElem?_eq_getElem hq
                    have hF := s12 _ _ (hfr11 q _ _ ea ef)
                    have hm := (frames_mem (List.mem_of_getElem? ef)).1
                    generalize (E j).frames[q] = f at ef hF hm
                    refine ⟨rfl, _, rfl, aq, f.vs, 3, .int f.many, rfl, rfl, SqT.of hF, rfl, _, rfl, _, rfl, A.L, _, _, _, rfl, rfl, SqL.of (s12 _ _ I11.en), ends_at hj, A.e j, C, dx11, _, _, rfl, s12 _ _ he11, T.cl, T.nT, rfl, A.t j, _, rfl, .inl (SqL.of (s12 _ _ ht11)), rfl, _, hd12, small1000 (by rw [List.length_map, List.length_replicate]; omega), fun b o z => ?_, ?_⟩
                    · rw [upd_ne (ne_of_none z hD3)]
                      exact s12 _ _ z
                    · have ev : (!decide (V.int (f.many : Int) = V.int (((E j).told.map V.int).length : Int))) = false := by rw [hm, List.length_map, decide_eq_true rfl]; rfl
                      rw [upd_same, ev, List.replicate_succ', List.map_append]
                      rfl
                · rintro H12 ⟨s12, hd12⟩
                  rw [List.length_map] at hd12
                  refine ⟨D3, _, rfl, SqL.of hd12, _, rfl, ?_⟩
                  have hany : (List.replicate as.length false).any id = false := by simp
                  refine ite2 (fun h => absurd h (by rw [hany]; decide)) (fun _ => ?_)
                  refine ⟨_, rfl, pf, _, rfl, .inr (SqT.of (s12 _ _ hpt11)), _, rfl, D, _, rfl, .inl (SqL.of (s12 _ _ hd11)), _, _, rfl, rfl, _, rfl, ?_⟩
                  have hmx : (as.map V.ref).length = as.length := List.length_map _
                  have hwx : (W.map fun q => V.ref q.1).length = W.length := List.length_map _
                  have hsl : ((E j).frames.filter fun f => f.nw.isSome).length = W.length := by rw [← hsel, List.length_map]
                  refine ite2 (fun h => absurd h ?_) (fun _ => ?_)
                  · rw [hmx, hwx]
                    have e2 : (as.length : Int) = (if (W.length : Int) > 1 then (W.length : Int) else 1) := by
                      have := hww.2
                      rw [hsl] at this
                      split <;> omega
                    rw [e2, decide_eq_true rfl]
                    decide
                  -- letters = letters + [..]
                  have I12 := I11.same s12
                  have Ls12 := Ls11.keep I11 (Kp.same s12)
                  have hpt12 := s12 _ _ hpt11
                  have hfr12 : ∀ (i : Nat) a f, as[i]? = some a → (E j).frames[i]? = some f → FrAt H12 a f := fun i a f e1 e2 => s12 _ _ (hfr11 i a f e1 e2)
                  clear I11 Ls11 hpt11 hfr11 s12
                  obtain ⟨nlM, ls0, hll, hl0, hlat⟩ := id Ls12
                  refine ⟨_, rfl, _, rfl, pf, rfl, ⟨_, SqT.of hpt12⟩, fun D4 hD4 => lc_tup (K := K) (a := pf) (xs := as.map V.ref) (fun i H' => Same H12 H' ∧ ∃ bs : List Addr, bs.length = i ∧ H' D4 = some (.lst (bs.map V.ref)) ∧ ∀ (q : Nat) b f, bs[q]? = some b → (E j).frames[q]? = some f → LtAt H' b ⟨1 - j, ep, f⟩)
                    ⟨fun b o z => by rw [upd_ne (ne_of_none z hD4)]; exact z, [], rfl, upd_same, fun q b f e => by simp at e⟩ (fun i H' _ q => SqT.of (q.1 _ _ hpt12)) ?_ ?_⟩
                  · rintro q x H' hx ⟨s13, bs, hbl, hd13, hbs⟩
                    rw [List.getElem?_map] at hx
                    cases ea : as[q]? with
                    | none => rw [ea] at hx; cases hx
                    | some aq =>
                      rw [ea] at hx
                      cases Option.some.inj hx
                      have hq : q < (E j).frames.length := by rw [← hla]; exact (List.getElem?_eq_some_iff.mp ea).1
                      have ef : (E j).frames[q]? = some (E j).frames[q] := List.getElem?_eq_getElem hq
                      have hF := s13 _ _ (hfr12 q _ _ ea ef)
                      refine ⟨rfl, _, rfl, _, _, rfl, rfl, _, rfl, _, rfl, (by show 3 ≤ sizeLine; decide), fun b hb => ?_⟩
                      have nbD : D4 ≠ b := ne_of_none hd13 hb
                      have lt_keep : ∀ {c : Addr} {y : Lt}, LtAt H' c y → LtAt (upd (upd H' b (.tup [.int (1 - (j : Int)), .int ep, .ref aq])) D4 (.lst (bs.map V.ref ++ [.ref b]))) c y := fun {c y} ⟨fa, z1, z2⟩ => by
                        refine ⟨fa, ?_, ?_⟩
                        · rw [upd_ne (ne_of z1 hd13 (by intro z; cases z)), upd_ne (ne_of_none z1 hb)]
                          exact z1
                        · show upd _ _ _ fa = _
                          rw [upd_ne (ne_of z2 hd13 (by intro z; cases z)), upd_ne (ne_of_none z2 hb)]
                          exact z2
                      refine ⟨bs.map V.ref, by rw [upd_ne nbD]; exact hd13, small1000 (by rw [List.length_map]; omega), fun c o z => ?_, bs ++ [b], by rw [List.length_append, hbl]; rfl, by rw [upd_same, List.map_append]; rfl, fun q' c f e1 e2 => ?_⟩
                      · rw [upd_ne (ne_of_none z hD4), upd_ne (ne_of_none (s13 _ _ z) hb)]
                        exact s13 _ _ z
                      · by_cases hqq : q' < bs.length
                        · rw [List.getElem?_append_left hqq] at e1
                          exact lt_keep (hbs q' c f e1 e2)
                        · have eq' : q' = bs.length := by
                            have := (List.getElem?_eq_some_iff.mp e1).1
                            rw [List.length_append] at this
                            simp at this
                            omega
                          subst eq'
                          rw [List.getElem?_append_right (Nat.le_refl _), Nat.sub_self] at e1
                          cases Option.some.inj e1
                          rw [hbl] at e2
                          cases Option.some.inj (ef.symm.trans e2)
                          refine ⟨aq, ?_, ?_⟩
                          · rw [upd_ne nbD.symm, upd_same]
                            have : (1 : Int) - (j : Int) = ((1 - j : Nat) : Int) := by omega
                            show some (HO.tup [V.int ((1 : Int) - (j : Int)), V.int ep, V.ref aq]) = _
                            rw [this]
                          · show upd _ _ _ aq = _
                            rw [upd_ne (ne_of hF hd13 (by intro z; cases z)), upd_ne (ne_of_none hF hb)]
                            exact hF
                  · rintro H13 ⟨s13, bs, hbl, hd13, hbs⟩
                    rw [List.length_map] at hbl
                    have I13 := I12.same s13
                    refine ⟨l, D4, _, _, rfl, rfl, s13 _ _ hll, hd13, by rw [List.length_map, List.length_map, hl0, hbl]; rw [sizeLine_eq]; omega, fun p5 hp5 => ?_⟩
                    have s14 : Same H13 (upd H13 p5 (.lst (ls0.map V.ref ++ bs.map V.ref))) := fun b o z => by rw [upd_ne (ne_of_none z hp5)]; exact z
                    refine ⟨E, ls ++ (E j).frames.map (fun f => ⟨1 - j, ep, f⟩), ep, p5, _, _, _, _, _, _, _, _, _, _, _, _, _, rfl, I13.same s14, ⟨I13.fresh hp5, ls0 ++ bs, by rw [upd_same, List.map_append], by rw [List.length_append, List.length_append, List.length_map, hl0, hbl, hla], fun q c y e1 e2 => ?_⟩, J.send hj, fun q hq => Nat.le_succ_of_le (ho q hq), by rw [List.length_append, List.length_map]; omega⟩
                    have st : ∀ {c : Addr} {y : Lt}, LtAt H13 c y → LtAt (upd H13 p5 (.lst (ls0.map V.ref ++ bs.map V.ref))) c y := fun {c y} ⟨fa, z1, z2⟩ => ⟨fa, s14 _ _ z1, s14 _ _ z2⟩
                    by_cases hq : q < ls0.length
                    · rw [List.getElem?_append_left hq] at e1
                      rw [List.getElem?_append_left (by omega)] at e2
                      obtain ⟨fa, z1, z2⟩ := hlat q c y e1 e2
                      exact ⟨fa, s14 _ _ (s13 _ _ z1), s14 _ _ (s13 _ _ z2)⟩
                    · rw [List.getElem?_append_right (by omega)] at e1
                      rw [List.getElem?_append_right (by omega), List.getElem?_map] at e2
                      rw [← hl0] at e2
                      cases ef : (E j).frames[q - ls0.length]? with
                      | none => rw [ef] at e2; cases e2
                      | some f =>
                        rw [ef] at e2
                        cases Option.some.inj e2
                        exact st (hbs _ c f e1 ef)
          · -- elif kind == 2 and .. : epoch += 1
            refine' via (R := fun H8 => IW K C a A H8 E ∧ LtsAt A H8 l ls) (fun tail => ?_) ?_
            rotate_left 1
            · refine ⟨_, rfl, rfl, _, rfl, ?_⟩
              refine ite2 (fun _ => ?_) (fun _ => ?_)
              · refine ⟨_, rfl, A.M, A.d, a, 4, rfl, I7.dr, by decide, fun wd H8 _ _ D8 k8 => ?_⟩
                have I8 := I7.draw D8 k8
                have Ls8 := Ls7.keep I7 (k8.mono Ad.dM)
                refine ⟨rfl, _, rfl, ?_⟩
                refine ite2 (fun _ => ?_) (fun _ => ?_)
                · refine ⟨_, rfl, _, _, rfl, rfl, ?_⟩
                  exact ⟨E, ls, ep + 1, l, _, _, _, _, _, _, _, _, _, _, _, _, _, rfl, I8, Ls8, J.ep, fun q hq => Nat.le_succ_of_le (ho q hq), by omega⟩
                · exact tail H8 ⟨I8, Ls8⟩
              · exact tail H7 ⟨I7, Ls7⟩
            · clear Ls7 I7 s7 H7
              rintro H7 ⟨I7, Ls7⟩
              obtain ⟨nlM, ls0, hll, hl0, hlat⟩ := id Ls7
              -- elif letters != []
              refine ⟨_, rfl, Nat.zero_le _, fun p6 hp6 => ?_⟩
              have s8 : Same H7 (upd H7 p6 (.lst [])) := fun b o z => by rw [upd_ne (ne_of_none z hp6)]; exact z
              have I8 := I7.same s8
              have Ls8 := Ls7.keep I7 (Kp.same s8)
              have hp6' : (upd H7 p6 (.lst [])) p6 = some (.lst []) := upd_same
              generalize upd H7 p6 (.lst []) = H8 at s8 I8 Ls8 hp6' ⊢
              clear I7 Ls7
              obtain ⟨nlM, ls0, hll, hl0, hlat⟩ := id Ls8
              refine ⟨.list (ls.map Lt.pd), .list [], .lst (SqL.of hll) (dpAll_lts hl0 hlat), .lst (SqL.of hp6') .nil, lts_shaped ls, lts_shaped [], _, rfl, ?_⟩
              refine ite2 (fun hne => ?_) (fun _ => ?_)
              rotate_left 1
              · exact ⟨E, ls, ep, l, _, _, _, _, _, _, _, _, _, _, _, _, _, rfl, I8, Ls8, J, fun q hq => Nat.le_succ_of_le (ho q hq), by omega⟩
              have hpos : 0 < ls.length := by
                cases ls with
                | nil => exact absurd hne (by simp [PyData.eqv, PyData.eqvAll])
                | cons x r => exact Nat.succ_pos _
              -- place, (goal, old, frame)
              refine ⟨_, rfl, _, rfl, l, _, rfl, .inl (SqL.of hll), A.M, A.d, a, _, rfl, I8.dr, by rw [List.length_map, hl0]; omega, fun pl H9 hp0 hp1 D9 k9 => ?_⟩
              have I9 := I8.draw D9 k9
              have Ls9 := Ls8.keep I8 (k9.mono Ad.dM)
              rw [List.length_map, hl0] at hp1
              clear nlM hll hlat s8 hp6'
              obtain ⟨nlM, ls1, hll, hl1, hlat⟩ := id Ls9
              obtain ⟨n, rfl⟩ : ∃ n : Nat, pl = (n : Int) := ⟨pl.toNat, by omega⟩
              have hn : n < ls.length := by omega
              have hn1 : n < ls1.length := by omega
              have ex : ls[n]? = some ls[n] := List.getElem?_eq_getElem hn
              have eb : ls1[n]? = some ls1[n] := List.getElem?_eq_getElem hn1
              have hmem : ls[n] ∈ ls := List.getElem_mem hn
              obtain ⟨fa, hb1, hb2⟩ := hlat n _ _ eb ex
              generalize ls[n] = x at ex hmem hb1 hb2
              generalize ls1[n] = b at eb hb1
              refine ⟨_, rfl, _, rfl, l, _, _, _, rfl, rfl, SqL.of hll, at_of rfl (by rw [List.getElem?_map, eb]; rfl), b, _, rfl, SqT.of hb1, rfl, _, _, rfl, _, _, rfl, _, _, rfl, rfl, ?_⟩
              have hg := (J.goal x hmem).1
              -- if _law_take(draw, 3) > 0: letters = ..
              refine ⟨fun σ' H' => ∃ (l' : Addr) (ls' : List Lt), σ' = [some (.ref a), some (.ref A.d), some (.ref A.L), some (.ref l'), some (.int ep), some (.int (0 + (i : Nat))), some (.int kd), some (.int (j : Nat)), v8, v9, some (.int (n : Nat)), some (.int (x.goal : Nat)), some (.int x.ep), some (.ref fa), v14, v15, v16, v17] ∧ IW K C a A H' E ∧ LtsAt A H' l' ls' ∧ (∀ y ∈ ls', y ∈ ls) ∧ ls'.length ≤ ls.length ∧ FrAt H' fa x.f, ?_, ?_⟩
              · refine ⟨_, rfl, A.M, A.d, a, 3, rfl, I9.dr, by decide, fun wd H10 _ _ D10 k10 => ?_⟩
                have I10 := I9.draw D10 k10
                have Ls10 := Ls9.keep I9 (k10.mono Ad.dM)
                have hf10 : FrAt H10 fa x.f := (k10.mono Ad.dM) _ _ hb2 (I9.tup hb2)
                clear nlM hll hlat
                obtain ⟨nlM, ls2, hll, hl2, hlat⟩ := id Ls10
                refine ⟨_, _, rfl, rfl, _, rfl, ?_⟩
                refine ite2 (fun _ => ?_) (fun _ => ?_)
                · refine ⟨_, rfl, _, rfl, _, rfl, l, _, rfl, SqL.of hll, fun p7 hp7 => ?_⟩
                  have n7 : l ≠ p7 := ne_of_none hll hp7
                  refine ⟨_, rfl, _, rfl, _, _, rfl, rfl, _, rfl, l, _, rfl, SqL.of (by rw [upd_ne n7]; exact hll), fun p8 hp8 => ?_⟩
                  have n78 : p7 ≠ p8 := ne_of_none upd_same hp8
                  have e7 : cutV (ls2.map V.ref) none (some (n : Int)) = (ls2.take n).map V.ref := by
                    unfold cutV
                    rw [HT.sIx_none, HT.sIx_nat, List.length_map, List.drop_zero, Nat.sub_zero, Nat.min_eq_left (by omega), List.map_take]
                  have e8 : cutV (ls2.map V.ref) (some ((n : Int) + 1)) none = (ls2.drop (n + 1)).map V.ref := by
                    unfold cutV
                    have z : (n : Int) + 1 = ((n + 1 : Nat) : Int) := by omega
                    rw [HT.sIx_none, z, HT.sIx_nat, List.length_map, Nat.min_eq_left (by omega), ← List.map_drop, List.take_of_length_le (by rw [List.length_map, List.length_drop]; omega)]
                  rw [e7] at hp8 ⊢
                  rw [e8]
                  refine ⟨p7, p8, _, _, rfl, rfl, by rw [upd_ne n78, upd_same], upd_same, by rw [List.length_map, List.length_map, List.length_take, List.length_drop, sizeLine_eq]; omega, fun p9 hp9 => ?_⟩
                  have hp8' : H10 p8 = none := by rw [upd_ne n78.symm] at hp8; exact hp8
                  have n79 : p7 ≠ p9 := ne_of_none (by rw [upd_ne n78]; exact upd_same) hp9
                  have n89 : p8 ≠ p9 := ne_of_none upd_same hp9
                  have hp9' : H10 p9 = none := by rw [upd_ne n89.symm, upd_ne n79.symm] at hp9; exact hp9
                  have s11 : Same H10 (upd (upd (upd H10 p7 (.lst ((ls2.take n).map V.ref))) p8 (.lst ((ls2.drop (n + 1)).map V.ref))) p9 (.lst ((ls2.take n).map V.ref ++ (ls2.drop (n + 1)).map V.ref))) := fun c o z => by
                    rw [upd_ne (ne_of_none z hp9'), upd_ne (ne_of_none z hp8'), upd_ne (ne_of_none z hp7)]; exact z
                  refine ⟨p9, ls.take n ++ ls.drop (n + 1), rfl, I10.same s11, ⟨I10.fresh hp9', ls2.take n ++ ls2.drop (n + 1), by rw [upd_same, List.map_append], by simp only [List.length_append, List.length_take, List.length_drop]; omega, fun q c y e1 e2 => ?_⟩, fun y hy => ?_, by simp only [List.length_append, List.length_take, List.length_drop]; omega, s11 _ _ hf10⟩
                  · have st : ∀ {c : Addr} {y : Lt}, LtAt H10 c y → LtAt _ c y := fun {c y} ⟨fa, z1, z2⟩ => ⟨fa, s11 _ _ z1, s11 _ _ z2⟩
                    by_cases hq : q < n
                    · rw [List.getElem?_append_left (by rw [List.length_take]; omega), List.getElem?_take, if_pos hq] at e1 e2
                      exact st (hlat q c y e1 e2)
                    · rw [List.getElem?_append_right (by rw [List.length_take]; omega), List.length_take, List.getElem?_drop] at e1 e2
                      rw [Nat.min_eq_left (by omega)] at e1 e2
                      exact st (hlat _ c y e1 e2)
                  · rcases List.mem_append.mp hy with h | h
                    · exact List.mem_of_mem_take h
                    · exact List.mem_of_mem_drop h
                · exact ⟨l, ls, rfl, I10, Ls10, fun y hy => hy, Nat.le_refl _, hf10⟩
              · clear Ls9 I9 hll hlat hb1 hb2 D9 k9 nlM I8 Ls8 H9
                rintro σ' H9 ⟨l', ls', rfl, I9, Ls9, hsub, hlen', hf9⟩
                -- end, before
                obtain ⟨⟨dx9, he9⟩, ho9, ht9, _⟩ := id (I9.at_ x.goal hg)
                refine ⟨_, rfl, _, rfl, A.L, _, _, _, rfl, rfl, SqL.of I9.en, ends_at hg, ?_⟩
                refine ⟨_, rfl, A.e x.goal, C, dx9, _, _, rfl, he9, T.cl, T.nT, rfl, A.t x.goal, _, rfl, .inl (SqL.of ht9), fun tb htb => ?_⟩
                have s10 : Same H9 (upd H9 tb (.lst ((E x.goal).told.map V.int))) := fun c o z => by rw [upd_ne (ne_of_none z htb)]; exact z
                refine ⟨_, rfl, A.e x.goal, C, dx9, _, _, rfl, s10 _ _ he9, T.cl, T.nA, rfl, _, rfl, A.e x.goal, C, dx9, _, _, rfl, s10 _ _ he9, T.cl, T.nE, rfl, (by show 3 ≤ sizeLine; decide), fun bf hbf => ?_⟩
                have ntb : tb ≠ bf := ne_of_none upd_same hbf
                have hbf9 : H9 bf = none := by rw [upd_ne ntb.symm] at hbf; exact hbf
                have s11 : Same H9 (upd (upd H9 tb (.lst ((E x.goal).told.map V.int))) bf (.tup [.ref tb, .int (E x.goal).ans, .int (E x.goal).ep])) := fun c o z => by rw [upd_ne (ne_of_none z hbf9)]; exact s10 _ _ z
                have I11 := I9.same s11
                have Ls11 := Ls9.keep I9 (Kp.same s11)
                have hf11 : FrAt _ fa x.f := s11 _ _ hf9
                have htb11 : (upd (upd H9 tb (.lst ((E x.goal).told.map V.int))) bf (.tup [.ref tb, .int (E x.goal).ans, .int (E x.goal).ep])) tb = some (.lst ((E x.goal).told.map V.int)) := by rw [upd_ne ntb]; exact upd_same
                have hbf11 : (upd (upd H9 tb (.lst ((E x.goal).told.map V.int))) bf (.tup [.ref tb, .int (E x.goal).ans, .int (E x.goal).ep])) bf = some (.tup [.ref tb, .int (E x.goal).ans, .int (E x.goal).ep]) := upd_same
                have ntbM : tb ∉ A.M := I9.fresh htb
                generalize upd (upd H9 tb (.lst ((E x.goal).told.map V.int))) bf (.tup [.ref tb, .int (E x.goal).ans, .int (E x.goal).ep]) = H11 at I11 Ls11 hf11 htb11 hbf11 ⊢
                clear I9 Ls9 s10 s11 hf9 he9 ho9 ht9
                -- if _law_take(draw, 4) > 0: end.hear(old, frame)
                refine ⟨fun σ' H' => ∃ X : ES, σ' = [some (.ref a), some (.ref A.d), some (.ref A.L), some (.ref l'), some (.int ep), some (.int (0 + (i : Nat))), some (.int kd), some (.int (j : Nat)), v8, v9, some (.int (n : Nat)), some (.int (x.goal : Nat)), some (.int x.ep), some (.ref fa), some (.ref (A.e x.goal)), some (.ref bf), v16, v17] ∧
                  IW K C a A H' (setE E x.goal X) ∧ LtsAt A H' l' ls' ∧ H' tb = some (.lst ((E x.goal).told.map V.int)) ∧ H' bf = some (.tup [.ref tb, .int (E x.goal).ans, .int (E x.goal).ep]) ∧ (X = E x.goal ∨ X = (E x.goal).hear x.ep x.f), ?_, ?_⟩
                · refine ⟨_, rfl, A.M, A.d, a, 4, rfl, I11.dr, by decide, fun wd H12 _ _ D12 k12 => ?_⟩
                  have I12 := I11.draw D12 k12
                  have kM := k12.mono (Ad.dM (A := A))
                  have Ls12 := Ls11.keep I11 kM
                  have hf12 : FrAt H12 fa x.f := kM _ _ hf11 (I11.tup hf11)
                  have htb12 := kM _ _ htb11 ntbM
                  have hbf12 := kM _ _ hbf11 (I11.tup hbf11)
                  refine ⟨_, _, rfl, rfl, _, rfl, ?_⟩
                  refine ite2 (fun _ => ?_) (fun _ => ?_)
                  · obtain ⟨⟨dx12, he12⟩, _, _, _⟩ := id (I12.at_ x.goal hg)
                    refine ⟨_, rfl, A.e x.goal, dx12, _, rfl, he12, rfl, _, rfl, _, rfl, A.e x.goal, A.o x.goal, A.t x.goal, fa, E x.goal, x.ep, x.f, rfl, I12.at_ x.goal hg, hf12, ?_, fun H13 A13 k13 => ?_⟩
                    · have z := two hg
                      have p2 := pre_len (J.pre x.goal hg)
                      have := hoj (1 - x.goal) z.1
                      omega
                    have k13' : Kp [A.e x.goal, A.o x.goal, A.t x.goal] H12 H13 := k13.mono (by simp)
                    have kM2 := k13'.mono (Ad.inM hg)
                    exact ⟨_, rfl, I12.step hg A13 k13', Ls12.keep I12 kM2, kM2 _ _ htb12 ntbM, kM2 _ _ hbf12 (I12.tup hbf12), .inr rfl⟩
                  · exact ⟨E x.goal, rfl, by rw [setE_id]; exact I12, Ls12, htb12, hbf12, .inl rfl⟩
                · clear I11 Ls11 hf11 htb11 hbf11 hbf9 ntb H11 hbf htb H9
                  rintro σ' H9 ⟨X, rfl, I9, Ls9, htb9, hbf9, hX⟩
                  have A9 := I9.at_ x.goal hg
                  rw [setE_same] at A9
                  obtain ⟨⟨dx9, he9⟩, ho9, ht9, _⟩ := id A9
                  have m1 : (E x.goal).ep ≤ X.ep := by rcases hX with rfl | rfl; exact Int.le_refl _; exact hear_ep _ _ _
                  have m2 : (E x.goal).ans ≤ X.ans := by rcases hX with rfl | rfl; exact Nat.le_refl _; exact hear_ans _ _ _
                  have m3 : (E x.goal).told.length ≤ X.told.length := by rcases hX with rfl | rfl; exact Nat.le_refl _; exact hear_len _ _ _
                  refine' via (R := fun H' => Same H9 H') (fun tail => ?_) ?_
                  rotate_left 1
                  · refine ⟨_, rfl, _, rfl, bf, _, 2, .int (E x.goal).ep, rfl, rfl, SqT.of hbf9, rfl, _, _, rfl, rfl, _, rfl, ?_⟩
                    refine ite2 (fun h => ?_) (fun _ => ?_)
                    · have h : x.ep < (E x.goal).ep := of_decide_eq_true h
                      have eX : X = E x.goal := by rcases hX with rfl | rfl; rfl; exact hear_old _ h
                      subst eX
                      refine ⟨_, rfl, A.e x.goal, C, dx9, _, _, rfl, he9, T.cl, T.nT, rfl, _, rfl, A.e x.goal, C, dx9, _, _, rfl, he9, T.cl, T.nA, rfl, _, rfl, A.e x.goal, C, dx9, _, _, rfl, he9, T.cl, T.nE, rfl, (by show 3 ≤ sizeLine; decide), fun q hq => ?_⟩
                      have sq : Same H9 (upd H9 q (.tup [.ref (A.t x.goal), .int (E x.goal).ans, .int (E x.goal).ep])) := fun c o z => by rw [upd_ne (ne_of_none z hq)]; exact z
                      refine ⟨_, rfl, pdB (E x.goal).told (E x.goal).ans (E x.goal).ep, pdB (E x.goal).told (E x.goal).ans (E x.goal).ep, .tup (SqT.of upd_same) (.cons (dp_ints (SqL.of (sq _ _ ht9))) (.cons (.int _) (.cons (.int _) .nil))),
                        .tup (SqT.of (sq _ _ hbf9)) (.cons (dp_ints (SqL.of (sq _ _ htb9))) (.cons (.int _) (.cons (.int _) .nil))), pdB_shaped _ _ _, pdB_shaped _ _ _, _, rfl, ?_⟩
                      refine ite2 (fun h => absurd h (by rw [pdB_eqv]; decide)) (fun _ => ?_)
                      exact tail _ sq
                    · exact tail _ (Same.refl _)
                  · intro H10 s10
                    refine ⟨_, rfl, A.e x.goal, C, dx9, _, _, rfl, s10 _ _ he9, T.cl, T.nE, rfl, _, rfl, bf, _, 2, .int (E x.goal).ep, rfl, rfl, SqT.of (s10 _ _ hbf9), rfl, _, _, rfl, rfl, _, rfl, ?_⟩
                    refine ite2 (fun h => absurd (of_decide_eq_true h) (by omega)) (fun _ => ?_)
                    refine ⟨_, rfl, A.e x.goal, C, dx9, _, _, rfl, s10 _ _ he9, T.cl, T.nA, rfl, _, rfl, bf, _, 1, .int (E x.goal).ans, rfl, rfl, SqT.of (s10 _ _ hbf9), rfl, _, _, rfl, rfl, _, rfl, ?_⟩
                    refine ite2 (fun h => absurd (of_decide_eq_true h) (by omega)) (fun _ => ?_)
                    refine ⟨_, rfl, A.e x.goal, C, dx9, _, _, rfl, s10 _ _ he9, T.cl, T.nT, rfl, A.t x.goal, _, rfl, .inl (SqL.of (s10 _ _ ht9)), _, rfl, bf, _, 0, .ref tb, rfl, rfl, SqT.of (s10 _ _ hbf9), rfl, tb, _, rfl, .inl (SqL.of (s10 _ _ htb9)), _, _, rfl, rfl, _, rfl, ?_⟩
                    refine ite2 (fun h => absurd (of_decide_eq_true h) (by rw [List.length_map, List.length_map]; omega)) (fun _ => ?_)
                    refine ⟨setE E x.goal X, ls', ep, l', _, _, _, _, _, _, _, _, _, _, _, _, _, rfl, I9.same s10, Ls9.keep I9 (Kp.same s10), ?_, fun q hq => setE_len (Nat.le_succ_of_le (ho q hq)) ?_, by omega⟩
                    · rcases hX with rfl | rfl
                      · rw [setE_id]
                        exact J.sub hsub
                      · exact (J.hear hmem).sub hsub
                    · rcases hX with rfl | rfl
                      · exact Nat.le_succ_of_le (ho _ hg)
                      · rw [hear_out]
                        exact Nat.le_succ_of_le (ho _ hg)
      · clear I7 Ls7 J ho hls hans hoj hi80 s7 hp H6 H7
        rintro σ' H7 ⟨E, ls, ep, l, v5, v6, v7, v8, v9, v10, v11, v12, v13, v14, v15, v16, v17, rfl, I7, Ls7, J, ho, hls⟩
        refine ⟨(by show 2 ≤ sizeLine; decide), fun p1 hp1 => ⟨(by show 2 ≤ sizeLine; decide), fun p2 hp2 => ⟨(by show 2 ≤ sizeLine; decide), fun p3 hp3 => ?_⟩⟩⟩
        have n12 : p1 ≠ p2 := ne_of_none upd_same hp2
        have n13 : p1 ≠ p3 := ne_of_none (by rw [upd_ne n12]; exact upd_same) hp3
        have n23 : p2 ≠ p3 := ne_of_none upd_same hp3
        have hp2' : H7 p2 = none := by rw [upd_ne n12.symm] at hp2; exact hp2
        have hp3' : H7 p3 = none := by rw [upd_ne n23.symm, upd_ne n13.symm] at hp3; exact hp3
        have s8 : Same H7 (upd (upd (upd H7 p1 (.tup [.int 0, .int 1])) p2 (.tup [.int 1, .int 0])) p3 (.tup [.ref p1, .ref p2])) := fun b o z => by
          rw [upd_ne (ne_of_none z hp3'), upd_ne (ne_of_none z hp2'), upd_ne (ne_of_none z hp1)]; exact z
        have g1 : (upd (upd (upd H7 p1 (.tup [.int 0, .int 1])) p2 (.tup [.int 1, .int 0])) p3 (.tup [.ref p1, .ref p2])) p1 = some (.tup [.int 0, .int 1]) := by rw [upd_ne n13, upd_ne n12, upd_same]
        have g2 : (upd (upd (upd H7 p1 (.tup [.int 0, .int 1])) p2 (.tup [.int 1, .int 0])) p3 (.tup [.ref p1, .ref p2])) p2 = some (.tup [.int 1, .int 0]) := by rw [upd_ne n23, upd_same]
        have g3 : (upd (upd (upd H7 p1 (.tup [.int 0, .int 1])) p2 (.tup [.int 1, .int 0])) p3 (.tup [.ref p1, .ref p2])) p3 = some (.tup [.ref p1, .ref p2]) := upd_same
        have I8 := I7.same s8
        have Ls8 := Ls7.keep I7 (Kp.same s8)
        generalize upd (upd (upd H7 p1 (.tup [.int 0, .int 1])) p2 (.tup [.int 1, .int 0])) p3 (.tup [.ref p1, .ref p2]) = H8 at s8 g1 g2 g3 I8 Ls8 ⊢
        refine ⟨p3, rfl, ⟨_, SqT.of g3⟩, for_tup (K := K) (a := p3) (xs := [.ref p1, .ref p2]) (fun _ σ' H' => Same H8 H' ∧ ∃ v16 v17 : Option V, σ' = [some (.ref a), some (.ref A.d), some (.ref A.L), some (.ref l), some (.int ep), v5, v6, v7, v8, v9, v10, v11, v12, v13, v14, v15, v16, v17])
          ⟨Same.refl _, v16, v17, rfl⟩ (fun _ _ H' _ q => SqT.of (q.1 _ _ g3)) ?_ ?_⟩
        · rintro q x σ' H9 hx ⟨s9, v16, v17, rfl⟩
          have hq2 : q < 2 := (List.getElem?_eq_some_iff.mp hx).1
          have hz := two hq2
          obtain ⟨pq, hpx, hpq⟩ : ∃ pq, x = V.ref pq ∧ H9 pq = some (.tup [.int (q : Int), .int ((1 - q : Nat) : Int)]) := by
            rcases i01 hq2 with rfl | rfl
            · cases Option.some.inj hx
              exact ⟨p1, rfl, s9 _ _ g1⟩
            · cases Option.some.inj hx
              exact ⟨p2, rfl, s9 _ _ g2⟩
          subst hpx
          have I9 := I8.same s9
          obtain ⟨⟨dxa, hea⟩, hoa, hta, _⟩ := id (I9.at_ q hq2)
          obtain ⟨⟨dxb, heb⟩, hob, htb, _⟩ := id (I9.at_ (1 - q) hz.1)
          refine ⟨pq, _, rfl, SqT.of hpq, rfl, _, _, rfl, _, _, rfl, rfl, ?_⟩
          refine ⟨_, rfl, _, rfl, A.L, _, _, _, rfl, rfl, SqL.of I9.en, ends_at hq2, A.e q, C, dxa, _, _, rfl, hea, T.cl, T.nT, rfl, ?_⟩
          refine ⟨_, rfl, _, rfl, A.L, _, _, _, rfl, rfl, SqL.of I9.en, ends_at hz.1, A.e (1 - q), C, dxb, _, _, rfl, heb, T.cl, T.nO, rfl, ?_⟩
          refine ⟨_, rfl, _, rfl, A.L, _, _, _, rfl, rfl, SqL.of I9.en, ends_at hq2, A.e q, C, dxa, _, _, rfl, hea, T.cl, T.nT, rfl, A.t q, _, rfl, .inl (SqL.of hta), _, rfl, ?_⟩
          rw [List.length_map]
          refine ⟨A.o (1 - q), _, rfl, SqL.of hob, fun p4 hp4 => ?_⟩
          rw [cutTo]
          have s10 : Same H9 (upd H9 p4 (.lst (((E (1 - q)).out.take (E q).told.length).map V.int))) := fun b o z => by rw [upd_ne (ne_of_none z hp4)]; exact z
          refine ⟨pdI _, pdI _, dp_ints (SqL.of (s10 _ _ hta)), dp_ints (SqL.of upd_same), shaped_ints _, shaped_ints _, _, rfl, ?_⟩
          refine ite2 (fun h => absurd h (by rw [eqv_ints, decide_eq_true (J.pre q hq2)]; decide)) (fun _ => ?_)
          refine ⟨_, rfl, _, rfl, A.L, _, _, _, rfl, rfl, SqL.of (s10 _ _ I9.en), ends_at hq2, A.e q, C, dxa, _, _, rfl, s10 _ _ hea, T.cl, T.nA, rfl, ?_⟩
          refine ⟨_, rfl, _, rfl, A.L, _, _, _, rfl, rfl, SqL.of (s10 _ _ I9.en), ends_at hz.1, A.e (1 - q), C, dxb, _, _, rfl, s10 _ _ heb, T.cl, T.nT, rfl, A.t (1 - q), _, rfl, .inl (SqL.of (s10 _ _ htb)), _, _, rfl, rfl, _, rfl, ?_⟩
          refine ite2 (fun h => absurd (of_decide_eq_true h) (by rw [List.length_map]; have := J.ans q hq2; omega)) (fun _ => ?_)
          exact ⟨s9.trans s10, _, _, rfl⟩
        · rintro σ' H9 ⟨s9, v16, v17, rfl⟩
          exact ⟨E, ls, ep, l, _, _, _, _, _, _, _, _, _, _, _, _, _, rfl, I8.same s9, Ls8.keep I8 (Kp.same s9), J, ho, hls⟩
    · clear I Ls J k4 D4 I4 Ls4 H4
      rintro σ H4 ⟨E, ls, ep, l, v5, v6, v7, v8, v9, v10, v11, v12, v13, v14, v15, v16, v17, rfl, I, _, J, ho, _⟩
      have J0 : JJ E [] ep := J.sub fun x hx => (nomatch hx)
      have ho80 : ∀ i, i < 2 → (E i).out.length ≤ 80 := fun i hi => by have := ho i hi; omega
      obtain ⟨⟨dxa, hea⟩, hoa, hta, _⟩ := id (I.at_ 0 (by decide))
      obtain ⟨⟨dxb, heb⟩, hob, htb, _⟩ := id (I.at_ 1 (by decide))
      -- for turn in range(2 * max(..) + 3)
      refine ⟨_, rfl, A.L, _, 0, .ref (A.e 0), rfl, rfl, SqL.of I.en, rfl, A.e 0, C, dxa, _, _, rfl, hea, T.cl, T.nO, rfl, A.o 0, _, rfl, .inl (SqL.of hoa), ?_⟩
      refine ⟨_, rfl, A.L, _, 1, .ref (A.e 1), rfl, rfl, SqL.of I.en, rfl, A.e 1, C, dxb, _, _, rfl, heb, T.cl, T.nO, rfl, A.o 1, _, rfl, .inl (SqL.of hob), _, _, rfl, _, _, rfl, rfl, .inl ⟨by decide, by decide⟩, _, _, rfl, rfl, ?_⟩
      rw [List.length_map, List.length_map]
      have hb0 := ho80 0 (by decide)
      have hb1 := ho80 1 (by decide)
      obtain ⟨N, hN, hN0, hN1, hNs⟩ : ∃ N : Nat, (2 : Int) * (if ((E 1).out.length : Int) > ((E 0).out.length : Int) then ((E 1).out.length : Int) else ((E 0).out.length : Int)) + 3 = (N : Int) ∧ (E 0).out.length ≤ N ∧ (E 1).out.length ≤ N ∧ N ≤ 1000 := by
        refine ⟨2 * max (E 0).out.length (E 1).out.length + 3, ?_, ?_, ?_, ?_⟩
        · split <;> omega
        all_goals omega
      refine ⟨(N : Int), congrArg (fun z => [V.int z]) hN, by omega, by omega, ?_⟩
      rw [Int.toNat_natCast]
      refine for_range (lo := 0) (n := N) (fun n σ' H' => ∃ (E' : Nat → ES) (v5 v7 v13 : Option V), σ' = [some (.ref a), some (.ref A.d), some (.ref A.L), some (.ref l), some (.int ep), v5, v6, v7, v8, v9, v10, v11, v12, v13, v14, v15, v16, v17] ∧ IW K C a A H' E' ∧ JJ E' [] ep ∧ QT (E 0).out (E 1).out ep E' n)
        ⟨E, v5, v7, v13, rfl, I, J0, J0.quiet⟩ ?_ ?_
      · clear hea heb hoa hob hta htb I
        rintro n σ' H5 hn ⟨E', v5, v7, v13, rfl, I, J, QQ⟩
        -- for at in (0, 1)
        refine ⟨(by show 2 ≤ sizeLine; decide), fun p hp => ?_⟩
        have s6 : Same H5 (upd H5 p (.tup [.int 0, .int 1])) := fun b o z => by rw [upd_ne (ne_of_none z hp)]; exact z
        have hp6 : (upd H5 p (.tup [.int 0, .int 1])) p = some (.tup [.int 0, .int 1]) := upd_same
        have I6 := I.same s6
        generalize upd H5 p (.tup [.int 0, .int 1]) = H6 at s6 hp6 I6 ⊢
        have ho1 : ∀ i, i < 2 → (E' i).out.length ≤ 80 := fun i hi => by
          rcases i01 hi with rfl | rfl
          · rw [QQ.o0]; exact hb0
          · rw [QQ.o1]; exact hb1
        refine ⟨p, rfl, ⟨_, SqT.of hp6⟩, for_tup (K := K) (a := p) (xs := [.int 0, .int 1]) (fun q σ' H' => q ≤ 2 ∧ H' p = some (.tup [.int 0, .int 1]) ∧ IW K C a A H' (stk ep E' q) ∧ ∃ (v7 v13 : Option V), σ' = [some (.ref a), some (.ref A.d), some (.ref A.L), some (.ref l), some (.int ep), some (.int (0 + (n : Nat))), v6, v7, v8, v9, v10, v11, v12, v13, v14, v15, v16, v17])
          ⟨by decide, hp6, I6, v7, v13, rfl⟩ (fun _ _ H' _ q => SqT.of q.2.1) ?_ ?_⟩
        · rintro q x σ' H7 hx ⟨hq2, hp7, I7, v7, v13, rfl⟩
          have hq : q < 2 := (List.getElem?_eq_some_iff.mp hx).1
          have hxq : x = V.int (q : Int) := by
            rcases i01 hq with rfl | rfl
            · exact (Option.some.inj hx).symm
            · exact (Option.some.inj hx).symm
          subst hxq
          obtain ⟨Jq, oq⟩ := stk_J J q hq2
          generalize hG : stk ep E' q = G at I7 Jq oq
          have hz := two hq
          have og : ∀ i, i < 2 → (G i).out.length ≤ 80 := fun i hi => by rw [oq]; exact ho1 i hi
          have hans : (G q).ans ≤ (G q).out.length := by
            have p1 := Jq.ans q hq
            have p2 := pre_len (Jq.pre (1 - q) hz.1)
            rw [hz.2.2] at p2
            omega
          obtain ⟨⟨dxq, heq⟩, _, _, _⟩ := id (I7.at_ q hq)
          -- for frame in ends[at].frames()
          refine ⟨_, rfl, _, rfl, A.L, _, _, _, rfl, rfl, SqL.of I7.en, ends_at hq, A.e q, dxq, _, rfl, heq, rfl, A.e q, A.o q, A.t q, G q, rfl, I7.at_ q hq, hans, by have := og q hq; omega, fun pf as H8 hpf s8 hpt hla hfr => ?_⟩
          have I8 := I7.same s8
          refine ⟨pf, rfl, ⟨_, SqT.of hpt⟩, for_tup (K := K) (a := pf) (xs := as.map V.ref) (fun m σ' H' => m ≤ as.length ∧ Kp A.M H8 H' ∧ IW K C a A H' (setE G (1 - q) (recv ep (G q) (G (1 - q)) m)) ∧ ∃ (v13 : Option V), σ' = [some (.ref a), some (.ref A.d), some (.ref A.L), some (.ref l), some (.int ep), some (.int (0 + (n : Nat))), v6, some (.int (q : Nat)), v8, v9, v10, v11, v12, v13, v14, v15, v16, v17])
            ⟨Nat.zero_le _, Kp.refl _ _, by show IW K C a A H8 (setE G (1 - q) (G (1 - q))); rw [setE_id]; exact I8, v13, rfl⟩ (fun _ _ H' _ z => SqT.of (z.2.1 _ _ hpt (I8.tup hpt))) ?_ ?_⟩
          · rintro m x σ' H9 hx ⟨hm, kp, I9, v13, rfl⟩
            rw [List.getElem?_map] at hx
            cases ea : as[m]? with
            | none => rw [ea] at hx; cases hx
            | some am =>
              rw [ea] at hx
              cases Option.some.inj hx
              have hma : m < as.length := (List.getElem?_eq_some_iff.mp ea).1
              have hmf : m < (G q).frames.length := by rw [← hla]; exact hma
              have ef : (G q).frames[m]? = some (G q).frames[m] := List.getElem?_eq_getElem hmf
              have hF8 := hfr m _ _ ea ef
              have hF : FrAt H9 am (G q).frames[m] := kp _ _ hF8 (I8.tup hF8)
              have rk := Jq.recv hq (Nat.le_of_lt hmf)
              have A9 := I9.at_ (1 - q) hz.1
              rw [setE_same] at A9
              obtain ⟨⟨dx9, he9⟩, _, _, _⟩ := id A9
              have e1q : (1 : Int) - (q : Int) = ((1 - q : Nat) : Int) := by omega
              refine ⟨_, rfl, _, rfl, _, _, rfl, rfl, A.L, _, _, _, rfl, rfl, SqL.of I9.en, ?_, A.e (1 - q), dx9, _, rfl, he9, rfl, _, rfl, _, rfl, A.e (1 - q), A.o (1 - q), A.t (1 - q), am, _, ep, _, rfl, A9, hF, ?_, fun H10 A10 k10 => ?_⟩
              · show atI [V.ref (A.e 0), V.ref (A.e 1)] ((1 : Int) - (q : Int)) = _
                rw [e1q]
                exact ends_at hz.1
              · have p2 := pre_len rk.pre
                have := og q hq
                omega
              have k10' : Kp [A.e (1 - q), A.o (1 - q), A.t (1 - q)] H9 H10 := k10.mono (by simp)
              refine ⟨hma, kp.trans (k10'.mono (Ad.inM hz.1)), ?_, _, rfl⟩
              have I10 := I9.step hz.1 A10 k10'
              rw [← recv_succ ef] at I10
              have es : setE (setE G (1 - q) (recv ep (G q) (G (1 - q)) m)) (1 - q) (recv ep (G q) (G (1 - q)) (m + 1)) = setE G (1 - q) (recv ep (G q) (G (1 - q)) (m + 1)) := by
                funext c
                unfold setE
                split <;> rfl
              rw [es] at I10
              exact I10
          · rintro σ' H9 ⟨hm, kp, I9, v13, rfl⟩
            rw [List.length_map, hla] at I9
            have hp8 := s8 _ _ hp7
            refine ⟨hq, kp _ _ hp8 (I8.tup hp8), ?_, _, _, rfl⟩
            show IW K C a A H9 (quietAt ep (stk ep E' q) q)
            rw [hG]
            exact I9
        · rintro σ' H7 ⟨_, hp7, I7, v7, v13, rfl⟩
          refine ⟨_, _, _, _, rfl, I7, (stk_J J 2 (by decide)).1, ?_⟩
          exact quiet_turn QQ
      · rintro σ' H5 ⟨E', v5, v7, v13, rfl, I, J, QQ⟩
        obtain ⟨z1, z2, z3⟩ := quiet_end QQ hN0 hN1
        obtain ⟨⟨dxa, hea⟩, hoa, hta, _⟩ := id (I.at_ 0 (by decide))
        obtain ⟨⟨dxb, heb⟩, hob, htb, _⟩ := id (I.at_ 1 (by decide))
        refine ⟨_, rfl, A.L, _, 0, .ref (A.e 0), rfl, rfl, SqL.of I.en, rfl, A.e 0, C, dxa, _, _, rfl, hea, T.cl, T.nT, rfl, ?_⟩
        refine ⟨_, rfl, A.L, _, 1, .ref (A.e 1), rfl, rfl, SqL.of I.en, rfl, A.e 1, C, dxb, _, _, rfl, heb, T.cl, T.nO, rfl, ?_⟩
        refine ⟨pdI _, pdI _, dp_ints (SqL.of hta), dp_ints (SqL.of hob), shaped_ints _, shaped_ints _, _, rfl, ?_⟩
        refine ite2 (fun _ => ?_) (fun h => absurd (by rw [eqv_ints]; exact decide_eq_true z1) h)
        refine ⟨_, rfl, A.L, _, 1, .ref (A.e 1), rfl, rfl, SqL.of I.en, rfl, A.e 1, C, dxb, _, _, rfl, heb, T.cl, T.nT, rfl, ?_⟩
        refine ⟨_, rfl, A.L, _, 0, .ref (A.e 0), rfl, rfl, SqL.of I.en, rfl, A.e 0, C, dxa, _, _, rfl, hea, T.cl, T.nO, rfl, ?_⟩
        refine ⟨pdI _, pdI _, dp_ints (SqL.of htb), dp_ints (SqL.of hoa), shaped_ints _, shaped_ints _, _, rfl, ?_⟩
        refine ite2 (fun _ => ?_) (fun h => absurd (by rw [eqv_ints]; exact decide_eq_true z2) h)
        refine ⟨_, rfl, A.L, _, 0, .ref (A.e 0), rfl, rfl, SqL.of I.en, rfl, A.e 0, C, dxa, _, _, rfl, hea, T.cl, T.nA, rfl, ?_⟩
        refine ⟨_, rfl, A.L, _, 0, .ref (A.e 0), rfl, rfl, SqL.of I.en, rfl, A.e 0, C, dxa, _, _, rfl, hea, T.cl, T.nO, rfl, A.o 0, _, rfl, .inl (SqL.of hoa), rfl, ?_⟩
        show Q (V.bl (decide (V.int ((E' 0).ans : Int) = V.int (((E' 0).out.map V.int).length : Int)))) _
        rw [List.length_map, z3, decide_eq_true rfl]
        exact k _
end
end Mc
namespace Mc
open PySem L2 PySem.Spec PyProof.Rows
theorem all_mk {l : PySem.W.OpenLaw} {w : World} {K : PySem.W.Frag} {h : Heap} {mg : PySem.Str → Option Value} {fa : Addr} (X : K.In h) (G : h.Ns mainGlobals mg) (hfa : mg "law" = some (.ref fa))
    {C : Addr}
    {f_End_init : Addr} {od_End_init an_End_init : Option Addr} {sl_End_init : Array (Option Value)} {oc_End_init kV_End_init dc_End_init pm_End_init cd_End_init ct_End_init : Value}
    {f_End_put : Addr} {od_End_put an_End_put : Option Addr} {sl_End_put : Array (Option Value)} {oc_End_put kV_End_put dc_End_put pm_End_put cd_End_put ct_End_put : Value}
    {f_End_frames : Addr} {od_End_frames an_End_frames : Option Addr} {sl_End_frames : Array (Option Value)} {oc_End_frames kV_End_frames dc_End_frames pm_End_frames cd_End_frames ct_End_frames : Value}
    {f_End_hear : Addr} {od_End_hear an_End_hear : Option Addr} {sl_End_hear : Array (Option Value)} {oc_End_hear kV_End_hear dc_End_hear pm_End_hear cd_End_hear ct_End_hear : Value}
    {f_law_number : Addr} {od_law_number an_law_number : Option Addr} {sl_law_number : Array (Option Value)} {oc_law_number kV_law_number dc_law_number pm_law_number cd_law_number ct_law_number : Value}
    {f_law_take : Addr} {od_law_take an_law_take : Option Addr} {sl_law_take : Array (Option Value)} {oc_law_take kV_law_take dc_law_take pm_law_take cd_law_take ct_law_take : Value}
    {f_law : Addr} {od_law an_law : Option Addr} {sl_law : Array (Option Value)} {oc_law kV_law dc_law pm_law cd_law ct_law : Value}
    {t_WINDOW : Tok}
    (a_End : PySem.W.nsIn K mainGlobals "End" = some (some (.ref C)))
    (a_End_init : PySem.W.findIn K (.ref C) "__init__" = some (some (.ref f_End_init)))
    (i_End_init : PySem.W.isFn K (.ref f_End_init) = true)
    (l_End_init : K.lookup f_End_init = some ⟨oc_End_init, od_End_init, .func (PySem.W.fnOf "__init__" "End.__init__" (defArgs sEInit) (defBody sEInit) (defScope sEInit) .none kV_End_init dc_End_init pm_End_init an_End_init cd_End_init ct_End_init), sl_End_init⟩)
    (c_End_init : PySem.W.codeIn K cd_End_init "End.__init__" = true)
    (k_End_init : PySem.W.keepIn K (.ref f_End_init) = true)
    (a_End_put : PySem.W.findIn K (.ref C) "put" = some (some (.ref f_End_put)))
    (i_End_put : PySem.W.isFn K (.ref f_End_put) = true)
    (l_End_put : K.lookup f_End_put = some ⟨oc_End_put, od_End_put, .func (PySem.W.fnOf "put" "End.put" (defArgs sEPut) (defBody sEPut) (defScope sEPut) .none kV_End_put dc_End_put pm_End_put an_End_put cd_End_put ct_End_put), sl_End_put⟩)
    (c_End_put : PySem.W.codeIn K cd_End_put "End.put" = true)
    (k_End_put : PySem.W.keepIn K (.ref f_End_put) = true)
    (a_End_frames : PySem.W.findIn K (.ref C) "frames" = some (some (.ref f_End_frames)))
    (i_End_frames : PySem.W.isFn K (.ref f_End_frames) = true)
    (l_End_frames : K.lookup f_End_frames = some ⟨oc_End_frames, od_End_frames, .func (PySem.W.fnOf "frames" "End.frames" (defArgs sEFrames) (defBody sEFrames) (defScope sEFrames) .none kV_End_frames dc_End_frames pm_End_frames an_End_frames cd_End_frames ct_End_frames), sl_End_frames⟩)
    (c_End_frames : PySem.W.codeIn K cd_End_frames "End.frames" = true)
    (k_End_frames : PySem.W.keepIn K (.ref f_End_frames) = true)
    (a_End_hear : PySem.W.findIn K (.ref C) "hear" = some (some (.ref f_End_hear)))
    (i_End_hear : PySem.W.isFn K (.ref f_End_hear) = true)
    (l_End_hear : K.lookup f_End_hear = some ⟨oc_End_hear, od_End_hear, .func (PySem.W.fnOf "hear" "End.hear" (defArgs sEHear) (defBody sEHear) (defScope sEHear) .none kV_End_hear dc_End_hear pm_End_hear an_End_hear cd_End_hear ct_End_hear), sl_End_hear⟩)
    (c_End_hear : PySem.W.codeIn K cd_End_hear "End.hear" = true)
    (k_End_hear : PySem.W.keepIn K (.ref f_End_hear) = true)
    (pg_End : PySem.W.plainGet K C PySem.Str.empty = true)
    (hd_End : PySem.W.hasDictIn K C = true)
    (po_End : PySem.W.plainOver K C = true)
    (sa_End : PySem.W.findIn K (.ref C) "__setattr__" = some (some (.builtin "object.__setattr__")))
    (mk_End : PySem.W.makesIn K C = true)
    (kc_End : PySem.W.keepIn K (.ref C) = true)
    (na_End_out : PySem.W.findIn K (.ref C) "out" = some none)
    (na_End_answered : PySem.W.findIn K (.ref C) "answered" = some none)
    (na_End_told : PySem.W.findIn K (.ref C) "told" = some none)
    (na_End_epoch : PySem.W.findIn K (.ref C) "epoch" = some none)
    (a_law_number : PySem.W.nsIn K mainGlobals "_law_number" = some (some (.ref f_law_number)))
    (l_law_number : K.lookup f_law_number = some ⟨oc_law_number, od_law_number, .func (PySem.W.fnOf "_law_number" "_law_number" (defArgs sNum) (defBody sNum) (defScope sNum) .none kV_law_number dc_law_number pm_law_number an_law_number cd_law_number ct_law_number), sl_law_number⟩)
    (c_law_number : PySem.W.codeIn K cd_law_number "_law_number" = true)
    (k_law_number : PySem.W.keepIn K (.ref f_law_number) = true)
    (a_law_take : PySem.W.nsIn K mainGlobals "_law_take" = some (some (.ref f_law_take)))
    (l_law_take : K.lookup f_law_take = some ⟨oc_law_take, od_law_take, .func (PySem.W.fnOf "_law_take" "_law_take" (defArgs sTake) (defBody sTake) (defScope sTake) .none kV_law_take dc_law_take pm_law_take an_law_take cd_law_take ct_law_take), sl_law_take⟩)
    (c_law_take : PySem.W.codeIn K cd_law_take "_law_take" = true)
    (k_law_take : PySem.W.keepIn K (.ref f_law_take) = true)
    (a_law : PySem.W.nsIn K mainGlobals "law" = some (some (.ref f_law)))
    (l_law : K.lookup f_law = some ⟨oc_law, od_law, .func (PySem.W.fnOf "law" "law" (defArgs s_law) (defBody s_law) (defScope s_law) .none kV_law dc_law pm_law an_law cd_law ct_law), sl_law⟩)
    (c_law : PySem.W.codeIn K cd_law "law" = true)
    (k_law : PySem.W.keepIn K (.ref f_law) = true)
    (a_WINDOW : PySem.W.nsIn K mainGlobals "WINDOW" = some (some (.int 3 t_WINDOW)))
    (z_len : PySem.W.nsIn K mainGlobals "len" = some none)
    (z_int : PySem.W.nsIn K mainGlobals "int" = some none)
    (z_abs : PySem.W.nsIn K mainGlobals "abs" = some none)
    (z_min : PySem.W.nsIn K mainGlobals "min" = some none)
    (z_max : PySem.W.nsIn K mainGlobals "max" = some none)
    (z_tuple : PySem.W.nsIn K mainGlobals "tuple" = some none)
    (z_range : PySem.W.nsIn K mainGlobals "range" = some none)
    (z_any : PySem.W.nsIn K mainGlobals "any" = some none)
    (z_list : PySem.W.nsIn K mainGlobals "list" = some none) :
    ∃ fd : FuncData, (∀ (s : Shared) (v : Value), BindsTo s fd ⟨[v], []⟩ [("script", v)]) ∧ ∀ base : Heap, K.In base → base.Ns mainGlobals mg → FnOk l.prog w K mg base CX0 4 fa fd ["script"] (spLaw K) := by
  have e := hfa.symm.trans (PySem.W.mg_of X G a_law)
  cases e
  have F_End_init := fun_mk (st := sEInit) l_End_init c_End_init k_End_init
  have b_End_init := F_End_init.binds (ps := ["self"]) fun _ _ _ _ _ _ us hl => match us, hl with | [_], _ => rfl
  have F_End_put := fun_mk (st := sEPut) l_End_put c_End_put k_End_put
  have b_End_put := F_End_put.binds (ps := ["self", "word"]) fun _ _ _ _ _ _ us hl => match us, hl with | [_, _], _ => rfl
  have M_End_put : Meth K C "put" f_End_put := ⟨a_End_put, i_End_put, k_End_put⟩
  have F_End_frames := fun_mk (st := sEFrames) l_End_frames c_End_frames k_End_frames
  have b_End_frames := F_End_frames.binds (ps := ["self"]) fun _ _ _ _ _ _ us hl => match us, hl with | [_], _ => rfl
  have M_End_frames : Meth K C "frames" f_End_frames := ⟨a_End_frames, i_End_frames, k_End_frames⟩
  have F_End_hear := fun_mk (st := sEHear) l_End_hear c_End_hear k_End_hear
  have b_End_hear := F_End_hear.binds (ps := ["self", "epoch", "frame"]) fun _ _ _ _ _ _ us hl => match us, hl with | [_, _, _], _ => rfl
  have M_End_hear : Meth K C "hear" f_End_hear := ⟨a_End_hear, i_End_hear, k_End_hear⟩
  have cls_End : Cls K C := ⟨pg_End, hd_End, po_End, sa_End⟩
  have g_End := PySem.W.mg_of X G a_End
  have Mk_End : Mk K C f_End_init := ⟨mk_End, a_End_init, i_End_init, kc_End⟩
  have F_law_number := fun_mk (st := sNum) l_law_number c_law_number k_law_number
  have b_law_number := F_law_number.binds (ps := ["script", "index"]) fun _ _ _ _ _ _ us hl => match us, hl with | [_, _], _ => rfl
  have g_law_number := PySem.W.mg_of X G a_law_number
  have F_law_take := fun_mk (st := sTake) l_law_take c_law_take k_law_take
  have b_law_take := F_law_take.binds (ps := ["draw", "many"]) fun _ _ _ _ _ _ us hl => match us, hl with | [_, _], _ => rfl
  have g_law_take := PySem.W.mg_of X G a_law_take
  have F_law := fun_mk (st := s_law) l_law c_law k_law
  have g_WINDOW := PySem.W.mg_of X G a_WINDOW
  have n_len := PySem.W.mg_none_of X G z_len
  have n_int := PySem.W.mg_none_of X G z_int
  have n_abs := PySem.W.mg_none_of X G z_abs
  have n_min := PySem.W.mg_none_of X G z_min
  have n_max := PySem.W.mg_none_of X G z_max
  have n_tuple := PySem.W.mg_none_of X G z_tuple
  have n_range := PySem.W.mg_none_of X G z_range
  have n_any := PySem.W.mg_none_of X G z_any
  have n_list := PySem.W.mg_none_of X G z_list
  refine ⟨PySem.W.fnOf "law" "law" (defArgs s_law) (defBody s_law) (defScope s_law) .none kV_law dc_law pm_law an_law cd_law ct_law, fun s v => .of_eq rfl, fun base _ _ => ?_⟩
  have TD : TxD K mg f_law_number f_law_take := ⟨n_len, n_int, n_abs, g_law_number, g_law_take⟩
  have TE : TxE K mg C := ⟨cls_End, na_End_out, na_End_answered, na_End_told, na_End_epoch, g_End, ⟨_, g_WINDOW⟩, n_len, n_min, n_tuple, n_range⟩
  exact ok_law F_law ⟨TE, n_max, n_any, n_list⟩ ⟨_, _, g_law_take, F_law_take.kp, b_law_take, ok_take F_law_take TD F_law_number b_law_number⟩ ⟨_, _, g_End, Mk_End, b_End_init, ok_einit F_End_init TE⟩
    ⟨_, _, M_End_put, b_End_put, ok_eput F_End_put TE⟩ ⟨_, _, M_End_frames, b_End_frames, ok_eframes F_End_frames TE⟩ ⟨_, _, M_End_hear, b_End_hear, ok_ehear F_End_hear TE⟩
theorem walk {l : PySem.W.OpenLaw} {q : Program} {loose : List PySem.Str} {XP : (PySem.Str → Option Value) → Heap → Prop} {YP : World → Heap → Prop} {d : DefRec} {K : Params → PySem.W.Frag} (hn : l.most = some 63) (hdf : d.params.defaults = [])
    (hY : ∀ (w : World) (h : Heap), YP w h → (K w.params).In h)
    (F : ∀ (w : World) (mg : PySem.Str → Option Value) (fa : Addr) (h : Heap), (K w.params).In h → h.Ns mainGlobals mg → mg d.name = some (.ref fa) →
      ∃ fd : FuncData, (∀ (s : Shared) (u : Value), BindsTo s fd ⟨[u], []⟩ [("script", u)]) ∧ ∀ base : Heap, (K w.params).In base → base.Ns mainGlobals mg → FnOk l.prog w (K w.params) mg base CX0 4 fa fd ["script"] (spLaw (K w.params))) :
    PySem.W.WalkO q loose XP YP l.row.toRowW d [] (fun f vs => PySem.call f vs) :=
  L2.walk_of (n := 63) (k := 4) (x := "script") (CX := fun _ => CX0) (sp := fun w => spLaw (K w.params)) hn (by decide) hdf ⟨rfl, by decide, by decide⟩ hY F (fun _ _ a ns hl _ hS => ⟨a, ns, rfl, hS, hl, fun _ => rfl⟩) fun _ _ _ _ _ z => z
end Mc
open PySem PySem.W PyProof.Rows
set_option maxRecDepth 100000 in
set_option maxHeartbeats 0 in
theorem PySem.Challenge.cw_mastcalls_k14_whole_ends_holds : PySem.Challenge.rw_mastcalls_k14_whole_ends.Holds := by
  w_on; o_law; k_head; (case hw => w_witness2)
  k_fill
  refine Mc.walk (l := PySem.Challenge.rw_mastcalls_k14_whole_ends) rfl rfl (fun w h Y => PySem.W.kIn_of Y) ?F
  case F =>
    intro w mg fa h KX G hmg
    refine' Mc.all_mk KX G hmg ?a_End ?a_End_init ?i_End_init ?l_End_init ?c_End_init ?k_End_init ?a_End_put ?i_End_put ?l_End_put ?c_End_put ?k_End_put ?a_End_frames ?i_End_frames ?l_End_frames ?c_End_frames ?k_End_frames ?a_End_hear ?i_End_hear ?l_End_hear ?c_End_hear ?k_End_hear ?pg_End ?hd_End ?po_End ?sa_End ?mk_End ?kc_End ?na_End_out ?na_End_answered ?na_End_told ?na_End_epoch ?a_law_number ?l_law_number ?c_law_number ?k_law_number ?a_law_take ?l_law_take ?c_law_take ?k_law_take ?a_law ?l_law ?c_law ?k_law ?a_WINDOW ?z_len ?z_int ?z_abs ?z_min ?z_max ?z_tuple ?z_range ?z_any ?z_list
    (case a_End => k_is)
    (case a_End_init => k_is)
    (case i_End_init => k_is)
    (case l_End_init => k_is)
    (case c_End_init => k_is)
    (case k_End_init => k_is)
    (case a_End_put => k_is)
    (case i_End_put => k_is)
    (case l_End_put => k_is)
    (case c_End_put => k_is)
    (case k_End_put => k_is)
    (case a_End_frames => k_is)
    (case i_End_frames => k_is)
    (case l_End_frames => k_is)
    (case c_End_frames => k_is)
    (case k_End_frames => k_is)
    (case a_End_hear => k_is)
    (case i_End_hear => k_is)
    (case l_End_hear => k_is)
    (case c_End_hear => k_is)
    (case k_End_hear => k_is)
    (case pg_End => k_is)
    (case hd_End => k_is)
    (case po_End => k_is)
    (case sa_End => k_is)
    (case mk_End => k_is)
    (case kc_End => k_is)
    (case na_End_out => k_is)
    (case na_End_answered => k_is)
    (case na_End_told => k_is)
    (case na_End_epoch => k_is)
    (case a_law_number => k_is)
    (case l_law_number => k_is)
    (case c_law_number => k_is)
    (case k_law_number => k_is)
    (case a_law_take => k_is)
    (case l_law_take => k_is)
    (case c_law_take => k_is)
    (case k_law_take => k_is)
    (case a_law => k_is)
    (case l_law => k_is)
    (case c_law => k_is)
    (case k_law => k_is)
    (case a_WINDOW => k_is)
    (case z_len => k_is)
    (case z_int => k_is)
    (case z_abs => k_is)
    (case z_min => k_is)
    (case z_max => k_is)
    (case z_tuple => k_is)
    (case z_range => k_is)
    (case z_any => k_is)
    (case z_list => k_is)
#print axioms PySem.Challenge.cw_mastcalls_k14_whole_ends_holds
