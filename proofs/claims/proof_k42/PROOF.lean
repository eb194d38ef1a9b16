import PyProof.Rows.All
import Wide.All
import OpenK.AllK
import Wide.FinOn
import HandS.ForMost
import HandS.Style
import HandS.Conv
import HandS.DictComp
import HandS.Evl
import HandS.ExcInit
import HandS.ExcField
import KE.KExcInit
import HandS.WordsExc
import HandS.TupAny
import HandS.IsInst
import PySem.Challenge.RW_mastcalls_k42_whole_keepers
set_option Elab.async false
set_option maxRecDepth 100000
set_option maxHeartbeats 4000000
namespace Mc
open PySem L2 PySem.Spec PyProof.Rows
/-! rules that the layer lacks -/
theorem get_list {X : Cx} : PGet X (rIxL X.K) := by
  intro pins s σ H o i ov iv Q I ro ri h
  obtain ⟨p, xs, k, v, rfl, rfl, hs, hv, q⟩ := h
  cases ro
  obtain ⟨t, rfl⟩ := ri
  obtain ⟨its, r, pl, hz⟩ := I.list hs
  obtain ⟨j, h1, h2, h3, h4, h5⟩ := atI_get hv
  obtain ⟨w, ew, rw'⟩ := r.get h2
  have hl := r.length
  have hn := line63
  have fin : EP X pins σ Q w s := ⟨v, H, I, rw', q⟩
  by_cases h0 : 0 ≤ k
  · have hj : k.toNat = j := by
      rw [seqIndex_of h0 h5] at h1
      exact Option.some.inj h1
    exact wpAny_getItem_list pl.isList h0 (by omega) (by rw [hj]; simpa using ew) fin
  · have hj : (k + (its.toArray.size : Int)).toNat = j := by
      rw [seqIndex_neg (by omega) h4] at h1
      rw [List.size_toArray, ← hl]
      exact Option.some.inj h1
    exact wpAny_getItem_list_neg pl.isList (by omega) (by rw [List.size_toArray] <;> omega) (by omega) (by rw [hj]; simpa using ew) fin

/-! ### a heap that is kept but for some objects -/
def Kp (M : List Addr) (H H' : Hp) : Prop := ∀ b o, H b = some o → b ∉ M → H' b = some o
theorem Kp.refl (M : List Addr) (H : Hp) : Kp M H H := fun _ _ h _ => h
theorem Kp.trans {M : List Addr} {H H1 H2 : Hp} (a : Kp M H H1) (b : Kp M H1 H2) : Kp M H H2 := fun c o h n => b c o (a c o h n) n
theorem Kp.mono {M N : List Addr} {H H' : Hp} (k : Kp M H H') (h : ∀ b ∈ M, b ∈ N) : Kp N H H' := fun b o e n => k b o e fun z => n (h b z)
theorem Kp.new {M : List Addr} {p : Addr} {H : Hp} {o : HO} (h : H p = none) : Kp M H (upd H p o) := fun b u e _ => by
  rw [upd_ne (ne_of_none e h)]
  exact e
theorem Kp.at {M : List Addr} {d : Addr} {H : Hp} {o : HO} (h : d ∈ M) : Kp M H (upd H d o) := fun b u e n => by
  rw [upd_ne fun z => n (by rw [z]; exact h)]
  exact e
theorem Kp.same {M : List Addr} {H H' : Hp} (h : Same H H') : Kp M H H' := fun b o e _ => h b o e
/-- nothing tracked is lost -/
def Lv (H H' : Hp) : Prop := ∀ b, H' b = none → H b = none
theorem Kp.live {M : List Addr} {H H' : Hp} (k : Kp M H H') (h : ∀ d ∈ M, ∃ o, H' d = some o) {p : Addr} (e : H' p = none) : H p = none := by
  cases q : H p with
  | none => rfl
  | some u =>
    by_cases n : p ∈ M
    · obtain ⟨o, z⟩ := h p n
      rw [z] at e; cases e
    · rw [k p u q n] at e; cases e
/-- what was not there may be changed freely -/
theorem Kp.drop {M : List Addr} {p : Addr} {H H' : Hp} (k : Kp (p :: M) H H') (h : H p = none) : Kp M H H' := fun b o e n => k b o e fun z => by
  rcases List.mem_cons.mp z with rfl | z
  · rw [h] at e; cases e
  · exact n z

/-- the draw stands at d: the script, and how many were drawn; M: all that may be changed -/
structure Dr (K : PySem.W.Frag) (M : List Addr) (d a : Addr) (H : Hp) : Prop where
  at_ : ∃ k : Int, H d = some (.lst [.ref a, .int k])
  mem : d ∈ M
  sc : ∃ ns : List Int, ns.length ≤ 63 ∧ ∀ H', Kp M H H' → SqL K H' a (ns.map V.int)
section
variable {K : PySem.W.Frag} {M : List Addr} {d a : Addr} {H H' : Hp}
theorem Dr.keep (D : Dr K M d a H) (k : Kp M H H') (e : ∀ o, H d = some o → H' d = some o) : Dr K M d a H' := by
  obtain ⟨⟨k0, h⟩, m, ns, hl, hs⟩ := D
  exact ⟨⟨k0, e _ h⟩, m, ns, hl, fun H2 k2 => hs H2 (k.trans k2)⟩
theorem Dr.same (D : Dr K M d a H) (k : Same H H') : Dr K M d a H' := D.keep (Kp.same k) fun o h => k _ o h
theorem Dr.new {p : Addr} {o : HO} (D : Dr K M d a H) (h : H p = none) : Dr K M d a (upd H p o) := D.same fun b u e => by rw [upd_ne (ne_of_none e h)]; exact e
theorem Dr.next (D : Dr K M d a H) (k : Kp M H H') {j : Int} (h : H' d = some (.lst [.ref a, .int j])) : Dr K M d a H' := by
  obtain ⟨_, m, ns, hl, hs⟩ := D
  exact ⟨⟨j, h⟩, m, ns, hl, fun H2 k2 => hs H2 (k.trans k2)⟩
/-- one more object may be changed, that was not there -/
theorem Dr.grow {p : Addr} (D : Dr K M d a H) (h : H p = none) : Dr K (p :: M) d a H := by
  obtain ⟨k0, m, ns, hl, hs⟩ := D
  exact ⟨k0, List.mem_cons_of_mem _ m, ns, hl, fun H2 k2 => hs H2 (k2.drop h)⟩
/-- fewer may be changed -/
theorem Dr.sub {N : List Addr} (D : Dr K M d a H) (h : ∀ b ∈ N, b ∈ M) (hd : d ∈ N) : Dr K N d a H := by
  obtain ⟨k0, _, ns, hl, hs⟩ := D
  exact ⟨k0, hd, ns, hl, fun H2 k2 => hs H2 (k2.mono h)⟩
/-- a draw made of the script -/
theorem Dr.mk' {ns : List Int} {j : Int} (hs : SqL K H a (ns.map V.int)) (hl : ns.length ≤ 63) (hd : H d = none) : Dr K [d] d a (upd H d (.lst [.ref a, .int j])) := by
  refine ⟨⟨j, upd_same⟩, List.mem_singleton.mpr rfl, ns, hl, fun H' k => ?_⟩
  have ne : ∀ {o}, H a = some o → a ∉ [d] := fun h z => ne_of_none h hd (List.mem_singleton.mp z)
  rcases hs with (h | ⟨o, h⟩) | h
  · exact .inl (.inl (k a _ (by rw [upd_ne (ne_of_none h hd)]; exact h) (ne h)))
  · exact .inl (.inr ⟨o, k a _ (by rw [upd_ne (ne_of_none h hd)]; exact h) (ne h)⟩)
  · exact .inr h
end

theorem rel_int {i : Int} {t : Tok} : RelV (.int i) (.int i t) := ⟨t, rfl⟩
theorem rel_str {x : PySem.Str} {t : Tok} : RelV (.str x) (.str x t) := ⟨t, rfl⟩
/-! ### rules for a comprehension's block: K by its name -/
section
variable {X : Cx} {K : PySem.W.Frag} {e : Expr} {f : PySem.Str} {pos : Pos} {ta : TE}
theorem pe_fldK (h : X.K = K) (he : PE X e ta) (hb : attributeBase e f X.env (eval e X.env) = eval e X.env) : PE X (.Attribute e f pos) (tFld K ta f) := by
  subst h
  exact pe_fld he hb
theorem ix_listK (h : X.K = K) : IxR X (rIxL K) := by
  subst h
  exact ix_list
theorem ix_tupK (h : X.K = K) : IxR X (rIxT K) := by
  subst h
  exact ix_tup
theorem sl_listK (h : X.K = K) : SlR X (rSlL K) := by
  subst h
  exact sl_list
theorem call_len_seqK (h : X.K = K) : CallR X (.builtin "len") (fun xs H Q => ∃ p ys, xs = [.ref p] ∧ (SqL K H p ys ∨ SqT K H p ys) ∧ Q (.int ys.length) H) := by
  subst h
  exact call_len_seq
theorem op_eqDK (h : X.K = K) (hu : X.A.units + 64 < cLine) : OpR X (compareOp .Eq) (rEqD K) := by
  subst h
  exact op_eqD hu
theorem op_neDK (h : X.K = K) (hu : X.A.units + 64 < cLine) : OpR X (compareOp .NotEq) (rNeD K) := by
  subst h
  exact op_neD hu
theorem pe_tupleOfK (h : X.K = K) {a : Expr} {p pos : Pos} (hg : Gl X "tuple") (hm : X.mg "tuple" = none) (ha : PE X a ta) (na : starEach [a] X.env = (false, eval a X.env) :: starEach [] X.env := by rfl) :
    PE X (.Call (.Name "tuple" p) [a] [] pos) (tThen ta (kTup K)) := by
  subst h
  exact pe_tupleOf hg hm ha na
end
/-! ### defs, methods, classes: what a caller needs -/
/-- a def of the module keeps its promise -/
def Cal (P : Program) (w : World) (K : PySem.W.Frag) (mg : PySem.Str → Option Value) (base : Heap) (k : Nat) (x : PySem.Str) (ps : List PySem.Str) (sp : Sp) : Prop :=
  ∃ (f : Addr) (fd : FuncData), mg x = some (.ref f) ∧ PySem.W.keepIn K (.ref f) = true ∧ Binds K fd ps [] ∧ FnOk P w K mg base CX0 k f fd ps sp
/-- a method of the class at C -/
def CalM (P : Program) (w : World) (K : PySem.W.Frag) (mg : PySem.Str → Option Value) (base : Heap) (C : Addr) (k : Nat) (m : PySem.Str) (ps : List PySem.Str) (sp : Sp) : Prop :=
  ∃ (f : Addr) (fd : FuncData), Meth K C m f ∧ Binds K fd ps [] ∧ FnOk P w K mg base CX0 k f fd ps sp
/-- the class of that name, made by its __init__ -/
def CalI (P : Program) (w : World) (K : PySem.W.Frag) (mg : PySem.Str → Option Value) (base : Heap) (C : Addr) (k : Nat) (x : PySem.Str) (ps : List PySem.Str) (sp : Sp) : Prop :=
  ∃ (f : Addr) (fd : FuncData), mg x = some (.ref C) ∧ Mk K C f ∧ Binds K fd ps [] ∧ FnOk P w K mg base CX0 k f fd ps sp
section
variable {X : Cx} {k : Nat} {x m : PySem.Str} {ps : List PySem.Str} {sp : Sp} {C : Addr} {p pos apos : Pos} {e o : Expr} {es : List Expr} {t : TA} {ta : TE}
theorem pe_cal (c : Cal X.prog X.w X.K X.mg X.base k x ps sp) (hr : Room k X.A) (hg : Gl X x) (ha : PA X (e :: es) t) (hdb : (x == ("__debug__" : PySem.Str)) = false := by decide)
    (he : starEach (e :: es) X.env = (false, eval e X.env) :: starEach es X.env := by rfl) (hpl : (backTo pos (starEach es X.env)).any (·.1) = false := by rfl) : PE X (.Call (.Name x p) (e :: es) [] pos) (tCall sp [] E0 t) := by
  obtain ⟨f, fd, hm, hk, hb, F⟩ := c
  exact pe_call F hr hg hm hk hb .nil pass0 ha hdb he hpl
theorem pe_cal0 (c : Cal X.prog X.w X.K X.mg X.base k x ps sp) (hr : Room k X.A) (hg : Gl X x) (hdb : (x == ("__debug__" : PySem.Str)) = false := by decide) : PE X (.Call (.Name x p) [] [] pos) (tCall sp [] E0 tNil) := by
  obtain ⟨f, fd, hm, hk, hb, F⟩ := c
  exact pe_call0 F hr hg hm hk hb .nil pass0 hdb
theorem pe_calM {pl : Sem Bool} (he : PE X o ta) (cl : Cls X.K C) (c : CalM X.prog X.w X.K X.mg X.base C k m ps sp) (hr : Room k X.A) (ha : PA X (e :: es) t)
    (hst : starEach (e :: es) X.env = (false, eval e X.env) :: starEach es X.env := by rfl) (hpl : (backTo pos (starEach es X.env)).any (·.1) = false := by rfl)
    (ht : eval (.Call (.Attribute o m apos) (e :: es) [] pos) X.env = (do
      let ov ← eval o X.env
      standAt apos.atName
      let (f, first) ← holding [ov] (getMethod ov m pl)
      callWith pos f first (backTo pos (starEach (e :: es) X.env)) (backToKw pos (keywordEach [] X.env))) := by rfl) :
    PE X (.Call (.Attribute o m apos) (e :: es) [] pos) (tMeth C m sp [] E0 ta t) := by
  obtain ⟨f, fd, hm, hb, F⟩ := c
  exact pe_meth he cl hm F hr hb .nil pass0 ha hst hpl ht
theorem pe_calM0 {pl : Sem Bool} (he : PE X o ta) (cl : Cls X.K C) (c : CalM X.prog X.w X.K X.mg X.base C k m ps sp) (hr : Room k X.A)
    (ht : eval (.Call (.Attribute o m apos) [] [] pos) X.env = (do
      let ov ← eval o X.env
      standAt apos.atName
      let (f, first) ← holding [ov] (getMethod ov m pl)
      callWith pos f first (backTo pos (starEach [] X.env)) (backToKw pos (keywordEach [] X.env))) := by rfl) :
    PE X (.Call (.Attribute o m apos) [] [] pos) (tMeth C m sp [] E0 ta tNil) := by
  obtain ⟨f, fd, hm, hb, F⟩ := c
  exact pe_meth0 he cl hm F hr hb .nil pass0 ht
theorem pe_calI (c : CalI X.prog X.w X.K X.mg X.base C k x ps sp) (hr : Room (k + 1) X.A) (hg : Gl X x) (ha : PA X (e :: es) t) (hdb : (x == ("__debug__" : PySem.Str)) = false := by decide)
    (he : starEach (e :: es) X.env = (false, eval e X.env) :: starEach es X.env := by rfl) (hpl : (backTo pos (starEach es X.env)).any (·.1) = false := by rfl) : PE X (.Call (.Name x p) (e :: es) [] pos) (tMake C sp [] E0 t) := by
  obtain ⟨f, fd, hm, M, hb, F⟩ := c
  exact pe_make M F hr hg hm hb .nil pass0 ha hdb he hpl
theorem pe_calI0 (c : CalI X.prog X.w X.K X.mg X.base C k x ps sp) (hr : Room (k + 1) X.A) (hg : Gl X x) (hdb : (x == ("__debug__" : PySem.Str)) = false := by decide) : PE X (.Call (.Name x p) [] [] pos) (tMake C sp [] E0 tNil) := by
  obtain ⟨f, fd, hm, M, hb, F⟩ := c
  exact pe_make0 M F hr hg hm hb .nil pass0 hdb
end
/-! ### data of ints -/
def pdI (ns : List Int) : PyData := .list (ns.map PyData.int)
theorem dpAll_ints (K : PySem.W.Frag) (H : Hp) : ∀ ns : List Int, DpAll K H (ns.map V.int) (ns.map PyData.int)
  | [] => .nil
  | n :: ns => .cons (.int n) (dpAll_ints K H ns)
theorem dp_ints {K : PySem.W.Frag} {H : Hp} {a : Addr} {ns : List Int} (h : SqL K H a (ns.map V.int)) : Dp K H (.ref a) (pdI ns) := .lst h (dpAll_ints K H ns)
theorem canLay_ints : ∀ ns : List Int, PyData.canLayAll0 (ns.map PyData.int) = true
  | [] => rfl
  | n :: ns => by
    show (PyData.canLay0 (.int n) && PyData.canLayAll0 (ns.map PyData.int)) = true
    rw [canLay_ints ns]
    rfl
theorem depth_ints : ∀ ns : List Int, PyData.depthAll (ns.map PyData.int) = 0
  | [] => rfl
  | n :: ns => by
    show max (PyData.depth (.int n)) (PyData.depthAll (ns.map PyData.int)) = 0
    rw [depth_ints ns]
    rfl
theorem shaped_ints (ns : List Int) : SeqAt.shaped (pdI ns) = true := by
  have h : PyData.depth (pdI ns) = PyData.depthAll (ns.map PyData.int) + 1 := by unfold pdI; rw [PyData.depth]
  unfold SeqAt.shaped
  rw [h, depth_ints]
  have h2 : (pdI ns).canLay0 = true := by unfold pdI; rw [PyData.canLay0]; exact canLay_ints ns
  rw [h2]
  rfl
theorem eqvAll_ints : ∀ ns ms : List Int, PyData.eqvAll (ns.map PyData.int) (ms.map PyData.int) = decide (ns = ms)
  | [], [] => rfl
  | [], m :: ms => by simp [PyData.eqvAll]
  | n :: ns, [] => by simp [PyData.eqvAll]
  | n :: ns, m :: ms => by
    show (PyData.eqv (.int n) (.int m) && PyData.eqvAll (ns.map PyData.int) (ms.map PyData.int)) = _
    rw [eqvAll_ints ns ms]
    have : PyData.eqv (.int n) (.int m) = (n == m) := by rw [PyData.eqv]
    rw [this]
    by_cases h : n = m <;> simp [h]
theorem eqv_ints (ns ms : List Int) : PyData.eqv (pdI ns) (pdI ms) = decide (ns = ms) := by
  unfold pdI
  rw [PyData.eqv]
  exact eqvAll_ints ns ms
end Mc
namespace Mc
open PySem L2 PySem.Spec PyProof.Rows
/-! ### own classes of error over Exception, with an __init__ that stores its arguments -/
def exT : List Value := [.type "Exception", .type "BaseException", .type "object"]
structure OexB (K : PySem.W.Frag) (C : Addr) : Prop where
  ini : PySem.W.excInitIn K C exT "Exception.__new__" = true
  ovr : PySem.W.excOver K C exT = true
  hd : PySem.W.hasDictIn K C = true
  sa : PySem.W.findIn K (.ref C) "__setattr__" = some (some (.builtin "object.__setattr__"))
  exC : PySem.W.subIn K (.ref C) (.type "BaseException") = some true
  tyC : PySem.W.typeIn K (.ref C) = some (.type "type")
  kC : PySem.W.keepIn K (.ref C) = true
theorem OexB.cd {K : PySem.W.Frag} {C : Addr} (T : OexB K C) : ∃ c, PySem.W.clsIn K C = some c ∧ c.hasDict = true := by
  have h := T.hd
  unfold PySem.W.hasDictIn at h
  cases e : PySem.W.clsIn K C with
  | none => rw [e] at h; cases h
  | some c => rw [e] at h; exact ⟨c, rfl, h⟩
section
open Builtin Builtin.ObjectAttr
variable {prog : Program} {w : World} {A : Around} {R : Result → Shared → Prop} {hp : Heap} {g : Array GenState} {dr : Drawn} {t : Nat} {os : OsState} {K : PySem.W.Frag} {C x : Addr} {y : PySem.Str} {tk : Tok} {u : Value} {fv : Array Value}
theorem taker_none (h : PySem.W.findIn K (.ref C) y = some none) : PySem.W.takerIn K C y = some none := by
  unfold PySem.W.takerIn
  rw [h]
  rfl
theorem sto_first (T : OexB K C) (hK : K.In hp) (ho : hp.get? x = some { cls := .ref C, data := .fields fv }) (hno : PySem.W.findIn K (.ref C) y = some none)
    (q : ∀ h' tk' dx, (∀ b o, b ≠ x → hp.get? b = some o → h'.get? b = some o) → hp.objs.size ≤ dx → dx ≠ x → h'.get? x = some { cls := .ref C, dict := some dx, data := .fields fv } → h'.Ns1 dx (fun z => if z = y then some u else none) →
      R (.ok (.ret .none)) ⟨h', g, dr, tk', os⟩) : codeAny (model prog w) A (.call (.builtin "object.__setattr__") ⟨[.ref x, .str y tk, u], []⟩) R ⟨hp, g, dr, t, os⟩ := by
  obtain ⟨c, hc, hh⟩ := T.cd
  refine PySem.W.osa_openX (od := none) (r := none) PySem.F.store_Exception hK ⟨ho, rfl, rfl, trivial⟩ T.ovr (taker_none hno) fun b => ?_
  have hcl : PySem.W.Looks (model prog w) hp (classData C) c := PySem.W.looks_clsIn hK hc
  have ne : x ≠ hp.objs.size := Nat.ne_of_lt (Heap.lt_size ho)
  obtain ⟨c1, c2, c3, c4, c5, c6, c7, c8, c9, c10, c11⟩ := c
  dsimp only at hh
  subst hh
  show wpAny _ _ (storeInOwnDict (.ref x) (.ref C) (.str y tk) y u b) _ _ _
  unfold storeInOwnDict ownDictForStores
  repeat (first | with_reducible refine PySem.PX.store_in_new ?_ ?_ | with_reducible refine wpAny_loadPart_at ho ?_ | with_reducible refine hcl.at ?_ | wp_step)
  · exact ⟨_, #[], _, (Heap.get?_update_ne _ _ _ _ ne.symm).trans (Heap.get?_push_at rfl rfl), rfl, fun e he => absurd he (by simp), fun _ => rfl⟩
  · intro h' tk' hn' hs
    exact q h' tk' hp.objs.size (fun b o hb hbo => (hs.2 b (Nat.ne_of_lt (Heap.lt_size hbo))).trans ((Heap.get?_update_ne _ _ _ _ hb).trans (Heap.get?_push_of_some _ hbo))) (Nat.le_refl _) ne.symm
      ((hs.2 x ne).trans (Heap.get?_update_self _ (Heap.get?_push_of_some _ ho) rfl)) hn'
theorem sto_more {dx : Addr} {m0 : PySem.Str → Option Value} {nl : List PySem.Str} (T : OexB K C) (hK : K.In hp) (ho : hp.get? x = some { cls := .ref C, dict := some dx, data := .fields fv }) (hno : PySem.W.findIn K (.ref C) y = some none)
    (hns : hp.Ns1 dx m0) (hw : Within m0 nl) (hz : nl.length ≤ 1000)
    (q : ∀ h' tk', (∀ b o, b ≠ dx → hp.get? b = some o → h'.get? b = some o) → h'.Ns1 dx (fun z => if z = y then some u else m0 z) → R (.ok (.ret .none)) ⟨h', g, dr, tk', os⟩) :
    codeAny (model prog w) A (.call (.builtin "object.__setattr__") ⟨[.ref x, .str y tk, u], []⟩) R ⟨hp, g, dr, t, os⟩ := by
  obtain ⟨c, hc, hh⟩ := T.cd
  obtain ⟨oD, _, _, hoD, _, _⟩ := hns.count hw
  refine PySem.W.osa_openX (od := some oD) (r := none) PySem.F.store_Exception hK ⟨ho, rfl, rfl, hoD⟩ T.ovr (taker_none hno) fun b => ?_
  have hcl : PySem.W.Looks (model prog w) hp (classData C) c := PySem.W.looks_clsIn hK hc
  obtain ⟨c1, c2, c3, c4, c5, c6, c7, c8, c9, c10, c11⟩ := c
  dsimp only at hh
  subst hh
  show wpAny _ _ (storeInOwnDict (.ref x) (.ref C) (.str y tk) y u b) _ _ _
  unfold storeInOwnDict ownDictForStores
  repeat (first | with_reducible refine PySem.OEX.store_in_old hns hw hz ?_ | with_reducible refine wpAny_loadPart_at ho ?_ | with_reducible refine hcl.at ?_ | wp_step)
  intro h' tk' hn' hs
  exact q h' tk' (fun b o hb hbo => (hs.2 b hb).trans hbo) hn'
end
section
variable {X : Cx} {pins : List (Addr × Obj)} {σ : L2.St} {H : Hp} {s : Shared} {a C dx : Addr} {f : PySem.Str} {y : V} {u : Value} {fs : List (PySem.Str × V)} {Q : Unit → Shared → Prop} {E : Value → Shared → Prop} {A : Around}
theorem fld_first (T : OexB X.K C) (I : Inv X pins σ H s) (e : H a = some (exo a C none)) (hno : PySem.W.findIn X.K (.ref C) f = some none) (ry : RelV y u)
    (q : ∀ dx s', H dx = none → dx ≠ a → Inv X pins σ (upd (upd H dx (exd dx [(f, y)])) a (exo a C (some dx))) s' → Q () s') : wpAny (model X.prog X.w) A (setAttr (.ref a) f u) Q E s := by
  obtain ⟨t1, ho⟩ := exo_at I.hok e
  obtain ⟨hp, g, d, t, os⟩ := s
  refine PySem.W.set_plain I.kIn (od := none) ⟨ho, rfl, rfl, trivial⟩ T.sa (sto_first T I.kIn ho hno fun h' tk' dx k dn dne hx hn => ?_)
  have hnd : H dx = none := I.hok.fresh dn
  have hb' : ∀ b, b ≠ a → (h'.update a fun _ => { cls := .ref C, data := .fields #[.ref t1, .none, .none, .none, .bool false, .none] }).get? b = h'.get? b := fun b hb => Heap.get?_update_ne _ _ _ _ hb
  have I1 : Inv X pins σ (upd H dx (exd dx [(f, y)])) ⟨h'.update a fun _ => { cls := .ref C, data := .fields #[.ref t1, .none, .none, .none, .bool false, .none] }, g, d, tk', os⟩ :=
    I.laid (t' := tk') (fun b o z => by
      by_cases hb : b = a
      · subst hb
        rw [show hp.get? b = _ from ho] at z
        cases z
        exact Heap.get?_update_self _ hx rfl
      · rw [hb' b hb]
        exact k b o hb z) dn (exd_ok (hn.at fun o z => (hb' dx dne).trans z) (relO_put (fs := []) ry fun g => True.intro))
  have ea : upd H dx (exd dx [(f, y)]) a = some (exo a C none) := by rw [upd_ne (Ne.symm dne)]; exact e
  exact q dx _ hnd dne (I1.write (t' := tk') (x := a) (e := a) (o := exo a C (some dx)) (by rw [ea]; exact True.intro) (.inl rfl) (fun b o hb z => (hb' b hb).symm.trans z) ⟨_, hx⟩ (exo_ok hx))
theorem fld_more (T : OexB X.K C) (I : Inv X pins σ H s) (e : H a = some (exo a C (some dx))) (ed : H dx = some (exd dx fs)) (hl : fs.length ≤ 900) (hno : PySem.W.findIn X.K (.ref C) f = some none) (ry : RelV y u)
    (q : ∀ s', Inv X pins σ (upd H dx (exd dx ((f, y) :: fs))) s' → Q () s') : wpAny (model X.prog X.w) A (setAttr (.ref a) f u) Q E s := by
  obtain ⟨t1, ho⟩ := exo_at I.hok e
  obtain ⟨mA, hns, rel⟩ := exd_at I.hok ed
  have hw := within_of rel
  obtain ⟨hp, g, d, t, os⟩ := s
  obtain ⟨oD, _, _, hoD, _, _⟩ := hns.count hw
  refine PySem.W.set_plain I.kIn (od := some oD) ⟨ho, rfl, rfl, hoD⟩ T.sa (sto_more T I.kIn ho hno hns hw (by rw [List.length_map]; omega) fun h' tk' k hn => ?_)
  obtain ⟨o, _, _, e', _⟩ := id hn
  exact q _ (I.write (t' := tk') (x := dx) (e := dx) (o := exd dx ((f, y) :: fs)) (by rw [ed]; exact True.intro) (.inl rfl) k ⟨o, e'⟩ (exd_ok hn (relO_put ry rel)))
end
section
variable {X : Cx} {o e : Expr} {es : List Expr} {to te : TE} {ta : TA} {p' p pos : Pos} {f x : PySem.Str}
def tOstB (K : PySem.W.Frag) (f : PySem.Str) (to te : TE) : TS := fun D σ H => te σ H fun y H1 => to σ H1 fun x H2 => ∃ a C : Addr, x = .ref a ∧ OexB K C ∧ PySem.W.findIn K (.ref C) f = some none ∧
  ((H2 a = some (exo a C none) ∧ ∀ dx, H2 dx = none → dx ≠ a → D.nx σ (upd (upd H2 dx (exd dx [(f, y)])) a (exo a C (some dx)))) ∨
    ∃ (dx : Addr) (fs : List (PySem.Str × V)), H2 a = some (exo a C (some dx)) ∧ H2 dx = some (exd dx fs) ∧ fs.length ≤ 900 ∧ D.nx σ (upd H2 dx (exd dx ((f, y) :: fs))))
theorem ps_ostB (ho : PE X o to) (he : PE X e te) (hs : swapsWith e (some (.Attribute o f p')) pos.line X.env = pure false := by rfl) : PS X (.Assign [.Attribute o f p'] e pos) (tOstB X.K f to te) := by
  constructor
  intro pins s σ H D I h
  refine plainObj_wpAny_Assign_Attribute (thn (he.run pins s σ H _ I h) fun v s1 hv => ?_) hs
  obtain ⟨y, H1, I1, r1, q1⟩ := hv
  refine thn (ho.run pins s1 σ H1 _ I1 q1) fun u s2 hu => ?_
  obtain ⟨x, H2, I2, r2, a, C, rfl, T, hno, q⟩ := hu
  cases r2
  rcases q with ⟨ea, q⟩ | ⟨dx, fs, ea, ed, hl, q⟩
  · exact fld_first T I2 ea hno r1 fun dx s' n1 n2 J => ⟨σ, _, J, q dx n1 n2⟩
  · exact fld_more T I2 ea ed hl hno r1 fun s' J => ⟨σ, _, J, q⟩
/-- C(e, ..) -/
def tMkB (C : Addr) (sp : Sp) (ta : TA) : L2.St → Hp → XK → Prop := fun σ H Q => ta σ H fun vs H1 => vs.length ≤ 1000 ∧ ∀ a, H1 a = none → sp (.ref a :: vs) (upd H1 a (exo a C none)) (fun v H2 => v = .non ∧
  ∃ (d : Addr) (fs : List (PySem.Str × V)), H2 a = some (exo a C (some d)) ∧ H2 d = some (exd d fs) ∧ H1 d = none ∧ Q (.ref C) (some d) (upd (del H2 a) d (.xd fs))) E0
theorem pmk_B {C fI : Addr} {k : Nat} {fd : FuncData} {ps : List PySem.Str} {sp : Sp} (T : OexB X.K C) (iC : PySem.W.findIn X.K (.ref C) "__init__" = some (some (.ref fI))) (tI : PySem.W.isFn X.K (.ref fI) = true)
    (F1 : FnOk X.prog X.w X.K X.mg X.base CX0 k fI fd ps sp) (hr : Room (k + 1) X.A) (hb : Binds X.K fd ps []) (hg : Gl X x) (hm : X.mg x = some (.ref C)) (ha : PA X (e :: es) ta)
    (hdb : (x == ("__debug__" : PySem.Str)) = false := by decide) (he : starEach (e :: es) X.env = (false, eval e X.env) :: starEach es X.env := by rfl) (hpl : (backTo pos (starEach es X.env)).any (·.1) = false := by rfl) :
    PMk X (.Call (.Name x p) (e :: es) [] pos) (tMkB C sp ta) := by
  intro pins s σ H Q I h
  refine wpAny_Call_Name_kw (ld_glob I hg hm ?_ hdb)
  refine PySem.W.callWith_K (h₀ := X.base) I.ok.mod.kin T.kC (thn (ha.run pos pins s σ H _ I h) fun us s1 hu => ?_) he hpl
  obtain ⟨vs, H1, I1, r1, hz, q1⟩ := hu
  refine ⟨I1.kIn, ?_⟩
  show wpAny _ _ (call (.ref C) us) _ _ _
  obtain ⟨nm, N, qn, bs, bm, hdct, sn, sub, ab, col, dd, k0, k1, k2, k3, k5, hC, hT⟩ := PySem.W.excInit_of I1.kIn T.ini
  obtain ⟨oI, hoI, hcI⟩ : ∃ oI, s1.heap.get? fI = some oI ∧ oI.cls = .type "function" := by
    obtain ⟨o, z1, z2⟩ := Option.map_eq_some_iff.mp (show (X.K.lookup fI).map (·.cls) = some (.type "function") from beq_iff_eq.mp tI)
    exact ⟨o, I1.kIn _ _ z1, z2⟩
  obtain ⟨hp, g, dr, tk, os⟩ := s1
  have le1 : hp.objs.size ≤ hp.objs.size + 1 := Nat.le_succ _
  have q2 := q1 (hp.objs.size + 1) (I1.hok.fresh le1)
  have grow : ∀ b o, hp.get? b = some o → ((hp.push (PySem.W.kdv_tup us)).push (PySem.PX.excO C hp.objs.size)).get? b = some o := fun b o z => Heap.get?_push_of_some _ (Heap.get?_push_of_some _ z)
  have here : ((hp.push (PySem.W.kdv_tup us)).push (PySem.PX.excO C hp.objs.size)).get? (hp.objs.size + 1) = some (PySem.PX.excO C hp.objs.size) := by heap_get
  have I2 : Inv X pins σ (upd H1 (hp.objs.size + 1) (exo (hp.objs.size + 1) C none)) ⟨(hp.push (PySem.W.kdv_tup us)).push (PySem.PX.excO C hp.objs.size), g, dr, tk, os⟩ := I1.laid (t' := tk) grow le1 (exo_ok here)
  have hv : Vals (V.ref (hp.objs.size + 1) :: vs) (Value.ref (hp.objs.size + 1) :: us) := .cons rfl r1
  have hln : (Value.ref (hp.objs.size + 1) :: us ++ []).length = ps.length := by
    rw [List.append_nil, ← hv.length]
    exact F1.len _ _ _ _ q2
  have hus : us.length ≤ sizeLine := by
    rw [← Paired.length r1, sizeLine_eq]
    omega
  have bt := hb ⟨(hp.push (PySem.W.kdv_tup us)).push (PySem.PX.excO C hp.objs.size), g, dr, tk, os⟩ (Value.ref (hp.objs.size + 1) :: us) I2.kIn hln
  rw [List.append_nil] at bt
  refine wpAny_call (PySem.PX.call_own PySem.F.excBase_Exception hT hC (PySem.W.looks_findIn I1.kIn iC) (fun self => PySem.W.exc_bind hoI hcI self) hus
    (codeAny_mono (F1.run _ X.stack _ _ ⟨Value.ref (hp.objs.size + 1) :: us, []⟩ _ _ _ E0 (hr.make C us []) (I2.env0.make C us []) bt hv q2) fun r s' z => ?_))
  cases r with
  | error er => exact pass0 pins σ _ _ er s' I2 z
  | ok fl =>
    cases fl with
    | ret u =>
      obtain ⟨v, H2, z1, z2, z3, z4, rv, rfl, d, fs, ea, ed, hd1, q3⟩ := z
      obtain ⟨h2, g2, d2, t2, os'⟩ := s'
      exact ⟨rv, mk_end (raises_own T.exC T.tyC) I1 le1 grow z3 z4 z1 z2 ea ed hd1 q3⟩
    | next => exact False.elim z
    | brk => exact False.elim z
    | cont => exact False.elim z
end
end Mc
namespace Mc
open PySem L2 PySem.Spec PyProof.Rows
/-! ### calls that may raise -/
def CalX (P : Program) (w : World) (K : PySem.W.Frag) (mg : PySem.Str → Option Value) (base : Heap) (k : Nat) (x : PySem.Str) (ps : List PySem.Str) (sp : Sp) : Prop :=
  ∃ (f : Addr) (fd : FuncData), mg x = some (.ref f) ∧ PySem.W.keepIn K (.ref f) = true ∧ Binds K fd ps [] ∧ FnOk P w K mg base (L2.CX P w) k f fd ps sp
def CalMX (P : Program) (w : World) (K : PySem.W.Frag) (mg : PySem.Str → Option Value) (base : Heap) (C : Addr) (k : Nat) (m : PySem.Str) (ps : List PySem.Str) (sp : Sp) : Prop :=
  ∃ (f : Addr) (fd : FuncData), Meth K C m f ∧ Binds K fd ps [] ∧ FnOk P w K mg base (L2.CX P w) k f fd ps sp
def CalIX (P : Program) (w : World) (K : PySem.W.Frag) (mg : PySem.Str → Option Value) (base : Heap) (C : Addr) (k : Nat) (x : PySem.Str) (ps : List PySem.Str) (sp : Sp) : Prop :=
  ∃ (f : Addr) (fd : FuncData), mg x = some (.ref C) ∧ Mk K C f ∧ Binds K fd ps [] ∧ FnOk P w K mg base (L2.CX P w) k f fd ps sp
/-- o.m(..) where E σ is wished of what it raises -/
def tMethE (C : Addr) (m : PySem.Str) (sp : Sp) (E : L2.St → XK) (ta : TE) (t : TA) : TE := fun σ H Q => ta σ H fun x H1 => ∃ a dx fs, x = .ref a ∧ H1 a = some (.ins C dx fs) ∧ fs.lookup m = none ∧ t σ H1 fun vs H2 => sp (x :: vs) H2 Q (E σ)
section
variable {X : Cx} {k : Nat} {x m : PySem.Str} {ps : List PySem.Str} {sp : Sp} {C : Addr} {p pos apos : Pos} {e o : Expr} {es : List Expr} {t : TA} {ta : TE} {E : L2.St → XK}
theorem pe_calX (c : CalX X.prog X.w X.K X.mg X.base k x ps sp) (hr : Room k X.A) (hg : Gl X x) (hx : ∀ σ, PassesAt (L2.CX X.prog X.w) X σ (E σ)) (ha : PA X (e :: es) t) (hdb : (x == ("__debug__" : PySem.Str)) = false := by decide)
    (he : starEach (e :: es) X.env = (false, eval e X.env) :: starEach es X.env := by rfl) (hpl : (backTo pos (starEach es X.env)).any (·.1) = false := by rfl) : PE X (.Call (.Name x p) (e :: es) [] pos) (tCallS sp E t) := by
  obtain ⟨f, fd, hm, hk, hb, F⟩ := c
  exact pe_callS F hr hg hm hk hb hx ha hdb he hpl
theorem pe_calMX {pl : Sem Bool} (ho : PE X o ta) (cl : Cls X.K C) (c : CalMX X.prog X.w X.K X.mg X.base C k m ps sp) (hr : Room k X.A) (hx : ∀ σ, PassesAt (L2.CX X.prog X.w) X σ (E σ)) (ha : PA X (e :: es) t)
    (hst : starEach (e :: es) X.env = (false, eval e X.env) :: starEach es X.env := by rfl) (hpl : (backTo pos (starEach es X.env)).any (·.1) = false := by rfl)
    (ht : eval (.Call (.Attribute o m apos) (e :: es) [] pos) X.env = (do
      let ov ← eval o X.env
      standAt apos.atName
      let (f, first) ← holding [ov] (getMethod ov m pl)
      callWith pos f first (backTo pos (starEach (e :: es) X.env)) (backToKw pos (keywordEach [] X.env))) := by rfl) :
    PE X (.Call (.Attribute o m apos) (e :: es) [] pos) (tMethE C m sp E ta t) := by
  obtain ⟨f, fd, hm, hb, F⟩ := c
  constructor
  intro pins s σ H Q I h
  refine PySem.W.methodCall_KW (pl := pl) (thn (ho.run pins s σ H _ I h) fun u s1 z1 => ?_) ht
  obtain ⟨x, H1, I1, rx, a, dx, fs, rfl, ea, l, q⟩ := z1
  cases rx
  refine getmeth_ok I1 ea cl hm l (PySem.W.callWith_K (first := [.ref a]) (h₀ := X.base) I.ok.mod.kin hm.kp (thn (ha.run pos pins s1 σ H1 _ I1 q) fun us s2 z2 => ?_) hst hpl)
  obtain ⟨vs, H2, I2, r, q2⟩ := z2
  exact ⟨I2.kIn, run_fnS (us := .ref a :: us) (vs := .ref a :: vs) F hr hb (hx σ) I2 (.cons rfl r) q2⟩
/-- nothing is raised at this call -/
theorem noE {X : Cx} : ∀ σ : L2.St, PassesAt (L2.CX X.prog X.w) X σ ((fun _ => E0) σ) := fun σ pins H s e s' I h => passL pins σ H s e s' I h
end
/-! ### an own error of one field -/
def spBadI (C : Addr) (f : PySem.Str) : Sp := fun vs H Q _ => ∃ (a : Addr) (v : V), vs = [.ref a, v] ∧ H a = some (exo a C none) ∧ ∀ d, H d = none → d ≠ a → Q .non (upd (upd H d (exd d [(f, v)])) a (exo a C (some d)))
theorem ok_badI {P : Program} {w : World} {K : PySem.W.Frag} {mg : PySem.Str → Option Value} {base : Heap} {st : Stmt} {f C : Addr} {fd : FuncData} {n q : PySem.Str} (F : Fun K "__init__" q st f fd) (T : OexB K C) (hno : PySem.W.findIn K (.ref C) n = some none)
    (sc : FnScope ["self", n] ["self", n] (defScope st))
    (bd : ∀ (cdv : Value) (A : Around) (outer : List Env) (s : Shared) (H : Hp) (Q : VK) (E : XK), PSs (cxOf CX0 P w K mg base ["self", n] q (defScope st) f cdv A outer s H E).nox (defBody st) (tOstB K n (tVar 0) (tVar 1))) : FnOk P w K mg base CX0 1 f fd ["self", n] (spBadI C n) := by
  refine F.ok sc (fun vs H Q E h => ?_) (fun cdv A outer s H vs Q E hr h => ?_)
  · obtain ⟨a, v, rfl, _⟩ := h
    rfl
  · obtain ⟨a, v, rfl, ha, k⟩ := h
    refine ⟨_, bd cdv A outer s H Q E, ?_⟩
    exact ⟨_, rfl, _, rfl, a, C, rfl, T, hno, .inl ⟨ha, k⟩⟩
theorem bad_heap {H : Hp} {a d : Addr} {o1 o2 o3 x : HO} (ha : H a = none) (ne : d ≠ a) : upd (del (upd (upd (upd H a o1) d o2) a o3) a) d x = upd H d x := by
  funext b
  by_cases h1 : b = d
  · rw [h1, upd_same, upd_same]
  · rw [upd_ne h1, upd_ne h1]
    by_cases h2 : b = a
    · rw [h2, del_same, ha]
    · rw [del_ne h2, upd_ne h2, upd_ne h1, upd_ne h2]
/-- C(v) -/
theorem mkB_one {C : Addr} {f : PySem.Str} {v : V} {H : Hp} {Q : XK} (q : ∀ d, H d = none → Q (.ref C) (some d) (upd H d (.xd [(f, v)]))) : [v].length ≤ 1000 ∧ ∀ a, H a = none → spBadI C f (.ref a :: [v]) (upd H a (exo a C none)) (fun v' H2 => v' = .non ∧
    ∃ (d : Addr) (fs : List (PySem.Str × V)), H2 a = some (exo a C (some d)) ∧ H2 d = some (exd d fs) ∧ H d = none ∧ Q (.ref C) (some d) (upd (del H2 a) d (.xd fs))) E0 := by
  refine ⟨by show 1 ≤ 1000; decide, fun a ha => ⟨a, v, rfl, upd_same, fun d hd ne => ⟨rfl, d, [(f, v)], upd_same, by rw [upd_ne ne, upd_same], by rw [upd_ne ne] at hd; exact hd, ?_⟩⟩⟩
  have hd0 : H d = none := by rw [upd_ne ne] at hd; exact hd
  rw [bad_heap ha ne]
  exact q d hd0
end Mc
namespace Mc
open PySem L2 PySem.Spec PyProof.Rows
/-! ### data that can be compared, equal to itself -/
structure DOk (n : Nat) (d : PyData) : Prop where
  lay : d.canLay0 = true
  dep : d.depth ≤ n
  eq : PyData.eqv d d = true
theorem DOk.mono {n m : Nat} {d : PyData} (h : DOk n d) (k : n ≤ m) : DOk m d := ⟨h.lay, Nat.le_trans h.dep k, h.eq⟩
theorem DOk.non {n : Nat} : DOk n .none := ⟨rfl, by rw [PyData.depth]; exact Nat.zero_le _, by rw [PyData.eqv]⟩
theorem DOk.int {n : Nat} {i : Int} : DOk n (.int i) := ⟨rfl, by rw [PyData.depth]; exact Nat.zero_le _, by rw [PyData.eqv]; exact beq_self_eq_true i⟩
theorem DOk.str {n : Nat} {x : PySem.Str} (h : PyData.canLay0 (.str x) = true) : DOk n (.str x) := ⟨h, by rw [PyData.depth]; exact Nat.zero_le _, by rw [PyData.eqv]; exact beq_self_eq_true x⟩
theorem lays {n : Nat} : ∀ {ds : List PyData}, (∀ d ∈ ds, DOk n d) → PyData.canLayAll0 ds = true
  | [], _ => rfl
  | d :: ds, h => by
    show (PyData.canLay0 d && PyData.canLayAll0 ds) = true
    rw [(h d (by simp)).lay, lays fun x hx => h x (by simp [hx])]
    rfl
theorem deps {n : Nat} : ∀ {ds : List PyData}, (∀ d ∈ ds, DOk n d) → PyData.depthAll ds ≤ n
  | [], _ => Nat.zero_le _
  | d :: ds, h => by
    show max (PyData.depth d) (PyData.depthAll ds) ≤ n
    exact Nat.max_le.mpr ⟨(h d (by simp)).dep, deps fun x hx => h x (by simp [hx])⟩
theorem eqs {n : Nat} : ∀ {ds : List PyData}, (∀ d ∈ ds, DOk n d) → PyData.eqvAll ds ds = true
  | [], _ => rfl
  | d :: ds, h => by
    show (PyData.eqv d d && PyData.eqvAll ds ds) = true
    rw [(h d (by simp)).eq, eqs fun x hx => h x (by simp [hx])]
    rfl
theorem DOk.tup {n : Nat} {ds : List PyData} (h : ∀ d ∈ ds, DOk n d) : DOk (n + 1) (.tuple ds) :=
  ⟨by rw [PyData.canLay0]; exact lays h, by rw [PyData.depth]; exact Nat.succ_le_succ (deps h), by rw [PyData.eqv]; exact eqs h⟩
theorem DOk.lst {n : Nat} {ds : List PyData} (h : ∀ d ∈ ds, DOk n d) : DOk (n + 1) (.list ds) :=
  ⟨by rw [PyData.canLay0]; exact lays h, by rw [PyData.depth]; exact Nat.succ_le_succ (deps h), by rw [PyData.eqv]; exact eqs h⟩
theorem DOk.shaped {n : Nat} {d : PyData} (h : DOk n d) (k : n ≤ 64 := by decide) : SeqAt.shaped d = true := by
  unfold SeqAt.shaped
  rw [h.lay, decide_eq_true (Nat.le_trans h.dep k)]
  rfl
/-- two data of one form that are equal -/
theorem eqv_tup2 (a b c d : Int) : PyData.eqv (.tuple [.int a, .int b]) (.tuple [.int c, .int d]) = decide ((a, b) = (c, d)) := by
  rw [PyData.eqv]
  show (PyData.eqv (.int a) (.int c) && (PyData.eqv (.int b) (.int d) && true)) = _
  rw [PyData.eqv, PyData.eqv, Bool.and_true]
  by_cases h1 : a = c <;> by_cases h2 : b = d <;> simp [h1, h2]
theorem dpA1 {K : PySem.W.Frag} {H : Hp} {v : V} {d : PyData} (h : Dp K H v d) : DpAll K H [v] [d] := .cons h .nil
theorem dpA2 {K : PySem.W.Frag} {H : Hp} {v u : V} {d e : PyData} (h : Dp K H v d) (k : Dp K H u e) : DpAll K H [v, u] [d, e] := .cons h (.cons k .nil)
end Mc
namespace Mc
open PySem L2 PySem.Spec PyProof.Rows
/-! ### xs[a:c] = ys, a within xs, c anywhere behind it -/
theorem cl_bounds {a c n : Nat} (h1 : a ≤ c) (h2 : a ≤ n) : sliceBounds (some (a : Int)) (some (c : Int)) none n = ((a : Int), ((min c n : Nat) : Int), 1) := by
  unfold sliceBounds
  have p1 : ¬ ((a : Int) < 0) := by omega
  have p2 : ¬ ((c : Int) < 0) := by omega
  simp only [Option.getD_none, p1, p2, if_false, show (1 : Int) > 0 by decide, if_true]
  congr 1
  · omega
  · congr 1; omega
section
variable {prog : Program} {w : World} {A : Around} {E : Value → Shared → Prop} {s : Shared}
theorem sl_store {l b sl : Addr} {xs ys : Array Value} {n1 n2 : Nat} {v1 v2 : Value} {a c : Nat} {Q : Unit → Shared → Prop} (e1 : s.heap.get? l = some { cls := .type "list", data := .seq xs n1 }) (e2 : s.heap.get? b = some { cls := .type "list", data := .seq ys n2 })
    (ne : l ≠ b) (hs : s.heap.IsSliceOf sl v1 v2 .none) (p1 : IsPart v1 (some (a : Int))) (p2 : IsPart v2 (some (c : Int))) (hac : a ≤ c) (ha : a ≤ xs.size) (hz : xs.size + ys.size ≤ sizeLine)
    (q : Q () { s with heap := s.heap.update l (Obj.mapSeq fun z => z.extract 0 a ++ ys ++ z.extract (min c xs.size) z.size) }) : wpAny (model prog w) A (setItem (.ref l) (.ref sl) (.ref b)) Q E s := by
  have L1 : s.heap.IsList l xs := PySem.IsL.isList e1
  have L2' : s.heap.IsList b ys := PySem.IsL.isList e2
  obtain ⟨os, g1, g2, g3⟩ := id hs
  have tS : s.TypeIs (.ref sl) "slice" := ⟨os, g1, g2⟩
  have other : Builtin.List.listSameRef (.ref l) (.ref b) = false := beq_eq_false_iff_ne.mpr ne
  have st0 : ¬ ((rawPart none == rawInt 0) = true) := Bool.false_ne_true
  have mx : (max (a : Int) ((min c xs.size : Nat) : Int)).toNat = min c xs.size := by omega
  have sz : ((fun z : Array Value => z.extract 0 a ++ ys ++ z.extract (min c xs.size) z.size) xs).size ≤ sizeLine + 1 := by
    simp only [Array.size_append, Array.size_extract]; omega
  unfold setItem
  (try with_reducible refine wpAny_holding ?_); (first | refine wpAny_bind (wpAny_pure ?_) | skip)
  refine wpAny_bind (wpAny_sequenceKey L1.typeIs (by decide) (wpAny_bind (wpAny_callSpecial?_slot (name := Str.ofString "__setitem__") L1.typeIs slot_list_setitem (wpAny_call_entry slot_list_setitem L1.typeIs entry_list_setitem ?_ (args_list_setitem _ _ _)))))
  show wpAny _ _ (Builtin.List.listSubscript? (.ref sl) >>= _) _ _ s
  refine wpAny_bind ?_
  unfold Builtin.List.listSubscript?
  refine wpAny_bind (wpAny_specialOf tS slice_no_index ?_)
  simp only [Option.isNone_none, if_true]; refine wpAny_pure ?_
  show wpAny _ _ (typeOf (.ref sl) >>= _) _ _ s
  refine wpAny_bind (wpAny_typeOf tS ?_)
  first | rw [if_neg (by decide)] | refine PySem.W.KFB.if_not (by decide) ?_
  rw [listSliceParts_eq]
  refine wpAny_bind (wpAny_bind (wpAny_field g1 g3 (x := .none) rfl (wpAny_bind (wpAny_listPart .none ?_))))
  rw [if_neg st0]
  refine wpAny_bind (wpAny_field g1 g3 (x := v1) rfl (wpAny_bind (wpAny_listPart p1 (wpAny_bind (wpAny_field g1 g3 (x := v2) rfl (wpAny_bind (wpAny_listPart p2 (wpAny_pure ?_))))))))
  first | simp only [other, Bool.false_eq_true, if_false] | refine PySem.W.KFB.if_not other ?_
  refine wpAny_bind (m := Builtin.List.listAllItems (.ref b) "must assign iterable to extended slice") ?_
  unfold Builtin.List.listAllItems
  refine wpAny_bind (wpAny_typeOf L2'.typeIs ?_)
  first | refine PySem.W.KFB.if_so (by decide) ?_ | rw [if_pos (by decide)] | simp only [beq_self_eq_true, Bool.true_or, if_true]
  unfold Builtin.List.listItems
  refine wpAny_bind (wpAny_seqItems e2 rfl (wpAny_pure (wpAny_bind (wpAny_bind (wpAny_seqItems e1 rfl (wpAny_pure ?_))))))
  refine wpAny_bind (wpAny_of_eq ((sliceIndices_raw (some (a : Int)) (some (c : Int)) none xs.size (by simp)).trans (congrArg (pure : Int × Int × Int → Sem (Int × Int × Int)) (cl_bounds hac ha))) ?_)
  show wpAny _ _ (if ((1 : Int) == 1) = true then _ else _) _ _ s
  rw [if_pos (by decide)]; refine wpAny_bind (wpAny_rule ?_)
  first | simp only [notLongL hz, Bool.false_eq_true, if_false] | refine PySem.W.KFB.if_not (notLongL hz) ?_
  first | refine wpAny_bind (wpAny_pure ?_) | skip
  show wpAny _ _ (updateSeq l (fun z => z.extract 0 ((a : Int)).toNat ++ ys ++ z.extract (max (a : Int) ((min c xs.size : Nat) : Int)).toNat z.size) >>= _) _ _ s
  rw [mx, Int.toNat_natCast]
  refine wpAny_bind (wpAny_updateSeq (hz := Nat.le_trans (Nat.le_add_right _ _) hz) (_hz' := sz) e1 rfl (wpAny_bind (wpAny_letGo ?_)))
  first | exact wpAny_bind (wpAny_pure (wpAny_pure ⟨.none, rfl, wpAny_pure q⟩)) | exact wpAny_pure ⟨.none, rfl, wpAny_pure q⟩
end
section
variable {X : Cx} {o : Expr} {to : TE} {lo hi : Option Expr} {tl th : TO} {pos p2 : Pos}
def gSla (to : TE) (tl th : TO) : TG := fun v σ H Q => to σ H fun x H1 => tl σ H1 fun l H2 => th σ H2 fun u H3 => ∃ (L b : Addr) (xs ys : List V) (a c : Nat), x = .ref L ∧ v = .ref b ∧ l = some (a : Int) ∧ u = some (c : Int) ∧ H3 L = some (.lst xs) ∧ H3 b = some (.lst ys) ∧
  L ≠ b ∧ a ≤ c ∧ a ≤ xs.length ∧ xs.length + ys.length ≤ sizeLine ∧ Q σ (upd H3 L (.lst (xs.take a ++ ys ++ xs.drop c)))
theorem pg_sla (ho : PE X o to) (hl : PO X lo tl) (hu : PO X hi th)
    (ha : ∀ v, assign (.Subscript o (.Slice lo hi none p2) pos) X.env v = (do
      let ov ← holding [v] (eval o X.env)
      let iv ← holding [v, ov] (eval (.Slice lo hi none p2) X.env)
      standAt pos
      holding [v, ov, iv] (setItem ov iv v)
      release [iv, v, ov] []) := by intro _; rfl) : PG X (.Subscript o (.Slice lo hi none p2) pos) (gSla to tl th) := by
  constructor
  intro pins s σ H v u Q I r h
  rw [ha]
  refine wpAny_bind (wpAny_holding (thn (ho.run pins s σ H _ I h) fun ov s1 z1 => ?_))
  obtain ⟨x, H1, I1, r1, q1⟩ := z1
  refine wpAny_bind (wpAny_holding (wpAny_Slice (thn (hl.run pins s1 σ H1 _ I1 q1) fun vl s2 z2 => ?_)))
  obtain ⟨l, H2, I2, pl, q2⟩ := z2
  refine thn (hu.run pins s2 σ H2 _ I2 q2) fun vu s3 z3 => ?_
  obtain ⟨u', H3, I3, pu, q3⟩ := z3
  rw [evalPart_none]
  refine wpAny_pure ?_
  have I4 : Inv X pins σ H3 { s3 with heap := s3.heap.push { cls := .type "slice", data := .fields #[vl, vu, .none] } } := I3.kept (t' := s3.toks) fun b ob q => Heap.get?_push_of_some _ q
  obtain ⟨L, b, xs, ys, a, c, rfl, rfl, rfl, rfl, hL, hB, ne, hac, hax, hz, q⟩ := q3
  cases r1
  cases r
  obtain ⟨z, its, n, rv, hl', e1⟩ := I4.lstM hL
  obtain ⟨z2, its2, n2, rv2, hl2, e2⟩ := I4.lstM hB
  refine wpAny_bind (wpAny_standAt (wpAny_bind (wpAny_holding (sl_store e1 e2 ne (Heap.IsSliceOf.new ..) pl pu hac (by rw [List.size_toArray]; omega) (by rw [List.size_toArray, List.size_toArray]; omega) (wpAny_release ?_)))))
  refine ⟨σ, _, I4.lset (its' := its.take a ++ its2 ++ its.drop (min c its.length)) (t' := s3.toks) hL e1 ?_ (Vals.append (Vals.append (rv.take _) rv2) ?_) ?_, q⟩
  · simpa using splice_eq its its2 a (min c its.length)
  · have ed : xs.drop c = xs.drop (min c its.length) := by
      by_cases hc : c ≤ its.length
      · rw [Nat.min_eq_left hc]
      · rw [Nat.min_eq_right (by omega), List.drop_of_length_le (by omega), List.drop_of_length_le (by omega)]
    rw [ed]
    exact rv.drop _
  · rw [List.length_append, List.length_append, List.length_take, List.length_drop]
    omega
end
end Mc
namespace Mc
open PySem L2 PySem.Spec PyProof.Rows HT
/-! ### t += u of tuples -/
theorem noI_tup : typeLookup (.type "tuple") (dunderI "add") = pure none := by kernel_rfl
section
variable {prog : Program} {w : World} {A : Around} {E : Value → Shared → Prop} {s : Shared}
theorem itup {t b : Addr} {vs ws : List Value} {Q : Value → Shared → Prop} (ht : IsTup s.heap t vs.toArray) (hb : IsTup s.heap b ws.toArray) (h0 : vs = [] → Q (.ref b) s) (h1 : vs ≠ [] → ws = [] → Q (.ref t) s)
    (h2 : vs ≠ [] → ws ≠ [] → Q (.ref s.heap.objs.size) { s with heap := s.heap.push { cls := .type "tuple", data := .seq (vs ++ ws).toArray } }) (hsz : vs.length + ws.length ≤ sizeLine) :
    wpAny (model prog w) A (inplaceOp .Add (.ref t) (.ref b)) Q E s := by
  obtain ⟨⟨c1, d1, x1, s1⟩, ho, hc, n, hd⟩ := id ht
  obtain ⟨⟨c2, d2, x2, s2⟩, ho2, hc2, n2, hd2⟩ := id hb
  dsimp only at hc hd hc2 hd2
  subst hc hd hc2 hd2
  have t1 : s.TypeIs (.ref t) "tuple" := ⟨_, ho, rfl⟩
  have t2 : s.TypeIs (.ref b) "tuple" := ⟨_, ho2, rfl⟩
  refine wpAny_inplaceOp_concat t1 t2 noI_tup noFill_tuple_add seq_tuple_add ?_
  by_cases hv : vs = []
  · exact call_meets PySem.F.slot_tuple_add t1 PySem.F.entry_tuple_add (PySem.F.args_tuple_add_2 _ _) (tuple_addW0 t b vs.toArray ws.toArray n n2 d1 d2 s1 s2 (by simp [hv])) ⟨ho, ho2, h0 hv⟩
  by_cases hw : ws = []
  · exact call_meets PySem.F.slot_tuple_add t1 PySem.F.entry_tuple_add (PySem.F.args_tuple_add_2 _ _) (tuple_addW1 t b vs.toArray ws.toArray n n2 d1 d2 s1 s2 (by simpa using hv) (by simp [hw])) ⟨ho, ho2, h1 hv hw⟩
  · refine call_meets PySem.F.slot_tuple_add t1 PySem.F.entry_tuple_add (PySem.F.args_tuple_add_2 _ _) (tuple_addW2 t b vs.toArray ws.toArray n n2 d1 d2 s1 s2 (by simpa using hv) (by simpa using hw) (by rw [List.size_toArray, List.size_toArray]; exact hsz)) ⟨ho, ho2, ?_⟩
    rw [show vs.toArray ++ ws.toArray = (vs ++ ws).toArray by simp]
    exact h2 hv hw
end
theorem in_addT {X : Cx} : InOp X .Add (rCatA X.K) := by
  intro pins s σ H x y u v Q I rx ry h
  obtain ⟨a, b, xs, ys, rfl, rfl, ha, hb, hz, q0, q1, q2⟩ := h
  cases rx
  cases ry
  obtain ⟨its, r1, p1, _⟩ := I.tuple ha
  obtain ⟨its2, r2, p2, _⟩ := I.tuple hb
  refine itup p1 p2 (fun z => ⟨.ref b, H, I, rfl, q0 (r1.nil_iff.mp z)⟩) (fun z1 z2 => ⟨.ref a, H, I, rfl, q1 (fun z => z1 (r1.nil_iff.mpr z)) (r2.nil_iff.mp z2)⟩) (fun z1 z2 => ?_) (by rw [← r1.length, ← r2.length]; exact hz)
  refine ⟨.ref s.heap.objs.size, _, I.laid (t' := s.toks) (o := .tup (xs ++ ys)) (fun b ob q => Heap.get?_push_of_some _ q) (Nat.le_refl _) ?_, rfl, q2 (fun z => z1 (r1.nil_iff.mpr z)) (fun z => z2 (r2.nil_iff.mpr z)) _ (I.hok.fresh (Nat.le_refl _))⟩
  exact ⟨by rw [List.length_append]; exact hz, _, r1.append r2, IsTup.new _ _⟩
/-- what t + u is, whether a part is empty or not -/
theorem catA_of {K : PySem.W.Frag} {H : Hp} {Q : VK} {a b : Addr} {xs ys : List V} (ha : H a = some (.tup xs)) (hb : H b = some (.tup ys)) (hz : xs.length + ys.length ≤ sizeLine)
    (q : ∀ (p : Addr) (H' : Hp), Same H H' → (∀ c, c ≠ p → H' c = H c) → H' p = some (.tup (xs ++ ys)) → Q (.ref p) H') : rCatA K (.ref a) (.ref b) H Q := by
  refine ⟨a, b, xs, ys, rfl, rfl, SqT.of ha, SqT.of hb, hz, fun e => ?_, fun _ e => ?_, fun _ _ p hp => ?_⟩
  · subst e; exact q b H (fun _ _ z => z) (fun _ _ => rfl) hb
  · subst e; exact q a H (fun _ _ z => z) (fun _ _ => rfl) (by rw [List.append_nil]; exact ha)
  · exact q p _ (fun c o e => by rw [upd_ne (ne_of_none e hp)]; exact e) (fun c hc => upd_ne hc) upd_same
end Mc
namespace Mc
open PySem L2 PySem.Spec PyProof.Rows
/-! ### a keeper's records and answers as data -/
inductive Rec where
  | prom (e : Int)
  | take (e : Int) (p : Nat) (x : Int)
inductive Ans where
  | refused (e k : Int)
  | told (e : Int) (row : List (Int × Int))
  | taken (e : Int) (p : Nat)
inductive Ltr where
  | ask (e : Int)
  | write (e : Int) (p : Nat) (x : Int)
def Ltr.ep : Ltr → Int | .ask e => e | .write e _ _ => e
def Rec.ep : Rec → Int | .prom e => e | .take e _ _ => e
structure Kn where
  ep : Int
  row : List (Int × Int)
def Kn.put (k : Kn) (e : Int) (p : Nat) (x : Int) : List (Int × Int) := k.row.take p ++ [(e, x)] ++ k.row.drop (p + 1)
def Kn.step (k : Kn) : Rec → Kn
  | .prom e => ⟨if e > k.ep then e else k.ep, k.row⟩
  | .take e p x => ⟨if e > k.ep then e else k.ep, k.put e p x⟩
def Kn.all (k : Kn) (rs : List Rec) : Kn := rs.foldl Kn.step k
def Kn.new : Kn := ⟨-1, []⟩
def Kn.okR (k : Kn) : Rec → Prop | .prom _ => True | .take _ p _ => p ≤ k.row.length
def Kn.wf : Kn → List Rec → Prop
  | _, [] => True
  | k, r :: rs => k.okR r ∧ Kn.wf (k.step r) rs
theorem Kn.all_app (k : Kn) (a b : List Rec) : k.all (a ++ b) = (k.all a).all b := List.foldl_append ..
theorem Kn.all_one (k : Kn) (r : Rec) : k.all [r] = k.step r := rfl
theorem Kn.wf_app : ∀ {k : Kn} {a b : List Rec}, k.wf (a ++ b) ↔ k.wf a ∧ (k.all a).wf b
  | k, [], b => ⟨fun h => ⟨trivial, h⟩, fun h => h.2⟩
  | k, r :: a, b => by
    show (k.okR r ∧ (k.step r).wf (a ++ b)) ↔ (k.okR r ∧ (k.step r).wf a) ∧ ((k.step r).all a).wf b
    rw [Kn.wf_app (k := k.step r)]
    exact ⟨fun ⟨x, y, z⟩ => ⟨⟨x, y⟩, z⟩, fun ⟨⟨x, y⟩, z⟩ => ⟨x, y, z⟩⟩
theorem Kn.put_len {k : Kn} {e x : Int} {p : Nat} (h : p ≤ k.row.length) : (k.put e p x).length ≤ k.row.length + 1 := by
  unfold Kn.put
  rw [List.length_append, List.length_append, List.length_take, List.length_drop, List.length_singleton]
  omega
theorem Kn.all_len : ∀ {rs : List Rec} {k : Kn}, k.wf rs → (k.all rs).row.length ≤ k.row.length + rs.length
  | [], k, _ => Nat.le_refl _
  | r :: rs, k, ⟨h1, h2⟩ => by
    have ih := Kn.all_len h2
    have : (k.step r).row.length ≤ k.row.length + 1 := by
      cases r with
      | prom e => exact Nat.le_succ _
      | take e p x => exact Kn.put_len h1
    show ((k.step r).all rs).row.length ≤ _
    rw [List.length_cons]
    omega
/-- whether an entry may be taken at a place -/
def Kn.bars (k : Kn) (e : Int) (p : Nat) : Bool := decide (k.row.length < p) || (decide (0 < p) && !decide ((k.row[p - 1]?.map (·.1)) = some e))
def Kn.isNew (k : Kn) (e : Int) (p : Nat) (x : Int) : Bool := decide (p = k.row.length) || !decide (k.row[p]? = some (e, x))
def Kn.recOf (k : Kn) : Ltr → Option Rec
  | .ask e => if e < k.ep then none else if e > k.ep then some (.prom e) else none
  | .write e p x => if e < k.ep then none else if k.bars e p then none else if k.isNew e p x then some (.take e p x) else none
def Kn.ansOf (k : Kn) : Ltr → Option Ans
  | .ask e => if e < k.ep then some (.refused e k.ep) else some (.told e k.row)
  | .write e p _ => if e < k.ep then some (.refused e k.ep) else if k.bars e p then none else some (.taken e p)
def oList {α : Type} : Option α → List α | none => [] | some a => [a]
theorem recOf_ok {k : Kn} {l : Ltr} : k.wf (oList (k.recOf l)) := by
  cases l with
  | ask e =>
    show k.wf (oList (if e < k.ep then none else if e > k.ep then some (.prom e) else none))
    split
    · trivial
    · split
      · exact ⟨trivial, trivial⟩
      · trivial
  | write e p x =>
    show k.wf (oList (if e < k.ep then none else if k.bars e p then none else if k.isNew e p x then some (.take e p x) else none))
    split
    · trivial
    · split
      · trivial
      · rename_i h
        split
        · refine ⟨?_, trivial⟩
          show p ≤ k.row.length
          unfold Kn.bars at h
          simp only [Bool.or_eq_true, decide_eq_true_eq, not_or] at h
          omega
        · trivial
theorem oList_len {α : Type} (o : Option α) : (oList o).length ≤ 1 := by cases o <;> simp [oList]
end Mc
namespace Mc
open PySem L2 PySem.Spec PyProof.Rows
def top (i : Nat) : Stmt := PySem.Challenge.pw_mastcalls_k42_whole_keepers.main.body.getD i (.Pass ⟨0, 0, 0, 0⟩)
/-! ### the draws -/
abbrev sNum : Stmt := top 10
abbrev sTake : Stmt := top 11
def spNum (K : PySem.W.Frag) : Sp := fun vs H Q _ => ∃ (a : Addr) (ns : List Int) (k : Int), vs = [.ref a, .int k] ∧ SqL K H a (ns.map V.int) ∧ ns.length ≤ 63 ∧
  ∀ (v : Int) (H' : Hp), 0 ≤ v → Same H H' → Q (.int v) H'
def spTake (K : PySem.W.Frag) : Sp := fun vs H Q _ => ∃ (M : List Addr) (d a : Addr) (m : Int), vs = [.ref d, .int m] ∧ Dr K M d a H ∧ 0 < m ∧
  ∀ (v : Int) (H' : Hp), 0 ≤ v → v < m → Dr K M d a H' → Kp [d] H H' → Q (.int v) H'
/-- what the draws ask of the module -/
structure TxD (K : PySem.W.Frag) (mg : Str → Option Value) (fN fT : Addr) : Prop where
  len : mg "len" = none
  int : mg "int" = none
  abs : mg "abs" = none
  num : mg "_law_number" = some (.ref fN)
  take : mg "_law_take" = some (.ref fT)
section
variable {P : Program} {w : World} {K : PySem.W.Frag} {mg : Str → Option Value} {base : Heap}
theorem scNum : FnScope ["script", "index", "cell", "blend"] ["script", "index"] (defScope sNum) := ⟨rfl, rfl, rfl, by decide +kernel, rfl, by decide +kernel, by decide +kernel⟩
theorem ok_num {f fN fT : Addr} {fd : FuncData} (F : Fun K "_law_number" "_law_number" sNum f fd) (T : TxD K mg fN fT) : FnOk P w K mg base CX0 1 f fd ["script", "index"] (spNum K) := by
  refine F.ok scNum (fun vs H Q E h => ?_) (fun cdv A outer s H vs Q E hr h => ?_)
  · obtain ⟨a, ns, k, rfl, _⟩ := h
    rfl
  · obtain ⟨a, ns, k, rfl, hS, hl, q⟩ := h
    refine ⟨_, pss_cons (ps_if (pt_cmpR (op_eqD hr.units) (pv 0) (pe_lst pa_nil) (nomark _)) (pss_one (ps_ret (pe_callTy call_int1 (by rfl) T.int boot_int (pa_cons (pe_op op_mod (pe_op op_add (pe_op op_mul (pv 1) pe_int) pe_int) pe_int) pa_nil)))) pss_nil)
      (pss_cons (ps_set (i := 2) scNum.nd rfl (Or.inl rfl) (pe_ix ix_list (pv 0) (pe_op op_mod (pv 1) (pe_callB call_len_seq (by rfl) T.len PySem.boot_len (pa_cons (pv 0) pa_nil))) (fun _ _ => rfl)))
      (pss_cons (ps_if (pt_cmpR op_ge (pe_callB call_abs (by rfl) T.abs boot_abs (pa_cons (pv 2) pa_nil)) (pe_op op_pow pe_int pe_int) (nomark _)) (pss_one (ps_set (i := 2) scNum.nd rfl (Or.inl rfl) (pe_op op_mod (pv 2) (pe_op op_pow pe_int pe_int)))) pss_nil)
      (pss_cons (ps_set (i := 3) scNum.nd rfl (Or.inl rfl) (pe_op op_mod (pe_op op_add (pe_op op_mul (pe_op op_add (pv 2) (pe_op op_mul pe_int (pv 1))) pe_int) (pe_op op_mul pe_int (pe_callB call_len_seq (by rfl) T.len PySem.boot_len (pa_cons (pv 0) pa_nil)))) pe_int))
      (pss_one (ps_ret (pe_callTy call_int1 (by rfl) T.int boot_int (pa_cons (pe_op op_mod (pe_op op_add (pe_op op_mul (pe_op op_mod (pe_op op_mul (pv 3) pe_int) pe_int) pe_int) (pv 1)) pe_int) pa_nil))))))), ?_⟩
    refine ⟨_, rfl, Nat.zero_le _, fun p hp => ?_⟩
    have s1 : Same H (upd H p (.lst [])) := fun b o e => by rw [upd_ne (ne_of_none e hp)]; exact e
    have hS1 := s1.seq hS
    refine ⟨pdI ns, pdI [], dp_ints hS1, dp_ints (SqL.of upd_same), shaped_ints _, shaped_ints _, _, rfl, ?_⟩
    refine ite2 (fun _ => ?_) (fun e => ?_)
    · refine ⟨_, rfl, _, _, rfl, rfl, .inr (by decide), _, _, rfl, rfl, _, _, rfl, rfl, (by show (0 : Int) < _; decide), .inl ⟨_, rfl, ?_⟩⟩
      exact q _ _ (Int.emod_nonneg _ (by decide)) s1
    · have hn : 0 < ns.length := by
        rw [eqv_ints] at e
        cases ns with
        | nil => exact absurd (decide_eq_true rfl) e
        | cons x r => exact Nat.succ_pos _
      have hlen : ((ns.map V.int).length : Int) = (ns.length : Int) := by rw [List.length_map]
      have hlt : (k % (((ns.map V.int).length : Nat) : Int)).toNat < ns.length := by
        have h1 := Int.emod_nonneg k (b := (((ns.map V.int).length : Nat) : Int)) (by omega)
        have h2 := Int.emod_lt_of_pos k (b := (((ns.map V.int).length : Nat) : Int)) (by omega)
        omega
      refine ⟨_, rfl, _, rfl, _, rfl, a, _, rfl, .inl hS1, _, _, rfl, rfl, (by show (0 : Int) < _; omega), a, _, _, V.int ns[(k % (((ns.map V.int).length : Nat) : Int)).toNat], rfl, rfl, hS1, at_of (j := (k % (((ns.map V.int).length : Nat) : Int)).toNat) (by
        have h1 := Int.emod_nonneg k (b := (((ns.map V.int).length : Nat) : Int)) (by omega)
        omega) (by rw [List.getElem?_map, List.getElem?_eq_getElem hlt]; rfl), ?_⟩
      generalize ns[(k % (((ns.map V.int).length : Nat) : Int)).toNat] = c
      refine ⟨_, rfl, _, rfl, _, _, rfl, rfl, ⟨by decide, by decide, by decide⟩, _, _, rfl, rfl, _, rfl, ?_⟩
      refine ite2 (fun _ => ?_) (fun _ => ?_)
      refine ⟨_, rfl, _, _, rfl, rfl, ⟨by decide, by decide, by decide⟩, _, _, rfl, rfl, (by show (0 : Int) < _; decide), ?_⟩
      all_goals
        refine ⟨_, rfl, _, rfl, _, _, rfl, rfl, .inl ⟨by decide, by decide⟩, _, _, rfl, rfl, _, _, rfl, rfl, .inr (by decide), _, rfl, a, _, rfl, .inl hS1, _, _, rfl, rfl, .inl ⟨by decide, by decide⟩, _, _, rfl, rfl, _, _, rfl, rfl, (by show (0 : Int) < _; decide), ?_⟩
        refine ⟨_, rfl, _, _, rfl, rfl, .inr (by decide), _, _, rfl, rfl, (by show (0 : Int) < _; decide), _, _, rfl, rfl, .inr (by decide), _, rfl, _, _, rfl, rfl, _, _, rfl, rfl, (by show (0 : Int) < _; decide), .inl ⟨_, rfl, ?_⟩⟩
        exact q _ _ (Int.emod_nonneg _ (by decide)) s1
theorem scTake : FnScope ["draw", "many"] ["draw", "many"] (defScope sTake) := ⟨rfl, rfl, rfl, by decide +kernel, rfl, by decide +kernel, by decide +kernel⟩
theorem ok_take {f fN fT : Addr} {fd fdN : FuncData} (F : Fun K "_law_take" "_law_take" sTake f fd) (T : TxD K mg fN fT) (FN : Fun K "_law_number" "_law_number" sNum fN fdN) (bN : Binds K fdN ["script", "index"] []) :
    FnOk P w K mg base CX0 2 f fd ["draw", "many"] (spTake K) := by
  have GN : FnOk P w K mg base CX0 1 fN fdN ["script", "index"] (spNum K) := ok_num FN T
  refine F.ok scTake (fun vs H Q E h => ?_) (fun cdv A outer s H vs Q E hr h => ?_)
  · obtain ⟨M, d, a, m, rfl, _⟩ := h
    rfl
  · obtain ⟨M, d, a, m, rfl, D, hm, q⟩ := h
    obtain ⟨⟨k, hd⟩, hM, ns, hl, hs⟩ := id D
    refine ⟨_, pss_cons (ps_augS (pv 0) pe_int get_list pe_int ip_add set_list)
      (pss_one (ps_ret (pe_op op_mod (pe_callTy call_int1 (by rfl) T.int boot_int (pa_cons (pe_call GN hr rfl T.num FN.kp bN .nil pass0 (pa_cons (pe_ix ix_list (pv 0) pe_int (fun _ _ => rfl)) (pa_cons (pe_callTy call_int1 (by rfl) T.int boot_int (pa_cons (pe_ix ix_list (pv 0) pe_int (fun _ _ => rfl)) pa_nil)) pa_nil))) pa_nil)) (pv 1)))), ?_⟩
    refine ⟨_, rfl, d, _, _, .int k, rfl, rfl, SqL.of hd, rfl, _, _, rfl, rfl, d, _, _, 1, rfl, rfl, hd, rfl, ?_⟩
    have hd1 : (upd H d (HO.lst ([V.ref a, V.int k].set 1 (V.int (k + 1))))) d = some (.lst [.ref a, .int (k + 1)]) := upd_same
    have k1 : Kp [d] H (upd H d (HO.lst ([V.ref a, V.int k].set 1 (V.int (k + 1))))) := Kp.at (List.mem_singleton.mpr rfl)
    have up : ∀ b ∈ [d], b ∈ M := fun b z => by rw [List.mem_singleton.mp z]; exact hM
    refine ⟨_, rfl, d, _, _, .ref a, rfl, rfl, SqL.of hd1, rfl, _, rfl, d, _, _, .int (k + 1), rfl, rfl, SqL.of hd1, rfl, .inl ⟨_, rfl, ?_⟩⟩
    refine ⟨a, ns, k + 1, rfl, hs _ (k1.mono up), hl, fun v H' hv s1 => .inl ⟨_, rfl, ?_⟩⟩
    refine ⟨_, rfl, _, _, rfl, rfl, hm, ?_⟩
    have k2 := k1.trans (Kp.same s1)
    exact q _ H' (Int.emod_nonneg _ (by omega)) (Int.emod_lt_of_pos _ hm) (D.next (k2.mono up) (s1 _ _ hd1)) k2
end
end Mc
namespace Mc
open PySem L2 PySem.Spec PyProof.Rows
/-! ### tuples stay -/
def Tp (H H' : Hp) : Prop := ∀ b xs, H b = some (.tup xs) → H' b = some (.tup xs)
theorem Tp.refl (H : Hp) : Tp H H := fun _ _ e => e
theorem Tp.trans {A B C : Hp} (a : Tp A B) (b : Tp B C) : Tp A C := fun x y e => b x y (a x y e)
theorem Tp.same {H H' : Hp} (s : Same H H') : Tp H H' := fun b xs e => s b _ e
theorem Tp.at {H : Hp} {a : Addr} {o o' : HO} (h : H a = some o) (n : ∀ xs, o ≠ .tup xs) : Tp H (upd H a o') := fun b xs e => by
  rw [upd_ne (ne_of e h fun z => n xs z.symm)]
  exact e
theorem Tp.new {H : Hp} {a : Addr} {o : HO} (h : H a = none) : Tp H (upd H a o) := fun b xs e => by
  rw [upd_ne (ne_of_none e h)]
  exact e
theorem Same.new {H : Hp} {a : Addr} {o : HO} (h : H a = none) : Same H (upd H a o) := fun b xs e => by
  rw [upd_ne (ne_of_none e h)]
  exact e
theorem Same.tr {A B C : Hp} (a : Same A B) (b : Same B C) : Same A C := fun x y e => b x y (a x y e)
/-! ### rows of tuples -/
def TT (F : Hp → Addr → α → Prop) (H : Hp) (t : Addr) (rs : List α) : Prop := ∃ as : List Addr, H t = some (.tup (as.map V.ref)) ∧ Paired (F H) as rs
def LL (F : Hp → Addr → α → Prop) (H : Hp) (t : Addr) (rs : List α) : Prop := ∃ as : List Addr, H t = some (.lst (as.map V.ref)) ∧ Paired (F H) as rs
def Stay (F : Hp → Addr → α → Prop) : Prop := ∀ {H H' : Hp} {a : Addr} {x : α}, Tp H H' → F H a x → F H' a x
theorem Paired.app {α β : Type} {F : α → β → Prop} : ∀ {a : List α} {b : List β} {c : List α} {d : List β}, Paired F a b → Paired F c d → Paired F (a ++ c) (b ++ d)
  | _, _, _, _, .nil, h => h
  | _, _, _, _, .cons r t, h => .cons r (Paired.app t h)
theorem Paired.tk {α β : Type} {F : α → β → Prop} : ∀ {a : List α} {b : List β} (n : Nat), Paired F a b → Paired F (a.take n) (b.take n)
  | _, _, 0, _ => by rw [List.take_zero, List.take_zero]; exact .nil
  | _, _, n + 1, .nil => .nil
  | _, _, n + 1, .cons r t => .cons r (Paired.tk n t)
theorem Paired.dr {α β : Type} {F : α → β → Prop} : ∀ {a : List α} {b : List β} (n : Nat), Paired F a b → Paired F (a.drop n) (b.drop n)
  | _, _, 0, h => h
  | _, _, n + 1, .nil => .nil
  | _, _, n + 1, .cons _ t => Paired.dr n t
theorem Paired.ix {α β : Type} {F : α → β → Prop} : ∀ {a : List α} {b : List β} {n : Nat} {y : β}, Paired F a b → b[n]? = some y → ∃ x, a[n]? = some x ∧ F x y
  | _, _, 0, _, .cons r t, h => by cases h; exact ⟨_, rfl, r⟩
  | _, _, n + 1, _, .cons r t, h => Paired.ix t (n := n) h
  | _, _, n, y, .nil, h => by simp at h
theorem Paired.ix' {α β : Type} {F : α → β → Prop} : ∀ {a : List α} {b : List β} {n : Nat} {x : α}, Paired F a b → a[n]? = some x → ∃ y, b[n]? = some y ∧ F x y
  | _, _, 0, _, .cons r t, h => by cases h; exact ⟨_, rfl, r⟩
  | _, _, n + 1, _, .cons r t, h => Paired.ix' t (n := n) h
  | _, _, n, y, .nil, h => by simp at h
section
variable {α : Type} {F : Hp → Addr → α → Prop} {H H' : Hp} {t : Addr} {rs : List α}
theorem TT.stay (hF : Stay F) (h : Tp H H') (x : TT F H t rs) : TT F H' t rs := by
  obtain ⟨as, e, p⟩ := x
  exact ⟨as, h _ _ e, Paired.mapP p fun _ _ => hF h⟩
theorem LL.stay (hF : Stay F) (h : Tp H H') (e2 : ∀ o, H t = some o → H' t = some o) (x : LL F H t rs) : LL F H' t rs := by
  obtain ⟨as, e, p⟩ := x
  exact ⟨as, e2 _ e, Paired.mapP p fun _ _ => hF h⟩
theorem LL.same (hF : Stay F) (h : Same H H') (x : LL F H t rs) : LL F H' t rs := LL.stay hF (Tp.same h) (fun o e => h _ o e) x
theorem TT.same (hF : Stay F) (h : Same H H') (x : TT F H t rs) : TT F H' t rs := TT.stay hF (Tp.same h) x
end
/-! ### records, pairs, answers, letters -/
def RecV : Rec → List V
  | .prom e => [.str "promise", .int e]
  | .take e p x => [.str "take", .int e, .int p, .int x]
def RecAt (H : Hp) (a : Addr) (r : Rec) : Prop := H a = some (.tup (RecV r))
def PairAt (H : Hp) (a : Addr) (p : Int × Int) : Prop := H a = some (.tup [.int p.1, .int p.2])
def AnsAt (H : Hp) (a : Addr) : Ans → Prop
  | .refused e k => H a = some (.tup [.str "refused", .int e, .int 2, .int k])
  | .told e row => ∃ t, H a = some (.tup [.str "told", .int e, .int 2, .ref t]) ∧ TT PairAt H t row
  | .taken e p => H a = some (.tup [.str "taken", .int e, .int 2, .int p])
def LtrV : Ltr → List V
  | .ask e => [.str "ask", .int e, .int 2]
  | .write e p x => [.str "write", .int e, .int 2, .int p, .int x]
def LtrAt (H : Hp) (a : Addr) (l : Ltr) : Prop := H a = some (.tup (LtrV l))
theorem recStay : Stay RecAt := fun h e => h _ _ e
theorem pairStay : Stay PairAt := fun h e => h _ _ e
theorem ansStay : Stay AnsAt := fun {H H' a x} h e => by
  cases x with
  | refused e k => exact h _ _ e
  | told e row =>
    obtain ⟨t, e1, e2⟩ := e
    exact ⟨t, h _ _ e1, e2.stay pairStay h⟩
  | taken e p => exact h _ _ e
/-- a Known -/
def KnAt (C : Addr) (H : Hp) (a : Addr) (k : Kn) : Prop := ∃ dx l, H a = some (.ins C dx [("epoch", .int k.ep), ("row", .ref l)]) ∧ LL PairAt H l k.row
theorem KnAt.same {C : Addr} {H H' : Hp} {a : Addr} {k : Kn} (x : KnAt C H a k) (h : Same H H') : KnAt C H' a k := by
  obtain ⟨dx, l, e, r⟩ := x
  exact ⟨dx, l, h _ _ e, r.same pairStay h⟩
/-- a Keeper -/
def KeF (r l w : Addr) : List (Str × V) := [("number", .int 2), ("records", .ref r), ("loose", .ref l), ("waiting", .ref w)]
def KeAt (C : Addr) (H : Hp) (a : Addr) (rs lo : List Rec) (wa : List Ans) : Prop := ∃ dx r l w, H a = some (.ins C dx (KeF r l w)) ∧ TT RecAt H r rs ∧ TT RecAt H l lo ∧ TT AnsAt H w wa
theorem KeAt.same {C : Addr} {H H' : Hp} {a : Addr} {rs lo : List Rec} {wa : List Ans} (x : KeAt C H a rs lo wa) (h : Same H H') : KeAt C H' a rs lo wa := by
  obtain ⟨dx, r, l, w, e, e1, e2, e3⟩ := x
  exact ⟨dx, r, l, w, h _ _ e, e1.same recStay h, e2.same recStay h, e3.same ansStay h⟩
theorem KeAt.stay {C : Addr} {H H' : Hp} {a : Addr} {rs lo : List Rec} {wa : List Ans} (x : KeAt C H a rs lo wa) (h : Tp H H') (e2 : ∀ o, H a = some o → H' a = some o) : KeAt C H' a rs lo wa := by
  obtain ⟨dx, r, l, w, e, f1, f2, f3⟩ := x
  exact ⟨dx, r, l, w, e2 _ e, f1.stay recStay h, f2.stay recStay h, f3.stay ansStay h⟩
/-! ### the texts -/
abbrev sKnI : Stmt := inClass (top 6) 0
abbrev sKeI : Stmt := inClass (top 7) 0
abbrev sKeKept : Stmt := inClass (top 7) 1
abbrev sKeHandle : Stmt := inClass (top 7) 2
abbrev sKeTake : Stmt := inClass (top 7) 3
abbrev sKeNote : Stmt := inClass (top 7) 4
abbrev sKeReply : Stmt := inClass (top 7) 5
abbrev sKeFlush : Stmt := inClass (top 7) 6
abbrev sKeFall : Stmt := inClass (top 7) 7
structure TxK (K : PySem.W.Frag) (mg : Str → Option Value) (CK CN : Addr) : Prop where
  cl : Cls K CK
  clN : Cls K CN
  nNum : NoAttr K CK "number"
  nRec : NoAttr K CK "records"
  nLoo : NoAttr K CK "loose"
  nWai : NoAttr K CK "waiting"
  nEp : NoAttr K CN "epoch"
  nRow : NoAttr K CN "row"
  mgK : mg "Keeper" = some (.ref CK)
  mgN : mg "Known" = some (.ref CN)
  max : mg "max" = none
  len : mg "len" = none
  tuple : mg "tuple" = none
def spKnI (C : Addr) : Sp := fun vs H Q _ => ∃ (p dx t : Addr) (rs : List Rec), vs = [.ref p, .ref t] ∧ H p = some (.ins C dx []) ∧ TT RecAt H t rs ∧ Kn.new.wf rs ∧ rs.length ≤ 500 ∧
  ∀ H' : Hp, KnAt C H' p (Kn.new.all rs) → Kp [p] H H' → Tp H H' → Q .non H'
def spKeI (C : Addr) : Sp := fun vs H Q _ => ∃ (p dx : Addr), vs = [.ref p, .int 2] ∧ H p = some (.ins C dx []) ∧ ∀ H' : Hp, KeAt C H' p [] [] [] → Kp [p] H H' → Tp H H' → Q .non H'
def spKept (C CN : Addr) : Sp := fun vs H Q _ => ∃ (a : Addr) (rs lo : List Rec) (wa : List Ans), vs = [.ref a] ∧ KeAt C H a rs lo wa ∧ Kn.new.wf (rs ++ lo) ∧ (rs ++ lo).length ≤ 500 ∧
  ∀ (p : Addr) (H' : Hp), H p = none → Same H H' → KnAt CN H' p (Kn.new.all (rs ++ lo)) → Q (.ref p) H'
def spNote (C : Addr) : Sp := fun vs H Q _ => ∃ (a r : Addr) (rs lo : List Rec) (wa : List Ans) (x : Rec), vs = [.ref a, .ref r] ∧ KeAt C H a rs lo wa ∧ RecAt H r x ∧ lo.length ≤ 500 ∧
  ∀ H' : Hp, KeAt C H' a rs (lo ++ [x]) wa → Kp [a] H H' → Tp H H' → Q .non H'
def spReply (C : Addr) : Sp := fun vs H Q _ => ∃ (a r : Addr) (rs lo : List Rec) (wa : List Ans) (x : Ans), vs = [.ref a, .ref r] ∧ KeAt C H a rs lo wa ∧ AnsAt H r x ∧ wa.length ≤ 500 ∧
  ∀ H' : Hp, KeAt C H' a rs lo (wa ++ [x]) → Kp [a] H H' → Tp H H' → Q .non H'
section
variable {P : Program} {w : World} {K : PySem.W.Frag} {mg : Str → Option Value} {base : Heap} {CK CN : Addr}
theorem TT.nil {α : Type} {F : Hp → Addr → α → Prop} {H : Hp} {p : Addr} : TT F (upd H p (.tup [])) p ([] : List α) := ⟨[], upd_same, .nil⟩
theorem scKeI : FnScope ["self", "number"] ["self", "number"] (defScope sKeI) := ⟨rfl, rfl, rfl, by decide +kernel, rfl, by decide +kernel, by decide +kernel⟩
theorem ok_kei {f : Addr} {fd : FuncData} (F : Fun K "__init__" "Keeper.__init__" sKeI f fd) (T : TxK K mg CK CN) : FnOk P w K mg base CX0 1 f fd ["self", "number"] (spKeI CK) := by
  refine F.ok scKeI (fun vs H Q E h => ?_) (fun cdv A outer s H vs Q E hr h => ?_)
  · obtain ⟨p, dx, rfl, _⟩ := h
    rfl
  · obtain ⟨p, dx, rfl, hp, k⟩ := h
    refine ⟨_, (pss_cons (ps_fld (pv 0) (pv 1) rfl) (pss_cons (ps_fld (pv 0) (pe_tup pa_nil) rfl) (pss_cons (ps_fld (pv 0) (pe_tup pa_nil) rfl) (pss_one (ps_fld (pv 0) (pe_tup pa_nil) rfl))))), ?_⟩
    refine ⟨_, rfl, _, rfl, p, CK, dx, [], rfl, hp, T.cl, T.nNum, (by show 0 < 1000; decide), ?_⟩
    refine ⟨Nat.zero_le _, fun r hr => ?_⟩
    have npr : p ≠ r := ne_of_none upd_same hr
    have hr0 : H r = none := by rw [upd_ne npr.symm] at hr; exact hr
    refine ⟨_, rfl, p, CK, dx, _, rfl, (by rw [upd_ne npr]; exact upd_same), T.cl, T.nRec, (by show 1 < 1000; decide), ?_⟩
    refine ⟨Nat.zero_le _, fun l hl => ?_⟩
    have npl : p ≠ l := ne_of_none upd_same hl
    have nrl : r ≠ l := ne_of_none (o := .tup []) (by rw [upd_ne npr.symm, upd_same]) hl
    have hl0 : H l = none := by rw [upd_ne npl.symm, upd_ne nrl.symm, upd_ne npl.symm] at hl; exact hl
    refine ⟨_, rfl, p, CK, dx, _, rfl, (by rw [upd_ne npl]; exact upd_same), T.cl, T.nLoo, (by show 2 < 1000; decide), ?_⟩
    refine ⟨Nat.zero_le _, fun w hw => ?_⟩
    have npw : p ≠ w := ne_of_none upd_same hw
    have nlw : l ≠ w := ne_of_none (o := .tup []) (by rw [upd_ne npl.symm, upd_same]) hw
    have nrw : r ≠ w := ne_of_none (o := .tup []) (by rw [upd_ne npr.symm, upd_ne nrl, upd_ne npr.symm, upd_same]) hw
    have hw0 : H w = none := by rw [upd_ne npw.symm, upd_ne nlw.symm, upd_ne npw.symm, upd_ne nrw.symm, upd_ne npw.symm] at hw; exact hw
    refine ⟨_, rfl, p, CK, dx, _, rfl, (by rw [upd_ne npw]; exact upd_same), T.cl, T.nWai, (by show 3 < 1000; decide), ?_⟩
    refine k _ ⟨dx, r, l, w, upd_same, ⟨[], ?_, .nil⟩, ⟨[], ?_, .nil⟩, ⟨[], ?_, .nil⟩⟩ (fun b o z n => ?_) fun b xs z => ?_
    · rw [upd_ne npr.symm, upd_ne nrw, upd_ne npr.symm, upd_ne nrl, upd_ne npr.symm, upd_same]; rfl
    · rw [upd_ne npl.symm, upd_ne nlw, upd_ne npl.symm, upd_same]; rfl
    · rw [upd_ne npw.symm, upd_same]; rfl
    · have nb : b ≠ p := fun e => n (by simp [e])
      rw [upd_ne nb, upd_ne (ne_of_none z hw0), upd_ne nb, upd_ne (ne_of_none z hl0), upd_ne nb, upd_ne (ne_of_none z hr0), upd_ne nb]
      exact z
    · have nb : b ≠ p := ne_of z hp (by intro e; cases e)
      rw [upd_ne nb, upd_ne (ne_of_none z hw0), upd_ne nb, upd_ne (ne_of_none z hl0), upd_ne nb, upd_ne (ne_of_none z hr0), upd_ne nb]
      exact z
theorem scKnI : FnScope ["self", "records", "record"] ["self", "records"] (defScope sKnI) := ⟨rfl, rfl, rfl, by decide +kernel, rfl, by decide +kernel, by decide +kernel⟩
theorem take_all {k : Kn} {rs : List Rec} {i : Nat} {x : Rec} (h : rs[i]? = some x) : k.all (rs.take (i + 1)) = (k.all (rs.take i)).step x := by
  rw [List.take_add_one, h, Kn.all_app]
  rfl
theorem take_ok {k : Kn} {rs : List Rec} {i : Nat} {x : Rec} (h : rs[i]? = some x) (wf : k.wf rs) : (k.all (rs.take i)).okR x ∧ (k.all (rs.take i)).row.length ≤ k.row.length + i := by
  have hl : i < rs.length := (List.getElem?_eq_some_iff.mp h).1
  have e : rs = rs.take i ++ x :: rs.drop (i + 1) := by
    have hx : rs[i] = x := (List.getElem?_eq_some_iff.mp h).2
    rw [← hx, ← List.drop_eq_getElem_cons hl, List.take_append_drop]
  have w2 : k.wf (rs.take i ++ x :: rs.drop (i + 1)) := by rw [← e]; exact wf
  obtain ⟨w3, w4⟩ := Kn.wf_app.mp w2
  refine ⟨w4.1, Nat.le_trans (Kn.all_len w3) ?_⟩
  rw [List.length_take]
  omega
theorem ok_kni {f : Addr} {fd : FuncData} (F : Fun K "__init__" "Known.__init__" sKnI f fd) (T : TxK K mg CK CN) : FnOk P w K mg base CX0 1 f fd ["self", "records"] (spKnI CN) := by
  refine F.ok scKnI (fun vs H Q E h => ?_) (fun cdv A outer s H vs Q E hr h => ?_)
  · obtain ⟨p, dx, t, rs, rfl, _⟩ := h
    rfl
  · obtain ⟨p, dx, t, rs, rfl, hp, ⟨as, ht, hP⟩, wf, hl, k⟩ := h
    refine ⟨_, (pss_cons (ps_fld (pv 0) (pe_un un_neg pe_int) rfl)
      (pss_cons (ps_fld (pv 0) (pe_lst pa_nil) rfl)
      (pss_one (ps_for PassesOwn.never rfl (pi_tup (pv 1)) (pg_name (i := 2) scKnI.nd rfl (Or.inl rfl))
        (pss_cons (ps_fld (pv 0) (pe_callB (call_max2 rfl) (by rfl) T.max boot_max (pa_cons (pe_fld (pv 0) rfl) (pa_cons (pe_ix ix_tup (pv 2) pe_int (fun _ _ => rfl)) pa_nil))) rfl)
        (pss_one (ps_if (pt_cmpR op_eq (pe_ix ix_tup (pv 2) pe_int (fun _ _ => rfl)) pe_str (nomark _))
          (pss_one (ps_asg (pe_lst (pa_cons (pe_tup (pa_cons (pe_ix ix_tup (pv 2) pe_int (fun _ _ => rfl)) (pa_cons (pe_ix ix_tup (pv 2) pe_int (fun _ _ => rfl)) pa_nil))) pa_nil)) (pg_sla (pe_fld (pv 0) rfl) (po_some (pe_ix ix_tup (pv 2) pe_int (fun _ _ => rfl))) (po_some (pe_op op_add (pe_ix ix_tup (pv 2) pe_int (fun _ _ => rfl)) pe_int)))))
          pss_nil))))))), ?_⟩
    refine ⟨_, rfl, _, rfl, p, CN, dx, [], rfl, hp, T.clN, T.nEp, (by show 0 < 1000; decide), ?_⟩
    refine ⟨Nat.zero_le _, fun L hL => ?_⟩
    have npL : p ≠ L := ne_of_none upd_same hL
    have hL0 : H L = none := by rw [upd_ne npL.symm] at hL; exact hL
    refine ⟨_, rfl, p, CN, dx, _, rfl, (by rw [upd_ne npL]; exact upd_same), T.clN, T.nRow, (by show 1 < 1000; decide), ?_⟩
    have ntp : t ≠ p := ne_of ht hp (by intro e; cases e)
    have lenA : (as.map V.ref).length = rs.length := by rw [List.length_map]; exact Paired.length hP
    refine ⟨_, rfl, t, rfl, ⟨_, SqT.of (by rw [upd_ne ntp, upd_ne (ne_of_none ht hL0), upd_ne ntp]; exact ht)⟩, for_tup (K := K) (a := t) (xs := as.map V.ref) (fun i σ H' => ∃ o : Option V, σ = [some (.ref p), some (.ref t), o] ∧ Kp [p, L] H H' ∧ Tp H H' ∧
      H' p = some (.ins CN dx [("epoch", .int (Kn.new.all (rs.take i)).ep), ("row", .ref L)]) ∧ LL PairAt H' L (Kn.new.all (rs.take i)).row) ?_ ?_ ?_ ?_⟩
    · refine ⟨none, rfl, ((Kp.at (by simp)).trans (Kp.at (by simp))).trans (Kp.at (by simp)), fun b xs z => ?_, upd_same, [], ?_, .nil⟩
      · have nb : b ≠ p := ne_of z hp (by intro e; cases e)
        rw [upd_ne nb, upd_ne (ne_of_none z hL0), upd_ne nb]
        exact z
      · rw [upd_ne npL.symm, upd_same]; rfl
    · rintro i σ H' _ ⟨o, rfl, _, tp, _⟩
      exact SqT.of (tp _ _ ht)
    · rintro i y σ H' hi ⟨o, rfl, kp, tp, hp', as', hL', hP'⟩
      rw [List.getElem?_map] at hi
      obtain ⟨c, hc, rfl⟩ := Option.map_eq_some_iff.mp hi
      obtain ⟨x, hx, rx⟩ := Paired.ix' hP hc
      have rx' := tp _ _ rx
      obtain ⟨okx, lenx⟩ := take_ok hx wf
      have nLp : L ≠ p := npL.symm
      have hi' : i < rs.length := (List.getElem?_eq_some_iff.mp hx).1
      rw [take_all hx]
      generalize Kn.new.all (rs.take i) = kn at hp' hL' hP' okx lenx ⊢
      have lenA' : as'.length = kn.row.length := Paired.length hP'
      cases x with
      | prom e =>
        refine ⟨_, rfl, p, CN, dx, _, _, rfl, hp', T.clN, T.nEp, rfl, _, rfl, c, RecV (.prom e), 1, .int e, rfl, rfl, SqT.of rx', rfl, kn.ep, e, rfl, _, rfl, p, CN, dx, _, rfl, hp', T.clN, T.nEp, (by show 2 < 1000; decide), ?_⟩
        have ncp : c ≠ p := ne_of rx' hp' (by intro e; cases e)
        have ncL : c ≠ L := ne_of rx' hL' (by intro e; cases e)
        refine ⟨_, rfl, c, RecV (.prom e), 0, .str "promise", rfl, rfl, SqT.of (by rw [upd_ne ncp]; exact rx'), rfl, ?_⟩
        refine ⟨rfl, _, rfl, ?_⟩
        refine ite2 (fun h => absurd h (by decide)) (fun _ => ?_)
        refine ⟨some (.ref c), rfl, kp.trans (Kp.at (by simp)), tp.trans (Tp.at hp' fun xs z => by cases z), upd_same, as', by rw [upd_ne nLp]; exact hL', Paired.mapP hP' fun a b => pairStay (Tp.at hp' fun xs z => by cases z)⟩
      | take e pl x =>
        refine ⟨_, rfl, p, CN, dx, _, _, rfl, hp', T.clN, T.nEp, rfl, _, rfl, c, RecV (.take e pl x), 1, .int e, rfl, rfl, SqT.of rx', rfl, kn.ep, e, rfl, _, rfl, p, CN, dx, _, rfl, hp', T.clN, T.nEp, (by show 2 < 1000; decide), ?_⟩
        have ncp : c ≠ p := ne_of rx' hp' (by intro e; cases e)
        have ncL : c ≠ L := ne_of rx' hL' (by intro e; cases e)
        have t1 : Tp H' (upd H' p (.ins CN dx (putF "epoch" (.int (if e > kn.ep then e else kn.ep)) [("epoch", .int kn.ep), ("row", .ref L)]))) := Tp.at hp' fun xs z => by cases z
        have k1 : Kp [p, L] H (upd H' p (.ins CN dx (putF "epoch" (.int (if e > kn.ep then e else kn.ep)) [("epoch", .int kn.ep), ("row", .ref L)]))) := kp.trans (Kp.at (by simp))
        have g1 : upd H' p (.ins CN dx (putF "epoch" (.int (if e > kn.ep then e else kn.ep)) [("epoch", .int kn.ep), ("row", .ref L)])) p = some (.ins CN dx [("epoch", .int (if e > kn.ep then e else kn.ep)), ("row", .ref L)]) := upd_same
        have g2 : upd H' p (.ins CN dx (putF "epoch" (.int (if e > kn.ep then e else kn.ep)) [("epoch", .int kn.ep), ("row", .ref L)])) L = some (.lst (as'.map V.ref)) := by rw [upd_ne nLp]; exact hL'
        generalize upd H' p (.ins CN dx (putF "epoch" (.int (if e > kn.ep then e else kn.ep)) [("epoch", .int kn.ep), ("row", .ref L)])) = H2 at t1 k1 g1 g2 ⊢
        have rx2 := t1 _ _ rx'
        refine ⟨_, rfl, c, RecV (.take e pl x), 0, .str "take", rfl, rfl, SqT.of rx2, rfl, rfl, _, rfl, ?_⟩
        refine ite2 (fun _ => ?_) (fun h => absurd (by decide) h)
        refine ⟨_, rfl, c, RecV (.take e pl x), 1, .int e, rfl, rfl, SqT.of rx2, rfl, _, rfl, c, RecV (.take e pl x), 3, .int x, rfl, rfl, SqT.of rx2, rfl, (by show 2 ≤ sizeLine; decide), fun b hb => ?_⟩
        refine ⟨(by show 1 ≤ sizeLine; decide), fun l hl => ?_⟩
        have nbl : b ≠ l := ne_of_none upd_same hl
        have hl0 : H2 l = none := by rw [upd_ne nbl.symm] at hl; exact hl
        have s3 : Same H2 (upd (upd H2 b (.tup [.int e, .int x])) l (.lst [.ref b])) := fun u o z => by rw [upd_ne (ne_of_none z hl0), upd_ne (ne_of_none z hb)]; exact z
        have g3 : upd (upd H2 b (.tup [.int e, .int x])) l (.lst [.ref b]) l = some (.lst [.ref b]) := upd_same
        have g4 : upd (upd H2 b (.tup [.int e, .int x])) l (.lst [.ref b]) b = some (.tup [.int e, .int x]) := by rw [upd_ne nbl, upd_same]
        have nLl : L ≠ l := ne_of_none g2 hl0
        generalize upd (upd H2 b (.tup [.int e, .int x])) l (.lst [.ref b]) = H3 at s3 g3 g4 ⊢
        have rx3 := s3 _ _ rx2
        refine ⟨_, rfl, p, CN, dx, _, _, rfl, s3 _ _ g1, T.clN, T.nRow, rfl, _, rfl, c, RecV (.take e pl x), 2, .int pl, rfl, rfl, SqT.of rx3, rfl, (pl : Int), rfl, _, rfl, c, RecV (.take e pl x), 2, .int pl, rfl, rfl, SqT.of rx3, rfl, _, _, rfl, rfl, (pl : Int) + 1, rfl, ?_⟩
        refine ⟨L, l, as'.map V.ref, [.ref b], pl, pl + 1, rfl, rfl, rfl, by push_cast; rfl, s3 _ _ g2, g3, nLl, by omega, by rw [List.length_map, lenA']; exact okx, by rw [List.length_map, lenA']; exact Nat.le_of_lt (small1000 (by show kn.row.length + 1 ≤ 1000; have z : (Kn.new).row.length = 0 := rfl; omega)), ?_⟩
        have t4 : Tp H3 (upd H3 L (.lst ((as'.map V.ref).take pl ++ [.ref b] ++ (as'.map V.ref).drop (pl + 1)))) := Tp.at (s3 _ _ g2) fun xs z => by cases z
        have tAll := (t1.trans (Tp.same s3)).trans t4
        refine ⟨some (.ref c), rfl, (k1.trans (Kp.same s3)).trans (Kp.at (by simp)), tp.trans tAll, by rw [upd_ne npL]; exact s3 _ _ g1, as'.take pl ++ [b] ++ as'.drop (pl + 1), ?_, ?_⟩
        · rw [upd_same, List.map_append, List.map_append, List.map_take, List.map_drop]; rfl
        · exact Paired.app (Paired.app (Paired.tk pl (Paired.mapP hP' fun a b => pairStay tAll)) (.cons (t4 _ _ g4) .nil)) (Paired.dr (pl + 1) (Paired.mapP hP' fun a b => pairStay tAll))
    · rintro σ H' ⟨o, rfl, kp, tp, hp', hrow⟩
      rw [lenA, List.take_length] at hp' hrow
      exact k _ ⟨dx, L, hp', hrow⟩ (Kp.drop (p := L) (kp.mono (by simp)) hL0) tp
end
end Mc
namespace Mc
open PySem L2 PySem.Spec PyProof.Rows
section
variable {P : Program} {w : World} {K : PySem.W.Frag} {mg : Str → Option Value} {base : Heap} {CK CN : Addr}
theorem scKept : FnScope ["self"] ["self"] (defScope sKeKept) := ⟨rfl, rfl, rfl, by decide +kernel, rfl, by decide +kernel, by decide +kernel⟩
theorem TT.len {α : Type} {F : Hp → Addr → α → Prop} {H : Hp} {rs : List α} {as : List Addr} (p : Paired (F H) as rs) : (as.map V.ref).length = rs.length := by rw [List.length_map]; exact Paired.length p
theorem ok_kept {f : Addr} {fd : FuncData} (F : Fun K "kept" "Keeper.kept" sKeKept f fd) (T : TxK K mg CK CN) (c_Known : CalI P w K mg base CN 1 "Known" ["self", "records"] (spKnI CN)) : FnOk P w K mg base CX0 3 f fd ["self"] (spKept CK CN) := by
  refine F.ok scKept (fun vs H Q E h => ?_) (fun cdv A outer s H vs Q E hr h => ?_)
  · obtain ⟨a, rs, lo, wa, rfl, _⟩ := h
    rfl
  · obtain ⟨a, rs, lo, wa, rfl, ⟨dx, r, l, w, ha, ⟨ar, hr1, pr⟩, ⟨al, hl1, pl⟩, hw⟩, wf, hln, k⟩ := h
    refine ⟨_, (pss_one (ps_ret (pe_calI c_Known (hr.mono (by decide)) rfl (pa_cons (pe_op op_catA (pe_fld (pv 0) rfl) (pe_fld (pv 0) rfl)) pa_nil)))), ?_⟩
    refine ⟨_, rfl, a, CK, dx, _, _, rfl, ha, T.cl, T.nRec, rfl, _, rfl, a, CK, dx, _, _, rfl, ha, T.cl, T.nLoo, rfl, ?_⟩
    rw [List.length_append] at hln
    refine catA_of hr1 hl1 (by rw [TT.len pr, TT.len pl]; exact Nat.le_of_lt (small1000 (by omega))) fun t H1 s1 _ ht => ?_
    intro p dx hp hdx ne
    have s2 : Same H1 (upd (upd H1 dx (.own p)) p (.ins CN dx [])) := fun b o z => by rw [upd_ne (ne_of_none z hp), upd_ne (ne_of_none z hdx)]; exact z
    refine ⟨p, dx, t, rs ++ lo, rfl, upd_same, ⟨ar ++ al, ?_, Paired.app (Paired.mapP pr fun a b => recStay (Tp.same (Same.tr s1 s2))) (Paired.mapP pl fun a b => recStay (Tp.same (Same.tr s1 s2)))⟩, wf, by rw [List.length_append]; exact hln, fun H2 kn kp tp => ⟨rfl, ?_⟩⟩
    · rw [List.map_append]; exact s2 _ _ ht
    · have hp0 : H p = none := by
        cases z : H p with
        | none => rfl
        | some o => rw [s1 _ _ z] at hp; cases hp
      refine k p H2 hp0 (fun b o z => ?_) kn
      have nb : b ≠ p := ne_of_none (s1 _ _ z) hp
      exact kp _ _ (s2 _ _ (s1 _ _ z)) (by simp [nb])
theorem scNote : FnScope ["self", "record"] ["self", "record"] (defScope sKeNote) := ⟨rfl, rfl, rfl, by decide +kernel, rfl, by decide +kernel, by decide +kernel⟩
theorem ok_note {f : Addr} {fd : FuncData} (F : Fun K "note" "Keeper.note" sKeNote f fd) (T : TxK K mg CK CN) : FnOk P w K mg base CX0 1 f fd ["self", "record"] (spNote CK) := by
  refine F.ok scNote (fun vs H Q E h => ?_) (fun cdv A outer s H vs Q E hr h => ?_)
  · obtain ⟨a, r, rs, lo, wa, x, rfl, _⟩ := h
    rfl
  · obtain ⟨a, c, rs, lo, wa, x, rfl, ⟨dx, r, l, w, ha, hrs, ⟨al, hl1, pl⟩, hw⟩, hc, hln, k⟩ := h
    refine ⟨_, (pss_one (ps_fldaug (pv 0) (pe_tup (pa_cons (pv 1) pa_nil)) in_addT)), ?_⟩
    refine ⟨_, rfl, a, CK, dx, _, _, rfl, ha, T.cl, T.nLoo, rfl, _, rfl, (by show 1 ≤ sizeLine; decide), fun u hu => ?_⟩
    have s1 : Same H (upd H u (.tup [.ref c])) := Same.new hu
    refine catA_of (s1 _ _ hl1) upd_same (by rw [TT.len pl]; exact Nat.le_of_lt (small1000 (by show lo.length + 1 ≤ 1000; omega))) fun t H1 s2 _ ht => ?_
    have s3 := Same.tr s1 s2
    refine ⟨dx, _, s3 _ _ ha, (by show 4 < 1000; decide), ?_⟩
    have t1 : ∀ {o}, Tp H1 (upd H1 a o) := fun {o} => Tp.at (s3 _ _ ha) fun xs z => by cases z
    have t2 : ∀ {o}, Tp H (upd H1 a o) := fun {o} => (Tp.same s3).trans t1
    refine k _ ⟨dx, r, t, w, upd_same, hrs.stay recStay t2, ⟨al ++ [c], ?_, Paired.app (Paired.mapP pl fun a b => recStay t2) (.cons (t2 _ _ hc) .nil)⟩, hw.stay ansStay t2⟩ ((Kp.same s3).trans (Kp.at (by simp))) t2
    rw [List.map_append]; exact t1 _ _ ht
theorem scReply : FnScope ["self", "told"] ["self", "told"] (defScope sKeReply) := ⟨rfl, rfl, rfl, by decide +kernel, rfl, by decide +kernel, by decide +kernel⟩
theorem ok_reply {f : Addr} {fd : FuncData} (F : Fun K "reply" "Keeper.reply" sKeReply f fd) (T : TxK K mg CK CN) : FnOk P w K mg base CX0 1 f fd ["self", "told"] (spReply CK) := by
  refine F.ok scReply (fun vs H Q E h => ?_) (fun cdv A outer s H vs Q E hr h => ?_)
  · obtain ⟨a, r, rs, lo, wa, x, rfl, _⟩ := h
    rfl
  · obtain ⟨a, c, rs, lo, wa, x, rfl, ⟨dx, r, l, w, ha, hrs, hlo, ⟨al, hl1, pl⟩⟩, hc, hln, k⟩ := h
    refine ⟨_, (pss_one (ps_fldaug (pv 0) (pe_tup (pa_cons (pv 1) pa_nil)) in_addT)), ?_⟩
    refine ⟨_, rfl, a, CK, dx, _, _, rfl, ha, T.cl, T.nWai, rfl, _, rfl, (by show 1 ≤ sizeLine; decide), fun u hu => ?_⟩
    have s1 : Same H (upd H u (.tup [.ref c])) := Same.new hu
    refine catA_of (s1 _ _ hl1) upd_same (by rw [TT.len pl]; exact Nat.le_of_lt (small1000 (by show wa.length + 1 ≤ 1000; omega))) fun t H1 s2 _ ht => ?_
    have s3 := Same.tr s1 s2
    refine ⟨dx, _, s3 _ _ ha, (by show 4 < 1000; decide), ?_⟩
    have t1 : ∀ {o}, Tp H1 (upd H1 a o) := fun {o} => Tp.at (s3 _ _ ha) fun xs z => by cases z
    have t2 : ∀ {o}, Tp H (upd H1 a o) := fun {o} => (Tp.same s3).trans t1
    refine k _ ⟨dx, r, l, t, upd_same, hrs.stay recStay t2, hlo.stay recStay t2, ⟨al ++ [c], ?_, Paired.app (Paired.mapP pl fun a b => ansStay t2) (.cons (ansStay t2 hc) .nil)⟩⟩ ((Kp.same s3).trans (Kp.at (by simp))) t2
    rw [List.map_append]; exact t1 _ _ ht
def spFlush (C : Addr) : Sp := fun vs H Q _ => ∃ (a : Addr) (rs lo : List Rec) (wa : List Ans), vs = [.ref a] ∧ KeAt C H a rs lo wa ∧ (rs ++ lo).length ≤ 500 ∧
  ∀ (t : Addr) (H' : Hp), KeAt C H' a (rs ++ lo) [] [] → TT AnsAt H' t wa → Kp [a] H H' → Tp H H' → Q (.ref t) H'
theorem scFlush : FnScope ["self", "told"] ["self"] (defScope sKeFlush) := ⟨rfl, rfl, rfl, by decide +kernel, rfl, by decide +kernel, by decide +kernel⟩
/-- the two emptied -/
theorem empt {D : Ends} {σ : L2.St} {H0 H : Hp} {a dx t l w : Addr} {rs : List Rec} (T : TxK K mg CK CN) (ha : H a = some (.ins CK dx (KeF t l w))) (ht : TT RecAt H t rs) (k0 : Kp [a] H0 H) (t0 : Tp H0 H)
    (h0 : σ[0]? = some (some (.ref a))) (q : ∀ H', KeAt CK H' a rs [] [] → Kp [a] H0 H' → Tp H0 H' → D.nx σ H') :
    tSeq (sFld K (tVar 0) (tTup tNil) "loose") (sFld K (tVar 0) (tTup tNil) "waiting") D σ H := by
  refine ⟨Nat.zero_le _, fun u hu => ?_⟩
  have nau : a ≠ u := ne_of_none ha hu
  refine ⟨_, h0, a, CK, dx, _, rfl, (by rw [upd_ne nau]; exact ha), T.cl, T.nLoo, (by show 4 < 1000; decide), ?_⟩
  refine ⟨Nat.zero_le _, fun v hv => ?_⟩
  have nav : a ≠ v := ne_of_none upd_same hv
  have nuv : u ≠ v := ne_of_none (o := .tup []) (by rw [upd_ne nau.symm, upd_same]) hv
  have hv0 : H v = none := by rw [upd_ne nav.symm, upd_ne nuv.symm] at hv; exact hv
  refine ⟨_, h0, a, CK, dx, _, rfl, (by rw [upd_ne nav]; exact upd_same), T.cl, T.nWai, (by show 4 < 1000; decide), ?_⟩
  have tt : ∀ {i j}, Tp H (upd (upd (upd (upd H u (.tup [])) a i) v (.tup [])) a j) := fun {i j} b xs z => by
    have nb : b ≠ a := ne_of z ha (by intro e; cases e)
    rw [upd_ne nb, upd_ne (ne_of_none z hv0), upd_ne nb, upd_ne (ne_of_none z hu)]; exact z
  refine q _ ⟨dx, t, u, v, upd_same, ht.stay recStay tt, ⟨[], ?_, .nil⟩, ⟨[], ?_, .nil⟩⟩ (k0.trans fun b o z n => ?_) (t0.trans tt)
  · rw [upd_ne nau.symm, upd_ne nuv, upd_ne nau.symm, upd_same]; rfl
  · rw [upd_ne nav.symm, upd_same]; rfl
  · have nb : b ≠ a := fun e => n (by simp [e])
    rw [upd_ne nb, upd_ne (ne_of_none z hv0), upd_ne nb, upd_ne (ne_of_none z hu)]; exact z
theorem ok_flush {f : Addr} {fd : FuncData} (F : Fun K "flush" "Keeper.flush" sKeFlush f fd) (T : TxK K mg CK CN) : FnOk P w K mg base CX0 1 f fd ["self"] (spFlush CK) := by
  refine F.ok scFlush (fun vs H Q E h => ?_) (fun cdv A outer s H vs Q E hr h => ?_)
  · obtain ⟨a, rs, lo, wa, rfl, _⟩ := h
    rfl
  · obtain ⟨a, rs, lo, wa, rfl, ⟨dx, r, l, w, ha, ⟨ar, hr1, pr⟩, ⟨al, hl1, pl⟩, hw⟩, hln, k⟩ := h
    refine ⟨_, (pss_cons (ps_set (i := 1) scFlush.nd rfl (Or.inl rfl) (pe_fld (pv 0) rfl))
      (pss_cons (ps_fldaug (pv 0) (pe_fld (pv 0) rfl) in_addT)
      (pss_cons (ps_fld (pv 0) (pe_tup pa_nil) rfl)
      (pss_cons (ps_fld (pv 0) (pe_tup pa_nil) rfl)
      (pss_one (ps_ret (pv 1))))))), ?_⟩
    refine ⟨_, rfl, a, CK, dx, _, _, rfl, ha, T.cl, T.nWai, rfl, ?_⟩
    refine ⟨_, rfl, a, CK, dx, _, _, rfl, ha, T.cl, T.nRec, rfl, _, rfl, a, CK, dx, _, _, rfl, ha, T.cl, T.nLoo, rfl, ?_⟩
    rw [List.length_append] at hln
    refine catA_of hr1 hl1 (by rw [TT.len pr, TT.len pl]; exact Nat.le_of_lt (small1000 (by omega))) fun t H1 s1 _ ht => ?_
    refine ⟨dx, _, s1 _ _ ha, (by show 4 < 1000; decide), ?_⟩
    have t2 : ∀ {o}, Tp H1 (upd H1 a o) := fun {o} => Tp.at (s1 _ _ ha) fun xs z => by cases z
    have t3 : ∀ {o}, Tp H (upd H1 a o) := fun {o} => (Tp.same s1).trans t2
    refine empt (CK := CK) (H0 := H) (a := a) (dx := dx) (t := t) (l := l) (w := w) (rs := rs ++ lo) T upd_same ⟨ar ++ al, ?_, Paired.app (Paired.mapP pr fun a b => recStay t3) (Paired.mapP pl fun a b => recStay t3)⟩ ((Kp.same s1).trans (Kp.at (by simp))) t3 rfl fun H2 k2 kp tp => ?_
    · rw [List.map_append]; exact t2 _ _ ht
    · exact ⟨_, rfl, k w H2 k2 (hw.stay ansStay tp) kp tp⟩
end
end Mc
namespace Mc
open PySem L2 PySem.Spec PyProof.Rows
def spIsN : Sp := fun vs H Q _ => ∃ (x : V) (lo hi : Int), vs = [x, .int lo, .int hi] ∧ ((∃ n : Int, x = .int n ∧ Q (.bl (decide (lo ≤ n) && decide (n ≤ hi))) H) ∨ (∃ z, x = .str z ∧ Q (.bl false) H))
abbrev sIsN : Stmt := top 4
structure TxI (mg : Str → Option Value) : Prop where
  isi : mg "isinstance" = none
  int : mg "int" = none
  bool : mg "bool" = none
section
variable {P : Program} {w : World} {K : PySem.W.Frag} {mg : Str → Option Value} {base : Heap} {CK CN CB : Addr}
theorem scIsN : FnScope ["thing", "low", "high"] ["thing", "low", "high"] (defScope sIsN) := ⟨rfl, rfl, rfl, by decide +kernel, rfl, by decide +kernel, by decide +kernel⟩
theorem ok_isn {f : Addr} {fd : FuncData} (F : Fun K "is_number" "is_number" sIsN f fd) (T : TxI mg) : FnOk P w K mg base CX0 1 f fd ["thing", "low", "high"] spIsN := by
  refine F.ok scIsN (fun vs H Q E h => ?_) (fun cdv A outer s H vs Q E hr h => ?_)
  · obtain ⟨x, lo, hi, rfl, _⟩ := h
    rfl
  · obtain ⟨x, lo, hi, rfl, h⟩ := h
    refine ⟨_, (pss_one (ps_ret (pe_and (pe_callB call_isi (by rfl) T.isi boot_isinstance (pa_cons (pv 0) (pa_cons (pe_bltn (v := .ty "int") (by rfl) T.int boot_int rfl) pa_nil))) (pe_and (pe_not (pe_callB call_isi (by rfl) T.isi boot_isinstance (pa_cons (pv 0) (pa_cons (pe_bltn (v := .ty "bool") (by rfl) T.bool (by rfl) rfl) pa_nil)))) (pe_one (pe_chain op_le op_le (pv 1) (pv 0) (pv 2))))))), ?_⟩
    rcases h with ⟨n, rfl, q⟩ | ⟨z, rfl, q⟩
    · refine ⟨_, rfl, _, _, _, _, _, rfl, .ty "int", .base (.int _), by rfl, true, rfl, _, rfl, _, _, _, _, _, rfl, .ty "bool", .base (.int _), by rfl, false, rfl, true, rfl, ?_⟩
      refine ⟨_, rfl, _, rfl, _, _, rfl, rfl, _, rfl, ?_⟩
      refine ite2 (fun h => ?_) (fun h => ?_)
      · refine ⟨_, rfl, _, _, rfl, rfl, ?_⟩
        rw [decide_eq_true (of_decide_eq_true h)] at q
        exact q
      · rw [Bool.eq_false_iff.mpr h] at q
        exact q
    · exact ⟨_, rfl, _, _, _, _, _, rfl, .ty "int", .base (.str _), by rfl, false, rfl, q⟩
/-! ### Keeper.fall -/
def spFall (C CB : Addr) : Sp := fun vs H Q E => ∃ (a : Addr) (rs lo : List Rec) (wa : List Ans) (x : V), vs = [.ref a, x] ∧ KeAt C H a rs lo wa ∧ (rs ++ lo).length ≤ 500 ∧
  ((∃ n : Nat, x = .int n ∧ n ≤ lo.length ∧ ∀ H' : Hp, KeAt C H' a (rs ++ lo.take n) [] [] → Kp [a] H H' → Tp H H' → Q .non H') ∨
    (((∃ i : Int, x = .int i ∧ ¬ (0 ≤ i ∧ i ≤ lo.length)) ∨ (∃ z, x = .str z)) ∧ ∀ d H', Same H H' → H' d = some (.xd [("name", x)]) → E (.ref CB) (some d) H'))
structure TxB (K : PySem.W.Frag) (mg : Str → Option Value) (CB : Addr) : Prop where
  T : OexB K CB
  mg : mg "BadName" = some (.ref CB)
def CalB (P : Program) (w : World) (K : PySem.W.Frag) (mg : Str → Option Value) (base : Heap) (CB : Addr) (f : Str) : Prop :=
  ∃ (fI : Addr) (fd : FuncData), PySem.W.findIn K (.ref CB) "__init__" = some (some (.ref fI)) ∧ PySem.W.isFn K (.ref fI) = true ∧ Binds K fd ["self", f] [] ∧ FnOk P w K mg base CX0 1 fI fd ["self", f] (spBadI CB f)
theorem scFall : FnScope ["self", "many"] ["self", "many"] (defScope sKeFall) := ⟨rfl, rfl, rfl, by decide +kernel, rfl, by decide +kernel, by decide +kernel⟩
theorem cut_take (xs : List V) (n : Nat) (h : n ≤ xs.length) : cutV xs none (some (n : Int)) = xs.take n := by
  unfold cutV
  rw [HT.sIx_none, HT.sIx_nat, List.drop_zero, Nat.sub_zero, Nat.min_eq_left h]
theorem ok_fall {f : Addr} {fd : FuncData} (F : Fun K "fall" "Keeper.fall" sKeFall f fd) (T : TxK K mg CK CN) (TB : TxB K mg CB) (c_is_number : Cal P w K mg base 1 "is_number" ["thing", "low", "high"] spIsN) (cB : CalB P w K mg base CB "name") :
    FnOk P w K mg base (L2.CX P w) 4 f fd ["self", "many"] (spFall CK CB) := by
  obtain ⟨fI, fdI, iC, tI, bI, FI⟩ := cB
  refine F.okX scFall (fun vs H Q E h => ?_) (fun cdv A outer s H vs Q E hr h => ?_)
  · obtain ⟨a, rs, lo, wa, x, rfl, _⟩ := h
    rfl
  · obtain ⟨a, rs, lo, wa, x, rfl, ⟨dx, r, l, w, ha, ⟨ar, hr1, pr⟩, ⟨al, hl1, pl⟩, hw⟩, hln, h⟩ := h
    refine ⟨_, (pss_cons (ps_if (pt_not (pt_val (pe_cal c_is_number (hr.mono (by decide)) rfl (pa_cons (pv 1) (pa_cons pe_int (pa_cons (pe_callB call_len_seq (by rfl) T.len PySem.boot_len (pa_cons (pe_fld (pv 0) rfl) pa_nil)) pa_nil))))))
        (pss_one (ps_raise rfl (takes_of rfl rfl rfl rfl) (pmk_B TB.T iC tI FI (hr.mono (by decide)) bI rfl TB.mg (pa_cons (pv 1) pa_nil))))
        pss_nil)
      (pss_cons (ps_fldaug (pv 0) (pe_slice sl_tupA (pe_fld (pv 0) rfl) po_none (po_some (pv 1))) in_addT)
      (pss_cons (ps_fld (pv 0) (pe_tup pa_nil) rfl)
      (pss_one (ps_fld (pv 0) (pe_tup pa_nil) rfl))))), ?_⟩
    have lenL : (al.map V.ref).length = lo.length := TT.len pl
    have lenR : (ar.map V.ref).length = rs.length := TT.len pr
    rw [List.length_append] at hln
    refine ⟨_, rfl, _, rfl, a, CK, dx, _, _, rfl, ha, T.cl, T.nLoo, rfl, l, _, rfl, .inr (SqT.of hl1), x, 0, ((al.map V.ref).length : Int), rfl, ?_⟩
    rw [lenL]
    rcases h with ⟨n, rfl, hn, k⟩ | ⟨h, k⟩
    · refine .inl ⟨n, rfl, _, rfl, ?_⟩
      rw [decide_eq_true (by omega : (0 : Int) ≤ n), decide_eq_true (by omega : (n : Int) ≤ lo.length)]
      refine ite2 (fun h => absurd h (by decide)) (fun _ => ?_)
      refine ⟨_, rfl, a, CK, dx, _, _, rfl, ha, T.cl, T.nRec, rfl, _, rfl, a, CK, dx, _, _, rfl, ha, T.cl, T.nLoo, rfl, _, rfl, _, rfl, l, _, rfl, SqT.of hl1, ?_⟩
      have fin : ∀ (u : Addr) (H1 : Hp), Same H H1 → H1 u = some (.tup ((al.take n).map V.ref)) → rCatA K (.ref r) (.ref u) H1 (fun z H3 => ∃ dx' fs', H3 a = some (.ins CK dx' fs') ∧ fs'.length < 1000 ∧
          tSeq (sFld K (tVar 0) (tTup tNil) "loose") (sFld K (tVar 0) (tTup tNil) "waiting") { nx := fun _ H' => Q .non H', rt := Q } (start ["self", "many"] [.ref a, .int n]) (upd H3 a (.ins CK dx' (putF "records" z fs')))) := fun u H1 s1 hu => by
        refine catA_of (s1 _ _ hr1) hu (by rw [lenR, List.length_map, List.length_take]; exact Nat.le_of_lt (small1000 (by omega))) fun t H2 s2 _ ht => ?_
        have s3 := Same.tr s1 s2
        have t2 : ∀ {o}, Tp H2 (upd H2 a o) := fun {o} => Tp.at (s3 _ _ ha) fun xs z => by cases z
        have t3 : ∀ {o}, Tp H (upd H2 a o) := fun {o} => (Tp.same s3).trans t2
        refine ⟨dx, _, s3 _ _ ha, (by show 4 < 1000; decide), ?_⟩
        refine empt (CK := CK) (H0 := H) (a := a) (dx := dx) (t := t) (l := l) (w := w) (rs := rs ++ lo.take n) T upd_same ⟨ar ++ al.take n, ?_, Paired.app (Paired.mapP pr fun a b => recStay t3) (Paired.tk n (Paired.mapP pl fun a b => recStay t3))⟩ ((Kp.same s3).trans (Kp.at (by simp))) t3 rfl fun H4 k4 kp tp => k H4 k4 kp tp
        rw [List.map_append]; exact t2 _ _ ht
      have en : cutV (al.map V.ref) none (some (n : Int)) = (al.take n).map V.ref := by rw [cut_take _ _ (by rw [lenL]; exact hn), List.map_take]
      refine ⟨fun hw => ?_, fun hw u hu => ?_⟩
      · refine fin l H (fun _ _ z => z) ?_
        have e1 : n = (al.map V.ref).length := by
          have := hw.2
          rw [HT.sIx_nat] at this
          rw [lenL] at this ⊢
          omega
        rw [List.map_take, e1, List.take_length]; exact hl1
      · refine fin u _ (Same.new hu) ?_
        rw [upd_same, en]
    · have no : ∀ (Z : Prop), (∀ b : Bool, b = false → Z) → Z := fun Z f => f false rfl
      have go : ∀ H0, H0 = H → tMkB CB (spBadI CB "name") (tCons (tVar 1) tNil) (start ["self", "many"] [.ref a, x]) H0 (fun cls d H' => E cls d H') := fun H0 e => by
        subst e
        exact ⟨_, rfl, mkB_one fun d hd => k d _ (Same.new hd) upd_same⟩
      rcases h with ⟨i, rfl, hi⟩ | ⟨z, rfl⟩
      · refine .inl ⟨i, rfl, _, rfl, ?_⟩
        have eb : (decide ((0 : Int) ≤ i) && decide (i ≤ (lo.length : Int))) = false := by
          rw [Bool.eq_false_iff]
          intro h
          rw [Bool.and_eq_true] at h
          exact hi ⟨of_decide_eq_true h.1, of_decide_eq_true h.2⟩
        rw [eb]
        refine ite2 (fun _ => go _ rfl) (fun h => absurd rfl h)
      · refine .inr ⟨z, rfl, _, rfl, ?_⟩
        refine ite2 (fun _ => go _ rfl) (fun h => absurd rfl h)
end
end Mc
namespace Mc
open PySem L2 PySem.Spec PyProof.Rows
/-! ### Keeper.take, Keeper.handle -/
def spTk (C : Addr) : Sp := fun vs H Q _ => ∃ (a rw_ : Addr) (rs lo : List Rec) (wa : List Ans) (k : Kn) (e : Int) (p : Nat) (x : Int), vs = [.ref a, .ref rw_, .int e, .int p, .int x] ∧ KeAt C H a rs lo wa ∧ LL PairAt H rw_ k.row ∧ lo.length ≤ 500 ∧ wa.length ≤ 500 ∧
  ∀ H' : Hp, KeAt C H' a rs (lo ++ oList (if k.bars e p then none else if k.isNew e p x then some (.take e p x) else none)) (wa ++ oList (if k.bars e p then none else some (.taken e p))) → Kp [a] H H' → Tp H H' → Q .non H'
def spHd (C : Addr) : Sp := fun vs H Q _ => ∃ (a la : Addr) (rs lo : List Rec) (wa : List Ans) (l : Ltr), vs = [.ref a, .ref la] ∧ KeAt C H a rs lo wa ∧ LtrAt H la l ∧ Kn.new.wf (rs ++ lo) ∧ (rs ++ lo).length ≤ 490 ∧ wa.length ≤ 490 ∧
  ∀ H' : Hp, KeAt C H' a rs (lo ++ oList ((Kn.new.all (rs ++ lo)).recOf l)) (wa ++ oList ((Kn.new.all (rs ++ lo)).ansOf l)) → Kp [a] H H' → Tp H H' → Q .non H'
section
variable {P : Program} {w : World} {K : PySem.W.Frag} {mg : Str → Option Value} {base : Heap} {CK CN : Addr}
theorem scTk : FnScope ["self", "row", "epoch", "place", "entry"] ["self", "row", "epoch", "place", "entry"] (defScope sKeTake) := ⟨rfl, rfl, rfl, by decide +kernel, rfl, by decide +kernel, by decide +kernel⟩
theorem tIfS_of {tt : L2.TT} {ta tb : TS} {D : Ends} {σ : L2.St} {H : Hp} {b : Bool} (h : ∀ Kk : Bool → Hp → Prop, (∀ H', Same H H' → Kk b H') → tt σ H Kk) (q : ∀ H', Same H H' → if b = true then ta D σ H' else tb D σ H') : tIfS tt ta tb D σ H := h _ q
theorem atN {α : Type} {xs : List α} {i : Int} {j : Nat} {v : α} (e : i = (j : Int)) (h : xs[j]? = some v) : atI xs i = some v := by subst e; exact atI_nat h
theorem pairD {K : PySem.W.Frag} {H : Hp} {a : Addr} {p : Int × Int} (h : PairAt H a p) : Dp K H (.ref a) (.tuple [.int p.1, .int p.2]) := .tup (SqT.of h) (dpA2 (.int _) (.int _))
theorem pairOk {a b : Int} : DOk 1 (.tuple [.int a, .int b]) := DOk.tup fun d hd => by
  simp at hd
  rcases hd with rfl | rfl <;> exact DOk.int
theorem ok_tk {f : Addr} {fd : FuncData} (F : Fun K "take" "Keeper.take" sKeTake f fd) (T : TxK K mg CK CN) (c_Keeper_note : CalM P w K mg base CK 1 "note" ["self", "record"] (spNote CK)) (c_Keeper_reply : CalM P w K mg base CK 1 "reply" ["self", "told"] (spReply CK)) :
    FnOk P w K mg base CX0 2 f fd ["self", "row", "epoch", "place", "entry"] (spTk CK) := by
  refine F.ok scTk (fun vs H Q E h => ?_) (fun cdv A outer s H vs Q E hr h => ?_)
  · obtain ⟨a, rw_, rs, lo, wa, k, e, p, x, rfl, _⟩ := h
    rfl
  · obtain ⟨a, rw_, rs, lo, wa, kn, e, p, x, rfl, KA, ⟨ar, hr1, pr⟩, hlo, hwa, k⟩ := h
    refine ⟨_, (pss_cons (ps_if (PW.pt (pw_or (pt_cmpR op_gt (pv 3) (pe_callB call_len_seq (by rfl) T.len PySem.boot_len (pa_cons (pv 1) pa_nil)) (nomark _)) (pw_or1 (PW.pt (pw_and (pt_cmpR op_gt (pv 3) pe_int (nomark _)) (pw_and1 (pt_cmpR op_ne (pe_ix ix_tup (pe_ix ix_list (pv 1) (pe_op op_sub (pv 3) pe_int) (fun _ _ => rfl)) pe_int (fun _ _ => rfl)) (pv 2) (nomark _))))))))
        (pss_one ps_retN)
        pss_nil)
      (Evl.pss_cut (ps_if (PW.pt (pw_or (pt_cmpR op_eq (pv 3) (pe_callB call_len_seq (by rfl) T.len PySem.boot_len (pa_cons (pv 1) pa_nil)) (nomark _)) (pw_or1 (pt_cmpR (op_neD hr.units) (pe_ix ix_list (pv 1) (pv 3) (fun _ _ => rfl)) (pe_tup (pa_cons (pv 2) (pa_cons (pv 4) pa_nil))) (nomark _)))))
        (pss_one (ps_expr (pe_calM (pv 0) T.cl c_Keeper_note (hr.mono (by decide)) (pa_cons (pe_tup (pa_cons pe_str (pa_cons (pv 2) (pa_cons (pv 3) (pa_cons (pv 4) pa_nil))))) pa_nil))))
        pss_nil)
      (pss_one (ps_expr (pe_calM (pv 0) T.cl c_Keeper_reply (hr.mono (by decide)) (pa_cons (pe_tup (pa_cons pe_str (pa_cons (pv 2) (pa_cons (pe_fld (pv 0) rfl) (pa_cons (pv 3) pa_nil))))) pa_nil)))))), ?_⟩
    have lenR : (ar.map V.ref).length = kn.row.length := TT.len pr
    have s0 : Same H H := fun _ _ z => z
    have ix : ∀ {n : Nat} {q : Int × Int}, kn.row[n]? = some q → ∃ b, (ar.map V.ref)[n]? = some (.ref b) ∧ PairAt H b q := fun {n q} hq => by
      obtain ⟨b, hb, pb⟩ := Paired.ix pr hq
      exact ⟨b, by rw [List.getElem?_map, hb]; rfl, pb⟩
    refine tIfS_of (b := kn.bars e p) (fun Kk kk => ?_) fun H0 s0 => ?_
    · refine ⟨_, rfl, _, rfl, rw_, _, rfl, .inl (SqL.of hr1), _, _, rfl, rfl, _, rfl, ?_⟩
      rw [lenR]
      unfold Kn.bars at kk
      refine ite2 (fun h => ?_) (fun h => ?_)
      · have h : (kn.row.length : Int) < (p : Int) := of_decide_eq_true h
        rw [decide_eq_true (by omega : kn.row.length < p)] at kk
        exact kk H s0
      · have h : ¬ (kn.row.length : Int) < (p : Int) := fun z => h (decide_eq_true z)
        rw [decide_eq_false (by omega : ¬ kn.row.length < p)] at kk
        refine ⟨_, rfl, _, _, rfl, rfl, _, rfl, ?_⟩
        refine ite2 (fun h2 => ?_) (fun h2 => ?_)
        · have h2 : (0 : Int) < (p : Int) := of_decide_eq_true h2
          rw [decide_eq_true (by omega : 0 < p)] at kk
          have hp1 : p - 1 < kn.row.length := by omega
          obtain ⟨b, hb, pb⟩ := ix (List.getElem?_eq_getElem hp1)
          refine ⟨_, rfl, _, rfl, _, _, rfl, rfl, rw_, _, _, _, rfl, rfl, SqL.of hr1, atN (j := p - 1) (by omega) hb, b, _, 0, .int (kn.row[p - 1]).1, rfl, rfl, SqT.of pb, rfl, _, rfl, ?_⟩
          have eb : (kn.row[p - 1]?.map (·.1)) = some (kn.row[p - 1]).1 := by rw [List.getElem?_eq_getElem hp1]; rfl
          rw [eb] at kk
          have ec : (!decide (V.int (kn.row[p - 1]).1 = V.int e)) = (!decide (some (kn.row[p - 1]).1 = some e)) := by
            congr 1
            exact decide_eq_decide.mpr ⟨fun z => by cases z; rfl, fun z => by cases z; rfl⟩
          refine ⟨rfl, _, rfl, ?_⟩
          first | exact kk H s0 | (rw [ec]; exact kk H s0)
        · have h2 : ¬ (0 : Int) < (p : Int) := fun z => h2 (decide_eq_true z)
          rw [decide_eq_false (by omega : ¬ 0 < p)] at kk
          exact kk H s0
    · have out : kn.bars e p = true → Q .non H0 := fun hb => k H0 (by rw [if_pos hb, if_pos hb]; show KeAt CK H0 a rs (lo ++ []) (wa ++ []); rw [List.append_nil, List.append_nil]; exact KA.same s0) (Kp.same s0) (Tp.same s0)
      refine ite2 (fun hb => out hb) (fun hb => ?_)
      have hb : kn.bars e p = false := by simpa using hb
      rw [hb] at k
      have KA0 := KA.same s0
      have hr0 := s0 _ _ hr1
      have hpl : p ≤ kn.row.length := by
        unfold Kn.bars at hb
        simp only [Bool.or_eq_false_iff, decide_eq_false_iff_not] at hb
        omega
      refine ⟨fun σ' H' => σ' = [some (.ref a), some (.ref rw_), some (.int e), some (.int p), some (.int x)] ∧ KeAt CK H' a rs (lo ++ oList (if kn.isNew e p x then some (.take e p x) else none)) wa ∧ Kp [a] H H' ∧ Tp H H', ?_, ?_⟩
      · refine tIfS_of (b := kn.isNew e p x) (fun Kk kk => ?_) fun H1 s1 => ?_
        · refine ⟨_, rfl, _, rfl, rw_, _, rfl, .inl (SqL.of hr0), rfl, _, rfl, ?_⟩
          rw [lenR]
          unfold Kn.isNew at kk
          refine ite2 (fun h => ?_) (fun h => ?_)
          · have h : V.int (p : Int) = V.int (kn.row.length : Int) := of_decide_eq_true h
            have h := V.int.inj h
            rw [decide_eq_true (by omega : p = kn.row.length)] at kk
            exact kk H0 (fun _ _ z => z)
          · have h : ¬ V.int (p : Int) = V.int (kn.row.length : Int) := fun z => h (decide_eq_true z)
            have np : p ≠ kn.row.length := fun z => h (by rw [z])
            rw [decide_eq_false np] at kk
            have hp1 : p < kn.row.length := by omega
            obtain ⟨b, hb, pb⟩ := ix (List.getElem?_eq_getElem hp1)
            refine ⟨_, rfl, _, rfl, rw_, _, _, _, rfl, rfl, SqL.of hr0, atN (j := p) rfl hb, _, rfl, _, rfl, (by show 2 ≤ sizeLine; decide), fun u hu => ?_⟩
            have s2 : Same H0 (upd H0 u (.tup [.int e, .int x])) := Same.new hu
            refine ⟨_, _, pairD (pairStay (Tp.same (Same.tr s0 s2)) pb), pairD (p := (e, x)) (show PairAt _ u (e, x) from upd_same), pairOk.shaped, pairOk.shaped, _, rfl, ?_⟩
            rw [eqv_tup2]
            rw [List.getElem?_eq_getElem hp1] at kk
            have ec : decide (((kn.row[p]).1, (kn.row[p]).2) = ((e, x).1, (e, x).2)) = decide (some kn.row[p] = some (e, x)) := decide_eq_decide.mpr ⟨fun z => by rw [show kn.row[p] = (e, x) from z], fun z => Option.some.inj z⟩
            rw [ec]
            exact kk _ s2
        · have KA1 := KA0.same s1
          have s01 := Same.tr s0 s1
          refine ite2 (fun hn => ?_) (fun hn => ?_)
          · obtain ⟨dx, r, l, w, ha, h1, h2, h3⟩ := id KA1
            refine ⟨_, rfl, a, dx, _, rfl, ha, rfl, _, rfl, _, rfl, _, rfl, (by show 4 ≤ sizeLine; decide), fun u hu => ?_⟩
            refine ⟨a, u, rs, lo, wa, .take e p x, rfl, KA1.same (Same.new hu), upd_same, hlo, fun H2 K2 k2 t2 => ⟨rfl, ?_, (Kp.same (Same.tr s01 (Same.new hu))).trans k2, (Tp.same (Same.tr s01 (Same.new hu))).trans t2⟩⟩
            rw [if_pos hn]
            exact K2
          · refine ⟨rfl, ?_, Kp.same s01, Tp.same s01⟩
            rw [if_neg hn]
            show KeAt CK H1 a rs (lo ++ []) wa
            rw [List.append_nil]
            exact KA1
      · rintro σ' H2 ⟨rfl, K2, k2, t2⟩
        obtain ⟨dx, r, l, w, ha, h1, h2, h3⟩ := id K2
        refine ⟨_, rfl, a, dx, _, rfl, ha, rfl, _, rfl, _, rfl, a, CK, dx, _, _, rfl, ha, T.cl, T.nNum, rfl, _, rfl, (by show 4 ≤ sizeLine; decide), fun u hu => ?_⟩
        refine ⟨a, u, rs, _, wa, .taken e p, rfl, K2.same (Same.new hu), upd_same, hwa, fun H3 K3 k3 t3 => k H3 K3 ((k2.trans (Kp.same (Same.new hu))).trans k3) ((t2.trans (Tp.same (Same.new hu))).trans t3)⟩
end
end Mc
namespace Mc
open PySem L2 PySem.Spec PyProof.Rows
section
variable {P : Program} {w : World} {K : PySem.W.Frag} {mg : Str → Option Value} {base : Heap} {CK CN : Addr}
theorem scHd : FnScope ["self", "letter", "word", "epoch", "known"] ["self", "letter"] (defScope sKeHandle) := ⟨rfl, rfl, rfl, by decide +kernel, rfl, by decide +kernel, by decide +kernel⟩
theorem ltr01 (l : Ltr) : (LtrV l)[0]? = some (.str (match l with | .ask _ => "ask" | .write .. => "write")) ∧ (LtrV l)[1]? = some (.int l.ep) := by cases l <;> exact ⟨rfl, rfl⟩
theorem ok_hd {f : Addr} {fd : FuncData} (F : Fun K "handle" "Keeper.handle" sKeHandle f fd) (T : TxK K mg CK CN) (c_Keeper_kept : CalM P w K mg base CK 3 "kept" ["self"] (spKept CK CN))
    (c_Keeper_note : CalM P w K mg base CK 1 "note" ["self", "record"] (spNote CK)) (c_Keeper_reply : CalM P w K mg base CK 1 "reply" ["self", "told"] (spReply CK)) (c_Keeper_take : CalM P w K mg base CK 2 "take" ["self", "row", "epoch", "place", "entry"] (spTk CK)) :
    FnOk P w K mg base CX0 4 f fd ["self", "letter"] (spHd CK) := by
  refine F.ok scHd (fun vs H Q E h => ?_) (fun cdv A outer s H vs Q E hr h => ?_)
  · obtain ⟨a, la, rs, lo, wa, l, rfl, _⟩ := h
    rfl
  · obtain ⟨a, la, rs, lo, wa, l, rfl, KA, hl, wf, hln, hwa, k⟩ := h
    refine ⟨_, (pss_cons (ps_par (i := 2) (j := 3) rfl scHd.nd rfl rfl (by decide) rfl rfl (pa_cons (pe_ix ix_tup (pv 1) pe_int (fun _ _ => rfl)) (pa_cons (pe_ix ix_tup (pv 1) pe_int (fun _ _ => rfl)) pa_nil)) (by rfl))
      (pss_cons (ps_set (i := 4) scHd.nd rfl (Or.inl rfl) (pe_calM0 (pv 0) T.cl c_Keeper_kept (hr.mono (by decide))))
      (pss_one (ps_if (pt_cmpR op_lt (pv 3) (pe_fld (pv 4) rfl) (nomark _))
        (pss_one (ps_expr (pe_calM (pv 0) T.cl c_Keeper_reply (hr.mono (by decide)) (pa_cons (pe_tup (pa_cons pe_str (pa_cons (pv 3) (pa_cons (pe_fld (pv 0) rfl) (pa_cons (pe_fld (pv 4) rfl) pa_nil))))) pa_nil))))
        (pss_one (ps_if (pt_cmpR op_eq (pv 2) pe_str (nomark _))
          (Evl.pss_cut (ps_if (pt_cmpR op_gt (pv 3) (pe_fld (pv 4) rfl) (nomark _))
            (pss_one (ps_expr (pe_calM (pv 0) T.cl c_Keeper_note (hr.mono (by decide)) (pa_cons (pe_tup (pa_cons pe_str (pa_cons (pv 3) pa_nil))) pa_nil))))
            pss_nil)
          (pss_one (ps_expr (pe_calM (pv 0) T.cl c_Keeper_reply (hr.mono (by decide)) (pa_cons (pe_tup (pa_cons pe_str (pa_cons (pv 3) (pa_cons (pe_fld (pv 0) rfl) (pa_cons (pe_tupleOf (by rfl) T.tuple (pe_fld (pv 4) rfl)) pa_nil))))) pa_nil)))))
          (pss_one (ps_expr (pe_calM (pv 0) T.cl c_Keeper_take (hr.mono (by decide)) (pa_cons (pe_fld (pv 4) rfl) (pa_cons (pv 3) (pa_cons (pe_ix ix_tup (pv 1) pe_int (fun _ _ => rfl)) (pa_cons (pe_ix ix_tup (pv 1) pe_int (fun _ _ => rfl)) pa_nil))))))))))))), ?_⟩
    obtain ⟨l0, l1⟩ := ltr01 l
    have hl' : H la = some (.tup (LtrV l)) := hl
    obtain ⟨dx, r, lo', w', ha, e1, e2, e3⟩ := id KA
    refine ⟨_, rfl, la, _, 0, _, rfl, rfl, SqT.of hl', atN (j := 0) rfl l0, _, rfl, la, _, 1, _, rfl, rfl, SqT.of hl', atN (j := 1) rfl l1, _, _, rfl, ?_⟩
    refine ⟨_, rfl, a, dx, _, rfl, ha, rfl, a, rs, lo, wa, rfl, KA, wf, Nat.le_trans hln (by decide), fun kn H1 hkn s1 KN => ?_⟩
    have KA1 := KA.same s1
    generalize ek : Kn.new.all (rs ++ lo) = kd at KN k
    have hlen : kd.row.length ≤ 490 := by
      rw [← ek]
      have := Kn.all_len wf
      have z : Kn.new.row.length = 0 := rfl
      omega
    rw [List.length_append] at hln
    obtain ⟨dn, ln, hn, ar, hrow, pr⟩ := id KN
    obtain ⟨dx1, r1, lo1, w1, ha1, _, _, _⟩ := id KA1
    refine ⟨_, rfl, _, rfl, kn, CN, dn, _, _, rfl, hn, T.clN, T.nEp, rfl, _, _, rfl, rfl, _, rfl, ?_⟩
    refine ite2 (fun h => ?_) (fun h => ?_)
    · have h : l.ep < kd.ep := of_decide_eq_true h
      have er : kd.recOf l = none := by cases l <;> exact if_pos h
      have ea : kd.ansOf l = some (.refused l.ep kd.ep) := by cases l <;> exact if_pos h
      refine ⟨_, rfl, a, dx1, _, rfl, ha1, rfl, _, rfl, _, rfl, a, CK, dx1, _, _, rfl, ha1, T.cl, T.nNum, rfl, _, rfl, kn, CN, dn, _, _, rfl, hn, T.clN, T.nEp, rfl, (by show 4 ≤ sizeLine; decide), fun u hu => ?_⟩
      refine ⟨a, u, rs, lo, wa, .refused l.ep kd.ep, rfl, KA1.same (Same.new hu), upd_same, Nat.le_trans hwa (by decide), fun H2 K2 k2 t2 => k H2 ?_ ((Kp.same (Same.tr s1 (Same.new hu))).trans k2) ((Tp.same (Same.tr s1 (Same.new hu))).trans t2)⟩
      rw [er, ea]
      show KeAt CK H2 a rs (lo ++ []) _
      rw [List.append_nil]
      exact K2
    have h : ¬ l.ep < kd.ep := fun z => h (decide_eq_true z)
    cases l with
    | ask e =>
      refine ⟨_, rfl, rfl, _, rfl, ?_⟩
      refine ite2 (fun _ => ?_) (fun h => absurd (decide_eq_true rfl) h)
      have h : ¬ e < kd.ep := h
      have er : kd.recOf (.ask e) = if e > kd.ep then some (.prom e) else none := if_neg h
      have ea : kd.ansOf (.ask e) = some (.told e kd.row) := if_neg h
      rw [er, ea] at k
      refine ⟨fun σ' H' => σ' = [some (.ref a), some (.ref la), some (.str "ask"), some (.int e), some (.ref kn)] ∧ KeAt CK H' a rs (lo ++ oList (if e > kd.ep then some (.prom e) else none)) wa ∧ Kp [a] H H' ∧ Tp H H' ∧ H' kn = some (.ins CN dn [("epoch", .int kd.ep), ("row", .ref ln)]) ∧ H' ln = some (.lst (ar.map V.ref)) ∧ Paired (PairAt H') ar kd.row, ?_, ?_⟩
      · refine ⟨_, rfl, _, rfl, kn, CN, dn, _, _, rfl, hn, T.clN, T.nEp, rfl, _, _, rfl, rfl, _, rfl, ?_⟩
        refine ite2 (fun h2 => ?_) (fun h2 => ?_)
        · have h2 : kd.ep < e := of_decide_eq_true h2
          refine ⟨_, rfl, a, dx1, _, rfl, ha1, rfl, _, rfl, (by show 2 ≤ sizeLine; decide), fun u hu => ?_⟩
          have s2 := Same.tr s1 (Same.new (o := .tup [.str "promise", .int e]) hu)
          have nka : kn ≠ a := (ne_of_none ha hkn).symm
          refine ⟨a, u, rs, lo, wa, .prom e, rfl, KA1.same (Same.new hu), upd_same, by omega, fun H2 K2 k2 t2 => ⟨rfl, ?_, (Kp.same s2).trans k2, (Tp.same s2).trans t2, ?_, ?_, ?_⟩⟩
          · rw [if_pos h2]; exact K2
          · exact k2 _ _ (Same.new hu _ _ hn) (by simp [nka])
          · refine k2 _ _ (Same.new hu _ _ hrow) (by simp; exact ne_of hrow ha1 (by intro z; cases z))
          · exact Paired.mapP pr fun x y => pairStay ((Tp.same (Same.new hu)).trans t2)
        · have h2 : ¬ e > kd.ep := fun z => h2 (decide_eq_true z)
          refine ⟨rfl, ?_, Kp.same s1, Tp.same s1, hn, hrow, pr⟩
          rw [if_neg h2]
          show KeAt CK H1 a rs (lo ++ []) wa
          rw [List.append_nil]
          exact KA1
      · rintro σ' H2 ⟨rfl, K2, k2, t2, hn2, hrow2, pr2⟩
        obtain ⟨dx2, r2, lo2, w2, ha2, _, _, _⟩ := id K2
        refine ⟨_, rfl, a, dx2, _, rfl, ha2, rfl, _, rfl, _, rfl, a, CK, dx2, _, _, rfl, ha2, T.cl, T.nNum, rfl, _, rfl, kn, CN, dn, _, _, rfl, hn2, T.clN, T.nRow, rfl, .inl ⟨ln, _, rfl, SqL.of hrow2, fun q hq => ?_⟩⟩
        refine ⟨(by show 4 ≤ sizeLine; decide), fun u hu => ?_⟩
        have s3 : Same H2 (upd (upd H2 q (.tup (ar.map V.ref))) u (.tup [.str "told", .int e, .int 2, .ref q])) := Same.tr (Same.new hq) (Same.new hu)
        have nqu : q ≠ u := ne_of_none upd_same hu
        refine ⟨a, u, rs, _, wa, .told e kd.row, rfl, K2.same s3, ⟨q, upd_same, ar, by rw [upd_ne nqu, upd_same], Paired.mapP pr2 fun x y => pairStay (Tp.same s3)⟩, Nat.le_trans hwa (by decide), fun H3 K3 k3 t3 => k H3 K3 ((k2.trans (Kp.same s3)).trans k3) ((t2.trans (Tp.same s3)).trans t3)⟩
    | write e p x =>
      refine ⟨_, rfl, rfl, _, rfl, ?_⟩
      refine ite2 (fun h => absurd (of_decide_eq_true h) (by show ¬ (V.str "write" = V.str "ask"); decide)) (fun _ => ?_)
      have h : ¬ e < kd.ep := h
      have er : kd.recOf (.write e p x) = if kd.bars e p then none else if kd.isNew e p x then some (.take e p x) else none := if_neg h
      have ea : kd.ansOf (.write e p x) = if kd.bars e p then none else some (.taken e p) := if_neg h
      rw [er, ea] at k
      have hl1 := s1 _ _ hl'
      refine ⟨_, rfl, a, dx1, _, rfl, ha1, rfl, _, rfl, kn, CN, dn, _, _, rfl, hn, T.clN, T.nRow, rfl, _, rfl, _, rfl, la, _, 3, _, rfl, rfl, SqT.of hl1, rfl, _, rfl, la, _, 4, _, rfl, rfl, SqT.of hl1, rfl, ?_⟩
      exact ⟨a, ln, rs, lo, wa, kd, e, p, x, rfl, KA1, ⟨ar, hrow, pr⟩, by omega, by omega, fun H2 K2 k2 t2 => k H2 K2 ((Kp.same s1).trans k2) ((Tp.same s1).trans t2)⟩
end
end Mc
namespace Mc
open PySem L2 PySem.Spec PyProof.Rows
/-! ### the law's own row -/
abbrev sCome : Stmt := top 12
abbrev sLrow : Stmt := top 13
abbrev sMost : Stmt := top 8
def stK (k : Kn) (l : Addr) : List (L2.Key × V) := [(Sum.inr "epoch", .int k.ep), (Sum.inr "row", .ref l)]
def StAt (H : Hp) (d : Addr) (k : Kn) : Prop := ∃ l, H d = some (.dK (stK k l)) ∧ LL PairAt H l k.row
theorem StAt.same {H H' : Hp} {d : Addr} {k : Kn} (x : StAt H d k) (s : Same H H') : StAt H' d k := by
  obtain ⟨l, e, r⟩ := x
  exact ⟨l, s _ _ e, r.same pairStay s⟩
def Opt (F : Hp → Addr → α → Prop) (H : Hp) (v : V) : Option α → Prop
  | none => v = .non
  | some x => ∃ a, v = .ref a ∧ F H a x
theorem Opt.stay {α : Type} {F : Hp → Addr → α → Prop} {H H' : Hp} {v : V} {o : Option α} (hF : Stay F) (h : Tp H H') (x : Opt F H v o) : Opt F H' v o := by
  cases o with
  | none => exact x
  | some y =>
    obtain ⟨a, e, z⟩ := x
    exact ⟨a, e, hF h z⟩
structure TxL (mg : Str → Option Value) : Prop where
  len : mg "len" = none
  tuple : mg "tuple" = none
  max : mg "max" = none
  range : mg "range" = none
def spLrow : Sp := fun vs H Q _ => ∃ (t : Addr) (rs : List Rec), vs = [.ref t] ∧ LL RecAt H t rs ∧ Kn.new.wf rs ∧ rs.length ≤ 500 ∧ ∀ (p : Addr) (H' : Hp), H p = none → Same H H' → StAt H' p (Kn.new.all rs) → Q (.ref p) H'
def spCome : Sp := fun vs H Q _ => ∃ (d la : Addr) (k : Kn) (l : Ltr), vs = [.ref d, .ref la] ∧ StAt H d k ∧ LtrAt H la l ∧ k.row.length ≤ 490 ∧
  ∀ (t : Addr) (rv av : V) (H' : Hp), H' t = some (.tup [rv, av]) → Opt RecAt H' rv (k.recOf l) → Opt AnsAt H' av (k.ansOf l) → StAt H' d (k.all (oList (k.recOf l))) → Kp [d] H H' → Tp H H' → Q (.ref t) H'
section
variable {P : Program} {w : World} {K : PySem.W.Frag} {mg : Str → Option Value} {base : Heap}
theorem scLrow : FnScope ["records", "state", "record"] ["records"] (defScope sLrow) := ⟨rfl, rfl, rfl, by decide +kernel, rfl, by decide +kernel, by decide +kernel⟩
theorem getE {H : Hp} {d : Addr} {k : Kn} {l : Addr} (h : H d = some (.dK (stK k l))) : DGet H d (.str "epoch") (some (.int k.ep)) := DGet.k (k := Sum.inr "epoch") h
theorem getR {H : Hp} {d : Addr} {k : Kn} {l : Addr} (h : H d = some (.dK (stK k l))) : DGet H d (.str "row") (some (.ref l)) := DGet.k (k := Sum.inr "row") h
theorem putE {H : Hp} {d : Addr} {k : Kn} {l : Addr} (e : Int) (h : H d = some (.dK (stK k l))) : DPut H d (.str "epoch") (.int e) (upd H d (.dK (stK ⟨e, k.row⟩ l))) := DPut.k (k := Sum.inr "epoch") h (by show 2 < sizeLine; decide)
theorem putR {H : Hp} {d : Addr} {k : Kn} {l : Addr} (l' : Addr) (h : H d = some (.dK (stK k l))) : DPut H d (.str "row") (.ref l') (upd H d (.dK (stK k l'))) := DPut.k (k := Sum.inr "row") h (by show 2 < sizeLine; decide)
/-- row[:p] + [(e, x)] + row[p + 1:] -/
theorem splice {H : Hp} {b : Addr} {ar : List Addr} {row : List (Int × Int)} {e x : Int} {p : Nat} (pr : Paired (PairAt H) ar row) (pb : PairAt H b (e, x)) : Paired (PairAt H) (ar.take p ++ [b] ++ ar.drop (p + 1)) (row.take p ++ [(e, x)] ++ row.drop (p + 1)) :=
  Paired.app (Paired.app (Paired.tk p pr) (.cons pb .nil)) (Paired.dr (p + 1) pr)
theorem cut_drop (xs : List V) (n : Nat) (h : n ≤ xs.length) : cutV xs (some (n : Int)) none = xs.drop n := by
  unfold cutV
  rw [HT.sIx_none, HT.sIx_nat, Nat.min_eq_left h, List.take_of_length_le (by rw [List.length_drop]; exact Nat.le_refl _)]
theorem cut_drop' (xs : List V) (n : Nat) : cutV xs (some (n : Int)) none = xs.drop n := by
  by_cases h : n ≤ xs.length
  · exact cut_drop xs n h
  · unfold cutV
    rw [HT.sIx_none, HT.sIx_nat, Nat.min_eq_right (by omega), List.drop_of_length_le (by omega), List.drop_of_length_le (by omega), List.take_nil]
theorem ok_lrow {f : Addr} {fd : FuncData} (F : Fun K "_law_row" "_law_row" sLrow f fd) (T : TxL mg) : FnOk P w K mg base CX0 1 f fd ["records"] spLrow := by
  refine F.ok scLrow (fun vs H Q E h => ?_) (fun cdv A outer s H vs Q E hr h => ?_)
  · obtain ⟨t, rs, rfl, _⟩ := h
    rfl
  · obtain ⟨t, rs, rfl, ⟨as, ht, hP⟩, wf, hl, k⟩ := h
    have hu := hu_of hr
    refine ⟨_, (pss_cons (ps_set (i := 1) scLrow.nd rfl (Or.inl rfl) (pe_disp (pps_cons pe_str (pe_un un_neg pe_int) (pps_cons pe_str (pe_lst pa_nil) pps_nil)) (by rfl) (by rfl) (fun z => by cases z) (by decide)))
      (pss_cons (ps_for PassesOwn.never rfl (pi_list (pv 0)) (pg_name (i := 2) scLrow.nd rfl (Or.inl rfl))
        (pss_cons (ps_dput hu (pv 1) pe_str (pe_callB (call_max2 rfl) (by rfl) T.max boot_max (pa_cons (pe_dget hu (pv 1) pe_str (fun _ _ => rfl)) (pa_cons (pe_ix ix_tup (pv 2) pe_int (fun _ _ => rfl)) pa_nil))) rfl)
        (pss_one (ps_if (pt_cmpR op_eq (pe_ix ix_tup (pv 2) pe_int (fun _ _ => rfl)) pe_str (nomark _))
          (pss_one (ps_dput hu (pv 1) pe_str (pe_op op_cat (pe_op op_cat (pe_slice sl_list (pe_dget hu (pv 1) pe_str (fun _ _ => rfl)) po_none (po_some (pe_ix ix_tup (pv 2) pe_int (fun _ _ => rfl)))) (pe_lst (pa_cons (pe_tup (pa_cons (pe_ix ix_tup (pv 2) pe_int (fun _ _ => rfl)) (pa_cons (pe_ix ix_tup (pv 2) pe_int (fun _ _ => rfl)) pa_nil))) pa_nil))) (pe_slice sl_list (pe_dget hu (pv 1) pe_str (fun _ _ => rfl)) (po_some (pe_op op_add (pe_ix ix_tup (pv 2) pe_int (fun _ _ => rfl)) pe_int)) po_none)) rfl))
          pss_nil))))
      (pss_one (ps_ret (pv 1))))), ?_⟩
    intro d hd
    refine ⟨_, rfl, Nat.zero_le _, fun L hL => ?_⟩
    have ndL : d ≠ L := ne_of_none upd_same hL
    have hL0 : H L = none := by rw [upd_ne ndL.symm] at hL; exact hL
    refine ⟨by rw [upd_ne ndL]; exact upd_same, stK Kn.new L, rfl, (by show 2 ≤ 15; decide), ?_⟩
    have hm : (HO.dK (mergeK [] (stK Kn.new L))) = HO.dK (stK Kn.new L) := rfl
    rw [hm]
    have hsz : (as.map V.ref).length = rs.length := TT.len hP
    have sH : ∀ {o1 o2 o3}, Same H (upd (upd (upd H d o1) L o2) d o3) := fun {o1 o2 o3} b o z => by rw [upd_ne (ne_of_none z hd), upd_ne (ne_of_none z hL0), upd_ne (ne_of_none z hd)]; exact z
    refine ⟨_, rfl, t, rfl, ⟨_, SqL.of (sH _ _ ht)⟩, for_list (K := K) (a := t) (xs := as.map V.ref) (fun i σ H' => ∃ (o : Option V), σ = [some (.ref t), some (.ref d), o] ∧ Same H H' ∧ StAt H' d (Kn.new.all (rs.take i))) ?_ ?_ ?_ ?_⟩
    · exact ⟨none, rfl, sH, L, upd_same, [], by rw [upd_ne ndL.symm, upd_same]; rfl, .nil⟩
    · rintro i σ H' _ ⟨o, rfl, s1, _⟩
      exact SqL.of (s1 _ _ ht)
    · rintro i y σ H' hi ⟨o, rfl, s1, l, hd', ar, hl', pr⟩
      rw [List.getElem?_map] at hi
      obtain ⟨c, hc, rfl⟩ := Option.map_eq_some_iff.mp hi
      obtain ⟨x, hx, rx⟩ := Paired.ix' hP hc
      have rx' := s1 _ _ rx
      obtain ⟨okx, lenx⟩ := take_ok hx wf
      have hi' : i < rs.length := (List.getElem?_eq_some_iff.mp hx).1
      rw [take_all hx]
      generalize Kn.new.all (rs.take i) = kn at hd' pr okx lenx ⊢
      have z0 : (Kn.new).row.length = 0 := rfl
      have sd : ∀ {o'}, Same H (upd H' d o') := fun {o'} b u z => by rw [upd_ne (ne_of_none z hd)]; exact s1 _ _ z
      have td : ∀ {o'}, Tp H' (upd H' d o') := fun {o'} => Tp.at hd' fun xs z => by cases z
      have ncd : c ≠ d := ne_of rx' hd' (by intro z; cases z)
      have nld : l ≠ d := ne_of hl' hd' (by intro z; cases z)
      cases x with
      | prom e =>
        refine ⟨_, rfl, d, _, rfl, getE hd', _, rfl, c, RecV (.prom e), 1, .int e, rfl, rfl, SqT.of rx', rfl, kn.ep, e, rfl, _, rfl, d, _, rfl, putE _ hd', ?_⟩
        refine ⟨_, rfl, c, RecV (.prom e), 0, .str "promise", rfl, rfl, SqT.of (by rw [upd_ne ncd]; exact rx'), rfl, rfl, _, rfl, ?_⟩
        refine ite2 (fun h => absurd h (by decide)) (fun _ => ?_)
        exact ⟨_, rfl, sd, l, upd_same, ar, by rw [upd_ne nld]; exact hl', Paired.mapP pr fun a b => pairStay td⟩
      | take e p x =>
        refine ⟨_, rfl, d, _, rfl, getE hd', _, rfl, c, RecV (.take e p x), 1, .int e, rfl, rfl, SqT.of rx', rfl, kn.ep, e, rfl, _, rfl, d, _, rfl, putE _ hd', ?_⟩
        have g1 : upd H' d (.dK (stK ⟨if e > kn.ep then e else kn.ep, kn.row⟩ l)) d = some (.dK (stK ⟨if e > kn.ep then e else kn.ep, kn.row⟩ l)) := upd_same
        have g2 : upd H' d (.dK (stK ⟨if e > kn.ep then e else kn.ep, kn.row⟩ l)) l = some (.lst (ar.map V.ref)) := by rw [upd_ne nld]; exact hl'
        have g3 : Same H (upd H' d (.dK (stK ⟨if e > kn.ep then e else kn.ep, kn.row⟩ l))) := sd
        have g4 : Tp H' (upd H' d (.dK (stK ⟨if e > kn.ep then e else kn.ep, kn.row⟩ l))) := td
        generalize upd H' d (.dK (stK ⟨if e > kn.ep then e else kn.ep, kn.row⟩ l)) = H2 at g1 g2 g3 g4 ⊢
        have rx2 := g4 _ _ rx'
        have pr2 : Paired (PairAt H2) ar kn.row := Paired.mapP pr fun a b => pairStay g4
        refine ⟨_, rfl, c, RecV (.take e p x), 0, .str "take", rfl, rfl, SqT.of rx2, rfl, rfl, _, rfl, ?_⟩
        refine ite2 (fun _ => ?_) (fun h => absurd (by decide) h)
        have lenR : (ar.map V.ref).length = kn.row.length := TT.len pr
        refine ⟨_, rfl, d, _, rfl, getR g1, _, rfl, c, RecV (.take e p x), 2, .int p, rfl, rfl, SqT.of rx2, rfl, (p : Int), rfl, l, _, rfl, SqL.of g2, fun u hu => ?_⟩
        rw [cut_take _ _ (by rw [lenR]; exact okx)]
        have s3 : Same H2 (upd H2 u (.lst ((ar.map V.ref).take p))) := Same.new hu
        refine ⟨_, rfl, c, RecV (.take e p x), 1, .int e, rfl, rfl, SqT.of (s3 _ _ rx2), rfl, _, rfl, c, RecV (.take e p x), 3, .int x, rfl, rfl, SqT.of (s3 _ _ rx2), rfl, (by show 2 ≤ sizeLine; decide), fun b hb => ?_⟩
        refine ⟨(by show 1 ≤ sizeLine; decide), fun v hv => ?_⟩
        have hv0 : upd H2 u (.lst ((ar.map V.ref).take p)) v = none := by
          have nbv : b ≠ v := ne_of_none upd_same hv
          rw [upd_ne nbv.symm] at hv; exact hv
        have s4 := Same.tr s3 (Same.tr (Same.new (o := .tup [.int e, .int x]) hb) (Same.new (o := .lst [.ref b]) hv))
        have nuv : u ≠ v := ne_of_none upd_same hv0
        have nub : u ≠ b := ne_of_none upd_same hb
        have nbv : b ≠ v := ne_of_none upd_same hv
        have szr : ∀ n, n ≤ kn.row.length + 1 → n ≤ sizeLine := fun n hn => Nat.le_of_lt (small1000 (by omega))
        refine ⟨u, v, _, _, rfl, rfl, by rw [upd_ne nuv, upd_ne nub, upd_same], upd_same, by rw [List.length_take, lenR]; exact szr _ (by show min p kn.row.length + 1 ≤ _; omega), fun y hy => ?_⟩
        have s5 := Same.tr s4 (Same.new (o := .lst ((ar.map V.ref).take p ++ [.ref b])) hy)
        refine ⟨_, rfl, d, _, rfl, (getR (s5 _ _ g1) : DGet _ d (.str "row") _), _, rfl, c, RecV (.take e p x), 2, .int p, rfl, rfl, SqT.of (s5 _ _ rx2), rfl, _, _, rfl, rfl, (p : Int) + 1, rfl, l, _, rfl, SqL.of (s5 _ _ g2), fun q hq => ?_⟩
        rw [show ((p : Int) + 1) = ((p + 1 : Nat) : Int) by push_cast; rfl, cut_drop']
        have nyq : y ≠ q := ne_of_none upd_same hq
        have s6 := Same.tr s5 (Same.new (o := .lst ((ar.map V.ref).drop (p + 1))) hq)
        refine ⟨y, q, _, _, rfl, rfl, by rw [upd_ne nyq, upd_same], upd_same, by rw [List.length_append, List.length_take, List.length_drop, lenR]; exact szr _ (by show min p kn.row.length + 1 + (kn.row.length - (p + 1)) ≤ _; omega), fun m hm => ?_⟩
        have s7 := Same.tr s6 (Same.new (o := .lst ((ar.map V.ref).take p ++ [.ref b] ++ (ar.map V.ref).drop (p + 1))) hm)
        refine ⟨_, rfl, d, _, rfl, putR m (s7 _ _ g1), ?_⟩
        have t8 : ∀ {H9 : Hp} {o'}, H9 d = some (.dK (stK ⟨if e > kn.ep then e else kn.ep, kn.row⟩ l)) → Tp H9 (upd H9 d o') := fun {H9 o'} z => Tp.at z fun xs z => by cases z
        have pb : PairAt (upd (upd H2 u (.lst ((ar.map V.ref).take p))) b (.tup [.int e, .int x])) b (e, x) := upd_same
        refine ⟨_, rfl, fun z o hz => ?_, m, upd_same, ar.take p ++ [b] ++ ar.drop (p + 1), ?_, splice (Paired.mapP pr2 fun a b => pairStay ((Tp.same s7).trans (t8 (s7 _ _ g1)))) (pairStay (((Tp.same (Same.tr (Same.new hv) (Same.tr (Same.new hy) (Same.tr (Same.new hq) (Same.new hm))))).trans (t8 (s7 _ _ g1)))) pb)⟩
        · rw [upd_ne (ne_of_none hz hd)]; exact s7 _ _ (g3 _ _ hz)
        · have nmd : m ≠ d := (ne_of_none (s6 _ _ g1) hm).symm
          rw [upd_ne nmd, upd_same, List.map_append, List.map_append, List.map_take, List.map_drop]; rfl
    · rintro σ H' ⟨o, rfl, s1, st⟩
      rw [hsz, List.take_length] at st
      exact ⟨_, rfl, k d H' hd s1 st⟩
end
end Mc
namespace Mc
open PySem L2 PySem.Spec PyProof.Rows
section
variable {P : Program} {w : World} {K : PySem.W.Frag} {mg : Str → Option Value} {base : Heap}
theorem scCome : FnScope ["state", "letter", "epoch", "record", "answer", "place", "entry"] ["state", "letter"] (defScope sCome) := ⟨rfl, rfl, rfl, by decide +kernel, rfl, by decide +kernel, by decide +kernel⟩
theorem Tp.lst {H : Hp} {a : Addr} {xs : List V} {o' : HO} (h : H a = some (.lst xs)) : Tp H (upd H a o') := Tp.at h fun _ z => by cases z
theorem Tp.dK {H : Hp} {a : Addr} {kv : List (L2.Key × V)} {o' : HO} (h : H a = some (.dK kv)) : Tp H (upd H a o') := Tp.at h fun _ z => by cases z
theorem ok_come {f : Addr} {fd : FuncData} (F : Fun K "_law_come" "_law_come" sCome f fd) (T : TxL mg) : FnOk P w K mg base CX0 1 f fd ["state", "letter"] spCome := by
  refine F.ok scCome (fun vs H Q E h => ?_) (fun cdv A outer s H vs Q E hr h => ?_)
  · obtain ⟨d, la, k, l, rfl, _⟩ := h
    rfl
  · obtain ⟨d, la, k, l, rfl, ⟨L, hd, ar, hL, pr⟩, hl, hlen, q⟩ := h
    have hu := hu_of hr
    refine ⟨_, (pss_cons (ps_set (i := 2) scCome.nd rfl (Or.inl rfl) (pe_ix ix_tup (pv 1) pe_int (fun _ _ => rfl)))
      (pss_cons (ps_if (pt_cmpR op_lt (pv 2) (pe_dget hu (pv 0) pe_str (fun _ _ => rfl)) (nomark _))
        (pss_one (ps_ret (pe_tup (pa_cons pe_non (pa_cons (pe_tup (pa_cons pe_str (pa_cons (pv 2) (pa_cons pe_int (pa_cons (pe_dget hu (pv 0) pe_str (fun _ _ => rfl)) pa_nil))))) pa_nil)))))
        pss_nil)
      (pss_cons (ps_if (pt_cmpR op_eq (pe_ix ix_tup (pv 1) pe_int (fun _ _ => rfl)) pe_str (nomark _))
        (Evl.pss_cut (ps_set (i := 3) scCome.nd rfl (Or.inl rfl) (pe_ifExp (pt_cmpR op_gt (pv 2) (pe_dget hu (pv 0) pe_str (fun _ _ => rfl)) (nomark _)) (pe_tup (pa_cons pe_str (pa_cons (pv 2) pa_nil))) pe_non))
        (pss_cons (ps_set (i := 4) scCome.nd rfl (Or.inl rfl) (pe_tup (pa_cons pe_str (pa_cons (pv 2) (pa_cons pe_int (pa_cons (pe_tupleOf (by rfl) T.tuple (pe_dget hu (pv 0) pe_str (fun _ _ => rfl))) pa_nil))))))
        (pss_cons (ps_dput hu (pv 0) pe_str (pv 2) rfl)
        (pss_one (ps_ret (pe_tup (pa_cons (pv 3) (pa_cons (pv 4) pa_nil))))))))
        pss_nil)
      (pss_cons (ps_par (i := 5) (j := 6) rfl scCome.nd rfl rfl (by decide) rfl rfl (pa_cons (pe_ix ix_tup (pv 1) pe_int (fun _ _ => rfl)) (pa_cons (pe_ix ix_tup (pv 1) pe_int (fun _ _ => rfl)) pa_nil)) (by rfl))
      (pss_cons (ps_if (PW.pt (pw_or (pt_cmpR op_gt (pv 5) (pe_callB call_len_seq (by rfl) T.len PySem.boot_len (pa_cons (pe_dget hu (pv 0) pe_str (fun _ _ => rfl)) pa_nil)) (nomark _)) (pw_or1 (PW.pt (pw_and (pt_cmpR op_gt (pv 5) pe_int (nomark _)) (pw_and1 (pt_cmpR op_ne (pe_ix ix_tup (pe_ix ix_list (pe_dget hu (pv 0) pe_str (fun _ _ => rfl)) (pe_op op_sub (pv 5) pe_int) (fun _ _ => rfl)) pe_int (fun _ _ => rfl)) (pv 2) (nomark _))))))))
        (pss_one (ps_ret (pe_tup (pa_cons pe_non (pa_cons pe_non pa_nil)))))
        pss_nil)
      (pss_cons (ps_set (i := 3) scCome.nd rfl (Or.inl rfl) pe_non)
      (Evl.pss_cut (ps_if (PW.pt (pw_or (pt_cmpR op_eq (pv 5) (pe_callB call_len_seq (by rfl) T.len PySem.boot_len (pa_cons (pe_dget hu (pv 0) pe_str (fun _ _ => rfl)) pa_nil)) (nomark _)) (pw_or1 (pt_cmpR (op_neD hr.units) (pe_ix ix_list (pe_dget hu (pv 0) pe_str (fun _ _ => rfl)) (pv 5) (fun _ _ => rfl)) (pe_tup (pa_cons (pv 2) (pa_cons (pv 6) pa_nil))) (nomark _)))))
        (pss_cons (ps_set (i := 3) scCome.nd rfl (Or.inl rfl) (pe_tup (pa_cons pe_str (pa_cons (pv 2) (pa_cons (pv 5) (pa_cons (pv 6) pa_nil))))))
        (pss_cons (ps_dput hu (pv 0) pe_str (pe_op op_cat (pe_op op_cat (pe_slice sl_list (pe_dget hu (pv 0) pe_str (fun _ _ => rfl)) po_none (po_some (pv 5))) (pe_lst (pa_cons (pe_tup (pa_cons (pv 2) (pa_cons (pv 6) pa_nil))) pa_nil))) (pe_slice sl_list (pe_dget hu (pv 0) pe_str (fun _ _ => rfl)) (po_some (pe_op op_add (pv 5) pe_int)) po_none)) rfl)
        (pss_one (ps_dput hu (pv 0) pe_str (pv 2) rfl))))
        pss_nil)
      (pss_one (ps_ret (pe_tup (pa_cons (pv 3) (pa_cons (pe_tup (pa_cons pe_str (pa_cons (pv 2) (pa_cons pe_int (pa_cons (pv 5) pa_nil))))) pa_nil)))))))))))), ?_⟩
    obtain ⟨l0, l1⟩ := ltr01 l
    have hl' : H la = some (.tup (LtrV l)) := hl
    have st0 : StAt H d k := ⟨L, hd, ar, hL, pr⟩
    refine ⟨_, rfl, la, _, 1, _, rfl, rfl, SqT.of hl', atN (j := 1) rfl l1, ?_⟩
    refine ⟨_, rfl, _, rfl, d, _, rfl, getE hd, _, _, rfl, rfl, _, rfl, ?_⟩
    refine ite2 (fun h => ?_) (fun h => ?_)
    · have h : l.ep < k.ep := of_decide_eq_true h
      have er : k.recOf l = none := by cases l <;> exact if_pos h
      have ea : k.ansOf l = some (.refused l.ep k.ep) := by cases l <;> exact if_pos h
      rw [er, ea] at q
      refine ⟨_, rfl, _, rfl, d, _, rfl, getE hd, (by show 4 ≤ sizeLine; decide), fun u hu' => ⟨(by show 2 ≤ sizeLine; decide), fun t ht => ?_⟩⟩
      have s2 : Same H (upd (upd H u (.tup [.str "refused", .int l.ep, .int 2, .int k.ep])) t (.tup [.non, .ref u])) := Same.tr (Same.new hu') (Same.new ht)
      have nut : u ≠ t := ne_of_none upd_same ht
      exact q t .non (.ref u) _ upd_same rfl ⟨u, rfl, by show _ = _; rw [upd_ne nut, upd_same]⟩ (st0.same s2) (Kp.same s2) (Tp.same s2)
    have h : ¬ l.ep < k.ep := fun z => h (decide_eq_true z)
    cases l with
    | ask e =>
      refine ⟨_, rfl, la, _, 0, _, rfl, rfl, SqT.of hl', atN (j := 0) rfl l0, rfl, _, rfl, ?_⟩
      refine ite2 (fun _ => ?_) (fun h => absurd (decide_eq_true rfl) h)
      have h : ¬ e < k.ep := h
      have er : k.recOf (.ask e) = if e > k.ep then some (.prom e) else none := if_neg h
      have ea : k.ansOf (.ask e) = some (.told e k.row) := if_neg h
      rw [er, ea] at q
      have ek : k.all (oList (if e > k.ep then some (.prom e) else none)) = ⟨e, k.row⟩ := by
        by_cases z : e > k.ep
        · rw [if_pos z]
          show (⟨if e > k.ep then e else k.ep, k.row⟩ : Kn) = _
          rw [if_pos z]
        · rw [if_neg z]
          show k = _
          have : k.ep = e := by omega
          cases k
          cases this
          rfl
      rw [ek] at q
      refine ⟨fun σ' H' => ∃ rv, σ' = [some (.ref d), some (.ref la), some (.int e), some rv, none, none, none] ∧ Same H H' ∧ Opt RecAt H' rv (if e > k.ep then some (.prom e) else none), ?_, ?_⟩
      · refine ⟨_, rfl, _, rfl, d, _, rfl, getE hd, _, _, rfl, rfl, _, rfl, ?_⟩
        refine ite2 (fun h2 => ?_) (fun h2 => ?_)
        · have h2 : k.ep < e := of_decide_eq_true h2
          refine ⟨_, rfl, (by show 2 ≤ sizeLine; decide), fun u hu' => ⟨.ref u, rfl, Same.new hu', ?_⟩⟩
          rw [if_pos h2]
          exact ⟨u, rfl, upd_same⟩
        · have h2 : ¬ e > k.ep := fun z => h2 (decide_eq_true z)
          refine ⟨.non, rfl, fun _ _ z => z, ?_⟩
          rw [if_neg h2]
          exact rfl
      · rintro σ' H1 ⟨rv, rfl, s1, hrv⟩
        refine ⟨_, rfl, _, rfl, d, _, rfl, getR (s1 _ _ hd), .inl ⟨L, _, rfl, SqL.of (s1 _ _ hL), fun t2 ht2 => ⟨(by show 4 ≤ sizeLine; decide), fun u hu' => ?_⟩⟩⟩
        have s2 : Same H1 (upd (upd H1 t2 (.tup (ar.map V.ref))) u (.tup [.str "told", .int e, .int 2, .ref t2])) := Same.tr (Same.new ht2) (Same.new hu')
        have nu2 : t2 ≠ u := ne_of_none upd_same hu'
        have g1 : upd (upd H1 t2 (.tup (ar.map V.ref))) u (.tup [.str "told", .int e, .int 2, .ref t2]) t2 = some (.tup (ar.map V.ref)) := by rw [upd_ne nu2, upd_same]
        have g2 : upd (upd H1 t2 (.tup (ar.map V.ref))) u (.tup [.str "told", .int e, .int 2, .ref t2]) u = some (.tup [.str "told", .int e, .int 2, .ref t2]) := upd_same
        generalize upd (upd H1 t2 (.tup (ar.map V.ref))) u (.tup [.str "told", .int e, .int 2, .ref t2]) = H2 at s2 g1 g2 ⊢
        have s02 := Same.tr s1 s2
        refine ⟨_, rfl, _, rfl, d, _, rfl, putE e (s02 _ _ hd), ?_⟩
        have t3 : Tp H2 (upd H2 d (.dK (stK ⟨e, k.row⟩ L))) := Tp.dK (s02 _ _ hd)
        have g3 : upd H2 d (.dK (stK ⟨e, k.row⟩ L)) d = some (.dK (stK ⟨e, k.row⟩ L)) := upd_same
        have nLd : L ≠ d := ne_of hL hd (by intro z; cases z)
        have g4 : upd H2 d (.dK (stK ⟨e, k.row⟩ L)) L = some (.lst (ar.map V.ref)) := by rw [upd_ne nLd]; exact s02 _ _ hL
        have k3 : Kp [d] H (upd H2 d (.dK (stK ⟨e, k.row⟩ L))) := (Kp.same s02).trans (Kp.at (by simp))
        generalize upd H2 d (.dK (stK ⟨e, k.row⟩ L)) = H3 at t3 g3 g4 k3 ⊢
        refine ⟨_, rfl, _, rfl, (by show 2 ≤ sizeLine; decide), fun t ht => ?_⟩
        have s4 : Same H3 (upd H3 t (.tup [rv, .ref u])) := Same.new ht
        have tt := ((Tp.same s02).trans t3).trans (Tp.same s4)
        refine q t rv (.ref u) _ upd_same (Opt.stay recStay (((Tp.same s2).trans t3).trans (Tp.same s4)) hrv) ⟨u, rfl, t2, s4 _ _ (t3 _ _ g2), ar, s4 _ _ (t3 _ _ g1), Paired.mapP pr fun a b => pairStay tt⟩ ⟨L, s4 _ _ g3, ar, s4 _ _ g4, Paired.mapP pr fun a b => pairStay tt⟩ (k3.trans (Kp.same s4)) tt
    | write e p x =>
      refine ⟨_, rfl, la, _, 0, _, rfl, rfl, SqT.of hl', atN (j := 0) rfl l0, rfl, _, rfl, ?_⟩
      refine ite2 (fun h => absurd (of_decide_eq_true h) (by show ¬ (V.str "write" = V.str "ask"); decide)) (fun _ => ?_)
      have h : ¬ e < k.ep := h
      have er : k.recOf (.write e p x) = if k.bars e p then none else if k.isNew e p x then some (.take e p x) else none := if_neg h
      have ea : k.ansOf (.write e p x) = if k.bars e p then none else some (.taken e p) := if_neg h
      rw [er, ea] at q
      refine ⟨_, rfl, la, _, 3, _, rfl, rfl, SqT.of hl', rfl, _, rfl, la, _, 4, _, rfl, rfl, SqT.of hl', rfl, _, _, rfl, ?_⟩
      have lenR : (ar.map V.ref).length = k.row.length := TT.len pr
      have ix : ∀ {n : Nat} {q : Int × Int}, k.row[n]? = some q → ∃ b, (ar.map V.ref)[n]? = some (.ref b) ∧ PairAt H b q := fun {n q} hq => by
        obtain ⟨b, hb, pb⟩ := Paired.ix pr hq
        exact ⟨b, by rw [List.getElem?_map, hb]; rfl, pb⟩
      dsimp only [Ltr.ep]
      refine tIfS_of (b := k.bars e p) (fun Kk kk => ?_) fun H0 s0 => ?_
      · refine ⟨_, rfl, _, rfl, d, _, rfl, getR hd, L, _, rfl, .inl (SqL.of hL), _, _, rfl, rfl, _, rfl, ?_⟩
        rw [lenR]
        unfold Kn.bars at kk
        refine ite2 (fun h => ?_) (fun h => ?_)
        · have h : (k.row.length : Int) < (p : Int) := of_decide_eq_true h
          rw [decide_eq_true (by omega : k.row.length < p)] at kk
          exact kk H (fun _ _ z => z)
        · have h : ¬ (k.row.length : Int) < (p : Int) := fun z => h (decide_eq_true z)
          rw [decide_eq_false (by omega : ¬ k.row.length < p)] at kk
          refine ⟨_, rfl, _, _, rfl, rfl, _, rfl, ?_⟩
          refine ite2 (fun h2 => ?_) (fun h2 => ?_)
          · have h2 : (0 : Int) < (p : Int) := of_decide_eq_true h2
            rw [decide_eq_true (by omega : 0 < p)] at kk
            have hp1 : p - 1 < k.row.length := by omega
            obtain ⟨b, hb, pb⟩ := ix (List.getElem?_eq_getElem hp1)
            refine ⟨_, rfl, d, _, rfl, getR hd, _, rfl, _, _, rfl, rfl, L, _, _, _, rfl, rfl, SqL.of hL, atN (j := p - 1) (by omega) hb, b, _, 0, .int (k.row[p - 1]).1, rfl, rfl, SqT.of pb, rfl, _, rfl, ?_⟩
            have eb : (k.row[p - 1]?.map (·.1)) = some (k.row[p - 1]).1 := by rw [List.getElem?_eq_getElem hp1]; rfl
            rw [eb] at kk
            have ec : (!decide (V.int (k.row[p - 1]).1 = V.int e)) = (!decide (some (k.row[p - 1]).1 = some e)) := by
              congr 1
              exact decide_eq_decide.mpr ⟨fun z => by cases z; rfl, fun z => by cases z; rfl⟩
            refine ⟨rfl, _, rfl, ?_⟩
            first | exact kk H (fun _ _ z => z) | (rw [ec]; exact kk H (fun _ _ z => z))
          · have h2 : ¬ (0 : Int) < (p : Int) := fun z => h2 (decide_eq_true z)
            rw [decide_eq_false (by omega : ¬ 0 < p)] at kk
            exact kk H (fun _ _ z => z)
      · have st1 := st0.same s0
        refine ite2 (fun hb => ?_) (fun hb => ?_)
        · rw [if_pos hb, if_pos hb] at q
          refine ⟨(by show 2 ≤ sizeLine; decide), fun t ht => ?_⟩
          have s2 := Same.tr s0 (Same.new (o := .tup [.non, .non]) ht)
          exact q t .non .non _ upd_same rfl rfl (st0.same s2) (Kp.same s2) (Tp.same s2)
        · have hb : ¬ k.bars e p = true := hb
          rw [if_neg hb, if_neg hb] at q
          have hple : p ≤ k.row.length := by
            unfold Kn.bars at hb
            simp only [Bool.or_eq_true, decide_eq_true_eq, not_or] at hb
            omega
          refine ⟨fun σ' H' => ∃ rv, σ' = [some (.ref d), some (.ref la), some (.int e), some rv, none, some (.int p), some (.int x)] ∧ Opt RecAt H' rv (if k.isNew e p x then some (.take e p x) else none) ∧ StAt H' d (k.all (oList (if k.isNew e p x then some (.take e p x) else none))) ∧ Kp [d] H H' ∧ Tp H H', ?_, ?_⟩
          · have hd0 := s0 _ _ hd
            have hL0 := s0 _ _ hL
            have pr0 : Paired (PairAt H0) ar k.row := Paired.mapP pr fun a b => pairStay (Tp.same s0)
            refine tIfS_of (b := k.isNew e p x) (fun Kk kk => ?_) fun H1 s1 => ?_
            · refine ⟨_, rfl, _, rfl, d, _, rfl, getR hd0, L, _, rfl, .inl (SqL.of hL0), rfl, _, rfl, ?_⟩
              rw [lenR]
              unfold Kn.isNew at kk
              refine ite2 (fun h => ?_) (fun h => ?_)
              · have h : V.int (p : Int) = V.int (k.row.length : Int) := of_decide_eq_true h
                have h := V.int.inj h
                rw [decide_eq_true (by omega : p = k.row.length)] at kk
                exact kk H0 (fun _ _ z => z)
              · have h : ¬ V.int (p : Int) = V.int (k.row.length : Int) := fun z => h (decide_eq_true z)
                have np : p ≠ k.row.length := fun z => h (by rw [z])
                rw [decide_eq_false np] at kk
                have hp1 : p < k.row.length := by omega
                obtain ⟨b, hb, pb⟩ := ix (List.getElem?_eq_getElem hp1)
                refine ⟨_, rfl, d, _, rfl, getR hd0, _, rfl, L, _, _, _, rfl, rfl, SqL.of hL0, atN (j := p) rfl hb, _, rfl, _, rfl, (by show 2 ≤ sizeLine; decide), fun u hu' => ?_⟩
                have s2 : Same H0 (upd H0 u (.tup [.int e, .int x])) := Same.new hu'
                refine ⟨_, _, pairD (pairStay (Tp.same (Same.tr s0 s2)) pb), pairD (p := (e, x)) (show PairAt _ u (e, x) from upd_same), pairOk.shaped, pairOk.shaped, _, rfl, ?_⟩
                rw [eqv_tup2]
                rw [List.getElem?_eq_getElem hp1] at kk
                have ec : decide (((k.row[p]).1, (k.row[p]).2) = ((e, x).1, (e, x).2)) = decide (some k.row[p] = some (e, x)) := decide_eq_decide.mpr ⟨fun z => by rw [show k.row[p] = (e, x) from z], fun z => Option.some.inj z⟩
                rw [ec]
                exact kk _ s2
            · have s01 := Same.tr s0 s1
              refine ite2 (fun hn => ?_) (fun hn => ?_)
              · have hd1 := s1 _ _ hd0
                have hL1 := s1 _ _ hL0
                have pr1 : Paired (PairAt H1) ar k.row := Paired.mapP pr0 fun a b => pairStay (Tp.same s1)
                refine ⟨_, rfl, _, rfl, _, rfl, (by show 4 ≤ sizeLine; decide), fun c hc => ?_⟩
                have s2 : Same H1 (upd H1 c (.tup [.str "take", .int e, .int p, .int x])) := Same.new hc
                have gc : upd H1 c (.tup [.str "take", .int e, .int p, .int x]) c = some (.tup [.str "take", .int e, .int p, .int x]) := upd_same
                generalize upd H1 c (.tup [.str "take", .int e, .int p, .int x]) = H2 at s2 gc ⊢
                have hd2 := s2 _ _ hd1
                have hL2 := s2 _ _ hL1
                have pr2 : Paired (PairAt H2) ar k.row := Paired.mapP pr1 fun a b => pairStay (Tp.same s2)
                refine ⟨_, rfl, d, _, rfl, getR hd2, _, rfl, (p : Int), rfl, L, _, rfl, SqL.of hL2, fun u hu' => ?_⟩
                rw [cut_take _ _ (by rw [lenR]; exact hple)]
                have s3 : Same H2 (upd H2 u (.lst ((ar.map V.ref).take p))) := Same.new hu'
                refine ⟨_, rfl, _, rfl, (by show 2 ≤ sizeLine; decide), fun b hb => ?_⟩
                refine ⟨(by show 1 ≤ sizeLine; decide), fun v hv => ?_⟩
                have nbv : b ≠ v := ne_of_none upd_same hv
                have hv0 : upd H2 u (.lst ((ar.map V.ref).take p)) v = none := by rw [upd_ne nbv.symm] at hv; exact hv
                have s4 := Same.tr s3 (Same.tr (Same.new (o := .tup [.int e, .int x]) hb) (Same.new (o := .lst [.ref b]) hv))
                have nuv : u ≠ v := ne_of_none upd_same hv0
                have nub : u ≠ b := ne_of_none upd_same hb
                have szr : ∀ n, n ≤ k.row.length + 1 → n ≤ sizeLine := fun n hn => Nat.le_of_lt (small1000 (by omega))
                refine ⟨u, v, _, _, rfl, rfl, by rw [upd_ne nuv, upd_ne nub, upd_same], upd_same, by rw [List.length_take, lenR]; exact szr _ (by show min p k.row.length + 1 ≤ _; omega), fun y hy => ?_⟩
                have s5 := Same.tr s4 (Same.new (o := .lst ((ar.map V.ref).take p ++ [.ref b])) hy)
                refine ⟨_, rfl, d, _, rfl, (getR (s5 _ _ hd2) : DGet _ d (.str "row") _), _, rfl, _, _, rfl, rfl, (p : Int) + 1, rfl, L, _, rfl, SqL.of (s5 _ _ hL2), fun z hz => ?_⟩
                rw [show ((p : Int) + 1) = ((p + 1 : Nat) : Int) by push_cast; rfl, cut_drop']
                have nyz : y ≠ z := ne_of_none upd_same hz
                have s6 := Same.tr s5 (Same.new (o := .lst ((ar.map V.ref).drop (p + 1))) hz)
                refine ⟨y, z, _, _, rfl, rfl, by rw [upd_ne nyz, upd_same], upd_same, by rw [List.length_append, List.length_take, List.length_drop, lenR]; exact szr _ (by show min p k.row.length + 1 + (k.row.length - (p + 1)) ≤ _; omega), fun m hm => ?_⟩
                have s7 := Same.tr s6 (Same.new (o := .lst ((ar.map V.ref).take p ++ [.ref b] ++ (ar.map V.ref).drop (p + 1))) hm)
                have pb : PairAt (upd (upd H2 u (.lst ((ar.map V.ref).take p))) b (.tup [.int e, .int x])) b (e, x) := upd_same
                have pb7 := pairStay (Tp.same (Same.tr (Same.new (o := .lst [.ref b]) hv) (Same.tr (Same.new (o := .lst ((ar.map V.ref).take p ++ [.ref b])) hy) (Same.tr (Same.new (o := .lst ((ar.map V.ref).drop (p + 1))) hz) (Same.new (o := .lst ((ar.map V.ref).take p ++ [.ref b] ++ (ar.map V.ref).drop (p + 1))) hm))))) pb
                have gm := upd_same (H := (upd (upd (upd (upd (upd H2 u (.lst ((ar.map V.ref).take p))) b (.tup [.int e, .int x])) v (.lst [.ref b])) y (.lst ((ar.map V.ref).take p ++ [.ref b]))) z (.lst ((ar.map V.ref).drop (p + 1))))) (a := m) (o := .lst ((ar.map V.ref).take p ++ [.ref b] ++ (ar.map V.ref).drop (p + 1)))
                have nmd : m ≠ d := (ne_of_none (s6 _ _ hd2) hm).symm
                generalize upd (upd (upd (upd (upd (upd H2 u (.lst ((ar.map V.ref).take p))) b (.tup [.int e, .int x])) v (.lst [.ref b])) y (.lst ((ar.map V.ref).take p ++ [.ref b]))) z (.lst ((ar.map V.ref).drop (p + 1)))) m (.lst ((ar.map V.ref).take p ++ [.ref b] ++ (ar.map V.ref).drop (p + 1))) = H7 at s7 pb7 gm ⊢
                have hd7 := s7 _ _ hd2
                refine ⟨_, rfl, d, _, rfl, putR m hd7, ?_⟩
                have t8 : Tp H7 (upd H7 d (.dK (stK k m))) := Tp.dK hd7
                have g8 : upd H7 d (.dK (stK k m)) d = some (.dK (stK k m)) := upd_same
                have gm8 : upd H7 d (.dK (stK k m)) m = some (.lst ((ar.map V.ref).take p ++ [.ref b] ++ (ar.map V.ref).drop (p + 1))) := by rw [upd_ne nmd]; exact gm
                have k8 : Kp [d] H (upd H7 d (.dK (stK k m))) := (Kp.same (Same.tr (Same.tr s01 s2) s7)).trans (Kp.at (by simp))
                generalize upd H7 d (.dK (stK k m)) = H8 at t8 g8 gm8 k8 ⊢
                refine ⟨_, rfl, _, rfl, d, _, rfl, putE e g8, ?_⟩
                have t9 : Tp H8 (upd H8 d (.dK (stK ⟨e, k.row⟩ m))) := Tp.dK g8
                have tA : Tp H2 (upd H8 d (.dK (stK ⟨e, k.row⟩ m))) := ((Tp.same s7).trans t8).trans t9
                refine ⟨.ref c, rfl, ?_, ?_, k8.trans (Kp.at (by simp)), ((Tp.same (Same.tr s01 s2)).trans (Tp.same s7)).trans (t8.trans t9)⟩
                · rw [if_pos hn]
                  exact ⟨c, rfl, tA _ _ gc⟩
                · rw [if_pos hn]
                  have ek : k.all (oList (some (.take e p x))) = ⟨e, k.put e p x⟩ := by
                    show (⟨if e > k.ep then e else k.ep, k.put e p x⟩ : Kn) = _
                    by_cases z : e > k.ep
                    · rw [if_pos z]
                    · rw [if_neg z, show k.ep = e by omega]
                  rw [ek]
                  refine ⟨m, upd_same, ar.take p ++ [b] ++ ar.drop (p + 1), ?_, splice (Paired.mapP pr2 fun a b => pairStay tA) (pairStay (t8.trans t9) pb7)⟩
                  rw [upd_ne nmd, gm8, List.map_append, List.map_append, List.map_take, List.map_drop]
                  rfl
              · refine ⟨.non, rfl, ?_, ?_, Kp.same s01, Tp.same s01⟩
                · rw [if_neg hn]; exact rfl
                · rw [if_neg hn]; exact st0.same s01
          · rintro σ' H2 ⟨rv, rfl, hrv, st2, k2, t2⟩
            refine ⟨_, rfl, _, rfl, _, rfl, (by show 4 ≤ sizeLine; decide), fun u hu' => ⟨(by show 2 ≤ sizeLine; decide), fun t ht => ?_⟩⟩
            have nut : u ≠ t := ne_of_none upd_same ht
            have s3 : Same H2 (upd (upd H2 u (.tup [.str "taken", .int e, .int 2, .int p])) t (.tup [rv, .ref u])) := Same.tr (Same.new hu') (Same.new ht)
            exact q t rv (.ref u) _ upd_same (Opt.stay recStay (Tp.same s3) hrv) ⟨u, rfl, by show _ = _; rw [upd_ne nut, upd_same]⟩ (st2.same s3) (k2.trans (Kp.same s3)) (t2.trans (Tp.same s3))
end
end Mc
namespace Mc
open PySem L2 PySem.Spec PyProof.Rows
/-! ### what is kept when something is written -/
def NU (H : Hp) (x : Addr) : Prop := (∀ as : List Addr, H x ≠ some (.lst (as.map V.ref))) ∧ ∀ xs, H x ≠ some (.tup xs)
theorem NU.lst {H : Hp} {x a : Addr} {k : Int} (h : H x = some (.lst [.ref a, .int k])) : NU H x := ⟨fun as z => by
  rw [h] at z
  have z := HO.lst.inj (Option.some.inj z)
  match as, z with
  | [_, _], z => simp at z, fun xs z => (by rw [h] at z; cases z)⟩
theorem NU.ins {H : Hp} {x C dx : Addr} {fs : List (Str × V)} (h : H x = some (.ins C dx fs)) : NU H x := ⟨fun as z => (by rw [h] at z; cases z), fun xs z => (by rw [h] at z; cases z)⟩
theorem NU.dK {H : Hp} {x : Addr} {kv : List (L2.Key × V)} (h : H x = some (.dK kv)) : NU H x := ⟨fun as z => (by rw [h] at z; cases z), fun xs z => (by rw [h] at z; cases z)⟩
section
variable {α : Type} {F : Hp → Addr → α → Prop} {H H' : Hp} {t d : Addr} {rs : List α} {M : List Addr}
theorem Tp.kp (k : Kp M H H') (n : ∀ x ∈ M, NU H x) : Tp H H' := fun b xs e => k b _ e fun hb => (n b hb).2 xs e
theorem LL.kp (x : LL F H t rs) (hF : Stay F) (k : Kp M H H') (n : ∀ x ∈ M, NU H x) : LL F H' t rs := by
  obtain ⟨as, e, p⟩ := x
  exact ⟨as, k _ _ e fun hb => (n _ hb).1 as e, Paired.mapP p fun _ _ => hF (Tp.kp k n)⟩
theorem StAt.kp {kn : Kn} (x : StAt H d kn) (k : Kp M H H') (n : ∀ x ∈ M, NU H x) (hd : d ∉ M) : StAt H' d kn := by
  obtain ⟨l, e, r⟩ := x
  exact ⟨l, k _ _ e hd, r.kp pairStay k n⟩
theorem KeAt.kp {C : Addr} {a : Addr} {rs lo : List Rec} {wa : List Ans} (x : KeAt C H a rs lo wa) (k : Kp M H H') (n : ∀ x ∈ M, NU H x) (ha : a ∉ M) : KeAt C H' a rs lo wa := x.stay (Tp.kp k n) fun o e => k _ _ e ha
end
theorem LL.sr {H H' : Hp} {t : Addr} {rs : List Rec} (x : LL RecAt H t rs) (s : Same H H') : LL RecAt H' t rs := x.same recStay s
theorem LL.sa {H H' : Hp} {t : Addr} {rs : List Ans} (x : LL AnsAt H t rs) (s : Same H H') : LL AnsAt H' t rs := x.same ansStay s
theorem TT.sa {H H' : Hp} {t : Addr} {rs : List Ans} (x : TT AnsAt H t rs) (s : Same H H') : TT AnsAt H' t rs := x.same ansStay s
/-! ### all that the law holds -/
structure WW (K : PySem.W.Frag) (CK d ke st a : Addr) (H : Hp) (rs lo : List Rec) (wa : List Ans) (sl ll wl : Addr) : Prop where
  dr : Dr K [d, ke, st] d a H
  ke : KeAt CK H ke rs lo wa
  st : StAt H st (Kn.new.all (rs ++ lo))
  sl : LL RecAt H sl rs
  ll : LL RecAt H ll lo
  wl : LL AnsAt H wl wa
  wf : Kn.new.wf (rs ++ lo)
section
variable {K : PySem.W.Frag} {CK d ke st a : Addr} {H H' : Hp} {rs lo : List Rec} {wa : List Ans} {sl ll wl : Addr}
theorem WW.nu (I : WW K CK d ke st a H rs lo wa sl ll wl) : NU H d ∧ NU H ke ∧ NU H st := by
  obtain ⟨⟨⟨k, hd⟩, _, _⟩, ⟨dx, r, l, w, hk, _⟩, ⟨L, hs, _⟩, _⟩ := I
  exact ⟨NU.lst hd, NU.ins hk, NU.dK hs⟩
theorem WW.ne (I : WW K CK d ke st a H rs lo wa sl ll wl) : d ≠ ke ∧ d ≠ st ∧ ke ≠ st := by
  obtain ⟨⟨⟨k, hd⟩, _, _⟩, ⟨dx, r, l, w, hk, _⟩, ⟨L, hs, _⟩, _⟩ := I
  exact ⟨ne_of hd hk (by intro z; cases z), ne_of hd hs (by intro z; cases z), ne_of hk hs (by intro z; cases z)⟩
theorem WW.same (I : WW K CK d ke st a H rs lo wa sl ll wl) (s : Same H H') : WW K CK d ke st a H' rs lo wa sl ll wl :=
  ⟨I.dr.same s, I.ke.same s, I.st.same s, I.sl.same recStay s, I.ll.same recStay s, I.wl.same ansStay s, I.wf⟩
theorem WW.draw (I : WW K CK d ke st a H rs lo wa sl ll wl) (D : Dr K [d, ke, st] d a H') (k : Kp [d] H H') : WW K CK d ke st a H' rs lo wa sl ll wl := by
  obtain ⟨n1, n2, n3⟩ := I.nu
  obtain ⟨e1, e2, e3⟩ := I.ne
  have n : ∀ x ∈ [d], NU H x := fun x hx => by rw [List.mem_singleton.mp hx]; exact n1
  exact ⟨D, I.ke.kp k n (by simp; exact Ne.symm e1), I.st.kp k n (by simp; exact Ne.symm e2), I.sl.kp recStay k n, I.ll.kp recStay k n, I.wl.kp ansStay k n, I.wf⟩
/-- the state's dict has changed -/
theorem WW.stp (I : WW K CK d ke st a H rs lo wa sl ll wl) (k : Kp [st] H H') : Dr K [d, ke, st] d a H' ∧ KeAt CK H' ke rs lo wa ∧ LL RecAt H' sl rs ∧ LL RecAt H' ll lo ∧ LL AnsAt H' wl wa ∧ Tp H H' := by
  obtain ⟨n1, n2, n3⟩ := I.nu
  obtain ⟨e1, e2, e3⟩ := I.ne
  have n : ∀ x ∈ [st], NU H x := fun x hx => by rw [List.mem_singleton.mp hx]; exact n3
  exact ⟨I.dr.keep (k.mono (by simp)) fun o z => k _ _ z (by simp; exact e2), I.ke.kp k n (by simp; exact e3), I.sl.kp recStay k n, I.ll.kp recStay k n, I.wl.kp ansStay k n, Tp.kp k n⟩
/-- the keeper has changed -/
theorem WW.kep (I : WW K CK d ke st a H rs lo wa sl ll wl) (k : Kp [ke] H H') : Dr K [d, ke, st] d a H' ∧ StAt H' st (Kn.new.all (rs ++ lo)) ∧ LL RecAt H' sl rs ∧ LL RecAt H' ll lo ∧ LL AnsAt H' wl wa ∧ Tp H H' := by
  obtain ⟨n1, n2, n3⟩ := I.nu
  obtain ⟨e1, e2, e3⟩ := I.ne
  have n : ∀ x ∈ [ke], NU H x := fun x hx => by rw [List.mem_singleton.mp hx]; exact n2
  exact ⟨I.dr.keep (k.mono (by simp)) fun o z => k _ _ z (by simp; exact e1), I.st.kp k n (by simp; exact Ne.symm e3), I.sl.kp recStay k n, I.ll.kp recStay k n, I.wl.kp ansStay k n, Tp.kp k n⟩
end
/-- try: .. except C as n: .., its reading by a name -/
def tTryAs (K : PySem.W.Frag) (c : Value) (i : Nat) (tb : WX → TS) (ts : Addr → Value → Option Addr → TS) (Wout : WX) : TS := fun D σ H => tb (wAs K c i ts Wout D) D σ H
theorem ps_tryAs {X : Cx} {x n : Str} {c : Value} {i : Nat} {body suite : List Stmt} {b₀ : Stmt} {np pos pos' : Pos} {tb : WX → TS} {ts : Addr → Value → Option Addr → TS} {Wout : WX} (hs : X.stack = X.env :: X.outer) (hf : X.env.frame = some X.env.locals) (hN : X.N.Nodup) (hi : X.N[i]? = some n) (hln : X.env.kindOf n = some .local) (hc : Names X x c) (tk : Takes X Wout)
    (hb : ∀ (W : WX) (pn : List (Addr × Obj)) (xe : Value → Shared → Prop), Takes (X.tr pn xe) W → PassesOwn (model X.prog X.w) X.A X.env xe → PSs (X.tr pn xe) body (tb W))
    (hsu : ∀ (a : Addr) (oe : Obj) (cls : Value) (d : Option Addr) (pn : List (Addr × Obj)), Zc cls d oe → (∃ vs, oe.data = .fields vs) → PSs (X.suite a ((a, oe) :: pn)) (b₀ :: suite) (ts a cls d)) :
    PS X (.Try body [.ExceptHandler (some (.Name x np)) (some n) (b₀ :: suite) pos'] [] [] pos) (tTryAs X.K c i tb ts Wout) := ps_try_as hs hf hN hi hln hc tk hb hsu
/-! ### data that are compared -/
def prD (p : Int × Int) : PyData := .tuple [.int p.1, .int p.2]
def Rec.pd : Rec → PyData
  | .prom e => .tuple [.str "promise", .int e]
  | .take e p x => .tuple [.str "take", .int e, .int p, .int x]
def Ans.pd : Ans → PyData
  | .refused e k => .tuple [.str "refused", .int e, .int 2, .int k]
  | .told e row => .tuple [.str "told", .int e, .int 2, .tuple (row.map prD)]
  | .taken e p => .tuple [.str "taken", .int e, .int 2, .int p]
theorem okS1 : DOk 0 (.str "promise") := DOk.str (by rw [PyData.canLay0]; decide +kernel)
theorem okS2 : DOk 0 (.str "take") := DOk.str (by rw [PyData.canLay0]; decide +kernel)
theorem okS3 : DOk 0 (.str "refused") := DOk.str (by rw [PyData.canLay0]; decide +kernel)
theorem okS4 : DOk 0 (.str "told") := DOk.str (by rw [PyData.canLay0]; decide +kernel)
theorem okS5 : DOk 0 (.str "taken") := DOk.str (by rw [PyData.canLay0]; decide +kernel)
theorem all2 {p : PyData → Prop} {a b : PyData} (h1 : p a) (h2 : p b) : ∀ d ∈ [a, b], p d := by
  intro d hd
  simp only [List.mem_cons, List.not_mem_nil, or_false] at hd
  rcases hd with rfl | rfl <;> assumption
theorem all4 {p : PyData → Prop} {a b c e : PyData} (h1 : p a) (h2 : p b) (h3 : p c) (h4 : p e) : ∀ d ∈ [a, b, c, e], p d := by
  intro d hd
  simp only [List.mem_cons, List.not_mem_nil, or_false] at hd
  rcases hd with rfl | rfl | rfl | rfl <;> assumption
theorem okMap {α : Type} {n : Nat} {f : α → PyData} (h : ∀ x, DOk n (f x)) (xs : List α) : ∀ d ∈ xs.map f, DOk n d := by
  intro d hd
  obtain ⟨x, _, rfl⟩ := List.mem_map.mp hd
  exact h x
theorem okPr (p : Int × Int) : DOk 1 (prD p) := DOk.tup (all2 DOk.int DOk.int)
theorem okRec (r : Rec) : DOk 1 r.pd := by
  cases r with
  | prom e => exact DOk.tup (all2 okS1 DOk.int)
  | take e p x => exact DOk.tup (all4 okS2 DOk.int DOk.int DOk.int)
theorem okAns (x : Ans) : DOk 3 x.pd := by
  cases x with
  | refused e k => exact (DOk.tup (n := 0) (all4 okS3 DOk.int DOk.int DOk.int)).mono (by decide)
  | told e row => exact DOk.tup (all4 (okS4.mono (by decide)) DOk.int DOk.int (DOk.tup (okMap okPr row)))
  | taken e p => exact (DOk.tup (n := 0) (all4 okS5 DOk.int DOk.int DOk.int)).mono (by decide)
section
variable {K : PySem.W.Frag} {H : Hp}
theorem dpAll_of {α : Type} {F : Hp → Addr → α → Prop} {f : α → PyData} (hf : ∀ a x, F H a x → Dp K H (.ref a) (f x)) : ∀ {as : List Addr} {xs : List α}, Paired (F H) as xs → DpAll K H (as.map V.ref) (xs.map f)
  | _, _, .nil => .nil
  | _, _, .cons h t => .cons (hf _ _ h) (dpAll_of hf t)
theorem dpPr (a : Addr) (p : Int × Int) (h : PairAt H a p) : Dp K H (.ref a) (prD p) := pairD h
theorem dpRec (a : Addr) (r : Rec) (h : RecAt H a r) : Dp K H (.ref a) r.pd := by
  cases r with
  | prom e => exact .tup (SqT.of h) (.cons (.str _) (.cons (.int _) .nil))
  | take e p x => exact .tup (SqT.of h) (.cons (.str _) (.cons (.int _) (.cons (.int _) (.cons (.int _) .nil))))
theorem dpAns (a : Addr) (x : Ans) (h : AnsAt H a x) : Dp K H (.ref a) x.pd := by
  cases x with
  | refused e k => exact .tup (SqT.of h) (.cons (.str _) (.cons (.int _) (.cons (.int _) (.cons (.int _) .nil))))
  | told e row =>
    obtain ⟨t, h1, as, h2, p⟩ := h
    exact .tup (SqT.of h1) (.cons (.str _) (.cons (.int _) (.cons (.int _) (.cons (.tup (SqT.of h2) (dpAll_of dpPr p)) .nil))))
  | taken e p => exact .tup (SqT.of h) (.cons (.str _) (.cons (.int _) (.cons (.int _) (.cons (.int _) .nil))))
theorem dpTT {α : Type} {F : Hp → Addr → α → Prop} {f : α → PyData} {t : Addr} {xs : List α} (hf : ∀ a x, F H a x → Dp K H (.ref a) (f x)) (h : TT F H t xs) : Dp K H (.ref t) (.tuple (xs.map f)) := by
  obtain ⟨as, h1, p⟩ := h
  exact .tup (SqT.of h1) (dpAll_of hf p)
theorem dpLL {α : Type} {F : Hp → Addr → α → Prop} {f : α → PyData} {t : Addr} {xs : List α} (hf : ∀ a x, F H a x → Dp K H (.ref a) (f x)) (h : LL F H t xs) : Dp K H (.ref t) (.list (xs.map f)) := by
  obtain ⟨as, h1, p⟩ := h
  exact .lst (SqL.of h1) (dpAll_of hf p)
/-- x != y of two equal data -/
theorem ne_same {n : Nat} {x y : V} {d : PyData} {Q : VK} (ok : DOk n d) (hn : n ≤ 64) (h1 : Dp K H x d) (h2 : Dp K H y d) (q : Q (.bl false) H) : rNeD K x y H Q :=
  ⟨d, d, h1, h2, ok.shaped hn, ok.shaped hn, by rw [ok.eq]; exact q⟩
end
theorem oList_app_len {α : Type} (xs : List α) (o : Option α) (i : Nat) (h : xs.length ≤ i) : (xs ++ oList o).length ≤ i + 1 := by
  rw [List.length_append]
  have := oList_len o
  omega
def spMost : Sp := fun vs H Q _ => ∃ n : Int, vs = [.int n] ∧ Q (.int (n / 2 + 1)) H
section
variable {P : Program} {w : World} {K : PySem.W.Frag} {mg : Str → Option Value} {base : Heap}
theorem sc_mostof : FnScope ["many"] ["many"] (defScope sMost) := ⟨rfl, rfl, rfl, by decide +kernel, rfl, by decide +kernel, by decide +kernel⟩
theorem ok_most {f : Addr} {fd : FuncData} (F : Fun K "most_of" "most_of" sMost f fd) : FnOk P w K mg base CX0 1 f fd ["many"] spMost := by
  refine F.ok sc_mostof (fun vs H Q E h => ?_) (fun cdv A outer s H vs Q E hr h => ?_)
  · obtain ⟨n, rfl, _⟩ := h
    rfl
  · obtain ⟨n, rfl, k⟩ := h
    refine ⟨_, (pss_one (ps_ret (pe_op op_add (pe_op op_fdiv (pv 0) pe_int) pe_int))), ?_⟩
    exact ⟨_, rfl, _, _, rfl, rfl, ⟨by decide, by decide⟩, _, _, rfl, rfl, k⟩
end
end Mc
namespace Mc
open PySem L2 PySem.Spec PyProof.Rows

structure TxW (K : PySem.W.Frag) (mg : Str → Option Value) (CK CN CB : Addr) : Prop extends TxK K mg CK CN where
  range : mg "range" = none
  B : TxB K mg CB
  xf : XfC K CB
  nName : PySem.W.findIn K (.ref CB) "name" = some none
  te : PySem.W.exmOne K (.ref CB) (.ref CB) = some true
def LS (CK d ke a : Addr) (st sl ll wl : Addr) (v : List (Option V)) : L2.St := [some (.ref a), some (.ref d), some (.ref ke), some (.ref st), some (.ref sl), some (.ref ll), some (.ref wl)] ++ v
def LI (K : PySem.W.Frag) (CK d ke a : Addr) (i : Nat) (σ : L2.St) (H : Hp) : Prop := ∃ (st sl ll wl : Addr) (rs lo : List Rec) (wa : List Ans) (v7 v8 v9 v10 v11 v12 v13 v14 v15 v16 : Option V),
  σ = [some (.ref a), some (.ref d), some (.ref ke), some (.ref st), some (.ref sl), some (.ref ll), some (.ref wl), v7, v8, v9, v10, v11, v12, v13, v14, v15, v16] ∧ WW K CK d ke st a H rs lo wa sl ll wl ∧ (rs ++ lo).length ≤ i ∧ wa.length ≤ i
def spLaw (K : PySem.W.Frag) : Sp := fun vs H Q _ => ∃ (a : Addr) (ns : List Int), vs = [.ref a] ∧ SqL K H a (ns.map V.int) ∧ ns.length ≤ 63 ∧ ∀ H', Q (.bl true) H'
section
variable {P : Program} {w : World} {K : PySem.W.Frag} {mg : Str → Option Value} {base : Heap} {CK CN CB : Addr}
abbrev s_law : Stmt := top 14
theorem sc_law : FnScope ["script", "draw", "keeper", "state", "settled", "loose", "waiting", "turn", "kind", "epoch", "letter", "record", "answer", "many", "known", "wrong", "fault"] ["script"] (defScope s_law) := ⟨rfl, rfl, rfl, by decide +kernel, rfl, by decide +kernel, by decide +kernel⟩
theorem lenO {α : Type} {F : Hp → Addr → α → Prop} {H : Hp} {xs : List α} {as : List Addr} (p : Paired (F H) as xs) (h : xs.length ≤ 500) (n : Nat) (hn : n ≤ 100) : (as.map V.ref).length + n ≤ sizeLine := by
  rw [TT.len p]
  exact Nat.le_of_lt (small1000 (by omega))
theorem ok_law {f : Addr} {fd : FuncData} (F : Fun K "law" "law" s_law f fd) (T : TxW K mg CK CN CB) (c__law_take : Cal P w K mg base 2 "_law_take" ["draw", "many"] (spTake K)) (c_Keeper : CalI P w K mg base CK 1 "Keeper" ["self", "number"] (spKeI CK))
    (c__law_row : Cal P w K mg base 1 "_law_row" ["records"] spLrow) (c__law_come : Cal P w K mg base 1 "_law_come" ["state", "letter"] spCome) (c_Keeper_handle : CalM P w K mg base CK 4 "handle" ["self", "letter"] (spHd CK))
    (c_Keeper_flush : CalM P w K mg base CK 1 "flush" ["self"] (spFlush CK)) (c_Keeper_fall : CalMX P w K mg base CK 4 "fall" ["self", "many"] (spFall CK CB)) (c_Keeper_kept : CalM P w K mg base CK 3 "kept" ["self"] (spKept CK CN)) (c_most_of : Cal P w K mg base 1 "most_of" ["many"] spMost) :
    FnOk P w K mg base CX0 5 f fd ["script"] (spLaw K) := by
  refine F.ok sc_law (fun vs H Q E h => ?_) (fun cdv A outer s H vs Q E hr h => ?_)
  · obtain ⟨a, ns, rfl, _⟩ := h
    rfl
  · obtain ⟨a, ns, rfl, hS, hlen, k⟩ := h
    have hu := hu_of hr
    refine ⟨_, (pss_cons (ps_set (i := 1) sc_law.nd rfl (Or.inl rfl) (pe_lst (pa_cons (pv 0) (pa_cons pe_int pa_nil))))
      (pss_cons (ps_asg (pe_tup (pa_cons (pe_calI c_Keeper (hr.mono (by decide)) rfl (pa_cons pe_int pa_nil)) (pa_cons (pe_cal c__law_row (hr.mono (by decide)) rfl (pa_cons (pe_lst pa_nil) pa_nil)) (pa_cons (pe_lst pa_nil) (pa_cons (pe_lst pa_nil) (pa_cons (pe_lst pa_nil) pa_nil)))))) (pg_tup rfl (pgs_cons (pg_name (i := 2) sc_law.nd rfl (Or.inl rfl)) (pgs_cons (pg_name (i := 3) sc_law.nd rfl (Or.inl rfl)) (pgs_cons (pg_name (i := 4) sc_law.nd rfl (Or.inl rfl)) (pgs_cons (pg_name (i := 5) sc_law.nd rfl (Or.inl rfl)) (pgs_cons (pg_name (i := 6) sc_law.nd rfl (Or.inl rfl)) pgs_nil)))))))
      (pss_cons (ps_for PassesOwn.never rfl (pi_range1 (by rfl) T.range (pa_cons (pe_op op_add pe_int (pe_cal c__law_take (hr.mono (by decide)) rfl (pa_cons (pv 1) (pa_cons pe_int pa_nil)))) pa_nil)) (pg_name (i := 7) sc_law.nd rfl (Or.inl rfl))
        (pss_cons (ps_par (i := 8) (j := 9) rfl sc_law.nd rfl rfl (by decide) rfl rfl (pa_cons (pe_cal c__law_take (hr.mono (by decide)) rfl (pa_cons (pv 1) (pa_cons pe_int pa_nil))) (pa_cons (pe_cal c__law_take (hr.mono (by decide)) rfl (pa_cons (pv 1) (pa_cons pe_int pa_nil))) pa_nil)) (by rfl))
        (Evl.pss_cut (ps_if (pt_cmpR op_lt (pv 8) pe_int (nomark _))
          (Evl.pss_cut (ps_set (i := 10) sc_law.nd rfl (Or.inl rfl) (pe_ifExp (pt_cmpR op_eq (pv 8) pe_int (nomark _)) (pe_tup (pa_cons pe_str (pa_cons (pv 9) (pa_cons pe_int pa_nil)))) (pe_tup (pa_cons pe_str (pa_cons (pv 9) (pa_cons pe_int (pa_cons (pe_cal c__law_take (hr.mono (by decide)) rfl (pa_cons (pv 1) (pa_cons pe_int pa_nil))) (pa_cons (pe_cal c__law_take (hr.mono (by decide)) rfl (pa_cons (pv 1) (pa_cons pe_int pa_nil))) pa_nil))))))))
          (pss_cons (ps_asg (pe_cal c__law_come (hr.mono (by decide)) rfl (pa_cons (pv 3) (pa_cons (pv 10) pa_nil))) (pg_tup rfl (pgs_cons (pg_name (i := 11) sc_law.nd rfl (Or.inl rfl)) (pgs_cons (pg_name (i := 12) sc_law.nd rfl (Or.inl rfl)) pgs_nil))))
          (pss_cons (ps_expr (pe_calM (pv 2) T.cl c_Keeper_handle (hr.mono (by decide)) (pa_cons (pv 10) pa_nil)))
          (Evl.pss_cut (ps_set (i := 5) sc_law.nd rfl (Or.inl rfl) (pe_op op_cat (pv 5) (pe_ifExp (pt_cmpR op_notN (pv 11) pe_non (nomark _)) (pe_lst (pa_cons (pv 11) pa_nil)) (pe_lst pa_nil))))
          (pss_one (ps_set (i := 6) sc_law.nd rfl (Or.inl rfl) (pe_op op_cat (pv 6) (pe_ifExp (pt_cmpR op_notN (pv 12) pe_non (nomark _)) (pe_lst (pa_cons (pv 12) pa_nil)) (pe_lst pa_nil)))))))))
          (pss_one (ps_if (pt_cmpR op_eq (pv 8) pe_int (nomark _))
            (pss_cons (ps_if (pt_cmpR (op_neD hr.units) (pe_calM0 (pv 2) T.cl c_Keeper_flush (hr.mono (by decide))) (pe_tupleOf (by rfl) T.tuple (pv 6)) (nomark _))
              (pss_one (ps_ret pe_bl))
              pss_nil)
            (pss_one (ps_par3 (i := 4) (j := 5) (l := 6) rfl sc_law.nd rfl rfl rfl (by decide) (by decide) (by decide) rfl rfl rfl (pa_cons (pe_op op_cat (pv 4) (pv 5)) (pa_cons (pe_lst pa_nil) (pa_cons (pe_lst pa_nil) pa_nil))) (by rfl))))
            (pss_one (ps_if (pt_cmpR op_eq (pe_cal c__law_take (hr.mono (by decide)) rfl (pa_cons (pv 1) (pa_cons pe_int pa_nil))) pe_int (nomark _))
              (pss_cons (ps_set (i := 13) sc_law.nd rfl (Or.inl rfl) (pe_cal c__law_take (hr.mono (by decide)) rfl (pa_cons (pv 1) (pa_cons (pe_op op_add (pe_callB call_len_seq (by rfl) T.len PySem.boot_len (pa_cons (pv 5) pa_nil)) pe_int) pa_nil))))
              (pss_cons (ps_expr (pe_calMX (pv 2) T.cl c_Keeper_fall (hr.mono (by decide)) noE (pa_cons (pv 13) pa_nil)))
              (pss_cons (ps_par3 (i := 4) (j := 5) (l := 6) rfl sc_law.nd rfl rfl rfl (by decide) (by decide) (by decide) rfl rfl rfl (pa_cons (pe_op op_cat (pv 4) (pe_slice sl_list (pv 5) po_none (po_some (pv 13)))) (pa_cons (pe_lst pa_nil) (pa_cons (pe_lst pa_nil) pa_nil))) (by rfl))
              (pss_one (ps_set (i := 3) sc_law.nd rfl (Or.inl rfl) (pe_cal c__law_row (hr.mono (by decide)) rfl (pa_cons (pv 4) pa_nil)))))))
              pss_nil)))))
        (pss_cons (ps_set (i := 14) sc_law.nd rfl (Or.inl rfl) (pe_calM0 (pv 2) T.cl c_Keeper_kept (hr.mono (by decide))))
        (pss_cons (ps_if (PW.pt (pw_or (pt_cmpR (op_neD hr.units) (pe_tup (pa_cons (pe_fld (pv 14) rfl) (pa_cons (pe_fld (pv 14) rfl) pa_nil))) (pe_tup (pa_cons (pe_dget hu (pv 3) pe_str (fun _ _ => rfl)) (pa_cons (pe_dget hu (pv 3) pe_str (fun _ _ => rfl)) pa_nil))) (nomark _)) (pw_or (pt_cmpR (op_neD hr.units) (pe_fld (pv 2) rfl) (pe_tupleOf (by rfl) T.tuple (pv 4)) (nomark _)) (pw_or1 (pt_cmpR (op_neD hr.units) (pe_fld (pv 2) rfl) (pe_tupleOf (by rfl) T.tuple (pv 5)) (nomark _))))))
          (pss_one (ps_ret pe_bl))
          pss_nil)
        (pss_one (ps_if (pt_cmpR (op_neD hr.units) (pe_fld (pv 2) rfl) (pe_tupleOf (by rfl) T.tuple (pv 6)) (nomark _))
          (pss_one (ps_ret pe_bl))
          pss_nil)))))))
      (pss_cons (ps_for PassesOwn.never rfl (pi_tup (pe_tup (pa_cons (pe_un un_neg pe_int) (pa_cons (pe_op op_add (pe_callB call_len_seq (by rfl) T.len PySem.boot_len (pa_cons (pv 5) pa_nil)) pe_int) (pa_cons pe_str pa_nil))))) (pg_name (i := 15) sc_law.nd rfl (Or.inl rfl))
        (pss_one (ps_tryAs (i := 16) (Wout := fun _ _ _ _ => False) rfl rfl sc_law.nd rfl rfl ⟨rfl, by decide, Or.inl T.B.mg⟩ takes0
          (fun W pn xe tk _ => pss_cons (ps_expr (pe_calMX (pv 2) T.cl c_Keeper_fall (hr.mono (by decide)) (fun σ => passAt tk σ) (pa_cons (pv 15) pa_nil))) (pss_one (ps_ret pe_bl)))
          (fun a oe cls d pn hz hf => pss_one (ps_if (pt_cmpR op_ne (pe_xf T.xf T.nName hz hf (pv 16)) (pv 15) (nomark _)) (pss_one (ps_ret pe_bl)) pss_nil)))))
      (pss_one (ps_ret (pe_cmpR (op_eqD hr.units) (pe_lc (own := [("many", 13)]) (g := gName 13) (tt := tYes) rfl sc_law.nd (pi_tup (pe_tup (pa_cons pe_int (pa_cons pe_int (pa_cons pe_int (pa_cons pe_int (pa_cons pe_int pa_nil))))))) (blkOk_by (own := [("many", 13)]) (N := ["script", "draw", "keeper", "state", "settled", "loose", "waiting", "turn", "kind", "epoch", "letter", "record", "answer", "many", "known", "wrong", "fault"]) (sc := defScope s_law) (by decide +kernel)) (fun _ _ _ _ _ => pg_name (i := 13) sc_law.nd rfl (Or.inl rfl)) (fun _ _ _ _ _ => pts_nil) (fun _ _ _ _ _ => (pe_cal c_most_of (hr.mono (by decide)) rfl (pa_cons (pv 13) pa_nil)))) (pe_lst (pa_cons pe_int (pa_cons pe_int (pa_cons pe_int (pa_cons pe_int (pa_cons pe_int pa_nil)))))) (nomark _)))))))), ?_⟩
    -- draw = [script, 0]
    refine ⟨_, rfl, (by show 2 ≤ sizeLine; decide), fun d hd => ?_⟩
    have D0 : Dr K [d] d a (upd H d (.lst [.ref a, .int 0])) := Dr.mk' hS hlen hd
    generalize upd H d (.lst [.ref a, .int 0]) = H0 at D0 ⊢
    clear hS hd
    -- keeper, state, settled, loose, waiting
    intro ke dx hke hdx nex
    have s1 : Same H0 (upd (upd H0 dx (.own ke)) ke (.ins CK dx [])) := fun b o z => by rw [upd_ne (ne_of_none z hke), upd_ne (ne_of_none z hdx)]; exact z
    refine ⟨ke, dx, rfl, upd_same, fun H1 KE k1 t1 => ⟨rfl, ?_⟩⟩
    have k01 : Kp [ke] H0 H1 := (Kp.same s1).trans k1
    have D1 : Dr K [d, ke] d a H1 := ((D0.grow hke).keep (k01.mono (by simp)) fun o z => k01 _ _ z (by simp; exact ne_of_none z hke)).sub (by simp) (by simp)
    refine ⟨Nat.zero_le _, fun e0 he0 => ⟨e0, [], rfl, ⟨[], upd_same, .nil⟩, trivial, Nat.zero_le _, fun st H2 hst s2 ST => ?_⟩⟩
    have s12 : Same H1 H2 := Same.tr (Same.new he0) s2
    have hst1 : H1 st = none := by
      cases z : H1 st with
      | none => rfl
      | some o => rw [Same.new he0 _ _ z] at hst; cases hst
    have D2 : Dr K [d, ke, st] d a H2 := ((D1.grow hst1).sub (by simp) (by simp)).same s12
    have KE2 := KE.same s12
    refine ⟨Nat.zero_le _, fun sl hsl => ⟨Nat.zero_le _, fun ll hll => ⟨Nat.zero_le _, fun wl hwl => ⟨(by show 5 ≤ sizeLine; decide), fun tp htp => ?_⟩⟩⟩⟩
    have n1 : sl ≠ ll := ne_of_none upd_same hll
    have n2 : sl ≠ wl := ne_of_none (o := .lst []) (by rw [upd_ne n1, upd_same]) hwl
    have n3 : ll ≠ wl := ne_of_none upd_same hwl
    have n4 : sl ≠ tp := ne_of_none (o := .lst []) (by rw [upd_ne n2, upd_ne n1, upd_same]) htp
    have n5 : ll ≠ tp := ne_of_none (o := .lst []) (by rw [upd_ne n3, upd_same]) htp
    have n6 : wl ≠ tp := ne_of_none upd_same htp
    have s3 : Same H2 (upd (upd (upd (upd H2 sl (.lst [])) ll (.lst [])) wl (.lst [])) tp (.tup [.ref ke, .ref st, .ref sl, .ref ll, .ref wl])) := Same.tr (Same.new hsl) (Same.tr (Same.new hll) (Same.tr (Same.new hwl) (Same.new htp)))
    have g1 : upd (upd (upd (upd H2 sl (.lst [])) ll (.lst [])) wl (.lst [])) tp (.tup [.ref ke, .ref st, .ref sl, .ref ll, .ref wl]) sl = some (.lst []) := by rw [upd_ne n4, upd_ne n2, upd_ne n1, upd_same]
    have g2 : upd (upd (upd (upd H2 sl (.lst [])) ll (.lst [])) wl (.lst [])) tp (.tup [.ref ke, .ref st, .ref sl, .ref ll, .ref wl]) ll = some (.lst []) := by rw [upd_ne n5, upd_ne n3, upd_same]
    have g3 : upd (upd (upd (upd H2 sl (.lst [])) ll (.lst [])) wl (.lst [])) tp (.tup [.ref ke, .ref st, .ref sl, .ref ll, .ref wl]) wl = some (.lst []) := by rw [upd_ne n6, upd_same]
    have g4 : upd (upd (upd (upd H2 sl (.lst [])) ll (.lst [])) wl (.lst [])) tp (.tup [.ref ke, .ref st, .ref sl, .ref ll, .ref wl]) tp = some (.tup [.ref ke, .ref st, .ref sl, .ref ll, .ref wl]) := upd_same
    generalize upd (upd (upd (upd H2 sl (.lst [])) ll (.lst [])) wl (.lst [])) tp (.tup [.ref ke, .ref st, .ref sl, .ref ll, .ref wl]) = H3 at s3 g1 g2 g3 g4 ⊢
    have I3 : WW K CK d ke st a H3 [] [] [] sl ll wl := ⟨D2.same s3, KE2.same s3, ST.same s3, ⟨[], g1, .nil⟩, ⟨[], g2, .nil⟩, ⟨[], g3, .nil⟩, trivial⟩
    clear s1 k1 t1 k01 D0 D1 D2 KE KE2 ST s2 s12 hst hst1 he0
    refine ⟨tp, _, rfl, SqT.of g4, rfl, _, _, rfl, _, _, rfl, _, _, rfl, _, _, rfl, _, _, rfl, rfl, ?_⟩
    clear g1 g2 g3 g4 n1 n2 n3 n4 n5 n6 hsl hll hwl htp s3
    -- the turns
    refine ⟨_, rfl, [d, ke, st], d, a, 30, rfl, I3.dr, by decide, fun v H4 hv0 hv1 D4 k4 => ⟨_, _, rfl, rfl, 30 + v, rfl, by omega, by omega, ?_⟩⟩
    have I4 := I3.draw D4 k4
    clear I3 k4 D4
    refine for_range (lo := 0) (n := (30 + v).toNat) (LI K CK d ke a) ⟨st, sl, ll, wl, [], [], [], _, _, _, _, _, _, _, _, _, _, rfl, I4, Nat.le_refl _, Nat.le_refl _⟩ ?_ ?_
    · rintro i σ H5 hi ⟨st, sl, ll, wl, rs, lo, wa, v7, v8, v9, v10, v11, v12, v13, v14, v15, v16, rfl, I5, hln, hwn⟩
      have hi2 : i < 60 := by omega
      -- kind, epoch
      refine ⟨_, rfl, [d, ke, st], d, a, 8, rfl, I5.dr, by decide, fun kind H6 kd0 kd1 D6 k6 => ⟨_, rfl, [d, ke, st], d, a, 4, rfl, (I5.draw D6 k6).dr, by decide, fun ep H7 ep0 ep1 D7 k7 => ⟨_, _, rfl, ?_⟩⟩⟩
      have I7 := (I5.draw D6 k6).draw D7 k7
      clear I5 D6 k6 D7 k7
      dsimp only
      refine ⟨fun σ' H' => ∃ (st sl ll wl : Addr) (rs lo : List Rec) (wa : List Ans) (v8 v9 v10 v11 v12 v13 v14 v15 v16 : Option V),
        σ' = [some (.ref a), some (.ref d), some (.ref ke), some (.ref st), some (.ref sl), some (.ref ll), some (.ref wl), some (.int (0 + (i : Int))), v8, v9, v10, v11, v12, v13, v14, v15, v16] ∧ WW K CK d ke st a H' rs lo wa sl ll wl ∧ (rs ++ lo).length ≤ i + 1 ∧ wa.length ≤ i + 1, ?_, ?_⟩
      · refine ⟨_, rfl, _, _, rfl, rfl, _, rfl, ?_⟩
        refine ite2 (fun _ => ?_) (fun _ => ?_)
        · -- a letter
          refine ⟨fun σ' H' => ∃ (la : Addr) (l : Ltr), σ' = [some (.ref a), some (.ref d), some (.ref ke), some (.ref st), some (.ref sl), some (.ref ll), some (.ref wl), some (.int (0 + (i : Int))), some (.int kind), some (.int ep), some (.ref la), v11, v12, v13, v14, v15, v16] ∧ LtrAt H' la l ∧ WW K CK d ke st a H' rs lo wa sl ll wl, ?_, ?_⟩
          · refine ⟨_, rfl, rfl, _, rfl, ?_⟩
            refine ite2 (fun _ => ?_) (fun _ => ?_)
            · refine ⟨_, rfl, (by show 3 ≤ sizeLine; decide), fun la hla => ⟨la, .ask ep, rfl, upd_same, I7.same (Same.new hla)⟩⟩
            · refine ⟨_, rfl, _, rfl, [d, ke, st], d, a, 4, rfl, I7.dr, by decide, fun p H8 p0 _ D8 k8 => ⟨_, rfl, [d, ke, st], d, a, 3, rfl, (I7.draw D8 k8).dr, by decide, fun x H9 _ _ D9 k9 => ⟨(by show 5 ≤ sizeLine; decide), fun la hla => ?_⟩⟩⟩
              have I9 := (I7.draw D8 k8).draw D9 k9
              obtain ⟨q, rfl⟩ : ∃ q : Nat, p = q := ⟨p.toNat, by omega⟩
              exact ⟨la, .write ep q x, rfl, upd_same, I9.same (Same.new hla)⟩
          · rintro σ' H8 ⟨la, l, rfl, hl, I8⟩
            have wf := I8.wf
            have hk : (Kn.new.all (rs ++ lo)).row.length ≤ 490 := by
              have := Kn.all_len wf
              have z : Kn.new.row.length = 0 := rfl
              omega
            refine ⟨_, rfl, _, rfl, st, la, _, l, rfl, I8.st, hl, hk, fun t rv av H9 ht hr9 ha9 st9 k9 t9 => ?_⟩
            obtain ⟨D9, KE9, sl9, ll9, wl9, _⟩ := I8.stp k9
            have hl9 : LtrAt H9 la l := t9 _ _ hl
            refine ⟨t, _, rfl, SqT.of ht, rfl, _, _, rfl, _, _, rfl, rfl, ?_⟩
            obtain ⟨dx9, _, _, _, hke9, _⟩ := id KE9
            dsimp only
            refine ⟨_, rfl, ke, dx9, _, rfl, hke9, rfl, _, rfl, ke, la, rs, lo, wa, l, rfl, KE9, hl9, wf, by omega, by omega, fun HA KA kA tA => ?_⟩
            have wfA : Kn.new.wf (rs ++ (lo ++ oList ((Kn.new.all (rs ++ lo)).recOf l))) := by
              rw [← List.append_assoc]
              exact Kn.wf_app.mpr ⟨wf, recOf_ok⟩
            rw [show (Kn.new.all (rs ++ lo)).all (oList ((Kn.new.all (rs ++ lo)).recOf l)) = Kn.new.all (rs ++ (lo ++ oList ((Kn.new.all (rs ++ lo)).recOf l))) by rw [← List.append_assoc]; exact (Kn.all_app _ _ _).symm] at st9
            obtain ⟨e1, e2, e3⟩ := I8.ne
            have nk : ∀ x ∈ [ke], NU H9 x := fun x hx => by rw [List.mem_singleton.mp hx]; exact NU.ins hke9
            have DA := D9.keep (kA.mono (by simp)) fun o z => kA _ _ z (by simp; exact e1)
            have stA := st9.kp kA nk (by simp; exact Ne.symm e3)
            have slA := sl9.kp recStay kA nk
            have llA := ll9.kp recStay kA nk
            have wlA := wl9.kp ansStay kA nk
            have rA := Opt.stay (F := RecAt) recStay tA hr9
            have aA := Opt.stay (F := AnsAt) ansStay tA ha9
            generalize (Kn.new.all (rs ++ lo)).recOf l = ro at KA wfA stA rA
            generalize (Kn.new.all (rs ++ lo)).ansOf l = ao at KA aA
            clear I8 hl hk hr9 ha9 st9 k9 t9 D9 KE9 sl9 ll9 wl9 hl9 ht hke9 nk kA tA
            refine ⟨fun σ' H' => ∃ (p : Addr), σ' = [some (.ref a), some (.ref d), some (.ref ke), some (.ref st), some (.ref sl), some (.ref p), some (.ref wl), some (.int (0 + (i : Int))), some (.int kind), some (.int ep), some (.ref la), some rv, some av, v13, v14, v15, v16] ∧ LL RecAt H' p (lo ++ oList ro) ∧ Same HA H', ?_, ?_⟩
            · obtain ⟨al, hal, pal⟩ := llA
              refine ⟨_, rfl, _, rfl, rfl, _, rfl, ?_⟩
              cases ro with
              | none =>
                obtain rfl : rv = .non := rA
                refine ite2 (fun h => absurd h (by decide)) (fun _ => ?_)
                refine ⟨Nat.zero_le _, fun p hp => ⟨ll, p, _, _, rfl, rfl, Same.new hp _ _ hal, upd_same, lenO pal (by rw [List.length_append] at hln; omega) 0 (by decide), fun q hq => ⟨q, rfl, ⟨al, ?_, ?_⟩, Same.tr (Same.new hp) (Same.new hq)⟩⟩⟩
                · rw [upd_same, List.append_nil]
                · rw [show lo ++ oList (none : Option Rec) = lo from List.append_nil lo]
                  exact Paired.mapP pal fun x y => recStay (Tp.same (Same.tr (Same.new hp) (Same.new hq)))
              | some r =>
                obtain ⟨ra, rfl, hra⟩ := rA
                refine ite2 (fun _ => ?_) (fun h => absurd rfl h)
                refine ⟨_, rfl, (by show 1 ≤ sizeLine; decide), fun p hp => ⟨ll, p, _, _, rfl, rfl, Same.new hp _ _ hal, upd_same, lenO pal (by rw [List.length_append] at hln; omega) 1 (by decide), fun q hq => ⟨q, rfl, ⟨al ++ [ra], ?_, Paired.app (Paired.mapP pal fun x y => recStay (Tp.same (Same.tr (Same.new hp) (Same.new hq)))) (.cons (recStay (Tp.same (Same.tr (Same.new hp) (Same.new hq))) hra) .nil)⟩, Same.tr (Same.new hp) (Same.new hq)⟩⟩⟩
                rw [upd_same, List.map_append]
                rfl
            · rintro σ' HB ⟨p, rfl, llB, sB⟩
              obtain ⟨al, hal, pal⟩ := wlA.sa sB
              have aB := Opt.stay (F := AnsAt) ansStay (Tp.same sB) aA
              have l1 : (rs ++ (lo ++ oList ro)).length ≤ i + 1 := by rw [← List.append_assoc]; exact oList_app_len _ _ _ hln
              refine ⟨_, rfl, _, rfl, rfl, _, rfl, ?_⟩
              cases ao with
              | none =>
                obtain rfl : av = .non := aB
                refine ite2 (fun h => absurd h (by decide)) (fun _ => ?_)
                refine ⟨Nat.zero_le _, fun p2 hp => ⟨wl, p2, _, _, rfl, rfl, Same.new hp _ _ hal, upd_same, lenO pal (by omega) 0 (by decide), fun q hq => ?_⟩⟩
                have s2 := Same.tr (Same.new (o := .lst []) hp) (Same.new (o := .lst (al.map V.ref ++ [])) hq)
                have sA2 := Same.tr sB s2
                refine ⟨st, sl, p, q, rs, lo ++ oList ro, wa ++ oList none, _, _, _, _, _, _, _, _, _, rfl, ⟨DA.same sA2, KA.same sA2, stA.same sA2, slA.sr sA2, llB.sr s2, ⟨al, ?_, ?_⟩, wfA⟩, l1, oList_app_len _ _ _ hwn⟩
                · rw [upd_same, List.append_nil]
                · rw [show wa ++ oList (none : Option Ans) = wa from List.append_nil wa]
                  exact Paired.mapP pal fun x y => ansStay (Tp.same s2)
              | some r =>
                obtain ⟨ra, rfl, hra⟩ := aB
                refine ite2 (fun _ => ?_) (fun h => absurd rfl h)
                refine ⟨_, rfl, (by show 1 ≤ sizeLine; decide), fun p2 hp => ⟨wl, p2, _, _, rfl, rfl, Same.new hp _ _ hal, upd_same, lenO pal (by omega) 1 (by decide), fun q hq => ?_⟩⟩
                have s2 := Same.tr (Same.new (o := .lst [.ref ra]) hp) (Same.new (o := .lst (al.map V.ref ++ [.ref ra])) hq)
                have sA2 := Same.tr sB s2
                refine ⟨st, sl, p, q, rs, lo ++ oList ro, wa ++ oList (some r), _, _, _, _, _, _, _, _, _, rfl, ⟨DA.same sA2, KA.same sA2, stA.same sA2, slA.sr sA2, llB.sr s2, ⟨al ++ [ra], ?_, Paired.app (Paired.mapP pal fun x y => ansStay (Tp.same s2)) (.cons (ansStay (Tp.same s2) hra) .nil)⟩, wfA⟩, l1, oList_app_len _ _ _ hwn⟩
                rw [upd_same, List.map_append]
                rfl
        · refine ⟨_, rfl, rfl, _, rfl, ?_⟩
          refine ite2 (fun _ => ?_) (fun _ => ?_)
          · -- flush
            obtain ⟨dx7, _, _, _, hke7, _⟩ := id I7.ke
            refine ⟨_, rfl, ke, dx7, _, rfl, hke7, rfl, ke, rs, lo, wa, rfl, I7.ke, by omega, fun t H8 KE8 tw8 k8 t8 => ?_⟩
            obtain ⟨D8, ST8, sl8, ll8, wl8, _⟩ := I7.kep k8
            obtain ⟨awl, hwl8, pwl8⟩ := id wl8
            refine ⟨_, rfl, .inl ⟨wl, _, rfl, SqL.of hwl8, fun q hq => ?_⟩⟩
            have s9 : Same H8 (upd H8 q (.tup (awl.map V.ref))) := Same.new hq
            have g9 : TT AnsAt (upd H8 q (.tup (awl.map V.ref))) q wa := ⟨awl, upd_same, Paired.mapP pwl8 fun x y => ansStay (Tp.same s9)⟩
            refine ne_same (DOk.tup (okMap okAns wa)) (by decide) (dpTT dpAns (tw8.sa s9)) (dpTT dpAns g9) ⟨_, rfl, ?_⟩
            refine ite2 (fun h => absurd h (by decide)) (fun _ => ?_)
            have KE9 := KE8.same s9
            have D9 := D8.same s9
            have ST9 := ST8.same s9
            obtain ⟨as9, hsl9, ps9⟩ := sl8.sr s9
            obtain ⟨al9, hll9, pl9⟩ := ll8.sr s9
            generalize upd H8 q (.tup (awl.map V.ref)) = H9 at KE9 D9 ST9 hsl9 ps9 hll9 pl9 ⊢
            rw [List.length_append] at hln
            refine ⟨_, rfl, _, rfl, sl, ll, _, _, rfl, rfl, hsl9, hll9, by rw [TT.len ps9, TT.len pl9]; exact Nat.le_of_lt (small1000 (by omega)), fun p hp => ⟨Nat.zero_le _, fun p2 hp2 => ⟨Nat.zero_le _, fun p3 hp3 => ⟨_, _, _, rfl, ?_⟩⟩⟩⟩
            have m1 : p ≠ p2 := ne_of_none upd_same hp2
            have m2 : p ≠ p3 := ne_of_none (o := .lst (as9.map V.ref ++ al9.map V.ref)) (by rw [upd_ne m1, upd_same]) hp3
            have m3 : p2 ≠ p3 := ne_of_none upd_same hp3
            have sC : Same H9 (upd (upd (upd H9 p (.lst (as9.map V.ref ++ al9.map V.ref))) p2 (.lst [])) p3 (.lst [])) := Same.tr (Same.new hp) (Same.tr (Same.new hp2) (Same.new hp3))
            refine ⟨st, p, p2, p3, rs ++ lo, [], [], _, _, _, _, _, _, _, _, _, rfl, ⟨D9.same sC, KE9.same sC, ?_, ⟨as9 ++ al9, ?_, Paired.mapP (Paired.app ps9 pl9) fun x y => recStay (Tp.same sC)⟩, ⟨[], ?_, .nil⟩, ⟨[], ?_, .nil⟩, ?_⟩, ?_, Nat.zero_le _⟩
            · rw [List.append_nil]; exact ST9.same sC
            · rw [upd_ne m2, upd_ne m1, upd_same, List.map_append]
            · rw [upd_ne m3, upd_same]; rfl
            · rw [upd_same]; rfl
            · rw [List.append_nil]; exact I7.wf
            · rw [List.append_nil, List.length_append]; omega
          · refine ⟨_, rfl, [d, ke, st], d, a, 2, rfl, I7.dr, by decide, fun v2 H8 _ _ D8 k8 => ⟨rfl, _, rfl, ?_⟩⟩
            have I8 := I7.draw D8 k8
            refine ite2 (fun _ => ?_) (fun _ => ?_)
            · -- fall
              obtain ⟨al8, hll8, pl8⟩ := id I8.ll
              have lenL : (al8.map V.ref).length = lo.length := TT.len pl8
              refine ⟨_, rfl, _, rfl, ll, _, rfl, .inl (SqL.of hll8), _, _, rfl, rfl, [d, ke, st], d, a, _, rfl, I8.dr, by omega, fun m H9 m0 m1 D9 k9 => ?_⟩
              have I9 := I8.draw D9 k9
              obtain ⟨n, rfl⟩ : ∃ n : Nat, m = n := ⟨m.toNat, by omega⟩
              have hn : n ≤ lo.length := by rw [lenL] at m1; omega
              obtain ⟨dx9, _, _, _, hke9, _⟩ := id I9.ke
              refine ⟨_, rfl, ke, dx9, _, rfl, hke9, rfl, _, rfl, ke, rs, lo, wa, _, rfl, I9.ke, by omega, .inl ⟨n, rfl, hn, fun HA KA kA tA => ?_⟩⟩
              obtain ⟨DA, STA, slA, llA, wlA, _⟩ := I9.kep kA
              obtain ⟨asA, hslA, psA⟩ := id slA
              obtain ⟨alA, hllA, plA⟩ := id llA
              rw [List.length_append] at hln
              refine ⟨_, rfl, _, rfl, _, rfl, (n : Int), rfl, ll, _, rfl, SqL.of hllA, fun u hu' => ?_⟩
              rw [cut_take _ _ (by rw [TT.len plA]; exact hn)]
              have nsu : sl ≠ u := ne_of_none hslA hu'
              refine ⟨sl, u, _, _, rfl, rfl, Same.new hu' _ _ hslA, upd_same, by rw [TT.len psA, List.length_take, TT.len plA]; exact Nat.le_of_lt (small1000 (by omega)), fun p hp => ⟨Nat.zero_le _, fun p2 hp2 => ⟨Nat.zero_le _, fun p3 hp3 => ⟨_, _, _, rfl, ?_⟩⟩⟩⟩
              have m1 : p ≠ p2 := ne_of_none upd_same hp2
              have m2 : p ≠ p3 := ne_of_none (o := .lst (asA.map V.ref ++ (alA.map V.ref).take n)) (by rw [upd_ne m1, upd_same]) hp3
              have m3 : p2 ≠ p3 := ne_of_none upd_same hp3
              have sC : Same HA (upd (upd (upd (upd HA u (.lst ((alA.map V.ref).take n))) p (.lst (asA.map V.ref ++ (alA.map V.ref).take n))) p2 (.lst [])) p3 (.lst [])) := Same.tr (Same.new hu') (Same.tr (Same.new hp) (Same.tr (Same.new hp2) (Same.new hp3)))
              have g1 : upd (upd (upd (upd HA u (.lst ((alA.map V.ref).take n))) p (.lst (asA.map V.ref ++ (alA.map V.ref).take n))) p2 (.lst [])) p3 (.lst []) p = some (.lst ((asA ++ alA.take n).map V.ref)) := by rw [upd_ne m2, upd_ne m1, upd_same, List.map_append, List.map_take]
              have g2 : upd (upd (upd (upd HA u (.lst ((alA.map V.ref).take n))) p (.lst (asA.map V.ref ++ (alA.map V.ref).take n))) p2 (.lst [])) p3 (.lst []) p2 = some (.lst []) := by rw [upd_ne m3, upd_same]
              have g3 : upd (upd (upd (upd HA u (.lst ((alA.map V.ref).take n))) p (.lst (asA.map V.ref ++ (alA.map V.ref).take n))) p2 (.lst [])) p3 (.lst []) p3 = some (.lst []) := upd_same
              generalize upd (upd (upd (upd HA u (.lst ((alA.map V.ref).take n))) p (.lst (asA.map V.ref ++ (alA.map V.ref).take n))) p2 (.lst [])) p3 (.lst []) = HB at sC g1 g2 g3 ⊢
              have pB : Paired (RecAt HB) (asA ++ alA.take n) (rs ++ lo.take n) := Paired.mapP (Paired.app psA (Paired.tk n plA)) fun x y => recStay (Tp.same sC)
              have wfB : Kn.new.wf (rs ++ lo.take n) := by
                have wf := I9.wf
                rw [show rs ++ lo = (rs ++ lo.take n) ++ lo.drop n by rw [List.append_assoc, List.take_append_drop]] at wf
                exact (Kn.wf_app.mp wf).1
              have lB : (rs ++ lo.take n).length ≤ i + 1 := by rw [List.length_append, List.length_take]; omega
              refine ⟨_, rfl, p, rs ++ lo.take n, rfl, ⟨_, g1, pB⟩, wfB, by omega, fun st2 HC hst2 sD STC => ?_⟩
              have DB := DA.same sC
              have DC : Dr K [d, ke, st2] d a HC := ((DB.grow hst2).sub (by simp) (by simp)).same sD
              refine ⟨st2, p, p2, p3, rs ++ lo.take n, [], [], _, _, _, _, _, _, _, _, _, rfl, ⟨DC, (KA.same sC).same sD, ?_, ⟨_, sD _ _ g1, Paired.mapP pB fun x y => recStay (Tp.same sD)⟩, ⟨[], sD _ _ g2, .nil⟩, ⟨[], sD _ _ g3, .nil⟩, ?_⟩, ?_, Nat.zero_le _⟩
              · rw [List.append_nil]; exact STC
              · rw [List.append_nil]; exact wfB
              · rw [List.append_nil]; exact lB
            · exact ⟨st, sl, ll, wl, rs, lo, wa, _, _, _, _, _, _, _, _, _, rfl, I8, by omega, by omega⟩
      · rintro σ' H8 ⟨st, sl, ll, wl, rs, lo, wa, v8, v9, v10, v11, v12, v13, v14, v15, v16, rfl, I8, hl8, hw8⟩
        obtain ⟨dx8, r8, l8, w8, hke8, tr8, tl8, tw8⟩ := id I8.ke
        refine ⟨_, rfl, ke, dx8, _, rfl, hke8, rfl, ke, rs, lo, wa, rfl, I8.ke, I8.wf, by omega, fun kn H9 hkn s9 KN => ?_⟩
        have I9 := I8.same s9
        have hke9 := s9 _ _ hke8
        obtain ⟨dn, ln, hn9, an, hln9, pn9⟩ := KN
        obtain ⟨ls, hst9, as_, hls9, ps9⟩ := id I9.st
        -- (known.epoch, known.row) != (state["epoch"], state["row"])
        refine ⟨_, rfl, kn, CN, dn, _, _, rfl, hn9, T.clN, T.nEp, rfl, _, rfl, kn, CN, dn, _, _, rfl, hn9, T.clN, T.nRow, rfl, (by show 2 ≤ sizeLine; decide), fun u hu1 => ?_⟩
        have sA : Same H9 (upd H9 u (.tup [.int (Kn.new.all (rs ++ lo)).ep, .ref ln])) := Same.new hu1
        refine ⟨_, rfl, st, _, rfl, getE (sA _ _ hst9), _, rfl, st, _, rfl, getR (sA _ _ hst9), (by show 2 ≤ sizeLine; decide), fun v hv => ?_⟩
        have nuv : u ≠ v := ne_of_none upd_same hv
        have sB : Same H9 (upd (upd H9 u (.tup [.int (Kn.new.all (rs ++ lo)).ep, .ref ln])) v (.tup [.int (Kn.new.all (rs ++ lo)).ep, .ref ls])) := Same.tr sA (Same.new hv)
        have gu : upd (upd H9 u (.tup [.int (Kn.new.all (rs ++ lo)).ep, .ref ln])) v (.tup [.int (Kn.new.all (rs ++ lo)).ep, .ref ls]) u = some (.tup [.int (Kn.new.all (rs ++ lo)).ep, .ref ln]) := by rw [upd_ne nuv, upd_same]
        have gv : upd (upd H9 u (.tup [.int (Kn.new.all (rs ++ lo)).ep, .ref ln])) v (.tup [.int (Kn.new.all (rs ++ lo)).ep, .ref ls]) v = some (.tup [.int (Kn.new.all (rs ++ lo)).ep, .ref ls]) := upd_same
        generalize upd (upd H9 u (.tup [.int (Kn.new.all (rs ++ lo)).ep, .ref ln])) v (.tup [.int (Kn.new.all (rs ++ lo)).ep, .ref ls]) = HB at sB gu gv ⊢
        have pst := fun {a : Addr} {x : Int × Int} (h : PairAt H9 a x) => pairStay (Tp.same sB) h
        refine ne_same (d := .tuple [.int (Kn.new.all (rs ++ lo)).ep, .list ((Kn.new.all (rs ++ lo)).row.map prD)]) (DOk.tup (n := 2) (all2 DOk.int (DOk.lst (okMap okPr _)))) (by decide) (.tup (SqT.of gu) (dpA2 (.int _) (dpLL dpPr ⟨an, sB _ _ hln9, Paired.mapP pn9 fun x y => pst⟩))) (.tup (SqT.of gv) (dpA2 (.int _) (dpLL dpPr ⟨as_, sB _ _ hls9, Paired.mapP ps9 fun x y => pst⟩))) ⟨_, rfl, ?_⟩
        refine ite2 (fun h => absurd h (by decide)) (fun _ => ?_)
        have IB := I9.same sB
        have hkeB := sB _ _ hke9
        have trB : TT RecAt HB r8 rs := tr8.same recStay (Same.tr s9 sB)
        have tlB : TT RecAt HB l8 lo := tl8.same recStay (Same.tr s9 sB)
        have twB : TT AnsAt HB w8 wa := tw8.same ansStay (Same.tr s9 sB)
        -- keeper.records != tuple(settled)
        obtain ⟨a1, h1, p1⟩ := id IB.sl
        refine ⟨_, rfl, ke, CK, dx8, _, _, rfl, hkeB, T.cl, T.nRec, rfl, _, rfl, .inl ⟨sl, _, rfl, SqL.of h1, fun q1 hq1 => ?_⟩⟩
        have sC : Same HB (upd HB q1 (.tup (a1.map V.ref))) := Same.new hq1
        refine ne_same (DOk.tup (okMap okRec rs)) (by decide) (dpTT dpRec (trB.same recStay sC)) (dpTT dpRec (⟨a1, upd_same, Paired.mapP p1 fun x y => recStay (Tp.same sC)⟩ : TT RecAt _ q1 rs)) ⟨_, rfl, ?_⟩
        refine ite2 (fun h => absurd h (by decide)) (fun _ => ?_)
        -- keeper.loose != tuple(loose)
        have IC := IB.same sC
        have hkeC := sC _ _ hkeB
        have tlC : TT RecAt _ l8 lo := tlB.same recStay sC
        have twC : TT AnsAt _ w8 wa := twB.same ansStay sC
        generalize upd HB q1 (.tup (a1.map V.ref)) = HC at IC hkeC tlC twC ⊢
        obtain ⟨a2, h2, p2⟩ := id IC.ll
        refine ⟨_, rfl, ke, CK, dx8, _, _, rfl, hkeC, T.cl, T.nLoo, rfl, _, rfl, .inl ⟨ll, _, rfl, SqL.of h2, fun q2 hq2 => ?_⟩⟩
        have sD : Same HC (upd HC q2 (.tup (a2.map V.ref))) := Same.new hq2
        refine ne_same (DOk.tup (okMap okRec lo)) (by decide) (dpTT dpRec (tlC.same recStay sD)) (dpTT dpRec (⟨a2, upd_same, Paired.mapP p2 fun x y => recStay (Tp.same sD)⟩ : TT RecAt _ q2 lo)) ⟨_, rfl, ?_⟩
        refine ite2 (fun h => absurd h (by decide)) (fun _ => ?_)
        -- keeper.waiting != tuple(waiting)
        have ID := IC.same sD
        have hkeD := sD _ _ hkeC
        have twD : TT AnsAt _ w8 wa := twC.same ansStay sD
        generalize upd HC q2 (.tup (a2.map V.ref)) = HD at ID hkeD twD ⊢
        obtain ⟨a3, h3, p3⟩ := id ID.wl
        refine ⟨_, rfl, ke, CK, dx8, _, _, rfl, hkeD, T.cl, T.nWai, rfl, _, rfl, .inl ⟨wl, _, rfl, SqL.of h3, fun q3 hq3 => ?_⟩⟩
        have sE : Same HD (upd HD q3 (.tup (a3.map V.ref))) := Same.new hq3
        refine ne_same (DOk.tup (okMap okAns wa)) (by decide) (dpTT dpAns (twD.same ansStay sE)) (dpTT dpAns (⟨a3, upd_same, Paired.mapP p3 fun x y => ansStay (Tp.same sE)⟩ : TT AnsAt _ q3 wa)) ⟨_, rfl, ?_⟩
        refine ite2 (fun h => absurd h (by decide)) (fun _ => ?_)
        exact ⟨st, sl, ll, wl, rs, lo, wa, _, _, _, _, _, _, _, _, _, _, rfl, ID.same sE, hl8, hw8⟩
    · rintro σ H5 ⟨st, sl, ll, wl, rs, lo, wa, v7, v8, v9, v10, v11, v12, v13, v14, v15, v16, rfl, I5, hln, hwn⟩
      have hlo : lo.length ≤ 100 := by rw [List.length_append] at hln; omega
      obtain ⟨al, hll, pl⟩ := id I5.ll
      have lenL : (al.map V.ref).length = lo.length := TT.len pl
      refine ⟨_, rfl, _, rfl, ll, _, rfl, .inl (SqL.of hll), _, _, rfl, rfl, (by show 3 ≤ sizeLine; decide), fun u hu1 => ?_⟩
      rw [lenL]
      refine ⟨u, rfl, ⟨_, SqT.of upd_same⟩, for_tup (K := K) (a := u) (xs := [.int (-1), .int ((lo.length : Int) + 1), .str "0"]) (fun j σ' H' => ∃ (w15 w16 : Option V), σ' = [some (.ref a), some (.ref d), some (.ref ke), some (.ref st), some (.ref sl), some (.ref ll), some (.ref wl), v7, v8, v9, v10, v11, v12, v13, v14, w15, w16] ∧ WW K CK d ke st a H' rs lo wa sl ll wl ∧ H' u = some (.tup [.int (-1), .int ((lo.length : Int) + 1), .str "0"])) ?_ ?_ ?_ ?_⟩
      · exact ⟨_, _, rfl, I5.same (Same.new hu1), upd_same⟩
      · rintro j σ' H' _ ⟨w15, w16, rfl, _, h⟩
        exact SqT.of h
      · rintro j y σ' H6 hj ⟨w15, w16, rfl, I6, h6⟩
        have hy : (∃ n : Int, y = .int n ∧ ¬ (0 ≤ n ∧ n ≤ lo.length)) ∨ ∃ z, y = .str z := by
          match j, hj with
          | 0, hj => cases hj; exact .inl ⟨-1, rfl, by omega⟩
          | 1, hj => cases hj; exact .inl ⟨_, rfl, by omega⟩
          | 2, hj => cases hj; exact .inr ⟨_, rfl⟩
        obtain ⟨dx6, _, _, _, hke6, _⟩ := id I6.ke
        refine ⟨_, rfl, ke, dx6, _, rfl, hke6, rfl, _, rfl, ke, rs, lo, wa, y, rfl, I6.ke, by omega, .inr ⟨hy, fun dd H7 s7 hd7 => ?_⟩⟩
        refine ⟨true, T.te, fun _ a0 _ => ?_, fun q => Bool.noConfusion q⟩
        refine ⟨_, rfl, rfl, rfl, dd, _, _, rfl, hd7, rfl, _, rfl, ?_⟩
        rcases hy with ⟨n, rfl, _⟩ | ⟨z, rfl⟩
        · refine ⟨rfl, _, rfl, ?_⟩
          refine ite2 (fun h => absurd h (by simp)) (fun _ => ?_)
          exact ⟨_, _, rfl, I6.same s7, s7 _ _ h6⟩
        · refine ⟨rfl, _, rfl, ?_⟩
          refine ite2 (fun h => absurd h (by simp)) (fun _ => ?_)
          exact ⟨_, _, rfl, I6.same s7, s7 _ _ h6⟩
      · rintro σ' H6 ⟨w15, w16, rfl, I6, h6⟩
        refine ⟨(by show 5 ≤ sizeLine; decide), fun u2 hu2 => ⟨u2, rfl, ⟨_, SqT.of upd_same⟩, fun D hD => lc_tup (K := K) (a := u2) (xs := [.int 1, .int 2, .int 3, .int 4, .int 5]) (fun j H' => H' u2 = some (.tup [.int 1, .int 2, .int 3, .int 4, .int 5]) ∧ H' D = some (.lst (([1, 2, 2, 3, 3] : List Int).take j |>.map V.int)))
          ⟨by rw [upd_ne (ne_of_none upd_same hD)]; exact upd_same, upd_same⟩ (fun j H' _ q => SqT.of q.1) ?_ ?_⟩⟩
        · rintro j y H7 hj ⟨hu7, hD7⟩
          have hy : ∃ n m : Int, y = .int n ∧ n / 2 + 1 = m ∧ j < 5 ∧ ([1, 2, 2, 3, 3] : List Int)[j]? = some m := by
            match j, hj with
            | 0, hj => cases hj; exact ⟨1, 1, rfl, by decide, by decide, rfl⟩
            | 1, hj => cases hj; exact ⟨2, 2, rfl, by decide, by decide, rfl⟩
            | 2, hj => cases hj; exact ⟨3, 2, rfl, by decide, by decide, rfl⟩
            | 3, hj => cases hj; exact ⟨4, 3, rfl, by decide, by decide, rfl⟩
            | 4, hj => cases hj; exact ⟨5, 3, rfl, by decide, by decide, rfl⟩
          obtain ⟨n, m, rfl, e1, hj5, e2⟩ := hy
          refine ⟨rfl, _, rfl, n, rfl, ?_⟩
          rw [e1]
          have nDu : D ≠ u2 := ne_of hD7 hu7 (by intro z; cases z)
          refine ⟨_, hD7, small1000 (by rw [List.length_map, List.length_take]; omega), by rw [upd_ne nDu.symm]; exact hu7, ?_⟩
          rw [upd_same, List.take_add_one, e2, List.map_append]
          rfl
        · rintro H7 ⟨hu7, hD7⟩
          refine ⟨(by show 5 ≤ sizeLine; decide), fun p hp => ?_⟩
          have s8 : Same H7 (upd H7 p (.lst [.int 1, .int 2, .int 2, .int 3, .int 3])) := Same.new hp
          refine ⟨_, _, dp_ints (ns := [1, 2, 2, 3, 3]) (SqL.of (s8 _ _ hD7)), dp_ints (ns := [1, 2, 2, 3, 3]) (SqL.of upd_same), shaped_ints _, shaped_ints _, ?_⟩
          rw [eqv_ints]
          exact k _
end
end Mc
namespace Mc
open PySem L2 PySem.Spec PyProof.Rows
/-! ### an error of a class is what «except» of that class names -/
theorem exm_self {K : PySem.W.Frag} {S : Addr} (h1 : PySem.W.subIn K (.ref S) (.type "BaseException") = some true) (h2 : PySem.W.isClsIn K S = true) (h3 : PySem.W.typeIn K (.ref S) = some (.type "type")) (h4 : PySem.W.subIn K (.ref S) (.ref S) = some true) :
    PySem.W.exmOne K (.ref S) (.ref S) = some true := by
  have e1 : (PySem.W.subIn K (.ref S) (.type "BaseException") == some true) = true := by rw [h1] <;> rfl
  have e2 : ((PySem.W.clsIn K S).isSome && PySem.W.typeIn K (.ref S) == some (.type "type")) = true := by
    have h2' : (PySem.W.clsIn K S).isSome = true := h2
    rw [h2', h3] <;> rfl
  show (if (PySem.W.subIn K (.ref S) (.type "BaseException") == some true) = true then (if ((PySem.W.clsIn K S).isSome && PySem.W.typeIn K (.ref S) == some (.type "type")) = true then PySem.W.subIn K (.ref S) (.ref S) else none) else none) = some true
  rw [if_pos e1, if_pos e2]
  exact h4
abbrev sBadI : Stmt := inClass (top 2) 0
theorem scBadI : FnScope ["self", "name"] ["self", "name"] (defScope sBadI) := ⟨rfl, rfl, rfl, by decide +kernel, rfl, by decide +kernel, by decide +kernel⟩
theorem all_mk {l : PySem.W.OpenLaw} {w : World} {K : PySem.W.Frag} {h : Heap} {mg : PySem.Str → Option Value} {fa : Addr} (X : K.In h) (G : h.Ns mainGlobals mg) (hfa : mg "law" = some (.ref fa))
    {CN : Addr}
    {f_Known_init : Addr} {od_Known_init an_Known_init : Option Addr} {sl_Known_init : Array (Option Value)} {oc_Known_init kV_Known_init dc_Known_init pm_Known_init cd_Known_init ct_Known_init : Value}
    {CK : Addr}
    {f_Keeper_init : Addr} {od_Keeper_init an_Keeper_init : Option Addr} {sl_Keeper_init : Array (Option Value)} {oc_Keeper_init kV_Keeper_init dc_Keeper_init pm_Keeper_init cd_Keeper_init ct_Keeper_init : Value}
    {f_Keeper_kept : Addr} {od_Keeper_kept an_Keeper_kept : Option Addr} {sl_Keeper_kept : Array (Option Value)} {oc_Keeper_kept kV_Keeper_kept dc_Keeper_kept pm_Keeper_kept cd_Keeper_kept ct_Keeper_kept : Value}
    {f_Keeper_handle : Addr} {od_Keeper_handle an_Keeper_handle : Option Addr} {sl_Keeper_handle : Array (Option Value)} {oc_Keeper_handle kV_Keeper_handle dc_Keeper_handle pm_Keeper_handle cd_Keeper_handle ct_Keeper_handle : Value}
    {f_Keeper_take : Addr} {od_Keeper_take an_Keeper_take : Option Addr} {sl_Keeper_take : Array (Option Value)} {oc_Keeper_take kV_Keeper_take dc_Keeper_take pm_Keeper_take cd_Keeper_take ct_Keeper_take : Value}
    {f_Keeper_note : Addr} {od_Keeper_note an_Keeper_note : Option Addr} {sl_Keeper_note : Array (Option Value)} {oc_Keeper_note kV_Keeper_note dc_Keeper_note pm_Keeper_note cd_Keeper_note ct_Keeper_note : Value}
    {f_Keeper_reply : Addr} {od_Keeper_reply an_Keeper_reply : Option Addr} {sl_Keeper_reply : Array (Option Value)} {oc_Keeper_reply kV_Keeper_reply dc_Keeper_reply pm_Keeper_reply cd_Keeper_reply ct_Keeper_reply : Value}
    {f_Keeper_flush : Addr} {od_Keeper_flush an_Keeper_flush : Option Addr} {sl_Keeper_flush : Array (Option Value)} {oc_Keeper_flush kV_Keeper_flush dc_Keeper_flush pm_Keeper_flush cd_Keeper_flush ct_Keeper_flush : Value}
    {f_Keeper_fall : Addr} {od_Keeper_fall an_Keeper_fall : Option Addr} {sl_Keeper_fall : Array (Option Value)} {oc_Keeper_fall kV_Keeper_fall dc_Keeper_fall pm_Keeper_fall cd_Keeper_fall ct_Keeper_fall : Value}
    {CB : Addr}
    {f_BadName_init : Addr} {od_BadName_init an_BadName_init : Option Addr} {sl_BadName_init : Array (Option Value)} {oc_BadName_init kV_BadName_init dc_BadName_init pm_BadName_init cd_BadName_init ct_BadName_init : Value}
    {f_is_number : Addr} {od_is_number an_is_number : Option Addr} {sl_is_number : Array (Option Value)} {oc_is_number kV_is_number dc_is_number pm_is_number cd_is_number ct_is_number : Value}
    {f_most_of : Addr} {od_most_of an_most_of : Option Addr} {sl_most_of : Array (Option Value)} {oc_most_of kV_most_of dc_most_of pm_most_of cd_most_of ct_most_of : Value}
    {f_law_number : Addr} {od_law_number an_law_number : Option Addr} {sl_law_number : Array (Option Value)} {oc_law_number kV_law_number dc_law_number pm_law_number cd_law_number ct_law_number : Value}
    {f_law_take : Addr} {od_law_take an_law_take : Option Addr} {sl_law_take : Array (Option Value)} {oc_law_take kV_law_take dc_law_take pm_law_take cd_law_take ct_law_take : Value}
    {f_law_come : Addr} {od_law_come an_law_come : Option Addr} {sl_law_come : Array (Option Value)} {oc_law_come kV_law_come dc_law_come pm_law_come cd_law_come ct_law_come : Value}
    {f_law_row : Addr} {od_law_row an_law_row : Option Addr} {sl_law_row : Array (Option Value)} {oc_law_row kV_law_row dc_law_row pm_law_row cd_law_row ct_law_row : Value}
    {f_law : Addr} {od_law an_law : Option Addr} {sl_law : Array (Option Value)} {oc_law kV_law dc_law pm_law cd_law ct_law : Value}
    (a_Known : PySem.W.nsIn K mainGlobals "Known" = some (some (.ref CN)))
    (a_Known_init : PySem.W.findIn K (.ref CN) "__init__" = some (some (.ref f_Known_init)))
    (i_Known_init : PySem.W.isFn K (.ref f_Known_init) = true)
    (l_Known_init : K.lookup f_Known_init = some ⟨oc_Known_init, od_Known_init, .func (PySem.W.fnOf "__init__" "Known.__init__" (defArgs sKnI) (defBody sKnI) (defScope sKnI) .none kV_Known_init dc_Known_init pm_Known_init an_Known_init cd_Known_init ct_Known_init), sl_Known_init⟩)
    (c_Known_init : PySem.W.codeIn K cd_Known_init "Known.__init__" = true)
    (k_Known_init : PySem.W.keepIn K (.ref f_Known_init) = true)
    (pg_Known : PySem.W.plainGet K CN PySem.Str.empty = true)
    (hd_Known : PySem.W.hasDictIn K CN = true)
    (po_Known : PySem.W.plainOver K CN = true)
    (sa_Known : PySem.W.findIn K (.ref CN) "__setattr__" = some (some (.builtin "object.__setattr__")))
    (mk_Known : PySem.W.makesIn K CN = true)
    (kc_Known : PySem.W.keepIn K (.ref CN) = true)
    (na_Known_epoch : PySem.W.findIn K (.ref CN) "epoch" = some none)
    (na_Known_row : PySem.W.findIn K (.ref CN) "row" = some none)
    (a_Keeper : PySem.W.nsIn K mainGlobals "Keeper" = some (some (.ref CK)))
    (a_Keeper_init : PySem.W.findIn K (.ref CK) "__init__" = some (some (.ref f_Keeper_init)))
    (i_Keeper_init : PySem.W.isFn K (.ref f_Keeper_init) = true)
    (l_Keeper_init : K.lookup f_Keeper_init = some ⟨oc_Keeper_init, od_Keeper_init, .func (PySem.W.fnOf "__init__" "Keeper.__init__" (defArgs sKeI) (defBody sKeI) (defScope sKeI) .none kV_Keeper_init dc_Keeper_init pm_Keeper_init an_Keeper_init cd_Keeper_init ct_Keeper_init), sl_Keeper_init⟩)
    (c_Keeper_init : PySem.W.codeIn K cd_Keeper_init "Keeper.__init__" = true)
    (k_Keeper_init : PySem.W.keepIn K (.ref f_Keeper_init) = true)
    (a_Keeper_kept : PySem.W.findIn K (.ref CK) "kept" = some (some (.ref f_Keeper_kept)))
    (i_Keeper_kept : PySem.W.isFn K (.ref f_Keeper_kept) = true)
    (l_Keeper_kept : K.lookup f_Keeper_kept = some ⟨oc_Keeper_kept, od_Keeper_kept, .func (PySem.W.fnOf "kept" "Keeper.kept" (defArgs sKeKept) (defBody sKeKept) (defScope sKeKept) .none kV_Keeper_kept dc_Keeper_kept pm_Keeper_kept an_Keeper_kept cd_Keeper_kept ct_Keeper_kept), sl_Keeper_kept⟩)
    (c_Keeper_kept : PySem.W.codeIn K cd_Keeper_kept "Keeper.kept" = true)
    (k_Keeper_kept : PySem.W.keepIn K (.ref f_Keeper_kept) = true)
    (a_Keeper_handle : PySem.W.findIn K (.ref CK) "handle" = some (some (.ref f_Keeper_handle)))
    (i_Keeper_handle : PySem.W.isFn K (.ref f_Keeper_handle) = true)
    (l_Keeper_handle : K.lookup f_Keeper_handle = some ⟨oc_Keeper_handle, od_Keeper_handle, .func (PySem.W.fnOf "handle" "Keeper.handle" (defArgs sKeHandle) (defBody sKeHandle) (defScope sKeHandle) .none kV_Keeper_handle dc_Keeper_handle pm_Keeper_handle an_Keeper_handle cd_Keeper_handle ct_Keeper_handle), sl_Keeper_handle⟩)
    (c_Keeper_handle : PySem.W.codeIn K cd_Keeper_handle "Keeper.handle" = true)
    (k_Keeper_handle : PySem.W.keepIn K (.ref f_Keeper_handle) = true)
    (a_Keeper_take : PySem.W.findIn K (.ref CK) "take" = some (some (.ref f_Keeper_take)))
    (i_Keeper_take : PySem.W.isFn K (.ref f_Keeper_take) = true)
    (l_Keeper_take : K.lookup f_Keeper_take = some ⟨oc_Keeper_take, od_Keeper_take, .func (PySem.W.fnOf "take" "Keeper.take" (defArgs sKeTake) (defBody sKeTake) (defScope sKeTake) .none kV_Keeper_take dc_Keeper_take pm_Keeper_take an_Keeper_take cd_Keeper_take ct_Keeper_take), sl_Keeper_take⟩)
    (c_Keeper_take : PySem.W.codeIn K cd_Keeper_take "Keeper.take" = true)
    (k_Keeper_take : PySem.W.keepIn K (.ref f_Keeper_take) = true)
    (a_Keeper_note : PySem.W.findIn K (.ref CK) "note" = some (some (.ref f_Keeper_note)))
    (i_Keeper_note : PySem.W.isFn K (.ref f_Keeper_note) = true)
    (l_Keeper_note : K.lookup f_Keeper_note = some ⟨oc_Keeper_note, od_Keeper_note, .func (PySem.W.fnOf "note" "Keeper.note" (defArgs sKeNote) (defBody sKeNote) (defScope sKeNote) .none kV_Keeper_note dc_Keeper_note pm_Keeper_note an_Keeper_note cd_Keeper_note ct_Keeper_note), sl_Keeper_note⟩)
    (c_Keeper_note : PySem.W.codeIn K cd_Keeper_note "Keeper.note" = true)
    (k_Keeper_note : PySem.W.keepIn K (.ref f_Keeper_note) = true)
    (a_Keeper_reply : PySem.W.findIn K (.ref CK) "reply" = some (some (.ref f_Keeper_reply)))
    (i_Keeper_reply : PySem.W.isFn K (.ref f_Keeper_reply) = true)
    (l_Keeper_reply : K.lookup f_Keeper_reply = some ⟨oc_Keeper_reply, od_Keeper_reply, .func (PySem.W.fnOf "reply" "Keeper.reply" (defArgs sKeReply) (defBody sKeReply) (defScope sKeReply) .none kV_Keeper_reply dc_Keeper_reply pm_Keeper_reply an_Keeper_reply cd_Keeper_reply ct_Keeper_reply), sl_Keeper_reply⟩)
    (c_Keeper_reply : PySem.W.codeIn K cd_Keeper_reply "Keeper.reply" = true)
    (k_Keeper_reply : PySem.W.keepIn K (.ref f_Keeper_reply) = true)
    (a_Keeper_flush : PySem.W.findIn K (.ref CK) "flush" = some (some (.ref f_Keeper_flush)))
    (i_Keeper_flush : PySem.W.isFn K (.ref f_Keeper_flush) = true)
    (l_Keeper_flush : K.lookup f_Keeper_flush = some ⟨oc_Keeper_flush, od_Keeper_flush, .func (PySem.W.fnOf "flush" "Keeper.flush" (defArgs sKeFlush) (defBody sKeFlush) (defScope sKeFlush) .none kV_Keeper_flush dc_Keeper_flush pm_Keeper_flush an_Keeper_flush cd_Keeper_flush ct_Keeper_flush), sl_Keeper_flush⟩)
    (c_Keeper_flush : PySem.W.codeIn K cd_Keeper_flush "Keeper.flush" = true)
    (k_Keeper_flush : PySem.W.keepIn K (.ref f_Keeper_flush) = true)
    (a_Keeper_fall : PySem.W.findIn K (.ref CK) "fall" = some (some (.ref f_Keeper_fall)))
    (i_Keeper_fall : PySem.W.isFn K (.ref f_Keeper_fall) = true)
    (l_Keeper_fall : K.lookup f_Keeper_fall = some ⟨oc_Keeper_fall, od_Keeper_fall, .func (PySem.W.fnOf "fall" "Keeper.fall" (defArgs sKeFall) (defBody sKeFall) (defScope sKeFall) .none kV_Keeper_fall dc_Keeper_fall pm_Keeper_fall an_Keeper_fall cd_Keeper_fall ct_Keeper_fall), sl_Keeper_fall⟩)
    (c_Keeper_fall : PySem.W.codeIn K cd_Keeper_fall "Keeper.fall" = true)
    (k_Keeper_fall : PySem.W.keepIn K (.ref f_Keeper_fall) = true)
    (pg_Keeper : PySem.W.plainGet K CK PySem.Str.empty = true)
    (hd_Keeper : PySem.W.hasDictIn K CK = true)
    (po_Keeper : PySem.W.plainOver K CK = true)
    (sa_Keeper : PySem.W.findIn K (.ref CK) "__setattr__" = some (some (.builtin "object.__setattr__")))
    (mk_Keeper : PySem.W.makesIn K CK = true)
    (kc_Keeper : PySem.W.keepIn K (.ref CK) = true)
    (na_Keeper_number : PySem.W.findIn K (.ref CK) "number" = some none)
    (na_Keeper_records : PySem.W.findIn K (.ref CK) "records" = some none)
    (na_Keeper_loose : PySem.W.findIn K (.ref CK) "loose" = some none)
    (na_Keeper_waiting : PySem.W.findIn K (.ref CK) "waiting" = some none)
    (a_BadName : PySem.W.nsIn K mainGlobals "BadName" = some (some (.ref CB)))
    (a_BadName_init : PySem.W.findIn K (.ref CB) "__init__" = some (some (.ref f_BadName_init)))
    (i_BadName_init : PySem.W.isFn K (.ref f_BadName_init) = true)
    (l_BadName_init : K.lookup f_BadName_init = some ⟨oc_BadName_init, od_BadName_init, .func (PySem.W.fnOf "__init__" "BadName.__init__" (defArgs sBadI) (defBody sBadI) (defScope sBadI) .none kV_BadName_init dc_BadName_init pm_BadName_init an_BadName_init cd_BadName_init ct_BadName_init), sl_BadName_init⟩)
    (c_BadName_init : PySem.W.codeIn K cd_BadName_init "BadName.__init__" = true)
    (k_BadName_init : PySem.W.keepIn K (.ref f_BadName_init) = true)
    (xi_BadName : PySem.W.excInitIn K CB exT "Exception.__new__" = true)
    (xo_BadName : PySem.W.excOver K CB exT = true)
    (hd_BadName : PySem.W.hasDictIn K CB = true)
    (sa_BadName : PySem.W.findIn K (.ref CB) "__setattr__" = some (some (.builtin "object.__setattr__")))
    (sb_BadName : PySem.W.subIn K (.ref CB) (.type "BaseException") = some true)
    (ty_BadName : PySem.W.typeIn K (.ref CB) = some (.type "type"))
    (kc_BadName : PySem.W.keepIn K (.ref CB) = true)
    (ga_BadName : PySem.W.findIn K (.ref CB) "__getattribute__" = some (some (.builtin "BaseException.__getattribute__")))
    (gg_BadName : PySem.W.findIn K (.ref CB) "__getattr__" = some none)
    (ic_BadName : PySem.W.isClsIn K CB = true)
    (ss_BadName : PySem.W.subIn K (.ref CB) (.ref CB) = some true)
    (na_BadName_name : PySem.W.findIn K (.ref CB) "name" = some none)
    (a_is_number : PySem.W.nsIn K mainGlobals "is_number" = some (some (.ref f_is_number)))
    (l_is_number : K.lookup f_is_number = some ⟨oc_is_number, od_is_number, .func (PySem.W.fnOf "is_number" "is_number" (defArgs sIsN) (defBody sIsN) (defScope sIsN) .none kV_is_number dc_is_number pm_is_number an_is_number cd_is_number ct_is_number), sl_is_number⟩)
    (c_is_number : PySem.W.codeIn K cd_is_number "is_number" = true)
    (k_is_number : PySem.W.keepIn K (.ref f_is_number) = true)
    (a_most_of : PySem.W.nsIn K mainGlobals "most_of" = some (some (.ref f_most_of)))
    (l_most_of : K.lookup f_most_of = some ⟨oc_most_of, od_most_of, .func (PySem.W.fnOf "most_of" "most_of" (defArgs sMost) (defBody sMost) (defScope sMost) .none kV_most_of dc_most_of pm_most_of an_most_of cd_most_of ct_most_of), sl_most_of⟩)
    (c_most_of : PySem.W.codeIn K cd_most_of "most_of" = true)
    (k_most_of : PySem.W.keepIn K (.ref f_most_of) = true)
    (a_law_number : PySem.W.nsIn K mainGlobals "_law_number" = some (some (.ref f_law_number)))
    (l_law_number : K.lookup f_law_number = some ⟨oc_law_number, od_law_number, .func (PySem.W.fnOf "_law_number" "_law_number" (defArgs sNum) (defBody sNum) (defScope sNum) .none kV_law_number dc_law_number pm_law_number an_law_number cd_law_number ct_law_number), sl_law_number⟩)
    (c_law_number : PySem.W.codeIn K cd_law_number "_law_number" = true)
    (k_law_number : PySem.W.keepIn K (.ref f_law_number) = true)
    (a_law_take : PySem.W.nsIn K mainGlobals "_law_take" = some (some (.ref f_law_take)))
    (l_law_take : K.lookup f_law_take = some ⟨oc_law_take, od_law_take, .func (PySem.W.fnOf "_law_take" "_law_take" (defArgs sTake) (defBody sTake) (defScope sTake) .none kV_law_take dc_law_take pm_law_take an_law_take cd_law_take ct_law_take), sl_law_take⟩)
    (c_law_take : PySem.W.codeIn K cd_law_take "_law_take" = true)
    (k_law_take : PySem.W.keepIn K (.ref f_law_take) = true)
    (a_law_come : PySem.W.nsIn K mainGlobals "_law_come" = some (some (.ref f_law_come)))
    (l_law_come : K.lookup f_law_come = some ⟨oc_law_come, od_law_come, .func (PySem.W.fnOf "_law_come" "_law_come" (defArgs sCome) (defBody sCome) (defScope sCome) .none kV_law_come dc_law_come pm_law_come an_law_come cd_law_come ct_law_come), sl_law_come⟩)
    (c_law_come : PySem.W.codeIn K cd_law_come "_law_come" = true)
    (k_law_come : PySem.W.keepIn K (.ref f_law_come) = true)
    (a_law_row : PySem.W.nsIn K mainGlobals "_law_row" = some (some (.ref f_law_row)))
    (l_law_row : K.lookup f_law_row = some ⟨oc_law_row, od_law_row, .func (PySem.W.fnOf "_law_row" "_law_row" (defArgs sLrow) (defBody sLrow) (defScope sLrow) .none kV_law_row dc_law_row pm_law_row an_law_row cd_law_row ct_law_row), sl_law_row⟩)
    (c_law_row : PySem.W.codeIn K cd_law_row "_law_row" = true)
    (k_law_row : PySem.W.keepIn K (.ref f_law_row) = true)
    (a_law : PySem.W.nsIn K mainGlobals "law" = some (some (.ref f_law)))
    (l_law : K.lookup f_law = some ⟨oc_law, od_law, .func (PySem.W.fnOf "law" "law" (defArgs s_law) (defBody s_law) (defScope s_law) .none kV_law dc_law pm_law an_law cd_law ct_law), sl_law⟩)
    (c_law : PySem.W.codeIn K cd_law "law" = true)
    (k_law : PySem.W.keepIn K (.ref f_law) = true)
    (z_len : PySem.W.nsIn K mainGlobals "len" = some none)
    (z_int : PySem.W.nsIn K mainGlobals "int" = some none)
    (z_abs : PySem.W.nsIn K mainGlobals "abs" = some none)
    (z_max : PySem.W.nsIn K mainGlobals "max" = some none)
    (z_tuple : PySem.W.nsIn K mainGlobals "tuple" = some none)
    (z_range : PySem.W.nsIn K mainGlobals "range" = some none)
    (z_isinstance : PySem.W.nsIn K mainGlobals "isinstance" = some none)
    (z_bool : PySem.W.nsIn K mainGlobals "bool" = some none) :
    ∃ fd : FuncData, (∀ (s : Shared) (v : Value), BindsTo s fd ⟨[v], []⟩ [("script", v)]) ∧ ∀ base : Heap, K.In base → base.Ns mainGlobals mg → FnOk l.prog w K mg base CX0 5 fa fd ["script"] (spLaw K) := by
  have e := hfa.symm.trans (PySem.W.mg_of X G a_law)
  cases e
  have F_Known_init := fun_mk (st := sKnI) l_Known_init c_Known_init k_Known_init
  have b_Known_init := F_Known_init.binds (ps := ["self", "records"]) fun _ _ _ _ _ _ us hl => match us, hl with | [_, _], _ => rfl
  have cls_Known : Cls K CN := ⟨pg_Known, hd_Known, po_Known, sa_Known⟩
  have g_Known := PySem.W.mg_of X G a_Known
  have Mk_Known : Mk K CN f_Known_init := ⟨mk_Known, a_Known_init, i_Known_init, kc_Known⟩
  have F_Keeper_init := fun_mk (st := sKeI) l_Keeper_init c_Keeper_init k_Keeper_init
  have b_Keeper_init := F_Keeper_init.binds (ps := ["self", "number"]) fun _ _ _ _ _ _ us hl => match us, hl with | [_, _], _ => rfl
  have F_Keeper_kept := fun_mk (st := sKeKept) l_Keeper_kept c_Keeper_kept k_Keeper_kept
  have b_Keeper_kept := F_Keeper_kept.binds (ps := ["self"]) fun _ _ _ _ _ _ us hl => match us, hl with | [_], _ => rfl
  have M_Keeper_kept : Meth K CK "kept" f_Keeper_kept := ⟨a_Keeper_kept, i_Keeper_kept, k_Keeper_kept⟩
  have F_Keeper_handle := fun_mk (st := sKeHandle) l_Keeper_handle c_Keeper_handle k_Keeper_handle
  have b_Keeper_handle := F_Keeper_handle.binds (ps := ["self", "letter"]) fun _ _ _ _ _ _ us hl => match us, hl with | [_, _], _ => rfl
  have M_Keeper_handle : Meth K CK "handle" f_Keeper_handle := ⟨a_Keeper_handle, i_Keeper_handle, k_Keeper_handle⟩
  have F_Keeper_take := fun_mk (st := sKeTake) l_Keeper_take c_Keeper_take k_Keeper_take
  have b_Keeper_take := F_Keeper_take.binds (ps := ["self", "row", "epoch", "place", "entry"]) fun _ _ _ _ _ _ us hl => match us, hl with | [_, _, _, _, _], _ => rfl
  have M_Keeper_take : Meth K CK "take" f_Keeper_take := ⟨a_Keeper_take, i_Keeper_take, k_Keeper_take⟩
  have F_Keeper_note := fun_mk (st := sKeNote) l_Keeper_note c_Keeper_note k_Keeper_note
  have b_Keeper_note := F_Keeper_note.binds (ps := ["self", "record"]) fun _ _ _ _ _ _ us hl => match us, hl with | [_, _], _ => rfl
  have M_Keeper_note : Meth K CK "note" f_Keeper_note := ⟨a_Keeper_note, i_Keeper_note, k_Keeper_note⟩
  have F_Keeper_reply := fun_mk (st := sKeReply) l_Keeper_reply c_Keeper_reply k_Keeper_reply
  have b_Keeper_reply := F_Keeper_reply.binds (ps := ["self", "told"]) fun _ _ _ _ _ _ us hl => match us, hl with | [_, _], _ => rfl
  have M_Keeper_reply : Meth K CK "reply" f_Keeper_reply := ⟨a_Keeper_reply, i_Keeper_reply, k_Keeper_reply⟩
  have F_Keeper_flush := fun_mk (st := sKeFlush) l_Keeper_flush c_Keeper_flush k_Keeper_flush
  have b_Keeper_flush := F_Keeper_flush.binds (ps := ["self"]) fun _ _ _ _ _ _ us hl => match us, hl with | [_], _ => rfl
  have M_Keeper_flush : Meth K CK "flush" f_Keeper_flush := ⟨a_Keeper_flush, i_Keeper_flush, k_Keeper_flush⟩
  have F_Keeper_fall := fun_mk (st := sKeFall) l_Keeper_fall c_Keeper_fall k_Keeper_fall
  have b_Keeper_fall := F_Keeper_fall.binds (ps := ["self", "many"]) fun _ _ _ _ _ _ us hl => match us, hl with | [_, _], _ => rfl
  have M_Keeper_fall : Meth K CK "fall" f_Keeper_fall := ⟨a_Keeper_fall, i_Keeper_fall, k_Keeper_fall⟩
  have cls_Keeper : Cls K CK := ⟨pg_Keeper, hd_Keeper, po_Keeper, sa_Keeper⟩
  have g_Keeper := PySem.W.mg_of X G a_Keeper
  have Mk_Keeper : Mk K CK f_Keeper_init := ⟨mk_Keeper, a_Keeper_init, i_Keeper_init, kc_Keeper⟩
  have F_BadName_init := fun_mk (st := sBadI) l_BadName_init c_BadName_init k_BadName_init
  have b_BadName_init := F_BadName_init.binds (ps := ["self", "name"]) fun _ _ _ _ _ _ us hl => match us, hl with | [_, _], _ => rfl
  have g_BadName := PySem.W.mg_of X G a_BadName
  have O_BadName : OexB K CB := ⟨xi_BadName, xo_BadName, hd_BadName, sa_BadName, sb_BadName, ty_BadName, kc_BadName⟩
  have xf_BadName : XfC K CB := ⟨ga_BadName, gg_BadName, sb_BadName, hd_BadName⟩
  have te_BadName := exm_self sb_BadName ic_BadName ty_BadName ss_BadName
  have F_is_number := fun_mk (st := sIsN) l_is_number c_is_number k_is_number
  have b_is_number := F_is_number.binds (ps := ["thing", "low", "high"]) fun _ _ _ _ _ _ us hl => match us, hl with | [_, _, _], _ => rfl
  have g_is_number := PySem.W.mg_of X G a_is_number
  have F_most_of := fun_mk (st := sMost) l_most_of c_most_of k_most_of
  have b_most_of := F_most_of.binds (ps := ["many"]) fun _ _ _ _ _ _ us hl => match us, hl with | [_], _ => rfl
  have g_most_of := PySem.W.mg_of X G a_most_of
  have F_law_number := fun_mk (st := sNum) l_law_number c_law_number k_law_number
  have b_law_number := F_law_number.binds (ps := ["script", "index"]) fun _ _ _ _ _ _ us hl => match us, hl with | [_, _], _ => rfl
  have g_law_number := PySem.W.mg_of X G a_law_number
  have F_law_take := fun_mk (st := sTake) l_law_take c_law_take k_law_take
  have b_law_take := F_law_take.binds (ps := ["draw", "many"]) fun _ _ _ _ _ _ us hl => match us, hl with | [_, _], _ => rfl
  have g_law_take := PySem.W.mg_of X G a_law_take
  have F_law_come := fun_mk (st := sCome) l_law_come c_law_come k_law_come
  have b_law_come := F_law_come.binds (ps := ["state", "letter"]) fun _ _ _ _ _ _ us hl => match us, hl with | [_, _], _ => rfl
  have g_law_come := PySem.W.mg_of X G a_law_come
  have F_law_row := fun_mk (st := sLrow) l_law_row c_law_row k_law_row
  have b_law_row := F_law_row.binds (ps := ["records"]) fun _ _ _ _ _ _ us hl => match us, hl with | [_], _ => rfl
  have g_law_row := PySem.W.mg_of X G a_law_row
  have F_law := fun_mk (st := s_law) l_law c_law k_law
  have n_len := PySem.W.mg_none_of X G z_len
  have n_int := PySem.W.mg_none_of X G z_int
  have n_abs := PySem.W.mg_none_of X G z_abs
  have n_max := PySem.W.mg_none_of X G z_max
  have n_tuple := PySem.W.mg_none_of X G z_tuple
  have n_range := PySem.W.mg_none_of X G z_range
  have n_isinstance := PySem.W.mg_none_of X G z_isinstance
  have n_bool := PySem.W.mg_none_of X G z_bool
  refine ⟨PySem.W.fnOf "law" "law" (defArgs s_law) (defBody s_law) (defScope s_law) .none kV_law dc_law pm_law an_law cd_law ct_law, fun s v => .of_eq rfl, fun base _ _ => ?_⟩
  have TD : TxD K mg f_law_number f_law_take := ⟨n_len, n_int, n_abs, g_law_number, g_law_take⟩
  have TK : TxK K mg CK CN := ⟨cls_Keeper, cls_Known, na_Keeper_number, na_Keeper_records, na_Keeper_loose, na_Keeper_waiting, na_Known_epoch, na_Known_row, g_Keeper, g_Known, n_max, n_len, n_tuple⟩
  have TL : TxL mg := ⟨n_len, n_tuple, n_max, n_range⟩
  have TB : TxB K mg CB := ⟨O_BadName, g_BadName⟩
  have c_known : CalI l.prog w K mg base CN 1 "Known" ["self", "records"] (spKnI CN) := ⟨_, _, g_Known, Mk_Known, b_Known_init, ok_kni F_Known_init TK⟩
  have c_kept : CalM l.prog w K mg base CK 3 "kept" ["self"] (spKept CK CN) := ⟨_, _, M_Keeper_kept, b_Keeper_kept, ok_kept F_Keeper_kept TK c_known⟩
  have c_note : CalM l.prog w K mg base CK 1 "note" ["self", "record"] (spNote CK) := ⟨_, _, M_Keeper_note, b_Keeper_note, ok_note F_Keeper_note TK⟩
  have c_reply : CalM l.prog w K mg base CK 1 "reply" ["self", "told"] (spReply CK) := ⟨_, _, M_Keeper_reply, b_Keeper_reply, ok_reply F_Keeper_reply TK⟩
  have c_take : CalM l.prog w K mg base CK 2 "take" ["self", "row", "epoch", "place", "entry"] (spTk CK) := ⟨_, _, M_Keeper_take, b_Keeper_take, ok_tk F_Keeper_take TK c_note c_reply⟩
  have c_num : Cal l.prog w K mg base 1 "is_number" ["thing", "low", "high"] spIsN := ⟨_, _, g_is_number, F_is_number.kp, b_is_number, ok_isn F_is_number ⟨n_isinstance, n_int, n_bool⟩⟩
  have cB : CalB l.prog w K mg base CB "name" := ⟨_, _, a_BadName_init, i_BadName_init, b_BadName_init, ok_badI F_BadName_init O_BadName na_BadName_name scBadI fun _ _ _ _ _ _ _ => pss_one (ps_ostB (pv 0) (pv 1))⟩
  exact ok_law F_law ⟨TK, n_range, TB, xf_BadName, na_BadName_name, te_BadName⟩ ⟨_, _, g_law_take, F_law_take.kp, b_law_take, ok_take F_law_take TD F_law_number b_law_number⟩ ⟨_, _, g_Keeper, Mk_Keeper, b_Keeper_init, ok_kei F_Keeper_init TK⟩
    ⟨_, _, g_law_row, F_law_row.kp, b_law_row, ok_lrow F_law_row TL⟩ ⟨_, _, g_law_come, F_law_come.kp, b_law_come, ok_come F_law_come TL⟩ ⟨_, _, M_Keeper_handle, b_Keeper_handle, ok_hd F_Keeper_handle TK c_kept c_note c_reply c_take⟩
    ⟨_, _, M_Keeper_flush, b_Keeper_flush, ok_flush F_Keeper_flush TK⟩ ⟨_, _, M_Keeper_fall, b_Keeper_fall, ok_fall F_Keeper_fall TK TB c_num cB⟩ c_kept ⟨_, _, g_most_of, F_most_of.kp, b_most_of, ok_most F_most_of⟩
theorem walk {l : PySem.W.OpenLaw} {q : Program} {loose : List PySem.Str} {XP : (PySem.Str → Option Value) → Heap → Prop} {YP : World → Heap → Prop} {d : DefRec} {K : Params → PySem.W.Frag} (hn : l.most = some 63) (hdf : d.params.defaults = [])
    (hY : ∀ (w : World) (h : Heap), YP w h → (K w.params).In h)
    (F : ∀ (w : World) (mg : PySem.Str → Option Value) (fa : Addr) (h : Heap), (K w.params).In h → h.Ns mainGlobals mg → mg d.name = some (.ref fa) →
      ∃ fd : FuncData, (∀ (s : Shared) (u : Value), BindsTo s fd ⟨[u], []⟩ [("script", u)]) ∧ ∀ base : Heap, (K w.params).In base → base.Ns mainGlobals mg → FnOk l.prog w (K w.params) mg base CX0 5 fa fd ["script"] (spLaw (K w.params))) :
    PySem.W.WalkO q loose XP YP l.row.toRowW d [] (fun f vs => PySem.call f vs) :=
  L2.walk_of (n := 63) (k := 5) (x := "script") (CX := fun _ => CX0) (sp := fun w => spLaw (K w.params)) hn (by decide) hdf ⟨rfl, by decide, by decide⟩ hY F (fun _ _ a ns hl _ hS => ⟨a, ns, rfl, hS, hl, fun _ => rfl⟩) fun _ _ _ _ _ z => z
end Mc
open PySem PySem.W PyProof.Rows
set_option maxRecDepth 100000 in
set_option maxHeartbeats 0 in
theorem PySem.Challenge.cw_mastcalls_k42_whole_keepers_holds : PySem.Challenge.rw_mastcalls_k42_whole_keepers.Holds := by
  w_on; o_law; k_head; (case hw => w_witness2)
  k_fill
  refine Mc.walk (l := PySem.Challenge.rw_mastcalls_k42_whole_keepers) rfl rfl (fun w h Y => PySem.W.kIn_of Y) ?F
  case F =>
    intro w mg fa h KX G hmg
    refine' Mc.all_mk KX G hmg ?a_Known ?a_Known_init ?i_Known_init ?l_Known_init ?c_Known_init ?k_Known_init ?pg_Known ?hd_Known ?po_Known ?sa_Known ?mk_Known ?kc_Known ?na_Known_epoch ?na_Known_row ?a_Keeper ?a_Keeper_init ?i_Keeper_init ?l_Keeper_init ?c_Keeper_init ?k_Keeper_init ?a_Keeper_kept ?i_Keeper_kept ?l_Keeper_kept ?c_Keeper_kept ?k_Keeper_kept ?a_Keeper_handle ?i_Keeper_handle ?l_Keeper_handle ?c_Keeper_handle ?k_Keeper_handle ?a_Keeper_take ?i_Keeper_take ?l_Keeper_take ?c_Keeper_take ?k_Keeper_take ?a_Keeper_note ?i_Keeper_note ?l_Keeper_note ?c_Keeper_note ?k_Keeper_note ?a_Keeper_reply ?i_Keeper_reply ?l_Keeper_reply ?c_Keeper_reply ?k_Keeper_reply ?a_Keeper_flush ?i_Keeper_flush ?l_Keeper_flush ?c_Keeper_flush ?k_Keeper_flush ?a_Keeper_fall ?i_Keeper_fall ?l_Keeper_fall ?c_Keeper_fall ?k_Keeper_fall ?pg_Keeper ?hd_Keeper ?po_Keeper ?sa_Keeper ?mk_Keeper ?kc_Keeper ?na_Keeper_number ?na_Keeper_records ?na_Keeper_loose ?na_Keeper_waiting ?a_BadName ?a_BadName_init ?i_BadName_init ?l_BadName_init ?c_BadName_init ?k_BadName_init ?xi_BadName ?xo_BadName ?hd_BadName ?sa_BadName ?sb_BadName ?ty_BadName ?kc_BadName ?ga_BadName ?gg_BadName ?ic_BadName ?ss_BadName ?na_BadName_name ?a_is_number ?l_is_number ?c_is_number ?k_is_number ?a_most_of ?l_most_of ?c_most_of ?k_most_of ?a_law_number ?l_law_number ?c_law_number ?k_law_number ?a_law_take ?l_law_take ?c_law_take ?k_law_take ?a_law_come ?l_law_come ?c_law_come ?k_law_come ?a_law_row ?l_law_row ?c_law_row ?k_law_row ?a_law ?l_law ?c_law ?k_law ?z_len ?z_int ?z_abs ?z_max ?z_tuple ?z_range ?z_isinstance ?z_bool
    (case a_Known => k_is)
    (case a_Known_init => k_is)
    (case i_Known_init => k_is)
    (case l_Known_init => k_is)
    (case c_Known_init => k_is)
    (case k_Known_init => k_is)
    (case pg_Known => k_is)
    (case hd_Known => k_is)
    (case po_Known => k_is)
    (case sa_Known => k_is)
    (case mk_Known => k_is)
    (case kc_Known => k_is)
    (case na_Known_epoch => k_is)
    (case na_Known_row => k_is)
    (case a_Keeper => k_is)
    (case a_Keeper_init => k_is)
    (case i_Keeper_init => k_is)
    (case l_Keeper_init => k_is)
    (case c_Keeper_init => k_is)
    (case k_Keeper_init => k_is)
    (case a_Keeper_kept => k_is)
    (case i_Keeper_kept => k_is)
    (case l_Keeper_kept => k_is)
    (case c_Keeper_kept => k_is)
    (case k_Keeper_kept => k_is)
    (case a_Keeper_handle => k_is)
    (case i_Keeper_handle => k_is)
    (case l_Keeper_handle => k_is)
    (case c_Keeper_handle => k_is)
    (case k_Keeper_handle => k_is)
    (case a_Keeper_take => k_is)
    (case i_Keeper_take => k_is)
    (case l_Keeper_take => k_is)
    (case c_Keeper_take => k_is)
    (case k_Keeper_take => k_is)
    (case a_Keeper_note => k_is)
    (case i_Keeper_note => k_is)
    (case l_Keeper_note => k_is)
    (case c_Keeper_note => k_is)
    (case k_Keeper_note => k_is)
    (case a_Keeper_reply => k_is)
    (case i_Keeper_reply => k_is)
    (case l_Keeper_reply => k_is)
    (case c_Keeper_reply => k_is)
    (case k_Keeper_reply => k_is)
    (case a_Keeper_flush => k_is)
    (case i_Keeper_flush => k_is)
    (case l_Keeper_flush => k_is)
    (case c_Keeper_flush => k_is)
    (case k_Keeper_flush => k_is)
    (case a_Keeper_fall => k_is)
    (case i_Keeper_fall => k_is)
    (case l_Keeper_fall => k_is)
    (case c_Keeper_fall => k_is)
    (case k_Keeper_fall => k_is)
    (case pg_Keeper => k_is)
    (case hd_Keeper => k_is)
    (case po_Keeper => k_is)
    (case sa_Keeper => k_is)
    (case mk_Keeper => k_is)
    (case kc_Keeper => k_is)
    (case na_Keeper_number => k_is)
    (case na_Keeper_records => k_is)
    (case na_Keeper_loose => k_is)
    (case na_Keeper_waiting => k_is)
    (case a_BadName => k_is)
    (case a_BadName_init => k_is)
    (case i_BadName_init => k_is)
    (case l_BadName_init => k_is)
    (case c_BadName_init => k_is)
    (case k_BadName_init => k_is)
    (case xi_BadName => first | k_is | rfl | decide +kernel)
    (case xo_BadName => first | k_is | rfl | decide +kernel)
    (case hd_BadName => k_is)
    (case sa_BadName => k_is)
    (case sb_BadName => k_is)
    (case ty_BadName => k_is)
    (case kc_BadName => k_is)
    (case ga_BadName => k_is)
    (case gg_BadName => k_is)
    (case ic_BadName => k_is)
    (case ss_BadName => first | rfl | k_is)
    (case na_BadName_name => k_is)
    (case a_is_number => k_is)
    (case l_is_number => k_is)
    (case c_is_number => k_is)
    (case k_is_number => k_is)
    (case a_most_of => k_is)
    (case l_most_of => k_is)
    (case c_most_of => k_is)
    (case k_most_of => k_is)
    (case a_law_number => k_is)
    (case l_law_number => k_is)
    (case c_law_number => k_is)
    (case k_law_number => k_is)
    (case a_law_take => k_is)
    (case l_law_take => k_is)
    (case c_law_take => k_is)
    (case k_law_take => k_is)
    (case a_law_come => k_is)
    (case l_law_come => k_is)
    (case c_law_come => k_is)
    (case k_law_come => k_is)
    (case a_law_row => k_is)
    (case l_law_row => k_is)
    (case c_law_row => k_is)
    (case k_law_row => k_is)
    (case a_law => k_is)
    (case l_law => k_is)
    (case c_law => k_is)
    (case k_law => k_is)
    (case z_len => k_is)
    (case z_int => k_is)
    (case z_abs => k_is)
    (case z_max => k_is)
    (case z_tuple => k_is)
    (case z_range => k_is)
    (case z_isinstance => k_is)
    (case z_bool => k_is)
