import PyProof.Rows.All
import Wide.All
import OpenK.AllK
import Wide.FinOn
import HandS.ForMost
import HandS.Style
import HandS.Conv
import HandS.DictComp
import HandS.Evl
import HandS.SortRule
import KE.KDictPairs
import HandS.SetKeys
import HandS.Walk
import HandS.IsInst
import HandS.ExcInit
import HandS.ExcField
import KE.KExcInit
import HandS.WordsExc
import KE.SortKeyHeap
import HandS.FromBytesMap
import HandS.SortKw
import KE.DataCmp
import HandS.ListItems
import HandS.Set
import HandS.More
import HandS.SetFor
import HandS.Comp
import HandS.ExcOwn
import KE.GoesRaise
import KE.KAsSuite
import HandS.Text
import HandS.TupAny
import HandS.RaiseMore
import PySem.Challenge.RW_mastcalls_k17_whole_deed_texts
set_option Elab.async false
set_option maxRecDepth 100000
set_option maxHeartbeats 4000000
namespace Mc
open PySem L2 PySem.Spec PyProof.Rows
/-! rules that the layer lacks -/
theorem get_list {X : Cx} : PGet X (rIxL X.K) := by
  intro pins s σ H o i ov iv Q I ro ri h
  obtain ⟨p, xs, k, v, rfl, rfl, hs, hv, q⟩ := h
  cases ro
  obtain ⟨t, rfl⟩ := ri
  obtain ⟨its, r, pl, hz⟩ := I.list hs
  obtain ⟨j, h1, h2, h3, h4, h5⟩ := atI_get hv
  obtain ⟨w, ew, rw'⟩ := r.get h2
  have hl := r.length
  have hn := line63
  have fin : EP X pins σ Q w s := ⟨v, H, I, rw', q⟩
  by_cases h0 : 0 ≤ k
  · have hj : k.toNat = j := by
      rw [seqIndex_of h0 h5] at h1
      exact Option.some.inj h1
    exact wpAny_getItem_list pl.isList h0 (by omega) (by rw [hj]; simpa using ew) fin
  · have hj : (k + (its.toArray.size : Int)).toNat = j := by
      rw [seqIndex_neg (by omega) h4] at h1
      rw [List.size_toArray, ← hl]
      exact Option.some.inj h1
    exact wpAny_getItem_list_neg pl.isList (by omega) (by rw [List.size_toArray] <;> omega) (by omega) (by rw [hj]; simpa using ew) fin

/-! ### a heap that is kept but for some objects -/
def Kp (M : List Addr) (H H' : Hp) : Prop := ∀ b o, H b = some o → b ∉ M → H' b = some o
theorem Kp.refl (M : List Addr) (H : Hp) : Kp M H H := fun _ _ h _ => h
theorem Kp.trans {M : List Addr} {H H1 H2 : Hp} (a : Kp M H H1) (b : Kp M H1 H2) : Kp M H H2 := fun c o h n => b c o (a c o h n) n
theorem Kp.mono {M N : List Addr} {H H' : Hp} (k : Kp M H H') (h : ∀ b ∈ M, b ∈ N) : Kp N H H' := fun b o e n => k b o e fun z => n (h b z)
theorem Kp.new {M : List Addr} {p : Addr} {H : Hp} {o : HO} (h : H p = none) : Kp M H (upd H p o) := fun b u e _ => by
  rw [upd_ne (ne_of_none e h)]
  exact e
theorem Kp.at {M : List Addr} {d : Addr} {H : Hp} {o : HO} (h : d ∈ M) : Kp M H (upd H d o) := fun b u e n => by
  rw [upd_ne fun z => n (by rw [z]; exact h)]
  exact e
theorem Kp.same {M : List Addr} {H H' : Hp} (h : Same H H') : Kp M H H' := fun b o e _ => h b o e
/-- nothing tracked is lost -/
def Lv (H H' : Hp) : Prop := ∀ b, H' b = none → H b = none
theorem Kp.live {M : List Addr} {H H' : Hp} (k : Kp M H H') (h : ∀ d ∈ M, ∃ o, H' d = some o) {p : Addr} (e : H' p = none) : H p = none := by
  cases q : H p with
  | none => rfl
  | some u =>
    by_cases n : p ∈ M
    · obtain ⟨o, z⟩ := h p n
      rw [z] at e; cases e
    · rw [k p u q n] at e; cases e
/-- what was not there may be changed freely -/
theorem Kp.drop {M : List Addr} {p : Addr} {H H' : Hp} (k : Kp (p :: M) H H') (h : H p = none) : Kp M H H' := fun b o e n => k b o e fun z => by
  rcases List.mem_cons.mp z with rfl | z
  · rw [h] at e; cases e
  · exact n z

/-- the draw stands at d: the script, and how many were drawn; M: all that may be changed -/
structure Dr (K : PySem.W.Frag) (M : List Addr) (d a : Addr) (H : Hp) : Prop where
  at_ : ∃ k : Int, H d = some (.lst [.ref a, .int k])
  mem : d ∈ M
  sc : ∃ ns : List Int, ns.length ≤ 63 ∧ ∀ H', Kp M H H' → SqL K H' a (ns.map V.int)
section
variable {K : PySem.W.Frag} {M : List Addr} {d a : Addr} {H H' : Hp}
theorem Dr.keep (D : Dr K M d a H) (k : Kp M H H') (e : ∀ o, H d = some o → H' d = some o) : Dr K M d a H' := by
  obtain ⟨⟨k0, h⟩, m, ns, hl, hs⟩ := D
  exact ⟨⟨k0, e _ h⟩, m, ns, hl, fun H2 k2 => hs H2 (k.trans k2)⟩
theorem Dr.same (D : Dr K M d a H) (k : Same H H') : Dr K M d a H' := D.keep (Kp.same k) fun o h => k _ o h
theorem Dr.new {p : Addr} {o : HO} (D : Dr K M d a H) (h : H p = none) : Dr K M d a (upd H p o) := D.same fun b u e => by rw [upd_ne (ne_of_none e h)]; exact e
theorem Dr.next (D : Dr K M d a H) (k : Kp M H H') {j : Int} (h : H' d = some (.lst [.ref a, .int j])) : Dr K M d a H' := by
  obtain ⟨_, m, ns, hl, hs⟩ := D
  exact ⟨⟨j, h⟩, m, ns, hl, fun H2 k2 => hs H2 (k.trans k2)⟩
/-- one more object may be changed, that was not there -/
theorem Dr.grow {p : Addr} (D : Dr K M d a H) (h : H p = none) : Dr K (p :: M) d a H := by
  obtain ⟨k0, m, ns, hl, hs⟩ := D
  exact ⟨k0, List.mem_cons_of_mem _ m, ns, hl, fun H2 k2 => hs H2 (k2.drop h)⟩
/-- fewer may be changed -/
theorem Dr.sub {N : List Addr} (D : Dr K M d a H) (h : ∀ b ∈ N, b ∈ M) (hd : d ∈ N) : Dr K N d a H := by
  obtain ⟨k0, _, ns, hl, hs⟩ := D
  exact ⟨k0, hd, ns, hl, fun H2 k2 => hs H2 (k2.mono h)⟩
/-- a draw made of the script -/
theorem Dr.mk' {ns : List Int} {j : Int} (hs : SqL K H a (ns.map V.int)) (hl : ns.length ≤ 63) (hd : H d = none) : Dr K [d] d a (upd H d (.lst [.ref a, .int j])) := by
  refine ⟨⟨j, upd_same⟩, List.mem_singleton.mpr rfl, ns, hl, fun H' k => ?_⟩
  have ne : ∀ {o}, H a = some o → a ∉ [d] := fun h z => ne_of_none h hd (List.mem_singleton.mp z)
  rcases hs with (h | ⟨o, h⟩) | h
  · exact .inl (.inl (k a _ (by rw [upd_ne (ne_of_none h hd)]; exact h) (ne h)))
  · exact .inl (.inr ⟨o, k a _ (by rw [upd_ne (ne_of_none h hd)]; exact h) (ne h)⟩)
  · exact .inr h
end

theorem rel_int {i : Int} {t : Tok} : RelV (.int i) (.int i t) := ⟨t, rfl⟩
theorem rel_str {x : PySem.Str} {t : Tok} : RelV (.str x) (.str x t) := ⟨t, rfl⟩
/-! ### rules for a comprehension's block: K by its name -/
section
variable {X : Cx} {K : PySem.W.Frag} {e : Expr} {f : PySem.Str} {pos : Pos} {ta : TE}
theorem pe_fldK (h : X.K = K) (he : PE X e ta) (hb : attributeBase e f X.env (eval e X.env) = eval e X.env) : PE X (.Attribute e f pos) (tFld K ta f) := by
  subst h
  exact pe_fld he hb
theorem ix_listK (h : X.K = K) : IxR X (rIxL K) := by
  subst h
  exact ix_list
theorem ix_tupK (h : X.K = K) : IxR X (rIxT K) := by
  subst h
  exact ix_tup
theorem sl_listK (h : X.K = K) : SlR X (rSlL K) := by
  subst h
  exact sl_list
theorem call_len_seqK (h : X.K = K) : CallR X (.builtin "len") (fun xs H Q => ∃ p ys, xs = [.ref p] ∧ (SqL K H p ys ∨ SqT K H p ys) ∧ Q (.int ys.length) H) := by
  subst h
  exact call_len_seq
theorem op_eqDK (h : X.K = K) (hu : X.A.units + 64 < cLine) : OpR X (compareOp .Eq) (rEqD K) := by
  subst h
  exact op_eqD hu
theorem op_neDK (h : X.K = K) (hu : X.A.units + 64 < cLine) : OpR X (compareOp .NotEq) (rNeD K) := by
  subst h
  exact op_neD hu
theorem pe_tupleOfK (h : X.K = K) {a : Expr} {p pos : Pos} (hg : Gl X "tuple") (hm : X.mg "tuple" = none) (ha : PE X a ta) (na : starEach [a] X.env = (false, eval a X.env) :: starEach [] X.env := by rfl) :
    PE X (.Call (.Name "tuple" p) [a] [] pos) (tThen ta (kTup K)) := by
  subst h
  exact pe_tupleOf hg hm ha na
end
/-! ### defs, methods, classes: what a caller needs -/
/-- a def of the module keeps its promise -/
def Cal (P : Program) (w : World) (K : PySem.W.Frag) (mg : PySem.Str → Option Value) (base : Heap) (k : Nat) (x : PySem.Str) (ps : List PySem.Str) (sp : Sp) : Prop :=
  ∃ (f : Addr) (fd : FuncData), mg x = some (.ref f) ∧ PySem.W.keepIn K (.ref f) = true ∧ Binds K fd ps [] ∧ FnOk P w K mg base CX0 k f fd ps sp
/-- a method of the class at C -/
def CalM (P : Program) (w : World) (K : PySem.W.Frag) (mg : PySem.Str → Option Value) (base : Heap) (C : Addr) (k : Nat) (m : PySem.Str) (ps : List PySem.Str) (sp : Sp) : Prop :=
  ∃ (f : Addr) (fd : FuncData), Meth K C m f ∧ Binds K fd ps [] ∧ FnOk P w K mg base CX0 k f fd ps sp
/-- the class of that name, made by its __init__ -/
def CalI (P : Program) (w : World) (K : PySem.W.Frag) (mg : PySem.Str → Option Value) (base : Heap) (C : Addr) (k : Nat) (x : PySem.Str) (ps : List PySem.Str) (sp : Sp) : Prop :=
  ∃ (f : Addr) (fd : FuncData), mg x = some (.ref C) ∧ Mk K C f ∧ Binds K fd ps [] ∧ FnOk P w K mg base CX0 k f fd ps sp
section
variable {X : Cx} {k : Nat} {x m : PySem.Str} {ps : List PySem.Str} {sp : Sp} {C : Addr} {p pos apos : Pos} {e o : Expr} {es : List Expr} {t : TA} {ta : TE}
theorem pe_cal (c : Cal X.prog X.w X.K X.mg X.base k x ps sp) (hr : Room k X.A) (hg : Gl X x) (ha : PA X (e :: es) t) (hdb : (x == ("__debug__" : PySem.Str)) = false := by decide)
    (he : starEach (e :: es) X.env = (false, eval e X.env) :: starEach es X.env := by rfl) (hpl : (backTo pos (starEach es X.env)).any (·.1) = false := by rfl) : PE X (.Call (.Name x p) (e :: es) [] pos) (tCall sp [] E0 t) := by
  obtain ⟨f, fd, hm, hk, hb, F⟩ := c
  exact pe_call F hr hg hm hk hb .nil pass0 ha hdb he hpl
theorem pe_cal0 (c : Cal X.prog X.w X.K X.mg X.base k x ps sp) (hr : Room k X.A) (hg : Gl X x) (hdb : (x == ("__debug__" : PySem.Str)) = false := by decide) : PE X (.Call (.Name x p) [] [] pos) (tCall sp [] E0 tNil) := by
  obtain ⟨f, fd, hm, hk, hb, F⟩ := c
  exact pe_call0 F hr hg hm hk hb .nil pass0 hdb
theorem pe_calM {pl : Sem Bool} (he : PE X o ta) (cl : Cls X.K C) (c : CalM X.prog X.w X.K X.mg X.base C k m ps sp) (hr : Room k X.A) (ha : PA X (e :: es) t)
    (hst : starEach (e :: es) X.env = (false, eval e X.env) :: starEach es X.env := by rfl) (hpl : (backTo pos (starEach es X.env)).any (·.1) = false := by rfl)
    (ht : eval (.Call (.Attribute o m apos) (e :: es) [] pos) X.env = (do
      let ov ← eval o X.env
      standAt apos.atName
      let (f, first) ← holding [ov] (getMethod ov m pl)
      callWith pos f first (backTo pos (starEach (e :: es) X.env)) (backToKw pos (keywordEach [] X.env))) := by rfl) :
    PE X (.Call (.Attribute o m apos) (e :: es) [] pos) (tMeth C m sp [] E0 ta t) := by
  obtain ⟨f, fd, hm, hb, F⟩ := c
  exact pe_meth he cl hm F hr hb .nil pass0 ha hst hpl ht
theorem pe_calM0 {pl : Sem Bool} (he : PE X o ta) (cl : Cls X.K C) (c : CalM X.prog X.w X.K X.mg X.base C k m ps sp) (hr : Room k X.A)
    (ht : eval (.Call (.Attribute o m apos) [] [] pos) X.env = (do
      let ov ← eval o X.env
      standAt apos.atName
      let (f, first) ← holding [ov] (getMethod ov m pl)
      callWith pos f first (backTo pos (starEach [] X.env)) (backToKw pos (keywordEach [] X.env))) := by rfl) :
    PE X (.Call (.Attribute o m apos) [] [] pos) (tMeth C m sp [] E0 ta tNil) := by
  obtain ⟨f, fd, hm, hb, F⟩ := c
  exact pe_meth0 he cl hm F hr hb .nil pass0 ht
theorem pe_calI (c : CalI X.prog X.w X.K X.mg X.base C k x ps sp) (hr : Room (k + 1) X.A) (hg : Gl X x) (ha : PA X (e :: es) t) (hdb : (x == ("__debug__" : PySem.Str)) = false := by decide)
    (he : starEach (e :: es) X.env = (false, eval e X.env) :: starEach es X.env := by rfl) (hpl : (backTo pos (starEach es X.env)).any (·.1) = false := by rfl) : PE X (.Call (.Name x p) (e :: es) [] pos) (tMake C sp [] E0 t) := by
  obtain ⟨f, fd, hm, M, hb, F⟩ := c
  exact pe_make M F hr hg hm hb .nil pass0 ha hdb he hpl
theorem pe_calI0 (c : CalI X.prog X.w X.K X.mg X.base C k x ps sp) (hr : Room (k + 1) X.A) (hg : Gl X x) (hdb : (x == ("__debug__" : PySem.Str)) = false := by decide) : PE X (.Call (.Name x p) [] [] pos) (tMake C sp [] E0 tNil) := by
  obtain ⟨f, fd, hm, M, hb, F⟩ := c
  exact pe_make0 M F hr hg hm hb .nil pass0 hdb
end
/-! ### data of ints -/
def pdI (ns : List Int) : PyData := .list (ns.map PyData.int)
theorem dpAll_ints (K : PySem.W.Frag) (H : Hp) : ∀ ns : List Int, DpAll K H (ns.map V.int) (ns.map PyData.int)
  | [] => .nil
  | n :: ns => .cons (.int n) (dpAll_ints K H ns)
theorem dp_ints {K : PySem.W.Frag} {H : Hp} {a : Addr} {ns : List Int} (h : SqL K H a (ns.map V.int)) : Dp K H (.ref a) (pdI ns) := .lst h (dpAll_ints K H ns)
theorem canLay_ints : ∀ ns : List Int, PyData.canLayAll0 (ns.map PyData.int) = true
  | [] => rfl
  | n :: ns => by
    show (PyData.canLay0 (.int n) && PyData.canLayAll0 (ns.map PyData.int)) = true
    rw [canLay_ints ns]
    rfl
theorem depth_ints : ∀ ns : List Int, PyData.depthAll (ns.map PyData.int) = 0
  | [] => rfl
  | n :: ns => by
    show max (PyData.depth (.int n)) (PyData.depthAll (ns.map PyData.int)) = 0
    rw [depth_ints ns]
    rfl
theorem shaped_ints (ns : List Int) : SeqAt.shaped (pdI ns) = true := by
  have h : PyData.depth (pdI ns) = PyData.depthAll (ns.map PyData.int) + 1 := by unfold pdI; rw [PyData.depth]
  unfold SeqAt.shaped
  rw [h, depth_ints]
  have h2 : (pdI ns).canLay0 = true := by unfold pdI; rw [PyData.canLay0]; exact canLay_ints ns
  rw [h2]
  rfl
theorem eqvAll_ints : ∀ ns ms : List Int, PyData.eqvAll (ns.map PyData.int) (ms.map PyData.int) = decide (ns = ms)
  | [], [] => rfl
  | [], m :: ms => by simp [PyData.eqvAll]
  | n :: ns, [] => by simp [PyData.eqvAll]
  | n :: ns, m :: ms => by
    show (PyData.eqv (.int n) (.int m) && PyData.eqvAll (ns.map PyData.int) (ms.map PyData.int)) = _
    rw [eqvAll_ints ns ms]
    have : PyData.eqv (.int n) (.int m) = (n == m) := by rw [PyData.eqv]
    rw [this]
    by_cases h : n = m <;> simp [h]
theorem eqv_ints (ns ms : List Int) : PyData.eqv (pdI ns) (pdI ms) = decide (ns = ms) := by
  unfold pdI
  rw [PyData.eqv]
  exact eqvAll_ints ns ms
end Mc
namespace Mc
open PySem PySem.Spec PyProof.Rows SrtO
/-! ### sorted of pairs of a text and an int, out of a list or a tuple -/
def IsPairS (h : Heap) (v : Value) (x : PySem.Str) (y : Int) : Prop := ∃ a o t u n, v = .ref a ∧ h.get? a = some o ∧ o.cls = .type "tuple" ∧ o.data = .seq #[.str x t, .int y u] n
theorem IsPairS.keeps {h h' : Heap} {v : Value} {x : PySem.Str} {y : Int} (p : IsPairS h v x y) (k : ∀ b o, h.get? b = some o → o.cls = .type "tuple" → h'.get? b = some o) : IsPairS h' v x y := by
  obtain ⟨a, o, t, u, n, e, ho, hc, hd⟩ := p
  exact ⟨a, o, t, u, n, e, k _ _ ho hc, hc, hd⟩
def lexS (p q : PySem.Str × Int) : Bool := if p.1 = q.1 then decide (p.2 < q.2) else decide (p.1.cps.toList < q.1.cps.toList)
theorem str_ext {a b : PySem.Str} (h : a.cps.toList = b.cps.toList) : a = b := by
  obtain ⟨x⟩ := a
  obtain ⟨y⟩ := b
  have : x = y := by simpa using congrArg List.toArray h
  rw [this]
theorem swo_lexS {α : Type} (k : α → PySem.Str × Int) : Swo fun v u => lexS (k v) (k u) := by
  have irr : ∀ l : List Nat, ¬ l < l := fun l => List.lt_irrefl l
  refine ⟨fun x y h => ?_, fun x y z h1 h2 => ?_⟩
  · unfold lexS at h ⊢
    by_cases e : (k x).1 = (k y).1
    · rw [if_pos e, decide_eq_true_eq] at h
      rw [if_pos e.symm, decide_eq_false_iff_not]
      omega
    · rw [if_neg e, decide_eq_true_eq] at h
      rw [if_neg (Ne.symm e), decide_eq_false_iff_not]
      exact fun z => irr _ (List.lt_trans h z)
  · unfold lexS at h1 h2 ⊢
    generalize (k x).1 = a at *
    generalize (k y).1 = b at *
    generalize (k z).1 = c at *
    by_cases e1 : b = a
    · subst e1
      rw [if_pos rfl, decide_eq_false_iff_not] at h1
      by_cases e2 : c = b
      · subst e2
        rw [if_pos rfl, decide_eq_false_iff_not] at h2
        rw [if_pos rfl, decide_eq_false_iff_not]
        omega
      · rw [if_neg e2] at h2
        rw [if_neg e2]
        exact h2
    · rw [if_neg e1, decide_eq_false_iff_not] at h1
      by_cases e2 : c = b
      · subst e2
        rw [if_neg e1, decide_eq_false_iff_not]
        exact h1
      · rw [if_neg e2, decide_eq_false_iff_not] at h2
        have l1 : a.cps.toList ≤ b.cps.toList := List.not_lt.mp h1
        have l2 : b.cps.toList ≤ c.cps.toList := List.not_lt.mp h2
        by_cases e3 : c = a
        · subst e3
          exact absurd (str_ext (List.le_antisymm l2 l1)) e1
        · rw [if_neg e3, decide_eq_false_iff_not]
          exact List.not_lt.mpr (List.le_trans l1 l2)
section
variable {prog : Program} {w : World} {A : Around} {E : Value → Shared → Prop} {s : Shared}
theorem pairS_cmp {vs : List Value} {k : Value → PySem.Str × Int} (hp : ∀ v ∈ vs, IsPairS s.heap v (k v).1 (k v).2) : Cmp prog w A s (tuples' true) (fun p => p.1 ∈ vs) (lt2 fun v u => lexS (k v) (k u)) := by
  intro p q hm hm'
  have h1 := hp _ hm
  have h2 := hp _ hm'
  show wpAny (model prog w) A (keyLt' (tuples' true) p.1 q.1) (fun r s' => s' = s ∧ r = lexS (k p.1) (k q.1)) (fun _ _ => False) s
  unfold lexS
  generalize (k p.1).1 = x at h1 ⊢
  generalize (k p.1).2 = y at h1 ⊢
  generalize (k q.1).1 = x' at h2 ⊢
  generalize (k q.1).2 = y' at h2 ⊢
  obtain ⟨a, o, t, u, n, e, ho, hc, hd⟩ := h1
  obtain ⟨a', o', t', u', n', e', ho', hc', hd'⟩ := h2
  rw [e, e']
  refine PySem.W.kat_lt ho hd ho' hd' ?_
  show PySem.W.KatLex prog w A true (decide (2 < 2)) _ [(.str x t, .str x' t'), (.int y u, .int y' u')] 0 s
  refine PySem.W.kat_cons (SeqAt.EqAt.str_str x t x' t' prog w _ _ ?_)
  refine PySem.W.kat_go (fun e1 => ?_) (fun e1 => ?_)
  · have ex : x = x' := by simpa using e1
    refine PySem.W.kat_yes (PySem.W.kat_cons (SeqAt.EqAt.int_int y u y' u' prog w _ _ ?_))
    refine PySem.W.kat_go (fun e2 => ?_) (fun e2 => ?_)
    · have ey : y = y' := by simpa using e2
      have e3 : (if x = x' then decide (y < y') else decide (x.cps.toList < x'.cps.toList)) = false := by
        rw [if_pos ex, ey]
        exact decide_eq_false (Int.lt_irrefl _)
      exact PySem.W.kat_yes (PySem.W.kat_nil ⟨rfl, e3.symm⟩)
    · have e3 : (if x = x' then decide (y < y') else decide (x.cps.toList < x'.cps.toList)) = decide (y < y') := if_pos ex
      refine PySem.W.kat_no (PySem.W.kat_one _ _ (PyProof.Rows.lt_int ?_))
      exact (show s = s ∧ decide (y < y') = (if x = x' then decide (y < y') else decide (x.cps.toList < x'.cps.toList)) from ⟨rfl, e3.symm⟩)
  · have ex : ¬ x = x' := by simpa using e1
    have e3 : (if x = x' then decide (y < y') else decide (x.cps.toList < x'.cps.toList)) = decide (x.cps.toList < x'.cps.toList) := if_neg ex
    exact PySem.W.kat_no (oneLt_str ⟨rfl, e3.symm⟩)
theorem firstsS_of {h : Heap} : ∀ {vs : List Value}, (∀ v ∈ vs, ∃ x y, IsPairS h v x y) → ∃ fs : List Value, PySem.W.KatTups h vs fs ∧ fs.length = vs.length ∧ ∀ f ∈ fs, ∃ x t, f = Value.str x t
  | [], _ => ⟨[], PySem.W.KatTups.nil, rfl, fun _ hm => by simp at hm⟩
  | v :: vs, hp => by
    obtain ⟨fs, h1, h2, h3⟩ := firstsS_of (vs := vs) fun v' hm => hp v' (List.mem_cons_of_mem _ hm)
    obtain ⟨x, y, a, o, t, u, n, e, ho, hc, hd⟩ := hp v (List.mem_cons_self ..)
    subst e
    refine ⟨.str x t :: fs, PySem.W.KatTups.cons ho hc hd rfl h1, by rw [List.length_cons, List.length_cons, h2], fun f hm => ?_⟩
    rcases List.mem_cons.mp hm with rfl | hm
    · exact ⟨x, t, rfl⟩
    · exact h3 f hm
theorem pairsS_sortable {a : Addr} {vs : List Value} {k : Value → PySem.Str × Int} (h0 : 0 < vs.length) (hp : ∀ v ∈ vs, IsPairS s.heap v (k v).1 (k v).2) (ha : ∀ o, s.heap.get? a = some o → o.cls ≠ .type "tuple") : SortableO prog w A s a vs fun v u => lexS (k v) (k u) := by
  intro h' keep
  have hp' : ∀ v ∈ vs, IsPairS h' v (k v).1 (k v).2 := fun v hm => (hp v hm).keeps fun b o e c => keep b o (fun z => by subst z; exact ha o e c) e
  obtain ⟨fs, h1, h2, h3⟩ := firstsS_of fun v hm => ⟨_, _, hp' v hm⟩
  refine ⟨tuples' true, fun Q E hq => ?_, pairS_cmp hp'⟩
  refine PySem.W.kat_kind (T := .type "str") h1 (by omega) (fun f hm => ?_) (by rfl) ?_
  · obtain ⟨x, t, rfl⟩ := h3 f hm
    exact PySem.W.Looks.now
  · have e : (Value.type "str" != Value.type "tuple") = true := by first | decide +kernel | rfl | decide
    rw [e]
    exact hq
/-- what a tuple gives out, told with the heap behind -/
theorem collect_tupE {it : Addr} {o : Obj} {vs : List Value} {n : Nat} {Q : List Value → Shared → Prop} (ho : s.heap.get? it = some o) (hc : o.cls = .type "tuple") (hd : o.data = .seq vs.toArray n) (hz : vs.length ≤ sizeLine)
    (hQ : Q vs { s with heap := (s.heap.push (seqObj "list" #[] 0)).update s.heap.objs.size (Obj.mapSeq (· ++ vs.toArray)) }) : wpAny (model prog w) A (collect (.ref it)) Q E s := by
  have hz' : vs.toArray.size ≤ sizeLine := by rw [List.size_toArray]; exact hz
  have h0 : (s.heap.push (seqObj "list" #[] 0)).get? s.heap.objs.size = some { cls := .type "list", data := .seq #[] 0 } := Heap.get?_push_size _ rfl
  have h1 := Heap.get?_update_self (Obj.mapSeq (· ++ vs.toArray)) h0 rfl
  unfold collect
  refine wpAny_bind (wpAny_runValue (codeAny_builtin F.entry_proto_collect ?_))
  rw [Around.under_plainId F.plain_proto_collect _]
  refine wpAny_bind (m := newList []) (wpAny_newList ?_ (Nat.zero_le _))
  refine wpAny_pure ⟨plainId_quiet F.plain_list_iadd _, codeAny_builtin F.entry_list_iadd ?_⟩
  rw [Around.under_plainId F.plain_list_iadd _]
  have last : wpAny (model prog w) A (load s.heap.objs.size >>= fun o => match o.data with | .seq xs _ => pure xs.toList | _ => unsupported "internal:collect") Q E { s with heap := (s.heap.push (seqObj "list" #[] 0)).update s.heap.objs.size (Obj.mapSeq (· ++ vs.toArray)) } := by
    refine wpAny_bind (wpAny_load h1 (wpAny_pure ?_))
    have e : ((#[] : Array Value) ++ vs.toArray).toList = vs := by simp
    show Q ((#[] : Array Value) ++ vs.toArray).toList _
    rw [e]
    exact hQ
  refine wpAny_mono (wpAny_extend_seq (hsz := hz') (A := A) (R := fun r s' => r = .ok (.ret (.ref s.heap.objs.size)) ∧ s' = { s with heap := (s.heap.push (seqObj "list" #[] 0)).update s.heap.objs.size (Obj.mapSeq (· ++ vs.toArray)) })
    (s := { s with heap := s.heap.push (seqObj "list" #[] 0) }) _ it _ 0 (.inr rfl) h0 (Heap.get?_push_of_some _ ho) hc hd ⟨rfl, rfl⟩) (fun fin s' h => ?_) (fun e s' h => absurd h.1 (by simp))
  cases fin with
  | done f =>
    obtain ⟨e, rfl⟩ := h
    cases e
    exact last
  | again c' => exact ⟨h.1, codeAny_mono h.2 fun r s'' hr => by obtain ⟨rfl, rfl⟩ := hr; exact last⟩
/-- sorted(t), t a tuple of such pairs -/
theorem sorted_pairsS {it : Addr} {o : Obj} {vs : List Value} {n : Nat} {k : Value → PySem.Str × Int} {Q : Value → Shared → Prop} (ho : s.heap.get? it = some o) (hc : o.cls = .type "tuple") (hd : o.data = .seq vs.toArray n)
    (hz : vs.length ≤ sizeLine) (hp : ∀ v ∈ vs, IsPairS s.heap v (k v).1 (k v).2)
    (h : ∀ (h' : Heap) (d : Addr) (out : List Value), Srtd (fun v u => lexS (k v) (k u)) out → Stb (fun v u => lexS (k v) (k u)) out vs → (∀ b o, s.heap.get? b = some o → h'.get? b = some o) → s.heap.objs.size ≤ d → (∃ n, h'.get? d = some (seqObj "list" out.toArray n)) → Q (.ref d) { s with heap := h' }) :
    wpAny (model prog w) A (call (.builtin "sorted") [.ref it]) Q E s := by
  refine Calls.call_function_entry kind_sorted plain_sorted entry_sorted (args_sorted1 _) ?_
  unfold Builtin.«sorted»
  refine wpAny_bind (m := checkCount "sorted" 1 1 _) (wpAny_pure ?_)
  refine wpAny_bind (collect_tupE ho hc hd hz ?_)
  have k' : ∀ b o, s.heap.get? b = some o → ((s.heap.push (seqObj "list" #[] 0)).update s.heap.objs.size (Obj.mapSeq (· ++ vs.toArray))).get? b = some o := fun b o q => by
    rw [Heap.get?_update_ne _ _ _ _ (Nat.ne_of_lt (Heap.lt_size q))]
    exact Heap.get?_push_of_some _ q
  have hsz : ((s.heap.push (seqObj "list" #[] 0)).update s.heap.objs.size (Obj.mapSeq (· ++ vs.toArray))).objs.size = s.heap.objs.size + 1 := by rw [Heap.size_update, size_push']
  generalize (s.heap.push (seqObj "list" #[] 0)).update s.heap.objs.size (Obj.mapSeq (· ++ vs.toArray)) = h' at k' hsz ⊢
  refine wpAny_bind (wpAny_newList ?_ hz)
  have hoL : (h'.push (seqObj "list" vs.toArray 0)).get? h'.objs.size = some (seqObj "list" vs.toArray 0) := Heap.get?_push_size _ rfl
  have kp : ∀ b o, s.heap.get? b = some o → b ≠ h'.objs.size ∧ (h'.push (seqObj "list" vs.toArray 0)).get? b = some o := fun b o q => ⟨Nat.ne_of_lt (Heap.lt_size (k' b o q)), Heap.get?_push_of_some _ (k' b o q)⟩
  refine wpAny_bind (wpAny_holding (wpAny_call_entry slot_list_sort ⟨_, hoL, rfl⟩ entry_list_sort (list_sort_ord (s := { s with heap := h'.push (seqObj "list" vs.toArray 0) }) (swo_lexS k) hoL hz (fun h2 => ?_) fun out hs hb => ⟨_, rfl, ?_⟩) (args_list_sort _)))
  · refine pairsS_sortable (s := { s with heap := h'.push (seqObj "list" vs.toArray 0) }) (by omega) (fun v hm => (hp v hm).keeps fun b o e _ => (kp b o e).2) fun o e => ?_
    have e' : some o = some (seqObj "list" vs.toArray 0) := e.symm.trans hoL
    cases e'
    intro c
    exact absurd (Value.type.inj c) (by decide)
  · refine wpAny_pure ⟨_, rfl, h _ _ out hs hb (fun b o e => ?_) (by rw [hsz]; exact Nat.le_succ _) (sortedHeap_at hoL)⟩
    rw [sortedHeap_old (kp b o e).1 (Heap.lt_size (kp b o e).2)]
    exact (kp b o e).2
end
open L2
/-- x before y: by its text, then by its int -/
abbrev ltS (k : V → PySem.Str × Int) (x y : V) : Bool := lexS (k x) (k y)
/-! ### a tuple whose object is known whole -/
def TupR (h : Heap) (a : Addr) (xs : List V) : Prop := xs.length ≤ sizeLine ∧ ∃ (its : List Value) (n : Nat), Vals xs its ∧ h.get? a = some { cls := .type "tuple", data := .seq its.toArray n }
def TupO (a : Addr) (xs : List V) : HO := .ext fun h => TupR h a xs
theorem tupO_new {P : Program} {w : World} {H : Hp} {h : Heap} {a : Addr} {xs : List V} (R : TupR h a xs) : ObjOk P w H h a (TupO a xs) := by
  obtain ⟨z, its, n, r, e⟩ := id R
  exact ⟨R, ⟨_, e⟩, fun h1 h2 ⟨z1, its1, n1, r1, e1⟩ k => ⟨z1, its1, n1, r1, k _ e1⟩⟩
section
variable {X : Cx} {pins : List (Addr × Obj)} {σ : L2.St} {H : Hp} {s : Shared} {a : Addr} {xs : List V}
theorem tupO_get (I : Inv X pins σ H s) (h : H a = some (TupO a xs)) : TupR s.heap a xs := (I.hok a _ h).1
end
section
variable {X : Cx} {es : List Expr} {t : TA} {pos : Pos} {x1 : Nat}
def tTupO (t : TA) : TE := fun σ H Q => t σ H fun xs H1 => xs.length ≤ sizeLine ∧ ∀ p, H1 p = none → Q (.ref p) (upd H1 p (TupO p xs))
theorem pe_tupO (h : PA X es t) : PE X (.Tuple es x1 pos) (tTupO t) := by
  refine ⟨fun pins s σ H Q I hq => ?_⟩
  refine wpAny_Tuple_spliced (thn (h.run pos pins s σ H _ I hq) fun us s1 ⟨xs, H1, I1, r, z, q⟩ => ⟨by rw [← r.length]; exact z, ?_⟩)
  exact ⟨.ref s1.heap.objs.size, upd H1 s1.heap.objs.size (TupO s1.heap.objs.size xs), I1.laid (t' := s1.toks) (fun b u e => Heap.get?_push_of_some _ e) (Nat.le_refl _) (tupO_new ⟨z, us, _, r, Heap.get?_push_size _ rfl⟩), rfl, q _ (I1.hok.fresh (Nat.le_refl _))⟩
/-- tuple(xs), xs a list -/
def kTupO (K : PySem.W.Frag) (x : V) (H : Hp) (Q : VK) : Prop := ∃ p xs, x = .ref p ∧ SqL K H p xs ∧ ∀ q, H q = none → Q (.ref q) (upd H q (TupO q xs))
theorem rl_tupO {K : PySem.W.Frag} (hK : X.K = K) (pins : List (Addr × Obj)) (s : Shared) (σ : L2.St) (H : Hp) (x : V) (v : Value) (Q : VK) (I : Inv X pins σ H s) (r : RelV x v) (h : kTupO K x H Q) :
    wpAny (model X.prog X.w) X.A (call (.type "tuple") [v]) (EP X pins σ Q) X.xe s := by
  subst hK
  obtain ⟨p, xs, rfl, hs, q⟩ := h
  obtain rfl : v = .ref p := r
  obtain ⟨its, rv, pl, hz⟩ := I.list hs
  refine call_tuple_list pl.isList (fun h' hk => ?_) (by rw [List.size_toArray, ← rv.length]; exact hz)
  have I1 : Inv X pins σ H { s with heap := h' } := I.kept (t' := s.toks) hk
  have I2 := I1.laid (t' := s.toks) (o := TupO h'.objs.size xs) (h' := h'.push { cls := .type "tuple", data := .seq its.toArray }) (fun b o e => Heap.get?_push_of_some _ e) (Nat.le_refl _) (tupO_new ⟨hz, its, _, rv, Heap.get?_push_size _ rfl⟩)
  exact ⟨.ref h'.objs.size, _, I2, rfl, q _ (I1.hok.fresh (Nat.le_refl _))⟩
theorem pe_tupleOfO {K : PySem.W.Frag} (hK : X.K = K) {a : Expr} {ta : TE} {p pos : Pos} (hg : Gl X "tuple") (hm : X.mg "tuple" = none) (ha : PE X a ta) (na : starEach [a] X.env = (false, eval a X.env) :: starEach [] X.env := by rfl) :
    PE X (.Call (.Name "tuple" p) [a] [] pos) (tThen ta (kTupO K)) := by
  refine ⟨fun pins s σ H Q I h => ?_⟩
  exact Call_ (ld_blt I hg hm boot_tuple (PyProof.Rows.callWith_type1 (one_arg ha I h (fun v s2 x H2 I2 r q => rl_tupO hK pins s2 σ H2 x v Q I2 r q) na) na))
end
def rSortedPS : List V → Hp → VK → Prop := fun vs H Q => ∃ (a : Addr) (xs : List V) (k : V → PySem.Str × Int), vs = [V.ref a] ∧ H a = some (TupO a xs) ∧ (∀ x ∈ xs, ∃ t, x = V.ref t ∧ H t = some (.tup [.str (k x).1, .int (k x).2])) ∧
  ∀ ys p, Srtd (ltS k) ys → Stb (ltS k) ys xs → H p = none → Q (.ref p) (upd H p (.lst ys))
theorem cr_sortedPS {X : Cx} : CallR X (.builtin "sorted") rSortedPS := by
  intro pins s σ H vs us Q I r h
  obtain ⟨a, xs, k, rfl, hs, hx, q⟩ := h
  obtain ⟨hz, its, n, rv, ho⟩ := tupO_get I hs
  obtain ⟨u, rfl, ru⟩ := vals1 r
  obtain rfl : u = Value.ref a := ru
  obtain ⟨e1, e2⟩ := refs_back rv fun x m => (hx x m).imp fun t e => e.1
  refine sorted_pairsS (k := fun u => k (backV u)) ho rfl rfl (by rw [← rv.length]; exact hz) (fun v hv => ?_) fun h' d out h1 h2 kp hd hn => ?_
  · obtain ⟨t, rfl⟩ := e2 v hv
    obtain ⟨t', e, ht⟩ := hx (V.ref t) (by rw [e1]; exact List.mem_map.mpr ⟨_, hv, rfl⟩)
    cases e
    obtain ⟨_, its2, r2, o2, ho2, hc2, n2, hd2⟩ := I.hok _ _ ht
    obtain ⟨u1, u2, rfl, ri, rj⟩ := vals2 r2
    obtain ⟨t1, rfl⟩ := ri
    obtain ⟨t2, rfl⟩ := rj
    exact ⟨t, o2, t1, t2, n2, rfl, ho2, hc2, hd2⟩
  · have h3 : ∀ u ∈ out, ∃ a, u = Value.ref a := fun u hu => e2 u (h2.perm.mem_iff.mp hu)
    obtain ⟨m, hn⟩ := hn
    have hb : Stb (ltS k) (out.map backV) xs := by
      rw [e1]
      exact Stb.map (swo_lexS k) backV h2
    exact ⟨.ref d, upd H d (.lst (out.map backV)), I.laid (t' := s.toks) kp hd ⟨by rw [hb.len]; exact hz, out, m, vals_back h3, hn⟩, rfl, q _ d (srtd_map h1) hb (I.hok.fresh hd)⟩
theorem pairsV_of {X : Cx} {pins : List (Addr × Obj)} {σ : L2.St} {H : Hp} {s : Shared} (I : Inv X pins σ H s) : ∀ {ps : List Addr} {kvs : List (L2.Key × V)}, Paired (fun p kv => SqT X.K H p [kV kv.1, kv.2]) ps kvs →
    ∃ (prs : List (L2.Key × Value)) (pvs : List (Value × Value)), KV kvs prs ∧ pvs.length = ps.length ∧ prs.length = ps.length ∧
      ∀ (j : Nat) k v, pvs[j]? = some (k, v) → (∃ b, ps[j]? = some b ∧ PairAt s.heap b k v) ∧ ∃ key, prs[j]? = some (key, v) ∧ (mixKind X.prog X.w).is key k = true
  | _, _, .nil => ⟨[], [], .nil, rfl, rfl, fun j k v e => by simp at e⟩
  | _, _, .cons (a := p) (b := kv) h t => by
    obtain ⟨prs, pvs, r, l1, l2, hp⟩ := pairsV_of I t
    obtain ⟨its, rv, ht, _⟩ := I.tuple h
    obtain ⟨u, y, ei, ru, ry⟩ := vals2 rv
    subst ei
    refine ⟨(kv.1, y) :: prs, (u, y) :: pvs, .cons ⟨rfl, ry⟩ r, congrArg Nat.succ l1, congrArg Nat.succ l2, fun j k v e => ?_⟩
    cases j with
    | zero =>
      cases Option.some.inj e
      exact ⟨⟨p, rfl, .inl ht⟩, kv.1, rfl, kV_is (P := X.prog) (w := X.w) ru⟩
    | succ j => exact hp j k v e
/-- dict(t), t a tuple of pairs -/
def rDictO (K : PySem.W.Frag) : List V → Hp → VK → Prop := fun vs H Q => ∃ (a : Addr) (ps : List Addr) (kvs : List (L2.Key × V)), vs = [.ref a] ∧ H a = some (TupO a (ps.map V.ref)) ∧ Paired (fun p kv => SqT K H p [kV kv.1, kv.2]) ps kvs ∧
  ∀ p, H p = none → Q (.ref p) (upd H p (.dK (mergeK [] kvs)))
theorem call_dictO {X : Cx} (hcalm : X.calm = true) : CallR X (.type "dict") (rDictO X.K) := by
  intro pins s σ H vs us Q I r h
  obtain ⟨a, ps, kvs, rfl, hs, hp, q⟩ := h
  obtain ⟨hz, its, n, rv, ho⟩ := tupO_get I hs
  obtain ⟨u, rfl, ru⟩ := vals1 r
  obtain rfl : u = Value.ref a := ru
  have ei := refs_at rv
  subst ei
  rw [List.length_map] at hz
  obtain ⟨prs, pvs, rel, l1, l2, hpr⟩ := pairsV_of I hp
  have hq : ∀ j, j < ps.length → ∃ k v, pvs[j]? = some (k, v) := fun j hj => ⟨_, _, List.getElem?_eq_getElem (by omega)⟩
  refine PySem.call_dict_pairs (knd := mixKind X.prog X.w) (kvs := prs) (PairArg.tuple a (ps.map Value.ref).toArray (fun j => ps.getD j 0) pvs) (I.ok.hd hcalm)
    ⟨⟨_, n, ho, rfl, rfl, rfl⟩, by rw [List.size_toArray, List.length_map, l1], fun j k v e => ?_⟩ ⟨by omega, fun i key v e => ?_⟩ (by omega) fun h' tk hd' k => ?_
  · obtain ⟨⟨b, hb, hat⟩, _⟩ := hpr j k v e
    have e2 : ps.getD j 0 = b := by rw [List.getD_eq_getElem?_getD, hb]; rfl
    show (ps.map Value.ref).toArray[j]? = some (Value.ref (ps.getD j 0)) ∧ PairAt s.heap (ps.getD j 0) k v
    rw [e2]
    exact ⟨by simp [hb], hat⟩
  · obtain ⟨_, key', e1, e2⟩ := hpr i key v e
    exact ⟨key', e1, e2⟩
  · have hm : (s.heap.objs.size == sysModules) = false := beq_eq_false_iff_ne.mpr (Nat.ne_of_gt I.big)
    have hlen : (mergeK [] kvs).length ≤ sizeLine := by
      refine Nat.le_trans (length_mergeK kvs []) ?_
      rw [List.length_nil, Nat.zero_add, rel.length, l2]
      exact hz
    exact ⟨.ref s.heap.objs.size, upd H s.heap.objs.size (.dK (mergeK [] kvs)), I.laid (t' := tk) (fun b o e => k b o (by simp) e) (Nat.le_refl _) (show ObjOk X.prog X.w _ _ _ (.dK (mergeK [] kvs)) from ⟨hlen, hm, merged [] prs, KV.merge rel .nil, hd'⟩), rfl, q _ (I.hok.fresh (Nat.le_refl _))⟩
/-- what is sorted already stays as it is -/
theorem sorted_same {k : V → PySem.Str × Int} {xs ys : List V} (hx : xs.Pairwise fun x y => (k x).1.cps.toList < (k y).1.cps.toList) (hs : Srtd (ltS k) ys) (hb : Stb (ltS k) ys xs) : ys = xs := by
  refine stb_uniq (swo_lexS k) hs ?_ hb
  refine hx.imp fun {x y} h => ?_
  have ne : ¬ (k x).1 = (k y).1 := fun e => by rw [e] at h; exact List.lt_irrefl _ h
  show lexS (k y) (k x) = false
  unfold lexS
  rw [if_neg (Ne.symm ne), decide_eq_false_iff_not]
  exact fun w => List.lt_irrefl _ (List.lt_trans h w)
/-- a dict comprehension over a list that stays -/
theorem dc_list {K : PySem.W.Frag} {a : Addr} {xs : List V} {g : TG} {tt : TT} {tk tv : TE} {vs : List Nat} {σ : L2.St} {H1 : Hp} {D : Addr} {Qd : Hp → Prop} (Pv : Nat → Hp → Prop) (h0 : Pv 0 (upd H1 D (.dK []))) (hl : ∀ i H, i ≤ xs.length → Pv i H → SqL K H a xs)
    (hs : ∀ i x H, xs[i]? = some x → Pv i H → g x (wipe σ vs) H fun σ2 H2 => wipe σ2 vs = wipe σ vs ∧ tt σ2 H2 fun b H3 =>
      if b = true then tk σ2 H3 fun y H4 => tv σ2 H4 fun z H5 => ∃ kvs k, y = kV k ∧ H5 D = some (.dK kvs) ∧ kvs.length < sizeLine ∧ Pv (i + 1) (upd H5 D (.dK (putK kvs k z))) else Pv (i + 1) H3) (hd : ∀ H, Pv xs.length H → Qd H) :
    ∃ W : Nat → Nat → Hp → Prop, (∃ m, W 0 m (upd H1 D (.dK []))) ∧ ∀ i m H, W i m H →
      ((Itl K a).stop i H ∧ Qd H) ∨ ((Itl K a).go i H ∧ ∃ Nx : Hp → Prop, (∀ H', Nx H' → ∃ m', m' < m ∧ W (i + 1) m' H') ∧ ∀ x H', (Itl K a).yld i H x H' → g x (wipe σ vs) H' fun σ2 H2 => wipe σ2 vs = wipe σ vs ∧ tt σ2 H2 fun b H3 =>
        if b = true then tk σ2 H3 fun y H4 => tv σ2 H4 fun z H5 => ∃ kvs k, y = kV k ∧ H5 D = some (.dK kvs) ∧ kvs.length < sizeLine ∧ Nx (upd H5 D (.dK (putK kvs k z))) else Nx H3) := by
  refine ⟨fun i m H => m = xs.length - i ∧ i ≤ xs.length ∧ Pv i H, ⟨xs.length, by simp, Nat.zero_le _, h0⟩, ?_⟩
  rintro i m H ⟨rfl, hi, p⟩
  have q := hl i H hi p
  by_cases hlt : i < xs.length
  · refine .inr ⟨⟨xs, xs[i], q, by simp [hlt]⟩, Pv (i + 1), fun H' p' => ⟨xs.length - (i + 1), by omega, rfl, hlt, p'⟩, fun x H' y => ?_⟩
    obtain ⟨e, y⟩ := y
    subst e
    exact hs i x _ (y xs q) p
  · have e : i = xs.length := by omega
    subst e
    exact .inl ⟨⟨xs, q, Nat.le_refl _⟩, hd H p⟩
end Mc
namespace Mc
open PySem L2 PySem.Spec PyProof.Rows
theorem erase_at [DecidableEq α] {k : α} : ∀ {xs : List α}, k ∈ xs → ∃ j, xs[j]? = some k ∧ (∀ m : Nat, m < j → ∀ y, xs[m]? = some y → y ≠ k) ∧ xs.eraseIdx j = xs.erase k
  | x :: xs, h => by
    by_cases e : x = k
    · exact ⟨0, by rw [e]; rfl, fun m z => absurd z (Nat.not_lt_zero _), by rw [e]; simp⟩
    · obtain ⟨j, a, b, c⟩ := erase_at (xs := xs) ((List.mem_cons.mp h).resolve_left fun z => e z.symm)
      refine ⟨j + 1, a, fun m hm y hy => ?_, by rw [List.erase_cons_tail (by simpa using e), List.eraseIdx_cons_succ, c]⟩
      cases m with
      | zero => cases Option.some.inj hy; exact e
      | succ m => exact b m (Nat.lt_of_succ_lt_succ hm) y hy
theorem eraseIdx_map' (f : α → β) : ∀ (l : List α) (j : Nat), (l.map f).eraseIdx j = (l.eraseIdx j).map f
  | [], _ => by simp
  | _ :: _, 0 => by simp
  | _ :: r, j + 1 => by simp [eraseIdx_map' f r j]
def isS (k : PySem.Str) : Value → Bool
  | .str y _ => y.cps.toList == k.cps.toList
  | _ => false
section
variable {X : Cx}
def rRemS : V → List V → Hp → VK → Prop := fun x vs H Q => ∃ (l : Addr) (xs : List PySem.Str) (k : PySem.Str), x = .ref l ∧ vs = [.str k] ∧ H l = some (.lst (xs.map V.str)) ∧ k ∈ xs ∧ Q .non (upd H l (.lst ((xs.erase k).map V.str)))
theorem mt_removeS : MtM X "list.remove" rRemS := by
  intro pins s σ H x vs v us Q I rx rv ⟨l, xs, k, ex, ev, hl, hk, q⟩
  subst ex; subst ev; cases rx
  obtain ⟨u, eu, ⟨t, et⟩⟩ := rv.one
  subst eu; subst et
  obtain ⟨_, its, n, r, hlen, hg⟩ := I.lstM hl
  obtain ⟨j, a, b, c⟩ := erase_at hk
  have look : ∀ (i : Nat) (w : Value), its[i]? = some w → ∃ y t', xs[i]? = some y ∧ w = .str y t' := by
    intro i w hw
    cases hx : xs[i]? with
    | none => rw [r.none_of (by rw [List.getElem?_map, hx]; rfl)] at hw; cases hw
    | some y =>
      obtain ⟨w', h1, ⟨t', h2⟩⟩ := r.get (i := i) (x := .str y) (by rw [List.getElem?_map, hx]; rfl)
      rw [hw] at h1; cases h1
      exact ⟨y, t', rfl, h2⟩
  have lenx : its.length = xs.length := by rw [← r.length, List.length_map]
  have hj : j < xs.length := (List.getElem?_eq_some_iff.mp a).1
  have hj' : j < its.toArray.size := by simp; omega
  refine call_meets PySem.F.slot_list_remove ⟨_, hg, rfl⟩ PySem.F.entry_list_remove (PySem.F.args_list_remove_2 _ _)
    (MeetsSeq.list_remove l its.toArray n (.str k t) (isS k) ?g1 j hj' ?g2 ?g3 (by simp at *; omega)) ⟨hg, .non, _, I.lset (its' := its.eraseIdx j) (t' := s.toks) hl hg (by simp) (r.eraseIdx j) ?g4, rfl, ?g5⟩
  case g1 =>
    intro y hy
    obtain ⟨i, hi⟩ := List.mem_iff_getElem?.mp (show y ∈ its by simpa using hy)
    obtain ⟨z, t', _, e⟩ := look i y hi
    rw [e]
    exact SeqRoads2.EqGives.str z k t' t
  case g2 =>
    obtain ⟨z, t', hz, e⟩ := look j _ (List.getElem?_eq_getElem (by omega : j < its.length))
    rw [a] at hz; cases hz
    have e2 : its.toArray[j] = .str k t' := by simpa using e
    rw [e2]
    exact beq_self_eq_true k.cps.toList
  case g3 =>
    intro m hm hmj
    obtain ⟨z, t', hz, e⟩ := look m _ (List.getElem?_eq_getElem (by simpa using hm : m < its.length))
    have e2 : its.toArray[m] = .str z t' := by simpa using e
    rw [e2]
    have ne := b m hmj z hz
    refine beq_eq_false_iff_ne.mpr fun w => ne ?_
    obtain ⟨⟨z⟩⟩ := z
    obtain ⟨⟨k⟩⟩ := k
    exact congrArg (fun l => PySem.Str.mk (Array.mk l)) w
  case g4 =>
    have z2 := len_erase (xs.map V.str) j
    rw [List.length_map] at z2
    simp at *; omega
  case g5 =>
    have : (xs.map V.str).eraseIdx j = (xs.erase k).map V.str := by rw [← c, eraseIdx_map']
    rw [this]; exact q
end
end Mc
namespace Mc
open PySem L2 PySem.Spec PyProof.Rows
def inK (ys : List PySem.Str) (k : L2.Key) : Bool := ys.any fun y => decide (k = Sum.inr y)
/-- a set under way: it holds the first i of ys -/
structure Part (P : Program) (w : World) (ys : List PySem.Str) (a : Addr) (h : Heap) (i : Nat) (c : Nat) : Prop where
  of : h.SetOf (mixKind P w) a (inK (ys.take i)) c
  le : c ≤ i
  nd : ys.Nodup → c = i
  dn : c = i → (ys.take i).Nodup
abbrev so (b : Bool) : Obj := { cls := .type "set", dict := none, data := .set #[] 0 (.fresh 0 0 b) }
section
variable {P : Program} {w : World} {A : Around} {E : Value → Shared → Prop} {s : Shared} {ys : List PySem.Str}
theorem Part.at {a : Addr} {h h' : Heap} {i c : Nat} (p : Part P w ys a h i c) (k : ∀ o, h.get? a = some o → h'.get? a = some o) : Part P w ys a h' i c := ⟨setOf_at p.of k, p.le, p.nd, p.dn⟩
theorem Part.more {a : Addr} {h : Heap} {i c : Nat} {y : PySem.Str} (p : Part P w ys a h i c) (hy : ys[i]? = some y) {h' : Heap}
    (q : h'.SetOf (mixKind P w) a (fun k' => inK (ys.take i) k' || decide (k' = Sum.inr y)) (if inK (ys.take i) (Sum.inr y) then c else c + 1)) :
    ∃ c', Part P w ys a h' (i + 1) c' := by
  have e1 : ys.take (i + 1) = ys.take i ++ [y] := by rw [List.take_add_one, hy]; rfl
  refine ⟨if inK (ys.take i) (Sum.inr y) then c else c + 1, ⟨?_, ?_, ?_, ?_⟩⟩
  rotate_left 3
  · intro e
    have le := p.le
    cases hno : inK (ys.take i) (Sum.inr y) with
    | true => rw [hno, if_pos rfl] at e; omega
    | false =>
      rw [hno, if_neg Bool.false_ne_true] at e
      rw [e1]
      refine List.nodup_append.mpr ⟨p.dn (by omega), by simp, fun a ha b hb eab => ?_⟩
      rw [List.mem_singleton.mp hb] at eab
      have : inK (ys.take i) (Sum.inr y) = true := List.any_eq_true.mpr ⟨a, ha, decide_eq_true (by rw [eab])⟩
      rw [hno] at this; cases this
  rotate_left 2
  · intro nd
    have no : inK (ys.take i) (Sum.inr y) = false := by
      refine Bool.eq_false_iff.mpr fun z => ?_
      obtain ⟨x, hx, ex⟩ := List.any_eq_true.mp z
      cases Sum.inr.inj (of_decide_eq_true ex)
      have h2 : (ys.take (i + 1)).Nodup := nd.sublist (List.take_sublist _ _)
      rw [e1] at h2
      exact (List.nodup_append.mp h2).2.2 y hx y (by simp) rfl
    rw [no, p.nd nd]; rfl
  · have e2 : (fun k' => inK (ys.take i) k' || decide (k' = Sum.inr y)) = inK (ys.take (i + 1)) := by
      funext k'
      unfold inK
      rw [e1, List.any_append]
      simp
    rw [← e2]
    exact q
  · have := p.le
    split <;> omega
theorem fill {I : Addr} {fp wr : List Addr} {G : Array GenState → Array GenState → Prop} {n : Nat} {Pv : Nat → Value → Prop} {St : Nat → Shared → Prop} {R : Result → Shared → Prop} (W : WalksS P w A.in1 I fp wr G n Pv St)
    {a : Addr} (ha : a ∉ fp) (hn : n = ys.length) (hb : n + 1 < scanBound) (hv : ∀ i v, Pv i v → ∃ y t, ys[i]? = some y ∧ v = .str y t) (fin : ∀ s' c, Moved (a :: wr) G s s' → Part P w ys a s'.heap n c → R (.ok (.ret .none)) s') :
    ∀ (k i c : Nat) (s1 : Shared), i + k = n → St i s1 → Part P w ys a s1.heap i c → Moved (a :: wr) G s s1 → codeAny (model P w) A (.builtin "set.update.loop" ⟨[.ref a, .ref I], []⟩) R s1
  | 0, i, c, s1, e, st, p, mv => codeAny_builtin F.entry_set_update_loop <| by
    cases (Nat.add_zero i).symm.trans e
    rw [Around.under_plainId F.plain_set_update_loop _]
    refine wpAny_bind (m := pyNext (.ref I)) (W.done s1 _ _ st fun s2 hm => wpAny_pure ?_)
    exact fin s2 c (mv.trans W.gtrans (hm.mono fun b z => .tail _ z)) (p.at fun o => hm.heap a o fun z => ha (W.sub _ z))
  | k + 1, i, c, s1, e, st, p, mv => codeAny_builtin F.entry_set_update_loop <| by
    rw [Around.under_plainId F.plain_set_update_loop _]
    refine wpAny_bind (m := pyNext (.ref I)) (W.item i s1 _ _ (by omega) st fun v s2 pv st2 hm => ?_)
    obtain ⟨y, t, hy, ev⟩ := hv i v pv
    subst ev
    have p2 := p.at fun o => hm.heap a o fun z => ha (W.sub _ z)
    refine wpAny_bind (m := holding [Value.str y t] (setAdd a (.str y t))) (wpAny_holding (wpAny_holding ?_))
    refine wpAny_bind ((mixKind P w).pyHash (k := Sum.inr y) (beq_self_eq_true y) ?_)
    refine wpAny_setAddHashed_of (knd := mixKind P w) (k := Sum.inr y) (s := { s2 with toks := s2.toks + 1 }) (beq_self_eq_true y) rfl p2.of (by have := p2.le; omega) fun h' but so' => wpAny_pure ?_
    obtain ⟨c', p3⟩ := p2.more hy so'
    have far : ∀ b, b ≠ a → ∀ o, s2.heap.get? b = some o → h'.get? b = some o := fun b ne o z => (but.2 b ne).trans z
    refine ⟨plainId_quiet F.plain_set_update_loop _, fill W ha hn hb hv fin k (i + 1) c' _ (by omega) ?_ p3 ?_⟩
    · exact W.frame _ s2 _ _ st2 (Nat.le_succ _) fun b hb o z => far b (fun q => ha (by rw [← q]; exact hb)) o z
    · exact mv.trans W.gtrans (((hm.mono fun b z => .tail _ z)).then_heap (Nat.le_succ _) fun b o hb z => far b (fun q => hb (by rw [q]; exact .head _)) o z)
end
section
variable {P : Program} {w : World} {A : Around} {E : Value → Shared → Prop} {s : Shared} {ys : List PySem.Str}
theorem Part.start (led : Bool) {h : Heap} {a : Addr} (ho : h.get? a = some (so led)) : Part P w ys a h 0 0 :=
  ⟨⟨_, #[], 0, _, ho, ⟨rfl, rfl, rfl⟩, rfl, (fun e he => by simp at he), (fun k => by simp [inK]), (by decide), (by rfl), rfl⟩, Nat.le_refl _, fun _ => rfl, fun _ => by simp⟩
set_option maxHeartbeats 6400000 in
theorem call_setS {l : Addr} {its : Array Value} {Q : Value → Shared → Prop} (hh : A.handled = none) (hl : s.heap.IsList l its) (hv : ∀ (i : Nat) v, its[i]? = some v → ∃ y t, ys[i]? = some y ∧ v = .str y t) (hn : its.size = ys.length) (hb : its.size + 1 < scanBound)
    (fin : ∀ (h' : Heap) (tk c : Nat), Part P w ys s.heap.objs.size h' ys.length c → (∀ b o, s.heap.get? b = some o → h'.get? b = some o) → Q (.ref s.heap.objs.size) { s with heap := h', toks := tk }) :
    wpAny (model P w) A (call (.type "set") [.ref l]) Q E s := by
  have F0 := PySem.F.called_set
  obtain ⟨cc, tl, m1⟩ := F0.mro
  have m2 := F0.made
  have m3 := F0.sub
  have m4 := F0.notType
  have m5 := F0.canCreate
  have m6 := PySem.F.typeCall_set_1 (.ref l)
  refine wpAny_call <| codeAny_of_tree <| wpAny_pure ⟨Code.quiet_builtin _ (by decide +kernel), codeAny_builtin PySem.F.entry_type_call <| by
    rw [Around.under_plain (weight_type_call_type "set" [.ref l] []) rfl]
    repeat (any_goals (first | assumption | wp_step))
    refine codeAny_mono (code_set_new_1 (.ref l) (E := E) (Q₁ := fun v s1 => ∃ led, v = .ref s.heap.objs.size ∧ s1 = { s with heap := s.heap.push (so led) }) fun led => ⟨led, rfl, rfl⟩) ?_
    intro r s1 hr
    match r, hr with
    | .error e, hr => exact hr
    | .ok (.ret v), ⟨led, e1, e2⟩ =>
      subst e1; subst e2
      have at0 : (s.heap.push (so led)).get? s.heap.objs.size = some (so led) := Heap.get?_push_size _ rfl
      have ty : Shared.TypeIs { s with heap := s.heap.push (so led) } (.ref s.heap.objs.size) "set" := ⟨_, at0, rfl⟩
      have n1 := F0.init.lookup
      have n2 := F0.init.bind (.ref s.heap.objs.size)
      repeat (any_goals (first | assumption | wp_step))
      refine codeAny_mono (codeAny_call_builtin (R := wants (fun r s2 => r = .none ∧ ∃ h' tk c, s2 = { s with heap := h', toks := tk } ∧ Part P w ys s.heap.objs.size h' ys.length c ∧ ∀ b o, s.heap.get? b = some o → h'.get? b = some o) E) F0.init.plain PySem.F.entry_set_init (check_set_init_1 ty ?_)) ?_
      rotate_left 1
      · intro r2 s2 hr2
        match r2, hr2 with
        | .error e, hr2 => exact hr2
        | .ok (.ret r), ⟨e1, h', tk, c, e2, pt, kp⟩ =>
          subst e1; subst e2
          repeat (any_goals (first | assumption | wp_step))
          exact fin h' _ c pt kp
      · have pre : ∀ b o, s.heap.get? b = some o → (s.heap.push (so led)).get? b = some o := fun b o z => Heap.get?_push_of_some _ z
        obtain ⟨ob, hob, hc, nn, hd⟩ := hl
        obtain ⟨c0, d0, dat, sl0⟩ := ob
        cases hc; cases hd
        have hob1 := pre _ _ hob
        have il : (s.heap.push (so led)).IsList l its := ⟨_, hob1, rfl, nn, rfl⟩
        have q1 := PySem.F.sub_list_set
        have q2 := PySem.F.sub_list_frozenset
        have q3 : (Value.type "list" == Value.type "dict") = false := by decide
        unfold Builtin.«set.__init__» noKeywords Builtin.Frozenset.updateFrom
        generalize hPI : pyIter = PI
        wp_walk
        cases hPI
        refine wpAny_pyIter_list il (wpAny_bind (wpAny_runValue ?_))
        have z1 : (s.heap.push (so led)).objs.size = s.heap.objs.size + 1 := Heap.size_push ..
        have z2 : l < s.heap.objs.size := Heap.lt_size hob
        have ne : l ≠ (s.heap.push (so led)).objs.size := by rw [z1]; exact Nat.ne_of_lt (Nat.lt_succ_of_lt z2)
        have out : s.heap.objs.size ∉ [(s.heap.push (so led)).objs.size, l] := by
          rw [z1]; simp only [List.mem_cons, List.not_mem_nil, or_false, not_or]; exact ⟨Nat.ne_of_lt (Nat.lt_succ_self _), Nat.ne_of_gt z2⟩
        have hd3 : A.in1.in1.in1.handled = none := by simp [hh]
        refine fill (ys := ys) ((Walks.list hd3 _ l ne its).toS) out hn hb hv ?_ its.size 0 0 _ (Nat.zero_add _) ⟨⟨_, Heap.get?_push_size _ rfl, rfl, rfl⟩, il.push _⟩ (Part.start led (Heap.get?_push_of_some _ at0)) (Moved.refl fun _ => rfl)
        rintro ⟨h', g', d', tk', os'⟩ c mv pt
        cases show g' = s.gens from mv.gens
        cases show d' = s.drawn from mv.drawn
        cases show os' = s.os from mv.os
        refine wpAny_pure (wpAny_pure ⟨rfl, h', tk', c, rfl, hn ▸ pt, fun b o z => ?_⟩)
        have lt : b < s.heap.objs.size := Heap.lt_size z
        refine mv.heap b o ?_ (Heap.get?_push_of_some _ (pre b o z))
        rw [z1]; simp only [List.mem_cons, List.not_mem_nil, or_false, not_or]; exact ⟨Nat.ne_of_lt lt, Nat.ne_of_lt (Nat.lt_succ_of_lt lt)⟩
  ⟩
end
section
variable {X : Cx}
def rSetS (K : PySem.W.Frag) (P : Program) (w : World) : List V → Hp → VK → Prop := fun xs H Q => ∃ (l : Addr) (ys : List PySem.Str), xs = [.ref l] ∧ SqL K H l (ys.map V.str) ∧ ys.length < 64 ∧
  ∀ (p : Addr) (n : Nat), H p = none → n ≤ ys.length → (ys.Nodup → n = ys.length) → Q (.ref p) (upd H p (SetK P w p (inK ys) n))
theorem cr_setS (hc : X.calm = true) : CallR X (.type "set") (rSetS X.K X.prog X.w) := by
  intro pins s σ H xs us Q I r ⟨l, ys, e, hl, h64, q⟩
  subst e
  obtain ⟨u, eu, ru⟩ := r.one
  subst eu; cases ru
  obtain ⟨its, rv, pl, hz⟩ := I.list hl
  have hlen : its.toArray.size = ys.length := by rw [List.size_toArray, ← rv.length, List.length_map]
  refine call_setS (ys := ys) (I.ok.hd hc) pl.isList (fun i v hv => ?_) hlen (by rw [hlen]; unfold scanBound; omega) fun h' tk c pt kp => ?_
  · have hv' : its[i]? = some v := by simpa using hv
    cases hy : ys[i]? with
    | none => rw [rv.none_of (by rw [List.getElem?_map, hy]; rfl)] at hv'; cases hv'
    | some y =>
      obtain ⟨v', h1, ⟨t, h2⟩⟩ := rv.get (i := i) (x := .str y) (by rw [List.getElem?_map, hy]; rfl)
      rw [hv'] at h1; cases h1
      exact ⟨y, t, rfl, h2⟩
  · have e1 : ys.take ys.length = ys := List.take_length
    have po := pt.of
    rw [e1] at po
    exact ⟨.ref _, upd H s.heap.objs.size (SetK X.prog X.w s.heap.objs.size (inK ys) c), I.laid (t' := tk) kp (Nat.le_refl _) (setK_new po), rfl, q _ c (I.hok.fresh (Nat.le_refl _)) pt.le pt.nd⟩
/-- with the word that as many items as texts means that no text stands twice -/
def rSetSN (K : PySem.W.Frag) (P : Program) (w : World) : List V → Hp → VK → Prop := fun xs H Q => ∃ (l : Addr) (ys : List PySem.Str), xs = [.ref l] ∧ SqL K H l (ys.map V.str) ∧ ys.length < 64 ∧
  ∀ (p : Addr) (n : Nat), H p = none → n ≤ ys.length → (ys.Nodup → n = ys.length) → (n = ys.length → ys.Nodup) → Q (.ref p) (upd H p (SetK P w p (inK ys) n))
theorem cr_setSN (hc : X.calm = true) : CallR X (.type "set") (rSetSN X.K X.prog X.w) := by
  intro pins s σ H xs us Q I r ⟨l, ys, e, hl, h64, q⟩
  subst e
  obtain ⟨u, eu, ru⟩ := r.one
  subst eu; cases ru
  obtain ⟨its, rv, pl, hz⟩ := I.list hl
  have hlen : its.toArray.size = ys.length := by rw [List.size_toArray, ← rv.length, List.length_map]
  refine call_setS (ys := ys) (I.ok.hd hc) pl.isList (fun i v hv => ?_) hlen (by rw [hlen]; unfold scanBound; omega) fun h' tk c pt kp => ?_
  · have hv' : its[i]? = some v := by simpa using hv
    cases hy : ys[i]? with
    | none => rw [rv.none_of (by rw [List.getElem?_map, hy]; rfl)] at hv'; cases hv'
    | some y =>
      obtain ⟨v', h1, ⟨t, h2⟩⟩ := rv.get (i := i) (x := .str y) (by rw [List.getElem?_map, hy]; rfl)
      rw [hv'] at h1; cases h1
      exact ⟨y, t, rfl, h2⟩
  · have e1 : ys.take ys.length = ys := List.take_length
    have po := pt.of
    rw [e1] at po
    exact ⟨.ref _, upd H s.heap.objs.size (SetK X.prog X.w s.heap.objs.size (inK ys) c), I.laid (t' := tk) kp (Nat.le_refl _) (setK_new po), rfl, q _ c (I.hok.fresh (Nat.le_refl _)) pt.le pt.nd fun e => by have := pt.dn e; rwa [e1] at this⟩
theorem call_lenK : CallR X (.builtin "len") (fun xs H Q => ∃ (p : Addr) (S : L2.Key → Bool) (n : Nat), xs = [.ref p] ∧ H p = some (SetK X.prog X.w p S n) ∧ n < 64 ∧ Q (.int (n : Nat)) H) := by
  intro pins s σ H xs us Q I r ⟨p, S, n, e, hp, h64, q⟩
  subst e
  obtain ⟨u, eu, ru⟩ := r.one
  subst eu; cases ru
  obtain ⟨o, es, ep, t, h1, h2, h3, _, _, _, h5, h6⟩ := setK_get I hp
  refine call_len_set h1 h2 h3 h5 (by rw [h6]; omega) ⟨.int n, H, I.tok _, ⟨_, by rw [h6]⟩, q⟩
end
end Mc
namespace Mc
section
variable {α : Type} [DecidableEq α]
structure Sc (α : Type) where
  ms : List α
  cap : α → Nat
  heard : α → List α
structure SM (α : Type) where
  pos : α → Option α
  on : α → List α
structure SOk (X : Sc α) (S : SM α) (names : List α) : Prop where
  mem : ∀ c m, S.pos c = some m ↔ c ∈ S.on m
  nd : ∀ m, (S.on m).Nodup
  cap : ∀ m, (S.on m).length ≤ X.cap m
  hd : ∀ c m, c ∈ S.on m → m ∈ X.heard c
  dom : ∀ c, (∃ m, S.pos c = some m) ↔ c ∈ names
def SM.rm (S : SM α) (c x : α) : List α := if S.pos c = some x then (S.on x).erase c else S.on x
def SM.put (S : SM α) (c m : α) : SM α := ⟨fun x => if x = c then some m else S.pos x, fun x => if x = m then S.rm c x ++ [c] else S.rm c x⟩
theorem SM.rm_sub (S : SM α) (c x : α) : ∀ y ∈ S.rm c x, y ∈ S.on x := by
  intro y h; unfold SM.rm at h; split at h
  · exact List.mem_of_mem_erase h
  · exact h
theorem SM.rm_len (S : SM α) (c x : α) : (S.rm c x).length ≤ (S.on x).length := by
  unfold SM.rm; split
  · exact List.length_erase_le
  · exact Nat.le_refl _
theorem SOk.rm_mem {X : Sc α} {S : SM α} {names : List α} (O : SOk X S names) (c x y : α) : y ∈ S.rm c x ↔ y ≠ c ∧ y ∈ S.on x := by
  unfold SM.rm; split
  case isTrue h => rw [List.Nodup.mem_erase_iff (O.nd x)]
  case isFalse h =>
    constructor
    · intro hy; exact ⟨fun e => h (by rw [← e]; exact (O.mem y x).mpr hy), hy⟩
    · exact fun h => h.2
theorem SOk.rm_nd {X : Sc α} {S : SM α} {names : List α} (O : SOk X S names) (c x : α) : (S.rm c x).Nodup := by
  unfold SM.rm; split
  · exact (O.nd x).erase _
  · exact O.nd x
theorem SOk.put {X : Sc α} {S : SM α} {names names' : List α} (O : SOk X S names) {c m : α} (hm : m ∈ X.heard c) (hr : (S.on m).length < X.cap m) (hn : ∀ x, x ∈ names' ↔ x = c ∨ x ∈ names) :
    SOk X (S.put c m) names' := by
  have hc : ∀ x, c ∉ S.rm c x := fun x h => ((O.rm_mem c x c).mp h).1 rfl
  refine ⟨fun y x => ?_, fun x => ?_, fun x => ?_, fun y x h => ?_, fun y => ?_⟩
  · show (if y = c then some m else S.pos y) = some x ↔ y ∈ (if x = m then S.rm c x ++ [c] else S.rm c x)
    by_cases e : y = c
    · subst e; rw [if_pos rfl]
      by_cases e2 : x = m
      · subst e2; simp
      · rw [if_neg e2]; exact ⟨fun z => absurd (Option.some.inj z).symm e2, fun z => absurd z (hc x)⟩
    · rw [if_neg e]
      have := O.rm_mem c x y
      by_cases e2 : x = m
      · rw [if_pos e2]; simp [e, this, O.mem]
      · rw [if_neg e2, this, O.mem]; simp [e]
  · show (if x = m then S.rm c x ++ [c] else S.rm c x).Nodup
    split
    · exact List.nodup_append.mpr ⟨O.rm_nd c x, by simp, fun a ha b hb e => by simp at hb; subst hb; subst e; exact hc x ha⟩
    · exact O.rm_nd c x
  · show (if x = m then S.rm c x ++ [c] else S.rm c x).length ≤ _
    split
    case isTrue e => subst e; rw [List.length_append]; have := S.rm_len c x; simp; omega
    case isFalse e => exact Nat.le_trans (S.rm_len c x) (O.cap x)
  · have h : y ∈ (if x = m then S.rm c x ++ [c] else S.rm c x) := h
    split at h
    case isTrue e =>
      rcases List.mem_append.mp h with h | h
      · exact O.hd _ _ (S.rm_sub c x y h)
      · simp at h; subst h; subst e; exact hm
    case isFalse e => exact O.hd _ _ (S.rm_sub c x y h)
  · show (∃ x, (if y = c then some m else S.pos y) = some x) ↔ _
    by_cases e : y = c
    · rw [if_pos e, hn]; exact ⟨fun _ => .inl e, fun _ => ⟨m, rfl⟩⟩
    · rw [if_neg e, hn, O.dom]; simp [e]
/-- a right seating of some calls -/
def Right (X : Sc α) (names : List α) (T : α → α) : Prop := (∀ c ∈ names, T c ∈ X.heard c) ∧ ∀ m, (names.filter fun c => decide (T c = m)).length ≤ X.cap m
def Seatable (X : Sc α) (names : List α) : Prop := ∃ T, Right X names T
theorem len_sub : ∀ {a b : List α}, a.Nodup → (∀ x ∈ a, x ∈ b) → a.length ≤ b.length
  | [], _, _, _ => Nat.zero_le _
  | x :: a, b, h, s => by
    have hx := List.nodup_cons.mp h
    have h1 := len_sub (a := a) (b := b.erase x) hx.2 fun y hy => (List.mem_erase_of_ne (fun e => by subst e; exact hx.1 hy)).mpr (s y (List.mem_cons_of_mem _ hy))
    have h2 := List.length_erase_of_mem (s x (by simp))
    have h3 : 0 < b.length := List.length_pos_of_mem (s x (by simp))
    simp; omega
theorem sum_le {R : List α} {f g : α → Nat} (h : ∀ m ∈ R, f m ≤ g m) : (R.map f).sum ≤ (R.map g).sum := by
  induction R with
  | nil => exact Nat.le_refl _
  | cons x R ih => simp; have := h x (by simp); have := ih fun m hm => h m (List.mem_cons_of_mem _ hm); omega
theorem sum_cnt {R : List α} (hR : R.Nodup) (T : α → α) : ∀ (A : List α), (∀ a ∈ A, T a ∈ R) → A.length ≤ (R.map fun m => (A.filter fun c => decide (T c = m)).length).sum
  | [], _ => Nat.zero_le _
  | a :: A, h => by
    have ih := sum_cnt hR T A fun x hx => h x (List.mem_cons_of_mem _ hx)
    have key : ∀ (R : List α), T a ∈ R → (R.map fun m => (A.filter fun c => decide (T c = m)).length).sum + 1 ≤ (R.map fun m => ((a :: A).filter fun c => decide (T c = m)).length).sum := by
      intro R
      induction R with
      | nil => intro h; cases h
      | cons r R ihR =>
        intro h
        simp only [List.map_cons, List.sum_cons]
        by_cases e : T a = r
        · have h1 : ((a :: A).filter fun c => decide (T c = r)).length = (A.filter fun c => decide (T c = r)).length + 1 := by rw [List.filter_cons, if_pos (decide_eq_true e)]; rfl
          have h2 : (R.map fun m => (A.filter fun c => decide (T c = m)).length).sum ≤ (R.map fun m => ((a :: A).filter fun c => decide (T c = m)).length).sum := sum_le fun m _ => by
            rw [List.filter_cons]; split <;> simp
          omega
        · have h1 : (A.filter fun c => decide (T c = r)).length ≤ ((a :: A).filter fun c => decide (T c = r)).length := by rw [List.filter_cons]; split <;> simp
          have := ihR ((List.mem_cons.mp h).resolve_left e)
          omega
    have := key R (h a (by simp))
    simp; omega
theorem no_seat {X : Sc α} {S : SM α} {names : List α} (O : SOk X S names) {c : α} (hc : c ∉ names) {R : List α} (hR : R.Nodup) (h1 : ∀ m ∈ X.heard c, m ∈ R) (h2 : ∀ m ∈ R, ¬ (S.on m).length < X.cap m)
    (h3 : ∀ m ∈ R, ∀ y ∈ S.on m, ∀ o ∈ X.heard y, o ∈ R) {names' : List α} (hn : ∀ x, x ∈ names' ↔ x ∈ names ∨ x = c) : ¬ Seatable X names' := by
  rintro ⟨T, T1, T2⟩
  have hmem : ∀ y ∈ R.flatMap S.on, y ∈ names ∧ ∃ m ∈ R, y ∈ S.on m := fun y hy => by
    obtain ⟨m, hm, hy⟩ := List.mem_flatMap.mp hy
    exact ⟨(O.dom y).mp ⟨m, (O.mem y m).mpr hy⟩, m, hm, hy⟩
  have nd : ∀ R : List α, R.Nodup → (R.flatMap S.on).Nodup := by
    intro R hR
    induction R with
    | nil => exact List.nodup_nil
    | cons r R ih =>
      have hr := List.nodup_cons.mp hR
      rw [List.flatMap_cons]
      refine List.nodup_append.mpr ⟨O.nd r, ih hr.2, fun a ha b hb e => ?_⟩
      subst e
      obtain ⟨m, hm, hb⟩ := List.mem_flatMap.mp hb
      have e1 := (O.mem a r).mpr ha
      have e2 := (O.mem a m).mpr hb
      rw [e1] at e2
      cases Option.some.inj e2
      exact hr.1 hm
  have ndA : (c :: R.flatMap S.on).Nodup := List.nodup_cons.mpr ⟨fun h => hc (hmem c h).1, nd R hR⟩
  have hA := sum_cnt hR T (c :: R.flatMap S.on) fun a ha => by
    rcases List.mem_cons.mp ha with e | e
    · subst e; exact h1 _ (T1 _ ((hn a).mpr (.inr rfl)))
    · obtain ⟨h, m, hm, hy⟩ := hmem a e
      exact h3 m hm a hy _ (T1 _ ((hn a).mpr (.inl h)))
  have hB := sum_le (R := R) (f := fun m => ((c :: R.flatMap S.on).filter fun c => decide (T c = m)).length) (g := fun m => (S.on m).length) fun m hm => by
    refine Nat.le_trans (Nat.le_trans (len_sub (b := names'.filter fun c => decide (T c = m)) (ndA.filter _) fun x hx => ?_) (T2 m)) (Nat.le_of_not_lt (h2 m hm))
    rw [List.mem_filter] at hx ⊢
    refine ⟨(hn x).mpr ?_, hx.2⟩
    rcases List.mem_cons.mp hx.1 with e | e
    · exact .inr e
    · exact .inl (hmem x e).1
  have hl : ∀ R : List α, (R.flatMap S.on).length = (R.map fun m => (S.on m).length).sum := fun R => by rw [List.length_flatMap]
  rw [List.length_cons, hl] at hA
  omega
theorem SOk.seatable {X : Sc α} {S : SM α} {names : List α} (O : SOk X S names) (hn : names.Nodup) : Seatable X names := by
  cases names with
  | nil => exact ⟨id, ⟨fun c h => (nomatch h), fun m => Nat.zero_le _⟩⟩
  | cons n ns =>
    refine ⟨fun c => (S.pos c).getD n, fun c hc => ?_, fun m => ?_⟩
    · obtain ⟨m, hm⟩ := (O.dom c).mpr hc
      show (S.pos c).getD n ∈ _
      rw [hm]; exact O.hd c m ((O.mem c m).mp hm)
    · refine Nat.le_trans (len_sub (b := S.on m) (hn.filter _) fun x hx => ?_) (O.cap m)
      rw [List.mem_filter] at hx
      obtain ⟨m', hm⟩ := (O.dom x).mpr hx.1
      have h2 : (S.pos x).getD n = m := of_decide_eq_true hx.2
      rw [hm] at h2
      exact (O.mem x m).mp (by rw [hm]; exact congrArg some h2)
/-- the search: which masts were come to, and how -/
inductive Ch (X : Sc α) (S : SM α) (c : α) : List (α × α × Option α) → Prop
  | nil : Ch X S c []
  | snoc {L : List (α × α × Option α)} {m y : α} {l : Option α} : Ch X S c L → m ∈ X.heard y → (l = none ∧ y = c ∨ ∃ m', l = some m' ∧ m' ∈ L.map (·.1) ∧ y ∈ S.on m') → m ∉ L.map (·.1) → Ch X S c (L ++ [(m, y, l)])
theorem Ch.nodup {X : Sc α} {S : SM α} {c : α} {L : List (α × α × Option α)} (h : Ch X S c L) : (L.map (·.1)).Nodup := by
  induction h with
  | nil => exact List.nodup_nil
  | snoc _ _ _ hn ih => rw [List.map_append]; exact List.nodup_append.mpr ⟨ih, by simp, fun a ha b hb e => by simp at hb; subst hb; subst e; exact hn ha⟩
theorem Ch.at {X : Sc α} {S : SM α} {c : α} {L : List (α × α × Option α)} (h : Ch X S c L) {m : α} (hm : m ∈ L.map (·.1)) :
    ∃ L1 y l L2, L = L1 ++ (m, y, l) :: L2 ∧ Ch X S c L1 ∧ m ∈ X.heard y ∧ (l = none ∧ y = c ∨ ∃ m', l = some m' ∧ m' ∈ L1.map (·.1) ∧ y ∈ S.on m') ∧ m ∉ L1.map (·.1) := by
  induction h with
  | nil => cases hm
  | @snoc L m2 y l hL h1 h2 h3 ih =>
    rw [List.map_append, List.mem_append] at hm
    rcases hm with hm | hm
    · obtain ⟨L1, y', l', L2, e, r⟩ := ih hm
      exact ⟨L1, y', l', L2 ++ [(m2, y, l)], by rw [e]; simp, r⟩
    · simp at hm; subst hm
      exact ⟨L, y, l, [], rfl, hL, h1, h2, h3⟩
/-- the way back: what holds ahead of each move -/
structure Lead (X : Sc α) (S : SM α) (c : α) (L : List (α × α × Option α)) (S' : SM α) (names : List α) (m : α) (n : Nat) : Prop where
  ok : SOk X S' names
  c0 : c ∉ names
  ch : Ch X S c L
  room : (S'.on m).length < X.cap m
  here : m ∈ L.map (·.1)
  pre : ∀ L1 y l L2, L = L1 ++ (m, y, l) :: L2 → L1.length < n ∧ ∀ x ∈ L1.map (·.1), S'.on x = S.on x
theorem Lead.step {X : Sc α} {S : SM α} {c : α} {L : List (α × α × Option α)} {S' : SM α} {names : List α} {m : α} {n : Nat} (I : Lead X S c L S' names m n) :
    ∃ y l, (m, y, l) ∈ L ∧ m ∈ X.heard y ∧ (l = none ∧ y = c ∧ SOk X (S'.put y m) (names ++ [c]) ∨ ∃ m' k, l = some m' ∧ k < n ∧ Lead X S c L (S'.put y m) names m' k) := by
  obtain ⟨L1, y, l, L2, e, hc1, hm, hl, hn⟩ := I.ch.at I.here
  refine ⟨y, l, by rw [e]; simp, hm, ?_⟩
  obtain ⟨hk, hp⟩ := I.pre _ _ _ _ e
  rcases hl with ⟨rfl, rfl⟩ | ⟨m', rfl, hm', hy⟩
  · exact .inl ⟨rfl, rfl, I.ok.put hm I.room fun x => by simp; exact Or.comm⟩
  · right
    obtain ⟨La, ya, la, Lb, ea, ca, _⟩ := hc1.at hm'
    have hy' : y ∈ S'.on m' := by rw [hp m' hm']; exact hy
    have py : S'.pos y = some m' := (I.ok.mem y m').mpr hy'
    have yn : y ∈ names := (I.ok.dom y).mp ⟨m', py⟩
    have mne : m' ≠ m := fun z => hn (by rw [← z]; exact hm')
    refine ⟨m', L1.length, rfl, hk, I.ok.put hm I.room fun x => ⟨fun h => .inr h, fun h => h.elim (fun e => by rw [e]; exact yn) id⟩, I.c0, I.ch, ?_, ?_, ?_⟩
    · show (if m' = m then S'.rm y m' ++ [y] else S'.rm y m').length < _
      rw [if_neg mne]
      unfold SM.rm
      rw [if_pos py, List.length_erase_of_mem hy']
      have := I.ok.cap m'
      have : 0 < (S'.on m').length := List.length_pos_of_mem hy'
      omega
    · rw [e, ea]; simp
    · intro La' ya' la' Lb' e'
      have nd := I.ch.nodup
      -- the place of m' is one only
      have hLa : La' = La := by
        have e1 : L = La ++ (m', ya, la) :: (Lb ++ (m, y, some m') :: L2) := by rw [e, ea]; simp
        have nd1 := nd
        rw [e'] at nd
        rw [e1] at nd1
        have key : ∀ (A A' : List (α × α × Option α)) (z z' : α × Option α) (B B' : List (α × α × Option α)), A ++ (m', z) :: B = A' ++ (m', z') :: B' → m' ∉ A.map (·.1) → m' ∉ A'.map (·.1) → A = A' := by
          intro A
          induction A with
          | nil =>
            intro A' z z' B B' h _ h2
            cases A' with
            | nil => rfl
            | cons a A' => simp at h; exact absurd (by rw [← h.1]; simp) h2
          | cons a A ih =>
            intro A' z z' B B' h h1 h2
            cases A' with
            | nil => simp at h; exact absurd (by rw [h.1]; simp) h1
            | cons a' A' =>
              simp only [List.cons_append, List.cons.injEq] at h
              rw [h.1, ih A' z z' B B' h.2 (fun q => h1 (List.mem_cons_of_mem _ q)) (fun q => h2 (List.mem_cons_of_mem _ q))]
        have n1 : m' ∉ La.map (·.1) := by
          rw [List.map_append] at nd1
          intro q
          exact (List.nodup_append.mp nd1).2.2 m' q m' (by simp) rfl
        have n2 : m' ∉ La'.map (·.1) := by
          rw [List.map_append] at nd
          intro q
          exact (List.nodup_append.mp nd).2.2 m' q m' (by simp) rfl
        exact key La' La _ _ _ _ (e'.symm.trans e1) n2 n1
      subst hLa
      have nd1 := hc1.nodup
      rw [ea, List.map_append] at nd1
      refine ⟨by rw [ea]; simp, fun x hx => ?_⟩
      have xm' : x ≠ m' := fun z => (List.nodup_append.mp nd1).2.2 x hx m' (by simp) z
      have hxL : x ∈ L1.map (·.1) := by rw [ea, List.map_append]; exact List.mem_append_left _ hx
      have xm : x ≠ m := fun z => hn (by rw [← z]; exact hxL)
      show (if x = m then S'.rm y x ++ [y] else S'.rm y x) = S.on x
      rw [if_neg xm]
      unfold SM.rm
      rw [if_neg (fun z => xm' (by rw [py] at z; exact (Option.some.inj z).symm))]
      exact hp x hxL
end
end Mc
namespace Mc
open PySem L2 PySem.Spec PyProof.Rows
/-- a statement that is never come to -/
theorem ps_no {X : Cx} {st : Stmt} : PS X st (fun _ _ _ => False) := ⟨fun _ _ _ _ _ _ h => h.elim⟩
theorem dc_it {J : It} {n : Nat} {G : Hp → Prop} {Y : Nat → Hp → V → Hp → Prop} (w : Walk J n G Y) {g : TG} {tt : TT} {tk tv : TE} {vs : List Nat} {σ : L2.St} {H1 : Hp} {D : Addr} {Qd : Hp → Prop} (Pv : Nat → Hp → Prop) (h0 : Pv 0 (upd H1 D (.dK [])))
    (hG : ∀ i H, i ≤ n → Pv i H → G H)
    (hs : ∀ i x H H', i < n → Pv i H → Y i H x H' → g x (wipe σ vs) H' fun σ2 H2 => wipe σ2 vs = wipe σ vs ∧ tt σ2 H2 fun b H3 =>
      if b = true then tk σ2 H3 fun y H4 => tv σ2 H4 fun z H5 => ∃ kvs k, y = kV k ∧ H5 D = some (.dK kvs) ∧ kvs.length < sizeLine ∧ Pv (i + 1) (upd H5 D (.dK (putK kvs k z))) else Pv (i + 1) H3) (hd : ∀ H, Pv n H → Qd H) :
    ∃ W : Nat → Nat → Hp → Prop, (∃ m, W 0 m (upd H1 D (.dK []))) ∧ ∀ i m H, W i m H →
      (J.stop i H ∧ Qd H) ∨ (J.go i H ∧ ∃ Nx : Hp → Prop, (∀ H', Nx H' → ∃ m', m' < m ∧ W (i + 1) m' H') ∧ ∀ x H', J.yld i H x H' → g x (wipe σ vs) H' fun σ2 H2 => wipe σ2 vs = wipe σ vs ∧ tt σ2 H2 fun b H3 =>
        if b = true then tk σ2 H3 fun y H4 => tv σ2 H4 fun z H5 => ∃ kvs k, y = kV k ∧ H5 D = some (.dK kvs) ∧ kvs.length < sizeLine ∧ Nx (upd H5 D (.dK (putK kvs k z))) else Nx H3) := by
  refine ⟨fun i m H => i + m = n ∧ Pv i H, ⟨n, by omega, h0⟩, fun i m H ⟨e, p⟩ => ?_⟩
  cases m with
  | zero =>
    cases (Nat.add_zero i).symm.trans e
    exact .inl ⟨w.stops H (hG _ H (Nat.le_refl _) p), hd H p⟩
  | succ m =>
    have lt : i < n := by omega
    have q := hG i H (Nat.le_of_lt lt) p
    exact .inr ⟨w.goes i H lt q, fun H' => Pv (i + 1) H', fun H' p' => ⟨m, Nat.lt_succ_self m, by omega, p'⟩, fun x H' y => hs i x H H' lt p (w.yields i H x H' lt q y)⟩
/-! dicts whose keys are texts -/
section
variable {β : Type} {f : β → V} {l : List (PySem.Str × β)} {k : PySem.Str} {v : β}
def kvT (f : β → V) (l : List (PySem.Str × β)) : List (L2.Key × V) := l.map fun x => (Sum.inr x.1, f x.2)
def getT (l : List (PySem.Str × β)) (k : PySem.Str) : Option β := (l.find? fun x => decide (x.1 = k)).map (·.2)
def keysT (l : List (PySem.Str × β)) : List PySem.Str := l.map (·.1)
theorem kvT_app (l' : List (PySem.Str × β)) : kvT f (l ++ l') = kvT f l ++ kvT f l' := List.map_append
theorem getT_nil : getT ([] : List (PySem.Str × β)) k = none := rfl
theorem getT_cons (x : PySem.Str × β) : getT (x :: l) k = if x.1 = k then some x.2 else getT l k := by
  unfold getT
  rw [List.find?_cons]
  by_cases e : x.1 = k
  · rw [decide_eq_true e, if_pos e]; rfl
  · rw [decide_eq_false e, if_neg e]
theorem val_T : valV (kvT f l) (Sum.inr k : L2.Key) = (getT l k).map f := by
  induction l with
  | nil => rfl
  | cons x l ih =>
    rw [getT_cons]
    by_cases e : x.1 = k
    · rw [if_pos e]
      exact valV_pos (p := ((Sum.inr x.1 : L2.Key), f x.2)) (congrArg Sum.inr e)
    · rw [if_neg e, ← ih]
      exact valV_neg (p := ((Sum.inr x.1 : L2.Key), f x.2)) fun z => e (Sum.inr.inj z)
theorem getT_in (h : getT l k = some v) : (k, v) ∈ l := by
  induction l with
  | nil => cases h
  | cons x l ih =>
    rw [getT_cons] at h
    by_cases e : x.1 = k
    · rw [if_pos e] at h
      cases Option.some.inj h
      rw [← e]; exact .head _
    · rw [if_neg e] at h
      exact .tail _ (ih h)
theorem getT_mem (nd : (keysT l).Nodup) (h : (k, v) ∈ l) : getT l k = some v := by
  induction l with
  | nil => cases h
  | cons x l ih =>
    have nd' := List.nodup_cons.mp nd
    rw [getT_cons]
    rcases List.mem_cons.mp h with e | e
    · rw [← e, if_pos rfl]
    · rw [if_neg fun z => nd'.1 (by show x.1 ∈ _; rw [z]; exact List.mem_map.mpr ⟨_, e, rfl⟩)]
      exact ih nd'.2 e
theorem getT_none : getT l k = none ↔ k ∉ keysT l := by
  induction l with
  | nil => exact ⟨fun _ h => (nomatch h), fun _ => rfl⟩
  | cons x l ih =>
    rw [getT_cons]
    by_cases e : x.1 = k
    · rw [if_pos e]
      exact ⟨fun h => (nomatch h), fun h => absurd (by rw [← e]; exact .head _) h⟩
    · rw [if_neg e, ih]
      exact ⟨fun h z => (List.mem_cons.mp z).elim (fun q => e q.symm) h, fun h z => h (.tail _ z)⟩
theorem getT_key (h : k ∈ keysT l) : ∃ v, getT l k = some v := by
  cases e : getT l k with
  | none => exact absurd h (getT_none.mp e)
  | some v => exact ⟨v, rfl⟩
theorem put_new (h : k ∉ keysT l) : putK (kvT f l) (Sum.inr k : L2.Key) (f v) = kvT f (l ++ [(k, v)]) := by
  rw [putK_new _ (by rw [val_T, getT_none.mpr h]; rfl), kvT_app]; rfl
theorem put_old (h : k ∈ keysT l) : putK (kvT f l) (Sum.inr k : L2.Key) (f v) = kvT f (l.map fun x => if x.1 = k then (x.1, v) else x) := by
  unfold putK
  rw [if_pos (by
    obtain ⟨v', hv⟩ := getT_key h
    rw [valV_any, val_T, hv]; rfl)]
  unfold kvT
  rw [List.map_map, List.map_map]
  refine List.map_congr_left fun x _ => ?_
  show (if (Sum.inr x.1 : L2.Key) = Sum.inr k then _ else _) = _
  by_cases e : x.1 = k
  · rw [if_pos (congrArg Sum.inr e)]
    show _ = ((Sum.inr (if x.1 = k then (x.1, v) else x).1 : L2.Key), f (if x.1 = k then (x.1, v) else x).2)
    rw [if_pos e]
  · rw [if_neg fun z => e (Sum.inr.inj z)]
    show _ = ((Sum.inr (if x.1 = k then (x.1, v) else x).1 : L2.Key), f (if x.1 = k then (x.1, v) else x).2)
    rw [if_neg e]
theorem drop_T : dropK (kvT f l) (Sum.inr k : L2.Key) = kvT f (l.filter fun x => decide (x.1 ≠ k)) := by
  unfold dropK kvT
  rw [List.filter_map]
  congr 1
  refine List.filter_congr fun x _ => ?_
  show decide ((Sum.inr x.1 : L2.Key) ≠ Sum.inr k) = decide (x.1 ≠ k)
  simp
/-- the items in another turn of the keys -/
theorem perm_T [Inhabited β] (nd : (keysT l).Nodup) {ys : List PySem.Str} (h : ys.Perm (keysT l)) : (ys.map fun y => (y, (getT l y).getD default)).Perm l := by
  refine (h.map _).trans ?_
  have e : (keysT l).map (fun y => (y, (getT l y).getD default)) = l := by
    unfold keysT
    rw [List.map_map]
    refine (List.map_congr_left fun x hx => ?_).trans (List.map_id l)
    show (x.1, (getT l x.1).getD default) = x
    rw [getT_mem nd (v := x.2) hx]; rfl
  rw [e]
end
theorem kvT_get {β : Type} {f : β → V} {l : List (PySem.Str × β)} {i : Nat} {k : L2.Key} {v : V} (h : (kvT f l)[i]? = some (k, v)) : ∃ x, l[i]? = some x ∧ k = Sum.inr x.1 ∧ v = f x.2 := by
  unfold kvT at h
  rw [List.getElem?_map] at h
  cases e : l[i]? with
  | none => rw [e] at h; cases h
  | some x => rw [e] at h; cases Option.some.inj h; exact ⟨x, rfl, rfl, rfl⟩
theorem un_same {H H' : Hp} {d : Addr} {od : Obj} {u : HO} (s : Same (upd H d (.frz od u)) H') (h : H d = some u) : Same H (upd H' d u) := fun b o z => by
  by_cases e : b = d
  · subst e; rw [h] at z; cases z; exact upd_same
  · rw [upd_ne e]; exact s b o (by rw [upd_ne e]; exact z)
theorem keysT_kv {β : Type} {f : β → V} (l : List (PySem.Str × β)) : (kvT f l).map (·.1) = (keysT l).map Sum.inr := by
  unfold kvT keysT; rw [List.map_map, List.map_map]; rfl
theorem dgetT {β : Type} {f : β → V} {l : List (PySem.Str × β)} {k : PySem.Str} {v : β} {H : Hp} {a : Addr} (h : Rd H a (.dK (kvT f l))) (e : getT l k = some v) : DGet H a (.str k) (some (f v)) := .inl ⟨_, Sum.inr k, h, rfl, by rw [val_T, e]; rfl⟩
theorem dgetN {β : Type} {f : β → V} {l : List (PySem.Str × β)} {k : PySem.Str} {H : Hp} {a : Addr} (h : Rd H a (.dK (kvT f l))) : DGet H a (.str k) ((getT l k).map f) := .inl ⟨_, Sum.inr k, h, rfl, val_T.symm⟩
theorem nd_take {α : Type} {ys : List α} {i : Nat} {m : α} (nd : ys.Nodup) (hi : ys[i]? = some m) : m ∉ ys.take i := by
  have h2 : (ys.take (i + 1)).Nodup := nd.sublist (List.take_sublist _ _)
  rw [List.take_add_one, hi] at h2
  exact fun z => (List.nodup_append.mp h2).2.2 m z m (by simp) rfl
theorem keysT_mk {β : Type} {g : PySem.Str → β} (ys : List PySem.Str) : keysT (ys.map fun y => (y, g y)) = ys := by
  unfold keysT; rw [List.map_map]; exact List.map_id ys
theorem put_mk {β : Type} {f : β → V} {g : PySem.Str → β} {ys : List PySem.Str} {i : Nat} {m : PySem.Str} (nd : ys.Nodup) (hi : ys[i]? = some m) :
    putK (kvT f ((ys.take i).map fun y => (y, g y))) (Sum.inr m : L2.Key) (f (g m)) = kvT f ((ys.take (i + 1)).map fun y => (y, g y)) := by
  rw [put_new (by rw [keysT_mk]; exact nd_take nd hi), List.take_add_one, hi, List.map_append]; rfl
theorem len_mk {β : Type} {f : β → V} {g : PySem.Str → β} {ys : List PySem.Str} {i : Nat} (h : ys.length < 64) : (kvT f ((ys.take i).map fun y => (y, g y))).length < sizeLine := by
  unfold kvT; rw [List.length_map, List.length_map, List.length_take]
  exact Nat.lt_of_le_of_lt (Nat.min_le_right _ _) (Nat.lt_of_lt_of_le h (by decide))
theorem via {α : Type} {R G : α → Prop} {g : Prop} (h : (∀ x, R x → G x) → g) (t : ∀ x, R x → G x) : g := h t
end Mc
namespace Mc
open PySem L2 PySem.Spec PyProof.Rows
def top (i : Nat) : Stmt := PySem.Challenge.pw_mastcalls_k17_whole_deed_texts.main.body.getD i (.Pass ⟨0, 0, 0, 0⟩)
/-! ### the draws -/
abbrev sNum : Stmt := top 19
abbrev sTake : Stmt := top 20
def spNum (K : PySem.W.Frag) : Sp := fun vs H Q _ => ∃ (a : Addr) (ns : List Int) (k : Int), vs = [.ref a, .int k] ∧ SqL K H a (ns.map V.int) ∧ ns.length ≤ 63 ∧
  ∀ (v : Int) (H' : Hp), 0 ≤ v → Same H H' → Q (.int v) H'
def spTake (K : PySem.W.Frag) : Sp := fun vs H Q _ => ∃ (M : List Addr) (d a : Addr) (m : Int), vs = [.ref d, .int m] ∧ Dr K M d a H ∧ 0 < m ∧
  ∀ (v : Int) (H' : Hp), 0 ≤ v → v < m → Dr K M d a H' → Kp [d] H H' → Q (.int v) H'
/-- what the draws ask of the module -/
structure TxD (K : PySem.W.Frag) (mg : Str → Option Value) (fN fT : Addr) : Prop where
  len : mg "len" = none
  int : mg "int" = none
  abs : mg "abs" = none
  num : mg "_law_number" = some (.ref fN)
  take : mg "_law_take" = some (.ref fT)
section
variable {P : Program} {w : World} {K : PySem.W.Frag} {mg : Str → Option Value} {base : Heap}
theorem scNum : FnScope ["script", "index", "cell", "blend"] ["script", "index"] (defScope sNum) := ⟨rfl, rfl, rfl, by decide +kernel, rfl, by decide +kernel, by decide +kernel⟩
theorem ok_num {f fN fT : Addr} {fd : FuncData} (F : Fun K "_law_number" "_law_number" sNum f fd) (T : TxD K mg fN fT) : FnOk P w K mg base CX0 1 f fd ["script", "index"] (spNum K) := by
  refine F.ok scNum (fun vs H Q E h => ?_) (fun cdv A outer s H vs Q E hr h => ?_)
  · obtain ⟨a, ns, k, rfl, _⟩ := h
    rfl
  · obtain ⟨a, ns, k, rfl, hS, hl, q⟩ := h
    refine ⟨_, pss_cons (ps_if (pt_cmpR (op_eqD hr.units) (pv 0) (pe_lst pa_nil) (nomark _)) (pss_one (ps_ret (pe_callTy call_int1 (by rfl) T.int boot_int (pa_cons (pe_op op_mod (pe_op op_add (pe_op op_mul (pv 1) pe_int) pe_int) pe_int) pa_nil)))) pss_nil)
      (pss_cons (ps_set (i := 2) scNum.nd rfl (Or.inl rfl) (pe_ix ix_list (pv 0) (pe_op op_mod (pv 1) (pe_callB call_len_seq (by rfl) T.len PySem.boot_len (pa_cons (pv 0) pa_nil))) (fun _ _ => rfl)))
      (pss_cons (ps_if (pt_cmpR op_ge (pe_callB call_abs (by rfl) T.abs boot_abs (pa_cons (pv 2) pa_nil)) (pe_op op_pow pe_int pe_int) (nomark _)) (pss_one (ps_set (i := 2) scNum.nd rfl (Or.inl rfl) (pe_op op_mod (pv 2) (pe_op op_pow pe_int pe_int)))) pss_nil)
      (pss_cons (ps_set (i := 3) scNum.nd rfl (Or.inl rfl) (pe_op op_mod (pe_op op_add (pe_op op_mul (pe_op op_add (pv 2) (pe_op op_mul pe_int (pv 1))) pe_int) (pe_op op_mul pe_int (pe_callB call_len_seq (by rfl) T.len PySem.boot_len (pa_cons (pv 0) pa_nil)))) pe_int))
      (pss_one (ps_ret (pe_callTy call_int1 (by rfl) T.int boot_int (pa_cons (pe_op op_mod (pe_op op_add (pe_op op_mul (pe_op op_mod (pe_op op_mul (pv 3) pe_int) pe_int) pe_int) (pv 1)) pe_int) pa_nil))))))), ?_⟩
    refine ⟨_, rfl, Nat.zero_le _, fun p hp => ?_⟩
    have s1 : Same H (upd H p (.lst [])) := fun b o e => by rw [upd_ne (ne_of_none e hp)]; exact e
    have hS1 := s1.seq hS
    refine ⟨pdI ns, pdI [], dp_ints hS1, dp_ints (SqL.of upd_same), shaped_ints _, shaped_ints _, _, rfl, ?_⟩
    refine ite2 (fun _ => ?_) (fun e => ?_)
    · refine ⟨_, rfl, _, _, rfl, rfl, .inr (by decide), _, _, rfl, rfl, _, _, rfl, rfl, (by show (0 : Int) < _; decide), .inl ⟨_, rfl, ?_⟩⟩
      exact q _ _ (Int.emod_nonneg _ (by decide)) s1
    · have hn : 0 < ns.length := by
        rw [eqv_ints] at e
        cases ns with
        | nil => exact absurd (decide_eq_true rfl) e
        | cons x r => exact Nat.succ_pos _
      have hlen : ((ns.map V.int).length : Int) = (ns.length : Int) := by rw [List.length_map]
      have hlt : (k % (((ns.map V.int).length : Nat) : Int)).toNat < ns.length := by
        have h1 := Int.emod_nonneg k (b := (((ns.map V.int).length : Nat) : Int)) (by omega)
        have h2 := Int.emod_lt_of_pos k (b := (((ns.map V.int).length : Nat) : Int)) (by omega)
        omega
      refine ⟨_, rfl, _, rfl, _, rfl, a, _, rfl, .inl hS1, _, _, rfl, rfl, (by show (0 : Int) < _; omega), a, _, _, V.int ns[(k % (((ns.map V.int).length : Nat) : Int)).toNat], rfl, rfl, hS1, at_of (j := (k % (((ns.map V.int).length : Nat) : Int)).toNat) (by
        have h1 := Int.emod_nonneg k (b := (((ns.map V.int).length : Nat) : Int)) (by omega)
        omega) (by rw [List.getElem?_map, List.getElem?_eq_getElem hlt]; rfl), ?_⟩
      generalize ns[(k % (((ns.map V.int).length : Nat) : Int)).toNat] = c
      refine ⟨_, rfl, _, rfl, _, _, rfl, rfl, ⟨by decide, by decide, by decide⟩, _, _, rfl, rfl, _, rfl, ?_⟩
      refine ite2 (fun _ => ?_) (fun _ => ?_)
      refine ⟨_, rfl, _, _, rfl, rfl, ⟨by decide, by decide, by decide⟩, _, _, rfl, rfl, (by show (0 : Int) < _; decide), ?_⟩
      all_goals
        refine ⟨_, rfl, _, rfl, _, _, rfl, rfl, .inl ⟨by decide, by decide⟩, _, _, rfl, rfl, _, _, rfl, rfl, .inr (by decide), _, rfl, a, _, rfl, .inl hS1, _, _, rfl, rfl, .inl ⟨by decide, by decide⟩, _, _, rfl, rfl, _, _, rfl, rfl, (by show (0 : Int) < _; decide), ?_⟩
        refine ⟨_, rfl, _, _, rfl, rfl, .inr (by decide), _, _, rfl, rfl, (by show (0 : Int) < _; decide), _, _, rfl, rfl, .inr (by decide), _, rfl, _, _, rfl, rfl, _, _, rfl, rfl, (by show (0 : Int) < _; decide), .inl ⟨_, rfl, ?_⟩⟩
        exact q _ _ (Int.emod_nonneg _ (by decide)) s1
theorem scTake : FnScope ["draw", "many"] ["draw", "many"] (defScope sTake) := ⟨rfl, rfl, rfl, by decide +kernel, rfl, by decide +kernel, by decide +kernel⟩
theorem ok_take {f fN fT : Addr} {fd fdN : FuncData} (F : Fun K "_law_take" "_law_take" sTake f fd) (T : TxD K mg fN fT) (FN : Fun K "_law_number" "_law_number" sNum fN fdN) (bN : Binds K fdN ["script", "index"] []) :
    FnOk P w K mg base CX0 2 f fd ["draw", "many"] (spTake K) := by
  have GN : FnOk P w K mg base CX0 1 fN fdN ["script", "index"] (spNum K) := ok_num FN T
  refine F.ok scTake (fun vs H Q E h => ?_) (fun cdv A outer s H vs Q E hr h => ?_)
  · obtain ⟨M, d, a, m, rfl, _⟩ := h
    rfl
  · obtain ⟨M, d, a, m, rfl, D, hm, q⟩ := h
    obtain ⟨⟨k, hd⟩, hM, ns, hl, hs⟩ := id D
    refine ⟨_, pss_cons (ps_augS (pv 0) pe_int get_list pe_int ip_add set_list)
      (pss_one (ps_ret (pe_op op_mod (pe_callTy call_int1 (by rfl) T.int boot_int (pa_cons (pe_call GN hr rfl T.num FN.kp bN .nil pass0 (pa_cons (pe_ix ix_list (pv 0) pe_int (fun _ _ => rfl)) (pa_cons (pe_callTy call_int1 (by rfl) T.int boot_int (pa_cons (pe_ix ix_list (pv 0) pe_int (fun _ _ => rfl)) pa_nil)) pa_nil))) pa_nil)) (pv 1)))), ?_⟩
    refine ⟨_, rfl, d, _, _, .int k, rfl, rfl, SqL.of hd, rfl, _, _, rfl, rfl, d, _, _, 1, rfl, rfl, hd, rfl, ?_⟩
    have hd1 : (upd H d (HO.lst ([V.ref a, V.int k].set 1 (V.int (k + 1))))) d = some (.lst [.ref a, .int (k + 1)]) := upd_same
    have k1 : Kp [d] H (upd H d (HO.lst ([V.ref a, V.int k].set 1 (V.int (k + 1))))) := Kp.at (List.mem_singleton.mpr rfl)
    have up : ∀ b ∈ [d], b ∈ M := fun b z => by rw [List.mem_singleton.mp z]; exact hM
    refine ⟨_, rfl, d, _, _, .ref a, rfl, rfl, SqL.of hd1, rfl, _, rfl, d, _, _, .int (k + 1), rfl, rfl, SqL.of hd1, rfl, .inl ⟨_, rfl, ?_⟩⟩
    refine ⟨a, ns, k + 1, rfl, hs _ (k1.mono up), hl, fun v H' hv s1 => .inl ⟨_, rfl, ?_⟩⟩
    refine ⟨_, rfl, _, _, rfl, rfl, hm, ?_⟩
    have k2 := k1.trans (Kp.same s1)
    exact q _ H' (Int.emod_nonneg _ (by omega)) (Int.emod_lt_of_pos _ hm) (D.next (k2.mono up) (s1 _ _ hd1)) k2
end
abbrev sPick : Stmt := top 21
def spPick (K : PySem.W.Frag) : Sp := fun vs H Q _ => ∃ (M : List Addr) (d a l : Addr) (xs : List V), vs = [.ref d, .ref l] ∧ Dr K M d a H ∧ 0 < xs.length ∧ (∀ H', Kp [d] H H' → SqL K H' l xs ∨ SqT K H' l xs) ∧
  ∀ (j : Nat) (x : V) (H' : Hp), xs[j]? = some x → Dr K M d a H' → Kp [d] H H' → Q x H'
section
variable {P : Program} {w : World} {K : PySem.W.Frag} {mg : Str → Option Value} {base : Heap}
theorem scPick : FnScope ["draw", "items"] ["draw", "items"] (defScope sPick) := ⟨rfl, rfl, rfl, by decide +kernel, rfl, by decide +kernel, by decide +kernel⟩
theorem ok_pick {f fN fT : Addr} {fd fdN fdT : FuncData} (F : Fun K "_law_pick" "_law_pick" sPick f fd) (T : TxD K mg fN fT) (FN : Fun K "_law_number" "_law_number" sNum fN fdN) (bN : Binds K fdN ["script", "index"] [])
    (FT : Fun K "_law_take" "_law_take" sTake fT fdT) (bT : Binds K fdT ["draw", "many"] []) : FnOk P w K mg base CX0 3 f fd ["draw", "items"] (spPick K) := by
  have GT : FnOk P w K mg base CX0 2 fT fdT ["draw", "many"] (spTake K) := ok_take FT T FN bN
  refine F.ok scPick (fun vs H Q E h => ?_) (fun cdv A outer s H vs Q E hr h => ?_)
  · obtain ⟨M, d, a, l, xs, rfl, _⟩ := h
    rfl
  · obtain ⟨M, d, a, l, xs, rfl, D, hx, hs, q⟩ := h
    refine ⟨_, pss_one (ps_ret (pe_ix ix_seq (pv 1) (pe_call GT hr rfl T.take FT.kp bT .nil pass0 (pa_cons (pv 0) (pa_cons (pe_callB call_len_seq (by rfl) T.len PySem.boot_len (pa_cons (pv 1) pa_nil)) pa_nil))) (fun _ _ => rfl))), ?_⟩
    refine ⟨_, rfl, _, rfl, _, rfl, l, xs, rfl, hs H (Kp.refl _ H), M, d, a, _, rfl, D, (by show (0 : Int) < _; omega), fun v H' h0 h1 D1 k1 => ?_⟩
    have hj : v.toNat < xs.length := by omega
    have e : v = ((v.toNat : Nat) : Int) := by omega
    have hg : xs[v.toNat]? = some xs[v.toNat] := List.getElem?_eq_getElem hj
    have fin := q v.toNat _ H' hg D1 k1
    rcases hs H' k1 with hL | hT
    · exact .inl ⟨l, xs, v, _, rfl, rfl, hL, at_of e hg, fin⟩
    · exact .inr (.inl ⟨l, xs, v, _, rfl, rfl, hT, at_of e hg, fin⟩)
end
abbrev sIsNum : Stmt := top 0
abbrev sIsName : Stmt := top 7
def spIsNum : Sp := fun vs H Q _ => ∃ n lo hi : Int, vs = [.int n, .int lo, .int hi] ∧ Q (.bl (decide (lo ≤ n) && decide (n ≤ hi))) H
/-- names that are well made -/
def letters : PySem.Str := "abcdefghijklmnopqrstuvwxyz"
def figures : PySem.Str := "0123456789"
def okN (x : PySem.Str) : Prop := 1 ≤ x.length ∧ x.length ≤ 8 ∧ (∃ c, x.cps.toList[0]? = some c ∧ c ∈ letters.cps.toList) ∧ ∀ c ∈ x.cps.toList, c ∈ letters.cps.toList ∨ c ∈ figures.cps.toList
instance (x : PySem.Str) : Decidable (okN x) := by
  unfold okN
  have : Decidable (∃ c, x.cps.toList[0]? = some c ∧ c ∈ letters.cps.toList) := match h : x.cps.toList[0]? with
    | none => .isFalse fun ⟨c, e, _⟩ => by cases e
    | some c => if hc : c ∈ letters.cps.toList then .isTrue ⟨c, rfl, hc⟩ else .isFalse fun ⟨c', e, h⟩ => by cases e; exact hc h
  infer_instance
def spIsName : Sp := fun vs H Q _ => ∃ x : PySem.Str, vs = [.str x] ∧ okN x ∧ ∀ H', Same H H' → Q (.bl true) H'
structure TxN (mg : PySem.Str → Option Value) : Prop where
  isi : mg "isinstance" = none
  int : mg "int" = none
  bool : mg "bool" = none
  str : mg "str" = none
  len : mg "len" = none
  all : mg "all" = none
  lets : ∃ t, mg "SMALL_LETTERS" = some (.str letters t)
  figs : ∃ t, mg "FIGURES" = some (.str figures t)
  most : ∃ t, mg "LONGEST_NAME" = some (.int 8 t)
section
variable {P : Program} {w : World} {K : PySem.W.Frag} {mg : PySem.Str → Option Value} {base : Heap}
theorem scIsName : FnScope ["thing", "sign"] ["thing"] (defScope sIsName) := ⟨rfl, rfl, rfl, by decide +kernel, rfl, by decide +kernel, by decide +kernel⟩
theorem at0 {α : Type} {xs : List α} {c : α} (h : xs[0]? = some c) : atI xs 0 = some c := by show atI xs ((0 : Nat) : Int) = some c; exact atI_nat h
theorem ok_isname {f : Addr} {fd : FuncData} (F : Fun K "is_name" "is_name" sIsName f fd) (T : TxN mg) : FnOk P w K mg base CX0 1 f fd ["thing"] spIsName := by
  refine F.ok scIsName (fun vs H Q E h => ?_) (fun cdv A outer s H vs Q E hr h => ?_)
  · obtain ⟨x, rfl, _⟩ := h
    rfl
  · obtain ⟨x, rfl, ⟨h1, h8, ⟨c0, hc0, hl0⟩, hall⟩, q⟩ := h
    obtain ⟨tl, gl⟩ := T.lets
    obtain ⟨tf, gf⟩ := T.figs
    obtain ⟨tm, gm⟩ := T.most
    refine ⟨_, (pss_cons (ps_if (PW.pt (pw_or (pt_not (pt_val (pe_callB call_isi (by rfl) T.isi boot_isinstance (pa_cons (pv 0) (pa_cons (pe_bltn (v := .ty "str") (by rfl) T.str boot_str rfl) pa_nil))))) (pw_or1 (pt_not (pt_chain op_le op_le pe_int (pe_callB call_len_str (by rfl) T.len PySem.boot_len (pa_cons (pv 0) pa_nil)) (pe_glob (by rfl) gm rel_int))))))
        (pss_one (ps_ret pe_bl))
        pss_nil)
      (pss_cons (ps_if (pt_cmpR op_notIn_sign (pe_ix ix_str (pv 0) pe_int (fun _ _ => rfl)) (pe_glob (by rfl) gl rel_str) (by rfl))
        (pss_one (ps_ret pe_bl))
        pss_nil)
      (pss_one (ps_ret (pe_callB (cr_all rfl) (by rfl) T.all (by rfl) (pa_cons (pe_lc (own := [("sign", 1)]) (g := gName 1) (tt := tYes) rfl scIsName.nd (pi_str (pv 0)) (blkOk_by (own := [("sign", 1)]) (N := ["thing", "sign"]) (sc := defScope sIsName) (by decide +kernel)) (fun _ _ _ _ _ => pg_name (i := 1) scIsName.nd rfl (Or.inl rfl)) (fun _ _ _ _ _ => pts_nil) (fun _ _ _ _ _ => (pe_or (pe_cmpR op_in_sign (pv 1) (pe_glob (by rfl) gl rel_str) (by rfl)) (pe_one (pe_cmpR op_in_sign (pv 1) (pe_glob (by rfl) gf rel_str) (by rfl)))))) pa_nil)))))), ?_⟩
    have hsz : x.length ≤ sizeLine := Nat.le_trans h8 (by decide)
    refine ⟨_, rfl, _, _, _, _, _, rfl, .ty "str", .base (.str _), by rfl, true, rfl, ?_⟩
    refine ⟨_, rfl, _, rfl, hsz, _, _, rfl, rfl, _, rfl, ?_⟩
    refine ite2 (fun h => ?_) (fun h => absurd (decide_eq_true (by show (1 : Int) ≤ _; omega)) h)
    refine ⟨_, _, rfl, rfl, _, rfl, ?_⟩
    refine ite2 (fun h => absurd h (by rw [decide_eq_true (by show ((x.length : Nat) : Int) ≤ 8; omega)]; decide)) (fun _ => ?_)
    refine ⟨_, rfl, _, _, _, rfl, rfl, hsz, at0 hc0, _, _, rfl, rfl, _, rfl, ?_⟩
    refine ite2 (fun h => absurd h (by rw [decide_eq_true hl0]; decide)) (fun _ => ?_)
    refine ⟨_, rfl, _, rfl, fun D hD => lc_it walk_str (fun i H' => ∃ bs : List Bool, H' = upd H D (.lst (bs.map V.bl)) ∧ bs.length = i ∧ ∀ b ∈ bs, b = true) ⟨[], rfl, rfl, fun b h => (nomatch h)⟩ (fun _ _ _ _ => trivial) ?_ ?_⟩
    · rintro i v H1 H2 hi ⟨bs, rfl, hb, hall'⟩ ⟨rfl, c, hc, rfl⟩
      refine ⟨rfl, _, rfl, _, _, rfl, rfl, _, rfl, ?_⟩
      have hm : c ∈ x.cps.toList := by rw [← Array.getElem?_toList] at hc; exact List.mem_of_getElem? hc
      have fin : ∃ acc, upd H D (.lst (bs.map V.bl)) D = some (.lst acc) ∧ acc.length < sizeLine ∧ ∃ bs' : List Bool, upd (upd H D (.lst (bs.map V.bl))) D (.lst (acc ++ [V.bl true])) = upd H D (.lst (bs'.map V.bl)) ∧ bs'.length = i + 1 ∧ ∀ b ∈ bs', b = true :=
        ⟨_, upd_same, by rw [List.length_map, hb]; exact Nat.lt_of_lt_of_le hi hsz, bs ++ [true], by rw [upd_upd, List.map_append]; rfl, by rw [List.length_append, hb]; rfl, fun b h => by
          rcases List.mem_append.mp h with h | h
          · exact hall' b h
          · simpa using h⟩
      refine ite2 (fun h => fin) (fun h => ?_)
      refine ⟨_, rfl, _, _, rfl, rfl, ?_⟩
      rw [decide_eq_true ((hall c hm).resolve_left fun z => h (decide_eq_true z))]
      exact fin
    · rintro H1 ⟨bs, rfl, hb, hall'⟩
      refine ⟨_, _, rfl, SqL.of upd_same, ?_⟩
      rw [show bs.all id = true from List.all_eq_true.mpr fun b hb => hall' b hb]
      exact q _ fun b o z => by rw [upd_ne (ne_of_none z hD)]; exact z
end
end Mc
namespace Mc
open PySem L2 PySem.Spec PyProof.Rows
/-! ### own classes of error over Exception, with an __init__ that stores its arguments -/
def exT : List Value := [.type "Exception", .type "BaseException", .type "object"]
structure OexB (K : PySem.W.Frag) (C : Addr) : Prop where
  ini : PySem.W.excInitIn K C exT "Exception.__new__" = true
  ovr : PySem.W.excOver K C exT = true
  hd : PySem.W.hasDictIn K C = true
  sa : PySem.W.findIn K (.ref C) "__setattr__" = some (some (.builtin "object.__setattr__"))
  exC : PySem.W.subIn K (.ref C) (.type "BaseException") = some true
  tyC : PySem.W.typeIn K (.ref C) = some (.type "type")
  kC : PySem.W.keepIn K (.ref C) = true
theorem OexB.cd {K : PySem.W.Frag} {C : Addr} (T : OexB K C) : ∃ c, PySem.W.clsIn K C = some c ∧ c.hasDict = true := by
  have h := T.hd
  unfold PySem.W.hasDictIn at h
  cases e : PySem.W.clsIn K C with
  | none => rw [e] at h; cases h
  | some c => rw [e] at h; exact ⟨c, rfl, h⟩
section
open Builtin Builtin.ObjectAttr
variable {prog : Program} {w : World} {A : Around} {R : Result → Shared → Prop} {hp : Heap} {g : Array GenState} {dr : Drawn} {t : Nat} {os : OsState} {K : PySem.W.Frag} {C x : Addr} {y : PySem.Str} {tk : Tok} {u : Value} {fv : Array Value}
theorem taker_none (h : PySem.W.findIn K (.ref C) y = some none) : PySem.W.takerIn K C y = some none := by
  unfold PySem.W.takerIn
  rw [h]
  rfl
theorem sto_first (T : OexB K C) (hK : K.In hp) (ho : hp.get? x = some { cls := .ref C, data := .fields fv }) (hno : PySem.W.findIn K (.ref C) y = some none)
    (q : ∀ h' tk' dx, (∀ b o, b ≠ x → hp.get? b = some o → h'.get? b = some o) → hp.objs.size ≤ dx → dx ≠ x → h'.get? x = some { cls := .ref C, dict := some dx, data := .fields fv } → h'.Ns1 dx (fun z => if z = y then some u else none) →
      R (.ok (.ret .none)) ⟨h', g, dr, tk', os⟩) : codeAny (model prog w) A (.call (.builtin "object.__setattr__") ⟨[.ref x, .str y tk, u], []⟩) R ⟨hp, g, dr, t, os⟩ := by
  obtain ⟨c, hc, hh⟩ := T.cd
  refine PySem.W.osa_openX (od := none) (r := none) PySem.F.store_Exception hK ⟨ho, rfl, rfl, trivial⟩ T.ovr (taker_none hno) fun b => ?_
  have hcl : PySem.W.Looks (model prog w) hp (classData C) c := PySem.W.looks_clsIn hK hc
  have ne : x ≠ hp.objs.size := Nat.ne_of_lt (Heap.lt_size ho)
  obtain ⟨c1, c2, c3, c4, c5, c6, c7, c8, c9, c10, c11⟩ := c
  dsimp only at hh
  subst hh
  show wpAny _ _ (storeInOwnDict (.ref x) (.ref C) (.str y tk) y u b) _ _ _
  unfold storeInOwnDict ownDictForStores
  repeat (first | with_reducible refine PySem.PX.store_in_new ?_ ?_ | with_reducible refine wpAny_loadPart_at ho ?_ | with_reducible refine hcl.at ?_ | wp_step)
  · exact ⟨_, #[], _, (Heap.get?_update_ne _ _ _ _ ne.symm).trans (Heap.get?_push_at rfl rfl), rfl, fun e he => absurd he (by simp), fun _ => rfl⟩
  · intro h' tk' hn' hs
    exact q h' tk' hp.objs.size (fun b o hb hbo => (hs.2 b (Nat.ne_of_lt (Heap.lt_size hbo))).trans ((Heap.get?_update_ne _ _ _ _ hb).trans (Heap.get?_push_of_some _ hbo))) (Nat.le_refl _) ne.symm
      ((hs.2 x ne).trans (Heap.get?_update_self _ (Heap.get?_push_of_some _ ho) rfl)) hn'
theorem sto_more {dx : Addr} {m0 : PySem.Str → Option Value} {nl : List PySem.Str} (T : OexB K C) (hK : K.In hp) (ho : hp.get? x = some { cls := .ref C, dict := some dx, data := .fields fv }) (hno : PySem.W.findIn K (.ref C) y = some none)
    (hns : hp.Ns1 dx m0) (hw : Within m0 nl) (hz : nl.length ≤ 1000)
    (q : ∀ h' tk', (∀ b o, b ≠ dx → hp.get? b = some o → h'.get? b = some o) → h'.Ns1 dx (fun z => if z = y then some u else m0 z) → R (.ok (.ret .none)) ⟨h', g, dr, tk', os⟩) :
    codeAny (model prog w) A (.call (.builtin "object.__setattr__") ⟨[.ref x, .str y tk, u], []⟩) R ⟨hp, g, dr, t, os⟩ := by
  obtain ⟨c, hc, hh⟩ := T.cd
  obtain ⟨oD, _, _, hoD, _, _⟩ := hns.count hw
  refine PySem.W.osa_openX (od := some oD) (r := none) PySem.F.store_Exception hK ⟨ho, rfl, rfl, hoD⟩ T.ovr (taker_none hno) fun b => ?_
  have hcl : PySem.W.Looks (model prog w) hp (classData C) c := PySem.W.looks_clsIn hK hc
  obtain ⟨c1, c2, c3, c4, c5, c6, c7, c8, c9, c10, c11⟩ := c
  dsimp only at hh
  subst hh
  show wpAny _ _ (storeInOwnDict (.ref x) (.ref C) (.str y tk) y u b) _ _ _
  unfold storeInOwnDict ownDictForStores
  repeat (first | with_reducible refine PySem.OEX.store_in_old hns hw hz ?_ | with_reducible refine wpAny_loadPart_at ho ?_ | with_reducible refine hcl.at ?_ | wp_step)
  intro h' tk' hn' hs
  exact q h' tk' (fun b o hb hbo => (hs.2 b hb).trans hbo) hn'
end
section
variable {X : Cx} {pins : List (Addr × Obj)} {σ : L2.St} {H : Hp} {s : Shared} {a C dx : Addr} {f : PySem.Str} {y : V} {u : Value} {fs : List (PySem.Str × V)} {Q : Unit → Shared → Prop} {E : Value → Shared → Prop} {A : Around}
theorem fld_first (T : OexB X.K C) (I : Inv X pins σ H s) (e : H a = some (exo a C none)) (hno : PySem.W.findIn X.K (.ref C) f = some none) (ry : RelV y u)
    (q : ∀ dx s', H dx = none → dx ≠ a → Inv X pins σ (upd (upd H dx (exd dx [(f, y)])) a (exo a C (some dx))) s' → Q () s') : wpAny (model X.prog X.w) A (setAttr (.ref a) f u) Q E s := by
  obtain ⟨t1, ho⟩ := exo_at I.hok e
  obtain ⟨hp, g, d, t, os⟩ := s
  refine PySem.W.set_plain I.kIn (od := none) ⟨ho, rfl, rfl, trivial⟩ T.sa (sto_first T I.kIn ho hno fun h' tk' dx k dn dne hx hn => ?_)
  have hnd : H dx = none := I.hok.fresh dn
  have hb' : ∀ b, b ≠ a → (h'.update a fun _ => { cls := .ref C, data := .fields #[.ref t1, .none, .none, .none, .bool false, .none] }).get? b = h'.get? b := fun b hb => Heap.get?_update_ne _ _ _ _ hb
  have I1 : Inv X pins σ (upd H dx (exd dx [(f, y)])) ⟨h'.update a fun _ => { cls := .ref C, data := .fields #[.ref t1, .none, .none, .none, .bool false, .none] }, g, d, tk', os⟩ :=
    I.laid (t' := tk') (fun b o z => by
      by_cases hb : b = a
      · subst hb
        rw [show hp.get? b = _ from ho] at z
        cases z
        exact Heap.get?_update_self _ hx rfl
      · rw [hb' b hb]
        exact k b o hb z) dn (exd_ok (hn.at fun o z => (hb' dx dne).trans z) (relO_put (fs := []) ry fun g => True.intro))
  have ea : upd H dx (exd dx [(f, y)]) a = some (exo a C none) := by rw [upd_ne (Ne.symm dne)]; exact e
  exact q dx _ hnd dne (I1.write (t' := tk') (x := a) (e := a) (o := exo a C (some dx)) (by rw [ea]; exact True.intro) (.inl rfl) (fun b o hb z => (hb' b hb).symm.trans z) ⟨_, hx⟩ (exo_ok hx))
theorem fld_more (T : OexB X.K C) (I : Inv X pins σ H s) (e : H a = some (exo a C (some dx))) (ed : H dx = some (exd dx fs)) (hl : fs.length ≤ 900) (hno : PySem.W.findIn X.K (.ref C) f = some none) (ry : RelV y u)
    (q : ∀ s', Inv X pins σ (upd H dx (exd dx ((f, y) :: fs))) s' → Q () s') : wpAny (model X.prog X.w) A (setAttr (.ref a) f u) Q E s := by
  obtain ⟨t1, ho⟩ := exo_at I.hok e
  obtain ⟨mA, hns, rel⟩ := exd_at I.hok ed
  have hw := within_of rel
  obtain ⟨hp, g, d, t, os⟩ := s
  obtain ⟨oD, _, _, hoD, _, _⟩ := hns.count hw
  refine PySem.W.set_plain I.kIn (od := some oD) ⟨ho, rfl, rfl, hoD⟩ T.sa (sto_more T I.kIn ho hno hns hw (by rw [List.length_map]; omega) fun h' tk' k hn => ?_)
  obtain ⟨o, _, _, e', _⟩ := id hn
  exact q _ (I.write (t' := tk') (x := dx) (e := dx) (o := exd dx ((f, y) :: fs)) (by rw [ed]; exact True.intro) (.inl rfl) k ⟨o, e'⟩ (exd_ok hn (relO_put ry rel)))
end
section
variable {X : Cx} {o e : Expr} {es : List Expr} {to te : TE} {ta : TA} {p' p pos : Pos} {f x : PySem.Str}
def tOstB (K : PySem.W.Frag) (f : PySem.Str) (to te : TE) : TS := fun D σ H => te σ H fun y H1 => to σ H1 fun x H2 => ∃ a C : Addr, x = .ref a ∧ OexB K C ∧ PySem.W.findIn K (.ref C) f = some none ∧
  ((H2 a = some (exo a C none) ∧ ∀ dx, H2 dx = none → dx ≠ a → D.nx σ (upd (upd H2 dx (exd dx [(f, y)])) a (exo a C (some dx)))) ∨
    ∃ (dx : Addr) (fs : List (PySem.Str × V)), H2 a = some (exo a C (some dx)) ∧ H2 dx = some (exd dx fs) ∧ fs.length ≤ 900 ∧ D.nx σ (upd H2 dx (exd dx ((f, y) :: fs))))
theorem ps_ostB (ho : PE X o to) (he : PE X e te) (hs : swapsWith e (some (.Attribute o f p')) pos.line X.env = pure false := by rfl) : PS X (.Assign [.Attribute o f p'] e pos) (tOstB X.K f to te) := by
  constructor
  intro pins s σ H D I h
  refine plainObj_wpAny_Assign_Attribute (thn (he.run pins s σ H _ I h) fun v s1 hv => ?_) hs
  obtain ⟨y, H1, I1, r1, q1⟩ := hv
  refine thn (ho.run pins s1 σ H1 _ I1 q1) fun u s2 hu => ?_
  obtain ⟨x, H2, I2, r2, a, C, rfl, T, hno, q⟩ := hu
  cases r2
  rcases q with ⟨ea, q⟩ | ⟨dx, fs, ea, ed, hl, q⟩
  · exact fld_first T I2 ea hno r1 fun dx s' n1 n2 J => ⟨σ, _, J, q dx n1 n2⟩
  · exact fld_more T I2 ea ed hl hno r1 fun s' J => ⟨σ, _, J, q⟩
/-- C(e, ..) -/
def tMkB (C : Addr) (sp : Sp) (ta : TA) : L2.St → Hp → XK → Prop := fun σ H Q => ta σ H fun vs H1 => vs.length ≤ 1000 ∧ ∀ a, H1 a = none → sp (.ref a :: vs) (upd H1 a (exo a C none)) (fun v H2 => v = .non ∧
  ∃ (d : Addr) (fs : List (PySem.Str × V)), H2 a = some (exo a C (some d)) ∧ H2 d = some (exd d fs) ∧ H1 d = none ∧ Q (.ref C) (some d) (upd (del H2 a) d (.xd fs))) E0
theorem pmk_B {C fI : Addr} {k : Nat} {fd : FuncData} {ps : List PySem.Str} {sp : Sp} (T : OexB X.K C) (iC : PySem.W.findIn X.K (.ref C) "__init__" = some (some (.ref fI))) (tI : PySem.W.isFn X.K (.ref fI) = true)
    (F1 : FnOk X.prog X.w X.K X.mg X.base CX0 k fI fd ps sp) (hr : Room (k + 1) X.A) (hb : Binds X.K fd ps []) (hg : Gl X x) (hm : X.mg x = some (.ref C)) (ha : PA X (e :: es) ta)
    (hdb : (x == ("__debug__" : PySem.Str)) = false := by decide) (he : starEach (e :: es) X.env = (false, eval e X.env) :: starEach es X.env := by rfl) (hpl : (backTo pos (starEach es X.env)).any (·.1) = false := by rfl) :
    PMk X (.Call (.Name x p) (e :: es) [] pos) (tMkB C sp ta) := by
  intro pins s σ H Q I h
  refine wpAny_Call_Name_kw (ld_glob I hg hm ?_ hdb)
  refine PySem.W.callWith_K (h₀ := X.base) I.ok.mod.kin T.kC (thn (ha.run pos pins s σ H _ I h) fun us s1 hu => ?_) he hpl
  obtain ⟨vs, H1, I1, r1, hz, q1⟩ := hu
  refine ⟨I1.kIn, ?_⟩
  show wpAny _ _ (call (.ref C) us) _ _ _
  obtain ⟨nm, N, qn, bs, bm, hdct, sn, sub, ab, col, dd, k0, k1, k2, k3, k5, hC, hT⟩ := PySem.W.excInit_of I1.kIn T.ini
  obtain ⟨oI, hoI, hcI⟩ : ∃ oI, s1.heap.get? fI = some oI ∧ oI.cls = .type "function" := by
    obtain ⟨o, z1, z2⟩ := Option.map_eq_some_iff.mp (show (X.K.lookup fI).map (·.cls) = some (.type "function") from beq_iff_eq.mp tI)
    exact ⟨o, I1.kIn _ _ z1, z2⟩
  obtain ⟨hp, g, dr, tk, os⟩ := s1
  have le1 : hp.objs.size ≤ hp.objs.size + 1 := Nat.le_succ _
  have q2 := q1 (hp.objs.size + 1) (I1.hok.fresh le1)
  have grow : ∀ b o, hp.get? b = some o → ((hp.push (PySem.W.kdv_tup us)).push (PySem.PX.excO C hp.objs.size)).get? b = some o := fun b o z => Heap.get?_push_of_some _ (Heap.get?_push_of_some _ z)
  have here : ((hp.push (PySem.W.kdv_tup us)).push (PySem.PX.excO C hp.objs.size)).get? (hp.objs.size + 1) = some (PySem.PX.excO C hp.objs.size) := by heap_get
  have I2 : Inv X pins σ (upd H1 (hp.objs.size + 1) (exo (hp.objs.size + 1) C none)) ⟨(hp.push (PySem.W.kdv_tup us)).push (PySem.PX.excO C hp.objs.size), g, dr, tk, os⟩ := I1.laid (t' := tk) grow le1 (exo_ok here)
  have hv : Vals (V.ref (hp.objs.size + 1) :: vs) (Value.ref (hp.objs.size + 1) :: us) := .cons rfl r1
  have hln : (Value.ref (hp.objs.size + 1) :: us ++ []).length = ps.length := by
    rw [List.append_nil, ← hv.length]
    exact F1.len _ _ _ _ q2
  have hus : us.length ≤ sizeLine := by
    rw [← Paired.length r1, sizeLine_eq]
    omega
  have bt := hb ⟨(hp.push (PySem.W.kdv_tup us)).push (PySem.PX.excO C hp.objs.size), g, dr, tk, os⟩ (Value.ref (hp.objs.size + 1) :: us) I2.kIn hln
  rw [List.append_nil] at bt
  refine wpAny_call (PySem.PX.call_own PySem.F.excBase_Exception hT hC (PySem.W.looks_findIn I1.kIn iC) (fun self => PySem.W.exc_bind hoI hcI self) hus
    (codeAny_mono (F1.run _ X.stack _ _ ⟨Value.ref (hp.objs.size + 1) :: us, []⟩ _ _ _ E0 (hr.make C us []) (I2.env0.make C us []) bt hv q2) fun r s' z => ?_))
  cases r with
  | error er => exact pass0 pins σ _ _ er s' I2 z
  | ok fl =>
    cases fl with
    | ret u =>
      obtain ⟨v, H2, z1, z2, z3, z4, rv, rfl, d, fs, ea, ed, hd1, q3⟩ := z
      obtain ⟨h2, g2, d2, t2, os'⟩ := s'
      exact ⟨rv, mk_end (raises_own T.exC T.tyC) I1 le1 grow z3 z4 z1 z2 ea ed hd1 q3⟩
    | next => exact False.elim z
    | brk => exact False.elim z
    | cont => exact False.elim z
end
end Mc
namespace Mc
open PySem L2 PySem.Spec PyProof.Rows
/-! ### calls that may raise -/
def CalX (P : Program) (w : World) (K : PySem.W.Frag) (mg : PySem.Str → Option Value) (base : Heap) (k : Nat) (x : PySem.Str) (ps : List PySem.Str) (sp : Sp) : Prop :=
  ∃ (f : Addr) (fd : FuncData), mg x = some (.ref f) ∧ PySem.W.keepIn K (.ref f) = true ∧ Binds K fd ps [] ∧ FnOk P w K mg base (L2.CX P w) k f fd ps sp
def CalMX (P : Program) (w : World) (K : PySem.W.Frag) (mg : PySem.Str → Option Value) (base : Heap) (C : Addr) (k : Nat) (m : PySem.Str) (ps : List PySem.Str) (sp : Sp) : Prop :=
  ∃ (f : Addr) (fd : FuncData), Meth K C m f ∧ Binds K fd ps [] ∧ FnOk P w K mg base (L2.CX P w) k f fd ps sp
def CalIX (P : Program) (w : World) (K : PySem.W.Frag) (mg : PySem.Str → Option Value) (base : Heap) (C : Addr) (k : Nat) (x : PySem.Str) (ps : List PySem.Str) (sp : Sp) : Prop :=
  ∃ (f : Addr) (fd : FuncData), mg x = some (.ref C) ∧ Mk K C f ∧ Binds K fd ps [] ∧ FnOk P w K mg base (L2.CX P w) k f fd ps sp
/-- o.m(..) where E σ is wished of what it raises -/
def tMethE (C : Addr) (m : PySem.Str) (sp : Sp) (E : L2.St → XK) (ta : TE) (t : TA) : TE := fun σ H Q => ta σ H fun x H1 => ∃ a dx fs, x = .ref a ∧ H1 a = some (.ins C dx fs) ∧ fs.lookup m = none ∧ t σ H1 fun vs H2 => sp (x :: vs) H2 Q (E σ)
section
variable {X : Cx} {k : Nat} {x m : PySem.Str} {ps : List PySem.Str} {sp : Sp} {C : Addr} {p pos apos : Pos} {e o : Expr} {es : List Expr} {t : TA} {ta : TE} {E : L2.St → XK}
theorem pe_calX (c : CalX X.prog X.w X.K X.mg X.base k x ps sp) (hr : Room k X.A) (hg : Gl X x) (hx : ∀ σ, PassesAt (L2.CX X.prog X.w) X σ (E σ)) (ha : PA X (e :: es) t) (hdb : (x == ("__debug__" : PySem.Str)) = false := by decide)
    (he : starEach (e :: es) X.env = (false, eval e X.env) :: starEach es X.env := by rfl) (hpl : (backTo pos (starEach es X.env)).any (·.1) = false := by rfl) : PE X (.Call (.Name x p) (e :: es) [] pos) (tCallS sp E t) := by
  obtain ⟨f, fd, hm, hk, hb, F⟩ := c
  exact pe_callS F hr hg hm hk hb hx ha hdb he hpl
theorem pe_calMX {pl : Sem Bool} (ho : PE X o ta) (cl : Cls X.K C) (c : CalMX X.prog X.w X.K X.mg X.base C k m ps sp) (hr : Room k X.A) (hx : ∀ σ, PassesAt (L2.CX X.prog X.w) X σ (E σ)) (ha : PA X (e :: es) t)
    (hst : starEach (e :: es) X.env = (false, eval e X.env) :: starEach es X.env := by rfl) (hpl : (backTo pos (starEach es X.env)).any (·.1) = false := by rfl)
    (ht : eval (.Call (.Attribute o m apos) (e :: es) [] pos) X.env = (do
      let ov ← eval o X.env
      standAt apos.atName
      let (f, first) ← holding [ov] (getMethod ov m pl)
      callWith pos f first (backTo pos (starEach (e :: es) X.env)) (backToKw pos (keywordEach [] X.env))) := by rfl) :
    PE X (.Call (.Attribute o m apos) (e :: es) [] pos) (tMethE C m sp E ta t) := by
  obtain ⟨f, fd, hm, hb, F⟩ := c
  constructor
  intro pins s σ H Q I h
  refine PySem.W.methodCall_KW (pl := pl) (thn (ho.run pins s σ H _ I h) fun u s1 z1 => ?_) ht
  obtain ⟨x, H1, I1, rx, a, dx, fs, rfl, ea, l, q⟩ := z1
  cases rx
  refine getmeth_ok I1 ea cl hm l (PySem.W.callWith_K (first := [.ref a]) (h₀ := X.base) I.ok.mod.kin hm.kp (thn (ha.run pos pins s1 σ H1 _ I1 q) fun us s2 z2 => ?_) hst hpl)
  obtain ⟨vs, H2, I2, r, q2⟩ := z2
  exact ⟨I2.kIn, run_fnS (us := .ref a :: us) (vs := .ref a :: vs) F hr hb (hx σ) I2 (.cons rfl r) q2⟩
/-- nothing is raised at this call -/
theorem noE {X : Cx} : ∀ σ : L2.St, PassesAt (L2.CX X.prog X.w) X σ ((fun _ => E0) σ) := fun σ pins H s e s' I h => passL pins σ H s e s' I h
end
/-! ### C(..) whose __init__ may raise -/
def tMakeE (C : Addr) (sp : Sp) (E : L2.St → XK) (t : TA) : TE := fun σ H Q => t σ H fun vs H1 => ∀ x dx, H1 x = none → H1 dx = none → dx ≠ x → sp (.ref x :: vs) (upd (upd H1 dx (.own x)) x (.ins C dx [])) (fun v H2 => v = .non ∧ Q (.ref x) H2) (E σ)
theorem run_makeE {X : Cx} {k : Nat} {f C : Addr} {fd : FuncData} {ps : List PySem.Str} {sp : Sp} {E : XK} {pins : List (Addr × Obj)} {σ : L2.St} {H : Hp} {s : Shared} {Q : VK} {us : List Value} {vs : List V} (M : Mk X.K C f) (F : FnOk X.prog X.w X.K X.mg X.base (L2.CX X.prog X.w) k f fd ps sp) (hr : Room (k + 1) X.A) (hb : Binds X.K fd ps [])
    (hx : PassesAt (L2.CX X.prog X.w) X σ E) (I : Inv X pins σ H s) (r : Vals vs us)
    (h : ∀ x dx, H x = none → H dx = none → dx ≠ x → sp (.ref x :: vs) (upd (upd H dx (.own x)) x (.ins C dx [])) (fun v H2 => v = .non ∧ Q (.ref x) H2) E) :
    wpAny (model X.prog X.w) X.A (call (.ref C) us) (EP X pins σ Q) X.xe s := by
  have hq := h (s.heap.objs.size + 1) s.heap.objs.size (I.hok.fresh (Nat.le_succ _)) (I.hok.fresh (Nat.le_refl _)) (Nat.ne_of_lt (Nat.lt_succ_self _))
  have I2 := Inv.made (C := C) I
  have r2 : Vals (V.ref (s.heap.objs.size + 1) :: vs) (Value.ref (s.heap.objs.size + 1) :: us) := .cons rfl r
  have hl : (Value.ref (s.heap.objs.size + 1) :: us ++ []).length = ps.length := by
    have e := r2.length
    rw [F.len _ _ _ _ hq] at e
    rw [List.append_nil]
    exact e.symm
  have bt := hb _ (Value.ref (s.heap.objs.size + 1) :: us) I2.kIn hl
  rw [List.append_nil] at bt
  refine wpAny_call (make_map (f := f) I.kIn M.makes M.init (beq_iff_eq.mp M.fn) (codeAny_mono (F.run _ X.stack _ _ ⟨Value.ref (s.heap.objs.size + 1) :: us, []⟩ (Value.ref (s.heap.objs.size + 1) :: us) _ _ E (hr.make C us [])
    (I2.env0.make C us []) bt r2 hq) fun r s' hq' => ?_))
  cases r with
  | error e => exact hx pins _ _ e s' I2 hq'
  | ok fl =>
    cases fl with
    | ret u =>
      obtain ⟨v, H', I3, rv, ev, q3⟩ := I2.after hq'
      subst ev
      exact ⟨rv, ⟨V.ref (s.heap.objs.size + 1), H', I3, rfl, q3⟩⟩
    | next => exact False.elim hq'
    | brk => exact False.elim hq'
    | cont => exact False.elim hq'
section
variable {X : Cx} {k : Nat} {x : PySem.Str} {ps : List PySem.Str} {sp : Sp} {C : Addr} {p pos : Pos} {e : Expr} {es : List Expr} {t : TA} {E : L2.St → XK}
theorem pe_calIX (c : CalIX X.prog X.w X.K X.mg X.base C k x ps sp) (hr : Room (k + 1) X.A) (hg : Gl X x) (hx : ∀ σ, PassesAt (L2.CX X.prog X.w) X σ (E σ)) (ha : PA X (e :: es) t) (hdb : (x == ("__debug__" : PySem.Str)) = false := by decide)
    (he : starEach (e :: es) X.env = (false, eval e X.env) :: starEach es X.env := by rfl) (hpl : (backTo pos (starEach es X.env)).any (·.1) = false := by rfl) : PE X (.Call (.Name x p) (e :: es) [] pos) (tMakeE C sp E t) := by
  obtain ⟨f, fd, hm, M, hb, F⟩ := c
  refine ⟨fun pins s σ H Q I h => ?_⟩
  refine wpAny_Call_Name_kw (ld_glob I hg hm ?_ hdb)
  refine PySem.W.callWith_K (h₀ := X.base) I.ok.mod.kin M.kp (thn (ha.run pos pins s σ H _ I h) fun us s1 ⟨vs, H1, I1, r, q⟩ => ⟨I1.kIn, ?_⟩) he hpl
  exact run_makeE M F hr hb (hx σ) I1 r q
end
/-! ### an own error of one field -/
def spBadI (C : Addr) (f : PySem.Str) : Sp := fun vs H Q _ => ∃ (a : Addr) (v : V), vs = [.ref a, v] ∧ H a = some (exo a C none) ∧ ∀ d, H d = none → d ≠ a → Q .non (upd (upd H d (exd d [(f, v)])) a (exo a C (some d)))
theorem ok_badI {P : Program} {w : World} {K : PySem.W.Frag} {mg : PySem.Str → Option Value} {base : Heap} {st : Stmt} {f C : Addr} {fd : FuncData} {n q : PySem.Str} (F : Fun K "__init__" q st f fd) (T : OexB K C) (hno : PySem.W.findIn K (.ref C) n = some none)
    (sc : FnScope ["self", n] ["self", n] (defScope st))
    (bd : ∀ (cdv : Value) (A : Around) (outer : List Env) (s : Shared) (H : Hp) (Q : VK) (E : XK), PSs (cxOf CX0 P w K mg base ["self", n] q (defScope st) f cdv A outer s H E).nox (defBody st) (tOstB K n (tVar 0) (tVar 1))) : FnOk P w K mg base CX0 1 f fd ["self", n] (spBadI C n) := by
  refine F.ok sc (fun vs H Q E h => ?_) (fun cdv A outer s H vs Q E hr h => ?_)
  · obtain ⟨a, v, rfl, _⟩ := h
    rfl
  · obtain ⟨a, v, rfl, ha, k⟩ := h
    refine ⟨_, bd cdv A outer s H Q E, ?_⟩
    exact ⟨_, rfl, _, rfl, a, C, rfl, T, hno, .inl ⟨ha, k⟩⟩
theorem bad_heap {H : Hp} {a d : Addr} {o1 o2 o3 x : HO} (ha : H a = none) (ne : d ≠ a) : upd (del (upd (upd (upd H a o1) d o2) a o3) a) d x = upd H d x := by
  funext b
  by_cases h1 : b = d
  · rw [h1, upd_same, upd_same]
  · rw [upd_ne h1, upd_ne h1]
    by_cases h2 : b = a
    · rw [h2, del_same, ha]
    · rw [del_ne h2, upd_ne h2, upd_ne h1, upd_ne h2]
/-- C(v) -/
theorem mkB_one {C : Addr} {f : PySem.Str} {v : V} {H : Hp} {Q : XK} (q : ∀ d, H d = none → Q (.ref C) (some d) (upd H d (.xd [(f, v)]))) : [v].length ≤ 1000 ∧ ∀ a, H a = none → spBadI C f (.ref a :: [v]) (upd H a (exo a C none)) (fun v' H2 => v' = .non ∧
    ∃ (d : Addr) (fs : List (PySem.Str × V)), H2 a = some (exo a C (some d)) ∧ H2 d = some (exd d fs) ∧ H d = none ∧ Q (.ref C) (some d) (upd (del H2 a) d (.xd fs))) E0 := by
  refine ⟨by show 1 ≤ 1000; decide, fun a ha => ⟨a, v, rfl, upd_same, fun d hd ne => ⟨rfl, d, [(f, v)], upd_same, by rw [upd_ne ne, upd_same], by rw [upd_ne ne] at hd; exact hd, ?_⟩⟩⟩
  have hd0 : H d = none := by rw [upd_ne ne] at hd; exact hd
  rw [bad_heap ha ne]
  exact q d hd0
end Mc
namespace Mc
open PySem L2 PySem.Spec PyProof.Rows
/-! a list comprehension with two fors, by two walks -/
theorem yes_ite {σ : L2.St} {H : Hp} {A B : Hp → Prop} (h : A H) : tYes σ H (fun b H3 => if b = true then A H3 else B H3) := by
  show (if true = true then A H else B H)
  rw [if_pos rfl]
  exact h
theorem pi_listK {X : Cx} {K : PySem.W.Frag} {tg l : Expr} {tl : TE} (h : X.K = K) (hl : PE X l tl) : PI X tg l (iList K tl) := by
  subst h
  exact pi_list hl
section
variable {J J1 : It} {n n1 : Nat} {G G1 : Hp → Prop} {Y Y1 : Nat → Hp → V → Hp → Prop} {g g1 : TG} {tt tt1 : TT} {te : TE} {wi1 : TI} {vs vs1 : List Nat} {σ σ2 : L2.St} {H1 H4 : Hp} {D : Addr} {Qd Nx : Hp → Prop}
theorem lc2_out (w : Walk J n G Y) (Pv : Nat → Hp → Prop) (h0 : Pv 0 (upd H1 D (.lst []))) (hG : ∀ i H, i ≤ n → Pv i H → G H)
    (hs : ∀ i x H H', i < n → Pv i H → Y i H x H' → g x (wipe σ vs) H' fun σ2 H2 => wipe σ2 vs = wipe σ vs ∧ tt σ2 H2 fun b H3 => if b = true then wi1 σ2 H3 fun J1 H4 => ∃ W1 : Nat → Nat → Hp → Prop, (∃ m, W1 0 m H4) ∧ ∀ j k H, W1 j k H →
      (J1.stop j H ∧ Pv (i + 1) H) ∨ (J1.go j H ∧ ∃ Nx1 : Hp → Prop, (∀ H', Nx1 H' → ∃ k', k' < k ∧ W1 (j + 1) k' H') ∧ ∀ x H', J1.yld j H x H' → g1 x (wipe σ2 vs1) H' fun σ3 H5 => wipe σ3 vs1 = wipe σ2 vs1 ∧ tt1 σ3 H5 fun b H6 =>
        if b = true then te σ3 H6 fun y H7 => ∃ acc, H7 D = some (.lst acc) ∧ acc.length < sizeLine ∧ Nx1 (upd H7 D (.lst (acc ++ [y]))) else Nx1 H6) else Pv (i + 1) H3) (hd : ∀ H, Pv n H → Qd H) :
    ∃ W : Nat → Nat → Hp → Prop, (∃ m, W 0 m (upd H1 D (.lst []))) ∧ ∀ i m H, W i m H →
  (J.stop i H ∧ Qd H) ∨ (J.go i H ∧ ∃ Nx : Hp → Prop, (∀ H', Nx H' → ∃ m', m' < m ∧ W (i + 1) m' H') ∧ ∀ x H', J.yld i H x H' → g x (wipe σ vs) H' fun σ2 H2 => wipe σ2 vs = wipe σ vs ∧ tt σ2 H2 fun b H3 =>
    if b = true then wi1 σ2 H3 fun J1 H4 => ∃ W1 : Nat → Nat → Hp → Prop, (∃ m, W1 0 m H4) ∧ ∀ j k H, W1 j k H →
      (J1.stop j H ∧ Nx H) ∨ (J1.go j H ∧ ∃ Nx1 : Hp → Prop, (∀ H', Nx1 H' → ∃ k', k' < k ∧ W1 (j + 1) k' H') ∧ ∀ x H', J1.yld j H x H' → g1 x (wipe σ2 vs1) H' fun σ3 H5 => wipe σ3 vs1 = wipe σ2 vs1 ∧ tt1 σ3 H5 fun b H6 =>
        if b = true then te σ3 H6 fun y H7 => ∃ acc, H7 D = some (.lst acc) ∧ acc.length < sizeLine ∧ Nx1 (upd H7 D (.lst (acc ++ [y]))) else Nx1 H6)
    else Nx H3) := by
  refine ⟨fun i m H => m = n - i ∧ i ≤ n ∧ Pv i H, ⟨n, by simp, Nat.zero_le _, h0⟩, ?_⟩
  rintro i m H ⟨rfl, hi, p⟩
  by_cases hlt : i < n
  · exact .inr ⟨w.goes i H hlt (hG i H hi p), Pv (i + 1), fun H' p' => ⟨n - (i + 1), by omega, rfl, hlt, p'⟩, fun x H' y => hs i x H H' hlt p (w.yields i H x H' hlt (hG i H hi p) y)⟩
  · obtain rfl : i = n := by omega
    exact .inl ⟨w.stops H (hG _ H hi p), hd H p⟩
theorem lc2_in (w : Walk J1 n1 G1 Y1) (Pj : Nat → Hp → Prop) (h0 : Pj 0 H4) (hG : ∀ i H, i ≤ n1 → Pj i H → G1 H)
    (hs : ∀ j x H H', j < n1 → Pj j H → Y1 j H x H' → g1 x (wipe σ2 vs1) H' fun σ3 H5 => wipe σ3 vs1 = wipe σ2 vs1 ∧ tt1 σ3 H5 fun b H6 => if b = true then te σ3 H6 fun y H7 => ∃ acc, H7 D = some (.lst acc) ∧ acc.length < sizeLine ∧ Pj (j + 1) (upd H7 D (.lst (acc ++ [y]))) else Pj (j + 1) H6)
    (hd : ∀ H, Pj n1 H → Nx H) :
    ∃ W1 : Nat → Nat → Hp → Prop, (∃ m, W1 0 m H4) ∧ ∀ j k H, W1 j k H →
      (J1.stop j H ∧ Nx H) ∨ (J1.go j H ∧ ∃ Nx1 : Hp → Prop, (∀ H', Nx1 H' → ∃ k', k' < k ∧ W1 (j + 1) k' H') ∧ ∀ x H', J1.yld j H x H' → g1 x (wipe σ2 vs1) H' fun σ3 H5 => wipe σ3 vs1 = wipe σ2 vs1 ∧ tt1 σ3 H5 fun b H6 =>
        if b = true then te σ3 H6 fun y H7 => ∃ acc, H7 D = some (.lst acc) ∧ acc.length < sizeLine ∧ Nx1 (upd H7 D (.lst (acc ++ [y]))) else Nx1 H6) := by
  refine ⟨fun i m H => m = n1 - i ∧ i ≤ n1 ∧ Pj i H, ⟨n1, by simp, Nat.zero_le _, h0⟩, ?_⟩
  rintro i m H ⟨rfl, hi, p⟩
  by_cases hlt : i < n1
  · exact .inr ⟨w.goes i H hlt (hG i H hi p), Pj (i + 1), fun H' p' => ⟨n1 - (i + 1), by omega, rfl, hlt, p'⟩, fun x H' y => hs i x H H' hlt p (w.yields i H x H' hlt (hG i H hi p) y)⟩
  · obtain rfl : i = n1 := by omega
    exact .inl ⟨w.stops H (hG _ H hi p), hd H p⟩
end
end Mc
namespace Mc
open PySem L2 PySem.Spec PyProof.Rows
theorem lt_tri : ∀ a b : List Nat, ¬ a < b → a ≠ b → b < a
  | [], [], _, h => absurd rfl h
  | [], y :: b, h, _ => absurd (List.nil_lt_cons y b) h
  | x :: a, [], _, _ => List.nil_lt_cons x a
  | x :: a, y :: b, h, n => by
    rw [List.cons_lt_cons_iff] at h ⊢
    by_cases e : x = y
    · subst e
      exact .inr ⟨rfl, lt_tri a b (fun z => h (.inr ⟨rfl, z⟩)) fun z => n (by rw [z])⟩
    · exact .inl (by
        have : ¬ x < y := fun z => h (.inl z)
        omega)
def ltN (a b : PySem.Str) : Prop := a.cps.toList < b.cps.toList
instance (a b : PySem.Str) : Decidable (ltN a b) := inferInstanceAs (Decidable (_ < _))
theorem ltN_irr (a : PySem.Str) : ¬ ltN a a := List.lt_irrefl _
theorem ltN_trans {a b c : PySem.Str} (h : ltN a b) (k : ltN b c) : ltN a c := List.lt_trans h k
theorem ltN_tri {a b : PySem.Str} (h : ¬ ltN a b) (n : a ≠ b) : ltN b a := lt_tri _ _ h fun z => n (str_ext z)
section
variable {β : Type} {l : List (PySem.Str × β)} {k : PySem.Str} {v : β}
def AscT (l : List (PySem.Str × β)) : Prop := l.Pairwise fun x y => ltN x.1 y.1
def hiT (l : List (PySem.Str × β)) (k : PySem.Str) : List (PySem.Str × β) := l.filter fun x => decide (ltN k x.1)
def loT (l : List (PySem.Str × β)) (k : PySem.Str) : List (PySem.Str × β) := l.filter fun x => !decide (ltN k x.1)
theorem AscT.nodup (h : AscT l) : (keysT l).Nodup := by
  unfold keysT
  rw [List.Nodup, List.pairwise_map]
  exact List.Pairwise.imp (fun {a b} z e => by rw [e] at z; exact ltN_irr _ z) h
theorem AscT.split (h : AscT l) (k : PySem.Str) : l = loT l k ++ hiT l k := by
  induction l with
  | nil => rfl
  | cons x l ih =>
    have h' := List.pairwise_cons.mp h
    unfold loT hiT
    rw [List.filter_cons, List.filter_cons]
    by_cases e : ltN k x.1
    · have all : ∀ y ∈ l, ltN k y.1 := fun y hy => ltN_trans e (h'.1 y hy)
      rw [decide_eq_true e]
      have e1 : l.filter (fun x => !decide (ltN k x.1)) = [] := List.filter_eq_nil_iff.mpr fun y hy => by simp [all y hy]
      have e2 : l.filter (fun x => decide (ltN k x.1)) = l := List.filter_eq_self.mpr fun y hy => decide_eq_true (all y hy)
      simp [e1, e2]
    · rw [decide_eq_false e]
      have := ih h'.2
      unfold loT hiT at this
      simp only [Bool.not_false, if_true, Bool.false_eq_true, if_false, List.cons_append]
      rw [← this]
open Classical in
noncomputable def insT (l : List (PySem.Str × β)) (k : PySem.Str) (v : β) : List (PySem.Str × β) := if k ∈ keysT l then l.map (fun x => if x.1 = k then (x.1, v) else x) else loT l k ++ [(k, v)] ++ hiT l k
theorem getT_app (l' : List (PySem.Str × β)) : getT (l ++ l') k = (getT l k).or (getT l' k) := by
  induction l with
  | nil => rfl
  | cons x l ih =>
    rw [List.cons_append, getT_cons, getT_cons, ih]
    split <;> rfl
theorem getT_rep (c : PySem.Str) : getT (l.map fun x => if x.1 = k then (x.1, v) else x) c = if c = k then (getT l c).map (fun _ => v) else getT l c := by
  induction l with
  | nil => split <;> rfl
  | cons x l ih =>
    rw [List.map_cons, getT_cons, getT_cons, ih]
    by_cases e : x.1 = k
    · rw [if_pos e]
      show (if x.1 = c then some v else _) = _
      by_cases e2 : x.1 = c
      · rw [if_pos e2, if_pos e2, if_pos (e2.symm.trans e)]; rfl
      · rw [if_neg e2, if_neg e2]
    · rw [if_neg e]
      by_cases e2 : x.1 = c
      · rw [if_pos e2, if_pos e2, if_neg fun z => e (e2.trans z)]
      · rw [if_neg e2, if_neg e2]
theorem getT_ins (h : AscT l) (c : PySem.Str) : getT (insT l k v) c = if c = k then some v else getT l c := by
  unfold insT
  split
  case isTrue hk =>
    rw [getT_rep]
    split
    case isTrue e => subst e; obtain ⟨w, hw⟩ := getT_key hk; rw [hw]; rfl
    case isFalse e => rfl
  case isFalse hk =>
    have n : getT l k = none := getT_none.mpr hk
    rw [h.split k, getT_app] at n
    have n1 : getT (loT l k) k = none := by cases e : getT (loT l k) k with
      | none => rfl
      | some v => rw [e] at n; cases n
    rw [getT_app, getT_app, getT_cons]
    by_cases e : c = k
    · subst e; rw [if_pos rfl, if_pos rfl, n1]; rfl
    · rw [if_neg fun z => e z.symm, if_neg e]
      conv => rhs; rw [h.split k, getT_app]
      cases getT (loT l k) c <;> rfl
theorem AscT.ins (h : AscT l) : AscT (insT l k v) := by
  unfold insT
  split
  case isTrue hk =>
    unfold AscT
    rw [List.pairwise_map]
    refine List.Pairwise.imp (fun {a b} z => ?_) h
    have e : ∀ x : PySem.Str × β, (if x.1 = k then (x.1, v) else x).1 = x.1 := fun x => by split <;> rfl
    rw [e, e]; exact z
  case isFalse hk =>
    have hi : ∀ x ∈ hiT l k, ltN k x.1 := fun x hx => of_decide_eq_true (List.mem_filter.mp hx).2
    have lo : ∀ x ∈ loT l k, ltN x.1 k := fun x hx => by
      have h2 := List.mem_filter.mp hx
      refine ltN_tri (fun z => by simp [z] at h2) fun z => hk ?_
      rw [z]; exact List.mem_map.mpr ⟨x, h2.1, rfl⟩
    refine List.pairwise_append.mpr ⟨List.pairwise_append.mpr ⟨h.filter _, List.pairwise_singleton _ _, fun x hx y hy => ?_⟩, h.filter _, fun x hx y hy => ?_⟩
    · cases List.mem_singleton.mp hy; exact lo x hx
    · rcases List.mem_append.mp hx with hx | hx
      · exact ltN_trans (lo x hx) (hi y hy)
      · cases List.mem_singleton.mp hx; exact hi y hy
theorem ins_len : (insT l k v).length ≤ l.length + 1 := by
  unfold insT
  split
  · rw [List.length_map]; exact Nat.le_succ _
  · have h1 : (loT l k).length + (hiT l k).length ≤ l.length := by
      unfold loT hiT
      have : ∀ l : List (PySem.Str × β), (l.filter fun x => !decide (ltN k x.1)).length + (l.filter fun x => decide (ltN k x.1)).length = l.length := by
        intro l
        induction l with
        | nil => rfl
        | cons x l ih =>
          rw [List.filter_cons, List.filter_cons]
          cases decide (ltN k x.1) <;> simp <;> omega
      exact Nat.le_of_eq (this l)
    simp; omega
theorem keys_ins (h : AscT l) (c : PySem.Str) : c ∈ keysT (insT l k v) ↔ c = k ∨ c ∈ keysT l := by
  have key : ∀ l : List (PySem.Str × β), c ∈ keysT l ↔ getT l c ≠ none := fun l => by
    rw [Ne, getT_none]; exact ⟨fun h z => z h, fun h => Classical.byContradiction h⟩
  rw [key, key, getT_ins h]
  by_cases e : c = k
  · simp [e]
  · simp [e]
end
section
variable {β : Type} {l : List (PySem.Str × β)} {k : PySem.Str} {v : β}
theorem getT_not {A : List (PySem.Str × β)} {c : PySem.Str} (h : ∀ x ∈ A, x.1 ≠ c) : getT A c = none := getT_none.mpr fun z => by
  obtain ⟨x, hx, e⟩ := List.mem_map.mp z
  exact h x hx e
theorem keep_T {A : List (PySem.Str × β)} {c : PySem.Str} (h : ∀ x ∈ A, x.1 ≠ c) : A.filter (fun x => decide (x.1 ≠ c)) = A := List.filter_eq_self.mpr fun x hx => decide_eq_true (h x hx)
/-- one turn: y is taken out and put at the end -/
theorem turn_T {lo A B : List (PySem.Str × β)} {y z : PySem.Str × β} (h1 : ∀ x ∈ lo, x.1 ≠ y.1) (h2 : ∀ x ∈ A, x.1 ≠ y.1) (h3 : ∀ x ∈ B, x.1 ≠ y.1) (h4 : z.1 ≠ y.1) :
    getT (lo ++ (y :: B) ++ [z] ++ A) y.1 = some y.2 ∧ (lo ++ (y :: B) ++ [z] ++ A).filter (fun x => decide (x.1 ≠ y.1)) = lo ++ B ++ [z] ++ A ∧ y.1 ∉ keysT (lo ++ B ++ [z] ++ A) := by
  refine ⟨?_, ?_, ?_⟩
  · rw [getT_app, getT_app, getT_app, getT_not h1, getT_cons, if_pos rfl]; rfl
  · rw [List.filter_append, List.filter_append, List.filter_append, keep_T h1, keep_T h2, List.filter_cons, if_neg (by simp), keep_T h3, keep_T (A := [z]) (by intro x hx; cases List.mem_singleton.mp hx; exact h4)]
  · refine getT_none.mp (getT_not fun x hx => ?_)
    simp only [List.mem_append, List.mem_singleton] at hx
    rcases hx with ((hx | hx) | hx) | hx
    · exact h1 x hx
    · exact h3 x hx
    · rw [hx]; exact h4
    · exact h2 x hx
theorem hi_turn (h : AscT l) {i : Nat} {y : PySem.Str × β} (hy : (hiT l k)[i]? = some y) : (hiT l k).drop i = y :: (hiT l k).drop (i + 1) ∧ (hiT l k).take (i + 1) = (hiT l k).take i ++ [y] ∧
    (∀ x ∈ loT l k, x.1 ≠ y.1) ∧ (∀ x ∈ (hiT l k).take i, x.1 ≠ y.1) ∧ (∀ x ∈ (hiT l k).drop (i + 1), x.1 ≠ y.1) ∧ k ≠ y.1 := by
  obtain ⟨hl, e⟩ := List.getElem?_eq_some_iff.mp hy
  have ky : ltN k y.1 := of_decide_eq_true (List.mem_filter.mp (List.mem_of_getElem? hy)).2
  have d : (hiT l k).drop i = y :: (hiT l k).drop (i + 1) := by rw [List.drop_eq_getElem_cons hl, e]
  have asc : AscT (hiT l k) := h.filter _
  refine ⟨d, by rw [List.take_add_one, hy]; rfl, fun x hx z => ?_, fun x hx z => ?_, fun x hx z => ?_, fun z => ltN_irr _ (z ▸ ky)⟩
  · have := (List.mem_filter.mp hx).2
    rw [z] at this
    simp [ky] at this
  · have a := asc
    rw [← List.take_append_drop i (hiT l k), d] at a
    exact ltN_irr _ (z ▸ (List.pairwise_append.mp a).2.2 x hx y (by simp))
  · have a := asc
    rw [← List.take_append_drop i (hiT l k), d] at a
    exact ltN_irr _ (z ▸ (List.pairwise_cons.mp (List.pairwise_append.mp a).2.1).1 x hx)
end
theorem ins_map {β γ : Type} (g : β → γ) (l : List (PySem.Str × β)) (k : PySem.Str) (v : β) : insT (l.map fun x => (x.1, g x.2)) k (g v) = (insT l k v).map fun x => (x.1, g x.2) := by
  have ek : keysT (l.map fun x => (x.1, g x.2)) = keysT l := by unfold keysT; rw [List.map_map]; rfl
  unfold insT
  rw [ek]
  split
  · rw [List.map_map, List.map_map]
    refine List.map_congr_left fun x _ => ?_
    show (if x.1 = k then (x.1, g v) else (x.1, g x.2)) = _
    by_cases e : x.1 = k
    · rw [if_pos e]; show _ = ((if x.1 = k then (x.1, v) else x).1, g (if x.1 = k then (x.1, v) else x).2); rw [if_pos e]
    · rw [if_neg e]; show _ = ((if x.1 = k then (x.1, v) else x).1, g (if x.1 = k then (x.1, v) else x).2); rw [if_neg e]
  · rw [List.map_append, List.map_append]
    unfold loT hiT
    rw [List.filter_map, List.filter_map]
    rfl
end Mc
namespace Mc
open PySem L2 PySem.Spec PyProof.Rows
/-! ### comprehensions whose turns change nothing that stood -/
theorem itP {c A B : Prop} [Decidable c] (h : c) (a : A) : if c then A else B := by rw [if_pos h]; exact a
theorem itN {c A B : Prop} [Decidable c] (h : ¬ c) (b : B) : if c then A else B := by rw [if_neg h]; exact b
theorem Same.new {p : Addr} {H : Hp} {o : HO} (h : H p = none) : Same H (upd H p o) := fun b u z => by rw [upd_ne (ne_of_none z h)]; exact z
theorem Same.rfl' {H : Hp} : Same H H := fun _ _ z => z
theorem Same.two {p q : Addr} {H : Hp} {o u : HO} (h : H p = none) (k : upd H p o q = none) : Same H (upd (upd H p o) q u) := (Same.new h).trans (Same.new k)
section
variable {α : Type} {c f : α → V} {ys : List α} {J : It} {n : Nat} {G : Hp → Prop} {te : TE} {vs : List Nat} {σ : L2.St} {H1 : Hp} {D : Addr} {Qd : Hp → Prop} {j : Nat}
/-- [e for x in xs], as a map -/
theorem lc_m (w : Walk J n G (YAt (ys.map c))) (f : α → V) (hn : n = ys.length) (hD : H1 D = none) (hG : ∀ H', Same H1 H' → G H') (hz : ys.length ≤ sizeLine)
    (turn : ∀ (i : Nat) (y : α) (H' : Hp) (k : VK), ys[i]? = some y → Same H1 H' → (∀ H4, Same H' H4 → k (f y) H4) → te ((wipe σ vs).set j (some (c y))) H' k)
    (hd : ∀ H', Same H1 H' → H' D = some (.lst (ys.map f)) → Qd H') (hw : ∀ v, wipe ((wipe σ vs).set j (some v)) vs = wipe σ vs := by intro _; rfl) :
    ∃ W : Nat → Nat → Hp → Prop, (∃ m, W 0 m (upd H1 D (.lst []))) ∧ ∀ i m H, W i m H →
      (J.stop i H ∧ Qd H) ∨ (J.go i H ∧ ∃ Nx : Hp → Prop, (∀ H', Nx H' → ∃ m', m' < m ∧ W (i + 1) m' H') ∧ ∀ x H', J.yld i H x H' → gName j x (wipe σ vs) H' fun σ2 H2 => wipe σ2 vs = wipe σ vs ∧ tYes σ2 H2 fun b H3 =>
        if b = true then te σ2 H3 fun y H4 => ∃ acc, H4 D = some (.lst acc) ∧ acc.length < sizeLine ∧ Nx (upd H4 D (.lst (acc ++ [y]))) else Nx H3) := by
  refine lc_it w (fun i H' => Same H1 H' ∧ H' D = some (.lst ((ys.take i).map f))) ⟨Same.new hD, upd_same⟩ (fun i H' _ z => hG H' z.1) ?_ ?_
  · rintro i x H H' hi ⟨s1, d1⟩ ⟨rfl, hx⟩
    rw [List.getElem?_map] at hx
    cases e : ys[i]? with
    | none => rw [e] at hx; cases hx
    | some y =>
      rw [e] at hx
      obtain rfl := Option.some.inj hx
      refine ⟨hw _, yes_ite (turn i y _ _ e s1 fun H4 s4 => ⟨_, s4 _ _ d1, ?_, ?_, ?_⟩)⟩
      · rw [List.length_map, List.length_take]; omega
      · exact fun b o z => by
          have nb : b ≠ D := ne_of_none z hD
          rw [upd_ne nb]
          exact s4 _ _ (s1 _ _ z)
      · rw [upd_same, List.take_add_one, e, List.map_append]
        rfl
  · rintro H ⟨s1, d1⟩
    subst hn
    rw [List.take_length] at d1
    exact hd H s1 d1
/-- [x for x in xs if t] and the like, as a filter and a map -/
theorem lc_f {tt : TT} (w : Walk J n G (YAt (ys.map c))) (p : α → Bool) (f : α → V) (hn : n = ys.length) (hD : H1 D = none) (hG : ∀ H', Same H1 H' → G H') (hz : ys.length ≤ sizeLine)
    (test : ∀ (i : Nat) (y : α) (H' : Hp) (k : Bool → Hp → Prop), ys[i]? = some y → Same H1 H' → (∀ H4, Same H' H4 → k (p y) H4) → tt ((wipe σ vs).set j (some (c y))) H' k)
    (turn : ∀ (i : Nat) (y : α) (H' : Hp) (k : VK), ys[i]? = some y → p y = true → Same H1 H' → (∀ H4, Same H' H4 → k (f y) H4) → te ((wipe σ vs).set j (some (c y))) H' k)
    (hd : ∀ H', Same H1 H' → H' D = some (.lst ((ys.filter p).map f)) → Qd H') (hw : ∀ v, wipe ((wipe σ vs).set j (some v)) vs = wipe σ vs := by intro _; rfl) :
    ∃ W : Nat → Nat → Hp → Prop, (∃ m, W 0 m (upd H1 D (.lst []))) ∧ ∀ i m H, W i m H →
      (J.stop i H ∧ Qd H) ∨ (J.go i H ∧ ∃ Nx : Hp → Prop, (∀ H', Nx H' → ∃ m', m' < m ∧ W (i + 1) m' H') ∧ ∀ x H', J.yld i H x H' → gName j x (wipe σ vs) H' fun σ2 H2 => wipe σ2 vs = wipe σ vs ∧ tt σ2 H2 fun b H3 =>
        if b = true then te σ2 H3 fun y H4 => ∃ acc, H4 D = some (.lst acc) ∧ acc.length < sizeLine ∧ Nx (upd H4 D (.lst (acc ++ [y]))) else Nx H3) := by
  refine lc_it w (fun i H' => Same H1 H' ∧ H' D = some (.lst (((ys.take i).filter p).map f))) ⟨Same.new hD, upd_same⟩ (fun i H' _ z => hG H' z.1) ?_ ?_
  · rintro i x H H' hi ⟨s1, d1⟩ ⟨rfl, hx⟩
    rw [List.getElem?_map] at hx
    cases e : ys[i]? with
    | none => rw [e] at hx; cases hx
    | some y =>
      rw [e] at hx
      obtain rfl := Option.some.inj hx
      have et : (ys.take (i + 1)).filter p = (ys.take i).filter p ++ (if p y = true then [y] else []) := by
        rw [List.take_add_one, e, List.filter_append]
        show _ ++ [y].filter p = _
        rw [List.filter_cons]
        split <;> rfl
      refine ⟨hw _, test i y _ _ e s1 fun H3 s3 => ?_⟩
      by_cases hp : p y = true
      · rw [if_pos hp]
        refine turn i y _ _ e hp (s1.trans s3) fun H4 s4 => ⟨_, s4 _ _ (s3 _ _ d1), ?_, ?_, ?_⟩
        · have h1 := List.length_filter_le p (ys.take i)
          have h2 := List.length_take_le i ys
          rw [List.length_map]
          have h3 : (ys.take i).length < ys.length := by
            have := (List.getElem?_eq_some_iff.mp e).1
            rw [List.length_take]; omega
          omega
        · exact fun b o z => by
            have nb : b ≠ D := ne_of_none z hD
            rw [upd_ne nb]
            exact s4 _ _ (s3 _ _ (s1 _ _ z))
        · rw [upd_same, et, if_pos hp, List.map_append]
          rfl
      · rw [if_neg hp]
        refine ⟨s1.trans s3, ?_⟩
        rw [et, if_neg hp, List.append_nil]
        exact s3 _ _ d1
  · rintro H ⟨s1, d1⟩
    subst hn
    rw [List.take_length] at d1
    exact hd H s1 d1
/-- [e for x in xs], each item a new object -/
theorem lc_n {R : Hp → α → Addr → Prop} (w : Walk J n G (YAt (ys.map c))) (hn : n = ys.length) (hD : H1 D = none) (hG : ∀ H', Same H1 H' → G H') (hz : ys.length ≤ sizeLine)
    (hR : ∀ H H' y a, R H y a → a ≠ D → (∀ b o, b ≠ D → H b = some o → H' b = some o) → R H' y a)
    (turn : ∀ (i : Nat) (y : α) (H' : Hp) (k : VK), ys[i]? = some y → Same H1 H' → (∀ H4 a, Same H' H4 → H' a = none → R H4 y a → k (.ref a) H4) → te ((wipe σ vs).set j (some (c y))) H' k)
    (hd : ∀ (H' : Hp) (as : List Addr), Same H1 H' → H' D = some (.lst (as.map V.ref)) → as.length = ys.length → (∀ (i : Nat) a y, as[i]? = some a → ys[i]? = some y → R H' y a ∧ a ≠ D ∧ H1 a = none) → Qd H') (hw : ∀ v, wipe ((wipe σ vs).set j (some v)) vs = wipe σ vs := by intro _; rfl) :
    ∃ W : Nat → Nat → Hp → Prop, (∃ m, W 0 m (upd H1 D (.lst []))) ∧ ∀ i m H, W i m H →
      (J.stop i H ∧ Qd H) ∨ (J.go i H ∧ ∃ Nx : Hp → Prop, (∀ H', Nx H' → ∃ m', m' < m ∧ W (i + 1) m' H') ∧ ∀ x H', J.yld i H x H' → gName j x (wipe σ vs) H' fun σ2 H2 => wipe σ2 vs = wipe σ vs ∧ tYes σ2 H2 fun b H3 =>
        if b = true then te σ2 H3 fun y H4 => ∃ acc, H4 D = some (.lst acc) ∧ acc.length < sizeLine ∧ Nx (upd H4 D (.lst (acc ++ [y]))) else Nx H3) := by
  refine lc_it w (fun i H' => ∃ as : List Addr, Same H1 H' ∧ H' D = some (.lst (as.map V.ref)) ∧ as.length = (ys.take i).length ∧ ∀ (l : Nat) a y, as[l]? = some a → (ys.take i)[l]? = some y → R H' y a ∧ a ≠ D ∧ H1 a = none) ⟨[], Same.new hD, upd_same, rfl, fun l a y z => (nomatch z)⟩ (fun i H' _ ⟨_, z, _⟩ => hG H' z) ?_ ?_
  · rintro i x H H' hi ⟨as, s1, d1, l1, r1⟩ ⟨rfl, hx⟩
    rw [List.getElem?_map] at hx
    cases e : ys[i]? with
    | none => rw [e] at hx; cases hx
    | some y =>
      rw [e] at hx
      obtain rfl := Option.some.inj hx
      have hil := (List.getElem?_eq_some_iff.mp e).1
      have ti : (ys.take i).length = i := by rw [List.length_take]; omega
      refine ⟨hw _, yes_ite (turn i y _ _ e s1 fun H4 a s4 na ra => ⟨_, s4 _ _ d1, ?_, as ++ [a], ?_, ?_, ?_, ?_⟩)⟩
      · rw [List.length_map, l1, ti]; omega
      · exact fun b o z => by
          have nb : b ≠ D := ne_of_none z hD
          rw [upd_ne nb]
          exact s4 _ _ (s1 _ _ z)
      · rw [upd_same, List.map_append]
        rfl
      · rw [List.length_append, l1, ti, List.length_take]; simp; omega
      · have naD : a ≠ D := fun e => by rw [e, d1] at na; cases na
        have k4 : ∀ b o, b ≠ D → H4 b = some o → upd H4 D (.lst (as.map V.ref ++ [V.ref a])) b = some o := fun b o nb z => by rw [upd_ne nb]; exact z
        intro l b z hb hz
        have et : ys.take (i + 1) = ys.take i ++ [y] := by rw [List.take_add_one, e]; rfl
        rw [et] at hz
        rcases Nat.lt_trichotomy l i with hl | hl | hl
        · rw [List.getElem?_append_left (by omega)] at hb hz
          obtain ⟨q1, q2, q3⟩ := r1 l b z hb hz
          refine ⟨hR _ _ _ _ q1 q2 fun c o nc h => k4 _ _ nc (s4 _ _ h), q2, q3⟩
        · subst hl
          rw [List.getElem?_append_right (by omega), l1, ti, Nat.sub_self] at hb
          rw [List.getElem?_append_right (by omega), ti, Nat.sub_self] at hz
          cases Option.some.inj hb
          cases Option.some.inj hz
          refine ⟨hR _ _ _ _ ra naD k4, naD, ?_⟩
          cases e1 : H1 a with
          | none => rfl
          | some o => rw [s1 _ _ e1] at na; cases na
        · rw [List.getElem?_eq_none (by rw [List.length_append, l1, ti]; simp; omega)] at hb
          cases hb
  · rintro H ⟨as, s1, d1, l1, r1⟩
    subst hn
    rw [List.take_length] at l1 r1
    exact hd H as s1 d1 l1 r1
end
/-- over a dict's keys, by their texts -/
theorem walk_kT {β : Type} {g : β → V} {l : List (PySem.Str × β)} {d : Addr} {o : Obj} : Walk (Itk d o (kvT g l)) (keysT l).length (fun H => H d = some (.frz o (.dK (kvT g l)))) (YAt ((keysT l).map V.str)) := by
  have e : (kvT g l).length = (keysT l).length := by unfold kvT keysT; rw [List.length_map, List.length_map]
  rw [← e]
  refine walk_keys.mono (fun _ h => h) ?_
  rintro i H x H' hi _ ⟨rfl, k, v, hk, rfl⟩
  refine ⟨rfl, ?_⟩
  unfold kvT at hk
  rw [List.getElem?_map] at hk
  unfold keysT
  rw [List.getElem?_map, List.getElem?_map]
  cases e2 : l[i]? with
  | none => rw [e2] at hk; cases hk
  | some z =>
    rw [e2] at hk
    cases Option.some.inj hk
    rfl
theorem walk_rng {lo : Int} {n : Nat} : Walk (Itr lo n) n (fun _ => True) (YAt ((List.range n).map fun i => V.int (lo + (i : Nat)))) := by
  refine walk_range.mono (fun _ h => h) ?_
  rintro i H x H' hi _ ⟨rfl, rfl⟩
  refine ⟨rfl, ?_⟩
  rw [List.getElem?_map, List.getElem?_range hi]
  rfl
theorem map_bl (p : α → Bool) (l : List α) : l.map (fun x => V.bl (p x)) = (l.map p).map V.bl := by rw [List.map_map]; rfl
theorem all_map_id {α : Type} (p : α → Bool) (l : List α) : (l.map p).all id = l.all p := by rw [List.all_map]; rfl
theorem any_map_id {α : Type} (p : α → Bool) (l : List α) : (l.map p).any id = l.any p := by rw [List.any_map]; rfl
end Mc
namespace Mc
open PySem L2 PySem.Spec PyProof.Rows FbM
/-! ### sorted(d, key=o.m), d a dict with text keys, m a method that gives an int and the key -/
/-- a method that is taken as a value -/
def CalB (P : Program) (w : World) (K : PySem.W.Frag) (mg : PySem.Str → Option Value) (base : Heap) (C : Addr) (k : Nat) (m : PySem.Str) (ps : List PySem.Str) (sp : Sp) : Prop :=
  ∃ (f : Addr) (fd : FuncData), BMeth K C m f ∧ Binds K fd ps [] ∧ FnOk P w K mg base CX0 k f fd ps sp
def kdM (kf : PySem.Str → Int) (x : PySem.Str) : PyData := .tuple [.int (kf x), .str x]
/-- what is asked of the method at each key -/
def RankOk (sp : Sp) (o : Addr) (kf : PySem.Str → Int) (ks : List PySem.Str) (H : Hp) : Prop :=
  ∀ x ∈ ks, ∀ H', Same H H' → sp [.ref o, .str x] H' (fun v H2 => ∃ p, v = .ref p ∧ H' p = none ∧ H2 = upd H' p (.tup [.int (kf x), .str x])) E0
/-- the heap with the object at k thrown away: the records behind a call of ours -/
def rid (h : Heap) (k : Addr) : Heap := h.update k fun _ => { cls := .none, data := .freed }
theorem rid_none {h : Heap} {k : Addr} : (rid h k).get? k = none := by
  by_cases hk : k < h.objs.size
  · unfold rid Heap.get?
    rw [Heap.objs_update_self, Array.getElem?_eq_getElem hk]
    rfl
  · refine Heap.get?_none_of_le ?_
    unfold rid
    rw [Heap.size_update]
    exact Nat.le_of_not_lt hk
theorem rid_ne {h : Heap} {k b : Addr} (n : b ≠ k) : (rid h k).get? b = h.get? b := Heap.get?_update_ne _ _ _ _ n
section
variable {X : Cx} {pins : List (Addr × Obj)} {σ : L2.St} {H : Hp} {s : Shared} {k : Nat} {g o q a kS : Addr} {fd : FuncData} {ps : List PySem.Str} {sp : Sp} {kf : PySem.Str → Int} {ks : List PySem.Str} {vs : List Value} {A : Around} {E : Value → Shared → Prop} {e1 : Nat} {P : PySem.Fin → Shared → Prop}
theorem tup_reads {h : Heap} {p : Addr} {H : Hp} {n : Int} {x : PySem.Str} (hok : HOk X.prog X.w H h) (e : H p = some (.tup [.int n, .str x])) : Reads h (.ref p) (.tuple [.int n, .str x]) [] := by
  obtain ⟨_, its, rv, ob, ho, hc, nn, hd⟩ := hok p _ e
  obtain ⟨v1, v2, rfl, r1, r2⟩ := vals2 rv
  obtain ⟨t1, rfl⟩ := r1
  obtain ⟨t2, rfl⟩ := r2
  exact .tuple ho hc hd (.cons (.int _ _) (.cons (.str _ _) .nil))
theorem km_rest (hr : Room k A) (hA : A.frames = some X.stack) (hb : Binds X.K fd ps []) (F : FnOk X.prog X.w X.K X.mg X.base CX0 k g fd ps sp) (I : Inv X pins σ H s) (hq : H q = some (.met g o)) (ra : Rec X pins a) (rk : Rec X pins kS) (na : H a = none) (nk : H kS = none)
    (hka : kS ≠ a) (ek : s.heap.get? kS = some (seqObj "list" #[] 0)) (ea : s.heap.get? a = some (seqObj "list" #[] e1)) (hv : StrsAre vs ks) (h64 : ks.length < 64) (turn : RankOk sp o kf ks H)
    (done : ∀ s' H' out c, Inv X pins σ H' s' → Same H H' → H' a = none → s'.heap.get? a = some (seqObj "list" (List.toArray out) c) → PySem.W.KeyedOut false (ks.map (kdM kf)) vs out → P (.done (.ret .none)) s') :
    wpAny (model X.prog X.w) A (ksk_rest a (.ref q) false vs.toArray e1 (.ref kS)) P E s := by
  have hlen : vs.length = ks.length := hv.len_eq
  have h16 : vs.length ≤ sizeLine := by rw [hlen, sizeLine_eq]; omega
  unfold ksk_rest
  refine wpAny_bind (wpAny_rule ?_)
  rw [List.forIn_toArray]
  refine wpAny_bind (ksk_fold (fun i s' => ∃ H' kA e, Inv X pins σ H' s' ∧ Same H H' ∧ H' a = none ∧ H' kS = none ∧ s'.heap.get? kS = some (seqObj "list" kA e) ∧ s'.heap.get? a = some (seqObj "list" #[] e1) ∧
    PySem.W.EachIs (fun v x => ∃ p, v = Value.ref p ∧ H' p = some (.tup [.int (kf x), .str x])) kA.toList (ks.take i)) vs 0 s ⟨H, #[], 0, I, fun _ _ h => h, na, nk, ek, ea, by rw [List.take_zero]; exact PySem.W.EachIs.nil⟩ ?step ?done)
  case step =>
    rintro j x s' hx ⟨H', kA, e, I', sm, na', nk', ek', ea', hk⟩
    rw [Nat.zero_add] at hk ⊢
    obtain ⟨y, t, rfl, hy⟩ := hv.item j x hx
    have hz : kA.size ≤ ks.length := by
      have h1 := hk.length
      rw [Array.length_toList, List.length_take] at h1
      omega
    have h64' : kA.size < 64 := by omega
    have em := sm q _ hq
    have e0 := I'.env0
    have e1' : Env0 X.prog X.w X.K X.mg X.base A X.stack s' H' := ⟨hA, e0.mod, e0.bs, e0.bsz, e0.funs, e0.frf, e0.hok, e0.bare⟩
    have D := turn y (List.mem_of_getElem? hy) H' sm
    have hl2 : ([Value.ref o, .str y t] ++ []).length = ps.length := F.len _ _ _ _ D
    have bt := hb s' [Value.ref o, .str y t] I'.kIn hl2
    rw [List.append_nil] at bt
    refine wpAny_bind (wpAny_attempt ?_)
    refine wpAny_call (PySem.W.method_call (I'.hok q _ em) (codeAny_mono (F.run A X.stack s' H' ⟨[.ref o, .str y t], []⟩ _ [.ref o, .str y] _ E0 hr e1' bt (.cons rfl (.cons ⟨t, rfl⟩ .nil)) D) fun rr s2 hrr => ?_))
    cases rr with
    | error er => exact False.elim hrr
    | ok fl =>
      cases fl with
      | next => exact False.elim hrr
      | brk => exact False.elim hrr
      | cont => exact False.elim hrr
      | ret v =>
        obtain ⟨v', H2, os, bare, un, hok, rv', p, ev, hp, eH⟩ := (show CE X.stack X.prog X.w H' s' _ v s2 from hrr)
        subst ev
        cases rv'
        have I2 : Inv X pins σ H2 s2 := I'.call' os un hok bare (fun b z => absurd z List.not_mem_nil)
        have sm2 : Same H' H2 := fun b u e => by
          rw [eH, upd_ne (ne_of_none e hp)]
          exact e
        have keep : ∀ {b : Addr} {ob : Obj}, Rec X pins b → H' b = none → s'.heap.get? b = some ob → s2.heap.get? b = some ob := fun rb ub eb => un.keep _ _ eb ub rb.fr List.not_mem_nil
        have fr2 : ∀ {b : Addr} {ob : Obj}, H' b = none → s'.heap.get? b = some ob → H2 b = none := fun ub eb => un.free _ _ eb ub List.not_mem_nil
        have nk2 := keep rk nk' ek'
        have na2 := keep ra na' ea'
        have uk2 := fr2 nk' ek'
        have ua2 := fr2 na' ea'
        try dsimp only
        obtain ⟨h2, g2, d2, t2, o2⟩ := s2
        obtain ⟨c2, hc2⟩ : ∃ c2, (h2.update kS (Obj.mapSeq (·.push (.ref p)))).get? kS = some (seqObj "list" (kA.push (.ref p)) c2) := ⟨_, get?_update_seq nk2 (·.push (.ref p))⟩
        have sb : Heap.SameBut kS h2 (h2.update kS (Obj.mapSeq (·.push (.ref p)))) := Heap.SameBut.update ..
        refine wpAny_bind (listUpdate_at nk2 rfl ?_ (by rw [sizeLine_eq]; omega) (by rw [Array.size_push, sizeLine_eq]; omega))
        refine wpAny_pure ⟨rfl, H2, kA.push (.ref p), c2, rk.turn (t' := t2) I2 uk2 fun c ob hc e => sb.extBut c ob hc e, fun b u e => sm2 b u (sm b u e), ua2, uk2, hc2, sb.extBut _ _ hka.symm na2, ?_⟩
        have ek3 : ks.take (j + 1) = ks.take j ++ [y] := by rw [List.take_add_one, hy]; rfl
        have ea3 : (kA.push (Value.ref p)).toList = kA.toList ++ [.ref p] := by simp
        rw [ek3, ea3]
        refine PySem.W.each_snoc ⟨p, rfl, by rw [eH, upd_same]⟩ (hk.mono fun u d z => ?_)
        obtain ⟨p', ep, z⟩ := z
        exact ⟨p', ep, sm2 _ _ z⟩
  case done =>
    rintro s' ⟨H', kA, e, I', sm, na', nk', ek', ea', hk⟩
    have hk' : PySem.W.EachIs (fun v k => ∃ as, Reads s'.heap v k as) kA.toList (ks.map (kdM kf)) := by
      have e3 : ks.take (0 + vs.length) = ks := List.take_of_length_le (by omega)
      rw [e3] at hk
      refine PySem.W.each_map (kdM kf) (hk.mono fun v x z => ?_)
      obtain ⟨p, rfl, z⟩ := z
      exact ⟨[], tup_reads I'.hok z⟩
    have hsz : kA.size = vs.length := by
      have h1 := hk'.length
      rw [Array.length_toList, List.length_map] at h1
      omega
    refine wpAny_bind (listItems_at ek' rfl ?_)
    have hal : PySem.W.AllAlike (ks.map (kdM kf)) := PySem.W.AllAlike.of fun _ _ => by simp [kdM, PySem.W.alike, PySem.W.alikeAll]
    refine PySem.W.keyH_end (κ := PySem.W.dataKind s'.heap (ks.map (kdM kf))) (h₁ := rid s'.heap kS) (b := false) (fun b ob hb z => ?_) rid_none ek' ea' hka (PySem.W.SortsAt.data hk' hal (PySem.W.Sortable.tuples fun _ => ⟨_, _, rfl⟩) ?_) hsz h16 fun h' tk c kp hD => ?_
    · by_cases hbk : b = kS
      · subst hbk
        rw [rid_none] at z
        cases z
      · exact (rid_ne hbk).symm.trans z
    · intro d hd
      obtain ⟨x, _, rfl⟩ := List.mem_map.mp hd
      have h2 : (kdM kf x).depth = 1 := by simp [kdM, PyData.depth, PyData.depthAll]
      have := hr.units
      omega
    · have keep : ∀ b ob, b ≠ a → b ≠ kS → s'.heap.get? b = some ob → h'.get? b = some ob := fun b ob ha hk z => kp b ob ha ((rid_ne hk).trans z)
      have nb : ∀ {b u}, H' b = some u → b ≠ a ∧ b ≠ kS := fun {b u} z => ⟨fun e => (by rw [e, na'] at z; cases z), fun e => (by rw [e, nk'] at z; cases z)⟩
      refine done _ H' (PySem.W.sortVals (PySem.W.dataKind s'.heap (ks.map (kdM kf))) false kA.toList vs) c ?_ sm na' hD ⟨s'.heap, kA.toList, hal, rfl, hk'⟩
      obtain ⟨h1, g1, d1, t1, o1⟩ := s'
      refine I'.call' (ch := [a, kS]) rfl ⟨fun b ob z n _ hx => ?_, fun b ob z n _ hx => ⟨ob.slots, ?_⟩, fun b ob z n hx => n, fun b ob z hx => ⟨ob, ?_⟩, fun b xs z => z, fun b ob u z => z, fun b pz z => ⟨#[], by rw [z]; simp⟩⟩ (fun b u z => ?_) I'.bare fun b hb => ?_
      · exact keep b ob (fun e => hx (by simp [e])) (fun e => hx (by simp [e])) z
      · exact keep b ob (fun e => hx (by simp [e])) (fun e => hx (by simp [e])) z
      · exact keep b ob (fun e => hx (by simp [e])) (fun e => hx (by simp [e])) z
      · refine (I'.hok b u z).stay (fun cc v hc q => ?_) (fun _ q => q) fun _ _ q => q
        rcases hc with e | e
        · rw [e] at q ⊢
          exact keep b v (nb z).1 (nb z).2 q
        · exact keep cc v (nb e).1 (nb e).2 q
      · rcases List.mem_cons.mp hb with e | e
        · subst e
          exact ⟨.inr ra.ge, ra.nl, ra.ce, ra.pn⟩
        · obtain rfl := List.mem_singleton.mp e
          exact ⟨.inr rk.ge, rk.nl, rk.ce, rk.pn⟩
/-- what lies raw is named -/
theorem adopt {ob : HO} (I : Inv X pins σ H s) (ra : Rec X pins a) (na : H a = none) (new : ObjOk X.prog X.w (upd H a ob) s.heap a ob) : Inv X pins σ (upd H a ob) s := by
  have ne : ∀ {b u}, H b = some u → b ≠ a := fun {b u} z e => by rw [e, na] at z; cases z
  refine I.call' (ch := [a]) rfl ⟨fun b u z _ _ _ => z, fun b u z _ _ _ => ⟨u.slots, z⟩, fun b u z n hx => ?_, fun b u z _ => ⟨u, z⟩, fun b xs z => ?_, fun b u v z => ?_, fun b pz z => ⟨#[], ?_⟩⟩ (fun b u z => ?_) I.bare fun b hb => ?_
  · rw [upd_ne fun e => hx (by simp [e])]
    exact n
  · rw [upd_ne (ne z)]
    exact z
  · rw [upd_ne (ne z)]
    exact z
  · rw [upd_ne (ne z), z]
    simp
  · by_cases e : b = a
    · subst e
      rw [upd_same] at z
      cases z
      exact new
    · rw [upd_ne e] at z
      exact (I.hok b u z).stay (fun _ _ _ q => q) (fun c q => by rw [upd_ne (ne q)]; exact q) fun c xs q => by rw [upd_ne (ne q)]; exact q
  · obtain rfl := List.mem_singleton.mp hb
    exact ⟨.inr ra.ge, ra.nl, ra.ce, ra.pn⟩
theorem each_vals : ∀ {vs : List Value} {ys : List PySem.Str}, PySem.W.EachIs (fun v x => ∃ t, v = Value.str x t) vs ys → Vals (ys.map V.str) vs
  | _, _, .nil => .nil
  | _, _, .cons ⟨t, e⟩ r => .cons ⟨t, e⟩ (each_vals r)
theorem each_strs : ∀ {vs : List Value} {ys : List PySem.Str}, StrsAre vs ys → PySem.W.EachIs (fun v x => ∃ t, v = Value.str x t) vs ys
  | _, _, .nil => .nil
  | _, _, .cons y t r => .cons ⟨t, rfl⟩ (each_strs r)
/-- the order of the keys: the less number first, of one number by name -/
def rkLe (kf : PySem.Str → Int) (x y : PySem.Str) : Prop := kf x < kf y ∨ (kf x = kf y ∧ ¬ ltN y x)
theorem kdM_le {x y : PySem.Str} : PySem.W.dataLe false (kdM kf) x y = true ↔ rkLe kf x y := by
  show (!PySem.W.dataLt (kdM kf y) (kdM kf x)) = true ↔ _
  unfold kdM
  rw [PySem.W.dataLt_pair (by simp [PySem.W.alike]) (by simp [PySem.W.alike]), PySem.W.dataLt_int, PySem.W.dataLt_str]
  unfold rkLe ltN
  simp only [PyData.eqv, beq_iff_eq]
  by_cases h1 : kf y = kf x
  · rw [if_pos h1]
    by_cases h2 : y = x
    · subst h2
      simp
    · simp [h2, h1]
  · rw [if_neg h1]
    have : ¬ kf x = kf y := fun z => h1 z.symm
    simp only [Bool.not_eq_true', decide_eq_false_iff_not, this, false_and, or_false]
    omega
theorem kdM_sorted (ks : List PySem.Str) : (ks.mergeSort (PySem.W.dataLe false (kdM kf))).Pairwise (rkLe kf) := by
  refine List.Pairwise.imp (fun {a b} z => kdM_le.mp z) (List.pairwise_mergeSort (fun a b c h1 h2 => ?_) (fun a b => ?_) ks)
  · rw [kdM_le] at *
    unfold rkLe ltN at *
    rcases h1 with h1 | ⟨h1, h1'⟩ <;> rcases h2 with h2 | ⟨h2, h2'⟩
    · exact .inl (by omega)
    · exact .inl (by omega)
    · exact .inl (by omega)
    · exact .inr ⟨by omega, List.not_lt.mpr (List.le_trans (List.not_lt.mp h1') (List.not_lt.mp h2'))⟩
  · rw [Bool.or_eq_true, kdM_le, kdM_le]
    unfold rkLe ltN
    by_cases e : kf a = kf b
    · rcases List.le_total a.cps.toList b.cps.toList with h | h
      · exact .inl (.inr ⟨e, List.not_lt.mpr h⟩)
      · exact .inr (.inr ⟨e.symm, List.not_lt.mpr h⟩)
    · omega
theorem sortedKM (hcalm : X.calm = true) (hr : Room k X.A.in1.in1) (hb : Binds X.K fd ps []) (F : FnOk X.prog X.w X.K X.mg X.base CX0 k g fd ps sp) {d : Addr} {kvs : List (Key × V)} {Q : VK} (I : Inv X pins σ H s) (hd : Rd H d (.dK kvs)) (hks : kvs.map (·.1) = ks.map Sum.inr) (h64 : ks.length < 64)
    (hq : H q = some (.met g o)) (turn : RankOk sp o kf ks H) (fin : ∀ (ys : List PySem.Str) p H', Same H H' → ys.Perm ks → ys.Pairwise (rkLe kf) → H' p = none → Q (.ref p) (upd H' p (.lst (ys.map V.str)))) :
    wpAny (model X.prog X.w) X.A (call (.builtin "sorted") [.ref d] [(PySem.Str.ofString "key", .ref q)]) (EP X pins σ Q) X.xe s := by
  obtain ⟨z, lo, vs, rel, dd⟩ := dk_rd I.hok hd
  obtain ⟨ep, hat⟩ := dd.dictAt
  have hkeys : vs.map (·.1) = ks.map Sum.inr := rel.keys.symm.trans hks
  have hl : vs.length = ks.length := by
    have e := congrArg List.length hkeys
    rw [List.length_map, List.length_map] at e
    exact e
  have h16 : vs.length ≤ sizeLine := by rw [hl, sizeLine_eq]; omega
  refine call_function_entry_kw kind_sorted plain_sorted entry_sorted (ksk_s1 _ _) ?_
  unfold Builtin.«sorted»
  refine wpAny_bind (m := checkCount "sorted" 1 1 _) (wpAny_pure ?_)
  refine wpAny_bind (PySem.W.kdu_collect (A := X.A.in1) (PySem.W.kdl_dict (knd := mixKind X.prog X.w) (kvs := vs) (ep := ep) lo) (I.ok.hd hcalm) hat h16 fun h1 tk acc hk hacc => ?_)
  have hal : acc.toList.length = ks.length := by rw [Array.length_toList, hacc.1, hl]
  have hS : StrsAre acc.toList ks := strs_at hal fun j v e => by
    obtain ⟨kx, x, w1, w2⟩ := hacc.2 j v (by rw [← Array.getElem?_toList]; exact e)
    have w3 : (vs.map (·.1))[j]? = some kx := by rw [List.getElem?_map, w1]; all_goals rfl
    rw [hkeys, List.getElem?_map] at w3
    cases w4 : ks[j]? with
    | none => rw [w4] at w3; cases w3
    | some y =>
      rw [w4] at w3
      obtain rfl : Sum.inr y = kx := Option.some.inj w3
      obtain ⟨t, ev⟩ := Value.isStrOf_shape (x := y) (v := v) w2
      exact ⟨y, t, rfl, ev⟩
  have I1 : Inv X pins σ H { s with heap := h1, toks := tk } := I.kept hk
  refine wpAny_bind (wpAny_newList ?_ (by rw [hal, sizeLine_eq]; omega))
  have hoL : (h1.push (seqObj "list" acc.toList.toArray 0)).get? h1.objs.size = some (seqObj "list" acc.toList.toArray 0) := Heap.get?_push_size _ rfl
  have I2 : Inv X pins σ H { s with heap := h1.push (seqObj "list" acc.toList.toArray 0), toks := tk } := I1.kept (t' := tk) fun b u e => Heap.get?_push_of_some _ e
  have ra : Rec X pins h1.objs.size := rec_new I1 (Nat.le_refl _)
  have na : H h1.objs.size = none := I1.hok.fresh (Nat.le_refl _)
  show wpAny _ _ _ _ _ { s with heap := h1.push (seqObj "list" acc.toList.toArray 0), toks := tk }
  refine wpAny_bind (wpAny_holding (wpAny_call_entry_kw slot_list_sort ⟨_, hoL, rfl⟩ entry_list_sort ?body (ksk_l1 _ _)))
  case body =>
    rw [ksk_t1]
    unfold ksk_tree
    refine wpAny_bind (listItems_at hoL rfl ?_)
    have hz : acc.toList.toArray.size ≤ sizeLine := by rw [List.size_toArray, hal, sizeLine_eq]; omega
    refine wpAny_bind (listUpdate_at hoL rfl ?_ hz (Nat.zero_le _))
    obtain ⟨e1, ho1⟩ : ∃ e1, ((h1.push (seqObj "list" acc.toList.toArray 0)).update h1.objs.size (Obj.mapSeq fun _ => (#[] : Array Value))).get? h1.objs.size = some (seqObj "list" #[] e1) := ⟨_, get?_update_seq hoL fun _ => #[]⟩
    refine wpAny_bind (seqEpoch_at ho1 rfl ?_)
    refine wpAny_bind (wpAny_newTuple ?_ (by show acc.toList.length ≤ _; rw [hal, sizeLine_eq]; omega))
    refine wpAny_bind (wpAny_newList ?_ (Nat.zero_le _))
    refine wpAny_holding ?_
    have sb : Heap.SameBut h1.objs.size (h1.push (seqObj "list" acc.toList.toArray 0)) ((h1.push (seqObj "list" acc.toList.toArray 0)).update h1.objs.size (Obj.mapSeq fun _ => (#[] : Array Value))) := Heap.SameBut.update ..
    have I3 := ra.turn (t' := tk) I2 na fun c ob hc e => sb.extBut c ob hc e
    have I4 := I3.kept (t' := tk) fun b u e => Heap.get?_push_of_some (seqObj "tuple" acc.toList.toArray 0) e
    have I5 := I4.kept (t' := tk) fun b u e => Heap.get?_push_of_some (seqObj "list" #[] 0) e
    have lt1 : h1.objs.size < (((h1.push (seqObj "list" acc.toList.toArray 0)).update h1.objs.size (Obj.mapSeq fun _ => (#[] : Array Value))).push (seqObj "tuple" acc.toList.toArray 0)).objs.size := by
      rw [size_push', Heap.size_update, size_push']
      omega
    refine km_rest (fd := fd) (ps := ps) (sp := sp) (k := k) (g := g) (o := o) (kf := kf) (ks := ks) hr I.ok.frames hb F I5 hq ra (rec_new I4 (Nat.le_refl _)) na (I4.hok.fresh (Nat.le_refl _)) (Nat.ne_of_gt lt1) (Heap.get?_push_size _ rfl)
      (Heap.get?_push_of_some _ (Heap.get?_push_of_some _ ho1)) hS h64 turn fun s' H' out c J sm na' hD ko => ?_
    have eo := PySem.W.keyedOut_each (kdM kf) ko (each_strs hS)
    have pm := List.mergeSort_perm ks (PySem.W.dataLe false (kdM kf))
    have hlo : (ks.mergeSort (PySem.W.dataLe false (kdM kf))).length ≤ sizeLine := by rw [pm.length_eq, sizeLine_eq]; omega
    refine ⟨_, rfl, wpAny_pure ⟨_, rfl, .ref h1.objs.size, upd H' h1.objs.size (.lst ((ks.mergeSort (PySem.W.dataLe false (kdM kf))).map V.str)), adopt J ra na' ⟨?_, out, c, each_vals eo, hD⟩, rfl, fin _ _ H' sm pm (kdM_sorted ks) na'⟩⟩
    rw [List.length_map]
    exact hlo
end
/-- sorted(e, key=o.m) -/
def tSrtM (C : Addr) (m : PySem.Str) (sp : Sp) (ta to : TE) : TE := fun σ H Q => ta σ H fun x H1 => to σ H1 fun y H2 => ∃ (d a dx : Addr) (kvs : List (Key × V)) (fs : List (PySem.Str × V)) (ks : List PySem.Str) (kf : PySem.Str → Int), x = .ref d ∧ y = .ref a ∧ H2 a = some (.ins C dx fs) ∧ fs.lookup m = none ∧
  Rd H2 d (.dK kvs) ∧ kvs.map (·.1) = ks.map Sum.inr ∧ ks.length < 64 ∧ RankOk sp a kf ks H2 ∧ ∀ (ys : List PySem.Str) p H', Same H2 H' → ys.Perm ks → ys.Pairwise (rkLe kf) → H' p = none → Q (.ref p) (upd H' p (.lst (ys.map V.str)))
section
variable {X : Cx} {k : Nat} {C : Addr} {m : PySem.Str} {ps : List PySem.Str} {sp : Sp} {e o : Expr} {ta to : TE} {p pos apos kpos : Pos}
theorem pe_srtM (hcalm : X.calm = true) (cl : Cls X.K C) (c : CalB X.prog X.w X.K X.mg X.base C k m ps sp) (hr : Room (k + 2) X.A) (hg : Gl X "sorted") (hm : X.mg "sorted" = none) (he : PE X e ta) (ho : PE X o to)
    (hs1 : starEach [e] X.env = (false, eval e X.env) :: starEach [] X.env := by rfl) (hb : attributeBase o m X.env (eval o X.env) = eval o X.env := by rfl)
    (hst : backTo pos (starEach [e] X.env) = (false, eval e X.env) :: backTo pos (starEach [] X.env) := by rfl) (hpl : (backTo pos (starEach [e] X.env)).any (·.1) = false := by rfl)
    (hall : (backToKw pos (keywordEach [⟨some "key", .Attribute o m apos, kpos⟩] X.env)).all (·.1.isSome) = true := by rfl) (hno : (backToKw pos (keywordEach [⟨some "key", .Attribute o m apos, kpos⟩] X.env)).any (·.1.isNone) = false := by rfl)
    (hks : (backToKw pos (keywordEach [⟨some "key", .Attribute o m apos, kpos⟩] X.env)).filterMap (·.1) = [PySem.Str.ofString "key"] := by rfl) :
    PE X (.Call (.Name "sorted" p) [e] [⟨some "key", .Attribute o m apos, kpos⟩] pos) (tSrtM C m sp ta to) := by
  obtain ⟨g, fd, B, hbd, F⟩ := c
  have rule : CallRK X (.builtin "sorted") [PySem.Str.ofString "key"] (fun vs zs H Q => ∃ (d q a : Addr) (kvs : List (Key × V)) (ks : List PySem.Str) (kf : PySem.Str → Int), vs = [.ref d] ∧ zs = [.ref q] ∧ H q = some (.met g a) ∧
      Rd H d (.dK kvs) ∧ kvs.map (·.1) = ks.map Sum.inr ∧ ks.length < 64 ∧ RankOk sp a kf ks H ∧ ∀ (ys : List PySem.Str) p H', Same H H' → ys.Perm ks → ys.Pairwise (rkLe kf) → H' p = none → Q (.ref p) (upd H' p (.lst (ys.map V.str)))) := by
    intro pins s σ H vs zs us ws Q I r rz h
    obtain ⟨d, q, a, kvs, ks, kf, rfl, rfl, hq, hd, hk, h64, tu, fin⟩ := h
    obtain rfl := Vals.ref1 r
    obtain rfl := Vals.ref1 rz
    exact sortedKM hcalm hr.in1.in1 hbd F I hd hk h64 hq tu fin
  refine ⟨fun pins s σ H Q I h => ?_⟩
  refine wpAny_Call_Name_kw (ld_blt I hg hm rfl ?_ (by decide) (by decide))
  show wpAny _ _ (callWith pos (.builtin "sorted") [] _ _) _ _ _
  refine callWith_kw (thn ((pa_cons he pa_nil hs1).run pos pins s σ H (fun vs H1 => match vs with
    | [x] => to σ H1 fun y H2 => ∃ (d a dx : Addr) (kvs : List (Key × V)) (fs : List (PySem.Str × V)) (ks : List PySem.Str) (kf : PySem.Str → Int), x = .ref d ∧ y = .ref a ∧ H2 a = some (.ins C dx fs) ∧ fs.lookup m = none ∧ Rd H2 d (.dK kvs) ∧ kvs.map (·.1) = ks.map Sum.inr ∧
        ks.length < 64 ∧ RankOk sp a kf ks H2 ∧ ∀ (ys : List PySem.Str) p H', Same H2 H' → ys.Perm ks → ys.Pairwise (rkLe kf) → H' p = none → Q (.ref p) (upd H' p (.lst (ys.map V.str)))
    | _ => False) I h) fun us s1 hu => ?_) hst hpl hall hno
  obtain ⟨vs, H1, I1, r1, q1⟩ := hu
  match vs, q1 with
  | [x], q1 =>
    refine wpAny_evalAll_cons (wpAny_bind (attr_of hb (thn (ho.run pins s1 σ H1 _ I1 q1) fun u s2 hu => ?_)))
    obtain ⟨y, H2, I2, r2, d, a, dx, kvs, fs, ks, kf, rfl, rfl, ea, l, hd, hk, h64, tu, fin⟩ := hu
    cases r2
    refine getbound_ok I2 ea cl B l fun q s3 hq I3 => wpAny_bind (wpAny_standAt (wpAny_pure ?_))
    refine wpAny_evalAll_nil ?_
    rw [hks]
    obtain rfl := Vals.ref1 r1
    have sm : Same H2 (upd H2 q (.met g a)) := fun b u e => by rw [upd_ne (ne_of_none e hq)]; exact e
    exact sortedKM hcalm hr.in1.in1 hbd F I3 (hd.elim (fun z => .inl (sm _ _ z)) fun ⟨ob, z⟩ => .inr ⟨ob, sm _ _ z⟩) hk h64 upd_same (fun x hx H' k => tu x hx H' fun b u e => k b u (sm b u e)) fun ys p H' k => fin ys p H' fun b u e => k b u (sm b u e)
end
end Mc
namespace Mc
open PySem L2 PySem.Spec PyProof.Rows
/-! < and <= of pairs (a number, a text) -/
section
variable {X : Cx}
def rPair (R : (PySem.Str → Int) → PySem.Str → PySem.Str → Prop) : R2 := fun x y H Q => ∃ (a b : Addr) (kf : PySem.Str → Int) (s t : PySem.Str), x = .ref a ∧ y = .ref b ∧ H a = some (.tup [.int (kf s), .str s]) ∧ H b = some (.tup [.int (kf t), .str t]) ∧ ∀ v : Bool, (v = true ↔ R kf s t) → Q (.bl v) H
theorem kdM_alike (kf : PySem.Str → Int) (s t : PySem.Str) : PySem.W.alike (kdM kf s) (kdM kf t) = true := by simp [kdM, PySem.W.alike, PySem.W.alikeAll]
theorem kdM_depth (kf : PySem.Str → Int) (s : PySem.Str) : (kdM kf s).depth = 1 := by simp [kdM, PyData.depth, PyData.depthAll]
theorem op_leP (hu : X.A.units + 1 < cLine) : OpR X (compareOp .LtE) (rPair rkLe) := by
  intro pins s σ H x y v u Q I rx ry h
  obtain ⟨a, b, kf, p, q, rfl, rfl, ha, hb, k⟩ := h
  cases rx
  cases ry
  refine PySem.W.le_data (tup_reads I.hok ha) (tup_reads I.hok hb) (kdM_alike kf p q) (by intro e; cases e) (by rw [show PyData.depth (.tuple [.int (kf p), .str p]) = 1 from kdM_depth kf p, show PyData.depth (.tuple [.int (kf q), .str q]) = 1 from kdM_depth kf q]; exact hu) ?_
  exact ⟨.bl _, H, I, rfl, k _ kdM_le⟩
theorem op_ltP (hu : X.A.units + 1 < cLine) : OpR X (compareOp .Lt) (rPair fun kf s t => ¬ rkLe kf t s) := by
  intro pins s σ H x y v u Q I rx ry h
  obtain ⟨a, b, kf, p, q, rfl, rfl, ha, hb, k⟩ := h
  cases rx
  cases ry
  refine PySem.W.lt_data (tup_reads I.hok ha) (tup_reads I.hok hb) (kdM_alike kf p q) (by intro e; cases e) (by rw [show PyData.depth (.tuple [.int (kf p), .str p]) = 1 from kdM_depth kf p, show PyData.depth (.tuple [.int (kf q), .str q]) = 1 from kdM_depth kf q]; exact hu) ?_
  refine ⟨.bl _, H, I, rfl, k _ ?_⟩
  have e : (!PySem.W.dataLt (kdM kf p) (kdM kf q)) = true ↔ rkLe kf q p := kdM_le
  show PySem.W.dataLt (kdM kf p) (kdM kf q) = true ↔ ¬ rkLe kf q p
  rw [← e]
  cases PySem.W.dataLt (kdM kf p) (kdM kf q) <;> simp
end
end Mc
namespace Mc
open PySem L2 PySem.Spec PyProof.Rows Evl
/-! ### what evaluates to what, further: fields, dicts, calls, comprehensions -/
theorem has_T {β : Type} {f : β → V} {l : List (PySem.Str × β)} {k : PySem.Str} : (valV (kvT f l) (Sum.inr k)).isSome = decide (k ∈ keysT l) := by
  cases e : getT l k with
  | none =>
    have h1 := getT_none.mp e
    have h2 : valV (kvT f l) (Sum.inr k) = none := by rw [val_T, e]; rfl
    rw [h2, decide_eq_false h1]
    rfl
  | some v =>
    have h1 : k ∈ keysT l := List.mem_map.mpr ⟨_, getT_in e, rfl⟩
    have h2 : valV (kvT f l) (Sum.inr k) = some (f v) := by rw [val_T, e]; rfl
    rw [h2, decide_eq_true h1]
    rfl
theorem dgetK {H : Hp} {a : Addr} {kvs : List (L2.Key × V)} {x : PySem.Str} (e : Rd H a (.dK kvs)) : DGet H a (.str x) (valV kvs (Sum.inr x)) := .inl ⟨kvs, Sum.inr x, e, rfl, rfl⟩
instance (f : PySem.Str → Int) (x y : PySem.Str) : Decidable (rkLe f x y) := by unfold rkLe ltN; exact inferInstance
theorem inV_str {x : PySem.Str} {xs : List PySem.Str} : inV (.str x) (xs.map V.str) = decide (x ∈ xs) := by
  unfold inV
  induction xs with
  | nil => rfl
  | cons y ys ih =>
    rw [List.map_cons, List.any_cons, ih]
    by_cases e : x = y
    · subst e
      have : eqV (V.str x) (V.str x) = true := by simp [eqV]
      simp [this]
    · have : eqV (V.str y) (V.str x) = false := by
        simp [eqV]
        exact fun z => e z.symm
      simp [this, e]
theorem flat_strs (xs : List PySem.Str) : (xs.map V.str).all flatV = true := by
  rw [List.all_map, List.all_eq_true]
  exact fun x _ => rfl
section
variable {K : PySem.W.Frag} {σ : L2.St} {H H' : Hp} {ta tb te tx to td ty tl : TE} {t u : TT} {x y z v : V} {r : R2}
theorem EvU.mono {xs : List V} (e : Ex H H') (h : EvU te σ H xs) : EvU te σ H' xs := fun H1 a Q q => h H1 (e.trans a) Q q
theorem ev_fld {p C dx : Addr} {fs : List (PySem.Str × V)} {f : PySem.Str} (h : Ev to σ H (.ref p)) (hp : H p = some (.ins C dx fs)) (c : Cls K C) (n : NoAttr K C f) (l : fs.lookup f = some v) : Ev (tFld K to f) σ H v := fun H1 e Q q =>
  h H1 e _ fun H2 e2 => ⟨p, C, dx, fs, v, rfl, e2 _ _ (e _ _ hp), c, n, l, q H2 e2⟩
theorem ev_dget {β : Type} {f : β → V} {l : List (PySem.Str × β)} {b : β} {d : Addr} {k : PySem.Str} (hd : Ev td σ H (.ref d)) (hk : Ev ty σ H (.str k)) (h : Rd H d (.dK (kvT f l))) (e : getT l k = some b) : Ev (tDGet td ty) σ H (f b) := fun H1 e1 Q q =>
  hd H1 e1 _ fun H2 e2 => hk H2 (e1.trans e2) _ fun H3 e3 => ⟨d, f b, rfl, dgetT (ex_rd ((e1.trans e2).trans e3) h) e, q H3 (e2.trans e3)⟩
theorem ev_din {β : Type} {f : β → V} {l : List (PySem.Str × β)} {d : Addr} {k : PySem.Str} (hk : Ev ty σ H (.str k)) (hd : Ev td σ H (.ref d)) (h : Rd H d (.dK (kvT f l))) : Ev (tDIn ty td) σ H (.bl (decide (k ∈ keysT l))) := fun H1 e1 Q q =>
  hk H1 e1 _ fun H2 e2 => hd H2 (e1.trans e2) _ fun H3 e3 => ⟨d, _, rfl, dgetK (ex_rd ((e1.trans e2).trans e3) h), by rw [has_T]; exact q H3 (e2.trans e3)⟩
theorem ev_dnotin {β : Type} {f : β → V} {l : List (PySem.Str × β)} {d : Addr} {k : PySem.Str} (hk : Ev ty σ H (.str k)) (hd : Ev td σ H (.ref d)) (h : Rd H d (.dK (kvT f l))) : Ev (tDNotIn ty td) σ H (.bl (!decide (k ∈ keysT l))) := fun H1 e1 Q q =>
  hk H1 e1 _ fun H2 e2 => hd H2 (e1.trans e2) _ fun H3 e3 => ⟨d, _, rfl, dgetK (ex_rd ((e1.trans e2).trans e3) h), by rw [has_T]; exact q H3 (e2.trans e3)⟩
theorem isD_rd {d : Addr} {kvs : List (L2.Key × V)} (h : Rd H d (.dK kvs)) : IsD H d := by
  rcases h with h | ⟨o, h⟩
  · first | exact .inl ⟨_, .inl h⟩ | exact ⟨_, .inl h⟩ | exact .inl ⟨kvs, h⟩ | (unfold IsD; exact .inl ⟨_, Rd.of h⟩)
  · first | exact .inl ⟨_, .inr ⟨o, h⟩⟩ | exact ⟨_, .inr ⟨o, h⟩⟩ | (unfold IsD; exact .inl ⟨_, .inr ⟨o, h⟩⟩)
/-- d.get(k, x) -/
theorem ev_get2 {β : Type} {f : β → V} {l : List (PySem.Str × β)} {d : Addr} {k : PySem.Str} (hd : Ev td σ H (.ref d)) (hk : Ev ty σ H (.str k)) (hx : Ev tx σ H z) (h : Rd H d (.dK (kvT f l))) : Ev (tDGet2 td ty tx) σ H (((getT l k).map f).getD z) := fun H1 e1 Q q =>
  hd H1 e1 _ fun H2 e2 => ⟨d, rfl, isD_rd (ex_rd (e1.trans e2) h), hk H2 (e1.trans e2) _ fun H3 e3 => hx H3 ((e1.trans e2).trans e3) _ fun H4 e4 => ⟨_, dgetN (ex_rd (((e1.trans e2).trans e3).trans e4) h), q H4 ((e2.trans e3).trans e4)⟩⟩
theorem ev_all {bs : List Bool} (h : EvL te σ H (bs.map V.bl)) : Ev (tCB (rAll K) (tCons te tNil)) σ H (.bl (bs.all id)) := fun H1 e Q q =>
  h H1 e _ fun p H2 _ e2 h2 => ⟨p, bs, rfl, sq_of h2, q H2 e2⟩
theorem ev_any {bs : List Bool} (h : EvL te σ H (bs.map V.bl)) : Ev (tCB (rAny K) (tCons te tNil)) σ H (.bl (bs.any id)) := fun H1 e Q q =>
  h H1 e _ fun p H2 _ e2 h2 => ⟨p, bs, rfl, sq_of h2, q H2 e2⟩
theorem ev_sum {ns : List Int} (h : EvL te σ H (ns.map V.int)) : Ev (tCB (rSum K) (tCons te tNil)) σ H (.int ns.sum) := fun H1 e Q q =>
  h H1 e _ fun p H2 _ e2 h2 => ⟨p, ns, rfl, sq_of h2, q H2 e2⟩
theorem ev_lenT {p : Addr} {xs : List V} (ha : Ev ta σ H (.ref p)) (h : SqT K H p xs) : Ev (tCB (rLenS K) (tCons ta tNil)) σ H (.int (xs.length : Int)) := fun H1 e Q q =>
  ha H1 e _ fun H2 e2 => ⟨p, xs, rfl, Or.inr (ex_t (e.trans e2) h), q H2 e2⟩
theorem rv_inSL {neg : Bool} {p : Addr} {s : PySem.Str} {xs : List PySem.Str} (h : SqL K H p (xs.map V.str)) : RV (rIn K neg) (.str s) (.ref p) H (.bl (if neg then !decide (s ∈ xs) else decide (s ∈ xs))) := by
  rw [← inV_str]
  exact rv_inL h rfl (flat_strs _)
theorem rv_inST {neg : Bool} {p : Addr} {s : PySem.Str} {xs : List PySem.Str} (h : SqT K H p (xs.map V.str)) : RV (rIn K neg) (.str s) (.ref p) H (.bl (if neg then !decide (s ∈ xs) else decide (s ∈ xs))) := by
  rw [← inV_str]
  exact rv_inT h rfl (flat_strs _)
theorem ev_inSL {p : Addr} {s : PySem.Str} {xs : List PySem.Str} (ha : Ev ta σ H (.str s)) (hb : Ev tb σ H (.ref p)) (h : SqL K H p (xs.map V.str)) : Ev (tOp (rIn K false) ta tb) σ H (.bl (decide (s ∈ xs))) := ev_op ha hb (rv_inSL (neg := false) h)
theorem ev_niSL {p : Addr} {s : PySem.Str} {xs : List PySem.Str} (ha : Ev ta σ H (.str s)) (hb : Ev tb σ H (.ref p)) (h : SqL K H p (xs.map V.str)) : Ev (tOp (rIn K true) ta tb) σ H (.bl (!decide (s ∈ xs))) := ev_op ha hb (rv_inSL (neg := true) h)
theorem ev_inST {p : Addr} {s : PySem.Str} {xs : List PySem.Str} (ha : Ev ta σ H (.str s)) (hb : Ev tb σ H (.ref p)) (h : SqT K H p (xs.map V.str)) : Ev (tOp (rIn K false) ta tb) σ H (.bl (decide (s ∈ xs))) := ev_op ha hb (rv_inST (neg := false) h)
theorem ev_niST {p : Addr} {s : PySem.Str} {xs : List PySem.Str} (ha : Ev ta σ H (.str s)) (hb : Ev tb σ H (.ref p)) (h : SqT K H p (xs.map V.str)) : Ev (tOp (rIn K true) ta tb) σ H (.bl (!decide (s ∈ xs))) := ev_op ha hb (rv_inST (neg := true) h)
theorem ev_eqS {a b : PySem.Str} (ha : Ev ta σ H (.str a)) (hb : Ev tb σ H (.str b)) : Ev (tOp rEq ta tb) σ H (.bl (decide (a = b))) := ev_is (ev_op ha hb (rv_eq rfl)) (by simp)
theorem ev_neS {a b : PySem.Str} (ha : Ev ta σ H (.str a)) (hb : Ev tb σ H (.str b)) : Ev (tOp rNe ta tb) σ H (.bl (!decide (a = b))) := ev_is (ev_op ha hb (rv_ne rfl)) (by simp)
theorem ev_eqB {a b : Bool} (ha : Ev ta σ H (.bl a)) (hb : Ev tb σ H (.bl b)) : Ev (tOp rEq ta tb) σ H (.bl (decide (a = b))) := ev_is (ev_op ha hb (rv_eq rfl)) (by simp)
theorem ev_neB {a b : Bool} (ha : Ev ta σ H (.bl a)) (hb : Ev tb σ H (.bl b)) : Ev (tOp rNe ta tb) σ H (.bl (!decide (a = b))) := ev_is (ev_op ha hb (rv_ne rfl)) (by simp)
theorem ev_eqI {a b : Int} (ha : Ev ta σ H (.int a)) (hb : Ev tb σ H (.int b)) : Ev (tOp rEq ta tb) σ H (.bl (decide (a = b))) := ev_is (ev_op ha hb (rv_eq rfl)) (by simp)
theorem ev_neI {a b : Int} (ha : Ev ta σ H (.int a)) (hb : Ev tb σ H (.int b)) : Ev (tOp rNe ta tb) σ H (.bl (!decide (a = b))) := ev_is (ev_op ha hb (rv_ne rfl)) (by simp)
/-- a method that gives a value and changes nothing that stood -/
theorem ev_meth {p C dx : Addr} {fs : List (PySem.Str × V)} {m : PySem.Str} {sp : Sp} {dvs vs : List V} {E : XK} {tr : TA} (h : Ev to σ H (.ref p)) (hp : H p = some (.ins C dx fs)) (l : fs.lookup m = none) (ha : EvA tr σ H vs) (hs : SpV sp (.ref p :: (vs ++ dvs)) H z) : Ev (tMeth C m sp dvs E to tr) σ H z := fun H1 e Q q =>
  h H1 e _ fun H2 e2 => ⟨p, dx, fs, rfl, e2 _ _ (e _ _ hp), l, ha H2 (e.trans e2) _ fun H3 e3 => hs H3 ((e.trans e2).trans e3) Q (fun H4 e4 => q H4 ((e2.trans e3).trans e4)) E⟩
theorem ev_anyM {α : Type} {ys : List α} {p : α → Bool} (h : EvL te σ H (ys.map fun y => V.bl (p y))) : Ev (tCB (rAny K) (tCons te tNil)) σ H (.bl (ys.any p)) := by
  rw [map_bl] at h
  have := ev_any (K := K) h
  rw [any_map_id] at this
  exact this
theorem ev_allM {α : Type} {ys : List α} {p : α → Bool} (h : EvL te σ H (ys.map fun y => V.bl (p y))) : Ev (tCB (rAll K) (tCons te tNil)) σ H (.bl (ys.all p)) := by
  rw [map_bl] at h
  have := ev_all (K := K) h
  rw [all_map_id] at this
  exact this
theorem ev_sumM {α : Type} {ys : List α} {p : α → Int} (h : EvL te σ H (ys.map fun y => V.int (p y))) : Ev (tCB (rSum K) (tCons te tNil)) σ H (.int (ys.map p).sum) := by
  have e : (ys.map fun y => V.int (p y)) = (ys.map p).map V.int := by rw [List.map_map]; rfl
  rw [e] at h
  exact ev_sum h
/-- the first operand a new tuple -/
theorem ev_op1U {xs : List V} (ha : EvU ta σ H xs) (hb : Ev tb σ H y) (hr : ∀ p H1, H1 p = some (.tup xs) → Ex H H1 → RV r (.ref p) y H1 z) : Ev (tOp r ta tb) σ H z := fun H1 e Q q =>
  ha H1 e _ fun p H2 _ e2 hp => hb H2 (e.trans e2) _ fun H3 e3 => hr p H3 (e3 p _ hp) ((e.trans e2).trans e3) H3 (Ex.refl H3) Q fun H4 e4 => q H4 ((e2.trans e3).trans e4)
theorem rv_leP {p q : Addr} {kf : PySem.Str → Int} {s t : PySem.Str} (hp : H p = some (.tup [.int (kf s), .str s])) (hq : H q = some (.tup [.int (kf t), .str t])) : RV (rPair rkLe) (.ref p) (.ref q) H (.bl (decide (rkLe kf s t))) := fun H1 e Q k =>
  ⟨p, q, kf, s, t, rfl, rfl, e _ _ hp, e _ _ hq, fun v hv => by
    have : v = decide (rkLe kf s t) := by
      cases v with
      | true => exact (decide_eq_true (hv.mp rfl)).symm
      | false => exact (decide_eq_false fun z => by have := hv.mpr z; cases this).symm
    rw [this]
    exact k H1 (Ex.refl _)⟩
theorem rv_gt {i j : Int} : RV (rI0 fun a b => .bl (decide (a > b))) (.int i) (.int j) H (.bl (decide (i > j))) := rv_I0
/-! comprehensions as maps and filters -/
section
variable {α : Type} {ys : List α} {j : Nat} {vs : List Nat} {a : Addr}
theorem el_mL {c : α → V} (f : α → V) (hl : Ev tl σ H (.ref a)) (h : SqL K H a (ys.map c)) (hz : ys.length ≤ 100000) (turn : ∀ (i : Nat) y, ys[i]? = some y → ∀ H', Ex H H' → Ev te ((wipe σ vs).set j (some (c y))) H' (f y)) (hw : ∀ v, wipe ((wipe σ vs).set j (some v)) vs = wipe σ vs := by intro _; rfl) :
    EvL (tLc (iList K tl) (gName j) tYes te vs) σ H (ys.map f) := fun H1 e Q q => hl H1 e _ fun H2 e2 => ⟨a, rfl, ⟨_, ex_l (e.trans e2) h⟩, fun D hD =>
  lc_m (j := j) (c := c) (ys := ys) walk_list f (by rw [List.length_map]) hD (fun H' s => ex_l ((e.trans e2).trans s) h) (sz_of hz) (fun i y H' k hy s hk => turn i y hy H' ((e.trans e2).trans s) H' (Ex.refl _) k hk) (fun H' s hD' => q D H' (fresh_back e2 hD) (e2.trans s) hD') hw⟩
theorem el_mT {c : α → V} (f : α → V) (hl : Ev tl σ H (.ref a)) (h : SqT K H a (ys.map c)) (hz : ys.length ≤ 100000) (turn : ∀ (i : Nat) y, ys[i]? = some y → ∀ H', Ex H H' → Ev te ((wipe σ vs).set j (some (c y))) H' (f y)) (hw : ∀ v, wipe ((wipe σ vs).set j (some v)) vs = wipe σ vs := by intro _; rfl) :
    EvL (tLc (iTup K tl) (gName j) tYes te vs) σ H (ys.map f) := fun H1 e Q q => hl H1 e _ fun H2 e2 => ⟨a, rfl, ⟨_, ex_t (e.trans e2) h⟩, fun D hD =>
  lc_m (j := j) (c := c) (ys := ys) walk_tup f (by rw [List.length_map]) hD (fun H' s => ex_t ((e.trans e2).trans s) h) (sz_of hz) (fun i y H' k hy s hk => turn i y hy H' ((e.trans e2).trans s) H' (Ex.refl _) k hk) (fun H' s hD' => q D H' (fresh_back e2 hD) (e2.trans s) hD') hw⟩
/-- over a new list -/
theorem el_mN {c : α → V} (f : α → V) (hl : EvL tl σ H (ys.map c)) (hz : ys.length ≤ 100000) (turn : ∀ (i : Nat) y, ys[i]? = some y → ∀ H', Ex H H' → Ev te ((wipe σ vs).set j (some (c y))) H' (f y)) (hw : ∀ v, wipe ((wipe σ vs).set j (some v)) vs = wipe σ vs := by intro _; rfl) :
    EvL (tLc (iList K tl) (gName j) tYes te vs) σ H (ys.map f) := fun H1 e Q q => hl H1 e _ fun a H2 ha e2 h2 => ⟨a, rfl, ⟨_, sq_of h2⟩, fun D hD =>
  lc_m (j := j) (c := c) (ys := ys) walk_list f (by rw [List.length_map]) hD (fun H' s => sq_of (s _ _ h2)) (sz_of hz) (fun i y H' k hy s hk => turn i y hy H' ((e.trans e2).trans s) H' (Ex.refl _) k hk) (fun H' s hD' => q D H' (fresh_back e2 hD) (e2.trans s) hD') hw⟩
theorem el_fL {c : α → V} (p : α → Bool) (f : α → V) (hl : Ev tl σ H (.ref a)) (h : SqL K H a (ys.map c)) (hz : ys.length ≤ 100000) (test : ∀ (i : Nat) y, ys[i]? = some y → ∀ H', Ex H H' → EvT t ((wipe σ vs).set j (some (c y))) H' (p y))
    (turn : ∀ (i : Nat) y, ys[i]? = some y → p y = true → ∀ H', Ex H H' → Ev te ((wipe σ vs).set j (some (c y))) H' (f y)) (hw : ∀ v, wipe ((wipe σ vs).set j (some v)) vs = wipe σ vs := by intro _; rfl) :
    EvL (tLc (iList K tl) (gName j) t te vs) σ H ((ys.filter p).map f) := fun H1 e Q q => hl H1 e _ fun H2 e2 => ⟨a, rfl, ⟨_, ex_l (e.trans e2) h⟩, fun D hD =>
  lc_f (j := j) (c := c) (ys := ys) walk_list p f (by rw [List.length_map]) hD (fun H' s => ex_l ((e.trans e2).trans s) h) (sz_of hz) (fun i y H' k hy s hk => test i y hy H' ((e.trans e2).trans s) H' (Ex.refl _) k hk) (fun i y H' k hy hp s hk => turn i y hy hp H' ((e.trans e2).trans s) H' (Ex.refl _) k hk) (fun H' s hD' => q D H' (fresh_back e2 hD) (e2.trans s) hD') hw⟩
theorem el_fT {c : α → V} (p : α → Bool) (f : α → V) (hl : Ev tl σ H (.ref a)) (h : SqT K H a (ys.map c)) (hz : ys.length ≤ 100000) (test : ∀ (i : Nat) y, ys[i]? = some y → ∀ H', Ex H H' → EvT t ((wipe σ vs).set j (some (c y))) H' (p y))
    (turn : ∀ (i : Nat) y, ys[i]? = some y → p y = true → ∀ H', Ex H H' → Ev te ((wipe σ vs).set j (some (c y))) H' (f y)) (hw : ∀ v, wipe ((wipe σ vs).set j (some v)) vs = wipe σ vs := by intro _; rfl) :
    EvL (tLc (iTup K tl) (gName j) t te vs) σ H ((ys.filter p).map f) := fun H1 e Q q => hl H1 e _ fun H2 e2 => ⟨a, rfl, ⟨_, ex_t (e.trans e2) h⟩, fun D hD =>
  lc_f (j := j) (c := c) (ys := ys) walk_tup p f (by rw [List.length_map]) hD (fun H' s => ex_t ((e.trans e2).trans s) h) (sz_of hz) (fun i y H' k hy s hk => test i y hy H' ((e.trans e2).trans s) H' (Ex.refl _) k hk) (fun i y H' k hy hp s hk => turn i y hy hp H' ((e.trans e2).trans s) H' (Ex.refl _) k hk) (fun H' s hD' => q D H' (fresh_back e2 hD) (e2.trans s) hD') hw⟩
theorem el_fN {c : α → V} (p : α → Bool) (f : α → V) (hl : EvL tl σ H (ys.map c)) (hz : ys.length ≤ 100000) (test : ∀ (i : Nat) y, ys[i]? = some y → ∀ H', Ex H H' → EvT t ((wipe σ vs).set j (some (c y))) H' (p y))
    (turn : ∀ (i : Nat) y, ys[i]? = some y → p y = true → ∀ H', Ex H H' → Ev te ((wipe σ vs).set j (some (c y))) H' (f y)) (hw : ∀ v, wipe ((wipe σ vs).set j (some v)) vs = wipe σ vs := by intro _; rfl) :
    EvL (tLc (iList K tl) (gName j) t te vs) σ H ((ys.filter p).map f) := fun H1 e Q q => hl H1 e _ fun a H2 ha e2 h2 => ⟨a, rfl, ⟨_, sq_of h2⟩, fun D hD =>
  lc_f (j := j) (c := c) (ys := ys) walk_list p f (by rw [List.length_map]) hD (fun H' s => sq_of (s _ _ h2)) (sz_of hz) (fun i y H' k hy s hk => test i y hy H' ((e.trans e2).trans s) H' (Ex.refl _) k hk) (fun i y H' k hy hp s hk => turn i y hy hp H' ((e.trans e2).trans s) H' (Ex.refl _) k hk) (fun H' s hD' => q D H' (fresh_back e2 hD) (e2.trans s) hD') hw⟩
/-- over the keys of a dict that is locked already -/
theorem el_mK {β : Type} {g : β → V} {l : List (PySem.Str × β)} {o : Obj} (f : PySem.Str → V) (hl : Ev tl σ H (.ref a)) (h : H a = some (.frz o (.dK (kvT g l)))) (hz : l.length ≤ 100000) (turn : ∀ (i : Nat) y, (keysT l)[i]? = some y → ∀ H', Ex H H' → Ev te ((wipe σ vs).set j (some (.str y))) H' (f y)) (hw : ∀ v, wipe ((wipe σ vs).set j (some v)) vs = wipe σ vs := by intro _; rfl) :
    EvL (tLc (iKeys tl) (gName j) tYes te vs) σ H ((keysT l).map f) := fun H1 e Q q => hl H1 e _ fun H2 e2 => ⟨a, o, rfl, .inl ⟨_, e2 _ _ (e _ _ h), fun D hD =>
  lc_m (j := j) (c := V.str) (ys := keysT l) walk_kT f rfl hD (fun H' s => s _ _ (e2 _ _ (e _ _ h))) (by unfold keysT; rw [List.length_map]; exact sz_of hz) (fun i y H' k hy s hk => turn i y hy H' ((e.trans e2).trans s) H' (Ex.refl _) k hk) (fun H' s hD' => q D H' (fresh_back e2 hD) (e2.trans s) hD') hw⟩⟩
theorem el_fK {β : Type} {g : β → V} {l : List (PySem.Str × β)} {o : Obj} (p : PySem.Str → Bool) (f : PySem.Str → V) (hl : Ev tl σ H (.ref a)) (h : H a = some (.frz o (.dK (kvT g l)))) (hz : l.length ≤ 100000) (test : ∀ (i : Nat) y, (keysT l)[i]? = some y → ∀ H', Ex H H' → EvT t ((wipe σ vs).set j (some (.str y))) H' (p y))
    (turn : ∀ (i : Nat) y, (keysT l)[i]? = some y → p y = true → ∀ H', Ex H H' → Ev te ((wipe σ vs).set j (some (.str y))) H' (f y)) (hw : ∀ v, wipe ((wipe σ vs).set j (some v)) vs = wipe σ vs := by intro _; rfl) :
    EvL (tLc (iKeys tl) (gName j) t te vs) σ H (((keysT l).filter p).map f) := fun H1 e Q q => hl H1 e _ fun H2 e2 => ⟨a, o, rfl, .inl ⟨_, e2 _ _ (e _ _ h), fun D hD =>
  lc_f (j := j) (c := V.str) (ys := keysT l) walk_kT p f rfl hD (fun H' s => s _ _ (e2 _ _ (e _ _ h))) (by unfold keysT; rw [List.length_map]; exact sz_of hz) (fun i y H' k hy s hk => test i y hy H' ((e.trans e2).trans s) H' (Ex.refl _) k hk) (fun i y H' k hy hp s hk => turn i y hy hp H' ((e.trans e2).trans s) H' (Ex.refl _) k hk) (fun H' s hD' => q D H' (fresh_back e2 hD) (e2.trans s) hD') hw⟩⟩
/-- a list made while the dict d is locked, from the state within the lock -/
theorem el_lock {kvs : List (L2.Key × V)} {xs : List V} (h : H a = some (.dK kvs)) (k : ∀ od, EvL te σ (upd H a (.frz od (.dK kvs))) xs) : EvL (tLockE te) σ H xs := fun H1 e Q q => by
  have h1 := e _ _ h
  refine ⟨a, _, h1, trivial, fun od => ?_⟩
  have e1 : Ex (upd H a (.frz od (.dK kvs))) (upd H1 a (.frz od (.dK kvs))) := fun b o z => by
    by_cases nb : b = a
    · rw [nb, upd_same] at z ⊢; exact z
    · rw [upd_ne nb] at z ⊢; exact e _ _ z
  refine k od _ e1 _ fun p H2 hp e2 h2 => ?_
  have na : p ≠ a := fun z => by rw [z, upd_same] at hp; cases hp
  have fa : H2 a = some (.frz od (.dK kvs)) := e2 _ _ upd_same
  refine ⟨fa, q p _ (by rw [upd_ne na] at hp; exact hp) (fun b o z => ?_) (by rw [upd_ne na]; exact h2)⟩
  by_cases nb : b = a
  · rw [nb, h1] at z; rw [nb, upd_same]; exact z
  · rw [upd_ne nb]; exact e2 _ _ (by rw [upd_ne nb]; exact z)
end
end
/-! ### statements under a dict's lock -/
section
variable {K : PySem.W.Frag} {σ : L2.St} {H H' : Hp} {te td : TE} {D : Ends} {tb tz : TS} {a : Addr} {u : HO}
theorem ex_lock {H1 : Hp} {f : HO} (e : Ex H H1) : Ex (upd H a f) (upd H1 a f) := fun b o z => by
  by_cases nb : b = a
  · rw [nb, upd_same] at z ⊢; exact z
  · rw [upd_ne nb] at z ⊢; exact e _ _ z
theorem ex_unlock {f : HO} (h : H a = some u) (e : Ex (upd H a f) H') : Ex H (upd H' a u) := fun b o z => by
  by_cases nb : b = a
  · rw [nb, h] at z; rw [nb, upd_same]; exact z
  · rw [upd_ne nb]; exact e _ _ (by rw [upd_ne nb]; exact z)
/-- y = [.. for k in d ..], d locked meanwhile -/
theorem s_lockL {kvs : List (L2.Key × V)} {xs : List V} {i : Nat} (h : H a = some (.dK kvs)) (k : ∀ od, EvL te σ (upd H a (.frz od (.dK kvs))) xs) (q : ∀ p H1, H p = none → Ex H H1 → H1 p = some (.lst xs) → D.nx (σ.set i (some (.ref p))) H1) : tLock (tAsg te (gName i)) D σ H := by
  refine ⟨a, _, h, trivial, fun od => k od _ (Ex.refl _) _ fun p H2 hp e2 h2 => ?_⟩
  have na : p ≠ a := fun z => by rw [z, upd_same] at hp; cases hp
  refine ⟨e2 _ _ upd_same, q p _ (by rw [upd_ne na] at hp; exact hp) (ex_unlock h e2) (by rw [upd_ne na]; exact h2)⟩
theorem q_lockL {kvs : List (L2.Key × V)} {xs : List V} {i : Nat} (h : H a = some (.dK kvs)) (k : ∀ od, EvL te σ (upd H a (.frz od (.dK kvs))) xs) (q : ∀ p H1, H p = none → Ex H H1 → H1 p = some (.lst xs) → tz D (σ.set i (some (.ref p))) H1) : tSeq (tLock (tAsg te (gName i))) tz D σ H :=
  s_lockL (D := { D with nx := tz D }) h k q
/-- for k in d: ..; the turns within the lock -/
theorem s_lockFor {β : Type} {g : β → V} {l : List (PySem.Str × β)} {j : Nat} (h : H a = some (.dK (kvT g l))) (hd : ∀ od, Ev td σ (upd H a (.frz od (.dK (kvT g l)))) (.ref a)) (Pv : Obj → Nat → L2.St → Hp → Prop) (h0 : ∀ od H1, Ex (upd H a (.frz od (.dK (kvT g l)))) H1 → Pv od 0 σ H1)
    (hl : ∀ od i σ' H', Pv od i σ' H' → H' a = some (.frz od (.dK (kvT g l))))
    (hs : ∀ od (i : Nat) y σ' H', (keysT l)[i]? = some y → Pv od i σ' H' → tb ⟨Pv od (i + 1), fun v H' => H' a = some (.frz od (.dK (kvT g l))) ∧ D.rt v (upd H' a (.dK (kvT g l))), fun σ' H' => H' a = some (.frz od (.dK (kvT g l))) ∧ D.nx σ' (upd H' a (.dK (kvT g l))), Pv od (i + 1)⟩ (σ'.set j (some (.str y))) H')
    (he : ∀ od σ' H', Pv od (keysT l).length σ' H' → D.nx σ' (upd H' a (.dK (kvT g l)))) : tLock (tFor (iKeys td) (gName j) tb) D σ H := by
  refine ⟨a, _, h, trivial, fun od => hd od _ (Ex.refl _) _ fun H1 e1 => ⟨a, od, rfl, .inl ⟨_, e1 _ _ upd_same, for_it walk_kT (Pv od) (h0 od H1 e1) (fun i σ' H' _ p => hl od i σ' H' p) ?_ ?_⟩⟩⟩
  · rintro i x σ' H' H'' hi p ⟨rfl, hx⟩
    rw [List.getElem?_map] at hx
    cases e : (keysT l)[i]? with
    | none => rw [e] at hx; cases hx
    | some y =>
      rw [e] at hx
      obtain rfl := Option.some.inj hx
      exact hs od i y σ' _ e p
  · exact fun σ' H' p => ⟨hl od _ σ' H' p, he od σ' H' p⟩
theorem q_lockFor {β : Type} {g : β → V} {l : List (PySem.Str × β)} {j : Nat} (h : H a = some (.dK (kvT g l))) (hd : ∀ od, Ev td σ (upd H a (.frz od (.dK (kvT g l)))) (.ref a)) (Pv : Obj → Nat → L2.St → Hp → Prop) (h0 : ∀ od H1, Ex (upd H a (.frz od (.dK (kvT g l)))) H1 → Pv od 0 σ H1)
    (hl : ∀ od i σ' H', Pv od i σ' H' → H' a = some (.frz od (.dK (kvT g l))))
    (hs : ∀ od (i : Nat) y σ' H', (keysT l)[i]? = some y → Pv od i σ' H' → tb ⟨Pv od (i + 1), fun v H' => H' a = some (.frz od (.dK (kvT g l))) ∧ D.rt v (upd H' a (.dK (kvT g l))), fun σ' H' => H' a = some (.frz od (.dK (kvT g l))) ∧ tz D σ' (upd H' a (.dK (kvT g l))), Pv od (i + 1)⟩ (σ'.set j (some (.str y))) H')
    (he : ∀ od σ' H', Pv od (keysT l).length σ' H' → tz D σ' (upd H' a (.dK (kvT g l)))) : tSeq (tLock (tFor (iKeys td) (gName j) tb)) tz D σ H :=
  s_lockFor (D := { D with nx := tz D }) h hd Pv h0 hl hs he
end
section
variable {X : Cx} {K : PySem.W.Frag}
theorem cr_anyK (h : X.K = K) (hc : X.calm = true) : CallR X (.builtin "any") (rAny K) := by subst h; exact cr_any hc
theorem cr_allK (h : X.K = K) (hc : X.calm = true) : CallR X (.builtin "all") (rAll K) := by subst h; exact cr_all hc
theorem cr_sumK (h : X.K = K) (hc : X.calm = true) : CallR X (.builtin "sum") (rSum K) := by subst h; exact cr_sum hc
end
end Mc
namespace Mc
open PySem L2 PySem.Spec PyProof.Rows Evl
/-! names and numbers of any kind, what is told of wrong ones -/
def nameB : V → Bool
  | .str x => decide (okN x)
  | _ => false
def numB (lo hi : Int) : V → Bool
  | .int n => decide (lo ≤ n) && decide (n ≤ hi)
  | _ => false
/-- what is looked at: texts, ints, bools, None -/
def Plain : V → Prop
  | .str x => x.length ≤ 100
  | .int _ => True
  | .bl _ => True
  | .non => True
  | _ => False
def spNameV : Sp := fun vs H Q _ => ∃ v : V, vs = [v] ∧ Plain v ∧ (∀ b, v ≠ .bl b) ∧ ∀ H', Ex H H' → Q (.bl (nameB v)) H'
def spNumV : Sp := fun vs H Q _ => ∃ (v : V) (lo hi : Int), vs = [v, .int lo, .int hi] ∧ (∀ x, v ≠ .str x) ∧ Plain v ∧ Q (.bl (numB lo hi v)) H
section
variable {P : Program} {w : World} {K : PySem.W.Frag} {mg : PySem.Str → Option Value} {base : Heap}
theorem ok_nameV {f : Addr} {fd : FuncData} (F : Fun K "is_name" "is_name" sIsName f fd) (T : TxN mg) : FnOk P w K mg base CX0 1 f fd ["thing"] spNameV := by
  refine F.ok scIsName (fun vs H Q E h => ?_) (fun cdv A outer s H vs Q E hr h => ?_)
  · obtain ⟨x, rfl, _⟩ := h
    rfl
  · obtain ⟨v, rfl, hpl, nbl, q⟩ := h
    obtain ⟨tl, gl⟩ := T.lets
    obtain ⟨tf, gf⟩ := T.figs
    obtain ⟨tm, gm⟩ := T.most
    refine ⟨_, (pss_cons (ps_if (PW.pt (pw_or (pt_not (pt_val (pe_callB call_isi (by rfl) T.isi boot_isinstance (pa_cons (pv 0) (pa_cons (pe_bltn (v := .ty "str") (by rfl) T.str boot_str rfl) pa_nil))))) (pw_or1 (pt_not (pt_chain op_le op_le pe_int (pe_callB call_len_str (by rfl) T.len PySem.boot_len (pa_cons (pv 0) pa_nil)) (pe_glob (by rfl) gm rel_int))))))
        (pss_one (ps_ret pe_bl))
        pss_nil)
      (pss_cons (ps_if (pt_cmpR op_notIn_sign (pe_ix ix_str (pv 0) pe_int (fun _ _ => rfl)) (pe_glob (by rfl) gl rel_str) (by rfl))
        (pss_one (ps_ret pe_bl))
        pss_nil)
      (pss_one (ps_ret (pe_callB (cr_all rfl) (by rfl) T.all (by rfl) (pa_cons (pe_lc (own := [("sign", 1)]) (g := gName 1) (tt := tYes) rfl scIsName.nd (pi_str (pv 0)) (blkOk_by (own := [("sign", 1)]) (N := ["thing", "sign"]) (sc := defScope sIsName) (by decide +kernel)) (fun _ _ _ _ _ => pg_name (i := 1) scIsName.nd rfl (Or.inl rfl)) (fun _ _ _ _ _ => pts_nil) (fun _ _ _ _ _ => (pe_or (pe_cmpR op_in_sign (pv 1) (pe_glob (by rfl) gl rel_str) (by rfl)) (pe_one (pe_cmpR op_in_sign (pv 1) (pe_glob (by rfl) gf rel_str) (by rfl)))))) pa_nil)))))), ?_⟩
    cases v with
    | int n => exact ⟨_, rfl, _, _, _, _, _, rfl, .ty "str", .base (.int _), by rfl, false, rfl, q H (Ex.refl _)⟩
    | non => exact ⟨_, rfl, _, _, _, _, _, rfl, .ty "str", .base .non, by rfl, false, rfl, q H (Ex.refl _)⟩
    | str x =>
      have hx : x.length ≤ 100 := hpl
      have hsz : x.length ≤ sizeLine := Nat.le_trans hx (by decide)
      refine ⟨_, rfl, _, _, _, _, _, rfl, .ty "str", .base (.str _), by rfl, true, rfl, ?_⟩
      refine ⟨_, rfl, _, rfl, hsz, _, _, rfl, rfl, _, rfl, ?_⟩
      have no : ¬ okN x → Q (.bl false) H := fun n => by
        have := q H (Ex.refl _)
        rw [show nameB (.str x) = false from decide_eq_false n] at this
        exact this
      refine ite2 (fun h => ?_) (fun h => ?_)
      · have h1 : 1 ≤ x.length := by have := of_decide_eq_true h; omega
        refine ⟨_, _, rfl, rfl, _, rfl, ?_⟩
        refine ite2 (fun h2 => ?_) (fun h2 => ?_)
        · refine no fun z => ?_
          have := z.2.1
          rw [decide_eq_true (by show ((x.length : Nat) : Int) ≤ 8; omega)] at h2
          exact absurd h2 (by decide)
        · have h8 : x.length ≤ 8 := by
            refine Nat.le_of_not_lt fun z => h2 ?_
            rw [decide_eq_false (by show ¬ ((x.length : Nat) : Int) ≤ 8; omega)]; rfl
          obtain ⟨c0, hc0⟩ : ∃ c0, x.cps.toList[0]? = some c0 := ⟨_, List.getElem?_eq_getElem (by show 0 < x.cps.toList.length; rw [Array.length_toList]; exact h1)⟩
          refine ⟨_, rfl, _, _, _, rfl, rfl, hsz, at0 hc0, _, _, rfl, rfl, _, rfl, ?_⟩
          refine ite2 (fun h3 => ?_) (fun h3 => ?_)
          · refine no fun z => ?_
            obtain ⟨c1, e1, e2⟩ := z.2.2.1
            rw [hc0] at e1
            cases e1
            rw [decide_eq_true e2] at h3
            exact absurd h3 (by decide)
          · have hl0 : c0 ∈ letters.cps.toList := Classical.byContradiction fun z => h3 (by rw [decide_eq_false z]; rfl)
            refine ⟨_, rfl, _, rfl, fun D hD => lc_it walk_str (fun i H' => H' = upd H D (.lst ((((x.cps.toList.take i).map fun c => decide (c ∈ letters.cps.toList ∨ c ∈ figures.cps.toList)) : List Bool).map V.bl))) rfl (fun _ _ _ _ => trivial) ?_ ?_⟩
            · rintro i v H1 H2 hi rfl ⟨rfl, c, hc, rfl⟩
              have hcl : x.cps.toList[i]? = some c := by rw [← Array.getElem?_toList] at hc; exact hc
              refine ⟨rfl, _, rfl, _, _, rfl, rfl, _, rfl, ?_⟩
              have fin : ∀ b : Bool, b = decide (c ∈ letters.cps.toList ∨ c ∈ figures.cps.toList) → ∃ acc, upd H D (.lst ((((x.cps.toList.take i).map fun c => decide (c ∈ letters.cps.toList ∨ c ∈ figures.cps.toList)) : List Bool).map V.bl)) D = some (.lst acc) ∧ acc.length < sizeLine ∧ upd (upd H D (.lst ((((x.cps.toList.take i).map fun c => decide (c ∈ letters.cps.toList ∨ c ∈ figures.cps.toList)) : List Bool).map V.bl))) D (.lst (acc ++ [V.bl b])) = upd H D (.lst ((((x.cps.toList.take (i + 1)).map fun c => decide (c ∈ letters.cps.toList ∨ c ∈ figures.cps.toList)) : List Bool).map V.bl)) := fun b hb =>
                ⟨_, upd_same, by rw [List.length_map, List.length_map, List.length_take]; exact Nat.lt_of_le_of_lt (Nat.min_le_left _ _) (Nat.lt_of_lt_of_le hi hsz), by rw [upd_upd, List.take_add_one, hcl, List.map_append, List.map_append, hb]; rfl⟩
              refine ite2 (fun h => fin true ?_) (fun h => ?_)
              · exact (decide_eq_true (Or.inl (of_decide_eq_true h))).symm
              · refine ⟨_, rfl, _, _, rfl, rfl, ?_⟩
                refine fin _ ?_
                have hn : ¬ c ∈ letters.cps.toList := fun z => h (decide_eq_true z)
                by_cases z : c ∈ figures.cps.toList
                · rw [decide_eq_true z, decide_eq_true (Or.inr z)]
                · rw [decide_eq_false z, decide_eq_false fun o => o.elim hn z]
            · rintro H1 rfl
              have e : (((x.cps.toList.take x.cps.size).map fun c => decide (c ∈ letters.cps.toList ∨ c ∈ figures.cps.toList)) : List Bool).all id = nameB (.str x) := by
                rw [List.take_of_length_le (show x.cps.toList.length ≤ x.cps.size by rw [Array.length_toList]; exact Nat.le_refl _), Bool.eq_iff_iff, List.all_eq_true]
                constructor
                · intro hall
                  exact decide_eq_true ⟨h1, h8, ⟨c0, hc0, hl0⟩, fun c hc => of_decide_eq_true (hall _ (List.mem_map.mpr ⟨c, hc, rfl⟩))⟩
                · intro hk b hb
                  obtain ⟨c, hc, rfl⟩ := List.mem_map.mp hb
                  exact decide_eq_true ((of_decide_eq_true hk : okN x).2.2.2 c hc)
              refine ⟨_, _, rfl, SqL.of upd_same, ?_⟩
              rw [e]
              exact q _ (Ex.new hD)
      · refine ⟨false, rfl, no fun z => h (decide_eq_true ?_)⟩
        have := z.1
        show (1 : Int) ≤ ((x.length : Nat) : Int)
        omega
    | bl b => exact absurd rfl (nbl b)
    | _ => exact hpl.elim
end
end Mc
namespace Mc
open PySem L2 PySem.Spec PyProof.Rows Evl
/-! [x for x in l if _law_take(draw, n) == 0] over a list of texts -/
theorem lc_take {K : PySem.W.Frag} {tl : TE} {σ : L2.St} {H : Hp} {Q : VK} {M : List Addr} {d a l : Addr} {xs : List PySem.Str} {i j : Nat} {n : Int} (hl : Ev tl σ H (.ref l)) (D0 : Dr K M d a H) (hx : H l = some (.lst (xs.map V.str))) (ld : l ≠ d) (hn : 0 < n) (h100 : xs.length ≤ 100)
    (hd : ∀ v, ((wipe σ [j]).set j v)[i]? = some (some (.ref d))) (hj : ∀ v, ((wipe σ [j]).set j (some v))[j]? = some (some v)) (hw : ∀ v, wipe ((wipe σ [j]).set j (some v)) [j] = wipe σ [j])
    (q : ∀ (us : List PySem.Str) (p : Addr) (H' : Hp), us.Sublist xs → Dr K M d a H' → Kp [d] H H' → H p = none → H' p = some (.lst (us.map V.str)) → Q (.ref p) H') :
    tLc (iList K tl) (gName j) (tTest (tOp rEq (tCall (spTake K) [] E0 (tCons (tVar i) (tCons (tC (.int n)) tNil))) (tC (.int 0)))) (tVar j) [j] σ H Q := by
  refine hl H (Ex.refl H) _ fun H1 x1 => ⟨l, rfl, ⟨_, SqL.of (x1 _ _ hx)⟩, fun D hD => ?_⟩
  have D1 := D0.same x1
  have hx1 := x1 _ _ hx
  have dD : d ≠ D := fun e => by obtain ⟨⟨k, hk⟩, _⟩ := D1; rw [e, hD] at hk; cases hk
  refine lc_it walk_list (fun i H' => ∃ us : List PySem.Str, us.Sublist (xs.take i) ∧ Dr K (D :: M) d a H' ∧ Kp [d] H1 H' ∧ H' D = some (.lst (us.map V.str))) ⟨[], List.Sublist.refl _, (D1.grow hD).new hD, Kp.new hD, upd_same⟩ (fun i H' _ ⟨us, _, _, k', _⟩ => SqL.of (k' l _ hx1 fun e => ld (List.mem_singleton.mp e))) ?_ ?_
  · rintro k v _ H6 hi ⟨us, hsub, D6, k6, hd6⟩ ⟨rfl, hv⟩
    rw [List.getElem?_map] at hv
    obtain ⟨x, hx, rfl⟩ := Option.map_eq_some_iff.mp hv
    have et : xs.take (k + 1) = xs.take k ++ [x] := by rw [List.take_add_one, hx]; rfl
    refine ⟨hw _, _, hd _, D :: M, d, a, n, rfl, D6, hn, fun v H7 _ _ D7 k7 => ⟨rfl, _, rfl, ?_⟩⟩
    have hd7 := k7 D _ hd6 fun e => dD (List.mem_singleton.mp e).symm
    have lus : us.length ≤ 100 := by
      have := hsub.length_le
      rw [List.length_take] at this
      omega
    refine ite2 (fun h => ⟨_, hj _, us.map V.str, hd7, (by rw [List.length_map]; exact sz_lt (by omega)), us ++ [x], ?_, ?_, ?_, ?_⟩) (fun h => ⟨us, by rw [et]; exact hsub.trans (List.sublist_append_left _ _), D7, k6.trans k7, hd7⟩)
    · rw [et]; exact hsub.append (List.Sublist.refl _)
    · exact D7.keep (Kp.at (by simp)) fun o z => by rw [upd_ne dD]; exact z
    · exact fun y o z ny => by rw [upd_ne (ne_of_none z hD)]; exact k7 y o (k6 y o z ny) ny
    · rw [upd_same, List.map_append]; rfl
  · rintro H6 ⟨us, hsub, D6, k6, hd6⟩
    rw [List.length_map, List.take_length] at hsub
    refine q us D H6 hsub (D6.sub (fun b hb => List.mem_cons_of_mem _ hb) D1.mem) ((Kp.same x1).trans k6) ?_ hd6
    exact fresh_back x1 hD
end Mc
namespace Mc
open PySem L2 PySem.Spec PyProof.Rows
section
variable {X : Cx}
theorem sw_dict {kx vx : Expr} {gs : List Comprehension} {scope : Scope} {pos py : Pos} {y : PySem.Str} {n : Nat} {env : Env} (h1 : env.scope.kind = .function) (h2 : env.scope.names.lookup y = some .local) (h3 : (py.line == pos.line) = true)
    (h4 : (scope.names.any fun (n, k) => n == y && (k == .local || k == .cell)) = false) : swapsWith (.DictComp kx vx gs scope pos) (some (.Name y py)) n env = pure true := by
  have a : env.kindOf y = some .local := h2
  have b : env.blockKind = .function := by simp only [Env.blockKind, h1]; rfl
  simp only [swapsWith, a, b, h4, Expr.pos, h3]; rfl
/-- name = {..} on one line, the name a plain local -/
theorem ps_setDc {i : Nat} {y : PySem.Str} {py : Pos} {kx vx tg iter : Expr} {ifs : List Expr} {scope : Scope} {own : List (PySem.Str × Nat)} {pos spos : Pos} {wi : TI} {g : TG} {tt : TT} {tk tv : TE} (hc : X.calm = true) (hN : X.N.Nodup) (hy : X.N[i]? = some y) (hl : X.env.scope.names.lookup y = some .local)
    (hsw : swapsWith (.DictComp kx vx [⟨tg, iter, ifs, 0⟩] scope pos) (some (.Name y py)) spos.line X.env = pure true) (hi : PI X tg iter wi) (ok : BlkOk X.N X.env.scope scope own)
    (pg : ∀ (s : Shared) (H : Hp) (C : Addr) (cl : List (PySem.Str × Addr)) (fp : List Addr), PG (X.blk s H scope (compEnvC scope cl C X.env) fp) tg g)
    (pt : ∀ (s : Shared) (H : Hp) (C : Addr) (cl : List (PySem.Str × Addr)) (fp : List Addr), PTs (X.blk s H scope (compEnvC scope cl C X.env) fp) ifs tt)
    (pk : ∀ (s : Shared) (H : Hp) (C : Addr) (cl : List (PySem.Str × Addr)) (fp : List Addr), PE (X.blk s H scope (compEnvC scope cl C X.env) fp) kx tk)
    (pe : ∀ (s : Shared) (H : Hp) (C : Addr) (cl : List (PySem.Str × Addr)) (fp : List Addr), PE (X.blk s H scope (compEnvC scope cl C X.env) fp) vx tv) (hs : ∀ x, foldedSetIterable iter X.env x = pure x := by intro _; rfl) :
    PS X (.Assign [.Name y py] (.DictComp kx vx [⟨tg, iter, ifs, 0⟩] scope pos) spos) (tAsg (tDc wi g tt tk tv (own.map (·.2))) (gName i)) := ⟨fun pins s σ H D I h => by
  have h' : tDc wi g tt tk tv (own.map (·.2)) σ H (fun x H1 => gName i x σ H1 D.nx) := h
  rw [exec_Assign_Name_used _ _ _ _ hsw]
  refine wpAny_bind (wpAny_standAt (wpAny_bind ?_))
  change wpAny _ X.A (comprehension (.DictComp kx vx [⟨tg, iter, ifs, 0⟩] scope pos) scope X.env (firstIterPos [⟨tg, iter, ifs, 0⟩] pos) newDict false (eval iter X.env) (some (assign (.Name y py) X.env)) >>= fun _ => pure ()) _ _ _
  refine wpAny_bind ?_
  refine thn (dc_core (Qf := fun _ t => SP X pins D .next t) hc hN I hi ok pg pt pk pe hs h' ?_) fun _ t ht => wpAny_pure (wpAny_pure ht)
  intro L C t m H' It q hn fo
  refine wpAny_assign_Name (store_ok2 (v := V.ref L) It hN hy (.inl hl) rfl (fun t2 I2 ⟨c, sb, wh⟩ => ?_) (.inr hl))
  obtain ⟨f0, f1, f2, f3, f4, f5⟩ := fo
  have ne : C ≠ c := wh.elim (fun z => z ▸ f1) fun z e => f4 y c z e.symm
  exact ⟨m, hn.sameBut sb ne, fun t3 sb3 => ⟨_, H', I2.turned (t' := t2.toks) (fun b o n e => (sb3.2 b n).trans e) f0 f1 f3 f4 f5, q⟩⟩⟩
end
end Mc
namespace Mc
open PySem L2 PySem.Spec PyProof.Rows
section
variable {X : Cx}
/-- a list against an empty one -/
def rNeNil (K : PySem.W.Frag) : R2 := fun x y H Q => ∃ (l b : Addr) (xs : List V), x = .ref l ∧ y = .ref b ∧ SqL K H l xs ∧ SqL K H b [] ∧ Q (.bl (!xs.isEmpty)) H
theorem op_neNil (hu : X.A.units + 64 < cLine) : OpR X (compareOp .NotEq) (rNeNil X.K) := by
  intro pins s σ H x y v u Q I rx ry ⟨l, b, xs, e1, e2, hl, hb, q⟩
  subst e1; subst e2
  cases xs with
  | nil => exact op_neD hu pins s σ H _ _ v u Q I rx ry ⟨.list [], .list [], .lst hl .nil, .lst hb .nil, by rfl, by rfl, q⟩
  | cons z zs =>
    cases rx; cases ry
    obtain ⟨i1, r1, p1, _⟩ := I.list hl
    obtain ⟨i2, r2, p2, _⟩ := I.list hb
    have z1 : i1.length = zs.length + 1 := by rw [← r1.length]; rfl
    have z2 : i2.length = 0 := by rw [← r2.length]; rfl
    exact SeqAt.RcNeAt.lists_lengths p1.isList p2.isList (by simp [z1, z2]) (by omega) _ _ _ _ ⟨.bl true, H, I, rfl, q⟩
end
end Mc
namespace Mc
open PySem L2 PySem.Spec PyProof.Rows
section
variable {X : Cx} {K : PySem.W.Frag}
/-- a dict against an empty one -/
def rNeDN : R2 := fun x y H Q => ∃ a b ks, x = .ref a ∧ y = .ref b ∧ H a = some (.dK ks) ∧ H b = some (.dK []) ∧ Q (.bl (!ks.isEmpty)) H
theorem op_neDN (hu : X.A.units < cLine) : OpR X (compareOp .NotEq) rNeDN := by
  intro pins s σ H x y v u Q I rx ry h
  obtain ⟨a, b, ks, rfl, rfl, ea, eb, q⟩ := h
  cases ks with
  | nil => exact op_ne_dictA hu pins s σ H _ _ v u Q I rx ry ⟨a, b, [], [], rfl, rfl, ea, eb, rfl, fun p hp => (nomatch hp), q⟩
  | cons k ks =>
    cases rx
    cases ry
    obtain ⟨_, ya, va, ra, da⟩ := (show ObjOk X.prog X.w H s.heap a (.dK (k :: ks)) from I.hok a _ ea)
    obtain ⟨_, yb, vb, rb, db⟩ := (show ObjOk X.prog X.w H s.heap b (.dK []) from I.hok b _ eb)
    have z1 : va.length = ks.length + 1 := by rw [← ra.length]; rfl
    have z2 : vb.length = 0 := by rw [← rb.length]; rfl
    exact PySem.W.keq_ne (knd := mixKind X.prog X.w) (r := true) ya yb da db hu (fun e => by omega) (fin_bl I q (by simp [z1, z2]))
theorem pg_tupK {es : List Expr} {k : Nat} {p : Pos} {t : TGs} {n : Nat} (hK : X.K = K) (h : PG X (.Tuple es k p) (gTup X.K n t)) : PG X (.Tuple es k p) (gTup K n t) := by
  subst hK
  exact h
theorem op_inK (h : X.K = K) : OpR X (compareOp .In) (rIn K false) := by
  subst h
  exact op_in_seq
theorem op_notInK (h : X.K = K) : OpR X (compareOp .NotIn) (rIn K true) := by
  subst h
  exact op_notIn_seq
end
end Mc
namespace Mc
open PySem L2 PySem.Spec PyProof.Rows
/-! ### sets of texts whose table can be walked: set(xs), sorted(s) -/
def txtOf (e : Int × Value) : PySem.Str := match e.2 with
  | .str x _ => x
  | _ => ""
def TxtE (P : Program) (w : World) (e : Int × Value) : Prop := ∃ x tk, e.2 = Value.str x tk ∧ e.1 = (mixKind P w).hash (Sum.inr x)
/-- the set of texts at a: its members are those of ys -/
structure SetX (P : Program) (w : World) (h : Heap) (a : Addr) (ys : List PySem.Str) (n : Nat) (o : Obj) (es : Array (Int × Value)) (ep : Nat) (t : SetTable) : Prop where
  at_ : h.get? a = some o
  ex : o.ExactSet
  dat : o.data = .set es ep t
  good : ∀ e ∈ es.toList, TxtE P w e
  nd : (es.toList.map txtOf).Nodup
  mem : ∀ k, k ∈ ys ↔ k ∈ es.toList.map txtOf
  room : es.size < scanBound
  fits : t.fits es.size = true
  num : es.size = n
  ris : Ris t.place.toList
  led : w.params.followText "set-order" = true ∨ t.led = true
def SetXs (P : Program) (w : World) (h : Heap) (a : Addr) (ys : List PySem.Str) (n : Nat) : Prop := ∃ o es ep t, SetX P w h a ys n o es ep t
section
variable {P : Program} {w : World} {A : Around} {E : Value → Shared → Prop} {s : Shared} {a : Addr} {ys : List PySem.Str} {n : Nat} {h h' : Heap}
theorem SetXs.at (R : SetXs P w h a ys n) (k : ∀ o, h.get? a = some o → h'.get? a = some o) : SetXs P w h' a ys n := by
  obtain ⟨o, es, ep, t, r⟩ := R
  exact ⟨o, es, ep, t, k o r.at_, r.ex, r.dat, r.good, r.nd, r.mem, r.room, r.fits, r.num, r.ris, r.led⟩
theorem txt_elems {l : List (Int × Value)} (g : ∀ e ∈ l, TxtE P w e) : ElemsOf (mixKind P w) l := fun e he => by
  obtain ⟨x, tk, h1, h2⟩ := g e he
  exact ⟨⟨Sum.inr x, by rw [h1]; exact beq_self_eq_true x, h2⟩, by rw [h1]; rfl⟩
theorem txt_is {e : Int × Value} (g : TxtE P w e) (k : PySem.Str) : (mixKind P w).is (Sum.inr k) e.2 = true ↔ txtOf e = k := by
  obtain ⟨x, tk, h1, _⟩ := g
  unfold txtOf
  rw [h1]
  show ((x == k) = true) ↔ x = k
  exact beq_iff_eq
theorem txt_mem {l : List (Int × Value)} (g : ∀ e ∈ l, TxtE P w e) (k : PySem.Str) : k ∈ l.map txtOf ↔ ∃ e ∈ l, (mixKind P w).is (Sum.inr k) e.2 = true := by
  rw [List.mem_map]
  exact ⟨fun ⟨e, he, q⟩ => ⟨e, he, (txt_is (g e he) k).2 q⟩, fun ⟨e, he, q⟩ => ⟨e, he, (txt_is (g e he) k).1 q⟩⟩
/-- behind the laying: the table may grow -/
theorem setX_tail {g : Bool → Sem Unit} (hg : ∀ (b : Bool) (s₁ : Shared) (Q' : Unit → Shared → Prop), Q' () s₁ → wpAny (model P w) A (g b) Q' E s₁) {o : Obj} {es : Array (Int × Value)} {ep : Nat} {t : SetTable} (ho : s.heap.get? a = some o) (hex : o.ExactSet)
    (hd : o.data = .set es ep t) {e1 : Array (Int × Value)} {t2 : SetTable} {zs : List PySem.Str} (g1 : ∀ e ∈ e1.toList, TxtE P w e) (nd1 : (e1.toList.map txtOf).Nodup) (m1 : ∀ k, k ∈ zs ↔ k ∈ e1.toList.map txtOf) (hb1 : e1.size < scanBound) (hf2 : t2.fits e1.size = true)
    (hr : Ris t2.place.toList) (hl : w.params.followText "set-order" = true ∨ t2.led = true) {dum : Bool} {R : Option Bool → Shared → Prop} (hR : ∀ h', Heap.SameBut a s.heap h' → SetXs P w h' a zs e1.size → R (some true) { s with heap := h' }) :
    wpAny (model P w) A (do
        storeSet a e1 t2
        if (!dum && t2.tooFull) = true then do
            g (relayAll t2 e1 (SetTable.grown e1.size)).2.2
            storeSet a (relayAll t2 e1 (SetTable.grown e1.size)).1 (relayAll t2 e1 (SetTable.grown e1.size)).2.1
            pure (some true)
          else pure (some true)) R E s := by
  refine wpAny_bind (wpAny_storeSet_of ho hd ?_ (fits_of_scanBound hb1))
  have at1 := store_at (es' := e1) (t' := t2) ho hd
  have sb1 := Heap.SameBut.update s.heap a (Obj.putSet e1 t2)
  split
  · have pm := relayAll_perm t2 e1 (SetTable.grown e1.size)
    have f3 := relayAll_fits t2 e1 (SetTable.grown e1.size)
    have r3 := relayAll_ris t2 e1 (SetTable.grown e1.size)
    have l3 := relayAll_led t2 e1 (SetTable.grown e1.size)
    generalize relayAll t2 e1 (SetTable.grown e1.size) = Z at pm f3 r3 l3 ⊢
    obtain ⟨e2, t3, gave⟩ := Z
    dsimp only at pm f3 r3 l3 ⊢
    have hsz : e2.size = e1.size := by rw [← Array.length_toList, pm.length_eq, Array.length_toList]
    refine wpAny_bind (hg _ _ _ (wpAny_bind (wpAny_storeSet_of at1 rfl ?_ (fits_of_scanBound (by rw [hsz]; exact hb1)))))
    refine wpAny_pure (hR _ (sb1.trans (Heap.SameBut.update _ a _)) ⟨_, e2, _, t3, store_at (es' := e2) (t' := t3) at1 rfl, hex, rfl, fun e he => g1 e (pm.mem_iff.mp he), (pm.map txtOf).nodup_iff.mpr nd1, fun k => (m1 k).trans (pm.map txtOf).mem_iff.symm, by rw [hsz]; exact hb1, f3, hsz, r3, hl.imp id fun z => by rw [l3]; exact z⟩)
  · exact wpAny_pure (hR _ sb1 ⟨_, e1, _, t2, at1, hex, rfl, g1, nd1, m1, hb1, hf2, rfl, hr, hl⟩)
theorem setX_add {k : PySem.Str} {tk : Tok} {Q : Bool → Shared → Prop} (R : SetXs P w s.heap a ys n) (room : n + 1 < scanBound)
    (hQ : ∀ b h' n', Heap.SameBut a s.heap h' → SetXs P w h' a (ys ++ [k]) n' → n' ≤ n + 1 → Q b { s with heap := h' }) : wpAny (model P w) A (setAddHashed a (.str k tk) ((mixKind P w).hash (Sum.inr k))) Q E s := by
  obtain ⟨o, es, ep, t, R⟩ := R
  have ho := R.at_
  have hd := R.dat
  have hkey : (mixKind P w).is (Sum.inr k) (.str k tk) = true := beq_self_eq_true k
  have hsc : (Value.str k tk).scannable = true := rfl
  have hel : ElemsOf (mixKind P w) es.toList := txt_elems R.good
  unfold setAddHashed setAddHashedIn
  refine wpAny_holding (wpAny_bind (wpAny_setState_of ho hd R.fits ?_))
  dsimp only
  rw [byScan_of hsc R.room hel]
  simp only [↓reduceIte]
  unfold setAddByScan
  refine wpAny_bind (wpAny_bind (wpAny_rule (wpAny_bind (wpAny_setScan_of hkey ho hd R.fits hel ?_))))
  cases hfi : List.findIdx? (fun e => (mixKind P w).is (Sum.inr k) e.2) es.toList with
  | some j =>
    dsimp only
    obtain ⟨hj, pj, _⟩ := List.findIdx?_eq_some_iff_getElem.mp hfi
    have hk : k ∈ ys := (R.mem k).2 ((txt_mem (P := P) (w := w) R.good k).2 ⟨es.toList[j], List.getElem_mem hj, pj⟩)
    refine wpAny_pure (wpAny_pure ?_)
    exact hQ _ s.heap n (Heap.SameBut.refl a s.heap) ⟨o, es, ep, t, ho, R.ex, hd, R.good, R.nd, fun i => by
      rw [List.mem_append, List.mem_singleton, ← R.mem i]
      exact ⟨fun z => z.elim id (fun e => e ▸ hk), .inl⟩, R.room, R.fits, R.num, R.ris, R.led⟩ (Nat.le_succ _)
  | none =>
    dsimp only
    have hnk : k ∉ es.toList.map txtOf := fun z => by
      obtain ⟨e, he, q⟩ := (txt_mem (P := P) (w := w) R.good k).1 z
      have c := List.findIdx?_eq_none_iff.mp hfi e he
      rw [q] at c
      cases c
    have hgw : ∀ (b : Bool) {s₁ : Shared} {Q' : Unit → Shared → Prop}, Q' () s₁ → wpAny (model P w) A (match b with | true => rule "set.scan.the-table-gave-way" | false => pure ()) Q' E s₁ :=
      fun b s₁ Q' q => by cases b <;> first | exact wpAny_pure q | exact wpAny_rule q
    have pm := layNew_perm t es ((mixKind P w).hash (Sum.inr k)) (.str k tk)
    have f1 := layNew_fits t es ((mixKind P w).hash (Sum.inr k)) (.str k tk)
    have r1 := layNew_ris t es ((mixKind P w).hash (Sum.inr k)) (.str k tk) R.ris
    have l1 := layNew_led t es ((mixKind P w).hash (Sum.inr k)) (.str k tk)
    generalize layNew t es ((mixKind P w).hash (Sum.inr k)) (.str k tk) = Z at pm f1 r1 l1 ⊢
    obtain ⟨e1, t1, dum, gave⟩ := Z
    dsimp only at pm f1 r1 l1 ⊢
    rw [Array.toList_push] at pm
    have pc : e1.toList.Perm (((mixKind P w).hash (Sum.inr k), Value.str k tk) :: es.toList) := pm.trans (List.perm_append_singleton _ _)
    have pk : (e1.toList.map txtOf).Perm (k :: es.toList.map txtOf) := pc.map txtOf
    have g1 : ∀ e ∈ e1.toList, TxtE P w e := fun e he => by
      rcases List.mem_cons.mp (pc.mem_iff.mp he) with z | z
      · rw [z]; exact ⟨k, tk, rfl, rfl⟩
      · exact R.good e z
    have nd1 : (e1.toList.map txtOf).Nodup := pk.nodup_iff.mpr (List.nodup_cons.mpr ⟨hnk, R.nd⟩)
    have m1 : ∀ i, i ∈ ys ++ [k] ↔ i ∈ e1.toList.map txtOf := fun i => by
      rw [List.mem_append, List.mem_singleton, R.mem i, pk.mem_iff, List.mem_cons]
      exact Or.comm
    have hsz : e1.size = n + 1 := by rw [← Array.length_toList, pc.length_eq, List.length_cons, Array.length_toList, R.num]
    have hb1 : e1.size < scanBound := by rw [hsz]; exact room
    have hled : w.params.followText "set-order" = true ∨ t1.led = true := R.led.imp id fun z => by rw [l1]; exact z
    have fin : ∀ b h', Heap.SameBut a s.heap h' → SetXs P w h' a (ys ++ [k]) e1.size → Q b { s with heap := h' } := fun b h' sb r => hQ b h' _ sb r (Nat.le_of_eq hsz)
    refine wpAny_bind (hgw _ ?_)
    split
    · refine wpAny_bind ?_
      rw [hashByValue_scannable 8 hsc]
      refine wpAny_pure ?_
      refine setX_tail ?_ ho R.ex hd g1 nd1 m1 hb1 ?_ ?_ ?_ ?_
      · intro b s₁ Q' q; cases b <;> first | exact wpAny_pure q | exact wpAny_rule q
      · first | (split <;> first | exact f1 | exact SetTable.fits_plain_off f1) | exact f1
      · first | (split <;> exact r1) | exact r1
      · first | (split <;> exact hled) | exact hled
      · intro h' sb r; dsimp only; exact wpAny_pure (fin _ h' sb r)
    · refine wpAny_bind (wpAny_pure ?_)
      simp only [↓reduceIte]
      refine setX_tail ?_ ho R.ex hd g1 nd1 m1 hb1 f1 r1 hled ?_
      · intro b s₁ Q' q; cases b <;> first | exact wpAny_pure q | exact wpAny_rule q
      · intro h' sb r; dsimp only; exact wpAny_pure (fin _ h' sb r)
end

/-- a set under way: it holds the first i of ys -/
def PartX (P : Program) (w : World) (ys : List PySem.Str) (a : Addr) (h : Heap) (i : Nat) (c : Nat) : Prop := SetXs P w h a (ys.take i) c ∧ c ≤ i
section
variable {P : Program} {w : World} {A : Around} {E : Value → Shared → Prop} {s : Shared} {ys : List PySem.Str}
theorem PartX.at {a : Addr} {h h' : Heap} {i c : Nat} (p : PartX P w ys a h i c) (k : ∀ o, h.get? a = some o → h'.get? a = some o) : PartX P w ys a h' i c := ⟨p.1.at k, p.2⟩
theorem PartX.start {h : Heap} {a : Addr} (ho : h.get? a = some (so (!w.params.followText "set-order"))) : PartX P w ys a h 0 0 :=
  ⟨⟨_, #[], 0, _, ho, ⟨rfl, rfl, rfl⟩, rfl, (fun e he => by simp at he), (by simp), (fun k => by simp), (by decide), (by rfl), rfl, List.Pairwise.nil, by
    show _ ∨ (!w.params.followText "set-order") = true
    cases w.params.followText "set-order"
    · exact .inr rfl
    · exact .inl rfl⟩, Nat.le_refl _⟩
theorem code_setX1 (x : Value) {Q₁ : Value → Shared → Prop} (h : Q₁ (.ref s.heap.objs.size) { s with heap := s.heap.push (so (!w.params.followText "set-order")) }) :
    codeAny (model P w) A (.call (.builtin "set.__new__") ⟨[.type "set", x], []⟩) (wants Q₁ E) s := by
  refine codeAny_of_tree ?_
  show wpAny _ A.in1 (checkBuiltinCall "set.__new__" ⟨[.type "set", x], []⟩ >>= fun _ => again (.builtin "set.__new__" ⟨[.type "set", x], []⟩)) _ _ s
  refine wpAny_bind (wpAny_of_eq (PySem.F.newCall_set_1 x) (wpAny_pure ⟨plainId_quiet PySem.F.plain_set_new _, codeAny_builtin PySem.F.entry_set_new ?_⟩))
  rw [Around.under_plainId PySem.F.plain_set_new _]
  unfold Builtin.«set.__new__» Builtin.Frozenset.newClass
  have hsub := sub_set_self
  obtain ⟨hp, g, d, tk, os⟩ := s
  dsimp only
  wp_walk
  refine wpAny_askSetting (wpAny_pure ?_)
  dsimp only
  simp only [newObj]
  exact wpAny_bind (wpAny_alloc (wpAny_pure (wpAny_pure h)))
theorem fillX {I : Addr} {fp wr : List Addr} {G : Array GenState → Array GenState → Prop} {n : Nat} {Pv : Nat → Value → Prop} {St : Nat → Shared → Prop} {R : Result → Shared → Prop} (W : WalksS P w A.in1 I fp wr G n Pv St)
    {a : Addr} (ha : a ∉ fp) (hn : n = ys.length) (hb : n + 1 < scanBound) (hv : ∀ i v, Pv i v → ∃ y t, ys[i]? = some y ∧ v = .str y t) (fin : ∀ s' c, Moved (a :: wr) G s s' → PartX P w ys a s'.heap n c → R (.ok (.ret .none)) s') :
    ∀ (k i c : Nat) (s1 : Shared), i + k = n → St i s1 → PartX P w ys a s1.heap i c → Moved (a :: wr) G s s1 → codeAny (model P w) A (.builtin "set.update.loop" ⟨[.ref a, .ref I], []⟩) R s1
  | 0, i, c, s1, e, st, p, mv => codeAny_builtin F.entry_set_update_loop <| by
    cases (Nat.add_zero i).symm.trans e
    rw [Around.under_plainId F.plain_set_update_loop _]
    refine wpAny_bind (m := pyNext (.ref I)) (W.done s1 _ _ st fun s2 hm => wpAny_pure ?_)
    exact fin s2 c (mv.trans W.gtrans (hm.mono fun b z => .tail _ z)) (p.at fun o => hm.heap a o fun z => ha (W.sub _ z))
  | k + 1, i, c, s1, e, st, p, mv => codeAny_builtin F.entry_set_update_loop <| by
    rw [Around.under_plainId F.plain_set_update_loop _]
    refine wpAny_bind (m := pyNext (.ref I)) (W.item i s1 _ _ (by omega) st fun v s2 pv st2 hm => ?_)
    obtain ⟨y, t, hy, ev⟩ := hv i v pv
    subst ev
    have p2 := p.at fun o => hm.heap a o fun z => ha (W.sub _ z)
    refine wpAny_bind (m := holding [Value.str y t] (setAdd a (.str y t))) (wpAny_holding (wpAny_holding ?_))
    refine wpAny_bind ((mixKind P w).pyHash (k := Sum.inr y) (beq_self_eq_true y) ?_)
    refine setX_add (s := { s2 with toks := s2.toks + 1 }) p2.1 (by have := p2.2; omega) fun bb h' c' but so' le' => wpAny_pure ?_
    have p3 : PartX P w ys a h' (i + 1) c' := ⟨by rw [List.take_add_one, hy]; exact so', by have := p2.2; omega⟩
    have far : ∀ b, b ≠ a → ∀ o, s2.heap.get? b = some o → h'.get? b = some o := fun b ne o z => (but.2 b ne).trans z
    refine ⟨plainId_quiet F.plain_set_update_loop _, fillX W ha hn hb hv fin k (i + 1) c' _ (by omega) ?_ p3 ?_⟩
    · exact W.frame _ s2 _ _ st2 (Nat.le_succ _) fun b hb o z => far b (fun q => ha (by rw [← q]; exact hb)) o z
    · exact mv.trans W.gtrans (((hm.mono fun b z => .tail _ z)).then_heap (Nat.le_succ _) fun b o hb z => far b (fun q => hb (by rw [q]; exact .head _)) o z)
set_option maxHeartbeats 6400000 in
theorem call_setX {l : Addr} {its : Array Value} {Q : Value → Shared → Prop} (hh : A.handled = none) (hl : s.heap.IsList l its) (hv : ∀ (i : Nat) v, its[i]? = some v → ∃ y t, ys[i]? = some y ∧ v = .str y t) (hn : its.size = ys.length) (hb : its.size + 1 < scanBound)
    (fin : ∀ (h' : Heap) (tk c : Nat), PartX P w ys s.heap.objs.size h' ys.length c → (∀ b o, s.heap.get? b = some o → h'.get? b = some o) → Q (.ref s.heap.objs.size) { s with heap := h', toks := tk }) :
    wpAny (model P w) A (call (.type "set") [.ref l]) Q E s := by
  have F0 := PySem.F.called_set
  obtain ⟨cc, tl, m1⟩ := F0.mro
  have m2 := F0.made
  have m3 := F0.sub
  have m4 := F0.notType
  have m5 := F0.canCreate
  have m6 := PySem.F.typeCall_set_1 (.ref l)
  refine wpAny_call <| codeAny_of_tree <| wpAny_pure ⟨Code.quiet_builtin _ (by decide +kernel), codeAny_builtin PySem.F.entry_type_call <| by
    rw [Around.under_plain (weight_type_call_type "set" [.ref l] []) rfl]
    repeat (any_goals (first | assumption | wp_step))
    refine codeAny_mono (code_setX1 (.ref l) (E := E) (Q₁ := fun v s1 => v = .ref s.heap.objs.size ∧ s1 = { s with heap := s.heap.push (so (!w.params.followText "set-order")) }) ⟨rfl, rfl⟩) ?_
    intro r s1 hr
    match r, hr with
    | .error e, hr => exact hr
    | .ok (.ret v), ⟨e1, e2⟩ =>
      subst e1; subst e2
      have at0 : (s.heap.push (so (!w.params.followText "set-order"))).get? s.heap.objs.size = some (so (!w.params.followText "set-order")) := Heap.get?_push_size _ rfl
      have ty : Shared.TypeIs { s with heap := s.heap.push (so (!w.params.followText "set-order")) } (.ref s.heap.objs.size) "set" := ⟨_, at0, rfl⟩
      have n1 := F0.init.lookup
      have n2 := F0.init.bind (.ref s.heap.objs.size)
      repeat (any_goals (first | assumption | wp_step))
      refine codeAny_mono (codeAny_call_builtin (R := wants (fun r s2 => r = .none ∧ ∃ h' tk c, s2 = { s with heap := h', toks := tk } ∧ PartX P w ys s.heap.objs.size h' ys.length c ∧ ∀ b o, s.heap.get? b = some o → h'.get? b = some o) E) F0.init.plain PySem.F.entry_set_init (check_set_init_1 ty ?_)) ?_
      rotate_left 1
      · intro r2 s2 hr2
        match r2, hr2 with
        | .error e, hr2 => exact hr2
        | .ok (.ret r), ⟨e1, h', tk, c, e2, pt, kp⟩ =>
          subst e1; subst e2
          repeat (any_goals (first | assumption | wp_step))
          exact fin h' _ c pt kp
      · have pre : ∀ b o, s.heap.get? b = some o → (s.heap.push (so (!w.params.followText "set-order"))).get? b = some o := fun b o z => Heap.get?_push_of_some _ z
        obtain ⟨ob, hob, hc, nn, hd⟩ := hl
        obtain ⟨c0, d0, dat, sl0⟩ := ob
        cases hc; cases hd
        have hob1 := pre _ _ hob
        have il : (s.heap.push (so (!w.params.followText "set-order"))).IsList l its := ⟨_, hob1, rfl, nn, rfl⟩
        have q1 := PySem.F.sub_list_set
        have q2 := PySem.F.sub_list_frozenset
        have q3 : (Value.type "list" == Value.type "dict") = false := by decide
        unfold Builtin.«set.__init__» noKeywords Builtin.Frozenset.updateFrom
        generalize hPI : pyIter = PI
        wp_walk
        cases hPI
        refine wpAny_pyIter_list il (wpAny_bind (wpAny_runValue ?_))
        have z1 : (s.heap.push (so (!w.params.followText "set-order"))).objs.size = s.heap.objs.size + 1 := Heap.size_push ..
        have z2 : l < s.heap.objs.size := Heap.lt_size hob
        have ne : l ≠ (s.heap.push (so (!w.params.followText "set-order"))).objs.size := by rw [z1]; exact Nat.ne_of_lt (Nat.lt_succ_of_lt z2)
        have out : s.heap.objs.size ∉ [(s.heap.push (so (!w.params.followText "set-order"))).objs.size, l] := by
          rw [z1]; simp only [List.mem_cons, List.not_mem_nil, or_false, not_or]; exact ⟨Nat.ne_of_lt (Nat.lt_succ_self _), Nat.ne_of_gt z2⟩
        have hd3 : A.in1.in1.in1.handled = none := by simp [hh]
        refine fillX (ys := ys) ((Walks.list hd3 _ l ne its).toS) out hn hb hv ?_ its.size 0 0 _ (Nat.zero_add _) ⟨⟨_, Heap.get?_push_size _ rfl, rfl, rfl⟩, il.push _⟩ (PartX.start (Heap.get?_push_of_some _ at0)) (Moved.refl fun _ => rfl)
        rintro ⟨h', g', d', tk', os'⟩ c mv pt
        cases show g' = s.gens from mv.gens
        cases show d' = s.drawn from mv.drawn
        cases show os' = s.os from mv.os
        refine wpAny_pure (wpAny_pure ⟨rfl, h', tk', c, rfl, hn ▸ pt, fun b o z => ?_⟩)
        have lt : b < s.heap.objs.size := Heap.lt_size z
        refine mv.heap b o ?_ (Heap.get?_push_of_some _ (pre b o z))
        rw [z1]; simp only [List.mem_cons, List.not_mem_nil, or_false, not_or]; exact ⟨Nat.ne_of_lt lt, Nat.ne_of_lt (Nat.lt_succ_of_lt lt)⟩
  ⟩
end
section
variable {X : Cx}
/-- the set of texts at p: its members are those of ys -/
def SetXO (P : Program) (w : World) (p : Addr) (ys : List PySem.Str) (n : Nat) : HO := .ext fun h => SetXs P w h p ys n
def rSetX (K : PySem.W.Frag) (P : Program) (w : World) : List V → Hp → VK → Prop := fun xs H Q => ∃ (l : Addr) (ys : List PySem.Str), xs = [.ref l] ∧ SqL K H l (ys.map V.str) ∧ ys.length < 64 ∧ ∀ (p : Addr) (n : Nat), H p = none → n ≤ ys.length → Q (.ref p) (upd H p (SetXO P w p ys n))
theorem setX_new {P : Program} {w : World} {H : Hp} {h : Heap} {a : Addr} {ys : List PySem.Str} {n : Nat} (R : SetXs P w h a ys n) : ObjOk P w H h a (SetXO P w a ys n) := by
  have ⟨o, _, _, _, r⟩ := R
  exact ⟨R, ⟨o, r.at_⟩, fun h1 h2 p k => SetXs.at p k⟩
theorem cr_setX (hc : X.calm = true) : CallR X (.type "set") (rSetX X.K X.prog X.w) := by
  intro pins s σ H xs us Q I r ⟨l, ys, e, hl, h64, q⟩
  subst e
  obtain ⟨u, eu, ru⟩ := r.one
  subst eu; cases ru
  obtain ⟨its, rv, pl, hz⟩ := I.list hl
  have hlen : its.toArray.size = ys.length := by rw [List.size_toArray, ← rv.length, List.length_map]
  refine call_setX (ys := ys) (I.ok.hd hc) pl.isList (fun i v hv => ?_) hlen (by rw [hlen]; unfold scanBound; omega) fun h' tk c pt kp => ?_
  · have hv' : its[i]? = some v := by simpa using hv
    cases hy : ys[i]? with
    | none => rw [rv.none_of (by rw [List.getElem?_map, hy]; rfl)] at hv'; cases hv'
    | some y =>
      obtain ⟨v', h1, ⟨t, h2⟩⟩ := rv.get (i := i) (x := .str y) (by rw [List.getElem?_map, hy]; rfl)
      rw [hv'] at h1; cases h1
      exact ⟨y, t, rfl, h2⟩
  · have e1 : ys.take ys.length = ys := List.take_length
    have po := pt.1
    rw [e1] at po
    exact ⟨.ref _, upd H s.heap.objs.size (SetXO X.prog X.w s.heap.objs.size ys c), I.laid (t' := tk) kp (Nat.le_refl _) (setX_new po), rfl, q _ c (I.hok.fresh (Nat.le_refl _)) pt.2⟩
end
end Mc
namespace Mc
open PySem L2 PySem.Spec PyProof.Rows
/-! ### sorted(a set of texts), sorted(a tuple of texts) -/
section
variable {P : Program} {w : World} {A : Around} {E : Value → Shared → Prop} {s : Shared} {a : Addr} {ys : List PySem.Str} {n : Nat}
theorem strs_txt : ∀ (l : List Value), (∀ v ∈ l, ∃ x tk, v = Value.str x tk) → ∃ xs, StrsAre l xs ∧ xs = l.map fun v => txtOf (0, v)
  | [], _ => ⟨[], .nil, rfl⟩
  | v :: l, h => by
    obtain ⟨x, tk, rfl⟩ := h v List.mem_cons_self
    obtain ⟨xs, h1, h2⟩ := strs_txt l fun u hu => h u (List.mem_cons_of_mem _ hu)
    exact ⟨x :: xs, .cons x tk h1, by rw [List.map_cons, ← h2]; rfl⟩
/-- the tail of sorted: the new list is sorted -/
theorem srt_tail {vs : List Value} {xs : List PySem.Str} {Q : Value → Shared → Prop} (hS : StrsAre vs xs) (h64 : xs.length < 64)
    (fin : ∀ (h' : Heap) (p : Addr) (out : List Value) (c : Nat) (zs : List PySem.Str), (∀ b o, s.heap.get? b = some o → h'.get? b = some o) → s.heap.objs.size ≤ p → h'.get? p = some (seqObj "list" out.toArray c) → StrsAre out zs → zs.Perm xs → sortedS zs = true → Q (.ref p) { s with heap := h' }) :
    wpAny (model P w) A (newList vs >>= fun l => holding [l] (call (.builtin "list.sort") [l] []) >>= fun _ => ret l) (fun f s' => ∃ v, f = Fin.done (.ret v) ∧ Q v s') E s := by
  have hl : vs.length = xs.length := hS.len_eq
  refine wpAny_bind (wpAny_newList ?_ (by rw [hl, sizeLine_eq]; omega))
  have hoL : (s.heap.push (seqObj "list" vs.toArray 0)).get? s.heap.objs.size = some (seqObj "list" vs.toArray 0) := Heap.get?_push_size _ rfl
  refine wpAny_bind (wpAny_holding (wpAny_call_entry slot_list_sort ⟨_, hoL, rfl⟩ entry_list_sort
    (list_sort_treeK strKind_oneLt (s := { s with heap := s.heap.push (seqObj "list" vs.toArray 0) }) hoL hS.keysOf (fun v₁ v₂ rest e => keyKind_strs (by rw [← e]; exact hS)) (by rw [hl]; exact h64) fun st' hp hs => ⟨_, rfl, ?_⟩) (args_list_sort _)))
  obtain ⟨zs, g1, g2, g3⟩ := sorted_out_str hS hp hs
  obtain ⟨c, hc⟩ := sortedHeap_at (vs := vs) (out := (arrOf st').map (·.2)) hoL
  refine wpAny_pure ⟨_, rfl, fin _ s.heap.objs.size ((arrOf st').map (·.2)).toList c zs (fun b o e => ?_) (Nat.le_refl _) (by rw [Array.toArray_toList]; exact hc) g1 g2 g3⟩
  have hb := Heap.lt_size e
  rw [sortedHeap_old (Nat.ne_of_lt hb) (by rw [size_push']; exact Nat.lt_succ_of_lt hb)]
  exact Heap.get?_push_of_some _ e
end
section
variable {X : Cx}
def rSrtX (P : Program) (w : World) : List V → Hp → VK → Prop := fun xs H Q => ∃ (a : Addr) (ys : List PySem.Str) (n : Nat), xs = [.ref a] ∧ H a = some (SetXO P w a ys n) ∧ n < 64 ∧
  ∀ (zs : List PySem.Str) (p : Addr), zs.Nodup → (∀ x, x ∈ zs ↔ x ∈ ys) → sortedS zs = true → H p = none → Q (.ref p) (upd H p (.lst (zs.map V.str)))
theorem cr_srtX (hc : X.calm = true) : CallR X (.builtin "sorted") (rSrtX X.prog X.w) := by
  intro pins s σ H xs us Q I r h
  obtain ⟨a, ys, n, rfl, ha, h64, q⟩ := h
  obtain rfl := Vals.ref1 r
  obtain ⟨o, es, ep, t, R⟩ := ((I.hok a _ ha).1 : SetXs X.prog X.w s.heap a ys n)
  refine Calls.call_function_entry kind_sorted plain_sorted entry_sorted (args_sorted1 _) ?_
  unfold Builtin.«sorted»
  refine wpAny_bind (m := checkCount "sorted" 1 1 _) (wpAny_pure ?_)
  refine wpAny_bind (collect_set (A := X.A.in1) (I.ok.hd hc) ⟨o, R.at_, R.ex.1, R.dat⟩ R.fits R.room R.ris R.led fun s1 vs k1 hz g1 o1 pm => ?_)
  have hvt : ∀ v ∈ vs, ∃ x tk, v = Value.str x tk := fun v hv => by
    obtain ⟨e, he, q⟩ := List.mem_map.mp (pm.mem_iff.mp hv)
    obtain ⟨x, tk, h1, _⟩ := R.good e he
    exact ⟨x, tk, by rw [← q]; exact h1⟩
  obtain ⟨xs, hS, ex⟩ := strs_txt vs hvt
  have pk : xs.Perm (es.toList.map txtOf) := by
    have z := pm.map fun v => txtOf (0, v)
    rw [List.map_map] at z
    rw [ex]
    exact z
  have hlx : xs.length = n := by rw [pk.length_eq, List.length_map, Array.length_toList]; exact R.num
  refine wpAny_mono (srt_tail (A := X.A.in1) (Q := EP X pins σ Q) hS (by rw [hlx]; exact h64) fun h' p out c zs k hp hg hz' pz sz => ?_) (fun _ _ z => z) fun _ _ z => z
  have hlen : (zs.map V.str).length ≤ sizeLine := by rw [List.length_map, pz.length_eq, hlx, sizeLine_eq]; omega
  have hp' : s.heap.objs.size ≤ p := Nat.le_trans hz hp
  have kk : ∀ b u, s.heap.get? b = some u → h'.get? b = some u := fun b u z => k b u (k1 b u z)
  have hn : H p = none := I.hok.fresh hp'
  have J : Inv X pins σ (upd H p (.lst (zs.map V.str))) { s with heap := h', gens := s1.gens, drawn := s1.drawn, toks := s1.toks } :=
    I.call (ch := []) (Un.laid kk hp' hn) (I.hok.laid kk hp' ⟨hlen, out, c, vals_of_strs hz', hg⟩) (by rw [g1]; exact I.bare) (fun _ z => nomatch z)
  have e : { s1 with heap := h' } = { s with heap := h', gens := s1.gens, drawn := s1.drawn, toks := s1.toks } := by
    cases s1
    cases s
    cases o1
    rfl
  rw [e]
  refine ⟨.ref p, _, J, rfl, q zs p (((pz.trans pk).nodup_iff).mpr R.nd) (fun x => ?_) sz hn⟩
  rw [(pz.trans pk).mem_iff, R.mem x]
/-- sorted(t), t a tuple of texts -/
def rSrtT (K : PySem.W.Frag) : List V → Hp → VK → Prop := fun vs H Q => ∃ (a : Addr) (xs : List PySem.Str), vs = [V.ref a] ∧ SqT K H a (xs.map V.str) ∧ xs.length < 64 ∧ ∀ (ys : List PySem.Str) (p : Addr), ys.Perm xs → sortedS ys = true → H p = none → Q (.ref p) (upd H p (.lst (ys.map V.str)))
theorem cr_srtT : CallR X (.builtin "sorted") (rSrtT X.K) := by
  intro pins s σ H vs us Q I r h
  obtain ⟨a, xs, rfl, ha, h64, q⟩ := h
  obtain rfl := Vals.ref1 r
  obtain ⟨its, rv, pl, hz⟩ := I.tuple ha
  obtain ⟨ob, ho, hcl, nn, hdt⟩ := pl
  have hS : StrsAre its xs := strs_of_vals rv
  have hl : its.length = xs.length := hS.len_eq
  refine Calls.call_function_entry kind_sorted plain_sorted entry_sorted (args_sorted1 _) ?_
  unfold Builtin.«sorted»
  refine wpAny_bind (m := checkCount "sorted" 1 1 _) (wpAny_pure ?_)
  refine wpAny_bind (collect_tupE ho hcl hdt (by rw [hl, sizeLine_eq]; omega) ?_)
  have k' : ∀ b o, s.heap.get? b = some o → ((s.heap.push (seqObj "list" #[] 0)).update s.heap.objs.size (Obj.mapSeq (· ++ its.toArray))).get? b = some o := fun b o z => by
    rw [Heap.get?_update_ne _ _ _ _ (Nat.ne_of_lt (Heap.lt_size z))]
    exact Heap.get?_push_of_some _ z
  have I1 : Inv X pins σ H { s with heap := (s.heap.push (seqObj "list" #[] 0)).update s.heap.objs.size (Obj.mapSeq (· ++ its.toArray)) } := I.kept (t' := s.toks) k'
  refine wpAny_mono (srt_tail (A := X.A.in1) (Q := EP X pins σ Q) hS h64 fun h' p out c zs k hp hg hz' pz sz => ?_) (fun _ _ z => z) fun _ _ z => z
  have hlen : (zs.map V.str).length ≤ sizeLine := by rw [List.length_map, pz.length_eq, sizeLine_eq]; omega
  exact ⟨.ref p, upd H p (.lst (zs.map V.str)), I1.laid (t' := s.toks) k hp ⟨hlen, out, c, vals_of_strs hz', hg⟩, rfl, q zs p pz sz (I1.hok.fresh hp)⟩
end
end Mc
namespace Mc
open PySem L2 PySem.Spec PyProof.Rows Evl
/-! comprehensions over any source; items that are new objects, told by a relation -/
section
variable {α : Type} {c : α → V} {ys : List α} {J : It} {n : Nat} {G : Hp → Prop} {te : TE} {vs : List Nat} {σ : L2.St} {H1 : Hp} {D : Addr} {Qd : Hp → Prop} {j : Nat} {tt : TT}
theorem prd_imp {α β : Type} {F G : α → β → Prop} (hFG : ∀ a b, F a b → G a b) : ∀ {xs : List α} {ys : List β}, Paired F xs ys → Paired G xs ys
  | _, _, .nil => .nil
  | _, _, .cons r t => .cons (hFG _ _ r) (prd_imp hFG t)
theorem prd_snoc {α β : Type} {F : α → β → Prop} : ∀ {xs : List α} {ys : List β} {x : α} {y : β}, Paired F xs ys → F x y → Paired F (xs ++ [x]) (ys ++ [y])
  | _, _, _, _, .nil, h => .cons h .nil
  | _, _, _, _, .cons r t, h => .cons r (prd_snoc t h)
theorem prd_get {α β : Type} {F : α → β → Prop} : ∀ {xs : List α} {ys : List β}, Paired F xs ys → ∀ {i : Nat} {x : α}, xs[i]? = some x → ∃ y, ys[i]? = some y ∧ F x y
  | _, _, .cons r t, 0, x, h => ⟨_, rfl, by cases Option.some.inj h; exact r⟩
  | _, _, .cons r t, i + 1, x, h => prd_get t (by simpa using h)
theorem prd_mem {α β : Type} {F : α → β → Prop} : ∀ {xs : List α} {ys : List β}, Paired F xs ys → ∀ {y : β}, y ∈ ys → ∃ x ∈ xs, F x y
  | _, _, .cons r t, y, h => (List.mem_cons.mp h).elim (fun e => ⟨_, .head _, e ▸ r⟩) fun h => by
    obtain ⟨x, hx, q⟩ := prd_mem t h
    exact ⟨x, .tail _ hx, q⟩
theorem lc_R (w : Walk J n G (YAt (ys.map c))) (p : α → Bool) (R : α → V → Hp → Prop) (per : ∀ y v H H', R y v H → Same H H' → R y v H') (hn : n = ys.length) (hD : H1 D = none) (hG : ∀ H', Same H1 H' → G H') (hz : ys.length ≤ sizeLine)
    (test : ∀ (i : Nat) (y : α) (H' : Hp) (k : Bool → Hp → Prop), ys[i]? = some y → Same H1 H' → (∀ H4, Same H' H4 → k (p y) H4) → tt ((wipe σ vs).set j (some (c y))) H' k)
    (turn : ∀ (i : Nat) (y : α) (H' : Hp) (k : VK), ys[i]? = some y → p y = true → Same H1 H' → (∀ v H4, Same H' H4 → R y v H4 → k v H4) → te ((wipe σ vs).set j (some (c y))) H' k)
    (hd : ∀ us H', Same H1 H' → H' D = some (.lst us) → Paired (fun y v => R y v H') (ys.filter p) us → Qd H') (hw : ∀ v, wipe ((wipe σ vs).set j (some v)) vs = wipe σ vs := by intro _; rfl)
    (perD : ∀ y v H u, R y v H → H D = some (.lst u) → ∀ u', R y v (upd H D (.lst u'))) :
    ∃ W : Nat → Nat → Hp → Prop, (∃ m, W 0 m (upd H1 D (.lst []))) ∧ ∀ i m H, W i m H →
      (J.stop i H ∧ Qd H) ∨ (J.go i H ∧ ∃ Nx : Hp → Prop, (∀ H', Nx H' → ∃ m', m' < m ∧ W (i + 1) m' H') ∧ ∀ x H', J.yld i H x H' → gName j x (wipe σ vs) H' fun σ2 H2 => wipe σ2 vs = wipe σ vs ∧ tt σ2 H2 fun b H3 =>
        if b = true then te σ2 H3 fun y H4 => ∃ acc, H4 D = some (.lst acc) ∧ acc.length < sizeLine ∧ Nx (upd H4 D (.lst (acc ++ [y]))) else Nx H3) := by
  refine lc_it w (fun i H' => Same H1 H' ∧ ∃ us, H' D = some (.lst us) ∧ Paired (fun y v => R y v H') ((ys.take i).filter p) us) ⟨Same.new hD, [], upd_same, .nil⟩ (fun i H' _ z => hG H' z.1) ?_ ?_
  · rintro i x H H' hi ⟨s1, us, d1, pr⟩ ⟨rfl, hx⟩
    rw [List.getElem?_map] at hx
    cases e : ys[i]? with
    | none => rw [e] at hx; cases hx
    | some y =>
      rw [e] at hx
      obtain rfl := Option.some.inj hx
      have et : (ys.take (i + 1)).filter p = (ys.take i).filter p ++ (if p y = true then [y] else []) := by
        rw [List.take_add_one, e, List.filter_append]
        show _ ++ [y].filter p = _
        rw [List.filter_cons]
        split <;> rfl
      refine ⟨hw _, test i y _ _ e s1 fun H3 s3 => ?_⟩
      by_cases hp : p y = true
      · rw [if_pos hp]
        refine turn i y _ _ e hp (s1.trans s3) fun v H4 s4 hv => ⟨us, s4 _ _ (s3 _ _ d1), ?_, ?_, us ++ [v], upd_same, ?_⟩
        · have h1 := List.length_filter_le p (ys.take i)
          have h3 : (ys.take i).length < ys.length := by
            have := (List.getElem?_eq_some_iff.mp e).1
            rw [List.length_take]; omega
          have := Paired.length pr
          omega
        · exact fun b o z => by
            have nb : b ≠ D := ne_of_none z hD
            rw [upd_ne nb]
            exact s4 _ _ (s3 _ _ (s1 _ _ z))
        · rw [et, if_pos hp]
          exact prd_snoc (prd_imp (fun y v h => perD _ _ _ _ (per _ _ _ _ (per _ _ _ _ h s3) s4) (s4 _ _ (s3 _ _ d1)) _) pr) (perD _ _ _ _ hv (s4 _ _ (s3 _ _ d1)) _)
      · rw [if_neg hp]
        refine ⟨s1.trans s3, us, s3 _ _ d1, ?_⟩
        rw [et, if_neg hp, List.append_nil]
        exact prd_imp (fun y v h => per _ _ _ _ h s3) pr
  · rintro H ⟨s1, us, d1, pr⟩
    subst hn
    rw [List.take_length] at pr
    exact hd us H s1 d1 pr
end
/-! ### sources -/
/-- what is walked: these values, and it stands while the heap grows -/
def EvI (wi : TI) (σ : L2.St) (H : Hp) (vals : List V) : Prop := ∀ H1, Ex H H1 → ∀ R : It → Hp → Prop, (∀ J G H2, Ex H1 H2 → Walk J vals.length G (YAt vals) → (∀ H', Ex H2 H' → G H') → R J H2) → wi σ H1 R
section
variable {K : PySem.W.Frag} {σ : L2.St} {H : Hp} {tl te : TE} {t : TT} {a : Addr} {vals : List V} {wi : TI} {Q : VK} {ta : TA}
theorem EvI.mono {H' : Hp} (e : Ex H H') (h : EvI wi σ H vals) : EvI wi σ H' vals := fun H1 a R r => h H1 (e.trans a) R r
theorem ei_L (hl : Ev tl σ H (.ref a)) (h : SqL K H a vals) : EvI (iList K tl) σ H vals := fun H1 e R r => hl H1 e _ fun H2 e2 => ⟨a, rfl, ⟨_, ex_l (e.trans e2) h⟩, r _ _ H2 e2 walk_list fun H' e3 => ex_l ((e.trans e2).trans e3) h⟩
theorem ei_T (hl : Ev tl σ H (.ref a)) (h : SqT K H a vals) : EvI (iTup K tl) σ H vals := fun H1 e R r => hl H1 e _ fun H2 e2 => ⟨a, rfl, ⟨_, ex_t (e.trans e2) h⟩, r _ _ H2 e2 walk_tup fun H' e3 => ex_t ((e.trans e2).trans e3) h⟩
/-- over a new list, a new tuple -/
theorem ei_N (hl : EvL tl σ H vals) : EvI (iList K tl) σ H vals := fun H1 e R r => hl H1 e _ fun p H2 _ e2 h2 => ⟨p, rfl, ⟨_, sq_of h2⟩, r _ _ H2 e2 walk_list fun H' e3 => sq_of (e3 _ _ h2)⟩
theorem ei_U (hl : EvU tl σ H vals) : EvI (iTup K tl) σ H vals := fun H1 e R r => hl H1 e _ fun p H2 _ e2 h2 => ⟨p, rfl, ⟨_, st_of h2⟩, r _ _ H2 e2 walk_tup fun H' e3 => st_of (e3 _ _ h2)⟩
theorem ei_K {β : Type} {g : β → V} {l : List (PySem.Str × β)} {o : Obj} (hl : Ev tl σ H (.ref a)) (h : H a = some (.frz o (.dK (kvT g l)))) : EvI (iKeys tl) σ H ((keysT l).map V.str) := fun H1 e R r => hl H1 e _ fun H2 e2 => ⟨a, o, rfl, .inl ⟨_, e2 _ _ (e _ _ h), r _ (fun H => H a = some (.frz o (.dK (kvT g l)))) H2 e2 (by rw [List.length_map]; unfold keysT; rw [List.length_map]; exact (show Walk _ _ _ _ from by have := walk_kT (g := g) (l := l) (d := a) (o := o); unfold keysT at this; rwa [List.length_map] at this)) fun H' e3 => e3 _ _ (e2 _ _ (e _ _ h))⟩⟩
theorem ei_r1 {n : Int} (h : EvA ta σ H [.int n]) (h0 : -(2 ^ 62) ≤ n) (h1 : n < 2 ^ 62) : EvI (iRng1 ta) σ H ((List.range n.toNat).map fun i => V.int (i : Nat)) := fun H1 e R r => h H1 e _ fun H2 e2 => ⟨n, rfl, h0, h1, r _ _ H2 e2 (by
  have := walk_rng (lo := 0) (n := n.toNat)
  simp only [Int.zero_add] at this
  rw [List.length_map, List.length_range]
  exact this) fun _ _ => trivial⟩
theorem ei_r2 {lo hi : Int} (h : EvA ta σ H [.int lo, .int hi]) (b : -(2 ^ 62) ≤ lo ∧ lo < 2 ^ 62 ∧ -(2 ^ 62) ≤ hi ∧ hi < 2 ^ 62) : EvI (iRng2 ta) σ H ((List.range (hi - lo).toNat).map fun i => V.int (lo + (i : Nat))) := fun H1 e R r => h H1 e _ fun H2 e2 => ⟨lo, hi, rfl, b, r _ _ H2 e2 (by rw [List.length_map, List.length_range]; exact walk_rng) fun _ _ => trivial⟩
variable {α : Type} {ys : List α} {j : Nat} {vs : List Nat} {c : α → V}
theorem el_mI (f : α → V) (hi : EvI wi σ H (ys.map c)) (hz : ys.length ≤ 100000) (turn : ∀ (i : Nat) y, ys[i]? = some y → ∀ H', Ex H H' → Ev te ((wipe σ vs).set j (some (c y))) H' (f y)) (hw : ∀ v, wipe ((wipe σ vs).set j (some v)) vs = wipe σ vs := by intro _; rfl) :
    EvL (tLc wi (gName j) tYes te vs) σ H (ys.map f) := fun H1 e Q q => hi H1 e _ fun J G H2 e2 w hG D hD =>
  lc_m (j := j) (c := c) (ys := ys) w f (by rw [List.length_map]) hD hG (sz_of hz) (fun i y H' k hy s hk => turn i y hy H' ((e.trans e2).trans s) H' (Ex.refl _) k hk) (fun H' s hD' => q D H' (fresh_back e2 hD) (e2.trans s) hD') hw
theorem el_fI (p : α → Bool) (f : α → V) (hi : EvI wi σ H (ys.map c)) (hz : ys.length ≤ 100000) (test : ∀ (i : Nat) y, ys[i]? = some y → ∀ H', Ex H H' → EvT t ((wipe σ vs).set j (some (c y))) H' (p y))
    (turn : ∀ (i : Nat) y, ys[i]? = some y → p y = true → ∀ H', Ex H H' → Ev te ((wipe σ vs).set j (some (c y))) H' (f y)) (hw : ∀ v, wipe ((wipe σ vs).set j (some v)) vs = wipe σ vs := by intro _; rfl) :
    EvL (tLc wi (gName j) t te vs) σ H ((ys.filter p).map f) := fun H1 e Q q => hi H1 e _ fun J G H2 e2 w hG D hD =>
  lc_f (j := j) (c := c) (ys := ys) w p f (by rw [List.length_map]) hD hG (sz_of hz) (fun i y H' k hy s hk => test i y hy H' ((e.trans e2).trans s) H' (Ex.refl _) k hk) (fun i y H' k hy hp s hk => turn i y hy hp H' ((e.trans e2).trans s) H' (Ex.refl _) k hk) (fun H' s hD' => q D H' (fresh_back e2 hD) (e2.trans s) hD') hw
/-- a value that has some property behind it -/
def EvP (te : TE) (σ : L2.St) (H : Hp) (P : V → Hp → Prop) : Prop := ∀ H1, Ex H H1 → ∀ Q : VK, (∀ v H2, Ex H1 H2 → P v H2 → Q v H2) → te σ H1 Q
theorem EvU.p {xs : List V} (h : EvU te σ H xs) : EvP te σ H fun v H' => ∃ p, v = .ref p ∧ H' p = some (.tup xs) := fun H1 e Q q => h H1 e _ fun p H2 _ e2 h2 => q _ H2 e2 ⟨p, rfl, h2⟩
theorem EvL.p {xs : List V} (h : EvL te σ H xs) : EvP te σ H fun v H' => ∃ p, v = .ref p ∧ H' p = some (.lst xs) := fun H1 e Q q => h H1 e _ fun p H2 _ e2 h2 => q _ H2 e2 ⟨p, rfl, h2⟩
/-- a new list whose items are told by a relation -/
theorem el_RI (p : α → Bool) (R : α → V → Hp → Prop) (per : ∀ y v H H', R y v H → Same H H' → R y v H') (perD : ∀ y v H D u, R y v H → H D = some (.lst u) → (∀ y' v', R y' v' H → True) → ∀ u', R y v (upd H D (.lst u')))
    (hi : EvI wi σ H (ys.map c)) (hz : ys.length ≤ 100000) (test : ∀ (i : Nat) y, ys[i]? = some y → ∀ H', Ex H H' → EvT t ((wipe σ vs).set j (some (c y))) H' (p y))
    (turn : ∀ (i : Nat) y, ys[i]? = some y → p y = true → ∀ H', Ex H H' → EvP te ((wipe σ vs).set j (some (c y))) H' (R y)) (hw : ∀ v, wipe ((wipe σ vs).set j (some v)) vs = wipe σ vs := by intro _; rfl) :
    ∀ H1, Ex H H1 → ∀ Q : VK, (∀ D us H2, H1 D = none → Ex H1 H2 → H2 D = some (.lst us) → Paired (fun y v => R y v H2) (ys.filter p) us → Q (.ref D) H2) → tLc wi (gName j) t te vs σ H1 Q := fun H1 e Q q => hi H1 e _ fun J G H2 e2 w hG D hD =>
  lc_R (j := j) (c := c) (ys := ys) w p R per (by rw [List.length_map]) hD hG (sz_of hz) (fun i y H' k hy s hk => test i y hy H' ((e.trans e2).trans s) H' (Ex.refl _) k hk) (fun i y H' k hy hp s hk => turn i y hy hp H' ((e.trans e2).trans s) H' (Ex.refl _) k fun v H4 e4 hr => hk v H4 e4 hr)
    (fun us H' s hD' pr => q D us H' (fresh_back e2 hD) (e2.trans s) hD' pr) hw fun y v H u hr hu u' => perD y v H D u hr hu (fun _ _ _ => trivial) u'
/-- new tuples of values -/
def NewTup {α : Type} (f : α → List V) : α → V → Hp → Prop := fun y v H => ∃ p, v = .ref p ∧ H p = some (.tup (f y))
theorem el_uI (p : α → Bool) (f : α → List V) (hi : EvI wi σ H (ys.map c)) (hz : ys.length ≤ 100000) (test : ∀ (i : Nat) y, ys[i]? = some y → ∀ H', Ex H H' → EvT t ((wipe σ vs).set j (some (c y))) H' (p y))
    (turn : ∀ (i : Nat) y, ys[i]? = some y → p y = true → ∀ H', Ex H H' → EvU te ((wipe σ vs).set j (some (c y))) H' (f y)) (hw : ∀ v, wipe ((wipe σ vs).set j (some v)) vs = wipe σ vs := by intro _; rfl) :
    ∀ H1, Ex H H1 → ∀ Q : VK, (∀ D us H2, H1 D = none → Ex H1 H2 → H2 D = some (.lst us) → Paired (fun y v => NewTup f y v H2) (ys.filter p) us → Q (.ref D) H2) → tLc wi (gName j) t te vs σ H1 Q :=
  el_RI p (NewTup f) (fun y v H H' ⟨q, e, h⟩ s => ⟨q, e, s _ _ h⟩) (fun y v H D u ⟨q, e, h⟩ hu _ u' => ⟨q, e, by rw [upd_ne fun z => by rw [z, hu] at h; cases h]; exact h⟩) hi hz test (fun i y hy hp H' e => EvU.p (turn i y hy hp H' e)) hw
theorem et_yes : EvT tYes σ H true := fun H1 _ Q q => q H1 (Ex.refl _)
end
end Mc
namespace Mc
open PySem L2 PySem.Spec PyProof.Rows Evl
/-! ### a dict that is walked where it is made: it stays locked -/
def tFrz (t : TE) : TE := fun σ H Q => t σ H fun x H1 => ∃ d u, x = .ref d ∧ H1 d = some u ∧ Mut (some u) ∧ ∀ o, Q x (upd H1 d (.frz o u))
theorem pe_frz {X : Cx} {e : Expr} {t : TE} (h : PE X e t) : PE X e (tFrz t) := ⟨fun pins s σ H Q I hw => thn (h.run pins s σ H _ I hw) fun v s1 hv => by
  obtain ⟨x, H1, I1, r1, d, u, rfl, hd, mu, q⟩ := hv
  obtain ⟨od, I2⟩ := I1.lock hd mu
  exact ⟨_, _, I2, r1, q od⟩⟩
/-! ### xs.count(text) -/
theorem cntS : ∀ {xs : List PySem.Str} {its : List Value} {k : PySem.Str}, Vals (xs.map V.str) its → its.countP (isS k) = xs.count k
  | [], _, _, .nil => rfl
  | x :: xs, _ :: us, k, .cons ⟨t, e⟩ r => by
    subst e
    rw [List.countP_cons, List.count_cons, cntS (k := k) r]
    have e2 : isS k (.str x t) = (x == k) := by
      show (x.cps.toList == k.cps.toList) = (x == k)
      by_cases h : x = k
      · subst h; simp
      · have n1 : ¬ x.cps.toList = k.cps.toList := fun z => h (str_ext z)
        rw [beq_eq_false_iff_ne.mpr n1, beq_eq_false_iff_ne.mpr h]
    rw [e2]
section
variable {X : Cx} {K : PySem.W.Frag}
def rCntS (K : PySem.W.Frag) : V → List V → Hp → VK → Prop := fun x xs H Q => ∃ (p : Addr) (ys : List PySem.Str) (k : PySem.Str), x = .ref p ∧ xs = [.str k] ∧ SqL K H p (ys.map V.str) ∧ Q (.int (ys.count k : Nat)) H
theorem mt_lcountS : MtR X "list.count" (rCntS X.K) := by
  intro pins s σ H x xs v us Q I rx rxs h
  obtain ⟨p, ys, k, rfl, rfl, hs, q⟩ := h
  cases rx
  obtain ⟨u, rfl, ru⟩ := rxs.one
  obtain ⟨t, rfl⟩ := ru
  obtain ⟨its, rv, ⟨⟨cls, dd, data, sl⟩, n, ho, hc, hdn, hd⟩, hlen⟩ := I.list hs
  simp only at hc hd
  subst hc hd
  refine call_meets PySem.F.slot_list_count ⟨_, ho, rfl⟩ PySem.F.entry_list_count (PySem.F.args_list_count_2 _ _) (SeqAt.list_countAt p its.toArray n dd sl (.str k t) (isS k)) ⟨ho, fun y hy => ?_, ?_⟩
  · obtain ⟨i, hi⟩ := List.mem_iff_getElem?.mp (show y ∈ its by simpa using hy)
    cases hx : ys[i]? with
    | none => rw [rv.none_of (by rw [List.getElem?_map, hx]; rfl)] at hi; cases hi
    | some z =>
      obtain ⟨w', h1, ⟨t', h2⟩⟩ := rv.get (i := i) (x := .str z) (by rw [List.getElem?_map, hx]; rfl)
      rw [hi] at h1; cases h1
      rw [h2]
      exact (SeqRoads2.EqGives.str z k t' t).at _ _
  · refine ⟨.int (ys.count k : Nat), H, I.tok _, ⟨s.toks, ?_⟩, q⟩
    show Value.int ((its.toArray.toList.countP (isS k) : Nat) : Int) s.toks = Value.int ((ys.count k : Nat) : Int) s.toks
    rw [List.toList_toArray, cntS rv]
theorem mt_lcountSK (h : X.K = K) : MtR X "list.count" (rCntS K) := by subst h; exact mt_lcountS
end
/-! ### {k: e for k in ..} as a map -/
section
variable {f : PySem.Str → V} {ys : List PySem.Str} {J : It} {n : Nat} {G : Hp → Prop} {te : TE} {vs : List Nat} {σ : L2.St} {H1 : Hp} {D : Addr} {Qd : Hp → Prop} {j : Nat}
def mkD (f : PySem.Str → V) (ys : List PySem.Str) : List (L2.Key × V) := ys.map fun y => (Sum.inr y, f y)
theorem mkD_put {y : PySem.Str} (h : y ∉ ys) (f : PySem.Str → V) : putK (mkD f ys) (Sum.inr y) (f y) = mkD f (ys ++ [y]) := by
  have e1 : mkD f ys = kvT id (ys.map fun y => (y, f y)) := by unfold mkD kvT; rw [List.map_map]; rfl
  have e2 := put_new (f := (id : V → V)) (l := ys.map fun y => (y, f y)) (k := y) (v := f y) (by rw [keysT_mk]; exact h)
  rw [e1]
  refine e2.trans ?_
  unfold mkD kvT
  rw [List.map_append, List.map_map, List.map_append]
  rfl
theorem dc_m (w : Walk J n G (YAt (ys.map V.str))) (f : PySem.Str → V) (hn : n = ys.length) (nd : ys.Nodup) (hD : H1 D = none) (hG : ∀ H', Same H1 H' → G H') (hz : ys.length ≤ sizeLine)
    (turn : ∀ (i : Nat) (y : PySem.Str) (H' : Hp) (k : VK), ys[i]? = some y → Same H1 H' → (∀ H4, Same H' H4 → k (f y) H4) → te ((wipe σ vs).set j (some (.str y))) H' k)
    (hd : ∀ H', Same H1 H' → H' D = some (.dK (mkD f ys)) → Qd H') (hj : ∀ v, ((wipe σ vs).set j (some v))[j]? = some (some v) := by intro _; rfl) (hw : ∀ v, wipe ((wipe σ vs).set j (some v)) vs = wipe σ vs := by intro _; rfl) :
    ∃ W : Nat → Nat → Hp → Prop, (∃ m, W 0 m (upd H1 D (.dK []))) ∧ ∀ i m H, W i m H →
      (J.stop i H ∧ Qd H) ∨ (J.go i H ∧ ∃ Nx : Hp → Prop, (∀ H', Nx H' → ∃ m', m' < m ∧ W (i + 1) m' H') ∧ ∀ x H', J.yld i H x H' → gName j x (wipe σ vs) H' fun σ2 H2 => wipe σ2 vs = wipe σ vs ∧ tYes σ2 H2 fun b H3 =>
        if b = true then tVar j σ2 H3 fun y H4 => te σ2 H4 fun z H5 => ∃ kvs k, y = kV k ∧ H5 D = some (.dK kvs) ∧ kvs.length < sizeLine ∧ Nx (upd H5 D (.dK (putK kvs k z))) else Nx H3) := by
  refine ⟨fun i m H => m = n - i ∧ i ≤ n ∧ Same H1 H ∧ H D = some (.dK (mkD f (ys.take i))), ⟨n, by simp, Nat.zero_le _, Same.new hD, upd_same⟩, ?_⟩
  rintro i m H ⟨rfl, hi, s1, d1⟩
  by_cases hlt : i < n
  · refine .inr ⟨w.goes i H hlt (hG H s1), fun H' => Same H1 H' ∧ H' D = some (.dK (mkD f (ys.take (i + 1)))), fun H' p' => ⟨n - (i + 1), by omega, rfl, hlt, p'⟩, fun x H' y => ?_⟩
    obtain ⟨rfl, hx⟩ := w.yields i H x H' hlt (hG H s1) y
    rw [List.getElem?_map] at hx
    cases e : ys[i]? with
    | none => rw [e] at hx; cases hx
    | some c =>
      rw [e] at hx
      obtain rfl := Option.some.inj hx
      refine ⟨hw _, yes_ite ⟨_, hj _, turn i c _ _ e s1 fun H4 s4 => ⟨_, Sum.inr c, rfl, s4 _ _ d1, ?_, ?_, ?_⟩⟩⟩
      · unfold mkD; rw [List.length_map, List.length_take]; omega
      · exact fun b o z => by
          have nb : b ≠ D := ne_of_none z hD
          rw [upd_ne nb]
          exact s4 _ _ (s1 _ _ z)
      · rw [upd_same, mkD_put (nd_take nd e), List.take_add_one, e]
        rfl
  · obtain rfl : i = n := by omega
    subst hn
    rw [List.take_length] at d1
    exact .inl ⟨w.stops H (hG H s1), hd H s1 d1⟩
/-- a new dict -/
def EvD (te : TE) (σ : L2.St) (H : Hp) (kvs : List (L2.Key × V)) : Prop := ∀ H1, Ex H H1 → ∀ Q : VK, (∀ p H2, H1 p = none → Ex H1 H2 → H2 p = some (.dK kvs) → Q (.ref p) H2) → te σ H1 Q
theorem mkD_kvT {β : Type} {g : β → V} {h : PySem.Str → β} (ys : List PySem.Str) : mkD (fun y => g (h y)) ys = kvT g (ys.map fun y => (y, h y)) := by unfold mkD kvT; rw [List.map_map]; rfl
section
variable {K : PySem.W.Frag} {H : Hp} {tl : TE} {a : Addr}
theorem ed_N (f : PySem.Str → V) (nd : ys.Nodup) (hl : EvL tl σ H (ys.map V.str)) (hz : ys.length ≤ 100000) (turn : ∀ (i : Nat) y, ys[i]? = some y → ∀ H', Ex H H' → Ev te ((wipe σ vs).set j (some (.str y))) H' (f y)) (hj : ∀ v, ((wipe σ vs).set j (some v))[j]? = some (some v) := by intro _; rfl) (hw : ∀ v, wipe ((wipe σ vs).set j (some v)) vs = wipe σ vs := by intro _; rfl) :
    EvD (tDc (iList K tl) (gName j) tYes (tVar j) te vs) σ H (mkD f ys) := fun H1 e Q q => hl H1 e _ fun a H2 ha e2 h2 => ⟨a, rfl, ⟨_, sq_of h2⟩, fun D hD =>
  dc_m (j := j) (ys := ys) walk_list f (by rw [List.length_map]) nd hD (fun H' s => sq_of (s _ _ h2)) (sz_of hz) (fun i y H' k hy s hk => turn i y hy H' ((e.trans e2).trans s) H' (Ex.refl _) k hk) (fun H' s hD' => q D H' (fresh_back e2 hD) (e2.trans s) hD') hj hw⟩
theorem ed_K {β : Type} {g : β → V} {l : List (PySem.Str × β)} {o : Obj} (f : PySem.Str → V) (nd : (keysT l).Nodup) (hl : Ev tl σ H (.ref a)) (h : H a = some (.frz o (.dK (kvT g l)))) (hz : l.length ≤ 100000) (turn : ∀ (i : Nat) y, (keysT l)[i]? = some y → ∀ H', Ex H H' → Ev te ((wipe σ vs).set j (some (.str y))) H' (f y)) (hj : ∀ v, ((wipe σ vs).set j (some v))[j]? = some (some v) := by intro _; rfl) (hw : ∀ v, wipe ((wipe σ vs).set j (some v)) vs = wipe σ vs := by intro _; rfl) :
    EvD (tDc (iKeys tl) (gName j) tYes (tVar j) te vs) σ H (mkD f (keysT l)) := fun H1 e Q q => hl H1 e _ fun H2 e2 => ⟨a, o, rfl, .inl ⟨_, e2 _ _ (e _ _ h), fun D hD =>
  dc_m (j := j) (ys := keysT l) walk_kT f rfl nd hD (fun H' s => s _ _ (e2 _ _ (e _ _ h))) (by unfold keysT; rw [List.length_map]; exact sz_of hz) (fun i y H' k hy s hk => turn i y hy H' ((e.trans e2).trans s) H' (Ex.refl _) k hk) (fun H' s hD' => q D H' (fresh_back e2 hD) (e2.trans s) hD') hj hw⟩⟩
theorem ed_lock {kvs xs : List (L2.Key × V)} (h : H a = some (.dK kvs)) (k : ∀ od, EvD te σ (upd H a (.frz od (.dK kvs))) xs) : EvD (tLockE te) σ H xs := fun H1 e Q q => by
  have h1 := e _ _ h
  refine ⟨a, _, h1, trivial, fun od => k od _ (ex_lock e) _ fun p H2 hp e2 h2 => ?_⟩
  have na : p ≠ a := fun z => by rw [z, upd_same] at hp; cases hp
  exact ⟨e2 _ _ upd_same, q p _ (by rw [upd_ne na] at hp; exact hp) (ex_unlock h1 e2) (by rw [upd_ne na]; exact h2)⟩
end
end
end Mc
namespace Mc
open PySem L2 PySem.Spec PyProof.Rows Evl
theorem rising_pw : ∀ (r : List PySem.Str) (p : PySem.Str), risingS p r = true → (p :: r).Pairwise fun a b => ¬ ltN b a
  | [], p, _ => List.pairwise_singleton _ _
  | x :: r, p, h => by
    unfold risingS at h
    rw [Bool.and_eq_true] at h
    have ih := rising_pw r x h.2
    have px : ¬ ltN x p := by
      have h1 := h.1
      rw [ltCps_eq] at h1
      intro z
      rw [decide_eq_true (show x.cps.toList < p.cps.toList from z)] at h1
      cases h1
    refine List.pairwise_cons.mpr ⟨fun y hy => ?_, ih⟩
    rcases List.mem_cons.mp hy with e | e
    · rw [e]; exact px
    · intro z
      have xy := (List.pairwise_cons.mp ih).1 y e
      by_cases ep : p = x
      · rw [ep] at z; exact xy z
      · by_cases ey : y = x
        · rw [ey] at z; exact px z
        · exact ltN_irr _ (ltN_trans (ltN_trans (ltN_tri px fun q => ep q.symm) (ltN_tri xy ey)) z)
theorem srt_pw {ys : List PySem.Str} (h : sortedS ys = true) : ys.Pairwise fun a b => ¬ ltN b a := by
  cases ys with
  | nil => exact .nil
  | cons x r => exact rising_pw r x h
theorem srt_eq {ys zs : List PySem.Str} (hp : ys.Perm zs) (h1 : sortedS ys = true) (h2 : sortedS zs = true) : ys = zs :=
  List.Perm.eq_of_pairwise (le := fun a b => ¬ ltN b a) (fun a b _ _ h k => Classical.byContradiction fun n => h (ltN_tri k n)) (srt_pw h1) (srt_pw h2) hp
theorem perm_nd {α : Type} [DecidableEq α] {a b : List α} (h1 : a.Nodup) (h2 : b.Nodup) (h : ∀ x, x ∈ a ↔ x ∈ b) : a.Perm b := by
  refine List.perm_iff_count.mpr fun x => ?_
  by_cases e : x ∈ a
  · rw [h1.count, h2.count, if_pos e, if_pos ((h x).mp e)]
  · rw [h1.count, h2.count, if_neg e, if_neg fun z => e ((h x).mpr z)]
def pdS (xs : List PySem.Str) : PyData := .list (xs.map PyData.str)
theorem dpAllS (K : PySem.W.Frag) (H : Hp) : ∀ xs : List PySem.Str, DpAll K H (xs.map V.str) (xs.map PyData.str)
  | [] => .nil
  | x :: xs => .cons (.str x) (dpAllS K H xs)
theorem dpS {K : PySem.W.Frag} {H : Hp} {a : Addr} {xs : List PySem.Str} (h : SqL K H a (xs.map V.str)) : Dp K H (.ref a) (pdS xs) := .lst h (dpAllS K H xs)
theorem lay_of {x : PySem.Str} (h : PyData.strOk x = true) : PyData.canLay0 (.str x) = true := by rw [PyData.canLay0]; exact h
theorem layS : ∀ xs : List PySem.Str, (∀ x ∈ xs, PyData.strOk x = true) → PyData.canLayAll0 (xs.map PyData.str) = true
  | [], _ => rfl
  | x :: xs, h => by
    show (PyData.canLay0 (.str x) && PyData.canLayAll0 (xs.map PyData.str)) = true
    rw [layS xs fun y hy => h y (.tail _ hy), lay_of (h x (.head _))]; rfl
theorem depS : ∀ xs : List PySem.Str, PyData.depthAll (xs.map PyData.str) = 0
  | [] => rfl
  | x :: xs => by
    show max (PyData.depth (.str x)) (PyData.depthAll (xs.map PyData.str)) = 0
    rw [depS xs]; rfl
theorem shapedS {xs : List PySem.Str} (hx : ∀ x ∈ xs, PyData.strOk x = true) : SeqAt.shaped (pdS xs) = true := by
  have h : PyData.depth (pdS xs) = PyData.depthAll (xs.map PyData.str) + 1 := by unfold pdS; rw [PyData.depth]
  have h2 : (pdS xs).canLay0 = true := by unfold pdS; rw [PyData.canLay0]; exact layS xs hx
  unfold SeqAt.shaped
  rw [h, depS, h2]; rfl
theorem eqvS (xs : List PySem.Str) : PyData.eqv (pdS xs) (pdS xs) = true := by
  unfold pdS
  rw [PyData.eqv]
  induction xs with
  | nil => rfl
  | cons x xs ih =>
    show (PyData.eqv (.str x) (.str x) && PyData.eqvAll (xs.map PyData.str) (xs.map PyData.str)) = true
    rw [ih]
    simp [PyData.eqv]
theorem eqvAllS : ∀ xs ys : List PySem.Str, PyData.eqvAll (xs.map PyData.str) (ys.map PyData.str) = decide (xs = ys)
  | [], [] => rfl
  | [], y :: ys => by simp [PyData.eqvAll]
  | x :: xs, [] => by simp [PyData.eqvAll]
  | x :: xs, y :: ys => by
    show (PyData.eqv (.str x) (.str y) && PyData.eqvAll (xs.map PyData.str) (ys.map PyData.str)) = _
    rw [eqvAllS xs ys]
    have : PyData.eqv (.str x) (.str y) = (x == y) := by rw [PyData.eqv]
    rw [this]
    by_cases h : x = y <;> simp [h]
theorem eqvLS (xs ys : List PySem.Str) : PyData.eqv (pdS xs) (pdS ys) = decide (xs = ys) := by
  unfold pdS
  rw [PyData.eqv]
  exact eqvAllS xs ys
def pdTS (xs : List PySem.Str) : PyData := .tuple (xs.map PyData.str)
theorem eqvTS (xs ys : List PySem.Str) : PyData.eqv (pdTS xs) (pdTS ys) = decide (xs = ys) := by
  unfold pdTS
  rw [PyData.eqv]
  exact eqvAllS xs ys
theorem shapedTS {xs : List PySem.Str} (hx : ∀ x ∈ xs, PyData.strOk x = true) : SeqAt.shaped (pdTS xs) = true := by
  have h : PyData.depth (pdTS xs) = PyData.depthAll (xs.map PyData.str) + 1 := by unfold pdTS; rw [PyData.depth]
  have h2 : (pdTS xs).canLay0 = true := by unfold pdTS; rw [PyData.canLay0]; exact layS xs hx
  unfold SeqAt.shaped
  rw [h, depS, h2]; rfl
theorem dpTS {K : PySem.W.Frag} {H : Hp} {a : Addr} {xs : List PySem.Str} (h : SqT K H a (xs.map V.str)) : Dp K H (.ref a) (pdTS xs) := .tup h (dpAllS K H xs)
section
variable {K : PySem.W.Frag} {H : Hp} {p q : Addr} {xs ys : List PySem.Str}
theorem rv_eqSL (hp : SqL K H p (xs.map V.str)) (hq : SqL K H q (ys.map V.str)) (ox : ∀ x ∈ xs, PyData.strOk x = true) (oy : ∀ x ∈ ys, PyData.strOk x = true) : RV (rEqD K) (.ref p) (.ref q) H (.bl (decide (xs = ys))) := fun H1 e _ k =>
  ⟨_, _, dpS (ex_l e hp), dpS (ex_l e hq), shapedS ox, shapedS oy, by rw [eqvLS]; exact k H1 (Ex.refl _)⟩
theorem rv_neSL (hp : SqL K H p (xs.map V.str)) (hq : SqL K H q (ys.map V.str)) (ox : ∀ x ∈ xs, PyData.strOk x = true) (oy : ∀ x ∈ ys, PyData.strOk x = true) : RV (rNeD K) (.ref p) (.ref q) H (.bl (!decide (xs = ys))) := fun H1 e _ k =>
  ⟨_, _, dpS (ex_l e hp), dpS (ex_l e hq), shapedS ox, shapedS oy, by rw [eqvLS]; exact k H1 (Ex.refl _)⟩
theorem rv_eqST (hp : SqT K H p (xs.map V.str)) (hq : SqT K H q (ys.map V.str)) (ox : ∀ x ∈ xs, PyData.strOk x = true) (oy : ∀ x ∈ ys, PyData.strOk x = true) : RV (rEqD K) (.ref p) (.ref q) H (.bl (decide (xs = ys))) := fun H1 e _ k =>
  ⟨_, _, dpTS (ex_t e hp), dpTS (ex_t e hq), shapedTS ox, shapedTS oy, by rw [eqvTS]; exact k H1 (Ex.refl _)⟩
theorem rv_neST (hp : SqT K H p (xs.map V.str)) (hq : SqT K H q (ys.map V.str)) (ox : ∀ x ∈ xs, PyData.strOk x = true) (oy : ∀ x ∈ ys, PyData.strOk x = true) : RV (rNeD K) (.ref p) (.ref q) H (.bl (!decide (xs = ys))) := fun H1 e _ k =>
  ⟨_, _, dpTS (ex_t e hp), dpTS (ex_t e hq), shapedTS ox, shapedTS oy, by rw [eqvTS]; exact k H1 (Ex.refl _)⟩
end
theorem asc_eq {ys zs : List PySem.Str} (n1 : ys.Nodup) (n2 : zs.Nodup) (h1 : sortedS ys = true) (h2 : sortedS zs = true) (h : ∀ x, x ∈ ys ↔ x ∈ zs) : ys = zs := srt_eq (perm_nd n1 n2 h) h1 h2
theorem sorted_of_pw {ys : List PySem.Str} (h : ys.Pairwise fun a b => ltN a b) : sortedS ys = true := by
  refine sortedS_of_pairwise ys (h.imp fun {a b} z => ?_)
  rw [ltCps_eq]
  exact decide_eq_false (List.not_lt.mpr (List.le_of_lt z))
end Mc
namespace Mc
open PySem L2 PySem.Spec PyProof.Rows Evl
theorem okN_layC {x : PySem.Str} (h : okN x) : PyData.strOk x = true := by
  have l1 : ∀ c ∈ letters.cps.toList, c < 1114112 := by decide +kernel
  have l2 : ∀ c ∈ figures.cps.toList, c < 1114112 := by decide +kernel
  unfold PyData.strOk
  rw [Array.all_eq_true']
  intro c hc
  exact decide_eq_true ((h.2.2.2 c (by simpa using hc)).elim (l1 c) (l2 c))
theorem q_ifB {t : TT} {tu te tz : TS} {D : Ends} {σ : L2.St} {H : Hp} {b : Bool} (h : EvT t σ H b) (k1 : b = true → ∀ H1, Ex H H1 → tu { D with nx := tz D } σ H1) (k2 : b = false → ∀ H1, Ex H H1 → te { D with nx := tz D } σ H1) : tSeq (tIfS t tu te) tz D σ H := h H (Ex.refl H) _ fun H1 e => by
  cases b with
  | true => exact k1 rfl H1 e
  | false => exact k2 rfl H1 e
theorem s_ifB {t : TT} {tu te : TS} {D : Ends} {σ : L2.St} {H : Hp} {b : Bool} (h : EvT t σ H b) (k1 : b = true → ∀ H1, Ex H H1 → tu D σ H1) (k2 : b = false → ∀ H1, Ex H H1 → te D σ H1) : tIfS t tu te D σ H := h H (Ex.refl H) _ fun H1 e => by
  cases b with
  | true => exact k1 rfl H1 e
  | false => exact k2 rfl H1 e
inductive Dd
  | mast (m : PySem.Str) (n : Int)
  | down (m : PySem.Str)
  | up (m : PySem.Str)
  | begin (b : PySem.Str) (w : Int)
  | hear (b : PySem.Str) (r : Int) (hs : List PySem.Str)
  | end_ (b : PySem.Str)
def DdH (H : Hp) (a : Addr) : Dd → Prop
  | .mast m n => H a = some (.tup [.str "mast", .str m, .int n])
  | .down m => H a = some (.tup [.str "down", .str m])
  | .up m => H a = some (.tup [.str "up", .str m])
  | .begin b w => H a = some (.tup [.str "begin", .str b, .int w])
  | .hear b r hs => ∃ t, H a = some (.tup [.str "hear", .str b, .int r, .ref t]) ∧ H t = some (.tup (hs.map V.str))
  | .end_ b => H a = some (.tup [.str "end", .str b])
end Mc
namespace Mc
open PySem L2 PySem.Spec PyProof.Rows Evl
/-! _law_state, _law_deed -/
abbrev sLDeed : Stmt := top 22
abbrev sLState : Stmt := top 23
def nJ (p : PySem.Str) (j : Nat) : PySem.Str := p ++ PySem.Str.ofString (toString (j : Int))
def mJ : Nat → PySem.Str := nJ (PySem.Str.ofString "m")
def cJ : Nat → PySem.Str := nJ (PySem.Str.ofString "c")
theorem nJ_small : ∀ j : Nat, j < 64 → ((j : Int)).natAbs.log2 < 1920 := by decide +kernel
theorem mJ_len : ∀ j : Nat, j < 64 → (PySem.Str.ofString "m").length + (PySem.Str.ofString (toString (j : Int))).length ≤ sizeLine := by decide +kernel
theorem cJ_len : ∀ j : Nat, j < 64 → (PySem.Str.ofString "c").length + (PySem.Str.ofString (toString (j : Int))).length ≤ sizeLine := by decide +kernel
theorem mJ_ok : ∀ j : Nat, j < 64 → okN (mJ j) := by decide +kernel
theorem cJ_ok : ∀ j : Nat, j < 64 → okN (cJ j) := by decide +kernel
theorem mJ_inj : ∀ i, i < 64 → ∀ j, j < 64 → mJ i = mJ j → i = j := by decide +kernel
theorem cJ_inj : ∀ i, i < 64 → ∀ j, j < 64 → cJ i = cJ j → i = j := by decide +kernel
/-- the law's state -/
structure StD where
  k : Nat
  ds : List PySem.Str
  cs : List PySem.Str
  many : Nat
  rep : Int
def StD.ms (S : StD) : List PySem.Str := (List.range S.k).map mJ
def stL (sm sd sc : Addr) (S : StD) : List (PySem.Str × V) := [("masts", .ref sm), ("down", .ref sd), ("calls", .ref sc), ("many", .int S.many), ("reports", .int S.rep)]
structure StH (H : Hp) (st sm sd sc : Addr) (S : StD) : Prop where
  hst : H st = some (.dK (kvT id (stL sm sd sc S)))
  hsm : H sm = some (.lst (S.ms.map V.str))
  hsd : H sd = some (.lst (S.ds.map V.str))
  hsc : H sc = some (.lst (S.cs.map V.str))
  ap : sm ≠ sd ∧ sm ≠ sc ∧ sd ≠ sc
def StepD (S S' : StD) : Option Dd → Prop
  | some (.mast m n) => m = mJ S.k ∧ 0 ≤ n ∧ n ≤ 3 ∧ S' = { S with k := S.k + 1 }
  | some (.up m) => m ∈ S.ds ∧ S' = { S with ds := S.ds.erase m }
  | some (.down m) => m ∈ S.ms ∧ m ∉ S.ds ∧ S' = { S with ds := S.ds ++ [m] }
  | some (.begin b w) => b = cJ S.many ∧ 0 ≤ w ∧ w ≤ 2 ∧ S' = { S with cs := S.cs ++ [b], many := S.many + 1 }
  | some (.end_ b) => b ∈ S.cs ∧ S' = { S with cs := S.cs.erase b }
  | some (.hear b r hs) => b ∈ S.cs ∧ S.rep - 1 ≤ r ∧ r ≤ S.rep + 1 ∧ hs.Sublist S.ms ∧ S' = { S with rep := S.rep + 1 }
  | none => S' = S
def DeedH (H : Hp) (t : Addr) : Option Dd → Prop
  | some d => DdH H t d
  | none => H t = some (.tup [.str "tick"])
theorem StH.keep {H H' : Hp} {st sm sd sc : Addr} {S : StD} (h : StH H st sm sd sc S) (k : ∀ b ∈ [st, sm, sd, sc], ∀ o, H b = some o → H' b = some o) : StH H' st sm sd sc S :=
  ⟨k st (by simp) _ h.hst, k sm (by simp) _ h.hsm, k sd (by simp) _ h.hsd, k sc (by simp) _ h.hsc, h.ap⟩
theorem StH.ex {H H' : Hp} {st sm sd sc : Addr} {S : StD} (h : StH H st sm sd sc S) (x : Ex H H') : StH H' st sm sd sc S := h.keep fun b _ o z => x b o z
theorem StH.draw {H H' : Hp} {st sm sd sc d : Addr} {S : StD} (h : StH H st sm sd sc S) (k : Kp [d] H H') (n : d ∉ [st, sm, sd, sc]) : StH H' st sm sd sc S := h.keep fun b hb o z => k b o z fun e => n (by rw [← List.mem_singleton.mp e]; exact hb)
theorem st_masts (sm sd sc : Addr) (S : StD) : getT (stL sm sd sc S) "masts" = some (.ref sm) := by rfl
theorem st_down (sm sd sc : Addr) (S : StD) : getT (stL sm sd sc S) "down" = some (.ref sd) := by rfl
theorem st_calls (sm sd sc : Addr) (S : StD) : getT (stL sm sd sc S) "calls" = some (.ref sc) := by rfl
theorem st_many (sm sd sc : Addr) (S : StD) : getT (stL sm sd sc S) "many" = some (.int S.many) := by rfl
theorem st_rep (sm sd sc : Addr) (S : StD) : getT (stL sm sd sc S) "reports" = some (.int S.rep) := by rfl
theorem merge_L {β : Type} {f : β → V} {l : List (PySem.Str × β)} (nd : (keysT l).Nodup) : mergeK [] (kvT f l) = kvT f l := by
  have go : ∀ (b a : List (PySem.Str × β)), (keysT (a ++ b)).Nodup → mergeK (kvT f a) (kvT f b) = kvT f (a ++ b) := by
    intro b
    induction b with
    | nil => intro a _; rw [List.append_nil]; rfl
    | cons x b ih =>
      intro a nd
      have nx : x.1 ∉ keysT a := fun z => by
        unfold keysT at nd z
        rw [List.map_append] at nd
        exact (List.nodup_append.mp nd).2.2 _ z x.1 (by simp) rfl
      show mergeK (putK (kvT f a) (Sum.inr x.1) (f x.2)) (kvT f b) = _
      rw [put_new (f := f) (v := x.2) nx, ih (a ++ [(x.1, x.2)]) (by simpa using nd), List.append_assoc]
      rfl
  exact go l [] (by simpa using nd)
def spLState : Sp := fun vs H Q _ => vs = [] ∧ ∀ (st sm sd sc : Addr) H', StH H' st sm sd sc ⟨0, [], [], 0, 3⟩ → (∀ b ∈ [st, sm, sd, sc], H b = none) → Ex H H' → Q (.ref st) H'
def spLDeed (K : PySem.W.Frag) : Sp := fun vs H Q _ => ∃ (M : List Addr) (d a st sm sd sc : Addr) (S : StD), vs = [.ref d, .ref st] ∧ Dr K M d a H ∧ StH H st sm sd sc S ∧ (∀ b ∈ [st, sm, sd, sc], b ∈ M) ∧ d ∉ [st, sm, sd, sc] ∧ S.k < 64 ∧ S.many < 64 ∧ S.ds.length < 90 ∧ S.cs.length < 90 ∧ (∀ x ∈ S.cs, PyData.strOk x = true) ∧
  ∀ (t : Addr) (S' : StD) (dd : Option Dd) (H' : Hp), StepD S S' dd → StH H' st sm sd sc S' → Dr K M d a H' → Kp [d, st, sm, sd, sc] H H' → DeedH H' t dd → Q (.ref t) H'
section
variable {P : Program} {w : World} {K : PySem.W.Frag} {mg : PySem.Str → Option Value} {base : Heap}
theorem scLs : FnScope [] [] (defScope sLState) := ⟨rfl, rfl, rfl, by decide +kernel, rfl, by decide +kernel, by decide +kernel⟩
theorem ok_lstate {f : Addr} {fd : FuncData} (F : Fun K "_law_state" "_law_state" sLState f fd) : FnOk P w K mg base CX0 1 f fd [] spLState := by
  refine F.ok scLs (fun vs H Q E h => ?_) (fun cdv A outer s H vs Q E hr h => ?_)
  · obtain ⟨rfl, _⟩ := h
    rfl
  · obtain ⟨rfl, q⟩ := h
    refine ⟨_, (pss_one (ps_ret (pe_disp (pps_cons pe_str (pe_lst pa_nil) (pps_cons pe_str (pe_lst pa_nil) (pps_cons pe_str (pe_lst pa_nil) (pps_cons pe_str pe_int (pps_cons pe_str pe_int pps_nil))))) (by rfl) (by rfl) (fun z => by cases z) (by decide)))), ?_⟩
    refine fun p hp => ⟨by show 0 ≤ sizeLine; decide, fun sm hsm => ⟨by show 0 ≤ sizeLine; decide, fun sd hsd => ⟨by show 0 ≤ sizeLine; decide, fun sc hsc => ?_⟩⟩⟩
    have x1 := Ex.new (o := .dK []) hp
    have x2 := Ex.new (o := .lst []) hsm
    have x3 := Ex.new (o := .lst []) hsd
    have x4 := Ex.new (o := .lst []) hsc
    have e1 : upd H p (.dK []) p = some (.dK []) := upd_same
    generalize upd H p (.dK []) = H1 at x1 x2 x3 x4 e1 hsm hsd hsc ⊢
    have e2 : upd H1 sm (.lst []) sm = some (.lst []) := upd_same
    have f2 := x2 _ _ e1
    generalize upd H1 sm (.lst []) = H2 at x2 x3 x4 e2 f2 hsd hsc ⊢
    have e3 : upd H2 sd (.lst []) sd = some (.lst []) := upd_same
    have f3 := x3 _ _ f2
    have g3 := x3 _ _ e2
    generalize upd H2 sd (.lst []) = H3 at x3 x4 e3 f3 g3 hsc ⊢
    have e4 : upd H3 sc (.lst []) sc = some (.lst []) := upd_same
    have f4 := x4 _ _ f3
    have g4 := x4 _ _ g3
    have k4 := x4 _ _ e3
    have n1 : sm ≠ sd := fun e => by rw [e, hsd] at e2; cases e2
    have n2 : sm ≠ sc := fun e => by rw [e, hsc] at g3; cases g3
    have n3 : sd ≠ sc := fun e => by rw [e, hsc] at e3; cases e3
    have m1 : sm ≠ p := fun e => by rw [e, e1] at hsm; cases hsm
    have m2 : sd ≠ p := fun e => by rw [e, f2] at hsd; cases hsd
    have m3 : sc ≠ p := fun e => by rw [e, f3] at hsc; cases hsc
    have back : ∀ {b : Addr}, H1 b = none → H b = none := fun {b} z => by
      cases h : H b with
      | none => rfl
      | some o => rw [x1 _ _ h] at z; cases z
    have back2 : ∀ {b : Addr}, H2 b = none → H b = none := fun {b} z => by
      cases h : H b with
      | none => rfl
      | some o => rw [x2 _ _ (x1 _ _ h)] at z; cases z
    have back3 : ∀ {b : Addr}, H3 b = none → H b = none := fun {b} z => by
      cases h : H b with
      | none => rfl
      | some o => rw [x3 _ _ (x2 _ _ (x1 _ _ h))] at z; cases z
    generalize upd H3 sc (.lst []) = H4 at x4 e4 f4 g4 k4 ⊢
    refine ⟨f4, [(Sum.inr "masts", .ref sm), (Sum.inr "down", .ref sd), (Sum.inr "calls", .ref sc), (Sum.inr "many", .int 0), (Sum.inr "reports", .int 3)], rfl, by show 5 ≤ 15; decide, ?_⟩
    refine q p sm sd sc _ ⟨?_, by rw [upd_ne m1]; exact g4, by rw [upd_ne m2]; exact k4, by rw [upd_ne m3]; exact e4, n1, n2, n3⟩ (fun b hb => ?_) fun b o z => ?_
    · rw [upd_same]
      have nd : (keysT (stL sm sd sc ⟨0, [], [], 0, 3⟩)).Nodup := by
        show (["masts", "down", "calls", "many", "reports"] : List PySem.Str).Nodup
        decide +kernel
      exact congrArg (fun z => some (HO.dK z)) (merge_L (f := id) nd)
    · simp only [List.mem_cons, List.not_mem_nil, or_false] at hb
      rcases hb with rfl | rfl | rfl | rfl
      · exact hp
      · exact back hsm
      · exact back2 hsd
      · exact back3 hsc
    · rw [upd_ne fun e => by rw [e, hp] at z; cases z]
      exact x4 _ _ (x3 _ _ (x2 _ _ (x1 _ _ z)))
theorem StD.ms_succ (S : StD) : ({ S with k := S.k + 1 } : StD).ms = S.ms ++ [mJ S.k] := by
  unfold StD.ms
  rw [List.range_succ, List.map_append]; rfl
theorem StH.app_ms {H : Hp} {st sm sd sc : Addr} {S : StD} (h : StH H st sm sd sc S) : StH (upd H sm (.lst (S.ms.map V.str ++ [V.str (mJ S.k)]))) st sm sd sc { S with k := S.k + 1 } := by
  have ne : ∀ {b : Addr} {o : HO}, H b = some o → (∀ l, o ≠ .lst l) → b ≠ sm := fun {b o} z n e => by rw [e, h.hsm] at z; exact n _ (Option.some.inj z).symm
  refine ⟨by rw [upd_ne (ne h.hst fun _ => by simp)]; exact h.hst, ?_, by rw [upd_ne h.ap.1.symm]; exact h.hsd, by rw [upd_ne h.ap.2.1.symm]; exact h.hsc, h.ap⟩
  rw [upd_same, StD.ms_succ, List.map_append]; rfl
theorem StH.set_ds {H : Hp} {st sm sd sc : Addr} {S : StD} (h : StH H st sm sd sc S) (ds : List PySem.Str) : StH (upd H sd (.lst (ds.map V.str))) st sm sd sc { S with ds := ds } := by
  have ne : ∀ {b : Addr} {o : HO}, H b = some o → (∀ l, o ≠ .lst l) → b ≠ sd := fun {b o} z n e => by rw [e, h.hsd] at z; exact n _ (Option.some.inj z).symm
  exact ⟨by rw [upd_ne (ne h.hst fun _ => by simp)]; exact h.hst, by rw [upd_ne h.ap.1]; exact h.hsm, upd_same, by rw [upd_ne h.ap.2.2.symm]; exact h.hsc, h.ap⟩
theorem StH.set_cs {H : Hp} {st sm sd sc : Addr} {S : StD} (h : StH H st sm sd sc S) (cs : List PySem.Str) : StH (upd H sc (.lst (cs.map V.str))) st sm sd sc { S with cs := cs } := by
  have ne : ∀ {b : Addr} {o : HO}, H b = some o → (∀ l, o ≠ .lst l) → b ≠ sc := fun {b o} z n e => by rw [e, h.hsc] at z; exact n _ (Option.some.inj z).symm
  exact ⟨by rw [upd_ne (ne h.hst fun _ => by simp)]; exact h.hst, by rw [upd_ne h.ap.2.1]; exact h.hsm, by rw [upd_ne h.ap.2.2]; exact h.hsd, upd_same, h.ap⟩
theorem StH.set_st {H : Hp} {st sm sd sc : Addr} {S : StD} (h : StH H st sm sd sc S) (n : Nat) (r : Int) : StH (upd H st (.dK (kvT id (stL sm sd sc { S with many := n, rep := r })))) st sm sd sc { S with many := n, rep := r } := by
  have ne : ∀ {b : Addr} {l : List V}, H b = some (.lst l) → b ≠ st := fun {b l} z e => by rw [e, h.hst] at z; cases z
  exact ⟨upd_same, by rw [upd_ne (ne h.hsm)]; exact h.hsm, by rw [upd_ne (ne h.hsd)]; exact h.hsd, by rw [upd_ne (ne h.hsc)]; exact h.hsc, h.ap⟩
theorem q_asgJ {te : TE} {tz : TS} {D : Ends} {σ : L2.St} {H : Hp} {i : Nat} (R : V → Hp → Prop) (tail : ∀ v H', R v H' → tz D (σ.set i (some v)) H') (b : (∀ v H', R v H' → tz D (σ.set i (some v)) H') → te σ H fun v H' => tz D (σ.set i (some v)) H') : tSeq (tAsg te (gName i)) tz D σ H := b tail
theorem ati_last {α : Type} (xs : List α) (v : α) : atI (xs ++ [v]) (-1) = some v := by
  have e : ixN (xs ++ [v]).length (-1) = some xs.length := by
    rw [List.length_append, List.length_singleton]
    unfold ixN
    rw [if_neg (by decide)]
    simp
    omega
  unfold atI
  rw [e]
  show (xs ++ [v])[xs.length]? = some v
  rw [List.getElem?_append_right (Nat.le_refl _), Nat.sub_self]; rfl
theorem ev_lenL {K : PySem.W.Frag} {σ : L2.St} {H : Hp} {ta : TE} {p : Addr} {xs : List V} (ha : Ev ta σ H (.ref p)) (h : SqL K H p xs) : Ev (tCB (rLenS K) (tCons ta tNil)) σ H (.int (xs.length : Int)) := fun H1 e Q q =>
  ha H1 e _ fun H2 e2 => ⟨p, xs, rfl, Or.inl (ex_l (e.trans e2) h), q H2 e2⟩
theorem ev_nJ {p : PySem.Str} {σ : L2.St} {H : Hp} {tn : TE} {j : Nat} (h : Ev tn σ H (.int (j : Int))) (hj : j < 64) (hp : p.length + (PySem.Str.ofString (toString (j : Int))).length ≤ sizeLine) :
    Ev (tOp (fun x y H Q => ∃ i j, x = V.str i ∧ y = V.str j ∧ i.length + j.length ≤ sizeLine ∧ Q (V.str (i ++ j)) H) (tC (.str p)) (tCB (fun xs H Q => ∃ i : Int, xs = [V.int i] ∧ i.natAbs.log2 < 1920 ∧ Q (V.str (PySem.Str.ofString (toString i))) H) (tCons tn tNil))) σ H (.str (nJ p j)) := fun H1 e Q q =>
  h H1 e _ fun H2 e2 => ⟨(j : Int), rfl, nJ_small j hj, _, _, rfl, rfl, hp, q H2 e2⟩
theorem scLd : FnScope ["draw", "state", "kind", "mast", "call", "number", "one"] ["draw", "state"] (defScope sLDeed) := ⟨rfl, rfl, rfl, by decide +kernel, rfl, by decide +kernel, by decide +kernel⟩
structure TxLd (mg : PySem.Str → Option Value) : Prop where
  str : mg "str" = none
  len : mg "len" = none
  tuple : mg "tuple" = none
theorem ok_ldeed {f : Addr} {fd : FuncData} (F : Fun K "_law_deed" "_law_deed" sLDeed f fd) (T : TxLd mg) (c__law_take : Cal P w K mg base 2 "_law_take" ["draw", "many"] (spTake K)) (c__law_pick : Cal P w K mg base 3 "_law_pick" ["draw", "items"] (spPick K)) : FnOk P w K mg base CX0 4 f fd ["draw", "state"] (spLDeed K) := by
  refine F.ok scLd (fun vs H Q E h => ?_) (fun cdv A outer s H vs Q E hr h => ?_)
  · obtain ⟨M, d, a, st, sm, sd, sc, S, rfl, _⟩ := h
    rfl
  · obtain ⟨M, d, a, st, sm, sd, sc, S, rfl, D, hS, hM, hd, lk, lm, lds, lcs, hlay, q⟩ := h
    have hu := hu_of hr
    refine ⟨_, (pss_cons (ps_set (i := 2) scLd.nd rfl (Or.inl rfl) (pe_cal c__law_take (hr.mono (by decide)) (by rfl) (pa_cons (pv 0) (pa_cons pe_int pa_nil))))
      (pss_cons (ps_if (PW.pt (pw_or (pt_cmpR op_eq (pv 2) pe_int (nomark _)) (pw_or1 (pt_cmpR (op_eqD hr.units) (pe_dget hu (pv 1) pe_str (fun _ _ => rfl)) (pe_lst pa_nil) (nomark _)))))
        (pss_cons (ps_expr (pe_bm PySem.F.plainAttrs_list PySem.F.slot_list_append PySem.F.type_list_append mt_append (pe_dget hu (pv 1) pe_str (fun _ _ => rfl)) (pa_cons (pe_op op_add_str pe_str (pe_callTy call_str_int (by rfl) T.str boot_str (pa_cons (pe_callB call_len_seq (by rfl) T.len PySem.boot_len (pa_cons (pe_dget hu (pv 1) pe_str (fun _ _ => rfl)) pa_nil)) pa_nil))) pa_nil)))
        (pss_one (ps_ret (pe_tup (pa_cons pe_str (pa_cons (pe_ix ix_list (pe_dget hu (pv 1) pe_str (fun _ _ => rfl)) (pe_un un_neg pe_int) (fun _ _ => rfl)) (pa_cons (pe_cal c__law_pick (hr.mono (by decide)) (by rfl) (pa_cons (pv 0) (pa_cons (pe_lst (pa_cons pe_int (pa_cons pe_int (pa_cons pe_int (pa_cons pe_int (pa_cons pe_int pa_nil)))))) pa_nil))) pa_nil)))))))
        pss_nil)
      (pss_cons (ps_set (i := 3) scLd.nd rfl (Or.inl rfl) (pe_cal c__law_pick (hr.mono (by decide)) (by rfl) (pa_cons (pv 0) (pa_cons (pe_dget hu (pv 1) pe_str (fun _ _ => rfl)) pa_nil))))
      (pss_cons (ps_if (pt_cmpR op_eq (pv 2) pe_int (nomark _))
        (pss_cons (ps_if (pt_cmpR (op_inK (K := K) rfl) (pv 3) (pe_dget hu (pv 1) pe_str (fun _ _ => rfl)) (by rfl))
          (pss_cons (ps_expr (pe_bm PySem.F.plainAttrs_list PySem.F.slot_list_remove PySem.F.type_list_remove mt_removeS (pe_dget hu (pv 1) pe_str (fun _ _ => rfl)) (pa_cons (pv 3) pa_nil)))
          (pss_one (ps_ret (pe_tup (pa_cons pe_str (pa_cons (pv 3) pa_nil))))))
          pss_nil)
        (pss_cons (ps_expr (pe_bm PySem.F.plainAttrs_list PySem.F.slot_list_append PySem.F.type_list_append mt_append (pe_dget hu (pv 1) pe_str (fun _ _ => rfl)) (pa_cons (pv 3) pa_nil)))
        (pss_one (ps_ret (pe_tup (pa_cons pe_str (pa_cons (pv 3) pa_nil)))))))
        pss_nil)
      (pss_cons (ps_if (PW.pt (pw_or (pt_cmpR op_lt (pv 2) pe_int (nomark _)) (pw_or1 (pt_cmpR (op_eqD hr.units) (pe_dget hu (pv 1) pe_str (fun _ _ => rfl)) (pe_lst pa_nil) (nomark _)))))
        (pss_cons (ps_expr (pe_bm PySem.F.plainAttrs_list PySem.F.slot_list_append PySem.F.type_list_append mt_append (pe_dget hu (pv 1) pe_str (fun _ _ => rfl)) (pa_cons (pe_op op_add_str pe_str (pe_callTy call_str_int (by rfl) T.str boot_str (pa_cons (pe_dget hu (pv 1) pe_str (fun _ _ => rfl)) pa_nil))) pa_nil)))
        (pss_cons (ps_daug hu (pv 1) pe_str pe_int in_add (fun _ _ _ => rfl))
        (pss_one (ps_ret (pe_tup (pa_cons pe_str (pa_cons (pe_ix ix_list (pe_dget hu (pv 1) pe_str (fun _ _ => rfl)) (pe_un un_neg pe_int) (fun _ _ => rfl)) (pa_cons (pe_cal c__law_take (hr.mono (by decide)) (by rfl) (pa_cons (pv 0) (pa_cons pe_int pa_nil))) pa_nil))))))))
        pss_nil)
      (pss_cons (ps_set (i := 4) scLd.nd rfl (Or.inl rfl) (pe_cal c__law_pick (hr.mono (by decide)) (by rfl) (pa_cons (pv 0) (pa_cons (pe_dget hu (pv 1) pe_str (fun _ _ => rfl)) pa_nil))))
      (pss_cons (ps_if (pt_cmpR op_eq (pv 2) pe_int (nomark _))
        (pss_cons (ps_expr (pe_bm PySem.F.plainAttrs_list PySem.F.slot_list_remove PySem.F.type_list_remove mt_removeS (pe_dget hu (pv 1) pe_str (fun _ _ => rfl)) (pa_cons (pv 4) pa_nil)))
        (pss_one (ps_ret (pe_tup (pa_cons pe_str (pa_cons (pv 4) pa_nil))))))
        pss_nil)
      (pss_cons (ps_if (pt_cmpR op_eq (pv 2) pe_int (nomark _))
        (pss_one (ps_ret (pe_tup (pa_cons pe_str pa_nil))))
        pss_nil)
      (pss_cons (ps_daug hu (pv 1) pe_str pe_int in_add (fun _ _ _ => rfl))
      (pss_cons (ps_set (i := 5) scLd.nd rfl (Or.inl rfl) (pe_op op_sub (pe_dget hu (pv 1) pe_str (fun _ _ => rfl)) (pe_ifExp (pt_cmpR op_eq (pe_cal c__law_take (hr.mono (by decide)) (by rfl) (pa_cons (pv 0) (pa_cons pe_int pa_nil))) pe_int (nomark _)) (pe_cal c__law_take (hr.mono (by decide)) (by rfl) (pa_cons (pv 0) (pa_cons pe_int pa_nil))) pe_int)))
      (pss_one (ps_ret (pe_tup (pa_cons pe_str (pa_cons (pv 4) (pa_cons (pv 5) (pa_cons (pe_tupleOf (by rfl) T.tuple (pe_lc (own := [("one", 6)]) (g := gName 6) rfl scLd.nd (pi_list (pe_dget hu (pv 1) pe_str (fun _ _ => rfl))) (blkOk_by (own := [("one", 6)]) (N := ["draw", "state", "kind", "mast", "call", "number", "one"]) (sc := defScope sLDeed) (by decide +kernel)) (fun _ _ _ _ _ => pg_name (i := 6) scLd.nd rfl (Or.inl rfl)) (fun _ _ _ _ _ => pts_one (pt_cmpR op_eq (pe_cal c__law_take (hr.mono (by decide)) (by rfl) (pa_cons (pv 0) (pa_cons pe_int pa_nil))) pe_int (nomark _))) (fun _ _ _ _ _ => (pv 6)))) pa_nil))))))))))))))))), ?_⟩
    refine ⟨_, rfl, M, d, a, 12, rfl, D, by decide, fun kd H1 k0 k12 D1 x1 => ?_⟩
    have S1 := hS.draw x1 hd
    dsimp only [gName, List.set]
    have layM : ∀ x ∈ S.ms, PyData.strOk x = true := fun x hx => by
      obtain ⟨j, hj, rfl⟩ := List.mem_map.mp hx
      exact okN_layC (mJ_ok j (by have := List.mem_range.mp hj; omega))
    have layN : ∀ x ∈ ([] : List PySem.Str), PyData.strOk x = true := fun x hx => nomatch hx
    have eM : ∀ {H' : Hp} {S' : StD} {σ : L2.St}, StH H' st sm sd sc S' → σ[1]? = some (some (.ref st)) → Ev (tDGet (tVar 1) (tC (V.str "masts"))) σ H' (.ref sm) := fun h e => ev_dget (f := id) (b := V.ref sm) (ev_var e) ev_c (.inl h.hst) (st_masts ..)
    have eD : ∀ {H' : Hp} {S' : StD} {σ : L2.St}, StH H' st sm sd sc S' → σ[1]? = some (some (.ref st)) → Ev (tDGet (tVar 1) (tC (V.str "down"))) σ H' (.ref sd) := fun h e => ev_dget (f := id) (b := V.ref sd) (ev_var e) ev_c (.inl h.hst) (st_down ..)
    have eC : ∀ {H' : Hp} {S' : StD} {σ : L2.St}, StH H' st sm sd sc S' → σ[1]? = some (some (.ref st)) → Ev (tDGet (tVar 1) (tC (V.str "calls"))) σ H' (.ref sc) := fun h e => ev_dget (f := id) (b := V.ref sc) (ev_var e) ev_c (.inl h.hst) (st_calls ..)
    have nsm : sm ≠ d := fun e => hd (by simp [e])
    have nsd : sd ≠ d := fun e => hd (by simp [e])
    have nsc : sc ≠ d := fun e => hd (by simp [e])
    have nst : st ≠ d := fun e => hd (by simp [e])
    refine q_ifB (b := (decide (kd = 0) || decide (S.ms = []))) (et_or (a := decide (kd = 0)) (b := decide (S.ms = [])) (et_test (ev_eqI (ev_var rfl) ev_c)) fun _ => et_test (ev_opL (eM S1 rfl) (el_lst ea_nil (by show 0 ≤ 100000; decide)) fun q' H2 hq x2 => rv_eqSL (xs := S.ms) (ys := []) (sq_of (x2 _ _ S1.hsm)) (sq_of hq) layM layN)) (fun _ H2 x2 => ?_) fun hb H2 x2 => ?_
    · have S2 := S1.ex x2
      have D2 := D1.same x2
      refine q_app S2.hsm (eM S2 rfl) (ev_nJ (j := S.k) (ev_is (w := V.int (S.k : Int)) (ev_lenL (K := K) (eM S2 rfl) (sq_of S2.hsm)) (by unfold StD.ms; simp)) lk (mJ_len _ lk)) (by unfold StD.ms; simp; omega) fun H3 x3 => ?_
      have S3 := (S2.ex x3).app_ms
      have D3 : Dr K M d a (upd H3 sm (.lst (S.ms.map V.str ++ [V.str (mJ S.k)]))) := (D2.same x3).keep (Kp.at (hM sm (by simp))) fun o z => by rw [upd_ne nsm.symm]; exact z
      have k3 : Kp [d, st, sm, sd, sc] H (upd H3 sm (.lst (S.ms.map V.str ++ [V.str (mJ S.k)]))) := fun b o z n => by
        rw [upd_ne fun e => n (by simp [e])]
        exact x3 _ _ (x2 _ _ (x1 _ _ z fun e => n (by simp [List.mem_singleton.mp e])))
      show tRet _ _ _ (upd H3 sm (.lst (S.ms.map V.str ++ [V.str (mJ S.k)])))
      generalize upd H3 sm (.lst (S.ms.map V.str ++ [V.str (mJ S.k)])) = H4 at S3 D3 k3 ⊢
      have em : ({ S with k := S.k + 1 } : StD).ms.map V.str = S.ms.map V.str ++ [V.str (mJ S.k)] := by rw [StD.ms_succ, List.map_append]; rfl
      refine (ev_op (eM S3 rfl) (ev_un ev_c ru_neg) (rv_ixL (v := .str (mJ S.k)) (sq_of S3.hsm) (by rw [em]; exact ati_last _ _))) H4 (Ex.refl _) _ fun H5 x5 => ?_
      have S5 := S3.ex x5
      have D5 := D3.same x5
      refine ⟨_, rfl, by show 5 ≤ sizeLine; decide, fun l hl => ?_⟩
      have dl : l ≠ d := fun e => by obtain ⟨⟨j, hj⟩, _⟩ := D5; rw [e, hj] at hl; cases hl
      have x6 := Ex.new (o := .lst [.int 0, .int 1, .int 1, .int 2, .int 3]) hl
      refine ⟨M, d, a, l, [.int 0, .int 1, .int 1, .int 2, .int 3], rfl, D5.new hl, by show 0 < 5; decide, fun H' k' => .inl (SqL.of (k' _ _ upd_same fun e => dl (List.mem_singleton.mp e))), fun jj x H7 hx D7 k7 => ?_⟩
      obtain ⟨n, rfl, n0, n3⟩ : ∃ n : Int, x = .int n ∧ 0 ≤ n ∧ n ≤ 3 := by
        have hm := List.mem_of_getElem? hx
        simp only [List.mem_cons, List.not_mem_nil, or_false] at hm
        rcases hm with rfl | rfl | rfl | rfl | rfl <;> exact ⟨_, rfl, by decide, by decide⟩
      refine ⟨by show 3 ≤ sizeLine; decide, fun t ht => ?_⟩
      have x8 := Ex.new (o := .tup [.str "mast", .str (mJ S.k), .int n]) ht
      exact q t _ (some (.mast (mJ S.k) n)) _ ⟨rfl, n0, n3, rfl⟩ (((S5.ex x6).draw k7 hd).ex x8) (D7.same x8) (fun b o z nb => x8 _ _ (k7 _ _ (x6 _ _ (x5 _ _ (k3 b o z nb))) fun e => nb (by simp [List.mem_singleton.mp e]))) upd_same
    have hne : S.ms ≠ [] := fun e => by rw [e] at hb; simp at hb
    have hpos : 0 < (S.ms.map V.str).length := by rw [List.length_map]; exact List.length_pos_iff.mpr hne
    have S2 := S1.ex x2
    have D2 := D1.same x2
    have k2 : Kp [d, st, sm, sd, sc] H H2 := fun b o z n => x2 _ _ (x1 _ _ z fun e => n (by simp [List.mem_singleton.mp e]))
    clear D1 S1 x1 x2 D hS
    -- mast
    refine ⟨_, rfl, (eM S2 rfl) H2 (Ex.refl _) _ fun H3 x3 => ⟨M, d, a, sm, S.ms.map V.str, rfl, D2.same x3, hpos, fun H' k' => .inl (SqL.of (k' _ _ (x3 _ _ S2.hsm) fun e => nsm (List.mem_singleton.mp e))), fun jj x H4 hx D4 k4 => ?_⟩⟩
    rw [List.getElem?_map] at hx
    obtain ⟨m, hm, rfl⟩ := Option.map_eq_some_iff.mp hx
    have hmm := List.mem_of_getElem? hm
    have S4 := (S2.ex x3).draw k4 hd
    have kk4 : Kp [d, st, sm, sd, sc] H H4 := fun b o z n => k4 _ _ (x3 _ _ (k2 b o z n)) fun e => n (by simp [List.mem_singleton.mp e])
    clear hx hm k4 x3 D2 S2 k2
    dsimp only [gName, List.set]
    refine q_ifB (b := decide (kd = 1)) (et_test (ev_eqI (ev_var rfl) ev_c)) (fun h1 H5 x5 => ?_) fun h1 H5 x5 => ?_
    · have S5 := S4.ex x5
      have D5 := D4.same x5
      refine q_ifB (b := decide (m ∈ S.ds)) (et_test (ev_inSL (ev_var rfl) (eD S5 rfl) (sq_of S5.hsd))) (fun h2 H6 x6 => ?_) fun h2 H6 x6 => ?_
      · have S6 := S5.ex x6
        have D6 := D5.same x6
        have hin := of_decide_eq_true h2
        refine (eD S6 rfl) H6 (Ex.refl _) _ fun H7 x7 => ⟨.inl ⟨rfl, _, SqL.of (x7 _ _ S6.hsd)⟩, _, rfl, sd, S.ds, m, rfl, rfl, x7 _ _ S6.hsd, hin, ?_⟩
        have S7 := (S6.ex x7).set_ds (S.ds.erase m)
        have D7 : Dr K M d a (upd H7 sd (.lst ((S.ds.erase m).map V.str))) := (D6.same x7).keep (Kp.at (hM sd (by simp))) fun o z => by rw [upd_ne nsd.symm]; exact z
        have k7 : Kp [d, st, sm, sd, sc] H (upd H7 sd (.lst ((S.ds.erase m).map V.str))) := fun b o z n => by
          rw [upd_ne fun e => n (by simp [e])]
          exact x7 _ _ (x6 _ _ (x5 _ _ (kk4 b o z n)))
        generalize upd H7 sd (.lst ((S.ds.erase m).map V.str)) = H8 at S7 D7 k7 ⊢
        refine ⟨_, rfl, by show 2 ≤ sizeLine; decide, fun t ht => ?_⟩
        have x8 := Ex.new (o := .tup [.str "up", .str m]) ht
        exact q t _ (some (.up m)) _ ⟨hin, rfl⟩ (S7.ex x8) (D7.same x8) (fun b o z nb => x8 _ _ (k7 b o z nb)) upd_same
      · have S6 := S5.ex x6
        have D6 := D5.same x6
        have hnin := of_decide_eq_false h2
        refine q_app S6.hsd (eD S6 rfl) (ev_var rfl) (by rw [List.length_map]; omega) fun H7 x7 => ?_
        have ea : (HO.lst (S.ds.map V.str ++ [V.str m])) = .lst ((S.ds ++ [m]).map V.str) := by rw [List.map_append]; rfl
        rw [ea]
        have S7 := (S6.ex x7).set_ds (S.ds ++ [m])
        have D7 : Dr K M d a (upd H7 sd (.lst ((S.ds ++ [m]).map V.str))) := (D6.same x7).keep (Kp.at (hM sd (by simp))) fun o z => by rw [upd_ne nsd.symm]; exact z
        have k7 : Kp [d, st, sm, sd, sc] H (upd H7 sd (.lst ((S.ds ++ [m]).map V.str))) := fun b o z n => by
          rw [upd_ne fun e => n (by simp [e])]
          exact x7 _ _ (x6 _ _ (x5 _ _ (kk4 b o z n)))
        generalize upd H7 sd (.lst ((S.ds ++ [m]).map V.str)) = H8 at S7 D7 k7 ⊢
        refine ⟨_, rfl, by show 2 ≤ sizeLine; decide, fun t ht => ?_⟩
        have x8 := Ex.new (o := .tup [.str "down", .str m]) ht
        exact q t _ (some (.down m)) _ ⟨hmm, hnin, rfl⟩ (S7.ex x8) (D7.same x8) (fun b o z nb => x8 _ _ (k7 b o z nb)) upd_same
    have S5 := S4.ex x5
    have D5 := D4.same x5
    have k5 : Kp [d, st, sm, sd, sc] H H5 := fun b o z n => x5 _ _ (kk4 b o z n)
    clear S4 D4 kk4 x5
    have layC : ∀ x ∈ S.cs, PyData.strOk x = true := hlay
    refine q_ifB (b := (decide (kd < 4) || decide (S.cs = []))) (et_or (a := decide (kd < 4)) (b := decide (S.cs = [])) (et_test (ev_op (ev_var rfl) ev_c rv_I0)) fun _ => et_test (ev_opL (eC S5 rfl) (el_lst ea_nil (by show 0 ≤ 100000; decide)) fun q' H6 hq x6 => rv_eqSL (xs := S.cs) (ys := []) (sq_of (x6 _ _ S5.hsc)) (sq_of hq) layC layN)) (fun _ H6 x6 => ?_) fun hb2 H6 x6 => ?_
    · have S6 := S5.ex x6
      have D6 := D5.same x6
      refine q_app S6.hsc (eC S6 rfl) (ev_nJ (j := S.many) (ev_dget (f := id) (b := V.int S.many) (ev_var rfl) ev_c (.inl S6.hst) (st_many ..)) lm (cJ_len _ lm)) (by rw [List.length_map]; omega) fun H7 x7 => ?_
      have ea : (HO.lst (S.cs.map V.str ++ [V.str (cJ S.many)])) = .lst ((S.cs ++ [cJ S.many]).map V.str) := by rw [List.map_append]; rfl
      show tSeq _ _ _ _ (upd H7 sc (.lst (S.cs.map V.str ++ [V.str (cJ S.many)])))
      rw [ea]
      have S7 := (S6.ex x7).set_cs (S.cs ++ [cJ S.many])
      have D7 : Dr K M d a (upd H7 sc (.lst ((S.cs ++ [cJ S.many]).map V.str))) := (D6.same x7).keep (Kp.at (hM sc (by simp))) fun o z => by rw [upd_ne nsc.symm]; exact z
      have k7 : Kp [d, st, sm, sd, sc] H (upd H7 sc (.lst ((S.cs ++ [cJ S.many]).map V.str))) := fun b o z n => by
        rw [upd_ne fun e => n (by simp [e])]
        exact x7 _ _ (x6 _ _ (k5 b o z n))
      generalize upd H7 sc (.lst ((S.cs ++ [cJ S.many]).map V.str)) = H8 at S7 D7 k7 ⊢
      have hmg : valV (kvT id (stL sm sd sc { S with cs := S.cs ++ [cJ S.many] })) (Sum.inr "many" : L2.Key) = some (V.int S.many) := by rw [val_T, st_many]; rfl
      refine ⟨_, rfl, st, V.int S.many, rfl, .inl ⟨_, Sum.inr "many", .inl S7.hst, rfl, hmg⟩, S.many, 1, rfl, rfl, _, DPut.k (k := Sum.inr "many") S7.hst (by show 5 < sizeLine; decide), ?_⟩
      have ep : putK (kvT id (stL sm sd sc { S with cs := S.cs ++ [cJ S.many] })) (Sum.inr "many" : L2.Key) (V.int ((S.many : Int) + 1)) = kvT id (stL sm sd sc { S with cs := S.cs ++ [cJ S.many], many := S.many + 1 }) := by
        refine (put_old (f := id) (v := V.int ((S.many : Int) + 1)) (show ("many" : PySem.Str) ∈ (["masts", "down", "calls", "many", "reports"] : List PySem.Str) by decide +kernel)).trans ?_
        rfl
      have S8 := S7.set_st (S.many + 1) S.rep
      have D8 : Dr K M d a (upd H8 st (.dK (kvT id (stL sm sd sc { S with cs := S.cs ++ [cJ S.many], many := S.many + 1 })))) := D7.keep (Kp.at (hM st (by simp))) fun o z => by rw [upd_ne nst.symm]; exact z
      have k8 : Kp [d, st, sm, sd, sc] H (upd H8 st (.dK (kvT id (stL sm sd sc { S with cs := S.cs ++ [cJ S.many], many := S.many + 1 })))) := fun b o z n => by
        rw [upd_ne fun e => n (by simp [e])]
        exact k7 b o z n
      dsimp only
      rw [ep]
      generalize upd H8 st (.dK (kvT id (stL sm sd sc { S with cs := S.cs ++ [cJ S.many], many := S.many + 1 }))) = H9 at S8 D8 k8 ⊢
      have S8 : StH H9 st sm sd sc { S with cs := S.cs ++ [cJ S.many], many := S.many + 1 } := S8
      have em : ({ S with cs := S.cs ++ [cJ S.many], many := S.many + 1 } : StD).cs.map V.str = S.cs.map V.str ++ [V.str (cJ S.many)] := List.map_append
      refine (ev_op (eC S8 rfl) (ev_un ev_c ru_neg) (rv_ixL (v := .str (cJ S.many)) (sq_of S8.hsc) (by rw [em]; exact ati_last _ _))) H9 (Ex.refl _) _ fun H10 x10 => ?_
      have S10 := S8.ex x10
      refine ⟨_, rfl, M, d, a, 3, rfl, D8.same x10, by decide, fun wt H11 w0 w3 D11 k11 => ⟨by show 3 ≤ sizeLine; decide, fun t ht => ?_⟩⟩
      have x12 := Ex.new (o := .tup [.str "begin", .str (cJ S.many), .int wt]) ht
      exact q t _ (some (.begin (cJ S.many) wt)) _ ⟨rfl, w0, by omega, rfl⟩ ((S10.draw k11 hd).ex x12) (D11.same x12) (fun b o z nb => x12 _ _ (k11 _ _ (x10 _ _ (k8 b o z nb)) fun e => nb (by simp [List.mem_singleton.mp e]))) upd_same
    have hne2 : S.cs ≠ [] := fun e => by rw [e] at hb2; simp at hb2
    have hpos2 : 0 < (S.cs.map V.str).length := by rw [List.length_map]; exact List.length_pos_iff.mpr hne2
    have S6 := S5.ex x6
    have D6 := D5.same x6
    have k6 : Kp [d, st, sm, sd, sc] H H6 := fun b o z n => x6 _ _ (k5 b o z n)
    clear S5 D5 k5 x6
    -- call
    refine ⟨_, rfl, (eC S6 rfl) H6 (Ex.refl _) _ fun H7 x7 => ⟨M, d, a, sc, S.cs.map V.str, rfl, D6.same x7, hpos2, fun H' k' => .inl (SqL.of (k' _ _ (x7 _ _ S6.hsc) fun e => nsc (List.mem_singleton.mp e))), fun j2 x H8 hx D8 k8 => ?_⟩⟩
    rw [List.getElem?_map] at hx
    obtain ⟨cc, hcc, rfl⟩ := Option.map_eq_some_iff.mp hx
    have hcm := List.mem_of_getElem? hcc
    have S8 := (S6.ex x7).draw k8 hd
    have kk8 : Kp [d, st, sm, sd, sc] H H8 := fun b o z n => k8 _ _ (x7 _ _ (k6 b o z n)) fun e => n (by simp [List.mem_singleton.mp e])
    clear hx hcc k8 x7 D6 S6 k6
    dsimp only [gName, List.set]
    refine q_ifB (b := decide (kd = 4)) (et_test (ev_eqI (ev_var rfl) ev_c)) (fun _ H9 x9 => ?_) fun _ H9 x9 => ?_
    · have S9 := S8.ex x9
      have D9 := D8.same x9
      refine (eC S9 rfl) H9 (Ex.refl _) _ fun H10 x10 => ⟨.inl ⟨rfl, _, SqL.of (x10 _ _ S9.hsc)⟩, _, rfl, sc, S.cs, cc, rfl, rfl, x10 _ _ S9.hsc, hcm, ?_⟩
      have S11 := (S9.ex x10).set_cs (S.cs.erase cc)
      have D11 : Dr K M d a (upd H10 sc (.lst ((S.cs.erase cc).map V.str))) := (D9.same x10).keep (Kp.at (hM sc (by simp))) fun o z => by rw [upd_ne nsc.symm]; exact z
      have k11 : Kp [d, st, sm, sd, sc] H (upd H10 sc (.lst ((S.cs.erase cc).map V.str))) := fun b o z n => by
        rw [upd_ne fun e => n (by simp [e])]
        exact x10 _ _ (x9 _ _ (kk8 b o z n))
      generalize upd H10 sc (.lst ((S.cs.erase cc).map V.str)) = H11 at S11 D11 k11 ⊢
      refine ⟨_, rfl, by show 2 ≤ sizeLine; decide, fun t ht => ?_⟩
      have x12 := Ex.new (o := .tup [.str "end", .str cc]) ht
      exact q t _ (some (.end_ cc)) _ ⟨hcm, rfl⟩ (S11.ex x12) (D11.same x12) (fun b o z nb => x12 _ _ (k11 b o z nb)) upd_same
    have S9 := S8.ex x9
    have D9 := D8.same x9
    have k9 : Kp [d, st, sm, sd, sc] H H9 := fun b o z n => x9 _ _ (kk8 b o z n)
    clear S8 D8 kk8 x9
    refine q_ifB (b := decide (kd = 5)) (et_test (ev_eqI (ev_var rfl) ev_c)) (fun _ H10 x10 => ?_) fun _ H10 x10 => ?_
    · refine ⟨by show 1 ≤ sizeLine; decide, fun t ht => ?_⟩
      have x11 := x10.trans (Ex.new (o := .tup [.str "tick"]) ht)
      exact q t _ none _ rfl (S9.ex x11) (D9.same x11) (fun b o z nb => x11 _ _ (k9 b o z nb)) upd_same
    have S10 := S9.ex x10
    have D10 := D9.same x10
    have k10 : Kp [d, st, sm, sd, sc] H H10 := fun b o z n => x10 _ _ (k9 b o z n)
    clear S9 D9 k9 x10
    -- reports
    have hmg : valV (kvT id (stL sm sd sc S)) (Sum.inr "reports" : L2.Key) = some (V.int S.rep) := by rw [val_T, st_rep]; rfl
    refine ⟨_, rfl, st, V.int S.rep, rfl, .inl ⟨_, Sum.inr "reports", .inl S10.hst, rfl, hmg⟩, S.rep, 1, rfl, rfl, _, DPut.k (k := Sum.inr "reports") S10.hst (by show 5 < sizeLine; decide), ?_⟩
    have ep : putK (kvT id (stL sm sd sc S)) (Sum.inr "reports" : L2.Key) (V.int (S.rep + 1)) = kvT id (stL sm sd sc { S with rep := S.rep + 1 }) := by
      refine (put_old (f := id) (v := V.int (S.rep + 1)) (show ("reports" : PySem.Str) ∈ (["masts", "down", "calls", "many", "reports"] : List PySem.Str) by decide +kernel)).trans ?_
      rfl
    have S11 : StH (upd H10 st (.dK (kvT id (stL sm sd sc { S with rep := S.rep + 1 })))) st sm sd sc { S with rep := S.rep + 1 } := S10.set_st S.many (S.rep + 1)
    have D11 : Dr K M d a (upd H10 st (.dK (kvT id (stL sm sd sc { S with rep := S.rep + 1 })))) := D10.keep (Kp.at (hM st (by simp))) fun o z => by rw [upd_ne nst.symm]; exact z
    have k11 : Kp [d, st, sm, sd, sc] H (upd H10 st (.dK (kvT id (stL sm sd sc { S with rep := S.rep + 1 })))) := fun b o z n => by
      rw [upd_ne fun e => n (by simp [e])]
      exact k10 b o z n
    dsimp only
    rw [ep]
    generalize upd H10 st (.dK (kvT id (stL sm sd sc { S with rep := S.rep + 1 }))) = H11 at S11 D11 k11 ⊢
    clear S10 D10 k10 ep hmg
    have eR : ∀ {H' : Hp} {σ : L2.St}, StH H' st sm sd sc { S with rep := S.rep + 1 } → σ[1]? = some (some (.ref st)) → Ev (tDGet (tVar 1) (tC (V.str "reports"))) σ H' (.int (S.rep + 1)) := fun h e => ev_dget (f := id) (b := V.int (S.rep + 1)) (ev_var e) ev_c (.inl h.hst) (st_rep ..)
    refine q_asgJ (fun v H' => ∃ r : Int, v = .int r ∧ S.rep - 1 ≤ r ∧ r ≤ S.rep + 1 ∧ StH H' st sm sd sc { S with rep := S.rep + 1 } ∧ Dr K M d a H' ∧ Kp [d, st, sm, sd, sc] H H') ?_ fun tail => ?_
    · clear S11 D11 k11
      rintro v H12 ⟨r, rfl, r0, r1, S12, D12, k12⟩
      refine ⟨_, rfl, _, rfl, ?_⟩
      dsimp only [tCons, tThen]
      show tLc (iList K (tDGet (tVar 1) (tC (V.str "masts")))) (gName 6) (tTest (tOp rEq (tCall (spTake K) [] E0 (tCons (tVar 0) (tCons (tC (.int 2)) tNil))) (tC (.int 0)))) (tVar 6) [6] _ _ _
      refine lc_take (n := 2) (i := 0) (j := 6) (d := d) (a := a) (xs := S.ms) (eM S12 (by rfl)) D12 S12.hsm nsm (by decide) (by unfold StD.ms; simp; omega) (by exact fun _ => rfl) (by exact fun _ => rfl) (by exact fun _ => rfl) fun us qa H13 hus D13 k13 hq hq13 => ?_
      have S13 := S12.draw k13 hd
      refine .inl ⟨qa, _, rfl, SqL.of hq13, fun tq htq => ⟨by show 4 ≤ sizeLine; decide, fun t ht => ?_⟩⟩
      have x14 := Ex.new (o := .tup (us.map V.str)) htq
      have e14 : upd H13 tq (.tup (us.map V.str)) tq = some (.tup (us.map V.str)) := upd_same
      generalize upd H13 tq (.tup (us.map V.str)) = H14 at x14 e14 ht ⊢
      have x15 := Ex.new (o := .tup [.str "hear", .str cc, .int r, .ref tq]) ht
      have xx := x14.trans x15
      exact q t _ (some (.hear cc r us)) _ ⟨hcm, r0, r1, hus, rfl⟩ (S13.ex xx) (D13.same xx) (fun b o z nb => xx _ _ (k13 _ _ (k12 b o z nb) fun e => nb (by simp [List.mem_singleton.mp e]))) ⟨tq, upd_same, x15 _ _ e14⟩
    · refine (eR S11 rfl) H11 (Ex.refl _) _ fun H12 x12 => ⟨_, rfl, M, d, a, 4, rfl, D11.same x12, by decide, fun z H13 z0 z4 D13 k13 => ⟨rfl, _, rfl, ?_⟩⟩
      have S13 := (S11.ex x12).draw k13 hd
      have kk13 : Kp [d, st, sm, sd, sc] H H13 := fun b o z n => k13 _ _ (x12 _ _ (k11 b o z n)) fun e => n (by simp [List.mem_singleton.mp e])
      refine ite2 (fun _ => ⟨_, rfl, M, d, a, 3, rfl, D13, by decide, fun y H14 y0 y3 D14 k14 => ⟨_, _, rfl, rfl, tail _ _ ⟨_, rfl, by omega, by omega, S13.draw k14 hd, D14, fun b o z n => k14 _ _ (kk13 b o z n) fun e => n (by simp [List.mem_singleton.mp e])⟩⟩⟩) fun _ => ⟨_, _, rfl, rfl, tail _ _ ⟨_, rfl, by omega, by omega, S13, D13, kk13⟩⟩
end
end Mc
namespace Mc
open PySem L2 PySem.Spec PyProof.Rows
/-! ### [f(x) for x in ..] whose item may raise, out of a call -/
/-- the same context with another wish about exceptions -/
abbrev Cx.xo (X : Cx) (e : Value → Shared → Prop) : Cx := { X with xe := e }
section
variable {X : Cx} {pins : List (Addr × Obj)} {σ : L2.St} {H : Hp} {s : Shared} {e : Value → Shared → Prop}
theorem Ok.xo (h : X.Ok) : (Cx.xo X e).Ok := ⟨h.mod, h.kind, h.glob, h.blt, h.above, h.inj, h.has, h.cab, h.hd, h.frames, h.stk, h.exf, h.bs, h.bsz, h.noex, h.exfs, h.funs, h.frf⟩
theorem Inv.xo (I : Inv X pins σ H s) : Inv (Cx.xo X e) pins σ H s := ⟨Ok.xo I.ok, I.os, I.bare, I.base, I.loc, I.cell, I.free, I.freeC, I.pin, I.hok, I.len⟩
end
theorem traced_same {h h' base base' : Heap} {C a : Addr} {Z : Obj → Prop} {fl : Value} (t : HandSPX.TracedZ h base a Z fl) (hC : ∃ o, h.get? C = some o ∧ ∀ vs, o.data ≠ .fields vs) (sb : ∀ b, b ≠ C → h'.get? b = h.get? b) (hb : ∀ b, base.get? b = none → base'.get? b = none) : HandSPX.TracedZ h' base' a Z fl := by
  obtain ⟨oe, vs, T, oT, ts, he, hz, hd, h1, hnT, hTe, hT, hdT, h3⟩ := t
  obtain ⟨oC, hoC, hnf⟩ := hC
  have na : a ≠ C := fun q => by rw [q, hoC] at he; cases he; exact hnf vs hd
  have nT : T ≠ C := fun q => by rw [q, hoC] at hT; cases hT; exact hnf ts hdT
  exact ⟨oe, vs, T, oT, ts, (sb a na).trans he, hz, hd, h1, hb T hnT, hTe, (sb T nT).trans hT, hdT, h3⟩
section
variable {X : Cx} {pins : List (Addr × Obj)} {σ : L2.St} {H3 : Hp} {s3 : Shared} {E : XK}
/-- the block's wish: what comes out of it is the def's -/
abbrev lcE (X : Cx) (ce : Env) : Value → Shared → Prop := notedBy (model X.prog X.w) X.A ce fun x s' => CompFails (model X.prog X.w) X.A X.xe ce x s'
theorem lcx_air {scope : Scope} {ce : Env} {fp : List Addr} (tk : L2.Takes X (fun c d _ H => E c d H)) (hs : X.stack = X.env :: X.outer) (hf : X.env.frame = some X.env.locals) (I3 : Inv X pins σ H3 s3) (f3 : ∀ b ∈ fp, FpOk X pins H3 b) (cL : ce.locals = s3.heap.objs.size) (cf : ce.frame = X.env.frame) :
    ∀ σ', PassesAt (L2.CX X.prog X.w) (Cx.xo (X.blk s3 H3 scope ce fp) (lcE X ce)) σ' E := by
  intro σ' pins' Hc s e s' I c
  obtain ⟨a, B, H', cls, d, rfl, fl, hok, ub, na, os, ag, hE⟩ := c
  have I8 : Inv X pins σ Hc s := I3.call' (ch := fp) I.os I.base I.hok I.bare fun b hb => ⟨(f3 b hb).2.2.2.1, (f3 b hb).2.1, (f3 b hb).2.2.2.2.1, (f3 b hb).2.2.2.2.2⟩
  have ub : UB (frs X.stack) Hc H' s.heap B s'.heap := ub
  have nC : Hc ce.locals = none := I.free
  have fC : FpOk X pins Hc ce.locals := I3.fpOk (by rw [cL]; exact Nat.le_refl _) nC
  have hfr : X.A.frames = some (X.env :: X.outer) := by rw [I3.ok.frames, hs]
  have Cst : ce.locals ∉ frs X.stack := fun hm => by
    rcases List.mem_cons.mp (I8.stkSub _ hm) with z | z
    · exact fC.2.1 z
    · exact fC.2.2.1 z
  obtain ⟨m, hn, _⟩ := I.loc
  obtain ⟨oC, esC, epC, hoC, hdC, rC⟩ := (show s.heap.Ns ce.locals m from hn)
  have nfC : ∀ vs, oC.data ≠ .fields vs := fun vs q => by rw [hdC] at q; cases q
  have st : B.StaysIn s'.heap := fl.1
  have oC1 : s'.heap.get? ce.locals = some oC := st _ _ (ub.keep _ _ hoC nC Cst)
  have H'C : H' ce.locals = none := ub.free _ _ hoC nC
  have fl' : HandSPX.FlyingZ B (X.env :: X.outer) a (Zc cls d) s'.heap := by rw [← hs]; exact fl
  show wpAny (model X.prog X.w) X.A (noteFrame (.ref a) ce) (fun _ s'' => CompFails (model X.prog X.w) X.A X.xe ce (.ref a) s'') _ s'
  rw [noteFrame_env _ cf]
  refine HandSPX.looks_onZ Zc.steady hfr hf fl' fun h1 hd1 up1 => ?_
  obtain ⟨slC, oC2⟩ := up1 _ _ oC1 nfC
  refine ⟨m, ⟨_, esC, epC, oC2, hdC, rC⟩, fun h2 m2 hn2 sb2 => ?_⟩
  obtain ⟨b1, b0, ff, tr⟩ := hd1
  obtain ⟨B2, g1, g2⟩ := restrict B fun b => decide (b ≠ ce.locals)
  have gB : ∀ b, b ≠ ce.locals → B2.get? b = B.get? b := fun b hb => g1 b (by simpa using hb)
  have gC : B2.get? ce.locals = none := g2 _ (by simp)
  have bn : ∀ b, B.get? b = none → B2.get? b = none := fun b hb => by
    by_cases q : b = ce.locals
    · rw [q]; exact gC
    · rw [gB b q]; exact hb
  have ff2 : h2.FunFrames B2 (X.env :: X.outer) := funFrames_none (Heap.FunFrames.sameBut sb2 hn2 ff) fun L hL => by
    obtain ⟨q, _⟩ := ff.mem hL
    exact bn L q
  have st2 : B2.StaysIn h2 := fun b o hb => by
    have q : b ≠ ce.locals := fun q => by rw [q, gC] at hb; cases hb
    rw [gB b q] at hb
    exact (sb2.2 b q).trans (b1 b o hb)
  have tr2 : HandSPX.TracedZ h2 B2 a (Zc cls d) (rawInt X.env.locals) := traced_same tr ⟨_, oC2, nfC⟩ (fun b hb => sb2.2 b hb) bn
  have hd2 : HandSPX.HeldZ B2 (X.env :: X.outer) a (Zc cls d) X.env.locals h2 := ⟨st2, bn a b0, ff2, tr2⟩
  have tr3 := tr2
  obtain ⟨oe, vs, T, oT, ts, he, hz, hdv, h1v, _⟩ := tr3
  unfold PySem.passOn
  refine wpAny_bind (wpAny_field he hdv h1v ?_)
  rw [if_neg (show ¬ ((Value.ref T == Value.none) = true) from by simp)]
  rw [cf, hf]
  refine wpAny_bind (HandSPX.setFlight_onZ hd2 fun h3 hd3 up3 => ?_)
  refine wpAny_throw ?_
  refine tk _ _ ?_
  obtain ⟨G, k1, k2⟩ := restrict h3 fun b => (B2.get? b).isSome || decide (b ∈ frs X.stack)
  have gG : ∀ b o, B2.get? b = some o → G.get? b = some o := fun b o e => by
    rw [k1 b (by simp [e])]
    exact hd3.1 b o e
  have gF : ∀ b, b ∈ frs X.stack → G.get? b = h3.get? b := fun b hb => k1 b (by simp [hb])
  have og : ∀ b o, G.get? b = some o → h3.get? b = some o ∧ ((B2.get? b).isSome = true ∨ b ∈ frs X.stack) := fun b o e => by
    cases q : ((B2.get? b).isSome || decide (b ∈ frs X.stack)) with
    | false => rw [k2 b q] at e; cases e
    | true =>
      rw [k1 b q] at e
      exact ⟨e, by simpa [Bool.or_eq_true] using q⟩
  have slot3 : ∀ b o, s.heap.get? b = some o → b ∈ frs X.stack → ∃ sl, G.get? b = some { o with slots := sl } := fun b o e hb => by
    obtain ⟨_, o₀, e₀, hnf⟩ := I8.stack.mem hb
    rw [e] at e₀; cases e₀
    obtain ⟨l1, e1⟩ := ub.slot b o e hb
    obtain ⟨l2, e2⟩ := up1 b _ e1 hnf
    have e3 := (sb2.2 b fun q => Cst (q ▸ hb)).trans e2
    obtain ⟨l3, e4⟩ := up3 b _ e3 hnf
    exact ⟨l3, by rw [gF b hb]; exact e4⟩
  refine ⟨a, B2, { s with heap := G, gens := s'.gens, drawn := s'.drawn, toks := s'.toks }, pins, σ, H', cls, d, rfl, ?_, fun b o e hb => ?_, Heap.UpToSlots.of_keeps fun b o e => (og b o e).1, .inr (.inr (by rw [hs]; exact hd3)), na, os, ag, hE⟩
  · refine I8.call (ch := [ce.locals]) ⟨fun b o e n hb hc => ?_, fun b o e n hb _ => slot3 b o e hb, fun b o e n _ => ub.free b o e n, fun b o e hc => ?_, ub.tups, ub.frzs, ub.tbls⟩ (fun b u e => ?_) ag (fun b hb => ?_)
    · have q : b ≠ ce.locals := fun q => hc (by rw [q]; exact List.mem_singleton.mpr rfl)
      exact gG b o (by rw [gB b q]; exact ub.keep b o e n hb)
    · have q : b ≠ ce.locals := fun q => hc (by rw [q]; exact List.mem_singleton.mpr rfl)
      by_cases hb : b ∈ frs X.stack
      · obtain ⟨sl, z⟩ := slot3 b o e hb
        exact ⟨_, z⟩
      · obtain ⟨o', z⟩ := ub.there b o e hb
        exact ⟨o', gG b o' (by rw [gB b q]; exact z)⟩
    · refine (hok b u e).stay (fun c v hc q => ?_) (fun _ q => q) fun _ _ q => q
      have nc : c ≠ ce.locals := fun y => by
        rcases hc with z | z
        · rw [← z, y, H'C] at e; cases e
        · rw [y, H'C] at z; cases z
      exact gG c v (by rw [gB c nc]; exact q)
    · rw [List.mem_singleton.mp hb]
      exact ⟨fC.2.2.2.1, fC.2.1, fC.2.2.2.2.1, fC.2.2.2.2.2⟩
  · obtain ⟨e', h⟩ := og b o e
    rcases h with h | h
    · obtain ⟨o', q⟩ := Option.isSome_iff_exists.mp h
      have z := hd3.1 b o' q
      rw [e'] at z; cases z
      exact q
    · exact absurd h hb
end
section
variable {X : Cx}
/-- a comprehension's item may raise (E: what the def lets out) -/
theorem pe_lcX {E : XK} {elt tg iter : Expr} {ifs : List Expr} {scope : Scope} {own : List (PySem.Str × Nat)} {pos : Pos} {wi : TI} {g : TG} {tt : L2.TT} {te : TE} (hc : X.calm = true) (tk : L2.Takes X (fun c d _ H => E c d H)) (hst : X.stack = X.env :: X.outer) (hfr : X.env.frame = some X.env.locals)
    (hN : X.N.Nodup) (hi : PI X tg iter wi) (ok : BlkOk X.N X.env.scope scope own)
    (hg : ∀ (s : Shared) (H : Hp) (C : Addr) (cl : List (PySem.Str × Addr)) (fp : List Addr), PG (X.blk s H scope (compEnvC scope cl C X.env) fp) tg g) (ht : ∀ (s : Shared) (H : Hp) (C : Addr) (cl : List (PySem.Str × Addr)) (fp : List Addr), PTs (X.blk s H scope (compEnvC scope cl C X.env) fp) ifs tt)
    (he : ∀ (s : Shared) (H : Hp) (C : Addr) (cl : List (PySem.Str × Addr)) (fp : List Addr) (xe : Value → Shared → Prop), (∀ σ, PassesAt (L2.CX X.prog X.w) (Cx.xo (X.blk s H scope (compEnvC scope cl C X.env) fp) xe) σ E) → PE (Cx.xo (X.blk s H scope (compEnvC scope cl C X.env) fp) xe) elt te)
    (hs : ∀ x, foldedSetIterable iter X.env x = pure x := by intro _; rfl) :
    PE X (.ListComp elt [⟨tg, iter, ifs, 0⟩] scope pos) (tLc wi g tt te (own.map (·.2))) := by
  refine ⟨fun pins s σ H Q I h => ?_⟩
  rw [eval_ListComp]
  have cells : ∀ y ∈ scope.names, y.2 = .free → ∃ c, X.env.cells.lookup y.1 = some c := fun y hy e => I.ok.has _ (ok.free y hy e)
  refine comprehension_at (use := none) rfl hs (closure_ok cells) ok.kind (fun y hy e => (ok.uniq y hy).trans (by rw [e])) (thn (hi.run pins s σ H _ I h) fun xv sa hx => thn hx fun itv s2 h2 => ?_)
  obtain ⟨it, fp, tn, J, H2, rfl, I2, T, st2, f2, q⟩ := h2
  refine wpAny_newObj_type (newEnv_comp ?_) (by show 0 ≤ sizeLine; decide)
  generalize hD : s2.heap.objs.size = D
  obtain ⟨W, ⟨m0, w0⟩, turn⟩ := q D (I2.hok.fresh (Nat.le_of_eq hD))
  have pushD : ∀ b o, s2.heap.get? b = some o → (s2.heap.push { cls := .type "list", data := .seq ([] : List Value).toArray }).get? b = some o := fun b o e => Heap.get?_push_of_some _ e
  generalize hs3 : ({ s2 with heap := s2.heap.push { cls := .type "list", data := .seq ([] : List Value).toArray } } : Shared) = s3
  have e3 : s3.heap = s2.heap.push { cls := .type "list", data := .seq ([] : List Value).toArray } := by rw [← hs3]
  have I3 : Inv X pins σ (upd H2 D (.lst [])) s3 := by
    subst hs3
    refine I2.laid (t' := s2.toks) pushD (Nat.le_of_eq hD) ⟨Nat.zero_le _, [], 0, .nil, ?_⟩
    subst hD
    exact Heap.get?_push_size _ rfl
  have fp3 : ∀ b ∈ fp, FpOk X pins (upd H2 D (.lst [])) b ∧ b < s3.heap.objs.size := fun b hb => by
    obtain ⟨o, eo, _⟩ := T.obj _ _ st2 b hb
    have lt := Heap.lt_size eo
    obtain ⟨n0, nr⟩ := f2 b hb
    exact ⟨⟨(upd_ne (fun z => by rw [z, hD] at lt; exact Nat.lt_irrefl _ lt)).trans n0, nr⟩, by rw [e3, Heap.size_push]; exact Nat.lt_succ_of_lt lt⟩
  have st3 : tn 0 s3.heap := T.keep _ _ _ st2 fun b _ o e => by rw [e3]; exact pushD b o e
  have I4 := block_start I3 ok hN fp3
  show codeAny _ _ (.compStart (.ListComp elt [⟨tg, iter, ifs, 0⟩] scope pos) 0 (.ref it) (.ref D) (compEnvC scope (cellsFrom (s3.heap.objs.size + 1) scope.names (cloFrom X.env.cells scope.names [])) s3.heap.objs.size X.env))
    (compEnds (model X.prog X.w) X.A X.xe none (EP X pins σ Q) (.ref D) (compEnvC scope (cellsFrom (s3.heap.objs.size + 1) scope.names (cloFrom X.env.cells scope.names [])) s3.heap.objs.size X.env)) { s3 with heap := pushCells (s3.heap.push { cls := .type "dict", data := .dict #[] }) scope.names }
  have pg := hg s3 (upd H2 D (.lst [])) s3.heap.objs.size (cellsFrom (s3.heap.objs.size + 1) scope.names (cloFrom X.env.cells scope.names [])) fp
  have pt := ht s3 (upd H2 D (.lst [])) s3.heap.objs.size (cellsFrom (s3.heap.objs.size + 1) scope.names (cloFrom X.env.cells scope.names [])) fp
  have pe := he s3 (upd H2 D (.lst [])) s3.heap.objs.size (cellsFrom (s3.heap.objs.size + 1) scope.names (cloFrom X.env.cells scope.names [])) fp (lcE X (compEnvC scope (cellsFrom (s3.heap.objs.size + 1) scope.names (cloFrom X.env.cells scope.names [])) s3.heap.objs.size X.env))
    (lcx_air tk hst hfr I3 (fun b hb => (fp3 b hb).1) rfl rfl)
  have cL : (compEnvC scope (cellsFrom (s3.heap.objs.size + 1) scope.names (cloFrom X.env.cells scope.names [])) s3.heap.objs.size X.env).locals = s3.heap.objs.size := rfl
  generalize compEnvC scope (cellsFrom (s3.heap.objs.size + 1) scope.names (cloFrom X.env.cells scope.names [])) s3.heap.objs.size X.env = ce at I4 pg pt pe cL ⊢
  have n3 : ∀ b ∈ fp, (upd H2 D (.lst [])) b = none := fun b hb => (fp3 b hb).1.1
  generalize upd H2 D (.lst []) = H3 at I3 I4 pg pt pe w0 n3 fp3
  generalize hs4 : ({ s3 with heap := pushCells (s3.heap.push { cls := .type "dict", data := .dict #[] }) scope.names } : Shared) = s4 at I4 ⊢
  have st4 : tn 0 s4.heap := T.keep _ _ _ st3 fun b _ o e => by subst hs4; exact pushCells_keeps _ _ _ _ (Heap.get?_push_of_some _ e)
  -- the iterator's objects lie apart
  have apart : ∀ {σ' : L2.St} {H' : Hp} {s' : Shared}, Inv (X.blk s3 H3 scope ce fp) [] σ' H' s' → (∀ b ∈ fp, H' b = none) → ∀ b ∈ fp, FpOk (X.blk s3 H3 scope ce fp) [] H' b := fun {σ' H' s'} I' hn b hb => by
    obtain ⟨z1, z2⟩ := I'.ok.exf b hb
    exact ⟨hn b hb, z1, I'.ok.exfs b hb, .inl hb, z2, fun p hp => absurd (show p ∈ ([] : List (Addr × Obj)) ++ [] from hp) (by simp)⟩
  refine codeAny_compStart_list ?loop (T.self X.A 0 _ _ _ st4 ?loop)
  refine compLoop_any (fun n s' => ∃ i H', Inv (X.blk s3 H3 scope ce fp) [] (wipe σ (own.map (·.2))) H' s' ∧ tn i s'.heap ∧ (∀ b ∈ fp, H' b = none) ∧ W i n H') ?_ m0 ⟨0, H3, I4, st4, n3, w0⟩
  rintro n s5 ⟨i, H5, I5, st5, n5, w5⟩
  rcases turn i n H5 w5 with ⟨stop, qq⟩ | ⟨go, Nx, hNx, step⟩
  · refine thnF (T.done (X.blk s3 H3 scope ce fp) rfl rfl rfl hc i [] s5 _ H5 (fun _ _ => False) I5 (apart I5 n5) st5 stop) fun r s6 ⟨hr, I6⟩ => ?_
    subst hr
    have I7 : Inv X pins σ H5 s6 := I3.call' (ch := fp) I6.os I6.base I6.hok I6.bare fun b hb => by
      obtain ⟨⟨_, z1, _, z2, z3, z4⟩, _⟩ := fp3 b hb
      exact ⟨z2, z1, z3, z4⟩
    have nC : H5 ce.locals = none := I6.free
    obtain ⟨m, hn, _⟩ := I6.loc
    obtain ⟨_, f1, _, f3, f4, f5⟩ := I3.fpOk (H' := H5) (b := ce.locals) (by rw [cL]; exact Nat.le_refl _) nC
    exact ⟨m, hn, fun h'' sb => ⟨.ref D, H5, I7.turned (t' := s6.toks) (fun b o hb e => (sb.2 b hb).trans e) nC f1 f3 f4 f5, rfl, qq⟩⟩
  · refine thnF (T.item (X.blk s3 H3 scope ce fp) rfl rfl rfl hc i [] s5 _ H5 (fun _ _ => False) I5 (apart I5 n5) st5 go) fun r s6 ⟨u, hr, h6⟩ => ?_
    subst hr
    refine thnF h6 fun _ s7 ⟨x, H7, I7, r7, y7, st7, n7⟩ => ?_
    refine thnF (pg.run _ s7 _ H7 x u _ (I7.pinned (apart I7 n7) (T.obj _ _ st7)) r7 (step x H7 y7)) fun _ s8 ⟨σ8, H8, I8, hw8, q8⟩ => ?_
    refine thnF (pt.run _ s8 σ8 H8 _ I8 q8) fun b s9 ⟨H9, I9, q9⟩ => ?_
    have back : ∀ {s' : Shared} {H' : Hp}, Inv (X.blk s3 H3 scope ce fp) ([] ++ pinsAt fp s7.heap) σ8 H' s' → Nx H' → ∃ m, m < n ∧ ∃ i H', Inv (X.blk s3 H3 scope ce fp) [] (wipe σ (own.map (·.2))) H' s' ∧ tn i s'.heap ∧ (∀ b ∈ fp, H' b = none) ∧ W i m H' := fun {s' H'} I' nx => by
      obtain ⟨m', hm, w'⟩ := hNx H' nx
      have at7 : ∀ b ∈ fp, ∀ o, s7.heap.get? b = some o → s'.heap.get? b = some o ∧ H' b = none := fun b hb o e => by
        obtain ⟨z1, z2, _⟩ := I'.pin (b, o) (List.mem_append_right _ (List.mem_append_right _ (mem_pinsAt hb e)))
        exact ⟨z1, z2⟩
      refine ⟨m', hm, i + 1, H', (I'.unpinned (pins := [])).weak (by rw [← hw8, wipe_length]) (fun j v e => (wipe_some (by rw [hw8]; exact e)).1), T.keep _ _ _ st7 fun b hb o e => (at7 b hb o e).1, fun b hb => ?_, w'⟩
      obtain ⟨o, e, _⟩ := T.obj _ _ st7 b hb
      exact (at7 b hb o e).2
    cases b with
    | false =>
      simp only [Bool.false_eq_true, if_false] at q9 ⊢
      exact back I9 q9
    | true =>
      simp only [if_true] at q9 ⊢
      refine wpAny_mono (pe.run _ s9 σ8 H9 _ (Inv.xo I9) q9) (fun z s10 ⟨yv, H10, I10, r10, acc, hD10, hz10, nx⟩ => ?_) fun e s' h => h
      have I10 : Inv (X.blk s3 H3 scope ce fp) ([] ++ pinsAt fp s7.heap) σ8 H10 s10 := Inv.xo (e := fun _ _ => False) I10
      exact app_ok (X := X.blk s3 H3 scope ce fp) I10 hD10 hz10 r10 fun s11 I11 => back I11 nx
end
end Mc
namespace Mc
open PySem L2 PySem.Spec PyProof.Rows Evl
/-! deeds as texts: numbers, words -/
abbrev sIsWritten : Stmt := top 15
abbrev sReadWord : Stmt := top 13
abbrev sBadText : Stmt := inClass (top 2) 0
/-- numbers as they are written -/
def wrB (x : PySem.Str) : Bool := decide (1 ≤ x.length) && decide (x.length ≤ 12) && x.cps.toList.all (fun c => decide (c ∈ figures.cps.toList)) && (decide (x = "0") || decide (x.cps.toList[0]? ≠ some 48))
def numT (x : PySem.Str) : Int := (PySem.NumText.digitsVal x.cps.toList : Nat)
theorem figs_all : ∀ c ∈ figures.cps.toList, 48 ≤ c ∧ c ≤ 57 := by decide +kernel
theorem wrB_num {x : PySem.Str} (h : wrB x = true) : PySem.intText? x = some (numT x) ∧ x.length ≤ 640 := by
  unfold wrB at h
  simp only [Bool.and_eq_true, decide_eq_true_eq, List.all_eq_true] at h
  obtain ⟨⟨⟨h1, h2⟩, h3⟩, _⟩ := h
  refine ⟨PySem.intText_digits (fun c hc => figs_all c (h3 c hc)) (fun e => ?_) (by omega), by omega⟩
  have : x.cps.toList.length = 0 := by rw [e]; rfl
  rw [Array.length_toList] at this
  exact absurd h1 (by show ¬ 1 ≤ x.cps.size; omega)
def spWritten : Sp := fun vs H Q _ => ∃ x : PySem.Str, vs = [.str x] ∧ x.length ≤ 100 ∧ ∀ H', Ex H H' → Q (.bl (wrB x)) H'
structure TxBt (mg : PySem.Str → Option Value) : Prop where
  len : mg "len" = none
  all : mg "all" = none
  int : mg "int" = none
  str : mg "str" = none
  tuple : mg "tuple" = none
  range : mg "range" = none
  isinstance : mg "isinstance" = none
  figs : ∃ t, mg "FIGURES" = some (.str figures t)
  most : ∃ t, mg "MOST_FIGURES" = some (.int 12 t)
/-- the error: two fields -/
def spBadI2 (C : Addr) : Sp := fun vs H Q _ => ∃ (a : Addr) (v w : V), vs = [.ref a, v, w] ∧ H a = some (exo a C none) ∧ ∀ d, H d = none → d ≠ a → Q .non (upd (upd (upd H d (exd d [("line", v)])) a (exo a C (some d))) d (exd d [("word", w), ("line", v)]))
structure TxBd (K : PySem.W.Frag) (mg : PySem.Str → Option Value) (CB : Addr) : Prop where
  T : OexB K CB
  mg : mg "BadText" = some (.ref CB)
  nL : PySem.W.findIn K (.ref CB) "line" = some none
  nW : PySem.W.findIn K (.ref CB) "word" = some none
def CalB2 (P : Program) (w : World) (K : PySem.W.Frag) (mg : PySem.Str → Option Value) (base : Heap) (CB : Addr) : Prop :=
  ∃ (fI : Addr) (fd : FuncData), PySem.W.findIn K (.ref CB) "__init__" = some (some (.ref fI)) ∧ PySem.W.isFn K (.ref fI) = true ∧ Binds K fd ["self", "line", "word"] [] ∧ FnOk P w K mg base CX0 1 fI fd ["self", "line", "word"] (spBadI2 CB)
theorem bad_heap2 {H : Hp} {a d : Addr} {o1 o2 o3 o4 x : HO} (ha : H a = none) (ne : d ≠ a) : upd (del (upd (upd (upd (upd H a o1) d o2) a o3) d o4) a) d x = upd H d x := by
  funext b
  by_cases h1 : b = d
  · rw [h1, upd_same, upd_same]
  · rw [upd_ne h1, upd_ne h1]
    by_cases h2 : b = a
    · rw [h2, del_same, ha]
    · rw [del_ne h2, upd_ne h1, upd_ne h2, upd_ne h1, upd_ne h2]
theorem mkB_two {C : Addr} {v w : V} {H : Hp} {Q : XK} (q : ∀ d, H d = none → Q (.ref C) (some d) (upd H d (.xd [("word", w), ("line", v)]))) : [v, w].length ≤ 1000 ∧ ∀ a, H a = none → spBadI2 C (.ref a :: [v, w]) (upd H a (exo a C none)) (fun v' H2 => v' = .non ∧
    ∃ (d : Addr) (fs : List (PySem.Str × V)), H2 a = some (exo a C (some d)) ∧ H2 d = some (exd d fs) ∧ H d = none ∧ Q (.ref C) (some d) (upd (del H2 a) d (.xd fs))) E0 := by
  refine ⟨by show 2 ≤ 1000; decide, fun a ha => ⟨a, v, w, rfl, upd_same, fun d hd ne => ⟨rfl, d, [("word", w), ("line", v)], ?_, upd_same, by rw [upd_ne ne] at hd; exact hd, ?_⟩⟩⟩
  · rw [upd_ne (Ne.symm ne), upd_same]
  have hd0 : H d = none := by rw [upd_ne ne] at hd; exact hd
  rw [bad_heap2 ha ne]
  exact q d hd0
/-- what an error tells -/
def Err2 (CB : Addr) (H : Hp) (E : XK) (line : Int) (at_ : Nat) : Prop := ∀ d H', Ex H H' → H' d = some (.xd [("word", .int (at_ : Int)), ("line", .int line)]) → E (.ref CB) (some d) H'
theorem Err2.ex {CB : Addr} {H H1 : Hp} {E : XK} {line : Int} {k : Nat} (h : Err2 CB H E line k) (x : Ex H H1) : Err2 CB H1 E line k := fun d H' x' z => h d H' (x.trans x') z
inductive Pt
  | s (x : PySem.Str)
  | n (i : Int)
  | t (xs : List PySem.Str)
def rdW (ws : List PySem.Str) (k : Nat) (kind : PySem.Str) : Option Pt := match ws[k]? with
  | none => none
  | some x => if kind = "name" ∧ nameB (.str x) = true then some (.s x) else if kind = "number" ∧ wrB x = true then some (.n (numT x)) else none
def ptV : Pt → V
  | .s x => .str x
  | .n i => .int i
  | .t _ => .non
def spRdW (CB : Addr) : Sp := fun vs H Q E => ∃ (l : Addr) (ws : List PySem.Str) (k : Nat) (kind : PySem.Str) (line : Int), vs = [.ref l, .int (k : Int), .str kind, .int line] ∧ H l = some (.lst (ws.map V.str)) ∧ (∀ x ∈ ws, x.length ≤ 100) ∧ k ≤ ws.length ∧
  (∀ p, rdW ws k kind = some p → ∀ H', Ex H H' → Q (ptV p) H') ∧ (rdW ws k kind = none → Err2 CB H E line k)
section
variable {P : Program} {w : World} {K : PySem.W.Frag} {mg : PySem.Str → Option Value} {base : Heap}
theorem scIw : FnScope ["word", "sign"] ["word"] (defScope sIsWritten) := ⟨rfl, rfl, rfl, by decide +kernel, rfl, by decide +kernel, by decide +kernel⟩
theorem ok_written {f : Addr} {fd : FuncData} (F : Fun K "is_written_number" "is_written_number" sIsWritten f fd) (T : TxBt mg) : FnOk P w K mg base CX0 1 f fd ["word"] spWritten := by
  refine F.ok scIw (fun vs H Q E h => ?_) (fun cdv A outer s H vs Q E hr h => ?_)
  · obtain ⟨x, rfl, _⟩ := h
    rfl
  · obtain ⟨x, rfl, hx, q⟩ := h
    obtain ⟨tf, gf⟩ := T.figs
    obtain ⟨tm, gm⟩ := T.most
    have hsz : x.length ≤ sizeLine := Nat.le_trans hx (by decide)
    refine ⟨_, (pss_cons (ps_if (PW.pt (pw_or (pt_not (pt_chain op_le op_le pe_int (pe_callB call_len_str (by rfl) T.len PySem.boot_len (pa_cons (pv 0) pa_nil)) (pe_glob (by rfl) gm rel_int))) (pw_or1 (pt_not (pt_val (pe_callB (cr_all rfl) (by rfl) T.all (by rfl) (pa_cons (pe_lc (own := [("sign", 1)]) (g := gName 1) (tt := tYes) rfl scIw.nd (pi_str (pv 0)) (blkOk_by (own := [("sign", 1)]) (N := ["word", "sign"]) (sc := defScope sIsWritten) (by decide +kernel)) (fun _ _ _ _ _ => pg_name (i := 1) scIw.nd rfl (Or.inl rfl)) (fun _ _ _ _ _ => pts_nil) (fun _ _ _ _ _ => (pe_cmpR op_in_sign (pv 1) (pe_glob (by rfl) gf rel_str) (by rfl)))) pa_nil)))))))
        (pss_one (ps_ret pe_bl))
        pss_nil)
      (pss_one (ps_ret (pe_or (pe_cmpR op_eq (pv 0) pe_str (nomark _)) (pe_one (pe_cmpR op_ne (pe_ix ix_str (pv 0) pe_int (fun _ _ => rfl)) pe_str (nomark _))))))), ?_⟩
    have fl : wrB x = false → Q (.bl false) H := fun n => by
      have := q H (Ex.refl _)
      rw [n] at this
      exact this
    refine ⟨_, rfl, _, rfl, hsz, _, _, rfl, rfl, _, rfl, ?_⟩
    have no1 : ¬ (1 ≤ x.length ∧ x.length ≤ 12) → wrB x = false := fun n => by
      unfold wrB
      by_cases h1 : 1 ≤ x.length
      · rw [decide_eq_true h1, decide_eq_false (fun z => n ⟨h1, z⟩)]; rfl
      · rw [decide_eq_false h1]; rfl
    refine ite2 (fun h => ?_) (fun h => ?_)
    · have h1 : 1 ≤ x.length := by have := of_decide_eq_true h; omega
      refine ⟨_, _, rfl, rfl, _, rfl, ?_⟩
      refine ite2 (fun h2 => ?_) (fun h2 => ?_)
      · refine fl (no1 fun z => ?_)
        rw [decide_eq_true (by show ((x.length : Nat) : Int) ≤ 12; omega)] at h2
        exact absurd h2 (by decide)
      · have h8 : x.length ≤ 12 := by
          refine Nat.le_of_not_lt fun z => h2 ?_
          rw [decide_eq_false (by show ¬ ((x.length : Nat) : Int) ≤ 12; omega)]; rfl
        have e12 : (decide (1 ≤ x.length) && decide (x.length ≤ 12)) = true := by rw [decide_eq_true h1, decide_eq_true h8]; rfl
        obtain ⟨c0, hc0⟩ : ∃ c0, x.cps.toList[0]? = some c0 := ⟨_, List.getElem?_eq_getElem (by show 0 < x.cps.toList.length; rw [Array.length_toList]; exact h1)⟩
        refine ⟨_, rfl, _, rfl, fun D hD => lc_it walk_str (fun i H' => H' = upd H D (.lst ((((x.cps.toList.take i).map fun c => decide (c ∈ figures.cps.toList)) : List Bool).map V.bl))) rfl (fun _ _ _ _ => trivial) ?_ ?_⟩
        · rintro i v H1 H2 hi rfl ⟨rfl, c, hc, rfl⟩
          have hcl : x.cps.toList[i]? = some c := by rw [← Array.getElem?_toList] at hc; exact hc
          refine ⟨rfl, _, rfl, _, _, rfl, rfl, ?_⟩
          exact ⟨_, upd_same, by rw [List.length_map, List.length_map, List.length_take]; exact Nat.lt_of_le_of_lt (Nat.min_le_left _ _) (Nat.lt_of_lt_of_le hi hsz), by rw [upd_upd, List.take_add_one, hcl, List.map_append, List.map_append]; rfl⟩
        · rintro H1 rfl
          have e : (((x.cps.toList.take x.cps.size).map fun c => decide (c ∈ figures.cps.toList)) : List Bool).all id = x.cps.toList.all (fun c => decide (c ∈ figures.cps.toList)) := by
            rw [List.take_of_length_le (show x.cps.toList.length ≤ x.cps.size by rw [Array.length_toList]; exact Nat.le_refl _), List.all_map]; rfl
          have x1 : Ex H (upd H D (.lst ((((x.cps.toList.take x.cps.size).map fun c => decide (c ∈ figures.cps.toList)) : List Bool).map V.bl))) := Ex.new hD
          refine ⟨_, _, rfl, SqL.of upd_same, _, rfl, ?_⟩
          rw [e]
          have q1 := fun H' (y : Ex _ H') => q H' (x1.trans y)
          generalize upd H D (.lst ((((x.cps.toList.take x.cps.size).map fun c => decide (c ∈ figures.cps.toList)) : List Bool).map V.bl)) = H9 at q1
          unfold wrB at q1
          rw [e12, Bool.true_and] at q1
          cases ha : x.cps.toList.all (fun c => decide (c ∈ figures.cps.toList)) with
          | false =>
            rw [ha] at q1
            exact ite2 (fun _ => q1 _ (Ex.refl _)) (fun z => absurd rfl z)
          | true =>
            rw [ha, Bool.true_and] at q1
            refine ite2 (fun z => nomatch z) (fun _ => ?_)
            refine (ev_is (ev_orV (a := decide (x = "0")) (b := !decide ((⟨#[c0]⟩ : PySem.Str) = "0")) (ev_eqS (ev_var rfl) ev_c) fun _ => ev_neS (ev_op (x := .str x) (y := .int 0) (ev_var rfl) ev_c fun H2 y Q q => ⟨x, 0, c0, rfl, rfl, hsz, at0 hc0, q H2 (Ex.refl _)⟩) ev_c) ?_) _ (Ex.refl _) _ fun H2 x2 => q1 H2 x2
            rw [hc0]
            refine congrArg (fun b => V.bl (decide (x = "0") || b)) ?_
            have : ((⟨#[c0]⟩ : PySem.Str) = "0") ↔ c0 = 48 := ⟨fun z => by
              have z2 : (#[c0] : Array Nat) = #[48] := congrArg PySem.Str.cps z
              simpa using z2, fun z => by subst z; rfl⟩
            by_cases z : c0 = 48
            · rw [decide_eq_true (this.mpr z), z]; rfl
            · rw [decide_eq_false (fun y => z (this.mp y))]
              exact (decide_eq_true (p := some c0 ≠ some 48) fun y => z (Option.some.inj y)).symm
    · exact ⟨false, rfl, fl (no1 fun z => h (decide_eq_true (by show (1 : Int) ≤ ((x.length : Nat) : Int); omega)))⟩
theorem scBt : FnScope ["self", "line", "word"] ["self", "line", "word"] (defScope sBadText) := ⟨rfl, rfl, rfl, by decide +kernel, rfl, by decide +kernel, by decide +kernel⟩
theorem ok_badtext {f CB : Addr} {fd : FuncData} (F : Fun K "__init__" "BadText.__init__" sBadText f fd) (TB : TxBd K mg CB) : FnOk P w K mg base CX0 1 f fd ["self", "line", "word"] (spBadI2 CB) := by
  refine F.ok scBt (fun vs H Q E h => ?_) (fun cdv A outer s H vs Q E hr h => ?_)
  · obtain ⟨a, v, w, rfl, _⟩ := h
    rfl
  · obtain ⟨a, v, u, rfl, ha, k⟩ := h
    refine ⟨_, (pss_cons (ps_ostB (pv 0) (pv 1)) (pss_one (ps_ostB (pv 0) (pv 2)))), ?_⟩
    refine ⟨_, rfl, _, rfl, a, CB, rfl, TB.T, TB.nL, .inl ⟨ha, fun d hd ne => ?_⟩⟩
    refine ⟨_, rfl, _, rfl, a, CB, rfl, TB.T, TB.nW, .inr ⟨d, _, upd_same, ?_, ?_, k d hd ne⟩⟩
    · rw [upd_ne ne, upd_same]
    · show 1 ≤ 900
      decide
theorem scRw : FnScope ["words", "at", "kind", "line"] ["words", "at", "kind", "line"] (defScope sReadWord) := ⟨rfl, rfl, rfl, by decide +kernel, rfl, by decide +kernel, by decide +kernel⟩
theorem ok_readword {f CB : Addr} {fd : FuncData} (F : Fun K "read_word" "read_word" sReadWord f fd) (T : TxBt mg) (TB : TxBd K mg CB) (cB : CalB2 P w K mg base CB) (c_is_name : Cal P w K mg base 1 "is_name" ["thing"] spNameV) (c_is_written_number : Cal P w K mg base 1 "is_written_number" ["word"] spWritten) :
    FnOk P w K mg base (L2.CX P w) 4 f fd ["words", "at", "kind", "line"] (spRdW CB) := by
  obtain ⟨fI, fdI, iC, tI, bI, FI⟩ := cB
  refine F.okX scRw (fun vs H Q E h => ?_) (fun cdv A outer s H vs Q E hr h => ?_)
  · obtain ⟨l, ws, k, kind, line, rfl, _⟩ := h
    rfl
  · obtain ⟨l, ws, k, kind, line, rfl, hl, h100, hk, q, qe⟩ := h
    have hu := hu_of hr
    refine ⟨_, (pss_cons (ps_if (pt_cmpR op_eq (pv 1) (pe_callB call_len_seq (by rfl) T.len PySem.boot_len (pa_cons (pv 0) pa_nil)) (nomark _))
        (pss_one (ps_raise rfl (takes_of rfl rfl rfl rfl) (pmk_B TB.T iC tI FI (hr.mono (by decide)) bI rfl TB.mg (pa_cons (pv 3) (pa_cons (pv 1) pa_nil)))))
        pss_nil)
      (pss_cons (ps_if (PW.pt (pw_and (pt_cmpR op_eq (pv 2) pe_str (nomark _)) (pw_and1 (pt_val (pe_cal c_is_name (hr.mono (by decide)) rfl (pa_cons (pe_ix ix_list (pv 0) (pv 1) (fun _ _ => rfl)) pa_nil))))))
        (pss_one (ps_ret (pe_ix ix_list (pv 0) (pv 1) (fun _ _ => rfl))))
        pss_nil)
      (pss_cons (ps_if (PW.pt (pw_and (pt_cmpR op_eq (pv 2) pe_str (nomark _)) (pw_and1 (pt_val (pe_cal c_is_written_number (hr.mono (by decide)) rfl (pa_cons (pe_ix ix_list (pv 0) (pv 1) (fun _ _ => rfl)) pa_nil))))))
        (pss_one (ps_ret (pe_callTy call_int_str (by rfl) T.int boot_int (pa_cons (pe_ix ix_list (pv 0) (pv 1) (fun _ _ => rfl)) pa_nil))))
        pss_nil)
      (pss_one (ps_raise rfl (takes_of rfl rfl rfl rfl) (pmk_B TB.T iC tI FI (hr.mono (by decide)) bI rfl TB.mg (pa_cons (pv 3) (pa_cons (pv 1) pa_nil)))))))), ?_⟩
    have hL : ∀ {H'}, Ex H H' → SqL K H' l (ws.map V.str) := fun x => SqL.of (x _ _ hl)
    have er : ∀ {H'}, Ex H H' → rdW ws k kind = none → Err2 CB H' E line k := fun x z => (qe z).ex x
    refine q_ifB (b := decide (k = ws.length)) (et_test (ev_is (ev_eqI (ev_var rfl) (ev_lenL (ev_var rfl) (hL (Ex.refl _)))) (by rw [List.length_map]; exact congrArg V.bl (decide_eq_decide.mpr (by omega))))) (fun hb H1 x1 => ?_) (fun hb H1 x1 => ?_)
    · refine ⟨_, rfl, _, rfl, mkB_two fun d hd => ?_⟩
      have e := of_decide_eq_true hb
      exact er x1 (by unfold rdW; rw [List.getElem?_eq_none (by omega)]) d _ (Ex.new hd) upd_same
    · have lt : k < ws.length := Nat.lt_of_le_of_ne hk (of_decide_eq_false hb)
      obtain ⟨x, hx⟩ : ∃ x, ws[k]? = some x := ⟨_, List.getElem?_eq_getElem lt⟩
      have h100x := h100 x (List.mem_of_getElem? hx)
      have evx : ∀ {σ : L2.St} {H'}, Ex H H' → σ[0]? = some (some (V.ref l)) → σ[1]? = some (some (V.int (k : Int))) → Ev (tOp (rIxL K) (tVar 0) (tVar 1)) σ H' (.str x) := fun x e1 e2 => ev_op (ev_var e1) (ev_var e2) (rv_ixL (hL x) (atI_nat (by rw [List.getElem?_map, hx]; rfl)))
      have rw1 : ∀ r, (if kind = "name" ∧ nameB (.str x) = true then some (Pt.s x) else if kind = "number" ∧ wrB x = true then some (.n (numT x)) else none) = r → rdW ws k kind = r := fun r z => by unfold rdW; rw [hx]; exact z
      have evn : ∀ {σ : L2.St} {H'}, Ex H H' → σ[0]? = some (some (V.ref l)) → σ[1]? = some (some (V.int (k : Int))) → Ev (tCall spNameV [] E0 (tCons (tOp (rIxL K) (tVar 0) (tVar 1)) tNil)) σ H' (.bl (nameB (.str x))) := fun y e1 e2 => ev_call (ea_cons (evx y e1 e2) ea_nil) fun H2 e2 Q q E => ⟨.str x, rfl, h100x, (fun b e => nomatch e), q⟩
      have evw : ∀ {σ : L2.St} {H'}, Ex H H' → σ[0]? = some (some (V.ref l)) → σ[1]? = some (some (V.int (k : Int))) → Ev (tCall spWritten [] E0 (tCons (tOp (rIxL K) (tVar 0) (tVar 1)) tNil)) σ H' (.bl (wrB x)) := fun y e1 e2 => ev_call (ea_cons (evx y e1 e2) ea_nil) fun H2 e2 Q q E => ⟨x, rfl, h100x, q⟩
      dsimp only [tNext]
      refine q_ifB (b := decide (kind = "name" ∧ nameB (.str x) = true)) (et_is (et_and (a := decide (kind = "name")) (b := nameB (.str x)) (et_test (ev_eqS (ev_var rfl) ev_c)) fun _ => et_test (evn x1 (by rfl) (by rfl))) (by simp [Bool.decide_and])) (fun h2 H2 x2 => ?_) (fun h2 H2 x2 => ?_)
      · refine (evx (x1.trans x2) (by rfl) (by rfl)) _ (Ex.refl _) _ fun H3 x3 => q (.s x) (rw1 _ (if_pos (of_decide_eq_true h2))) H3 ((x1.trans x2).trans x3)
      dsimp only [tNext]
      refine q_ifB (b := decide (kind = "number" ∧ wrB x = true)) (et_is (et_and (a := decide (kind = "number")) (b := wrB x) (et_test (ev_eqS (ev_var rfl) ev_c)) fun _ => et_test (evw (x1.trans x2) (by rfl) (by rfl))) (by simp [Bool.decide_and])) (fun h3 H3 x3 => ?_) (fun h3 H3 x3 => ?_)
      · obtain ⟨i1, i2⟩ := wrB_num (of_decide_eq_true h3).2
        refine (evx ((x1.trans x2).trans x3) (by rfl) (by rfl)) _ (Ex.refl _) _ fun H4 x4 => ⟨x, numT x, rfl, i1, i2, ?_⟩
        exact q (.n (numT x)) (rw1 _ (by rw [if_neg (of_decide_eq_false h2), if_pos (of_decide_eq_true h3)])) H4 (((x1.trans x2).trans x3).trans x4)
      · refine ⟨_, rfl, _, rfl, mkB_two fun d hd => ?_⟩
        exact er ((x1.trans x2).trans x3) (rw1 _ (by rw [if_neg (of_decide_eq_false h2), if_neg (of_decide_eq_false h3)])) d _ (Ex.new hd) upd_same
end
end Mc
namespace Mc
open PySem L2 PySem.Spec PyProof.Rows
/-! ### xs[a:c] = ys, a within xs, c anywhere behind it -/
theorem cl_bounds {a c n : Nat} (h1 : a ≤ c) (h2 : a ≤ n) : sliceBounds (some (a : Int)) (some (c : Int)) none n = ((a : Int), ((min c n : Nat) : Int), 1) := by
  unfold sliceBounds
  have p1 : ¬ ((a : Int) < 0) := by omega
  have p2 : ¬ ((c : Int) < 0) := by omega
  simp only [Option.getD_none, p1, p2, if_false, show (1 : Int) > 0 by decide, if_true]
  congr 1
  · omega
  · congr 1; omega
section
variable {prog : Program} {w : World} {A : Around} {E : Value → Shared → Prop} {s : Shared}
theorem sl_store {l b sl : Addr} {xs ys : Array Value} {n1 n2 : Nat} {v1 v2 : Value} {a c : Nat} {Q : Unit → Shared → Prop} (e1 : s.heap.get? l = some { cls := .type "list", data := .seq xs n1 }) (e2 : s.heap.get? b = some { cls := .type "list", data := .seq ys n2 })
    (ne : l ≠ b) (hs : s.heap.IsSliceOf sl v1 v2 .none) (p1 : IsPart v1 (some (a : Int))) (p2 : IsPart v2 (some (c : Int))) (hac : a ≤ c) (ha : a ≤ xs.size) (hz : xs.size + ys.size ≤ sizeLine)
    (q : Q () { s with heap := s.heap.update l (Obj.mapSeq fun z => z.extract 0 a ++ ys ++ z.extract (min c xs.size) z.size) }) : wpAny (model prog w) A (setItem (.ref l) (.ref sl) (.ref b)) Q E s := by
  have L1 : s.heap.IsList l xs := PySem.IsL.isList e1
  have L2' : s.heap.IsList b ys := PySem.IsL.isList e2
  obtain ⟨os, g1, g2, g3⟩ := id hs
  have tS : s.TypeIs (.ref sl) "slice" := ⟨os, g1, g2⟩
  have other : Builtin.List.listSameRef (.ref l) (.ref b) = false := beq_eq_false_iff_ne.mpr ne
  have st0 : ¬ ((rawPart none == rawInt 0) = true) := Bool.false_ne_true
  have mx : (max (a : Int) ((min c xs.size : Nat) : Int)).toNat = min c xs.size := by omega
  have sz : ((fun z : Array Value => z.extract 0 a ++ ys ++ z.extract (min c xs.size) z.size) xs).size ≤ sizeLine + 1 := by
    simp only [Array.size_append, Array.size_extract]; omega
  unfold setItem
  (try with_reducible refine wpAny_holding ?_); (first | refine wpAny_bind (wpAny_pure ?_) | skip)
  refine wpAny_bind (wpAny_sequenceKey L1.typeIs (by decide) (wpAny_bind (wpAny_callSpecial?_slot (name := Str.ofString "__setitem__") L1.typeIs slot_list_setitem (wpAny_call_entry slot_list_setitem L1.typeIs entry_list_setitem ?_ (args_list_setitem _ _ _)))))
  show wpAny _ _ (Builtin.List.listSubscript? (.ref sl) >>= _) _ _ s
  refine wpAny_bind ?_
  unfold Builtin.List.listSubscript?
  refine wpAny_bind (wpAny_specialOf tS slice_no_index ?_)
  simp only [Option.isNone_none, if_true]; refine wpAny_pure ?_
  show wpAny _ _ (typeOf (.ref sl) >>= _) _ _ s
  refine wpAny_bind (wpAny_typeOf tS ?_)
  first | rw [if_neg (by decide)] | refine PySem.W.KFB.if_not (by decide) ?_
  rw [listSliceParts_eq]
  refine wpAny_bind (wpAny_bind (wpAny_field g1 g3 (x := .none) rfl (wpAny_bind (wpAny_listPart .none ?_))))
  rw [if_neg st0]
  refine wpAny_bind (wpAny_field g1 g3 (x := v1) rfl (wpAny_bind (wpAny_listPart p1 (wpAny_bind (wpAny_field g1 g3 (x := v2) rfl (wpAny_bind (wpAny_listPart p2 (wpAny_pure ?_))))))))
  first | simp only [other, Bool.false_eq_true, if_false] | refine PySem.W.KFB.if_not other ?_
  refine wpAny_bind (m := Builtin.List.listAllItems (.ref b) "must assign iterable to extended slice") ?_
  unfold Builtin.List.listAllItems
  refine wpAny_bind (wpAny_typeOf L2'.typeIs ?_)
  first | refine PySem.W.KFB.if_so (by decide) ?_ | rw [if_pos (by decide)] | simp only [beq_self_eq_true, Bool.true_or, if_true]
  unfold Builtin.List.listItems
  refine wpAny_bind (wpAny_seqItems e2 rfl (wpAny_pure (wpAny_bind (wpAny_bind (wpAny_seqItems e1 rfl (wpAny_pure ?_))))))
  refine wpAny_bind (wpAny_of_eq ((sliceIndices_raw (some (a : Int)) (some (c : Int)) none xs.size (by simp)).trans (congrArg (pure : Int × Int × Int → Sem (Int × Int × Int)) (cl_bounds hac ha))) ?_)
  show wpAny _ _ (if ((1 : Int) == 1) = true then _ else _) _ _ s
  rw [if_pos (by decide)]; refine wpAny_bind (wpAny_rule ?_)
  first | simp only [notLongL hz, Bool.false_eq_true, if_false] | refine PySem.W.KFB.if_not (notLongL hz) ?_
  first | refine wpAny_bind (wpAny_pure ?_) | skip
  show wpAny _ _ (updateSeq l (fun z => z.extract 0 ((a : Int)).toNat ++ ys ++ z.extract (max (a : Int) ((min c xs.size : Nat) : Int)).toNat z.size) >>= _) _ _ s
  rw [mx, Int.toNat_natCast]
  refine wpAny_bind (wpAny_updateSeq (hz := Nat.le_trans (Nat.le_add_right _ _) hz) (_hz' := sz) e1 rfl (wpAny_bind (wpAny_letGo ?_)))
  first | exact wpAny_bind (wpAny_pure (wpAny_pure ⟨.none, rfl, wpAny_pure q⟩)) | exact wpAny_pure ⟨.none, rfl, wpAny_pure q⟩
end
section
variable {X : Cx} {o : Expr} {to : TE} {lo hi : Option Expr} {tl th : TO} {pos p2 : Pos}
def gSla (to : TE) (tl th : TO) : TG := fun v σ H Q => to σ H fun x H1 => tl σ H1 fun l H2 => th σ H2 fun u H3 => ∃ (L b : Addr) (xs ys : List V) (a c : Nat), x = .ref L ∧ v = .ref b ∧ l = some (a : Int) ∧ u = some (c : Int) ∧ H3 L = some (.lst xs) ∧ H3 b = some (.lst ys) ∧
  L ≠ b ∧ a ≤ c ∧ a ≤ xs.length ∧ xs.length + ys.length ≤ sizeLine ∧ Q σ (upd H3 L (.lst (xs.take a ++ ys ++ xs.drop c)))
theorem pg_sla (ho : PE X o to) (hl : PO X lo tl) (hu : PO X hi th)
    (ha : ∀ v, assign (.Subscript o (.Slice lo hi none p2) pos) X.env v = (do
      let ov ← holding [v] (eval o X.env)
      let iv ← holding [v, ov] (eval (.Slice lo hi none p2) X.env)
      standAt pos
      holding [v, ov, iv] (setItem ov iv v)
      release [iv, v, ov] []) := by intro _; rfl) : PG X (.Subscript o (.Slice lo hi none p2) pos) (gSla to tl th) := by
  constructor
  intro pins s σ H v u Q I r h
  rw [ha]
  refine wpAny_bind (wpAny_holding (thn (ho.run pins s σ H _ I h) fun ov s1 z1 => ?_))
  obtain ⟨x, H1, I1, r1, q1⟩ := z1
  refine wpAny_bind (wpAny_holding (wpAny_Slice (thn (hl.run pins s1 σ H1 _ I1 q1) fun vl s2 z2 => ?_)))
  obtain ⟨l, H2, I2, pl, q2⟩ := z2
  refine thn (hu.run pins s2 σ H2 _ I2 q2) fun vu s3 z3 => ?_
  obtain ⟨u', H3, I3, pu, q3⟩ := z3
  rw [evalPart_none]
  refine wpAny_pure ?_
  have I4 : Inv X pins σ H3 { s3 with heap := s3.heap.push { cls := .type "slice", data := .fields #[vl, vu, .none] } } := I3.kept (t' := s3.toks) fun b ob q => Heap.get?_push_of_some _ q
  obtain ⟨L, b, xs, ys, a, c, rfl, rfl, rfl, rfl, hL, hB, ne, hac, hax, hz, q⟩ := q3
  cases r1
  cases r
  obtain ⟨z, its, n, rv, hl', e1⟩ := I4.lstM hL
  obtain ⟨z2, its2, n2, rv2, hl2, e2⟩ := I4.lstM hB
  refine wpAny_bind (wpAny_standAt (wpAny_bind (wpAny_holding (sl_store e1 e2 ne (Heap.IsSliceOf.new ..) pl pu hac (by rw [List.size_toArray]; omega) (by rw [List.size_toArray, List.size_toArray]; omega) (wpAny_release ?_)))))
  refine ⟨σ, _, I4.lset (its' := its.take a ++ its2 ++ its.drop (min c its.length)) (t' := s3.toks) hL e1 ?_ (Vals.append (Vals.append (rv.take _) rv2) ?_) ?_, q⟩
  · simpa using splice_eq its its2 a (min c its.length)
  · have ed : xs.drop c = xs.drop (min c its.length) := by
      by_cases hc : c ≤ its.length
      · rw [Nat.min_eq_left hc]
      · rw [Nat.min_eq_right (by omega), List.drop_of_length_le (by omega), List.drop_of_length_le (by omega)]
    rw [ed]
    exact rv.drop _
  · rw [List.length_append, List.length_append, List.length_take, List.length_drop]
    omega
end
end Mc
namespace Mc
open PySem L2 PySem.Spec PyProof.Rows Evl
/-! xs.extend(a tuple): the same as Cn.mt_extendU of CouR, without the council -/
section
variable {prog : Program} {w : World} {A : Around} {E : Value → Shared → Prop} {s : Shared}
theorem ext_storeU {l b : Addr} {xs ys : Array Value} {n1 : Nat} {Q : Value → Shared → Prop} (e1 : s.heap.get? l = some { cls := .type "list", data := .seq xs n1 }) (e2 : IsTup s.heap b ys)
    (hz : xs.size + ys.size ≤ sizeLine) (q : Q .none { s with heap := s.heap.update l (Obj.mapSeq fun z => z ++ ys) }) : wpAny (model prog w) A (call (.builtin "list.extend") [.ref l, .ref b]) Q E s := by
  have L1 : s.heap.IsList l xs := PySem.IsL.isList e1
  have hnot : ¬(!xs.isEmpty && Builtin.List.listTooLong (xs.size + ys.size)) = true := by
    rw [notLongL hz, Bool.and_false]; exact Bool.false_ne_true
  obtain ⟨o, e3, e4, n, e5⟩ := e2
  have tT : s.TypeIs (.ref b) "tuple" := ⟨o, e3, e4⟩
  have sz : ((fun z : Array Value => z ++ ys) xs).size ≤ sizeLine + 1 := by
    simp only [Array.size_append]; omega
  refine wpAny_call_entry F.slot_list_extend L1.typeIs F.entry_list_extend ?_ (F.args_list_extend_2 _ _)
  show wpAny _ _ (Builtin.List.listExtendWith (.ref l) (.ref b) .none) _ _ s
  unfold Builtin.List.listExtendWith
  refine wpAny_bind (wpAny_typeOf tT ?_)
  first | refine PySem.W.KFB.if_so (by simp) ?_ | rw [if_pos (by simp)]
  unfold Builtin.List.listItems
  refine wpAny_bind (wpAny_bind (wpAny_seqItems e3 e5 (wpAny_pure (wpAny_bind (wpAny_bind (wpAny_seqItems e1 rfl (wpAny_pure ?_)))))))
  dsimp only
  rw [if_neg hnot]
  unfold Builtin.List.listUpdate
  refine wpAny_bind (wpAny_updateSeq (hz := by omega) (_hz' := sz) e1 rfl ?_)
  exact wpAny_pure ⟨.none, rfl, q⟩
end
def rExtendU (K : PySem.W.Frag) : V → List V → Hp → VK → Prop := fun x vs H Q => ∃ l b xs zs, x = .ref l ∧ vs = [.ref b] ∧ H l = some (.lst xs) ∧ SqT K H b zs ∧ xs.length + zs.length ≤ sizeLine ∧ Q .non (upd H l (.lst (xs ++ zs)))
theorem mt_extendU {X : Cx} : MtM X "list.extend" (rExtendU X.K) := by
  intro pins s σ H x ys v us Q I rx ry h
  obtain ⟨l, b, xs, zs, rfl, rfl, hl, hb, hz, q⟩ := h
  cases rx
  obtain rfl := Vals.ref1 ry
  obtain ⟨z, its, n, rv, hl', e1⟩ := I.lstM hl
  obtain ⟨its2, rv2, hT, hz2⟩ := I.tuple hb
  refine ext_storeU e1 hT (by rw [List.size_toArray, List.size_toArray, ← hl', ← rv2.length]; exact hz) ?_
  refine ⟨.non, _, I.lset (its' := its ++ its2) (t' := s.toks) hl e1 (by simp) (Vals.append rv rv2) (by rw [List.length_append]; exact hz), rfl, q⟩
end Mc
namespace Mc
open PySem L2 PySem.Spec PyProof.Rows Evl
/-! deeds as texts: the masts at a line's end, a deed's line -/
abbrev sReadMasts : Stmt := top 14
abbrev sReadDeed : Stmt := top 12
abbrev sDeedLine : Stmt := top 11
def fstBad (ws : List PySem.Str) (i : Nat) : Option Nat := (List.range ws.length).find? fun k => decide (i ≤ k) && decide (rdW ws k "name" = none)
theorem fstBad_some {ws : List PySem.Str} {i k : Nat} (hi : i ≤ k) (hk : k < ws.length) (h : rdW ws k "name" = none) (ok : ∀ j, i ≤ j → j < k → rdW ws j "name" ≠ none) : fstBad ws i = some k := by
  unfold fstBad
  rw [List.find?_range_eq_some]
  refine ⟨by rw [decide_eq_true hi, decide_eq_true h]; rfl, List.mem_range.mpr hk, fun j hj => ?_⟩
  by_cases z : i ≤ j
  · rw [decide_eq_false (ok j z hj), Bool.and_false]; rfl
  · rw [decide_eq_false z]; rfl
theorem fstBad_none {ws : List PySem.Str} {i : Nat} (ok : ∀ j, i ≤ j → j < ws.length → rdW ws j "name" ≠ none) : fstBad ws i = none := by
  unfold fstBad
  rw [List.find?_range_eq_none]
  intro j hj
  by_cases z : i ≤ j
  · rw [decide_eq_false (ok j z hj), Bool.and_false]; rfl
  · rw [decide_eq_false z]; rfl
theorem rdW_name {ws : List PySem.Str} {k : Nat} {p : Pt} (h : rdW ws k "name" = some p) : ∃ x, ws[k]? = some x ∧ p = .s x := by
  unfold rdW at h
  cases e : ws[k]? with
  | none => rw [e] at h; cases h
  | some x =>
    rw [e] at h
    dsimp only at h
    by_cases z : nameB (.str x) = true
    · rw [if_pos ⟨rfl, z⟩] at h
      exact ⟨x, rfl, (Option.some.inj h).symm⟩
    · rw [if_neg (fun y => z y.2), if_neg (fun y => absurd y.1 (by decide +kernel))] at h
      cases h
def spRdMs (CB : Addr) : Sp := fun vs H Q E => ∃ (l : Addr) (ws : List PySem.Str) (i : Nat) (line : Int), vs = [.ref l, .int (i : Int), .int line] ∧ H l = some (.lst (ws.map V.str)) ∧ ws.length ≤ 1000 ∧ (∀ x ∈ ws, x.length ≤ 100) ∧ i ≤ ws.length ∧
  (fstBad ws i = none → ∀ t H', Ex H H' → H' t = some (.tup ((ws.drop i).map V.str)) → Q (.ref t) H') ∧ (∀ k, fstBad ws i = some k → Err2 CB H E line k)
/-- how a part lies -/
def PtH (H : Hp) : Pt → V → Prop
  | .s x, v => v = .str x
  | .n i, v => v = .int i
  | .t xs, v => ∃ t, v = .ref t ∧ H t = some (.tup (xs.map V.str))
theorem PtH.keep {H H' : Hp} {d : Addr} (h0 : ∀ b o, b ≠ d → H b = some o → H' b = some o) (hd : ∀ xs, H d ≠ some (.tup xs)) : ∀ {p : Pt} {v : V}, PtH H p v → PtH H' p v
  | .s _, _, h => h
  | .n _, _, h => h
  | .t xs, _, ⟨t, e, h⟩ => ⟨t, e, h0 t _ (fun z => hd _ (z ▸ h)) h⟩
theorem PtH.ex {H H' : Hp} (x : Ex H H') : ∀ {p : Pt} {v : V}, PtH H p v → PtH H' p v
  | .s _, _, h => h
  | .n _, _, h => h
  | .t _, _, ⟨t, e, h⟩ => ⟨t, e, x _ _ h⟩
def partsX : List (PySem.Str × List PySem.Str) := [("mast", ["name", "number"]), ("down", ["name"]), ("up", ["name"]), ("begin", ["name", "number"]), ("hear", ["name", "number", "masts"]), ("end", ["name"]), ("tick", [])]
def kindsOf (x : PySem.Str) : Option (List PySem.Str) := partsX.lookup x
theorem lookup_mem {α β : Type} [BEq α] [LawfulBEq α] {x : α} {y : β} : ∀ {l : List (α × β)}, l.lookup x = some y → (x, y) ∈ l
  | (a, b) :: l, h => by
    rw [List.lookup_cons] at h
    by_cases z : (x == a) = true
    · rw [z] at h
      rw [eq_of_beq z, Option.some.inj h]
      exact .head _
    · rw [Bool.eq_false_iff.mpr z] at h
      exact .tail _ (lookup_mem h)
theorem parts_len : ∀ x ∈ partsX, x.2.length ≤ 3 := by decide +kernel
theorem rdW_pt {ws : List PySem.Str} {k : Nat} {x : PySem.Str} {p : Pt} {H : Hp} (h : rdW ws k x = some p) : PtH H p (ptV p) := by
  unfold rdW at h
  cases e : ws[k]? with
  | none => rw [e] at h; cases h
  | some y =>
    rw [e] at h
    dsimp only at h
    split at h
    · obtain rfl := Option.some.inj h
      exact rfl
    · split at h
      · obtain rfl := Option.some.inj h
        exact rfl
      · cases h
/-- first words that are none, of the law's wrong lines -/
def absW : List PySem.Str := ["", "masst", "rubbish"]
structure PartsX (K : PySem.W.Frag) (w : World) (mg : PySem.Str → Option Value) (pa : Addr) (es : Array DictEntry) (n : Nat) : Prop where
  mg : mg "PARTS" = some (.ref pa)
  d : KDict K w pa es n
  at_ : ∀ x ∈ partsX, ∃ t : Addr, PySem.W.nsIn K pa x.1 = some (some (.ref t)) ∧ ∀ H, SqT K H t (x.2.map V.str)
  no : ∀ x ∈ absW, PySem.W.nsIn K pa x = some none
def rdP (ws : List PySem.Str) : Nat → List PySem.Str → Except Nat (List Pt × Nat)
  | at_, [] => .ok ([], at_)
  | at_, k :: ks => if k = "masts" then (match fstBad ws at_ with
      | some j => .error j
      | none => match rdP ws ws.length ks with
        | .error j => .error j
        | .ok (ps, z) => .ok (.t (ws.drop at_) :: ps, z))
    else match rdW ws at_ k with
      | none => .error at_
      | some p => match rdP ws (at_ + 1) ks with
        | .error j => .error j
        | .ok (ps, z) => .ok (p :: ps, z)
def rdD (ws : List PySem.Str) : Except Nat (List Pt) := match ws with
  | [] => .error 0
  | x :: _ => match kindsOf x with
    | none => .error 0
    | some ks => match rdP ws 1 ks with
      | .error j => .error j
      | .ok (ps, z) => if z < ws.length then .error z else .ok (.s x :: ps)
def addP (ps : List Pt) : Except Nat (List Pt × Nat) → Except Nat (List Pt × Nat)
  | .error j => .error j
  | .ok (qs, z) => .ok (ps ++ qs, z)
theorem addP_add {ps : List Pt} {p : Pt} : ∀ {r}, addP ps (addP [p] r) = addP (ps ++ [p]) r
  | .error _ => rfl
  | .ok _ => by show Except.ok _ = Except.ok _; rw [List.append_assoc]
theorem rdP_masts {ws : List PySem.Str} {k : Nat} {ks : List PySem.Str} : rdP ws k ("masts" :: ks) = match fstBad ws k with
    | some j => .error j
    | none => addP [.t (ws.drop k)] (rdP ws ws.length ks) := by
  show (if _ then _ else _) = _
  rw [if_pos rfl]
  cases fstBad ws k with
  | some j => rfl
  | none =>
    show (match rdP ws ws.length ks with | .error j => _ | .ok (ps, z) => _) = _
    cases rdP ws ws.length ks <;> rfl
theorem rdP_word {ws : List PySem.Str} {k : Nat} {x : PySem.Str} {ks : List PySem.Str} (hx : x ≠ "masts") : rdP ws k (x :: ks) = match rdW ws k x with
    | none => .error k
    | some p => addP [p] (rdP ws (k + 1) ks) := by
  show (if _ then _ else _) = _
  rw [if_neg hx]
  cases rdW ws k x with
  | none => rfl
  | some p =>
    show (match rdP ws (k + 1) ks with | .error j => _ | .ok (ps, z) => _) = _
    cases rdP ws (k + 1) ks <;> rfl
def spRdD (CB : Addr) : Sp := fun vs H Q E => ∃ (x : PySem.Str) (line : Int) (ws : List PySem.Str) (w0 : PySem.Str), vs = [.str x, .int line] ∧ x.length ≤ 20000 ∧ PySem.Txt.split x " " = ws ∧ ws.length ≤ 1000 ∧ (∀ y ∈ ws, y.length ≤ 100) ∧ ws[0]? = some w0 ∧ (kindsOf w0 = none → w0 ∈ absW) ∧
  (∀ ps, rdD ws = .ok ps → ∀ a us H', Ex H H' → H' a = some (.tup us) → Paired (PtH H') ps us → Q (.ref a) H') ∧ (∀ k, rdD ws = .error k → Err2 CB H E line k)
section
variable {P : Program} {w : World} {K : PySem.W.Frag} {mg : PySem.Str → Option Value} {base : Heap}
theorem scRm2 : FnScope ["words", "first", "line", "at"] ["words", "first", "line"] (defScope sReadMasts) := ⟨rfl, rfl, rfl, by decide +kernel, rfl, by decide +kernel, by decide +kernel⟩
theorem ok_readmasts {f CB : Addr} {fd : FuncData} (F : Fun K "read_masts" "read_masts" sReadMasts f fd) (T : TxBt mg) (c_read_word : CalX P w K mg base 4 "read_word" ["words", "at", "kind", "line"] (spRdW CB)) :
    FnOk P w K mg base (L2.CX P w) 5 f fd ["words", "first", "line"] (spRdMs CB) := by
  refine F.okX scRm2 (fun vs H Q E h => ?_) (fun cdv A outer s H vs Q E hr h => ?_)
  · obtain ⟨l, ws, i, line, rfl, _⟩ := h
    rfl
  · obtain ⟨l, ws, i0, line, rfl, hl, hz, h100, hi0, q, qe⟩ := h
    have hu := hu_of hr
    refine ⟨_, (pss_one (ps_ret (pe_tupleOf (by rfl) T.tuple (pe_lcX (own := [("at", 3)]) (g := gName 3) (tt := tYes) rfl (takes_of rfl rfl rfl rfl) rfl rfl scRm2.nd (pi_range2 (by rfl) T.range (pa_cons (pv 1) (pa_cons (pe_callB call_len_seq (by rfl) T.len PySem.boot_len (pa_cons (pv 0) pa_nil)) pa_nil))) (blkOk_by (own := [("at", 3)]) (N := ["words", "first", "line", "at"]) (sc := defScope sReadMasts) (by decide +kernel)) (fun _ _ _ _ _ => pg_name (i := 3) scRm2.nd rfl (Or.inl rfl)) (fun _ _ _ _ _ => pts_nil) (fun _ _ _ _ _ _ hx => (pe_calX (E := fun _ => E) c_read_word (hr.mono (by decide)) rfl hx (pa_cons (pv 0) (pa_cons (pv 3) (pa_cons pe_str (pa_cons (pv 2) pa_nil)))))))))), ?_⟩
    refine ⟨_, rfl, _, rfl, l, _, rfl, .inl (SqL.of hl), _, _, rfl, ⟨by omega, by omega, by omega, by rw [List.length_map]; omega⟩, fun D hD => lc_it (walk_rng (lo := (i0 : Int))) (fun m H' => Ex H H' ∧ H' D = some (.lst (((ws.drop i0).take m).map V.str)) ∧ i0 + m ≤ ws.length ∧ ∀ j, i0 ≤ j → j < i0 + m → rdW ws j "name" ≠ none) ⟨Ex.new hD, upd_same, hi0, fun j a b => absurd b (by omega)⟩ (fun _ _ _ _ => trivial) ?_ ?_⟩
    · rintro m v H1 H2 hm ⟨x1, hd, hb, ok⟩ ⟨rfl, hv⟩
      rw [List.length_map] at hm
      have hm2 : m < ((ws.length : Int) - (i0 : Int)).toNat := by simpa using hm
      obtain rfl : v = V.int ((i0 + m : Nat) : Int) := by
        rw [List.getElem?_map, List.getElem?_range (by rw [List.length_map]; exact hm2)] at hv
        exact (Option.some.inj hv).symm.trans (congrArg V.int (by omega))
      have lt : i0 + m < ws.length := by omega
      refine ⟨rfl, _, rfl, _, rfl, _, rfl, l, ws, i0 + m, "name", line, rfl, x1 _ _ hl, h100, Nat.le_of_lt lt, fun p hp H3 x3 => ?_, fun hp => (qe _ (fstBad_some (Nat.le_add_right _ _) lt hp ok)).ex x1⟩
      obtain ⟨x, hx, rfl⟩ := rdW_name hp
      have hd3 := x3 _ _ hd
      have hl3 : D ≠ l := fun e => by rw [e, hl] at hD; cases hD
      refine ⟨_, hd3, ?_, fun b o z => ?_, ?_, lt, fun j a b => ?_⟩
      · rw [List.length_map, List.length_take, List.length_drop]
        exact Nat.lt_of_le_of_lt (Nat.min_le_right _ _) (Nat.lt_of_le_of_lt (Nat.sub_le _ _) (Nat.lt_of_le_of_lt hz (by decide)))
      · rw [upd_ne (ne_of_none z hD)]
        exact x3 _ _ (x1 _ _ z)
      · rw [upd_same, List.take_add_one, List.getElem?_drop, hx, List.map_append]; rfl
      · rcases Nat.lt_or_ge j (i0 + m) with z | z
        · exact ok j a z
        · rw [show j = i0 + m from by omega, hp]
          exact fun z => nomatch z
    · rintro H1 ⟨x1, hd, hb, ok⟩
      rw [List.length_map] at hd hb ok
      have e : i0 + ((ws.length : Int) - i0).toNat = ws.length := by omega
      rw [e] at ok
      rw [List.take_of_length_le (by rw [List.length_drop]; omega)] at hd
      exact .inl ⟨D, _, rfl, SqL.of hd, fun t ht => q (fstBad_none ok) t _ (x1.trans (Ex.new ht)) upd_same⟩
theorem scRdd : FnScope ["text", "line", "words", "deed", "at", "kind"] ["text", "line"] (defScope sReadDeed) := ⟨rfl, rfl, rfl, by decide +kernel, rfl, by decide +kernel, by decide +kernel⟩
theorem ok_readdeed {f CB pa : Addr} {es : Array DictEntry} {n : Nat} {fd : FuncData} (F : Fun K "read_deed" "read_deed" sReadDeed f fd) (T : TxBt mg) (TP : PartsX K w mg pa es n) (TB : TxBd K mg CB) (cB : CalB2 P w K mg base CB) (c_read_word : CalX P w K mg base 4 "read_word" ["words", "at", "kind", "line"] (spRdW CB)) (c_read_masts : CalX P w K mg base 5 "read_masts" ["words", "first", "line"] (spRdMs CB)) :
    FnOk P w K mg base (L2.CX P w) 6 f fd ["text", "line"] (spRdD CB) := by
  obtain ⟨fI, fdI, iC, tI, bI, FI⟩ := cB
  refine F.okX scRdd (fun vs H Q E h => ?_) (fun cdv A outer s H vs Q E hr h => ?_)
  · obtain ⟨x, line, ws, w0, rfl, _⟩ := h
    rfl
  · obtain ⟨x, line, ws, w0, rfl, hxl, hws, hwl, h100, hw0, habs, q, qe⟩ := h
    have hu := hu_of hr
    refine ⟨_, (pss_cons (ps_set (i := 2) scRdd.nd rfl (Or.inl rfl) (pe_split (pv 0) pe_str))
      (pss_cons (ps_if (pt_cmpR (op_notIn_kd (X := _) (d := pa) (es := es) (n := n) TP.d) (pe_ix ix_list (pv 2) pe_int (fun _ _ => rfl)) (pe_glob (v := .ref pa) (by rfl) TP.mg rfl) (by rfl))
        (pss_one (ps_raise rfl (takes_of rfl rfl rfl rfl) (pmk_B TB.T iC tI FI (hr.mono (by decide)) bI rfl TB.mg (pa_cons (pv 1) (pa_cons pe_int pa_nil)))))
        pss_nil)
      (pss_cons (ps_set (i := 3) scRdd.nd rfl (Or.inl rfl) (pe_lst (pa_cons (pe_ix ix_list (pv 2) pe_int (fun _ _ => rfl)) pa_nil)))
      (pss_cons (ps_set (i := 4) scRdd.nd rfl (Or.inl rfl) pe_int)
      (pss_cons (ps_for (passes_of rfl) rfl (pi_tup (pe_ix ix_kdict (pe_glob (v := .ref pa) (by rfl) TP.mg rfl) (pe_ix ix_list (pv 2) pe_int (fun _ _ => rfl)) (fun _ _ => rfl))) (pg_name (i := 5) scRdd.nd rfl (Or.inl rfl))
        (pss_one (ps_if (pt_cmpR op_eq (pv 5) pe_str (nomark _))
          (pss_cons (ps_expr (pe_bm PySem.F.plainAttrs_list PySem.F.slot_list_append PySem.F.type_list_append mt_append (pv 3) (pa_cons (pe_calX (E := fun _ => E) c_read_masts (hr.mono (by decide)) rfl (fun σ => passAt (takes_of rfl rfl rfl rfl) σ) (pa_cons (pv 2) (pa_cons (pv 4) (pa_cons (pv 1) pa_nil)))) pa_nil)))
          (pss_one (ps_set (i := 4) scRdd.nd rfl (Or.inl rfl) (pe_callB call_len_seq (by rfl) T.len PySem.boot_len (pa_cons (pv 2) pa_nil)))))
          (pss_cons (ps_expr (pe_bm PySem.F.plainAttrs_list PySem.F.slot_list_append PySem.F.type_list_append mt_append (pv 3) (pa_cons (pe_calX (E := fun _ => E) c_read_word (hr.mono (by decide)) rfl (fun σ => passAt (takes_of rfl rfl rfl rfl) σ) (pa_cons (pv 2) (pa_cons (pv 4) (pa_cons (pv 5) (pa_cons (pv 1) pa_nil))))) pa_nil)))
          (pss_one (ps_aug (i := 4) scRdd.nd rfl (Or.inl rfl) pe_int ip_add))))))
      (pss_cons (ps_if (pt_cmpR op_lt (pv 4) (pe_callB call_len_seq (by rfl) T.len PySem.boot_len (pa_cons (pv 2) pa_nil)) (nomark _))
        (pss_one (ps_raise rfl (takes_of rfl rfl rfl rfl) (pmk_B TB.T iC tI FI (hr.mono (by decide)) bI rfl TB.mg (pa_cons (pv 1) (pa_cons (pv 4) pa_nil)))))
        pss_nil)
      (pss_one (ps_ret (pe_tupleOf (by rfl) T.tuple (pv 3)))))))))), ?_⟩
    refine ⟨_, rfl, ⟨_, rfl⟩, x, " ", rfl, rfl, by decide +kernel, Nat.le_trans (Nat.add_le_add_right hxl 2) (by decide), ?_⟩
    rw [hws]
    intro p hp
    have hpw : (upd H p (.lst (ws.map V.str))) p = some (.lst (ws.map V.str)) := upd_same
    have x0 : Ex H (upd H p (.lst (ws.map V.str))) := Ex.new hp
    generalize upd H p (.lst (ws.map V.str)) = H0 at hpw x0 ⊢
    have hP : ∀ {H'}, Ex H0 H' → SqL K H' p (ws.map V.str) := fun y => SqL.of (y _ _ hpw)
    have ev0 : ∀ {σ : L2.St} {H'}, Ex H0 H' → σ[2]? = some (some (V.ref p)) → Ev (tOp (rIxL K) (tVar 2) (tC (.int 0))) σ H' (.str w0) := fun y e => ev_op (ev_var e) ev_c (rv_ixL (hP y) (at0 (by rw [List.getElem?_map, hw0]; rfl)))
    obtain ⟨rest, rfl⟩ : ∃ rest, ws = w0 :: rest := by
      cases ws with
      | nil => cases hw0
      | cons a r => exact ⟨r, by rw [show a = w0 from Option.some.inj hw0]⟩
    dsimp only [gName]
    cases hk : kindsOf w0 with
    | none =>
      have er : rdD (w0 :: rest) = .error 0 := by unfold rdD; dsimp only; rw [hk]
      refine q_ifB (b := true) (et_test (ev_op (x := .str w0) (y := .ref pa) (z := .bl true) (ev0 (Ex.refl _) (by rfl)) ev_c fun H2 e Q q => ⟨w0, none, rfl, rfl, TP.no w0 (habs hk), q H2 (Ex.refl _)⟩)) (fun _ H1 x1 => ?_) (fun z => nomatch z)
      exact ⟨_, rfl, mkB_two fun d hd => (qe 0 er).ex (x0.trans x1) d _ (Ex.new hd) upd_same⟩
    | some ks =>
      obtain ⟨t, hns, hsq⟩ := TP.at_ (w0, ks) (lookup_mem hk)
      dsimp only at hns hsq
      refine q_ifB (b := false) (et_test (ev_op (x := .str w0) (y := .ref pa) (z := .bl false) (ev0 (Ex.refl _) (by rfl)) ev_c fun H2 e Q q => ⟨w0, some (.ref t), rfl, rfl, hns, q H2 (Ex.refl _)⟩)) (fun z => nomatch z) (fun _ H1 x1 => ?_)
      dsimp only [tNext]
      refine ev0 x1 (by rfl) _ (Ex.refl _) _ fun H2 x2 => ⟨by show 1 ≤ sizeLine; decide, fun dl hdl => ?_⟩
      have x3 : Ex H0 (upd H2 dl (.lst [.str w0])) := (x1.trans x2).trans (Ex.new hdl)
      have hd3 : (upd H2 dl (.lst [.str w0])) dl = some (.lst [.str w0]) := upd_same
      have ndl : H0 dl = none := fresh_back (x1.trans x2) hdl
      generalize upd H2 dl (.lst [.str w0]) = H3 at x3 hd3 ⊢
      dsimp only [gName, tSeq, tAsg, tC]
      refine ev_op (x := .ref pa) (y := .str w0) (z := .ref t) ev_c (ev0 x3 (by rfl)) (fun H2 e Q q => ⟨pa, w0, .ref t, rfl, rfl, ⟨es, n, .ref t, TP.d.at_, TP.d.lit, hns, rfl⟩, q H2 (Ex.refl _)⟩) _ (Ex.refl _) _ fun H4 x4 => ⟨t, rfl, ⟨_, hsq _⟩, for_tup (K := K) (xs := ks.map V.str) (fun i σ' H' => ∃ (k : Nat) (ps : List Pt) (us : List V) (v : Option V), σ' = [some (.str x), some (.int line), some (.ref p), some (.ref dl), some (.int (k : Int)), v] ∧ Ex H0 H' ∧ H' dl = some (.lst (.str w0 :: us)) ∧ Paired (PtH H') ps us ∧ ps.length = i ∧ k ≤ (w0 :: rest).length ∧ rdP (w0 :: rest) 1 ks = addP ps (rdP (w0 :: rest) k (ks.drop i))) ⟨1, [], [], none, rfl, x3.trans x4, x4 _ _ hd3, .nil, rfl, by rw [List.length_cons]; omega, ?_⟩ (fun i σ' H' _ _ => hsq _) ?_ ?_⟩
      · show rdP (w0 :: rest) 1 ks = addP [] (rdP (w0 :: rest) 1 ks)
        cases rdP (w0 :: rest) 1 ks <;> rfl
      · rintro i x5 σ H5 hx5 ⟨k, ps, us, v, rfl, x5', hd5, pr, hlen, hk5, hr5⟩
        rw [List.getElem?_map] at hx5
        obtain ⟨kind, hkd, rfl⟩ := Option.map_eq_some_iff.mp hx5
        obtain ⟨lti, ei⟩ := List.getElem?_eq_some_iff.mp hkd
        rw [List.drop_eq_getElem_cons lti, ei] at hr5
        have hus := Paired.length pr
        have h9 : us.length ≤ 1000 := by
          have hks : ks.length ≤ 3 := parts_len _ (lookup_mem hk)
          omega
        have nxt : ∀ (q0 : Pt) (u : V) (k' : Nat) (H7 : Hp) (v' : Option V), Ex H5 H7 → PtH H7 q0 u → k' ≤ (w0 :: rest).length → rdP (w0 :: rest) 1 ks = addP ps (addP [q0] (rdP (w0 :: rest) k' (ks.drop (i + 1)))) → ∀ σ', σ' = [some (.str x), some (.int line), some (.ref p), some (.ref dl), some (.int (k' : Int)), v'] → ∃ (k : Nat) (ps : List Pt) (us' : List V) (v : Option V), σ' = [some (.str x), some (.int line), some (.ref p), some (.ref dl), some (.int (k : Int)), v] ∧ Ex H0 (upd H7 dl (.lst ((.str w0 :: us) ++ [u]))) ∧ (upd H7 dl (.lst ((.str w0 :: us) ++ [u]))) dl = some (.lst (.str w0 :: us')) ∧ Paired (PtH (upd H7 dl (.lst ((.str w0 :: us) ++ [u])))) ps us' ∧ ps.length = i + 1 ∧ k ≤ (w0 :: rest).length ∧ rdP (w0 :: rest) 1 ks = addP ps (rdP (w0 :: rest) k (ks.drop (i + 1))) := fun q0 u k' H7 v' x7 hq hk' hr7 σ' es => by
          have hd7 : ∀ xs, H7 dl ≠ some (.tup xs) := fun xs e => by rw [x7 _ _ hd5] at e; cases e
          have kp : ∀ b o, b ≠ dl → H7 b = some o → (upd H7 dl (.lst ((.str w0 :: us) ++ [u]))) b = some o := fun b o nb z => by rw [upd_ne nb]; exact z
          refine ⟨k', ps ++ [q0], us ++ [u], v', es, fun b o z => ?_, upd_same, prd_snoc (prd_imp (fun a b h => PtH.keep kp hd7 (h.ex x7)) pr) (PtH.keep kp hd7 hq), by rw [List.length_append, hlen]; rfl, hk', by rw [hr7, addP_add]⟩
          rw [upd_ne (ne_of_none z ndl)]
          exact x7 _ _ (x5' _ _ z)
        have toE : ∀ j, rdP (w0 :: rest) 1 ks = .error j → rdD (w0 :: rest) = .error j := fun j e => by unfold rdD; dsimp only; rw [hk]; dsimp only; rw [e]
        dsimp only [gName]
        refine s_ifB (b := decide (kind = "masts")) (et_test (ev_eqS (ev_var (by rfl)) ev_c)) (fun hb H6 x6 => ?_) (fun hb H6 x6 => ?_)
        · obtain rfl := of_decide_eq_true hb
          rw [rdP_masts] at hr5
          refine ⟨_, rfl, .inl ⟨rfl, _, sq_of (x6 _ _ hd5)⟩, _, rfl, _, rfl, _, rfl, p, w0 :: rest, k, line, rfl, (x5'.trans x6) _ _ hpw, hwl, h100, hk5, fun hn t7 H7 x7 ht => ?_, fun j hj => ?_⟩
          · rw [hn] at hr5
            refine ⟨dl, _, .ref t7, rfl, rfl, x7 _ _ (x6 _ _ hd5), sz_lt (by rw [List.length_cons]; omega), _, rfl, p, (w0 :: rest).map V.str, rfl, .inl (SqL.of ?_), ?_⟩
            · rw [upd_ne (fun e => by rw [e] at hpw; rw [hpw] at ndl; cases ndl)]
              exact x7 _ _ (x6 _ _ (x5' _ _ hpw))
            · rw [List.length_map]
              exact nxt (.t ((w0 :: rest).drop k)) (.ref t7) _ H7 _ (x6.trans x7) ⟨t7, rfl, ht⟩ (Nat.le_refl _) hr5 _ rfl
          · rw [hj] at hr5
            exact (qe j (toE j hr5)).ex ((x0.trans x5').trans x6)
        · have hne := of_decide_eq_false hb
          rw [rdP_word hne] at hr5
          refine ⟨_, rfl, .inl ⟨rfl, _, sq_of (x6 _ _ hd5)⟩, _, rfl, _, rfl, _, rfl, _, rfl, p, w0 :: rest, k, kind, line, rfl, (x5'.trans x6) _ _ hpw, h100, hk5, fun q0 hq H7 x7 => ?_, fun hn => ?_⟩
          · rw [hq] at hr5
            have hlt : k < (w0 :: rest).length := Nat.lt_of_not_le fun z => by
              unfold rdW at hq
              rw [List.getElem?_eq_none z] at hq
              cases hq
            refine ⟨dl, _, ptV q0, rfl, rfl, x7 _ _ (x6 _ _ hd5), sz_lt (by rw [List.length_cons]; omega), _, rfl, _, _, rfl, rfl, ?_⟩
            exact nxt q0 (ptV q0) (k + 1) H7 _ (x6.trans x7) (rdW_pt hq) hlt hr5 _ rfl
          · rw [hn] at hr5
            exact (qe k (toE k hr5)).ex ((x0.trans x5').trans x6)
      · rintro σ H5 ⟨k, ps, us, v, rfl, x5, hd5, pr, hlen, hk5, hr5⟩
        rw [List.length_map, List.drop_length] at hr5
        have hr6 : rdP (w0 :: rest) 1 ks = .ok (ps, k) := by
          rw [hr5]
          show Except.ok (ps ++ [], k) = _
          rw [List.append_nil]
        have hp5 := hP x5
        dsimp only
        refine q_ifB (b := decide (k < (w0 :: rest).length)) (et_test (ev_is (ev_op (x := .int (k : Int)) (ev_var rfl) (ev_lenL (ev_var rfl) hp5) rv_I0) (by rw [List.length_map]; exact congrArg V.bl (decide_eq_decide.mpr (by omega))))) (fun hb H6 x6 => ?_) (fun hb H6 x6 => ?_)
        · have er : rdD (w0 :: rest) = .error k := by unfold rdD; dsimp only; rw [hk]; dsimp only; rw [hr6]; dsimp only; rw [if_pos (of_decide_eq_true hb)]
          exact ⟨_, rfl, _, rfl, mkB_two fun d hd => (qe k er).ex ((x0.trans x5).trans x6) d _ (Ex.new hd) upd_same⟩
        · have er : rdD (w0 :: rest) = .ok (.s w0 :: ps) := by unfold rdD; dsimp only; rw [hk]; dsimp only; rw [hr6]; dsimp only; rw [if_neg (of_decide_eq_false hb)]
          refine ⟨_, rfl, .inl ⟨dl, _, rfl, SqL.of (x6 _ _ hd5), fun t7 ht7 => ?_⟩⟩
          exact q _ er t7 _ _ (((x0.trans x5).trans x6).trans (Ex.new ht7)) upd_same (.cons rfl (prd_imp (fun a b h => h.ex (x6.trans (Ex.new ht7))) pr))
end
end Mc
namespace Mc
open PySem L2 PySem.Spec PyProof.Rows
/-- try: .. except C as n: .., its reading by a name -/
def tTryAs (K : PySem.W.Frag) (c : Value) (i : Nat) (tb : WX → TS) (ts : Addr → Value → Option Addr → TS) (Wout : WX) : TS := fun D σ H => tb (wAs K c i ts Wout D) D σ H
theorem ps_tryAs {X : Cx} {x n : Str} {c : Value} {i : Nat} {body suite : List Stmt} {b₀ : Stmt} {np pos pos' : Pos} {tb : WX → TS} {ts : Addr → Value → Option Addr → TS} {Wout : WX} (hs : X.stack = X.env :: X.outer) (hf : X.env.frame = some X.env.locals) (hN : X.N.Nodup) (hi : X.N[i]? = some n) (hln : X.env.kindOf n = some .local) (hc : Names X x c) (tk : Takes X Wout)
    (hb : ∀ (W : WX) (pn : List (Addr × Obj)) (xe : Value → Shared → Prop), Takes (X.tr pn xe) W → PassesOwn (model X.prog X.w) X.A X.env xe → PSs (X.tr pn xe) body (tb W))
    (hsu : ∀ (a : Addr) (oe : Obj) (cls : Value) (d : Option Addr) (pn : List (Addr × Obj)), Zc cls d oe → (∃ vs, oe.data = .fields vs) → PSs (X.suite a ((a, oe) :: pn)) (b₀ :: suite) (ts a cls d)) :
    PS X (.Try body [.ExceptHandler (some (.Name x np)) (some n) (b₀ :: suite) pos'] [] [] pos) (tTryAs X.K c i tb ts Wout) := ps_try_as hs hf hN hi hln hc tk hb hsu
end Mc
namespace Mc
open PySem L2 PySem.Spec PyProof.Rows Evl
/-! slices, sums, reversals, sorted copies of sequences, as pure values -/
theorem cut_take (xs : List V) (n : Nat) : cutV xs none (some (n : Nat)) = xs.take n := by
  unfold cutV
  rw [show HT.sIx xs.length 0 none = 0 from rfl, HT.sIx_nat, List.drop_zero, Nat.sub_zero]
  by_cases h : n ≤ xs.length
  · rw [Nat.min_eq_left h]
  · rw [Nat.min_eq_right (by omega), List.take_of_length_le (Nat.le_refl _), List.take_of_length_le (by omega)]
theorem cut_drop (xs : List V) (n : Nat) : cutV xs (some (n : Nat)) none = xs.drop n := by
  unfold cutV
  rw [show HT.sIx xs.length xs.length none = xs.length from rfl, HT.sIx_nat]
  by_cases h : n ≤ xs.length
  · rw [Nat.min_eq_left h]
    exact List.take_of_length_le (by rw [List.length_drop]; exact Nat.le_refl _)
  · rw [Nat.min_eq_right (by omega), Nat.sub_self, List.take_zero, List.drop_eq_nil_of_le (by omega)]
theorem cut_last (xs : List V) : cutV xs none (some (-1)) = xs.dropLast := by
  unfold cutV
  rw [show HT.sIx xs.length 0 none = 0 from rfl, List.drop_zero, Nat.sub_zero, List.dropLast_eq_take]
  have : HT.sIx xs.length xs.length (some (-1)) = xs.length - 1 := by
    show (if (-1 : Int) < 0 then (-1 + (xs.length : Int)).toNat else min (-1 : Int).toNat xs.length) = _
    rw [if_pos (by decide)]; omega
  rw [this]
section
variable {K : PySem.W.Frag} {σ : L2.St} {H : Hp} {ta tb te : TE} {a : Addr} {xs ys : List V} {tl th : TO} {lo hi : Option Int}
theorem el_cat (ha : EvL ta σ H xs) (hb : EvL tb σ H ys) (hz : xs.length + ys.length ≤ 100000) : EvL (tOp rCat ta tb) σ H (xs ++ ys) := fun H1 e Q q =>
  ha H1 e _ fun p H2 hp e2 h2 => hb H2 (e.trans e2) _ fun r H3 hr e3 h3 => ⟨p, r, xs, ys, rfl, rfl, e3 _ _ h2, h3, sz_of hz, fun g hg => q g _ (fresh_back (e2.trans e3) hg) ((e2.trans e3).trans (Ex.new hg)) upd_same⟩
/-- the first, the second one a list that stands -/
theorem el_cat1 (ha : Ev ta σ H (.ref a)) (h : H a = some (.lst xs)) (hb : EvL tb σ H ys) (hz : xs.length + ys.length ≤ 100000) : EvL (tOp rCat ta tb) σ H (xs ++ ys) := fun H1 e Q q =>
  ha H1 e _ fun H2 e2 => hb H2 (e.trans e2) _ fun r H3 hr e3 h3 => ⟨a, r, xs, ys, rfl, rfl, ((e.trans e2).trans e3) _ _ h, h3, sz_of hz, fun g hg => q g _ (fresh_back (e2.trans e3) hg) ((e2.trans e3).trans (Ex.new hg)) upd_same⟩
theorem el_cat2 (ha : EvL ta σ H xs) (hb : Ev tb σ H (.ref a)) (h : H a = some (.lst ys)) (hz : xs.length + ys.length ≤ 100000) : EvL (tOp rCat ta tb) σ H (xs ++ ys) := fun H1 e Q q =>
  ha H1 e _ fun p H2 hp e2 h2 => hb H2 (e.trans e2) _ fun H3 e3 => ⟨p, a, xs, ys, rfl, rfl, e3 _ _ h2, ((e.trans e2).trans e3) _ _ h, sz_of hz, fun g hg => q g _ (fresh_back (e2.trans e3) hg) ((e2.trans e3).trans (Ex.new hg)) upd_same⟩
theorem eu_catA (ha : EvU ta σ H xs) (hb : EvU tb σ H ys) (nx : xs ≠ []) (ny : ys ≠ []) (hz : xs.length + ys.length ≤ 100000) : EvU (tOp (rCatA K) ta tb) σ H (xs ++ ys) := fun H1 e Q q =>
  ha H1 e _ fun p H2 hp e2 h2 => hb H2 (e.trans e2) _ fun r H3 hr e3 h3 => ⟨p, r, xs, ys, rfl, rfl, st_of (e3 _ _ h2), st_of h3, sz_of hz, fun z => absurd z nx, fun _ z => absurd z ny, fun _ _ g hg => q g _ (fresh_back (e2.trans e3) hg) ((e2.trans e3).trans (Ex.new hg)) upd_same⟩
theorem eu_slT (h : Ev te σ H (.ref a)) (h1 : EvO tl σ H lo) (h2 : EvO th σ H hi) (hs : SqT K H a xs) (nw : ¬ (HT.sIx xs.length 0 lo = 0 ∧ HT.sIx xs.length xs.length hi = xs.length)) : EvU (tSl (rSlT K) te tl th) σ H (cutV xs lo hi) := fun H1 e _ q =>
  h H1 e _ fun H2 e2 => h1 H2 (e.trans e2) _ fun H3 e3 => h2 H3 ((e.trans e2).trans e3) _ fun H4 e4 => ⟨a, xs, rfl, ex_t (((e.trans e2).trans e3).trans e4) hs, nw, fun p hp => q p _ (fresh_back ((e2.trans e3).trans e4) hp) (((e2.trans e3).trans e4).trans (Ex.new hp)) upd_same⟩
/-- tuple(xs) of a list -/
theorem eu_tupL (h : Ev te σ H (.ref a)) (hs : SqL K H a xs) : EvU (tThen te (kTup K)) σ H xs := fun H1 e _ q =>
  h H1 e _ fun H2 e2 => .inl ⟨a, xs, rfl, ex_l (e.trans e2) hs, fun p hp => q p _ (fresh_back e2 hp) (e2.trans (Ex.new hp)) upd_same⟩
theorem el_revL (h : Ev te σ H (.ref a)) (hs : SqL K H a xs) : EvL (tRevL K te) σ H xs.reverse := fun H1 e _ q =>
  h H1 e _ fun H2 e2 => ⟨a, xs, rfl, ex_l (e.trans e2) hs, fun p hp => q p _ (fresh_back e2 hp) (e2.trans (Ex.new hp)) upd_same⟩
/-- sorted(xs) of a new list of ints -/
theorem el_srtI {ns zs : List Int} (h : EvL te σ H (ns.map V.int)) (hz : ns.length < 64) (pm : zs.Perm ns) (srt : zs.Pairwise (· ≤ ·)) : EvL (tCB (rSorted K) (tCons te tNil)) σ H (zs.map V.int) := fun H1 e Q q =>
  h H1 e _ fun l H2 hl e2 h2 => ⟨l, ns, rfl, sq_of h2, hz, fun ys p pm2 s hp => by
    have : ys = zs := List.Perm.eq_of_pairwise (le := (· ≤ ·)) (fun a b _ _ h k => Int.le_antisymm h k) s srt (pm2.trans pm.symm)
    rw [this]
    exact q p _ (fresh_back e2 hp) (e2.trans (Ex.new hp)) upd_same⟩
theorem mem_sortI (ns : List Int) : ∃ zs : List Int, zs.Perm ns ∧ zs.Pairwise (· ≤ ·) :=
  ⟨ns.mergeSort (fun a b => decide (a ≤ b)), List.mergeSort_perm _ _, (List.pairwise_mergeSort (le := fun a b => decide (a ≤ b)) (fun a b c h1 h2 => by simp at *; omega) (fun a b => by simp; omega) ns).imp fun h => by simpa using h⟩
theorem inV_int {x : Int} {xs : List Int} : inV (.int x) (xs.map V.int) = decide (x ∈ xs) := by
  unfold inV
  induction xs with
  | nil => rfl
  | cons y ys ih =>
    rw [List.map_cons, List.any_cons, ih]
    by_cases e : x = y
    · subst e
      have : eqV (V.int x) (V.int x) = true := by simp [eqV]
      simp [this]
    · have : eqV (V.int y) (V.int x) = false := by
        simp [eqV]
        exact fun z => e z.symm
      simp [this, e]
theorem flat_ints (xs : List Int) : (xs.map V.int).all flatV = true := by
  rw [List.all_map, List.all_eq_true]
  exact fun x _ => rfl
end
end Mc
namespace Mc
open PySem L2 PySem.Spec PyProof.Rows Evl
/-! deeds as texts: a deed's line, all deeds -/
abbrev sWriteDeeds : Stmt := top 16
abbrev sReadDeeds : Stmt := top 17
theorem joinL_len {S : List Nat} : ∀ ps : List (List Nat), (TL.joinL S ps).length ≤ (ps.map List.length).sum + ps.length * S.length
  | [] => Nat.zero_le _
  | [p] => by show p.length ≤ _; simp
  | p :: q :: r => by
    have := joinL_len (S := S) (q :: r)
    show (p ++ (S ++ TL.joinL S (q :: r))).length ≤ _
    rw [List.length_append, List.length_append, List.map_cons, List.sum_cons, List.length_cons (a := p), Nat.add_mul, Nat.one_mul]
    omega
theorem join_len (y : PySem.Str) (ys : List PySem.Str) : (PySem.Txt.join y ys).length ≤ (ys.map (·.length)).sum + ys.length * y.length := by
  have h := joinL_len (S := TL.tl y) (ys.map TL.tl)
  rw [← TL.tl_join, ← TL.join_eq, List.map_map, List.length_map] at h
  rw [TL.len_tl, TL.len_tl y]
  refine Nat.le_trans h (Nat.add_le_add_right (Nat.le_of_eq (congrArg List.sum (List.map_congr_left fun a _ => (TL.len_tl a).symm))) _)
theorem sum_le' {ys : List PySem.Str} {b : Nat} (h : ∀ y ∈ ys, y.length ≤ b) : (ys.map (·.length)).sum ≤ ys.length * b := by
  induction ys with
  | nil => exact Nat.zero_le _
  | cons a l ih =>
    rw [List.map_cons, List.sum_cons, List.length_cons, Nat.add_mul, Nat.one_mul]
    have := ih fun y hy => h y (.tail _ hy)
    have := h a (.head _)
    omega
theorem log2_small {n : Nat} (h : n < 1000000000) : Nat.log2 n < 1920 := by
  by_cases z : n = 0
  · subst z
    show Nat.log2 0 < 1920
    decide
  · exact (Nat.log2_lt z).mpr (Nat.lt_of_lt_of_le h (Nat.le_trans (by decide : 1000000000 ≤ 2 ^ 30) (Nat.pow_le_pow_right (by decide) (by decide))))
def ptW : Pt → List PySem.Str
  | .s x => [x]
  | .n i => [PySem.Str.ofString (toString i)]
  | .t xs => xs
def wordsP (ps : List Pt) : List PySem.Str := ps.flatMap ptW
def lineP (ps : List Pt) : PySem.Str := PySem.Txt.join " " (wordsP ps)
def PtOk : Pt → Prop
  | .s x => x.length ≤ 20
  | .n i => ∃ n : Nat, i = n ∧ n < 1000000000
  | .t xs => xs.length ≤ 80 ∧ ∀ x ∈ xs, x.length ≤ 20
theorem ptW_len {p : Pt} (h : PtOk p) : (ptW p).length ≤ 80 := by
  cases p with
  | s x => show 1 ≤ 80; omega
  | n i => show 1 ≤ 80; omega
  | t xs => exact h.1
theorem ptW_word {p : Pt} (h : PtOk p) : ∀ x ∈ ptW p, x.length ≤ 20 := by
  cases p with
  | s x => exact fun y hy => by rw [List.mem_singleton.mp hy]; exact h
  | n i =>
    obtain ⟨n, rfl, hn⟩ := h
    exact fun y hy => by
      rw [List.mem_singleton.mp hy, TL.len_tl, TL.tl_num]
      exact Nat.le_trans (TL.numL_len (k := 9) (by omega) (by omega)) (by omega)
  | t xs => exact h.2
theorem wordsP_len : ∀ {ps : List Pt}, (∀ p ∈ ps, PtOk p) → (wordsP ps).length ≤ 80 * ps.length
  | [], _ => Nat.zero_le _
  | p :: ps, h => by
    show (List.flatMap ptW (p :: ps)).length ≤ _
    rw [List.flatMap_cons, List.length_append, List.length_cons]
    have := ptW_len (h p (.head _))
    have : (List.flatMap ptW ps).length ≤ _ := wordsP_len fun q hq => h q (.tail _ hq)
    omega
theorem wordsP_word {ps : List Pt} (h : ∀ p ∈ ps, PtOk p) : ∀ x ∈ wordsP ps, x.length ≤ 20 := fun x hx => by
  obtain ⟨p, hp, hx⟩ := List.mem_flatMap.mp hx
  exact ptW_word (h p hp) x hx
theorem wordsP_sum {ps : List Pt} (h : ∀ p ∈ ps, PtOk p) (hl : ps.length ≤ 10) : ((wordsP ps).map (·.length)).sum + (wordsP ps).length * 1 ≤ 17000 := by
  have h1 := wordsP_len h
  have h2 := sum_le' (wordsP_word h)
  omega
theorem lineP_len {ps : List Pt} (h : ∀ p ∈ ps, PtOk p) (hl : ps.length ≤ 10) : (lineP ps).length ≤ 17000 := Nat.le_trans (join_len _ _) (wordsP_sum h hl)
def spLine : Sp := fun vs H Q _ => ∃ (da : Addr) (us : List V) (ps : List Pt), vs = [.ref da] ∧ H da = some (.tup us) ∧ Paired (PtH H) ps us ∧ ps.length ≤ 10 ∧ (∀ p ∈ ps, PtOk p) ∧ ∀ H', Ex H H' → Q (.str (lineP ps)) H'
def rStrA : List V → Hp → VK → Prop := fun xs H Q => (∃ i : Int, xs = [.int i] ∧ i.natAbs.log2 < 1920 ∧ Q (.str (PySem.Str.ofString (toString i))) H) ∨ ∃ a : PySem.Str, xs = [.str a] ∧ Q (.str a) H
theorem call_strA {X : Cx} : CallR X (.type "str") rStrA := fun pins s σ H xs us Q I r h => h.elim (call_str_int pins s σ H xs us Q I r) (SkE.call_str_str pins s σ H xs us Q I r)
section
variable {P : Program} {w : World} {K : PySem.W.Frag} {mg : PySem.Str → Option Value} {base : Heap}
theorem scDln : FnScope ["deed", "words", "part"] ["deed"] (defScope sDeedLine) := ⟨rfl, rfl, rfl, by decide +kernel, rfl, by decide +kernel, by decide +kernel⟩
theorem ok_deedline {f : Addr} {fd : FuncData} (F : Fun K "deed_line" "deed_line" sDeedLine f fd) (T : TxBt mg) : FnOk P w K mg base CX0 1 f fd ["deed"] spLine := by
  refine F.ok scDln (fun vs H Q E h => ?_) (fun cdv A outer s H vs Q E hr h => ?_)
  · obtain ⟨da, us, ps, rfl, _⟩ := h
    rfl
  · obtain ⟨da, us, ps, rfl, hda, pr, hl, ok, q⟩ := h
    refine ⟨_, (pss_cons (ps_set (i := 1) scDln.nd rfl (Or.inl rfl) (pe_lst pa_nil))
      (pss_cons (ps_for PassesOwn.never rfl (pi_tup (pv 0)) (pg_name (i := 2) scDln.nd rfl (Or.inl rfl))
        (pss_one (ps_if (pt_val (pe_callB call_isi (by rfl) T.isinstance boot_isinstance (pa_cons (pv 2) (pa_cons (pe_bltn (v := .ty "tuple") (by rfl) T.tuple boot_tuple rfl) pa_nil))))
          (pss_one (ps_expr (pe_bm PySem.F.plainAttrs_list PySem.F.slot_list_extend PySem.F.type_list_extend mt_extendU (pv 1) (pa_cons (pv 2) pa_nil))))
          (pss_one (ps_expr (pe_bm PySem.F.plainAttrs_list PySem.F.slot_list_append PySem.F.type_list_append mt_append (pv 1) (pa_cons (pe_callTy call_strA (by rfl) T.str boot_str (pa_cons (pv 2) pa_nil)) pa_nil)))))))
      (pss_one (ps_ret (pe_join pe_str (pv 1)))))), ?_⟩
    refine ⟨Nat.zero_le _, fun wl hwl => ?_⟩
    have x0 : Ex H (upd H wl (.lst [])) := Ex.new hwl
    have hw0 : (upd H wl (.lst [])) wl = some (.lst (([] : List PySem.Str).map V.str)) := upd_same
    generalize upd H wl (.lst []) = H0 at x0 hw0 ⊢
    dsimp only [gName]
    have step : ∀ (i : Nat) (p : Pt) (H5 H6 : Hp), ps[i]? = some p → Ex H H5 → H5 wl = some (.lst ((wordsP (ps.take i)).map V.str)) → Ex H5 H6 → ∀ zs, zs = (ptW p).map V.str → Ex H (upd H6 wl (.lst ((wordsP (ps.take i)).map V.str ++ zs))) ∧ (upd H6 wl (.lst ((wordsP (ps.take i)).map V.str ++ zs))) wl = some (.lst ((wordsP (ps.take (i + 1))).map V.str)) := fun i p H5 H6 hp x5 hw5 x6 zs ez => by
      subst ez
      refine ⟨fun b o z => ?_, ?_⟩
      · rw [upd_ne (ne_of_none z hwl)]
        exact x6 _ _ (x5 _ _ z)
      · rw [upd_same, List.take_add_one, hp]
        show some (HO.lst _) = some (HO.lst ((List.flatMap ptW (ps.take i ++ [p])).map V.str))
        rw [List.flatMap_append, List.map_append]
        show _ = some (HO.lst (_ ++ (List.flatMap ptW [p]).map V.str))
        rw [List.flatMap_cons, List.flatMap_nil, List.append_nil]
        rfl
    have sub : ∀ i, ∀ p ∈ ps.take i, PtOk p := fun i p hp => ok p (List.mem_of_mem_take hp)
    have lw : ∀ i, ((wordsP (ps.take i)).map V.str).length ≤ 800 := fun i => by
      have h1 := wordsP_len (sub i)
      rw [List.length_map]
      rw [List.length_take] at h1
      omega
    have hus := Paired.length pr
    refine ⟨_, rfl, da, rfl, ⟨_, st_of (x0 _ _ hda)⟩, for_tup (K := K) (xs := us) (fun i σ' H' => ∃ v, σ' = [some (.ref da), some (.ref wl), v] ∧ Ex H H' ∧ H' wl = some (.lst ((wordsP (ps.take i)).map V.str))) ⟨none, rfl, x0, hw0⟩ (fun i σ' H' _ ⟨_, _, e, _⟩ => st_of (e _ _ hda)) ?_ ?_⟩
    · rintro i u σ H5 hu ⟨v, rfl, x5, hw5⟩
      obtain ⟨p, hp, hpu⟩ : ∃ p, ps[i]? = some p ∧ PtH H p u := by
        have lt := (List.getElem?_eq_some_iff.mp hu).1
        obtain ⟨y, hy, hF⟩ := prd_get pr (List.getElem?_eq_getElem (l := ps) (i := i) (by omega))
        rw [hu] at hy
        cases hy
        exact ⟨_, List.getElem?_eq_getElem (by omega), hF⟩
      have okp := ok p (List.mem_of_getElem? hp)
      dsimp only [gName]
      cases p with
      | s y =>
        obtain rfl : u = .str y := hpu
        refine s_ifB (b := false) (et_B fun H1 e Q q => ⟨_, rfl, _, _, _, _, false, rfl, .ty "tuple", .base (.str _), by rfl, q H1 (Ex.refl _)⟩) (fun z => nomatch z) (fun _ H6 x6 => ?_)
        refine ⟨_, rfl, .inl ⟨rfl, _, sq_of (x6 _ _ hw5)⟩, _, rfl, .inr ⟨y, rfl, wl, _, _, rfl, rfl, x6 _ _ hw5, sz_lt (by have := lw i; omega), _, rfl, step i (.s y) H5 H6 hp x5 hw5 x6 _ rfl⟩⟩
      | n y =>
        obtain rfl : u = .int y := hpu
        obtain ⟨n, rfl, hn⟩ := okp
        refine s_ifB (b := false) (et_B fun H1 e Q q => ⟨_, rfl, _, _, _, _, false, rfl, .ty "tuple", .base (.int _), by rfl, q H1 (Ex.refl _)⟩) (fun z => nomatch z) (fun _ H6 x6 => ?_)
        refine ⟨_, rfl, .inl ⟨rfl, _, sq_of (x6 _ _ hw5)⟩, _, rfl, .inl ⟨_, rfl, ?_, wl, _, _, rfl, rfl, x6 _ _ hw5, sz_lt (by have := lw i; omega), _, rfl, step i (.n n) H5 H6 hp x5 hw5 x6 _ rfl⟩⟩
        show Nat.log2 n < 1920
        exact log2_small hn
      | t xs =>
        obtain ⟨t, rfl, ht⟩ := hpu
        have ht5 := x5 _ _ ht
        refine s_ifB (b := true) (et_B fun H1 e Q q => ⟨_, rfl, _, _, _, _, true, rfl, .ty "tuple", .base (.tup (e _ _ ht5)), by rfl, q H1 (Ex.refl _)⟩) (fun _ H6 x6 => ?_) (fun z => nomatch z)
        refine ⟨_, rfl, .inl ⟨rfl, _, sq_of (x6 _ _ hw5)⟩, _, rfl, wl, t, _, _, rfl, rfl, x6 _ _ hw5, st_of (x6 _ _ ht5), sz_of (by have := lw i; have := okp.1; rw [List.length_map (as := xs)]; omega), _, rfl, step i (.t xs) H5 H6 hp x5 hw5 x6 _ rfl⟩
    · rintro σ H5 ⟨v, rfl, x5, hw5⟩
      rw [List.take_of_length_le (by omega)] at hw5
      refine ⟨⟨_, rfl⟩, _, rfl, _, wl, wordsP ps, rfl, rfl, .inl (SqL.of hw5), Nat.le_trans (wordsP_sum ok hl) (by omega), q H5 x5⟩
end
end Mc
namespace Mc
open PySem L2 PySem.Spec PyProof.Rows Evl
/-! deeds as texts: all deeds written and read, what a wrong text tells -/
abbrev sFaultT : Stmt := top 24
/-- how a deed lies -/
def DsH (H : Hp) (ps : List Pt) (v : V) : Prop := ∃ a us, v = .ref a ∧ H a = some (.tup us) ∧ Paired (PtH H) ps us
theorem DsH.ex {H H' : Hp} {ps : List Pt} {v : V} (h : DsH H ps v) (x : Ex H H') : DsH H' ps v := by
  obtain ⟨a, us, e, h1, h2⟩ := h
  exact ⟨a, us, e, x _ _ h1, prd_imp (fun _ _ h => h.ex x) h2⟩
def textP (pss : List (List Pt)) : PySem.Str := PySem.Txt.join "\n" (pss.map lineP)
def spWrite : Sp := fun vs H Q _ => ∃ (l : Addr) (us : List V) (pss : List (List Pt)), vs = [.ref l] ∧ (H l = some (.lst us) ∨ H l = some (.tup us)) ∧ Paired (DsH H) pss us ∧ pss.length ≤ 100 ∧ (∀ ps ∈ pss, ps.length ≤ 10 ∧ ∀ p ∈ ps, PtOk p) ∧ ∀ H', Ex H H' → Q (.str (textP pss)) H'
/-- lines that can be read -/
def LineOk (y : PySem.Str) : Prop := y.length ≤ 20000 ∧ (PySem.Txt.split y " ").length ≤ 1000 ∧ (∀ z ∈ PySem.Txt.split y " ", z.length ≤ 100) ∧ ∃ w0, (PySem.Txt.split y " ")[0]? = some w0 ∧ (kindsOf w0 = none → w0 ∈ absW)
def rdL (y : PySem.Str) : Except Nat (List Pt) := rdD (PySem.Txt.split y " ")
def spRdDs (CB : Addr) : Sp := fun vs H Q E => ∃ (x : PySem.Str), vs = [.str x] ∧ x.length ≤ 10000000 ∧ (x = "" → ∀ t H', Ex H H' → H' t = some (.tup []) → Q (.ref t) H') ∧ (x ≠ "" → ∃ lines, PySem.Txt.split x "\n" = lines ∧ lines.length ≤ 1000 ∧ (∀ y ∈ lines, LineOk y) ∧
  (∀ pss, lines.map rdL = pss.map Except.ok → ∀ t us H', Ex H H' → H' t = some (.tup us) → Paired (DsH H') pss us → Q (.ref t) H') ∧
  (∀ (i k : Nat) y, lines[i]? = some y → rdL y = .error k → (∀ (j : Nat) z, j < i → lines[j]? = some z → ∃ ps, rdL z = .ok ps) → Err2 CB H E (i : Int) k))
structure TxFt2 (K : PySem.W.Frag) (mg : PySem.Str → Option Value) (CB : Addr) : Prop where
  mgB : mg "BadText" = some (.ref CB)
  xf : XfC K CB
  nL : PySem.W.findIn K (.ref CB) "line" = some none
  nW : PySem.W.findIn K (.ref CB) "word" = some none
  te : PySem.W.exmOne K (.ref CB) (.ref CB) = some true
def spFaultT : Sp := fun vs H Q _ => ∃ (x : PySem.Str) (lines : List PySem.Str) (i k : Nat) (y : PySem.Str), vs = [.str x] ∧ x.length ≤ 10000000 ∧ x ≠ "" ∧ PySem.Txt.split x "\n" = lines ∧ lines.length ≤ 1000 ∧ (∀ y ∈ lines, LineOk y) ∧ lines[i]? = some y ∧ rdL y = .error k ∧ (∀ (j : Nat) z, j < i → lines[j]? = some z → ∃ ps, rdL z = .ok ps) ∧
  ∀ t H', Ex H H' → H' t = some (.tup [.int (i : Int), .int (k : Int)]) → Q (.ref t) H'
theorem Paired.zip2 {α β : Type} {F : α → β → Prop} : ∀ {xs : List α} {ys : List β}, Paired F xs ys → xs = (xs.zip ys).map (·.1) ∧ ys = (xs.zip ys).map (·.2)
  | _, _, .nil => ⟨rfl, rfl⟩
  | _, _, .cons r t => by
    obtain ⟨a, b⟩ := Paired.zip2 t
    exact ⟨congrArg (List.cons _) a, congrArg (List.cons _) b⟩
theorem Paired.zip_get {α β : Type} {F : α → β → Prop} : ∀ {xs : List α} {ys : List β}, Paired F xs ys → ∀ {i : Nat} {y : α × β}, (xs.zip ys)[i]? = some y → F y.1 y.2 ∧ y.1 ∈ xs
  | _, _, .cons r t, 0, y, h => by
    cases Option.some.inj h
    exact ⟨r, .head _⟩
  | _, _, .cons r t, i + 1, y, h => by
    obtain ⟨a, b⟩ := Paired.zip_get t (i := i) (y := y) (by simpa using h)
    exact ⟨a, .tail _ b⟩
section
variable {P : Program} {w : World} {K : PySem.W.Frag} {mg : PySem.Str → Option Value} {base : Heap}
theorem scWd : FnScope ["deeds", "deed"] ["deeds"] (defScope sWriteDeeds) := ⟨rfl, rfl, rfl, by decide +kernel, rfl, by decide +kernel, by decide +kernel⟩
theorem ok_writedeeds {f : Addr} {fd : FuncData} (F : Fun K "write_deeds" "write_deeds" sWriteDeeds f fd) (T : TxBt mg) (c_deed_line : Cal P w K mg base 1 "deed_line" ["deed"] spLine) : FnOk P w K mg base CX0 2 f fd ["deeds"] spWrite := by
  refine F.ok scWd (fun vs H Q E h => ?_) (fun cdv A outer s H vs Q E hr h => ?_)
  · obtain ⟨l, us, pss, rfl, _⟩ := h
    rfl
  · obtain ⟨l, us, pss, rfl, hl, pr, hz, ok, q⟩ := h
    obtain ⟨z1, z2⟩ := Paired.zip2 pr
    have hlen := Paired.length pr
    have turn : ∀ (i : Nat) (y : List Pt × V), (pss.zip us)[i]? = some y → ∀ H', Ex H H' → Ev (tCall spLine [] E0 (tCons (tVar 1) tNil)) ((wipe (L2.start ["deeds", "deed"] [.ref l]) [1]).set 1 (some y.2)) H' (.str (lineP y.1)) := fun i y hy H' x1 => by
      obtain ⟨⟨a, vs, e, ha, hp⟩, hm⟩ := Paired.zip_get pr hy
      exact ev_call (ea_cons (ev_var (by rw [e]; rfl)) ea_nil) fun H2 x2 Q q E => ⟨a, vs, y.1, rfl, (x1.trans x2) _ _ ha, prd_imp (fun _ _ h => h.ex (x1.trans x2)) hp, (ok _ hm).1, (ok _ hm).2, q⟩
    have fin : ∀ p H', Ex H H' → H' p = some (.lst ((pss.zip us).map fun y => V.str (lineP y.1))) → ∃ (a : PySem.Str) (p' : Addr) (ys : List PySem.Str), V.str "\n" = .str a ∧ [V.ref p] = [.ref p'] ∧ (SqL K H' p' (ys.map V.str) ∨ SqT K H' p' (ys.map V.str)) ∧ (ys.map (·.length)).sum + ys.length * a.length ≤ 16777216 ∧ Q (.str (PySem.Txt.join a ys)) H' := fun p H' x hp => by
      refine ⟨"\n", p, pss.map lineP, rfl, rfl, .inl (SqL.of ?_), ?_, q H' x⟩
      · rw [hp]
        refine congrArg some (congrArg HO.lst ?_)
        conv => rhs; rw [z1]
        rw [List.map_map, List.map_map]
        rfl
      · have h1 := sum_le' (ys := pss.map lineP) (b := 17000) fun y hy => by
          obtain ⟨ps, hps, rfl⟩ := List.mem_map.mp hy
          exact lineP_len (ok _ hps).2 (ok _ hps).1
        rw [List.length_map] at h1 ⊢
        rw [show ("\n" : PySem.Str).length = 1 from rfl, Nat.mul_one]
        omega
    rcases hl with hl | hl
    · refine ⟨_, (pss_one (ps_ret (pe_join pe_str (pe_lc (own := [("deed", 1)]) (g := gName 1) (tt := tYes) rfl scWd.nd (pi_list (pv 0)) (blkOk_by (own := [("deed", 1)]) (N := ["deeds", "deed"]) (sc := defScope sWriteDeeds) (by decide +kernel)) (fun _ _ _ _ _ => pg_name (i := 1) scWd.nd rfl (Or.inl rfl)) (fun _ _ _ _ _ => pts_nil) (fun _ _ _ _ _ => (pe_cal c_deed_line (hr.mono (by decide)) rfl (pa_cons (pv 1) pa_nil))))))), ?_⟩
      refine ⟨⟨_, rfl⟩, ?_⟩
      refine (el_mL (K := K) (ys := pss.zip us) (c := (·.2)) (fun y => V.str (lineP y.1)) (ev_var rfl) (SqL.of (by rw [← z2]; exact hl)) (by rw [List.length_zip]; omega) turn) _ (Ex.refl _) _ fun p H2 _ x2 h2 => fin p H2 x2 h2
    · refine ⟨_, (pss_one (ps_ret (pe_join pe_str (pe_lc (own := [("deed", 1)]) (g := gName 1) (tt := tYes) rfl scWd.nd (pi_tup (pv 0)) (blkOk_by (own := [("deed", 1)]) (N := ["deeds", "deed"]) (sc := defScope sWriteDeeds) (by decide +kernel)) (fun _ _ _ _ _ => pg_name (i := 1) scWd.nd rfl (Or.inl rfl)) (fun _ _ _ _ _ => pts_nil) (fun _ _ _ _ _ => (pe_cal c_deed_line (hr.mono (by decide)) rfl (pa_cons (pv 1) pa_nil))))))), ?_⟩
      refine ⟨⟨_, rfl⟩, ?_⟩
      refine (el_mT (K := K) (ys := pss.zip us) (c := (·.2)) (fun y => V.str (lineP y.1)) (ev_var rfl) (SqT.of (by rw [← z2]; exact hl)) (by rw [List.length_zip]; omega) turn) _ (Ex.refl _) _ fun p H2 _ x2 h2 => fin p H2 x2 h2
theorem scRds : FnScope ["text", "lines", "line"] ["text"] (defScope sReadDeeds) := ⟨rfl, rfl, rfl, by decide +kernel, rfl, by decide +kernel, by decide +kernel⟩
theorem ok_readdeeds {f CB : Addr} {fd : FuncData} (F : Fun K "read_deeds" "read_deeds" sReadDeeds f fd) (T : TxBt mg) (c_read_deed : CalX P w K mg base 6 "read_deed" ["text", "line"] (spRdD CB)) :
    FnOk P w K mg base (L2.CX P w) 7 f fd ["text"] (spRdDs CB) := by
  refine F.okX scRds (fun vs H Q E h => ?_) (fun cdv A outer s H vs Q E hr h => ?_)
  · obtain ⟨x, rfl, _⟩ := h
    rfl
  · obtain ⟨x, rfl, hx, q0, h⟩ := h
    have hu := hu_of hr
    refine ⟨_, (pss_cons (ps_if (pt_cmpR op_eq (pv 0) pe_str (nomark _))
        (pss_one (ps_ret (pe_tup pa_nil)))
        pss_nil)
      (pss_cons (ps_set (i := 1) scRds.nd rfl (Or.inr rfl) (pe_split (pv 0) pe_str))
      (pss_one (ps_ret (pe_tupleOf (by rfl) T.tuple (pe_lcX (own := [("line", 2)]) (g := gName 2) (tt := tYes) rfl (takes_of rfl rfl rfl rfl) rfl rfl scRds.nd (pi_range1 (by rfl) T.range (pa_cons (pe_callB call_len_seq (by rfl) T.len PySem.boot_len (pa_cons (pv 1) pa_nil)) pa_nil)) (blkOk_by (own := [("line", 2)]) (N := ["text", "lines", "line"]) (sc := defScope sReadDeeds) (by decide +kernel)) (fun _ _ _ _ _ => pg_name (i := 2) scRds.nd rfl (Or.inl rfl)) (fun _ _ _ _ _ => pts_nil) (fun _ _ _ _ _ _ hx => (pe_calX (E := fun _ => E) c_read_deed (hr.mono (by decide)) rfl hx (pa_cons (pe_ix (ix_listK (K := K) rfl) (pv 1) (pv 2) (fun _ _ => rfl)) (pa_cons (pv 2) pa_nil)))))))))), ?_⟩
    refine q_ifB (b := decide (x = "")) (et_test (ev_eqS (ev_var rfl) ev_c)) (fun hb H1 x1 => ?_) (fun hb H1 x1 => ?_)
    · exact ⟨Nat.zero_le _, fun t ht => q0 (of_decide_eq_true hb) t _ (x1.trans (Ex.new ht)) upd_same⟩
    · dsimp only [tNext]
      obtain ⟨lines, hls, hll, hok, q, qe⟩ := h (of_decide_eq_false hb)
      refine ⟨_, rfl, ⟨_, rfl⟩, x, "\n", rfl, rfl, by decide +kernel, Nat.le_trans (Nat.add_le_add_right hx 2) (by decide), ?_⟩
      rw [hls]
      intro p hp
      have hpw : (upd H1 p (.lst (lines.map V.str))) p = some (.lst (lines.map V.str)) := upd_same
      have x0 : Ex H (upd H1 p (.lst (lines.map V.str))) := x1.trans (Ex.new hp)
      generalize upd H1 p (.lst (lines.map V.str)) = H0 at hpw x0 ⊢
      dsimp only [gName]
      refine ⟨_, rfl, p, _, rfl, .inl (SqL.of hpw), _, rfl, by rw [List.length_map]; omega, by rw [List.length_map]; omega, fun D hD => lc_it (walk_rng (lo := 0)) (fun m H' => Ex H0 H' ∧ ∃ pss us, H' D = some (.lst us) ∧ Paired (DsH H') pss us ∧ (lines.take m).map rdL = pss.map Except.ok ∧ m ≤ lines.length) ⟨Ex.new hD, [], [], upd_same, .nil, rfl, Nat.zero_le _⟩ (fun _ _ _ _ => trivial) ?_ ?_⟩
      · rintro m v H5 H2 hm ⟨x5, pss, us, hd, pr, hpss, hml⟩ ⟨rfl, hv⟩
        rw [List.length_map] at hm
        have lt : m < lines.length := by simpa using hm
        obtain rfl : v = V.int (m : Int) := by
          rw [List.getElem?_map, List.getElem?_range (by rw [List.length_map]; simpa using hm)] at hv
          exact (Option.some.inj hv).symm.trans (congrArg V.int (by omega))
        obtain ⟨y, hy⟩ : ∃ y, lines[m]? = some y := ⟨_, List.getElem?_eq_getElem lt⟩
        obtain ⟨o1, o2, o3, w0, o4, o5⟩ := hok y (List.mem_of_getElem? hy)
        have hlp := Paired.length pr
        have hl2 : pss.length = m := by
          have e := congrArg List.length hpss
          rw [List.length_map, List.length_map, List.length_take] at e
          omega
        refine ⟨rfl, _, rfl, _, rfl, p, _, (m : Int), _, rfl, rfl, SqL.of (x5 _ _ hpw), atI_nat (by rw [List.getElem?_map, hy]; rfl), _, rfl, y, m, _, w0, rfl, o1, rfl, o2, o3, o4, o5, fun ps hps a vs H6 x6 ha hp => ?_, fun k hk => ?_⟩
        · have nD : ∀ xs, H6 D ≠ some (.tup xs) := fun xs e => by rw [x6 _ _ hd] at e; cases e
          have kp : ∀ (u : HO) b o, b ≠ D → H6 b = some o → (upd H6 D u) b = some o := fun u b o nb z => by rw [upd_ne nb]; exact z
          have mv : ∀ (u : HO) (ps : List Pt) (v : V), DsH H6 ps v → DsH (upd H6 D u) ps v := fun u ps v ⟨a, us, e, h1, h2⟩ => ⟨a, us, e, kp u _ _ (fun z => nD _ (z ▸ h1)) h1, prd_imp (fun _ _ h => PtH.keep (kp u) nD h) h2⟩
          refine ⟨us, x6 _ _ hd, Nat.lt_of_le_of_lt (Nat.le_of_eq (hlp.symm.trans hl2)) (Nat.lt_of_lt_of_le lt (Nat.le_trans hll (by decide))), fun b o z => ?_, pss ++ [ps], us ++ [.ref a], upd_same, ?_, ?_, lt⟩
          · rw [upd_ne (ne_of_none z hD)]
            exact x6 _ _ (x5 _ _ z)
          · exact prd_snoc (prd_imp (fun a b h => mv _ _ _ (h.ex x6)) pr) (mv _ _ _ ⟨a, vs, rfl, ha, hp⟩)
          · rw [List.take_add_one, hy, List.map_append, List.map_append, hpss]
            exact congrArg (fun z => pss.map Except.ok ++ [z]) hps
        · refine (qe m k y hy hk fun j z hj hz => ?_).ex (x0.trans x5)
          have e := congrArg (fun l => l[j]?) hpss
          rw [List.getElem?_map, List.getElem?_map, List.getElem?_take_of_lt hj, hz] at e
          cases e2 : pss[j]? with
          | none => rw [e2] at e; cases e
          | some ps => rw [e2] at e; exact ⟨ps, Option.some.inj e⟩
      · rintro H5 ⟨x5, pss, us, hd, pr, hpss, hml⟩
        refine .inl ⟨D, us, rfl, SqL.of hd, fun t ht => q pss ?_ t _ _ ((x0.trans x5).trans (Ex.new ht)) upd_same (prd_imp (fun _ _ h => h.ex (Ex.new ht)) pr)⟩
        rw [List.length_map] at hpss
        rw [← hpss, List.take_of_length_le (by simp)]
theorem scFt2 : FnScope ["text", "fault"] ["text"] (defScope sFaultT) := ⟨rfl, rfl, rfl, by decide +kernel, rfl, by decide +kernel, by decide +kernel⟩
theorem ok_faultT {f CB : Addr} {fd : FuncData} (F : Fun K "_law_fault" "_law_fault" sFaultT f fd) (T : TxFt2 K mg CB) (c_read_deeds : CalX P w K mg base 7 "read_deeds" ["text"] (spRdDs CB)) :
    FnOk P w K mg base CX0 8 f fd ["text"] spFaultT := by
  refine F.ok scFt2 (fun vs H Q E h => ?_) (fun cdv A outer s H vs Q E hr h => ?_)
  · obtain ⟨x, lines, i, k, y, rfl, _⟩ := h
    rfl
  · obtain ⟨x, lines, i, k, y, rfl, hx, hne, hls, hll, hok, hy, hk, hb, q⟩ := h
    refine ⟨_, (pss_cons (ps_tryAs (i := 1) (Wout := fun _ _ _ _ => False) rfl rfl scFt2.nd rfl rfl ⟨by rfl, by decide, Or.inl T.mgB⟩ L2.takes0
          (fun W pn xe tk _ => pss_one (ps_expr (pe_calX c_read_deeds (hr.mono (by decide)) (by rfl) (fun σ => passAt tk σ) (pa_cons (pv 0) pa_nil))))
          (fun a oe cls d pn hz hf => pss_one (ps_ret (pe_tup (pa_cons (pe_xf T.xf T.nL hz hf (pv 1)) (pa_cons (pe_xf T.xf T.nW hz hf (pv 1)) pa_nil))))))
        (pss_one (ps_ret pe_non))), ?_⟩
    refine ⟨_, rfl, x, rfl, hx, fun e => absurd e hne, fun _ => ⟨lines, hls, hll, hok, fun pss e => ?_, fun j k' z hz ez hj => ?_⟩⟩
    · have e1 := congrArg (fun l => l[i]?) e
      rw [List.getElem?_map, List.getElem?_map, hy] at e1
      cases e2 : pss[i]? with
      | none => rw [e2] at e1; cases e1
      | some ps =>
        rw [e2] at e1
        have e3 : rdL y = .ok ps := Option.some.inj e1
        rw [hk] at e3
        cases e3
    · obtain rfl : j = i := by
        rcases Nat.lt_trichotomy j i with l | l | l
        · obtain ⟨ps, e⟩ := hb j z l hz
          rw [ez] at e
          cases e
        · exact l
        · obtain ⟨ps, e⟩ := hj i y l hy
          rw [hk] at e
          cases e
      rw [hy] at hz
      obtain rfl := Option.some.inj hz
      rw [hk] at ez
      obtain rfl : k = k' := by injection ez
      intro d H' x1 hd
      refine ⟨true, T.te, fun _ a0 _ => ?_, fun q => Bool.noConfusion q⟩
      exact ⟨_, rfl, rfl, rfl, d, _, _, rfl, hd, rfl, _, rfl, rfl, rfl, d, _, _, rfl, hd, rfl, by show 2 ≤ sizeLine; decide, fun t ht => q t _ (x1.trans (Ex.new ht)) upd_same⟩
end
end Mc
namespace Mc
open PySem L2 PySem.Spec PyProof.Rows Evl
/-! the mathematics of deeds as texts -/
def ptsOf : Option Dd → List Pt
  | some (.mast m n) => [.s "mast", .s m, .n n]
  | some (.down m) => [.s "down", .s m]
  | some (.up m) => [.s "up", .s m]
  | some (.begin b w) => [.s "begin", .s b, .n w]
  | some (.hear b r hs) => [.s "hear", .s b, .n r, .t hs]
  | some (.end_ b) => [.s "end", .s b]
  | none => [.s "tick"]
def NumOk (i : Int) : Prop := ∃ n : Nat, i = n ∧ n < 1000000000
def RightD : Option Dd → Prop
  | some (.mast m n) => okN m ∧ NumOk n
  | some (.down m) => okN m
  | some (.up m) => okN m
  | some (.begin b w) => okN b ∧ NumOk w
  | some (.hear b r hs) => okN b ∧ NumOk r ∧ hs.length ≤ 80 ∧ ∀ m ∈ hs, okN m
  | some (.end_ b) => okN b
  | none => True
theorem okN20 {x : PySem.Str} (h : okN x) : x.length ≤ 20 := Nat.le_trans h.2.1 (by decide)
theorem ptsOf_ok {o : Option Dd} (h : RightD o) : (ptsOf o).length ≤ 10 ∧ ∀ p ∈ ptsOf o, PtOk p := by
  have kw : ∀ x ∈ partsX, x.1.length ≤ 20 := by decide +kernel
  have kd : ∀ x : PySem.Str, (∃ ks, (x, ks) ∈ partsX) → PtOk (.s x) := fun x ⟨ks, h⟩ => kw _ h
  cases o with
  | none => exact ⟨by show 1 ≤ 10; omega, fun p hp => by rw [List.mem_singleton.mp hp]; exact kd _ ⟨[], by decide +kernel⟩⟩
  | some d =>
    cases d with
    | mast m n => exact ⟨by show 3 ≤ 10; omega, List.forall_mem_cons.mpr ⟨kd _ ⟨["name", "number"], by decide +kernel⟩, List.forall_mem_cons.mpr ⟨okN20 h.1, List.forall_mem_cons.mpr ⟨h.2, fun _ z => nomatch z⟩⟩⟩⟩
    | down m => exact ⟨by show 2 ≤ 10; omega, List.forall_mem_cons.mpr ⟨kd _ ⟨["name"], by decide +kernel⟩, List.forall_mem_cons.mpr ⟨okN20 h, fun _ z => nomatch z⟩⟩⟩
    | up m => exact ⟨by show 2 ≤ 10; omega, List.forall_mem_cons.mpr ⟨kd _ ⟨["name"], by decide +kernel⟩, List.forall_mem_cons.mpr ⟨okN20 h, fun _ z => nomatch z⟩⟩⟩
    | begin m n => exact ⟨by show 3 ≤ 10; omega, List.forall_mem_cons.mpr ⟨kd _ ⟨["name", "number"], by decide +kernel⟩, List.forall_mem_cons.mpr ⟨okN20 h.1, List.forall_mem_cons.mpr ⟨h.2, fun _ z => nomatch z⟩⟩⟩⟩
    | hear b r hs => exact ⟨by show 4 ≤ 10; omega, List.forall_mem_cons.mpr ⟨kd _ ⟨["name", "number", "masts"], by decide +kernel⟩, List.forall_mem_cons.mpr ⟨okN20 h.1, List.forall_mem_cons.mpr ⟨h.2.1, List.forall_mem_cons.mpr ⟨⟨h.2.2.1, fun x hx => okN20 (h.2.2.2 x hx)⟩, fun _ z => nomatch z⟩⟩⟩⟩⟩
    | end_ b => exact ⟨by show 2 ≤ 10; omega, List.forall_mem_cons.mpr ⟨kd _ ⟨["name"], by decide +kernel⟩, List.forall_mem_cons.mpr ⟨okN20 h, fun _ z => nomatch z⟩⟩⟩
def isErr {α : Type} : Except Nat α → Option Nat
  | .error k => some k
  | .ok _ => none
theorem isErr_of {α : Type} {r : Except Nat α} {k : Nat} (h : isErr r = some k) : r = .error k := by
  cases r with
  | error j => exact congrArg Except.error (Option.some.inj h)
  | ok a => cases h
/-! numbers -/
theorem numL_head : ∀ (n : Nat), 0 < n → ∃ c, (TL.numL n)[0]? = some c ∧ c ≠ 48 := by
  intro n
  induction n using Nat.strongRecOn with
  | ind n ih =>
    intro hn
    by_cases h : n < 10
    · rw [TL.numL_lt h]
      exact ⟨_, rfl, by omega⟩
    · rw [TL.numL_step (by omega)]
      obtain ⟨c, hc, h48⟩ := ih (n / 10) (Nat.div_lt_self hn (by decide)) (by omega)
      refine ⟨c, ?_, h48⟩
      rw [List.getElem?_append_left (by
        have := (List.getElem?_eq_some_iff.mp hc).1
        exact this)]
      exact hc
theorem figs_in : ∀ c, 48 ≤ c → c ≤ 57 → c ∈ figures.cps.toList := by
  have : ∀ c < 58, 48 ≤ c → c ∈ figures.cps.toList := by decide +kernel
  exact fun c h1 h2 => this c (by omega) h1
theorem wrB_of {n : Nat} (h : n < 1000000000) : wrB (PySem.Str.ofString (toString (n : Int))) = true ∧ numT (PySem.Str.ofString (toString (n : Int))) = n := by
  have e := TL.tl_num n
  constructor
  · unfold wrB
    have l1 : (PySem.Str.ofString (toString (n : Int))).length = (TL.numL n).length := by rw [TL.len_tl, e]
    have l2 := TL.numL_len (n := n) (k := 9) (by omega) (by omega)
    have l3 : 1 ≤ (TL.numL n).length := Nat.pos_of_ne_zero fun z => TL.numL_ne n (List.eq_nil_of_length_eq_zero z)
    have ed : (PySem.Str.ofString (toString (n : Int))).cps.toList = TL.numL n := e
    rw [l1, ed, decide_eq_true l3, decide_eq_true (Nat.le_trans l2 (by decide)), show ((TL.numL n).all fun c => decide (c ∈ figures.cps.toList)) = true from List.all_eq_true.mpr fun c hc => decide_eq_true (figs_in c (TL.numL_digits n c hc).1 (TL.numL_digits n c hc).2)]
    simp only [Bool.true_and, Bool.or_eq_true, decide_eq_true_eq]
    by_cases z : n = 0
    · subst z
      exact .inl (by decide +kernel)
    · refine .inr ?_
      obtain ⟨c, hc, h48⟩ := numL_head n (by omega)
      rw [hc]
      exact fun y => h48 (Option.some.inj y)
  · unfold numT
    rw [show (PySem.Str.ofString (toString (n : Int))).cps.toList = TL.numL n from e, TL.numL_val]
/-! what no word holds -/
theorem okN_free {x : PySem.Str} (h : okN x) {s : Nat} (hs : s ∉ letters.cps.toList ∧ s ∉ figures.cps.toList) : s ∉ TL.tl x := fun z => (h.2.2.2 s z).elim hs.1 hs.2
theorem ptW_free {p : Pt} {s : Nat} (hs : s ∉ letters.cps.toList ∧ s ∉ figures.cps.toList) (h : match p with | .s x => s ∉ TL.tl x | .n i => NumOk i | .t xs => ∀ x ∈ xs, okN x) : ∀ x ∈ ptW p, s ∉ TL.tl x := by
  cases p with
  | s x => exact fun y hy => by rw [List.mem_singleton.mp hy]; exact h
  | n i =>
    obtain ⟨n, rfl, hn⟩ := h
    exact fun y hy => by
      rw [List.mem_singleton.mp hy, TL.tl_num]
      refine fun z => hs.2 ?_
      exact figs_in s (TL.numL_digits n s z).1 (TL.numL_digits n s z).2
  | t xs => exact fun y hy => okN_free (h y hy) hs
theorem words_free {o : Option Dd} (h : RightD o) {s : Nat} (hs : s ∉ letters.cps.toList ∧ s ∉ figures.cps.toList) : ∀ x ∈ wordsP (ptsOf o), s ∉ TL.tl x := by
  have kw : ∀ x ∈ partsX, ∀ c ∈ TL.tl x.1, c ∈ letters.cps.toList := by decide +kernel
  have kf : ∀ x : PySem.Str, (∃ ks, (x, ks) ∈ partsX) → s ∉ TL.tl x := fun x ⟨ks, h⟩ z => hs.1 (kw _ h _ z)
  intro x hx
  obtain ⟨p, hp, hx⟩ := List.mem_flatMap.mp hx
  refine ptW_free hs ?_ x hx
  have go : ∀ p ∈ ptsOf o, match p with | .s x => s ∉ TL.tl x | .n i => NumOk i | .t xs => ∀ x ∈ xs, okN x := by
    cases o with
    | none => exact List.forall_mem_cons.mpr ⟨kf _ ⟨[], by decide +kernel⟩, fun _ z => nomatch z⟩
    | some d =>
      cases d with
      | mast m n => exact List.forall_mem_cons.mpr ⟨kf _ ⟨["name", "number"], by decide +kernel⟩, List.forall_mem_cons.mpr ⟨okN_free h.1 hs, List.forall_mem_cons.mpr ⟨h.2, fun _ z => nomatch z⟩⟩⟩
      | down m => exact List.forall_mem_cons.mpr ⟨kf _ ⟨["name"], by decide +kernel⟩, List.forall_mem_cons.mpr ⟨okN_free h hs, fun _ z => nomatch z⟩⟩
      | up m => exact List.forall_mem_cons.mpr ⟨kf _ ⟨["name"], by decide +kernel⟩, List.forall_mem_cons.mpr ⟨okN_free h hs, fun _ z => nomatch z⟩⟩
      | begin m n => exact List.forall_mem_cons.mpr ⟨kf _ ⟨["name", "number"], by decide +kernel⟩, List.forall_mem_cons.mpr ⟨okN_free h.1 hs, List.forall_mem_cons.mpr ⟨h.2, fun _ z => nomatch z⟩⟩⟩
      | hear b r ms => exact List.forall_mem_cons.mpr ⟨kf _ ⟨["name", "number", "masts"], by decide +kernel⟩, List.forall_mem_cons.mpr ⟨okN_free h.1 hs, List.forall_mem_cons.mpr ⟨h.2.1, List.forall_mem_cons.mpr ⟨h.2.2.2, fun _ z => nomatch z⟩⟩⟩⟩
      | end_ b => exact List.forall_mem_cons.mpr ⟨kf _ ⟨["name"], by decide +kernel⟩, List.forall_mem_cons.mpr ⟨okN_free h hs, fun _ z => nomatch z⟩⟩
  exact go p hp
theorem words_ne (o : Option Dd) : wordsP (ptsOf o) ≠ [] := by
  cases o with
  | none => exact fun z => by cases z
  | some d => cases d <;> exact fun z => by cases z
theorem split_line {o : Option Dd} (h : RightD o) : PySem.Txt.split (lineP (ptsOf o)) " " = wordsP (ptsOf o) :=
  TL.split_join (s := 32) (S := []) rfl (by decide +kernel) (words_ne o) (words_free h (by decide +kernel))
/-! reading what was written -/
theorem rdW_s {ws : List PySem.Str} {k : Nat} {x : PySem.Str} (h : ws[k]? = some x) (hx : okN x) : rdW ws k "name" = some (.s x) := by
  unfold rdW
  rw [h]
  exact if_pos ⟨rfl, decide_eq_true hx⟩
theorem rdW_n {ws : List PySem.Str} {k : Nat} {i : Int} (hi : NumOk i) (h : ws[k]? = some (PySem.Str.ofString (toString i))) : rdW ws k "number" = some (.n i) := by
  obtain ⟨n, rfl, hn⟩ := hi
  obtain ⟨h1, h2⟩ := wrB_of hn
  unfold rdW
  rw [h]
  show (if _ then _ else if _ then _ else _) = _
  rw [if_neg (fun z => absurd z.1 (by decide +kernel)), if_pos ⟨rfl, h1⟩, h2]
theorem kinds_of : kindsOf "mast" = some (["name", "number"] : List PySem.Str) ∧ kindsOf "down" = some (["name"] : List PySem.Str) ∧ kindsOf "up" = some (["name"] : List PySem.Str) ∧ kindsOf "begin" = some (["name", "number"] : List PySem.Str) ∧ kindsOf "hear" = some (["name", "number", "masts"] : List PySem.Str) ∧ kindsOf "end" = some (["name"] : List PySem.Str) ∧ kindsOf "tick" = some ([] : List PySem.Str) := by decide +kernel
theorem rdD_go {ws : List PySem.Str} {x : PySem.Str} {ks : List PySem.Str} {ps : List Pt} (h0 : ws[0]? = some x) (hk : kindsOf x = some ks) (h : rdP ws 1 ks = .ok (ps, ws.length)) : rdD ws = .ok (.s x :: ps) := by
  cases ws with
  | nil => cases h0
  | cons a l =>
    obtain rfl : a = x := Option.some.inj h0
    unfold rdD
    dsimp only
    rw [hk]
    dsimp only
    rw [h]
    dsimp only
    rw [if_neg (Nat.lt_irrefl _)]
theorem nm_ne : ("name" : PySem.Str) ≠ "masts" ∧ ("number" : PySem.Str) ≠ "masts" := by decide +kernel
theorem rd_name {x y : PySem.Str} (hk : kindsOf x = some (["name"] : List PySem.Str)) (hy : okN y) : rdD [x, y] = .ok [.s x, .s y] := by
  refine rdD_go rfl hk ?_
  rw [rdP_word nm_ne.1, rdW_s rfl hy]
  rfl
theorem rd_num {x y : PySem.Str} {i : Int} (hk : kindsOf x = some (["name", "number"] : List PySem.Str)) (hy : okN y) (hi : NumOk i) : rdD [x, y, PySem.Str.ofString (toString i)] = .ok [.s x, .s y, .n i] := by
  refine rdD_go rfl hk ?_
  rw [rdP_word nm_ne.1, rdW_s rfl hy]
  dsimp only
  rw [rdP_word nm_ne.2, rdW_n hi rfl]
  rfl
theorem rd_hear {y : PySem.Str} {i : Int} {hs : List PySem.Str} (hy : okN y) (hi : NumOk i) (hh : ∀ m ∈ hs, okN m) : rdD ("hear" :: y :: PySem.Str.ofString (toString i) :: hs) = .ok [.s "hear", .s y, .n i, .t hs] := by
  refine rdD_go rfl kinds_of.2.2.2.2.1 ?_
  rw [rdP_word nm_ne.1, rdW_s rfl hy]
  dsimp only
  rw [rdP_word nm_ne.2, rdW_n hi rfl]
  dsimp only
  rw [rdP_masts, fstBad_none]
  · rfl
  · intro j h1 h2
    obtain ⟨k, rfl⟩ : ∃ k, j = k + 3 := ⟨j - 3, by omega⟩
    have h3 : k < hs.length := by simpa using h2
    rw [rdW_s (x := hs[k]) (by simp [List.getElem?_eq_getElem h3]) (hh _ (List.getElem_mem h3))]
    exact fun z => nomatch z
theorem rdD_right {o : Option Dd} (h : RightD o) : rdD (wordsP (ptsOf o)) = .ok (ptsOf o) := by
  cases o with
  | none => exact rdD_go rfl kinds_of.2.2.2.2.2.2 rfl
  | some d =>
    cases d with
    | mast m n => exact rd_num kinds_of.1 h.1 h.2
    | down m => exact rd_name kinds_of.2.1 h
    | up m => exact rd_name kinds_of.2.2.1 h
    | begin m n => exact rd_num kinds_of.2.2.2.1 h.1 h.2
    | hear b r hs =>
      have e : wordsP (ptsOf (some (.hear b r hs))) = ("hear" : PySem.Str) :: b :: PySem.Str.ofString (toString r) :: hs := by
        show (["hear"] : List PySem.Str) ++ ([b] ++ ([PySem.Str.ofString (toString r)] ++ (hs ++ []))) = _
        rw [List.append_nil]
        rfl
      rw [e]
      exact rd_hear h.1 h.2.1 h.2.2.2
    | end_ b => exact rd_name kinds_of.2.2.2.2.2.1 h
theorem rdL_right {o : Option Dd} (h : RightD o) : rdL (lineP (ptsOf o)) = .ok (ptsOf o) := by
  unfold rdL
  rw [split_line h]
  exact rdD_right h
theorem line_ok {o : Option Dd} (h : RightD o) : LineOk (lineP (ptsOf o)) := by
  obtain ⟨h1, h2⟩ := ptsOf_ok h
  unfold LineOk
  rw [split_line h]
  refine ⟨Nat.le_trans (lineP_len h2 h1) (by decide), ?_, fun z hz => Nat.le_trans (wordsP_word h2 z hz) (by decide), ?_⟩
  · have := wordsP_len h2
    omega
  · have kk : ∀ x ∈ partsX, (kindsOf x.1).isSome = true := by decide +kernel
    have go : ∀ (x : PySem.Str) ks l, (x, ks) ∈ partsX → wordsP (ptsOf o) = x :: l → ∃ w0, (wordsP (ptsOf o))[0]? = some w0 ∧ (kindsOf w0 = none → w0 ∈ absW) := fun x ks l hx e => ⟨x, by rw [e]; rfl, fun z => by have := kk _ hx; rw [show kindsOf (x, ks).1 = none from z] at this; cases this⟩
    cases o with
    | none => exact go "tick" [] _ (by decide +kernel) rfl
    | some d =>
      cases d with
      | mast m n => exact go "mast" ["name", "number"] _ (by decide +kernel) rfl
      | down m => exact go "down" ["name"] _ (by decide +kernel) rfl
      | up m => exact go "up" ["name"] _ (by decide +kernel) rfl
      | begin m n => exact go "begin" ["name", "number"] _ (by decide +kernel) rfl
      | hear b r hs => exact go "hear" ["name", "number", "masts"] _ (by decide +kernel) rfl
      | end_ b => exact go "end" ["name"] _ (by decide +kernel) rfl
/-- the law's wrong lines -/
def wrongL : List (PySem.Str × Nat) := [("", 0), ("masst a 1", 0), ("mast", 1), ("mast A 1", 1), ("mast a", 2), ("mast a 01", 2), ("mast a 1 1", 3), ("mast a -1", 2), ("tick 1", 1), ("tick ", 1), ("hear c1", 2), ("hear c1 1 m0 M", 4), ("hear c1 1 ", 3), ("end c1 c2", 2), ("down 1a", 1), ("up abcdefghi", 1), ("begin c1 1234567890123", 2), ("hear  1", 1)]
def wrongT (x : PySem.Str) : PySem.Str := ("tick\n" ++ x) ++ "\nrubbish"
instance {y : PySem.Str} : Decidable (LineOk y) := by
  unfold LineOk
  have : Decidable (∃ w0, (PySem.Txt.split y " ")[0]? = some w0 ∧ (kindsOf w0 = none → w0 ∈ absW)) := match h : (PySem.Txt.split y " ")[0]? with
    | none => .isFalse fun ⟨_, e, _⟩ => by cases e
    | some w0 => if hc : kindsOf w0 = none → w0 ∈ absW then .isTrue ⟨w0, rfl, hc⟩ else .isFalse fun ⟨w', e, h⟩ => by cases e; exact hc h
  infer_instance
theorem wrong_all : ∀ x ∈ wrongL, (wrongT x.1).length ≤ 100 ∧ wrongT x.1 ≠ "" ∧ PySem.Txt.split (wrongT x.1) "\n" = (["tick", x.1, "rubbish"] : List PySem.Str) ∧ LineOk x.1 ∧ isErr (rdL x.1) = some x.2 := by decide +kernel
theorem tick_ok : LineOk "tick" ∧ LineOk "rubbish" := by decide +kernel
/-! all lines -/
theorem line_free {o : Option Dd} (h : RightD o) : 10 ∉ TL.tl (lineP (ptsOf o)) := by
  have go : ∀ ps : List (List Nat), (∀ p ∈ ps, 10 ∉ p) → 10 ∉ TL.joinL [32] ps := by
    intro ps
    induction ps with
    | nil => exact fun _ z => nomatch z
    | cons p ps ih =>
      intro hp
      cases ps with
      | nil => exact hp p (.head _)
      | cons q r =>
        show 10 ∉ p ++ ([32] ++ TL.joinL [32] (q :: r))
        intro z
        rcases List.mem_append.mp z with z | z
        · exact hp p (.head _) z
        · rcases List.mem_append.mp z with z | z
          · exact absurd (List.mem_singleton.mp z) (by decide)
          · exact ih (fun p hp' => hp p (.tail _ hp')) z
  unfold lineP
  rw [TL.join_eq, TL.tl_join]
  refine go _ fun p hp => ?_
  obtain ⟨x, hx, rfl⟩ := List.mem_map.mp hp
  exact words_free h (by decide +kernel) x hx
theorem split_text {os : List (Option Dd)} (h : ∀ o ∈ os, RightD o) (hne : os ≠ []) : PySem.Txt.split (textP (os.map ptsOf)) "\n" = (os.map ptsOf).map lineP := by
  refine TL.split_join (s := 10) (S := []) rfl (by decide +kernel) (fun z => hne (List.map_eq_nil_iff.mp (List.map_eq_nil_iff.mp z))) fun p hp => ?_
  rw [List.map_map] at hp
  obtain ⟨o, ho, rfl⟩ := List.mem_map.mp hp
  exact line_free (h o ho)
theorem text_ne {os : List (Option Dd)} (h : ∀ o ∈ os, RightD o) (hne : os ≠ []) : textP (os.map ptsOf) ≠ "" := fun z => by
  have e := split_text h hne
  rw [z] at e
  cases os with
  | nil => exact hne rfl
  | cons o l =>
    have e2 : PySem.Txt.split "" "\n" = ([""] : List PySem.Str) := by decide +kernel
    rw [e2] at e
    have e3 : ("" : PySem.Str) = lineP (ptsOf o) := by
      injection e
    have e4 := split_line (h o (.head _))
    rw [← e3] at e4
    have e5 : PySem.Txt.split "" " " = ([""] : List PySem.Str) := by decide +kernel
    rw [e5] at e4
    have r := rdD_right (h o (.head _))
    rw [← e4] at r
    have : rdD ([""] : List PySem.Str) = .error 0 := isErr_of (by decide +kernel)
    rw [this] at r
    cases r
end Mc
namespace Mc
open PySem L2 PySem.Spec PyProof.Rows
/-! ### data that can be compared, equal to itself -/
structure DOk (n : Nat) (d : PyData) : Prop where
  lay : d.canLay0 = true
  dep : d.depth ≤ n
  eq : PyData.eqv d d = true
theorem DOk.mono {n m : Nat} {d : PyData} (h : DOk n d) (k : n ≤ m) : DOk m d := ⟨h.lay, Nat.le_trans h.dep k, h.eq⟩
theorem DOk.non {n : Nat} : DOk n .none := ⟨rfl, by rw [PyData.depth]; exact Nat.zero_le _, by rw [PyData.eqv]⟩
theorem DOk.int {n : Nat} {i : Int} : DOk n (.int i) := ⟨rfl, by rw [PyData.depth]; exact Nat.zero_le _, by rw [PyData.eqv]; exact beq_self_eq_true i⟩
theorem DOk.str {n : Nat} {x : PySem.Str} (h : PyData.canLay0 (.str x) = true) : DOk n (.str x) := ⟨h, by rw [PyData.depth]; exact Nat.zero_le _, by rw [PyData.eqv]; exact beq_self_eq_true x⟩
theorem lays {n : Nat} : ∀ {ds : List PyData}, (∀ d ∈ ds, DOk n d) → PyData.canLayAll0 ds = true
  | [], _ => rfl
  | d :: ds, h => by
    show (PyData.canLay0 d && PyData.canLayAll0 ds) = true
    rw [(h d (by simp)).lay, lays fun x hx => h x (by simp [hx])]
    rfl
theorem deps {n : Nat} : ∀ {ds : List PyData}, (∀ d ∈ ds, DOk n d) → PyData.depthAll ds ≤ n
  | [], _ => Nat.zero_le _
  | d :: ds, h => by
    show max (PyData.depth d) (PyData.depthAll ds) ≤ n
    exact Nat.max_le.mpr ⟨(h d (by simp)).dep, deps fun x hx => h x (by simp [hx])⟩
theorem eqs {n : Nat} : ∀ {ds : List PyData}, (∀ d ∈ ds, DOk n d) → PyData.eqvAll ds ds = true
  | [], _ => rfl
  | d :: ds, h => by
    show (PyData.eqv d d && PyData.eqvAll ds ds) = true
    rw [(h d (by simp)).eq, eqs fun x hx => h x (by simp [hx])]
    rfl
theorem DOk.tup {n : Nat} {ds : List PyData} (h : ∀ d ∈ ds, DOk n d) : DOk (n + 1) (.tuple ds) :=
  ⟨by rw [PyData.canLay0]; exact lays h, by rw [PyData.depth]; exact Nat.succ_le_succ (deps h), by rw [PyData.eqv]; exact eqs h⟩
theorem DOk.lst {n : Nat} {ds : List PyData} (h : ∀ d ∈ ds, DOk n d) : DOk (n + 1) (.list ds) :=
  ⟨by rw [PyData.canLay0]; exact lays h, by rw [PyData.depth]; exact Nat.succ_le_succ (deps h), by rw [PyData.eqv]; exact eqs h⟩
theorem DOk.shaped {n : Nat} {d : PyData} (h : DOk n d) (k : n ≤ 64 := by decide) : SeqAt.shaped d = true := by
  unfold SeqAt.shaped
  rw [h.lay, decide_eq_true (Nat.le_trans h.dep k)]
  rfl
/-- two data of one form that are equal -/
theorem eqv_tup2 (a b c d : Int) : PyData.eqv (.tuple [.int a, .int b]) (.tuple [.int c, .int d]) = decide ((a, b) = (c, d)) := by
  rw [PyData.eqv]
  show (PyData.eqv (.int a) (.int c) && (PyData.eqv (.int b) (.int d) && true)) = _
  rw [PyData.eqv, PyData.eqv, Bool.and_true]
  by_cases h1 : a = c <;> by_cases h2 : b = d <;> simp [h1, h2]
theorem dpA1 {K : PySem.W.Frag} {H : Hp} {v : V} {d : PyData} (h : Dp K H v d) : DpAll K H [v] [d] := .cons h .nil
theorem dpA2 {K : PySem.W.Frag} {H : Hp} {v u : V} {d e : PyData} (h : Dp K H v d) (k : Dp K H u e) : DpAll K H [v, u] [d, e] := .cons h (.cons k .nil)
theorem neD_same {K : PySem.W.Frag} {H : Hp} {n : Nat} {x y : V} {d : PyData} {Q : VK} (ok : DOk n d) (hn : n ≤ 64) (h1 : Dp K H x d) (h2 : Dp K H y d) (q : Q (.bl false) H) : rNeD K x y H Q :=
  ⟨d, d, h1, h2, ok.shaped hn, ok.shaped hn, by rw [ok.eq]; exact q⟩
theorem eqD_same {K : PySem.W.Frag} {H : Hp} {n : Nat} {x y : V} {d : PyData} {Q : VK} (ok : DOk n d) (hn : n ≤ 64) (h1 : Dp K H x d) (h2 : Dp K H y d) (q : Q (.bl true) H) : rEqD K x y H Q :=
  ⟨d, d, h1, h2, ok.shaped hn, ok.shaped hn, by rw [ok.eq]; exact q⟩
theorem okInts (ns : List Int) : DOk 1 (pdI ns) := DOk.lst fun d hd => by
  obtain ⟨i, _, rfl⟩ := List.mem_map.mp hd
  exact DOk.int
end Mc
namespace Mc
open PySem L2 PySem.Spec PyProof.Rows Evl
/-! == and != of plain data: it tells whether they are the same -/
mutual
def sdD : PyData → Bool
  | .none => true
  | .bool _ => false
  | .int _ => true
  | .str x => PyData.strOk x
  | .list xs => sdA xs
  | .tuple xs => sdA xs
  | .dict _ => false
def sdA : List PyData → Bool
  | [] => true
  | x :: xs => sdD x && sdA xs
end
mutual
theorem sdD_lay : ∀ d : PyData, sdD d = true → d.canLay0 = true
  | .none, _ => rfl
  | .bool _, _ => rfl
  | .int _, _ => rfl
  | .str x, h => by rw [sdD] at h; rw [PyData.canLay0]; exact h
  | .list xs, h => by rw [sdD] at h; rw [PyData.canLay0]; exact sdA_lay xs h
  | .tuple xs, h => by rw [sdD] at h; rw [PyData.canLay0]; exact sdA_lay xs h
  | .dict _, h => by rw [sdD] at h; cases h
theorem sdA_lay : ∀ ds : List PyData, sdA ds = true → PyData.canLayAll0 ds = true
  | [], _ => by rw [PyData.canLayAll0]
  | x :: xs, h => by
    rw [sdA, Bool.and_eq_true] at h
    rw [PyData.canLayAll0, sdD_lay x h.1, sdA_lay xs h.2]; rfl
end
mutual
theorem eqv_sd : ∀ d e : PyData, sdD d = true → sdD e = true → (PyData.eqv d e = true ↔ d = e)
  | .bool _, _, h, _ => by rw [sdD] at h; cases h
  | .dict _, _, h, _ => by rw [sdD] at h; cases h
  | .none, e, _, k => by
    cases e <;> simp [PyData.eqv]
  | .int i, e, _, k => by
    cases e <;> simp [PyData.eqv]
    rw [sdD] at k; cases k
  | .str x, e, _, k => by
    cases e <;> simp [PyData.eqv]
  | .list xs, e, h, k => by
    cases e <;> simp [PyData.eqv]
    rw [sdD] at h k
    exact eqvA_sd xs _ h k
  | .tuple xs, e, h, k => by
    cases e <;> simp [PyData.eqv]
    rw [sdD] at h k
    exact eqvA_sd xs _ h k
theorem eqvA_sd : ∀ d e : List PyData, sdA d = true → sdA e = true → (PyData.eqvAll d e = true ↔ d = e)
  | [], e, _, _ => by
    cases e <;> simp [PyData.eqvAll]
  | x :: xs, [], _, _ => by simp [PyData.eqvAll]
  | x :: xs, y :: ys, h, k => by
    rw [sdA, Bool.and_eq_true] at h k
    rw [PyData.eqvAll, Bool.and_eq_true, eqv_sd x y h.1 k.1, eqvA_sd xs ys h.2 k.2]
    simp
end
mutual
theorem dp_ex {K : PySem.W.Frag} {H H' : Hp} (e : Ex H H') : ∀ (d : PyData) (v : V), Dp K H v d → Dp K H' v d
  | .none, _, h => by cases h; exact .non
  | .bool b, _, h => by cases h; exact .bl b
  | .int i, _, h => by cases h; exact .int i
  | .str x, _, h => by cases h; exact .str x
  | .list xs, _, h => by
    cases h with
    | lst a b => exact .lst (ex_l e a) (dpA_ex e xs _ b)
  | .tuple xs, _, h => by
    cases h with
    | tup a b => exact .tup (ex_t e a) (dpA_ex e xs _ b)
  | .dict _, _, h => by cases h
theorem dpA_ex {K : PySem.W.Frag} {H H' : Hp} (e : Ex H H') : ∀ (ds : List PyData) (vs : List V), DpAll K H vs ds → DpAll K H' vs ds
  | [], _, h => by cases h; exact .nil
  | d :: ds, _, h => by
    cases h with
    | cons a b => exact .cons (dp_ex e d _ a) (dpA_ex e ds _ b)
end
theorem eqv_is {d e : PyData} {b : Bool} (sd : sdD d = true) (se : sdD e = true) (hb : b = true ↔ d = e) : PyData.eqv d e = b := by
  cases w : PyData.eqv d e with
  | true => exact (hb.mpr ((eqv_sd d e sd se).mp w)).symm
  | false =>
    cases b with
    | false => rfl
    | true => rw [(eqv_sd d e sd se).mpr (hb.mp rfl)] at w; cases w
theorem shp_sd {d : PyData} (sd : sdD d = true) (nd : d.depth ≤ 64) : SeqAt.shaped d = true := by
  unfold SeqAt.shaped; rw [sdD_lay d sd, decide_eq_true nd]; rfl
theorem rv_eqDD {K : PySem.W.Frag} {H : Hp} {x y : V} {d e : PyData} {b : Bool} (hx : Dp K H x d) (hy : Dp K H y e) (sd : sdD d = true) (se : sdD e = true) (nd : d.depth ≤ 64) (ne : e.depth ≤ 64) (hb : b = true ↔ d = e) : RV (rEqD K) x y H (.bl b) := fun H1 e1 Q q =>
  ⟨d, e, dp_ex e1 d x hx, dp_ex e1 e y hy, shp_sd sd nd, shp_sd se ne, by rw [eqv_is sd se hb]; exact q H1 (Ex.refl _)⟩
theorem rv_neDD {K : PySem.W.Frag} {H : Hp} {x y : V} {d e : PyData} {b : Bool} (hx : Dp K H x d) (hy : Dp K H y e) (sd : sdD d = true) (se : sdD e = true) (nd : d.depth ≤ 64) (ne : e.depth ≤ 64) (hb : b = true ↔ d = e) : RV (rNeD K) x y H (.bl (!b)) := fun H1 e1 Q q =>
  ⟨d, e, dp_ex e1 d x hx, dp_ex e1 e y hy, shp_sd sd nd, shp_sd se ne, by rw [eqv_is sd se hb]; exact q H1 (Ex.refl _)⟩
/-! forms of data -/
theorem sdA_map {α : Type} {f : α → PyData} {xs : List α} (h : ∀ x ∈ xs, sdD (f x) = true) : sdA (xs.map f) = true := by
  induction xs with
  | nil => rfl
  | cons x xs ih =>
    rw [List.map_cons, sdA, h x (by simp), ih fun y hy => h y (by simp [hy])]; rfl
theorem depA_map {α : Type} {f : α → PyData} {xs : List α} {n : Nat} (h : ∀ x ∈ xs, (f x).depth ≤ n) : PyData.depthAll (xs.map f) ≤ n := by
  induction xs with
  | nil => rw [List.map_nil, PyData.depthAll]; exact Nat.zero_le _
  | cons x xs ih =>
    rw [List.map_cons, PyData.depthAll]
    exact Nat.max_le.mpr ⟨h x (by simp), ih fun y hy => h y (by simp [hy])⟩
theorem dpA_paired {α : Type} {K : PySem.W.Frag} {H : Hp} {f : α → PyData} {R : α → V → Prop} (hR : ∀ x v, R x v → Dp K H v (f x)) : ∀ {xs : List α} {vs : List V}, Paired R xs vs → DpAll K H vs (xs.map f)
  | _, _, .nil => .nil
  | _, _, .cons r t => .cons (hR _ _ r) (dpA_paired hR t)
theorem dpA_map {α : Type} {K : PySem.W.Frag} {H : Hp} {f : α → PyData} {g : α → V} (xs : List α) (h : ∀ x ∈ xs, Dp K H (g x) (f x)) : DpAll K H (xs.map g) (xs.map f) := by
  induction xs with
  | nil => exact .nil
  | cons x xs ih => exact .cons (h x (by simp)) (ih fun y hy => h y (by simp [hy]))
theorem pdI_inj {xs ys : List Int} : pdI xs = pdI ys ↔ xs = ys := by
  unfold pdI
  constructor
  · intro h
    injection h with h
    exact (List.map_inj_right (fun a b e => by injection e)).mp h
  · intro h; rw [h]
theorem sd_pdI (xs : List Int) : sdD (pdI xs) = true := by
  unfold pdI
  rw [sdD]; exact sdA_map fun _ _ => by rw [sdD]
theorem dep_pdI (xs : List Int) : (pdI xs).depth ≤ 1 := by
  unfold pdI
  rw [PyData.depth]
  exact Nat.succ_le_succ (depA_map fun _ _ => by rw [PyData.depth]; exact Nat.le_refl _)
/-- lists of ints -/
theorem rv_eqIL {K : PySem.W.Frag} {H : Hp} {a b : Addr} {xs ys : List Int} (ha : SqL K H a (xs.map V.int)) (hb : SqL K H b (ys.map V.int)) : RV (rEqD K) (.ref a) (.ref b) H (.bl (decide (xs = ys))) :=
  rv_eqDD (dp_ints ha) (dp_ints hb) (sd_pdI _) (sd_pdI _) (Nat.le_trans (dep_pdI _) (by decide)) (Nat.le_trans (dep_pdI _) (by decide)) (by rw [decide_eq_true_eq]; exact pdI_inj.symm)
theorem rv_neIL {K : PySem.W.Frag} {H : Hp} {a b : Addr} {xs ys : List Int} (ha : SqL K H a (xs.map V.int)) (hb : SqL K H b (ys.map V.int)) : RV (rNeD K) (.ref a) (.ref b) H (.bl (!decide (xs = ys))) :=
  rv_neDD (dp_ints ha) (dp_ints hb) (sd_pdI _) (sd_pdI _) (Nat.le_trans (dep_pdI _) (by decide)) (Nat.le_trans (dep_pdI _) (by decide)) (by rw [decide_eq_true_eq]; exact pdI_inj.symm)
end Mc
namespace Mc
open PySem L2 PySem.Spec PyProof.Rows HT
/-! ### t += u of tuples -/
theorem noI_tup : typeLookup (.type "tuple") (dunderI "add") = pure none := by kernel_rfl
section
variable {prog : Program} {w : World} {A : Around} {E : Value → Shared → Prop} {s : Shared}
theorem itup {t b : Addr} {vs ws : List Value} {Q : Value → Shared → Prop} (ht : IsTup s.heap t vs.toArray) (hb : IsTup s.heap b ws.toArray) (h0 : vs = [] → Q (.ref b) s) (h1 : vs ≠ [] → ws = [] → Q (.ref t) s)
    (h2 : vs ≠ [] → ws ≠ [] → Q (.ref s.heap.objs.size) { s with heap := s.heap.push { cls := .type "tuple", data := .seq (vs ++ ws).toArray } }) (hsz : vs.length + ws.length ≤ sizeLine) :
    wpAny (model prog w) A (inplaceOp .Add (.ref t) (.ref b)) Q E s := by
  obtain ⟨⟨c1, d1, x1, s1⟩, ho, hc, n, hd⟩ := id ht
  obtain ⟨⟨c2, d2, x2, s2⟩, ho2, hc2, n2, hd2⟩ := id hb
  dsimp only at hc hd hc2 hd2
  subst hc hd hc2 hd2
  have t1 : s.TypeIs (.ref t) "tuple" := ⟨_, ho, rfl⟩
  have t2 : s.TypeIs (.ref b) "tuple" := ⟨_, ho2, rfl⟩
  refine wpAny_inplaceOp_concat t1 t2 noI_tup noFill_tuple_add seq_tuple_add ?_
  by_cases hv : vs = []
  · exact call_meets PySem.F.slot_tuple_add t1 PySem.F.entry_tuple_add (PySem.F.args_tuple_add_2 _ _) (tuple_addW0 t b vs.toArray ws.toArray n n2 d1 d2 s1 s2 (by simp [hv])) ⟨ho, ho2, h0 hv⟩
  by_cases hw : ws = []
  · exact call_meets PySem.F.slot_tuple_add t1 PySem.F.entry_tuple_add (PySem.F.args_tuple_add_2 _ _) (tuple_addW1 t b vs.toArray ws.toArray n n2 d1 d2 s1 s2 (by simpa using hv) (by simp [hw])) ⟨ho, ho2, h1 hv hw⟩
  · refine call_meets PySem.F.slot_tuple_add t1 PySem.F.entry_tuple_add (PySem.F.args_tuple_add_2 _ _) (tuple_addW2 t b vs.toArray ws.toArray n n2 d1 d2 s1 s2 (by simpa using hv) (by simpa using hw) (by rw [List.size_toArray, List.size_toArray]; exact hsz)) ⟨ho, ho2, ?_⟩
    rw [show vs.toArray ++ ws.toArray = (vs ++ ws).toArray by simp]
    exact h2 hv hw
end
theorem in_addT {X : Cx} : InOp X .Add (rCatA X.K) := by
  intro pins s σ H x y u v Q I rx ry h
  obtain ⟨a, b, xs, ys, rfl, rfl, ha, hb, hz, q0, q1, q2⟩ := h
  cases rx
  cases ry
  obtain ⟨its, r1, p1, _⟩ := I.tuple ha
  obtain ⟨its2, r2, p2, _⟩ := I.tuple hb
  refine itup p1 p2 (fun z => ⟨.ref b, H, I, rfl, q0 (r1.nil_iff.mp z)⟩) (fun z1 z2 => ⟨.ref a, H, I, rfl, q1 (fun z => z1 (r1.nil_iff.mpr z)) (r2.nil_iff.mp z2)⟩) (fun z1 z2 => ?_) (by rw [← r1.length, ← r2.length]; exact hz)
  refine ⟨.ref s.heap.objs.size, _, I.laid (t' := s.toks) (o := .tup (xs ++ ys)) (fun b ob q => Heap.get?_push_of_some _ q) (Nat.le_refl _) ?_, rfl, q2 (fun z => z1 (r1.nil_iff.mpr z)) (fun z => z2 (r2.nil_iff.mpr z)) _ (I.hok.fresh (Nat.le_refl _))⟩
  exact ⟨by rw [List.length_append]; exact hz, _, r1.append r2, IsTup.new _ _⟩
/-- what t + u is, whether a part is empty or not -/
theorem catA_of {K : PySem.W.Frag} {H : Hp} {Q : VK} {a b : Addr} {xs ys : List V} (ha : H a = some (.tup xs)) (hb : H b = some (.tup ys)) (hz : xs.length + ys.length ≤ sizeLine)
    (q : ∀ (p : Addr) (H' : Hp), Same H H' → (∀ c, c ≠ p → H' c = H c) → H' p = some (.tup (xs ++ ys)) → Q (.ref p) H') : rCatA K (.ref a) (.ref b) H Q := by
  refine ⟨a, b, xs, ys, rfl, rfl, SqT.of ha, SqT.of hb, hz, fun e => ?_, fun _ e => ?_, fun _ _ p hp => ?_⟩
  · subst e; exact q b H (fun _ _ z => z) (fun _ _ => rfl) hb
  · subst e; exact q a H (fun _ _ z => z) (fun _ _ => rfl) (by rw [List.append_nil]; exact ha)
  · exact q p _ (fun c o e => by rw [upd_ne (ne_of_none e hp)]; exact e) (fun c hc => upd_ne hc) upd_same
end Mc
namespace Mc
open PySem L2 PySem.Spec PyProof.Rows Evl
/-! k17: deeds as texts -/
theorem DsH.tup {H H' : Hp} (t : ∀ b xs, H b = some (.tup xs) → H' b = some (.tup xs)) {ps : List Pt} {v : V} (h : DsH H ps v) : DsH H' ps v := by
  obtain ⟨a, us, e, h1, h2⟩ := h
  refine ⟨a, us, e, t _ _ h1, prd_imp (fun p v h => ?_) h2⟩
  cases p with
  | s x => exact h
  | n i => exact h
  | t xs => exact h.imp fun _ z => ⟨z.1, t _ _ z.2⟩
theorem deed_ds {H : Hp} {t : Addr} : ∀ {o : Option Dd}, DeedH H t o → DsH H (ptsOf o) (.ref t)
  | none, h => ⟨t, _, rfl, h, .cons rfl .nil⟩
  | some (.mast _ _), h => ⟨t, _, rfl, h, .cons rfl (.cons rfl (.cons rfl .nil))⟩
  | some (.down _), h => ⟨t, _, rfl, h, .cons rfl (.cons rfl .nil)⟩
  | some (.up _), h => ⟨t, _, rfl, h, .cons rfl (.cons rfl .nil)⟩
  | some (.begin _ _), h => ⟨t, _, rfl, h, .cons rfl (.cons rfl (.cons rfl .nil))⟩
  | some (.hear _ _ _), ⟨z, h, hz⟩ => ⟨t, _, rfl, h, .cons rfl (.cons rfl (.cons rfl (.cons ⟨z, rfl, hz⟩ .nil)))⟩
  | some (.end_ _), h => ⟨t, _, rfl, h, .cons rfl (.cons rfl .nil)⟩
/-- how far the drawn state is -/
structure StOk (S : StD) (j : Nat) : Prop where
  k : S.k ≤ j
  m : S.many ≤ j
  ds : S.ds.length ≤ j
  cs : S.cs.length ≤ j
  oc : ∀ x ∈ S.cs, okN x
  od : ∀ x ∈ S.ds, okN x
  rp : 3 ≤ S.rep ∧ S.rep ≤ 3 + j
theorem step_ok {S S' : StD} {o : Option Dd} {j : Nat} (h : StepD S S' o) (b : StOk S j) (hj : j ≤ 12) : RightD o ∧ StOk S' (j + 1) := by
  have okm : ∀ m ∈ S.ms, okN m := fun m hm => by
    obtain ⟨i, hi, rfl⟩ := List.mem_map.mp hm
    have := List.mem_range.mp hi
    have := b.k
    exact mJ_ok i (by omega)
  have b1 := b.k
  have b2 := b.m
  have b3 := b.ds
  have b4 := b.cs
  obtain ⟨b5, b6⟩ := b.rp
  cases o with
  | none =>
    obtain rfl := h
    exact ⟨trivial, by omega, by omega, by omega, by omega, b.oc, b.od, by omega, by omega⟩
  | some d =>
    cases d with
    | mast m n =>
      obtain ⟨rfl, h0, h3, rfl⟩ := h
      exact ⟨⟨mJ_ok _ (by omega), n.toNat, by omega, by omega⟩, by show S.k + 1 ≤ _; omega, by show S.many ≤ _; omega, by show S.ds.length ≤ _; omega, by show S.cs.length ≤ _; omega, b.oc, b.od, b5, by show S.rep ≤ _; omega⟩
    | up m =>
      obtain ⟨hm, rfl⟩ := h
      exact ⟨b.od m hm, by show S.k ≤ _; omega, by show S.many ≤ _; omega, by show (S.ds.erase m).length ≤ _; have := List.length_erase_le (a := m) (l := S.ds); omega, by show S.cs.length ≤ _; omega, b.oc, fun x hx => b.od x (List.mem_of_mem_erase hx), b5, by show S.rep ≤ _; omega⟩
    | down m =>
      obtain ⟨hm, _, rfl⟩ := h
      exact ⟨okm m hm, by show S.k ≤ _; omega, by show S.many ≤ _; omega, by show (S.ds ++ [m]).length ≤ _; rw [List.length_append, List.length_singleton]; omega, by show S.cs.length ≤ _; omega, b.oc, fun x hx => (List.mem_append.mp hx).elim (b.od x) fun z => by rw [List.mem_singleton.mp z]; exact okm m hm, b5, by show S.rep ≤ _; omega⟩
    | begin c u =>
      obtain ⟨rfl, h0, h2, rfl⟩ := h
      exact ⟨⟨cJ_ok _ (by omega), u.toNat, by omega, by omega⟩, by show S.k ≤ _; omega, by show S.many + 1 ≤ _; omega, by show S.ds.length ≤ _; omega, by show (S.cs ++ [cJ S.many]).length ≤ _; rw [List.length_append, List.length_singleton]; omega, fun x hx => (List.mem_append.mp hx).elim (b.oc x) fun z => by rw [List.mem_singleton.mp z]; exact cJ_ok _ (by omega), b.od, b5, by show S.rep ≤ _; omega⟩
    | end_ c =>
      obtain ⟨hc, rfl⟩ := h
      exact ⟨b.oc c hc, by show S.k ≤ _; omega, by show S.many ≤ _; omega, by show S.ds.length ≤ _; omega, by show (S.cs.erase c).length ≤ _; have := List.length_erase_le (a := c) (l := S.cs); omega, fun x hx => b.oc x (List.mem_of_mem_erase hx), b.od, b5, by show S.rep ≤ _; omega⟩
    | hear c r hs =>
      obtain ⟨hc, r1, r2, hsub, rfl⟩ := h
      refine ⟨⟨b.oc c hc, ⟨r.toNat, by omega, by omega⟩, ?_, fun m hm => okm m (hsub.subset hm)⟩, by show S.k ≤ _; omega, by show S.many ≤ _; omega, by show S.ds.length ≤ _; omega, by show S.cs.length ≤ _; omega, b.oc, b.od, by show 3 ≤ S.rep + 1; omega, by show S.rep + 1 ≤ _; omega⟩
      have := hsub.length_le
      rw [show S.ms.length = S.k by unfold StD.ms; simp] at this
      omega
/-- the law's world while deeds are drawn -/
structure V17 (K : PySem.W.Frag) (M : List Addr) (d a st sm sd sc dl : Addr) (S : StD) (j : Nat) (os : List (Option Dd)) (us : List V) (H : Hp) : Prop where
  dr : Dr K M d a H
  sth : StH H st sm sd sc S
  bd : StOk S j
  lst : H dl = some (.lst us)
  pr : Paired (DsH H) (os.map ptsOf) us
  ok : ∀ o ∈ os, RightD o
  len : os.length = j
theorem V17.ex {K : PySem.W.Frag} {M : List Addr} {d a st sm sd sc dl : Addr} {S : StD} {j : Nat} {os : List (Option Dd)} {us : List V} {H H' : Hp} (W : V17 K M d a st sm sd sc dl S j os us H) (x : Ex H H') : V17 K M d a st sm sd sc dl S j os us H' :=
  ⟨W.dr.same x, W.sth.ex x, W.bd, x _ _ W.lst, prd_imp (fun _ _ h => h.ex x) W.pr, W.ok, W.len⟩
theorem V17.deed {K : PySem.W.Frag} {M : List Addr} {d a st sm sd sc dl t : Addr} {S S' : StD} {j : Nat} {o : Option Dd} {os : List (Option Dd)} {us : List V} {H H' : Hp} (W : V17 K M d a st sm sd sc dl S j os us H) (hM : dl ∈ M) (hn : dl ∉ [d, st, sm, sd, sc]) (hj : j ≤ 12) (s : StepD S S' o) (hS : StH H' st sm sd sc S') (D : Dr K M d a H') (k : Kp [d, st, sm, sd, sc] H H') (ht : DeedH H' t o) :
    H' dl = some (.lst us) ∧ V17 K M d a st sm sd sc dl S' (j + 1) (os ++ [o]) (us ++ [.ref t]) (upd H' dl (.lst (us ++ [.ref t]))) := by
  have hd : H' dl = some (.lst us) := k _ _ W.lst hn
  obtain ⟨r, b⟩ := step_ok s W.bd hj
  have t1 : ∀ b xs, H b = some (.tup xs) → H' b = some (.tup xs) := fun b xs z => k _ _ z fun m => by
    obtain ⟨⟨i, hi⟩, _⟩ := W.dr
    rcases List.mem_cons.mp m with e | m
    · rw [e, hi] at z; cases z
    · have hh := W.sth
      rcases List.mem_cons.mp m with e | m
      · rw [e, hh.hst] at z; cases z
      · rcases List.mem_cons.mp m with e | m
        · rw [e, hh.hsm] at z; cases z
        · rcases List.mem_cons.mp m with e | m
          · rw [e, hh.hsd] at z; cases z
          · rw [List.mem_singleton.mp m, hh.hsc] at z; cases z
  have t2 : ∀ (u : HO) b xs, H' b = some (.tup xs) → (upd H' dl u) b = some (.tup xs) := fun u b xs z => by rw [upd_ne (fun e => by rw [e, hd] at z; cases z)]; exact z
  have hn' : ∀ b ∈ [d, st, sm, sd, sc], b ≠ dl := fun b hb e => hn (e ▸ hb)
  refine ⟨hd, D.keep (Kp.at hM) fun o z => by rw [upd_ne (hn' d (by simp))]; exact z, hS.keep fun b hb o z => by rw [upd_ne (hn' b (List.mem_cons_of_mem _ hb))]; exact z, b, upd_same, ?_, fun o' ho => (List.mem_append.mp ho).elim (W.ok o') fun z => by rw [List.mem_singleton.mp z]; exact r, by rw [List.length_append, W.len]; rfl⟩
  rw [List.map_append]
  exact prd_snoc (prd_imp (fun _ _ h => (h.tup t1).tup (t2 _)) W.pr) ((deed_ds ht).tup (t2 _))
/-! what parts spell -/
def SpW (x : PySem.Str) (v : V) : Prop := v = .str x ∨ ∃ n : Nat, n < 1000000000 ∧ v = .int (n : Int) ∧ x = PySem.Str.ofString (toString (n : Int))
theorem prd_app {α β : Type} {F : α → β → Prop} : ∀ {xs : List α} {ys : List β} {xs' : List α} {ys' : List β}, Paired F xs ys → Paired F xs' ys' → Paired F (xs ++ xs') (ys ++ ys')
  | _, _, _, _, .nil, h => h
  | _, _, _, _, .cons r t, h => .cons r (prd_app t h)
theorem spw_strs : ∀ xs : List PySem.Str, Paired SpW xs (xs.map V.str)
  | [] => .nil
  | x :: xs => .cons (.inl rfl) (spw_strs xs)
theorem spw_flat {H : Hp} : ∀ {ps : List Pt} {vs : List V}, Paired (PtH H) ps vs → (∀ p ∈ ps, PtOk p ∧ ∀ xs, p ≠ .t xs) → Paired SpW (wordsP ps) vs
  | _, _, .nil, _ => .nil
  | _, _, .cons (a := p) (b := v) (l₁ := ps) (l₂ := vs) r t, h => by
    obtain ⟨h1, h2⟩ := h p (.head _)
    have ih := spw_flat t fun q hq => h q (.tail _ hq)
    cases p with
    | s x =>
      obtain rfl : v = .str x := r
      exact .cons (.inl rfl) ih
    | n i =>
      obtain ⟨n, rfl, hn⟩ := h1
      obtain rfl : v = .int (n : Int) := r
      exact .cons (.inr ⟨n, hn, rfl, rfl⟩) ih
    | t xs => exact absurd rfl (h2 xs)
theorem head_cases (o : Option Dd) : (∃ b r hs, o = some (.hear b r hs)) ∨ ∃ x l, ptsOf o = .s x :: l ∧ x ≠ "hear" ∧ ∀ p ∈ ptsOf o, ∀ xs, p ≠ .t xs := by
  have nt : ∀ (x : PySem.Str) xs, Pt.s x ≠ .t xs := fun _ _ z => nomatch z
  have ni : ∀ (x : Int) xs, Pt.n x ≠ .t xs := fun _ _ z => nomatch z
  cases o with
  | none => exact .inr ⟨_, _, rfl, by decide +kernel, List.forall_mem_cons.mpr ⟨nt _, (fun _ z => nomatch z)⟩⟩
  | some d =>
    cases d with
    | mast m n => exact .inr ⟨_, _, rfl, by decide +kernel, List.forall_mem_cons.mpr ⟨nt _, List.forall_mem_cons.mpr ⟨nt _, List.forall_mem_cons.mpr ⟨ni _, (fun _ z => nomatch z)⟩⟩⟩⟩
    | down m => exact .inr ⟨_, _, rfl, by decide +kernel, List.forall_mem_cons.mpr ⟨nt _, List.forall_mem_cons.mpr ⟨nt _, (fun _ z => nomatch z)⟩⟩⟩
    | up m => exact .inr ⟨_, _, rfl, by decide +kernel, List.forall_mem_cons.mpr ⟨nt _, List.forall_mem_cons.mpr ⟨nt _, (fun _ z => nomatch z)⟩⟩⟩
    | begin m n => exact .inr ⟨_, _, rfl, by decide +kernel, List.forall_mem_cons.mpr ⟨nt _, List.forall_mem_cons.mpr ⟨nt _, List.forall_mem_cons.mpr ⟨ni _, (fun _ z => nomatch z)⟩⟩⟩⟩
    | hear b r hs => exact .inl ⟨b, r, hs, rfl⟩
    | end_ b => exact .inr ⟨_, _, rfl, by decide +kernel, List.forall_mem_cons.mpr ⟨nt _, List.forall_mem_cons.mpr ⟨nt _, (fun _ z => nomatch z)⟩⟩⟩
/-! the data of a deed -/
def ptD : Pt → PyData
  | .s x => .str x
  | .n i => .int i
  | .t xs => .tuple (xs.map PyData.str)
theorem dp_strs {K : PySem.W.Frag} {H : Hp} : ∀ xs : List PySem.Str, DpAll K H (xs.map V.str) (xs.map PyData.str)
  | [] => .nil
  | x :: xs => .cons (.str x) (dp_strs xs)
theorem dp_pt {K : PySem.W.Frag} {H : Hp} : ∀ {p : Pt} {v : V}, PtH H p v → Dp K H v (ptD p)
  | .s x, _, h => by rw [show _ = _ from h]; exact .str x
  | .n i, _, h => by rw [show _ = _ from h]; exact .int i
  | .t xs, _, ⟨t, e, h⟩ => by rw [e]; exact .tup (SqT.of h) (dp_strs xs)
theorem dp_pts {K : PySem.W.Frag} {H : Hp} : ∀ {ps : List Pt} {vs : List V}, Paired (PtH H) ps vs → DpAll K H vs (ps.map ptD)
  | _, _, .nil => .nil
  | _, _, .cons r t => .cons (dp_pt r) (dp_pts t)
def dsD (ps : List Pt) : PyData := .tuple (ps.map ptD)
theorem dp_ds {K : PySem.W.Frag} {H : Hp} {ps : List Pt} {v : V} (h : DsH H ps v) : Dp K H v (dsD ps) := by
  obtain ⟨a, us, rfl, h1, h2⟩ := h
  exact .tup (SqT.of h1) (dp_pts h2)
theorem dp_dss {K : PySem.W.Frag} {H : Hp} : ∀ {pss : List (List Pt)} {vs : List V}, Paired (DsH H) pss vs → DpAll K H vs (pss.map dsD)
  | _, _, .nil => .nil
  | _, _, .cons r t => .cons (dp_ds r) (dp_dss t)
theorem dok_ds {o : Option Dd} (h : RightD o) : DOk 2 (dsD (ptsOf o)) := by
  have kw : ∀ x ∈ partsX, PyData.strOk x.1 = true := by decide +kernel
  have kd : ∀ x : PySem.Str, (∃ ks, (x, ks) ∈ partsX) → DOk 1 (ptD (.s x)) := fun x ⟨ks, h⟩ => DOk.str (kw _ h)
  have kn : ∀ {x : PySem.Str}, okN x → DOk 1 (ptD (.s x)) := fun h => DOk.str (okN_layC h)
  have go : ∀ p ∈ ptsOf o, DOk 1 (ptD p) := by
    cases o with
    | none => exact List.forall_mem_cons.mpr ⟨kd _ ⟨[], by decide +kernel⟩, fun _ z => nomatch z⟩
    | some d =>
      cases d with
      | mast m n => exact List.forall_mem_cons.mpr ⟨kd _ ⟨["name", "number"], by decide +kernel⟩, List.forall_mem_cons.mpr ⟨kn h.1, List.forall_mem_cons.mpr ⟨DOk.int, fun _ z => nomatch z⟩⟩⟩
      | down m => exact List.forall_mem_cons.mpr ⟨kd _ ⟨["name"], by decide +kernel⟩, List.forall_mem_cons.mpr ⟨kn h, fun _ z => nomatch z⟩⟩
      | up m => exact List.forall_mem_cons.mpr ⟨kd _ ⟨["name"], by decide +kernel⟩, List.forall_mem_cons.mpr ⟨kn h, fun _ z => nomatch z⟩⟩
      | begin m n => exact List.forall_mem_cons.mpr ⟨kd _ ⟨["name", "number"], by decide +kernel⟩, List.forall_mem_cons.mpr ⟨kn h.1, List.forall_mem_cons.mpr ⟨DOk.int, fun _ z => nomatch z⟩⟩⟩
      | hear b r ms => exact List.forall_mem_cons.mpr ⟨kd _ ⟨["name", "number", "masts"], by decide +kernel⟩, List.forall_mem_cons.mpr ⟨kn h.1, List.forall_mem_cons.mpr ⟨DOk.int, List.forall_mem_cons.mpr ⟨DOk.tup fun d hd => by
          obtain ⟨m, hm, rfl⟩ := List.mem_map.mp hd
          exact DOk.str (okN_layC (h.2.2.2 m hm)), fun _ z => nomatch z⟩⟩⟩⟩
      | end_ b => exact List.forall_mem_cons.mpr ⟨kd _ ⟨["name"], by decide +kernel⟩, List.forall_mem_cons.mpr ⟨kn h, fun _ z => nomatch z⟩⟩
  exact DOk.tup fun d hd => by
    obtain ⟨p, hp, rfl⟩ := List.mem_map.mp hd
    exact go p hp
abbrev rJoin (K : PySem.W.Frag) : V → List V → Hp → VK → Prop := fun x xs H Q => ∃ (a : PySem.Str) (p : Addr) (ys : List PySem.Str), x = .str a ∧ xs = [.ref p] ∧ (SqL K H p (ys.map V.str) ∨ SqT K H p (ys.map V.str)) ∧ (ys.map (·.length)).sum + ys.length * a.length ≤ 16777216 ∧ Q (.str (PySem.Txt.join a ys)) H
theorem ev_join {K : PySem.W.Frag} {to te : TE} {σ : L2.St} {H : Hp} {a : PySem.Str} {ys : List PySem.Str} (ho : Ev to σ H (.str a)) (h : EvL te σ H (ys.map V.str)) (hz : (ys.map (·.length)).sum + ys.length * a.length ≤ 16777216) : Ev (tM1 (rJoin K) to te) σ H (.str (PySem.Txt.join a ys)) := fun H1 e Q q =>
  ho H1 e _ fun H2 e2 => ⟨⟨_, rfl⟩, h H2 (e.trans e2) _ fun p H3 _ e3 h3 => ⟨a, p, ys, rfl, rfl, .inl (SqL.of h3), hz, q H3 (e2.trans e3)⟩⟩
theorem ev_joinS {K : PySem.W.Frag} {to tl : TE} {σ : L2.St} {H : Hp} {a : PySem.Str} {p : Addr} {ys : List PySem.Str} (ho : Ev to σ H (.str a)) (hl : Ev tl σ H (.ref p)) (h : H p = some (.lst (ys.map V.str))) (hz : (ys.map (·.length)).sum + ys.length * a.length ≤ 16777216) : Ev (tM1 (rJoin K) to tl) σ H (.str (PySem.Txt.join a ys)) := fun H1 e Q q =>
  ho H1 e _ fun H2 e2 => ⟨⟨_, rfl⟩, hl H2 (e.trans e2) _ fun H3 e3 => ⟨a, p, ys, rfl, rfl, .inl (SqL.of ((e.trans (e2.trans e3)) _ _ h)), hz, q H3 (e2.trans e3)⟩⟩
def EvQ (te : TE) (σ : L2.St) (H : Hp) (P : V → Hp → Prop) : Prop := ∀ H1, Ex H H1 → ∀ Q : VK, (∀ v H2, Ex H1 H2 → P v H2 → Q v H2) → te σ H1 Q
theorem ev_callSQ {sp : Sp} {E : L2.St → XK} {t : TA} {σ : L2.St} {H : Hp} {vs : List V} {P : V → Hp → Prop} (ha : EvA t σ H vs) (hs : ∀ H1, Ex H H1 → ∀ Q : VK, (∀ v H2, Ex H1 H2 → P v H2 → Q v H2) → sp vs H1 Q (E σ)) : EvQ (tCallS sp E t) σ H P := fun H1 e Q q =>
  ha H1 e _ fun H2 e2 => hs H2 (e.trans e2) Q fun v H3 e3 p => q v H3 (e2.trans e3) p
theorem ev_opQ {r : R2} {ta tb : TE} {σ : L2.St} {H : Hp} {y z : V} {P : V → Hp → Prop} (ha : EvQ ta σ H P) (hb : Ev tb σ H y) (hr : ∀ v H2, Ex H H2 → P v H2 → RV r v y H2 z) : Ev (tOp r ta tb) σ H z := fun H1 e Q q =>
  ha H1 e _ fun v H2 e2 p => hb H2 (e.trans e2) _ fun H3 e3 => hr v H2 (e.trans e2) p H3 e3 Q fun H4 e4 => q H4 (e2.trans (e3.trans e4))
theorem ev_opQQ {r : R2} {ta tb : TE} {σ : L2.St} {H : Hp} {z : V} {P P2 : V → Hp → Prop} (ha : EvQ ta σ H P) (hb : EvQ tb σ H P2) (hr : ∀ v u H2 H3, Ex H H2 → P v H2 → Ex H2 H3 → P2 u H3 → RV r v u H3 z) : Ev (tOp r ta tb) σ H z := fun H1 e Q q =>
  ha H1 e _ fun v H2 e2 p => hb H2 (e.trans e2) _ fun u H3 e3 p3 => hr v u H2 H3 (e.trans e2) p e3 p3 H3 (Ex.refl _) Q fun H4 e4 => q H4 (e2.trans (e3.trans e4))
/-- a row of new tuples -/
def TpR (H : Hp) (xs : List V) (v : V) : Prop := ∃ t, v = .ref t ∧ H t = some (.tup xs)
theorem TpR.ex {H H' : Hp} {xs : List V} {v : V} (h : TpR H xs v) (x : Ex H H') : TpR H' xs v := h.imp fun _ z => ⟨z.1, x _ _ z.2⟩
def EvTs (ta : TA) (σ : L2.St) (H : Hp) (xss : List (List V)) : Prop := ∀ H1, Ex H H1 → ∀ Q : List V → Hp → Prop, (∀ vs H2, Ex H1 H2 → Paired (TpR H2) xss vs → Q vs H2) → ta σ H1 Q
theorem ets_nil {σ : L2.St} {H : Hp} : EvTs tNil σ H [] := fun H1 e Q q => q [] H1 (Ex.refl _) .nil
theorem ets2 {σ : L2.St} {H : Hp} {x y : V} {tr : TA} {xss : List (List V)} (hr : EvTs tr σ H xss) : EvTs (tCons (tTup (tCons (tC x) (tCons (tC y) tNil))) tr) σ H ([x, y] :: xss) := fun H1 e Q q =>
  ⟨by show 2 ≤ sizeLine; decide, fun t ht => hr _ (e.trans (Ex.new ht)) _ fun vs H2 e2 pr => q _ H2 ((Ex.new ht).trans e2) (.cons ⟨t, rfl, e2 _ _ upd_same⟩ pr)⟩
def wv (x : PySem.Str × Nat) : List V := [.str x.1, .int (x.2 : Int)]
theorem rdL_tick : rdL "tick" = .ok (ptsOf none) := by
  have e : PySem.Txt.split "tick" " " = wordsP (ptsOf none) := by decide +kernel
  unfold rdL
  rw [e]
  exact rdD_right (o := none) trivial
theorem ok_inj {pss qss : List (List Pt)} (h : qss.map (Except.ok (ε := Nat)) = pss.map Except.ok) : pss = qss := by
  induction qss generalizing pss with
  | nil => cases pss with
    | nil => rfl
    | cons a b => cases h
  | cons q qss ih => cases pss with
    | nil => cases h
    | cons p pss =>
      rw [List.map_cons, List.map_cons] at h
      injection h with h1 h2
      injection h1 with h1
      rw [h1, ih h2]
/-- how all deeds lie -/
def AllH (H : Hp) (pss : List (List Pt)) (v : V) : Prop := ∃ t us, v = .ref t ∧ H t = some (.tup us) ∧ Paired (DsH H) pss us
theorem AllH.ex {H H' : Hp} {pss : List (List Pt)} {v : V} (h : AllH H pss v) (x : Ex H H') : AllH H' pss v := by
  obtain ⟨t, us, e, h1, h2⟩ := h
  exact ⟨t, us, e, x _ _ h1, prd_imp (fun _ _ h => h.ex x) h2⟩
theorem dp_all {K : PySem.W.Frag} {H : Hp} {pss : List (List Pt)} {v : V} (h : AllH H pss v) : Dp K H v (.tuple (pss.map dsD)) := by
  obtain ⟨t, us, rfl, h1, h2⟩ := h
  exact .tup (SqT.of h1) (dp_dss h2)
theorem dok_all {os : List (Option Dd)} (ok : ∀ o ∈ os, RightD o) : DOk 3 (.tuple ((os.map ptsOf).map dsD)) := DOk.tup fun d hd => by
  obtain ⟨ps, hps, rfl⟩ := List.mem_map.mp hd
  obtain ⟨o, ho, rfl⟩ := List.mem_map.mp hps
  exact dok_ds (ok o ho)
theorem text_len {os : List (Option Dd)} (ok : ∀ o ∈ os, RightD o) (h : os.length ≤ 12) : (textP (os.map ptsOf)).length ≤ 10000000 := by
  refine Nat.le_trans (join_len _ _) ?_
  have h1 := sum_le' (ys := (os.map ptsOf).map lineP) (b := 17000) fun y hy => by
    obtain ⟨ps, hps, rfl⟩ := List.mem_map.mp hy
    obtain ⟨o, ho, rfl⟩ := List.mem_map.mp hps
    exact lineP_len (ptsOf_ok (ok o ho)).2 (ptsOf_ok (ok o ho)).1
  rw [List.length_map, List.length_map] at h1 ⊢
  rw [show ("\n" : PySem.Str).length = 1 from rfl, Nat.mul_one]
  omega
/-- reading what was written, of all deeds -/
theorem read_all {CB : Addr} {H : Hp} {Q : VK} {E : XK} {os : List (Option Dd)} (ok : ∀ o ∈ os, RightD o) (h : os.length ≤ 12) (q : ∀ v H', Ex H H' → AllH H' (os.map ptsOf) v → Q v H') : spRdDs CB [.str (textP (os.map ptsOf))] H Q E := by
  refine ⟨_, rfl, text_len ok h, fun e t H' x ht => ?_, fun ne => ?_⟩
  · cases os with
    | nil => exact q _ H' x ⟨t, [], rfl, ht, .nil⟩
    | cons o os => exact absurd e (text_ne ok (fun z => nomatch z))
  · have hne : os ≠ [] := fun z => by rw [z] at ne; exact ne (by decide +kernel)
    have el : ((os.map ptsOf).map lineP).map rdL = (os.map ptsOf).map Except.ok := by
      rw [List.map_map, List.map_map, List.map_map]
      exact List.map_congr_left fun o ho => rdL_right (ok o ho)
    refine ⟨_, split_text ok hne, by rw [List.length_map, List.length_map]; omega, fun y hy => ?_, fun pss e t us H' x ht pr => ?_, fun i k y hy hk _ => ?_⟩
    · obtain ⟨ps, hps, rfl⟩ := List.mem_map.mp hy
      obtain ⟨o, ho, rfl⟩ := List.mem_map.mp hps
      exact line_ok (ok o ho)
    · rw [el] at e
      obtain rfl := ok_inj e
      exact q _ H' x ⟨t, us, rfl, ht, pr⟩
    · have hm := List.mem_of_getElem? hy
      obtain ⟨ps, hps, rfl⟩ := List.mem_map.mp hm
      obtain ⟨o, ho, rfl⟩ := List.mem_map.mp hps
      rw [rdL_right (ok o ho)] at hk
      cases hk
theorem write_all {H : Hp} {Q : VK} {E : XK} {l : Addr} {us : List V} {os : List (Option Dd)} (hl : H l = some (.lst us) ∨ H l = some (.tup us)) (pr : Paired (DsH H) (os.map ptsOf) us) (ok : ∀ o ∈ os, RightD o) (h : os.length ≤ 12) (q : ∀ H', Ex H H' → Q (.str (textP (os.map ptsOf))) H') : spWrite [.ref l] H Q E :=
  ⟨l, us, _, rfl, hl, pr, by rw [List.length_map]; omega, fun ps hps => by
    obtain ⟨o, ho, rfl⟩ := List.mem_map.mp hps
    exact ptsOf_ok (ok o ho), q⟩
/-- a wrong text -/
theorem fault_all {H : Hp} {Q : VK} {E : XK} {x : PySem.Str × Nat} (hx : x ∈ wrongL) (q : ∀ t H', Ex H H' → H' t = some (.tup [.int 1, .int (x.2 : Int)]) → Q (.ref t) H') : spFaultT [.str (wrongT x.1)] H Q E := by
  obtain ⟨h1, h2, h3, h4, h5⟩ := wrong_all x hx
  refine ⟨_, _, 1, x.2, x.1, rfl, Nat.le_trans h1 (by decide), h2, h3, by show 3 ≤ 1000; decide, ?_, rfl, isErr_of h5, fun j z hj hz => ?_, q⟩
  · exact List.forall_mem_cons.mpr ⟨tick_ok.1, List.forall_mem_cons.mpr ⟨h4, List.forall_mem_cons.mpr ⟨tick_ok.2, (fun _ z => nomatch z)⟩⟩⟩
  · obtain rfl : j = 0 := by omega
    obtain rfl : "tick" = z := Option.some.inj hz
    exact ⟨ptsOf none, rdL_tick⟩
theorem q_asgTs {ta : TA} {tz : TS} {D : Ends} {σ : L2.St} {H : Hp} {i : Nat} {xss : List (List V)} (h : EvTs ta σ H xss) (hl : xss.length ≤ 1000) (k : ∀ p vs H1, Ex H H1 → H1 p = some (.lst vs) → Paired (TpR H1) xss vs → tz D (σ.set i (some (.ref p))) H1) : tSeq (tAsg (tLst ta) (gName i)) tz D σ H :=
  h H (Ex.refl H) _ fun vs H2 e2 pr => ⟨sz_of (by rw [← Paired.length pr]; omega), fun p hp => k p vs _ (e2.trans (Ex.new hp)) upd_same (prd_imp (fun _ _ h => h.ex (Ex.new hp)) pr)⟩
theorem q_asgCatTs {ta : TA} {tz : TS} {D : Ends} {σ : L2.St} {H : Hp} {i j : Nat} {p0 : Addr} {vs0 : List V} {xss0 xss : List (List V)} (hj : σ[j]? = some (some (.ref p0))) (h0 : H p0 = some (.lst vs0)) (pr0 : Paired (TpR H) xss0 vs0) (hl0 : xss0.length ≤ 1000) (h : EvTs ta σ H xss) (hl : xss.length ≤ 1000)
    (k : ∀ p vs H1, Ex H H1 → H1 p = some (.lst vs) → Paired (TpR H1) (xss0 ++ xss) vs → tz D (σ.set i (some (.ref p))) H1) : tSeq (tAsg (tOp rCat (tVar j) (tLst ta)) (gName i)) tz D σ H :=
  ⟨_, hj, h H (Ex.refl H) _ fun vs H2 e2 pr => ⟨sz_of (by rw [← Paired.length pr]; omega), fun p hp => by
    have x3 := e2.trans (Ex.new (o := .lst vs) hp)
    have l1 := Paired.length pr
    have l2 := Paired.length pr0
    refine ⟨p0, p, vs0, vs, rfl, rfl, x3 _ _ h0, upd_same, sz_of (by omega), fun p2 hp2 => ?_⟩
    exact k p2 (vs0 ++ vs) _ (x3.trans (Ex.new hp2)) upd_same (prd_app (prd_imp (fun _ _ h => h.ex (x3.trans (Ex.new hp2))) pr0) (prd_imp (fun _ _ h => h.ex ((Ex.new hp).trans (Ex.new hp2))) pr))⟩⟩
theorem wrong_take : (wrongL.take 10).map wv ++ (wrongL.drop 10).map wv = wrongL.map wv := by rw [← List.map_append, List.take_append_drop]
theorem wrong_len : ∀ x ∈ wrongL, ("tick\n" : PySem.Str).length + x.1.length ≤ sizeLine ∧ (("tick\n" : PySem.Str) ++ x.1).length + ("\nrubbish" : PySem.Str).length ≤ sizeLine := by decide +kernel
theorem ev_callQ {sp : Sp} {E : XK} {t : TA} {σ : L2.St} {H : Hp} {vs : List V} {P : V → Hp → Prop} (ha : EvA t σ H vs) (hs : ∀ H1, Ex H H1 → ∀ Q : VK, (∀ v H2, Ex H1 H2 → P v H2 → Q v H2) → sp (vs ++ []) H1 Q E) : EvQ (tCall sp [] E t) σ H P := fun H1 e Q q =>
  ha H1 e _ fun H2 e2 => hs H2 (e.trans e2) Q fun v H3 e3 p => q v H3 (e2.trans e3) p
theorem ev_tupQ {t : TA} {σ : L2.St} {H : Hp} {vs : List V} (ha : EvA t σ H vs) (hl : vs.length ≤ 1000) : EvQ (tTup t) σ H fun v H => TpR H vs v := fun H1 e Q q =>
  ha H1 e _ fun H2 e2 => ⟨sz_of (by omega), fun p hp => q _ _ (e2.trans (Ex.new hp)) ⟨p, rfl, upd_same⟩⟩
theorem tpr_same {K : PySem.W.Frag} {v u : V} {k : Int} {H : Hp} {Q : VK} (h1 : TpR H [.int 1, .int k] v) (h2 : TpR H [.int 1, .int k] u) (q : Q (.bl false) H) : rNeD K v u H Q := by
  obtain ⟨t1, rfl, h1⟩ := h1
  obtain ⟨t2, rfl, h2⟩ := h2
  refine neD_same (n := 1) (d := .tuple [.int 1, .int k]) (DOk.tup (n := 0) ?_) (by decide) (.tup (SqT.of h1) (dpA2 (.int 1) (.int k))) (.tup (SqT.of h2) (dpA2 (.int 1) (.int k))) q
  exact List.forall_mem_cons.mpr ⟨DOk.int, List.forall_mem_cons.mpr ⟨DOk.int, (fun _ z => nomatch z)⟩⟩
theorem read_nil {CB : Addr} {H : Hp} {Q : VK} {E : XK} (q : ∀ v H', Ex H H' → AllH H' [] v → Q v H') : spRdDs CB [.str ""] H Q E :=
  ⟨"", rfl, by decide +kernel, fun _ t H' x ht => q _ H' x ⟨t, [], rfl, ht, .nil⟩, fun z => absurd rfl z⟩
theorem text_nil : textP [] = "" := by decide +kernel
end Mc
namespace Mc
open PySem L2 PySem.Spec PyProof.Rows Evl
abbrev s_law : Stmt := top 25
abbrev nmL : List PySem.Str := ["script", "draw", "state", "deeds", "turn", "lines", "deed", "parts", "wrong", "line", "word", "part"]
theorem sc_law : FnScope nmL ["script"] (defScope s_law) := ⟨rfl, rfl, rfl, by decide +kernel, rfl, by decide +kernel, by decide +kernel⟩
def spLaw (K : PySem.W.Frag) : Sp := fun vs H Q _ => ∃ (a : Addr) (ns : List Int), vs = [.ref a] ∧ SqL K H a (ns.map V.int) ∧ ns.length ≤ 63 ∧ ∀ H', Q (.bl true) H'
section
variable {P : Program} {w : World} {K : PySem.W.Frag} {mg : PySem.Str → Option Value} {base : Heap}
theorem ok_law {f CB : Addr} {fd : FuncData} (F : Fun K "law" "law" s_law f fd) (T : TxBt mg)
    (c_take : Cal P w K mg base 2 "_law_take" ["draw", "many"] (spTake K)) (c_state : Cal P w K mg base 1 "_law_state" [] spLState) (c_ldeed : Cal P w K mg base 4 "_law_deed" ["draw", "state"] (spLDeed K))
    (c_deed_line : Cal P w K mg base 1 "deed_line" ["deed"] spLine) (c_read_deed : CalX P w K mg base 6 "read_deed" ["text", "line"] (spRdD CB)) (c_write_deeds : Cal P w K mg base 2 "write_deeds" ["deeds"] spWrite) (c_read_deeds : CalX P w K mg base 7 "read_deeds" ["text"] (spRdDs CB)) (c_fault : Cal P w K mg base 8 "_law_fault" ["text"] spFaultT) :
    FnOk P w K mg base CX0 9 f fd ["script"] (spLaw K) := by
  refine F.ok sc_law (fun vs H Q E h => ?_) (fun cdv A outer s H vs Q E hr h => ?_)
  · obtain ⟨a, ns, rfl, _⟩ := h
    rfl
  · obtain ⟨a, ns, rfl, hS, hl, q⟩ := h
    have hu := hu_of hr
    refine ⟨_, (pss_cons (ps_set (i := 1) sc_law.nd rfl (Or.inl rfl) (pe_lst (pa_cons (pv 0) (pa_cons pe_int pa_nil))))
      (pss_cons (ps_par (i := 2) (j := 3) rfl sc_law.nd rfl rfl (by decide) rfl rfl (pa_cons (pe_cal0 c_state (hr.mono (by decide)) rfl) (pa_cons (pe_lst pa_nil) pa_nil)) (by rfl))
      (pss_cons (ps_for PassesOwn.never rfl (pi_range1 (by rfl) T.range (pa_cons (pe_cal c_take (hr.mono (by decide)) rfl (pa_cons (pv 1) (pa_cons pe_int pa_nil))) pa_nil)) (pg_name (i := 4) sc_law.nd rfl (Or.inl rfl))
        (pss_one (ps_expr (pe_bm PySem.F.plainAttrs_list PySem.F.slot_list_append PySem.F.type_list_append mt_append (pv 3) (pa_cons (pe_cal c_ldeed (hr.mono (by decide)) rfl (pa_cons (pv 1) (pa_cons (pv 2) pa_nil))) pa_nil)))))
      (pss_cons (ps_set (i := 5) sc_law.nd rfl (Or.inl rfl) (pe_lst pa_nil))
      (pss_cons (ps_for PassesOwn.never rfl (pi_list (pv 3)) (pg_name (i := 6) sc_law.nd rfl (Or.inl rfl))
        (pss_cons (ps_set (i := 7) sc_law.nd rfl (Or.inl rfl) (pe_ifExp (pt_cmpR op_ne (pe_ix ix_tup (pv 6) pe_int (fun _ _ => rfl)) pe_str (nomark _)) (pv 6) (pe_op op_catT (pe_slice sl_tupA (pv 6) po_none (po_some pe_int)) (pe_ix ix_tup (pv 6) pe_int (fun _ _ => rfl)))))
        (pss_cons (ps_expr (pe_bm PySem.F.plainAttrs_list PySem.F.slot_list_append PySem.F.type_list_append mt_append (pv 5) (pa_cons (pe_join pe_str (pe_lc (own := [("part", 11)]) (g := gName 11) (tt := tYes) rfl sc_law.nd (pi_tup (pv 7)) (blkOk_by (own := [("part", 11)]) (N := ["script", "draw", "state", "deeds", "turn", "lines", "deed", "parts", "wrong", "line", "word", "part"]) (sc := defScope s_law) (by decide +kernel)) (fun _ _ _ _ _ => pg_name (i := 11) sc_law.nd rfl (Or.inl rfl)) (fun _ _ _ _ _ => pts_nil) (fun _ _ _ _ _ => (pe_callTy call_strA (by rfl) T.str boot_str (pa_cons (pv 11) pa_nil))))) pa_nil)))
        (pss_one (ps_if (PW.pt (pw_or (pt_cmpR op_ne (pe_cal c_deed_line (hr.mono (by decide)) rfl (pa_cons (pv 6) pa_nil)) (pe_ix ix_list (pv 5) (pe_un un_neg pe_int) (fun _ _ => rfl)) (nomark _)) (pw_or1 (pt_cmpR (op_neD hr.units) (pe_calX (E := fun _ => E0) c_read_deed (hr.mono (by decide)) rfl noE (pa_cons (pe_ix ix_list (pv 5) (pe_un un_neg pe_int) (fun _ _ => rfl)) (pa_cons pe_int pa_nil))) (pv 6) (nomark _)))))
          (pss_one (ps_ret pe_bl))
          pss_nil)))))
      (pss_cons (ps_if (PW.pt (pw_or (pt_cmpR op_ne (pe_cal c_write_deeds (hr.mono (by decide)) rfl (pa_cons (pv 3) pa_nil)) (pe_join pe_str (pv 5)) (nomark _)) (pw_or1 (pt_cmpR (op_neD hr.units) (pe_calX (E := fun _ => E0) c_read_deeds (hr.mono (by decide)) rfl noE (pa_cons (pe_cal c_write_deeds (hr.mono (by decide)) rfl (pa_cons (pv 3) pa_nil)) pa_nil)) (pe_tupleOf (by rfl) T.tuple (pv 3)) (nomark _)))))
        (pss_one (ps_ret pe_bl))
        pss_nil)
      (pss_cons (ps_set (i := 8) sc_law.nd rfl (Or.inl rfl) (pe_lst (pa_cons (pe_tup (pa_cons pe_str (pa_cons pe_int pa_nil))) (pa_cons (pe_tup (pa_cons pe_str (pa_cons pe_int pa_nil))) (pa_cons (pe_tup (pa_cons pe_str (pa_cons pe_int pa_nil))) (pa_cons (pe_tup (pa_cons pe_str (pa_cons pe_int pa_nil))) (pa_cons (pe_tup (pa_cons pe_str (pa_cons pe_int pa_nil))) (pa_cons (pe_tup (pa_cons pe_str (pa_cons pe_int pa_nil))) (pa_cons (pe_tup (pa_cons pe_str (pa_cons pe_int pa_nil))) (pa_cons (pe_tup (pa_cons pe_str (pa_cons pe_int pa_nil))) (pa_cons (pe_tup (pa_cons pe_str (pa_cons pe_int pa_nil))) (pa_cons (pe_tup (pa_cons pe_str (pa_cons pe_int pa_nil))) pa_nil))))))))))))
      (pss_cons (ps_set (i := 8) sc_law.nd rfl (Or.inl rfl) (pe_op op_cat (pv 8) (pe_lst (pa_cons (pe_tup (pa_cons pe_str (pa_cons pe_int pa_nil))) (pa_cons (pe_tup (pa_cons pe_str (pa_cons pe_int pa_nil))) (pa_cons (pe_tup (pa_cons pe_str (pa_cons pe_int pa_nil))) (pa_cons (pe_tup (pa_cons pe_str (pa_cons pe_int pa_nil))) (pa_cons (pe_tup (pa_cons pe_str (pa_cons pe_int pa_nil))) (pa_cons (pe_tup (pa_cons pe_str (pa_cons pe_int pa_nil))) (pa_cons (pe_tup (pa_cons pe_str (pa_cons pe_int pa_nil))) (pa_cons (pe_tup (pa_cons pe_str (pa_cons pe_int pa_nil))) pa_nil)))))))))))
      (pss_cons (ps_for PassesOwn.never rfl (pi_list (pv 8)) (pg_tup rfl (pgs_cons (pg_name (i := 9) sc_law.nd rfl (Or.inl rfl)) (pgs_cons (pg_name (i := 10) sc_law.nd rfl (Or.inl rfl)) pgs_nil)))
        (pss_one (ps_if (pt_cmpR (op_neD hr.units) (pe_cal c_fault (hr.mono (by decide)) rfl (pa_cons (pe_op op_add_str (pe_op op_add_str pe_str (pv 9)) pe_str) pa_nil)) (pe_tup (pa_cons pe_int (pa_cons (pv 10) pa_nil))) (nomark _))
          (pss_one (ps_ret pe_bl))
          pss_nil)))
      (pss_one (ps_ret (pe_and (pe_cmpR (op_eqD hr.units) (pe_calX (E := fun _ => E0) c_read_deeds (hr.mono (by decide)) rfl noE (pa_cons pe_str pa_nil)) (pe_tup pa_nil) (nomark _)) (pe_one (pe_cmpR op_eq (pe_cal c_write_deeds (hr.mono (by decide)) rfl (pa_cons (pe_tup pa_nil) pa_nil)) pe_str (nomark _))))))))))))))), ?_⟩
    refine ⟨_, rfl, by show 2 ≤ sizeLine; decide, fun d hd => ?_⟩
    have D1 : Dr K [d] d a (upd H d (.lst [.ref a, .int 0])) := Dr.mk' hS hl hd
    generalize upd H d (.lst [.ref a, .int 0]) = H1 at D1 ⊢
    dsimp only [gName]
    refine ⟨rfl, fun st sm sd sc H2 hSt hn x2 => ⟨Nat.zero_le _, fun dl hdl => ⟨_, _, rfl, ?_⟩⟩⟩
    have dne : ∀ {b}, H1 b = none → b ≠ d := fun {b} z e => by
      obtain ⟨⟨i, hi⟩, _⟩ := D1
      rw [e, hi] at z; cases z
    have ndl1 : H1 dl = none := fresh_back x2 hdl
    have hnin : dl ∉ [d, st, sm, sd, sc] := fun m => by
      rcases List.mem_cons.mp m with e | m
      · exact dne ndl1 e
      · rcases List.mem_cons.mp m with e | m
        · rw [e, hSt.hst] at hdl; cases hdl
        · rcases List.mem_cons.mp m with e | m
          · rw [e, hSt.hsm] at hdl; cases hdl
          · rcases List.mem_cons.mp m with e | m
            · rw [e, hSt.hsd] at hdl; cases hdl
            · rw [List.mem_singleton.mp m, hSt.hsc] at hdl; cases hdl
    have hdin : d ∉ [st, sm, sd, sc] := fun m => dne (hn d m) rfl
    have W0 : V17 K [dl, st, sm, sd, sc, d] d a st sm sd sc dl ⟨0, [], [], 0, 3⟩ 0 [] [] (upd H2 dl (.lst [])) := by
      have x3 : Ex H2 (upd H2 dl (.lst [])) := Ex.new hdl
      exact ⟨(((((D1.grow (hn sc (by simp))).grow (hn sd (by simp))).grow (hn sm (by simp))).grow (hn st (by simp))).grow ndl1).same (x2.trans x3), hSt.ex x3, ⟨Nat.le_refl _, Nat.le_refl _, Nat.le_refl _, Nat.le_refl _, (fun _ z => nomatch z), (fun _ z => nomatch z), by decide, by decide⟩, upd_same, .nil, (fun _ z => nomatch z), rfl⟩
    generalize upd H2 dl (.lst []) = H3 at W0 ⊢
    generalize hM : [dl, st, sm, sd, sc, d] = M at W0
    have hMd : dl ∈ M := by rw [← hM]; exact .head _
    have hMs : ∀ b ∈ [st, sm, sd, sc], b ∈ M := fun b hb => by rw [← hM]; exact .tail _ (List.mem_append_left [d] hb)
    have hMdd : d ∈ M := by rw [← hM]; simp
    dsimp only [List.set]
    refine ⟨_, rfl, M, d, a, 12, rfl, W0.dr, by decide, fun v H4 v0 v12 D4 k4 => ⟨v, rfl, by omega, by omega, ?_⟩⟩
    have W4 : V17 K M d a st sm sd sc dl ⟨0, [], [], 0, 3⟩ 0 [] [] H4 := ⟨D4, W0.sth.draw k4 hdin, W0.bd, k4 _ _ W0.lst (fun e => hnin (by rw [List.mem_singleton.mp e]; exact .head _)), .nil, (fun _ z => nomatch z), rfl⟩
    refine for_range (lo := 0) (n := v.toNat) (fun i σ' H' => ∃ (o4 : Option V) (S : StD) (os : List (Option Dd)) (us : List V), σ' = [some (.ref a), some (.ref d), some (.ref st), some (.ref dl), o4, none, none, none, none, none, none, none] ∧ V17 K M d a st sm sd sc dl S i os us H') ⟨none, _, _, _, rfl, W4⟩ ?_ ?_
    · clear W0 W4 D4 k4
      rintro i σ' H5 hi ⟨o4, S, os, us, rfl, W5⟩
      have b1 := W5.bd.k
      have b2 := W5.bd.m
      have b3 := W5.bd.ds
      have b4 := W5.bd.cs
      have hus : us.length = i := by
        have := Paired.length W5.pr
        rw [List.length_map, W5.len] at this
        exact this.symm
      dsimp only [gName, List.set]
      refine ⟨_, rfl, .inl ⟨rfl, _, sq_of W5.lst⟩, _, rfl, _, rfl, M, d, a, st, sm, sd, sc, S, rfl, W5.dr, W5.sth, hMs, hdin, by omega, by omega, by omega, by omega, fun x hx => okN_layC (W5.bd.oc x hx), fun t S' dd H6 s6 h6 D6 k6 t6 => ?_⟩
      obtain ⟨hd6, W6⟩ := W5.deed hMd hnin (by omega) s6 h6 D6 k6 t6
      exact ⟨dl, us, .ref t, rfl, rfl, hd6, sz_lt (by omega), _, S', _, _, rfl, W6⟩
    · rintro σ' H5 ⟨o4, S, os, us, rfl, W5⟩
      have ok := W5.ok
      have hdl5 := W5.lst
      have pr5 := W5.pr
      have len12 : os.length ≤ 12 := by have := W5.len; omega
      clear W0 W4 D4 k4 W5 hMs hMdd hMd hM hnin hdin ndl1 dne hSt hn x2 D1
      refine ⟨Nat.zero_le _, fun ll hll => ?_⟩
      have x6 : Ex H5 (upd H5 ll (.lst [])) := Ex.new hll
      have hll6 : (upd H5 ll (.lst [])) ll = some (.lst (([] : List PySem.Str).map V.str)) := upd_same
      have hdl6 := x6 _ _ hdl5
      have pr6 : Paired (DsH (upd H5 ll (.lst []))) (os.map ptsOf) us := prd_imp (fun _ _ h => h.ex x6) pr5
      have ndl : dl ≠ ll := fun e => by rw [e, hll] at hdl5; cases hdl5
      generalize upd H5 ll (.lst []) = H6 at hll6 hdl6 pr6 ⊢
      clear hdl5 pr5 x6 hll
      have hus := Paired.length pr6
      rw [List.length_map] at hus
      dsimp only [gName, List.set]
      let ln : Option Dd → PySem.Str := fun o => lineP (ptsOf o)
      refine ⟨_, rfl, dl, rfl, ⟨_, sq_of hdl6⟩, for_list (K := K) (xs := us) (fun i σ' H' => (∃ (o6 o7 : Option V), σ' = [some (.ref a), some (.ref d), some (.ref st), some (.ref dl), o4, some (.ref ll), o6, o7, none, none, none, none]) ∧ (∀ b o, b ≠ ll → H6 b = some o → H' b = some o) ∧ H' ll = some (.lst (((os.take i).map ln).map V.str))) ⟨⟨none, none, rfl⟩, fun b o _ z => z, hll6⟩ (fun i σ' H' _ e => sq_of (e.2.1 _ _ ndl hdl6)) ?_ ?_⟩
      · rintro i u σ' H7 hu ⟨⟨o6, o7, rfl⟩, k7, hll7⟩
        obtain ⟨o, ho, hD6⟩ : ∃ o, os[i]? = some o ∧ DsH H6 (ptsOf o) u := by
          have lt := (List.getElem?_eq_some_iff.mp hu).1
          have e1 : (os.map ptsOf)[i]? = some (ptsOf os[i]) := by rw [List.getElem?_map, List.getElem?_eq_getElem (by omega)]; rfl
          obtain ⟨y, hy, hF⟩ := prd_get pr6 e1
          rw [hu] at hy
          cases hy
          exact ⟨_, List.getElem?_eq_getElem (by omega), hF⟩
        have ro := ok o (List.mem_of_getElem? ho)
        have tup7 : ∀ b xs, H6 b = some (.tup xs) → H7 b = some (.tup xs) := fun b xs z => k7 b _ (fun e => by rw [e, hll6] at z; cases z) z
        have hD7 := hD6.tup tup7
        obtain ⟨da, vs, rfl, hda, hpt⟩ := id hD7
        have hok := ptsOf_ok ro
        dsimp only [gName, List.set]
        refine q_asgJ (fun v H' => Ex H7 H' ∧ ∃ (pp : Addr) (pv : List V), v = .ref pp ∧ H' pp = some (.tup pv) ∧ Paired SpW (wordsP (ptsOf o)) pv) ?_ fun tail => ?_
        · rintro v H8 ⟨x8, pp, pv, rfl, hpp, hsp⟩
          dsimp only [List.set]
          have lsp := Paired.length hsp
          have lw := wordsP_len hok.2
          have ez : ((wordsP (ptsOf o)).zip pv).map (fun y => V.str y.1) = (wordsP (ptsOf o)).map V.str := by
            conv => rhs; rw [(Paired.zip2 hsp).1]
            rw [List.map_map]
            rfl
          have len9 : (((os.take i).map ln).map V.str).length < 100000 := by
            rw [List.length_map, List.length_map, List.length_take]
            omega
          refine q_app (xs := ((os.take i).map ln).map V.str) (l := ll) (v := .str (ln o)) (x8 _ _ hll7) (ev_var rfl) (ev_join ev_c (ez ▸ el_mT (K := K) (a := pp) (ys := (wordsP (ptsOf o)).zip pv) (c := (·.2)) (fun y => V.str y.1) (ev_var rfl) (SqT.of (by rw [← (Paired.zip2 hsp).2]; exact hpp)) (by rw [List.length_zip]; omega) fun k y hy H9 x9 H10 x10 Q q => ?_) (Nat.le_trans (wordsP_sum hok.2 hok.1) (by decide))) len9 fun H9 x9 => ?_
          · obtain ⟨hF, _⟩ := Paired.zip_get hsp hy
            rcases hF with e | ⟨n, hn, e1, e2⟩
            · exact ⟨_, by rw [e]; rfl, .inr ⟨y.1, rfl, q H10 (Ex.refl _)⟩⟩
            · refine ⟨_, by rw [e1]; rfl, .inl ⟨(n : Int), rfl, (by show Nat.log2 n < 1920; exact log2_small hn), ?_⟩⟩
              rw [← e2]
              exact q H10 (Ex.refl _)
          · have hll10 : (upd H9 ll (.lst (((os.take i).map ln).map V.str ++ [.str (ln o)]))) ll = some (.lst (((os.take (i + 1)).map ln).map V.str)) := by
              rw [upd_same, List.take_add_one, ho, List.map_append, List.map_append]; rfl
            have k10 : ∀ b u, b ≠ ll → H7 b = some u → (upd H9 ll (.lst (((os.take i).map ln).map V.str ++ [.str (ln o)]))) b = some u := fun b u n z => by rw [upd_ne n]; exact x9 _ _ (x8 _ _ z)
            have lst10 : (((os.take (i + 1)).map ln).map V.str) = ((os.take i).map ln).map V.str ++ [.str (ln o)] := by rw [List.take_add_one, ho, List.map_append, List.map_append]; rfl
            generalize upd H9 ll (.lst (((os.take i).map ln).map V.str ++ [.str (ln o)])) = H10 at hll10 k10 ⊢
            have hD10 : DsH H10 (ptsOf o) (.ref da) := hD7.tup fun b xs z => k10 b _ (fun e => by rw [e, hll7] at z; cases z) z
            obtain ⟨da', vs', e', hda10, hpt10⟩ := id hD10
            cases e'
            have evl : ∀ {σ : L2.St} {H'}, Ex H10 H' → σ[5]? = some (some (V.ref ll)) → Ev (tOp (rIxL K) (tVar 5) (tUn (rU fun i => .int (-i)) (tC (.int 1)))) σ H' (.str (ln o)) := fun x e => ev_op (y := .int (-1)) (ev_var e) (fun H1 e Q q => ⟨1, rfl, q H1 (Ex.refl _)⟩) (rv_ixL (SqL.of (x _ _ hll10)) (by rw [lst10]; exact ati_last _ _))
            have lok := line_ok ro
            obtain ⟨l1, l2, l3, w0, l4, l5⟩ := lok
            refine s_ifB (b := false) (et_or (a := false) (b := false) (et_test (ev_is (ev_neS (a := ln o) (b := ln o) (ev_call (ea_cons (ev_var rfl) ea_nil) fun H2 e2 Q q E => ⟨da, vs', ptsOf o, rfl, e2 _ _ hda10, prd_imp (fun _ _ h => h.ex e2) hpt10, hok.1, hok.2, q⟩) (evl (Ex.refl _) rfl)) (by simp))) fun _ => et_test (ev_opQ (P := fun v H => DsH H (ptsOf o) v) (ev_callSQ (ea_cons (evl (Ex.refl _) rfl) (ea_cons ev_c ea_nil)) fun H12 x12 Q q => ⟨ln o, 0, _, w0, rfl, l1, rfl, l2, l3, l4, l5, fun ps hps a' us' H13 x13 ha' hp' => ?_, fun k hk => ?_⟩) (ev_var rfl) fun v H12 x12 hv H13 x13 Q q => neD_same (dok_ds ro) (by decide) (dp_ds (hv.ex x13)) (dp_ds (hD10.ex (x12.trans x13))) (q H13 (Ex.refl _)))) (fun z => nomatch z) (fun _ H11 x11 => ?_)
            · have e2 : rdD (PySem.Txt.split (ln o) " ") = .ok (ptsOf o) := rdL_right ro
              rw [hps] at e2
              obtain rfl : ps = ptsOf o := by injection e2
              exact q (.ref a') H13 x13 ⟨a', us', rfl, ha', hp'⟩
            · have e2 : rdD (PySem.Txt.split (ln o) " ") = .ok (ptsOf o) := rdL_right ro
              rw [hk] at e2
              cases e2
            · exact ⟨⟨_, _, rfl⟩, fun b u n z => x11 _ _ (k10 b u n (k7 b u n z)), x11 _ _ hll10⟩
        · have sq7 := st_of (K := K) hda
          rcases head_cases o with ⟨b, r, hs, rfl⟩ | ⟨x0, l0, e0, hx0, nt⟩
          · obtain ⟨t, rfl, ht⟩ : ∃ t, vs = [.str "hear", .str b, .int r, .ref t] ∧ H7 t = some (.tup (hs.map V.str)) := by
              cases hpt with
              | cons p1 hpt => cases hpt with
                | cons p2 hpt => cases hpt with
                  | cons p3 hpt => cases hpt with
                    | cons p4 hpt =>
                      cases hpt
                      obtain ⟨t, e4, ht⟩ := p4
                      refine ⟨t, ?_, ht⟩
                      rw [show _ = _ from p1, show _ = _ from p2, show _ = _ from p3, e4]
            obtain ⟨n, hn, hn9⟩ := ro.2.1
            have sp3 : Paired SpW (wordsP (ptsOf (some (.hear b r hs)))) ([.str "hear", .str b, .int r] ++ hs.map V.str) := by
              have e : wordsP (ptsOf (some (.hear b r hs))) = [("hear" : PySem.Str), b, PySem.Str.ofString (toString r)] ++ hs := by
                show (["hear"] : List PySem.Str) ++ ([b] ++ ([PySem.Str.ofString (toString r)] ++ (hs ++ []))) = _
                rw [List.append_nil]
                rfl
              rw [e]
              exact prd_app (.cons (.inl rfl) (.cons (.inl rfl) (.cons (.inr ⟨n, hn9, by rw [hn], by rw [hn]⟩) .nil))) (spw_strs hs)
            refine (et_test (ev_neS (a := "hear") (b := "hear") (ev_op (ev_var rfl) ev_c (rv_ixT sq7 (at0 rfl))) ev_c)) _ (Ex.refl _) _ fun H8 x8 => ?_
            refine ite2 (fun z => absurd z (by decide +kernel)) (fun _ => ?_)
            refine ⟨_, rfl, 3, rfl, da, _, rfl, st_of (x8 _ _ hda), fun z => absurd z.2 (by show ¬ (HT.sIx 4 4 (some 3) = 4); decide), fun _ p3 hp3 => ?_⟩
            have x9 : Ex H8 (upd H8 p3 (.tup [.str "hear", .str b, .int r])) := Ex.new hp3
            have hp9 : (upd H8 p3 (.tup [.str "hear", .str b, .int r])) p3 = some (.tup [.str "hear", .str b, .int r]) := upd_same
            show tOp _ _ _ _ (upd H8 p3 (.tup [.str "hear", .str b, .int r])) _
            generalize upd H8 p3 (.tup [.str "hear", .str b, .int r]) = H9 at x9 hp9 ⊢
            have x79 := x8.trans x9
            refine (ev_op (x := .ref da) (y := .int 3) (z := .ref t) (ev_var rfl) ev_c (rv_ixT (st_of (x79 _ _ hda)) (by rfl))) _ (Ex.refl _) _ fun H10 x10 => ⟨p3, t, [.str "hear", .str b, .int r], hs.map V.str, rfl, rfl, st_of (x10 _ _ hp9), st_of (x10 _ _ (x79 _ _ ht)), (fun z => nomatch z), ?_, fun ez => ?_, fun _ p hp => ?_⟩
            · have := ro.2.2.1
              rw [List.length_map]
              exact sz_of (by show 3 + _ ≤ _; omega)
            · refine tail _ _ ⟨x79.trans x10, p3, [.str "hear", .str b, .int r] ++ hs.map V.str, rfl, ?_, sp3⟩
              rw [ez, List.append_nil]
              exact x10 _ _ hp9
            · exact tail _ _ ⟨(x79.trans x10).trans (Ex.new hp), p, _, rfl, upd_same, sp3⟩
          · obtain ⟨vs', rfl⟩ : ∃ vs', vs = .str x0 :: vs' := by
              rw [e0] at hpt
              cases hpt with
              | cons p1 hpt => exact ⟨_, by rw [show _ = _ from p1]⟩
            refine (et_test (ev_neS (a := x0) (b := "hear") (ev_op (ev_var rfl) ev_c (rv_ixT sq7 (at0 rfl))) ev_c)) _ (Ex.refl _) _ fun H8 x8 => ?_
            refine ite2 (fun _ => ⟨_, rfl, tail _ _ ⟨x8, da, _, rfl, x8 _ _ hda, spw_flat hpt fun p hp => ⟨hok.2 p hp, nt p hp⟩⟩⟩) (fun z => absurd (by rw [decide_eq_false hx0]; rfl) z)
      · rintro σ' H7 ⟨⟨o6, o7, rfl⟩, k7, hll7⟩
        have tup7 : ∀ b xs, H6 b = some (.tup xs) → H7 b = some (.tup xs) := fun b xs z => k7 b _ (fun e => by rw [e, hll6] at z; cases z) z
        have pr7 : Paired (DsH H7) (os.map ptsOf) us := prd_imp (fun _ _ h => h.tup tup7) pr6
        have hdl7 := k7 _ _ ndl hdl6
        rw [List.take_of_length_le (by omega)] at hll7
        have eln : os.map ln = (os.map ptsOf).map lineP := by rw [List.map_map]; rfl
        clear hll6 hdl6 pr6 k7 tup7
        dsimp only
        have evw : ∀ {σ : L2.St} {H'}, Ex H7 H' → σ[3]? = some (some (V.ref dl)) → Ev (tCall spWrite [] E0 (tCons (tVar 3) tNil)) σ H' (.str (textP (os.map ptsOf))) := fun x e => ev_call (ea_cons (ev_var e) ea_nil) fun H2 e2 Q q E => write_all (.inl ((x.trans e2) _ _ hdl7)) (prd_imp (fun _ _ h => h.ex (x.trans e2)) pr7) ok len12 q
        refine q_ifB (b := false) (et_or (a := false) (b := false) (et_test (ev_is (ev_neS (a := textP (os.map ptsOf)) (b := PySem.Txt.join "\n" (os.map ln)) (evw (Ex.refl _) rfl) (ev_joinS ev_c (ev_var rfl) hll7 ?_)) ?_)) fun _ => et_test (ev_opQQ (P := fun v H => AllH H (os.map ptsOf) v) (P2 := fun v H => AllH H (os.map ptsOf) v) (ev_callSQ (ea_cons (evw (Ex.refl _) rfl) ea_nil) fun H2 x2 Q q => read_all ok len12 q) (fun H8 x8 Q q => ⟨_, rfl, .inl ⟨dl, us, rfl, SqL.of (x8 _ _ hdl7), fun t ht => ?_⟩⟩) fun v u H2 H3 e2 pv e3 pu H4 e4 Q q => neD_same (dok_all ok) (by decide) (dp_all (pv.ex (e3.trans e4))) (dp_all (pu.ex e4)) (q H4 (Ex.refl _)))) (fun z => nomatch z) (fun _ H8 x8 => ?_)
        · rw [eln, show ("\n" : PySem.Str).length = 1 from rfl, Nat.mul_one]
          have h1 := sum_le' (ys := (os.map ptsOf).map lineP) (b := 17000) fun y hy => by
            obtain ⟨ps, hps, rfl⟩ := List.mem_map.mp hy
            obtain ⟨o, ho, rfl⟩ := List.mem_map.mp hps
            exact lineP_len (ptsOf_ok (ok o ho)).2 (ptsOf_ok (ok o ho)).1
          rw [List.length_map, List.length_map] at h1 ⊢
          omega
        · rw [eln]
          exact congrArg V.bl (by rw [show textP (os.map ptsOf) = PySem.Txt.join "\n" ((os.map ptsOf).map lineP) from rfl]; simp)
        · exact q _ _ (Ex.new ht) ⟨t, us, rfl, upd_same, prd_imp (fun _ _ h => h.ex (x8.trans (Ex.new ht))) pr7⟩
        · dsimp only [tNext]
          clear evw eln hll7 hdl7 pr7
          refine q_asgTs (xss := (wrongL.take 10).map wv) (ets2 (ets2 (ets2 (ets2 (ets2 (ets2 (ets2 (ets2 (ets2 (ets2 ets_nil)))))))))) (by decide +kernel) fun p1 vs1 H9 x9 h9 pr1 => ?_
          dsimp only [List.set]
          refine q_asgCatTs (xss0 := (wrongL.take 10).map wv) (xss := (wrongL.drop 10).map wv) (by rfl) h9 pr1 (by decide +kernel) (ets2 (ets2 (ets2 (ets2 (ets2 (ets2 (ets2 (ets2 ets_nil)))))))) (by decide +kernel) fun p2 vs2 H10 x10 h10 pr2 => ?_
          rw [wrong_take] at pr2
          dsimp only [List.set]
          clear pr1 h9 x9
          refine ⟨_, rfl, p2, rfl, ⟨_, sq_of h10⟩, for_list (K := K) (xs := vs2) (fun i σ' H' => (∃ (o9 o10 : Option V), σ' = [some (.ref a), some (.ref d), some (.ref st), some (.ref dl), o4, some (.ref ll), o6, o7, some (.ref p2), o9, o10, none]) ∧ Ex H10 H') ⟨⟨_, _, rfl⟩, Ex.refl _⟩ (fun i σ' H' _ e => sq_of (e.2 _ _ h10)) ?_ ?_⟩
          · rintro i u σ' H11 hu ⟨⟨o9, o10, rfl⟩, x11⟩
            obtain ⟨x, hx, t, rfl, ht⟩ : ∃ x ∈ wrongL, TpR H10 (wv x) u := by
              have l2 := Paired.length pr2
              rw [List.length_map] at l2
              have lt := (List.getElem?_eq_some_iff.mp hu).1
              have e1 : (wrongL.map wv)[i]? = some (wv (wrongL[i]'(by omega))) := by rw [List.getElem?_map, List.getElem?_eq_getElem (by omega)]; rfl
              obtain ⟨y, hy, hF⟩ := prd_get pr2 e1
              rw [hu] at hy
              cases hy
              exact ⟨_, List.getElem_mem _, hF⟩
            obtain ⟨w1, w2⟩ := wrong_len x hx
            refine ⟨t, wv x, rfl, st_of (x11 _ _ ht), rfl, _, _, rfl, _, _, rfl, rfl, ?_⟩
            dsimp only [List.set]
            refine s_ifB (b := false) (et_test (ev_opQQ (P := fun v H => TpR H [.int 1, .int (x.2 : Int)] v) (P2 := fun v H => TpR H [.int 1, .int (x.2 : Int)] v) (ev_callQ (ea_cons (ev_op (x := .str ("tick\n" ++ x.1)) (y := .str "\nrubbish") (z := .str (wrongT x.1)) (ev_op (x := .str "tick\n") (y := .str x.1) (z := .str ("tick\n" ++ x.1)) ev_c (ev_var rfl) fun H2 e Q q => ⟨_, _, rfl, rfl, w1, q H2 (Ex.refl _)⟩) ev_c fun H2 e Q q => ⟨_, _, rfl, rfl, w2, q H2 (Ex.refl _)⟩) ea_nil) fun H2 x2 Q q => fault_all hx fun t H' x' ht' => q _ H' x' ⟨t, rfl, ht'⟩) (ev_tupQ (ea_cons ev_c (ea_cons (ev_var rfl) ea_nil)) (by show 2 ≤ 1000; decide)) fun v u H2 H3 e2 pv e3 pu H4 e4 Q q => tpr_same (pv.ex (e3.trans e4)) (pu.ex e4) (q H4 (Ex.refl _)))) (fun z => nomatch z) (fun _ H12 x12 => ⟨⟨_, _, rfl⟩, x11.trans x12⟩)
          · rintro σ' H11 ⟨⟨o9, o10, rfl⟩, x11⟩
            dsimp only
            refine (ev_andV (a := true) (b := true) (ev_opQQ (P := fun v H => AllH H [] v) (P2 := fun v H => AllH H [] v) (ev_callSQ (ea_cons ev_c ea_nil) fun H2 x2 Q q => read_nil q) (fun H1 e Q q => ⟨Nat.zero_le _, fun t ht => q _ _ (Ex.new ht) ⟨t, [], rfl, upd_same, .nil⟩⟩) fun v u H2 H3 e2 pv e3 pu H4 e4 Q q => eqD_same (dok_all (os := []) (fun _ z => nomatch z)) (by decide) (dp_all (pv.ex (e3.trans e4))) (dp_all (pu.ex e4)) (q H4 (Ex.refl _))) fun _ => ev_is (ev_eqS (a := "") (b := "") (fun H1 e Q q => ⟨Nat.zero_le _, fun t ht => ⟨t, [], [], rfl, .inr upd_same, .nil, Nat.zero_le _, (fun _ z => nomatch z), fun H' x => by rw [text_nil]; exact q H' ((Ex.new ht).trans x)⟩⟩) ev_c) (by simp)) _ (Ex.refl _) _ fun H2 _ => q H2
end
end Mc
namespace Mc
open PySem L2 PySem.Spec PyProof.Rows
/-! ### an error of a class is what «except» of that class names -/
theorem exm_self {K : PySem.W.Frag} {S : Addr} (h1 : PySem.W.subIn K (.ref S) (.type "BaseException") = some true) (h2 : PySem.W.isClsIn K S = true) (h3 : PySem.W.typeIn K (.ref S) = some (.type "type")) (h4 : PySem.W.subIn K (.ref S) (.ref S) = some true) :
    PySem.W.exmOne K (.ref S) (.ref S) = some true := by
  have e1 : (PySem.W.subIn K (.ref S) (.type "BaseException") == some true) = true := by rw [h1] <;> rfl
  have e2 : ((PySem.W.clsIn K S).isSome && PySem.W.typeIn K (.ref S) == some (.type "type")) = true := by
    have h2' : (PySem.W.clsIn K S).isSome = true := h2
    rw [h2', h3] <;> rfl
  show (if (PySem.W.subIn K (.ref S) (.type "BaseException") == some true) = true then (if ((PySem.W.clsIn K S).isSome && PySem.W.typeIn K (.ref S) == some (.type "type")) = true then PySem.W.subIn K (.ref S) (.ref S) else none) else none) = some true
  rw [if_pos e1, if_pos e2]
  exact h4
theorem part_mk2 {K : PySem.W.Frag} {pa t : Addr} {x : PySem.Str} {its : Array Value} {n : Nat} {dd : Option Addr} {sl : Array (Option Value)} {xs : List V} (h1 : PySem.W.nsIn K pa x = some (some (.ref t))) (h2 : K.lookup t = some ⟨.type "tuple", dd, .seq its n, sl⟩) (h3 : Vals xs its.toList) (h9 : xs.length ≤ 9) :
    ∃ t : Addr, PySem.W.nsIn K pa x = some (some (.ref t)) ∧ ∀ H, SqT K H t xs :=
  ⟨t, h1, fun H => .inr ⟨_, its, n, h2, rfl, rfl, by
    have := h3.length
    have h : its.size = its.toList.length := Array.length_toList.symm
    rw [h, ← this]; exact Evl.sz_of (by omega), h3⟩⟩
theorem all_mk {l : PySem.W.OpenLaw} {w : World} {K : PySem.W.Frag} {h : Heap} {mg : PySem.Str → Option Value} {fa : Addr} (X : K.In h) (G : h.Ns mainGlobals mg) (hfa : mg "law" = some (.ref fa))
    {CB : Addr}
    {f_BadText_init : Addr} {od_BadText_init an_BadText_init : Option Addr} {sl_BadText_init : Array (Option Value)} {oc_BadText_init kV_BadText_init dc_BadText_init pm_BadText_init cd_BadText_init ct_BadText_init : Value}
    {f_is_name : Addr} {od_is_name an_is_name : Option Addr} {sl_is_name : Array (Option Value)} {oc_is_name kV_is_name dc_is_name pm_is_name cd_is_name ct_is_name : Value}
    {f_deed_line : Addr} {od_deed_line an_deed_line : Option Addr} {sl_deed_line : Array (Option Value)} {oc_deed_line kV_deed_line dc_deed_line pm_deed_line cd_deed_line ct_deed_line : Value}
    {f_read_deed : Addr} {od_read_deed an_read_deed : Option Addr} {sl_read_deed : Array (Option Value)} {oc_read_deed kV_read_deed dc_read_deed pm_read_deed cd_read_deed ct_read_deed : Value}
    {f_read_word : Addr} {od_read_word an_read_word : Option Addr} {sl_read_word : Array (Option Value)} {oc_read_word kV_read_word dc_read_word pm_read_word cd_read_word ct_read_word : Value}
    {f_read_masts : Addr} {od_read_masts an_read_masts : Option Addr} {sl_read_masts : Array (Option Value)} {oc_read_masts kV_read_masts dc_read_masts pm_read_masts cd_read_masts ct_read_masts : Value}
    {f_is_written_number : Addr} {od_is_written_number an_is_written_number : Option Addr} {sl_is_written_number : Array (Option Value)} {oc_is_written_number kV_is_written_number dc_is_written_number pm_is_written_number cd_is_written_number ct_is_written_number : Value}
    {f_write_deeds : Addr} {od_write_deeds an_write_deeds : Option Addr} {sl_write_deeds : Array (Option Value)} {oc_write_deeds kV_write_deeds dc_write_deeds pm_write_deeds cd_write_deeds ct_write_deeds : Value}
    {f_read_deeds : Addr} {od_read_deeds an_read_deeds : Option Addr} {sl_read_deeds : Array (Option Value)} {oc_read_deeds kV_read_deeds dc_read_deeds pm_read_deeds cd_read_deeds ct_read_deeds : Value}
    {f_law_number : Addr} {od_law_number an_law_number : Option Addr} {sl_law_number : Array (Option Value)} {oc_law_number kV_law_number dc_law_number pm_law_number cd_law_number ct_law_number : Value}
    {f_law_take : Addr} {od_law_take an_law_take : Option Addr} {sl_law_take : Array (Option Value)} {oc_law_take kV_law_take dc_law_take pm_law_take cd_law_take ct_law_take : Value}
    {f_law_pick : Addr} {od_law_pick an_law_pick : Option Addr} {sl_law_pick : Array (Option Value)} {oc_law_pick kV_law_pick dc_law_pick pm_law_pick cd_law_pick ct_law_pick : Value}
    {f_law_deed : Addr} {od_law_deed an_law_deed : Option Addr} {sl_law_deed : Array (Option Value)} {oc_law_deed kV_law_deed dc_law_deed pm_law_deed cd_law_deed ct_law_deed : Value}
    {f_law_state : Addr} {od_law_state an_law_state : Option Addr} {sl_law_state : Array (Option Value)} {oc_law_state kV_law_state dc_law_state pm_law_state cd_law_state ct_law_state : Value}
    {f_law_fault : Addr} {od_law_fault an_law_fault : Option Addr} {sl_law_fault : Array (Option Value)} {oc_law_fault kV_law_fault dc_law_fault pm_law_fault cd_law_fault ct_law_fault : Value}
    {f_law : Addr} {od_law an_law : Option Addr} {sl_law : Array (Option Value)} {oc_law kV_law dc_law pm_law cd_law ct_law : Value}
    {t_SMALL_LETTERS : Tok}
    {t_FIGURES : Tok}
    {t_LONGEST_NAME : Tok}
    {t_MOST_FIGURES : Tok}
    {pa : Addr} {es_PARTS : Array DictEntry} {dn_PARTS : Nat}
    {pt_mast : Addr} {pd_mast : Option Addr} {pi_mast : Array Value} {pn_mast : Nat} {ps_mast : Array (Option Value)}
    {pt_down : Addr} {pd_down : Option Addr} {pi_down : Array Value} {pn_down : Nat} {ps_down : Array (Option Value)}
    {pt_up : Addr} {pd_up : Option Addr} {pi_up : Array Value} {pn_up : Nat} {ps_up : Array (Option Value)}
    {pt_begin : Addr} {pd_begin : Option Addr} {pi_begin : Array Value} {pn_begin : Nat} {ps_begin : Array (Option Value)}
    {pt_hear : Addr} {pd_hear : Option Addr} {pi_hear : Array Value} {pn_hear : Nat} {ps_hear : Array (Option Value)}
    {pt_end : Addr} {pd_end : Option Addr} {pi_end : Array Value} {pn_end : Nat} {ps_end : Array (Option Value)}
    {pt_tick : Addr} {pd_tick : Option Addr} {pi_tick : Array Value} {pn_tick : Nat} {ps_tick : Array (Option Value)}
    (a_BadText : PySem.W.nsIn K mainGlobals "BadText" = some (some (.ref CB)))
    (a_BadText_init : PySem.W.findIn K (.ref CB) "__init__" = some (some (.ref f_BadText_init)))
    (i_BadText_init : PySem.W.isFn K (.ref f_BadText_init) = true)
    (l_BadText_init : K.lookup f_BadText_init = some ⟨oc_BadText_init, od_BadText_init, .func (PySem.W.fnOf "__init__" "BadText.__init__" (defArgs sBadText) (defBody sBadText) (defScope sBadText) .none kV_BadText_init dc_BadText_init pm_BadText_init an_BadText_init cd_BadText_init ct_BadText_init), sl_BadText_init⟩)
    (c_BadText_init : PySem.W.codeIn K cd_BadText_init "BadText.__init__" = true)
    (k_BadText_init : PySem.W.keepIn K (.ref f_BadText_init) = true)
    (xi_BadText : PySem.W.excInitIn K CB exT "Exception.__new__" = true)
    (xo_BadText : PySem.W.excOver K CB exT = true)
    (hd_BadText : PySem.W.hasDictIn K CB = true)
    (sa_BadText : PySem.W.findIn K (.ref CB) "__setattr__" = some (some (.builtin "object.__setattr__")))
    (sb_BadText : PySem.W.subIn K (.ref CB) (.type "BaseException") = some true)
    (ty_BadText : PySem.W.typeIn K (.ref CB) = some (.type "type"))
    (kc_BadText : PySem.W.keepIn K (.ref CB) = true)
    (ga_BadText : PySem.W.findIn K (.ref CB) "__getattribute__" = some (some (.builtin "BaseException.__getattribute__")))
    (gg_BadText : PySem.W.findIn K (.ref CB) "__getattr__" = some none)
    (ic_BadText : PySem.W.isClsIn K CB = true)
    (ss_BadText : PySem.W.subIn K (.ref CB) (.ref CB) = some true)
    (na_BadText_line : PySem.W.findIn K (.ref CB) "line" = some none)
    (na_BadText_word : PySem.W.findIn K (.ref CB) "word" = some none)
    (a_is_name : PySem.W.nsIn K mainGlobals "is_name" = some (some (.ref f_is_name)))
    (l_is_name : K.lookup f_is_name = some ⟨oc_is_name, od_is_name, .func (PySem.W.fnOf "is_name" "is_name" (defArgs sIsName) (defBody sIsName) (defScope sIsName) .none kV_is_name dc_is_name pm_is_name an_is_name cd_is_name ct_is_name), sl_is_name⟩)
    (c_is_name : PySem.W.codeIn K cd_is_name "is_name" = true)
    (k_is_name : PySem.W.keepIn K (.ref f_is_name) = true)
    (a_deed_line : PySem.W.nsIn K mainGlobals "deed_line" = some (some (.ref f_deed_line)))
    (l_deed_line : K.lookup f_deed_line = some ⟨oc_deed_line, od_deed_line, .func (PySem.W.fnOf "deed_line" "deed_line" (defArgs sDeedLine) (defBody sDeedLine) (defScope sDeedLine) .none kV_deed_line dc_deed_line pm_deed_line an_deed_line cd_deed_line ct_deed_line), sl_deed_line⟩)
    (c_deed_line : PySem.W.codeIn K cd_deed_line "deed_line" = true)
    (k_deed_line : PySem.W.keepIn K (.ref f_deed_line) = true)
    (a_read_deed : PySem.W.nsIn K mainGlobals "read_deed" = some (some (.ref f_read_deed)))
    (l_read_deed : K.lookup f_read_deed = some ⟨oc_read_deed, od_read_deed, .func (PySem.W.fnOf "read_deed" "read_deed" (defArgs sReadDeed) (defBody sReadDeed) (defScope sReadDeed) .none kV_read_deed dc_read_deed pm_read_deed an_read_deed cd_read_deed ct_read_deed), sl_read_deed⟩)
    (c_read_deed : PySem.W.codeIn K cd_read_deed "read_deed" = true)
    (k_read_deed : PySem.W.keepIn K (.ref f_read_deed) = true)
    (a_read_word : PySem.W.nsIn K mainGlobals "read_word" = some (some (.ref f_read_word)))
    (l_read_word : K.lookup f_read_word = some ⟨oc_read_word, od_read_word, .func (PySem.W.fnOf "read_word" "read_word" (defArgs sReadWord) (defBody sReadWord) (defScope sReadWord) .none kV_read_word dc_read_word pm_read_word an_read_word cd_read_word ct_read_word), sl_read_word⟩)
    (c_read_word : PySem.W.codeIn K cd_read_word "read_word" = true)
    (k_read_word : PySem.W.keepIn K (.ref f_read_word) = true)
    (a_read_masts : PySem.W.nsIn K mainGlobals "read_masts" = some (some (.ref f_read_masts)))
    (l_read_masts : K.lookup f_read_masts = some ⟨oc_read_masts, od_read_masts, .func (PySem.W.fnOf "read_masts" "read_masts" (defArgs sReadMasts) (defBody sReadMasts) (defScope sReadMasts) .none kV_read_masts dc_read_masts pm_read_masts an_read_masts cd_read_masts ct_read_masts), sl_read_masts⟩)
    (c_read_masts : PySem.W.codeIn K cd_read_masts "read_masts" = true)
    (k_read_masts : PySem.W.keepIn K (.ref f_read_masts) = true)
    (a_is_written_number : PySem.W.nsIn K mainGlobals "is_written_number" = some (some (.ref f_is_written_number)))
    (l_is_written_number : K.lookup f_is_written_number = some ⟨oc_is_written_number, od_is_written_number, .func (PySem.W.fnOf "is_written_number" "is_written_number" (defArgs sIsWritten) (defBody sIsWritten) (defScope sIsWritten) .none kV_is_written_number dc_is_written_number pm_is_written_number an_is_written_number cd_is_written_number ct_is_written_number), sl_is_written_number⟩)
    (c_is_written_number : PySem.W.codeIn K cd_is_written_number "is_written_number" = true)
    (k_is_written_number : PySem.W.keepIn K (.ref f_is_written_number) = true)
    (a_write_deeds : PySem.W.nsIn K mainGlobals "write_deeds" = some (some (.ref f_write_deeds)))
    (l_write_deeds : K.lookup f_write_deeds = some ⟨oc_write_deeds, od_write_deeds, .func (PySem.W.fnOf "write_deeds" "write_deeds" (defArgs sWriteDeeds) (defBody sWriteDeeds) (defScope sWriteDeeds) .none kV_write_deeds dc_write_deeds pm_write_deeds an_write_deeds cd_write_deeds ct_write_deeds), sl_write_deeds⟩)
    (c_write_deeds : PySem.W.codeIn K cd_write_deeds "write_deeds" = true)
    (k_write_deeds : PySem.W.keepIn K (.ref f_write_deeds) = true)
    (a_read_deeds : PySem.W.nsIn K mainGlobals "read_deeds" = some (some (.ref f_read_deeds)))
    (l_read_deeds : K.lookup f_read_deeds = some ⟨oc_read_deeds, od_read_deeds, .func (PySem.W.fnOf "read_deeds" "read_deeds" (defArgs sReadDeeds) (defBody sReadDeeds) (defScope sReadDeeds) .none kV_read_deeds dc_read_deeds pm_read_deeds an_read_deeds cd_read_deeds ct_read_deeds), sl_read_deeds⟩)
    (c_read_deeds : PySem.W.codeIn K cd_read_deeds "read_deeds" = true)
    (k_read_deeds : PySem.W.keepIn K (.ref f_read_deeds) = true)
    (a_law_number : PySem.W.nsIn K mainGlobals "_law_number" = some (some (.ref f_law_number)))
    (l_law_number : K.lookup f_law_number = some ⟨oc_law_number, od_law_number, .func (PySem.W.fnOf "_law_number" "_law_number" (defArgs sNum) (defBody sNum) (defScope sNum) .none kV_law_number dc_law_number pm_law_number an_law_number cd_law_number ct_law_number), sl_law_number⟩)
    (c_law_number : PySem.W.codeIn K cd_law_number "_law_number" = true)
    (k_law_number : PySem.W.keepIn K (.ref f_law_number) = true)
    (a_law_take : PySem.W.nsIn K mainGlobals "_law_take" = some (some (.ref f_law_take)))
    (l_law_take : K.lookup f_law_take = some ⟨oc_law_take, od_law_take, .func (PySem.W.fnOf "_law_take" "_law_take" (defArgs sTake) (defBody sTake) (defScope sTake) .none kV_law_take dc_law_take pm_law_take an_law_take cd_law_take ct_law_take), sl_law_take⟩)
    (c_law_take : PySem.W.codeIn K cd_law_take "_law_take" = true)
    (k_law_take : PySem.W.keepIn K (.ref f_law_take) = true)
    (a_law_pick : PySem.W.nsIn K mainGlobals "_law_pick" = some (some (.ref f_law_pick)))
    (l_law_pick : K.lookup f_law_pick = some ⟨oc_law_pick, od_law_pick, .func (PySem.W.fnOf "_law_pick" "_law_pick" (defArgs sPick) (defBody sPick) (defScope sPick) .none kV_law_pick dc_law_pick pm_law_pick an_law_pick cd_law_pick ct_law_pick), sl_law_pick⟩)
    (c_law_pick : PySem.W.codeIn K cd_law_pick "_law_pick" = true)
    (k_law_pick : PySem.W.keepIn K (.ref f_law_pick) = true)
    (a_law_deed : PySem.W.nsIn K mainGlobals "_law_deed" = some (some (.ref f_law_deed)))
    (l_law_deed : K.lookup f_law_deed = some ⟨oc_law_deed, od_law_deed, .func (PySem.W.fnOf "_law_deed" "_law_deed" (defArgs sLDeed) (defBody sLDeed) (defScope sLDeed) .none kV_law_deed dc_law_deed pm_law_deed an_law_deed cd_law_deed ct_law_deed), sl_law_deed⟩)
    (c_law_deed : PySem.W.codeIn K cd_law_deed "_law_deed" = true)
    (k_law_deed : PySem.W.keepIn K (.ref f_law_deed) = true)
    (a_law_state : PySem.W.nsIn K mainGlobals "_law_state" = some (some (.ref f_law_state)))
    (l_law_state : K.lookup f_law_state = some ⟨oc_law_state, od_law_state, .func (PySem.W.fnOf "_law_state" "_law_state" (defArgs sLState) (defBody sLState) (defScope sLState) .none kV_law_state dc_law_state pm_law_state an_law_state cd_law_state ct_law_state), sl_law_state⟩)
    (c_law_state : PySem.W.codeIn K cd_law_state "_law_state" = true)
    (k_law_state : PySem.W.keepIn K (.ref f_law_state) = true)
    (a_law_fault : PySem.W.nsIn K mainGlobals "_law_fault" = some (some (.ref f_law_fault)))
    (l_law_fault : K.lookup f_law_fault = some ⟨oc_law_fault, od_law_fault, .func (PySem.W.fnOf "_law_fault" "_law_fault" (defArgs sFaultT) (defBody sFaultT) (defScope sFaultT) .none kV_law_fault dc_law_fault pm_law_fault an_law_fault cd_law_fault ct_law_fault), sl_law_fault⟩)
    (c_law_fault : PySem.W.codeIn K cd_law_fault "_law_fault" = true)
    (k_law_fault : PySem.W.keepIn K (.ref f_law_fault) = true)
    (a_law : PySem.W.nsIn K mainGlobals "law" = some (some (.ref f_law)))
    (l_law : K.lookup f_law = some ⟨oc_law, od_law, .func (PySem.W.fnOf "law" "law" (defArgs s_law) (defBody s_law) (defScope s_law) .none kV_law dc_law pm_law an_law cd_law ct_law), sl_law⟩)
    (c_law : PySem.W.codeIn K cd_law "law" = true)
    (k_law : PySem.W.keepIn K (.ref f_law) = true)
    (a_SMALL_LETTERS : PySem.W.nsIn K mainGlobals "SMALL_LETTERS" = some (some (.str letters t_SMALL_LETTERS)))
    (a_FIGURES : PySem.W.nsIn K mainGlobals "FIGURES" = some (some (.str figures t_FIGURES)))
    (a_LONGEST_NAME : PySem.W.nsIn K mainGlobals "LONGEST_NAME" = some (some (.int 8 t_LONGEST_NAME)))
    (a_MOST_FIGURES : PySem.W.nsIn K mainGlobals "MOST_FIGURES" = some (some (.int 12 t_MOST_FIGURES)))
    (z_len : PySem.W.nsIn K mainGlobals "len" = some none)
    (z_int : PySem.W.nsIn K mainGlobals "int" = some none)
    (z_abs : PySem.W.nsIn K mainGlobals "abs" = some none)
    (z_all : PySem.W.nsIn K mainGlobals "all" = some none)
    (z_bool : PySem.W.nsIn K mainGlobals "bool" = some none)
    (z_str : PySem.W.nsIn K mainGlobals "str" = some none)
    (z_tuple : PySem.W.nsIn K mainGlobals "tuple" = some none)
    (z_range : PySem.W.nsIn K mainGlobals "range" = some none)
    (z_isinstance : PySem.W.nsIn K mainGlobals "isinstance" = some none)
    (a_PARTS : PySem.W.nsIn K mainGlobals "PARTS" = some (some (.ref pa)))
    (l_PARTS : K.lookup pa = some ⟨.type "dict", none, .dict es_PARTS dn_PARTS, #[]⟩)
    (kl_PARTS : PySem.W.KeysLit w.params es_PARTS.toList)
    (sm_PARTS : (pa == sysModules) = false)
    (wx_ : PySem.W.nsIn K pa "" = some none)
    (wx_masst : PySem.W.nsIn K pa "masst" = some none)
    (wx_rubbish : PySem.W.nsIn K pa "rubbish" = some none)
    (wn_mast : PySem.W.nsIn K pa "mast" = some (some (.ref pt_mast)))
    (wl_mast : K.lookup pt_mast = some ⟨.type "tuple", pd_mast, .seq pi_mast pn_mast, ps_mast⟩)
    (wv_mast : Vals [.str "name", .str "number"] pi_mast.toList)
    (wn_down : PySem.W.nsIn K pa "down" = some (some (.ref pt_down)))
    (wl_down : K.lookup pt_down = some ⟨.type "tuple", pd_down, .seq pi_down pn_down, ps_down⟩)
    (wv_down : Vals [.str "name"] pi_down.toList)
    (wn_up : PySem.W.nsIn K pa "up" = some (some (.ref pt_up)))
    (wl_up : K.lookup pt_up = some ⟨.type "tuple", pd_up, .seq pi_up pn_up, ps_up⟩)
    (wv_up : Vals [.str "name"] pi_up.toList)
    (wn_begin : PySem.W.nsIn K pa "begin" = some (some (.ref pt_begin)))
    (wl_begin : K.lookup pt_begin = some ⟨.type "tuple", pd_begin, .seq pi_begin pn_begin, ps_begin⟩)
    (wv_begin : Vals [.str "name", .str "number"] pi_begin.toList)
    (wn_hear : PySem.W.nsIn K pa "hear" = some (some (.ref pt_hear)))
    (wl_hear : K.lookup pt_hear = some ⟨.type "tuple", pd_hear, .seq pi_hear pn_hear, ps_hear⟩)
    (wv_hear : Vals [.str "name", .str "number", .str "masts"] pi_hear.toList)
    (wn_end : PySem.W.nsIn K pa "end" = some (some (.ref pt_end)))
    (wl_end : K.lookup pt_end = some ⟨.type "tuple", pd_end, .seq pi_end pn_end, ps_end⟩)
    (wv_end : Vals [.str "name"] pi_end.toList)
    (wn_tick : PySem.W.nsIn K pa "tick" = some (some (.ref pt_tick)))
    (wl_tick : K.lookup pt_tick = some ⟨.type "tuple", pd_tick, .seq pi_tick pn_tick, ps_tick⟩)
    (wv_tick : Vals [] pi_tick.toList) :
    ∃ fd : FuncData, (∀ (s : Shared) (v : Value), BindsTo s fd ⟨[v], []⟩ [("script", v)]) ∧ ∀ base : Heap, K.In base → base.Ns mainGlobals mg → FnOk l.prog w K mg base CX0 9 fa fd ["script"] (spLaw K) := by
  have e := hfa.symm.trans (PySem.W.mg_of X G a_law)
  cases e
  have F_BadText_init := fun_mk (st := sBadText) l_BadText_init c_BadText_init k_BadText_init
  have b_BadText_init := F_BadText_init.binds (ps := ["self", "line", "word"]) fun _ _ _ _ _ _ us hl => match us, hl with | [_, _, _], _ => rfl
  have g_BadText := PySem.W.mg_of X G a_BadText
  have O_BadText : OexB K CB := ⟨xi_BadText, xo_BadText, hd_BadText, sa_BadText, sb_BadText, ty_BadText, kc_BadText⟩
  have xf_BadText : XfC K CB := ⟨ga_BadText, gg_BadText, sb_BadText, hd_BadText⟩
  have te_BadText := exm_self sb_BadText ic_BadText ty_BadText ss_BadText
  have F_is_name := fun_mk (st := sIsName) l_is_name c_is_name k_is_name
  have b_is_name := F_is_name.binds (ps := ["thing"]) fun _ _ _ _ _ _ us hl => match us, hl with | [_], _ => rfl
  have g_is_name := PySem.W.mg_of X G a_is_name
  have F_deed_line := fun_mk (st := sDeedLine) l_deed_line c_deed_line k_deed_line
  have b_deed_line := F_deed_line.binds (ps := ["deed"]) fun _ _ _ _ _ _ us hl => match us, hl with | [_], _ => rfl
  have g_deed_line := PySem.W.mg_of X G a_deed_line
  have F_read_deed := fun_mk (st := sReadDeed) l_read_deed c_read_deed k_read_deed
  have b_read_deed := F_read_deed.binds (ps := ["text", "line"]) fun _ _ _ _ _ _ us hl => match us, hl with | [_, _], _ => rfl
  have g_read_deed := PySem.W.mg_of X G a_read_deed
  have F_read_word := fun_mk (st := sReadWord) l_read_word c_read_word k_read_word
  have b_read_word := F_read_word.binds (ps := ["words", "at", "kind", "line"]) fun _ _ _ _ _ _ us hl => match us, hl with | [_, _, _, _], _ => rfl
  have g_read_word := PySem.W.mg_of X G a_read_word
  have F_read_masts := fun_mk (st := sReadMasts) l_read_masts c_read_masts k_read_masts
  have b_read_masts := F_read_masts.binds (ps := ["words", "first", "line"]) fun _ _ _ _ _ _ us hl => match us, hl with | [_, _, _], _ => rfl
  have g_read_masts := PySem.W.mg_of X G a_read_masts
  have F_is_written_number := fun_mk (st := sIsWritten) l_is_written_number c_is_written_number k_is_written_number
  have b_is_written_number := F_is_written_number.binds (ps := ["word"]) fun _ _ _ _ _ _ us hl => match us, hl with | [_], _ => rfl
  have g_is_written_number := PySem.W.mg_of X G a_is_written_number
  have F_write_deeds := fun_mk (st := sWriteDeeds) l_write_deeds c_write_deeds k_write_deeds
  have b_write_deeds := F_write_deeds.binds (ps := ["deeds"]) fun _ _ _ _ _ _ us hl => match us, hl with | [_], _ => rfl
  have g_write_deeds := PySem.W.mg_of X G a_write_deeds
  have F_read_deeds := fun_mk (st := sReadDeeds) l_read_deeds c_read_deeds k_read_deeds
  have b_read_deeds := F_read_deeds.binds (ps := ["text"]) fun _ _ _ _ _ _ us hl => match us, hl with | [_], _ => rfl
  have g_read_deeds := PySem.W.mg_of X G a_read_deeds
  have F_law_number := fun_mk (st := sNum) l_law_number c_law_number k_law_number
  have b_law_number := F_law_number.binds (ps := ["script", "index"]) fun _ _ _ _ _ _ us hl => match us, hl with | [_, _], _ => rfl
  have g_law_number := PySem.W.mg_of X G a_law_number
  have F_law_take := fun_mk (st := sTake) l_law_take c_law_take k_law_take
  have b_law_take := F_law_take.binds (ps := ["draw", "many"]) fun _ _ _ _ _ _ us hl => match us, hl with | [_, _], _ => rfl
  have g_law_take := PySem.W.mg_of X G a_law_take
  have F_law_pick := fun_mk (st := sPick) l_law_pick c_law_pick k_law_pick
  have b_law_pick := F_law_pick.binds (ps := ["draw", "items"]) fun _ _ _ _ _ _ us hl => match us, hl with | [_, _], _ => rfl
  have g_law_pick := PySem.W.mg_of X G a_law_pick
  have F_law_deed := fun_mk (st := sLDeed) l_law_deed c_law_deed k_law_deed
  have b_law_deed := F_law_deed.binds (ps := ["draw", "state"]) fun _ _ _ _ _ _ us hl => match us, hl with | [_, _], _ => rfl
  have g_law_deed := PySem.W.mg_of X G a_law_deed
  have F_law_state := fun_mk (st := sLState) l_law_state c_law_state k_law_state
  have b_law_state := F_law_state.binds (ps := []) fun _ _ _ _ _ _ us hl => match us, hl with | [], _ => rfl
  have g_law_state := PySem.W.mg_of X G a_law_state
  have F_law_fault := fun_mk (st := sFaultT) l_law_fault c_law_fault k_law_fault
  have b_law_fault := F_law_fault.binds (ps := ["text"]) fun _ _ _ _ _ _ us hl => match us, hl with | [_], _ => rfl
  have g_law_fault := PySem.W.mg_of X G a_law_fault
  have F_law := fun_mk (st := s_law) l_law c_law k_law
  have g_SMALL_LETTERS := PySem.W.mg_of X G a_SMALL_LETTERS
  have g_FIGURES := PySem.W.mg_of X G a_FIGURES
  have g_LONGEST_NAME := PySem.W.mg_of X G a_LONGEST_NAME
  have g_MOST_FIGURES := PySem.W.mg_of X G a_MOST_FIGURES
  have n_len := PySem.W.mg_none_of X G z_len
  have n_int := PySem.W.mg_none_of X G z_int
  have n_abs := PySem.W.mg_none_of X G z_abs
  have n_all := PySem.W.mg_none_of X G z_all
  have n_bool := PySem.W.mg_none_of X G z_bool
  have n_str := PySem.W.mg_none_of X G z_str
  have n_tuple := PySem.W.mg_none_of X G z_tuple
  have n_range := PySem.W.mg_none_of X G z_range
  have n_isinstance := PySem.W.mg_none_of X G z_isinstance
  have g_PARTS := PySem.W.mg_of X G a_PARTS
  have D_PARTS : KDict K w pa es_PARTS dn_PARTS := ⟨l_PARTS, kl_PARTS, sm_PARTS⟩
  refine ⟨PySem.W.fnOf "law" "law" (defArgs s_law) (defBody s_law) (defScope s_law) .none kV_law dc_law pm_law an_law cd_law ct_law, fun s v => .of_eq rfl, fun base _ _ => ?_⟩
  have TD : TxD K mg f_law_number f_law_take := ⟨n_len, n_int, n_abs, g_law_number, g_law_take⟩
  have TN : TxN mg := ⟨n_isinstance, n_int, n_bool, n_str, n_len, n_all, ⟨_, g_SMALL_LETTERS⟩, ⟨_, g_FIGURES⟩, ⟨_, g_LONGEST_NAME⟩⟩
  have TBt : TxBt mg := ⟨n_len, n_all, n_int, n_str, n_tuple, n_range, n_isinstance, ⟨_, g_FIGURES⟩, ⟨_, g_MOST_FIGURES⟩⟩
  have TBd2 : TxBd K mg CB := ⟨O_BadText, g_BadText, na_BadText_line, na_BadText_word⟩
  have cB : CalB2 l.prog w K mg base CB := ⟨_, _, a_BadText_init, i_BadText_init, b_BadText_init, ok_badtext F_BadText_init TBd2⟩
  have TPa : PartsX K w mg pa es_PARTS dn_PARTS := by
    refine ⟨g_PARTS, D_PARTS, ?_, ?_⟩
    · exact List.forall_mem_cons.mpr ⟨part_mk2 wn_mast wl_mast wv_mast (by decide), List.forall_mem_cons.mpr ⟨part_mk2 wn_down wl_down wv_down (by decide), List.forall_mem_cons.mpr ⟨part_mk2 wn_up wl_up wv_up (by decide), List.forall_mem_cons.mpr ⟨part_mk2 wn_begin wl_begin wv_begin (by decide), List.forall_mem_cons.mpr ⟨part_mk2 wn_hear wl_hear wv_hear (by decide), List.forall_mem_cons.mpr ⟨part_mk2 wn_end wl_end wv_end (by decide), List.forall_mem_cons.mpr ⟨part_mk2 wn_tick wl_tick wv_tick (by decide), (fun _ z => nomatch z)⟩⟩⟩⟩⟩⟩⟩
    · exact List.forall_mem_cons.mpr ⟨wx_, List.forall_mem_cons.mpr ⟨wx_masst, List.forall_mem_cons.mpr ⟨wx_rubbish, (fun _ z => nomatch z)⟩⟩⟩
  have c_take : Cal l.prog w K mg base 2 "_law_take" ["draw", "many"] (spTake K) := ⟨_, _, g_law_take, F_law_take.kp, b_law_take, ok_take F_law_take TD F_law_number b_law_number⟩
  have c_pick : Cal l.prog w K mg base 3 "_law_pick" ["draw", "items"] (spPick K) := ⟨_, _, g_law_pick, F_law_pick.kp, b_law_pick, ok_pick F_law_pick TD F_law_number b_law_number F_law_take b_law_take⟩
  have c_name : Cal l.prog w K mg base 1 "is_name" ["thing"] (spNameV) := ⟨_, _, g_is_name, F_is_name.kp, b_is_name, ok_nameV F_is_name TN⟩
  have c_wr : Cal l.prog w K mg base 1 "is_written_number" ["word"] (spWritten) := ⟨_, _, g_is_written_number, F_is_written_number.kp, b_is_written_number, ok_written F_is_written_number TBt⟩
  have c_rw : CalX l.prog w K mg base 4 "read_word" ["words", "at", "kind", "line"] (spRdW CB) := ⟨_, _, g_read_word, F_read_word.kp, b_read_word, ok_readword F_read_word TBt TBd2 cB c_name c_wr⟩
  have c_rm : CalX l.prog w K mg base 5 "read_masts" ["words", "first", "line"] (spRdMs CB) := ⟨_, _, g_read_masts, F_read_masts.kp, b_read_masts, ok_readmasts F_read_masts TBt c_rw⟩
  have c_rd : CalX l.prog w K mg base 6 "read_deed" ["text", "line"] (spRdD CB) := ⟨_, _, g_read_deed, F_read_deed.kp, b_read_deed, ok_readdeed F_read_deed TBt TPa TBd2 cB c_rw c_rm⟩
  have c_dl : Cal l.prog w K mg base 1 "deed_line" ["deed"] (spLine) := ⟨_, _, g_deed_line, F_deed_line.kp, b_deed_line, ok_deedline F_deed_line TBt⟩
  have c_wd : Cal l.prog w K mg base 2 "write_deeds" ["deeds"] (spWrite) := ⟨_, _, g_write_deeds, F_write_deeds.kp, b_write_deeds, ok_writedeeds F_write_deeds TBt c_dl⟩
  have c_rds : CalX l.prog w K mg base 7 "read_deeds" ["text"] (spRdDs CB) := ⟨_, _, g_read_deeds, F_read_deeds.kp, b_read_deeds, ok_readdeeds F_read_deeds TBt c_rd⟩
  have c_ld : Cal l.prog w K mg base 4 "_law_deed" ["draw", "state"] (spLDeed K) := ⟨_, _, g_law_deed, F_law_deed.kp, b_law_deed, ok_ldeed F_law_deed ⟨n_str, n_len, n_tuple⟩ c_take c_pick⟩
  have c_st : Cal l.prog w K mg base 1 "_law_state" [] (spLState) := ⟨_, _, g_law_state, F_law_state.kp, b_law_state, ok_lstate F_law_state⟩
  have c_ft : Cal l.prog w K mg base 8 "_law_fault" ["text"] (spFaultT) := ⟨_, _, g_law_fault, F_law_fault.kp, b_law_fault, ok_faultT F_law_fault ⟨g_BadText, xf_BadText, na_BadText_line, na_BadText_word, te_BadText⟩ c_rds⟩
  exact ok_law F_law TBt c_take c_st c_ld c_dl c_rd c_wd c_rds c_ft
theorem walk {l : PySem.W.OpenLaw} {q : Program} {loose : List PySem.Str} {XP : (PySem.Str → Option Value) → Heap → Prop} {YP : World → Heap → Prop} {d : DefRec} {K : Params → PySem.W.Frag} (hn : l.most = some 63) (hdf : d.params.defaults = [])
    (hY : ∀ (w : World) (h : Heap), YP w h → (K w.params).In h)
    (F : ∀ (w : World) (mg : PySem.Str → Option Value) (fa : Addr) (h : Heap), (K w.params).In h → h.Ns mainGlobals mg → mg d.name = some (.ref fa) →
      ∃ fd : FuncData, (∀ (s : Shared) (u : Value), BindsTo s fd ⟨[u], []⟩ [("script", u)]) ∧ ∀ base : Heap, (K w.params).In base → base.Ns mainGlobals mg → FnOk l.prog w (K w.params) mg base CX0 9 fa fd ["script"] (spLaw (K w.params))) :
    PySem.W.WalkO q loose XP YP l.row.toRowW d [] (fun f vs => PySem.call f vs) :=
  L2.walk_of (n := 63) (k := 9) (x := "script") (CX := fun _ => CX0) (sp := fun w => spLaw (K w.params)) hn (by decide) hdf ⟨rfl, by decide, by decide⟩ hY F (fun _ _ a ns hl _ hS => ⟨a, ns, rfl, hS, hl, fun _ => rfl⟩) fun _ _ _ _ _ z => z
end Mc
open PySem PySem.W PyProof.Rows
set_option maxRecDepth 100000 in
set_option maxHeartbeats 0 in
theorem PySem.Challenge.cw_mastcalls_k17_whole_deed_texts_holds : PySem.Challenge.rw_mastcalls_k17_whole_deed_texts.Holds := by
  w_on; o_law; k_head; (case hw => w_witness2)
  k_fill
  refine Mc.walk (l := PySem.Challenge.rw_mastcalls_k17_whole_deed_texts) rfl rfl (fun w h Y => PySem.W.kIn_of Y) ?F
  case F =>
    intro w mg fa h KX G hmg
    refine' Mc.all_mk KX G hmg ?a_BadText ?a_BadText_init ?i_BadText_init ?l_BadText_init ?c_BadText_init ?k_BadText_init ?xi_BadText ?xo_BadText ?hd_BadText ?sa_BadText ?sb_BadText ?ty_BadText ?kc_BadText ?ga_BadText ?gg_BadText ?ic_BadText ?ss_BadText ?na_BadText_line ?na_BadText_word ?a_is_name ?l_is_name ?c_is_name ?k_is_name ?a_deed_line ?l_deed_line ?c_deed_line ?k_deed_line ?a_read_deed ?l_read_deed ?c_read_deed ?k_read_deed ?a_read_word ?l_read_word ?c_read_word ?k_read_word ?a_read_masts ?l_read_masts ?c_read_masts ?k_read_masts ?a_is_written_number ?l_is_written_number ?c_is_written_number ?k_is_written_number ?a_write_deeds ?l_write_deeds ?c_write_deeds ?k_write_deeds ?a_read_deeds ?l_read_deeds ?c_read_deeds ?k_read_deeds ?a_law_number ?l_law_number ?c_law_number ?k_law_number ?a_law_take ?l_law_take ?c_law_take ?k_law_take ?a_law_pick ?l_law_pick ?c_law_pick ?k_law_pick ?a_law_deed ?l_law_deed ?c_law_deed ?k_law_deed ?a_law_state ?l_law_state ?c_law_state ?k_law_state ?a_law_fault ?l_law_fault ?c_law_fault ?k_law_fault ?a_law ?l_law ?c_law ?k_law ?a_SMALL_LETTERS ?a_FIGURES ?a_LONGEST_NAME ?a_MOST_FIGURES ?z_len ?z_int ?z_abs ?z_all ?z_bool ?z_str ?z_tuple ?z_range ?z_isinstance ?a_PARTS ?l_PARTS ?kl_PARTS ?sm_PARTS ?wx_ ?wx_masst ?wx_rubbish ?wn_mast ?wl_mast ?wv_mast ?wn_down ?wl_down ?wv_down ?wn_up ?wl_up ?wv_up ?wn_begin ?wl_begin ?wv_begin ?wn_hear ?wl_hear ?wv_hear ?wn_end ?wl_end ?wv_end ?wn_tick ?wl_tick ?wv_tick
    (case a_BadText => k_is)
    (case a_BadText_init => k_is)
    (case i_BadText_init => k_is)
    (case l_BadText_init => k_is)
    (case c_BadText_init => k_is)
    (case k_BadText_init => k_is)
    (case xi_BadText => first | k_is | rfl | decide +kernel)
    (case xo_BadText => first | k_is | rfl | decide +kernel)
    (case hd_BadText => k_is)
    (case sa_BadText => k_is)
    (case sb_BadText => k_is)
    (case ty_BadText => k_is)
    (case kc_BadText => k_is)
    (case ga_BadText => k_is)
    (case gg_BadText => k_is)
    (case ic_BadText => k_is)
    (case ss_BadText => first | rfl | k_is)
    (case na_BadText_line => k_is)
    (case na_BadText_word => k_is)
    (case a_is_name => k_is)
    (case l_is_name => k_is)
    (case c_is_name => k_is)
    (case k_is_name => k_is)
    (case a_deed_line => k_is)
    (case l_deed_line => k_is)
    (case c_deed_line => k_is)
    (case k_deed_line => k_is)
    (case a_read_deed => k_is)
    (case l_read_deed => k_is)
    (case c_read_deed => k_is)
    (case k_read_deed => k_is)
    (case a_read_word => k_is)
    (case l_read_word => k_is)
    (case c_read_word => k_is)
    (case k_read_word => k_is)
    (case a_read_masts => k_is)
    (case l_read_masts => k_is)
    (case c_read_masts => k_is)
    (case k_read_masts => k_is)
    (case a_is_written_number => k_is)
    (case l_is_written_number => k_is)
    (case c_is_written_number => k_is)
    (case k_is_written_number => k_is)
    (case a_write_deeds => k_is)
    (case l_write_deeds => k_is)
    (case c_write_deeds => k_is)
    (case k_write_deeds => k_is)
    (case a_read_deeds => k_is)
    (case l_read_deeds => k_is)
    (case c_read_deeds => k_is)
    (case k_read_deeds => k_is)
    (case a_law_number => k_is)
    (case l_law_number => k_is)
    (case c_law_number => k_is)
    (case k_law_number => k_is)
    (case a_law_take => k_is)
    (case l_law_take => k_is)
    (case c_law_take => k_is)
    (case k_law_take => k_is)
    (case a_law_pick => k_is)
    (case l_law_pick => k_is)
    (case c_law_pick => k_is)
    (case k_law_pick => k_is)
    (case a_law_deed => k_is)
    (case l_law_deed => k_is)
    (case c_law_deed => k_is)
    (case k_law_deed => k_is)
    (case a_law_state => k_is)
    (case l_law_state => k_is)
    (case c_law_state => k_is)
    (case k_law_state => k_is)
    (case a_law_fault => k_is)
    (case l_law_fault => k_is)
    (case c_law_fault => k_is)
    (case k_law_fault => k_is)
    (case a_law => k_is)
    (case l_law => k_is)
    (case c_law => k_is)
    (case k_law => k_is)
    (case a_SMALL_LETTERS => k_is)
    (case a_FIGURES => k_is)
    (case a_LONGEST_NAME => k_is)
    (case a_MOST_FIGURES => k_is)
    (case z_len => k_is)
    (case z_int => k_is)
    (case z_abs => k_is)
    (case z_all => k_is)
    (case z_bool => k_is)
    (case z_str => k_is)
    (case z_tuple => k_is)
    (case z_range => k_is)
    (case z_isinstance => k_is)
    (case a_PARTS => k_is)
    (case l_PARTS => k_is)
    (case kl_PARTS => repeat (first | exact trivial | refine ⟨⟨_, _, rfl, rfl⟩, ?_⟩))
    (case sm_PARTS => first | rfl | decide)
    (case wx_ => k_is)
    (case wx_masst => k_is)
    (case wx_rubbish => k_is)
    (case wn_mast => k_is)
    (case wl_mast => k_is)
    (case wv_mast => repeat (first | exact .nil | refine .cons ⟨_, rfl⟩ ?_))
    (case wn_down => k_is)
    (case wl_down => k_is)
    (case wv_down => repeat (first | exact .nil | refine .cons ⟨_, rfl⟩ ?_))
    (case wn_up => k_is)
    (case wl_up => k_is)
    (case wv_up => repeat (first | exact .nil | refine .cons ⟨_, rfl⟩ ?_))
    (case wn_begin => k_is)
    (case wl_begin => k_is)
    (case wv_begin => repeat (first | exact .nil | refine .cons ⟨_, rfl⟩ ?_))
    (case wn_hear => k_is)
    (case wl_hear => k_is)
    (case wv_hear => repeat (first | exact .nil | refine .cons ⟨_, rfl⟩ ?_))
    (case wn_end => k_is)
    (case wl_end => k_is)
    (case wv_end => repeat (first | exact .nil | refine .cons ⟨_, rfl⟩ ?_))
    (case wn_tick => k_is)
    (case wl_tick => k_is)
    (case wv_tick => repeat (first | exact .nil | refine .cons ⟨_, rfl⟩ ?_))
